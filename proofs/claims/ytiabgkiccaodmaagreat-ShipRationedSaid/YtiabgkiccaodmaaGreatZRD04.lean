/- CE: the canonical machine again, its cases in small pieces: the kernel evaluates it quicker. -/
import Derived.Test.YtiabgkiccaodmaaGreatZRD03
set_option linter.all false
namespace Go.CE
open Go Go.RowKit

def Q4e (P:Program) (t:TypeId) (H:Qau) (n:Nat):Option CR:=match zeroOf P t with
 | some z=> bif af z then some ⟨.val (Q4r n),(n,.cells z.cells t (0,0))::H,n+1,[],[]⟩ else none
 | none=> none
def Q7L (t:TypeId) (x:Option Value) (H:Qau) (n:Nat):Option CR:=match x with
 | some v=> some ⟨.val (Q4r n),(n,.cells v.cells t (0,0))::H,n+1,[],[]⟩
 | none=> none
def Q3S (P:Program) (t:TypeId) (l:Option (List (Nat×Value))) (H:Qau) (n:Nat):Option CR:=match l with
 | some l=> mkPure (QuC P t l) H n
 | none=> none
def QmE (P:Program) (t:TypeId) (len:Nat) (l:Option (List (Nat×Value))) (H:Qau) (n:Nat):Option CR:=match l with
 | some l=> match Qg9 P t len l with
   | some (e,cs,s)=> some ⟨.val (.slice (some ⟨n,0,none⟩) len s),(n,.cells cs e (0,0))::H,n+1,[],[]⟩
   | none=> none
 | none=> none
def Q5g (P:Program) (t:TypeId) (a:Option Value) (H:Qau) (n:Nat):Option CR:=match a with
 | some p=> match Qku P t H p with
   | some (v,b)=> some ⟨.val v,H,n,[b],[]⟩
   | none=> none
 | none=> none
def QxO (P:Program) (t:TypeId) (a x:Option Value) (H:Qau) (n:Nat):Option CR:=match a,x with
 | some p,some v=> match Qim P t H v p with
   | some (H',b)=> some ⟨.val undef,H',n,[b],[b]⟩
   | none=> none
 | _,_=> none
def Qk4 (P:Program) (s:TypeId) (f:Nat) (x:Option Value) (H:Qau) (n:Nat):Option CR:=match x with
 | some p=> mkPure (Qcd P s f p) H n
 | none=> none
def Q1c (P:Program) (s:TypeId) (f:Nat) (x:Option Value) (H:Qau) (n:Nat):Option CR:=match x with
 | some p=> mkPure (QnY P s f p) H n
 | none=> none
def Qkx (P:Program) (t:TypeId) (x i:Option Value) (H:Qau) (n:Nat):Option CR:=match x,i with
 | some v,some k=> mkPure (Qfd P t v k) H n
 | _,_=> none
def Q4k (P:Program) (ev:Operand->Option Value) (o:Oper) (t:TypeId) (x i:Option Value) (H:Qau) (n:Nat):Option CR:=match x,i with
 | some (.agg cs),some k=> mkPure (QuQ P t (.agg cs) k) H n
 | _,_=> mkPure (QeR P ev o) H n
def QoL (i:Nat) (x:Option Value) (H:Qau) (n:Nat):Option CR:=match x with
 | some v=> mkPure (QhY i v) H n
 | none=> none
def Q5H (P:Program) (t:TypeId) (l c:Option Value) (H:Qau) (n:Nat):Option CR:=match l,c with
 | some x,some y=> match Qg4 P t x y with
   | some (e,cs,l,s)=> some ⟨.val (.slice (some ⟨n,0,none⟩) l s),(n,.cells cs e (0,0))::H,n+1,[],[]⟩
   | none=> none
 | _,_=> none
def Q6w (P:Program) (ev:Operand->Option Value) (o:Oper) (t:TypeId) (x:Option Value) (lo hi:Option (Option Value)) (H:Qau) (n:Nat):Option CR:=match x,lo,hi with
 | some (.slice (some a) m s),some l,some h=> mkPure (Qil P t (.slice (some a) m s) l h) H n
 | some (.pointer p),some l,some h=> mkPure (Qil P t (.pointer p) l h) H n
 | _,_,_=> mkPure (QeR P ev o) H n
def Qy9 (P:Program) (ev:Operand->Option Value) (o:Oper) (t:TypeId) (x:Operand) (lo hi m:Option Operand) (H:Qau) (n:Nat):Option CR:=match m with
 | none=> Q6w P ev o t (ev x) (evo ev lo) (evo ev hi) H n
 | some mx=> match hi with
   | some h=> bif Qkb P t (ev x) (evo ev lo) (ev h) (ev mx) then some ⟨.val Qqa,H,n,[],[]⟩ else mkPure (QeR P ev o) H n
   | none=> mkPure (QeR P ev o) H n
def QrW (P:Program) (ev:Operand->Option Value) (o:Oper) (fn:Fn) (first captured:Array Operand) (H:Qau) (n:Nat):Option CR:=match fn with
 | .func f=> match QhN ev first.toList,QhN ev captured.toList with
   | some xs,some ys=> some ⟨.val (.func (.func f) xs.toArray ys.toArray),H,n,[],[]⟩
   | _,_=> none
 | _=> mkPure (QeR P ev o) H n
def QuR (P:Program) (ev:Operand->Option Value) (o:Oper) (r:Option Operand) (H:Qau) (n:Nat):Option CR:=match r with
 | none=> some ⟨.val (.map (some n)),(n,.map #[] 0)::H,n+1,[],[]⟩
 | some _=> mkPure (QeR P ev o) H n
def QxB (P:Program) (t:TypeId) (ok:Bool) (x k:Option Value) (H:Qau) (n:Nat):Option CR:=match x,k with
 | some m,some kv=> match QmL P t H ok m kv with
   | some (v,R)=> some ⟨.val v,H,n,R,[]⟩
   | none=> none
 | _,_=> none
def QnX (P:Program) (t:TypeId) (m k x:Option Value) (H:Qau) (n:Nat):Option CR:=match m,k,x with
 | some mv,some kv,some v=> match Qfg P t H mv kv v with
   | some (H',b)=> some ⟨.val undef,H',n,[b],[b]⟩
   | none=> none
 | _,_,_=> none
def Q74 (P:Program) (ev:Operand->Option Value) (o:Oper) (op:BinOp) (x y:Option Value) (H:Qau) (n:Nat):Option CR:=match x,y with
 | some a,some b=> match Q4F op a b with
   | some v=> some ⟨.val v,H,n,[],[]⟩
   | none=> mkPure (QeR P ev o) H n
 | _,_=> none
def Q7I (x:Option Value) (H:Qau) (n:Nat):Option CR:=match x with
 | some (.pointer (some a))=> some ⟨.val (.pointer (some a)),H,n,[],[]⟩
 | some (.func (.func f) xs ys)=> some ⟨.val (.func (.func f) xs ys),H,n,[],[]⟩
 | some (.func (.yield f) xs ys)=> some ⟨.val (.func (.yield f) xs ys),H,n,[],[]⟩
 | _=> none
def Q77 (F:FuncId->Bool) (f:Option Value) (args:Option (List Value)) (H:Qau) (n:Nat):Option CR:=match f,args with
 | some fv,some args=> match Qjg F H fv args.toArray with
   | some (nx,R)=> some ⟨nx,H,n,R,[]⟩
   | none=> none
 | _,_=> none
def Q4D (P:Program) (ev:Operand->Option Value) (c:Call) (H:Qau) (n:Nat):Option CR:=match c.args.toList,c.argTypes.toList with
 | [s,x],[t,t']=> match ev s,ev x with
   | some sv,some xv=> Q5C P t t' H n sv xv
   | _,_=> none
 | _,_=> none
def Q7O (P:Program) (ev:Operand->Option Value) (o:Oper) (c:Call) (H:Qau) (n:Nat):Option CR:=match c.args.toList,c.argTypes.toList with
 | [x],[t]=> match ev x,und P t with
   | some (.slice (some _) m _),some (.slice _)=> some ⟨.val (.int .i64 m),H,n,[],[]⟩
   | some (.chan (some 0)),some (.slice _)=> some ⟨.val (.int .i64 0),H,n,[],[]⟩
   | _,_=> mkPure (QeR P ev o) H n
 | _,_=> none
def Q7z (P:Program) (ev:Operand->Option Value) (c:Call) (H:Qau) (n:Nat):Option CR:=match c.args.toList,c.argTypes.toList with
 | [s,x],[t,_]=> match ev s,ev x with
   | some sv,some xv=> QtL P t H n sv xv
   | _,_=> none
 | _,_=> none
def Q3w (P:Program) (ev:Operand->Option Value) (o:Oper) (c:Call) (b:Builtin) (H:Qau) (n:Nat):Option CR:=match b with
 | .append=> Q4D P ev c H n
 | .len=> Q7O P ev o c H n
 | .copy=> Q7z P ev c H n
 | _=> mkPure (QeR P ev o) H n
def QmK (P:Program) (F:FuncId->Bool) (ev:Operand->Option Value) (o:Oper) (c:Call) (H:Qau) (n:Nat):Option CR:=match c.callee with
 | .builtin b=> Q3w P ev o c b H n
 | .value f=> Q77 F (ev f) (QhN ev c.args.toList) H n
 | _=> none
def Q7e (P:Program) (F:FuncId->Bool) (ev:Operand->Option Value) (o:Oper) (H:Qau) (n:Nat):Option CR:=
 match o.op with
 | .move x=> mkPure (ev x) H n
 | .assign x=> mkPure (ev x) H n
 | .pick c a b=> match ev c with
   | some (.bool t)=> mkPure (ev (bif t then a else b)) H n
   | _=> none
 | .alloc t=> Q4e P t H n
 | .box t x=> Q7L t (ev x) H n
 | .build t ps=> Q3S P t (partsOf ev ps.toList) H n
 | .buildSlice t len ps=> QmE P t len (partsOf ev ps.toList) H n
 | .load t a=> Q5g P t (ev a) H n
 | .store t a x=> QxO P t (ev a) (ev x) H n
 | .fieldAddr s x f=> Qk4 P s f (ev x) H n
 | .field t x f=> Q1c P t f (ev x) H n
 | .indexAddr t x i=> Qkx P t (ev x) (ev i) H n
 | .index t x i=> Q4k P ev o t (ev x) (ev i) H n
 | .extract x i=> QoL i (ev x) H n
 | .makeSlice t l c=> Q5H P t (ev l) (ev c) H n
 | .slice t x lo hi m=> Qy9 P ev o t x lo hi m H n
 | .makeFunc fn first captured=> QrW P ev o fn first captured H n
 | .makeMap _ r=> QuR P ev o r H n
 | .lookup t x k ok=> QxB P t ok (ev x) (ev k) H n
 | .mapUpdate t m k x=> QnX P t (ev m) (ev k) (ev x) H n
 | .binOp op _ x y _=> Q74 P ev o op (ev x) (ev y) H n
 | .nilCheck x=> Q7I (ev x) H n
 | .call c=> QmK P F ev o c H n
 | _=> mkPure (QeR P ev o) H n
theorem Q4G (P:Program) (F:FuncId->Bool) (ev:Operand->Option Value) (o:Oper) (H:Qau) (n:Nat):Q7e P F ev o H n=cop P F ev o H n:=by
 unfold Q7e cop;cases o.op with
 | slice t x lo hi m=> cases m <;> cases hi <;> rfl
 | makeFunc fn a b=> cases fn <;> rfl
 | makeMap t r=> cases r <;> rfl
 | call c=>
   simp only [QmK];cases c.callee with
   | builtin b=> cases b <;> rfl
   | value f=> rfl
   | invoke a b=> rfl
 | _=> rfl
def Q4S (r:CR) (s:Rs):Option Rs:=match QfL r.H s with
 | s=> some ⟨s.out,s.H,s.n,r.R++s.R,r.W++s.W⟩
def Q7j (P:Program) (rec:CF->Qau->Nat->Option Rs) (g:FuncId) (args:Array Value) (r:CR):Option Rs:=match Qc9 P g args with
 | some c=> match rec c r.H r.n with
   | some s=> Q4S r s
   | none=> none
 | none=> none
def QuI (P:Program) (orc:Orc) (rec:CF->Qau->Nat->Option Rs) (g:FuncId) (args:Array Value) (r:CR):Option Rs:=match orc g args r.H r.n with
 | some s=> some ⟨s.out,s.H,s.n,r.R++s.R,r.W++s.W⟩
 | none=> Q7j P rec g args r
def Q6V (rec:CF->Qau->Nat->Option Rs) (l:Nat) (fn:FuncId) (tm:Array Value) (a b:Code) (r:CR):Option Rs:=bif Nat.ble tm.size 16000 then match rec ⟨fn,ofList tm.size tm.toList,[.code a,.beginRound,.code b],[],.run,some l⟩ r.H r.n with
 | some s=> some ⟨s.out,s.H,s.n,r.R++s.R,r.W++s.W⟩
 | none=> none
 else none
def Q2W (P:Program) (orc:Orc) (rec:CF->Qau->Nat->Option Rs) (r:CR):Option Rs:=match r.nx with
 | .val v=> some ⟨.ret v,r.H,r.n,r.R,r.W⟩
 | .enter g args=> QuI P orc rec g args r
 | .round l fn tm a b=> Q6V rec l fn tm a b r
def qR (P:Program) (orc:Orc) (rec:CF->Qau->Nat->Option Rs) (n:Nat) (x:Option CR):Option Rs:=match x with
 | some r=> bif r.R.all (fun i=> Nat.blt i n) then Q2W P orc rec r else none
 | none=> none
def Q6y (v:Option Value) (H:Qau) (n:Nat):Option Rs:=match v with
 | some (.iface t v)=> some ⟨.pan (.iface t v),H,n,[],[]⟩
 | _=> none
def Qyq:Op->Nat
 | .defer _=> 1
 | .panic _=> 2
 | _=> 0
def qV (v:Option Value) (H:Qau) (n:Nat):Option Rs:=match v with
 | some v=> some ⟨.ret v,H,n,[],[]⟩
 | none=> none
def opQ (P:Program) (F:FuncId->Bool) (orc:Orc) (rec:CF->Qau->Nat->Option Rs) (T:Tm) (o:Oper) (H:Qau) (n:Nat):Option Rs:=
 match o.op with
 | .move x=> qV (evC T x) H n
 | .assign x=> qV (evC T x) H n
 | .pick c a b=> match evC T c with
   | some (.bool t)=> qV (evC T (bif t then a else b)) H n
   | _=> none
 | .alloc t=> qR P orc rec n (Q4e P t H n)
 | .box t x=> qR P orc rec n (Q7L t (evC T x) H n)
 | .build t ps=> qR P orc rec n (Q3S P t (partsOf (evC T) ps.toList) H n)
 | .buildSlice t len ps=> qR P orc rec n (QmE P t len (partsOf (evC T) ps.toList) H n)
 | .load t a=> qR P orc rec n (Q5g P t (evC T a) H n)
 | .store t a x=> qR P orc rec n (QxO P t (evC T a) (evC T x) H n)
 | .fieldAddr s x f=> qR P orc rec n (Qk4 P s f (evC T x) H n)
 | .field t x f=> qR P orc rec n (Q1c P t f (evC T x) H n)
 | .indexAddr t x i=> qR P orc rec n (Qkx P t (evC T x) (evC T i) H n)
 | .index t x i=> qR P orc rec n (Q4k P (evC T) o t (evC T x) (evC T i) H n)
 | .extract x i=> qR P orc rec n (QoL i (evC T x) H n)
 | .makeSlice t l c=> qR P orc rec n (Q5H P t (evC T l) (evC T c) H n)
 | .slice t x lo hi m=> qR P orc rec n (Qy9 P (evC T) o t x lo hi m H n)
 | .makeFunc fn first captured=> qR P orc rec n (QrW P (evC T) o fn first captured H n)
 | .makeMap _ r=> qR P orc rec n (QuR P (evC T) o r H n)
 | .lookup t x k ok=> qR P orc rec n (QxB P t ok (evC T x) (evC T k) H n)
 | .mapUpdate t m k x=> qR P orc rec n (QnX P t (evC T m) (evC T k) (evC T x) H n)
 | .binOp op _ x y _=> qR P orc rec n (Q74 P (evC T) o op (evC T x) (evC T y) H n)
 | .nilCheck x=> qR P orc rec n (Q7I (evC T x) H n)
 | .call c=> qR P orc rec n (QmK P F (evC T) o c H n)
 | .defer _=> none
 | .panic x=> Q6y (evC T x) H n
 | _=> qR P orc rec n (mkPure (QeR P (evC T) o) H n)
theorem Q7w {P:Program} {F:FuncId->Bool} {orc:Orc} {rec:CF->Qau->Nat->Option Rs} {T:Tm} {o:Oper} {H:Qau} {n:Nat} (h1:∀c,o.op≠.defer c) (h2:∀x,o.op≠.panic x):opS P F orc rec T o H n=qR P orc rec n (Q7e P F (evC T) o H n):=by
 rw [Q4G];unfold opS;split
 ·rename_i c h;exact absurd h (h1 c)
 ·rename_i x h;exact absurd h (h2 x)
 ·unfold QmV;cases cop P F (evC T) o H n with
  | none=> rfl
  | some r=>
    simp only [qR];cases r.R.all (fun i=> Nat.blt i n) with
    | false=> rfl
    | true=>
      simp only [cond_true,Q2W];cases r.nx <;> rfl
theorem Qhf {P:Program} {orc:Orc} {rec:CF->Qau->Nat->Option Rs} {H:Qau} {n:Nat} (v:Option Value):qR P orc rec n (mkPure v H n)=qV v H n:=by cases v <;> rfl
theorem Q5P (P:Program) (F:FuncId->Bool) (orc:Orc) (rec:CF->Qau->Nat->Option Rs) (T:Tm) (o:Oper) (H:Qau) (n:Nat):opQ P F orc rec T o H n=opS P F orc rec T o H n:=by
 cases hs:Qyq o.op with
 | succ k=>
   unfold opQ opS;generalize o.op=p at hs;cases p <;> first | (simp [Qyq] at hs;done) | rfl
 | zero=>
   rw [Q7w (by intro c h;rw [h] at hs;cases hs) (by intro c h;rw [h] at hs;cases hs)];unfold opQ Q7e;generalize hp:o.op=p at hs;cases p with
   | move x=> exact (Qhf _).symm
   | assign x=> exact (Qhf _).symm
   | pick c a b=>
     simp only;split
     ·exact (Qhf _).symm
     ·rfl
   | defer c=> cases hs
   | panic c=> cases hs
   | _=> rfl
def Qiq (P:Program) (F:FuncId->Bool) (orc:Orc) (rec:CF->Qau->Nat->Option Rs) (ops:Array Oper):List Oper->Tm->Qau->Nat->Option (List Rec×RF)
 | [],T,H,n=> some ([],.ok T H n)
 | o::l,T,H,n=>
   bif QiK T o.dst then
    bif Region.wanted o (Qbv ops T) then
     match opQ P F orc rec T o H n with
     | some s=> match s.out with
       | .ret v=> match Qiq P F orc rec ops l (QgW T o.dst v) s.H s.n with
         | some (rs,fin)=> some (⟨o,true,v,T,H,s.H,n,s.n,s.R,s.W⟩::rs,fin)
         | none=> none
       | .pan v=> some ([],.pan T v s.H s.n s.R s.W)
     | none=> none
    else match Qiq P F orc rec ops l (QgW T o.dst undef) H n with
     | some (rs,fin)=> some (⟨o,false,undef,T,H,H,n,n,[],[]⟩::rs,fin)
     | none=> none
   else none
theorem QuX (P:Program) (F:FuncId->Bool) (orc:Orc) (rec:CF->Qau->Nat->Option Rs) (ops:Array Oper):∀(l:List Oper) (T:Tm) (H:Qau) (n:Nat),Qiq P F orc rec ops l T H n=Qxy P F orc rec ops l T H n
 | [],_,_,_=> rfl
 | o::l,T,H,n=> by simp only [Qiq,Qxy,Q5P,QuX P F orc rec ops l];rfl
def qGo (c:CF) (k:List Item) (H:Qau) (n:Nat):Option FS:=some (.go {c with todo:=k} H n [] [])
def Q7r (c:CF) (ops:Array Oper) (draw:Bool) (k:List Item):Option (List Rec×RF)->Option FS
 | some (recs,.ok T' H' n')=> bif !draw || (Qd3 0 ops.toList && indep ops 0 recs (QnA ops.toList [])) then some (.go {c with tmps:=T',todo:=k} H' n' (Qmt recs) (QiO recs)) else none
 | some (recs,.pan T' v H' n' R W)=> bif draw then none else some (.go {c with tmps:=T',mode:=.pan v} H' n' (Qmt recs++R) (QiO recs++W))
 | none=> none
def Q4t (c:CF) (k:List Item) (l:Nat) (ds R1 R2:List Nat):Option Rs->Option FS
 | some s=> match s.out with
   | .ret _=> some (.go {c with todo:=.endRangeFunc l::k,defers:=ds++c.defers} s.H s.n (R1++R2++s.R) s.W)
   | .pan v=> some (.go {c with mode:=.pan v,defers:=ds++c.defers} s.H s.n (R1++R2++s.R) s.W)
 | none=> none
def Q3T (P:Program) (F:FuncId->Bool) (rec:CF->Qau->Nat->Option Rs) (c:CF) (params:Array Tmp) (assign body:Code) (k:List Item) (H:Qau) (n:Nat):Option Value->Option FS
 | some fv=> match Qe3 c H n params assign body with
   | some (H1,l,ds,R1)=> match Qjg F H1 fv #[.func (.yield l) #[] #[]] with
     | some (.enter g args,R2)=> match Qc9 P g args with
       | some c1=> Q4t c k l ds R1 R2 (rec c1 H1 (l+1))
       | none=> none
     | _=> none
   | none=> none
 | none=> none
def Q70 (c:CF) (a b:Code) (k:List Item) (H:Qau) (n:Nat):Option Value->Option FS
 | some (.bool t)=> qGo c (.code (bif t then a else b)::k) H n
 | _=> none
def Q3N (c:CF) (H:Qau) (n:Nat) (j:Code):Option (List Item)->Option FS
 | some k'=> qGo c k' H n
 | none=> Qif c H n (some j)
def QqC (P:Program) (F:FuncId->Bool) (orc:Orc) (rec:CF->Qau->Nat->Option Rs) (c:CF) (k:List Item) (H:Qau) (n:Nat):Code->Option FS
 | .ret=> Qif c H n (some .ret)
 | .skip=> qGo c k H n
 | .label _=> qGo c k H n
 | .seq a b=> qGo c (.code a::.code b::k) H n
 | .cond x a b=> Q70 c a b k H n (evC c.tmps x)
 | .block id b=> qGo c (.code b::.inBlock id::k) H n
 | .loop b=> qGo c (.code b::.inLoop b::k) H n
 | .scope b=> qGo c (.code b::.inScope b::k) H n
 | .exit id=> Q3N c H n (.exit id) (exitTo id k)
 | .goto l=> Q3N c H n (.goto l) (gotoIn l k)
 | .region _ ops draw=> Q7r c ops draw k (Qiq P F orc rec ops ops.toList c.tmps H n)
 | .rangeFunc f params assign body=> Q3T P F rec c params assign body k H n (evC c.tmps f)
 | _=> none
def Q5I (c:CF) (l:Nat) (k:List Item) (H:Qau) (n:Nat):Option FS:=match Qaz H l with
 | some (.loop r)=> bif !(decide (r.state=.busy)) then some (.go {c with todo:=(r.pending.map Item.code).toList++k} (QgP H l (.loop {r with state:=.exhausted})) n [l] [l]) else none
 | _=> none
def Q5Z (c:CF) (k:List Item) (H:Qau) (n:Nat):Option FS:=match c.roundOf with
 | some l=> match Qaz H l with
   | some (.loop r)=> bif decide (r.state=.ready) then some (.go {c with todo:=k} (QgP H l (.loop {r with state:=.busy})) n [l] [l]) else none
   | _=> none
 | none=> none
def Qs4 (P:Program) (F:FuncId->Bool) (orc:Orc) (rec:CF->Qau->Nat->Option Rs) (c:CF) (k:List Item) (H:Qau) (n:Nat):Item->Option FS
 | .code cd=> QqC P F orc rec c k H n cd
 | .inBlock _=> qGo c k H n
 | .inScope _=> qGo c k H n
 | .inLoop b=> qGo c (.code b::.inLoop b::k) H n
 | .endRangeFunc l=> Q5I c l k H n
 | .beginRound=> Q5Z c k H n
 | _=> none
def Q7N (P:Program) (c:CF) (H:Qau) (n:Nat):Option FS:=match c.defers with
 | d::ds=> match Qaz H d with
   | some (.deferred (some []))=> some (.go {c with defers:=ds} (QgP H d (.deferred none)) n [d] [d])
   | _=> none
 | []=> match c.mode with
   | .pan v=> bif Q6X P c.fn then some (.done (.pan v) H n [] []) else none
   | _=> match c.roundOf,Qze P c.fn H c.tmps with
     | none,some (v,R)=> some (.done (.ret v) H n R [])
     | _,_=> none
def Qo5 (P:Program) (F:FuncId->Bool) (orc:Orc) (rec:CF->Qau->Nat->Option Rs) (c:CF) (H:Qau) (n:Nat):Option FS:=
 match c.mode with
 | .run=> match c.todo with
   | []=> Qif c H n none
   | it::k=> Qs4 P F orc rec c k H n it
 | _=> Q7N P c H n
theorem Q0i (P:Program) (F:FuncId->Bool) (orc:Orc) (rec:CF->Qau->Nat->Option Rs) (c:CF) (H:Qau) (n:Nat):Qo5 P F orc rec c H n=QiB P F orc rec c H n:=by
 obtain ⟨fn,tmps,todo,defers,mode,ro⟩:=c;unfold Qo5 QiB;cases mode with
 | run=>
   cases todo with
   | nil=> rfl
   | cons it k=>
     cases it with
     | code cd=>
       cases cd with
       | region id ops draw=>
         simp only [Qs4,QqC,QuX];cases Qxy P F orc rec ops ops.toList tmps H n with
         | none=> rfl
         | some x=>
           obtain ⟨recs,fin⟩:=x;cases fin <;> rfl
       | rangeFunc f ps assign body=>
         simp only [Qs4,QqC,Q3T];cases evC tmps f with
         | none=> rfl
         | some fv=>
           simp only;cases Qe3 ⟨fn,tmps,.code (.rangeFunc f ps assign body)::k,defers,.run,ro⟩ H n ps assign body with
           | none=> rfl
           | some x=>
             obtain ⟨H1,l,ds,R1⟩:=x;simp only;cases Qjg F H1 fv #[.func (.yield l) #[] #[]] with
             | none=> rfl
             | some y=>
               obtain ⟨nx,R2⟩:=y;cases nx with
               | enter g args=>
                 simp only;cases Qc9 P g args with
                 | none=> rfl
                 | some c1=>
                   simp only;cases rec c1 H1 (l+1) with
                   | none=> rfl
                   | some s=> obtain ⟨o,_,_,_,_⟩:=s;cases o <;> rfl
               | _=> rfl
       | cond x a b=>
         simp only [Qs4,QqC];cases evC tmps x with
         | none=> rfl
         | some v=> cases v <;> rfl
       | exit id=> simp only [Qs4,QqC];cases exitTo id k <;> rfl
       | goto id=> simp only [Qs4,QqC];cases gotoIn id k <;> rfl
       | _=> rfl
     | _=> rfl
 | ret=> rfl
 | pan v=> rfl
def Qic (P:Program) (F:FuncId->Bool) (orc:Orc):Nat->Nat->CF->Qau->Nat->List Nat->List Nat->Option Rs
 | 0,_,_,_,_,_,_=> none
 | fuel+1,b,c,H,n,R,W=>
   match Qo5 P F orc (fun c1 H1 n1=> Qic P F orc fuel n1 c1 H1 n1 [] []) c H n with
   | some (.go c' H' n' R' W')=> Qic P F orc fuel b c' H' n' (Qec b R' R) (Qec b W' W)
   | some (.done out H' n' R' W')=> some ⟨out,H',n',Qec b R' R,Qec b W' W⟩
   | none=> none
theorem QoE (P:Program) (F:FuncId->Bool) (orc:Orc):∀(fuel b:Nat) (c:CF) (H:Qau) (n:Nat) (R W:List Nat),Qic P F orc fuel b c H n R W=Q10 P F orc fuel b c H n R W
 | 0,_,_,_,_,_,_=> rfl
 | fuel+1,b,c,H,n,R,W=> by
   simp only [Qic,Q10,Q0i,QoE P F orc fuel];rfl
end Go.CE
