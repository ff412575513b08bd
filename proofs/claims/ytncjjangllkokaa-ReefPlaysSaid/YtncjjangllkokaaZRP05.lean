/- CE: the canonical machine again, its cases in small pieces: the kernel evaluates it quicker. -/
import Derived.Test.YtncjjangllkokaaZRP04
set_option linter.all false
namespace Go.CE
open Go Go.RowKit

def Q0Y (P:Program) (t:TypeId) (H:Qan) (n:Nat):Option CR:=match zeroOf P t with
 | some z=> bif af z then some ⟨.val (Q2F n),(n,.cells z.cells t (0,0))::H,n+1,[],[]⟩ else none
 | none=> none
def Q49 (t:TypeId) (x:Option Value) (H:Qan) (n:Nat):Option CR:=match x with
 | some v=> some ⟨.val (Q2F n),(n,.cells v.cells t (0,0))::H,n+1,[],[]⟩
 | none=> none
def Q0H (P:Program) (t:TypeId) (l:Option (List (Nat×Value))) (H:Qan) (n:Nat):Option CR:=match l with
 | some l=> mkPure (QsZ P t l) H n
 | none=> none
def Qjm (P:Program) (t:TypeId) (len:Nat) (l:Option (List (Nat×Value))) (H:Qan) (n:Nat):Option CR:=match l with
 | some l=> match QeI P t len l with
   | some (e,cs,s)=> some ⟨.val (.slice (some ⟨n,0,none⟩) len s),(n,.cells cs e (0,0))::H,n+1,[],[]⟩
   | none=> bif Qm0 P t len l then some ⟨.val Qid,H,n,[],[]⟩ else none
 | none=> none
def Q1J (P:Program) (t:TypeId) (a:Option Value) (H:Qan) (n:Nat):Option CR:=match a with
 | some p=> match QhQ P t H p with
   | some (v,b)=> some ⟨.val v,H,n,[b],[]⟩
   | none=> none
 | none=> none
def QwB (P:Program) (t:TypeId) (a x:Option Value) (H:Qan) (n:Nat):Option CR:=match a,x with
 | some p,some v=> match Qgc P t H v p with
   | some (H',b)=> some ⟨.val undef,H',n,[b],[b]⟩
   | none=> none
 | _,_=> none
def Qh6 (P:Program) (s:TypeId) (f:Nat) (x:Option Value) (H:Qan) (n:Nat):Option CR:=match x with
 | some p=> mkPure (QbC P s f p) H n
 | none=> none
def QvV (P:Program) (s:TypeId) (f:Nat) (x:Option Value) (H:Qan) (n:Nat):Option CR:=match x with
 | some p=> mkPure (QlT P s f p) H n
 | none=> none
def QhR (P:Program) (t:TypeId) (x i:Option Value) (H:Qan) (n:Nat):Option CR:=match x,i with
 | some v,some k=> mkPure (Qd9 P t v k) H n
 | _,_=> none
def Q0G (P:Program) (ev:Operand->Option Value) (o:Oper) (t:TypeId) (x i:Option Value) (H:Qan) (n:Nat):Option CR:=match x,i with
 | some (.agg cs),some k=> mkPure (Qtb P t (.agg cs) k) H n
 | _,_=> mkPure (QdQ P ev o) H n
def Qoj (i:Nat) (x:Option Value) (H:Qan) (n:Nat):Option CR:=match x with
 | some v=> mkPure (QfL i v) H n
 | none=> none
def Q2K (P:Program) (t:TypeId) (l c:Option Value) (H:Qan) (n:Nat):Option CR:=match l,c with
 | some x,some y=> match Qj9 P t x y with
   | some (e,cs,l,s)=> some ⟨.val (.slice (some ⟨n,0,none⟩) l s),(n,.cells cs e (0,0))::H,n+1,[],[]⟩
   | none=> none
 | _,_=> none
def Q39 (P:Program) (ev:Operand->Option Value) (o:Oper) (t:TypeId) (x:Option Value) (lo hi:Option (Option Value)) (H:Qan) (n:Nat):Option CR:=match x,lo,hi with
 | some (.slice (some a) m s),some l,some h=> mkPure (Qi1 P t (.slice (some a) m s) l h) H n
 | some (.pointer p),some l,some h=> mkPure (Qi1 P t (.pointer p) l h) H n
 | _,_,_=> mkPure (QdQ P ev o) H n
def QwX (P:Program) (ev:Operand->Option Value) (o:Oper) (t:TypeId) (x:Operand) (lo hi m:Option Operand) (H:Qan) (n:Nat):Option CR:=match m with
 | none=> Q39 P ev o t (ev x) (evo ev lo) (evo ev hi) H n
 | some mx=> match hi with
   | some h=> bif QhT P t (ev x) (evo ev lo) (ev h) (ev mx) then some ⟨.val Qid,H,n,[],[]⟩ else mkPure (QdQ P ev o) H n
   | none=> mkPure (QdQ P ev o) H n
def Qpq (P:Program) (ev:Operand->Option Value) (o:Oper) (fn:Fn) (first captured:Array Operand) (H:Qan) (n:Nat):Option CR:=match fn with
 | .func f=> match Qf1 ev first.toList,Qf1 ev captured.toList with
   | some xs,some ys=> some ⟨.val (.func (.func f) xs.toArray ys.toArray),H,n,[],[]⟩
   | _,_=> none
 | _=> mkPure (QdQ P ev o) H n
def Qt4 (P:Program) (ev:Operand->Option Value) (o:Oper) (r:Option Operand) (H:Qan) (n:Nat):Option CR:=match r with
 | none=> some ⟨.val (.map (some n)),(n,.map #[] 0)::H,n+1,[],[]⟩
 | some _=> mkPure (QdQ P ev o) H n
def QxW (P:Program) (t:TypeId) (ok:Bool) (x k:Option Value) (H:Qan) (n:Nat):Option CR:=match x,k with
 | some m,some kv=> match Qj0 P t H ok m kv with
   | some (v,R)=> some ⟨.val v,H,n,R,[]⟩
   | none=> none
 | _,_=> none
def QlL (P:Program) (t:TypeId) (m k x:Option Value) (H:Qan) (n:Nat):Option CR:=match m,k,x with
 | some mv,some kv,some v=> match Qd8 P t H mv kv v with
   | some (H',b)=> some ⟨.val undef,H',n,[b],[b]⟩
   | none=> none
 | _,_,_=> none
def Q4r (P:Program) (ev:Operand->Option Value) (o:Oper) (op:BinOp) (x y:Option Value) (H:Qan) (n:Nat):Option CR:=match x,y with
 | some a,some b=> match Q1P op a b with
   | some v=> some ⟨.val v,H,n,[],[]⟩
   | none=> mkPure (QdQ P ev o) H n
 | _,_=> none
def Q4E (x:Option Value) (H:Qan) (n:Nat):Option CR:=match x with
 | some (.pointer (some a))=> some ⟨.val (.pointer (some a)),H,n,[],[]⟩
 | some (.func (.func f) xs ys)=> some ⟨.val (.func (.func f) xs ys),H,n,[],[]⟩
 | some (.func (.yield f) xs ys)=> some ⟨.val (.func (.yield f) xs ys),H,n,[],[]⟩
 | _=> none
def Q4i (F:FuncId->Bool) (f:Option Value) (args:Option (List Value)) (H:Qan) (n:Nat):Option CR:=match f,args with
 | some fv,some args=> match Qhh F H fv args.toArray with
   | some (nx,R)=> some ⟨nx,H,n,R,[]⟩
   | none=> none
 | _,_=> none
def Q1L (P:Program) (ev:Operand->Option Value) (c:Call) (H:Qan) (n:Nat):Option CR:=match c.args.toList,c.argTypes.toList with
 | [s,x],[t,t']=> match ev s,ev x with
   | some sv,some xv=> Q0T P t t' H n sv xv
   | _,_=> none
 | _,_=> none
def Q4H (P:Program) (ev:Operand->Option Value) (o:Oper) (c:Call) (H:Qan) (n:Nat):Option CR:=match c.args.toList,c.argTypes.toList with
 | [x],[t]=> match ev x,und P t with
   | some (.slice (some _) m _),some (.slice _)=> some ⟨.val (.int .i64 m),H,n,[],[]⟩
   | some (.chan (some 0)),some (.slice _)=> some ⟨.val (.int .i64 0),H,n,[],[]⟩
   | _,_=> mkPure (QdQ P ev o) H n
 | _,_=> none
def Q4j (P:Program) (ev:Operand->Option Value) (c:Call) (H:Qan) (n:Nat):Option CR:=match c.args.toList,c.argTypes.toList with
 | [s,x],[t,_]=> match ev s,ev x with
   | some sv,some xv=> Qxu P t H n sv xv
   | _,_=> none
 | _,_=> none
def Q0p (P:Program) (ev:Operand->Option Value) (o:Oper) (c:Call) (b:Builtin) (H:Qan) (n:Nat):Option CR:=match b with
 | .append=> Q1L P ev c H n
 | .len=> Q4H P ev o c H n
 | .copy=> Q4j P ev c H n
 | _=> mkPure (QdQ P ev o) H n
def Qj6 (P:Program) (F:FuncId->Bool) (ev:Operand->Option Value) (o:Oper) (c:Call) (H:Qan) (n:Nat):Option CR:=match c.callee with
 | .builtin b=> Q0p P ev o c b H n
 | .value f=> Q4i F (ev f) (Qf1 ev c.args.toList) H n
 | _=> none
def Q3T (P:Program) (F:FuncId->Bool) (ev:Operand->Option Value) (o:Oper) (H:Qan) (n:Nat):Option CR:=
 match o.op with
 | .move x=> mkPure (ev x) H n
 | .assign x=> mkPure (ev x) H n
 | .pick c a b=> match ev c with
   | some (.bool t)=> mkPure (ev (bif t then a else b)) H n
   | _=> none
 | .alloc t=> Q0Y P t H n
 | .box t x=> Q49 t (ev x) H n
 | .build t ps=> Q0H P t (partsOf ev ps.toList) H n
 | .buildSlice t len ps=> Qjm P t len (partsOf ev ps.toList) H n
 | .load t a=> Q1J P t (ev a) H n
 | .store t a x=> QwB P t (ev a) (ev x) H n
 | .fieldAddr s x f=> Qh6 P s f (ev x) H n
 | .field t x f=> QvV P t f (ev x) H n
 | .indexAddr t x i=> QhR P t (ev x) (ev i) H n
 | .index t x i=> Q0G P ev o t (ev x) (ev i) H n
 | .extract x i=> Qoj i (ev x) H n
 | .makeSlice t l c=> Q2K P t (ev l) (ev c) H n
 | .slice t x lo hi m=> QwX P ev o t x lo hi m H n
 | .makeFunc fn first captured=> Qpq P ev o fn first captured H n
 | .makeMap _ r=> Qt4 P ev o r H n
 | .lookup t x k ok=> QxW P t ok (ev x) (ev k) H n
 | .mapUpdate t m k x=> QlL P t (ev m) (ev k) (ev x) H n
 | .binOp op _ x y _=> Q4r P ev o op (ev x) (ev y) H n
 | .nilCheck x=> Q4E (ev x) H n
 | .call c=> Qj6 P F ev o c H n
 | _=> mkPure (QdQ P ev o) H n
theorem Q2f (P:Program) (F:FuncId->Bool) (ev:Operand->Option Value) (o:Oper) (H:Qan) (n:Nat):Q3T P F ev o H n=cop P F ev o H n:=by
 unfold Q3T cop;cases o.op with
 | slice t x lo hi m=> cases m <;> cases hi <;> rfl
 | makeFunc fn a b=> cases fn <;> rfl
 | makeMap t r=> cases r <;> rfl
 | call c=>
   simp only [Qj6];cases c.callee with
   | builtin b=> cases b <;> rfl
   | value f=> rfl
   | invoke a b=> rfl
 | _=> rfl
def Q2b (r:CR) (s:Rs):Option Rs:=match Qeo r.H s with
 | s=> some ⟨s.out,s.H,s.n,r.R++s.R,r.W++s.W⟩
def Q4w (P:Program) (rec:CF->Qan->Nat->Option Rs) (g:FuncId) (args:Array Value) (r:CR):Option Rs:=match QbQ P g args with
 | some c=> match rec c r.H r.n with
   | some s=> Q2b r s
   | none=> none
 | none=> none
def Qt5 (P:Program) (orc:Orc) (rec:CF->Qan->Nat->Option Rs) (g:FuncId) (args:Array Value) (r:CR):Option Rs:=match orc g args r.H r.n with
 | some s=> some ⟨s.out,s.H,s.n,r.R++s.R,r.W++s.W⟩
 | none=> Q4w P rec g args r
def Q3N (rec:CF->Qan->Nat->Option Rs) (l:Nat) (fn:FuncId) (tm:Array Value) (a b:Code) (r:CR):Option Rs:=bif Nat.ble tm.size 16000 then match rec ⟨fn,ofList tm.size tm.toList,[.code a,.beginRound,.code b],[],.run,some l⟩ r.H r.n with
 | some s=> some ⟨s.out,s.H,s.n,r.R++s.R,r.W++s.W⟩
 | none=> none
 else none
def Q08 (P:Program) (orc:Orc) (rec:CF->Qan->Nat->Option Rs) (r:CR):Option Rs:=match r.nx with
 | .val v=> some ⟨.ret v,r.H,r.n,r.R,r.W⟩
 | .enter g args=> Qt5 P orc rec g args r
 | .round l fn tm a b=> Q3N rec l fn tm a b r
def qR (P:Program) (orc:Orc) (rec:CF->Qan->Nat->Option Rs) (n:Nat) (x:Option CR):Option Rs:=match x with
 | some r=> bif r.R.all (fun i=> Nat.blt i n) then Q08 P orc rec r else none
 | none=> none
def Q3J (v:Option Value) (H:Qan) (n:Nat):Option Rs:=match v with
 | some (.iface t v)=> some ⟨.pan (.iface t v),H,n,[],[]⟩
 | _=> none
def QxI:Op->Nat
 | .defer _=> 1
 | .panic _=> 2
 | _=> 0
def qV (v:Option Value) (H:Qan) (n:Nat):Option Rs:=match v with
 | some v=> some ⟨.ret v,H,n,[],[]⟩
 | none=> none
def opQ (P:Program) (F:FuncId->Bool) (orc:Orc) (rec:CF->Qan->Nat->Option Rs) (T:Tm) (o:Oper) (H:Qan) (n:Nat):Option Rs:=
 match o.op with
 | .move x=> qV (evC T x) H n
 | .assign x=> qV (evC T x) H n
 | .pick c a b=> match evC T c with
   | some (.bool t)=> qV (evC T (bif t then a else b)) H n
   | _=> none
 | .alloc t=> qR P orc rec n (Q0Y P t H n)
 | .box t x=> qR P orc rec n (Q49 t (evC T x) H n)
 | .build t ps=> qR P orc rec n (Q0H P t (partsOf (evC T) ps.toList) H n)
 | .buildSlice t len ps=> qR P orc rec n (Qjm P t len (partsOf (evC T) ps.toList) H n)
 | .load t a=> qR P orc rec n (Q1J P t (evC T a) H n)
 | .store t a x=> qR P orc rec n (QwB P t (evC T a) (evC T x) H n)
 | .fieldAddr s x f=> qR P orc rec n (Qh6 P s f (evC T x) H n)
 | .field t x f=> qR P orc rec n (QvV P t f (evC T x) H n)
 | .indexAddr t x i=> qR P orc rec n (QhR P t (evC T x) (evC T i) H n)
 | .index t x i=> qR P orc rec n (Q0G P (evC T) o t (evC T x) (evC T i) H n)
 | .extract x i=> qR P orc rec n (Qoj i (evC T x) H n)
 | .makeSlice t l c=> qR P orc rec n (Q2K P t (evC T l) (evC T c) H n)
 | .slice t x lo hi m=> qR P orc rec n (QwX P (evC T) o t x lo hi m H n)
 | .makeFunc fn first captured=> qR P orc rec n (Qpq P (evC T) o fn first captured H n)
 | .makeMap _ r=> qR P orc rec n (Qt4 P (evC T) o r H n)
 | .lookup t x k ok=> qR P orc rec n (QxW P t ok (evC T x) (evC T k) H n)
 | .mapUpdate t m k x=> qR P orc rec n (QlL P t (evC T m) (evC T k) (evC T x) H n)
 | .binOp op _ x y _=> qR P orc rec n (Q4r P (evC T) o op (evC T x) (evC T y) H n)
 | .nilCheck x=> qR P orc rec n (Q4E (evC T x) H n)
 | .call c=> qR P orc rec n (Qj6 P F (evC T) o c H n)
 | .defer _=> none
 | .panic x=> Q3J (evC T x) H n
 | _=> qR P orc rec n (mkPure (QdQ P (evC T) o) H n)
theorem Q4d {P:Program} {F:FuncId->Bool} {orc:Orc} {rec:CF->Qan->Nat->Option Rs} {T:Tm} {o:Oper} {H:Qan} {n:Nat} (h1:∀c,o.op≠.defer c) (h2:∀x,o.op≠.panic x):opS P F orc rec T o H n=qR P orc rec n (Q3T P F (evC T) o H n):=by
 rw [Q2f];unfold opS;split
 ·rename_i c h;exact absurd h (h1 c)
 ·rename_i x h;exact absurd h (h2 x)
 ·unfold Qlt;cases cop P F (evC T) o H n with
  | none=> rfl
  | some r=>
    simp only [qR];cases r.R.all (fun i=> Nat.blt i n) with
    | false=> rfl
    | true=>
      simp only [cond_true,Q08];cases r.nx <;> rfl
theorem Qfr {P:Program} {orc:Orc} {rec:CF->Qan->Nat->Option Rs} {H:Qan} {n:Nat} (v:Option Value):qR P orc rec n (mkPure v H n)=qV v H n:=by cases v <;> rfl
theorem Q30 (P:Program) (F:FuncId->Bool) (orc:Orc) (rec:CF->Qan->Nat->Option Rs) (T:Tm) (o:Oper) (H:Qan) (n:Nat):opQ P F orc rec T o H n=opS P F orc rec T o H n:=by
 cases hs:QxI o.op with
 | succ k=>
   unfold opQ opS;generalize o.op=p at hs;cases p <;> first | (simp [QxI] at hs;done) | rfl
 | zero=>
   rw [Q4d (by intro c h;rw [h] at hs;cases hs) (by intro c h;rw [h] at hs;cases hs)];unfold opQ Q3T;generalize hp:o.op=p at hs;cases p with
   | move x=> exact (Qfr _).symm
   | assign x=> exact (Qfr _).symm
   | pick c a b=>
     simp only;split
     ·exact (Qfr _).symm
     ·rfl
   | defer c=> cases hs
   | panic c=> cases hs
   | _=> rfl
def Qg1 (P:Program) (F:FuncId->Bool) (orc:Orc) (rec:CF->Qan->Nat->Option Rs) (ops:Array Oper):List Oper->Tm->Qan->Nat->Option (List Rec×RF)
 | [],T,H,n=> some ([],.ok T H n)
 | o::l,T,H,n=>
   bif Qg4 T o.dst then
    bif Region.wanted o (QaU ops T) then
     match opQ P F orc rec T o H n with
     | some s=> match s.out with
       | .ret v=> match Qg1 P F orc rec ops l (QeV T o.dst v) s.H s.n with
         | some (rs,fin)=> some (⟨o,true,v,T,H,s.H,n,s.n,s.R,s.W⟩::rs,fin)
         | none=> none
       | .pan v=> some ([],.pan T v s.H s.n s.R s.W)
     | none=> none
    else match Qg1 P F orc rec ops l (QeV T o.dst undef) H n with
     | some (rs,fin)=> some (⟨o,false,undef,T,H,H,n,n,[],[]⟩::rs,fin)
     | none=> none
   else none
theorem Qtp (P:Program) (F:FuncId->Bool) (orc:Orc) (rec:CF->Qan->Nat->Option Rs) (ops:Array Oper):∀(l:List Oper) (T:Tm) (H:Qan) (n:Nat),Qg1 P F orc rec ops l T H n=QuI P F orc rec ops l T H n
 | [],_,_,_=> rfl
 | o::l,T,H,n=> by simp only [Qg1,QuI,Q30,Qtp P F orc rec ops l];rfl
def qGo (c:CF) (k:List Item) (H:Qan) (n:Nat):Option FS:=some (.go {c with todo:=k} H n [] [])
def Q4o (c:CF) (ops:Array Oper) (draw:Bool) (k:List Item):Option (List Rec×RF)->Option FS
 | some (recs,.ok T' H' n')=> bif !draw || (Qcw 0 ops.toList && indep ops 0 recs (QiG ops.toList [])) then some (.go {c with tmps:=T',todo:=k} H' n' (QgJ recs) (QeY recs)) else none
 | some (recs,.pan T' v H' n' R W)=> bif !draw || Qg0 ops recs T' then some (.go {c with tmps:=T',mode:=.pan v} H' n' (QgJ recs++R) (QeY recs++W)) else none
 | none=> none
def Q1y (c:CF) (k:List Item) (l:Nat) (ds R1 R2:List Nat):Option Rs->Option FS
 | some s=> match s.out with
   | .ret _=> some (.go {c with todo:=.endRangeFunc l::k,defers:=ds++c.defers} s.H s.n (R1++R2++s.R) s.W)
   | .pan v=> some (.go {c with mode:=.pan v,defers:=ds++c.defers} s.H s.n (R1++R2++s.R) s.W)
 | none=> none
def Q1i (P:Program) (F:FuncId->Bool) (rec:CF->Qan->Nat->Option Rs) (c:CF) (params:Array Tmp) (assign body:Code) (k:List Item) (H:Qan) (n:Nat):Option Value->Option FS
 | some fv=> match Qdj c H n params assign body with
   | some (H1,l,ds,R1)=> match Qhh F H1 fv #[.func (.yield l) #[] #[]] with
     | some (.enter g args,R2)=> match QbQ P g args with
       | some c1=> Q1y c k l ds R1 R2 (rec c1 H1 (l+1))
       | none=> none
     | _=> none
   | none=> none
 | none=> none
def Q4k (c:CF) (a b:Code) (k:List Item) (H:Qan) (n:Nat):Option Value->Option FS
 | some (.bool t)=> qGo c (.code (bif t then a else b)::k) H n
 | _=> none
def Q1b (c:CF) (H:Qan) (n:Nat) (j:Code):Option (List Item)->Option FS
 | some k'=> qGo c k' H n
 | none=> Qgd c H n (some j)
def Qo2 (P:Program) (F:FuncId->Bool) (orc:Orc) (rec:CF->Qan->Nat->Option Rs) (c:CF) (k:List Item) (H:Qan) (n:Nat):Code->Option FS
 | .ret=> Qgd c H n (some .ret)
 | .skip=> qGo c k H n
 | .label _=> qGo c k H n
 | .seq a b=> qGo c (.code a::.code b::k) H n
 | .cond x a b=> Q4k c a b k H n (evC c.tmps x)
 | .block id b=> qGo c (.code b::.inBlock id::k) H n
 | .loop b=> qGo c (.code b::.inLoop b::k) H n
 | .scope b=> qGo c (.code b::.inScope b::k) H n
 | .exit id=> Q1b c H n (.exit id) (exitTo id k)
 | .goto l=> Q1b c H n (.goto l) (gotoIn l k)
 | .region _ ops draw=> Q4o c ops draw k (Qg1 P F orc rec ops ops.toList c.tmps H n)
 | .rangeFunc f params assign body=> Q1i P F rec c params assign body k H n (evC c.tmps f)
 | _=> none
def Q3K (c:CF) (l:Nat) (k:List Item) (H:Qan) (n:Nat):Option FS:=match Qao H l with
 | some (.loop r)=> bif !(decide (r.state=.busy)) then some (.go {c with todo:=(r.pending.map Item.code).toList++k} (QeO H l (.loop {r with state:=.exhausted})) n [l] [l]) else none
 | _=> none
def Q3t (c:CF) (k:List Item) (H:Qan) (n:Nat):Option FS:=match c.roundOf with
 | some l=> match Qao H l with
   | some (.loop r)=> bif decide (r.state=.ready) then some (.go {c with todo:=k} (QeO H l (.loop {r with state:=.busy})) n [l] [l]) else none
   | _=> none
 | none=> none
def Qo5 (P:Program) (F:FuncId->Bool) (orc:Orc) (rec:CF->Qan->Nat->Option Rs) (c:CF) (k:List Item) (H:Qan) (n:Nat):Item->Option FS
 | .code cd=> Qo2 P F orc rec c k H n cd
 | .inBlock _=> qGo c k H n
 | .inScope _=> qGo c k H n
 | .inLoop b=> qGo c (.code b::.inLoop b::k) H n
 | .endRangeFunc l=> Q3K c l k H n
 | .beginRound=> Q3t c k H n
 | _=> none
def Q4L (P:Program) (c:CF) (H:Qan) (n:Nat):Option FS:=match c.defers with
 | d::ds=> match Qao H d with
   | some (.deferred (some []))=> some (.go {c with defers:=ds} (QeO H d (.deferred none)) n [d] [d])
   | _=> none
 | []=> match c.mode with
   | .pan v=> bif Q3Y P c.fn then some (.done (.pan v) H n [] []) else none
   | _=> match c.roundOf,Q1a P c.fn H c.tmps with
     | none,some (v,R)=> some (.done (.ret v) H n R [])
     | _,_=> none
def QlA (P:Program) (F:FuncId->Bool) (orc:Orc) (rec:CF->Qan->Nat->Option Rs) (c:CF) (H:Qan) (n:Nat):Option FS:=
 match c.mode with
 | .run=> match c.todo with
   | []=> Qgd c H n none
   | it::k=> Qo5 P F orc rec c k H n it
 | _=> Q4L P c H n
theorem Qwt (P:Program) (F:FuncId->Bool) (orc:Orc) (rec:CF->Qan->Nat->Option Rs) (c:CF) (H:Qan) (n:Nat):QlA P F orc rec c H n=Qg9 P F orc rec c H n:=by
 obtain ⟨fn,tmps,todo,defers,mode,ro⟩:=c;unfold QlA Qg9;cases mode with
 | run=>
   cases todo with
   | nil=> rfl
   | cons it k=>
     cases it with
     | code cd=>
       cases cd with
       | region id ops draw=>
         simp only [Qo5,Qo2,Qtp];cases QuI P F orc rec ops ops.toList tmps H n with
         | none=> rfl
         | some x=>
           obtain ⟨recs,fin⟩:=x;cases fin <;> rfl
       | rangeFunc f ps assign body=>
         simp only [Qo5,Qo2,Q1i];cases evC tmps f with
         | none=> rfl
         | some fv=>
           simp only;cases Qdj ⟨fn,tmps,.code (.rangeFunc f ps assign body)::k,defers,.run,ro⟩ H n ps assign body with
           | none=> rfl
           | some x=>
             obtain ⟨H1,l,ds,R1⟩:=x;simp only;cases Qhh F H1 fv #[.func (.yield l) #[] #[]] with
             | none=> rfl
             | some y=>
               obtain ⟨nx,R2⟩:=y;cases nx with
               | enter g args=>
                 simp only;cases QbQ P g args with
                 | none=> rfl
                 | some c1=>
                   simp only;cases rec c1 H1 (l+1) with
                   | none=> rfl
                   | some s=> obtain ⟨o,_,_,_,_⟩:=s;cases o <;> rfl
               | _=> rfl
       | cond x a b=>
         simp only [Qo5,Qo2];cases evC tmps x with
         | none=> rfl
         | some v=> cases v <;> rfl
       | exit id=> simp only [Qo5,Qo2];cases exitTo id k <;> rfl
       | goto id=> simp only [Qo5,Qo2];cases gotoIn id k <;> rfl
       | _=> rfl
     | _=> rfl
 | ret=> rfl
 | pan v=> rfl
def QfV (P:Program) (F:FuncId->Bool) (orc:Orc):Nat->Nat->CF->Qan->Nat->List Nat->List Nat->Option Rs
 | 0,_,_,_,_,_,_=> none
 | fuel+1,b,c,H,n,R,W=>
   match QlA P F orc (fun c1 H1 n1=> QfV P F orc fuel n1 c1 H1 n1 [] []) c H n with
   | some (.go c' H' n' R' W')=> QfV P F orc fuel b c' H' n' (Qdf b R' R) (Qdf b W' W)
   | some (.done out H' n' R' W')=> some ⟨out,H',n',Qdf b R' R,Qdf b W' W⟩
   | none=> none
theorem Qoi (P:Program) (F:FuncId->Bool) (orc:Orc):∀(fuel b:Nat) (c:CF) (H:Qan) (n:Nat) (R W:List Nat),QfV P F orc fuel b c H n R W=Qyn P F orc fuel b c H n R W
 | 0,_,_,_,_,_,_=> rfl
 | fuel+1,b,c,H,n,R,W=> by
   simp only [QfV,Qyn,Qwt,Qoi P F orc fuel];rfl
end Go.CE
