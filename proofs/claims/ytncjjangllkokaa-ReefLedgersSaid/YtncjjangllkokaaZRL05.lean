/- CE: the canonical machine again, its cases in small pieces: the kernel evaluates it quicker. -/
import Derived.Test.YtncjjangllkokaaZRL04
set_option linter.all false
namespace Go.CE
open Go Go.RowKit

def Q3p (P:Program) (t:TypeId) (H:Qax) (n:Nat):Option CR:=match zeroOf P t with
 | some z=> bif af z then some ⟨.val (Q30 n),(n,.cells z.cells t (0,0))::H,n+1,[],[]⟩ else none
 | none=> none
def Q63 (t:TypeId) (x:Option Value) (H:Qax) (n:Nat):Option CR:=match x with
 | some v=> some ⟨.val (Q30 n),(n,.cells v.cells t (0,0))::H,n+1,[],[]⟩
 | none=> none
def Q3g (P:Program) (t:TypeId) (l:Option (List (Nat×Value))) (H:Qax) (n:Nat):Option CR:=match l with
 | some l=> mkPure (QvS P t l) H n
 | none=> none
def Qlq (P:Program) (t:TypeId) (len:Nat) (l:Option (List (Nat×Value))) (H:Qax) (n:Nat):Option CR:=match l with
 | some l=> match QeQ P t len l with
   | some (e,cs,s)=> some ⟨.val (.slice (some ⟨n,0,none⟩) len s),(n,.cells cs e (0,0))::H,n+1,[],[]⟩
   | none=> bif Qog P t len l then some ⟨.val QiG,H,n,[],[]⟩ else none
 | none=> none
def Q4v (P:Program) (t:TypeId) (a:Option Value) (H:Qax) (n:Nat):Option CR:=match a with
 | some p=> match Qij P t H p with
   | some (v,b)=> some ⟨.val v,H,n,[b],[]⟩
   | none=> none
 | none=> none
def Q03 (P:Program) (t:TypeId) (a x:Option Value) (H:Qax) (n:Nat):Option CR:=match a,x with
 | some p,some v=> match Qgm P t H v p with
   | some (H',b)=> some ⟨.val undef,H',n,[b],[b]⟩
   | none=> none
 | _,_=> none
def QhG (P:Program) (s:TypeId) (f:Nat) (x:Option Value) (H:Qax) (n:Nat):Option CR:=match x with
 | some p=> mkPure (QbS P s f p) H n
 | none=> none
def Q0H (P:Program) (s:TypeId) (f:Nat) (x:Option Value) (H:Qax) (n:Nat):Option CR:=match x with
 | some p=> mkPure (Qmd P s f p) H n
 | none=> none
def QhW (P:Program) (t:TypeId) (x i:Option Value) (H:Qax) (n:Nat):Option CR:=match x,i with
 | some v,some k=> mkPure (QdK P t v k) H n
 | _,_=> none
def Q3k (P:Program) (ev:Operand->Option Value) (o:Oper) (t:TypeId) (x i:Option Value) (H:Qax) (n:Nat):Option CR:=match x,i with
 | some (.agg cs),some k=> mkPure (QvM P t (.agg cs) k) H n
 | _,_=> mkPure (Qea P ev o) H n
def QoI (i:Nat) (x:Option Value) (H:Qax) (n:Nat):Option CR:=match x with
 | some v=> mkPure (Qga i v) H n
 | none=> none
def Q51 (P:Program) (t:TypeId) (l c:Option Value) (H:Qax) (n:Nat):Option CR:=match l,c with
 | some x,some y=> match Qkk P t x y with
   | some (e,cs,l,s)=> some ⟨.val (.slice (some ⟨n,0,none⟩) l s),(n,.cells cs e (0,0))::H,n+1,[],[]⟩
   | none=> none
 | _,_=> none
def Q5x (P:Program) (ev:Operand->Option Value) (o:Oper) (t:TypeId) (x:Option Value) (lo hi:Option (Option Value)) (H:Qax) (n:Nat):Option CR:=match x,lo,hi with
 | some (.slice (some a) m s),some l,some h=> mkPure (Qjg P t (.slice (some a) m s) l h) H n
 | some (.pointer p),some l,some h=> mkPure (Qjg P t (.pointer p) l h) H n
 | _,_,_=> mkPure (Qea P ev o) H n
def QzO (P:Program) (ev:Operand->Option Value) (o:Oper) (t:TypeId) (x:Operand) (lo hi m:Option Operand) (H:Qax) (n:Nat):Option CR:=match m with
 | none=> Q5x P ev o t (ev x) (evo ev lo) (evo ev hi) H n
 | some mx=> match hi with
   | some h=> bif QhZ P t (ev x) (evo ev lo) (ev h) (ev mx) then some ⟨.val QiG,H,n,[],[]⟩ else mkPure (Qea P ev o) H n
   | none=> mkPure (Qea P ev o) H n
def Qrm (P:Program) (ev:Operand->Option Value) (o:Oper) (fn:Fn) (first captured:Array Operand) (H:Qax) (n:Nat):Option CR:=match fn with
 | .func f=> match QfA ev first.toList,QfA ev captured.toList with
   | some xs,some ys=> some ⟨.val (.func (.func f) xs.toArray ys.toArray),H,n,[],[]⟩
   | _,_=> none
 | _=> mkPure (Qea P ev o) H n
def Qwa (P:Program) (ev:Operand->Option Value) (o:Oper) (r:Option Operand) (H:Qax) (n:Nat):Option CR:=match r with
 | none=> some ⟨.val (.map (some n)),(n,.map #[] 0)::H,n+1,[],[]⟩
 | some _=> mkPure (Qea P ev o) H n
def Q0G (P:Program) (t:TypeId) (ok:Bool) (x k:Option Value) (H:Qax) (n:Nat):Option CR:=match x,k with
 | some m,some kv=> match Qk4 P t H ok m kv with
   | some (v,R)=> some ⟨.val v,H,n,R,[]⟩
   | none=> none
 | _,_=> none
def Qmg (P:Program) (t:TypeId) (m k x:Option Value) (H:Qax) (n:Nat):Option CR:=match m,k,x with
 | some mv,some kv,some v=> match QdE P t H mv kv v with
   | some (H',b)=> some ⟨.val undef,H',n,[b],[b]⟩
   | none=> none
 | _,_,_=> none
def Q6a (P:Program) (ev:Operand->Option Value) (o:Oper) (op:BinOp) (x y:Option Value) (H:Qax) (n:Nat):Option CR:=match x,y with
 | some a,some b=> match Q4y op a b with
   | some v=> some ⟨.val v,H,n,[],[]⟩
   | none=> mkPure (Qea P ev o) H n
 | _,_=> none
def Q6y (x:Option Value) (H:Qax) (n:Nat):Option CR:=match x with
 | some (.pointer (some a))=> some ⟨.val (.pointer (some a)),H,n,[],[]⟩
 | some (.func (.func f) xs ys)=> some ⟨.val (.func (.func f) xs ys),H,n,[],[]⟩
 | some (.func (.yield f) xs ys)=> some ⟨.val (.func (.yield f) xs ys),H,n,[],[]⟩
 | _=> none
def Q6m (F:FuncId->Bool) (f:Option Value) (args:Option (List Value)) (H:Qax) (n:Nat):Option CR:=match f,args with
 | some fv,some args=> match Qhl F H fv args.toArray with
   | some (nx,R)=> some ⟨nx,H,n,R,[]⟩
   | none=> none
 | _,_=> none
def Q4j (P:Program) (ev:Operand->Option Value) (c:Call) (H:Qax) (n:Nat):Option CR:=match c.args.toList,c.argTypes.toList with
 | [s,x],[t,t']=> match ev s,ev x with
   | some sv,some xv=> Q3u P t t' H n sv xv
   | _,_=> none
 | _,_=> none
def Q66 (P:Program) (ev:Operand->Option Value) (o:Oper) (c:Call) (H:Qax) (n:Nat):Option CR:=match c.args.toList,c.argTypes.toList with
 | [x],[t]=> match ev x,und P t with
   | some (.slice (some _) m _),some (.slice _)=> some ⟨.val (.int .i64 m),H,n,[],[]⟩
   | some (.chan (some 0)),some (.slice _)=> some ⟨.val (.int .i64 0),H,n,[],[]⟩
   | _,_=> mkPure (Qea P ev o) H n
 | _,_=> none
def Q6h (P:Program) (ev:Operand->Option Value) (c:Call) (H:Qax) (n:Nat):Option CR:=match c.args.toList,c.argTypes.toList with
 | [s,x],[t,_]=> match ev s,ev x with
   | some sv,some xv=> QyM P t H n sv xv
   | _,_=> none
 | _,_=> none
def Q1F (P:Program) (ev:Operand->Option Value) (o:Oper) (c:Call) (b:Builtin) (H:Qax) (n:Nat):Option CR:=match b with
 | .append=> Q4j P ev c H n
 | .len=> Q66 P ev o c H n
 | .copy=> Q6h P ev c H n
 | _=> mkPure (Qea P ev o) H n
def QjH (P:Program) (F:FuncId->Bool) (ev:Operand->Option Value) (o:Oper) (c:Call) (H:Qax) (n:Nat):Option CR:=match c.callee with
 | .builtin b=> Q1F P ev o c b H n
 | .value f=> Q6m F (ev f) (QfA ev c.args.toList) H n
 | _=> none
def Q5G (P:Program) (F:FuncId->Bool) (ev:Operand->Option Value) (o:Oper) (H:Qax) (n:Nat):Option CR:=
 match o.op with
 | .move x=> mkPure (ev x) H n
 | .assign x=> mkPure (ev x) H n
 | .pick c a b=> match ev c with
   | some (.bool t)=> mkPure (ev (bif t then a else b)) H n
   | _=> none
 | .alloc t=> Q3p P t H n
 | .box t x=> Q63 t (ev x) H n
 | .build t ps=> Q3g P t (partsOf ev ps.toList) H n
 | .buildSlice t len ps=> Qlq P t len (partsOf ev ps.toList) H n
 | .load t a=> Q4v P t (ev a) H n
 | .store t a x=> Q03 P t (ev a) (ev x) H n
 | .fieldAddr s x f=> QhG P s f (ev x) H n
 | .field t x f=> Q0H P t f (ev x) H n
 | .indexAddr t x i=> QhW P t (ev x) (ev i) H n
 | .index t x i=> Q3k P ev o t (ev x) (ev i) H n
 | .extract x i=> QoI i (ev x) H n
 | .makeSlice t l c=> Q51 P t (ev l) (ev c) H n
 | .slice t x lo hi m=> QzO P ev o t x lo hi m H n
 | .makeFunc fn first captured=> Qrm P ev o fn first captured H n
 | .makeMap _ r=> Qwa P ev o r H n
 | .lookup t x k ok=> Q0G P t ok (ev x) (ev k) H n
 | .mapUpdate t m k x=> Qmg P t (ev m) (ev k) (ev x) H n
 | .binOp op _ x y _=> Q6a P ev o op (ev x) (ev y) H n
 | .nilCheck x=> Q6y (ev x) H n
 | .call c=> QjH P F ev o c H n
 | _=> mkPure (Qea P ev o) H n
theorem Q4l (P:Program) (F:FuncId->Bool) (ev:Operand->Option Value) (o:Oper) (H:Qax) (n:Nat):Q5G P F ev o H n=cop P F ev o H n:=by
 unfold Q5G cop;cases o.op with
 | slice t x lo hi m=> cases m <;> cases hi <;> rfl
 | makeFunc fn a b=> cases fn <;> rfl
 | makeMap t r=> cases r <;> rfl
 | call c=>
   simp only [QjH];cases c.callee with
   | builtin b=> cases b <;> rfl
   | value f=> rfl
   | invoke a b=> rfl
 | _=> rfl
def Q3B (r:CR) (s:Rs):Option Rs:=match Qet r.H s with
 | s=> some ⟨s.out,s.H,s.n,r.R++s.R,r.W++s.W⟩
def Q6l (P:Program) (rec:CF->Qax->Nat->Option Rs) (g:FuncId) (args:Array Value) (r:CR):Option Rs:=match Qca P g args with
 | some c=> match rec c r.H r.n with
   | some s=> Q3B r s
   | none=> none
 | none=> none
def Qvv (P:Program) (orc:Orc) (rec:CF->Qax->Nat->Option Rs) (g:FuncId) (args:Array Value) (r:CR):Option Rs:=match orc g args r.H r.n with
 | some s=> some ⟨s.out,s.H,s.n,r.R++s.R,r.W++s.W⟩
 | none=> Q6l P rec g args r
def Q5C (rec:CF->Qax->Nat->Option Rs) (l:Nat) (fn:FuncId) (tm:Array Value) (a b:Code) (r:CR):Option Rs:=bif Nat.ble tm.size 16000 then match rec ⟨fn,ofList tm.size tm.toList,[.code a,.beginRound,.code b],[],.run,some l⟩ r.H r.n with
 | some s=> some ⟨s.out,s.H,s.n,r.R++s.R,r.W++s.W⟩
 | none=> none
 else none
def Q1I (P:Program) (orc:Orc) (rec:CF->Qax->Nat->Option Rs) (r:CR):Option Rs:=match r.nx with
 | .val v=> some ⟨.ret v,r.H,r.n,r.R,r.W⟩
 | .enter g args=> Qvv P orc rec g args r
 | .round l fn tm a b=> Q5C rec l fn tm a b r
def qR (P:Program) (orc:Orc) (rec:CF->Qax->Nat->Option Rs) (n:Nat) (x:Option CR):Option Rs:=match x with
 | some r=> bif r.R.all (fun i=> Nat.blt i n) then Q1I P orc rec r else none
 | none=> none
def Q4M (v:Option Value) (H:Qax) (n:Nat):Option Rs:=match v with
 | some (.iface t v)=> some ⟨.pan (.iface t v),H,n,[],[]⟩
 | _=> none
def Qy7:Op->Nat
 | .defer _=> 1
 | .panic _=> 2
 | _=> 0
def qV (v:Option Value) (H:Qax) (n:Nat):Option Rs:=match v with
 | some v=> some ⟨.ret v,H,n,[],[]⟩
 | none=> none
def opQ (P:Program) (F:FuncId->Bool) (orc:Orc) (rec:CF->Qax->Nat->Option Rs) (T:Tm) (o:Oper) (H:Qax) (n:Nat):Option Rs:=
 match o.op with
 | .move x=> qV (evC T x) H n
 | .assign x=> qV (evC T x) H n
 | .pick c a b=> match evC T c with
   | some (.bool t)=> qV (evC T (bif t then a else b)) H n
   | _=> none
 | .alloc t=> qR P orc rec n (Q3p P t H n)
 | .box t x=> qR P orc rec n (Q63 t (evC T x) H n)
 | .build t ps=> qR P orc rec n (Q3g P t (partsOf (evC T) ps.toList) H n)
 | .buildSlice t len ps=> qR P orc rec n (Qlq P t len (partsOf (evC T) ps.toList) H n)
 | .load t a=> qR P orc rec n (Q4v P t (evC T a) H n)
 | .store t a x=> qR P orc rec n (Q03 P t (evC T a) (evC T x) H n)
 | .fieldAddr s x f=> qR P orc rec n (QhG P s f (evC T x) H n)
 | .field t x f=> qR P orc rec n (Q0H P t f (evC T x) H n)
 | .indexAddr t x i=> qR P orc rec n (QhW P t (evC T x) (evC T i) H n)
 | .index t x i=> qR P orc rec n (Q3k P (evC T) o t (evC T x) (evC T i) H n)
 | .extract x i=> qR P orc rec n (QoI i (evC T x) H n)
 | .makeSlice t l c=> qR P orc rec n (Q51 P t (evC T l) (evC T c) H n)
 | .slice t x lo hi m=> qR P orc rec n (QzO P (evC T) o t x lo hi m H n)
 | .makeFunc fn first captured=> qR P orc rec n (Qrm P (evC T) o fn first captured H n)
 | .makeMap _ r=> qR P orc rec n (Qwa P (evC T) o r H n)
 | .lookup t x k ok=> qR P orc rec n (Q0G P t ok (evC T x) (evC T k) H n)
 | .mapUpdate t m k x=> qR P orc rec n (Qmg P t (evC T m) (evC T k) (evC T x) H n)
 | .binOp op _ x y _=> qR P orc rec n (Q6a P (evC T) o op (evC T x) (evC T y) H n)
 | .nilCheck x=> qR P orc rec n (Q6y (evC T x) H n)
 | .call c=> qR P orc rec n (QjH P F (evC T) o c H n)
 | .defer _=> none
 | .panic x=> Q4M (evC T x) H n
 | _=> qR P orc rec n (mkPure (Qea P (evC T) o) H n)
theorem Q6s {P:Program} {F:FuncId->Bool} {orc:Orc} {rec:CF->Qax->Nat->Option Rs} {T:Tm} {o:Oper} {H:Qax} {n:Nat} (h1:∀c,o.op≠.defer c) (h2:∀x,o.op≠.panic x):opS P F orc rec T o H n=qR P orc rec n (Q5G P F (evC T) o H n):=by
 rw [Q4l];unfold opS;split
 ·rename_i c h;exact absurd h (h1 c)
 ·rename_i x h;exact absurd h (h2 x)
 ·unfold QlN;cases cop P F (evC T) o H n with
  | none=> rfl
  | some r=>
    simp only [qR];cases r.R.all (fun i=> Nat.blt i n) with
    | false=> rfl
    | true=>
      simp only [cond_true,Q1I];cases r.nx <;> rfl
theorem Qfl {P:Program} {orc:Orc} {rec:CF->Qax->Nat->Option Rs} {H:Qax} {n:Nat} (v:Option Value):qR P orc rec n (mkPure v H n)=qV v H n:=by cases v <;> rfl
theorem Q57 (P:Program) (F:FuncId->Bool) (orc:Orc) (rec:CF->Qax->Nat->Option Rs) (T:Tm) (o:Oper) (H:Qax) (n:Nat):opQ P F orc rec T o H n=opS P F orc rec T o H n:=by
 cases hs:Qy7 o.op with
 | succ k=>
   unfold opQ opS;generalize o.op=p at hs;cases p <;> first | (simp [Qy7] at hs;done) | rfl
 | zero=>
   rw [Q6s (by intro c h;rw [h] at hs;cases hs) (by intro c h;rw [h] at hs;cases hs)];unfold opQ Q5G;generalize hp:o.op=p at hs;cases p with
   | move x=> exact (Qfl _).symm
   | assign x=> exact (Qfl _).symm
   | pick c a b=>
     simp only;split
     ·exact (Qfl _).symm
     ·rfl
   | defer c=> cases hs
   | panic c=> cases hs
   | _=> rfl
def Qg2 (P:Program) (F:FuncId->Bool) (orc:Orc) (rec:CF->Qax->Nat->Option Rs) (ops:Array Oper):List Oper->Tm->Qax->Nat->Option (List Rec×RF)
 | [],T,H,n=> some ([],.ok T H n)
 | o::l,T,H,n=>
   bif Qgy T o.dst then
    bif Region.wanted o (Qbl ops T) then
     match opQ P F orc rec T o H n with
     | some s=> match s.out with
       | .ret v=> match Qg2 P F orc rec ops l (Qfa T o.dst v) s.H s.n with
         | some (rs,fin)=> some (⟨o,true,v,T,H,s.H,n,s.n,s.R,s.W⟩::rs,fin)
         | none=> none
       | .pan v=> some ([],.pan T v s.H s.n s.R s.W)
     | none=> none
    else match Qg2 P F orc rec ops l (Qfa T o.dst undef) H n with
     | some (rs,fin)=> some (⟨o,false,undef,T,H,H,n,n,[],[]⟩::rs,fin)
     | none=> none
   else none
theorem Qv0 (P:Program) (F:FuncId->Bool) (orc:Orc) (rec:CF->Qax->Nat->Option Rs) (ops:Array Oper):∀(l:List Oper) (T:Tm) (H:Qax) (n:Nat),Qg2 P F orc rec ops l T H n=Qw6 P F orc rec ops l T H n
 | [],_,_,_=> rfl
 | o::l,T,H,n=> by simp only [Qg2,Qw6,Q57,Qv0 P F orc rec ops l];rfl
def qGo (c:CF) (k:List Item) (H:Qax) (n:Nat):Option FS:=some (.go {c with todo:=k} H n [] [])
def Q5T (c:CF) (ops:Array Oper) (draw:Bool) (k:List Item):Option (List Rec×RF)->Option FS
 | some (recs,.ok T' H' n')=> bif !draw || (Qc4 0 ops.toList && indep ops 0 recs (Qj6 ops.toList [])) then some (.go {c with tmps:=T',todo:=k} H' n' (QgV recs) (Qfd recs)) else none
 | some (recs,.pan T' v H' n' R W)=> bif !draw || Qg4 ops recs T' then some (.go {c with tmps:=T',mode:=.pan v} H' n' (QgV recs++R) (Qfd recs++W)) else none
 | none=> none
def Q3I (c:CF) (k:List Item) (l:Nat) (ds R1 R2:List Nat):Option Rs->Option FS
 | some s=> match s.out with
   | .ret _=> some (.go {c with todo:=.endRangeFunc l::k,defers:=ds++c.defers} s.H s.n (R1++R2++s.R) s.W)
   | .pan v=> some (.go {c with mode:=.pan v,defers:=ds++c.defers} s.H s.n (R1++R2++s.R) s.W)
 | none=> none
def Q3h (P:Program) (F:FuncId->Bool) (rec:CF->Qax->Nat->Option Rs) (c:CF) (params:Array Tmp) (assign body:Code) (k:List Item) (H:Qax) (n:Nat):Option Value->Option FS
 | some fv=> match Qdu c H n params assign body with
   | some (H1,l,ds,R1)=> match Qhl F H1 fv #[.func (.yield l) #[] #[]] with
     | some (.enter g args,R2)=> match Qca P g args with
       | some c1=> Q3I c k l ds R1 R2 (rec c1 H1 (l+1))
       | none=> none
     | _=> none
   | none=> none
 | none=> none
def Q6t (c:CF) (a b:Code) (k:List Item) (H:Qax) (n:Nat):Option Value->Option FS
 | some (.bool t)=> qGo c (.code (bif t then a else b)::k) H n
 | _=> none
def Q2W (c:CF) (H:Qax) (n:Nat) (j:Code):Option (List Item)->Option FS
 | some k'=> qGo c k' H n
 | none=> Qgh c H n (some j)
def Qrl (P:Program) (F:FuncId->Bool) (orc:Orc) (rec:CF->Qax->Nat->Option Rs) (c:CF) (k:List Item) (H:Qax) (n:Nat):Code->Option FS
 | .ret=> Qgh c H n (some .ret)
 | .skip=> qGo c k H n
 | .label _=> qGo c k H n
 | .seq a b=> qGo c (.code a::.code b::k) H n
 | .cond x a b=> Q6t c a b k H n (evC c.tmps x)
 | .block id b=> qGo c (.code b::.inBlock id::k) H n
 | .loop b=> qGo c (.code b::.inLoop b::k) H n
 | .scope b=> qGo c (.code b::.inScope b::k) H n
 | .exit id=> Q2W c H n (.exit id) (exitTo id k)
 | .goto l=> Q2W c H n (.goto l) (gotoIn l k)
 | .region _ ops draw=> Q5T c ops draw k (Qg2 P F orc rec ops ops.toList c.tmps H n)
 | .rangeFunc f params assign body=> Q3h P F rec c params assign body k H n (evC c.tmps f)
 | _=> none
def Q4U (c:CF) (l:Nat) (k:List Item) (H:Qax) (n:Nat):Option FS:=match Qay H l with
 | some (.loop r)=> bif !(decide (r.state=.busy)) then some (.go {c with todo:=(r.pending.map Item.code).toList++k} (QeN H l (.loop {r with state:=.exhausted})) n [l] [l]) else none
 | _=> none
def Q5n (c:CF) (k:List Item) (H:Qax) (n:Nat):Option FS:=match c.roundOf with
 | some l=> match Qay H l with
   | some (.loop r)=> bif decide (r.state=.ready) then some (.go {c with todo:=k} (QeN H l (.loop {r with state:=.busy})) n [l] [l]) else none
   | _=> none
 | none=> none
def QqC (P:Program) (F:FuncId->Bool) (orc:Orc) (rec:CF->Qax->Nat->Option Rs) (c:CF) (k:List Item) (H:Qax) (n:Nat):Item->Option FS
 | .code cd=> Qrl P F orc rec c k H n cd
 | .inBlock _=> qGo c k H n
 | .inScope _=> qGo c k H n
 | .inLoop b=> qGo c (.code b::.inLoop b::k) H n
 | .endRangeFunc l=> Q4U c l k H n
 | .beginRound=> Q5n c k H n
 | _=> none
def Q64 (P:Program) (c:CF) (H:Qax) (n:Nat):Option FS:=match c.defers with
 | d::ds=> match Qay H d with
   | some (.deferred (some []))=> some (.go {c with defers:=ds} (QeN H d (.deferred none)) n [d] [d])
   | _=> none
 | []=> match c.mode with
   | .pan v=> bif Q5J P c.fn then some (.done (.pan v) H n [] []) else none
   | _=> match c.roundOf,Q3v P c.fn H c.tmps with
     | none,some (v,R)=> some (.done (.ret v) H n R [])
     | _,_=> none
def Qm8 (P:Program) (F:FuncId->Bool) (orc:Orc) (rec:CF->Qax->Nat->Option Rs) (c:CF) (H:Qax) (n:Nat):Option FS:=
 match c.mode with
 | .run=> match c.todo with
   | []=> Qgh c H n none
   | it::k=> QqC P F orc rec c k H n it
 | _=> Q64 P c H n
theorem Qy8 (P:Program) (F:FuncId->Bool) (orc:Orc) (rec:CF->Qax->Nat->Option Rs) (c:CF) (H:Qax) (n:Nat):Qm8 P F orc rec c H n=QgU P F orc rec c H n:=by
 obtain ⟨fn,tmps,todo,defers,mode,ro⟩:=c;unfold Qm8 QgU;cases mode with
 | run=>
   cases todo with
   | nil=> rfl
   | cons it k=>
     cases it with
     | code cd=>
       cases cd with
       | region id ops draw=>
         simp only [QqC,Qrl,Qv0];cases Qw6 P F orc rec ops ops.toList tmps H n with
         | none=> rfl
         | some x=>
           obtain ⟨recs,fin⟩:=x;cases fin <;> rfl
       | rangeFunc f ps assign body=>
         simp only [QqC,Qrl,Q3h];cases evC tmps f with
         | none=> rfl
         | some fv=>
           simp only;cases Qdu ⟨fn,tmps,.code (.rangeFunc f ps assign body)::k,defers,.run,ro⟩ H n ps assign body with
           | none=> rfl
           | some x=>
             obtain ⟨H1,l,ds,R1⟩:=x;simp only;cases Qhl F H1 fv #[.func (.yield l) #[] #[]] with
             | none=> rfl
             | some y=>
               obtain ⟨nx,R2⟩:=y;cases nx with
               | enter g args=>
                 simp only;cases Qca P g args with
                 | none=> rfl
                 | some c1=>
                   simp only;cases rec c1 H1 (l+1) with
                   | none=> rfl
                   | some s=> obtain ⟨o,_,_,_,_⟩:=s;cases o <;> rfl
               | _=> rfl
       | cond x a b=>
         simp only [QqC,Qrl];cases evC tmps x with
         | none=> rfl
         | some v=> cases v <;> rfl
       | exit id=> simp only [QqC,Qrl];cases exitTo id k <;> rfl
       | goto id=> simp only [QqC,Qrl];cases gotoIn id k <;> rfl
       | _=> rfl
     | _=> rfl
 | ret=> rfl
 | pan v=> rfl
def Qgg (P:Program) (F:FuncId->Bool) (orc:Orc):Nat->Nat->CF->Qax->Nat->List Nat->List Nat->Option Rs
 | 0,_,_,_,_,_,_=> none
 | fuel+1,b,c,H,n,R,W=>
   match Qm8 P F orc (fun c1 H1 n1=> Qgg P F orc fuel n1 c1 H1 n1 [] []) c H n with
   | some (.go c' H' n' R' W')=> Qgg P F orc fuel b c' H' n' (Qdx b R' R) (Qdx b W' W)
   | some (.done out H' n' R' W')=> some ⟨out,H',n',Qdx b R' R,Qdx b W' W⟩
   | none=> none
theorem Qps (P:Program) (F:FuncId->Bool) (orc:Orc):∀(fuel b:Nat) (c:CF) (H:Qax) (n:Nat) (R W:List Nat),Qgg P F orc fuel b c H n R W=Q0Q P F orc fuel b c H n R W
 | 0,_,_,_,_,_,_=> rfl
 | fuel+1,b,c,H,n,R,W=> by
   simp only [Qgg,Q0Q,Qy8,Qps P F orc fuel];rfl
end Go.CE
