/- CE: the canonical machine a third time: by recursors alone where much time goes. -/
import Derived.Test.YtncjjangllkokaaZRP05
set_option linter.all false
namespace Go.CE
open Go Go.RowKit
noncomputable section

def QlM (t:Tri):Nat->Value:=Tri.rec (fun _=> undef) (fun _ v _ gl gr k=> Nat.rec v (fun j _=> Bool.rec (gr (Nat.div j 2)) (gl (Nat.div j 2)) (Nat.beq (Nat.mod j 2) 0)) k) t
theorem Qhr:∀(t:Tri) (k:Nat),QlM t k=t.get k
 | .lf,k=> by cases k <;> rfl
 | .nd l v r,0=> rfl
 | .nd l v r,k+1=> by
   show (Bool.rec (QlM r (k / 2)) (QlM l (k / 2)) (Nat.beq (k % 2) 0):Value)=bif Nat.beq (k % 2) 0 then l.get (k / 2) else r.get (k / 2);rw [Qhr l,Qhr r];cases Nat.beq (k % 2) 0 <;> rfl
def Qlj (f:Nat):Tri->Nat->Value->Tri:=Nat.rec (fun t _ _=> t) (fun _ ih t i x=> Tri.rec
 (Nat.rec (.nd .lf x .lf) (fun j _=> Bool.rec (.nd .lf undef (ih .lf (Nat.div j 2) x)) (.nd (ih .lf (Nat.div j 2) x) undef .lf) (Nat.beq (Nat.mod j 2) 0)) i)
 (fun l v r _ _=> Nat.rec (.nd l x r) (fun j _=> Bool.rec (.nd l v (ih r (Nat.div j 2) x)) (.nd (ih l (Nat.div j 2) x) v r) (Nat.beq (Nat.mod j 2) 0)) i) t) f
theorem QgV:∀(f:Nat) (t:Tri) (i:Nat) (x:Value),Qlj f t i x=Tri.set f t i x
 | 0,_,_,_=> rfl
 | f+1,.lf,0,x=> rfl
 | f+1,.nd l v r,0,x=> rfl
 | f+1,.lf,k+1,x=> by
   show (Bool.rec (Tri.nd .lf undef (Qlj f .lf (k / 2) x)) (Tri.nd (Qlj f .lf (k / 2) x) undef .lf) (Nat.beq (k % 2) 0):Tri)=bif Nat.beq (k % 2) 0 then .nd (Tri.set f .lf (k / 2) x) undef .lf else .nd .lf undef (Tri.set f .lf (k / 2) x);rw [QgV f];cases Nat.beq (k % 2) 0 <;> rfl
 | f+1,.nd l v r,k+1,x=> by
   show (Bool.rec (Tri.nd l v (Qlj f r (k / 2) x)) (Tri.nd (Qlj f l (k / 2) x) v r) (Nat.beq (k % 2) 0):Tri)=bif Nat.beq (k % 2) 0 then .nd (Tri.set f l (k / 2) x) v r else .nd l v (Tri.set f r (k / 2) x);rw [QgV f,QgV f];cases Nat.beq (k % 2) 0 <;> rfl
def evF (tr:Tri) (x:Operand):Option Value:=Operand.rec (fun t=> some (QlM tr t)) (fun v=> Bool.rec none (some v) (af v)) (fun _=> none) (fun f=> some (.func (.func f) #[] #[])) x
theorem Q1d (len:Nat) (tr:Tri):evF tr=evC ⟨len,tr⟩:=by
 funext x;cases x with
 | tmp t=> show some (QlM tr t)=some (tr.get t);rw [Qhr]
 | const v=> show (Bool.rec none (some v) (af v):Option Value)=bif af v then some v else none;cases af v <;> rfl
 | global g=> rfl
 | func f=> rfl
def Q35 (tr:Tri) (d:Option Tmp) (v:Value):Tri:=Option.rec tr (fun d=> Qlj 14 tr d v) d
theorem QwM (len:Nat) (tr:Tri) (d:Option Tmp) (v:Value):(⟨len,Q35 tr d v⟩:Tm)=QeV ⟨len,tr⟩ d v:=by
 cases d with
 | none=> rfl
 | some d=> show (⟨len,Qlj 14 tr d v⟩:Tm)=⟨len,tr.set 14 d v⟩;rw [QgV]
def Q3Z {α:Type} (l:List α):Nat->Option α:=List.rec (fun _=> none) (fun x _ ih k=> Nat.rec (some x) (fun j _=> ih j) k) l
theorem QvL {α:Type}:∀(l:List α) (k:Nat),Q3Z l k=l[k]?
 | [],k=> by cases k <;> rfl
 | x::l,0=> rfl
 | x::l,k+1=> by show Q3Z l k=_;rw [QvL l k];rfl
def Qtn (P:Program) (t:TypeId) (cs:Array Value) (off:Nat):Option Value:=
 Option.rec none (fun g=> Bool.rec (Q3Z cs.toList off) (Option.rec none (fun s=> Bool.rec none (some (.agg (cs.extract off (off+s)))) (Nat.ble (off+s) cs.size)) (QdK P t)) g) (Qv7 P t)
theorem Qph (P:Program) (t:TypeId) (cs:Array Value) (off:Nat):Qtn P t cs off=QeT P t cs off:=by
 unfold Qtn QeT;cases Qv7 P t with
 | none=> rfl
 | some g=>
   cases g with
   | false=> show Q3Z cs.toList off=_;rw [QvL,Array.getElem?_toList]
   | true=>
     cases QdK P t with
     | none=> rfl
     | some s=> simp only;cases Nat.ble (off+s) cs.size <;> rfl
def Qt7 (P:Program) (t:TypeId) (H:Qan) (p:Value):Option (Value×Nat):=match p with
 | .pointer (some ⟨b,off,none⟩)=> match Qao H b with
   | some (.cells cs _ _)=> match Qtn P t cs off with
     | some v=> some (v,b)
     | none=> none
   | _=> none
 | _=> none
theorem Qxm (P:Program) (t:TypeId) (H:Qan) (p:Value):Qt7 P t H p=QhQ P t H p:=by
 unfold Qt7 QhQ;simp only [Qph];rfl
def Qyy (p:Value->Bool) (l:List Value):Bool:=List.rec true (fun x _ ih=> Bool.rec false ih (p x)) l
theorem QkZ (p:Value->Bool):∀(l:List Value),Qyy p l=l.all p
 | []=> rfl
 | x::l=> by
   show (Bool.rec false (Qyy p l) (p x):Bool)=_;rw [QkZ p l,List.all_cons];cases p x <;> rfl
def Q2m (cs:Array Value):Bool:=Qyy (·.oneCell') cs.toList
theorem QyV (cs:Array Value):Q2m cs=ones cs:=by
 unfold Q2m ones;rw [QkZ,Array.all_toList]
def saF (v:Value):Bool:=match v with
 | .agg xs=> Qyy simple xs.toList
 | v=> simple v
theorem Q0O (v:Value):saF v=sa v:=by
 cases v <;> first | rfl | (show Qyy simple _=_;rw [QkZ,Array.all_toList];rfl)
def afF (v:Value):Bool:=match v with
 | .agg xs=> Qyy simple xs.toList
 | .tuple xs=> Qyy saF xs.toList
 | .iface _ v=> saF v
 | v=> simple v
theorem Q3d (v:Value):afF v=af v:=by
 cases v with
 | iface t v=> exact Q0O v
 | tuple xs=> show Qyy saF _=_;rw [show saF=sa from funext Q0O,QkZ,Array.all_toList];rfl
 | _=> first | rfl | (show Qyy simple _=_;rw [QkZ,Array.all_toList];rfl)
def Qnb (P:Program) (t:TypeId) (H:Qan) (v p:Value):Option (Qan×Nat):=match p with
 | .pointer (some ⟨b,off,none⟩)=> match Qao H b with
   | some (.cells cs te (0,0))=> match QdK P t with
     | some s=> bif Nat.beq v.cells.size s && Q2m v.cells && Nat.ble (off+s) cs.size then some (QeO H b (.cells (splice cs off v.cells) te (0,0)),b) else none
     | none=> none
   | _=> none
 | _=> none
theorem Qu3 (P:Program) (t:TypeId) (H:Qan) (v p:Value):Qnb P t H v p=Qgc P t H v p:=by
 unfold Qnb Qgc;simp only [QyV];rfl
def QlZ (P:Program) (t:TypeId) (f:Nat) (x:Value):Option Value:=match x with
 | .agg cs=> match und P t with
   | some (.struct fields)=> match fields[f]? with
     | some fd=> Qtn P fd.type cs fd.offset
     | none=> none
   | _=> none
 | _=> none
theorem Qun (P:Program) (t:TypeId) (f:Nat) (x:Value):QlZ P t f x=QlT P t f x:=by
 unfold QlZ QlT;simp only [Qph];rfl
def Qxn (ops:Array Oper) (tr:Tri) (j:Nat):Option Bool:=match nth ops.toList j with
 | some o=> match o.dst with
   | some t=> Qgb (QlM tr t)
   | none=> none
 | none=> none
theorem Qwm (len:Nat) (ops:Array Oper) (tr:Tri) (j:Nat):Qxn ops tr j=QaU ops ⟨len,tr⟩ j:=by
 unfold Qxn QaU;simp only [Qhr,Qch];rfl
def Q07 (ops:Array Oper) (tr:Tri) (g:Option (Nat×Bool)):Bool:=Option.rec true (fun jw=> Prod.rec (fun j w=> Option.rec false (fun b=> Bool.rec (Bool.rec true false w) (Bool.rec false true w) b) (Qxn ops tr j)) jw) g
theorem QzH (len:Nat) (ops:Array Oper) (tr:Tri) (o:Oper):Q07 ops tr o.guard=Region.wanted o (QaU ops ⟨len,tr⟩):=by
 unfold Q07 Region.wanted;cases o.guard with
 | none=> rfl
 | some jw=>
   obtain ⟨j,w⟩:=jw;simp only [Qwm len];cases QaU ops ⟨len,tr⟩ j with
   | none=> rfl
   | some b=> cases b <;> cases w <;> rfl
abbrev Ans:=Option (List Rec×RF)
abbrev KV:=Value->Qan->Nat->List Nat->List Nat->Ans
abbrev Arm:=Program->(FuncId->Bool)->Orc->(CF->Qan->Nat->Option Rs)->Nat->Tri->Oper->Qan->Nat->KV->KV->Ans
def fin (k kp:KV) (s:Option Rs):Ans:=match s with
 | some ⟨out,H,n,R,W⟩=> match out with
   | .ret v=> k v H n R W
   | .pan v=> kp v H n R W
 | none=> none
def pv (k:KV) (H:Qan) (n:Nat) (x:Option Value):Ans:=Option.rec none (fun v=> k v H n [] []) x
theorem Qiz (k kp:KV) (H:Qan) (n:Nat) (x:Option Value):fin k kp (qV x H n)=pv k H n x:=by cases x <;> rfl
def Q37 (x:Operand):Arm:=fun _ _ _ _ _ tr _ H n k _=> pv k H n (evF tr x)
def Q4m (c a b:Operand):Arm:=fun _ _ _ _ _ tr _ H n k _=> Option.rec none (fun v=> Option.rec none (fun t=> Bool.rec (pv k H n (evF tr b)) (pv k H n (evF tr a)) t) (Qgb v)) (evF tr c)
def Q4x (t:TypeId) (a:Operand):Arm:=fun P _ _ _ _ tr _ H n k _=> Option.rec none (fun p=> Option.rec none (fun vb=> Prod.rec (fun v b=> Bool.rec none (k v H n [b] []) (Nat.blt b n)) vb) (Qt7 P t H p)) (evF tr a)
def Q3Q (t:TypeId) (a x:Operand):Arm:=fun P _ _ _ _ tr _ H n k _=> Option.rec none (fun p=> Option.rec none (fun v=> Option.rec none (fun hb=> Prod.rec (fun H' b=> Bool.rec none (k undef H' n [b] [b]) (Nat.blt b n)) hb) (Qnb P t H v p)) (evF tr x)) (evF tr a)
def QuS (s:TypeId) (x:Operand) (f:Nat):Arm:=fun P _ _ _ _ tr _ H n k _=> Option.rec none (fun p=> pv k H n (QbC P s f p)) (evF tr x)
def Q34 (s:TypeId) (x:Operand) (f:Nat):Arm:=fun P _ _ _ _ tr _ H n k _=> Option.rec none (fun p=> pv k H n (QlZ P s f p)) (evF tr x)
def Qux (t:TypeId) (x i:Operand):Arm:=fun P _ _ _ _ tr _ H n k _=> Option.rec none (fun p=> Option.rec none (fun j=> pv k H n (Qd9 P t p j)) (evF tr i)) (evF tr x)
def Q0j (x:Operand) (i:Nat):Arm:=fun _ _ _ _ _ tr _ H n k _=> Option.rec none (fun p=> pv k H n (QfL i p)) (evF tr x)
def Q4G (op:BinOp) (_:TypeId) (x y:Operand) (_:TypeId):Arm:=fun P _ _ _ _ tr o H n k _=> Option.rec none (fun a=> Option.rec none (fun b=> Option.rec (pv k H n (QdQ P (evF tr) o)) (fun v=> k v H n [] []) (Q1P op a b)) (evF tr y)) (evF tr x)
def Q1C (v:Value) (r:CR) (k:KV) (H':Qan) (n':Nat) (R W:List Nat):Ans:=List.rec (Bool.rec (k v H' n' (r.R++R) (r.W++[])) (k v r.H n' (r.R++R) (r.W++[])) (afF v)) (fun _ _ _=> k v H' n' (r.R++R) (r.W++W)) W
def QzE (r:CR) (k kp:KV) (s:Option Rs):Ans:=Option.rec none (fun s=> Rs.rec (fun out H' n' R W=> OO.rec (fun v=> Q1C v r k H' n' R W) (fun v=> kp v H' n' (r.R++R) (r.W++W)) out) s) s
theorem Qyr (r:CR) (k kp:KV) (s:Option Rs):QzE r k kp s=fin k kp (match s with | some s=> Q2b r s | none=> none):=by
 cases s with
 | none=> rfl
 | some s=>
   obtain ⟨out,H',n',R,W⟩:=s;cases out with
   | pan v=>
     cases W with
     | nil=> rfl
     | cons a b=> rfl
   | ret v=>
     show Q1C v r k H' n' R W=_;unfold Q1C;cases W with
     | nil=>
       rw [Q3d];simp only [Q2b,Qeo];cases af v <;> rfl
     | cons a b=> rfl
def Qtz (P:Program) (orc:Orc) (rec:CF->Qan->Nat->Option Rs) (g:FuncId) (args:Array Value) (r:CR) (k kp:KV):Ans:=Option.rec (Option.rec none (fun c=> QzE r k kp (rec c r.H r.n)) (QbQ P g args)) (fun _=> fin k kp (Qt5 P orc rec g args r)) (orc g args r.H r.n)
theorem Qvq (P:Program) (orc:Orc) (rec:CF->Qan->Nat->Option Rs) (g:FuncId) (args:Array Value) (r:CR) (k kp:KV):Qtz P orc rec g args r k kp=fin k kp (Qt5 P orc rec g args r):=by
 unfold Qtz;cases ho:orc g args r.H r.n with
 | some x=> rfl
 | none=>
   unfold Qt5;rw [ho];show (Option.rec none (fun c=> QzE r k kp (rec c r.H r.n)) (QbQ P g args):Ans)=fin k kp (Q4w P rec g args r);unfold Q4w;cases QbQ P g args with
   | none=> rfl
   | some c=>
     show QzE r k kp (rec c r.H r.n)=_;rw [Qyr];rfl
def Q14 (P:Program) (orc:Orc) (rec:CF->Qan->Nat->Option Rs) (n:Nat) (x:Option CR) (k kp:KV):Ans:=Option.rec none (fun r=> CN.rec (fun _=> fin k kp (qR P orc rec n (some r))) (fun g args=> Bool.rec none (Qtz P orc rec g args r k kp) (r.R.all (fun i=> Nat.blt i n))) (fun _ _ _ _ _=> fin k kp (qR P orc rec n (some r))) r.nx) x
theorem QzQ (P:Program) (orc:Orc) (rec:CF->Qan->Nat->Option Rs) (n:Nat) (x:Option CR) (k kp:KV):Q14 P orc rec n x k kp=fin k kp (qR P orc rec n x):=by
 cases x with
 | none=> rfl
 | some r=>
   obtain ⟨nx,H',n',R,W⟩:=r;cases nx with
   | val v=> rfl
   | round l fn tm a b=> rfl
   | enter g args=>
     show (Bool.rec none (Qtz P orc rec g args ⟨.enter g args,H',n',R,W⟩ k kp) (R.all (fun i=> Nat.blt i n)):Ans)=_;rw [Qvq];simp only [qR];cases R.all (fun i=> Nat.blt i n) <;> rfl
def Q4p (c:Call):Arm:=fun P F orc rec _ tr o H n k kp=> Q14 P orc rec n (Qj6 P F (evF tr) o c H n) k kp
def QfZ:Arm:=fun P F orc rec len tr o H n k kp=> fin k kp (opQ P F orc rec ⟨len,tr⟩ o H n)
def opF (op:Op):Arm:=Op.rec Q37 Q37 Q4m (fun _=> QfZ) (fun _ _=> QfZ) (fun _ _=> QfZ) (fun _ _ _=> QfZ) (fun _ _ _ _=> QfZ) Q4x Q3Q (fun _=> QfZ) (fun _=> QfZ) (fun _=> QfZ) Q4G (fun _ _ _=> QfZ) (fun _ _ _=> QfZ) (fun _ _=> QfZ) (fun _ _=> QfZ)
 (fun _ _ _=> QfZ) (fun _ _=> QfZ) (fun _ _=> QfZ) (fun _ _ _=> QfZ) (fun _ _ _ _ _=> QfZ) QuS Q34 Qux (fun _ _ _=> QfZ) (fun _ _ _ _=> QfZ) (fun _ _ _ _=> QfZ) (fun _ _ _=> QfZ) (fun _ _ _ _=> QfZ) (fun _ _=> QfZ) (fun _ _=> QfZ) (fun _=> QfZ) (fun _ _ _ _=> QfZ)
 Q0j Q4p (fun _=> QfZ) (fun _=> QfZ) (fun _=> QfZ) (fun _ _=> QfZ) (fun _ _ _=> QfZ) (fun _ _=> QfZ) op
theorem Q3q (P:Program) (F:FuncId->Bool) (orc:Orc) (rec:CF->Qan->Nat->Option Rs) (len:Nat) (tr:Tri) (o:Oper) (H:Qan) (n:Nat) (k kp:KV):opF o.op P F orc rec len tr o H n k kp=fin k kp (opQ P F orc rec ⟨len,tr⟩ o H n):=by
 have e:=Q1d len tr;cases hp:o.op with
 | move x=> show pv k H n (evF tr x)=_;rw [e];unfold opQ;simp only [hp];exact (Qiz k kp H n _).symm
 | assign x=> show pv k H n (evF tr x)=_;rw [e];unfold opQ;simp only [hp];exact (Qiz k kp H n _).symm
 | pick c a b=>
   show (Option.rec none (fun v=> Option.rec none (fun t=> Bool.rec (pv k H n (evF tr b)) (pv k H n (evF tr a)) t) (Qgb v)) (evF tr c):Ans)=_;rw [e];unfold opQ;simp only [hp];cases evC ⟨len,tr⟩ c with
   | none=> rfl
   | some v=>
     cases v with
     | bool t=> cases t <;> exact (Qiz k kp H n _).symm
     | _=> rfl
 | load t a=>
   show (Option.rec none (fun p=> Option.rec none (fun vb=> Prod.rec (fun v b=> Bool.rec none (k v H n [b] []) (Nat.blt b n)) vb) (Qt7 P t H p)) (evF tr a):Ans)=_;simp only [Qxm];rw [e];unfold opQ;simp only [hp];cases evC ⟨len,tr⟩ a with
   | none=> rfl
   | some p=>
     simp only [Q1J];cases QhQ P t H p with
     | none=> rfl
     | some vb=>
       obtain ⟨v,b⟩:=vb;cases hb:Nat.blt b n <;> simp [qR,fin,Q08,hb]
 | store t a x=>
   show (Option.rec none (fun p=> Option.rec none (fun v=> Option.rec none (fun hb=> Prod.rec (fun H' b=> Bool.rec none (k undef H' n [b] [b]) (Nat.blt b n)) hb) (Qnb P t H v p)) (evF tr x)) (evF tr a):Ans)=_;simp only [Qu3];rw [e];unfold opQ;simp only [hp];cases evC ⟨len,tr⟩ a with
   | none=> rfl
   | some p=>
     cases evC ⟨len,tr⟩ x with
     | none=> rfl
     | some v=>
       simp only [QwB];cases Qgc P t H v p with
       | none=> rfl
       | some vb=>
         obtain ⟨H',b⟩:=vb;cases hb:Nat.blt b n <;> simp [qR,fin,Q08,hb]
 | fieldAddr s x f=>
   show (Option.rec none (fun p=> pv k H n (QbC P s f p)) (evF tr x):Ans)=_;rw [e];unfold opQ;simp only [hp];cases evC ⟨len,tr⟩ x with
   | none=> rfl
   | some p=> simp only [Qh6,Qfr];exact (Qiz k kp H n _).symm
 | field s x f=>
   show (Option.rec none (fun p=> pv k H n (QlZ P s f p)) (evF tr x):Ans)=_;simp only [Qun];rw [e];unfold opQ;simp only [hp];cases evC ⟨len,tr⟩ x with
   | none=> rfl
   | some p=> simp only [QvV,Qfr];exact (Qiz k kp H n _).symm
 | indexAddr t x i=>
   show (Option.rec none (fun p=> Option.rec none (fun j=> pv k H n (Qd9 P t p j)) (evF tr i)) (evF tr x):Ans)=_;rw [e];unfold opQ;simp only [hp];cases evC ⟨len,tr⟩ x with
   | none=> rfl
   | some p=>
     cases evC ⟨len,tr⟩ i with
     | none=> rfl
     | some j=> simp only [QhR,Qfr];exact (Qiz k kp H n _).symm
 | extract x i=>
   show (Option.rec none (fun p=> pv k H n (QfL i p)) (evF tr x):Ans)=_;rw [e];unfold opQ;simp only [hp];cases evC ⟨len,tr⟩ x with
   | none=> rfl
   | some p=> simp only [Qoj,Qfr];exact (Qiz k kp H n _).symm
 | binOp op t x y t'=>
   show (Option.rec none (fun a=> Option.rec none (fun b=> Option.rec (pv k H n (QdQ P (evF tr) o)) (fun v=> k v H n [] []) (Q1P op a b)) (evF tr y)) (evF tr x):Ans)=_;rw [e];unfold opQ;simp only [hp];cases evC ⟨len,tr⟩ x with
   | none=> rfl
   | some a=>
     cases evC ⟨len,tr⟩ y with
     | none=> rfl
     | some b=>
       simp only [Q4r];cases Q1P op a b with
       | none=> simp only [Qfr];exact (Qiz k kp H n _).symm
       | some v=> rfl
 | call c=> show Q14 P orc rec n (Qj6 P F (evF tr) o c H n) k kp=_;rw [QzQ,e];unfold opQ;simp only [hp]
 | _=> rfl
def Q09 (r:Rec) (x:Ans):Ans:=Option.rec none (fun p=> Prod.rec (fun rs f=> some (r::rs,f)) p) x
def Qzs (P:Program) (F:FuncId->Bool) (orc:Orc) (rec:CF->Qan->Nat->Option Rs) (len:Nat) (ops:Array Oper) (l:List Oper):Tri->Qan->Nat->Ans:=
 List.rec (fun tr H n=> some ([],.ok ⟨len,tr⟩ H n)) (fun o _ ih tr H n=> Bool.rec
  (Q09 ⟨o,false,undef,⟨len,tr⟩,H,H,n,n,[],[]⟩ (ih (Q35 tr o.dst undef) H n))
  (opF o.op P F orc rec len tr o H n (fun v H' n' R W=> Q09 ⟨o,true,v,⟨len,tr⟩,H,H',n,n',R,W⟩ (ih (Q35 tr o.dst v) H' n')) (fun v H' n' R W=> some ([],.pan ⟨len,tr⟩ v H' n' R W)))
  (Q07 ops tr o.guard)) l
def QsP (len:Nat) (l:List Oper):Bool:=l.all fun o=> Qg4 ⟨len,.lf⟩ o.dst
theorem Qtt (P:Program) (F:FuncId->Bool) (orc:Orc) (rec:CF->Qan->Nat->Option Rs) (len:Nat) (ops:Array Oper):∀(l:List Oper) (tr:Tri) (H:Qan) (n:Nat),QsP len l=true->Qzs P F orc rec len ops l tr H n=Qg1 P F orc rec ops l ⟨len,tr⟩ H n
 | [],_,_,_,_=> rfl
 | o::l,tr,H,n,hd=> by
   simp only [QsP,List.all_cons,YB] at hd;have hd1:Qg4 ⟨len,tr⟩ o.dst=true:=by
    have:=hd.1;cases hq:o.dst with
    | none=> rfl
    | some x=> rw [hq] at this;exact this
   have ih:=Qtt P F orc rec len ops l;show (Bool.rec (Q09 ⟨o,false,undef,⟨len,tr⟩,H,H,n,n,[],[]⟩ (Qzs P F orc rec len ops l (Q35 tr o.dst undef) H n))
    (opF o.op P F orc rec len tr o H n (fun v H' n' R W=> Q09 ⟨o,true,v,⟨len,tr⟩,H,H',n,n',R,W⟩ (Qzs P F orc rec len ops l (Q35 tr o.dst v) H' n')) (fun v H' n' R W=> some ([],.pan ⟨len,tr⟩ v H' n' R W)))
    (Q07 ops tr o.guard):Ans)=_
   rw [QzH len];simp only [Qg1,hd1,cond_true];cases Region.wanted o (QaU ops ⟨len,tr⟩) with
   | false=>
     simp only [cond_false];rw [ih _ _ _ hd.2,QwM];cases Qg1 P F orc rec ops l (QeV ⟨len,tr⟩ o.dst undef) H n <;> rfl
   | true=>
     simp only [cond_true,Q3q];cases opQ P F orc rec ⟨len,tr⟩ o H n with
     | none=> rfl
     | some s=>
       obtain ⟨out,H',n',R,W⟩:=s;cases out with
       | pan v=> rfl
       | ret v=>
         simp only [fin];rw [ih _ _ _ hd.2,QwM];cases Qg1 P F orc rec ops l (QeV ⟨len,tr⟩ o.dst v) H' n' <;> rfl
def Qhp (ops:Array Oper) (o:Oper) (k:Nat):List Oper->List (List Nat)->Bool
 | x::l,b::bs=> (b.contains k || o.apart ops x) && Qhp ops o k l bs
 | [],_=> true
 | _::_,[]=> false
def stat (ops:Array Oper):Nat->List Oper->List (List Nat)->Bool
 | k,o::l,_::bs=> Qhp ops o k l bs && stat ops (k+1) l bs
 | _,[],_=> true
 | _,_::_,[]=> false
def Qly (i:Nat) (l:List Nat):Bool:=List.rec false (fun j _ ih=> Bool.rec ih true (Nat.beq i j)) l
theorem QiR (i:Nat):∀(l:List Nat),Qly i l=l.contains i
 | []=> rfl
 | j::l=> by
   show (Bool.rec (Qly i l) true (Nat.beq i j):Bool)=_;rw [QiR i l,List.contains_cons];by_cases e:i=j
   ·subst e;rw [Nat.beq_refl];simp
   ·rw [QgE e];simp [e]
def Qte (W R:List Nat):Bool:=List.rec false (fun i _ ih=> Bool.rec ih true (Qly i R)) W
theorem Qkp (R:List Nat):∀(W:List Nat),Qte W R=W.any fun i=> R.contains i
 | []=> rfl
 | i::W=> by
   show (Bool.rec (Qte W R) true (Qly i R):Bool)=_;rw [Qkp R W,QiR,List.any_cons];cases R.contains i <;> rfl
def Qs6 (lo hi:Nat) (R:List Nat):Bool:=List.rec false (fun i _ ih=> Bool.rec ih (Bool.rec ih true (Nat.blt i hi)) (Nat.ble lo i)) R
theorem QoG (lo hi:Nat):∀(R:List Nat),Qs6 lo hi R=R.any fun i=> Nat.ble lo i && Nat.blt i hi
 | []=> rfl
 | i::R=> by
   show (Bool.rec (Qs6 lo hi R) (Bool.rec (Qs6 lo hi R) true (Nat.blt i hi)) (Nat.ble lo i):Bool)=_;rw [QoG lo hi R,List.any_cons];cases Nat.ble lo i <;> cases Nat.blt i hi <;> rfl
def clear (r x:Rec):Bool:=Bool.rec (Bool.rec (Bool.rec true false (Qs6 r.n r.n' x.R)) false (Qte x.W r.R)) false (Qte r.W x.R)
theorem Qum {ops:Array Oper} {r x:Rec} (h:clear r x=true) (ha:r.o.apart ops x.o=true):tied ops r x=false:=by
 unfold clear at h;rw [QoG,Qkp,Qkp] at h;unfold tied meets bears;rw [ha];revert h;cases r.W.any fun i=> x.R.contains i <;> cases x.W.any fun i=> r.R.contains i <;> cases x.R.any fun i=> Nat.ble r.n i && Nat.blt i r.n' <;> simp
def Qgh (r:Rec) (k:Nat) (l:List Rec):List (List Nat)->Bool:=List.rec (fun _=> true) (fun x _ ih bs=> List.rec false (fun b bs' _=> Bool.rec (Bool.rec false (ih bs') (Qly k b)) (ih bs') (clear r x)) bs) l
def dyn (l:List Rec):Nat->List (List Nat)->Bool:=List.rec (fun _ _=> true) (fun r l ih k bs=> List.rec false (fun _ bs' _=> Bool.rec false (ih (k+1) bs') (Qgh r k l bs')) bs) l
theorem QkA {ops:Array Oper} {r:Rec} (k:Nat):∀(l:List Rec) (bs:List (List Nat)),Qgh r k l bs=true->Qhp ops r.o k (l.map (·.o)) bs=true->Qdm ops r k l bs=true
 | [],_,_,_=> by simp [Qdm]
 | x::l,[],_,h=> by simp [Qhp] at h
 | x::l,b::bs,hd,h=> by
   simp only [List.map_cons,Qhp,YB,Bool.or_eq_true] at h;simp only [Qdm,YB,Bool.or_eq_true,Bool.not_eq_true'];have hd:(Bool.rec (Bool.rec false (Qgh r k l bs) (Qly k b)) (Qgh r k l bs) (clear r x):Bool)=true:=hd;cases hc:clear r x with
   | true=>
     rw [hc] at hd;exact ⟨h.1.imp id fun ha=> Qum hc ha,QkA k l bs hd h.2⟩
   | false=>
     rw [hc] at hd;have hd:(Bool.rec false (Qgh r k l bs) (Qly k b):Bool)=true:=hd;cases he:Qly k b with
     | false=> rw [he] at hd;cases hd
     | true=>
       rw [he] at hd;rw [QiR] at he;exact ⟨.inl he,QkA k l bs hd h.2⟩
theorem QlS {ops:Array Oper}:∀(l:List Rec) (bs:List (List Nat)) (k:Nat),dyn l k bs=true->stat ops k (l.map (·.o)) bs=true->indep ops k l bs=true
 | [],_,_,_,_=> by simp [indep]
 | x::l,[],_,_,h=> by simp [stat] at h
 | x::l,b::bs,k,hd,h=> by
   simp only [List.map_cons,stat,YB] at h;simp only [indep,YB];have hd:(Bool.rec false (dyn l (k+1) bs) (Qgh x k l bs):Bool)=true:=hd;cases hc:Qgh x k l bs with
   | false=> rw [hc] at hd;cases hd
   | true=>
     rw [hc] at hd;exact ⟨QkA k l bs hc h.1,QlS l bs (k+1) hd h.2⟩
theorem QkM {P:Program} {F:FuncId->Bool} {orc:Orc} {rec:CF->Qan->Nat->Option Rs} {ops:Array Oper}:∀(l:List Oper) (T:Tm) (H:Qan) (n:Nat) (recs:List Rec) (T':Tm) (H':Qan) (n':Nat),Qg1 P F orc rec ops l T H n=some (recs,.ok T' H' n')->recs.map (·.o)=l
 | [],T,H,n,recs,T',H',n',h=> by
   simp only [Qg1,YO,YR] at h;rw [<-h.1];rfl
 | o::l,T,H,n,recs,T',H',n',h=> by
   simp only [Qg1] at h;have h:=QdG h;cases hw:Region.wanted o (QaU ops T) with
   | true=>
     rw [hw] at h;simp only [cond_true] at h;split at h
     ·split at h
      ·split at h
       ·rename_i rs f hr;simp only [YO,YR] at h;obtain ⟨rfl,rfl⟩:=h;simp [QkM l _ _ _ _ _ _ _ hr]
       ·cases h
      ·simp only [YO,YR] at h;cases h.2
     ·cases h
   | false=>
     rw [hw] at h;simp only [cond_false] at h;split at h
     ·rename_i rs f hr;simp only [YO,YR] at h;obtain ⟨rfl,rfl⟩:=h;simp [QkM l _ _ _ _ _ _ _ hr]
     ·cases h
def QrS (ops:Array Oper):Bool:=Qcw 0 ops.toList && stat ops 0 ops.toList (QiG ops.toList [])
def chk (ops:Array Oper) (recs:List Rec) (draw:Bool):Bool:=Bool.rec true (Bool.rec (Qcw 0 ops.toList && indep ops 0 recs (QiG ops.toList [])) (Bool.rec (Qcw 0 ops.toList && indep ops 0 recs (QiG ops.toList [])) true (dyn recs 0 (QiG ops.toList []))) (QrS ops)) draw
theorem Q2O {ops:Array Oper} {recs:List Rec} {draw:Bool} (h:recs.map (·.o)=ops.toList):chk ops recs draw=(!draw || (Qcw 0 ops.toList && indep ops 0 recs (QiG ops.toList []))):=by
 unfold chk;cases draw with
 | false=> rfl
 | true=>
   simp only [Bool.not_true,Bool.false_or];cases hs:QrS ops with
   | false=> rfl
   | true=>
     cases hc:dyn recs 0 (QiG ops.toList []) with
     | false=> rfl
     | true=>
       unfold QrS at hs;simp only [YB] at hs;rw [hs.1,QlS recs _ 0 hc (by rw [h];exact hs.2)];rfl
def QoJ (b:Nat) (l:List Nat):List Nat->List Nat:=List.rec (fun acc=> acc) (fun x _ ih acc=> Bool.rec (ih acc) (Bool.rec (ih (x::acc)) (ih acc) (Qly x acc)) (Nat.blt x b)) l
theorem QiQ (b:Nat):∀(l acc:List Nat),QoJ b l acc=Qdf b l acc
 | [],_=> rfl
 | x::l,acc=> by
   show (Bool.rec (QoJ b l acc) (Bool.rec (QoJ b l (x::acc)) (QoJ b l acc) (Qly x acc)) (Nat.blt x b):List Nat)=_;rw [QiQ b l,QiQ b l,QiR,Qdf];cases Nat.blt x b <;> cases acc.contains x <;> rfl
theorem Qnp (b:Nat):∀(l m acc:List Nat),Qdf b (l++m) acc=Qdf b m (Qdf b l acc)
 | [],_,_=> rfl
 | x::l,m,acc=> by simp only [List.cons_append,Qdf];exact Qnp b l m _
def Q4v (b:Nat) (recs:List Rec):List Nat->List Nat:=List.rec (fun acc=> acc) (fun r _ ih acc=> ih (QoJ b r.R acc)) recs
theorem Qvv (b:Nat):∀(recs:List Rec) (acc:List Nat),Q4v b recs acc=Qdf b (QgJ recs) acc
 | [],_=> rfl
 | r::l,acc=> by
   show Q4v b l (QoJ b r.R acc)=_;rw [Qvv b l,QiQ,show QgJ (r::l)=r.R++QgJ l from List.flatMap_cons,Qnp]
def Q40 (b:Nat) (recs:List Rec):List Nat->List Nat:=List.rec (fun acc=> acc) (fun r _ ih acc=> ih (QoJ b r.W acc)) recs
theorem QvO (b:Nat):∀(recs:List Rec) (acc:List Nat),Q40 b recs acc=Qdf b (QeY recs) acc
 | [],_=> rfl
 | r::l,acc=> by
   show Q40 b l (QoJ b r.W acc)=_;rw [QvO b l,QiQ,show QeY (r::l)=r.W++QeY l from List.flatMap_cons,Qnp]
def Q23 (P:Program) (F:FuncId->Bool) (orc:Orc) (rec:CF->Qan->Nat->Option Rs) (len:Nat) (tr:Tri) (ops:Array Oper) (H:Qan) (n:Nat):Ans:=
 Bool.rec (Qg1 P F orc rec ops ops.toList ⟨len,tr⟩ H n) (Qzs P F orc rec len ops ops.toList tr H n) (QsP len ops.toList)
theorem Q0h (P:Program) (F:FuncId->Bool) (orc:Orc) (rec:CF->Qan->Nat->Option Rs) (len:Nat) (tr:Tri) (ops:Array Oper) (H:Qan) (n:Nat):Q23 P F orc rec len tr ops H n=Qg1 P F orc rec ops ops.toList ⟨len,tr⟩ H n:=by
 unfold Q23;cases hd:QsP len ops.toList with
 | false=> rfl
 | true=> exact Qtt P F orc rec len ops _ _ _ _ hd
abbrev Run:=Nat->FuncId->Nat->Tri->List Item->List Nat->Option Nat->Qan->Nat->List Nat->List Nat->Option Rs
def Q45 (P:Program) (F:FuncId->Bool) (orc:Orc) (fuel:Nat) (ih:Run) (c1:CF) (H1:Qan) (n1:Nat):Option Rs:=
 CF.rec (fun fn T todo ds mode ro=> CM.rec (Tm.rec (fun len tr=> ih n1 fn len tr todo ds ro H1 n1 [] []) T) (QfV P F orc fuel n1 ⟨fn,T,todo,ds,.ret,ro⟩ H1 n1 [] []) (fun v=> QfV P F orc fuel n1 ⟨fn,T,todo,ds,.pan v,ro⟩ H1 n1 [] []) mode) c1
def goF (P:Program) (F:FuncId->Bool) (orc:Orc) (fuel:Nat) (ih:Run) (b:Nat) (c1:CF) (H1:Qan) (n1:Nat) (R W:List Nat):Option Rs:=
 CF.rec (fun fn T todo ds mode ro=> CM.rec (Tm.rec (fun len tr=> ih b fn len tr todo ds ro H1 n1 R W) T) (QfV P F orc fuel b ⟨fn,T,todo,ds,.ret,ro⟩ H1 n1 R W) (fun v=> QfV P F orc fuel b ⟨fn,T,todo,ds,.pan v,ro⟩ H1 n1 R W) mode) c1
def resume (P:Program) (F:FuncId->Bool) (orc:Orc) (fuel:Nat) (ih:Run) (b:Nat) (R W:List Nat) (x:Option FS):Option Rs:=
 Option.rec none (fun fs=> FS.rec (fun c' H' n' R' W'=> goF P F orc fuel ih b c' H' n' (Qdf b R' R) (Qdf b W' W)) (fun out H' n' R' W'=> some ⟨out,H',n',Qdf b R' R,Qdf b W' W⟩) fs) x
abbrev ItA:=Program->(FuncId->Bool)->Orc->Nat->Run->Nat->FuncId->Nat->Tri->List Item->List Nat->Option Nat->Qan->Nat->List Nat->List Nat->Option Rs
def QhJ (it:Item):ItA:=fun P F orc fuel ih b fn len tr k ds ro H n R W=> resume P F orc fuel ih b R W (QlA P F orc (Q45 P F orc fuel ih) ⟨fn,⟨len,tr⟩,it::k,ds,.run,ro⟩ H n)
def Qz3:ItA:=fun _ _ _ _ ih b fn len tr k ds ro H n R W=> ih b fn len tr k ds ro H n R W
def Q4J (x y:Code):ItA:=fun _ _ _ _ ih b fn len tr k ds ro H n R W=> ih b fn len tr (.code x::.code y::k) ds ro H n R W
def Q4s (q:Operand) (x y:Code):ItA:=fun _ _ _ _ ih b fn len tr k ds ro H n R W=> Option.rec none (fun v=> Option.rec none (fun t=> Bool.rec (ih b fn len tr (.code y::k) ds ro H n R W) (ih b fn len tr (.code x::k) ds ro H n R W) t) (Qgb v)) (evF tr q)
def Q3i (id:Nat) (x:Code):ItA:=fun _ _ _ _ ih b fn len tr k ds ro H n R W=> ih b fn len tr (.code x::.inBlock id::k) ds ro H n R W
def Q3L (x:Code):ItA:=fun _ _ _ _ ih b fn len tr k ds ro H n R W=> ih b fn len tr (.code x::.inLoop x::k) ds ro H n R W
def Q3o (x:Code):ItA:=fun _ _ _ _ ih b fn len tr k ds ro H n R W=> ih b fn len tr (.code x::.inScope x::k) ds ro H n R W
def Qsr (id:Nat) (ops:Array Oper) (draw:Bool):ItA:=fun P F orc fuel ih b fn len tr k ds ro H n R W=>
 Option.rec none (fun p=> Prod.rec (fun recs f=> RF.rec (fun T' H' n'=> Bool.rec none (Tm.rec (fun len' tr'=> ih b fn len' tr' k ds ro H' n' (Q4v b recs R) (Q40 b recs W)) T') (chk ops recs draw))
  (fun T' v H' n' R1 W1=> resume P F orc fuel ih b R W (Q4o ⟨fn,⟨len,tr⟩,.code (.region id ops draw)::k,ds,.run,ro⟩ ops draw k (some (recs,.pan T' v H' n' R1 W1)))) f) p) (Q23 P F orc (Q45 P F orc fuel ih) len tr ops H n)
def codeF (cd:Code):ItA:=Code.rec Qz3 Qsr (fun x y _ _=> Q4J x y) (fun q x y _ _=> Q4s q x y) (fun id x _=> Q3i id x) (fun x _=> Q3L x) (fun f ps x y _ _=> QhJ (.code (.rangeFunc f ps x y))) (fun id=> QhJ (.code (.exit id))) (fun x _=> Q3o x) (fun _=> Qz3) (fun l=> QhJ (.code (.goto l))) (QhJ (.code .ret)) (fun w=> QhJ (.code (.refuse w))) cd
def Q3M (it:Item):ItA:=Item.rec codeF (fun _=> Qz3) Q3L (fun _=> Qz3) (fun a b=> QhJ (.inRegion a b)) (fun l=> QhJ (.inRangeFunc l)) (fun l=> QhJ (.endRangeFunc l)) (QhJ .beginRound) (fun a b c d=> QhJ (.call a b c d)) (fun a b=> QhJ (.extern a b)) it
def Qkl (P:Program) (F:FuncId->Bool) (orc:Orc) (fuel:Nat):Run:=Nat.rec (fun _ _ _ _ _ _ _ _ _ _ _=> none) (fun fuel ih b fn len tr todo ds ro H n R W=>
 List.rec (resume P F orc fuel ih b R W (Qgd ⟨fn,⟨len,tr⟩,[],ds,.run,ro⟩ H n none)) (fun it k _=> Q3M it P F orc fuel ih b fn len tr k ds ro H n R W) todo) fuel
theorem QmS (P:Program) (F:FuncId->Bool) (orc:Orc):∀(fuel b:Nat) (fn:FuncId) (len:Nat) (tr:Tri) (todo:List Item) (ds:List Nat) (ro:Option Nat) (H:Qan) (n:Nat) (R W:List Nat),Qkl P F orc fuel b fn len tr todo ds ro H n R W=QfV P F orc fuel b ⟨fn,⟨len,tr⟩,todo,ds,.run,ro⟩ H n R W
 | 0,_,_,_,_,_,_,_,_,_,_,_=> rfl
 | fuel+1,b,fn,len,tr,todo,ds,ro,H,n,R,W=> by
   have hih:∀(b:Nat) (fn:FuncId) (len:Nat) (tr:Tri) (todo:List Item) (ds:List Nat) (ro:Option Nat) (H:Qan) (n:Nat) (R W:List Nat),Qkl P F orc fuel b fn len tr todo ds ro H n R W=QfV P F orc fuel b ⟨fn,⟨len,tr⟩,todo,ds,.run,ro⟩ H n R W:=QmS P F orc fuel;have hrec:Q45 P F orc fuel (Qkl P F orc fuel)=fun c1 H1 n1=> QfV P F orc fuel n1 c1 H1 n1 [] []:=by
    funext c1 H1 n1;obtain ⟨fn,⟨len,tr⟩,todo,ds,mode,ro⟩:=c1;cases mode with
    | run=> exact hih _ _ _ _ _ _ _ _ _ _ _
    | ret=> rfl
    | pan v=> rfl
   have hres:∀(R W:List Nat) (x:Option FS),resume P F orc fuel (Qkl P F orc fuel) b R W x=match x with
    | some (.go c' H' n' R' W')=> QfV P F orc fuel b c' H' n' (Qdf b R' R) (Qdf b W' W)
    | some (.done out H' n' R' W')=> some ⟨out,H',n',Qdf b R' R,Qdf b W' W⟩
    | none=> none:=by
    intro R W x;cases x with
    | none=> rfl
    | some fs=>
      cases fs with
      | done out H' n' R' W'=> rfl
      | go c' H' n' R' W'=>
        obtain ⟨fn,⟨len,tr⟩,todo,ds,mode,ro⟩:=c';cases mode with
        | run=> exact hih _ _ _ _ _ _ _ _ _ _ _
        | ret=> rfl
        | pan v=> rfl
   have hslow:∀(it:Item) (k:List Item),QhJ it P F orc fuel (Qkl P F orc fuel) b fn len tr k ds ro H n R W=QfV P F orc (fuel+1) b ⟨fn,⟨len,tr⟩,it::k,ds,.run,ro⟩ H n R W:=by
    intro it k;unfold QhJ;rw [hres,hrec];rfl
   cases todo with
   | nil=> exact hres R W _
   | cons it k=>
     show Q3M it P F orc fuel (Qkl P F orc fuel) b fn len tr k ds ro H n R W=_;cases it with
     | code cd=>
       cases cd with
       | skip=> exact hih _ _ _ _ _ _ _ _ _ _ _
       | label l=> exact hih _ _ _ _ _ _ _ _ _ _ _
       | seq x y=> exact hih _ _ _ _ _ _ _ _ _ _ _
       | block id x=> exact hih _ _ _ _ _ _ _ _ _ _ _
       | loop x=> exact hih _ _ _ _ _ _ _ _ _ _ _
       | scope x=> exact hih _ _ _ _ _ _ _ _ _ _ _
       | cond q x y=>
         show (Option.rec none (fun v=> Option.rec none (fun t=> Bool.rec (Qkl P F orc fuel b fn len tr (.code y::k) ds ro H n R W) (Qkl P F orc fuel b fn len tr (.code x::k) ds ro H n R W) t) (Qgb v)) (evF tr q):Option Rs)=_;rw [Q1d len tr,hih,hih];simp only [QfV,QlA,Qo5,Qo2];cases evC ⟨len,tr⟩ q with
         | none=> rfl
         | some v=>
           cases v with
           | bool t=> cases t <;> rfl
           | _=> rfl
       | region id ops draw=>
         show Qsr id ops draw P F orc fuel (Qkl P F orc fuel) b fn len tr k ds ro H n R W=_;unfold Qsr;rw [Q0h,hrec];simp only [QfV,QlA,Qo5,Qo2,Qvv,QvO];cases hrr:Qg1 P F orc (fun c1 H1 n1=> QfV P F orc fuel n1 c1 H1 n1 [] []) ops ops.toList ⟨len,tr⟩ H n with
         | none=> rfl
         | some p=>
           obtain ⟨recs,f⟩:=p;cases f with
           | pan v H' n' R1 W1=> exact hres R W _
           | ok T' H' n'=>
             have hck:=Q2O (draw:=draw) (QkM _ _ _ _ _ _ _ _ hrr);obtain ⟨len',tr'⟩:=T';simp only [Q4o];rw [hck];cases !draw || (Qcw 0 ops.toList && indep ops 0 recs (QiG ops.toList [])) with
             | false=> rfl
             | true=> exact hih _ _ _ _ _ _ _ _ _ _ _
       | rangeFunc f ps x y=> exact hslow _ k
       | exit id=> exact hslow _ k
       | goto id=> exact hslow _ k
       | ret=> exact hslow _ k
       | refuse w=> exact hslow (.code (.refuse w)) k
     | inBlock id=> exact hih _ _ _ _ _ _ _ _ _ _ _
     | inScope x=> exact hih _ _ _ _ _ _ _ _ _ _ _
     | inLoop x=> exact hih _ _ _ _ _ _ _ _ _ _ _
     | inRegion a b=> exact hslow _ k
     | inRangeFunc l=> exact hslow _ k
     | endRangeFunc l=> exact hslow _ k
     | beginRound=> exact hslow _ k
     | call a b c d=> exact hslow _ k
     | extern a b=> exact hslow _ k
end
end Go.CE
