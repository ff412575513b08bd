/- CE: the canonical machine a third time: by recursors alone where much time goes. -/
import Derived.Test.YtiabgkiccaodmaaGreatZMO04
set_option linter.all false
namespace Go.CE
open Go Go.RowKit
noncomputable section

def Qon (t:Tri):Nat->Value:=Tri.rec (fun _=> undef) (fun _ v _ gl gr k=> Nat.rec v (fun j _=> Bool.rec (gr (Nat.div j 2)) (gl (Nat.div j 2)) (Nat.beq (Nat.mod j 2) 0)) k) t
theorem Qih:∀(t:Tri) (k:Nat),Qon t k=t.get k
 | .lf,k=> by cases k <;> rfl
 | .nd l v r,0=> rfl
 | .nd l v r,k+1=> by
   show (Bool.rec (Qon r (k / 2)) (Qon l (k / 2)) (Nat.beq (k % 2) 0):Value)=bif Nat.beq (k % 2) 0 then l.get (k / 2) else r.get (k / 2);rw [Qih l,Qih r];cases Nat.beq (k % 2) 0 <;> rfl
def QlP (f:Nat):Tri->Nat->Value->Tri:=Nat.rec (fun t _ _=> t) (fun _ ih t i x=> Tri.rec
 (Nat.rec (.nd .lf x .lf) (fun j _=> Bool.rec (.nd .lf undef (ih .lf (Nat.div j 2) x)) (.nd (ih .lf (Nat.div j 2) x) undef .lf) (Nat.beq (Nat.mod j 2) 0)) i)
 (fun l v r _ _=> Nat.rec (.nd l x r) (fun j _=> Bool.rec (.nd l v (ih r (Nat.div j 2) x)) (.nd (ih l (Nat.div j 2) x) v r) (Nat.beq (Nat.mod j 2) 0)) i) t) f
theorem Qi8:∀(f:Nat) (t:Tri) (i:Nat) (x:Value),QlP f t i x=Tri.set f t i x
 | 0,_,_,_=> rfl
 | f+1,.lf,0,x=> rfl
 | f+1,.nd l v r,0,x=> rfl
 | f+1,.lf,k+1,x=> by
   show (Bool.rec (Tri.nd .lf undef (QlP f .lf (k / 2) x)) (Tri.nd (QlP f .lf (k / 2) x) undef .lf) (Nat.beq (k % 2) 0):Tri)=bif Nat.beq (k % 2) 0 then .nd (Tri.set f .lf (k / 2) x) undef .lf else .nd .lf undef (Tri.set f .lf (k / 2) x);rw [Qi8 f];cases Nat.beq (k % 2) 0 <;> rfl
 | f+1,.nd l v r,k+1,x=> by
   show (Bool.rec (Tri.nd l v (QlP f r (k / 2) x)) (Tri.nd (QlP f l (k / 2) x) v r) (Nat.beq (k % 2) 0):Tri)=bif Nat.beq (k % 2) 0 then .nd (Tri.set f l (k / 2) x) v r else .nd l v (Tri.set f r (k / 2) x);rw [Qi8 f,Qi8 f];cases Nat.beq (k % 2) 0 <;> rfl
def evF (tr:Tri) (x:Operand):Option Value:=Operand.rec (fun t=> some (Qon tr t)) (fun v=> Bool.rec none (some v) (af v)) (fun _=> none) (fun f=> some (.func (.func f) #[] #[])) x
theorem Q4x (len:Nat) (tr:Tri):evF tr=evC ⟨len,tr⟩:=by
 funext x;cases x with
 | tmp t=> show some (Qon tr t)=some (tr.get t);rw [Qih]
 | const v=> show (Bool.rec none (some v) (af v):Option Value)=bif af v then some v else none;cases af v <;> rfl
 | global g=> rfl
 | func f=> rfl
def Q7o (tr:Tri) (d:Option Tmp) (v:Value):Tri:=Option.rec tr (fun d=> QlP 14 tr d v) d
theorem Q1r (len:Nat) (tr:Tri) (d:Option Tmp) (v:Value):(⟨len,Q7o tr d v⟩:Tm)=Qgy ⟨len,tr⟩ d v:=by
 cases d with
 | none=> rfl
 | some d=> show (⟨len,QlP 14 tr d v⟩:Tm)=⟨len,tr.set 14 d v⟩;rw [Qi8]
def Q7D {α:Type} (l:List α):Nat->Option α:=List.rec (fun _=> none) (fun x _ ih k=> Nat.rec (some x) (fun j _=> ih j) k) l
theorem Qzd {α:Type}:∀(l:List α) (k:Nat),Q7D l k=l[k]?
 | [],k=> by cases k <;> rfl
 | x::l,0=> rfl
 | x::l,k+1=> by show Q7D l k=_;rw [Qzd l k];rfl
def Quk (P:Program) (t:TypeId) (cs:Array Value) (off:Nat):Option Value:=
 Option.rec none (fun g=> Bool.rec (Q7D cs.toList off) (Option.rec none (fun s=> Bool.rec none (some (.agg (cs.extract off (off+s)))) (Nat.ble (off+s) cs.size)) (Qfv P t)) g) (Qy8 P t)
theorem QpZ (P:Program) (t:TypeId) (cs:Array Value) (off:Nat):Quk P t cs off=Qga P t cs off:=by
 unfold Quk Qga;cases Qy8 P t with
 | none=> rfl
 | some g=>
   cases g with
   | false=> show Q7D cs.toList off=_;rw [Qzd,Array.getElem?_toList]
   | true=>
     cases Qfv P t with
     | none=> rfl
     | some s=> simp only;cases Nat.ble (off+s) cs.size <;> rfl
def QuR (P:Program) (t:TypeId) (H:Qar) (p:Value):Option (Value×Nat):=match p with
 | .pointer (some ⟨b,off,none⟩)=> match Qaw H b with
   | some (.cells cs _ _)=> match Quk P t cs off with
     | some v=> some (v,b)
     | none=> none
   | _=> none
 | _=> none
theorem Q1I (P:Program) (t:TypeId) (H:Qar) (p:Value):QuR P t H p=Qjx P t H p:=by
 unfold QuR Qjx;simp only [QpZ];rfl
def Q3C (p:Value->Bool) (l:List Value):Bool:=List.rec true (fun x _ ih=> Bool.rec false ih (p x)) l
theorem Qnd (p:Value->Bool):∀(l:List Value),Q3C p l=l.all p
 | []=> rfl
 | x::l=> by
   show (Bool.rec false (Q3C p l) (p x):Bool)=_;rw [Qnd p l,List.all_cons];cases p x <;> rfl
def Q56 (cs:Array Value):Bool:=Q3C (·.oneCell') cs.toList
theorem Q3t (cs:Array Value):Q56 cs=ones cs:=by
 unfold Q56 ones;rw [Qnd,Array.all_toList]
def saF (v:Value):Bool:=match v with
 | .agg xs=> Q3C simple xs.toList
 | v=> simple v
theorem Q40 (v:Value):saF v=sa v:=by
 cases v <;> first | rfl | (show Q3C simple _=_;rw [Qnd,Array.all_toList];rfl)
def afF (v:Value):Bool:=match v with
 | .agg xs=> Q3C simple xs.toList
 | .tuple xs=> Q3C saF xs.toList
 | .iface _ v=> saF v
 | v=> simple v
theorem Q6W (v:Value):afF v=af v:=by
 cases v with
 | iface t v=> exact Q40 v
 | tuple xs=> show Q3C saF _=_;rw [show saF=sa from funext Q40,Qnd,Array.all_toList];rfl
 | _=> first | rfl | (show Q3C simple _=_;rw [Qnd,Array.all_toList];rfl)
def Qp3 (P:Program) (t:TypeId) (H:Qar) (v p:Value):Option (Qar×Nat):=match p with
 | .pointer (some ⟨b,off,none⟩)=> match Qaw H b with
   | some (.cells cs te (0,0))=> match Qfv P t with
     | some s=> bif Nat.beq v.cells.size s && Q56 v.cells && Nat.ble (off+s) cs.size then some (Qgr H b (.cells (splice cs off v.cells) te (0,0)),b) else none
     | none=> none
   | _=> none
 | _=> none
theorem Qwc (P:Program) (t:TypeId) (H:Qar) (v p:Value):Qp3 P t H v p=QhD P t H v p:=by
 unfold Qp3 QhD;simp only [Q3t];rfl
def QoO (P:Program) (t:TypeId) (f:Nat) (x:Value):Option Value:=match x with
 | .agg cs=> match und P t with
   | some (.struct fields)=> match fields[f]? with
     | some fd=> Quk P fd.type cs fd.offset
     | none=> none
   | _=> none
 | _=> none
theorem QvG (P:Program) (t:TypeId) (f:Nat) (x:Value):QoO P t f x=Qoi P t f x:=by
 unfold QoO Qoi;simp only [QpZ];rfl
def Q19 (ops:Array Oper) (tr:Tri) (j:Nat):Option Bool:=match nth ops.toList j with
 | some o=> match o.dst with
   | some t=> QhC (Qon tr t)
   | none=> none
 | none=> none
theorem QzO (len:Nat) (ops:Array Oper) (tr:Tri) (j:Nat):Q19 ops tr j=Qbs ops ⟨len,tr⟩ j:=by
 unfold Q19 Qbs;simp only [Qih,QbV];rfl
def Q3d (ops:Array Oper) (tr:Tri) (g:Option (Nat×Bool)):Bool:=Option.rec true (fun jw=> Prod.rec (fun j w=> Option.rec false (fun b=> Bool.rec (Bool.rec true false w) (Bool.rec false true w) b) (Q19 ops tr j)) jw) g
theorem Q3K (len:Nat) (ops:Array Oper) (tr:Tri) (o:Oper):Q3d ops tr o.guard=Region.wanted o (Qbs ops ⟨len,tr⟩):=by
 unfold Q3d Region.wanted;cases o.guard with
 | none=> rfl
 | some jw=>
   obtain ⟨j,w⟩:=jw;simp only [QzO len];cases Qbs ops ⟨len,tr⟩ j with
   | none=> rfl
   | some b=> cases b <;> cases w <;> rfl
abbrev Ans:=Option (List Rec×RF)
abbrev KV:=Value->Qar->Nat->List Nat->List Nat->Ans
abbrev Arm:=Program->(FuncId->Bool)->Orc->(CF->Qar->Nat->Option Rs)->Nat->Tri->Oper->Qar->Nat->KV->KV->Ans
def fin (k kp:KV) (s:Option Rs):Ans:=match s with
 | some ⟨out,H,n,R,W⟩=> match out with
   | .ret v=> k v H n R W
   | .pan v=> kp v H n R W
 | none=> none
def pv (k:KV) (H:Qar) (n:Nat) (x:Option Value):Ans:=Option.rec none (fun v=> k v H n [] []) x
theorem Qkw (k kp:KV) (H:Qar) (n:Nat) (x:Option Value):fin k kp (qV x H n)=pv k H n x:=by cases x <;> rfl
def Q6w (x:Operand):Arm:=fun _ _ _ _ _ tr _ H n k _=> pv k H n (evF tr x)
def Q7U (c a b:Operand):Arm:=fun _ _ _ _ _ tr _ H n k _=> Option.rec none (fun v=> Option.rec none (fun t=> Bool.rec (pv k H n (evF tr b)) (pv k H n (evF tr a)) t) (QhC v)) (evF tr c)
def Q7T (t:TypeId) (a:Operand):Arm:=fun P _ _ _ _ tr _ H n k _=> Option.rec none (fun p=> Option.rec none (fun vb=> Prod.rec (fun v b=> Bool.rec none (k v H n [b] []) (Nat.blt b n)) vb) (QuR P t H p)) (evF tr a)
def Q6Q (t:TypeId) (a x:Operand):Arm:=fun P _ _ _ _ tr _ H n k _=> Option.rec none (fun p=> Option.rec none (fun v=> Option.rec none (fun hb=> Prod.rec (fun H' b=> Bool.rec none (k undef H' n [b] [b]) (Nat.blt b n)) hb) (Qp3 P t H v p)) (evF tr x)) (evF tr a)
def QwM (s:TypeId) (x:Operand) (f:Nat):Arm:=fun P _ _ _ _ tr _ H n k _=> Option.rec none (fun p=> pv k H n (QbY P s f p)) (evF tr x)
def Q6x (s:TypeId) (x:Operand) (f:Nat):Arm:=fun P _ _ _ _ tr _ H n k _=> Option.rec none (fun p=> pv k H n (QoO P s f p)) (evF tr x)
def Qwf (t:TypeId) (x i:Operand):Arm:=fun P _ _ _ _ tr _ H n k _=> Option.rec none (fun p=> Option.rec none (fun j=> pv k H n (QeY P t p j)) (evF tr i)) (evF tr x)
def Q2F (x:Operand) (i:Nat):Arm:=fun _ _ _ _ _ tr _ H n k _=> Option.rec none (fun p=> pv k H n (Qhv i p)) (evF tr x)
def Q8z (op:BinOp) (_:TypeId) (x y:Operand) (_:TypeId):Arm:=fun P _ _ _ _ tr o H n k _=> Option.rec none (fun a=> Option.rec none (fun b=> Option.rec (pv k H n (QeJ P (evF tr) o)) (fun v=> k v H n [] []) (Q5B op a b)) (evF tr y)) (evF tr x)
def Q52 (v:Value) (r:CR) (k:KV) (H':Qar) (n':Nat) (R W:List Nat):Ans:=List.rec (Bool.rec (k v H' n' (r.R++R) (r.W++[])) (k v r.H n' (r.R++R) (r.W++[])) (afF v)) (fun _ _ _=> k v H' n' (r.R++R) (r.W++W)) W
def Q39 (r:CR) (k kp:KV) (s:Option Rs):Ans:=Option.rec none (fun s=> Rs.rec (fun out H' n' R W=> OO.rec (fun v=> Q52 v r k H' n' R W) (fun v=> kp v H' n' (r.R++R) (r.W++W)) out) s) s
theorem Q3s (r:CR) (k kp:KV) (s:Option Rs):Q39 r k kp s=fin k kp (match s with | some s=> Q5F r s | none=> none):=by
 cases s with
 | none=> rfl
 | some s=>
   obtain ⟨out,H',n',R,W⟩:=s;cases out with
   | pan v=>
     cases W with
     | nil=> rfl
     | cons a b=> rfl
   | ret v=>
     show Q52 v r k H' n' R W=_;unfold Q52;cases W with
     | nil=>
       rw [Q6W];simp only [Q5F,Qf4];cases af v <;> rfl
     | cons a b=> rfl
def Qu5 (P:Program) (orc:Orc) (rec:CF->Qar->Nat->Option Rs) (g:FuncId) (args:Array Value) (r:CR) (k kp:KV):Ans:=Option.rec (Option.rec none (fun c=> Q39 r k kp (rec c r.H r.n)) (Qc7 P g args)) (fun _=> fin k kp (Quo P orc rec g args r)) (orc g args r.H r.n)
theorem Q1v (P:Program) (orc:Orc) (rec:CF->Qar->Nat->Option Rs) (g:FuncId) (args:Array Value) (r:CR) (k kp:KV):Qu5 P orc rec g args r k kp=fin k kp (Quo P orc rec g args r):=by
 unfold Qu5;cases ho:orc g args r.H r.n with
 | some x=> rfl
 | none=>
   unfold Quo;rw [ho];show (Option.rec none (fun c=> Q39 r k kp (rec c r.H r.n)) (Qc7 P g args):Ans)=fin k kp (Q8b P rec g args r);unfold Q8b;cases Qc7 P g args with
   | none=> rfl
   | some c=>
     show Q39 r k kp (rec c r.H r.n)=_;rw [Q3s];rfl
def Q57 (P:Program) (orc:Orc) (rec:CF->Qar->Nat->Option Rs) (n:Nat) (x:Option CR) (k kp:KV):Ans:=Option.rec none (fun r=> CN.rec (fun _=> fin k kp (qR P orc rec n (some r))) (fun g args=> Bool.rec none (Qu5 P orc rec g args r k kp) (r.R.all (fun i=> Nat.blt i n))) (fun _ _ _ _ _=> fin k kp (qR P orc rec n (some r))) r.nx) x
theorem Q2W (P:Program) (orc:Orc) (rec:CF->Qar->Nat->Option Rs) (n:Nat) (x:Option CR) (k kp:KV):Q57 P orc rec n x k kp=fin k kp (qR P orc rec n x):=by
 cases x with
 | none=> rfl
 | some r=>
   obtain ⟨nx,H',n',R,W⟩:=r;cases nx with
   | val v=> rfl
   | round l fn tm a b=> rfl
   | enter g args=>
     show (Bool.rec none (Qu5 P orc rec g args ⟨.enter g args,H',n',R,W⟩ k kp) (R.all (fun i=> Nat.blt i n)):Ans)=_;rw [Q1v];simp only [qR];cases R.all (fun i=> Nat.blt i n) <;> rfl
def Q8e (c:Call):Arm:=fun P F orc rec _ tr o H n k kp=> Q57 P orc rec n (Ql5 P F (evF tr) o c H n) k kp
def Qh9:Arm:=fun P F orc rec len tr o H n k kp=> fin k kp (opQ P F orc rec ⟨len,tr⟩ o H n)
def opF (op:Op):Arm:=Op.rec Q6w Q6w Q7U (fun _=> Qh9) (fun _ _=> Qh9) (fun _ _=> Qh9) (fun _ _ _=> Qh9) (fun _ _ _ _=> Qh9) Q7T Q6Q (fun _=> Qh9) (fun _=> Qh9) (fun _=> Qh9) Q8z (fun _ _ _=> Qh9) (fun _ _ _=> Qh9) (fun _ _=> Qh9) (fun _ _=> Qh9)
 (fun _ _ _=> Qh9) (fun _ _=> Qh9) (fun _ _=> Qh9) (fun _ _ _=> Qh9) (fun _ _ _ _ _=> Qh9) QwM Q6x Qwf (fun _ _ _=> Qh9) (fun _ _ _ _=> Qh9) (fun _ _ _ _=> Qh9) (fun _ _ _=> Qh9) (fun _ _ _ _=> Qh9) (fun _ _=> Qh9) (fun _ _=> Qh9) (fun _=> Qh9) (fun _ _ _ _=> Qh9)
 Q2F Q8e (fun _=> Qh9) (fun _=> Qh9) (fun _=> Qh9) (fun _ _=> Qh9) (fun _ _ _=> Qh9) (fun _ _=> Qh9) op
theorem Q6X (P:Program) (F:FuncId->Bool) (orc:Orc) (rec:CF->Qar->Nat->Option Rs) (len:Nat) (tr:Tri) (o:Oper) (H:Qar) (n:Nat) (k kp:KV):opF o.op P F orc rec len tr o H n k kp=fin k kp (opQ P F orc rec ⟨len,tr⟩ o H n):=by
 have e:=Q4x len tr;cases hp:o.op with
 | move x=> show pv k H n (evF tr x)=_;rw [e];unfold opQ;simp only [hp];exact (Qkw k kp H n _).symm
 | assign x=> show pv k H n (evF tr x)=_;rw [e];unfold opQ;simp only [hp];exact (Qkw k kp H n _).symm
 | pick c a b=>
   show (Option.rec none (fun v=> Option.rec none (fun t=> Bool.rec (pv k H n (evF tr b)) (pv k H n (evF tr a)) t) (QhC v)) (evF tr c):Ans)=_;rw [e];unfold opQ;simp only [hp];cases evC ⟨len,tr⟩ c with
   | none=> rfl
   | some v=>
     cases v with
     | bool t=> cases t <;> exact (Qkw k kp H n _).symm
     | _=> rfl
 | load t a=>
   show (Option.rec none (fun p=> Option.rec none (fun vb=> Prod.rec (fun v b=> Bool.rec none (k v H n [b] []) (Nat.blt b n)) vb) (QuR P t H p)) (evF tr a):Ans)=_;simp only [Q1I];rw [e];unfold opQ;simp only [hp];cases evC ⟨len,tr⟩ a with
   | none=> rfl
   | some p=>
     simp only [Q5j];cases Qjx P t H p with
     | none=> rfl
     | some vb=>
       obtain ⟨v,b⟩:=vb;cases hb:Nat.blt b n <;> simp [qR,fin,Q2D,hb]
 | store t a x=>
   show (Option.rec none (fun p=> Option.rec none (fun v=> Option.rec none (fun hb=> Prod.rec (fun H' b=> Bool.rec none (k undef H' n [b] [b]) (Nat.blt b n)) hb) (Qp3 P t H v p)) (evF tr x)) (evF tr a):Ans)=_;simp only [Qwc];rw [e];unfold opQ;simp only [hp];cases evC ⟨len,tr⟩ a with
   | none=> rfl
   | some p=>
     cases evC ⟨len,tr⟩ x with
     | none=> rfl
     | some v=>
       simp only [QxQ];cases QhD P t H v p with
       | none=> rfl
       | some vb=>
         obtain ⟨H',b⟩:=vb;cases hb:Nat.blt b n <;> simp [qR,fin,Q2D,hb]
 | fieldAddr s x f=>
   show (Option.rec none (fun p=> pv k H n (QbY P s f p)) (evF tr x):Ans)=_;rw [e];unfold opQ;simp only [hp];cases evC ⟨len,tr⟩ x with
   | none=> rfl
   | some p=> simp only [Qjm,Qg2];exact (Qkw k kp H n _).symm
 | field s x f=>
   show (Option.rec none (fun p=> pv k H n (QoO P s f p)) (evF tr x):Ans)=_;simp only [QvG];rw [e];unfold opQ;simp only [hp];cases evC ⟨len,tr⟩ x with
   | none=> rfl
   | some p=> simp only [Qyz,Qg2];exact (Qkw k kp H n _).symm
 | indexAddr t x i=>
   show (Option.rec none (fun p=> Option.rec none (fun j=> pv k H n (QeY P t p j)) (evF tr i)) (evF tr x):Ans)=_;rw [e];unfold opQ;simp only [hp];cases evC ⟨len,tr⟩ x with
   | none=> rfl
   | some p=>
     cases evC ⟨len,tr⟩ i with
     | none=> rfl
     | some j=> simp only [QjR,Qg2];exact (Qkw k kp H n _).symm
 | extract x i=>
   show (Option.rec none (fun p=> pv k H n (Qhv i p)) (evF tr x):Ans)=_;rw [e];unfold opQ;simp only [hp];cases evC ⟨len,tr⟩ x with
   | none=> rfl
   | some p=> simp only [QoZ,Qg2];exact (Qkw k kp H n _).symm
 | binOp op t x y t'=>
   show (Option.rec none (fun a=> Option.rec none (fun b=> Option.rec (pv k H n (QeJ P (evF tr) o)) (fun v=> k v H n [] []) (Q5B op a b)) (evF tr y)) (evF tr x):Ans)=_;rw [e];unfold opQ;simp only [hp];cases evC ⟨len,tr⟩ x with
   | none=> rfl
   | some a=>
     cases evC ⟨len,tr⟩ y with
     | none=> rfl
     | some b=>
       simp only [Q8f];cases Q5B op a b with
       | none=> simp only [Qg2];exact (Qkw k kp H n _).symm
       | some v=> rfl
 | call c=> show Q57 P orc rec n (Ql5 P F (evF tr) o c H n) k kp=_;rw [Q2W,e];unfold opQ;simp only [hp]
 | _=> rfl
def Q4a (r:Rec) (x:Ans):Ans:=Option.rec none (fun p=> Prod.rec (fun rs f=> some (r::rs,f)) p) x
def Q3e (P:Program) (F:FuncId->Bool) (orc:Orc) (rec:CF->Qar->Nat->Option Rs) (len:Nat) (ops:Array Oper) (l:List Oper):Tri->Qar->Nat->Ans:=
 List.rec (fun tr H n=> some ([],.ok ⟨len,tr⟩ H n)) (fun o _ ih tr H n=> Bool.rec
  (Q4a ⟨o,false,undef,⟨len,tr⟩,H,H,n,n,[],[]⟩ (ih (Q7o tr o.dst undef) H n))
  (opF o.op P F orc rec len tr o H n (fun v H' n' R W=> Q4a ⟨o,true,v,⟨len,tr⟩,H,H',n,n',R,W⟩ (ih (Q7o tr o.dst v) H' n')) (fun v H' n' R W=> some ([],.pan ⟨len,tr⟩ v H' n' R W)))
  (Q3d ops tr o.guard)) l
def Qvc (len:Nat) (l:List Oper):Bool:=l.all fun o=> Qiy ⟨len,.lf⟩ o.dst
theorem Qur (P:Program) (F:FuncId->Bool) (orc:Orc) (rec:CF->Qar->Nat->Option Rs) (len:Nat) (ops:Array Oper):∀(l:List Oper) (tr:Tri) (H:Qar) (n:Nat),Qvc len l=true->Q3e P F orc rec len ops l tr H n=QhI P F orc rec ops l ⟨len,tr⟩ H n
 | [],_,_,_,_=> rfl
 | o::l,tr,H,n,hd=> by
   simp only [Qvc,List.all_cons,YB] at hd;have hd1:Qiy ⟨len,tr⟩ o.dst=true:=by
    have:=hd.1;cases hq:o.dst with
    | none=> rfl
    | some x=> rw [hq] at this;exact this
   have ih:=Qur P F orc rec len ops l;show (Bool.rec (Q4a ⟨o,false,undef,⟨len,tr⟩,H,H,n,n,[],[]⟩ (Q3e P F orc rec len ops l (Q7o tr o.dst undef) H n))
    (opF o.op P F orc rec len tr o H n (fun v H' n' R W=> Q4a ⟨o,true,v,⟨len,tr⟩,H,H',n,n',R,W⟩ (Q3e P F orc rec len ops l (Q7o tr o.dst v) H' n')) (fun v H' n' R W=> some ([],.pan ⟨len,tr⟩ v H' n' R W)))
    (Q3d ops tr o.guard):Ans)=_
   rw [Q3K len];simp only [QhI,hd1,cond_true];cases Region.wanted o (Qbs ops ⟨len,tr⟩) with
   | false=>
     simp only [cond_false];rw [ih _ _ _ hd.2,Q1r];cases QhI P F orc rec ops l (Qgy ⟨len,tr⟩ o.dst undef) H n <;> rfl
   | true=>
     simp only [cond_true,Q6X];cases opQ P F orc rec ⟨len,tr⟩ o H n with
     | none=> rfl
     | some s=>
       obtain ⟨out,H',n',R,W⟩:=s;cases out with
       | pan v=> rfl
       | ret v=>
         simp only [fin];rw [ih _ _ _ hd.2,Q1r];cases QhI P F orc rec ops l (Qgy ⟨len,tr⟩ o.dst v) H' n' <;> rfl
def Qi9 (ops:Array Oper) (o:Oper) (k:Nat):List Oper->List (List Nat)->Bool
 | x::l,b::bs=> (b.contains k || o.apart ops x) && Qi9 ops o k l bs
 | [],_=> true
 | _::_,[]=> false
def stat (ops:Array Oper):Nat->List Oper->List (List Nat)->Bool
 | k,o::l,_::bs=> Qi9 ops o k l bs && stat ops (k+1) l bs
 | _,[],_=> true
 | _,_::_,[]=> false
def Qn0 (i:Nat) (l:List Nat):Bool:=List.rec false (fun j _ ih=> Bool.rec ih true (Nat.beq i j)) l
theorem QkD (i:Nat):∀(l:List Nat),Qn0 i l=l.contains i
 | []=> rfl
 | j::l=> by
   show (Bool.rec (Qn0 i l) true (Nat.beq i j):Bool)=_;rw [QkD i l,List.contains_cons];by_cases e:i=j
   ·subst e;rw [Nat.beq_refl];simp
   ·rw [Qil e];simp [e]
def Que (W R:List Nat):Bool:=List.rec false (fun i _ ih=> Bool.rec ih true (Qn0 i R)) W
theorem Qm7 (R:List Nat):∀(W:List Nat),Que W R=W.any fun i=> R.contains i
 | []=> rfl
 | i::W=> by
   show (Bool.rec (Que W R) true (Qn0 i R):Bool)=_;rw [Qm7 R W,QkD,List.any_cons];cases R.contains i <;> rfl
def Qvh (lo hi:Nat) (R:List Nat):Bool:=List.rec false (fun i _ ih=> Bool.rec ih (Bool.rec ih true (Nat.blt i hi)) (Nat.ble lo i)) R
theorem QqM (lo hi:Nat):∀(R:List Nat),Qvh lo hi R=R.any fun i=> Nat.ble lo i && Nat.blt i hi
 | []=> rfl
 | i::R=> by
   show (Bool.rec (Qvh lo hi R) (Bool.rec (Qvh lo hi R) true (Nat.blt i hi)) (Nat.ble lo i):Bool)=_;rw [QqM lo hi R,List.any_cons];cases Nat.ble lo i <;> cases Nat.blt i hi <;> rfl
def clear (r x:Rec):Bool:=Bool.rec (Bool.rec (Bool.rec true false (Qvh r.n r.n' x.R)) false (Que x.W r.R)) false (Que r.W x.R)
theorem QwF {ops:Array Oper} {r x:Rec} (h:clear r x=true) (ha:r.o.apart ops x.o=true):tied ops r x=false:=by
 unfold clear at h;rw [QqM,Qm7,Qm7] at h;unfold tied meets bears;rw [ha];revert h;cases r.W.any fun i=> x.R.contains i <;> cases x.W.any fun i=> r.R.contains i <;> cases x.R.any fun i=> Nat.ble r.n i && Nat.blt i r.n' <;> simp
def Qib (r:Rec) (k:Nat) (l:List Rec):List (List Nat)->Bool:=List.rec (fun _=> true) (fun x _ ih bs=> List.rec false (fun b bs' _=> Bool.rec (Bool.rec false (ih bs') (Qn0 k b)) (ih bs') (clear r x)) bs) l
def dyn (l:List Rec):Nat->List (List Nat)->Bool:=List.rec (fun _ _=> true) (fun r l ih k bs=> List.rec false (fun _ bs' _=> Bool.rec false (ih (k+1) bs') (Qib r k l bs')) bs) l
theorem Qlt {ops:Array Oper} {r:Rec} (k:Nat):∀(l:List Rec) (bs:List (List Nat)),Qib r k l bs=true->Qi9 ops r.o k (l.map (·.o)) bs=true->QeB ops r k l bs=true
 | [],_,_,_=> by simp [QeB]
 | x::l,[],_,h=> by simp [Qi9] at h
 | x::l,b::bs,hd,h=> by
   simp only [List.map_cons,Qi9,YB,Bool.or_eq_true] at h;simp only [QeB,YB,Bool.or_eq_true,Bool.not_eq_true'];have hd:(Bool.rec (Bool.rec false (Qib r k l bs) (Qn0 k b)) (Qib r k l bs) (clear r x):Bool)=true:=hd;cases hc:clear r x with
   | true=>
     rw [hc] at hd;exact ⟨h.1.imp id fun ha=> QwF hc ha,Qlt k l bs hd h.2⟩
   | false=>
     rw [hc] at hd;have hd:(Bool.rec false (Qib r k l bs) (Qn0 k b):Bool)=true:=hd;cases he:Qn0 k b with
     | false=> rw [he] at hd;cases hd
     | true=>
       rw [he] at hd;rw [QkD] at he;exact ⟨.inl he,Qlt k l bs hd h.2⟩
theorem Qob {ops:Array Oper}:∀(l:List Rec) (bs:List (List Nat)) (k:Nat),dyn l k bs=true->stat ops k (l.map (·.o)) bs=true->indep ops k l bs=true
 | [],_,_,_,_=> by simp [indep]
 | x::l,[],_,_,h=> by simp [stat] at h
 | x::l,b::bs,k,hd,h=> by
   simp only [List.map_cons,stat,YB] at h;simp only [indep,YB];have hd:(Bool.rec false (dyn l (k+1) bs) (Qib x k l bs):Bool)=true:=hd;cases hc:Qib x k l bs with
   | false=> rw [hc] at hd;cases hd
   | true=>
     rw [hc] at hd;exact ⟨Qlt k l bs hc h.1,Qob l bs (k+1) hd h.2⟩
theorem Qnj {P:Program} {F:FuncId->Bool} {orc:Orc} {rec:CF->Qar->Nat->Option Rs} {ops:Array Oper}:∀(l:List Oper) (T:Tm) (H:Qar) (n:Nat) (recs:List Rec) (T':Tm) (H':Qar) (n':Nat),QhI P F orc rec ops l T H n=some (recs,.ok T' H' n')->recs.map (·.o)=l
 | [],T,H,n,recs,T',H',n',h=> by
   simp only [QhI,YO,YR] at h;rw [<-h.1];rfl
 | o::l,T,H,n,recs,T',H',n',h=> by
   simp only [QhI] at h;have h:=Qf8 h;cases hw:Region.wanted o (Qbs ops T) with
   | true=>
     rw [hw] at h;simp only [cond_true] at h;split at h
     ·split at h
      ·split at h
       ·rename_i rs f hr;simp only [YO,YR] at h;obtain ⟨rfl,rfl⟩:=h;simp [Qnj l _ _ _ _ _ _ _ hr]
       ·cases h
      ·simp only [YO,YR] at h;cases h.2
     ·cases h
   | false=>
     rw [hw] at h;simp only [cond_false] at h;split at h
     ·rename_i rs f hr;simp only [YO,YR] at h;obtain ⟨rfl,rfl⟩:=h;simp [Qnj l _ _ _ _ _ _ _ hr]
     ·cases h
def Qts (ops:Array Oper):Bool:=Qd1 0 ops.toList && stat ops 0 ops.toList (QnF ops.toList [])
def chk (ops:Array Oper) (recs:List Rec) (draw:Bool):Bool:=Bool.rec true (Bool.rec (Qd1 0 ops.toList && indep ops 0 recs (QnF ops.toList [])) (Bool.rec (Qd1 0 ops.toList && indep ops 0 recs (QnF ops.toList [])) true (dyn recs 0 (QnF ops.toList []))) (Qts ops)) draw
theorem Q6u {ops:Array Oper} {recs:List Rec} {draw:Bool} (h:recs.map (·.o)=ops.toList):chk ops recs draw=(!draw || (Qd1 0 ops.toList && indep ops 0 recs (QnF ops.toList []))):=by
 unfold chk;cases draw with
 | false=> rfl
 | true=>
   simp only [Bool.not_true,Bool.false_or];cases hs:Qts ops with
   | false=> rfl
   | true=>
     cases hc:dyn recs 0 (QnF ops.toList []) with
     | false=> rfl
     | true=>
       unfold Qts at hs;simp only [YB] at hs;rw [hs.1,Qob recs _ 0 hc (by rw [h];exact hs.2)];rfl
def QqI (b:Nat) (l:List Nat):List Nat->List Nat:=List.rec (fun acc=> acc) (fun x _ ih acc=> Bool.rec (ih acc) (Bool.rec (ih (x::acc)) (ih acc) (Qn0 x acc)) (Nat.blt x b)) l
theorem QkL (b:Nat):∀(l acc:List Nat),QqI b l acc=Qeb b l acc
 | [],_=> rfl
 | x::l,acc=> by
   show (Bool.rec (QqI b l acc) (Bool.rec (QqI b l (x::acc)) (QqI b l acc) (Qn0 x acc)) (Nat.blt x b):List Nat)=_;rw [QkL b l,QkL b l,QkD,Qeb];cases Nat.blt x b <;> cases acc.contains x <;> rfl
theorem QoA (b:Nat):∀(l m acc:List Nat),Qeb b (l++m) acc=Qeb b m (Qeb b l acc)
 | [],_,_=> rfl
 | x::l,m,acc=> by simp only [List.cons_append,Qeb];exact QoA b l m _
def Q7R (b:Nat) (recs:List Rec):List Nat->List Nat:=List.rec (fun acc=> acc) (fun r _ ih acc=> ih (QqI b r.R acc)) recs
theorem QyU (b:Nat):∀(recs:List Rec) (acc:List Nat),Q7R b recs acc=Qeb b (Qnr recs) acc
 | [],_=> rfl
 | r::l,acc=> by
   show Q7R b l (QqI b r.R acc)=_;rw [QyU b l,QkL,show Qnr (r::l)=r.R++Qnr l from List.flatMap_cons,QoA]
def Q7S (b:Nat) (recs:List Rec):List Nat->List Nat:=List.rec (fun acc=> acc) (fun r _ ih acc=> ih (QqI b r.W acc)) recs
theorem Q1x (b:Nat):∀(recs:List Rec) (acc:List Nat),Q7S b recs acc=Qeb b (QiL recs) acc
 | [],_=> rfl
 | r::l,acc=> by
   show Q7S b l (QqI b r.W acc)=_;rw [Q1x b l,QkL,show QiL (r::l)=r.W++QiL l from List.flatMap_cons,QoA]
def Q5W (P:Program) (F:FuncId->Bool) (orc:Orc) (rec:CF->Qar->Nat->Option Rs) (len:Nat) (tr:Tri) (ops:Array Oper) (H:Qar) (n:Nat):Ans:=
 Bool.rec (QhI P F orc rec ops ops.toList ⟨len,tr⟩ H n) (Q3e P F orc rec len ops ops.toList tr H n) (Qvc len ops.toList)
theorem Q2K (P:Program) (F:FuncId->Bool) (orc:Orc) (rec:CF->Qar->Nat->Option Rs) (len:Nat) (tr:Tri) (ops:Array Oper) (H:Qar) (n:Nat):Q5W P F orc rec len tr ops H n=QhI P F orc rec ops ops.toList ⟨len,tr⟩ H n:=by
 unfold Q5W;cases hd:Qvc len ops.toList with
 | false=> rfl
 | true=> exact Qur P F orc rec len ops _ _ _ _ hd
abbrev Run:=Nat->FuncId->Nat->Tri->List Item->List Nat->Option Nat->Qar->Nat->List Nat->List Nat->Option Rs
def Q7H (P:Program) (F:FuncId->Bool) (orc:Orc) (fuel:Nat) (ih:Run) (c1:CF) (H1:Qar) (n1:Nat):Option Rs:=
 CF.rec (fun fn T todo ds mode ro=> CM.rec (Tm.rec (fun len tr=> ih n1 fn len tr todo ds ro H1 n1 [] []) T) (Qh1 P F orc fuel n1 ⟨fn,T,todo,ds,.ret,ro⟩ H1 n1 [] []) (fun v=> Qh1 P F orc fuel n1 ⟨fn,T,todo,ds,.pan v,ro⟩ H1 n1 [] []) mode) c1
def goF (P:Program) (F:FuncId->Bool) (orc:Orc) (fuel:Nat) (ih:Run) (b:Nat) (c1:CF) (H1:Qar) (n1:Nat) (R W:List Nat):Option Rs:=
 CF.rec (fun fn T todo ds mode ro=> CM.rec (Tm.rec (fun len tr=> ih b fn len tr todo ds ro H1 n1 R W) T) (Qh1 P F orc fuel b ⟨fn,T,todo,ds,.ret,ro⟩ H1 n1 R W) (fun v=> Qh1 P F orc fuel b ⟨fn,T,todo,ds,.pan v,ro⟩ H1 n1 R W) mode) c1
def resume (P:Program) (F:FuncId->Bool) (orc:Orc) (fuel:Nat) (ih:Run) (b:Nat) (R W:List Nat) (x:Option FS):Option Rs:=
 Option.rec none (fun fs=> FS.rec (fun c' H' n' R' W'=> goF P F orc fuel ih b c' H' n' (Qeb b R' R) (Qeb b W' W)) (fun out H' n' R' W'=> some ⟨out,H',n',Qeb b R' R,Qeb b W' W⟩) fs) x
abbrev ItA:=Program->(FuncId->Bool)->Orc->Nat->Run->Nat->FuncId->Nat->Tri->List Item->List Nat->Option Nat->Qar->Nat->List Nat->List Nat->Option Rs
def QjI (it:Item):ItA:=fun P F orc fuel ih b fn len tr k ds ro H n R W=> resume P F orc fuel ih b R W (Qof P F orc (Q7H P F orc fuel ih) ⟨fn,⟨len,tr⟩,it::k,ds,.run,ro⟩ H n)
def Q2R:ItA:=fun _ _ _ _ ih b fn len tr k ds ro H n R W=> ih b fn len tr k ds ro H n R W
def Q81 (x y:Code):ItA:=fun _ _ _ _ ih b fn len tr k ds ro H n R W=> ih b fn len tr (.code x::.code y::k) ds ro H n R W
def Q7V (q:Operand) (x y:Code):ItA:=fun _ _ _ _ ih b fn len tr k ds ro H n R W=> Option.rec none (fun v=> Option.rec none (fun t=> Bool.rec (ih b fn len tr (.code y::k) ds ro H n R W) (ih b fn len tr (.code x::k) ds ro H n R W) t) (QhC v)) (evF tr q)
def Q6O (id:Nat) (x:Code):ItA:=fun _ _ _ _ ih b fn len tr k ds ro H n R W=> ih b fn len tr (.code x::.inBlock id::k) ds ro H n R W
def Q7h (x:Code):ItA:=fun _ _ _ _ ih b fn len tr k ds ro H n R W=> ih b fn len tr (.code x::.inLoop x::k) ds ro H n R W
def Q7d (x:Code):ItA:=fun _ _ _ _ ih b fn len tr k ds ro H n R W=> ih b fn len tr (.code x::.inScope x::k) ds ro H n R W
def QsP (id:Nat) (ops:Array Oper) (draw:Bool):ItA:=fun P F orc fuel ih b fn len tr k ds ro H n R W=>
 Option.rec none (fun p=> Prod.rec (fun recs f=> RF.rec (fun T' H' n'=> Bool.rec none (Tm.rec (fun len' tr'=> ih b fn len' tr' k ds ro H' n' (Q7R b recs R) (Q7S b recs W)) T') (chk ops recs draw))
  (fun T' v H' n' R1 W1=> resume P F orc fuel ih b R W (Q7I ⟨fn,⟨len,tr⟩,.code (.region id ops draw)::k,ds,.run,ro⟩ ops draw k (some (recs,.pan T' v H' n' R1 W1)))) f) p) (Q5W P F orc (Q7H P F orc fuel ih) len tr ops H n)
def codeF (cd:Code):ItA:=Code.rec Q2R QsP (fun x y _ _=> Q81 x y) (fun q x y _ _=> Q7V q x y) (fun id x _=> Q6O id x) (fun x _=> Q7h x) (fun f ps x y _ _=> QjI (.code (.rangeFunc f ps x y))) (fun id=> QjI (.code (.exit id))) (fun x _=> Q7d x) (fun _=> Q2R) (fun l=> QjI (.code (.goto l))) (QjI (.code .ret)) (fun w=> QjI (.code (.refuse w))) cd
def Q7f (it:Item):ItA:=Item.rec codeF (fun _=> Q2R) Q7h (fun _=> Q2R) (fun a b=> QjI (.inRegion a b)) (fun l=> QjI (.inRangeFunc l)) (fun l=> QjI (.endRangeFunc l)) (QjI .beginRound) (fun a b c d=> QjI (.call a b c d)) (fun a b=> QjI (.extern a b)) it
def Qm8 (P:Program) (F:FuncId->Bool) (orc:Orc) (fuel:Nat):Run:=Nat.rec (fun _ _ _ _ _ _ _ _ _ _ _=> none) (fun fuel ih b fn len tr todo ds ro H n R W=>
 List.rec (resume P F orc fuel ih b R W (Qh6 ⟨fn,⟨len,tr⟩,[],ds,.run,ro⟩ H n none)) (fun it k _=> Q7f it P F orc fuel ih b fn len tr k ds ro H n R W) todo) fuel
theorem Qpi (P:Program) (F:FuncId->Bool) (orc:Orc):∀(fuel b:Nat) (fn:FuncId) (len:Nat) (tr:Tri) (todo:List Item) (ds:List Nat) (ro:Option Nat) (H:Qar) (n:Nat) (R W:List Nat),Qm8 P F orc fuel b fn len tr todo ds ro H n R W=Qh1 P F orc fuel b ⟨fn,⟨len,tr⟩,todo,ds,.run,ro⟩ H n R W
 | 0,_,_,_,_,_,_,_,_,_,_,_=> rfl
 | fuel+1,b,fn,len,tr,todo,ds,ro,H,n,R,W=> by
   have hih:∀(b:Nat) (fn:FuncId) (len:Nat) (tr:Tri) (todo:List Item) (ds:List Nat) (ro:Option Nat) (H:Qar) (n:Nat) (R W:List Nat),Qm8 P F orc fuel b fn len tr todo ds ro H n R W=Qh1 P F orc fuel b ⟨fn,⟨len,tr⟩,todo,ds,.run,ro⟩ H n R W:=Qpi P F orc fuel;have hrec:Q7H P F orc fuel (Qm8 P F orc fuel)=fun c1 H1 n1=> Qh1 P F orc fuel n1 c1 H1 n1 [] []:=by
    funext c1 H1 n1;obtain ⟨fn,⟨len,tr⟩,todo,ds,mode,ro⟩:=c1;cases mode with
    | run=> exact hih _ _ _ _ _ _ _ _ _ _ _
    | ret=> rfl
    | pan v=> rfl
   have hres:∀(R W:List Nat) (x:Option FS),resume P F orc fuel (Qm8 P F orc fuel) b R W x=match x with
    | some (.go c' H' n' R' W')=> Qh1 P F orc fuel b c' H' n' (Qeb b R' R) (Qeb b W' W)
    | some (.done out H' n' R' W')=> some ⟨out,H',n',Qeb b R' R,Qeb b W' W⟩
    | none=> none:=by
    intro R W x;cases x with
    | none=> rfl
    | some fs=>
      cases fs with
      | done out H' n' R' W'=> rfl
      | go c' H' n' R' W'=>
        obtain ⟨fn,⟨len,tr⟩,todo,ds,mode,ro⟩:=c';cases mode with
        | run=> exact hih _ _ _ _ _ _ _ _ _ _ _
        | ret=> rfl
        | pan v=> rfl
   have hslow:∀(it:Item) (k:List Item),QjI it P F orc fuel (Qm8 P F orc fuel) b fn len tr k ds ro H n R W=Qh1 P F orc (fuel+1) b ⟨fn,⟨len,tr⟩,it::k,ds,.run,ro⟩ H n R W:=by
    intro it k;unfold QjI;rw [hres,hrec];rfl
   cases todo with
   | nil=> exact hres R W _
   | cons it k=>
     show Q7f it P F orc fuel (Qm8 P F orc fuel) b fn len tr k ds ro H n R W=_;cases it with
     | code cd=>
       cases cd with
       | skip=> exact hih _ _ _ _ _ _ _ _ _ _ _
       | label l=> exact hih _ _ _ _ _ _ _ _ _ _ _
       | seq x y=> exact hih _ _ _ _ _ _ _ _ _ _ _
       | block id x=> exact hih _ _ _ _ _ _ _ _ _ _ _
       | loop x=> exact hih _ _ _ _ _ _ _ _ _ _ _
       | scope x=> exact hih _ _ _ _ _ _ _ _ _ _ _
       | cond q x y=>
         show (Option.rec none (fun v=> Option.rec none (fun t=> Bool.rec (Qm8 P F orc fuel b fn len tr (.code y::k) ds ro H n R W) (Qm8 P F orc fuel b fn len tr (.code x::k) ds ro H n R W) t) (QhC v)) (evF tr q):Option Rs)=_;rw [Q4x len tr,hih,hih];simp only [Qh1,Qof,QqX,Qr6];cases evC ⟨len,tr⟩ q with
         | none=> rfl
         | some v=>
           cases v with
           | bool t=> cases t <;> rfl
           | _=> rfl
       | region id ops draw=>
         show QsP id ops draw P F orc fuel (Qm8 P F orc fuel) b fn len tr k ds ro H n R W=_;unfold QsP;rw [Q2K,hrec];simp only [Qh1,Qof,QqX,Qr6,QyU,Q1x];cases hrr:QhI P F orc (fun c1 H1 n1=> Qh1 P F orc fuel n1 c1 H1 n1 [] []) ops ops.toList ⟨len,tr⟩ H n with
         | none=> rfl
         | some p=>
           obtain ⟨recs,f⟩:=p;cases f with
           | pan v H' n' R1 W1=> exact hres R W _
           | ok T' H' n'=>
             have hck:=Q6u (draw:=draw) (Qnj _ _ _ _ _ _ _ _ hrr);obtain ⟨len',tr'⟩:=T';simp only [Q7I];rw [hck];cases !draw || (Qd1 0 ops.toList && indep ops 0 recs (QnF ops.toList [])) with
             | false=> rfl
             | true=> exact hih _ _ _ _ _ _ _ _ _ _ _
       | rangeFunc f ps x y=> exact hslow _ k
       | exit id=> exact hslow _ k
       | goto id=> exact hslow _ k
       | ret=> exact hslow _ k
       | refuse w=> exact hslow (.code (.refuse w)) k
     | inBlock id=> exact hih _ _ _ _ _ _ _ _ _ _ _
     | inScope x=> exact hih _ _ _ _ _ _ _ _ _ _ _
     | inLoop x=> exact hih _ _ _ _ _ _ _ _ _ _ _
     | inRegion a b=> exact hslow _ k
     | inRangeFunc l=> exact hslow _ k
     | endRangeFunc l=> exact hslow _ k
     | beginRound=> exact hslow _ k
     | call a b c d=> exact hslow _ k
     | extern a b=> exact hslow _ k
end
end Go.CE
