/- CE: the canonical machine a third time: by recursors alone where much time goes. -/
import Derived.Test.YtiabgkiccaodmaaGreatZRD04
set_option linter.all false
namespace Go.CE
open Go Go.RowKit
noncomputable section

def Qo0 (t:Tri):Nat->Value:=Tri.rec (fun _=> undef) (fun _ v _ gl gr k=> Nat.rec v (fun j _=> Bool.rec (gr (Nat.div j 2)) (gl (Nat.div j 2)) (Nat.beq (Nat.mod j 2) 0)) k) t
theorem Qjd:∀(t:Tri) (k:Nat),Qo0 t k=t.get k
 | .lf,k=> by cases k <;> rfl
 | .nd l v r,0=> rfl
 | .nd l v r,k+1=> by
   show (Bool.rec (Qo0 r (k / 2)) (Qo0 l (k / 2)) (Nat.beq (k % 2) 0):Value)=bif Nat.beq (k % 2) 0 then l.get (k / 2) else r.get (k / 2);rw [Qjd l,Qjd r];cases Nat.beq (k % 2) 0 <;> rfl
def Qmc (f:Nat):Tri->Nat->Value->Tri:=Nat.rec (fun t _ _=> t) (fun _ ih t i x=> Tri.rec
 (Nat.rec (.nd .lf x .lf) (fun j _=> Bool.rec (.nd .lf undef (ih .lf (Nat.div j 2) x)) (.nd (ih .lf (Nat.div j 2) x) undef .lf) (Nat.beq (Nat.mod j 2) 0)) i)
 (fun l v r _ _=> Nat.rec (.nd l x r) (fun j _=> Bool.rec (.nd l v (ih r (Nat.div j 2) x)) (.nd (ih l (Nat.div j 2) x) v r) (Nat.beq (Nat.mod j 2) 0)) i) t) f
theorem Qj4:∀(f:Nat) (t:Tri) (i:Nat) (x:Value),Qmc f t i x=Tri.set f t i x
 | 0,_,_,_=> rfl
 | f+1,.lf,0,x=> rfl
 | f+1,.nd l v r,0,x=> rfl
 | f+1,.lf,k+1,x=> by
   show (Bool.rec (Tri.nd .lf undef (Qmc f .lf (k / 2) x)) (Tri.nd (Qmc f .lf (k / 2) x) undef .lf) (Nat.beq (k % 2) 0):Tri)=bif Nat.beq (k % 2) 0 then .nd (Tri.set f .lf (k / 2) x) undef .lf else .nd .lf undef (Tri.set f .lf (k / 2) x);rw [Qj4 f];cases Nat.beq (k % 2) 0 <;> rfl
 | f+1,.nd l v r,k+1,x=> by
   show (Bool.rec (Tri.nd l v (Qmc f r (k / 2) x)) (Tri.nd (Qmc f l (k / 2) x) v r) (Nat.beq (k % 2) 0):Tri)=bif Nat.beq (k % 2) 0 then .nd (Tri.set f l (k / 2) x) v r else .nd l v (Tri.set f r (k / 2) x);rw [Qj4 f,Qj4 f];cases Nat.beq (k % 2) 0 <;> rfl
def evF (tr:Tri) (x:Operand):Option Value:=Operand.rec (fun t=> some (Qo0 tr t)) (fun v=> Bool.rec none (some v) (af v)) (fun _=> none) (fun f=> some (.func (.func f) #[] #[])) x
theorem Q3P (len:Nat) (tr:Tri):evF tr=evC ⟨len,tr⟩:=by
 funext x;cases x with
 | tmp t=> show some (Qo0 tr t)=some (tr.get t);rw [Qjd]
 | const v=> show (Bool.rec none (some v) (af v):Option Value)=bif af v then some v else none;cases af v <;> rfl
 | global g=> rfl
 | func f=> rfl
def Q6G (tr:Tri) (d:Option Tmp) (v:Value):Tri:=Option.rec tr (fun d=> Qmc 14 tr d v) d
theorem Q0B (len:Nat) (tr:Tri) (d:Option Tmp) (v:Value):(⟨len,Q6G tr d v⟩:Tm)=QgW ⟨len,tr⟩ d v:=by
 cases d with
 | none=> rfl
 | some d=> show (⟨len,Qmc 14 tr d v⟩:Tm)=⟨len,tr.set 14 d v⟩;rw [Qj4]
def Q7c {α:Type} (l:List α):Nat->Option α:=List.rec (fun _=> none) (fun x _ ih k=> Nat.rec (some x) (fun j _=> ih j) k) l
theorem Q0W {α:Type}:∀(l:List α) (k:Nat),Q7c l k=l[k]?
 | [],k=> by cases k <;> rfl
 | x::l,0=> rfl
 | x::l,k+1=> by show Q7c l k=_;rw [Q0W l k];rfl
def Qup (P:Program) (t:TypeId) (cs:Array Value) (off:Nat):Option Value:=
 Option.rec none (fun g=> Bool.rec (Q7c cs.toList off) (Option.rec none (fun s=> Bool.rec none (some (.agg (cs.extract off (off+s)))) (Nat.ble (off+s) cs.size)) (Qf7 P t)) g) (Qys P t)
theorem Qrc (P:Program) (t:TypeId) (cs:Array Value) (off:Nat):Qup P t cs off=Qg7 P t cs off:=by
 unfold Qup Qg7;cases Qys P t with
 | none=> rfl
 | some g=>
   cases g with
   | false=> show Q7c cs.toList off=_;rw [Q0W,Array.getElem?_toList]
   | true=>
     cases Qf7 P t with
     | none=> rfl
     | some s=> simp only;cases Nat.ble (off+s) cs.size <;> rfl
def QuK (P:Program) (t:TypeId) (H:Qau) (p:Value):Option (Value×Nat):=match p with
 | .pointer (some ⟨b,off,none⟩)=> match Qaz H b with
   | some (.cells cs _ _)=> match Qup P t cs off with
     | some v=> some (v,b)
     | none=> none
   | _=> none
 | _=> none
theorem QyS (P:Program) (t:TypeId) (H:Qau) (p:Value):QuK P t H p=Qku P t H p:=by
 unfold QuK Qku;simp only [Qrc];rfl
def Q2z (p:Value->Bool) (l:List Value):Bool:=List.rec true (fun x _ ih=> Bool.rec false ih (p x)) l
theorem Qmb (p:Value->Bool):∀(l:List Value),Q2z p l=l.all p
 | []=> rfl
 | x::l=> by
   show (Bool.rec false (Q2z p l) (p x):Bool)=_;rw [Qmb p l,List.all_cons];cases p x <;> rfl
def Q4I (cs:Array Value):Bool:=Q2z (·.oneCell') cs.toList
theorem Q1J (cs:Array Value):Q4I cs=ones cs:=by
 unfold Q4I ones;rw [Qmb,Array.all_toList]
def saF (v:Value):Bool:=match v with
 | .agg xs=> Q2z simple xs.toList
 | v=> simple v
theorem Q3W (v:Value):saF v=sa v:=by
 cases v <;> first | rfl | (show Q2z simple _=_;rw [Qmb,Array.all_toList];rfl)
def afF (v:Value):Bool:=match v with
 | .agg xs=> Q2z simple xs.toList
 | .tuple xs=> Q2z saF xs.toList
 | .iface _ v=> saF v
 | v=> simple v
theorem Q6C (v:Value):afF v=af v:=by
 cases v with
 | iface t v=> exact Q3W v
 | tuple xs=> show Q2z saF _=_;rw [show saF=sa from funext Q3W,Qmb,Array.all_toList];rfl
 | _=> first | rfl | (show Q2z simple _=_;rw [Qmb,Array.all_toList];rfl)
def QpA (P:Program) (t:TypeId) (H:Qau) (v p:Value):Option (Qau×Nat):=match p with
 | .pointer (some ⟨b,off,none⟩)=> match Qaz H b with
   | some (.cells cs te (0,0))=> match Qf7 P t with
     | some s=> bif Nat.beq v.cells.size s && Q4I v.cells && Nat.ble (off+s) cs.size then some (QgP H b (.cells (splice cs off v.cells) te (0,0)),b) else none
     | none=> none
   | _=> none
 | _=> none
theorem Qv4 (P:Program) (t:TypeId) (H:Qau) (v p:Value):QpA P t H v p=Qim P t H v p:=by
 unfold QpA Qim;simp only [Q1J];rfl
def QoH (P:Program) (t:TypeId) (f:Nat) (x:Value):Option Value:=match x with
 | .agg cs=> match und P t with
   | some (.struct fields)=> match fields[f]? with
     | some fd=> Qup P fd.type cs fd.offset
     | none=> none
   | _=> none
 | _=> none
theorem Qwt (P:Program) (t:TypeId) (f:Nat) (x:Value):QoH P t f x=QnY P t f x:=by
 unfold QoH QnY;simp only [Qrc];rfl
def QyW (ops:Array Oper) (tr:Tri) (j:Nat):Option Bool:=match nth ops.toList j with
 | some o=> match o.dst with
   | some t=> Qii (Qo0 tr t)
   | none=> none
 | none=> none
theorem Qye (len:Nat) (ops:Array Oper) (tr:Tri) (j:Nat):QyW ops tr j=Qbv ops ⟨len,tr⟩ j:=by
 unfold QyW Qbv;simp only [Qjd,Qch];rfl
def Q34 (ops:Array Oper) (tr:Tri) (g:Option (Nat×Bool)):Bool:=Option.rec true (fun jw=> Prod.rec (fun j w=> Option.rec false (fun b=> Bool.rec (Bool.rec true false w) (Bool.rec false true w) b) (QyW ops tr j)) jw) g
theorem Q2c (len:Nat) (ops:Array Oper) (tr:Tri) (o:Oper):Q34 ops tr o.guard=Region.wanted o (Qbv ops ⟨len,tr⟩):=by
 unfold Q34 Region.wanted;cases o.guard with
 | none=> rfl
 | some jw=>
   obtain ⟨j,w⟩:=jw;simp only [Qye len];cases Qbv ops ⟨len,tr⟩ j with
   | none=> rfl
   | some b=> cases b <;> cases w <;> rfl
abbrev Ans:=Option (List Rec×RF)
abbrev KV:=Value->Qau->Nat->List Nat->List Nat->Ans
abbrev Arm:=Program->(FuncId->Bool)->Orc->(CF->Qau->Nat->Option Rs)->Nat->Tri->Oper->Qau->Nat->KV->KV->Ans
def fin (k kp:KV) (s:Option Rs):Ans:=match s with
 | some ⟨out,H,n,R,W⟩=> match out with
   | .ret v=> k v H n R W
   | .pan v=> kp v H n R W
 | none=> none
def pv (k:KV) (H:Qau) (n:Nat) (x:Option Value):Ans:=Option.rec none (fun v=> k v H n [] []) x
theorem QkN (k kp:KV) (H:Qau) (n:Nat) (x:Option Value):fin k kp (qV x H n)=pv k H n x:=by cases x <;> rfl
def Q5Y (x:Operand):Arm:=fun _ _ _ _ _ tr _ H n k _=> pv k H n (evF tr x)
def Q7n (c a b:Operand):Arm:=fun _ _ _ _ _ tr _ H n k _=> Option.rec none (fun v=> Option.rec none (fun t=> Bool.rec (pv k H n (evF tr b)) (pv k H n (evF tr a)) t) (Qii v)) (evF tr c)
def Q7q (t:TypeId) (a:Operand):Arm:=fun P _ _ _ _ tr _ H n k _=> Option.rec none (fun p=> Option.rec none (fun vb=> Prod.rec (fun v b=> Bool.rec none (k v H n [b] []) (Nat.blt b n)) vb) (QuK P t H p)) (evF tr a)
def Q5M (t:TypeId) (a x:Operand):Arm:=fun P _ _ _ _ tr _ H n k _=> Option.rec none (fun p=> Option.rec none (fun v=> Option.rec none (fun hb=> Prod.rec (fun H' b=> Bool.rec none (k undef H' n [b] [b]) (Nat.blt b n)) hb) (QpA P t H v p)) (evF tr x)) (evF tr a)
def QvH (s:TypeId) (x:Operand) (f:Nat):Arm:=fun P _ _ _ _ tr _ H n k _=> Option.rec none (fun p=> pv k H n (Qcd P s f p)) (evF tr x)
def Q5D (s:TypeId) (x:Operand) (f:Nat):Arm:=fun P _ _ _ _ tr _ H n k _=> Option.rec none (fun p=> pv k H n (QoH P s f p)) (evF tr x)
def QwP (t:TypeId) (x i:Operand):Arm:=fun P _ _ _ _ tr _ H n k _=> Option.rec none (fun p=> Option.rec none (fun j=> pv k H n (Qfd P t p j)) (evF tr i)) (evF tr x)
def Q2x (x:Operand) (i:Nat):Arm:=fun _ _ _ _ _ tr _ H n k _=> Option.rec none (fun p=> pv k H n (QhY i p)) (evF tr x)
def Q7P (op:BinOp) (_:TypeId) (x y:Operand) (_:TypeId):Arm:=fun P _ _ _ _ tr o H n k _=> Option.rec none (fun a=> Option.rec none (fun b=> Option.rec (pv k H n (QeR P (evF tr) o)) (fun v=> k v H n [] []) (Q4F op a b)) (evF tr y)) (evF tr x)
def Q5k (v:Value) (r:CR) (k:KV) (H':Qau) (n':Nat) (R W:List Nat):Ans:=List.rec (Bool.rec (k v H' n' (r.R++R) (r.W++[])) (k v r.H n' (r.R++R) (r.W++[])) (afF v)) (fun _ _ _=> k v H' n' (r.R++R) (r.W++W)) W
def Q3D (r:CR) (k kp:KV) (s:Option Rs):Ans:=Option.rec none (fun s=> Rs.rec (fun out H' n' R W=> OO.rec (fun v=> Q5k v r k H' n' R W) (fun v=> kp v H' n' (r.R++R) (r.W++W)) out) s) s
theorem Q19 (r:CR) (k kp:KV) (s:Option Rs):Q3D r k kp s=fin k kp (match s with | some s=> Q4S r s | none=> none):=by
 cases s with
 | none=> rfl
 | some s=>
   obtain ⟨out,H',n',R,W⟩:=s;cases out with
   | pan v=>
     cases W with
     | nil=> rfl
     | cons a b=> rfl
   | ret v=>
     show Q5k v r k H' n' R W=_;unfold Q5k;cases W with
     | nil=>
       rw [Q6C];simp only [Q4S,QfL];cases af v <;> rfl
     | cons a b=> rfl
def QuN (P:Program) (orc:Orc) (rec:CF->Qau->Nat->Option Rs) (g:FuncId) (args:Array Value) (r:CR) (k kp:KV):Ans:=Option.rec (Option.rec none (fun c=> Q3D r k kp (rec c r.H r.n)) (Qc9 P g args)) (fun _=> fin k kp (QuI P orc rec g args r)) (orc g args r.H r.n)
theorem QzB (P:Program) (orc:Orc) (rec:CF->Qau->Nat->Option Rs) (g:FuncId) (args:Array Value) (r:CR) (k kp:KV):QuN P orc rec g args r k kp=fin k kp (QuI P orc rec g args r):=by
 unfold QuN;cases ho:orc g args r.H r.n with
 | some x=> rfl
 | none=>
   unfold QuI;rw [ho];show (Option.rec none (fun c=> Q3D r k kp (rec c r.H r.n)) (Qc9 P g args):Ans)=fin k kp (Q7j P rec g args r);unfold Q7j;cases Qc9 P g args with
   | none=> rfl
   | some c=>
     show Q3D r k kp (rec c r.H r.n)=_;rw [Q19];rfl
def Q4C (P:Program) (orc:Orc) (rec:CF->Qau->Nat->Option Rs) (n:Nat) (x:Option CR) (k kp:KV):Ans:=Option.rec none (fun r=> CN.rec (fun _=> fin k kp (qR P orc rec n (some r))) (fun g args=> Bool.rec none (QuN P orc rec g args r k kp) (r.R.all (fun i=> Nat.blt i n))) (fun _ _ _ _ _=> fin k kp (qR P orc rec n (some r))) r.nx) x
theorem Q36 (P:Program) (orc:Orc) (rec:CF->Qau->Nat->Option Rs) (n:Nat) (x:Option CR) (k kp:KV):Q4C P orc rec n x k kp=fin k kp (qR P orc rec n x):=by
 cases x with
 | none=> rfl
 | some r=>
   obtain ⟨nx,H',n',R,W⟩:=r;cases nx with
   | val v=> rfl
   | round l fn tm a b=> rfl
   | enter g args=>
     show (Bool.rec none (QuN P orc rec g args ⟨.enter g args,H',n',R,W⟩ k kp) (R.all (fun i=> Nat.blt i n)):Ans)=_;rw [QzB];simp only [qR];cases R.all (fun i=> Nat.blt i n) <;> rfl
def Q7k (c:Call):Arm:=fun P F orc rec _ tr o H n k kp=> Q4C P orc rec n (QmK P F (evF tr) o c H n) k kp
def Qij:Arm:=fun P F orc rec len tr o H n k kp=> fin k kp (opQ P F orc rec ⟨len,tr⟩ o H n)
def opF (op:Op):Arm:=Op.rec Q5Y Q5Y Q7n (fun _=> Qij) (fun _ _=> Qij) (fun _ _=> Qij) (fun _ _ _=> Qij) (fun _ _ _ _=> Qij) Q7q Q5M (fun _=> Qij) (fun _=> Qij) (fun _=> Qij) Q7P (fun _ _ _=> Qij) (fun _ _ _=> Qij) (fun _ _=> Qij) (fun _ _=> Qij)
 (fun _ _ _=> Qij) (fun _ _=> Qij) (fun _ _=> Qij) (fun _ _ _=> Qij) (fun _ _ _ _ _=> Qij) QvH Q5D QwP (fun _ _ _=> Qij) (fun _ _ _ _=> Qij) (fun _ _ _ _=> Qij) (fun _ _ _=> Qij) (fun _ _ _ _=> Qij) (fun _ _=> Qij) (fun _ _=> Qij) (fun _=> Qij) (fun _ _ _ _=> Qij)
 Q2x Q7k (fun _=> Qij) (fun _=> Qij) (fun _=> Qij) (fun _ _=> Qij) (fun _ _ _=> Qij) (fun _ _=> Qij) op
theorem Q6a (P:Program) (F:FuncId->Bool) (orc:Orc) (rec:CF->Qau->Nat->Option Rs) (len:Nat) (tr:Tri) (o:Oper) (H:Qau) (n:Nat) (k kp:KV):opF o.op P F orc rec len tr o H n k kp=fin k kp (opQ P F orc rec ⟨len,tr⟩ o H n):=by
 have e:=Q3P len tr;cases hp:o.op with
 | move x=> show pv k H n (evF tr x)=_;rw [e];unfold opQ;simp only [hp];exact (QkN k kp H n _).symm
 | assign x=> show pv k H n (evF tr x)=_;rw [e];unfold opQ;simp only [hp];exact (QkN k kp H n _).symm
 | pick c a b=>
   show (Option.rec none (fun v=> Option.rec none (fun t=> Bool.rec (pv k H n (evF tr b)) (pv k H n (evF tr a)) t) (Qii v)) (evF tr c):Ans)=_;rw [e];unfold opQ;simp only [hp];cases evC ⟨len,tr⟩ c with
   | none=> rfl
   | some v=>
     cases v with
     | bool t=> cases t <;> exact (QkN k kp H n _).symm
     | _=> rfl
 | load t a=>
   show (Option.rec none (fun p=> Option.rec none (fun vb=> Prod.rec (fun v b=> Bool.rec none (k v H n [b] []) (Nat.blt b n)) vb) (QuK P t H p)) (evF tr a):Ans)=_;simp only [QyS];rw [e];unfold opQ;simp only [hp];cases evC ⟨len,tr⟩ a with
   | none=> rfl
   | some p=>
     simp only [Q5g];cases Qku P t H p with
     | none=> rfl
     | some vb=>
       obtain ⟨v,b⟩:=vb;cases hb:Nat.blt b n <;> simp [qR,fin,Q2W,hb]
 | store t a x=>
   show (Option.rec none (fun p=> Option.rec none (fun v=> Option.rec none (fun hb=> Prod.rec (fun H' b=> Bool.rec none (k undef H' n [b] [b]) (Nat.blt b n)) hb) (QpA P t H v p)) (evF tr x)) (evF tr a):Ans)=_;simp only [Qv4];rw [e];unfold opQ;simp only [hp];cases evC ⟨len,tr⟩ a with
   | none=> rfl
   | some p=>
     cases evC ⟨len,tr⟩ x with
     | none=> rfl
     | some v=>
       simp only [QxO];cases Qim P t H v p with
       | none=> rfl
       | some vb=>
         obtain ⟨H',b⟩:=vb;cases hb:Nat.blt b n <;> simp [qR,fin,Q2W,hb]
 | fieldAddr s x f=>
   show (Option.rec none (fun p=> pv k H n (Qcd P s f p)) (evF tr x):Ans)=_;rw [e];unfold opQ;simp only [hp];cases evC ⟨len,tr⟩ x with
   | none=> rfl
   | some p=> simp only [Qk4,Qhf];exact (QkN k kp H n _).symm
 | field s x f=>
   show (Option.rec none (fun p=> pv k H n (QoH P s f p)) (evF tr x):Ans)=_;simp only [Qwt];rw [e];unfold opQ;simp only [hp];cases evC ⟨len,tr⟩ x with
   | none=> rfl
   | some p=> simp only [Q1c,Qhf];exact (QkN k kp H n _).symm
 | indexAddr t x i=>
   show (Option.rec none (fun p=> Option.rec none (fun j=> pv k H n (Qfd P t p j)) (evF tr i)) (evF tr x):Ans)=_;rw [e];unfold opQ;simp only [hp];cases evC ⟨len,tr⟩ x with
   | none=> rfl
   | some p=>
     cases evC ⟨len,tr⟩ i with
     | none=> rfl
     | some j=> simp only [Qkx,Qhf];exact (QkN k kp H n _).symm
 | extract x i=>
   show (Option.rec none (fun p=> pv k H n (QhY i p)) (evF tr x):Ans)=_;rw [e];unfold opQ;simp only [hp];cases evC ⟨len,tr⟩ x with
   | none=> rfl
   | some p=> simp only [QoL,Qhf];exact (QkN k kp H n _).symm
 | binOp op t x y t'=>
   show (Option.rec none (fun a=> Option.rec none (fun b=> Option.rec (pv k H n (QeR P (evF tr) o)) (fun v=> k v H n [] []) (Q4F op a b)) (evF tr y)) (evF tr x):Ans)=_;rw [e];unfold opQ;simp only [hp];cases evC ⟨len,tr⟩ x with
   | none=> rfl
   | some a=>
     cases evC ⟨len,tr⟩ y with
     | none=> rfl
     | some b=>
       simp only [Q74];cases Q4F op a b with
       | none=> simp only [Qhf];exact (QkN k kp H n _).symm
       | some v=> rfl
 | call c=> show Q4C P orc rec n (QmK P F (evF tr) o c H n) k kp=_;rw [Q36,e];unfold opQ;simp only [hp]
 | _=> rfl
def Q2g (r:Rec) (x:Ans):Ans:=Option.rec none (fun p=> Prod.rec (fun rs f=> some (r::rs,f)) p) x
def Q26 (P:Program) (F:FuncId->Bool) (orc:Orc) (rec:CF->Qau->Nat->Option Rs) (len:Nat) (ops:Array Oper) (l:List Oper):Tri->Qau->Nat->Ans:=
 List.rec (fun tr H n=> some ([],.ok ⟨len,tr⟩ H n)) (fun o _ ih tr H n=> Bool.rec
  (Q2g ⟨o,false,undef,⟨len,tr⟩,H,H,n,n,[],[]⟩ (ih (Q6G tr o.dst undef) H n))
  (opF o.op P F orc rec len tr o H n (fun v H' n' R W=> Q2g ⟨o,true,v,⟨len,tr⟩,H,H',n,n',R,W⟩ (ih (Q6G tr o.dst v) H' n')) (fun v H' n' R W=> some ([],.pan ⟨len,tr⟩ v H' n' R W)))
  (Q34 ops tr o.guard)) l
def Qvd (len:Nat) (l:List Oper):Bool:=l.all fun o=> QiK ⟨len,.lf⟩ o.dst
theorem Qvr (P:Program) (F:FuncId->Bool) (orc:Orc) (rec:CF->Qau->Nat->Option Rs) (len:Nat) (ops:Array Oper):∀(l:List Oper) (tr:Tri) (H:Qau) (n:Nat),Qvd len l=true->Q26 P F orc rec len ops l tr H n=Qiq P F orc rec ops l ⟨len,tr⟩ H n
 | [],_,_,_,_=> rfl
 | o::l,tr,H,n,hd=> by
   simp only [Qvd,List.all_cons,YB] at hd;have hd1:QiK ⟨len,tr⟩ o.dst=true:=by
    have:=hd.1;cases hq:o.dst with
    | none=> rfl
    | some x=> rw [hq] at this;exact this
   have ih:=Qvr P F orc rec len ops l;show (Bool.rec (Q2g ⟨o,false,undef,⟨len,tr⟩,H,H,n,n,[],[]⟩ (Q26 P F orc rec len ops l (Q6G tr o.dst undef) H n))
    (opF o.op P F orc rec len tr o H n (fun v H' n' R W=> Q2g ⟨o,true,v,⟨len,tr⟩,H,H',n,n',R,W⟩ (Q26 P F orc rec len ops l (Q6G tr o.dst v) H' n')) (fun v H' n' R W=> some ([],.pan ⟨len,tr⟩ v H' n' R W)))
    (Q34 ops tr o.guard):Ans)=_
   rw [Q2c len];simp only [Qiq,hd1,cond_true];cases Region.wanted o (Qbv ops ⟨len,tr⟩) with
   | false=>
     simp only [cond_false];rw [ih _ _ _ hd.2,Q0B];cases Qiq P F orc rec ops l (QgW ⟨len,tr⟩ o.dst undef) H n <;> rfl
   | true=>
     simp only [cond_true,Q6a];cases opQ P F orc rec ⟨len,tr⟩ o H n with
     | none=> rfl
     | some s=>
       obtain ⟨out,H',n',R,W⟩:=s;cases out with
       | pan v=> rfl
       | ret v=>
         simp only [fin];rw [ih _ _ _ hd.2,Q0B];cases Qiq P F orc rec ops l (QgW ⟨len,tr⟩ o.dst v) H' n' <;> rfl
def QiJ (ops:Array Oper) (o:Oper) (k:Nat):List Oper->List (List Nat)->Bool
 | x::l,b::bs=> (b.contains k || o.apart ops x) && QiJ ops o k l bs
 | [],_=> true
 | _::_,[]=> false
def stat (ops:Array Oper):Nat->List Oper->List (List Nat)->Bool
 | k,o::l,_::bs=> QiJ ops o k l bs && stat ops (k+1) l bs
 | _,[],_=> true
 | _,_::_,[]=> false
def QnO (i:Nat) (l:List Nat):Bool:=List.rec false (fun j _ ih=> Bool.rec ih true (Nat.beq i j)) l
theorem Qlo (i:Nat):∀(l:List Nat),QnO i l=l.contains i
 | []=> rfl
 | j::l=> by
   show (Bool.rec (QnO i l) true (Nat.beq i j):Bool)=_;rw [Qlo i l,List.contains_cons];by_cases e:i=j
   ·subst e;rw [Nat.beq_refl];simp
   ·rw [QiD e];simp [e]
def Quw (W R:List Nat):Bool:=List.rec false (fun i _ ih=> Bool.rec ih true (QnO i R)) W
theorem Qnu (R:List Nat):∀(W:List Nat),Quw W R=W.any fun i=> R.contains i
 | []=> rfl
 | i::W=> by
   show (Bool.rec (Quw W R) true (QnO i R):Bool)=_;rw [Qnu R W,Qlo,List.any_cons];cases R.contains i <;> rfl
def Qu8 (lo hi:Nat) (R:List Nat):Bool:=List.rec false (fun i _ ih=> Bool.rec ih (Bool.rec ih true (Nat.blt i hi)) (Nat.ble lo i)) R
theorem Qs6 (lo hi:Nat):∀(R:List Nat),Qu8 lo hi R=R.any fun i=> Nat.ble lo i && Nat.blt i hi
 | []=> rfl
 | i::R=> by
   show (Bool.rec (Qu8 lo hi R) (Bool.rec (Qu8 lo hi R) true (Nat.blt i hi)) (Nat.ble lo i):Bool)=_;rw [Qs6 lo hi R,List.any_cons];cases Nat.ble lo i <;> cases Nat.blt i hi <;> rfl
def clear (r x:Rec):Bool:=Bool.rec (Bool.rec (Bool.rec true false (Qu8 r.n r.n' x.R)) false (Quw x.W r.R)) false (Quw r.W x.R)
theorem Qxw {ops:Array Oper} {r x:Rec} (h:clear r x=true) (ha:r.o.apart ops x.o=true):tied ops r x=false:=by
 unfold clear at h;rw [Qs6,Qnu,Qnu] at h;unfold tied meets bears;rw [ha];revert h;cases r.W.any fun i=> x.R.contains i <;> cases x.W.any fun i=> r.R.contains i <;> cases x.R.any fun i=> Nat.ble r.n i && Nat.blt i r.n' <;> simp
def Qiu (r:Rec) (k:Nat) (l:List Rec):List (List Nat)->Bool:=List.rec (fun _=> true) (fun x _ ih bs=> List.rec false (fun b bs' _=> Bool.rec (Bool.rec false (ih bs') (QnO k b)) (ih bs') (clear r x)) bs) l
def dyn (l:List Rec):Nat->List (List Nat)->Bool:=List.rec (fun _ _=> true) (fun r l ih k bs=> List.rec false (fun _ bs' _=> Bool.rec false (ih (k+1) bs') (Qiu r k l bs')) bs) l
theorem Qls {ops:Array Oper} {r:Rec} (k:Nat):∀(l:List Rec) (bs:List (List Nat)),Qiu r k l bs=true->QiJ ops r.o k (l.map (·.o)) bs=true->Qe5 ops r k l bs=true
 | [],_,_,_=> by simp [Qe5]
 | x::l,[],_,h=> by simp [QiJ] at h
 | x::l,b::bs,hd,h=> by
   simp only [List.map_cons,QiJ,YB,Bool.or_eq_true] at h;simp only [Qe5,YB,Bool.or_eq_true,Bool.not_eq_true'];have hd:(Bool.rec (Bool.rec false (Qiu r k l bs) (QnO k b)) (Qiu r k l bs) (clear r x):Bool)=true:=hd;cases hc:clear r x with
   | true=>
     rw [hc] at hd;exact ⟨h.1.imp id fun ha=> Qxw hc ha,Qls k l bs hd h.2⟩
   | false=>
     rw [hc] at hd;have hd:(Bool.rec false (Qiu r k l bs) (QnO k b):Bool)=true:=hd;cases he:QnO k b with
     | false=> rw [he] at hd;cases hd
     | true=>
       rw [he] at hd;rw [Qlo] at he;exact ⟨.inl he,Qls k l bs hd h.2⟩
theorem Qo2 {ops:Array Oper}:∀(l:List Rec) (bs:List (List Nat)) (k:Nat),dyn l k bs=true->stat ops k (l.map (·.o)) bs=true->indep ops k l bs=true
 | [],_,_,_,_=> by simp [indep]
 | x::l,[],_,_,h=> by simp [stat] at h
 | x::l,b::bs,k,hd,h=> by
   simp only [List.map_cons,stat,YB] at h;simp only [indep,YB];have hd:(Bool.rec false (dyn l (k+1) bs) (Qiu x k l bs):Bool)=true:=hd;cases hc:Qiu x k l bs with
   | false=> rw [hc] at hd;cases hd
   | true=>
     rw [hc] at hd;exact ⟨Qls k l bs hc h.1,Qo2 l bs (k+1) hd h.2⟩
theorem QlS {P:Program} {F:FuncId->Bool} {orc:Orc} {rec:CF->Qau->Nat->Option Rs} {ops:Array Oper}:∀(l:List Oper) (T:Tm) (H:Qau) (n:Nat) (recs:List Rec) (T':Tm) (H':Qau) (n':Nat),Qiq P F orc rec ops l T H n=some (recs,.ok T' H' n')->recs.map (·.o)=l
 | [],T,H,n,recs,T',H',n',h=> by
   simp only [Qiq,YO,YR] at h;rw [<-h.1];rfl
 | o::l,T,H,n,recs,T',H',n',h=> by
   simp only [Qiq] at h;have h:=QfO h;cases hw:Region.wanted o (Qbv ops T) with
   | true=>
     rw [hw] at h;simp only [cond_true] at h;split at h
     ·split at h
      ·split at h
       ·rename_i rs f hr;simp only [YO,YR] at h;obtain ⟨rfl,rfl⟩:=h;simp [QlS l _ _ _ _ _ _ _ hr]
       ·cases h
      ·simp only [YO,YR] at h;cases h.2
     ·cases h
   | false=>
     rw [hw] at h;simp only [cond_false] at h;split at h
     ·rename_i rs f hr;simp only [YO,YR] at h;obtain ⟨rfl,rfl⟩:=h;simp [QlS l _ _ _ _ _ _ _ hr]
     ·cases h
def Qta (ops:Array Oper):Bool:=Qd3 0 ops.toList && stat ops 0 ops.toList (QnA ops.toList [])
def chk (ops:Array Oper) (recs:List Rec) (draw:Bool):Bool:=Bool.rec true (Bool.rec (Qd3 0 ops.toList && indep ops 0 recs (QnA ops.toList [])) (Bool.rec (Qd3 0 ops.toList && indep ops 0 recs (QnA ops.toList [])) true (dyn recs 0 (QnA ops.toList []))) (Qta ops)) draw
theorem Q6f {ops:Array Oper} {recs:List Rec} {draw:Bool} (h:recs.map (·.o)=ops.toList):chk ops recs draw=(!draw || (Qd3 0 ops.toList && indep ops 0 recs (QnA ops.toList []))):=by
 unfold chk;cases draw with
 | false=> rfl
 | true=>
   simp only [Bool.not_true,Bool.false_or];cases hs:Qta ops with
   | false=> rfl
   | true=>
     cases hc:dyn recs 0 (QnA ops.toList []) with
     | false=> rfl
     | true=>
       unfold Qta at hs;simp only [YB] at hs;rw [hs.1,Qo2 recs _ 0 hc (by rw [h];exact hs.2)];rfl
def Qr5 (b:Nat) (l:List Nat):List Nat->List Nat:=List.rec (fun acc=> acc) (fun x _ ih acc=> Bool.rec (ih acc) (Bool.rec (ih (x::acc)) (ih acc) (QnO x acc)) (Nat.blt x b)) l
theorem Qlp (b:Nat):∀(l acc:List Nat),Qr5 b l acc=Qec b l acc
 | [],_=> rfl
 | x::l,acc=> by
   show (Bool.rec (Qr5 b l acc) (Bool.rec (Qr5 b l (x::acc)) (Qr5 b l acc) (QnO x acc)) (Nat.blt x b):List Nat)=_;rw [Qlp b l,Qlp b l,Qlo,Qec];cases Nat.blt x b <;> cases acc.contains x <;> rfl
theorem Qo9 (b:Nat):∀(l m acc:List Nat),Qec b (l++m) acc=Qec b m (Qec b l acc)
 | [],_,_=> rfl
 | x::l,m,acc=> by simp only [List.cons_append,Qec];exact Qo9 b l m _
def Q7t (b:Nat) (recs:List Rec):List Nat->List Nat:=List.rec (fun acc=> acc) (fun r _ ih acc=> ih (Qr5 b r.R acc)) recs
theorem QzO (b:Nat):∀(recs:List Rec) (acc:List Nat),Q7t b recs acc=Qec b (Qmt recs) acc
 | [],_=> rfl
 | r::l,acc=> by
   show Q7t b l (Qr5 b r.R acc)=_;rw [QzO b l,Qlp,show Qmt (r::l)=r.R++Qmt l from List.flatMap_cons,Qo9]
def Q7v (b:Nat) (recs:List Rec):List Nat->List Nat:=List.rec (fun acc=> acc) (fun r _ ih acc=> ih (Qr5 b r.W acc)) recs
theorem Qyo (b:Nat):∀(recs:List Rec) (acc:List Nat),Q7v b recs acc=Qec b (QiO recs) acc
 | [],_=> rfl
 | r::l,acc=> by
   show Q7v b l (Qr5 b r.W acc)=_;rw [Qyo b l,Qlp,show QiO (r::l)=r.W++QiO l from List.flatMap_cons,Qo9]
def Q4M (P:Program) (F:FuncId->Bool) (orc:Orc) (rec:CF->Qau->Nat->Option Rs) (len:Nat) (tr:Tri) (ops:Array Oper) (H:Qau) (n:Nat):Ans:=
 Bool.rec (Qiq P F orc rec ops ops.toList ⟨len,tr⟩ H n) (Q26 P F orc rec len ops ops.toList tr H n) (Qvd len ops.toList)
theorem Q2Q (P:Program) (F:FuncId->Bool) (orc:Orc) (rec:CF->Qau->Nat->Option Rs) (len:Nat) (tr:Tri) (ops:Array Oper) (H:Qau) (n:Nat):Q4M P F orc rec len tr ops H n=Qiq P F orc rec ops ops.toList ⟨len,tr⟩ H n:=by
 unfold Q4M;cases hd:Qvd len ops.toList with
 | false=> rfl
 | true=> exact Qvr P F orc rec len ops _ _ _ _ hd
abbrev Run:=Nat->FuncId->Nat->Tri->List Item->List Nat->Option Nat->Qau->Nat->List Nat->List Nat->Option Rs
def Q7x (P:Program) (F:FuncId->Bool) (orc:Orc) (fuel:Nat) (ih:Run) (c1:CF) (H1:Qau) (n1:Nat):Option Rs:=
 CF.rec (fun fn T todo ds mode ro=> CM.rec (Tm.rec (fun len tr=> ih n1 fn len tr todo ds ro H1 n1 [] []) T) (Qic P F orc fuel n1 ⟨fn,T,todo,ds,.ret,ro⟩ H1 n1 [] []) (fun v=> Qic P F orc fuel n1 ⟨fn,T,todo,ds,.pan v,ro⟩ H1 n1 [] []) mode) c1
def goF (P:Program) (F:FuncId->Bool) (orc:Orc) (fuel:Nat) (ih:Run) (b:Nat) (c1:CF) (H1:Qau) (n1:Nat) (R W:List Nat):Option Rs:=
 CF.rec (fun fn T todo ds mode ro=> CM.rec (Tm.rec (fun len tr=> ih b fn len tr todo ds ro H1 n1 R W) T) (Qic P F orc fuel b ⟨fn,T,todo,ds,.ret,ro⟩ H1 n1 R W) (fun v=> Qic P F orc fuel b ⟨fn,T,todo,ds,.pan v,ro⟩ H1 n1 R W) mode) c1
def resume (P:Program) (F:FuncId->Bool) (orc:Orc) (fuel:Nat) (ih:Run) (b:Nat) (R W:List Nat) (x:Option FS):Option Rs:=
 Option.rec none (fun fs=> FS.rec (fun c' H' n' R' W'=> goF P F orc fuel ih b c' H' n' (Qec b R' R) (Qec b W' W)) (fun out H' n' R' W'=> some ⟨out,H',n',Qec b R' R,Qec b W' W⟩) fs) x
abbrev ItA:=Program->(FuncId->Bool)->Orc->Nat->Run->Nat->FuncId->Nat->Tri->List Item->List Nat->Option Nat->Qau->Nat->List Nat->List Nat->Option Rs
def Qkw (it:Item):ItA:=fun P F orc fuel ih b fn len tr k ds ro H n R W=> resume P F orc fuel ih b R W (Qo5 P F orc (Q7x P F orc fuel ih) ⟨fn,⟨len,tr⟩,it::k,ds,.run,ro⟩ H n)
def Q1B:ItA:=fun _ _ _ _ ih b fn len tr k ds ro H n R W=> ih b fn len tr k ds ro H n R W
def Q7M (x y:Code):ItA:=fun _ _ _ _ ih b fn len tr k ds ro H n R W=> ih b fn len tr (.code x::.code y::k) ds ro H n R W
def Q72 (q:Operand) (x y:Code):ItA:=fun _ _ _ _ ih b fn len tr k ds ro H n R W=> Option.rec none (fun v=> Option.rec none (fun t=> Bool.rec (ih b fn len tr (.code y::k) ds ro H n R W) (ih b fn len tr (.code x::k) ds ro H n R W) t) (Qii v)) (evF tr q)
def Q6m (id:Nat) (x:Code):ItA:=fun _ _ _ _ ih b fn len tr k ds ro H n R W=> ih b fn len tr (.code x::.inBlock id::k) ds ro H n R W
def Q6R (x:Code):ItA:=fun _ _ _ _ ih b fn len tr k ds ro H n R W=> ih b fn len tr (.code x::.inLoop x::k) ds ro H n R W
def Q6s (x:Code):ItA:=fun _ _ _ _ ih b fn len tr k ds ro H n R W=> ih b fn len tr (.code x::.inScope x::k) ds ro H n R W
def Qt9 (id:Nat) (ops:Array Oper) (draw:Bool):ItA:=fun P F orc fuel ih b fn len tr k ds ro H n R W=>
 Option.rec none (fun p=> Prod.rec (fun recs f=> RF.rec (fun T' H' n'=> Bool.rec none (Tm.rec (fun len' tr'=> ih b fn len' tr' k ds ro H' n' (Q7t b recs R) (Q7v b recs W)) T') (chk ops recs draw))
  (fun T' v H' n' R1 W1=> resume P F orc fuel ih b R W (Q7r ⟨fn,⟨len,tr⟩,.code (.region id ops draw)::k,ds,.run,ro⟩ ops draw k (some (recs,.pan T' v H' n' R1 W1)))) f) p) (Q4M P F orc (Q7x P F orc fuel ih) len tr ops H n)
def codeF (cd:Code):ItA:=Code.rec Q1B Qt9 (fun x y _ _=> Q7M x y) (fun q x y _ _=> Q72 q x y) (fun id x _=> Q6m id x) (fun x _=> Q6R x) (fun f ps x y _ _=> Qkw (.code (.rangeFunc f ps x y))) (fun id=> Qkw (.code (.exit id))) (fun x _=> Q6s x) (fun _=> Q1B) (fun l=> Qkw (.code (.goto l))) (Qkw (.code .ret)) (fun w=> Qkw (.code (.refuse w))) cd
def Q66 (it:Item):ItA:=Item.rec codeF (fun _=> Q1B) Q6R (fun _=> Q1B) (fun a b=> Qkw (.inRegion a b)) (fun l=> Qkw (.inRangeFunc l)) (fun l=> Qkw (.endRangeFunc l)) (Qkw .beginRound) (fun a b c d=> Qkw (.call a b c d)) (fun a b=> Qkw (.extern a b)) it
def Qlz (P:Program) (F:FuncId->Bool) (orc:Orc) (fuel:Nat):Run:=Nat.rec (fun _ _ _ _ _ _ _ _ _ _ _=> none) (fun fuel ih b fn len tr todo ds ro H n R W=>
 List.rec (resume P F orc fuel ih b R W (Qif ⟨fn,⟨len,tr⟩,[],ds,.run,ro⟩ H n none)) (fun it k _=> Q66 it P F orc fuel ih b fn len tr k ds ro H n R W) todo) fuel
theorem Qps (P:Program) (F:FuncId->Bool) (orc:Orc):∀(fuel b:Nat) (fn:FuncId) (len:Nat) (tr:Tri) (todo:List Item) (ds:List Nat) (ro:Option Nat) (H:Qau) (n:Nat) (R W:List Nat),Qlz P F orc fuel b fn len tr todo ds ro H n R W=Qic P F orc fuel b ⟨fn,⟨len,tr⟩,todo,ds,.run,ro⟩ H n R W
 | 0,_,_,_,_,_,_,_,_,_,_,_=> rfl
 | fuel+1,b,fn,len,tr,todo,ds,ro,H,n,R,W=> by
   have hih:∀(b:Nat) (fn:FuncId) (len:Nat) (tr:Tri) (todo:List Item) (ds:List Nat) (ro:Option Nat) (H:Qau) (n:Nat) (R W:List Nat),Qlz P F orc fuel b fn len tr todo ds ro H n R W=Qic P F orc fuel b ⟨fn,⟨len,tr⟩,todo,ds,.run,ro⟩ H n R W:=Qps P F orc fuel;have hrec:Q7x P F orc fuel (Qlz P F orc fuel)=fun c1 H1 n1=> Qic P F orc fuel n1 c1 H1 n1 [] []:=by
    funext c1 H1 n1;obtain ⟨fn,⟨len,tr⟩,todo,ds,mode,ro⟩:=c1;cases mode with
    | run=> exact hih _ _ _ _ _ _ _ _ _ _ _
    | ret=> rfl
    | pan v=> rfl
   have hres:∀(R W:List Nat) (x:Option FS),resume P F orc fuel (Qlz P F orc fuel) b R W x=match x with
    | some (.go c' H' n' R' W')=> Qic P F orc fuel b c' H' n' (Qec b R' R) (Qec b W' W)
    | some (.done out H' n' R' W')=> some ⟨out,H',n',Qec b R' R,Qec b W' W⟩
    | none=> none:=by
    intro R W x;cases x with
    | none=> rfl
    | some fs=>
      cases fs with
      | done out H' n' R' W'=> rfl
      | go c' H' n' R' W'=>
        obtain ⟨fn,⟨len,tr⟩,todo,ds,mode,ro⟩:=c';cases mode with
        | run=> exact hih _ _ _ _ _ _ _ _ _ _ _
        | ret=> rfl
        | pan v=> rfl
   have hslow:∀(it:Item) (k:List Item),Qkw it P F orc fuel (Qlz P F orc fuel) b fn len tr k ds ro H n R W=Qic P F orc (fuel+1) b ⟨fn,⟨len,tr⟩,it::k,ds,.run,ro⟩ H n R W:=by
    intro it k;unfold Qkw;rw [hres,hrec];rfl
   cases todo with
   | nil=> exact hres R W _
   | cons it k=>
     show Q66 it P F orc fuel (Qlz P F orc fuel) b fn len tr k ds ro H n R W=_;cases it with
     | code cd=>
       cases cd with
       | skip=> exact hih _ _ _ _ _ _ _ _ _ _ _
       | label l=> exact hih _ _ _ _ _ _ _ _ _ _ _
       | seq x y=> exact hih _ _ _ _ _ _ _ _ _ _ _
       | block id x=> exact hih _ _ _ _ _ _ _ _ _ _ _
       | loop x=> exact hih _ _ _ _ _ _ _ _ _ _ _
       | scope x=> exact hih _ _ _ _ _ _ _ _ _ _ _
       | cond q x y=>
         show (Option.rec none (fun v=> Option.rec none (fun t=> Bool.rec (Qlz P F orc fuel b fn len tr (.code y::k) ds ro H n R W) (Qlz P F orc fuel b fn len tr (.code x::k) ds ro H n R W) t) (Qii v)) (evF tr q):Option Rs)=_;rw [Q3P len tr,hih,hih];simp only [Qic,Qo5,Qs4,QqC];cases evC ⟨len,tr⟩ q with
         | none=> rfl
         | some v=>
           cases v with
           | bool t=> cases t <;> rfl
           | _=> rfl
       | region id ops draw=>
         show Qt9 id ops draw P F orc fuel (Qlz P F orc fuel) b fn len tr k ds ro H n R W=_;unfold Qt9;rw [Q2Q,hrec];simp only [Qic,Qo5,Qs4,QqC,QzO,Qyo];cases hrr:Qiq P F orc (fun c1 H1 n1=> Qic P F orc fuel n1 c1 H1 n1 [] []) ops ops.toList ⟨len,tr⟩ H n with
         | none=> rfl
         | some p=>
           obtain ⟨recs,f⟩:=p;cases f with
           | pan v H' n' R1 W1=> exact hres R W _
           | ok T' H' n'=>
             have hck:=Q6f (draw:=draw) (QlS _ _ _ _ _ _ _ _ hrr);obtain ⟨len',tr'⟩:=T';simp only [Q7r];rw [hck];cases !draw || (Qd3 0 ops.toList && indep ops 0 recs (QnA ops.toList [])) with
             | false=> rfl
             | true=> exact hih _ _ _ _ _ _ _ _ _ _ _
       | rangeFunc f ps x y=> exact hslow _ k
       | exit id=> exact hslow _ k
       | goto id=> exact hslow _ k
       | ret=> exact hslow _ k
       | refuse w=> exact hslow (.code (.refuse w)) k
     | inBlock id=> exact hih _ _ _ _ _ _ _ _ _ _ _
     | inScope x=> exact hih _ _ _ _ _ _ _ _ _ _ _
     | inLoop x=> exact hih _ _ _ _ _ _ _ _ _ _ _
     | inRegion a b=> exact hslow _ k
     | inRangeFunc l=> exact hslow _ k
     | endRangeFunc l=> exact hslow _ k
     | beginRound=> exact hslow _ k
     | call a b c d=> exact hslow _ k
     | extern a b=> exact hslow _ k
end
end Go.CE
