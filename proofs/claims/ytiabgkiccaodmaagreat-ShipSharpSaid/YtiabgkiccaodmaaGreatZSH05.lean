/- CE: the canonical machine a third time: by recursors alone where much time goes. -/
import Derived.Test.YtiabgkiccaodmaaGreatZSH04
set_option linter.all false
namespace Go.CE
open Go Go.RowKit
noncomputable section

def Qog (t:Tri):Nat->Value:=Tri.rec (fun _=> undef) (fun _ v _ gl gr k=> Nat.rec v (fun j _=> Bool.rec (gr (Nat.div j 2)) (gl (Nat.div j 2)) (Nat.beq (Nat.mod j 2) 0)) k) t
theorem QiJ:∀(t:Tri) (k:Nat),Qog t k=t.get k
 | .lf,k=> by cases k <;> rfl
 | .nd l v r,0=> rfl
 | .nd l v r,k+1=> by
   show (Bool.rec (Qog r (k / 2)) (Qog l (k / 2)) (Nat.beq (k % 2) 0):Value)=bif Nat.beq (k % 2) 0 then l.get (k / 2) else r.get (k / 2);rw [QiJ l,QiJ r];cases Nat.beq (k % 2) 0 <;> rfl
def QlA (f:Nat):Tri->Nat->Value->Tri:=Nat.rec (fun t _ _=> t) (fun _ ih t i x=> Tri.rec
 (Nat.rec (.nd .lf x .lf) (fun j _=> Bool.rec (.nd .lf undef (ih .lf (Nat.div j 2) x)) (.nd (ih .lf (Nat.div j 2) x) undef .lf) (Nat.beq (Nat.mod j 2) 0)) i)
 (fun l v r _ _=> Nat.rec (.nd l x r) (fun j _=> Bool.rec (.nd l v (ih r (Nat.div j 2) x)) (.nd (ih l (Nat.div j 2) x) v r) (Nat.beq (Nat.mod j 2) 0)) i) t) f
theorem QiA:∀(f:Nat) (t:Tri) (i:Nat) (x:Value),QlA f t i x=Tri.set f t i x
 | 0,_,_,_=> rfl
 | f+1,.lf,0,x=> rfl
 | f+1,.nd l v r,0,x=> rfl
 | f+1,.lf,k+1,x=> by
   show (Bool.rec (Tri.nd .lf undef (QlA f .lf (k / 2) x)) (Tri.nd (QlA f .lf (k / 2) x) undef .lf) (Nat.beq (k % 2) 0):Tri)=bif Nat.beq (k % 2) 0 then .nd (Tri.set f .lf (k / 2) x) undef .lf else .nd .lf undef (Tri.set f .lf (k / 2) x);rw [QiA f];cases Nat.beq (k % 2) 0 <;> rfl
 | f+1,.nd l v r,k+1,x=> by
   show (Bool.rec (Tri.nd l v (QlA f r (k / 2) x)) (Tri.nd (QlA f l (k / 2) x) v r) (Nat.beq (k % 2) 0):Tri)=bif Nat.beq (k % 2) 0 then .nd (Tri.set f l (k / 2) x) v r else .nd l v (Tri.set f r (k / 2) x);rw [QiA f,QiA f];cases Nat.beq (k % 2) 0 <;> rfl
def evF (tr:Tri) (x:Operand):Option Value:=Operand.rec (fun t=> some (Qog tr t)) (fun v=> Bool.rec none (some v) (af v)) (fun _=> none) (fun f=> some (.func (.func f) #[] #[])) x
theorem Q3G (len:Nat) (tr:Tri):evF tr=evC ⟨len,tr⟩:=by
 funext x;cases x with
 | tmp t=> show some (Qog tr t)=some (tr.get t);rw [QiJ]
 | const v=> show (Bool.rec none (some v) (af v):Option Value)=bif af v then some v else none;cases af v <;> rfl
 | global g=> rfl
 | func f=> rfl
def Q5A (tr:Tri) (d:Option Tmp) (v:Value):Tri:=Option.rec tr (fun d=> QlA 14 tr d v) d
theorem Qxc (len:Nat) (tr:Tri) (d:Option Tmp) (v:Value):(⟨len,Q5A tr d v⟩:Tm)=QgF ⟨len,tr⟩ d v:=by
 cases d with
 | none=> rfl
 | some d=> show (⟨len,QlA 14 tr d v⟩:Tm)=⟨len,tr.set 14 d v⟩;rw [QiA]
def Q61 {α:Type} (l:List α):Nat->Option α:=List.rec (fun _=> none) (fun x _ ih k=> Nat.rec (some x) (fun j _=> ih j) k) l
theorem Qxm {α:Type}:∀(l:List α) (k:Nat),Q61 l k=l[k]?
 | [],k=> by cases k <;> rfl
 | x::l,0=> rfl
 | x::l,k+1=> by show Q61 l k=_;rw [Qxm l k];rfl
def Quo (P:Program) (t:TypeId) (cs:Array Value) (off:Nat):Option Value:=
 Option.rec none (fun g=> Bool.rec (Q61 cs.toList off) (Option.rec none (fun s=> Bool.rec none (some (.agg (cs.extract off (off+s)))) (Nat.ble (off+s) cs.size)) (QfD P t)) g) (QyC P t)
theorem Qsh (P:Program) (t:TypeId) (cs:Array Value) (off:Nat):Quo P t cs off=Qgy P t cs off:=by
 unfold Quo Qgy;cases QyC P t with
 | none=> rfl
 | some g=>
   cases g with
   | false=> show Q61 cs.toList off=_;rw [Qxm,Array.getElem?_toList]
   | true=>
     cases QfD P t with
     | none=> rfl
     | some s=> simp only;cases Nat.ble (off+s) cs.size <;> rfl
def Quz (P:Program) (t:TypeId) (H:Qax) (p:Value):Option (Value×Nat):=match p with
 | .pointer (some ⟨b,off,none⟩)=> match Qa2 H b with
   | some (.cells cs _ _)=> match Quo P t cs off with
     | some v=> some (v,b)
     | none=> none
   | _=> none
 | _=> none
theorem Qxe (P:Program) (t:TypeId) (H:Qax) (p:Value):Quz P t H p=QjR P t H p:=by
 unfold Quz QjR;simp only [Qsh];rfl
def Q2I (p:Value->Bool) (l:List Value):Bool:=List.rec true (fun x _ ih=> Bool.rec false ih (p x)) l
theorem Qm0 (p:Value->Bool):∀(l:List Value),Q2I p l=l.all p
 | []=> rfl
 | x::l=> by
   show (Bool.rec false (Q2I p l) (p x):Bool)=_;rw [Qm0 p l,List.all_cons];cases p x <;> rfl
def Q5g (cs:Array Value):Bool:=Q2I (·.oneCell') cs.toList
theorem Q1l (cs:Array Value):Q5g cs=ones cs:=by
 unfold Q5g ones;rw [Qm0,Array.all_toList]
def saF (v:Value):Bool:=match v with
 | .agg xs=> Q2I simple xs.toList
 | v=> simple v
theorem Q3B (v:Value):saF v=sa v:=by
 cases v <;> first | rfl | (show Q2I simple _=_;rw [Qm0,Array.all_toList];rfl)
def afF (v:Value):Bool:=match v with
 | .agg xs=> Q2I simple xs.toList
 | .tuple xs=> Q2I saF xs.toList
 | .iface _ v=> saF v
 | v=> simple v
theorem Q5t (v:Value):afF v=af v:=by
 cases v with
 | iface t v=> exact Q3B v
 | tuple xs=> show Q2I saF _=_;rw [show saF=sa from funext Q3B,Qm0,Array.all_toList];rfl
 | _=> first | rfl | (show Q2I simple _=_;rw [Qm0,Array.all_toList];rfl)
def QoA (P:Program) (t:TypeId) (H:Qax) (v p:Value):Option (Qax×Nat):=match p with
 | .pointer (some ⟨b,off,none⟩)=> match Qa2 H b with
   | some (.cells cs te (0,0))=> match QfD P t with
     | some s=> bif Nat.beq v.cells.size s && Q5g v.cells && Nat.ble (off+s) cs.size then some (QgC H b (.cells (splice cs off v.cells) te (0,0)),b) else none
     | none=> none
   | _=> none
 | _=> none
theorem QuR (P:Program) (t:TypeId) (H:Qax) (v p:Value):QoA P t H v p=QhV P t H v p:=by
 unfold QoA QhV;simp only [Q1l];rfl
def Qoz (P:Program) (t:TypeId) (f:Nat) (x:Value):Option Value:=match x with
 | .agg cs=> match und P t with
   | some (.struct fields)=> match fields[f]? with
     | some fd=> Quo P fd.type cs fd.offset
     | none=> none
   | _=> none
 | _=> none
theorem Qvu (P:Program) (t:TypeId) (f:Nat) (x:Value):Qoz P t f x=Qoe P t f x:=by
 unfold Qoz Qoe;simp only [Qsh];rfl
def Qza (ops:Array Oper) (tr:Tri) (j:Nat):Option Bool:=match nth ops.toList j with
 | some o=> match o.dst with
   | some t=> QhN (Qog tr t)
   | none=> none
 | none=> none
theorem QyD (len:Nat) (ops:Array Oper) (tr:Tri) (j:Nat):Qza ops tr j=Qbv ops ⟨len,tr⟩ j:=by
 unfold Qza Qbv;simp only [QiJ,Qcd];rfl
def Q1A (ops:Array Oper) (tr:Tri) (g:Option (Nat×Bool)):Bool:=Option.rec true (fun jw=> Prod.rec (fun j w=> Option.rec false (fun b=> Bool.rec (Bool.rec true false w) (Bool.rec false true w) b) (Qza ops tr j)) jw) g
theorem Q0G (len:Nat) (ops:Array Oper) (tr:Tri) (o:Oper):Q1A ops tr o.guard=Region.wanted o (Qbv ops ⟨len,tr⟩):=by
 unfold Q1A Region.wanted;cases o.guard with
 | none=> rfl
 | some jw=>
   obtain ⟨j,w⟩:=jw;simp only [QyD len];cases Qbv ops ⟨len,tr⟩ j with
   | none=> rfl
   | some b=> cases b <;> cases w <;> rfl
abbrev Ans:=Option (List Rec×RF)
abbrev KV:=Value->Qax->Nat->List Nat->List Nat->Ans
abbrev Arm:=Program->(FuncId->Bool)->Orc->(CF->Qax->Nat->Option Rs)->Nat->Tri->Oper->Qax->Nat->KV->KV->Ans
def fin (k kp:KV) (s:Option Rs):Ans:=match s with
 | some ⟨out,H,n,R,W⟩=> match out with
   | .ret v=> k v H n R W
   | .pan v=> kp v H n R W
 | none=> none
def pv (k:KV) (H:Qax) (n:Nat) (x:Option Value):Ans:=Option.rec none (fun v=> k v H n [] []) x
theorem QkI (k kp:KV) (H:Qax) (n:Nat) (x:Option Value):fin k kp (qV x H n)=pv k H n x:=by cases x <;> rfl
def Q5r (x:Operand):Arm:=fun _ _ _ _ _ tr _ H n k _=> pv k H n (evF tr x)
def Q6U (c a b:Operand):Arm:=fun _ _ _ _ _ tr _ H n k _=> Option.rec none (fun v=> Option.rec none (fun t=> Bool.rec (pv k H n (evF tr b)) (pv k H n (evF tr a)) t) (QhN v)) (evF tr c)
def Q7b (t:TypeId) (a:Operand):Arm:=fun P _ _ _ _ tr _ H n k _=> Option.rec none (fun p=> Option.rec none (fun vb=> Prod.rec (fun v b=> Bool.rec none (k v H n [b] []) (Nat.blt b n)) vb) (Quz P t H p)) (evF tr a)
def Q6y (t:TypeId) (a x:Operand):Arm:=fun P _ _ _ _ tr _ H n k _=> Option.rec none (fun p=> Option.rec none (fun v=> Option.rec none (fun hb=> Prod.rec (fun H' b=> Bool.rec none (k undef H' n [b] [b]) (Nat.blt b n)) hb) (QoA P t H v p)) (evF tr x)) (evF tr a)
def Qvx (s:TypeId) (x:Operand) (f:Nat):Arm:=fun P _ _ _ _ tr _ H n k _=> Option.rec none (fun p=> pv k H n (Qcg P s f p)) (evF tr x)
def Q5W (s:TypeId) (x:Operand) (f:Nat):Arm:=fun P _ _ _ _ tr _ H n k _=> Option.rec none (fun p=> pv k H n (Qoz P s f p)) (evF tr x)
def Qvh (t:TypeId) (x i:Operand):Arm:=fun P _ _ _ _ tr _ H n k _=> Option.rec none (fun p=> Option.rec none (fun j=> pv k H n (QeO P t p j)) (evF tr i)) (evF tr x)
def Q2r (x:Operand) (i:Nat):Arm:=fun _ _ _ _ _ tr _ H n k _=> Option.rec none (fun p=> pv k H n (QhF i p)) (evF tr x)
def Q7s (op:BinOp) (_:TypeId) (x y:Operand) (_:TypeId):Arm:=fun P _ _ _ _ tr o H n k _=> Option.rec none (fun a=> Option.rec none (fun b=> Option.rec (pv k H n (QeK P (evF tr) o)) (fun v=> k v H n [] []) (Q5i op a b)) (evF tr y)) (evF tr x)
def Q4U (v:Value) (r:CR) (k:KV) (H':Qax) (n':Nat) (R W:List Nat):Ans:=List.rec (Bool.rec (k v H' n' (r.R++R) (r.W++[])) (k v r.H n' (r.R++R) (r.W++[])) (afF v)) (fun _ _ _=> k v H' n' (r.R++R) (r.W++W)) W
def Q2C (r:CR) (k kp:KV) (s:Option Rs):Ans:=Option.rec none (fun s=> Rs.rec (fun out H' n' R W=> OO.rec (fun v=> Q4U v r k H' n' R W) (fun v=> kp v H' n' (r.R++R) (r.W++W)) out) s) s
theorem Q1p (r:CR) (k kp:KV) (s:Option Rs):Q2C r k kp s=fin k kp (match s with | some s=> Q5c r s | none=> none):=by
 cases s with
 | none=> rfl
 | some s=>
   obtain ⟨out,H',n',R,W⟩:=s;cases out with
   | pan v=>
     cases W with
     | nil=> rfl
     | cons a b=> rfl
   | ret v=>
     show Q4U v r k H' n' R W=_;unfold Q4U;cases W with
     | nil=>
       rw [Q5t];simp only [Q5c,QfF];cases af v <;> rfl
     | cons a b=> rfl
def Qut (P:Program) (orc:Orc) (rec:CF->Qax->Nat->Option Rs) (g:FuncId) (args:Array Value) (r:CR) (k kp:KV):Ans:=Option.rec (Option.rec none (fun c=> Q2C r k kp (rec c r.H r.n)) (Qc7 P g args)) (fun _=> fin k kp (Qu7 P orc rec g args r)) (orc g args r.H r.n)
theorem QzQ (P:Program) (orc:Orc) (rec:CF->Qax->Nat->Option Rs) (g:FuncId) (args:Array Value) (r:CR) (k kp:KV):Qut P orc rec g args r k kp=fin k kp (Qu7 P orc rec g args r):=by
 unfold Qut;cases ho:orc g args r.H r.n with
 | some x=> rfl
 | none=>
   unfold Qu7;rw [ho];show (Option.rec none (fun c=> Q2C r k kp (rec c r.H r.n)) (Qc7 P g args):Ans)=fin k kp (Q6E P rec g args r);unfold Q6E;cases Qc7 P g args with
   | none=> rfl
   | some c=>
     show Q2C r k kp (rec c r.H r.n)=_;rw [Q1p];rfl
def Q4M (P:Program) (orc:Orc) (rec:CF->Qax->Nat->Option Rs) (n:Nat) (x:Option CR) (k kp:KV):Ans:=Option.rec none (fun r=> CN.rec (fun _=> fin k kp (qR P orc rec n (some r))) (fun g args=> Bool.rec none (Qut P orc rec g args r k kp) (r.R.all (fun i=> Nat.blt i n))) (fun _ _ _ _ _=> fin k kp (qR P orc rec n (some r))) r.nx) x
theorem Q1n (P:Program) (orc:Orc) (rec:CF->Qax->Nat->Option Rs) (n:Nat) (x:Option CR) (k kp:KV):Q4M P orc rec n x k kp=fin k kp (qR P orc rec n x):=by
 cases x with
 | none=> rfl
 | some r=>
   obtain ⟨nx,H',n',R,W⟩:=r;cases nx with
   | val v=> rfl
   | round l fn tm a b=> rfl
   | enter g args=>
     show (Bool.rec none (Qut P orc rec g args ⟨.enter g args,H',n',R,W⟩ k kp) (R.all (fun i=> Nat.blt i n)):Ans)=_;rw [QzQ];simp only [qR];cases R.all (fun i=> Nat.blt i n) <;> rfl
def Q6C (c:Call):Arm:=fun P F orc rec _ tr o H n k kp=> Q4M P orc rec n (QlL P F (evF tr) o c H n) k kp
def QhQ:Arm:=fun P F orc rec len tr o H n k kp=> fin k kp (opQ P F orc rec ⟨len,tr⟩ o H n)
def opF (op:Op):Arm:=Op.rec Q5r Q5r Q6U (fun _=> QhQ) (fun _ _=> QhQ) (fun _ _=> QhQ) (fun _ _ _=> QhQ) (fun _ _ _ _=> QhQ) Q7b Q6y (fun _=> QhQ) (fun _=> QhQ) (fun _=> QhQ) Q7s (fun _ _ _=> QhQ) (fun _ _ _=> QhQ) (fun _ _=> QhQ) (fun _ _=> QhQ)
 (fun _ _ _=> QhQ) (fun _ _=> QhQ) (fun _ _=> QhQ) (fun _ _ _=> QhQ) (fun _ _ _ _ _=> QhQ) Qvx Q5W Qvh (fun _ _ _=> QhQ) (fun _ _ _ _=> QhQ) (fun _ _ _ _=> QhQ) (fun _ _ _=> QhQ) (fun _ _ _ _=> QhQ) (fun _ _=> QhQ) (fun _ _=> QhQ) (fun _=> QhQ) (fun _ _ _ _=> QhQ)
 Q2r Q6C (fun _=> QhQ) (fun _=> QhQ) (fun _=> QhQ) (fun _ _=> QhQ) (fun _ _ _=> QhQ) (fun _ _=> QhQ) op
theorem Q6g (P:Program) (F:FuncId->Bool) (orc:Orc) (rec:CF->Qax->Nat->Option Rs) (len:Nat) (tr:Tri) (o:Oper) (H:Qax) (n:Nat) (k kp:KV):opF o.op P F orc rec len tr o H n k kp=fin k kp (opQ P F orc rec ⟨len,tr⟩ o H n):=by
 have e:=Q3G len tr;cases hp:o.op with
 | move x=> show pv k H n (evF tr x)=_;rw [e];unfold opQ;simp only [hp];exact (QkI k kp H n _).symm
 | assign x=> show pv k H n (evF tr x)=_;rw [e];unfold opQ;simp only [hp];exact (QkI k kp H n _).symm
 | pick c a b=>
   show (Option.rec none (fun v=> Option.rec none (fun t=> Bool.rec (pv k H n (evF tr b)) (pv k H n (evF tr a)) t) (QhN v)) (evF tr c):Ans)=_;rw [e];unfold opQ;simp only [hp];cases evC ⟨len,tr⟩ c with
   | none=> rfl
   | some v=>
     cases v with
     | bool t=> cases t <;> exact (QkI k kp H n _).symm
     | _=> rfl
 | load t a=>
   show (Option.rec none (fun p=> Option.rec none (fun vb=> Prod.rec (fun v b=> Bool.rec none (k v H n [b] []) (Nat.blt b n)) vb) (Quz P t H p)) (evF tr a):Ans)=_;simp only [Qxe];rw [e];unfold opQ;simp only [hp];cases evC ⟨len,tr⟩ a with
   | none=> rfl
   | some p=>
     simp only [Q4h];cases QjR P t H p with
     | none=> rfl
     | some vb=>
       obtain ⟨v,b⟩:=vb;cases hb:Nat.blt b n <;> simp [qR,fin,Q24,hb]
 | store t a x=>
   show (Option.rec none (fun p=> Option.rec none (fun v=> Option.rec none (fun hb=> Prod.rec (fun H' b=> Bool.rec none (k undef H' n [b] [b]) (Nat.blt b n)) hb) (QoA P t H v p)) (evF tr x)) (evF tr a):Ans)=_;simp only [QuR];rw [e];unfold opQ;simp only [hp];cases evC ⟨len,tr⟩ a with
   | none=> rfl
   | some p=>
     cases evC ⟨len,tr⟩ x with
     | none=> rfl
     | some v=>
       simp only [Qzc];cases QhV P t H v p with
       | none=> rfl
       | some vb=>
         obtain ⟨H',b⟩:=vb;cases hb:Nat.blt b n <;> simp [qR,fin,Q24,hb]
 | fieldAddr s x f=>
   show (Option.rec none (fun p=> pv k H n (Qcg P s f p)) (evF tr x):Ans)=_;rw [e];unfold opQ;simp only [hp];cases evC ⟨len,tr⟩ x with
   | none=> rfl
   | some p=> simp only [Qkr,Qhn];exact (QkI k kp H n _).symm
 | field s x f=>
   show (Option.rec none (fun p=> pv k H n (Qoz P s f p)) (evF tr x):Ans)=_;simp only [Qvu];rw [e];unfold opQ;simp only [hp];cases evC ⟨len,tr⟩ x with
   | none=> rfl
   | some p=> simp only [Qyu,Qhn];exact (QkI k kp H n _).symm
 | indexAddr t x i=>
   show (Option.rec none (fun p=> Option.rec none (fun j=> pv k H n (QeO P t p j)) (evF tr i)) (evF tr x):Ans)=_;rw [e];unfold opQ;simp only [hp];cases evC ⟨len,tr⟩ x with
   | none=> rfl
   | some p=>
     cases evC ⟨len,tr⟩ i with
     | none=> rfl
     | some j=> simp only [Qko,Qhn];exact (QkI k kp H n _).symm
 | extract x i=>
   show (Option.rec none (fun p=> pv k H n (QhF i p)) (evF tr x):Ans)=_;rw [e];unfold opQ;simp only [hp];cases evC ⟨len,tr⟩ x with
   | none=> rfl
   | some p=> simp only [Qp9,Qhn];exact (QkI k kp H n _).symm
 | binOp op t x y t'=>
   show (Option.rec none (fun a=> Option.rec none (fun b=> Option.rec (pv k H n (QeK P (evF tr) o)) (fun v=> k v H n [] []) (Q5i op a b)) (evF tr y)) (evF tr x):Ans)=_;rw [e];unfold opQ;simp only [hp];cases evC ⟨len,tr⟩ x with
   | none=> rfl
   | some a=>
     cases evC ⟨len,tr⟩ y with
     | none=> rfl
     | some b=>
       simp only [Q6H];cases Q5i op a b with
       | none=> simp only [Qhn];exact (QkI k kp H n _).symm
       | some v=> rfl
 | call c=> show Q4M P orc rec n (QlL P F (evF tr) o c H n) k kp=_;rw [Q1n,e];unfold opQ;simp only [hp]
 | _=> rfl
def Q09 (r:Rec) (x:Ans):Ans:=Option.rec none (fun p=> Prod.rec (fun rs f=> some (r::rs,f)) p) x
def Q12 (P:Program) (F:FuncId->Bool) (orc:Orc) (rec:CF->Qax->Nat->Option Rs) (len:Nat) (ops:Array Oper) (l:List Oper):Tri->Qax->Nat->Ans:=
 List.rec (fun tr H n=> some ([],.ok ⟨len,tr⟩ H n)) (fun o _ ih tr H n=> Bool.rec
  (Q09 ⟨o,false,undef,⟨len,tr⟩,H,H,n,n,[],[]⟩ (ih (Q5A tr o.dst undef) H n))
  (opF o.op P F orc rec len tr o H n (fun v H' n' R W=> Q09 ⟨o,true,v,⟨len,tr⟩,H,H',n,n',R,W⟩ (ih (Q5A tr o.dst v) H' n')) (fun v H' n' R W=> some ([],.pan ⟨len,tr⟩ v H' n' R W)))
  (Q1A ops tr o.guard)) l
def Quk (len:Nat) (l:List Oper):Bool:=l.all fun o=> Qje ⟨len,.lf⟩ o.dst
theorem Qun (P:Program) (F:FuncId->Bool) (orc:Orc) (rec:CF->Qax->Nat->Option Rs) (len:Nat) (ops:Array Oper):∀(l:List Oper) (tr:Tri) (H:Qax) (n:Nat),Quk len l=true->Q12 P F orc rec len ops l tr H n=Qir P F orc rec ops l ⟨len,tr⟩ H n
 | [],_,_,_,_=> rfl
 | o::l,tr,H,n,hd=> by
   simp only [Quk,List.all_cons,YB] at hd;have hd1:Qje ⟨len,tr⟩ o.dst=true:=by
    have:=hd.1;cases hq:o.dst with
    | none=> rfl
    | some x=> rw [hq] at this;exact this
   have ih:=Qun P F orc rec len ops l;show (Bool.rec (Q09 ⟨o,false,undef,⟨len,tr⟩,H,H,n,n,[],[]⟩ (Q12 P F orc rec len ops l (Q5A tr o.dst undef) H n))
    (opF o.op P F orc rec len tr o H n (fun v H' n' R W=> Q09 ⟨o,true,v,⟨len,tr⟩,H,H',n,n',R,W⟩ (Q12 P F orc rec len ops l (Q5A tr o.dst v) H' n')) (fun v H' n' R W=> some ([],.pan ⟨len,tr⟩ v H' n' R W)))
    (Q1A ops tr o.guard):Ans)=_
   rw [Q0G len];simp only [Qir,hd1,cond_true];cases Region.wanted o (Qbv ops ⟨len,tr⟩) with
   | false=>
     simp only [cond_false];rw [ih _ _ _ hd.2,Qxc];cases Qir P F orc rec ops l (QgF ⟨len,tr⟩ o.dst undef) H n <;> rfl
   | true=>
     simp only [cond_true,Q6g];cases opQ P F orc rec ⟨len,tr⟩ o H n with
     | none=> rfl
     | some s=>
       obtain ⟨out,H',n',R,W⟩:=s;cases out with
       | pan v=> rfl
       | ret v=>
         simp only [fin];rw [ih _ _ _ hd.2,Qxc];cases Qir P F orc rec ops l (QgF ⟨len,tr⟩ o.dst v) H' n' <;> rfl
def Qjy (ops:Array Oper) (o:Oper) (k:Nat):List Oper->List (List Nat)->Bool
 | x::l,b::bs=> (b.contains k || o.apart ops x) && Qjy ops o k l bs
 | [],_=> true
 | _::_,[]=> false
def stat (ops:Array Oper):Nat->List Oper->List (List Nat)->Bool
 | k,o::l,_::bs=> Qjy ops o k l bs && stat ops (k+1) l bs
 | _,[],_=> true
 | _,_::_,[]=> false
def QnA (i:Nat) (l:List Nat):Bool:=List.rec false (fun j _ ih=> Bool.rec ih true (Nat.beq i j)) l
theorem QkY (i:Nat):∀(l:List Nat),QnA i l=l.contains i
 | []=> rfl
 | j::l=> by
   show (Bool.rec (QnA i l) true (Nat.beq i j):Bool)=_;rw [QkY i l,List.contains_cons];by_cases e:i=j
   ·subst e;rw [Nat.beq_refl];simp
   ·rw [QiV e];simp [e]
def Qup (W R:List Nat):Bool:=List.rec false (fun i _ ih=> Bool.rec ih true (QnA i R)) W
theorem Ql0 (R:List Nat):∀(W:List Nat),Qup W R=W.any fun i=> R.contains i
 | []=> rfl
 | i::W=> by
   show (Bool.rec (Qup W R) true (QnA i R):Bool)=_;rw [Ql0 R W,QkY,List.any_cons];cases R.contains i <;> rfl
def QtV (lo hi:Nat) (R:List Nat):Bool:=List.rec false (fun i _ ih=> Bool.rec ih (Bool.rec ih true (Nat.blt i hi)) (Nat.ble lo i)) R
theorem QqM (lo hi:Nat):∀(R:List Nat),QtV lo hi R=R.any fun i=> Nat.ble lo i && Nat.blt i hi
 | []=> rfl
 | i::R=> by
   show (Bool.rec (QtV lo hi R) (Bool.rec (QtV lo hi R) true (Nat.blt i hi)) (Nat.ble lo i):Bool)=_;rw [QqM lo hi R,List.any_cons];cases Nat.ble lo i <;> cases Nat.blt i hi <;> rfl
def clear (r x:Rec):Bool:=Bool.rec (Bool.rec (Bool.rec true false (QtV r.n r.n' x.R)) false (Qup x.W r.R)) false (Qup r.W x.R)
theorem Qv7 {ops:Array Oper} {r x:Rec} (h:clear r x=true) (ha:r.o.apart ops x.o=true):tied ops r x=false:=by
 unfold clear at h;rw [QqM,Ql0,Ql0] at h;unfold tied meets bears;rw [ha];revert h;cases r.W.any fun i=> x.R.contains i <;> cases x.W.any fun i=> r.R.contains i <;> cases x.R.any fun i=> Nat.ble r.n i && Nat.blt i r.n' <;> simp
def Qid (r:Rec) (k:Nat) (l:List Rec):List (List Nat)->Bool:=List.rec (fun _=> true) (fun x _ ih bs=> List.rec false (fun b bs' _=> Bool.rec (Bool.rec false (ih bs') (QnA k b)) (ih bs') (clear r x)) bs) l
def dyn (l:List Rec):Nat->List (List Nat)->Bool:=List.rec (fun _ _=> true) (fun r l ih k bs=> List.rec false (fun _ bs' _=> Bool.rec false (ih (k+1) bs') (Qid r k l bs')) bs) l
theorem QlQ {ops:Array Oper} {r:Rec} (k:Nat):∀(l:List Rec) (bs:List (List Nat)),Qid r k l bs=true->Qjy ops r.o k (l.map (·.o)) bs=true->QeA ops r k l bs=true
 | [],_,_,_=> by simp [QeA]
 | x::l,[],_,h=> by simp [Qjy] at h
 | x::l,b::bs,hd,h=> by
   simp only [List.map_cons,Qjy,YB,Bool.or_eq_true] at h;simp only [QeA,YB,Bool.or_eq_true,Bool.not_eq_true'];have hd:(Bool.rec (Bool.rec false (Qid r k l bs) (QnA k b)) (Qid r k l bs) (clear r x):Bool)=true:=hd;cases hc:clear r x with
   | true=>
     rw [hc] at hd;exact ⟨h.1.imp id fun ha=> Qv7 hc ha,QlQ k l bs hd h.2⟩
   | false=>
     rw [hc] at hd;have hd:(Bool.rec false (Qid r k l bs) (QnA k b):Bool)=true:=hd;cases he:QnA k b with
     | false=> rw [he] at hd;cases hd
     | true=>
       rw [he] at hd;rw [QkY] at he;exact ⟨.inl he,QlQ k l bs hd h.2⟩
theorem Qof {ops:Array Oper}:∀(l:List Rec) (bs:List (List Nat)) (k:Nat),dyn l k bs=true->stat ops k (l.map (·.o)) bs=true->indep ops k l bs=true
 | [],_,_,_,_=> by simp [indep]
 | x::l,[],_,_,h=> by simp [stat] at h
 | x::l,b::bs,k,hd,h=> by
   simp only [List.map_cons,stat,YB] at h;simp only [indep,YB];have hd:(Bool.rec false (dyn l (k+1) bs) (Qid x k l bs):Bool)=true:=hd;cases hc:Qid x k l bs with
   | false=> rw [hc] at hd;cases hd
   | true=>
     rw [hc] at hd;exact ⟨QlQ k l bs hc h.1,Qof l bs (k+1) hd h.2⟩
theorem Qnx {P:Program} {F:FuncId->Bool} {orc:Orc} {rec:CF->Qax->Nat->Option Rs} {ops:Array Oper}:∀(l:List Oper) (T:Tm) (H:Qax) (n:Nat) (recs:List Rec) (T':Tm) (H':Qax) (n':Nat),Qir P F orc rec ops l T H n=some (recs,.ok T' H' n')->recs.map (·.o)=l
 | [],T,H,n,recs,T',H',n',h=> by
   simp only [Qir,YO,YR] at h;rw [<-h.1];rfl
 | o::l,T,H,n,recs,T',H',n',h=> by
   simp only [Qir] at h;have h:=QfU h;cases hw:Region.wanted o (Qbv ops T) with
   | true=>
     rw [hw] at h;simp only [cond_true] at h;split at h
     ·split at h
      ·split at h
       ·rename_i rs f hr;simp only [YO,YR] at h;obtain ⟨rfl,rfl⟩:=h;simp [Qnx l _ _ _ _ _ _ _ hr]
       ·cases h
      ·simp only [YO,YR] at h;cases h.2
     ·cases h
   | false=>
     rw [hw] at h;simp only [cond_false] at h;split at h
     ·rename_i rs f hr;simp only [YO,YR] at h;obtain ⟨rfl,rfl⟩:=h;simp [Qnx l _ _ _ _ _ _ _ hr]
     ·cases h
def QsS (ops:Array Oper):Bool:=Qd7 0 ops.toList && stat ops 0 ops.toList (QnI ops.toList [])
def chk (ops:Array Oper) (recs:List Rec) (draw:Bool):Bool:=Bool.rec true (Bool.rec (Qd7 0 ops.toList && indep ops 0 recs (QnI ops.toList [])) (Bool.rec (Qd7 0 ops.toList && indep ops 0 recs (QnI ops.toList [])) true (dyn recs 0 (QnI ops.toList []))) (QsS ops)) draw
theorem Q6h {ops:Array Oper} {recs:List Rec} {draw:Bool} (h:recs.map (·.o)=ops.toList):chk ops recs draw=(!draw || (Qd7 0 ops.toList && indep ops 0 recs (QnI ops.toList []))):=by
 unfold chk;cases draw with
 | false=> rfl
 | true=>
   simp only [Bool.not_true,Bool.false_or];cases hs:QsS ops with
   | false=> rfl
   | true=>
     cases hc:dyn recs 0 (QnI ops.toList []) with
     | false=> rfl
     | true=>
       unfold QsS at hs;simp only [YB] at hs;rw [hs.1,Qof recs _ 0 hc (by rw [h];exact hs.2)];rfl
def Qq9 (b:Nat) (l:List Nat):List Nat->List Nat:=List.rec (fun acc=> acc) (fun x _ ih acc=> Bool.rec (ih acc) (Bool.rec (ih (x::acc)) (ih acc) (QnA x acc)) (Nat.blt x b)) l
theorem QkV (b:Nat):∀(l acc:List Nat),Qq9 b l acc=Qeb b l acc
 | [],_=> rfl
 | x::l,acc=> by
   show (Bool.rec (Qq9 b l acc) (Bool.rec (Qq9 b l (x::acc)) (Qq9 b l acc) (QnA x acc)) (Nat.blt x b):List Nat)=_;rw [QkV b l,QkV b l,QkY,Qeb];cases Nat.blt x b <;> cases acc.contains x <;> rfl
theorem Qp0 (b:Nat):∀(l m acc:List Nat),Qeb b (l++m) acc=Qeb b m (Qeb b l acc)
 | [],_,_=> rfl
 | x::l,m,acc=> by simp only [List.cons_append,Qeb];exact Qp0 b l m _
def Q7c (b:Nat) (recs:List Rec):List Nat->List Nat:=List.rec (fun acc=> acc) (fun r _ ih acc=> ih (Qq9 b r.R acc)) recs
theorem Q0w (b:Nat):∀(recs:List Rec) (acc:List Nat),Q7c b recs acc=Qeb b (Qlw recs) acc
 | [],_=> rfl
 | r::l,acc=> by
   show Q7c b l (Qq9 b r.R acc)=_;rw [Q0w b l,QkV,show Qlw (r::l)=r.R++Qlw l from List.flatMap_cons,Qp0]
def Q6W (b:Nat) (recs:List Rec):List Nat->List Nat:=List.rec (fun acc=> acc) (fun r _ ih acc=> ih (Qq9 b r.W acc)) recs
theorem Q0n (b:Nat):∀(recs:List Rec) (acc:List Nat),Q6W b recs acc=Qeb b (Qjs recs) acc
 | [],_=> rfl
 | r::l,acc=> by
   show Q6W b l (Qq9 b r.W acc)=_;rw [Q0n b l,QkV,show Qjs (r::l)=r.W++Qjs l from List.flatMap_cons,Qp0]
def Q4t (P:Program) (F:FuncId->Bool) (orc:Orc) (rec:CF->Qax->Nat->Option Rs) (len:Nat) (tr:Tri) (ops:Array Oper) (H:Qax) (n:Nat):Ans:=
 Bool.rec (Qir P F orc rec ops ops.toList ⟨len,tr⟩ H n) (Q12 P F orc rec len ops ops.toList tr H n) (Quk len ops.toList)
theorem Q2V (P:Program) (F:FuncId->Bool) (orc:Orc) (rec:CF->Qax->Nat->Option Rs) (len:Nat) (tr:Tri) (ops:Array Oper) (H:Qax) (n:Nat):Q4t P F orc rec len tr ops H n=Qir P F orc rec ops ops.toList ⟨len,tr⟩ H n:=by
 unfold Q4t;cases hd:Quk len ops.toList with
 | false=> rfl
 | true=> exact Qun P F orc rec len ops _ _ _ _ hd
abbrev Run:=Nat->FuncId->Nat->Tri->List Item->List Nat->Option Nat->Qax->Nat->List Nat->List Nat->Option Rs
def Q7d (P:Program) (F:FuncId->Bool) (orc:Orc) (fuel:Nat) (ih:Run) (c1:CF) (H1:Qax) (n1:Nat):Option Rs:=
 CF.rec (fun fn T todo ds mode ro=> CM.rec (Tm.rec (fun len tr=> ih n1 fn len tr todo ds ro H1 n1 [] []) T) (QhK P F orc fuel n1 ⟨fn,T,todo,ds,.ret,ro⟩ H1 n1 [] []) (fun v=> QhK P F orc fuel n1 ⟨fn,T,todo,ds,.pan v,ro⟩ H1 n1 [] []) mode) c1
def goF (P:Program) (F:FuncId->Bool) (orc:Orc) (fuel:Nat) (ih:Run) (b:Nat) (c1:CF) (H1:Qax) (n1:Nat) (R W:List Nat):Option Rs:=
 CF.rec (fun fn T todo ds mode ro=> CM.rec (Tm.rec (fun len tr=> ih b fn len tr todo ds ro H1 n1 R W) T) (QhK P F orc fuel b ⟨fn,T,todo,ds,.ret,ro⟩ H1 n1 R W) (fun v=> QhK P F orc fuel b ⟨fn,T,todo,ds,.pan v,ro⟩ H1 n1 R W) mode) c1
def resume (P:Program) (F:FuncId->Bool) (orc:Orc) (fuel:Nat) (ih:Run) (b:Nat) (R W:List Nat) (x:Option FS):Option Rs:=
 Option.rec none (fun fs=> FS.rec (fun c' H' n' R' W'=> goF P F orc fuel ih b c' H' n' (Qeb b R' R) (Qeb b W' W)) (fun out H' n' R' W'=> some ⟨out,H',n',Qeb b R' R,Qeb b W' W⟩) fs) x
abbrev ItA:=Program->(FuncId->Bool)->Orc->Nat->Run->Nat->FuncId->Nat->Tri->List Item->List Nat->Option Nat->Qax->Nat->List Nat->List Nat->Option Rs
def QjF (it:Item):ItA:=fun P F orc fuel ih b fn len tr k ds ro H n R W=> resume P F orc fuel ih b R W (QnV P F orc (Q7d P F orc fuel ih) ⟨fn,⟨len,tr⟩,it::k,ds,.run,ro⟩ H n)
def Q0W:ItA:=fun _ _ _ _ ih b fn len tr k ds ro H n R W=> ih b fn len tr k ds ro H n R W
def Q7t (x y:Code):ItA:=fun _ _ _ _ ih b fn len tr k ds ro H n R W=> ih b fn len tr (.code x::.code y::k) ds ro H n R W
def Q6J (q:Operand) (x y:Code):ItA:=fun _ _ _ _ ih b fn len tr k ds ro H n R W=> Option.rec none (fun v=> Option.rec none (fun t=> Bool.rec (ih b fn len tr (.code y::k) ds ro H n R W) (ih b fn len tr (.code x::k) ds ro H n R W) t) (QhN v)) (evF tr q)
def Q5E (id:Nat) (x:Code):ItA:=fun _ _ _ _ ih b fn len tr k ds ro H n R W=> ih b fn len tr (.code x::.inBlock id::k) ds ro H n R W
def Q6k (x:Code):ItA:=fun _ _ _ _ ih b fn len tr k ds ro H n R W=> ih b fn len tr (.code x::.inLoop x::k) ds ro H n R W
def Q58 (x:Code):ItA:=fun _ _ _ _ ih b fn len tr k ds ro H n R W=> ih b fn len tr (.code x::.inScope x::k) ds ro H n R W
def Qtc (id:Nat) (ops:Array Oper) (draw:Bool):ItA:=fun P F orc fuel ih b fn len tr k ds ro H n R W=>
 Option.rec none (fun p=> Prod.rec (fun recs f=> RF.rec (fun T' H' n'=> Bool.rec none (Tm.rec (fun len' tr'=> ih b fn len' tr' k ds ro H' n' (Q7c b recs R) (Q6W b recs W)) T') (chk ops recs draw))
  (fun T' v H' n' R1 W1=> resume P F orc fuel ih b R W (Q6O ⟨fn,⟨len,tr⟩,.code (.region id ops draw)::k,ds,.run,ro⟩ ops draw k (some (recs,.pan T' v H' n' R1 W1)))) f) p) (Q4t P F orc (Q7d P F orc fuel ih) len tr ops H n)
def codeF (cd:Code):ItA:=Code.rec Q0W Qtc (fun x y _ _=> Q7t x y) (fun q x y _ _=> Q6J q x y) (fun id x _=> Q5E id x) (fun x _=> Q6k x) (fun f ps x y _ _=> QjF (.code (.rangeFunc f ps x y))) (fun id=> QjF (.code (.exit id))) (fun x _=> Q58 x) (fun _=> Q0W) (fun l=> QjF (.code (.goto l))) (QjF (.code .ret)) (fun w=> QjF (.code (.refuse w))) cd
def Q5S (it:Item):ItA:=Item.rec codeF (fun _=> Q0W) Q6k (fun _=> Q0W) (fun a b=> QjF (.inRegion a b)) (fun l=> QjF (.inRangeFunc l)) (fun l=> QjF (.endRangeFunc l)) (QjF .beginRound) (fun a b c d=> QjF (.call a b c d)) (fun a b=> QjF (.extern a b)) it
def Qnp (P:Program) (F:FuncId->Bool) (orc:Orc) (fuel:Nat):Run:=Nat.rec (fun _ _ _ _ _ _ _ _ _ _ _=> none) (fun fuel ih b fn len tr todo ds ro H n R W=>
 List.rec (resume P F orc fuel ih b R W (QhU ⟨fn,⟨len,tr⟩,[],ds,.run,ro⟩ H n none)) (fun it k _=> Q5S it P F orc fuel ih b fn len tr k ds ro H n R W) todo) fuel
theorem Qpg (P:Program) (F:FuncId->Bool) (orc:Orc):∀(fuel b:Nat) (fn:FuncId) (len:Nat) (tr:Tri) (todo:List Item) (ds:List Nat) (ro:Option Nat) (H:Qax) (n:Nat) (R W:List Nat),Qnp P F orc fuel b fn len tr todo ds ro H n R W=QhK P F orc fuel b ⟨fn,⟨len,tr⟩,todo,ds,.run,ro⟩ H n R W
 | 0,_,_,_,_,_,_,_,_,_,_,_=> rfl
 | fuel+1,b,fn,len,tr,todo,ds,ro,H,n,R,W=> by
   have hih:∀(b:Nat) (fn:FuncId) (len:Nat) (tr:Tri) (todo:List Item) (ds:List Nat) (ro:Option Nat) (H:Qax) (n:Nat) (R W:List Nat),Qnp P F orc fuel b fn len tr todo ds ro H n R W=QhK P F orc fuel b ⟨fn,⟨len,tr⟩,todo,ds,.run,ro⟩ H n R W:=Qpg P F orc fuel;have hrec:Q7d P F orc fuel (Qnp P F orc fuel)=fun c1 H1 n1=> QhK P F orc fuel n1 c1 H1 n1 [] []:=by
    funext c1 H1 n1;obtain ⟨fn,⟨len,tr⟩,todo,ds,mode,ro⟩:=c1;cases mode with
    | run=> exact hih _ _ _ _ _ _ _ _ _ _ _
    | ret=> rfl
    | pan v=> rfl
   have hres:∀(R W:List Nat) (x:Option FS),resume P F orc fuel (Qnp P F orc fuel) b R W x=match x with
    | some (.go c' H' n' R' W')=> QhK P F orc fuel b c' H' n' (Qeb b R' R) (Qeb b W' W)
    | some (.done out H' n' R' W')=> some ⟨out,H',n',Qeb b R' R,Qeb b W' W⟩
    | none=> none:=by
    intro R W x;cases x with
    | none=> rfl
    | some fs=>
      cases fs with
      | done out H' n' R' W'=> rfl
      | go c' H' n' R' W'=>
        obtain ⟨fn,⟨len,tr⟩,todo,ds,mode,ro⟩:=c';cases mode with
        | run=> exact hih _ _ _ _ _ _ _ _ _ _ _
        | ret=> rfl
        | pan v=> rfl
   have hslow:∀(it:Item) (k:List Item),QjF it P F orc fuel (Qnp P F orc fuel) b fn len tr k ds ro H n R W=QhK P F orc (fuel+1) b ⟨fn,⟨len,tr⟩,it::k,ds,.run,ro⟩ H n R W:=by
    intro it k;unfold QjF;rw [hres,hrec];rfl
   cases todo with
   | nil=> exact hres R W _
   | cons it k=>
     show Q5S it P F orc fuel (Qnp P F orc fuel) b fn len tr k ds ro H n R W=_;cases it with
     | code cd=>
       cases cd with
       | skip=> exact hih _ _ _ _ _ _ _ _ _ _ _
       | label l=> exact hih _ _ _ _ _ _ _ _ _ _ _
       | seq x y=> exact hih _ _ _ _ _ _ _ _ _ _ _
       | block id x=> exact hih _ _ _ _ _ _ _ _ _ _ _
       | loop x=> exact hih _ _ _ _ _ _ _ _ _ _ _
       | scope x=> exact hih _ _ _ _ _ _ _ _ _ _ _
       | cond q x y=>
         show (Option.rec none (fun v=> Option.rec none (fun t=> Bool.rec (Qnp P F orc fuel b fn len tr (.code y::k) ds ro H n R W) (Qnp P F orc fuel b fn len tr (.code x::k) ds ro H n R W) t) (QhN v)) (evF tr q):Option Rs)=_;rw [Q3G len tr,hih,hih];simp only [QhK,QnV,QqP,Qqn];cases evC ⟨len,tr⟩ q with
         | none=> rfl
         | some v=>
           cases v with
           | bool t=> cases t <;> rfl
           | _=> rfl
       | region id ops draw=>
         show Qtc id ops draw P F orc fuel (Qnp P F orc fuel) b fn len tr k ds ro H n R W=_;unfold Qtc;rw [Q2V,hrec];simp only [QhK,QnV,QqP,Qqn,Q0w,Q0n];cases hrr:Qir P F orc (fun c1 H1 n1=> QhK P F orc fuel n1 c1 H1 n1 [] []) ops ops.toList ⟨len,tr⟩ H n with
         | none=> rfl
         | some p=>
           obtain ⟨recs,f⟩:=p;cases f with
           | pan v H' n' R1 W1=> exact hres R W _
           | ok T' H' n'=>
             have hck:=Q6h (draw:=draw) (Qnx _ _ _ _ _ _ _ _ hrr);obtain ⟨len',tr'⟩:=T';simp only [Q6O];rw [hck];cases !draw || (Qd7 0 ops.toList && indep ops 0 recs (QnI ops.toList [])) with
             | false=> rfl
             | true=> exact hih _ _ _ _ _ _ _ _ _ _ _
       | rangeFunc f ps x y=> exact hslow _ k
       | exit id=> exact hslow _ k
       | goto id=> exact hslow _ k
       | ret=> exact hslow _ k
       | refuse w=> exact hslow (.code (.refuse w)) k
     | inBlock id=> exact hih _ _ _ _ _ _ _ _ _ _ _
     | inScope x=> exact hih _ _ _ _ _ _ _ _ _ _ _
     | inLoop x=> exact hih _ _ _ _ _ _ _ _ _ _ _
     | inRegion a b=> exact hslow _ k
     | inRangeFunc l=> exact hslow _ k
     | endRangeFunc l=> exact hslow _ k
     | beginRound=> exact hslow _ k
     | call a b c d=> exact hslow _ k
     | extern a b=> exact hslow _ k
end
end Go.CE
