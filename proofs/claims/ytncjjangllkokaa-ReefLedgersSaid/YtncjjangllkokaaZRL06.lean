/- CE: the canonical machine a third time: by recursors alone where much time goes. -/
import Derived.Test.YtncjjangllkokaaZRL05
set_option linter.all false
namespace Go.CE
open Go Go.RowKit
noncomputable section

def Qm2 (t:Tri):Nat->Value:=Tri.rec (fun _=> undef) (fun _ v _ gl gr k=> Nat.rec v (fun j _=> Bool.rec (gr (Nat.div j 2)) (gl (Nat.div j 2)) (Nat.beq (Nat.mod j 2) 0)) k) t
theorem Qhq:∀(t:Tri) (k:Nat),Qm2 t k=t.get k
 | .lf,k=> by cases k <;> rfl
 | .nd l v r,0=> rfl
 | .nd l v r,k+1=> by
   show (Bool.rec (Qm2 r (k / 2)) (Qm2 l (k / 2)) (Nat.beq (k % 2) 0):Value)=bif Nat.beq (k % 2) 0 then l.get (k / 2) else r.get (k / 2);rw [Qhq l,Qhq r];cases Nat.beq (k % 2) 0 <;> rfl
def Qlz (f:Nat):Tri->Nat->Value->Tri:=Nat.rec (fun t _ _=> t) (fun _ ih t i x=> Tri.rec
 (Nat.rec (.nd .lf x .lf) (fun j _=> Bool.rec (.nd .lf undef (ih .lf (Nat.div j 2) x)) (.nd (ih .lf (Nat.div j 2) x) undef .lf) (Nat.beq (Nat.mod j 2) 0)) i)
 (fun l v r _ _=> Nat.rec (.nd l x r) (fun j _=> Bool.rec (.nd l v (ih r (Nat.div j 2) x)) (.nd (ih l (Nat.div j 2) x) v r) (Nat.beq (Nat.mod j 2) 0)) i) t) f
theorem Qhf:∀(f:Nat) (t:Tri) (i:Nat) (x:Value),Qlz f t i x=Tri.set f t i x
 | 0,_,_,_=> rfl
 | f+1,.lf,0,x=> rfl
 | f+1,.nd l v r,0,x=> rfl
 | f+1,.lf,k+1,x=> by
   show (Bool.rec (Tri.nd .lf undef (Qlz f .lf (k / 2) x)) (Tri.nd (Qlz f .lf (k / 2) x) undef .lf) (Nat.beq (k % 2) 0):Tri)=bif Nat.beq (k % 2) 0 then .nd (Tri.set f .lf (k / 2) x) undef .lf else .nd .lf undef (Tri.set f .lf (k / 2) x);rw [Qhf f];cases Nat.beq (k % 2) 0 <;> rfl
 | f+1,.nd l v r,k+1,x=> by
   show (Bool.rec (Tri.nd l v (Qlz f r (k / 2) x)) (Tri.nd (Qlz f l (k / 2) x) v r) (Nat.beq (k % 2) 0):Tri)=bif Nat.beq (k % 2) 0 then .nd (Tri.set f l (k / 2) x) v r else .nd l v (Tri.set f r (k / 2) x);rw [Qhf f,Qhf f];cases Nat.beq (k % 2) 0 <;> rfl
def evF (tr:Tri) (x:Operand):Option Value:=Operand.rec (fun t=> some (Qm2 tr t)) (fun v=> Bool.rec none (some v) (af v)) (fun _=> none) (fun f=> some (.func (.func f) #[] #[])) x
theorem Q3l (len:Nat) (tr:Tri):evF tr=evC ⟨len,tr⟩:=by
 funext x;cases x with
 | tmp t=> show some (Qm2 tr t)=some (tr.get t);rw [Qhq]
 | const v=> show (Bool.rec none (some v) (af v):Option Value)=bif af v then some v else none;cases af v <;> rfl
 | global g=> rfl
 | func f=> rfl
def Q5q (tr:Tri) (d:Option Tmp) (v:Value):Tri:=Option.rec tr (fun d=> Qlz 14 tr d v) d
theorem QyT (len:Nat) (tr:Tri) (d:Option Tmp) (v:Value):(⟨len,Q5q tr d v⟩:Tm)=Qfa ⟨len,tr⟩ d v:=by
 cases d with
 | none=> rfl
 | some d=> show (⟨len,Qlz 14 tr d v⟩:Tm)=⟨len,tr.set 14 d v⟩;rw [Qhf]
def Q5M {α:Type} (l:List α):Nat->Option α:=List.rec (fun _=> none) (fun x _ ih k=> Nat.rec (some x) (fun j _=> ih j) k) l
theorem QyP {α:Type}:∀(l:List α) (k:Nat),Q5M l k=l[k]?
 | [],k=> by cases k <;> rfl
 | x::l,0=> rfl
 | x::l,k+1=> by show Q5M l k=_;rw [QyP l k];rfl
def QvO (P:Program) (t:TypeId) (cs:Array Value) (off:Nat):Option Value:=
 Option.rec none (fun g=> Bool.rec (Q5M cs.toList off) (Option.rec none (fun s=> Bool.rec none (some (.agg (cs.extract off (off+s)))) (Nat.ble (off+s) cs.size)) (QdS P t)) g) (Qyv P t)
theorem QqN (P:Program) (t:TypeId) (cs:Array Value) (off:Nat):QvO P t cs off=QeZ P t cs off:=by
 unfold QvO QeZ;cases Qyv P t with
 | none=> rfl
 | some g=>
   cases g with
   | false=> show Q5M cs.toList off=_;rw [QyP,Array.getElem?_toList]
   | true=>
     cases QdS P t with
     | none=> rfl
     | some s=> simp only;cases Nat.ble (off+s) cs.size <;> rfl
def Qwi (P:Program) (t:TypeId) (H:Qax) (p:Value):Option (Value×Nat):=match p with
 | .pointer (some ⟨b,off,none⟩)=> match Qay H b with
   | some (.cells cs _ _)=> match QvO P t cs off with
     | some v=> some (v,b)
     | none=> none
   | _=> none
 | _=> none
theorem QzV (P:Program) (t:TypeId) (H:Qax) (p:Value):Qwi P t H p=Qij P t H p:=by
 unfold Qwi Qij;simp only [QqN];rfl
def Q1W (p:Value->Bool) (l:List Value):Bool:=List.rec true (fun x _ ih=> Bool.rec false ih (p x)) l
theorem Ql8 (p:Value->Bool):∀(l:List Value),Q1W p l=l.all p
 | []=> rfl
 | x::l=> by
   show (Bool.rec false (Q1W p l) (p x):Bool)=_;rw [Ql8 p l,List.all_cons];cases p x <;> rfl
def Q4r (cs:Array Value):Bool:=Q1W (·.oneCell') cs.toList
theorem Q2N (cs:Array Value):Q4r cs=ones cs:=by
 unfold Q4r ones;rw [Ql8,Array.all_toList]
def saF (v:Value):Bool:=match v with
 | .agg xs=> Q1W simple xs.toList
 | v=> simple v
theorem Q3w (v:Value):saF v=sa v:=by
 cases v <;> first | rfl | (show Q1W simple _=_;rw [Ql8,Array.all_toList];rfl)
def afF (v:Value):Bool:=match v with
 | .agg xs=> Q1W simple xs.toList
 | .tuple xs=> Q1W saF xs.toList
 | .iface _ v=> saF v
 | v=> simple v
theorem Q4R (v:Value):afF v=af v:=by
 cases v with
 | iface t v=> exact Q3w v
 | tuple xs=> show Q1W saF _=_;rw [show saF=sa from funext Q3w,Ql8,Array.all_toList];rfl
 | _=> first | rfl | (show Q1W simple _=_;rw [Ql8,Array.all_toList];rfl)
def Qoy (P:Program) (t:TypeId) (H:Qax) (v p:Value):Option (Qax×Nat):=match p with
 | .pointer (some ⟨b,off,none⟩)=> match Qay H b with
   | some (.cells cs te (0,0))=> match QdS P t with
     | some s=> bif Nat.beq v.cells.size s && Q4r v.cells && Nat.ble (off+s) cs.size then some (QeN H b (.cells (splice cs off v.cells) te (0,0)),b) else none
     | none=> none
   | _=> none
 | _=> none
theorem Qx0 (P:Program) (t:TypeId) (H:Qax) (v p:Value):Qoy P t H v p=Qgm P t H v p:=by
 unfold Qoy Qgm;simp only [Q2N];rfl
def Qnp (P:Program) (t:TypeId) (f:Nat) (x:Value):Option Value:=match x with
 | .agg cs=> match und P t with
   | some (.struct fields)=> match fields[f]? with
     | some fd=> QvO P fd.type cs fd.offset
     | none=> none
   | _=> none
 | _=> none
theorem Qyj (P:Program) (t:TypeId) (f:Nat) (x:Value):Qnp P t f x=Qmd P t f x:=by
 unfold Qnp Qmd;simp only [QqN];rfl
def Qyq (ops:Array Oper) (tr:Tri) (j:Nat):Option Bool:=match nth ops.toList j with
 | some o=> match o.dst with
   | some t=> Qgp (Qm2 tr t)
   | none=> none
 | none=> none
theorem Q0b (len:Nat) (ops:Array Oper) (tr:Tri) (j:Nat):Qyq ops tr j=Qbl ops ⟨len,tr⟩ j:=by
 unfold Qyq Qbl;simp only [Qhq,QcO];rfl
def Q2P (ops:Array Oper) (tr:Tri) (g:Option (Nat×Bool)):Bool:=Option.rec true (fun jw=> Prod.rec (fun j w=> Option.rec false (fun b=> Bool.rec (Bool.rec true false w) (Bool.rec false true w) b) (Qyq ops tr j)) jw) g
theorem Q1Q (len:Nat) (ops:Array Oper) (tr:Tri) (o:Oper):Q2P ops tr o.guard=Region.wanted o (Qbl ops ⟨len,tr⟩):=by
 unfold Q2P Region.wanted;cases o.guard with
 | none=> rfl
 | some jw=>
   obtain ⟨j,w⟩:=jw;simp only [Q0b len];cases Qbl ops ⟨len,tr⟩ j with
   | none=> rfl
   | some b=> cases b <;> cases w <;> rfl
abbrev Ans:=Option (List Rec×RF)
abbrev KV:=Value->Qax->Nat->List Nat->List Nat->Ans
abbrev Arm:=Program->(FuncId->Bool)->Orc->(CF->Qax->Nat->Option Rs)->Nat->Tri->Oper->Qax->Nat->KV->KV->Ans
def fin (k kp:KV) (s:Option Rs):Ans:=match s with
 | some ⟨out,H,n,R,W⟩=> match out with
   | .ret v=> k v H n R W
   | .pan v=> kp v H n R W
 | none=> none
def pv (k:KV) (H:Qax) (n:Nat) (x:Option Value):Ans:=Option.rec none (fun v=> k v H n [] []) x
theorem Qio (k kp:KV) (H:Qax) (n:Nat) (x:Option Value):fin k kp (qV x H n)=pv k H n x:=by cases x <;> rfl
def Q4S (x:Operand):Arm:=fun _ _ _ _ _ tr _ H n k _=> pv k H n (evF tr x)
def Q5W (c a b:Operand):Arm:=fun _ _ _ _ _ tr _ H n k _=> Option.rec none (fun v=> Option.rec none (fun t=> Bool.rec (pv k H n (evF tr b)) (pv k H n (evF tr a)) t) (Qgp v)) (evF tr c)
def Q5P (t:TypeId) (a:Operand):Arm:=fun P _ _ _ _ tr _ H n k _=> Option.rec none (fun p=> Option.rec none (fun vb=> Prod.rec (fun v b=> Bool.rec none (k v H n [b] []) (Nat.blt b n)) vb) (Qwi P t H p)) (evF tr a)
def Q5h (t:TypeId) (a x:Operand):Arm:=fun P _ _ _ _ tr _ H n k _=> Option.rec none (fun p=> Option.rec none (fun v=> Option.rec none (fun hb=> Prod.rec (fun H' b=> Bool.rec none (k undef H' n [b] [b]) (Nat.blt b n)) hb) (Qoy P t H v p)) (evF tr x)) (evF tr a)
def Qwu (s:TypeId) (x:Operand) (f:Nat):Arm:=fun P _ _ _ _ tr _ H n k _=> Option.rec none (fun p=> pv k H n (QbS P s f p)) (evF tr x)
def Q56 (s:TypeId) (x:Operand) (f:Nat):Arm:=fun P _ _ _ _ tr _ H n k _=> Option.rec none (fun p=> pv k H n (Qnp P s f p)) (evF tr x)
def QxZ (t:TypeId) (x i:Operand):Arm:=fun P _ _ _ _ tr _ H n k _=> Option.rec none (fun p=> Option.rec none (fun j=> pv k H n (QdK P t p j)) (evF tr i)) (evF tr x)
def Q1i (x:Operand) (i:Nat):Arm:=fun _ _ _ _ _ tr _ H n k _=> Option.rec none (fun p=> pv k H n (Qga i p)) (evF tr x)
def Q6C (op:BinOp) (_:TypeId) (x y:Operand) (_:TypeId):Arm:=fun P _ _ _ _ tr o H n k _=> Option.rec none (fun a=> Option.rec none (fun b=> Option.rec (pv k H n (Qea P (evF tr) o)) (fun v=> k v H n [] []) (Q4y op a b)) (evF tr y)) (evF tr x)
def Q3E (v:Value) (r:CR) (k:KV) (H':Qax) (n':Nat) (R W:List Nat):Ans:=List.rec (Bool.rec (k v H' n' (r.R++R) (r.W++[])) (k v r.H n' (r.R++R) (r.W++[])) (afF v)) (fun _ _ _=> k v H' n' (r.R++R) (r.W++W)) W
def Q1B (r:CR) (k kp:KV) (s:Option Rs):Ans:=Option.rec none (fun s=> Rs.rec (fun out H' n' R W=> OO.rec (fun v=> Q3E v r k H' n' R W) (fun v=> kp v H' n' (r.R++R) (r.W++W)) out) s) s
theorem Q1T (r:CR) (k kp:KV) (s:Option Rs):Q1B r k kp s=fin k kp (match s with | some s=> Q3B r s | none=> none):=by
 cases s with
 | none=> rfl
 | some s=>
   obtain ⟨out,H',n',R,W⟩:=s;cases out with
   | pan v=>
     cases W with
     | nil=> rfl
     | cons a b=> rfl
   | ret v=>
     show Q3E v r k H' n' R W=_;unfold Q3E;cases W with
     | nil=>
       rw [Q4R];simp only [Q3B,Qet];cases af v <;> rfl
     | cons a b=> rfl
def Qvq (P:Program) (orc:Orc) (rec:CF->Qax->Nat->Option Rs) (g:FuncId) (args:Array Value) (r:CR) (k kp:KV):Ans:=Option.rec (Option.rec none (fun c=> Q1B r k kp (rec c r.H r.n)) (Qca P g args)) (fun _=> fin k kp (Qvv P orc rec g args r)) (orc g args r.H r.n)
theorem Qz3 (P:Program) (orc:Orc) (rec:CF->Qax->Nat->Option Rs) (g:FuncId) (args:Array Value) (r:CR) (k kp:KV):Qvq P orc rec g args r k kp=fin k kp (Qvv P orc rec g args r):=by
 unfold Qvq;cases ho:orc g args r.H r.n with
 | some x=> rfl
 | none=>
   unfold Qvv;rw [ho];show (Option.rec none (fun c=> Q1B r k kp (rec c r.H r.n)) (Qca P g args):Ans)=fin k kp (Q6l P rec g args r);unfold Q6l;cases Qca P g args with
   | none=> rfl
   | some c=>
     show Q1B r k kp (rec c r.H r.n)=_;rw [Q1T];rfl
def Q4d (P:Program) (orc:Orc) (rec:CF->Qax->Nat->Option Rs) (n:Nat) (x:Option CR) (k kp:KV):Ans:=Option.rec none (fun r=> CN.rec (fun _=> fin k kp (qR P orc rec n (some r))) (fun g args=> Bool.rec none (Qvq P orc rec g args r k kp) (r.R.all (fun i=> Nat.blt i n))) (fun _ _ _ _ _=> fin k kp (qR P orc rec n (some r))) r.nx) x
theorem Q1E (P:Program) (orc:Orc) (rec:CF->Qax->Nat->Option Rs) (n:Nat) (x:Option CR) (k kp:KV):Q4d P orc rec n x k kp=fin k kp (qR P orc rec n x):=by
 cases x with
 | none=> rfl
 | some r=>
   obtain ⟨nx,H',n',R,W⟩:=r;cases nx with
   | val v=> rfl
   | round l fn tm a b=> rfl
   | enter g args=>
     show (Bool.rec none (Qvq P orc rec g args ⟨.enter g args,H',n',R,W⟩ k kp) (R.all (fun i=> Nat.blt i n)):Ans)=_;rw [Qz3];simp only [qR];cases R.all (fun i=> Nat.blt i n) <;> rfl
def Q6n (c:Call):Arm:=fun P F orc rec _ tr o H n k kp=> Q4d P orc rec n (QjH P F (evF tr) o c H n) k kp
def Qgi:Arm:=fun P F orc rec len tr o H n k kp=> fin k kp (opQ P F orc rec ⟨len,tr⟩ o H n)
def opF (op:Op):Arm:=Op.rec Q4S Q4S Q5W (fun _=> Qgi) (fun _ _=> Qgi) (fun _ _=> Qgi) (fun _ _ _=> Qgi) (fun _ _ _ _=> Qgi) Q5P Q5h (fun _=> Qgi) (fun _=> Qgi) (fun _=> Qgi) Q6C (fun _ _ _=> Qgi) (fun _ _ _=> Qgi) (fun _ _=> Qgi) (fun _ _=> Qgi)
 (fun _ _ _=> Qgi) (fun _ _=> Qgi) (fun _ _=> Qgi) (fun _ _ _=> Qgi) (fun _ _ _ _ _=> Qgi) Qwu Q56 QxZ (fun _ _ _=> Qgi) (fun _ _ _ _=> Qgi) (fun _ _ _ _=> Qgi) (fun _ _ _=> Qgi) (fun _ _ _ _=> Qgi) (fun _ _=> Qgi) (fun _ _=> Qgi) (fun _=> Qgi) (fun _ _ _ _=> Qgi)
 Q1i Q6n (fun _=> Qgi) (fun _=> Qgi) (fun _=> Qgi) (fun _ _=> Qgi) (fun _ _ _=> Qgi) (fun _ _=> Qgi) op
theorem Q4F (P:Program) (F:FuncId->Bool) (orc:Orc) (rec:CF->Qax->Nat->Option Rs) (len:Nat) (tr:Tri) (o:Oper) (H:Qax) (n:Nat) (k kp:KV):opF o.op P F orc rec len tr o H n k kp=fin k kp (opQ P F orc rec ⟨len,tr⟩ o H n):=by
 have e:=Q3l len tr;cases hp:o.op with
 | move x=> show pv k H n (evF tr x)=_;rw [e];unfold opQ;simp only [hp];exact (Qio k kp H n _).symm
 | assign x=> show pv k H n (evF tr x)=_;rw [e];unfold opQ;simp only [hp];exact (Qio k kp H n _).symm
 | pick c a b=>
   show (Option.rec none (fun v=> Option.rec none (fun t=> Bool.rec (pv k H n (evF tr b)) (pv k H n (evF tr a)) t) (Qgp v)) (evF tr c):Ans)=_;rw [e];unfold opQ;simp only [hp];cases evC ⟨len,tr⟩ c with
   | none=> rfl
   | some v=>
     cases v with
     | bool t=> cases t <;> exact (Qio k kp H n _).symm
     | _=> rfl
 | load t a=>
   show (Option.rec none (fun p=> Option.rec none (fun vb=> Prod.rec (fun v b=> Bool.rec none (k v H n [b] []) (Nat.blt b n)) vb) (Qwi P t H p)) (evF tr a):Ans)=_;simp only [QzV];rw [e];unfold opQ;simp only [hp];cases evC ⟨len,tr⟩ a with
   | none=> rfl
   | some p=>
     simp only [Q4v];cases Qij P t H p with
     | none=> rfl
     | some vb=>
       obtain ⟨v,b⟩:=vb;cases hb:Nat.blt b n <;> simp [qR,fin,Q1I,hb]
 | store t a x=>
   show (Option.rec none (fun p=> Option.rec none (fun v=> Option.rec none (fun hb=> Prod.rec (fun H' b=> Bool.rec none (k undef H' n [b] [b]) (Nat.blt b n)) hb) (Qoy P t H v p)) (evF tr x)) (evF tr a):Ans)=_;simp only [Qx0];rw [e];unfold opQ;simp only [hp];cases evC ⟨len,tr⟩ a with
   | none=> rfl
   | some p=>
     cases evC ⟨len,tr⟩ x with
     | none=> rfl
     | some v=>
       simp only [Q03];cases Qgm P t H v p with
       | none=> rfl
       | some vb=>
         obtain ⟨H',b⟩:=vb;cases hb:Nat.blt b n <;> simp [qR,fin,Q1I,hb]
 | fieldAddr s x f=>
   show (Option.rec none (fun p=> pv k H n (QbS P s f p)) (evF tr x):Ans)=_;rw [e];unfold opQ;simp only [hp];cases evC ⟨len,tr⟩ x with
   | none=> rfl
   | some p=> simp only [QhG,Qfl];exact (Qio k kp H n _).symm
 | field s x f=>
   show (Option.rec none (fun p=> pv k H n (Qnp P s f p)) (evF tr x):Ans)=_;simp only [Qyj];rw [e];unfold opQ;simp only [hp];cases evC ⟨len,tr⟩ x with
   | none=> rfl
   | some p=> simp only [Q0H,Qfl];exact (Qio k kp H n _).symm
 | indexAddr t x i=>
   show (Option.rec none (fun p=> Option.rec none (fun j=> pv k H n (QdK P t p j)) (evF tr i)) (evF tr x):Ans)=_;rw [e];unfold opQ;simp only [hp];cases evC ⟨len,tr⟩ x with
   | none=> rfl
   | some p=>
     cases evC ⟨len,tr⟩ i with
     | none=> rfl
     | some j=> simp only [QhW,Qfl];exact (Qio k kp H n _).symm
 | extract x i=>
   show (Option.rec none (fun p=> pv k H n (Qga i p)) (evF tr x):Ans)=_;rw [e];unfold opQ;simp only [hp];cases evC ⟨len,tr⟩ x with
   | none=> rfl
   | some p=> simp only [QoI,Qfl];exact (Qio k kp H n _).symm
 | binOp op t x y t'=>
   show (Option.rec none (fun a=> Option.rec none (fun b=> Option.rec (pv k H n (Qea P (evF tr) o)) (fun v=> k v H n [] []) (Q4y op a b)) (evF tr y)) (evF tr x):Ans)=_;rw [e];unfold opQ;simp only [hp];cases evC ⟨len,tr⟩ x with
   | none=> rfl
   | some a=>
     cases evC ⟨len,tr⟩ y with
     | none=> rfl
     | some b=>
       simp only [Q6a];cases Q4y op a b with
       | none=> simp only [Qfl];exact (Qio k kp H n _).symm
       | some v=> rfl
 | call c=> show Q4d P orc rec n (QjH P F (evF tr) o c H n) k kp=_;rw [Q1E,e];unfold opQ;simp only [hp]
 | _=> rfl
def Q1k (r:Rec) (x:Ans):Ans:=Option.rec none (fun p=> Prod.rec (fun rs f=> some (r::rs,f)) p) x
def Q2r (P:Program) (F:FuncId->Bool) (orc:Orc) (rec:CF->Qax->Nat->Option Rs) (len:Nat) (ops:Array Oper) (l:List Oper):Tri->Qax->Nat->Ans:=
 List.rec (fun tr H n=> some ([],.ok ⟨len,tr⟩ H n)) (fun o _ ih tr H n=> Bool.rec
  (Q1k ⟨o,false,undef,⟨len,tr⟩,H,H,n,n,[],[]⟩ (ih (Q5q tr o.dst undef) H n))
  (opF o.op P F orc rec len tr o H n (fun v H' n' R W=> Q1k ⟨o,true,v,⟨len,tr⟩,H,H',n,n',R,W⟩ (ih (Q5q tr o.dst v) H' n')) (fun v H' n' R W=> some ([],.pan ⟨len,tr⟩ v H' n' R W)))
  (Q2P ops tr o.guard)) l
def QvN (len:Nat) (l:List Oper):Bool:=l.all fun o=> Qgy ⟨len,.lf⟩ o.dst
theorem QvX (P:Program) (F:FuncId->Bool) (orc:Orc) (rec:CF->Qax->Nat->Option Rs) (len:Nat) (ops:Array Oper):∀(l:List Oper) (tr:Tri) (H:Qax) (n:Nat),QvN len l=true->Q2r P F orc rec len ops l tr H n=Qg2 P F orc rec ops l ⟨len,tr⟩ H n
 | [],_,_,_,_=> rfl
 | o::l,tr,H,n,hd=> by
   simp only [QvN,List.all_cons,YB] at hd;have hd1:Qgy ⟨len,tr⟩ o.dst=true:=by
    have:=hd.1;cases hq:o.dst with
    | none=> rfl
    | some x=> rw [hq] at this;exact this
   have ih:=QvX P F orc rec len ops l;show (Bool.rec (Q1k ⟨o,false,undef,⟨len,tr⟩,H,H,n,n,[],[]⟩ (Q2r P F orc rec len ops l (Q5q tr o.dst undef) H n))
    (opF o.op P F orc rec len tr o H n (fun v H' n' R W=> Q1k ⟨o,true,v,⟨len,tr⟩,H,H',n,n',R,W⟩ (Q2r P F orc rec len ops l (Q5q tr o.dst v) H' n')) (fun v H' n' R W=> some ([],.pan ⟨len,tr⟩ v H' n' R W)))
    (Q2P ops tr o.guard):Ans)=_
   rw [Q1Q len];simp only [Qg2,hd1,cond_true];cases Region.wanted o (Qbl ops ⟨len,tr⟩) with
   | false=>
     simp only [cond_false];rw [ih _ _ _ hd.2,QyT];cases Qg2 P F orc rec ops l (Qfa ⟨len,tr⟩ o.dst undef) H n <;> rfl
   | true=>
     simp only [cond_true,Q4F];cases opQ P F orc rec ⟨len,tr⟩ o H n with
     | none=> rfl
     | some s=>
       obtain ⟨out,H',n',R,W⟩:=s;cases out with
       | pan v=> rfl
       | ret v=>
         simp only [fin];rw [ih _ _ _ hd.2,QyT];cases Qg2 P F orc rec ops l (Qfa ⟨len,tr⟩ o.dst v) H' n' <;> rfl
def QgQ (ops:Array Oper) (o:Oper) (k:Nat):List Oper->List (List Nat)->Bool
 | x::l,b::bs=> (b.contains k || o.apart ops x) && QgQ ops o k l bs
 | [],_=> true
 | _::_,[]=> false
def stat (ops:Array Oper):Nat->List Oper->List (List Nat)->Bool
 | k,o::l,_::bs=> QgQ ops o k l bs && stat ops (k+1) l bs
 | _,[],_=> true
 | _,_::_,[]=> false
def QlP (i:Nat) (l:List Nat):Bool:=List.rec false (fun j _ ih=> Bool.rec ih true (Nat.beq i j)) l
theorem Qj9 (i:Nat):∀(l:List Nat),QlP i l=l.contains i
 | []=> rfl
 | j::l=> by
   show (Bool.rec (QlP i l) true (Nat.beq i j):Bool)=_;rw [Qj9 i l,List.contains_cons];by_cases e:i=j
   ·subst e;rw [Nat.beq_refl];simp
   ·rw [QgP e];simp [e]
def Qwd (W R:List Nat):Bool:=List.rec false (fun i _ ih=> Bool.rec ih true (QlP i R)) W
theorem Ql4 (R:List Nat):∀(W:List Nat),Qwd W R=W.any fun i=> R.contains i
 | []=> rfl
 | i::W=> by
   show (Bool.rec (Qwd W R) true (QlP i R):Bool)=_;rw [Ql4 R W,Qj9,List.any_cons];cases R.contains i <;> rfl
def Qwt (lo hi:Nat) (R:List Nat):Bool:=List.rec false (fun i _ ih=> Bool.rec ih (Bool.rec ih true (Nat.blt i hi)) (Nat.ble lo i)) R
theorem Qre (lo hi:Nat):∀(R:List Nat),Qwt lo hi R=R.any fun i=> Nat.ble lo i && Nat.blt i hi
 | []=> rfl
 | i::R=> by
   show (Bool.rec (Qwt lo hi R) (Bool.rec (Qwt lo hi R) true (Nat.blt i hi)) (Nat.ble lo i):Bool)=_;rw [Qre lo hi R,List.any_cons];cases Nat.ble lo i <;> cases Nat.blt i hi <;> rfl
def clear (r x:Rec):Bool:=Bool.rec (Bool.rec (Bool.rec true false (Qwt r.n r.n' x.R)) false (Qwd x.W r.R)) false (Qwd r.W x.R)
theorem QwQ {ops:Array Oper} {r x:Rec} (h:clear r x=true) (ha:r.o.apart ops x.o=true):tied ops r x=false:=by
 unfold clear at h;rw [Qre,Ql4,Ql4] at h;unfold tied meets bears;rw [ha];revert h;cases r.W.any fun i=> x.R.contains i <;> cases x.W.any fun i=> r.R.contains i <;> cases x.R.any fun i=> Nat.ble r.n i && Nat.blt i r.n' <;> simp
def QgB (r:Rec) (k:Nat) (l:List Rec):List (List Nat)->Bool:=List.rec (fun _=> true) (fun x _ ih bs=> List.rec false (fun b bs' _=> Bool.rec (Bool.rec false (ih bs') (QlP k b)) (ih bs') (clear r x)) bs) l
def dyn (l:List Rec):Nat->List (List Nat)->Bool:=List.rec (fun _ _=> true) (fun r l ih k bs=> List.rec false (fun _ bs' _=> Bool.rec false (ih (k+1) bs') (QgB r k l bs')) bs) l
theorem QkV {ops:Array Oper} {r:Rec} (k:Nat):∀(l:List Rec) (bs:List (List Nat)),QgB r k l bs=true->QgQ ops r.o k (l.map (·.o)) bs=true->Qd9 ops r k l bs=true
 | [],_,_,_=> by simp [Qd9]
 | x::l,[],_,h=> by simp [QgQ] at h
 | x::l,b::bs,hd,h=> by
   simp only [List.map_cons,QgQ,YB,Bool.or_eq_true] at h;simp only [Qd9,YB,Bool.or_eq_true,Bool.not_eq_true'];have hd:(Bool.rec (Bool.rec false (QgB r k l bs) (QlP k b)) (QgB r k l bs) (clear r x):Bool)=true:=hd;cases hc:clear r x with
   | true=>
     rw [hc] at hd;exact ⟨h.1.imp id fun ha=> QwQ hc ha,QkV k l bs hd h.2⟩
   | false=>
     rw [hc] at hd;have hd:(Bool.rec false (QgB r k l bs) (QlP k b):Bool)=true:=hd;cases he:QlP k b with
     | false=> rw [he] at hd;cases hd
     | true=>
       rw [he] at hd;rw [Qj9] at he;exact ⟨.inl he,QkV k l bs hd h.2⟩
theorem Qm6 {ops:Array Oper}:∀(l:List Rec) (bs:List (List Nat)) (k:Nat),dyn l k bs=true->stat ops k (l.map (·.o)) bs=true->indep ops k l bs=true
 | [],_,_,_,_=> by simp [indep]
 | x::l,[],_,_,h=> by simp [stat] at h
 | x::l,b::bs,k,hd,h=> by
   simp only [List.map_cons,stat,YB] at h;simp only [indep,YB];have hd:(Bool.rec false (dyn l (k+1) bs) (QgB x k l bs):Bool)=true:=hd;cases hc:QgB x k l bs with
   | false=> rw [hc] at hd;cases hd
   | true=>
     rw [hc] at hd;exact ⟨QkV k l bs hc h.1,Qm6 l bs (k+1) hd h.2⟩
theorem Qkc {P:Program} {F:FuncId->Bool} {orc:Orc} {rec:CF->Qax->Nat->Option Rs} {ops:Array Oper}:∀(l:List Oper) (T:Tm) (H:Qax) (n:Nat) (recs:List Rec) (T':Tm) (H':Qax) (n':Nat),Qg2 P F orc rec ops l T H n=some (recs,.ok T' H' n')->recs.map (·.o)=l
 | [],T,H,n,recs,T',H',n',h=> by
   simp only [Qg2,YO,YR] at h;rw [<-h.1];rfl
 | o::l,T,H,n,recs,T',H',n',h=> by
   simp only [Qg2] at h;have h:=QdY h;cases hw:Region.wanted o (Qbl ops T) with
   | true=>
     rw [hw] at h;simp only [cond_true] at h;split at h
     ·split at h
      ·split at h
       ·rename_i rs f hr;simp only [YO,YR] at h;obtain ⟨rfl,rfl⟩:=h;simp [Qkc l _ _ _ _ _ _ _ hr]
       ·cases h
      ·simp only [YO,YR] at h;cases h.2
     ·cases h
   | false=>
     rw [hw] at h;simp only [cond_false] at h;split at h
     ·rename_i rs f hr;simp only [YO,YR] at h;obtain ⟨rfl,rfl⟩:=h;simp [Qkc l _ _ _ _ _ _ _ hr]
     ·cases h
def Quk (ops:Array Oper):Bool:=Qc4 0 ops.toList && stat ops 0 ops.toList (Qj6 ops.toList [])
def chk (ops:Array Oper) (recs:List Rec) (draw:Bool):Bool:=Bool.rec true (Bool.rec (Qc4 0 ops.toList && indep ops 0 recs (Qj6 ops.toList [])) (Bool.rec (Qc4 0 ops.toList && indep ops 0 recs (Qj6 ops.toList [])) true (dyn recs 0 (Qj6 ops.toList []))) (Quk ops)) draw
theorem Q5i {ops:Array Oper} {recs:List Rec} {draw:Bool} (h:recs.map (·.o)=ops.toList):chk ops recs draw=(!draw || (Qc4 0 ops.toList && indep ops 0 recs (Qj6 ops.toList []))):=by
 unfold chk;cases draw with
 | false=> rfl
 | true=>
   simp only [Bool.not_true,Bool.false_or];cases hs:Quk ops with
   | false=> rfl
   | true=>
     cases hc:dyn recs 0 (Qj6 ops.toList []) with
     | false=> rfl
     | true=>
       unfold Quk at hs;simp only [YB] at hs;rw [hs.1,Qm6 recs _ 0 hc (by rw [h];exact hs.2)];rfl
def QqT (b:Nat) (l:List Nat):List Nat->List Nat:=List.rec (fun acc=> acc) (fun x _ ih acc=> Bool.rec (ih acc) (Bool.rec (ih (x::acc)) (ih acc) (QlP x acc)) (Nat.blt x b)) l
theorem Qj4 (b:Nat):∀(l acc:List Nat),QqT b l acc=Qdx b l acc
 | [],_=> rfl
 | x::l,acc=> by
   show (Bool.rec (QqT b l acc) (Bool.rec (QqT b l (x::acc)) (QqT b l acc) (QlP x acc)) (Nat.blt x b):List Nat)=_;rw [Qj4 b l,Qj4 b l,Qj9,Qdx];cases Nat.blt x b <;> cases acc.contains x <;> rfl
theorem Qn8 (b:Nat):∀(l m acc:List Nat),Qdx b (l++m) acc=Qdx b m (Qdx b l acc)
 | [],_,_=> rfl
 | x::l,m,acc=> by simp only [List.cons_append,Qdx];exact Qn8 b l m _
def Q6c (b:Nat) (recs:List Rec):List Nat->List Nat:=List.rec (fun acc=> acc) (fun r _ ih acc=> ih (QqT b r.R acc)) recs
theorem QzE (b:Nat):∀(recs:List Rec) (acc:List Nat),Q6c b recs acc=Qdx b (QgV recs) acc
 | [],_=> rfl
 | r::l,acc=> by
   show Q6c b l (QqT b r.R acc)=_;rw [QzE b l,Qj4,show QgV (r::l)=r.R++QgV l from List.flatMap_cons,Qn8]
def Q5Q (b:Nat) (recs:List Rec):List Nat->List Nat:=List.rec (fun acc=> acc) (fun r _ ih acc=> ih (QqT b r.W acc)) recs
theorem Qzd (b:Nat):∀(recs:List Rec) (acc:List Nat),Q5Q b recs acc=Qdx b (Qfd recs) acc
 | [],_=> rfl
 | r::l,acc=> by
   show Q5Q b l (QqT b r.W acc)=_;rw [Qzd b l,Qj4,show Qfd (r::l)=r.W++Qfd l from List.flatMap_cons,Qn8]
def Q41 (P:Program) (F:FuncId->Bool) (orc:Orc) (rec:CF->Qax->Nat->Option Rs) (len:Nat) (tr:Tri) (ops:Array Oper) (H:Qax) (n:Nat):Ans:=
 Bool.rec (Qg2 P F orc rec ops ops.toList ⟨len,tr⟩ H n) (Q2r P F orc rec len ops ops.toList tr H n) (QvN len ops.toList)
theorem Q1q (P:Program) (F:FuncId->Bool) (orc:Orc) (rec:CF->Qax->Nat->Option Rs) (len:Nat) (tr:Tri) (ops:Array Oper) (H:Qax) (n:Nat):Q41 P F orc rec len tr ops H n=Qg2 P F orc rec ops ops.toList ⟨len,tr⟩ H n:=by
 unfold Q41;cases hd:QvN len ops.toList with
 | false=> rfl
 | true=> exact QvX P F orc rec len ops _ _ _ _ hd
abbrev Run:=Nat->FuncId->Nat->Tri->List Item->List Nat->Option Nat->Qax->Nat->List Nat->List Nat->Option Rs
def Q5U (P:Program) (F:FuncId->Bool) (orc:Orc) (fuel:Nat) (ih:Run) (c1:CF) (H1:Qax) (n1:Nat):Option Rs:=
 CF.rec (fun fn T todo ds mode ro=> CM.rec (Tm.rec (fun len tr=> ih n1 fn len tr todo ds ro H1 n1 [] []) T) (Qgg P F orc fuel n1 ⟨fn,T,todo,ds,.ret,ro⟩ H1 n1 [] []) (fun v=> Qgg P F orc fuel n1 ⟨fn,T,todo,ds,.pan v,ro⟩ H1 n1 [] []) mode) c1
def goF (P:Program) (F:FuncId->Bool) (orc:Orc) (fuel:Nat) (ih:Run) (b:Nat) (c1:CF) (H1:Qax) (n1:Nat) (R W:List Nat):Option Rs:=
 CF.rec (fun fn T todo ds mode ro=> CM.rec (Tm.rec (fun len tr=> ih b fn len tr todo ds ro H1 n1 R W) T) (Qgg P F orc fuel b ⟨fn,T,todo,ds,.ret,ro⟩ H1 n1 R W) (fun v=> Qgg P F orc fuel b ⟨fn,T,todo,ds,.pan v,ro⟩ H1 n1 R W) mode) c1
def resume (P:Program) (F:FuncId->Bool) (orc:Orc) (fuel:Nat) (ih:Run) (b:Nat) (R W:List Nat) (x:Option FS):Option Rs:=
 Option.rec none (fun fs=> FS.rec (fun c' H' n' R' W'=> goF P F orc fuel ih b c' H' n' (Qdx b R' R) (Qdx b W' W)) (fun out H' n' R' W'=> some ⟨out,H',n',Qdx b R' R,Qdx b W' W⟩) fs) x
abbrev ItA:=Program->(FuncId->Bool)->Orc->Nat->Run->Nat->FuncId->Nat->Tri->List Item->List Nat->Option Nat->Qax->Nat->List Nat->List Nat->Option Rs
def Qif (it:Item):ItA:=fun P F orc fuel ih b fn len tr k ds ro H n R W=> resume P F orc fuel ih b R W (Qm8 P F orc (Q5U P F orc fuel ih) ⟨fn,⟨len,tr⟩,it::k,ds,.run,ro⟩ H n)
def Q1U:ItA:=fun _ _ _ _ ih b fn len tr k ds ro H n R W=> ih b fn len tr k ds ro H n R W
def Q6D (x y:Code):ItA:=fun _ _ _ _ ih b fn len tr k ds ro H n R W=> ih b fn len tr (.code x::.code y::k) ds ro H n R W
def Q6f (q:Operand) (x y:Code):ItA:=fun _ _ _ _ ih b fn len tr k ds ro H n R W=> Option.rec none (fun v=> Option.rec none (fun t=> Bool.rec (ih b fn len tr (.code y::k) ds ro H n R W) (ih b fn len tr (.code x::k) ds ro H n R W) t) (Qgp v)) (evF tr q)
def Q4K (id:Nat) (x:Code):ItA:=fun _ _ _ _ ih b fn len tr k ds ro H n R W=> ih b fn len tr (.code x::.inBlock id::k) ds ro H n R W
def Q5u (x:Code):ItA:=fun _ _ _ _ ih b fn len tr k ds ro H n R W=> ih b fn len tr (.code x::.inLoop x::k) ds ro H n R W
def Q5z (x:Code):ItA:=fun _ _ _ _ ih b fn len tr k ds ro H n R W=> ih b fn len tr (.code x::.inScope x::k) ds ro H n R W
def Qtz (id:Nat) (ops:Array Oper) (draw:Bool):ItA:=fun P F orc fuel ih b fn len tr k ds ro H n R W=>
 Option.rec none (fun p=> Prod.rec (fun recs f=> RF.rec (fun T' H' n'=> Bool.rec none (Tm.rec (fun len' tr'=> ih b fn len' tr' k ds ro H' n' (Q6c b recs R) (Q5Q b recs W)) T') (chk ops recs draw))
  (fun T' v H' n' R1 W1=> resume P F orc fuel ih b R W (Q5T ⟨fn,⟨len,tr⟩,.code (.region id ops draw)::k,ds,.run,ro⟩ ops draw k (some (recs,.pan T' v H' n' R1 W1)))) f) p) (Q41 P F orc (Q5U P F orc fuel ih) len tr ops H n)
def codeF (cd:Code):ItA:=Code.rec Q1U Qtz (fun x y _ _=> Q6D x y) (fun q x y _ _=> Q6f q x y) (fun id x _=> Q4K id x) (fun x _=> Q5u x) (fun f ps x y _ _=> Qif (.code (.rangeFunc f ps x y))) (fun id=> Qif (.code (.exit id))) (fun x _=> Q5z x) (fun _=> Q1U) (fun l=> Qif (.code (.goto l))) (Qif (.code .ret)) (fun w=> Qif (.code (.refuse w))) cd
def Q4C (it:Item):ItA:=Item.rec codeF (fun _=> Q1U) Q5u (fun _=> Q1U) (fun a b=> Qif (.inRegion a b)) (fun l=> Qif (.inRangeFunc l)) (fun l=> Qif (.endRangeFunc l)) (Qif .beginRound) (fun a b c d=> Qif (.call a b c d)) (fun a b=> Qif (.extern a b)) it
def QjM (P:Program) (F:FuncId->Bool) (orc:Orc) (fuel:Nat):Run:=Nat.rec (fun _ _ _ _ _ _ _ _ _ _ _=> none) (fun fuel ih b fn len tr todo ds ro H n R W=>
 List.rec (resume P F orc fuel ih b R W (Qgh ⟨fn,⟨len,tr⟩,[],ds,.run,ro⟩ H n none)) (fun it k _=> Q4C it P F orc fuel ih b fn len tr k ds ro H n R W) todo) fuel
theorem Qo6 (P:Program) (F:FuncId->Bool) (orc:Orc):∀(fuel b:Nat) (fn:FuncId) (len:Nat) (tr:Tri) (todo:List Item) (ds:List Nat) (ro:Option Nat) (H:Qax) (n:Nat) (R W:List Nat),QjM P F orc fuel b fn len tr todo ds ro H n R W=Qgg P F orc fuel b ⟨fn,⟨len,tr⟩,todo,ds,.run,ro⟩ H n R W
 | 0,_,_,_,_,_,_,_,_,_,_,_=> rfl
 | fuel+1,b,fn,len,tr,todo,ds,ro,H,n,R,W=> by
   have hih:∀(b:Nat) (fn:FuncId) (len:Nat) (tr:Tri) (todo:List Item) (ds:List Nat) (ro:Option Nat) (H:Qax) (n:Nat) (R W:List Nat),QjM P F orc fuel b fn len tr todo ds ro H n R W=Qgg P F orc fuel b ⟨fn,⟨len,tr⟩,todo,ds,.run,ro⟩ H n R W:=Qo6 P F orc fuel;have hrec:Q5U P F orc fuel (QjM P F orc fuel)=fun c1 H1 n1=> Qgg P F orc fuel n1 c1 H1 n1 [] []:=by
    funext c1 H1 n1;obtain ⟨fn,⟨len,tr⟩,todo,ds,mode,ro⟩:=c1;cases mode with
    | run=> exact hih _ _ _ _ _ _ _ _ _ _ _
    | ret=> rfl
    | pan v=> rfl
   have hres:∀(R W:List Nat) (x:Option FS),resume P F orc fuel (QjM P F orc fuel) b R W x=match x with
    | some (.go c' H' n' R' W')=> Qgg P F orc fuel b c' H' n' (Qdx b R' R) (Qdx b W' W)
    | some (.done out H' n' R' W')=> some ⟨out,H',n',Qdx b R' R,Qdx b W' W⟩
    | none=> none:=by
    intro R W x;cases x with
    | none=> rfl
    | some fs=>
      cases fs with
      | done out H' n' R' W'=> rfl
      | go c' H' n' R' W'=>
        obtain ⟨fn,⟨len,tr⟩,todo,ds,mode,ro⟩:=c';cases mode with
        | run=> exact hih _ _ _ _ _ _ _ _ _ _ _
        | ret=> rfl
        | pan v=> rfl
   have hslow:∀(it:Item) (k:List Item),Qif it P F orc fuel (QjM P F orc fuel) b fn len tr k ds ro H n R W=Qgg P F orc (fuel+1) b ⟨fn,⟨len,tr⟩,it::k,ds,.run,ro⟩ H n R W:=by
    intro it k;unfold Qif;rw [hres,hrec];rfl
   cases todo with
   | nil=> exact hres R W _
   | cons it k=>
     show Q4C it P F orc fuel (QjM P F orc fuel) b fn len tr k ds ro H n R W=_;cases it with
     | code cd=>
       cases cd with
       | skip=> exact hih _ _ _ _ _ _ _ _ _ _ _
       | label l=> exact hih _ _ _ _ _ _ _ _ _ _ _
       | seq x y=> exact hih _ _ _ _ _ _ _ _ _ _ _
       | block id x=> exact hih _ _ _ _ _ _ _ _ _ _ _
       | loop x=> exact hih _ _ _ _ _ _ _ _ _ _ _
       | scope x=> exact hih _ _ _ _ _ _ _ _ _ _ _
       | cond q x y=>
         show (Option.rec none (fun v=> Option.rec none (fun t=> Bool.rec (QjM P F orc fuel b fn len tr (.code y::k) ds ro H n R W) (QjM P F orc fuel b fn len tr (.code x::k) ds ro H n R W) t) (Qgp v)) (evF tr q):Option Rs)=_;rw [Q3l len tr,hih,hih];simp only [Qgg,Qm8,QqC,Qrl];cases evC ⟨len,tr⟩ q with
         | none=> rfl
         | some v=>
           cases v with
           | bool t=> cases t <;> rfl
           | _=> rfl
       | region id ops draw=>
         show Qtz id ops draw P F orc fuel (QjM P F orc fuel) b fn len tr k ds ro H n R W=_;unfold Qtz;rw [Q1q,hrec];simp only [Qgg,Qm8,QqC,Qrl,QzE,Qzd];cases hrr:Qg2 P F orc (fun c1 H1 n1=> Qgg P F orc fuel n1 c1 H1 n1 [] []) ops ops.toList ⟨len,tr⟩ H n with
         | none=> rfl
         | some p=>
           obtain ⟨recs,f⟩:=p;cases f with
           | pan v H' n' R1 W1=> exact hres R W _
           | ok T' H' n'=>
             have hck:=Q5i (draw:=draw) (Qkc _ _ _ _ _ _ _ _ hrr);obtain ⟨len',tr'⟩:=T';simp only [Q5T];rw [hck];cases !draw || (Qc4 0 ops.toList && indep ops 0 recs (Qj6 ops.toList [])) with
             | false=> rfl
             | true=> exact hih _ _ _ _ _ _ _ _ _ _ _
       | rangeFunc f ps x y=> exact hslow _ k
       | exit id=> exact hslow _ k
       | goto id=> exact hslow _ k
       | ret=> exact hslow _ k
       | refuse w=> exact hslow (.code (.refuse w)) k
     | inBlock id=> exact hih _ _ _ _ _ _ _ _ _ _ _
     | inScope x=> exact hih _ _ _ _ _ _ _ _ _ _ _
     | inLoop x=> exact hih _ _ _ _ _ _ _ _ _ _ _
     | inRegion a b=> exact hslow _ k
     | inRangeFunc l=> exact hslow _ k
     | endRangeFunc l=> exact hslow _ k
     | beginRound=> exact hslow _ k
     | call a b c d=> exact hslow _ k
     | extern a b=> exact hslow _ k
end
end Go.CE
