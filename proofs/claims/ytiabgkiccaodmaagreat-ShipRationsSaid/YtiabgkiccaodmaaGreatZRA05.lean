/- CE: the canonical machine a third time: by recursors alone where much time goes. -/
import Derived.Test.YtiabgkiccaodmaaGreatZRA04
set_option linter.all false
namespace Go.CE
open Go Go.RowKit
noncomputable section

def Qm7 (t:Tri):Nat->Value:=Tri.rec (fun _=> undef) (fun _ v _ gl gr k=> Nat.rec v (fun j _=> Bool.rec (gr (Nat.div j 2)) (gl (Nat.div j 2)) (Nat.beq (Nat.mod j 2) 0)) k) t
theorem Qig:∀(t:Tri) (k:Nat),Qm7 t k=t.get k
 | .lf,k=> by cases k <;> rfl
 | .nd l v r,0=> rfl
 | .nd l v r,k+1=> by
   show (Bool.rec (Qm7 r (k / 2)) (Qm7 l (k / 2)) (Nat.beq (k % 2) 0):Value)=bif Nat.beq (k % 2) 0 then l.get (k / 2) else r.get (k / 2)
   rw [Qig l,Qig r]
   cases Nat.beq (k % 2) 0 <;> rfl
def Qk4 (f:Nat):Tri->Nat->Value->Tri:=Nat.rec (fun t _ _=> t) (fun _ ih t i x=> Tri.rec
 (Nat.rec (.nd .lf x .lf) (fun j _=> Bool.rec (.nd .lf undef (ih .lf (Nat.div j 2) x)) (.nd (ih .lf (Nat.div j 2) x) undef .lf) (Nat.beq (Nat.mod j 2) 0)) i)
 (fun l v r _ _=> Nat.rec (.nd l x r) (fun j _=> Bool.rec (.nd l v (ih r (Nat.div j 2) x)) (.nd (ih l (Nat.div j 2) x) v r) (Nat.beq (Nat.mod j 2) 0)) i) t) f
theorem QhG:∀(f:Nat) (t:Tri) (i:Nat) (x:Value),Qk4 f t i x=Tri.set f t i x
 | 0,_,_,_=> rfl
 | f+1,.lf,0,x=> rfl
 | f+1,.nd l v r,0,x=> rfl
 | f+1,.lf,k+1,x=> by
   show (Bool.rec (Tri.nd .lf undef (Qk4 f .lf (k / 2) x)) (Tri.nd (Qk4 f .lf (k / 2) x) undef .lf) (Nat.beq (k % 2) 0):Tri)=bif Nat.beq (k % 2) 0 then .nd (Tri.set f .lf (k / 2) x) undef .lf else .nd .lf undef (Tri.set f .lf (k / 2) x)
   rw [QhG f]
   cases Nat.beq (k % 2) 0 <;> rfl
 | f+1,.nd l v r,k+1,x=> by
   show (Bool.rec (Tri.nd l v (Qk4 f r (k / 2) x)) (Tri.nd (Qk4 f l (k / 2) x) v r) (Nat.beq (k % 2) 0):Tri)=bif Nat.beq (k % 2) 0 then .nd (Tri.set f l (k / 2) x) v r else .nd l v (Tri.set f r (k / 2) x)
   rw [QhG f,QhG f]
   cases Nat.beq (k % 2) 0 <;> rfl
def evF (tr:Tri) (x:Operand):Option Value:=Operand.rec (fun t=> some (Qm7 tr t)) (fun v=> Bool.rec none (some v) (af v)) (fun _=> none) (fun f=> some (.func (.func f) #[] #[])) x
theorem Q0F (len:Nat) (tr:Tri):evF tr=evC ⟨len,tr⟩:=by
 funext x
 cases x with
 | tmp t=> show some (Qm7 tr t)=some (tr.get t);rw [Qig]
 | const v=> show (Bool.rec none (some v) (af v):Option Value)=bif af v then some v else none;cases af v <;> rfl
 | global g=> rfl
 | func f=> rfl
def Q2L (tr:Tri) (d:Option Tmp) (v:Value):Tri:=Option.rec tr (fun d=> Qk4 14 tr d v) d
theorem Qwb (len:Nat) (tr:Tri) (d:Option Tmp) (v:Value):(⟨len,Q2L tr d v⟩:Tm)=QfS ⟨len,tr⟩ d v:=by
 cases d with
 | none=> rfl
 | some d=> show (⟨len,Qk4 14 tr d v⟩:Tm)=⟨len,tr.set 14 d v⟩;rw [QhG]
def Q34 {α:Type} (l:List α):Nat->Option α:=List.rec (fun _=> none) (fun x _ ih k=> Nat.rec (some x) (fun j _=> ih j) k) l
theorem Qws {α:Type}:∀(l:List α) (k:Nat),Q34 l k=l[k]?
 | [],k=> by cases k <;> rfl
 | x::l,0=> rfl
 | x::l,k+1=> by show Q34 l k=_;rw [Qws l k];rfl
def QrU (P:Program) (t:TypeId) (cs:Array Value) (off:Nat):Option Value:=
 Option.rec none (fun g=> Bool.rec (Q34 cs.toList off) (Option.rec none (fun s=> Bool.rec none (some (.agg (cs.extract off (off+s)))) (Nat.ble (off+s) cs.size)) (QeJ P t)) g) (Qvd P t)
theorem QpI (P:Program) (t:TypeId) (cs:Array Value) (off:Nat):QrU P t cs off=QfD P t cs off:=by
 unfold QrU QfD
 cases Qvd P t with
 | none=> rfl
 | some g=>
   cases g with
   | false=> show Q34 cs.toList off=_;rw [Qws,Array.getElem?_toList]
   | true=>
     cases QeJ P t with
     | none=> rfl
     | some s=> simp only;cases Nat.ble (off+s) cs.size <;> rfl
def Qs2 (P:Program) (t:TypeId) (H:Qap) (p:Value):Option (Value×Nat):=match p with
 | .pointer (some ⟨b,off,none⟩)=> match Qau H b with
   | some (.cells cs _ _)=> match QrU P t cs off with
     | some v=> some (v,b)
     | none=> none
   | _=> none
 | _=> none
theorem QvM (P:Program) (t:TypeId) (H:Qap) (p:Value):Qs2 P t H p=Qi7 P t H p:=by
 unfold Qs2 Qi7
 simp only [QpI]
 rfl
def QzN (p:Value->Bool) (l:List Value):Bool:=List.rec true (fun x _ ih=> Bool.rec false ih (p x)) l
theorem QkD (p:Value->Bool):∀(l:List Value),QzN p l=l.all p
 | []=> rfl
 | x::l=> by
   show (Bool.rec false (QzN p l) (p x):Bool)=_
   rw [QkD p l,List.all_cons]
   cases p x <;> rfl
def Q1u (cs:Array Value):Bool:=QzN (·.oneCell') cs.toList
theorem Qzm (cs:Array Value):Q1u cs=ones cs:=by
 unfold Q1u ones
 rw [QkD,Array.all_toList]
def saF (v:Value):Bool:=match v with
 | .agg xs=> QzN simple xs.toList
 | v=> simple v
theorem Q0z (v:Value):saF v=sa v:=by
 cases v <;> first | rfl | (show QzN simple _=_;rw [QkD,Array.all_toList];rfl)
def afF (v:Value):Bool:=match v with
 | .agg xs=> QzN simple xs.toList
 | .tuple xs=> QzN saF xs.toList
 | .iface _ v=> saF v
 | v=> simple v
theorem Q3c (v:Value):afF v=af v:=by
 cases v with
 | iface t v=> exact Q0z v
 | tuple xs=> show QzN saF _=_;rw [show saF=sa from funext Q0z,QkD,Array.all_toList];rfl
 | _=> first | rfl | (show QzN simple _=_;rw [QkD,Array.all_toList];rfl)
def Qoa (P:Program) (t:TypeId) (H:Qap) (v p:Value):Option (Qap×Nat):=match p with
 | .pointer (some ⟨b,off,none⟩)=> match Qau H b with
   | some (.cells cs te (0,0))=> match QeJ P t with
     | some s=> bif Nat.beq v.cells.size s && Q1u v.cells && Nat.ble (off+s) cs.size then some (QfN H b (.cells (splice cs off v.cells) te (0,0)),b) else none
     | none=> none
   | _=> none
 | _=> none
theorem Qtt (P:Program) (t:TypeId) (H:Qap) (v p:Value):Qoa P t H v p=Qhe P t H v p:=by
 unfold Qoa Qhe
 simp only [Qzm]
 rfl
def QnD (P:Program) (t:TypeId) (f:Nat) (x:Value):Option Value:=match x with
 | .agg cs=> match und P t with
   | some (.struct fields)=> match fields[f]? with
     | some fd=> QrU P fd.type cs fd.offset
     | none=> none
   | _=> none
 | _=> none
theorem QsY (P:Program) (t:TypeId) (f:Nat) (x:Value):QnD P t f x=QmH P t f x:=by
 unfold QnD QmH
 simp only [QpI]
 rfl
def Qxi (ops:Array Oper) (tr:Tri) (j:Nat):Option Bool:=match nth ops.toList j with
 | some o=> match o.dst with
   | some t=> Qhf (Qm7 tr t)
   | none=> none
 | none=> none
theorem QxC (len:Nat) (ops:Array Oper) (tr:Tri) (j:Nat):Qxi ops tr j=Qbi ops ⟨len,tr⟩ j:=by
 unfold Qxi Qbi
 simp only [Qig,Qce]
 rfl
def Qzs (ops:Array Oper) (tr:Tri) (g:Option (Nat×Bool)):Bool:=Option.rec true (fun jw=> Prod.rec (fun j w=> Option.rec false (fun b=> Bool.rec (Bool.rec true false w) (Bool.rec false true w) b) (Qxi ops tr j)) jw) g
theorem QzF (len:Nat) (ops:Array Oper) (tr:Tri) (o:Oper):Qzs ops tr o.guard=Region.wanted o (Qbi ops ⟨len,tr⟩):=by
 unfold Qzs Region.wanted
 cases o.guard with
 | none=> rfl
 | some jw=>
   obtain ⟨j,w⟩:=jw
   simp only [QxC len]
   cases Qbi ops ⟨len,tr⟩ j with
   | none=> rfl
   | some b=> cases b <;> cases w <;> rfl
abbrev Ans:=Option (List Rec×RF)
abbrev KV:=Value->Qap->Nat->List Nat->List Nat->Ans
abbrev Arm:=Program->(FuncId->Bool)->Orc->(CF->Qap->Nat->Option Rs)->Nat->Tri->Oper->Qap->Nat->KV->KV->Ans
def fin (k kp:KV) (s:Option Rs):Ans:=match s with
 | some ⟨out,H,n,R,W⟩=> match out with
   | .ret v=> k v H n R W
   | .pan v=> kp v H n R W
 | none=> none
def pv (k:KV) (H:Qap) (n:Nat) (x:Option Value):Ans:=Option.rec none (fun v=> k v H n [] []) x
theorem Qjv (k kp:KV) (H:Qap) (n:Nat) (x:Option Value):fin k kp (qV x H n)=pv k H n x:=by cases x <;> rfl
def Q2D (x:Operand):Arm:=fun _ _ _ _ _ tr _ H n k _=> pv k H n (evF tr x)
def Q4c (c a b:Operand):Arm:=fun _ _ _ _ _ tr _ H n k _=> Option.rec none (fun v=> Option.rec none (fun t=> Bool.rec (pv k H n (evF tr b)) (pv k H n (evF tr a)) t) (Qhf v)) (evF tr c)
def Q3L (t:TypeId) (a:Operand):Arm:=fun P _ _ _ _ tr _ H n k _=> Option.rec none (fun p=> Option.rec none (fun vb=> Prod.rec (fun v b=> Bool.rec none (k v H n [b] []) (Nat.blt b n)) vb) (Qs2 P t H p)) (evF tr a)
def Q2p (t:TypeId) (a x:Operand):Arm:=fun P _ _ _ _ tr _ H n k _=> Option.rec none (fun p=> Option.rec none (fun v=> Option.rec none (fun hb=> Prod.rec (fun H' b=> Bool.rec none (k undef H' n [b] [b]) (Nat.blt b n)) hb) (Qoa P t H v p)) (evF tr x)) (evF tr a)
def Qtw (s:TypeId) (x:Operand) (f:Nat):Arm:=fun P _ _ _ _ tr _ H n k _=> Option.rec none (fun p=> pv k H n (QbI P s f p)) (evF tr x)
def Q2o (s:TypeId) (x:Operand) (f:Nat):Arm:=fun P _ _ _ _ tr _ H n k _=> Option.rec none (fun p=> pv k H n (QnD P s f p)) (evF tr x)
def Qtz (t:TypeId) (x i:Operand):Arm:=fun P _ _ _ _ tr _ H n k _=> Option.rec none (fun p=> Option.rec none (fun j=> pv k H n (Qew P t p j)) (evF tr i)) (evF tr x)
def Qy7 (x:Operand) (i:Nat):Arm:=fun _ _ _ _ _ tr _ H n k _=> Option.rec none (fun p=> pv k H n (QgL i p)) (evF tr x)
def Q4w (op:BinOp) (_:TypeId) (x y:Operand) (_:TypeId):Arm:=fun P _ _ _ _ tr o H n k _=> Option.rec none (fun a=> Option.rec none (fun b=> Option.rec (pv k H n (Qej P (evF tr) o)) (fun v=> k v H n [] []) (Q1V op a b)) (evF tr y)) (evF tr x)
def Q1o (v:Value) (r:CR) (k:KV) (H':Qap) (n':Nat) (R W:List Nat):Ans:=List.rec (Bool.rec (k v H' n' (r.R++R) (r.W++[])) (k v r.H n' (r.R++R) (r.W++[])) (afF v)) (fun _ _ _=> k v H' n' (r.R++R) (r.W++W)) W
def QyN (r:CR) (k kp:KV) (s:Option Rs):Ans:=Option.rec none (fun s=> Rs.rec (fun out H' n' R W=> OO.rec (fun v=> Q1o v r k H' n' R W) (fun v=> kp v H' n' (r.R++R) (r.W++W)) out) s) s
theorem Qyk (r:CR) (k kp:KV) (s:Option Rs):QyN r k kp s=fin k kp (match s with | some s=> Q0X r s | none=> none):=by
 cases s with
 | none=> rfl
 | some s=>
   obtain ⟨out,H',n',R,W⟩:=s
   cases out with
   | pan v=>
     cases W with
     | nil=> rfl
     | cons a b=> rfl
   | ret v=>
     show Q1o v r k H' n' R W=_
     unfold Q1o
     cases W with
     | nil=>
       rw [Q3c]
       simp only [Q0X,QeV]
       cases af v <;> rfl
     | cons a b=> rfl
def Qss (P:Program) (orc:Orc) (rec:CF->Qap->Nat->Option Rs) (g:FuncId) (args:Array Value) (r:CR) (k kp:KV):Ans:=Option.rec (Option.rec none (fun c=> QyN r k kp (rec c r.H r.n)) (Qcg P g args)) (fun _=> fin k kp (QrQ P orc rec g args r)) (orc g args r.H r.n)
theorem Qxs (P:Program) (orc:Orc) (rec:CF->Qap->Nat->Option Rs) (g:FuncId) (args:Array Value) (r:CR) (k kp:KV):Qss P orc rec g args r k kp=fin k kp (QrQ P orc rec g args r):=by
 unfold Qss
 cases ho:orc g args r.H r.n with
 | some x=> rfl
 | none=>
   unfold QrQ
   rw [ho]
   show (Option.rec none (fun c=> QyN r k kp (rec c r.H r.n)) (Qcg P g args):Ans)=fin k kp (Q4f P rec g args r)
   unfold Q4f
   cases Qcg P g args with
   | none=> rfl
   | some c=>
     show QyN r k kp (rec c r.H r.n)=_
     rw [Qyk]
     rfl
def Q2j (P:Program) (orc:Orc) (rec:CF->Qap->Nat->Option Rs) (n:Nat) (x:Option CR) (k kp:KV):Ans:=Option.rec none (fun r=> CN.rec (fun _=> fin k kp (qR P orc rec n (some r))) (fun g args=> Bool.rec none (Qss P orc rec g args r k kp) (r.R.all (fun i=> Nat.blt i n))) (fun _ _ _ _ _=> fin k kp (qR P orc rec n (some r))) r.nx) x
theorem Qyn (P:Program) (orc:Orc) (rec:CF->Qap->Nat->Option Rs) (n:Nat) (x:Option CR) (k kp:KV):Q2j P orc rec n x k kp=fin k kp (qR P orc rec n x):=by
 cases x with
 | none=> rfl
 | some r=>
   obtain ⟨nx,H',n',R,W⟩:=r
   cases nx with
   | val v=> rfl
   | round l fn tm a b=> rfl
   | enter g args=>
     show (Bool.rec none (Qss P orc rec g args ⟨.enter g args,H',n',R,W⟩ k kp) (R.all (fun i=> Nat.blt i n)):Ans)=_
     rw [Qxs]
     simp only [qR]
     cases R.all (fun i=> Nat.blt i n) <;> rfl
def Q3W (c:Call):Arm:=fun P F orc rec _ tr o H n k kp=> Q2j P orc rec n (QjV P F (evF tr) o c H n) k kp
def Qhg:Arm:=fun P F orc rec len tr o H n k kp=> fin k kp (opQ P F orc rec ⟨len,tr⟩ o H n)
def opF (op:Op):Arm:=Op.rec Q2D Q2D Q4c (fun _=> Qhg) (fun _ _=> Qhg) (fun _ _=> Qhg) (fun _ _ _=> Qhg) (fun _ _ _ _=> Qhg) Q3L Q2p (fun _=> Qhg) (fun _=> Qhg) (fun _=> Qhg) Q4w (fun _ _ _=> Qhg) (fun _ _ _=> Qhg) (fun _ _=> Qhg) (fun _ _=> Qhg)
 (fun _ _ _=> Qhg) (fun _ _=> Qhg) (fun _ _=> Qhg) (fun _ _ _=> Qhg) (fun _ _ _ _ _=> Qhg) Qtw Q2o Qtz (fun _ _ _=> Qhg) (fun _ _ _ _=> Qhg) (fun _ _ _ _=> Qhg) (fun _ _ _=> Qhg) (fun _ _ _ _=> Qhg) (fun _ _=> Qhg) (fun _ _=> Qhg) (fun _=> Qhg) (fun _ _ _ _=> Qhg)
 Qy7 Q3W (fun _=> Qhg) (fun _=> Qhg) (fun _=> Qhg) (fun _ _=> Qhg) (fun _ _ _=> Qhg) (fun _ _=> Qhg) op
theorem Q2q (P:Program) (F:FuncId->Bool) (orc:Orc) (rec:CF->Qap->Nat->Option Rs) (len:Nat) (tr:Tri) (o:Oper) (H:Qap) (n:Nat) (k kp:KV):opF o.op P F orc rec len tr o H n k kp=fin k kp (opQ P F orc rec ⟨len,tr⟩ o H n):=by
 have e:=Q0F len tr
 cases hp:o.op with
 | move x=> show pv k H n (evF tr x)=_;rw [e];unfold opQ;simp only [hp];exact (Qjv k kp H n _).symm
 | assign x=> show pv k H n (evF tr x)=_;rw [e];unfold opQ;simp only [hp];exact (Qjv k kp H n _).symm
 | pick c a b=>
   show (Option.rec none (fun v=> Option.rec none (fun t=> Bool.rec (pv k H n (evF tr b)) (pv k H n (evF tr a)) t) (Qhf v)) (evF tr c):Ans)=_
   rw [e];unfold opQ;simp only [hp]
   cases evC ⟨len,tr⟩ c with
   | none=> rfl
   | some v=>
     cases v with
     | bool t=> cases t <;> exact (Qjv k kp H n _).symm
     | _=> rfl
 | load t a=>
   show (Option.rec none (fun p=> Option.rec none (fun vb=> Prod.rec (fun v b=> Bool.rec none (k v H n [b] []) (Nat.blt b n)) vb) (Qs2 P t H p)) (evF tr a):Ans)=_
   simp only [QvM];rw [e];unfold opQ;simp only [hp]
   cases evC ⟨len,tr⟩ a with
   | none=> rfl
   | some p=>
     simp only [Q2g]
     cases Qi7 P t H p with
     | none=> rfl
     | some vb=>
       obtain ⟨v,b⟩:=vb
       cases hb:Nat.blt b n <;> simp [qR,fin,QzY,hb]
 | store t a x=>
   show (Option.rec none (fun p=> Option.rec none (fun v=> Option.rec none (fun hb=> Prod.rec (fun H' b=> Bool.rec none (k undef H' n [b] [b]) (Nat.blt b n)) hb) (Qoa P t H v p)) (evF tr x)) (evF tr a):Ans)=_
   simp only [Qtt];rw [e];unfold opQ;simp only [hp]
   cases evC ⟨len,tr⟩ a with
   | none=> rfl
   | some p=>
     cases evC ⟨len,tr⟩ x with
     | none=> rfl
     | some v=>
       simp only [QxO]
       cases Qhe P t H v p with
       | none=> rfl
       | some vb=>
         obtain ⟨H',b⟩:=vb
         cases hb:Nat.blt b n <;> simp [qR,fin,QzY,hb]
 | fieldAddr s x f=>
   show (Option.rec none (fun p=> pv k H n (QbI P s f p)) (evF tr x):Ans)=_
   rw [e];unfold opQ;simp only [hp]
   cases evC ⟨len,tr⟩ x with
   | none=> rfl
   | some p=> simp only [Qi8,Qgx];exact (Qjv k kp H n _).symm
 | field s x f=>
   show (Option.rec none (fun p=> pv k H n (QnD P s f p)) (evF tr x):Ans)=_
   simp only [QsY];rw [e];unfold opQ;simp only [hp]
   cases evC ⟨len,tr⟩ x with
   | none=> rfl
   | some p=> simp only [QwD,Qgx];exact (Qjv k kp H n _).symm
 | indexAddr t x i=>
   show (Option.rec none (fun p=> Option.rec none (fun j=> pv k H n (Qew P t p j)) (evF tr i)) (evF tr x):Ans)=_
   rw [e];unfold opQ;simp only [hp]
   cases evC ⟨len,tr⟩ x with
   | none=> rfl
   | some p=>
     cases evC ⟨len,tr⟩ i with
     | none=> rfl
     | some j=> simp only [QiY,Qgx];exact (Qjv k kp H n _).symm
 | extract x i=>
   show (Option.rec none (fun p=> pv k H n (QgL i p)) (evF tr x):Ans)=_
   rw [e];unfold opQ;simp only [hp]
   cases evC ⟨len,tr⟩ x with
   | none=> rfl
   | some p=> simp only [Qnc,Qgx];exact (Qjv k kp H n _).symm
 | binOp op t x y t'=>
   show (Option.rec none (fun a=> Option.rec none (fun b=> Option.rec (pv k H n (Qej P (evF tr) o)) (fun v=> k v H n [] []) (Q1V op a b)) (evF tr y)) (evF tr x):Ans)=_
   rw [e];unfold opQ;simp only [hp]
   cases evC ⟨len,tr⟩ x with
   | none=> rfl
   | some a=>
     cases evC ⟨len,tr⟩ y with
     | none=> rfl
     | some b=>
       simp only [Q3H]
       cases Q1V op a b with
       | none=> simp only [Qgx];exact (Qjv k kp H n _).symm
       | some v=> rfl
 | call c=> show Q2j P orc rec n (QjV P F (evF tr) o c H n) k kp=_;rw [Qyn,e];unfold opQ;simp only [hp]
 | _=> rfl
def Q0r (r:Rec) (x:Ans):Ans:=Option.rec none (fun p=> Prod.rec (fun rs f=> some (r::rs,f)) p) x
def QzQ (P:Program) (F:FuncId->Bool) (orc:Orc) (rec:CF->Qap->Nat->Option Rs) (len:Nat) (ops:Array Oper) (l:List Oper):Tri->Qap->Nat->Ans:=
 List.rec (fun tr H n=> some ([],.ok ⟨len,tr⟩ H n)) (fun o _ ih tr H n=> Bool.rec
  (Q0r ⟨o,false,undef,⟨len,tr⟩,H,H,n,n,[],[]⟩ (ih (Q2L tr o.dst undef) H n))
  (opF o.op P F orc rec len tr o H n (fun v H' n' R W=> Q0r ⟨o,true,v,⟨len,tr⟩,H,H',n,n',R,W⟩ (ih (Q2L tr o.dst v) H' n')) (fun v H' n' R W=> some ([],.pan ⟨len,tr⟩ v H' n' R W)))
  (Qzs ops tr o.guard)) l
def QsD (len:Nat) (l:List Oper):Bool:=l.all fun o=> QhL ⟨len,.lf⟩ o.dst
theorem QrN (P:Program) (F:FuncId->Bool) (orc:Orc) (rec:CF->Qap->Nat->Option Rs) (len:Nat) (ops:Array Oper):∀(l:List Oper) (tr:Tri) (H:Qap) (n:Nat),QsD len l=true->QzQ P F orc rec len ops l tr H n=Qhx P F orc rec ops l ⟨len,tr⟩ H n
 | [],_,_,_,_=> rfl
 | o::l,tr,H,n,hd=> by
   simp only [QsD,List.all_cons,Bool.and_eq_true] at hd
   have hd1:QhL ⟨len,tr⟩ o.dst=true:=by
    have:=hd.1
    cases hq:o.dst with
    | none=> rfl
    | some x=> rw [hq] at this;exact this
   have ih:=QrN P F orc rec len ops l
   show (Bool.rec (Q0r ⟨o,false,undef,⟨len,tr⟩,H,H,n,n,[],[]⟩ (QzQ P F orc rec len ops l (Q2L tr o.dst undef) H n))
    (opF o.op P F orc rec len tr o H n (fun v H' n' R W=> Q0r ⟨o,true,v,⟨len,tr⟩,H,H',n,n',R,W⟩ (QzQ P F orc rec len ops l (Q2L tr o.dst v) H' n')) (fun v H' n' R W=> some ([],.pan ⟨len,tr⟩ v H' n' R W)))
    (Qzs ops tr o.guard):Ans)=_
   rw [QzF len]
   simp only [Qhx,hd1,cond_true]
   cases Region.wanted o (Qbi ops ⟨len,tr⟩) with
   | false=>
     simp only [cond_false]
     rw [ih _ _ _ hd.2,Qwb]
     cases Qhx P F orc rec ops l (QfS ⟨len,tr⟩ o.dst undef) H n <;> rfl
   | true=>
     simp only [cond_true,Q2q]
     cases opQ P F orc rec ⟨len,tr⟩ o H n with
     | none=> rfl
     | some s=>
       obtain ⟨out,H',n',R,W⟩:=s
       cases out with
       | pan v=> rfl
       | ret v=>
         simp only [fin]
         rw [ih _ _ _ hd.2,Qwb]
         cases Qhx P F orc rec ops l (QfS ⟨len,tr⟩ o.dst v) H' n' <;> rfl
def Qip (ops:Array Oper) (o:Oper) (k:Nat):List Oper->List (List Nat)->Bool
 | x::l,b::bs=> (b.contains k || o.apart ops x) && Qip ops o k l bs
 | [],_=> true
 | _::_,[]=> false
def stat (ops:Array Oper):Nat->List Oper->List (List Nat)->Bool
 | k,o::l,_::bs=> Qip ops o k l bs && stat ops (k+1) l bs
 | _,[],_=> true
 | _,_::_,[]=> false
def Qma (i:Nat) (l:List Nat):Bool:=List.rec false (fun j _ ih=> Bool.rec ih true (Nat.beq i j)) l
theorem QjU (i:Nat):∀(l:List Nat),Qma i l=l.contains i
 | []=> rfl
 | j::l=> by
   show (Bool.rec (Qma i l) true (Nat.beq i j):Bool)=_
   rw [QjU i l,List.contains_cons]
   by_cases e:i=j
   ·subst e
    rw [Nat.beq_refl]
    simp
   ·rw [Qiv e]
    simp [e]
def Qsl (W R:List Nat):Bool:=List.rec false (fun i _ ih=> Bool.rec ih true (Qma i R)) W
theorem QlU (R:List Nat):∀(W:List Nat),Qsl W R=W.any fun i=> R.contains i
 | []=> rfl
 | i::W=> by
   show (Bool.rec (Qsl W R) true (Qma i R):Bool)=_
   rw [QlU R W,QjU,List.any_cons]
   cases R.contains i <;> rfl
def Qsy (lo hi:Nat) (R:List Nat):Bool:=List.rec false (fun i _ ih=> Bool.rec ih (Bool.rec ih true (Nat.blt i hi)) (Nat.ble lo i)) R
theorem Qp6 (lo hi:Nat):∀(R:List Nat),Qsy lo hi R=R.any fun i=> Nat.ble lo i && Nat.blt i hi
 | []=> rfl
 | i::R=> by
   show (Bool.rec (Qsy lo hi R) (Bool.rec (Qsy lo hi R) true (Nat.blt i hi)) (Nat.ble lo i):Bool)=_
   rw [Qp6 lo hi R,List.any_cons]
   cases Nat.ble lo i <;> cases Nat.blt i hi <;> rfl
def clear (r x:Rec):Bool:=Bool.rec (Bool.rec (Bool.rec true false (Qsy r.n r.n' x.R)) false (Qsl x.W r.R)) false (Qsl r.W x.R)
theorem Qul {ops:Array Oper} {r x:Rec} (h:clear r x=true) (ha:r.o.apart ops x.o=true):tied ops r x=false:=by
 unfold clear at h
 rw [Qp6,QlU,QlU] at h
 unfold tied meets bears
 rw [ha]
 revert h
 cases r.W.any fun i=> x.R.contains i <;> cases x.W.any fun i=> r.R.contains i <;> cases x.R.any fun i=> Nat.ble r.n i && Nat.blt i r.n' <;> simp
def Qhv (r:Rec) (k:Nat) (l:List Rec):List (List Nat)->Bool:=List.rec (fun _=> true) (fun x _ ih bs=> List.rec false (fun b bs' _=> Bool.rec (Bool.rec false (ih bs') (Qma k b)) (ih bs') (clear r x)) bs) l
def dyn (l:List Rec):Nat->List (List Nat)->Bool:=List.rec (fun _ _=> true) (fun r l ih k bs=> List.rec false (fun _ bs' _=> Bool.rec false (ih (k+1) bs') (Qhv r k l bs')) bs) l
theorem Qle {ops:Array Oper} {r:Rec} (k:Nat):∀(l:List Rec) (bs:List (List Nat)),Qhv r k l bs=true->Qip ops r.o k (l.map (·.o)) bs=true->Qef ops r k l bs=true
 | [],_,_,_=> by simp [Qef]
 | x::l,[],_,h=> by simp [Qip] at h
 | x::l,b::bs,hd,h=> by
   simp only [List.map_cons,Qip,Bool.and_eq_true,Bool.or_eq_true] at h
   simp only [Qef,Bool.and_eq_true,Bool.or_eq_true,Bool.not_eq_true']
   have hd:(Bool.rec (Bool.rec false (Qhv r k l bs) (Qma k b)) (Qhv r k l bs) (clear r x):Bool)=true:=hd
   cases hc:clear r x with
   | true=>
     rw [hc] at hd
     exact ⟨h.1.imp id fun ha=> Qul hc ha,Qle k l bs hd h.2⟩
   | false=>
     rw [hc] at hd
     have hd:(Bool.rec false (Qhv r k l bs) (Qma k b):Bool)=true:=hd
     cases he:Qma k b with
     | false=> rw [he] at hd;cases hd
     | true=>
       rw [he] at hd
       rw [QjU] at he
       exact ⟨.inl he,Qle k l bs hd h.2⟩
theorem QmP {ops:Array Oper}:∀(l:List Rec) (bs:List (List Nat)) (k:Nat),dyn l k bs=true->stat ops k (l.map (·.o)) bs=true->indep ops k l bs=true
 | [],_,_,_,_=> by simp [indep]
 | x::l,[],_,_,h=> by simp [stat] at h
 | x::l,b::bs,k,hd,h=> by
   simp only [List.map_cons,stat,Bool.and_eq_true] at h
   simp only [indep,Bool.and_eq_true]
   have hd:(Bool.rec false (dyn l (k+1) bs) (Qhv x k l bs):Bool)=true:=hd
   cases hc:Qhv x k l bs with
   | false=> rw [hc] at hd;cases hd
   | true=>
     rw [hc] at hd
     exact ⟨Qle k l bs hc h.1,QmP l bs (k+1) hd h.2⟩
theorem QkS {P:Program} {F:FuncId->Bool} {orc:Orc} {rec:CF->Qap->Nat->Option Rs} {ops:Array Oper}:∀(l:List Oper) (T:Tm) (H:Qap) (n:Nat) (recs:List Rec) (T':Tm) (H':Qap) (n':Nat),Qhx P F orc rec ops l T H n=some (recs,.ok T' H' n')->recs.map (·.o)=l
 | [],T,H,n,recs,T',H',n',h=> by
   simp only [Qhx,Option.some.injEq,Prod.mk.injEq] at h
   rw [<-h.1];rfl
 | o::l,T,H,n,recs,T',H',n',h=> by
   simp only [Qhx] at h
   have h:=Qfw h
   cases hw:Region.wanted o (Qbi ops T) with
   | true=>
     rw [hw] at h
     simp only [cond_true] at h
     split at h
     ·split at h
      ·split at h
       ·rename_i rs f hr
        simp only [Option.some.injEq,Prod.mk.injEq] at h
        obtain ⟨rfl,rfl⟩:=h
        simp [QkS l _ _ _ _ _ _ _ hr]
       ·cases h
      ·simp only [Option.some.injEq,Prod.mk.injEq] at h
       cases h.2
     ·cases h
   | false=>
     rw [hw] at h
     simp only [cond_false] at h
     split at h
     ·rename_i rs f hr
      simp only [Option.some.injEq,Prod.mk.injEq] at h
      obtain ⟨rfl,rfl⟩:=h
      simp [QkS l _ _ _ _ _ _ _ hr]
     ·cases h
def Qre (ops:Array Oper):Bool:=Qdc 0 ops.toList && stat ops 0 ops.toList (Qmn ops.toList [])
def chk (ops:Array Oper) (recs:List Rec) (draw:Bool):Bool:=Bool.rec true (Bool.rec (Qdc 0 ops.toList && indep ops 0 recs (Qmn ops.toList [])) (Bool.rec (Qdc 0 ops.toList && indep ops 0 recs (Qmn ops.toList [])) true (dyn recs 0 (Qmn ops.toList []))) (Qre ops)) draw
theorem Q2O {ops:Array Oper} {recs:List Rec} {draw:Bool} (h:recs.map (·.o)=ops.toList):chk ops recs draw=(!draw || (Qdc 0 ops.toList && indep ops 0 recs (Qmn ops.toList []))):=by
 unfold chk
 cases draw with
 | false=> rfl
 | true=>
   simp only [Bool.not_true,Bool.false_or]
   cases hs:Qre ops with
   | false=> rfl
   | true=>
     cases hc:dyn recs 0 (Qmn ops.toList []) with
     | false=> rfl
     | true=>
       unfold Qre at hs
       simp only [Bool.and_eq_true] at hs
       rw [hs.1,QmP recs _ 0 hc (by rw [h];exact hs.2)]
       rfl
def Qow (b:Nat) (l:List Nat):List Nat->List Nat:=List.rec (fun acc=> acc) (fun x _ ih acc=> Bool.rec (ih acc) (Bool.rec (ih (x::acc)) (ih acc) (Qma x acc)) (Nat.blt x b)) l
theorem QjR (b:Nat):∀(l acc:List Nat),Qow b l acc=Qd2 b l acc
 | [],_=> rfl
 | x::l,acc=> by
   show (Bool.rec (Qow b l acc) (Bool.rec (Qow b l (x::acc)) (Qow b l acc) (Qma x acc)) (Nat.blt x b):List Nat)=_
   rw [QjR b l,QjR b l,QjU,Qd2]
   cases Nat.blt x b <;> cases acc.contains x <;> rfl
theorem QnU (b:Nat):∀(l m acc:List Nat),Qd2 b (l++m) acc=Qd2 b m (Qd2 b l acc)
 | [],_,_=> rfl
 | x::l,m,acc=> by simp only [List.cons_append,Qd2];exact QnU b l m _
def Q3V (b:Nat) (recs:List Rec):List Nat->List Nat:=List.rec (fun acc=> acc) (fun r _ ih acc=> ih (Qow b r.R acc)) recs
theorem QuT (b:Nat):∀(recs:List Rec) (acc:List Nat),Q3V b recs acc=Qd2 b (Qku recs) acc
 | [],_=> rfl
 | r::l,acc=> by
   show Q3V b l (Qow b r.R acc)=_
   rw [QuT b l,QjR,show Qku (r::l)=r.R++Qku l from List.flatMap_cons,QnU]
def Q3O (b:Nat) (recs:List Rec):List Nat->List Nat:=List.rec (fun acc=> acc) (fun r _ ih acc=> ih (Qow b r.W acc)) recs
theorem Qw7 (b:Nat):∀(recs:List Rec) (acc:List Nat),Q3O b recs acc=Qd2 b (Qh8 recs) acc
 | [],_=> rfl
 | r::l,acc=> by
   show Q3O b l (Qow b r.W acc)=_
   rw [Qw7 b l,QjR,show Qh8 (r::l)=r.W++Qh8 l from List.flatMap_cons,QnU]
def Q2c (P:Program) (F:FuncId->Bool) (orc:Orc) (rec:CF->Qap->Nat->Option Rs) (len:Nat) (tr:Tri) (ops:Array Oper) (H:Qap) (n:Nat):Ans:=
 Bool.rec (Qhx P F orc rec ops ops.toList ⟨len,tr⟩ H n) (QzQ P F orc rec len ops ops.toList tr H n) (QsD len ops.toList)
theorem Qy0 (P:Program) (F:FuncId->Bool) (orc:Orc) (rec:CF->Qap->Nat->Option Rs) (len:Nat) (tr:Tri) (ops:Array Oper) (H:Qap) (n:Nat):Q2c P F orc rec len tr ops H n=Qhx P F orc rec ops ops.toList ⟨len,tr⟩ H n:=by
 unfold Q2c
 cases hd:QsD len ops.toList with
 | false=> rfl
 | true=> exact QrN P F orc rec len ops _ _ _ _ hd
abbrev Run:=Nat->FuncId->Nat->Tri->List Item->List Nat->Option Nat->Qap->Nat->List Nat->List Nat->Option Rs
def Q3X (P:Program) (F:FuncId->Bool) (orc:Orc) (fuel:Nat) (ih:Run) (c1:CF) (H1:Qap) (n1:Nat):Option Rs:=
 CF.rec (fun fn T todo ds mode ro=> CM.rec (Tm.rec (fun len tr=> ih n1 fn len tr todo ds ro H1 n1 [] []) T) (QgX P F orc fuel n1 ⟨fn,T,todo,ds,.ret,ro⟩ H1 n1 [] []) (fun v=> QgX P F orc fuel n1 ⟨fn,T,todo,ds,.pan v,ro⟩ H1 n1 [] []) mode) c1
def goF (P:Program) (F:FuncId->Bool) (orc:Orc) (fuel:Nat) (ih:Run) (b:Nat) (c1:CF) (H1:Qap) (n1:Nat) (R W:List Nat):Option Rs:=
 CF.rec (fun fn T todo ds mode ro=> CM.rec (Tm.rec (fun len tr=> ih b fn len tr todo ds ro H1 n1 R W) T) (QgX P F orc fuel b ⟨fn,T,todo,ds,.ret,ro⟩ H1 n1 R W) (fun v=> QgX P F orc fuel b ⟨fn,T,todo,ds,.pan v,ro⟩ H1 n1 R W) mode) c1
def resume (P:Program) (F:FuncId->Bool) (orc:Orc) (fuel:Nat) (ih:Run) (b:Nat) (R W:List Nat) (x:Option FS):Option Rs:=
 Option.rec none (fun fs=> FS.rec (fun c' H' n' R' W'=> goF P F orc fuel ih b c' H' n' (Qd2 b R' R) (Qd2 b W' W)) (fun out H' n' R' W'=> some ⟨out,H',n',Qd2 b R' R,Qd2 b W' W⟩) fs) x
abbrev ItA:=Program->(FuncId->Bool)->Orc->Nat->Run->Nat->FuncId->Nat->Tri->List Item->List Nat->Option Nat->Qap->Nat->List Nat->List Nat->Option Rs
def QiU (it:Item):ItA:=fun P F orc fuel ih b fn len tr k ds ro H n R W=> resume P F orc fuel ih b R W (QmU P F orc (Q3X P F orc fuel ih) ⟨fn,⟨len,tr⟩,it::k,ds,.run,ro⟩ H n)
def QzK:ItA:=fun _ _ _ _ ih b fn len tr k ds ro H n R W=> ih b fn len tr k ds ro H n R W
def Q4v (x y:Code):ItA:=fun _ _ _ _ ih b fn len tr k ds ro H n R W=> ih b fn len tr (.code x::.code y::k) ds ro H n R W
def Q3N (q:Operand) (x y:Code):ItA:=fun _ _ _ _ ih b fn len tr k ds ro H n R W=> Option.rec none (fun v=> Option.rec none (fun t=> Bool.rec (ih b fn len tr (.code y::k) ds ro H n R W) (ih b fn len tr (.code x::k) ds ro H n R W) t) (Qhf v)) (evF tr q)
def Q2C (id:Nat) (x:Code):ItA:=fun _ _ _ _ ih b fn len tr k ds ro H n R W=> ih b fn len tr (.code x::.inBlock id::k) ds ro H n R W
def Q2Z (x:Code):ItA:=fun _ _ _ _ ih b fn len tr k ds ro H n R W=> ih b fn len tr (.code x::.inLoop x::k) ds ro H n R W
def Q25 (x:Code):ItA:=fun _ _ _ _ ih b fn len tr k ds ro H n R W=> ih b fn len tr (.code x::.inScope x::k) ds ro H n R W
def Qqz (id:Nat) (ops:Array Oper) (draw:Bool):ItA:=fun P F orc fuel ih b fn len tr k ds ro H n R W=>
 Option.rec none (fun p=> Prod.rec (fun recs f=> RF.rec (fun T' H' n'=> Bool.rec none (Tm.rec (fun len' tr'=> ih b fn len' tr' k ds ro H' n' (Q3V b recs R) (Q3O b recs W)) T') (chk ops recs draw))
  (fun T' v H' n' R1 W1=> resume P F orc fuel ih b R W (Q3K ⟨fn,⟨len,tr⟩,.code (.region id ops draw)::k,ds,.run,ro⟩ ops draw k (some (recs,.pan T' v H' n' R1 W1)))) f) p) (Q2c P F orc (Q3X P F orc fuel ih) len tr ops H n)
def codeF (cd:Code):ItA:=Code.rec QzK Qqz (fun x y _ _=> Q4v x y) (fun q x y _ _=> Q3N q x y) (fun id x _=> Q2C id x) (fun x _=> Q2Z x) (fun f ps x y _ _=> QiU (.code (.rangeFunc f ps x y))) (fun id=> QiU (.code (.exit id))) (fun x _=> Q25 x) (fun _=> QzK) (fun l=> QiU (.code (.goto l))) (QiU (.code .ret)) (fun w=> QiU (.code (.refuse w))) cd
def Q2H (it:Item):ItA:=Item.rec codeF (fun _=> QzK) Q2Z (fun _=> QzK) (fun a b=> QiU (.inRegion a b)) (fun l=> QiU (.inRangeFunc l)) (fun l=> QiU (.endRangeFunc l)) (QiU .beginRound) (fun a b c d=> QiU (.call a b c d)) (fun a b=> QiU (.extern a b)) it
def Qkf (P:Program) (F:FuncId->Bool) (orc:Orc) (fuel:Nat):Run:=Nat.rec (fun _ _ _ _ _ _ _ _ _ _ _=> none) (fun fuel ih b fn len tr todo ds ro H n R W=>
 List.rec (resume P F orc fuel ih b R W (Qhb ⟨fn,⟨len,tr⟩,[],ds,.run,ro⟩ H n none)) (fun it k _=> Q2H it P F orc fuel ih b fn len tr k ds ro H n R W) todo) fuel
theorem Qnw (P:Program) (F:FuncId->Bool) (orc:Orc):∀(fuel b:Nat) (fn:FuncId) (len:Nat) (tr:Tri) (todo:List Item) (ds:List Nat) (ro:Option Nat) (H:Qap) (n:Nat) (R W:List Nat),Qkf P F orc fuel b fn len tr todo ds ro H n R W=QgX P F orc fuel b ⟨fn,⟨len,tr⟩,todo,ds,.run,ro⟩ H n R W
 | 0,_,_,_,_,_,_,_,_,_,_,_=> rfl
 | fuel+1,b,fn,len,tr,todo,ds,ro,H,n,R,W=> by
   have hih:∀(b:Nat) (fn:FuncId) (len:Nat) (tr:Tri) (todo:List Item) (ds:List Nat) (ro:Option Nat) (H:Qap) (n:Nat) (R W:List Nat),Qkf P F orc fuel b fn len tr todo ds ro H n R W=QgX P F orc fuel b ⟨fn,⟨len,tr⟩,todo,ds,.run,ro⟩ H n R W:=Qnw P F orc fuel
   have hrec:Q3X P F orc fuel (Qkf P F orc fuel)=fun c1 H1 n1=> QgX P F orc fuel n1 c1 H1 n1 [] []:=by
    funext c1 H1 n1
    obtain ⟨fn,⟨len,tr⟩,todo,ds,mode,ro⟩:=c1
    cases mode with
    | run=> exact hih _ _ _ _ _ _ _ _ _ _ _
    | ret=> rfl
    | pan v=> rfl
   have hres:∀(R W:List Nat) (x:Option FS),resume P F orc fuel (Qkf P F orc fuel) b R W x=match x with
    | some (.go c' H' n' R' W')=> QgX P F orc fuel b c' H' n' (Qd2 b R' R) (Qd2 b W' W)
    | some (.done out H' n' R' W')=> some ⟨out,H',n',Qd2 b R' R,Qd2 b W' W⟩
    | none=> none:=by
    intro R W x
    cases x with
    | none=> rfl
    | some fs=>
      cases fs with
      | done out H' n' R' W'=> rfl
      | go c' H' n' R' W'=>
        obtain ⟨fn,⟨len,tr⟩,todo,ds,mode,ro⟩:=c'
        cases mode with
        | run=> exact hih _ _ _ _ _ _ _ _ _ _ _
        | ret=> rfl
        | pan v=> rfl
   have hslow:∀(it:Item) (k:List Item),QiU it P F orc fuel (Qkf P F orc fuel) b fn len tr k ds ro H n R W=QgX P F orc (fuel+1) b ⟨fn,⟨len,tr⟩,it::k,ds,.run,ro⟩ H n R W:=by
    intro it k
    unfold QiU
    rw [hres,hrec]
    rfl
   cases todo with
   | nil=> exact hres R W _
   | cons it k=>
     show Q2H it P F orc fuel (Qkf P F orc fuel) b fn len tr k ds ro H n R W=_
     cases it with
     | code cd=>
       cases cd with
       | skip=> exact hih _ _ _ _ _ _ _ _ _ _ _
       | label l=> exact hih _ _ _ _ _ _ _ _ _ _ _
       | seq x y=> exact hih _ _ _ _ _ _ _ _ _ _ _
       | block id x=> exact hih _ _ _ _ _ _ _ _ _ _ _
       | loop x=> exact hih _ _ _ _ _ _ _ _ _ _ _
       | scope x=> exact hih _ _ _ _ _ _ _ _ _ _ _
       | cond q x y=>
         show (Option.rec none (fun v=> Option.rec none (fun t=> Bool.rec (Qkf P F orc fuel b fn len tr (.code y::k) ds ro H n R W) (Qkf P F orc fuel b fn len tr (.code x::k) ds ro H n R W) t) (Qhf v)) (evF tr q):Option Rs)=_
         rw [Q0F len tr,hih,hih]
         simp only [QgX,QmU,Qqj,Qo8]
         cases evC ⟨len,tr⟩ q with
         | none=> rfl
         | some v=>
           cases v with
           | bool t=> cases t <;> rfl
           | _=> rfl
       | region id ops draw=>
         show Qqz id ops draw P F orc fuel (Qkf P F orc fuel) b fn len tr k ds ro H n R W=_
         unfold Qqz
         rw [Qy0,hrec]
         simp only [QgX,QmU,Qqj,Qo8,QuT,Qw7]
         cases hrr:Qhx P F orc (fun c1 H1 n1=> QgX P F orc fuel n1 c1 H1 n1 [] []) ops ops.toList ⟨len,tr⟩ H n with
         | none=> rfl
         | some p=>
           obtain ⟨recs,f⟩:=p
           cases f with
           | pan v H' n' R1 W1=> exact hres R W _
           | ok T' H' n'=>
             have hck:=Q2O (draw:=draw) (QkS _ _ _ _ _ _ _ _ hrr)
             obtain ⟨len',tr'⟩:=T'
             simp only [Q3K]
             rw [hck]
             cases !draw || (Qdc 0 ops.toList && indep ops 0 recs (Qmn ops.toList [])) with
             | false=> rfl
             | true=> exact hih _ _ _ _ _ _ _ _ _ _ _
       | rangeFunc f ps x y=> exact hslow _ k
       | exit id=> exact hslow _ k
       | goto id=> exact hslow _ k
       | ret=> exact hslow _ k
       | refuse w=> exact hslow (.code (.refuse w)) k
     | inBlock id=> exact hih _ _ _ _ _ _ _ _ _ _ _
     | inScope x=> exact hih _ _ _ _ _ _ _ _ _ _ _
     | inLoop x=> exact hih _ _ _ _ _ _ _ _ _ _ _
     | inRegion a b=> exact hslow _ k
     | inRangeFunc l=> exact hslow _ k
     | endRangeFunc l=> exact hslow _ k
     | beginRound=> exact hslow _ k
     | call a b c d=> exact hslow _ k
     | extern a b=> exact hslow _ k
end
end Go.CE
