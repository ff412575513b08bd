/- CE: the canonical machine a third time: by recursors alone where much time goes. -/
import Derived.Test.YtiabgkiccaodmaaGreatZRA04
set_option linter.all false
namespace Go.CE
open Go Go.RowKit
noncomputable section

def Qmu (t:Tri):Nat->Value:=Tri.rec (fun _=> undef) (fun _ v _ gl gr k=> Nat.rec v (fun j _=> Bool.rec (gr (Nat.div j 2)) (gl (Nat.div j 2)) (Nat.beq (Nat.mod j 2) 0)) k) t
theorem Qiw:∀(t:Tri) (k:Nat),Qmu t k=t.get k
 | .lf,k=> by cases k <;> rfl
 | .nd l v r,0=> rfl
 | .nd l v r,k+1=> by
   show (Bool.rec (Qmu r (k / 2)) (Qmu l (k / 2)) (Nat.beq (k % 2) 0):Value)=bif Nat.beq (k % 2) 0 then l.get (k / 2) else r.get (k / 2)
   rw [Qiw l,Qiw r]
   cases Nat.beq (k % 2) 0 <;> rfl
def Qle (f:Nat):Tri->Nat->Value->Tri:=Nat.rec (fun t _ _=> t) (fun _ ih t i x=> Tri.rec
 (Nat.rec (.nd .lf x .lf) (fun j _=> Bool.rec (.nd .lf undef (ih .lf (Nat.div j 2) x)) (.nd (ih .lf (Nat.div j 2) x) undef .lf) (Nat.beq (Nat.mod j 2) 0)) i)
 (fun l v r _ _=> Nat.rec (.nd l x r) (fun j _=> Bool.rec (.nd l v (ih r (Nat.div j 2) x)) (.nd (ih l (Nat.div j 2) x) v r) (Nat.beq (Nat.mod j 2) 0)) i) t) f
theorem Qis:∀(f:Nat) (t:Tri) (i:Nat) (x:Value),Qle f t i x=Tri.set f t i x
 | 0,_,_,_=> rfl
 | f+1,.lf,0,x=> rfl
 | f+1,.nd l v r,0,x=> rfl
 | f+1,.lf,k+1,x=> by
   show (Bool.rec (Tri.nd .lf undef (Qle f .lf (k / 2) x)) (Tri.nd (Qle f .lf (k / 2) x) undef .lf) (Nat.beq (k % 2) 0):Tri)=bif Nat.beq (k % 2) 0 then .nd (Tri.set f .lf (k / 2) x) undef .lf else .nd .lf undef (Tri.set f .lf (k / 2) x)
   rw [Qis f]
   cases Nat.beq (k % 2) 0 <;> rfl
 | f+1,.nd l v r,k+1,x=> by
   show (Bool.rec (Tri.nd l v (Qle f r (k / 2) x)) (Tri.nd (Qle f l (k / 2) x) v r) (Nat.beq (k % 2) 0):Tri)=bif Nat.beq (k % 2) 0 then .nd (Tri.set f l (k / 2) x) v r else .nd l v (Tri.set f r (k / 2) x)
   rw [Qis f,Qis f]
   cases Nat.beq (k % 2) 0 <;> rfl
def evF (tr:Tri) (x:Operand):Option Value:=Operand.rec (fun t=> some (Qmu tr t)) (fun v=> Bool.rec none (some v) (af v)) (fun _=> none) (fun f=> some (.func (.func f) #[] #[])) x
theorem Q00 (len:Nat) (tr:Tri):evF tr=evC ⟨len,tr⟩:=by
 funext x
 cases x with
 | tmp t=> show some (Qmu tr t)=some (tr.get t);rw [Qiw]
 | const v=> show (Bool.rec none (some v) (af v):Option Value)=bif af v then some v else none;cases af v <;> rfl
 | global g=> rfl
 | func f=> rfl
def Q23 (tr:Tri) (d:Option Tmp) (v:Value):Tri:=Option.rec tr (fun d=> Qle 14 tr d v) d
theorem QvA (len:Nat) (tr:Tri) (d:Option Tmp) (v:Value):(⟨len,Q23 tr d v⟩:Tm)=QfR ⟨len,tr⟩ d v:=by
 cases d with
 | none=> rfl
 | some d=> show (⟨len,Qle 14 tr d v⟩:Tm)=⟨len,tr.set 14 d v⟩;rw [Qis]
def Q36 {α:Type} (l:List α):Nat->Option α:=List.rec (fun _=> none) (fun x _ ih k=> Nat.rec (some x) (fun j _=> ih j) k) l
theorem Qx6 {α:Type}:∀(l:List α) (k:Nat),Q36 l k=l[k]?
 | [],k=> by cases k <;> rfl
 | x::l,0=> rfl
 | x::l,k+1=> by show Q36 l k=_;rw [Qx6 l k];rfl
def Qsp (P:Program) (t:TypeId) (cs:Array Value) (off:Nat):Option Value:=
 Option.rec none (fun g=> Bool.rec (Q36 cs.toList off) (Option.rec none (fun s=> Bool.rec none (some (.agg (cs.extract off (off+s)))) (Nat.ble (off+s) cs.size)) (QeS P t)) g) (Qyg P t)
theorem Qom (P:Program) (t:TypeId) (cs:Array Value) (off:Nat):Qsp P t cs off=QfJ P t cs off:=by
 unfold Qsp QfJ
 cases Qyg P t with
 | none=> rfl
 | some g=>
   cases g with
   | false=> show Q36 cs.toList off=_;rw [Qx6,Array.getElem?_toList]
   | true=>
     cases QeS P t with
     | none=> rfl
     | some s=> simp only;cases Nat.ble (off+s) cs.size <;> rfl
def Qsv (P:Program) (t:TypeId) (H:Qap) (p:Value):Option (Value×Nat):=match p with
 | .pointer (some ⟨b,off,none⟩)=> match Qau H b with
   | some (.cells cs _ _)=> match Qsp P t cs off with
     | some v=> some (v,b)
     | none=> none
   | _=> none
 | _=> none
theorem Qvu (P:Program) (t:TypeId) (H:Qap) (p:Value):Qsv P t H p=QiP P t H p:=by
 unfold Qsv QiP
 simp only [Qom]
 rfl
def Q0n (p:Value->Bool) (l:List Value):Bool:=List.rec true (fun x _ ih=> Bool.rec false ih (p x)) l
theorem Qkj (p:Value->Bool):∀(l:List Value),Q0n p l=l.all p
 | []=> rfl
 | x::l=> by
   show (Bool.rec false (Q0n p l) (p x):Bool)=_
   rw [Qkj p l,List.all_cons]
   cases p x <;> rfl
def Q1L (cs:Array Value):Bool:=Q0n (·.oneCell') cs.toList
theorem Qyy (cs:Array Value):Q1L cs=ones cs:=by
 unfold Q1L ones
 rw [Qkj,Array.all_toList]
def saF (v:Value):Bool:=match v with
 | .agg xs=> Q0n simple xs.toList
 | v=> simple v
theorem Q05 (v:Value):saF v=sa v:=by
 cases v <;> first | rfl | (show Q0n simple _=_;rw [Qkj,Array.all_toList];rfl)
def afF (v:Value):Bool:=match v with
 | .agg xs=> Q0n simple xs.toList
 | .tuple xs=> Q0n saF xs.toList
 | .iface _ v=> saF v
 | v=> simple v
theorem Q2C (v:Value):afF v=af v:=by
 cases v with
 | iface t v=> exact Q05 v
 | tuple xs=> show Q0n saF _=_;rw [show saF=sa from funext Q05,Qkj,Array.all_toList];rfl
 | _=> first | rfl | (show Q0n simple _=_;rw [Qkj,Array.all_toList];rfl)
def Qn7 (P:Program) (t:TypeId) (H:Qap) (v p:Value):Option (Qap×Nat):=match p with
 | .pointer (some ⟨b,off,none⟩)=> match Qau H b with
   | some (.cells cs te (0,0))=> match QeS P t with
     | some s=> bif Nat.beq v.cells.size s && Q1L v.cells && Nat.ble (off+s) cs.size then some (QfO H b (.cells (splice cs off v.cells) te (0,0)),b) else none
     | none=> none
   | _=> none
 | _=> none
theorem Qti (P:Program) (t:TypeId) (H:Qap) (v p:Value):Qn7 P t H v p=QgY P t H v p:=by
 unfold Qn7 QgY
 simp only [Qyy]
 rfl
def QnI (P:Program) (t:TypeId) (f:Nat) (x:Value):Option Value:=match x with
 | .agg cs=> match und P t with
   | some (.struct fields)=> match fields[f]? with
     | some fd=> Qsp P fd.type cs fd.offset
     | none=> none
   | _=> none
 | _=> none
theorem Qt8 (P:Program) (t:TypeId) (f:Nat) (x:Value):QnI P t f x=Qm9 P t f x:=by
 unfold QnI Qm9
 simp only [Qom]
 rfl
def Qv5 (ops:Array Oper) (tr:Tri) (j:Nat):Option Bool:=match nth ops.toList j with
 | some o=> match o.dst with
   | some t=> Qhe (Qmu tr t)
   | none=> none
 | none=> none
theorem Qwa (len:Nat) (ops:Array Oper) (tr:Tri) (j:Nat):Qv5 ops tr j=Qbi ops ⟨len,tr⟩ j:=by
 unfold Qv5 Qbi
 simp only [Qiw,Qce]
 rfl
def QzZ (ops:Array Oper) (tr:Tri) (g:Option (Nat×Bool)):Bool:=Option.rec true (fun jw=> Prod.rec (fun j w=> Option.rec false (fun b=> Bool.rec (Bool.rec true false w) (Bool.rec false true w) b) (Qv5 ops tr j)) jw) g
theorem QyO (len:Nat) (ops:Array Oper) (tr:Tri) (o:Oper):QzZ ops tr o.guard=Region.wanted o (Qbi ops ⟨len,tr⟩):=by
 unfold QzZ Region.wanted
 cases o.guard with
 | none=> rfl
 | some jw=>
   obtain ⟨j,w⟩:=jw
   simp only [Qwa len]
   cases Qbi ops ⟨len,tr⟩ j with
   | none=> rfl
   | some b=> cases b <;> cases w <;> rfl
abbrev Ans:=Option (List Rec×RF)
abbrev KV:=Value->Qap->Nat->List Nat->List Nat->Ans
abbrev Arm:=Program->(FuncId->Bool)->Orc->(CF->Qap->Nat->Option Rs)->Nat->Tri->Oper->Qap->Nat->KV->KV->Ans
def fin (k kp:KV) (s:Option Rs):Ans:=match s with
 | some ⟨out,H,n,R,W⟩=> match out with
   | .ret v=> k v H n R W
   | .pan v=> kp v H n R W
 | none=> none
def pv (k:KV) (H:Qap) (n:Nat) (x:Option Value):Ans:=Option.rec none (fun v=> k v H n [] []) x
theorem Qjy (k kp:KV) (H:Qap) (n:Nat) (x:Option Value):fin k kp (qV x H n)=pv k H n x:=by cases x <;> rfl
def Q3j (x:Operand):Arm:=fun _ _ _ _ _ tr _ H n k _=> pv k H n (evF tr x)
def Q3W (c a b:Operand):Arm:=fun _ _ _ _ _ tr _ H n k _=> Option.rec none (fun v=> Option.rec none (fun t=> Bool.rec (pv k H n (evF tr b)) (pv k H n (evF tr a)) t) (Qhe v)) (evF tr c)
def Q3H (t:TypeId) (a:Operand):Arm:=fun P _ _ _ _ tr _ H n k _=> Option.rec none (fun p=> Option.rec none (fun vb=> Prod.rec (fun v b=> Bool.rec none (k v H n [b] []) (Nat.blt b n)) vb) (Qsv P t H p)) (evF tr a)
def Q20 (t:TypeId) (a x:Operand):Arm:=fun P _ _ _ _ tr _ H n k _=> Option.rec none (fun p=> Option.rec none (fun v=> Option.rec none (fun hb=> Prod.rec (fun H' b=> Bool.rec none (k undef H' n [b] [b]) (Nat.blt b n)) hb) (Qn7 P t H v p)) (evF tr x)) (evF tr a)
def QtT (s:TypeId) (x:Operand) (f:Nat):Arm:=fun P _ _ _ _ tr _ H n k _=> Option.rec none (fun p=> pv k H n (QbI P s f p)) (evF tr x)
def Q2I (s:TypeId) (x:Operand) (f:Nat):Arm:=fun P _ _ _ _ tr _ H n k _=> Option.rec none (fun p=> pv k H n (QnI P s f p)) (evF tr x)
def Qt3 (t:TypeId) (x i:Operand):Arm:=fun P _ _ _ _ tr _ H n k _=> Option.rec none (fun p=> Option.rec none (fun j=> pv k H n (Qet P t p j)) (evF tr i)) (evF tr x)
def QzE (x:Operand) (i:Nat):Arm:=fun _ _ _ _ _ tr _ H n k _=> Option.rec none (fun p=> pv k H n (QgJ i p)) (evF tr x)
def Q4u (op:BinOp) (_:TypeId) (x y:Operand) (_:TypeId):Arm:=fun P _ _ _ _ tr o H n k _=> Option.rec none (fun a=> Option.rec none (fun b=> Option.rec (pv k H n (Qem P (evF tr) o)) (fun v=> k v H n [] []) (Q1d op a b)) (evF tr y)) (evF tr x)
def Q2d (v:Value) (r:CR) (k:KV) (H':Qap) (n':Nat) (R W:List Nat):Ans:=List.rec (Bool.rec (k v H' n' (r.R++R) (r.W++[])) (k v r.H n' (r.R++R) (r.W++[])) (afF v)) (fun _ _ _=> k v H' n' (r.R++R) (r.W++W)) W
def Q0s (r:CR) (k kp:KV) (s:Option Rs):Ans:=Option.rec none (fun s=> Rs.rec (fun out H' n' R W=> OO.rec (fun v=> Q2d v r k H' n' R W) (fun v=> kp v H' n' (r.R++R) (r.W++W)) out) s) s
theorem Qzv (r:CR) (k kp:KV) (s:Option Rs):Q0s r k kp s=fin k kp (match s with | some s=> Q1J r s | none=> none):=by
 cases s with
 | none=> rfl
 | some s=>
   obtain ⟨out,H',n',R,W⟩:=s
   cases out with
   | pan v=>
     cases W with
     | nil=> rfl
     | cons a b=> rfl
   | ret v=>
     show Q2d v r k H' n' R W=_
     unfold Q2d
     cases W with
     | nil=>
       rw [Q2C]
       simp only [Q1J,QeV]
       cases af v <;> rfl
     | cons a b=> rfl
def Qs9 (P:Program) (orc:Orc) (rec:CF->Qap->Nat->Option Rs) (g:FuncId) (args:Array Value) (r:CR) (k kp:KV):Ans:=Option.rec (Option.rec none (fun c=> Q0s r k kp (rec c r.H r.n)) (Qci P g args)) (fun _=> fin k kp (Qsm P orc rec g args r)) (orc g args r.H r.n)
theorem QuV (P:Program) (orc:Orc) (rec:CF->Qap->Nat->Option Rs) (g:FuncId) (args:Array Value) (r:CR) (k kp:KV):Qs9 P orc rec g args r k kp=fin k kp (Qsm P orc rec g args r):=by
 unfold Qs9
 cases ho:orc g args r.H r.n with
 | some x=> rfl
 | none=>
   unfold Qsm
   rw [ho]
   show (Option.rec none (fun c=> Q0s r k kp (rec c r.H r.n)) (Qci P g args):Ans)=fin k kp (Q3J P rec g args r)
   unfold Q3J
   cases Qci P g args with
   | none=> rfl
   | some c=>
     show Q0s r k kp (rec c r.H r.n)=_
     rw [Qzv]
     rfl
def Q1s (P:Program) (orc:Orc) (rec:CF->Qap->Nat->Option Rs) (n:Nat) (x:Option CR) (k kp:KV):Ans:=Option.rec none (fun r=> CN.rec (fun _=> fin k kp (qR P orc rec n (some r))) (fun g args=> Bool.rec none (Qs9 P orc rec g args r k kp) (r.R.all (fun i=> Nat.blt i n))) (fun _ _ _ _ _=> fin k kp (qR P orc rec n (some r))) r.nx) x
theorem Qzn (P:Program) (orc:Orc) (rec:CF->Qap->Nat->Option Rs) (n:Nat) (x:Option CR) (k kp:KV):Q1s P orc rec n x k kp=fin k kp (qR P orc rec n x):=by
 cases x with
 | none=> rfl
 | some r=>
   obtain ⟨nx,H',n',R,W⟩:=r
   cases nx with
   | val v=> rfl
   | round l fn tm a b=> rfl
   | enter g args=>
     show (Bool.rec none (Qs9 P orc rec g args ⟨.enter g args,H',n',R,W⟩ k kp) (R.all (fun i=> Nat.blt i n)):Ans)=_
     rw [QuV]
     simp only [qR]
     cases R.all (fun i=> Nat.blt i n) <;> rfl
def Q4d (c:Call):Arm:=fun P F orc rec _ tr o H n k kp=> Q1s P orc rec n (QkC P F (evF tr) o c H n) k kp
def Qhf:Arm:=fun P F orc rec len tr o H n k kp=> fin k kp (opQ P F orc rec ⟨len,tr⟩ o H n)
def opF (op:Op):Arm:=Op.rec Q3j Q3j Q3W (fun _=> Qhf) (fun _ _=> Qhf) (fun _ _=> Qhf) (fun _ _ _=> Qhf) (fun _ _ _ _=> Qhf) Q3H Q20 (fun _=> Qhf) (fun _=> Qhf) (fun _=> Qhf) Q4u (fun _ _ _=> Qhf) (fun _ _ _=> Qhf) (fun _ _=> Qhf) (fun _ _=> Qhf)
 (fun _ _ _=> Qhf) (fun _ _=> Qhf) (fun _ _=> Qhf) (fun _ _ _=> Qhf) (fun _ _ _ _ _=> Qhf) QtT Q2I Qt3 (fun _ _ _=> Qhf) (fun _ _ _ _=> Qhf) (fun _ _ _ _=> Qhf) (fun _ _ _=> Qhf) (fun _ _ _ _=> Qhf) (fun _ _=> Qhf) (fun _ _=> Qhf) (fun _=> Qhf) (fun _ _ _ _=> Qhf)
 QzE Q4d (fun _=> Qhf) (fun _=> Qhf) (fun _=> Qhf) (fun _ _=> Qhf) (fun _ _ _=> Qhf) (fun _ _=> Qhf) op
theorem Q3c (P:Program) (F:FuncId->Bool) (orc:Orc) (rec:CF->Qap->Nat->Option Rs) (len:Nat) (tr:Tri) (o:Oper) (H:Qap) (n:Nat) (k kp:KV):opF o.op P F orc rec len tr o H n k kp=fin k kp (opQ P F orc rec ⟨len,tr⟩ o H n):=by
 have e:=Q00 len tr
 cases hp:o.op with
 | move x=> show pv k H n (evF tr x)=_;rw [e];unfold opQ;simp only [hp];exact (Qjy k kp H n _).symm
 | assign x=> show pv k H n (evF tr x)=_;rw [e];unfold opQ;simp only [hp];exact (Qjy k kp H n _).symm
 | pick c a b=>
   show (Option.rec none (fun v=> Option.rec none (fun t=> Bool.rec (pv k H n (evF tr b)) (pv k H n (evF tr a)) t) (Qhe v)) (evF tr c):Ans)=_
   rw [e];unfold opQ;simp only [hp]
   cases evC ⟨len,tr⟩ c with
   | none=> rfl
   | some v=>
     cases v with
     | bool t=> cases t <;> exact (Qjy k kp H n _).symm
     | _=> rfl
 | load t a=>
   show (Option.rec none (fun p=> Option.rec none (fun vb=> Prod.rec (fun v b=> Bool.rec none (k v H n [b] []) (Nat.blt b n)) vb) (Qsv P t H p)) (evF tr a):Ans)=_
   simp only [Qvu];rw [e];unfold opQ;simp only [hp]
   cases evC ⟨len,tr⟩ a with
   | none=> rfl
   | some p=>
     simp only [Q1Z]
     cases QiP P t H p with
     | none=> rfl
     | some vb=>
       obtain ⟨v,b⟩:=vb
       cases hb:Nat.blt b n <;> simp [qR,fin,Qzb,hb]
 | store t a x=>
   show (Option.rec none (fun p=> Option.rec none (fun v=> Option.rec none (fun hb=> Prod.rec (fun H' b=> Bool.rec none (k undef H' n [b] [b]) (Nat.blt b n)) hb) (Qn7 P t H v p)) (evF tr x)) (evF tr a):Ans)=_
   simp only [Qti];rw [e];unfold opQ;simp only [hp]
   cases evC ⟨len,tr⟩ a with
   | none=> rfl
   | some p=>
     cases evC ⟨len,tr⟩ x with
     | none=> rfl
     | some v=>
       simp only [Qxz]
       cases QgY P t H v p with
       | none=> rfl
       | some vb=>
         obtain ⟨H',b⟩:=vb
         cases hb:Nat.blt b n <;> simp [qR,fin,Qzb,hb]
 | fieldAddr s x f=>
   show (Option.rec none (fun p=> pv k H n (QbI P s f p)) (evF tr x):Ans)=_
   rw [e];unfold opQ;simp only [hp]
   cases evC ⟨len,tr⟩ x with
   | none=> rfl
   | some p=> simp only [QiJ,Qgq];exact (Qjy k kp H n _).symm
 | field s x f=>
   show (Option.rec none (fun p=> pv k H n (QnI P s f p)) (evF tr x):Ans)=_
   simp only [Qt8];rw [e];unfold opQ;simp only [hp]
   cases evC ⟨len,tr⟩ x with
   | none=> rfl
   | some p=> simp only [QxY,Qgq];exact (Qjy k kp H n _).symm
 | indexAddr t x i=>
   show (Option.rec none (fun p=> Option.rec none (fun j=> pv k H n (Qet P t p j)) (evF tr i)) (evF tr x):Ans)=_
   rw [e];unfold opQ;simp only [hp]
   cases evC ⟨len,tr⟩ x with
   | none=> rfl
   | some p=>
     cases evC ⟨len,tr⟩ i with
     | none=> rfl
     | some j=> simp only [QiZ,Qgq];exact (Qjy k kp H n _).symm
 | extract x i=>
   show (Option.rec none (fun p=> pv k H n (QgJ i p)) (evF tr x):Ans)=_
   rw [e];unfold opQ;simp only [hp]
   cases evC ⟨len,tr⟩ x with
   | none=> rfl
   | some p=> simp only [QnQ,Qgq];exact (Qjy k kp H n _).symm
 | binOp op t x y t'=>
   show (Option.rec none (fun a=> Option.rec none (fun b=> Option.rec (pv k H n (Qem P (evF tr) o)) (fun v=> k v H n [] []) (Q1d op a b)) (evF tr y)) (evF tr x):Ans)=_
   rw [e];unfold opQ;simp only [hp]
   cases evC ⟨len,tr⟩ x with
   | none=> rfl
   | some a=>
     cases evC ⟨len,tr⟩ y with
     | none=> rfl
     | some b=>
       simp only [Q4b]
       cases Q1d op a b with
       | none=> simp only [Qgq];exact (Qjy k kp H n _).symm
       | some v=> rfl
 | call c=> show Q1s P orc rec n (QkC P F (evF tr) o c H n) k kp=_;rw [Qzn,e];unfold opQ;simp only [hp]
 | _=> rfl
def QyJ (r:Rec) (x:Ans):Ans:=Option.rec none (fun p=> Prod.rec (fun rs f=> some (r::rs,f)) p) x
def Q0j (P:Program) (F:FuncId->Bool) (orc:Orc) (rec:CF->Qap->Nat->Option Rs) (len:Nat) (ops:Array Oper) (l:List Oper):Tri->Qap->Nat->Ans:=
 List.rec (fun tr H n=> some ([],.ok ⟨len,tr⟩ H n)) (fun o _ ih tr H n=> Bool.rec
  (QyJ ⟨o,false,undef,⟨len,tr⟩,H,H,n,n,[],[]⟩ (ih (Q23 tr o.dst undef) H n))
  (opF o.op P F orc rec len tr o H n (fun v H' n' R W=> QyJ ⟨o,true,v,⟨len,tr⟩,H,H',n,n',R,W⟩ (ih (Q23 tr o.dst v) H' n')) (fun v H' n' R W=> some ([],.pan ⟨len,tr⟩ v H' n' R W)))
  (QzZ ops tr o.guard)) l
def Qst (len:Nat) (l:List Oper):Bool:=l.all fun o=> QhG ⟨len,.lf⟩ o.dst
theorem QrP (P:Program) (F:FuncId->Bool) (orc:Orc) (rec:CF->Qap->Nat->Option Rs) (len:Nat) (ops:Array Oper):∀(l:List Oper) (tr:Tri) (H:Qap) (n:Nat),Qst len l=true->Q0j P F orc rec len ops l tr H n=Qhv P F orc rec ops l ⟨len,tr⟩ H n
 | [],_,_,_,_=> rfl
 | o::l,tr,H,n,hd=> by
   simp only [Qst,List.all_cons,Bool.and_eq_true] at hd
   have hd1:QhG ⟨len,tr⟩ o.dst=true:=by
    have:=hd.1
    cases hq:o.dst with
    | none=> rfl
    | some x=> rw [hq] at this;exact this
   have ih:=QrP P F orc rec len ops l
   show (Bool.rec (QyJ ⟨o,false,undef,⟨len,tr⟩,H,H,n,n,[],[]⟩ (Q0j P F orc rec len ops l (Q23 tr o.dst undef) H n))
    (opF o.op P F orc rec len tr o H n (fun v H' n' R W=> QyJ ⟨o,true,v,⟨len,tr⟩,H,H',n,n',R,W⟩ (Q0j P F orc rec len ops l (Q23 tr o.dst v) H' n')) (fun v H' n' R W=> some ([],.pan ⟨len,tr⟩ v H' n' R W)))
    (QzZ ops tr o.guard):Ans)=_
   rw [QyO len]
   simp only [Qhv,hd1,cond_true]
   cases Region.wanted o (Qbi ops ⟨len,tr⟩) with
   | false=>
     simp only [cond_false]
     rw [ih _ _ _ hd.2,QvA]
     cases Qhv P F orc rec ops l (QfR ⟨len,tr⟩ o.dst undef) H n <;> rfl
   | true=>
     simp only [cond_true,Q3c]
     cases opQ P F orc rec ⟨len,tr⟩ o H n with
     | none=> rfl
     | some s=>
       obtain ⟨out,H',n',R,W⟩:=s
       cases out with
       | pan v=> rfl
       | ret v=>
         simp only [fin]
         rw [ih _ _ _ hd.2,QvA]
         cases Qhv P F orc rec ops l (QfR ⟨len,tr⟩ o.dst v) H' n' <;> rfl
def QhO (ops:Array Oper) (o:Oper) (k:Nat):List Oper->List (List Nat)->Bool
 | x::l,b::bs=> (b.contains k || o.apart ops x) && QhO ops o k l bs
 | [],_=> true
 | _::_,[]=> false
def stat (ops:Array Oper):Nat->List Oper->List (List Nat)->Bool
 | k,o::l,_::bs=> QhO ops o k l bs && stat ops (k+1) l bs
 | _,[],_=> true
 | _,_::_,[]=> false
def Qmm (i:Nat) (l:List Nat):Bool:=List.rec false (fun j _ ih=> Bool.rec ih true (Nat.beq i j)) l
theorem QjG (i:Nat):∀(l:List Nat),Qmm i l=l.contains i
 | []=> rfl
 | j::l=> by
   show (Bool.rec (Qmm i l) true (Nat.beq i j):Bool)=_
   rw [QjG i l,List.contains_cons]
   by_cases e:i=j
   ·subst e
    rw [Nat.beq_refl]
    simp
   ·rw [Qiu e]
    simp [e]
def QsB (W R:List Nat):Bool:=List.rec false (fun i _ ih=> Bool.rec ih true (Qmm i R)) W
theorem Qkw (R:List Nat):∀(W:List Nat),QsB W R=W.any fun i=> R.contains i
 | []=> rfl
 | i::W=> by
   show (Bool.rec (QsB W R) true (Qmm i R):Bool)=_
   rw [Qkw R W,QjG,List.any_cons]
   cases R.contains i <;> rfl
def QrU (lo hi:Nat) (R:List Nat):Bool:=List.rec false (fun i _ ih=> Bool.rec ih (Bool.rec ih true (Nat.blt i hi)) (Nat.ble lo i)) R
theorem Qpl (lo hi:Nat):∀(R:List Nat),QrU lo hi R=R.any fun i=> Nat.ble lo i && Nat.blt i hi
 | []=> rfl
 | i::R=> by
   show (Bool.rec (QrU lo hi R) (Bool.rec (QrU lo hi R) true (Nat.blt i hi)) (Nat.ble lo i):Bool)=_
   rw [Qpl lo hi R,List.any_cons]
   cases Nat.ble lo i <;> cases Nat.blt i hi <;> rfl
def clear (r x:Rec):Bool:=Bool.rec (Bool.rec (Bool.rec true false (QrU r.n r.n' x.R)) false (QsB x.W r.R)) false (QsB r.W x.R)
theorem Qtl {ops:Array Oper} {r x:Rec} (h:clear r x=true) (ha:r.o.apart ops x.o=true):tied ops r x=false:=by
 unfold clear at h
 rw [Qpl,Qkw,Qkw] at h
 unfold tied meets bears
 rw [ha]
 revert h
 cases r.W.any fun i=> x.R.contains i <;> cases x.W.any fun i=> r.R.contains i <;> cases x.R.any fun i=> Nat.ble r.n i && Nat.blt i r.n' <;> simp
def Qho (r:Rec) (k:Nat) (l:List Rec):List (List Nat)->Bool:=List.rec (fun _=> true) (fun x _ ih bs=> List.rec false (fun b bs' _=> Bool.rec (Bool.rec false (ih bs') (Qmm k b)) (ih bs') (clear r x)) bs) l
def dyn (l:List Rec):Nat->List (List Nat)->Bool:=List.rec (fun _ _=> true) (fun r l ih k bs=> List.rec false (fun _ bs' _=> Bool.rec false (ih (k+1) bs') (Qho r k l bs')) bs) l
theorem QlL {ops:Array Oper} {r:Rec} (k:Nat):∀(l:List Rec) (bs:List (List Nat)),Qho r k l bs=true->QhO ops r.o k (l.map (·.o)) bs=true->QdR ops r k l bs=true
 | [],_,_,_=> by simp [QdR]
 | x::l,[],_,h=> by simp [QhO] at h
 | x::l,b::bs,hd,h=> by
   simp only [List.map_cons,QhO,Bool.and_eq_true,Bool.or_eq_true] at h
   simp only [QdR,Bool.and_eq_true,Bool.or_eq_true,Bool.not_eq_true']
   have hd:(Bool.rec (Bool.rec false (Qho r k l bs) (Qmm k b)) (Qho r k l bs) (clear r x):Bool)=true:=hd
   cases hc:clear r x with
   | true=>
     rw [hc] at hd
     exact ⟨h.1.imp id fun ha=> Qtl hc ha,QlL k l bs hd h.2⟩
   | false=>
     rw [hc] at hd
     have hd:(Bool.rec false (Qho r k l bs) (Qmm k b):Bool)=true:=hd
     cases he:Qmm k b with
     | false=> rw [he] at hd;cases hd
     | true=>
       rw [he] at hd
       rw [QjG] at he
       exact ⟨.inl he,QlL k l bs hd h.2⟩
theorem QmC {ops:Array Oper}:∀(l:List Rec) (bs:List (List Nat)) (k:Nat),dyn l k bs=true->stat ops k (l.map (·.o)) bs=true->indep ops k l bs=true
 | [],_,_,_,_=> by simp [indep]
 | x::l,[],_,_,h=> by simp [stat] at h
 | x::l,b::bs,k,hd,h=> by
   simp only [List.map_cons,stat,Bool.and_eq_true] at h
   simp only [indep,Bool.and_eq_true]
   have hd:(Bool.rec false (dyn l (k+1) bs) (Qho x k l bs):Bool)=true:=hd
   cases hc:Qho x k l bs with
   | false=> rw [hc] at hd;cases hd
   | true=>
     rw [hc] at hd
     exact ⟨QlL k l bs hc h.1,QmC l bs (k+1) hd h.2⟩
theorem Qk4 {P:Program} {F:FuncId->Bool} {orc:Orc} {rec:CF->Qap->Nat->Option Rs} {ops:Array Oper}:∀(l:List Oper) (T:Tm) (H:Qap) (n:Nat) (recs:List Rec) (T':Tm) (H':Qap) (n':Nat),Qhv P F orc rec ops l T H n=some (recs,.ok T' H' n')->recs.map (·.o)=l
 | [],T,H,n,recs,T',H',n',h=> by
   simp only [Qhv,Option.some.injEq,Prod.mk.injEq] at h
   rw [<-h.1];rfl
 | o::l,T,H,n,recs,T',H',n',h=> by
   simp only [Qhv] at h
   have h:=Qfq h
   cases hw:Region.wanted o (Qbi ops T) with
   | true=>
     rw [hw] at h
     simp only [cond_true] at h
     split at h
     ·split at h
      ·split at h
       ·rename_i rs f hr
        simp only [Option.some.injEq,Prod.mk.injEq] at h
        obtain ⟨rfl,rfl⟩:=h
        simp [Qk4 l _ _ _ _ _ _ _ hr]
       ·cases h
      ·simp only [Option.some.injEq,Prod.mk.injEq] at h
       cases h.2
     ·cases h
   | false=>
     rw [hw] at h
     simp only [cond_false] at h
     split at h
     ·rename_i rs f hr
      simp only [Option.some.injEq,Prod.mk.injEq] at h
      obtain ⟨rfl,rfl⟩:=h
      simp [Qk4 l _ _ _ _ _ _ _ hr]
     ·cases h
def QqM (ops:Array Oper):Bool:=Qde 0 ops.toList && stat ops 0 ops.toList (Qmh ops.toList [])
def chk (ops:Array Oper) (recs:List Rec) (draw:Bool):Bool:=Bool.rec true (Bool.rec (Qde 0 ops.toList && indep ops 0 recs (Qmh ops.toList [])) (Bool.rec (Qde 0 ops.toList && indep ops 0 recs (Qmh ops.toList [])) true (dyn recs 0 (Qmh ops.toList []))) (QqM ops)) draw
theorem Q3p {ops:Array Oper} {recs:List Rec} {draw:Bool} (h:recs.map (·.o)=ops.toList):chk ops recs draw=(!draw || (Qde 0 ops.toList && indep ops 0 recs (Qmh ops.toList []))):=by
 unfold chk
 cases draw with
 | false=> rfl
 | true=>
   simp only [Bool.not_true,Bool.false_or]
   cases hs:QqM ops with
   | false=> rfl
   | true=>
     cases hc:dyn recs 0 (Qmh ops.toList []) with
     | false=> rfl
     | true=>
       unfold QqM at hs
       simp only [Bool.and_eq_true] at hs
       rw [hs.1,QmC recs _ 0 hc (by rw [h];exact hs.2)]
       rfl
def QpL (b:Nat) (l:List Nat):List Nat->List Nat:=List.rec (fun acc=> acc) (fun x _ ih acc=> Bool.rec (ih acc) (Bool.rec (ih (x::acc)) (ih acc) (Qmm x acc)) (Nat.blt x b)) l
theorem QjU (b:Nat):∀(l acc:List Nat),QpL b l acc=Qd2 b l acc
 | [],_=> rfl
 | x::l,acc=> by
   show (Bool.rec (QpL b l acc) (Bool.rec (QpL b l (x::acc)) (QpL b l acc) (Qmm x acc)) (Nat.blt x b):List Nat)=_
   rw [QjU b l,QjU b l,QjG,Qd2]
   cases Nat.blt x b <;> cases acc.contains x <;> rfl
theorem QnD (b:Nat):∀(l m acc:List Nat),Qd2 b (l++m) acc=Qd2 b m (Qd2 b l acc)
 | [],_,_=> rfl
 | x::l,m,acc=> by simp only [List.cons_append,Qd2];exact QnD b l m _
def Q3T (b:Nat) (recs:List Rec):List Nat->List Nat:=List.rec (fun acc=> acc) (fun r _ ih acc=> ih (QpL b r.R acc)) recs
theorem Qyd (b:Nat):∀(recs:List Rec) (acc:List Nat),Q3T b recs acc=Qd2 b (Qk7 recs) acc
 | [],_=> rfl
 | r::l,acc=> by
   show Q3T b l (QpL b r.R acc)=_
   rw [Qyd b l,QjU,show Qk7 (r::l)=r.R++Qk7 l from List.flatMap_cons,QnD]
def Q3L (b:Nat) (recs:List Rec):List Nat->List Nat:=List.rec (fun acc=> acc) (fun r _ ih acc=> ih (QpL b r.W acc)) recs
theorem Qv9 (b:Nat):∀(recs:List Rec) (acc:List Nat),Q3L b recs acc=Qd2 b (QhC recs) acc
 | [],_=> rfl
 | r::l,acc=> by
   show Q3L b l (QpL b r.W acc)=_
   rw [Qv9 b l,QjU,show QhC (r::l)=r.W++QhC l from List.flatMap_cons,QnD]
def Q1j (P:Program) (F:FuncId->Bool) (orc:Orc) (rec:CF->Qap->Nat->Option Rs) (len:Nat) (tr:Tri) (ops:Array Oper) (H:Qap) (n:Nat):Ans:=
 Bool.rec (Qhv P F orc rec ops ops.toList ⟨len,tr⟩ H n) (Q0j P F orc rec len ops ops.toList tr H n) (Qst len ops.toList)
theorem Qzt (P:Program) (F:FuncId->Bool) (orc:Orc) (rec:CF->Qap->Nat->Option Rs) (len:Nat) (tr:Tri) (ops:Array Oper) (H:Qap) (n:Nat):Q1j P F orc rec len tr ops H n=Qhv P F orc rec ops ops.toList ⟨len,tr⟩ H n:=by
 unfold Q1j
 cases hd:Qst len ops.toList with
 | false=> rfl
 | true=> exact QrP P F orc rec len ops _ _ _ _ hd
abbrev Run:=Nat->FuncId->Nat->Tri->List Item->List Nat->Option Nat->Qap->Nat->List Nat->List Nat->Option Rs
def Q3I (P:Program) (F:FuncId->Bool) (orc:Orc) (fuel:Nat) (ih:Run) (c1:CF) (H1:Qap) (n1:Nat):Option Rs:=
 CF.rec (fun fn T todo ds mode ro=> CM.rec (Tm.rec (fun len tr=> ih n1 fn len tr todo ds ro H1 n1 [] []) T) (QgX P F orc fuel n1 ⟨fn,T,todo,ds,.ret,ro⟩ H1 n1 [] []) (fun v=> QgX P F orc fuel n1 ⟨fn,T,todo,ds,.pan v,ro⟩ H1 n1 [] []) mode) c1
def goF (P:Program) (F:FuncId->Bool) (orc:Orc) (fuel:Nat) (ih:Run) (b:Nat) (c1:CF) (H1:Qap) (n1:Nat) (R W:List Nat):Option Rs:=
 CF.rec (fun fn T todo ds mode ro=> CM.rec (Tm.rec (fun len tr=> ih b fn len tr todo ds ro H1 n1 R W) T) (QgX P F orc fuel b ⟨fn,T,todo,ds,.ret,ro⟩ H1 n1 R W) (fun v=> QgX P F orc fuel b ⟨fn,T,todo,ds,.pan v,ro⟩ H1 n1 R W) mode) c1
def resume (P:Program) (F:FuncId->Bool) (orc:Orc) (fuel:Nat) (ih:Run) (b:Nat) (R W:List Nat) (x:Option FS):Option Rs:=
 Option.rec none (fun fs=> FS.rec (fun c' H' n' R' W'=> goF P F orc fuel ih b c' H' n' (Qd2 b R' R) (Qd2 b W' W)) (fun out H' n' R' W'=> some ⟨out,H',n',Qd2 b R' R,Qd2 b W' W⟩) fs) x
abbrev ItA:=Program->(FuncId->Bool)->Orc->Nat->Run->Nat->FuncId->Nat->Tri->List Item->List Nat->Option Nat->Qap->Nat->List Nat->List Nat->Option Rs
def QiK (it:Item):ItA:=fun P F orc fuel ih b fn len tr k ds ro H n R W=> resume P F orc fuel ih b R W (QmA P F orc (Q3I P F orc fuel ih) ⟨fn,⟨len,tr⟩,it::k,ds,.run,ro⟩ H n)
def Q0e:ItA:=fun _ _ _ _ ih b fn len tr k ds ro H n R W=> ih b fn len tr k ds ro H n R W
def Q4v (x y:Code):ItA:=fun _ _ _ _ ih b fn len tr k ds ro H n R W=> ih b fn len tr (.code x::.code y::k) ds ro H n R W
def Q3G (q:Operand) (x y:Code):ItA:=fun _ _ _ _ ih b fn len tr k ds ro H n R W=> Option.rec none (fun v=> Option.rec none (fun t=> Bool.rec (ih b fn len tr (.code y::k) ds ro H n R W) (ih b fn len tr (.code x::k) ds ro H n R W) t) (Qhe v)) (evF tr q)
def Q3r (id:Nat) (x:Code):ItA:=fun _ _ _ _ ih b fn len tr k ds ro H n R W=> ih b fn len tr (.code x::.inBlock id::k) ds ro H n R W
def Q2v (x:Code):ItA:=fun _ _ _ _ ih b fn len tr k ds ro H n R W=> ih b fn len tr (.code x::.inLoop x::k) ds ro H n R W
def Q2r (x:Code):ItA:=fun _ _ _ _ ih b fn len tr k ds ro H n R W=> ih b fn len tr (.code x::.inScope x::k) ds ro H n R W
def Qr0 (id:Nat) (ops:Array Oper) (draw:Bool):ItA:=fun P F orc fuel ih b fn len tr k ds ro H n R W=>
 Option.rec none (fun p=> Prod.rec (fun recs f=> RF.rec (fun T' H' n'=> Bool.rec none (Tm.rec (fun len' tr'=> ih b fn len' tr' k ds ro H' n' (Q3T b recs R) (Q3L b recs W)) T') (chk ops recs draw))
  (fun T' v H' n' R1 W1=> resume P F orc fuel ih b R W (Q3R ⟨fn,⟨len,tr⟩,.code (.region id ops draw)::k,ds,.run,ro⟩ ops draw k (some (recs,.pan T' v H' n' R1 W1)))) f) p) (Q1j P F orc (Q3I P F orc fuel ih) len tr ops H n)
def codeF (cd:Code):ItA:=Code.rec Q0e Qr0 (fun x y _ _=> Q4v x y) (fun q x y _ _=> Q3G q x y) (fun id x _=> Q3r id x) (fun x _=> Q2v x) (fun f ps x y _ _=> QiK (.code (.rangeFunc f ps x y))) (fun id=> QiK (.code (.exit id))) (fun x _=> Q2r x) (fun _=> Q0e) (fun l=> QiK (.code (.goto l))) (QiK (.code .ret)) (fun w=> QiK (.code (.refuse w))) cd
def Q2W (it:Item):ItA:=Item.rec codeF (fun _=> Q0e) Q2v (fun _=> Q0e) (fun a b=> QiK (.inRegion a b)) (fun l=> QiK (.inRangeFunc l)) (fun l=> QiK (.endRangeFunc l)) (QiK .beginRound) (fun a b c d=> QiK (.call a b c d)) (fun a b=> QiK (.extern a b)) it
def QlD (P:Program) (F:FuncId->Bool) (orc:Orc) (fuel:Nat):Run:=Nat.rec (fun _ _ _ _ _ _ _ _ _ _ _=> none) (fun fuel ih b fn len tr todo ds ro H n R W=>
 List.rec (resume P F orc fuel ih b R W (Qhd ⟨fn,⟨len,tr⟩,[],ds,.run,ro⟩ H n none)) (fun it k _=> Q2W it P F orc fuel ih b fn len tr k ds ro H n R W) todo) fuel
theorem QnY (P:Program) (F:FuncId->Bool) (orc:Orc):∀(fuel b:Nat) (fn:FuncId) (len:Nat) (tr:Tri) (todo:List Item) (ds:List Nat) (ro:Option Nat) (H:Qap) (n:Nat) (R W:List Nat),QlD P F orc fuel b fn len tr todo ds ro H n R W=QgX P F orc fuel b ⟨fn,⟨len,tr⟩,todo,ds,.run,ro⟩ H n R W
 | 0,_,_,_,_,_,_,_,_,_,_,_=> rfl
 | fuel+1,b,fn,len,tr,todo,ds,ro,H,n,R,W=> by
   have hih:∀(b:Nat) (fn:FuncId) (len:Nat) (tr:Tri) (todo:List Item) (ds:List Nat) (ro:Option Nat) (H:Qap) (n:Nat) (R W:List Nat),QlD P F orc fuel b fn len tr todo ds ro H n R W=QgX P F orc fuel b ⟨fn,⟨len,tr⟩,todo,ds,.run,ro⟩ H n R W:=QnY P F orc fuel
   have hrec:Q3I P F orc fuel (QlD P F orc fuel)=fun c1 H1 n1=> QgX P F orc fuel n1 c1 H1 n1 [] []:=by
    funext c1 H1 n1
    obtain ⟨fn,⟨len,tr⟩,todo,ds,mode,ro⟩:=c1
    cases mode with
    | run=> exact hih _ _ _ _ _ _ _ _ _ _ _
    | ret=> rfl
    | pan v=> rfl
   have hres:∀(R W:List Nat) (x:Option FS),resume P F orc fuel (QlD P F orc fuel) b R W x=match x with
    | some (.go c' H' n' R' W')=> QgX P F orc fuel b c' H' n' (Qd2 b R' R) (Qd2 b W' W)
    | some (.done out H' n' R' W')=> some ⟨out,H',n',Qd2 b R' R,Qd2 b W' W⟩
    | none=> none:=by
    intro R W x
    cases x with
    | none=> rfl
    | some fs=>
      cases fs with
      | done out H' n' R' W'=> rfl
      | go c' H' n' R' W'=>
        obtain ⟨fn,⟨len,tr⟩,todo,ds,mode,ro⟩:=c'
        cases mode with
        | run=> exact hih _ _ _ _ _ _ _ _ _ _ _
        | ret=> rfl
        | pan v=> rfl
   have hslow:∀(it:Item) (k:List Item),QiK it P F orc fuel (QlD P F orc fuel) b fn len tr k ds ro H n R W=QgX P F orc (fuel+1) b ⟨fn,⟨len,tr⟩,it::k,ds,.run,ro⟩ H n R W:=by
    intro it k
    unfold QiK
    rw [hres,hrec]
    rfl
   cases todo with
   | nil=> exact hres R W _
   | cons it k=>
     show Q2W it P F orc fuel (QlD P F orc fuel) b fn len tr k ds ro H n R W=_
     cases it with
     | code cd=>
       cases cd with
       | skip=> exact hih _ _ _ _ _ _ _ _ _ _ _
       | label l=> exact hih _ _ _ _ _ _ _ _ _ _ _
       | seq x y=> exact hih _ _ _ _ _ _ _ _ _ _ _
       | block id x=> exact hih _ _ _ _ _ _ _ _ _ _ _
       | loop x=> exact hih _ _ _ _ _ _ _ _ _ _ _
       | scope x=> exact hih _ _ _ _ _ _ _ _ _ _ _
       | cond q x y=>
         show (Option.rec none (fun v=> Option.rec none (fun t=> Bool.rec (QlD P F orc fuel b fn len tr (.code y::k) ds ro H n R W) (QlD P F orc fuel b fn len tr (.code x::k) ds ro H n R W) t) (Qhe v)) (evF tr q):Option Rs)=_
         rw [Q00 len tr,hih,hih]
         simp only [QgX,QmA,QoS,QoP]
         cases evC ⟨len,tr⟩ q with
         | none=> rfl
         | some v=>
           cases v with
           | bool t=> cases t <;> rfl
           | _=> rfl
       | region id ops draw=>
         show Qr0 id ops draw P F orc fuel (QlD P F orc fuel) b fn len tr k ds ro H n R W=_
         unfold Qr0
         rw [Qzt,hrec]
         simp only [QgX,QmA,QoS,QoP,Qyd,Qv9]
         cases hrr:Qhv P F orc (fun c1 H1 n1=> QgX P F orc fuel n1 c1 H1 n1 [] []) ops ops.toList ⟨len,tr⟩ H n with
         | none=> rfl
         | some p=>
           obtain ⟨recs,f⟩:=p
           cases f with
           | pan v H' n' R1 W1=> exact hres R W _
           | ok T' H' n'=>
             have hck:=Q3p (draw:=draw) (Qk4 _ _ _ _ _ _ _ _ hrr)
             obtain ⟨len',tr'⟩:=T'
             simp only [Q3R]
             rw [hck]
             cases !draw || (Qde 0 ops.toList && indep ops 0 recs (Qmh ops.toList [])) with
             | false=> rfl
             | true=> exact hih _ _ _ _ _ _ _ _ _ _ _
       | rangeFunc f ps x y=> exact hslow _ k
       | exit id=> exact hslow _ k
       | goto id=> exact hslow _ k
       | ret=> exact hslow _ k
       | refuse w=> exact hslow (.code (.refuse w)) k
     | inBlock id=> exact hih _ _ _ _ _ _ _ _ _ _ _
     | inScope x=> exact hih _ _ _ _ _ _ _ _ _ _ _
     | inLoop x=> exact hih _ _ _ _ _ _ _ _ _ _ _
     | inRegion a b=> exact hslow _ k
     | inRangeFunc l=> exact hslow _ k
     | endRangeFunc l=> exact hslow _ k
     | beginRound=> exact hslow _ k
     | call a b c d=> exact hslow _ k
     | extern a b=> exact hslow _ k
end
end Go.CE
