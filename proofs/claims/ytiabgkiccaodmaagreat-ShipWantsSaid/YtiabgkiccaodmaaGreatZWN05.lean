/- CE: the canonical machine a third time: by recursors alone where much time goes. -/
import Derived.Test.YtiabgkiccaodmaaGreatZWN04
set_option linter.all false
namespace Go.CE
open Go Go.RowKit
noncomputable section

def QnD (t:Tri):Nat->Value:=Tri.rec (fun _=> undef) (fun _ v _ gl gr k=> Nat.rec v (fun j _=> Bool.rec (gr (Nat.div j 2)) (gl (Nat.div j 2)) (Nat.beq (Nat.mod j 2) 0)) k) t
theorem QiI:∀(t:Tri) (k:Nat),QnD t k=t.get k
 | .lf,k=> by cases k <;> rfl
 | .nd l v r,0=> rfl
 | .nd l v r,k+1=> by
   show (Bool.rec (QnD r (k / 2)) (QnD l (k / 2)) (Nat.beq (k % 2) 0):Value)=bif Nat.beq (k % 2) 0 then l.get (k / 2) else r.get (k / 2)
   rw [QiI l,QiI r]
   cases Nat.beq (k % 2) 0 <;> rfl
def QmQ (f:Nat):Tri->Nat->Value->Tri:=Nat.rec (fun t _ _=> t) (fun _ ih t i x=> Tri.rec
 (Nat.rec (.nd .lf x .lf) (fun j _=> Bool.rec (.nd .lf undef (ih .lf (Nat.div j 2) x)) (.nd (ih .lf (Nat.div j 2) x) undef .lf) (Nat.beq (Nat.mod j 2) 0)) i)
 (fun l v r _ _=> Nat.rec (.nd l x r) (fun j _=> Bool.rec (.nd l v (ih r (Nat.div j 2) x)) (.nd (ih l (Nat.div j 2) x) v r) (Nat.beq (Nat.mod j 2) 0)) i) t) f
theorem QiK:∀(f:Nat) (t:Tri) (i:Nat) (x:Value),QmQ f t i x=Tri.set f t i x
 | 0,_,_,_=> rfl
 | f+1,.lf,0,x=> rfl
 | f+1,.nd l v r,0,x=> rfl
 | f+1,.lf,k+1,x=> by
   show (Bool.rec (Tri.nd .lf undef (QmQ f .lf (k / 2) x)) (Tri.nd (QmQ f .lf (k / 2) x) undef .lf) (Nat.beq (k % 2) 0):Tri)=bif Nat.beq (k % 2) 0 then .nd (Tri.set f .lf (k / 2) x) undef .lf else .nd .lf undef (Tri.set f .lf (k / 2) x)
   rw [QiK f]
   cases Nat.beq (k % 2) 0 <;> rfl
 | f+1,.nd l v r,k+1,x=> by
   show (Bool.rec (Tri.nd l v (QmQ f r (k / 2) x)) (Tri.nd (QmQ f l (k / 2) x) v r) (Nat.beq (k % 2) 0):Tri)=bif Nat.beq (k % 2) 0 then .nd (Tri.set f l (k / 2) x) v r else .nd l v (Tri.set f r (k / 2) x)
   rw [QiK f,QiK f]
   cases Nat.beq (k % 2) 0 <;> rfl
def evF (tr:Tri) (x:Operand):Option Value:=Operand.rec (fun t=> some (QnD tr t)) (fun v=> Bool.rec none (some v) (af v)) (fun _=> none) (fun f=> some (.func (.func f) #[] #[])) x
theorem Q2z (len:Nat) (tr:Tri):evF tr=evC ⟨len,tr⟩:=by
 funext x
 cases x with
 | tmp t=> show some (QnD tr t)=some (tr.get t);rw [QiI]
 | const v=> show (Bool.rec none (some v) (af v):Option Value)=bif af v then some v else none;cases af v <;> rfl
 | global g=> rfl
 | func f=> rfl
def Q4v (tr:Tri) (d:Option Tmp) (v:Value):Tri:=Option.rec tr (fun d=> QmQ 14 tr d v) d
theorem Qwz (len:Nat) (tr:Tri) (d:Option Tmp) (v:Value):(⟨len,Q4v tr d v⟩:Tm)=Qgr ⟨len,tr⟩ d v:=by
 cases d with
 | none=> rfl
 | some d=> show (⟨len,QmQ 14 tr d v⟩:Tm)=⟨len,tr.set 14 d v⟩;rw [QiK]
def Q5g {α:Type} (l:List α):Nat->Option α:=List.rec (fun _=> none) (fun x _ ih k=> Nat.rec (some x) (fun j _=> ih j) k) l
theorem Qw5 {α:Type}:∀(l:List α) (k:Nat),Q5g l k=l[k]?
 | [],k=> by cases k <;> rfl
 | x::l,0=> rfl
 | x::l,k+1=> by show Q5g l k=_;rw [Qw5 l k];rfl
def Qtb (P:Program) (t:TypeId) (cs:Array Value) (off:Nat):Option Value:=
 Option.rec none (fun g=> Bool.rec (Q5g cs.toList off) (Option.rec none (fun s=> Bool.rec none (some (.agg (cs.extract off (off+s)))) (Nat.ble (off+s) cs.size)) (Qfc P t)) g) (QwO P t)
theorem Qrj (P:Program) (t:TypeId) (cs:Array Value) (off:Nat):Qtb P t cs off=Qgb P t cs off:=by
 unfold Qtb Qgb
 cases QwO P t with
 | none=> rfl
 | some g=>
   cases g with
   | false=> show Q5g cs.toList off=_;rw [Qw5,Array.getElem?_toList]
   | true=>
     cases Qfc P t with
     | none=> rfl
     | some s=> simp only;cases Nat.ble (off+s) cs.size <;> rfl
def Qth (P:Program) (t:TypeId) (H:Qaw) (p:Value):Option (Value×Nat):=match p with
 | .pointer (some ⟨b,off,none⟩)=> match Qa4 H b with
   | some (.cells cs _ _)=> match Qtb P t cs off with
     | some v=> some (v,b)
     | none=> none
   | _=> none
 | _=> none
theorem QvJ (P:Program) (t:TypeId) (H:Qaw) (p:Value):Qth P t H p=QjO P t H p:=by
 unfold Qth QjO
 simp only [Qrj]
 rfl
def Q0f (p:Value->Bool) (l:List Value):Bool:=List.rec true (fun x _ ih=> Bool.rec false ih (p x)) l
theorem QkQ (p:Value->Bool):∀(l:List Value),Q0f p l=l.all p
 | []=> rfl
 | x::l=> by
   show (Bool.rec false (Q0f p l) (p x):Bool)=_
   rw [QkQ p l,List.all_cons]
   cases p x <;> rfl
def Q2U (cs:Array Value):Bool:=Q0f (·.oneCell') cs.toList
theorem Q0F (cs:Array Value):Q2U cs=ones cs:=by
 unfold Q2U ones
 rw [QkQ,Array.all_toList]
def saF (v:Value):Bool:=match v with
 | .agg xs=> Q0f simple xs.toList
 | v=> simple v
theorem Q2d (v:Value):saF v=sa v:=by
 cases v <;> first | rfl | (show Q0f simple _=_;rw [QkQ,Array.all_toList];rfl)
def afF (v:Value):Bool:=match v with
 | .agg xs=> Q0f simple xs.toList
 | .tuple xs=> Q0f saF xs.toList
 | .iface _ v=> saF v
 | v=> simple v
theorem Q4c (v:Value):afF v=af v:=by
 cases v with
 | iface t v=> exact Q2d v
 | tuple xs=> show Q0f saF _=_;rw [show saF=sa from funext Q2d,QkQ,Array.all_toList];rfl
 | _=> first | rfl | (show Q0f simple _=_;rw [QkQ,Array.all_toList];rfl)
def Qom (P:Program) (t:TypeId) (H:Qaw) (v p:Value):Option (Qaw×Nat):=match p with
 | .pointer (some ⟨b,off,none⟩)=> match Qa4 H b with
   | some (.cells cs te (0,0))=> match Qfc P t with
     | some s=> bif Nat.beq v.cells.size s && Q2U v.cells && Nat.ble (off+s) cs.size then some (Qgl H b (.cells (splice cs off v.cells) te (0,0)),b) else none
     | none=> none
   | _=> none
 | _=> none
theorem QuR (P:Program) (t:TypeId) (H:Qaw) (v p:Value):Qom P t H v p=QhB P t H v p:=by
 unfold Qom QhB
 simp only [Q0F]
 rfl
def Qop (P:Program) (t:TypeId) (f:Nat) (x:Value):Option Value:=match x with
 | .agg cs=> match und P t with
   | some (.struct fields)=> match fields[f]? with
     | some fd=> Qtb P fd.type cs fd.offset
     | none=> none
   | _=> none
 | _=> none
theorem QtO (P:Program) (t:TypeId) (f:Nat) (x:Value):Qop P t f x=Qn7 P t f x:=by
 unfold Qop Qn7
 simp only [Qrj]
 rfl
def QwZ (ops:Array Oper) (tr:Tri) (j:Nat):Option Bool:=match nth ops.toList j with
 | some o=> match o.dst with
   | some t=> Qh7 (QnD tr t)
   | none=> none
 | none=> none
theorem QvK (len:Nat) (ops:Array Oper) (tr:Tri) (j:Nat):QwZ ops tr j=Qbl ops ⟨len,tr⟩ j:=by
 unfold QwZ Qbl
 simp only [QiI,Qca]
 rfl
def Qz8 (ops:Array Oper) (tr:Tri) (g:Option (Nat×Bool)):Bool:=Option.rec true (fun jw=> Prod.rec (fun j w=> Option.rec false (fun b=> Bool.rec (Bool.rec true false w) (Bool.rec false true w) b) (QwZ ops tr j)) jw) g
theorem Q1u (len:Nat) (ops:Array Oper) (tr:Tri) (o:Oper):Qz8 ops tr o.guard=Region.wanted o (Qbl ops ⟨len,tr⟩):=by
 unfold Qz8 Region.wanted
 cases o.guard with
 | none=> rfl
 | some jw=>
   obtain ⟨j,w⟩:=jw
   simp only [QvK len]
   cases Qbl ops ⟨len,tr⟩ j with
   | none=> rfl
   | some b=> cases b <;> cases w <;> rfl
abbrev Ans:=Option (List Rec×RF)
abbrev KV:=Value->Qaw->Nat->List Nat->List Nat->Ans
abbrev Arm:=Program->(FuncId->Bool)->Orc->(CF->Qaw->Nat->Option Rs)->Nat->Tri->Oper->Qaw->Nat->KV->KV->Ans
def fin (k kp:KV) (s:Option Rs):Ans:=match s with
 | some ⟨out,H,n,R,W⟩=> match out with
   | .ret v=> k v H n R W
   | .pan v=> kp v H n R W
 | none=> none
def pv (k:KV) (H:Qaw) (n:Nat) (x:Option Value):Ans:=Option.rec none (fun v=> k v H n [] []) x
theorem QjY (k kp:KV) (H:Qaw) (n:Nat) (x:Option Value):fin k kp (qV x H n)=pv k H n x:=by cases x <;> rfl
def Q4S (x:Operand):Arm:=fun _ _ _ _ _ tr _ H n k _=> pv k H n (evF tr x)
def Q5s (c a b:Operand):Arm:=fun _ _ _ _ _ tr _ H n k _=> Option.rec none (fun v=> Option.rec none (fun t=> Bool.rec (pv k H n (evF tr b)) (pv k H n (evF tr a)) t) (Qh7 v)) (evF tr c)
def Q59 (t:TypeId) (a:Operand):Arm:=fun P _ _ _ _ tr _ H n k _=> Option.rec none (fun p=> Option.rec none (fun vb=> Prod.rec (fun v b=> Bool.rec none (k v H n [b] []) (Nat.blt b n)) vb) (Qth P t H p)) (evF tr a)
def Q5a (t:TypeId) (a x:Operand):Arm:=fun P _ _ _ _ tr _ H n k _=> Option.rec none (fun p=> Option.rec none (fun v=> Option.rec none (fun hb=> Prod.rec (fun H' b=> Bool.rec none (k undef H' n [b] [b]) (Nat.blt b n)) hb) (Qom P t H v p)) (evF tr x)) (evF tr a)
def Qve (s:TypeId) (x:Operand) (f:Nat):Arm:=fun P _ _ _ _ tr _ H n k _=> Option.rec none (fun p=> pv k H n (QbQ P s f p)) (evF tr x)
def Q4n (s:TypeId) (x:Operand) (f:Nat):Arm:=fun P _ _ _ _ tr _ H n k _=> Option.rec none (fun p=> pv k H n (Qop P s f p)) (evF tr x)
def Qut (t:TypeId) (x i:Operand):Arm:=fun P _ _ _ _ tr _ H n k _=> Option.rec none (fun p=> Option.rec none (fun j=> pv k H n (QeC P t p j)) (evF tr i)) (evF tr x)
def Q1M (x:Operand) (i:Nat):Arm:=fun _ _ _ _ _ tr _ H n k _=> Option.rec none (fun p=> pv k H n (Qhq i p)) (evF tr x)
def Q5V (op:BinOp) (_:TypeId) (x y:Operand) (_:TypeId):Arm:=fun P _ _ _ _ tr o H n k _=> Option.rec none (fun a=> Option.rec none (fun b=> Option.rec (pv k H n (Qe4 P (evF tr) o)) (fun v=> k v H n [] []) (Q3A op a b)) (evF tr y)) (evF tr x)
def Q37 (v:Value) (r:CR) (k:KV) (H':Qaw) (n':Nat) (R W:List Nat):Ans:=List.rec (Bool.rec (k v H' n' (r.R++R) (r.W++[])) (k v r.H n' (r.R++R) (r.W++[])) (afF v)) (fun _ _ _=> k v H' n' (r.R++R) (r.W++W)) W
def QzN (r:CR) (k kp:KV) (s:Option Rs):Ans:=Option.rec none (fun s=> Rs.rec (fun out H' n' R W=> OO.rec (fun v=> Q37 v r k H' n' R W) (fun v=> kp v H' n' (r.R++R) (r.W++W)) out) s) s
theorem Qz4 (r:CR) (k kp:KV) (s:Option Rs):QzN r k kp s=fin k kp (match s with | some s=> Q2M r s | none=> none):=by
 cases s with
 | none=> rfl
 | some s=>
   obtain ⟨out,H',n',R,W⟩:=s
   cases out with
   | pan v=>
     cases W with
     | nil=> rfl
     | cons a b=> rfl
   | ret v=>
     show Q37 v r k H' n' R W=_
     unfold Q37
     cases W with
     | nil=>
       rw [Q4c]
       simp only [Q2M,Qfq]
       cases af v <;> rfl
     | cons a b=> rfl
def Qtj (P:Program) (orc:Orc) (rec:CF->Qaw->Nat->Option Rs) (g:FuncId) (args:Array Value) (r:CR) (k kp:KV):Ans:=Option.rec (Option.rec none (fun c=> QzN r k kp (rec c r.H r.n)) (Qcq P g args)) (fun _=> fin k kp (Qs7 P orc rec g args r)) (orc g args r.H r.n)
theorem Qxc (P:Program) (orc:Orc) (rec:CF->Qaw->Nat->Option Rs) (g:FuncId) (args:Array Value) (r:CR) (k kp:KV):Qtj P orc rec g args r k kp=fin k kp (Qs7 P orc rec g args r):=by
 unfold Qtj
 cases ho:orc g args r.H r.n with
 | some x=> rfl
 | none=>
   unfold Qs7
   rw [ho]
   show (Option.rec none (fun c=> QzN r k kp (rec c r.H r.n)) (Qcq P g args):Ans)=fin k kp (Q5y P rec g args r)
   unfold Q5y
   cases Qcq P g args with
   | none=> rfl
   | some c=>
     show QzN r k kp (rec c r.H r.n)=_
     rw [Qz4]
     rfl
def Q2A (P:Program) (orc:Orc) (rec:CF->Qaw->Nat->Option Rs) (n:Nat) (x:Option CR) (k kp:KV):Ans:=Option.rec none (fun r=> CN.rec (fun _=> fin k kp (qR P orc rec n (some r))) (fun g args=> Bool.rec none (Qtj P orc rec g args r k kp) (r.R.all (fun i=> Nat.blt i n))) (fun _ _ _ _ _=> fin k kp (qR P orc rec n (some r))) r.nx) x
theorem Q1j (P:Program) (orc:Orc) (rec:CF->Qaw->Nat->Option Rs) (n:Nat) (x:Option CR) (k kp:KV):Q2A P orc rec n x k kp=fin k kp (qR P orc rec n x):=by
 cases x with
 | none=> rfl
 | some r=>
   obtain ⟨nx,H',n',R,W⟩:=r
   cases nx with
   | val v=> rfl
   | round l fn tm a b=> rfl
   | enter g args=>
     show (Bool.rec none (Qtj P orc rec g args ⟨.enter g args,H',n',R,W⟩ k kp) (R.all (fun i=> Nat.blt i n)):Ans)=_
     rw [Qxc]
     simp only [qR]
     cases R.all (fun i=> Nat.blt i n) <;> rfl
def Q54 (c:Call):Arm:=fun P F orc rec _ tr o H n k kp=> Q2A P orc rec n (Ql0 P F (evF tr) o c H n) k kp
def QhC:Arm:=fun P F orc rec len tr o H n k kp=> fin k kp (opQ P F orc rec ⟨len,tr⟩ o H n)
def opF (op:Op):Arm:=Op.rec Q4S Q4S Q5s (fun _=> QhC) (fun _ _=> QhC) (fun _ _=> QhC) (fun _ _ _=> QhC) (fun _ _ _ _=> QhC) Q59 Q5a (fun _=> QhC) (fun _=> QhC) (fun _=> QhC) Q5V (fun _ _ _=> QhC) (fun _ _ _=> QhC) (fun _ _=> QhC) (fun _ _=> QhC)
 (fun _ _ _=> QhC) (fun _ _=> QhC) (fun _ _=> QhC) (fun _ _ _=> QhC) (fun _ _ _ _ _=> QhC) Qve Q4n Qut (fun _ _ _=> QhC) (fun _ _ _ _=> QhC) (fun _ _ _ _=> QhC) (fun _ _ _=> QhC) (fun _ _ _ _=> QhC) (fun _ _=> QhC) (fun _ _=> QhC) (fun _=> QhC) (fun _ _ _ _=> QhC)
 Q1M Q54 (fun _=> QhC) (fun _=> QhC) (fun _=> QhC) (fun _ _=> QhC) (fun _ _ _=> QhC) (fun _ _=> QhC) op
theorem Q4X (P:Program) (F:FuncId->Bool) (orc:Orc) (rec:CF->Qaw->Nat->Option Rs) (len:Nat) (tr:Tri) (o:Oper) (H:Qaw) (n:Nat) (k kp:KV):opF o.op P F orc rec len tr o H n k kp=fin k kp (opQ P F orc rec ⟨len,tr⟩ o H n):=by
 have e:=Q2z len tr
 cases hp:o.op with
 | move x=> show pv k H n (evF tr x)=_;rw [e];unfold opQ;simp only [hp];exact (QjY k kp H n _).symm
 | assign x=> show pv k H n (evF tr x)=_;rw [e];unfold opQ;simp only [hp];exact (QjY k kp H n _).symm
 | pick c a b=>
   show (Option.rec none (fun v=> Option.rec none (fun t=> Bool.rec (pv k H n (evF tr b)) (pv k H n (evF tr a)) t) (Qh7 v)) (evF tr c):Ans)=_
   rw [e];unfold opQ;simp only [hp]
   cases evC ⟨len,tr⟩ c with
   | none=> rfl
   | some v=>
     cases v with
     | bool t=> cases t <;> exact (QjY k kp H n _).symm
     | _=> rfl
 | load t a=>
   show (Option.rec none (fun p=> Option.rec none (fun vb=> Prod.rec (fun v b=> Bool.rec none (k v H n [b] []) (Nat.blt b n)) vb) (Qth P t H p)) (evF tr a):Ans)=_
   simp only [QvJ];rw [e];unfold opQ;simp only [hp]
   cases evC ⟨len,tr⟩ a with
   | none=> rfl
   | some p=>
     simp only [Q3i]
     cases QjO P t H p with
     | none=> rfl
     | some vb=>
       obtain ⟨v,b⟩:=vb
       cases hb:Nat.blt b n <;> simp [qR,fin,Q1l,hb]
 | store t a x=>
   show (Option.rec none (fun p=> Option.rec none (fun v=> Option.rec none (fun hb=> Prod.rec (fun H' b=> Bool.rec none (k undef H' n [b] [b]) (Nat.blt b n)) hb) (Qom P t H v p)) (evF tr x)) (evF tr a):Ans)=_
   simp only [QuR];rw [e];unfold opQ;simp only [hp]
   cases evC ⟨len,tr⟩ a with
   | none=> rfl
   | some p=>
     cases evC ⟨len,tr⟩ x with
     | none=> rfl
     | some v=>
       simp only [QwS]
       cases QhB P t H v p with
       | none=> rfl
       | some vb=>
         obtain ⟨H',b⟩:=vb
         cases hb:Nat.blt b n <;> simp [qR,fin,Q1l,hb]
 | fieldAddr s x f=>
   show (Option.rec none (fun p=> pv k H n (QbQ P s f p)) (evF tr x):Ans)=_
   rw [e];unfold opQ;simp only [hp]
   cases evC ⟨len,tr⟩ x with
   | none=> rfl
   | some p=> simp only [Qjp,Qgw];exact (QjY k kp H n _).symm
 | field s x f=>
   show (Option.rec none (fun p=> pv k H n (Qop P s f p)) (evF tr x):Ans)=_
   simp only [QtO];rw [e];unfold opQ;simp only [hp]
   cases evC ⟨len,tr⟩ x with
   | none=> rfl
   | some p=> simp only [QyH,Qgw];exact (QjY k kp H n _).symm
 | indexAddr t x i=>
   show (Option.rec none (fun p=> Option.rec none (fun j=> pv k H n (QeC P t p j)) (evF tr i)) (evF tr x):Ans)=_
   rw [e];unfold opQ;simp only [hp]
   cases evC ⟨len,tr⟩ x with
   | none=> rfl
   | some p=>
     cases evC ⟨len,tr⟩ i with
     | none=> rfl
     | some j=> simp only [QjK,Qgw];exact (QjY k kp H n _).symm
 | extract x i=>
   show (Option.rec none (fun p=> pv k H n (Qhq i p)) (evF tr x):Ans)=_
   rw [e];unfold opQ;simp only [hp]
   cases evC ⟨len,tr⟩ x with
   | none=> rfl
   | some p=> simp only [Qph,Qgw];exact (QjY k kp H n _).symm
 | binOp op t x y t'=>
   show (Option.rec none (fun a=> Option.rec none (fun b=> Option.rec (pv k H n (Qe4 P (evF tr) o)) (fun v=> k v H n [] []) (Q3A op a b)) (evF tr y)) (evF tr x):Ans)=_
   rw [e];unfold opQ;simp only [hp]
   cases evC ⟨len,tr⟩ x with
   | none=> rfl
   | some a=>
     cases evC ⟨len,tr⟩ y with
     | none=> rfl
     | some b=>
       simp only [Q5r]
       cases Q3A op a b with
       | none=> simp only [Qgw];exact (QjY k kp H n _).symm
       | some v=> rfl
 | call c=> show Q2A P orc rec n (Ql0 P F (evF tr) o c H n) k kp=_;rw [Q1j,e];unfold opQ;simp only [hp]
 | _=> rfl
def Qz1 (r:Rec) (x:Ans):Ans:=Option.rec none (fun p=> Prod.rec (fun rs f=> some (r::rs,f)) p) x
def Q1X (P:Program) (F:FuncId->Bool) (orc:Orc) (rec:CF->Qaw->Nat->Option Rs) (len:Nat) (ops:Array Oper) (l:List Oper):Tri->Qaw->Nat->Ans:=
 List.rec (fun tr H n=> some ([],.ok ⟨len,tr⟩ H n)) (fun o _ ih tr H n=> Bool.rec
  (Qz1 ⟨o,false,undef,⟨len,tr⟩,H,H,n,n,[],[]⟩ (ih (Q4v tr o.dst undef) H n))
  (opF o.op P F orc rec len tr o H n (fun v H' n' R W=> Qz1 ⟨o,true,v,⟨len,tr⟩,H,H',n,n',R,W⟩ (ih (Q4v tr o.dst v) H' n')) (fun v H' n' R W=> some ([],.pan ⟨len,tr⟩ v H' n' R W)))
  (Qz8 ops tr o.guard)) l
def QsR (len:Nat) (l:List Oper):Bool:=l.all fun o=> Qiv ⟨len,.lf⟩ o.dst
theorem QsW (P:Program) (F:FuncId->Bool) (orc:Orc) (rec:CF->Qaw->Nat->Option Rs) (len:Nat) (ops:Array Oper):∀(l:List Oper) (tr:Tri) (H:Qaw) (n:Nat),QsR len l=true->Q1X P F orc rec len ops l tr H n=QhF P F orc rec ops l ⟨len,tr⟩ H n
 | [],_,_,_,_=> rfl
 | o::l,tr,H,n,hd=> by
   simp only [QsR,List.all_cons,Bool.and_eq_true] at hd
   have hd1:Qiv ⟨len,tr⟩ o.dst=true:=by
    have:=hd.1
    cases hq:o.dst with
    | none=> rfl
    | some x=> rw [hq] at this;exact this
   have ih:=QsW P F orc rec len ops l
   show (Bool.rec (Qz1 ⟨o,false,undef,⟨len,tr⟩,H,H,n,n,[],[]⟩ (Q1X P F orc rec len ops l (Q4v tr o.dst undef) H n))
    (opF o.op P F orc rec len tr o H n (fun v H' n' R W=> Qz1 ⟨o,true,v,⟨len,tr⟩,H,H',n,n',R,W⟩ (Q1X P F orc rec len ops l (Q4v tr o.dst v) H' n')) (fun v H' n' R W=> some ([],.pan ⟨len,tr⟩ v H' n' R W)))
    (Qz8 ops tr o.guard):Ans)=_
   rw [Q1u len]
   simp only [QhF,hd1,cond_true]
   cases Region.wanted o (Qbl ops ⟨len,tr⟩) with
   | false=>
     simp only [cond_false]
     rw [ih _ _ _ hd.2,Qwz]
     cases QhF P F orc rec ops l (Qgr ⟨len,tr⟩ o.dst undef) H n <;> rfl
   | true=>
     simp only [cond_true,Q4X]
     cases opQ P F orc rec ⟨len,tr⟩ o H n with
     | none=> rfl
     | some s=>
       obtain ⟨out,H',n',R,W⟩:=s
       cases out with
       | pan v=> rfl
       | ret v=>
         simp only [fin]
         rw [ih _ _ _ hd.2,Qwz]
         cases QhF P F orc rec ops l (Qgr ⟨len,tr⟩ o.dst v) H' n' <;> rfl
def QiY (ops:Array Oper) (o:Oper) (k:Nat):List Oper->List (List Nat)->Bool
 | x::l,b::bs=> (b.contains k || o.apart ops x) && QiY ops o k l bs
 | [],_=> true
 | _::_,[]=> false
def stat (ops:Array Oper):Nat->List Oper->List (List Nat)->Bool
 | k,o::l,_::bs=> QiY ops o k l bs && stat ops (k+1) l bs
 | _,[],_=> true
 | _,_::_,[]=> false
def Qnt (i:Nat) (l:List Nat):Bool:=List.rec false (fun j _ ih=> Bool.rec ih true (Nat.beq i j)) l
theorem QkF (i:Nat):∀(l:List Nat),Qnt i l=l.contains i
 | []=> rfl
 | j::l=> by
   show (Bool.rec (Qnt i l) true (Nat.beq i j):Bool)=_
   rw [QkF i l,List.contains_cons]
   by_cases e:i=j
   ·subst e
    rw [Nat.beq_refl]
    simp
   ·rw [QhZ e]
    simp [e]
def Qtz (W R:List Nat):Bool:=List.rec false (fun i _ ih=> Bool.rec ih true (Qnt i R)) W
theorem QmJ (R:List Nat):∀(W:List Nat),Qtz W R=W.any fun i=> R.contains i
 | []=> rfl
 | i::W=> by
   show (Bool.rec (Qtz W R) true (Qnt i R):Bool)=_
   rw [QmJ R W,QkF,List.any_cons]
   cases R.contains i <;> rfl
def QsV (lo hi:Nat) (R:List Nat):Bool:=List.rec false (fun i _ ih=> Bool.rec ih (Bool.rec ih true (Nat.blt i hi)) (Nat.ble lo i)) R
theorem QqK (lo hi:Nat):∀(R:List Nat),QsV lo hi R=R.any fun i=> Nat.ble lo i && Nat.blt i hi
 | []=> rfl
 | i::R=> by
   show (Bool.rec (QsV lo hi R) (Bool.rec (QsV lo hi R) true (Nat.blt i hi)) (Nat.ble lo i):Bool)=_
   rw [QqK lo hi R,List.any_cons]
   cases Nat.ble lo i <;> cases Nat.blt i hi <;> rfl
def clear (r x:Rec):Bool:=Bool.rec (Bool.rec (Bool.rec true false (QsV r.n r.n' x.R)) false (Qtz x.W r.R)) false (Qtz r.W x.R)
theorem QtR {ops:Array Oper} {r x:Rec} (h:clear r x=true) (ha:r.o.apart ops x.o=true):tied ops r x=false:=by
 unfold clear at h
 rw [QqK,QmJ,QmJ] at h
 unfold tied meets bears
 rw [ha]
 revert h
 cases r.W.any fun i=> x.R.contains i <;> cases x.W.any fun i=> r.R.contains i <;> cases x.R.any fun i=> Nat.ble r.n i && Nat.blt i r.n' <;> simp
def QhD (r:Rec) (k:Nat) (l:List Rec):List (List Nat)->Bool:=List.rec (fun _=> true) (fun x _ ih bs=> List.rec false (fun b bs' _=> Bool.rec (Bool.rec false (ih bs') (Qnt k b)) (ih bs') (clear r x)) bs) l
def dyn (l:List Rec):Nat->List (List Nat)->Bool:=List.rec (fun _ _=> true) (fun r l ih k bs=> List.rec false (fun _ bs' _=> Bool.rec false (ih (k+1) bs') (QhD r k l bs')) bs) l
theorem Ql4 {ops:Array Oper} {r:Rec} (k:Nat):∀(l:List Rec) (bs:List (List Nat)),QhD r k l bs=true->QiY ops r.o k (l.map (·.o)) bs=true->Qey ops r k l bs=true
 | [],_,_,_=> by simp [Qey]
 | x::l,[],_,h=> by simp [QiY] at h
 | x::l,b::bs,hd,h=> by
   simp only [List.map_cons,QiY,Bool.and_eq_true,Bool.or_eq_true] at h
   simp only [Qey,Bool.and_eq_true,Bool.or_eq_true,Bool.not_eq_true']
   have hd:(Bool.rec (Bool.rec false (QhD r k l bs) (Qnt k b)) (QhD r k l bs) (clear r x):Bool)=true:=hd
   cases hc:clear r x with
   | true=>
     rw [hc] at hd
     exact ⟨h.1.imp id fun ha=> QtR hc ha,Ql4 k l bs hd h.2⟩
   | false=>
     rw [hc] at hd
     have hd:(Bool.rec false (QhD r k l bs) (Qnt k b):Bool)=true:=hd
     cases he:Qnt k b with
     | false=> rw [he] at hd;cases hd
     | true=>
       rw [he] at hd
       rw [QkF] at he
       exact ⟨.inl he,Ql4 k l bs hd h.2⟩
theorem Qnx {ops:Array Oper}:∀(l:List Rec) (bs:List (List Nat)) (k:Nat),dyn l k bs=true->stat ops k (l.map (·.o)) bs=true->indep ops k l bs=true
 | [],_,_,_,_=> by simp [indep]
 | x::l,[],_,_,h=> by simp [stat] at h
 | x::l,b::bs,k,hd,h=> by
   simp only [List.map_cons,stat,Bool.and_eq_true] at h
   simp only [indep,Bool.and_eq_true]
   have hd:(Bool.rec false (dyn l (k+1) bs) (QhD x k l bs):Bool)=true:=hd
   cases hc:QhD x k l bs with
   | false=> rw [hc] at hd;cases hd
   | true=>
     rw [hc] at hd
     exact ⟨Ql4 k l bs hc h.1,Qnx l bs (k+1) hd h.2⟩
theorem QlS {P:Program} {F:FuncId->Bool} {orc:Orc} {rec:CF->Qaw->Nat->Option Rs} {ops:Array Oper}:∀(l:List Oper) (T:Tm) (H:Qaw) (n:Nat) (recs:List Rec) (T':Tm) (H':Qaw) (n':Nat),QhF P F orc rec ops l T H n=some (recs,.ok T' H' n')->recs.map (·.o)=l
 | [],T,H,n,recs,T',H',n',h=> by
   simp only [QhF,Option.some.injEq,Prod.mk.injEq] at h
   rw [<-h.1];rfl
 | o::l,T,H,n,recs,T',H',n',h=> by
   simp only [QhF] at h
   have h:=Qfz h
   cases hw:Region.wanted o (Qbl ops T) with
   | true=>
     rw [hw] at h
     simp only [cond_true] at h
     split at h
     ·split at h
      ·split at h
       ·rename_i rs f hr
        simp only [Option.some.injEq,Prod.mk.injEq] at h
        obtain ⟨rfl,rfl⟩:=h
        simp [QlS l _ _ _ _ _ _ _ hr]
       ·cases h
      ·simp only [Option.some.injEq,Prod.mk.injEq] at h
       cases h.2
     ·cases h
   | false=>
     rw [hw] at h
     simp only [cond_false] at h
     split at h
     ·rename_i rs f hr
      simp only [Option.some.injEq,Prod.mk.injEq] at h
      obtain ⟨rfl,rfl⟩:=h
      simp [QlS l _ _ _ _ _ _ _ hr]
     ·cases h
def QrF (ops:Array Oper):Bool:=Qdk 0 ops.toList && stat ops 0 ops.toList (Qnd ops.toList [])
def chk (ops:Array Oper) (recs:List Rec) (draw:Bool):Bool:=Bool.rec true (Bool.rec (Qdk 0 ops.toList && indep ops 0 recs (Qnd ops.toList [])) (Bool.rec (Qdk 0 ops.toList && indep ops 0 recs (Qnd ops.toList [])) true (dyn recs 0 (Qnd ops.toList []))) (QrF ops)) draw
theorem Q4a {ops:Array Oper} {recs:List Rec} {draw:Bool} (h:recs.map (·.o)=ops.toList):chk ops recs draw=(!draw || (Qdk 0 ops.toList && indep ops 0 recs (Qnd ops.toList []))):=by
 unfold chk
 cases draw with
 | false=> rfl
 | true=>
   simp only [Bool.not_true,Bool.false_or]
   cases hs:QrF ops with
   | false=> rfl
   | true=>
     cases hc:dyn recs 0 (Qnd ops.toList []) with
     | false=> rfl
     | true=>
       unfold QrF at hs
       simp only [Bool.and_eq_true] at hs
       rw [hs.1,Qnx recs _ 0 hc (by rw [h];exact hs.2)]
       rfl
def QpL (b:Nat) (l:List Nat):List Nat->List Nat:=List.rec (fun acc=> acc) (fun x _ ih acc=> Bool.rec (ih acc) (Bool.rec (ih (x::acc)) (ih acc) (Qnt x acc)) (Nat.blt x b)) l
theorem Qk6 (b:Nat):∀(l acc:List Nat),QpL b l acc=QdL b l acc
 | [],_=> rfl
 | x::l,acc=> by
   show (Bool.rec (QpL b l acc) (Bool.rec (QpL b l (x::acc)) (QpL b l acc) (Qnt x acc)) (Nat.blt x b):List Nat)=_
   rw [Qk6 b l,Qk6 b l,QkF,QdL]
   cases Nat.blt x b <;> cases acc.contains x <;> rfl
theorem Qos (b:Nat):∀(l m acc:List Nat),QdL b (l++m) acc=QdL b m (QdL b l acc)
 | [],_,_=> rfl
 | x::l,m,acc=> by simp only [List.cons_append,QdL];exact Qos b l m _
def Q5t (b:Nat) (recs:List Rec):List Nat->List Nat:=List.rec (fun acc=> acc) (fun r _ ih acc=> ih (QpL b r.R acc)) recs
theorem QwU (b:Nat):∀(recs:List Rec) (acc:List Nat),Q5t b recs acc=QdL b (QmC recs) acc
 | [],_=> rfl
 | r::l,acc=> by
   show Q5t b l (QpL b r.R acc)=_
   rw [QwU b l,Qk6,show QmC (r::l)=r.R++QmC l from List.flatMap_cons,Qos]
def Q50 (b:Nat) (recs:List Rec):List Nat->List Nat:=List.rec (fun acc=> acc) (fun r _ ih acc=> ih (QpL b r.W acc)) recs
theorem Qx2 (b:Nat):∀(recs:List Rec) (acc:List Nat),Q50 b recs acc=QdL b (Qi0 recs) acc
 | [],_=> rfl
 | r::l,acc=> by
   show Q50 b l (QpL b r.W acc)=_
   rw [Qx2 b l,Qk6,show Qi0 (r::l)=r.W++Qi0 l from List.flatMap_cons,Qos]
def Q3r (P:Program) (F:FuncId->Bool) (orc:Orc) (rec:CF->Qaw->Nat->Option Rs) (len:Nat) (tr:Tri) (ops:Array Oper) (H:Qaw) (n:Nat):Ans:=
 Bool.rec (QhF P F orc rec ops ops.toList ⟨len,tr⟩ H n) (Q1X P F orc rec len ops ops.toList tr H n) (QsR len ops.toList)
theorem Qz6 (P:Program) (F:FuncId->Bool) (orc:Orc) (rec:CF->Qaw->Nat->Option Rs) (len:Nat) (tr:Tri) (ops:Array Oper) (H:Qaw) (n:Nat):Q3r P F orc rec len tr ops H n=QhF P F orc rec ops ops.toList ⟨len,tr⟩ H n:=by
 unfold Q3r
 cases hd:QsR len ops.toList with
 | false=> rfl
 | true=> exact QsW P F orc rec len ops _ _ _ _ hd
abbrev Run:=Nat->FuncId->Nat->Tri->List Item->List Nat->Option Nat->Qaw->Nat->List Nat->List Nat->Option Rs
def Q5w (P:Program) (F:FuncId->Bool) (orc:Orc) (fuel:Nat) (ih:Run) (c1:CF) (H1:Qaw) (n1:Nat):Option Rs:=
 CF.rec (fun fn T todo ds mode ro=> CM.rec (Tm.rec (fun len tr=> ih n1 fn len tr todo ds ro H1 n1 [] []) T) (Qh2 P F orc fuel n1 ⟨fn,T,todo,ds,.ret,ro⟩ H1 n1 [] []) (fun v=> Qh2 P F orc fuel n1 ⟨fn,T,todo,ds,.pan v,ro⟩ H1 n1 [] []) mode) c1
def goF (P:Program) (F:FuncId->Bool) (orc:Orc) (fuel:Nat) (ih:Run) (b:Nat) (c1:CF) (H1:Qaw) (n1:Nat) (R W:List Nat):Option Rs:=
 CF.rec (fun fn T todo ds mode ro=> CM.rec (Tm.rec (fun len tr=> ih b fn len tr todo ds ro H1 n1 R W) T) (Qh2 P F orc fuel b ⟨fn,T,todo,ds,.ret,ro⟩ H1 n1 R W) (fun v=> Qh2 P F orc fuel b ⟨fn,T,todo,ds,.pan v,ro⟩ H1 n1 R W) mode) c1
def resume (P:Program) (F:FuncId->Bool) (orc:Orc) (fuel:Nat) (ih:Run) (b:Nat) (R W:List Nat) (x:Option FS):Option Rs:=
 Option.rec none (fun fs=> FS.rec (fun c' H' n' R' W'=> goF P F orc fuel ih b c' H' n' (QdL b R' R) (QdL b W' W)) (fun out H' n' R' W'=> some ⟨out,H',n',QdL b R' R,QdL b W' W⟩) fs) x
abbrev ItA:=Program->(FuncId->Bool)->Orc->Nat->Run->Nat->FuncId->Nat->Tri->List Item->List Nat->Option Nat->Qaw->Nat->List Nat->List Nat->Option Rs
def Qj6 (it:Item):ItA:=fun P F orc fuel ih b fn len tr k ds ro H n R W=> resume P F orc fuel ih b R W (Qn6 P F orc (Q5w P F orc fuel ih) ⟨fn,⟨len,tr⟩,it::k,ds,.run,ro⟩ H n)
def Q1S:ItA:=fun _ _ _ _ ih b fn len tr k ds ro H n R W=> ih b fn len tr k ds ro H n R W
def Q5S (x y:Code):ItA:=fun _ _ _ _ ih b fn len tr k ds ro H n R W=> ih b fn len tr (.code x::.code y::k) ds ro H n R W
def Q51 (q:Operand) (x y:Code):ItA:=fun _ _ _ _ ih b fn len tr k ds ro H n R W=> Option.rec none (fun v=> Option.rec none (fun t=> Bool.rec (ih b fn len tr (.code y::k) ds ro H n R W) (ih b fn len tr (.code x::k) ds ro H n R W) t) (Qh7 v)) (evF tr q)
def Q4W (id:Nat) (x:Code):ItA:=fun _ _ _ _ ih b fn len tr k ds ro H n R W=> ih b fn len tr (.code x::.inBlock id::k) ds ro H n R W
def Q42 (x:Code):ItA:=fun _ _ _ _ ih b fn len tr k ds ro H n R W=> ih b fn len tr (.code x::.inLoop x::k) ds ro H n R W
def Q3P (x:Code):ItA:=fun _ _ _ _ ih b fn len tr k ds ro H n R W=> ih b fn len tr (.code x::.inScope x::k) ds ro H n R W
def Qsv (id:Nat) (ops:Array Oper) (draw:Bool):ItA:=fun P F orc fuel ih b fn len tr k ds ro H n R W=>
 Option.rec none (fun p=> Prod.rec (fun recs f=> RF.rec (fun T' H' n'=> Bool.rec none (Tm.rec (fun len' tr'=> ih b fn len' tr' k ds ro H' n' (Q5t b recs R) (Q50 b recs W)) T') (chk ops recs draw))
  (fun T' v H' n' R1 W1=> resume P F orc fuel ih b R W (Q5v ⟨fn,⟨len,tr⟩,.code (.region id ops draw)::k,ds,.run,ro⟩ ops draw k (some (recs,.pan T' v H' n' R1 W1)))) f) p) (Q3r P F orc (Q5w P F orc fuel ih) len tr ops H n)
def codeF (cd:Code):ItA:=Code.rec Q1S Qsv (fun x y _ _=> Q5S x y) (fun q x y _ _=> Q51 q x y) (fun id x _=> Q4W id x) (fun x _=> Q42 x) (fun f ps x y _ _=> Qj6 (.code (.rangeFunc f ps x y))) (fun id=> Qj6 (.code (.exit id))) (fun x _=> Q3P x) (fun _=> Q1S) (fun l=> Qj6 (.code (.goto l))) (Qj6 (.code .ret)) (fun w=> Qj6 (.code (.refuse w))) cd
def Q4t (it:Item):ItA:=Item.rec codeF (fun _=> Q1S) Q42 (fun _=> Q1S) (fun a b=> Qj6 (.inRegion a b)) (fun l=> Qj6 (.inRangeFunc l)) (fun l=> Qj6 (.endRangeFunc l)) (Qj6 .beginRound) (fun a b c d=> Qj6 (.call a b c d)) (fun a b=> Qj6 (.extern a b)) it
def Qlo (P:Program) (F:FuncId->Bool) (orc:Orc) (fuel:Nat):Run:=Nat.rec (fun _ _ _ _ _ _ _ _ _ _ _=> none) (fun fuel ih b fn len tr todo ds ro H n R W=>
 List.rec (resume P F orc fuel ih b R W (Qh8 ⟨fn,⟨len,tr⟩,[],ds,.run,ro⟩ H n none)) (fun it k _=> Q4t it P F orc fuel ih b fn len tr k ds ro H n R W) todo) fuel
theorem Qo4 (P:Program) (F:FuncId->Bool) (orc:Orc):∀(fuel b:Nat) (fn:FuncId) (len:Nat) (tr:Tri) (todo:List Item) (ds:List Nat) (ro:Option Nat) (H:Qaw) (n:Nat) (R W:List Nat),Qlo P F orc fuel b fn len tr todo ds ro H n R W=Qh2 P F orc fuel b ⟨fn,⟨len,tr⟩,todo,ds,.run,ro⟩ H n R W
 | 0,_,_,_,_,_,_,_,_,_,_,_=> rfl
 | fuel+1,b,fn,len,tr,todo,ds,ro,H,n,R,W=> by
   have hih:∀(b:Nat) (fn:FuncId) (len:Nat) (tr:Tri) (todo:List Item) (ds:List Nat) (ro:Option Nat) (H:Qaw) (n:Nat) (R W:List Nat),Qlo P F orc fuel b fn len tr todo ds ro H n R W=Qh2 P F orc fuel b ⟨fn,⟨len,tr⟩,todo,ds,.run,ro⟩ H n R W:=Qo4 P F orc fuel
   have hrec:Q5w P F orc fuel (Qlo P F orc fuel)=fun c1 H1 n1=> Qh2 P F orc fuel n1 c1 H1 n1 [] []:=by
    funext c1 H1 n1
    obtain ⟨fn,⟨len,tr⟩,todo,ds,mode,ro⟩:=c1
    cases mode with
    | run=> exact hih _ _ _ _ _ _ _ _ _ _ _
    | ret=> rfl
    | pan v=> rfl
   have hres:∀(R W:List Nat) (x:Option FS),resume P F orc fuel (Qlo P F orc fuel) b R W x=match x with
    | some (.go c' H' n' R' W')=> Qh2 P F orc fuel b c' H' n' (QdL b R' R) (QdL b W' W)
    | some (.done out H' n' R' W')=> some ⟨out,H',n',QdL b R' R,QdL b W' W⟩
    | none=> none:=by
    intro R W x
    cases x with
    | none=> rfl
    | some fs=>
      cases fs with
      | done out H' n' R' W'=> rfl
      | go c' H' n' R' W'=>
        obtain ⟨fn,⟨len,tr⟩,todo,ds,mode,ro⟩:=c'
        cases mode with
        | run=> exact hih _ _ _ _ _ _ _ _ _ _ _
        | ret=> rfl
        | pan v=> rfl
   have hslow:∀(it:Item) (k:List Item),Qj6 it P F orc fuel (Qlo P F orc fuel) b fn len tr k ds ro H n R W=Qh2 P F orc (fuel+1) b ⟨fn,⟨len,tr⟩,it::k,ds,.run,ro⟩ H n R W:=by
    intro it k
    unfold Qj6
    rw [hres,hrec]
    rfl
   cases todo with
   | nil=> exact hres R W _
   | cons it k=>
     show Q4t it P F orc fuel (Qlo P F orc fuel) b fn len tr k ds ro H n R W=_
     cases it with
     | code cd=>
       cases cd with
       | skip=> exact hih _ _ _ _ _ _ _ _ _ _ _
       | label l=> exact hih _ _ _ _ _ _ _ _ _ _ _
       | seq x y=> exact hih _ _ _ _ _ _ _ _ _ _ _
       | block id x=> exact hih _ _ _ _ _ _ _ _ _ _ _
       | loop x=> exact hih _ _ _ _ _ _ _ _ _ _ _
       | scope x=> exact hih _ _ _ _ _ _ _ _ _ _ _
       | cond q x y=>
         show (Option.rec none (fun v=> Option.rec none (fun t=> Bool.rec (Qlo P F orc fuel b fn len tr (.code y::k) ds ro H n R W) (Qlo P F orc fuel b fn len tr (.code x::k) ds ro H n R W) t) (Qh7 v)) (evF tr q):Option Rs)=_
         rw [Q2z len tr,hih,hih]
         simp only [Qh2,Qn6,Qrm,Qqm]
         cases evC ⟨len,tr⟩ q with
         | none=> rfl
         | some v=>
           cases v with
           | bool t=> cases t <;> rfl
           | _=> rfl
       | region id ops draw=>
         show Qsv id ops draw P F orc fuel (Qlo P F orc fuel) b fn len tr k ds ro H n R W=_
         unfold Qsv
         rw [Qz6,hrec]
         simp only [Qh2,Qn6,Qrm,Qqm,QwU,Qx2]
         cases hrr:QhF P F orc (fun c1 H1 n1=> Qh2 P F orc fuel n1 c1 H1 n1 [] []) ops ops.toList ⟨len,tr⟩ H n with
         | none=> rfl
         | some p=>
           obtain ⟨recs,f⟩:=p
           cases f with
           | pan v H' n' R1 W1=> exact hres R W _
           | ok T' H' n'=>
             have hck:=Q4a (draw:=draw) (QlS _ _ _ _ _ _ _ _ hrr)
             obtain ⟨len',tr'⟩:=T'
             simp only [Q5v]
             rw [hck]
             cases !draw || (Qdk 0 ops.toList && indep ops 0 recs (Qnd ops.toList [])) with
             | false=> rfl
             | true=> exact hih _ _ _ _ _ _ _ _ _ _ _
       | rangeFunc f ps x y=> exact hslow _ k
       | exit id=> exact hslow _ k
       | goto id=> exact hslow _ k
       | ret=> exact hslow _ k
       | refuse w=> exact hslow (.code (.refuse w)) k
     | inBlock id=> exact hih _ _ _ _ _ _ _ _ _ _ _
     | inScope x=> exact hih _ _ _ _ _ _ _ _ _ _ _
     | inLoop x=> exact hih _ _ _ _ _ _ _ _ _ _ _
     | inRegion a b=> exact hslow _ k
     | inRangeFunc l=> exact hslow _ k
     | endRangeFunc l=> exact hslow _ k
     | beginRound=> exact hslow _ k
     | call a b c d=> exact hslow _ k
     | extern a b=> exact hslow _ k
end
end Go.CE
