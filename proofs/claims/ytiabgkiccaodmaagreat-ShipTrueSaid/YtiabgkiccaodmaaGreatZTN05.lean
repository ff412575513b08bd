/- CE: the canonical machine a third time: by recursors alone where much time goes. -/
import Derived.Test.YtiabgkiccaodmaaGreatZTN04
set_option linter.all false
namespace Go.CE
open Go Go.RowKit
noncomputable section

def QmR (t:Tri):Nat->Value:=Tri.rec (fun _=> undef) (fun _ v _ gl gr k=> Nat.rec v (fun j _=> Bool.rec (gr (Nat.div j 2)) (gl (Nat.div j 2)) (Nat.beq (Nat.mod j 2) 0)) k) t
theorem Qiy:∀(t:Tri) (k:Nat),QmR t k=t.get k
 | .lf,k=> by cases k <;> rfl
 | .nd l v r,0=> rfl
 | .nd l v r,k+1=> by
   show (Bool.rec (QmR r (k / 2)) (QmR l (k / 2)) (Nat.beq (k % 2) 0):Value)=bif Nat.beq (k % 2) 0 then l.get (k / 2) else r.get (k / 2)
   rw [Qiy l,Qiy r]
   cases Nat.beq (k % 2) 0 <;> rfl
def Qk1 (f:Nat):Tri->Nat->Value->Tri:=Nat.rec (fun t _ _=> t) (fun _ ih t i x=> Tri.rec
 (Nat.rec (.nd .lf x .lf) (fun j _=> Bool.rec (.nd .lf undef (ih .lf (Nat.div j 2) x)) (.nd (ih .lf (Nat.div j 2) x) undef .lf) (Nat.beq (Nat.mod j 2) 0)) i)
 (fun l v r _ _=> Nat.rec (.nd l x r) (fun j _=> Bool.rec (.nd l v (ih r (Nat.div j 2) x)) (.nd (ih l (Nat.div j 2) x) v r) (Nat.beq (Nat.mod j 2) 0)) i) t) f
theorem QhE:∀(f:Nat) (t:Tri) (i:Nat) (x:Value),Qk1 f t i x=Tri.set f t i x
 | 0,_,_,_=> rfl
 | f+1,.lf,0,x=> rfl
 | f+1,.nd l v r,0,x=> rfl
 | f+1,.lf,k+1,x=> by
   show (Bool.rec (Tri.nd .lf undef (Qk1 f .lf (k / 2) x)) (Tri.nd (Qk1 f .lf (k / 2) x) undef .lf) (Nat.beq (k % 2) 0):Tri)=bif Nat.beq (k % 2) 0 then .nd (Tri.set f .lf (k / 2) x) undef .lf else .nd .lf undef (Tri.set f .lf (k / 2) x)
   rw [QhE f]
   cases Nat.beq (k % 2) 0 <;> rfl
 | f+1,.nd l v r,k+1,x=> by
   show (Bool.rec (Tri.nd l v (Qk1 f r (k / 2) x)) (Tri.nd (Qk1 f l (k / 2) x) v r) (Nat.beq (k % 2) 0):Tri)=bif Nat.beq (k % 2) 0 then .nd (Tri.set f l (k / 2) x) v r else .nd l v (Tri.set f r (k / 2) x)
   rw [QhE f,QhE f]
   cases Nat.beq (k % 2) 0 <;> rfl
def evF (tr:Tri) (x:Operand):Option Value:=Operand.rec (fun t=> some (QmR tr t)) (fun v=> Bool.rec none (some v) (af v)) (fun _=> none) (fun f=> some (.func (.func f) #[] #[])) x
theorem Q1O (len:Nat) (tr:Tri):evF tr=evC ⟨len,tr⟩:=by
 funext x
 cases x with
 | tmp t=> show some (QmR tr t)=some (tr.get t);rw [Qiy]
 | const v=> show (Bool.rec none (some v) (af v):Option Value)=bif af v then some v else none;cases af v <;> rfl
 | global g=> rfl
 | func f=> rfl
def Q3u (tr:Tri) (d:Option Tmp) (v:Value):Tri:=Option.rec tr (fun d=> Qk1 14 tr d v) d
theorem QyE (len:Nat) (tr:Tri) (d:Option Tmp) (v:Value):(⟨len,Q3u tr d v⟩:Tm)=Qgh ⟨len,tr⟩ d v:=by
 cases d with
 | none=> rfl
 | some d=> show (⟨len,Qk1 14 tr d v⟩:Tm)=⟨len,tr.set 14 d v⟩;rw [QhE]
def Q4A {α:Type} (l:List α):Nat->Option α:=List.rec (fun _=> none) (fun x _ ih k=> Nat.rec (some x) (fun j _=> ih j) k) l
theorem QyV {α:Type}:∀(l:List α) (k:Nat),Q4A l k=l[k]?
 | [],k=> by cases k <;> rfl
 | x::l,0=> rfl
 | x::l,k+1=> by show Q4A l k=_;rw [QyV l k];rfl
def Qtj (P:Program) (t:TypeId) (cs:Array Value) (off:Nat):Option Value:=
 Option.rec none (fun g=> Bool.rec (Q4A cs.toList off) (Option.rec none (fun s=> Bool.rec none (some (.agg (cs.extract off (off+s)))) (Nat.ble (off+s) cs.size)) (Qfc P t)) g) (Qyk P t)
theorem Qpo (P:Program) (t:TypeId) (cs:Array Value) (off:Nat):Qtj P t cs off=QfV P t cs off:=by
 unfold Qtj QfV
 cases Qyk P t with
 | none=> rfl
 | some g=>
   cases g with
   | false=> show Q4A cs.toList off=_;rw [QyV,Array.getElem?_toList]
   | true=>
     cases Qfc P t with
     | none=> rfl
     | some s=> simp only;cases Nat.ble (off+s) cs.size <;> rfl
def Qtg (P:Program) (t:TypeId) (H:Qar) (p:Value):Option (Value×Nat):=match p with
 | .pointer (some ⟨b,off,none⟩)=> match Qau H b with
   | some (.cells cs _ _)=> match Qtj P t cs off with
     | some v=> some (v,b)
     | none=> none
   | _=> none
 | _=> none
theorem Qyv (P:Program) (t:TypeId) (H:Qar) (p:Value):Qtg P t H p=Qji P t H p:=by
 unfold Qtg Qji
 simp only [Qpo]
 rfl
def Q0z (p:Value->Bool) (l:List Value):Bool:=List.rec true (fun x _ ih=> Bool.rec false ih (p x)) l
theorem QlA (p:Value->Bool):∀(l:List Value),Q0z p l=l.all p
 | []=> rfl
 | x::l=> by
   show (Bool.rec false (Q0z p l) (p x):Bool)=_
   rw [QlA p l,List.all_cons]
   cases p x <;> rfl
def Q2s (cs:Array Value):Bool:=Q0z (·.oneCell') cs.toList
theorem Q0F (cs:Array Value):Q2s cs=ones cs:=by
 unfold Q2s ones
 rw [QlA,Array.all_toList]
def saF (v:Value):Bool:=match v with
 | .agg xs=> Q0z simple xs.toList
 | v=> simple v
theorem Q1Q (v:Value):saF v=sa v:=by
 cases v <;> first | rfl | (show Q0z simple _=_;rw [QlA,Array.all_toList];rfl)
def afF (v:Value):Bool:=match v with
 | .agg xs=> Q0z simple xs.toList
 | .tuple xs=> Q0z saF xs.toList
 | .iface _ v=> saF v
 | v=> simple v
theorem Q4v (v:Value):afF v=af v:=by
 cases v with
 | iface t v=> exact Q1Q v
 | tuple xs=> show Q0z saF _=_;rw [show saF=sa from funext Q1Q,QlA,Array.all_toList];rfl
 | _=> first | rfl | (show Q0z simple _=_;rw [QlA,Array.all_toList];rfl)
def Qov (P:Program) (t:TypeId) (H:Qar) (v p:Value):Option (Qar×Nat):=match p with
 | .pointer (some ⟨b,off,none⟩)=> match Qau H b with
   | some (.cells cs te (0,0))=> match Qfc P t with
     | some s=> bif Nat.beq v.cells.size s && Q2s v.cells && Nat.ble (off+s) cs.size then some (Qgc H b (.cells (splice cs off v.cells) te (0,0)),b) else none
     | none=> none
   | _=> none
 | _=> none
theorem QuG (P:Program) (t:TypeId) (H:Qar) (v p:Value):Qov P t H v p=Qhm P t H v p:=by
 unfold Qov Qhm
 simp only [Q0F]
 rfl
def QnU (P:Program) (t:TypeId) (f:Nat) (x:Value):Option Value:=match x with
 | .agg cs=> match und P t with
   | some (.struct fields)=> match fields[f]? with
     | some fd=> Qtj P fd.type cs fd.offset
     | none=> none
   | _=> none
 | _=> none
theorem Qvd (P:Program) (t:TypeId) (f:Nat) (x:Value):QnU P t f x=QmK P t f x:=by
 unfold QnU QmK
 simp only [Qpo]
 rfl
def QwQ (ops:Array Oper) (tr:Tri) (j:Nat):Option Bool:=match nth ops.toList j with
 | some o=> match o.dst with
   | some t=> Qhn (QmR tr t)
   | none=> none
 | none=> none
theorem QwK (len:Nat) (ops:Array Oper) (tr:Tri) (j:Nat):QwQ ops tr j=Qbh ops ⟨len,tr⟩ j:=by
 unfold QwQ Qbh
 simp only [Qiy,QbR]
 rfl
def Q10 (ops:Array Oper) (tr:Tri) (g:Option (Nat×Bool)):Bool:=Option.rec true (fun jw=> Prod.rec (fun j w=> Option.rec false (fun b=> Bool.rec (Bool.rec true false w) (Bool.rec false true w) b) (QwQ ops tr j)) jw) g
theorem Q1m (len:Nat) (ops:Array Oper) (tr:Tri) (o:Oper):Q10 ops tr o.guard=Region.wanted o (Qbh ops ⟨len,tr⟩):=by
 unfold Q10 Region.wanted
 cases o.guard with
 | none=> rfl
 | some jw=>
   obtain ⟨j,w⟩:=jw
   simp only [QwK len]
   cases Qbh ops ⟨len,tr⟩ j with
   | none=> rfl
   | some b=> cases b <;> cases w <;> rfl
abbrev Ans:=Option (List Rec×RF)
abbrev KV:=Value->Qar->Nat->List Nat->List Nat->Ans
abbrev Arm:=Program->(FuncId->Bool)->Orc->(CF->Qar->Nat->Option Rs)->Nat->Tri->Oper->Qar->Nat->KV->KV->Ans
def fin (k kp:KV) (s:Option Rs):Ans:=match s with
 | some ⟨out,H,n,R,W⟩=> match out with
   | .ret v=> k v H n R W
   | .pan v=> kp v H n R W
 | none=> none
def pv (k:KV) (H:Qar) (n:Nat) (x:Option Value):Ans:=Option.rec none (fun v=> k v H n [] []) x
theorem Qj0 (k kp:KV) (H:Qar) (n:Nat) (x:Option Value):fin k kp (qV x H n)=pv k H n x:=by cases x <;> rfl
def Q4d (x:Operand):Arm:=fun _ _ _ _ _ tr _ H n k _=> pv k H n (evF tr x)
def Q4I (c a b:Operand):Arm:=fun _ _ _ _ _ tr _ H n k _=> Option.rec none (fun v=> Option.rec none (fun t=> Bool.rec (pv k H n (evF tr b)) (pv k H n (evF tr a)) t) (Qhn v)) (evF tr c)
def Q4O (t:TypeId) (a:Operand):Arm:=fun P _ _ _ _ tr _ H n k _=> Option.rec none (fun p=> Option.rec none (fun vb=> Prod.rec (fun v b=> Bool.rec none (k v H n [b] []) (Nat.blt b n)) vb) (Qtg P t H p)) (evF tr a)
def Q3N (t:TypeId) (a x:Operand):Arm:=fun P _ _ _ _ tr _ H n k _=> Option.rec none (fun p=> Option.rec none (fun v=> Option.rec none (fun hb=> Prod.rec (fun H' b=> Bool.rec none (k undef H' n [b] [b]) (Nat.blt b n)) hb) (Qov P t H v p)) (evF tr x)) (evF tr a)
def QtS (s:TypeId) (x:Operand) (f:Nat):Arm:=fun P _ _ _ _ tr _ H n k _=> Option.rec none (fun p=> pv k H n (QbU P s f p)) (evF tr x)
def Q3x (s:TypeId) (x:Operand) (f:Nat):Arm:=fun P _ _ _ _ tr _ H n k _=> Option.rec none (fun p=> pv k H n (QnU P s f p)) (evF tr x)
def QuV (t:TypeId) (x i:Operand):Arm:=fun P _ _ _ _ tr _ H n k _=> Option.rec none (fun p=> Option.rec none (fun j=> pv k H n (QeH P t p j)) (evF tr i)) (evF tr x)
def Q0R (x:Operand) (i:Nat):Arm:=fun _ _ _ _ _ tr _ H n k _=> Option.rec none (fun p=> pv k H n (QgU i p)) (evF tr x)
def Q5w (op:BinOp) (_:TypeId) (x y:Operand) (_:TypeId):Arm:=fun P _ _ _ _ tr o H n k _=> Option.rec none (fun a=> Option.rec none (fun b=> Option.rec (pv k H n (QeA P (evF tr) o)) (fun v=> k v H n [] []) (Q2X op a b)) (evF tr y)) (evF tr x)
def Q24 (v:Value) (r:CR) (k:KV) (H':Qar) (n':Nat) (R W:List Nat):Ans:=List.rec (Bool.rec (k v H' n' (r.R++R) (r.W++[])) (k v r.H n' (r.R++R) (r.W++[])) (afF v)) (fun _ _ _=> k v H' n' (r.R++R) (r.W++W)) W
def Q0G (r:CR) (k kp:KV) (s:Option Rs):Ans:=Option.rec none (fun s=> Rs.rec (fun out H' n' R W=> OO.rec (fun v=> Q24 v r k H' n' R W) (fun v=> kp v H' n' (r.R++R) (r.W++W)) out) s) s
theorem Q0o (r:CR) (k kp:KV) (s:Option Rs):Q0G r k kp s=fin k kp (match s with | some s=> Q27 r s | none=> none):=by
 cases s with
 | none=> rfl
 | some s=>
   obtain ⟨out,H',n',R,W⟩:=s
   cases out with
   | pan v=>
     cases W with
     | nil=> rfl
     | cons a b=> rfl
   | ret v=>
     show Q24 v r k H' n' R W=_
     unfold Q24
     cases W with
     | nil=>
       rw [Q4v]
       simp only [Q27,Qfp]
       cases af v <;> rfl
     | cons a b=> rfl
def QtA (P:Program) (orc:Orc) (rec:CF->Qar->Nat->Option Rs) (g:FuncId) (args:Array Value) (r:CR) (k kp:KV):Ans:=Option.rec (Option.rec none (fun c=> Q0G r k kp (rec c r.H r.n)) (Qc2 P g args)) (fun _=> fin k kp (Qs9 P orc rec g args r)) (orc g args r.H r.n)
theorem Qwz (P:Program) (orc:Orc) (rec:CF->Qar->Nat->Option Rs) (g:FuncId) (args:Array Value) (r:CR) (k kp:KV):QtA P orc rec g args r k kp=fin k kp (Qs9 P orc rec g args r):=by
 unfold QtA
 cases ho:orc g args r.H r.n with
 | some x=> rfl
 | none=>
   unfold Qs9
   rw [ho]
   show (Option.rec none (fun c=> Q0G r k kp (rec c r.H r.n)) (Qc2 P g args):Ans)=fin k kp (Q4G P rec g args r)
   unfold Q4G
   cases Qc2 P g args with
   | none=> rfl
   | some c=>
     show Q0G r k kp (rec c r.H r.n)=_
     rw [Q0o]
     rfl
def Q2c (P:Program) (orc:Orc) (rec:CF->Qar->Nat->Option Rs) (n:Nat) (x:Option CR) (k kp:KV):Ans:=Option.rec none (fun r=> CN.rec (fun _=> fin k kp (qR P orc rec n (some r))) (fun g args=> Bool.rec none (QtA P orc rec g args r k kp) (r.R.all (fun i=> Nat.blt i n))) (fun _ _ _ _ _=> fin k kp (qR P orc rec n (some r))) r.nx) x
theorem Q0A (P:Program) (orc:Orc) (rec:CF->Qar->Nat->Option Rs) (n:Nat) (x:Option CR) (k kp:KV):Q2c P orc rec n x k kp=fin k kp (qR P orc rec n x):=by
 cases x with
 | none=> rfl
 | some r=>
   obtain ⟨nx,H',n',R,W⟩:=r
   cases nx with
   | val v=> rfl
   | round l fn tm a b=> rfl
   | enter g args=>
     show (Bool.rec none (QtA P orc rec g args ⟨.enter g args,H',n',R,W⟩ k kp) (R.all (fun i=> Nat.blt i n)):Ans)=_
     rw [Qwz]
     simp only [qR]
     cases R.all (fun i=> Nat.blt i n) <;> rfl
def Q4M (c:Call):Arm:=fun P F orc rec _ tr o H n k kp=> Q2c P orc rec n (Qlo P F (evF tr) o c H n) k kp
def Qhk:Arm:=fun P F orc rec len tr o H n k kp=> fin k kp (opQ P F orc rec ⟨len,tr⟩ o H n)
def opF (op:Op):Arm:=Op.rec Q4d Q4d Q4I (fun _=> Qhk) (fun _ _=> Qhk) (fun _ _=> Qhk) (fun _ _ _=> Qhk) (fun _ _ _ _=> Qhk) Q4O Q3N (fun _=> Qhk) (fun _=> Qhk) (fun _=> Qhk) Q5w (fun _ _ _=> Qhk) (fun _ _ _=> Qhk) (fun _ _=> Qhk) (fun _ _=> Qhk)
 (fun _ _ _=> Qhk) (fun _ _=> Qhk) (fun _ _=> Qhk) (fun _ _ _=> Qhk) (fun _ _ _ _ _=> Qhk) QtS Q3x QuV (fun _ _ _=> Qhk) (fun _ _ _ _=> Qhk) (fun _ _ _ _=> Qhk) (fun _ _ _=> Qhk) (fun _ _ _ _=> Qhk) (fun _ _=> Qhk) (fun _ _=> Qhk) (fun _=> Qhk) (fun _ _ _ _=> Qhk)
 Q0R Q4M (fun _=> Qhk) (fun _=> Qhk) (fun _=> Qhk) (fun _ _=> Qhk) (fun _ _ _=> Qhk) (fun _ _=> Qhk) op
theorem Q34 (P:Program) (F:FuncId->Bool) (orc:Orc) (rec:CF->Qar->Nat->Option Rs) (len:Nat) (tr:Tri) (o:Oper) (H:Qar) (n:Nat) (k kp:KV):opF o.op P F orc rec len tr o H n k kp=fin k kp (opQ P F orc rec ⟨len,tr⟩ o H n):=by
 have e:=Q1O len tr
 cases hp:o.op with
 | move x=> show pv k H n (evF tr x)=_;rw [e];unfold opQ;simp only [hp];exact (Qj0 k kp H n _).symm
 | assign x=> show pv k H n (evF tr x)=_;rw [e];unfold opQ;simp only [hp];exact (Qj0 k kp H n _).symm
 | pick c a b=>
   show (Option.rec none (fun v=> Option.rec none (fun t=> Bool.rec (pv k H n (evF tr b)) (pv k H n (evF tr a)) t) (Qhn v)) (evF tr c):Ans)=_
   rw [e];unfold opQ;simp only [hp]
   cases evC ⟨len,tr⟩ c with
   | none=> rfl
   | some v=>
     cases v with
     | bool t=> cases t <;> exact (Qj0 k kp H n _).symm
     | _=> rfl
 | load t a=>
   show (Option.rec none (fun p=> Option.rec none (fun vb=> Prod.rec (fun v b=> Bool.rec none (k v H n [b] []) (Nat.blt b n)) vb) (Qtg P t H p)) (evF tr a):Ans)=_
   simp only [Qyv];rw [e];unfold opQ;simp only [hp]
   cases evC ⟨len,tr⟩ a with
   | none=> rfl
   | some p=>
     simp only [Q2T]
     cases Qji P t H p with
     | none=> rfl
     | some vb=>
       obtain ⟨v,b⟩:=vb
       cases hb:Nat.blt b n <;> simp [qR,fin,Q14,hb]
 | store t a x=>
   show (Option.rec none (fun p=> Option.rec none (fun v=> Option.rec none (fun hb=> Prod.rec (fun H' b=> Bool.rec none (k undef H' n [b] [b]) (Nat.blt b n)) hb) (Qov P t H v p)) (evF tr x)) (evF tr a):Ans)=_
   simp only [QuG];rw [e];unfold opQ;simp only [hp]
   cases evC ⟨len,tr⟩ a with
   | none=> rfl
   | some p=>
     cases evC ⟨len,tr⟩ x with
     | none=> rfl
     | some v=>
       simp only [Qxn]
       cases Qhm P t H v p with
       | none=> rfl
       | some vb=>
         obtain ⟨H',b⟩:=vb
         cases hb:Nat.blt b n <;> simp [qR,fin,Q14,hb]
 | fieldAddr s x f=>
   show (Option.rec none (fun p=> pv k H n (QbU P s f p)) (evF tr x):Ans)=_
   rw [e];unfold opQ;simp only [hp]
   cases evC ⟨len,tr⟩ x with
   | none=> rfl
   | some p=> simp only [QiA,QgN];exact (Qj0 k kp H n _).symm
 | field s x f=>
   show (Option.rec none (fun p=> pv k H n (QnU P s f p)) (evF tr x):Ans)=_
   simp only [Qvd];rw [e];unfold opQ;simp only [hp]
   cases evC ⟨len,tr⟩ x with
   | none=> rfl
   | some p=> simp only [Qzz,QgN];exact (Qj0 k kp H n _).symm
 | indexAddr t x i=>
   show (Option.rec none (fun p=> Option.rec none (fun j=> pv k H n (QeH P t p j)) (evF tr i)) (evF tr x):Ans)=_
   rw [e];unfold opQ;simp only [hp]
   cases evC ⟨len,tr⟩ x with
   | none=> rfl
   | some p=>
     cases evC ⟨len,tr⟩ i with
     | none=> rfl
     | some j=> simp only [Qjg,QgN];exact (Qj0 k kp H n _).symm
 | extract x i=>
   show (Option.rec none (fun p=> pv k H n (QgU i p)) (evF tr x):Ans)=_
   rw [e];unfold opQ;simp only [hp]
   cases evC ⟨len,tr⟩ x with
   | none=> rfl
   | some p=> simp only [Qog,QgN];exact (Qj0 k kp H n _).symm
 | binOp op t x y t'=>
   show (Option.rec none (fun a=> Option.rec none (fun b=> Option.rec (pv k H n (QeA P (evF tr) o)) (fun v=> k v H n [] []) (Q2X op a b)) (evF tr y)) (evF tr x):Ans)=_
   rw [e];unfold opQ;simp only [hp]
   cases evC ⟨len,tr⟩ x with
   | none=> rfl
   | some a=>
     cases evC ⟨len,tr⟩ y with
     | none=> rfl
     | some b=>
       simp only [Q4Y]
       cases Q2X op a b with
       | none=> simp only [QgN];exact (Qj0 k kp H n _).symm
       | some v=> rfl
 | call c=> show Q2c P orc rec n (Qlo P F (evF tr) o c H n) k kp=_;rw [Q0A,e];unfold opQ;simp only [hp]
 | _=> rfl
def QzH (r:Rec) (x:Ans):Ans:=Option.rec none (fun p=> Prod.rec (fun rs f=> some (r::rs,f)) p) x
def Q1g (P:Program) (F:FuncId->Bool) (orc:Orc) (rec:CF->Qar->Nat->Option Rs) (len:Nat) (ops:Array Oper) (l:List Oper):Tri->Qar->Nat->Ans:=
 List.rec (fun tr H n=> some ([],.ok ⟨len,tr⟩ H n)) (fun o _ ih tr H n=> Bool.rec
  (QzH ⟨o,false,undef,⟨len,tr⟩,H,H,n,n,[],[]⟩ (ih (Q3u tr o.dst undef) H n))
  (opF o.op P F orc rec len tr o H n (fun v H' n' R W=> QzH ⟨o,true,v,⟨len,tr⟩,H,H',n,n',R,W⟩ (ih (Q3u tr o.dst v) H' n')) (fun v H' n' R W=> some ([],.pan ⟨len,tr⟩ v H' n' R W)))
  (Q10 ops tr o.guard)) l
def QsL (len:Nat) (l:List Oper):Bool:=l.all fun o=> Qiu ⟨len,.lf⟩ o.dst
theorem QsT (P:Program) (F:FuncId->Bool) (orc:Orc) (rec:CF->Qar->Nat->Option Rs) (len:Nat) (ops:Array Oper):∀(l:List Oper) (tr:Tri) (H:Qar) (n:Nat),QsL len l=true->Q1g P F orc rec len ops l tr H n=Qh2 P F orc rec ops l ⟨len,tr⟩ H n
 | [],_,_,_,_=> rfl
 | o::l,tr,H,n,hd=> by
   simp only [QsL,List.all_cons,Bool.and_eq_true] at hd
   have hd1:Qiu ⟨len,tr⟩ o.dst=true:=by
    have:=hd.1
    cases hq:o.dst with
    | none=> rfl
    | some x=> rw [hq] at this;exact this
   have ih:=QsT P F orc rec len ops l
   show (Bool.rec (QzH ⟨o,false,undef,⟨len,tr⟩,H,H,n,n,[],[]⟩ (Q1g P F orc rec len ops l (Q3u tr o.dst undef) H n))
    (opF o.op P F orc rec len tr o H n (fun v H' n' R W=> QzH ⟨o,true,v,⟨len,tr⟩,H,H',n,n',R,W⟩ (Q1g P F orc rec len ops l (Q3u tr o.dst v) H' n')) (fun v H' n' R W=> some ([],.pan ⟨len,tr⟩ v H' n' R W)))
    (Q10 ops tr o.guard):Ans)=_
   rw [Q1m len]
   simp only [Qh2,hd1,cond_true]
   cases Region.wanted o (Qbh ops ⟨len,tr⟩) with
   | false=>
     simp only [cond_false]
     rw [ih _ _ _ hd.2,QyE]
     cases Qh2 P F orc rec ops l (Qgh ⟨len,tr⟩ o.dst undef) H n <;> rfl
   | true=>
     simp only [cond_true,Q34]
     cases opQ P F orc rec ⟨len,tr⟩ o H n with
     | none=> rfl
     | some s=>
       obtain ⟨out,H',n',R,W⟩:=s
       cases out with
       | pan v=> rfl
       | ret v=>
         simp only [fin]
         rw [ih _ _ _ hd.2,QyE]
         cases Qh2 P F orc rec ops l (Qgh ⟨len,tr⟩ o.dst v) H' n' <;> rfl
def QhZ (ops:Array Oper) (o:Oper) (k:Nat):List Oper->List (List Nat)->Bool
 | x::l,b::bs=> (b.contains k || o.apart ops x) && QhZ ops o k l bs
 | [],_=> true
 | _::_,[]=> false
def stat (ops:Array Oper):Nat->List Oper->List (List Nat)->Bool
 | k,o::l,_::bs=> QhZ ops o k l bs && stat ops (k+1) l bs
 | _,[],_=> true
 | _,_::_,[]=> false
def Qm9 (i:Nat) (l:List Nat):Bool:=List.rec false (fun j _ ih=> Bool.rec ih true (Nat.beq i j)) l
theorem QjJ (i:Nat):∀(l:List Nat),Qm9 i l=l.contains i
 | []=> rfl
 | j::l=> by
   show (Bool.rec (Qm9 i l) true (Nat.beq i j):Bool)=_
   rw [QjJ i l,List.contains_cons]
   by_cases e:i=j
   ·subst e
    rw [Nat.beq_refl]
    simp
   ·rw [QhY e]
    simp [e]
def Qtr (W R:List Nat):Bool:=List.rec false (fun i _ ih=> Bool.rec ih true (Qm9 i R)) W
theorem QlJ (R:List Nat):∀(W:List Nat),Qtr W R=W.any fun i=> R.contains i
 | []=> rfl
 | i::W=> by
   show (Bool.rec (Qtr W R) true (Qm9 i R):Bool)=_
   rw [QlJ R W,QjJ,List.any_cons]
   cases R.contains i <;> rfl
def QsI (lo hi:Nat) (R:List Nat):Bool:=List.rec false (fun i _ ih=> Bool.rec ih (Bool.rec ih true (Nat.blt i hi)) (Nat.ble lo i)) R
theorem Qpn (lo hi:Nat):∀(R:List Nat),QsI lo hi R=R.any fun i=> Nat.ble lo i && Nat.blt i hi
 | []=> rfl
 | i::R=> by
   show (Bool.rec (QsI lo hi R) (Bool.rec (QsI lo hi R) true (Nat.blt i hi)) (Nat.ble lo i):Bool)=_
   rw [Qpn lo hi R,List.any_cons]
   cases Nat.ble lo i <;> cases Nat.blt i hi <;> rfl
def clear (r x:Rec):Bool:=Bool.rec (Bool.rec (Bool.rec true false (QsI r.n r.n' x.R)) false (Qtr x.W r.R)) false (Qtr r.W x.R)
theorem Quk {ops:Array Oper} {r x:Rec} (h:clear r x=true) (ha:r.o.apart ops x.o=true):tied ops r x=false:=by
 unfold clear at h
 rw [Qpn,QlJ,QlJ] at h
 unfold tied meets bears
 rw [ha]
 revert h
 cases r.W.any fun i=> x.R.contains i <;> cases x.W.any fun i=> r.R.contains i <;> cases x.R.any fun i=> Nat.ble r.n i && Nat.blt i r.n' <;> simp
def Qh1 (r:Rec) (k:Nat) (l:List Rec):List (List Nat)->Bool:=List.rec (fun _=> true) (fun x _ ih bs=> List.rec false (fun b bs' _=> Bool.rec (Bool.rec false (ih bs') (Qm9 k b)) (ih bs') (clear r x)) bs) l
def dyn (l:List Rec):Nat->List (List Nat)->Bool:=List.rec (fun _ _=> true) (fun r l ih k bs=> List.rec false (fun _ bs' _=> Bool.rec false (ih (k+1) bs') (Qh1 r k l bs')) bs) l
theorem QkY {ops:Array Oper} {r:Rec} (k:Nat):∀(l:List Rec) (bs:List (List Nat)),Qh1 r k l bs=true->QhZ ops r.o k (l.map (·.o)) bs=true->Qe3 ops r k l bs=true
 | [],_,_,_=> by simp [Qe3]
 | x::l,[],_,h=> by simp [QhZ] at h
 | x::l,b::bs,hd,h=> by
   simp only [List.map_cons,QhZ,Bool.and_eq_true,Bool.or_eq_true] at h
   simp only [Qe3,Bool.and_eq_true,Bool.or_eq_true,Bool.not_eq_true']
   have hd:(Bool.rec (Bool.rec false (Qh1 r k l bs) (Qm9 k b)) (Qh1 r k l bs) (clear r x):Bool)=true:=hd
   cases hc:clear r x with
   | true=>
     rw [hc] at hd
     exact ⟨h.1.imp id fun ha=> Quk hc ha,QkY k l bs hd h.2⟩
   | false=>
     rw [hc] at hd
     have hd:(Bool.rec false (Qh1 r k l bs) (Qm9 k b):Bool)=true:=hd
     cases he:Qm9 k b with
     | false=> rw [he] at hd;cases hd
     | true=>
       rw [he] at hd
       rw [QjJ] at he
       exact ⟨.inl he,QkY k l bs hd h.2⟩
theorem QmG {ops:Array Oper}:∀(l:List Rec) (bs:List (List Nat)) (k:Nat),dyn l k bs=true->stat ops k (l.map (·.o)) bs=true->indep ops k l bs=true
 | [],_,_,_,_=> by simp [indep]
 | x::l,[],_,_,h=> by simp [stat] at h
 | x::l,b::bs,k,hd,h=> by
   simp only [List.map_cons,stat,Bool.and_eq_true] at h
   simp only [indep,Bool.and_eq_true]
   have hd:(Bool.rec false (dyn l (k+1) bs) (Qh1 x k l bs):Bool)=true:=hd
   cases hc:Qh1 x k l bs with
   | false=> rw [hc] at hd;cases hd
   | true=>
     rw [hc] at hd
     exact ⟨QkY k l bs hc h.1,QmG l bs (k+1) hd h.2⟩
theorem Qku {P:Program} {F:FuncId->Bool} {orc:Orc} {rec:CF->Qar->Nat->Option Rs} {ops:Array Oper}:∀(l:List Oper) (T:Tm) (H:Qar) (n:Nat) (recs:List Rec) (T':Tm) (H':Qar) (n':Nat),Qh2 P F orc rec ops l T H n=some (recs,.ok T' H' n')->recs.map (·.o)=l
 | [],T,H,n,recs,T',H',n',h=> by
   simp only [Qh2,Option.some.injEq,Prod.mk.injEq] at h
   rw [<-h.1];rfl
 | o::l,T,H,n,recs,T',H',n',h=> by
   simp only [Qh2] at h
   have h:=QfL h
   cases hw:Region.wanted o (Qbh ops T) with
   | true=>
     rw [hw] at h
     simp only [cond_true] at h
     split at h
     ·split at h
      ·split at h
       ·rename_i rs f hr
        simp only [Option.some.injEq,Prod.mk.injEq] at h
        obtain ⟨rfl,rfl⟩:=h
        simp [Qku l _ _ _ _ _ _ _ hr]
       ·cases h
      ·simp only [Option.some.injEq,Prod.mk.injEq] at h
       cases h.2
     ·cases h
   | false=>
     rw [hw] at h
     simp only [cond_false] at h
     split at h
     ·rename_i rs f hr
      simp only [Option.some.injEq,Prod.mk.injEq] at h
      obtain ⟨rfl,rfl⟩:=h
      simp [Qku l _ _ _ _ _ _ _ hr]
     ·cases h
def QrT (ops:Array Oper):Bool:=Qdx 0 ops.toList && stat ops 0 ops.toList (Qm5 ops.toList [])
def chk (ops:Array Oper) (recs:List Rec) (draw:Bool):Bool:=Bool.rec true (Bool.rec (Qdx 0 ops.toList && indep ops 0 recs (Qm5 ops.toList [])) (Bool.rec (Qdx 0 ops.toList && indep ops 0 recs (Qm5 ops.toList [])) true (dyn recs 0 (Qm5 ops.toList []))) (QrT ops)) draw
theorem Q3P {ops:Array Oper} {recs:List Rec} {draw:Bool} (h:recs.map (·.o)=ops.toList):chk ops recs draw=(!draw || (Qdx 0 ops.toList && indep ops 0 recs (Qm5 ops.toList []))):=by
 unfold chk
 cases draw with
 | false=> rfl
 | true=>
   simp only [Bool.not_true,Bool.false_or]
   cases hs:QrT ops with
   | false=> rfl
   | true=>
     cases hc:dyn recs 0 (Qm5 ops.toList []) with
     | false=> rfl
     | true=>
       unfold QrT at hs
       simp only [Bool.and_eq_true] at hs
       rw [hs.1,QmG recs _ 0 hc (by rw [h];exact hs.2)]
       rfl
def Qp1 (b:Nat) (l:List Nat):List Nat->List Nat:=List.rec (fun acc=> acc) (fun x _ ih acc=> Bool.rec (ih acc) (Bool.rec (ih (x::acc)) (ih acc) (Qm9 x acc)) (Nat.blt x b)) l
theorem QjQ (b:Nat):∀(l acc:List Nat),Qp1 b l acc=QdQ b l acc
 | [],_=> rfl
 | x::l,acc=> by
   show (Bool.rec (Qp1 b l acc) (Bool.rec (Qp1 b l (x::acc)) (Qp1 b l acc) (Qm9 x acc)) (Nat.blt x b):List Nat)=_
   rw [QjQ b l,QjQ b l,QjJ,QdQ]
   cases Nat.blt x b <;> cases acc.contains x <;> rfl
theorem QnG (b:Nat):∀(l m acc:List Nat),QdQ b (l++m) acc=QdQ b m (QdQ b l acc)
 | [],_,_=> rfl
 | x::l,m,acc=> by simp only [List.cons_append,QdQ];exact QnG b l m _
def Q5f (b:Nat) (recs:List Rec):List Nat->List Nat:=List.rec (fun acc=> acc) (fun r _ ih acc=> ih (Qp1 b r.R acc)) recs
theorem Qzq (b:Nat):∀(recs:List Rec) (acc:List Nat),Q5f b recs acc=QdQ b (Qkt recs) acc
 | [],_=> rfl
 | r::l,acc=> by
   show Q5f b l (Qp1 b r.R acc)=_
   rw [Qzq b l,QjQ,show Qkt (r::l)=r.R++Qkt l from List.flatMap_cons,QnG]
def Q5d (b:Nat) (recs:List Rec):List Nat->List Nat:=List.rec (fun acc=> acc) (fun r _ ih acc=> ih (Qp1 b r.W acc)) recs
theorem QxP (b:Nat):∀(recs:List Rec) (acc:List Nat),Q5d b recs acc=QdQ b (QhF recs) acc
 | [],_=> rfl
 | r::l,acc=> by
   show Q5d b l (Qp1 b r.W acc)=_
   rw [QxP b l,QjQ,show QhF (r::l)=r.W++QhF l from List.flatMap_cons,QnG]
def Q2V (P:Program) (F:FuncId->Bool) (orc:Orc) (rec:CF->Qar->Nat->Option Rs) (len:Nat) (tr:Tri) (ops:Array Oper) (H:Qar) (n:Nat):Ans:=
 Bool.rec (Qh2 P F orc rec ops ops.toList ⟨len,tr⟩ H n) (Q1g P F orc rec len ops ops.toList tr H n) (QsL len ops.toList)
theorem Q0D (P:Program) (F:FuncId->Bool) (orc:Orc) (rec:CF->Qar->Nat->Option Rs) (len:Nat) (tr:Tri) (ops:Array Oper) (H:Qar) (n:Nat):Q2V P F orc rec len tr ops H n=Qh2 P F orc rec ops ops.toList ⟨len,tr⟩ H n:=by
 unfold Q2V
 cases hd:QsL len ops.toList with
 | false=> rfl
 | true=> exact QsT P F orc rec len ops _ _ _ _ hd
abbrev Run:=Nat->FuncId->Nat->Tri->List Item->List Nat->Option Nat->Qar->Nat->List Nat->List Nat->Option Rs
def Q4Z (P:Program) (F:FuncId->Bool) (orc:Orc) (fuel:Nat) (ih:Run) (c1:CF) (H1:Qar) (n1:Nat):Option Rs:=
 CF.rec (fun fn T todo ds mode ro=> CM.rec (Tm.rec (fun len tr=> ih n1 fn len tr todo ds ro H1 n1 [] []) T) (Qhf P F orc fuel n1 ⟨fn,T,todo,ds,.ret,ro⟩ H1 n1 [] []) (fun v=> Qhf P F orc fuel n1 ⟨fn,T,todo,ds,.pan v,ro⟩ H1 n1 [] []) mode) c1
def goF (P:Program) (F:FuncId->Bool) (orc:Orc) (fuel:Nat) (ih:Run) (b:Nat) (c1:CF) (H1:Qar) (n1:Nat) (R W:List Nat):Option Rs:=
 CF.rec (fun fn T todo ds mode ro=> CM.rec (Tm.rec (fun len tr=> ih b fn len tr todo ds ro H1 n1 R W) T) (Qhf P F orc fuel b ⟨fn,T,todo,ds,.ret,ro⟩ H1 n1 R W) (fun v=> Qhf P F orc fuel b ⟨fn,T,todo,ds,.pan v,ro⟩ H1 n1 R W) mode) c1
def resume (P:Program) (F:FuncId->Bool) (orc:Orc) (fuel:Nat) (ih:Run) (b:Nat) (R W:List Nat) (x:Option FS):Option Rs:=
 Option.rec none (fun fs=> FS.rec (fun c' H' n' R' W'=> goF P F orc fuel ih b c' H' n' (QdQ b R' R) (QdQ b W' W)) (fun out H' n' R' W'=> some ⟨out,H',n',QdQ b R' R,QdQ b W' W⟩) fs) x
abbrev ItA:=Program->(FuncId->Bool)->Orc->Nat->Run->Nat->FuncId->Nat->Tri->List Item->List Nat->Option Nat->Qar->Nat->List Nat->List Nat->Option Rs
def QiR (it:Item):ItA:=fun P F orc fuel ih b fn len tr k ds ro H n R W=> resume P F orc fuel ih b R W (Qnf P F orc (Q4Z P F orc fuel ih) ⟨fn,⟨len,tr⟩,it::k,ds,.run,ro⟩ H n)
def QzB:ItA:=fun _ _ _ _ ih b fn len tr k ds ro H n R W=> ih b fn len tr k ds ro H n R W
def Q5x (x y:Code):ItA:=fun _ _ _ _ ih b fn len tr k ds ro H n R W=> ih b fn len tr (.code x::.code y::k) ds ro H n R W
def Q4W (q:Operand) (x y:Code):ItA:=fun _ _ _ _ ih b fn len tr k ds ro H n R W=> Option.rec none (fun v=> Option.rec none (fun t=> Bool.rec (ih b fn len tr (.code y::k) ds ro H n R W) (ih b fn len tr (.code x::k) ds ro H n R W) t) (Qhn v)) (evF tr q)
def Q3L (id:Nat) (x:Code):ItA:=fun _ _ _ _ ih b fn len tr k ds ro H n R W=> ih b fn len tr (.code x::.inBlock id::k) ds ro H n R W
def Q35 (x:Code):ItA:=fun _ _ _ _ ih b fn len tr k ds ro H n R W=> ih b fn len tr (.code x::.inLoop x::k) ds ro H n R W
def Q3T (x:Code):ItA:=fun _ _ _ _ ih b fn len tr k ds ro H n R W=> ih b fn len tr (.code x::.inScope x::k) ds ro H n R W
def Qr7 (id:Nat) (ops:Array Oper) (draw:Bool):ItA:=fun P F orc fuel ih b fn len tr k ds ro H n R W=>
 Option.rec none (fun p=> Prod.rec (fun recs f=> RF.rec (fun T' H' n'=> Bool.rec none (Tm.rec (fun len' tr'=> ih b fn len' tr' k ds ro H' n' (Q5f b recs R) (Q5d b recs W)) T') (chk ops recs draw))
  (fun T' v H' n' R1 W1=> resume P F orc fuel ih b R W (Q4P ⟨fn,⟨len,tr⟩,.code (.region id ops draw)::k,ds,.run,ro⟩ ops draw k (some (recs,.pan T' v H' n' R1 W1)))) f) p) (Q2V P F orc (Q4Z P F orc fuel ih) len tr ops H n)
def codeF (cd:Code):ItA:=Code.rec QzB Qr7 (fun x y _ _=> Q5x x y) (fun q x y _ _=> Q4W q x y) (fun id x _=> Q3L id x) (fun x _=> Q35 x) (fun f ps x y _ _=> QiR (.code (.rangeFunc f ps x y))) (fun id=> QiR (.code (.exit id))) (fun x _=> Q3T x) (fun _=> QzB) (fun l=> QiR (.code (.goto l))) (QiR (.code .ret)) (fun w=> QiR (.code (.refuse w))) cd
def Q4j (it:Item):ItA:=Item.rec codeF (fun _=> QzB) Q35 (fun _=> QzB) (fun a b=> QiR (.inRegion a b)) (fun l=> QiR (.inRangeFunc l)) (fun l=> QiR (.endRangeFunc l)) (QiR .beginRound) (fun a b c d=> QiR (.call a b c d)) (fun a b=> QiR (.extern a b)) it
def Qlp (P:Program) (F:FuncId->Bool) (orc:Orc) (fuel:Nat):Run:=Nat.rec (fun _ _ _ _ _ _ _ _ _ _ _=> none) (fun fuel ih b fn len tr todo ds ro H n R W=>
 List.rec (resume P F orc fuel ih b R W (Qhj ⟨fn,⟨len,tr⟩,[],ds,.run,ro⟩ H n none)) (fun it k _=> Q4j it P F orc fuel ih b fn len tr k ds ro H n R W) todo) fuel
theorem Qob (P:Program) (F:FuncId->Bool) (orc:Orc):∀(fuel b:Nat) (fn:FuncId) (len:Nat) (tr:Tri) (todo:List Item) (ds:List Nat) (ro:Option Nat) (H:Qar) (n:Nat) (R W:List Nat),Qlp P F orc fuel b fn len tr todo ds ro H n R W=Qhf P F orc fuel b ⟨fn,⟨len,tr⟩,todo,ds,.run,ro⟩ H n R W
 | 0,_,_,_,_,_,_,_,_,_,_,_=> rfl
 | fuel+1,b,fn,len,tr,todo,ds,ro,H,n,R,W=> by
   have hih:∀(b:Nat) (fn:FuncId) (len:Nat) (tr:Tri) (todo:List Item) (ds:List Nat) (ro:Option Nat) (H:Qar) (n:Nat) (R W:List Nat),Qlp P F orc fuel b fn len tr todo ds ro H n R W=Qhf P F orc fuel b ⟨fn,⟨len,tr⟩,todo,ds,.run,ro⟩ H n R W:=Qob P F orc fuel
   have hrec:Q4Z P F orc fuel (Qlp P F orc fuel)=fun c1 H1 n1=> Qhf P F orc fuel n1 c1 H1 n1 [] []:=by
    funext c1 H1 n1
    obtain ⟨fn,⟨len,tr⟩,todo,ds,mode,ro⟩:=c1
    cases mode with
    | run=> exact hih _ _ _ _ _ _ _ _ _ _ _
    | ret=> rfl
    | pan v=> rfl
   have hres:∀(R W:List Nat) (x:Option FS),resume P F orc fuel (Qlp P F orc fuel) b R W x=match x with
    | some (.go c' H' n' R' W')=> Qhf P F orc fuel b c' H' n' (QdQ b R' R) (QdQ b W' W)
    | some (.done out H' n' R' W')=> some ⟨out,H',n',QdQ b R' R,QdQ b W' W⟩
    | none=> none:=by
    intro R W x
    cases x with
    | none=> rfl
    | some fs=>
      cases fs with
      | done out H' n' R' W'=> rfl
      | go c' H' n' R' W'=>
        obtain ⟨fn,⟨len,tr⟩,todo,ds,mode,ro⟩:=c'
        cases mode with
        | run=> exact hih _ _ _ _ _ _ _ _ _ _ _
        | ret=> rfl
        | pan v=> rfl
   have hslow:∀(it:Item) (k:List Item),QiR it P F orc fuel (Qlp P F orc fuel) b fn len tr k ds ro H n R W=Qhf P F orc (fuel+1) b ⟨fn,⟨len,tr⟩,it::k,ds,.run,ro⟩ H n R W:=by
    intro it k
    unfold QiR
    rw [hres,hrec]
    rfl
   cases todo with
   | nil=> exact hres R W _
   | cons it k=>
     show Q4j it P F orc fuel (Qlp P F orc fuel) b fn len tr k ds ro H n R W=_
     cases it with
     | code cd=>
       cases cd with
       | skip=> exact hih _ _ _ _ _ _ _ _ _ _ _
       | label l=> exact hih _ _ _ _ _ _ _ _ _ _ _
       | seq x y=> exact hih _ _ _ _ _ _ _ _ _ _ _
       | block id x=> exact hih _ _ _ _ _ _ _ _ _ _ _
       | loop x=> exact hih _ _ _ _ _ _ _ _ _ _ _
       | scope x=> exact hih _ _ _ _ _ _ _ _ _ _ _
       | cond q x y=>
         show (Option.rec none (fun v=> Option.rec none (fun t=> Bool.rec (Qlp P F orc fuel b fn len tr (.code y::k) ds ro H n R W) (Qlp P F orc fuel b fn len tr (.code x::k) ds ro H n R W) t) (Qhn v)) (evF tr q):Option Rs)=_
         rw [Q1O len tr,hih,hih]
         simp only [Qhf,Qnf,QqP,QqD]
         cases evC ⟨len,tr⟩ q with
         | none=> rfl
         | some v=>
           cases v with
           | bool t=> cases t <;> rfl
           | _=> rfl
       | region id ops draw=>
         show Qr7 id ops draw P F orc fuel (Qlp P F orc fuel) b fn len tr k ds ro H n R W=_
         unfold Qr7
         rw [Q0D,hrec]
         simp only [Qhf,Qnf,QqP,QqD,Qzq,QxP]
         cases hrr:Qh2 P F orc (fun c1 H1 n1=> Qhf P F orc fuel n1 c1 H1 n1 [] []) ops ops.toList ⟨len,tr⟩ H n with
         | none=> rfl
         | some p=>
           obtain ⟨recs,f⟩:=p
           cases f with
           | pan v H' n' R1 W1=> exact hres R W _
           | ok T' H' n'=>
             have hck:=Q3P (draw:=draw) (Qku _ _ _ _ _ _ _ _ hrr)
             obtain ⟨len',tr'⟩:=T'
             simp only [Q4P]
             rw [hck]
             cases !draw || (Qdx 0 ops.toList && indep ops 0 recs (Qm5 ops.toList [])) with
             | false=> rfl
             | true=> exact hih _ _ _ _ _ _ _ _ _ _ _
       | rangeFunc f ps x y=> exact hslow _ k
       | exit id=> exact hslow _ k
       | goto id=> exact hslow _ k
       | ret=> exact hslow _ k
       | refuse w=> exact hslow (.code (.refuse w)) k
     | inBlock id=> exact hih _ _ _ _ _ _ _ _ _ _ _
     | inScope x=> exact hih _ _ _ _ _ _ _ _ _ _ _
     | inLoop x=> exact hih _ _ _ _ _ _ _ _ _ _ _
     | inRegion a b=> exact hslow _ k
     | inRangeFunc l=> exact hslow _ k
     | endRangeFunc l=> exact hslow _ k
     | beginRound=> exact hslow _ k
     | call a b c d=> exact hslow _ k
     | extern a b=> exact hslow _ k
end
end Go.CE
