/- The numbers of a set. -/
import Derived.Test.YtiabgkiccaodmaaGreatZSH10
set_option linter.all false
namespace Go.Proofs.YtiabgkiccaodmaaGreat
open Go Go.CE Go.RowKit
noncomputable section
set_option maxRecDepth 100000
def QcF (s:Int):Int:=if s=0 then 0 else ((s.toNat.log2+1:Nat):Int)
theorem Q4I:(List.range 64).all (fun x=> Qq4 (QmR YP (Qa1 YP) Qb4 10000 158 #[.int .u64 (x:Nat)] (Qft 0 []) ([]:List (Array Value×TypeId)).length) (.int .i64 (QcF (x:Nat))) [])=true:=by decide+kernel
theorem Q67 (s:Int) (h0:0<=s) (h1:s < 64):Qaq YP J0 158 #[.int .u64 s] (.int .i64 (QcF s)):=by
 obtain ⟨k,rfl⟩:∃k:Nat,s=k:=⟨s.toNat,by omega⟩
 exact Qrn okF Qab (fuel:=10000) (by kernel_rfl) (by kernel_rfl) (by kernel_rfl) (List.all_eq_true.1 Q4I k (List.mem_range.2 (by omega)))
theorem Q3p:(List.range 64).all (fun x=> decide (0<=QcF (x:Nat)) && decide (QcF (x:Nat)<=6))=true:=by decide+kernel
theorem QfI {s:Int} (h0:0<=s) (h1:s < 64):0<=QcF s/\QcF s<=6:=by
 obtain ⟨k,rfl⟩:∃k:Nat,s=k:=⟨s.toNat,by omega⟩
 have:=List.all_eq_true.1 Q3p k (List.mem_range.2 (by omega));simpa using this
def Qa8 {α:Type} [Inhabited α] (s:Int) (xs:List α) (n:Int):List α:=((upI n (QcF s)).filter (Qle s)).map fun k=> xs.getD k.toNat default
theorem Qfq {α:Type} [Inhabited α] {s n:Int} {xs:List α} (h:n < QcF s) (hb:Qle s n=true):Qa8 s xs n=[xs.getD n.toNat default]++Qa8 s xs (n+1):=by
 unfold Qa8;rw [QeL h,List.filter_cons_of_pos hb];rfl
theorem QiR {α:Type} [Inhabited α] {s n:Int} {xs:List α} (h:n < QcF s) (hb:Qle s n=false):Qa8 s xs n=Qa8 s xs (n+1):=by
 unfold Qa8;rw [QeL h,List.filter_cons_of_neg (by rw [hb];decide)]
theorem Qjq {α:Type} [Inhabited α] {s n:Int} {xs:List α} (h:QcF s<=n):Qa8 s xs n=[]:=by
 unfold Qa8;rw [Qiu h];rfl
theorem Q1d {α:Type} {acc:List α} (h:acc≠[]):acc.isEmpty=false:=by
 cases acc with
 | nil=> exact absurd rfl h
 | cons x l=> rfl
theorem Q5N {α:Type} {l:List α} (h:(!([]++l).isEmpty)=false):l=[]:=by
 cases l with
 | nil=> rfl
 | cons x l=> cases h
structure Qad where
 goods:List Span
 weight:Int
 cost:Int
deriving Inhabited
def Qap (l:Qad):List Value:=[Qnl l.goods,.int .i64 l.weight,.int .i64 l.cost]
abbrev Row:=List Int
def Qa0 (l:Row):List Value:=[slI l]

def Qhg (s:Int) (xs:List (Qad)):Qax:=[(2,Obj.cells #[.slice none 0 0] 60),(1,Obj.cells #[Qa4 0 (slT xs.length (Qac Qap xs))] 60),(0,Obj.coro none)]
def Qjc (s:Int) (xs:List (Qad)):CF:=⟨147,ofList 4 [.int .i64 s],[Item.code (Qar YP 147)],[],.run,none⟩
def Qe2 (s:Int) (xs:List (Qad)):Array Value:=#[.int .i64 s,Qa4 0 (slT xs.length (Qac Qap xs)),.tuple #[],pA 1 0,.slice none 0 0,pA 2 0,.tuple #[],.int .i64 s,Value.func (Fn.func 157) #[] #[Qa4 3 (ptT 0 #[.int .i64 s])],.tuple #[],.tuple #[],.tuple #[],.tuple #[],.tuple #[],.tuple #[],.tuple #[],.tuple #[],.tuple #[]]
def Qfk (xs:List (Qad)) (n:Int):Array Value:=#[Qa4 0 (slT (List.length (Qad.goods (xs.getD n.toNat default))) (Qac Qa7 (Qad.goods (xs.getD n.toNat default)))),.int .i64 (Qad.weight (xs.getD n.toNat default)),.int .i64 (Qad.cost (xs.getD n.toNat default))]
def QiS (xs:List (Qad)) (n:Int):Array Value:=#[slT (List.length (Qad.goods (xs.getD n.toNat default))) (Qac Qa7 (Qad.goods (xs.getD n.toNat default))),.int .i64 (Qad.weight (xs.getD n.toNat default)),.int .i64 (Qad.cost (xs.getD n.toNat default))]
theorem Qz3 (B:Lo) (s:Int) (xs:List (Qad)):CE.finK 3 (Qam YP (Qa1 YP) J0 B 6 3 (Qjc s xs) (Qhg s xs) 3
 [] 0 [] []) [] [] [{k:=3,rs:=[],cs:=#[.int .i64 s]}]=some (OO.ret (Value.func (Fn.func 157) #[] #[Qa4 3 (ptT 0 #[.int .i64 s])]),[],[],
 [Qbj (Fz.rs {k:=3,rs:=[],cs:=#[.int .i64 s]}) #[.int .i64 s] (Fz.cs {k:=3,rs:=[],cs:=#[.int .i64 s]})]):=by kernel_rfl
def Qmn (B:Lo) (s:Int) (xs:List (Qad)):List Prop:=[FJ YP B (Qjc s xs) (Qhg s xs) 3 (OO.ret (Value.func (Fn.func 157) #[] #[Qa4 3 (ptT 0 #[.int .i64 s])])) (([]++((3,Qb0)::QaR (3+1) []))++Qhg s xs) 4 (List.range 3) []]++([]:List Prop)
def Qr3 (s:Int) (xs:List (Qad)):Qaz:=[(4,Qaf.call (List.range 3) (OO.ret (Value.func (Fn.func 157) #[] #[Qa4 3 (ptT 0 #[.int .i64 s])])) ([]++(3,Qb0)::QaR 4 []) 4 [])]
def Qbq (s:Int) (xs:List (Qad)):Qax:=[(5,Obj.loop {state:=LoopState.ready,pending:=none,fn:=139,tmps:=#[.int .i64 s,Qa4 0 (slT xs.length (Qac Qap xs)),.tuple #[],pA 1 0,.slice none 0 0,pA 2 0,.tuple #[],.int .i64 s,Value.func (Fn.func 157) #[] #[Qa4 3 (ptT 0 #[.int .i64 s])],.tuple #[],.tuple #[],.tuple #[],.tuple #[],.tuple #[],.tuple #[],.tuple #[],.tuple #[],.tuple #[]],params:=#[9],assign:=nav (Qar YP 139) [1,1,0,1,0,0],body:=nav (Qar YP 139) [1,1,0,1,0,1],defers:=4}),(4,Obj.deferred (some [])),(3,Obj.coro none),(2,Obj.cells #[.slice none 0 0] 60),(1,Obj.cells #[Qa4 0 (slT xs.length (Qac Qap xs))] 60),(0,Obj.coro none)]
def Qc4 (s:Int) (xs:List (Qad)):CF:=⟨157,ofList 20 [Value.func (Fn.yield 5) #[] #[],Qa4 3 (ptT 0 #[.int .i64 s])],[Item.code (Qar YP 157)],[],.run,none⟩
def QcL (s:Int) (xs:List (Qad)) (n:Int):List Value:=[Value.func (Fn.yield 5) #[] #[],Qa4 3 (ptT 0 #[.int .i64 s]),.int .i64 (QcF s),.int .i64 n]
def QcR (s:Int) (xs:List (Qad)) (n:Int):List Obj:=[Obj.loop {state:=LoopState.ready,pending:=none,fn:=139,tmps:=#[.int .i64 s,Qa4 0 (slT xs.length (Qac Qap xs)),.tuple #[],pA 1 0,.slice none 0 0,pA 2 0,.tuple #[],.int .i64 s,Value.func (Fn.func 157) #[] #[Qa4 3 (ptT 0 #[.int .i64 s])],.tuple #[],.tuple #[],.tuple #[],.tuple #[],.tuple #[],.tuple #[],.tuple #[],.tuple #[],.tuple #[]],params:=#[9],assign:=nav (Qar YP 139) [1,1,0,1,0,0],body:=nav (Qar YP 139) [1,1,0,1,0,1],defers:=4},.cells #[.slice none 0 0] 60 (0,0)]
def QbB (s:Int) (xs:List (Qad)) (n:Int):List Obj:=[]
def QcS:List Item:=([.code [1,0,0],.inLoop [1,0,0],.inBlock 0]).map (it (Qar YP 157))
def QcX (s:Int) (xs:List (Qad)) (n:Int) (acc:List Qad) (acc_n:Nat):List Value:=[Value.func (Fn.yield 5) #[] #[],Qa4 3 (ptT 0 #[.int .i64 s]),.int .i64 (QcF s),.int .i64 n]
def QcM (s:Int) (xs:List (Qad)) (n:Int) (acc:List Qad) (acc_n:Nat):List Obj:=[Obj.loop {state:=LoopState.ready,pending:=none,fn:=139,tmps:=#[.int .i64 s,Qa4 0 (slT xs.length (Qac Qap xs)),.tuple #[],pA 1 0,.slice none 0 0,pA 2 0,.tuple #[],.int .i64 s,Value.func (Fn.func 157) #[] #[Qa4 3 (ptT 0 #[.int .i64 s])],.tuple #[],.tuple #[],.tuple #[],.tuple #[],.tuple #[],.tuple #[],.tuple #[],.tuple #[],.tuple #[]],params:=#[9],assign:=nav (Qar YP 139) [1,1,0,1,0,0],body:=nav (Qar YP 139) [1,1,0,1,0,1],defers:=4},.cells #[.slice (some ⟨7,0,none⟩) acc_n 3] 60 (0,0)]
def Qb9 (s:Int) (xs:List (Qad)) (n:Int) (acc:List Qad) (acc_n:Nat):List Obj:=[Obj.cells (Qac (Qa6 0 Qap) acc) 118 (0,0)]
def QcY:List Item:=([.code [1,0,0],.inLoop [1,0,0],.inBlock 0]).map (it (Qar YP 157))
def Qlt (B:Lo) (s:Int) (xs:List (Qad)) (n:Int) (dJ0:Nat->Value):List Prop:=[ltq n (QcF s)=true]++([]:List Prop)
def Qq0 (s:Int) (xs:List (Qad)) (n:Int) (dJ0:Nat->Value):Qaz:=[(0,hvT)]
def QgZ (s:Int) (xs:List (Qad)) (n:Int) (dJ0:Nat->Value):Qax:=[(5,Obj.loop {state:=LoopState.ready,pending:=none,fn:=139,tmps:=#[.int .i64 s,Qa4 0 (slT xs.length (Qac Qap xs)),.tuple #[],pA 1 0,.slice none 0 0,pA 2 0,.tuple #[],.int .i64 s,Value.func (Fn.func 157) #[] #[Qa4 3 (ptT 0 #[.int .i64 s])],.tuple #[],.tuple #[],.tuple #[],.tuple #[],.tuple #[],.tuple #[],.tuple #[],.tuple #[],.tuple #[]],params:=#[9],assign:=nav (Qar YP 139) [1,1,0,1,0,0],body:=nav (Qar YP 139) [1,1,0,1,0,1],defers:=4}),(2,Obj.cells #[.slice none 0 0] 60),(6,Obj.coro none),(5,Obj.loop {state:=LoopState.ready,pending:=none,fn:=139,tmps:=#[.int .i64 s,Qa4 0 (slT xs.length (Qac Qap xs)),.tuple #[],pA 1 0,.slice none 0 0,pA 2 0,.tuple #[],.int .i64 s,Value.func (Fn.func 157) #[] #[Qa4 3 (ptT 0 #[.int .i64 s])],.tuple #[],.tuple #[],.tuple #[],.tuple #[],.tuple #[],.tuple #[],.tuple #[],.tuple #[],.tuple #[]],params:=#[9],assign:=nav (Qar YP 139) [1,1,0,1,0,0],body:=nav (Qar YP 139) [1,1,0,1,0,1],defers:=4}),(4,Obj.deferred (some [])),(3,Obj.coro none),(2,Obj.cells #[.slice none 0 0] 60),(1,Obj.cells #[Qa4 0 (slT xs.length (Qac Qap xs))] 60),(0,Obj.coro none)]
def QiN (s:Int) (xs:List (Qad)) (n:Int) (dJ0:Nat->Value):CF:=⟨139,ofList 18 [.int .i64 s,Qa4 0 (slT xs.length (Qac Qap xs)),.tuple #[],pA 1 0,.slice none 0 0,pA 2 0,.tuple #[],.int .i64 s,Value.func (Fn.func 157) #[] #[Qa4 3 (ptT 0 #[.int .i64 s])],.int .i64 n,.tuple #[],.tuple #[],.tuple #[],.tuple #[],.tuple #[],.tuple #[],.tuple #[],.tuple #[]],[Item.code (nav (Qar YP 139) [1,1,0,1,0,0]),Item.beginRound,Item.code (nav (Qar YP 139) [1,1,0,1,0,1])],[],.run,some 5⟩
theorem Qxd (B:Lo) (s:Int) (xs:List (Qad)) (n:Int) (dJ0:Nat->Value):CE.finK 7 (Qam YP (Qa1 YP) J0 B 6 7 (QiN s xs n dJ0) (QgZ s xs n dJ0) 7
 [(4,Qaf.tidx n.toNat (QiS xs n))] 0 [] []) [(5,KS.auto),(2,KS.auto)] [(8,KS.auto)] []=some (OO.ret (.bool true),[(5,Obj.loop {state:=LoopState.ready,pending:=none,fn:=139,tmps:=#[.int .i64 s,Qa4 0 (slT xs.length (Qac Qap xs)),.tuple #[],pA 1 0,.slice none 0 0,pA 2 0,.tuple #[],.int .i64 s,Value.func (Fn.func 157) #[] #[Qa4 3 (ptT 0 #[.int .i64 s])],.tuple #[],.tuple #[],.tuple #[],.tuple #[],.tuple #[],.tuple #[],.tuple #[],.tuple #[],.tuple #[]],params:=#[9],assign:=nav (Qar YP 139) [1,1,0,1,0,0],body:=nav (Qar YP 139) [1,1,0,1,0,1],defers:=4}),(2,Obj.cells #[.slice (some {block:=8,off:=0}) 1 3] 60)],[Obj.cells #[Qa4 0 (slT (List.length (Qad.goods (xs.getD n.toNat default))) (Qac Qa7 (Qad.goods (xs.getD n.toNat default)))),.int .i64 (Qad.weight (xs.getD n.toNat default)),.int .i64 (Qad.cost (xs.getD n.toNat default))] 118],
 [n=(↑n.toNat:Int)/\Int.toNat n < List.length xs/\Array.extract (Qac Qap xs) (Int.toNat n * TypeInfo.size Tryz.t118) (Int.toNat n * TypeInfo.size Tryz.t118+TypeInfo.size Tryz.t118)=(QiS xs n)]):=by kernel_rfl
theorem Qya (B:Lo) (s:Int) (xs:List (Qad)) (n:Int) (dJ0:Nat->Value):CE.landA 6 (Qam YP (Qa1 YP) J0 B 16 6 (Qco (none) 157 20 (([0,1,6,7]:List Nat).zip (QcL s xs n)) dJ0 QcS) (Qb5 (Qbq s xs) 6 (([5,2]:List Nat).zip (QcR s xs n)) (QbB s xs n)) (6+1+(QbB s xs n).length)
 (Qq0 s xs n dJ0++[(5,Qaf.pure (.bool true) []),(9,Qaf.call (List.range 7) (OO.ret (.bool true)) ([(5,Obj.loop {state:=LoopState.ready,pending:=none,fn:=139,tmps:=(Qe2 s xs),params:=#[9],assign:=nav (Qar YP 139) [1,1,0,1,0,0],body:=nav (Qar YP 139) [1,1,0,1,0,1],defers:=4}),(2,Obj.cells #[.slice (some {block:=8,off:=0}) 1 3] 60)]++(7,Qb0)::QaR 8 [Obj.cells (Qfk xs n) 118]) 9 [5,2]),(12,hvI (n+1))]) 0 [] []) [0,1,6,7] [(5,KS.auto),(2,KS.auto)] [(8,KS.rows [(0,0)] [] (Qac (Qa6 0 Qap) [xs.getD n.toNat default]))] []=some ⟨157,20,QcY,[],.run,none,QcX s xs (n+1) ([xs.getD n.toNat default]) (1),([5,2]:List Nat).zip (QcM s xs (n+1) ([xs.getD n.toNat default]) (1)),Qb9 s xs (n+1) ([xs.getD n.toNat default]) (1),
 [QaX 6 [(0,0)] [] (Qfk xs n) (Qac (Qa6 0 Qap) [xs.getD n.toNat default]),wq (n+1)=n+1,FJ YP B (QiN s xs n dJ0) (QgZ s xs n dJ0) 7 (OO.ret (.bool true)) (([(5,Obj.loop {state:=LoopState.ready,pending:=none,fn:=139,tmps:=(Qe2 s xs),params:=#[9],assign:=nav (Qar YP 139) [1,1,0,1,0,0],body:=nav (Qar YP 139) [1,1,0,1,0,1],defers:=4}),(2,Obj.cells #[.slice (some {block:=8,off:=0}) 1 3] 60)]++((7,Qb0)::QaR (7+1) [Obj.cells (Qfk xs n) 118]))++QgZ s xs n dJ0) 9 (List.range 7) [5,2],QaA []/\Qaq YP J0 159 #[.int .i64 s,.int .i64 n] (.bool true)]++Qlt B s xs n dJ0⟩:=by kernel_rfl
theorem QwT (B:Lo) (s:Int) (xs:List (Qad)) (n:Int) (dJ0:Nat->Value):CE.landA 6 (Qam YP (Qa1 YP) J0 B 16 6 (Qco (none) 157 20 (([0,1,6,7]:List Nat).zip (QcL s xs n)) dJ0 QcS) (Qb5 (Qbq s xs) 6 (([5,2]:List Nat).zip (QcR s xs n)) (QbB s xs n)) (6+1+(QbB s xs n).length)
 (Qq0 s xs n dJ0++[(5,Qaf.pure (.bool false) []),(12,hvI (n+1))]) 0 [] []) [0,1,6,7] [(5,KS.auto),(2,KS.auto)] [] []=some ⟨157,20,QcS,[],.run,none,QcL s xs (n+1),([5,2]:List Nat).zip (QcR s xs (n+1)),QbB s xs (n+1),
 [wq (n+1)=n+1,QaA []/\Qaq YP J0 159 #[.int .i64 s,.int .i64 n] (.bool false)]++Qlt B s xs n dJ0⟩:=by kernel_rfl
theorem QyV (B:Lo) (s:Int) (xs:List (Qad)) (n:Int) (dJ0:Nat->Value):CE.finK 6 (Qam YP (Qa1 YP) J0 B 7 6 (Qco (none) 157 20 (([0,1,6,7]:List Nat).zip (QcL s xs n)) dJ0 QcS) (Qb5 (Qbq s xs) 6 (([5,2]:List Nat).zip (QcR s xs n)) (QbB s xs n)) (6+1+(QbB s xs n).length)
 [(0,hvF)] 0 [] []) [(5,KS.auto),(2,KS.auto)] [] []=some (OO.ret (.tuple #[]),[(5,Obj.loop {state:=LoopState.ready,pending:=none,fn:=139,tmps:=#[.int .i64 s,Qa4 0 (slT xs.length (Qac Qap xs)),.tuple #[],pA 1 0,.slice none 0 0,pA 2 0,.tuple #[],.int .i64 s,Value.func (Fn.func 157) #[] #[Qa4 3 (ptT 0 #[.int .i64 s])],.tuple #[],.tuple #[],.tuple #[],.tuple #[],.tuple #[],.tuple #[],.tuple #[],.tuple #[],.tuple #[]],params:=#[9],assign:=nav (Qar YP 139) [1,1,0,1,0,0],body:=nav (Qar YP 139) [1,1,0,1,0,1],defers:=4}),(2,Obj.cells #[.slice none 0 0] 60)],[],
 [ltq n (QcF s)=false]):=by kernel_rfl
def QlN (B:Lo) (s:Int) (xs:List (Qad)) (n:Int) (acc:List Qad) (acc_n:Nat) (dJ0:Nat->Value):List Prop:=[ltq n (QcF s)=true]++([]:List Prop)
def QpX (s:Int) (xs:List (Qad)) (n:Int) (acc:List Qad) (acc_n:Nat) (dJ0:Nat->Value):Qaz:=[(0,hvT)]
def QgR (s:Int) (xs:List (Qad)) (n:Int) (acc:List Qad) (acc_n:Nat) (dJ0:Nat->Value):Qax:=[(5,Obj.loop {state:=LoopState.ready,pending:=none,fn:=139,tmps:=#[.int .i64 s,Qa4 0 (slT xs.length (Qac Qap xs)),.tuple #[],pA 1 0,.slice none 0 0,pA 2 0,.tuple #[],.int .i64 s,Value.func (Fn.func 157) #[] #[Qa4 3 (ptT 0 #[.int .i64 s])],.tuple #[],.tuple #[],.tuple #[],.tuple #[],.tuple #[],.tuple #[],.tuple #[],.tuple #[],.tuple #[]],params:=#[9],assign:=nav (Qar YP 139) [1,1,0,1,0,0],body:=nav (Qar YP 139) [1,1,0,1,0,1],defers:=4}),(2,Obj.cells #[.slice (some {block:=7,off:=0}) acc_n 3] 60),(6,Obj.coro none),(7,Obj.cells (Qac (Qa6 0 Qap) acc) 118),(5,Obj.loop {state:=LoopState.ready,pending:=none,fn:=139,tmps:=#[.int .i64 s,Qa4 0 (slT xs.length (Qac Qap xs)),.tuple #[],pA 1 0,.slice none 0 0,pA 2 0,.tuple #[],.int .i64 s,Value.func (Fn.func 157) #[] #[Qa4 3 (ptT 0 #[.int .i64 s])],.tuple #[],.tuple #[],.tuple #[],.tuple #[],.tuple #[],.tuple #[],.tuple #[],.tuple #[],.tuple #[]],params:=#[9],assign:=nav (Qar YP 139) [1,1,0,1,0,0],body:=nav (Qar YP 139) [1,1,0,1,0,1],defers:=4}),(4,Obj.deferred (some [])),(3,Obj.coro none),(2,Obj.cells #[.slice none 0 0] 60),(1,Obj.cells #[Qa4 0 (slT xs.length (Qac Qap xs))] 60),(0,Obj.coro none)]
def QiE (s:Int) (xs:List (Qad)) (n:Int) (acc:List Qad) (acc_n:Nat) (dJ0:Nat->Value):CF:=⟨139,ofList 18 [.int .i64 s,Qa4 0 (slT xs.length (Qac Qap xs)),.tuple #[],pA 1 0,.slice none 0 0,pA 2 0,.tuple #[],.int .i64 s,Value.func (Fn.func 157) #[] #[Qa4 3 (ptT 0 #[.int .i64 s])],.int .i64 n,.tuple #[],.tuple #[],.tuple #[],.tuple #[],.tuple #[],.tuple #[],.tuple #[],.tuple #[]],[Item.code (nav (Qar YP 139) [1,1,0,1,0,0]),Item.beginRound,Item.code (nav (Qar YP 139) [1,1,0,1,0,1])],[],.run,some 5⟩
theorem Qxl (B:Lo) (s:Int) (xs:List (Qad)) (n:Int) (acc:List Qad) (acc_n:Nat) (dJ0:Nat->Value):CE.finK 8 (Qam YP (Qa1 YP) J0 B 6 8 (QiE s xs n acc acc_n dJ0) (QgR s xs n acc acc_n dJ0) 8
 [(4,Qaf.tidx n.toNat (QiS xs n)),(7,Qaf.old (Hint.app (Qac (Qa6 0 Qap) acc++(Qfk xs n))))] 0 [] []) [(7,KS.dead),(5,KS.auto),(2,KS.auto)] [(9,KS.rows [(0,0)] [] (Qac (Qa6 0 Qap) (acc++[xs.getD n.toNat default])))] []=some (OO.ret (.bool true),[(7,Obj.pending #[] 0),(5,Obj.loop {state:=LoopState.ready,pending:=none,fn:=139,tmps:=#[.int .i64 s,Qa4 0 (slT xs.length (Qac Qap xs)),.tuple #[],pA 1 0,.slice none 0 0,pA 2 0,.tuple #[],.int .i64 s,Value.func (Fn.func 157) #[] #[Qa4 3 (ptT 0 #[.int .i64 s])],.tuple #[],.tuple #[],.tuple #[],.tuple #[],.tuple #[],.tuple #[],.tuple #[],.tuple #[],.tuple #[]],params:=#[9],assign:=nav (Qar YP 139) [1,1,0,1,0,0],body:=nav (Qar YP 139) [1,1,0,1,0,1],defers:=4}),(2,Obj.cells #[.slice (some {block:=9,off:=0}) (acc_n+1) 3] 60)],[Obj.cells (Qac (Qa6 0 Qap) (acc++[xs.getD n.toNat default])) 118],
 [QaX 8 [(0,0)] [] (Qac (Qa6 0 Qap) acc++(Qfk xs n)) (Qac (Qa6 0 Qap) (acc++[xs.getD n.toNat default])),Array.size (Qac (Qa6 0 Qap) acc)=acc_n * (2+1)/\acc_n+1<=maxLen/\(acc_n+1) * 40<=140737488355328/\Qac (Qa6 0 Qap) acc++(Qfk xs n)=Qac (Qa6 0 Qap) acc++(Qfk xs n),n=(↑n.toNat:Int)/\Int.toNat n < List.length xs/\Array.extract (Qac Qap xs) (Int.toNat n * TypeInfo.size Tryz.t118) (Int.toNat n * TypeInfo.size Tryz.t118+TypeInfo.size Tryz.t118)=(QiS xs n)]):=by kernel_rfl
theorem QyO (B:Lo) (s:Int) (xs:List (Qad)) (n:Int) (acc:List Qad) (acc_n:Nat) (dJ0:Nat->Value):CE.landA 6 (Qam YP (Qa1 YP) J0 B 16 6 (Qco (none) 157 20 (([0,1,6,7]:List Nat).zip (QcX s xs n acc acc_n)) dJ0 QcY) (Qb5 (Qbq s xs) 6 (([5,2]:List Nat).zip (QcM s xs n acc acc_n)) (Qb9 s xs n acc acc_n)) (6+1+(Qb9 s xs n acc acc_n).length)
 (QpX s xs n acc acc_n dJ0++[(5,Qaf.pure (.bool true) []),(9,Qaf.call (List.range 8) (OO.ret (.bool true)) ([(7,Obj.pending #[] 0),(5,Obj.loop {state:=LoopState.ready,pending:=none,fn:=139,tmps:=(Qe2 s xs),params:=#[9],assign:=nav (Qar YP 139) [1,1,0,1,0,0],body:=nav (Qar YP 139) [1,1,0,1,0,1],defers:=4}),(2,Obj.cells #[.slice (some {block:=9,off:=0}) (acc_n+1) 3] 60)]++(8,Qb0)::QaR 9 [Obj.cells (Qac (Qa6 0 Qap) (acc++[xs.getD n.toNat default])) 118]) 10 [7,5,2]),(12,hvI (n+1))]) 0 [] []) [0,1,6,7] [(5,KS.auto),(2,KS.auto)] [(9,KS.rows [(0,0)] [] (Qac (Qa6 0 Qap) (acc++[xs.getD n.toNat default])))] []=some ⟨157,20,QcY,[],.run,none,QcX s xs (n+1) (acc++[xs.getD n.toNat default]) (acc_n+1),([5,2]:List Nat).zip (QcM s xs (n+1) (acc++[xs.getD n.toNat default]) (acc_n+1)),Qb9 s xs (n+1) (acc++[xs.getD n.toNat default]) (acc_n+1),
 [QaX 6 [(0,0)] [] (Qac (Qa6 0 Qap) (acc++[xs.getD n.toNat default])) (Qac (Qa6 0 Qap) (acc++[xs.getD n.toNat default])),wq (n+1)=n+1,FJ YP B (QiE s xs n acc acc_n dJ0) (QgR s xs n acc acc_n dJ0) 8 (OO.ret (.bool true)) (([(7,Obj.pending #[] 0),(5,Obj.loop {state:=LoopState.ready,pending:=none,fn:=139,tmps:=(Qe2 s xs),params:=#[9],assign:=nav (Qar YP 139) [1,1,0,1,0,0],body:=nav (Qar YP 139) [1,1,0,1,0,1],defers:=4}),(2,Obj.cells #[.slice (some {block:=9,off:=0}) (acc_n+1) 3] 60)]++((8,Qb0)::QaR (8+1) [Obj.cells (Qac (Qa6 0 Qap) (acc++[xs.getD n.toNat default])) 118]))++QgR s xs n acc acc_n dJ0) 10 (List.range 8) [7,5,2],QaA []/\Qaq YP J0 159 #[.int .i64 s,.int .i64 n] (.bool true)]++QlN B s xs n acc acc_n dJ0⟩:=by kernel_rfl
theorem Qz8 (B:Lo) (s:Int) (xs:List (Qad)) (n:Int) (acc:List Qad) (acc_n:Nat) (dJ0:Nat->Value):CE.landA 6 (Qam YP (Qa1 YP) J0 B 16 6 (Qco (none) 157 20 (([0,1,6,7]:List Nat).zip (QcX s xs n acc acc_n)) dJ0 QcY) (Qb5 (Qbq s xs) 6 (([5,2]:List Nat).zip (QcM s xs n acc acc_n)) (Qb9 s xs n acc acc_n)) (6+1+(Qb9 s xs n acc acc_n).length)
 (QpX s xs n acc acc_n dJ0++[(5,Qaf.pure (.bool false) []),(12,hvI (n+1))]) 0 [] []) [0,1,6,7] [(5,KS.auto),(2,KS.auto)] [(7,KS.rows [(0,0)] [] (Qac (Qa6 0 Qap) acc))] []=some ⟨157,20,QcY,[],.run,none,QcX s xs (n+1) (acc) (acc_n),([5,2]:List Nat).zip (QcM s xs (n+1) (acc) (acc_n)),Qb9 s xs (n+1) (acc) (acc_n),
 [QaX 6 [(0,0)] [] (Qac (Qa6 0 Qap) acc) (Qac (Qa6 0 Qap) acc),wq (n+1)=n+1,QaA []/\Qaq YP J0 159 #[.int .i64 s,.int .i64 n] (.bool false)]++QlN B s xs n acc acc_n dJ0⟩:=by kernel_rfl
theorem Qx5 (B:Lo) (s:Int) (xs:List (Qad)) (n:Int) (acc:List Qad) (acc_n:Nat) (dJ0:Nat->Value):CE.finK 6 (Qam YP (Qa1 YP) J0 B 7 6 (Qco (none) 157 20 (([0,1,6,7]:List Nat).zip (QcX s xs n acc acc_n)) dJ0 QcY) (Qb5 (Qbq s xs) 6 (([5,2]:List Nat).zip (QcM s xs n acc acc_n)) (Qb9 s xs n acc acc_n)) (6+1+(Qb9 s xs n acc acc_n).length)
 [(0,hvF)] 0 [] []) [(5,KS.auto),(2,KS.auto)] [(7,KS.rows [(0,0)] [] (Qac (Qa6 0 Qap) acc))] []=some (OO.ret (.tuple #[]),[(5,Obj.loop {state:=LoopState.ready,pending:=none,fn:=139,tmps:=#[.int .i64 s,Qa4 0 (slT xs.length (Qac Qap xs)),.tuple #[],pA 1 0,.slice none 0 0,pA 2 0,.tuple #[],.int .i64 s,Value.func (Fn.func 157) #[] #[Qa4 3 (ptT 0 #[.int .i64 s])],.tuple #[],.tuple #[],.tuple #[],.tuple #[],.tuple #[],.tuple #[],.tuple #[],.tuple #[],.tuple #[]],params:=#[9],assign:=nav (Qar YP 139) [1,1,0,1,0,0],body:=nav (Qar YP 139) [1,1,0,1,0,1],defers:=4}),(2,Obj.cells #[.slice (some {block:=7,off:=0}) acc_n 3] 60)],[Obj.cells (Qac (Qa6 0 Qap) acc) 118],
 [QaX 6 [(0,0)] [] (Qac (Qa6 0 Qap) acc) (Qac (Qa6 0 Qap) acc),ltq n (QcF s)=false]):=by kernel_rfl
set_option maxHeartbeats 4000000 in
theorem Qk1 (s:Int) (xs:List (Qad)) (h0:0<=s) (h1:s < 64) (hx:QcF s<=xs.length) {B:Lo} (hJ:∀w,B.has w->J0 w):∀m:Nat,(∀(n:Int),∀(r:Bool),(!(([]:List Qad)++Qa8 s xs n).isEmpty)=r->(QcF s - n).toNat=m->∀(hn:0<=n),(∃dJ0:Nat->Value,(∀t,Qbc (dJ0 t))/\GoE YP B (Qc4 s xs) (Qbq s xs) 6 (Qco (none) 157 20 (([0,1,6,7]:List Nat).zip (QcL s xs n)) dJ0 QcS) (Qb5 (Qbq s xs) 6 (([5,2]:List Nat).zip (QcR s xs n)) (QbB s xs n)) (6+1+(QbB s xs n).length) ([5,2]:List Nat))->FinK YP B (Qc4 s xs) (Qbq s xs) 6 (.ret (.tuple #[])) (([5,2]:List Nat).zip ([Obj.loop {state:=LoopState.ready,pending:=none,fn:=139,tmps:=#[.int .i64 s,Qa4 0 (slT xs.length (Qac Qap xs)),.tuple #[],pA 1 0,.slice none 0 0,pA 2 0,.tuple #[],.int .i64 s,Value.func (Fn.func 157) #[] #[Qa4 3 (ptT 0 #[.int .i64 s])],.tuple #[],.tuple #[],.tuple #[],.tuple #[],.tuple #[],.tuple #[],.tuple #[],.tuple #[],.tuple #[]],params:=#[9],assign:=nav (Qar YP 139) [1,1,0,1,0,0],body:=nav (Qar YP 139) [1,1,0,1,0,1],defers:=4},.cells #[bif r then .slice (some ⟨7,0,none⟩) (([]:List Qad)++Qa8 s xs n).length 3 else .slice none 0 0] 60 (0,0)])) (bif r then [Go.Obj.cells (Qac (Qa6 0 Qap) (([]:List Qad)++Qa8 s xs n)) 118 (0,0)] else []) ([5,2]:List Nat))/\(∀(n:Int) (acc:List Qad) (acc_n:Nat),∀(r:Bool),(!(acc++Qa8 s xs n).isEmpty)=r->(QcF s - n).toNat=m->∀(hn:0<=n) (hacc:acc_n=acc.length) (haccb:acc≠[]/\(acc_n:Int)<=n),(∃dJ0:Nat->Value,(∀t,Qbc (dJ0 t))/\GoE YP B (Qc4 s xs) (Qbq s xs) 6 (Qco (none) 157 20 (([0,1,6,7]:List Nat).zip (QcX s xs n acc acc_n)) dJ0 QcY) (Qb5 (Qbq s xs) 6 (([5,2]:List Nat).zip (QcM s xs n acc acc_n)) (Qb9 s xs n acc acc_n)) (6+1+(Qb9 s xs n acc acc_n).length) ([5,2]:List Nat))->FinK YP B (Qc4 s xs) (Qbq s xs) 6 (.ret (.tuple #[])) (([5,2]:List Nat).zip ([Obj.loop {state:=LoopState.ready,pending:=none,fn:=139,tmps:=#[.int .i64 s,Qa4 0 (slT xs.length (Qac Qap xs)),.tuple #[],pA 1 0,.slice none 0 0,pA 2 0,.tuple #[],.int .i64 s,Value.func (Fn.func 157) #[] #[Qa4 3 (ptT 0 #[.int .i64 s])],.tuple #[],.tuple #[],.tuple #[],.tuple #[],.tuple #[],.tuple #[],.tuple #[],.tuple #[],.tuple #[]],params:=#[9],assign:=nav (Qar YP 139) [1,1,0,1,0,0],body:=nav (Qar YP 139) [1,1,0,1,0,1],defers:=4},.cells #[bif r then .slice (some ⟨7,0,none⟩) (acc++Qa8 s xs n).length 3 else .slice none 0 0] 60 (0,0)])) (bif r then [Go.Obj.cells (Qac (Qa6 0 Qap) (acc++Qa8 s xs n)) 118 (0,0)] else []) ([5,2]:List Nat)):=by
 intro m0;induction m0 using Nat.strongRecOn with
 | _ m0 ih0=>
   refine ⟨?_, ?_⟩
   ·intro n r1 hr1 hm0 hn ⟨dJ0,hdJ0,hg0⟩;have hl:=QfI h0 h1;by_cases q0:(n:Int) < (QcF s)
    ·have hp1:QaA (Qlt B s xs n dJ0):=by
      exact ⟨(QaW q0),trivial⟩
     cases q1:Qle s n with
     | true=>
       have rj2:FJ YP B (QiN s xs n dJ0) (QgZ s xs n dJ0) 7 (OO.ret (.bool true)) (([(5,Obj.loop {state:=LoopState.ready,pending:=none,fn:=139,tmps:=#[.int .i64 s,Qa4 0 (slT xs.length (Qac Qap xs)),.tuple #[],pA 1 0,.slice none 0 0,pA 2 0,.tuple #[],.int .i64 s,Value.func (Fn.func 157) #[] #[Qa4 3 (ptT 0 #[.int .i64 s])],.tuple #[],.tuple #[],.tuple #[],.tuple #[],.tuple #[],.tuple #[],.tuple #[],.tuple #[],.tuple #[]],params:=#[9],assign:=nav (Qar YP 139) [1,1,0,1,0,0],body:=nav (Qar YP 139) [1,1,0,1,0,1],defers:=4}),(2,Obj.cells #[.slice (some {block:=8,off:=0}) 1 3] 60)]++((7,Qb0)::QaR (7+1) [Obj.cells #[Qa4 0 (slT (List.length (Qad.goods (xs.getD n.toNat default))) (Qac Qa7 (Qad.goods (xs.getD n.toNat default)))),.int .i64 (Qad.weight (xs.getD n.toNat default)),.int .i64 (Qad.cost (xs.getD n.toNat default))] 118]))++QgZ s xs n dJ0) 9 (List.range 7) [5,2]:=by
        have s2:=Qfq (s:=s) (xs:=xs) q0 q1;exact FinK.fjB (GoE.finK okF hJ Qab (Qau (by kernel_rfl)) (Qak (by kernel_rfl)) ((GoE.refl (P:=YP) (B:=B) (c0:=QiN s xs n dJ0) (Qau (by kernel_rfl))).widen (Wf:=((([(5,KS.auto),(2,KS.auto)]):List (Nat×KS)).map (·.1))) (by simp) (Qak (by kernel_rfl))) (Qxd B s xs n dJ0)
         ⟨⟨by omega,by omega,(Qae (z:=3) (fun _=> rfl) (by omega))⟩,trivial⟩) (ex:=[]) (by kernel_rfl) (Qb1 _)
       have s2:=Qfq (s:=s) (xs:=xs) q0 q1;exact ((ih0 _ (by omega)).2 (n+1) ([xs.getD n.toNat default]) (1) r1 (by (rw [<-hr1,s2];simp;done)) rfl (by omega) (by (simp_all;done)) (by (refine ⟨by simp, ?_⟩;omega))
        (GoE.landA okF hJ Qab (Qau (by kernel_rfl)) (Qak (by kernel_rfl)) hg0 (Qya B s xs n dJ0)
        ⟨(by exact (Qfa (by exact ⟨(.reg (List.Mem.head _) rfl),⟨(.simple rfl),⟨(.simple rfl),trivial⟩⟩⟩))),⟨(QaL (by omega) (by omega)),⟨rj2,⟨⟨trivial,(by have t_:=Q30 (s) (n) (by omega) (by omega);rw [q1] at t_;exact t_)⟩,hp1⟩⟩⟩⟩ (by kernel_rfl) (by kernel_rfl) (fun l hl=> by cases hl <;> decide))).cast (by rfl) (by (rw [s2];rfl)) (by (rw [s2];rfl))
     | false=>
       have s2:=QiR (s:=s) (xs:=xs) q0 q1;exact ((ih0 _ (by omega)).1 (n+1) r1 (by (rw [<-hr1,s2];done)) rfl (by omega)
        (GoE.landA okF hJ Qab (Qau (by kernel_rfl)) (Qak (by kernel_rfl)) hg0 (QwT B s xs n dJ0)
        ⟨(QaL (by omega) (by omega)),⟨⟨trivial,(by have t_:=Q30 (s) (n) (by omega) (by omega);rw [q1] at t_;exact t_)⟩,hp1⟩⟩ (by kernel_rfl) (by kernel_rfl) (fun l hl=> by cases hl <;> decide))).cast (by rfl) (by (rw [s2];done)) (by (rw [s2];done))
    ·have s2:=Qjq (s:=s) (xs:=xs) (n:=n) (by omega);exact (GoE.finK okF hJ Qab (Qau (by kernel_rfl)) (Qak (by kernel_rfl)) hg0 (QyV B s xs n dJ0)
      ⟨(Qbh (Int.not_lt.1 q0)),trivial⟩).cast (by rfl) (by (subst hr1;rw [s2];rfl)) (by (subst hr1;rw [s2];rfl))
   ·intro n acc acc_n r1 hr1 hm0 hn hacc haccb ⟨dJ0,hdJ0,hg0⟩;have hl:=QfI h0 h1;by_cases q0:(n:Int) < (QcF s)
    ·have hp2:QaA (QlN B s xs n acc acc_n dJ0):=by
      exact ⟨(QaW q0),trivial⟩
     cases q1:Qle s n with
     | true=>
       have rj2:FJ YP B (QiE s xs n acc acc_n dJ0) (QgR s xs n acc acc_n dJ0) 8 (OO.ret (.bool true)) (([(7,Obj.pending #[] 0),(5,Obj.loop {state:=LoopState.ready,pending:=none,fn:=139,tmps:=#[.int .i64 s,Qa4 0 (slT xs.length (Qac Qap xs)),.tuple #[],pA 1 0,.slice none 0 0,pA 2 0,.tuple #[],.int .i64 s,Value.func (Fn.func 157) #[] #[Qa4 3 (ptT 0 #[.int .i64 s])],.tuple #[],.tuple #[],.tuple #[],.tuple #[],.tuple #[],.tuple #[],.tuple #[],.tuple #[],.tuple #[]],params:=#[9],assign:=nav (Qar YP 139) [1,1,0,1,0,0],body:=nav (Qar YP 139) [1,1,0,1,0,1],defers:=4}),(2,Obj.cells #[.slice (some {block:=9,off:=0}) (acc_n+1) 3] 60)]++((8,Qb0)::QaR (8+1) [Obj.cells (Qac (Qa6 0 Qap) (acc++[xs.getD n.toNat default])) 118]))++QgR s xs n acc acc_n dJ0) 10 (List.range 8) [7,5,2]:=by
        have s2:=Qfq (s:=s) (xs:=xs) q0 q1;exact FinK.fjB (GoE.finK okF hJ Qab (Qau (by kernel_rfl)) (Qak (by kernel_rfl)) ((GoE.refl (P:=YP) (B:=B) (c0:=QiE s xs n acc acc_n dJ0) (Qau (by kernel_rfl))).widen (Wf:=((([(7,KS.dead),(5,KS.auto),(2,KS.auto)]):List (Nat×KS)).map (·.1))) (by simp) (Qak (by kernel_rfl))) (Qxl B s xs n acc acc_n dJ0)
         ⟨(by exact (Qei (QaK (QaQ (fun _=> rfl)) (List.Mem.head _)) (by exact ⟨(.reg (List.Mem.head _) rfl),⟨(.simple rfl),⟨(.simple rfl),trivial⟩⟩⟩))),⟨⟨(by (rw [Qbf (z:=3) (fun _=> rfl)];first | omega | (simp;omega) | (simp_all;done))),(by unfold maxLen;omega),by omega,rfl⟩,⟨⟨by omega,by omega,(Qae (z:=3) (fun _=> rfl) (by omega))⟩,trivial⟩⟩⟩) (ex:=[7]) (by kernel_rfl) ⟨trivial,⟨trivial,⟨trivial,⟨(QeZ (t:=118) (fl:=(0,0)) (QaQ (fun _=> rfl)) (by decide)),⟨trivial,⟨trivial,⟨trivial,⟨trivial,⟨trivial,⟨trivial,trivial⟩⟩⟩⟩⟩⟩⟩⟩⟩⟩
       have s2:=Qfq (s:=s) (xs:=xs) q0 q1;exact ((ih0 _ (by omega)).2 (n+1) (acc++[xs.getD n.toNat default]) (acc_n+1) r1 (by (rw [<-hr1,s2];simp;done)) rfl (by omega) (by (simp_all;done)) (by (simp_all;done))
        (GoE.landA okF hJ Qab (Qau (by kernel_rfl)) (Qak (by kernel_rfl)) hg0 (QyO B s xs n acc acc_n dJ0)
        ⟨(by exact (QaK (QaQ (fun _=> rfl)) (List.Mem.head _))),⟨(QaL (by omega) (by omega)),⟨rj2,⟨⟨trivial,(by have t_:=Q30 (s) (n) (by omega) (by omega);rw [q1] at t_;exact t_)⟩,hp2⟩⟩⟩⟩ (by kernel_rfl) (by kernel_rfl) (fun l hl=> by cases hl <;> decide))).cast (by rfl) (by (rw [s2,<-List.append_assoc];done)) (by (rw [s2,<-List.append_assoc];done))
     | false=>
       have s2:=QiR (s:=s) (xs:=xs) q0 q1;exact ((ih0 _ (by omega)).2 (n+1) (acc) (acc_n) r1 (by (rw [<-hr1,s2];done)) rfl (by omega) (by with_reducible assumption) (by exact ⟨haccb.1,by omega⟩)
        (GoE.landA okF hJ Qab (Qau (by kernel_rfl)) (Qak (by kernel_rfl)) hg0 (Qz8 B s xs n acc acc_n dJ0)
        ⟨(by exact (QaK (QaQ (fun _=> rfl)) (List.Mem.head _))),⟨(QaL (by omega) (by omega)),⟨⟨trivial,(by have t_:=Q30 (s) (n) (by omega) (by omega);rw [q1] at t_;exact t_)⟩,hp2⟩⟩⟩ (by kernel_rfl) (by kernel_rfl) (fun l hl=> by cases hl <;> decide))).cast (by rfl) (by (rw [s2];done)) (by (rw [s2];done))
    ·have s2:=Qjq (s:=s) (xs:=xs) (n:=n) (by omega);exact (GoE.finK okF hJ Qab (Qau (by kernel_rfl)) (Qak (by kernel_rfl)) hg0 (Qx5 B s xs n acc acc_n dJ0)
      ⟨(by exact (QaK (QaQ (fun _=> rfl)) (List.Mem.head _))),⟨(Qbh (Int.not_lt.1 q0)),trivial⟩⟩).cast (by rfl) (by (subst hr1;simp only [Q1d haccb.1,s2,List.append_nil,hacc,Bool.not_false,cond_true];rfl)) (by (subst hr1;simp only [Q1d haccb.1,s2,List.append_nil,hacc,Bool.not_false,cond_true];done))

theorem QwX (B:Lo) (s:Int) (xs:List (Qad)):CE.landA 6 (Qam YP (Qa1 YP) J0 B 4 6 (Qc4 s xs) (Qbq s xs) 6
 [(1,Qaf.old (Hint.val (Value.int IntKind.u64 s))),(2,Qaf.pure (.int .i64 (QcF s)) [])] 0 [] []) [0,1,6,7] [(5,KS.auto),(2,KS.auto)] [] []=some ⟨157,20,QcS,[],.run,none,QcL s xs (0),([5,2]:List Nat).zip (QcR s xs (0)),QbB s xs (0),
 [QaA []/\Qaq YP J0 158 #[Value.int IntKind.u64 s] (.int .i64 (QcF s)),IntKind.wrap IntKind.u64 s=s]⟩:=by kernel_rfl
theorem QvE (B:Lo) (s:Int) (xs:List (Qad)):QaY (Qam YP (Qa1 YP) J0 B 16 1 (Qaj YP 139 18 (([.int .i64 s,slT xs.length (Qac Qap xs)]).map (Qat 0 4))) H00 1
 (Qr3 s xs++[(5,Qaf.call (List.range 6) (OO.ret (.tuple #[])) ([(5,Obj.loop {state:=LoopState.ready,pending:=none,fn:=139,tmps:=(Qe2 s xs),params:=#[9],assign:=nav (Qar YP 139) [1,1,0,1,0,0],body:=nav (Qar YP 139) [1,1,0,1,0,1],defers:=4}),(2,Obj.cells #[.slice (some {block:=7,off:=0}) (List.length ([]++Qa8 s xs 0)) 3] 60)]++(6,Qb0)::QaR 7 [Obj.cells (Qac (Qa6 0 Qap) ([]++Qa8 s xs 0)) 118]) 8 [5,2])]) 0 [] []) [{k:=7,rs:=[0],cs:=Qac Qap ([]++Qa8 s xs 0)}]=some (slT (List.length ([]++Qa8 s xs 0)) (Fz.cs {k:=7,rs:=[0],cs:=Qac Qap ([]++Qa8 s xs 0)}),
 [Qbj (Fz.rs {k:=7,rs:=[0],cs:=Qac Qap ([]++Qa8 s xs 0)}) (Qac (Qa6 0 Qap) ([]++Qa8 s xs 0)) (Fz.cs {k:=7,rs:=[0],cs:=Qac Qap ([]++Qa8 s xs 0)}),FJ YP B (Qc4 s xs) (Qbq s xs) 6 (OO.ret (.tuple #[])) (([(5,Obj.loop {state:=LoopState.ready,pending:=none,fn:=139,tmps:=(Qe2 s xs),params:=#[9],assign:=nav (Qar YP 139) [1,1,0,1,0,0],body:=nav (Qar YP 139) [1,1,0,1,0,1],defers:=4}),(2,Obj.cells #[.slice (some {block:=7,off:=0}) (List.length ([]++Qa8 s xs 0)) 3] 60)]++((6,Qb0)::QaR (6+1) [Obj.cells (Qac (Qa6 0 Qap) ([]++Qa8 s xs 0)) 118]))++Qbq s xs) 8 (List.range 6) [5,2]]++Qmn B s xs):=by kernel_rfl
theorem Qw7 (B:Lo) (s:Int) (xs:List (Qad)):CE.landA 6 (Qam YP (Qa1 YP) J0 B 4 6 (Qc4 s xs) (Qbq s xs) 6
 [(1,Qaf.old (Hint.val (Value.int IntKind.u64 s))),(2,Qaf.pure (.int .i64 (QcF s)) [])] 0 [] []) [0,1,6,7] [(5,KS.auto),(2,KS.auto)] [] []=some ⟨157,20,QcS,[],.run,none,QcL s xs (0),([5,2]:List Nat).zip (QcR s xs (0)),QbB s xs (0),
 [QaA []/\Qaq YP J0 158 #[Value.int IntKind.u64 s] (.int .i64 (QcF s)),IntKind.wrap IntKind.u64 s=s]⟩:=by kernel_rfl
theorem Qw4 (B:Lo) (s:Int) (xs:List (Qad)):QaY (Qam YP (Qa1 YP) J0 B 16 1 (Qaj YP 139 18 (([.int .i64 s,slT xs.length (Qac Qap xs)]).map (Qat 0 4))) H00 1
 (Qr3 s xs++[(5,Qaf.call (List.range 6) (OO.ret (.tuple #[])) ([(5,Obj.loop {state:=LoopState.ready,pending:=none,fn:=139,tmps:=(Qe2 s xs),params:=#[9],assign:=nav (Qar YP 139) [1,1,0,1,0,0],body:=nav (Qar YP 139) [1,1,0,1,0,1],defers:=4}),(2,Obj.cells #[.slice none 0 0] 60)]++(6,Qb0)::QaR 7 []) 7 [5,2])]) 0 [] []) []=some (slT 0 #[],
 [FJ YP B (Qc4 s xs) (Qbq s xs) 6 (OO.ret (.tuple #[])) (([(5,Obj.loop {state:=LoopState.ready,pending:=none,fn:=139,tmps:=(Qe2 s xs),params:=#[9],assign:=nav (Qar YP 139) [1,1,0,1,0,0],body:=nav (Qar YP 139) [1,1,0,1,0,1],defers:=4}),(2,Obj.cells #[.slice none 0 0] 60)]++((6,Qb0)::QaR (6+1) []))++Qbq s xs) 7 (List.range 6) [5,2]]++Qmn B s xs):=by kernel_rfl
set_option maxHeartbeats 4000000 in
theorem Q1C (s:Int) (xs:List (Qad)) (h0:0<=s) (h1:s < 64) (hx:QcF s<=xs.length) {B:Lo} (hJ:∀w,B.has w->J0 w):EndsT YP B (Qaj YP 139 18 (([.int .i64 s,slT xs.length (Qac Qap xs)]).map (Qat 0 4))) (slT (Qa8 s xs 0).length (Qac Qap (Qa8 s xs 0))):=by
 have hl:=QfI h0 h1;have rj0:FJ YP B (Qjc s xs) (Qhg s xs) 3 (OO.ret (Value.func (Fn.func 157) #[] #[Qa4 3 (ptT 0 #[.int .i64 s])])) (([]++((3,Qb0)::QaR (3+1) []))++Qhg s xs) 4 (List.range 3) []:=by
  exact FinK.fjB (GoE.finK okF hJ Qab (Qau (by kernel_rfl)) (Qak (by kernel_rfl)) ((GoE.refl (P:=YP) (B:=B) (c0:=Qjc s xs) (Qau (by kernel_rfl))).widen (Wf:=((([]):List (Nat×KS)).map (·.1))) (by simp) (Qak (by kernel_rfl))) (Qz3 B s xs)
   ⟨(Qgs (by kernel_rfl)),trivial⟩) (ex:=[]) (by kernel_rfl) (Qb1 _)
 have hp0:QaA (Qmn B s xs):=by
  exact ⟨rj0,trivial⟩
 cases q0: !List.isEmpty ([]++Qa8 s xs 0) with
 | true=>
   have rj1:FJ YP B (Qc4 s xs) (Qbq s xs) 6 (OO.ret (.tuple #[])) (([(5,Obj.loop {state:=LoopState.ready,pending:=none,fn:=139,tmps:=#[.int .i64 s,Qa4 0 (slT xs.length (Qac Qap xs)),.tuple #[],pA 1 0,.slice none 0 0,pA 2 0,.tuple #[],.int .i64 s,Value.func (Fn.func 157) #[] #[Qa4 3 (ptT 0 #[.int .i64 s])],.tuple #[],.tuple #[],.tuple #[],.tuple #[],.tuple #[],.tuple #[],.tuple #[],.tuple #[],.tuple #[]],params:=#[9],assign:=nav (Qar YP 139) [1,1,0,1,0,0],body:=nav (Qar YP 139) [1,1,0,1,0,1],defers:=4}),(2,Obj.cells #[.slice (some {block:=7,off:=0}) (List.length ([]++Qa8 s xs 0)) 3] 60)]++((6,Qb0)::QaR (6+1) [Obj.cells (Qac (Qa6 0 Qap) ([]++Qa8 s xs 0)) 118]))++Qbq s xs) 8 (List.range 6) [5,2]:=by
    exact FinK.fjB ((Qk1 s xs h0 h1 hx hJ _).1 (0) true q0 rfl (by omega)
     (GoE.landA okF hJ Qab (Qau (by kernel_rfl)) (Qak (by kernel_rfl)) ((GoE.refl (P:=YP) (B:=B) (c0:=Qc4 s xs) (Qau (by kernel_rfl))).widen (Wf:=((([(5,KS.auto),(2,KS.auto)]):List (Nat×KS)).map (·.1))) (by simp) (Qak (by kernel_rfl))) (QwX B s xs)
     ⟨⟨trivial,Q67 (s) (by with_reducible assumption) (by with_reducible assumption)⟩,⟨(IntWalk.u64_in _ ⟨by omega,by omega⟩),trivial⟩⟩ (by kernel_rfl) (by kernel_rfl) (fun l hl=> by cases hl <;> decide))) (ex:=[]) (by kernel_rfl) (Qb1 _)
   exact (GoE.endsT okF hJ Qab GoE.start (QvE B s xs)
    ⟨(Qcl (QaQ (fun _=> rfl)) (List.Mem.head _)),⟨rj1,hp0⟩⟩).cast (by rfl)
 | false=>
   have rj1:FJ YP B (Qc4 s xs) (Qbq s xs) 6 (OO.ret (.tuple #[])) (([(5,Obj.loop {state:=LoopState.ready,pending:=none,fn:=139,tmps:=#[.int .i64 s,Qa4 0 (slT xs.length (Qac Qap xs)),.tuple #[],pA 1 0,.slice none 0 0,pA 2 0,.tuple #[],.int .i64 s,Value.func (Fn.func 157) #[] #[Qa4 3 (ptT 0 #[.int .i64 s])],.tuple #[],.tuple #[],.tuple #[],.tuple #[],.tuple #[],.tuple #[],.tuple #[],.tuple #[],.tuple #[]],params:=#[9],assign:=nav (Qar YP 139) [1,1,0,1,0,0],body:=nav (Qar YP 139) [1,1,0,1,0,1],defers:=4}),(2,Obj.cells #[.slice none 0 0] 60)]++((6,Qb0)::QaR (6+1) []))++Qbq s xs) 7 (List.range 6) [5,2]:=by
    exact FinK.fjB ((Qk1 s xs h0 h1 hx hJ _).1 (0) false q0 rfl (by omega)
     (GoE.landA okF hJ Qab (Qau (by kernel_rfl)) (Qak (by kernel_rfl)) ((GoE.refl (P:=YP) (B:=B) (c0:=Qc4 s xs) (Qau (by kernel_rfl))).widen (Wf:=((([(5,KS.auto),(2,KS.auto)]):List (Nat×KS)).map (·.1))) (by simp) (Qak (by kernel_rfl))) (Qw7 B s xs)
     ⟨⟨trivial,Q67 (s) (by with_reducible assumption) (by with_reducible assumption)⟩,⟨(IntWalk.u64_in _ ⟨by omega,by omega⟩),trivial⟩⟩ (by kernel_rfl) (by kernel_rfl) (fun l hl=> by cases hl <;> decide))) (ex:=[]) (by kernel_rfl) (Qb1 _)
   exact (GoE.endsT okF hJ Qab GoE.start (Qw4 B s xs)
    ⟨rj1,hp0⟩).cast (by (rw [Q5N q0];rfl))
theorem Q6w (s:Int) (xs:List (Qad)) (h0:0<=s) (h1:s < 64) (hx:QcF s<=xs.length):Qaq YP J0 139 #[.int .i64 s,slT xs.length (Qac Qap xs)] (slT (Qa8 s xs 0).length (Qac Qap (Qa8 s xs 0))):=
 QaE (ts:=[.int .i64 s,slT xs.length (Qac Qap xs)]) Qbw (c0:=Qaj YP 139 18 (([.int .i64 s,slT xs.length (Qac Qap xs)]).map (Qat 0 4))) (by kernel_rfl) (by kernel_rfl) fun B hJ=> Q1C s xs h0 h1 hx hJ
def QgI (s:Int) (xs:List (Row)):Qax:=[(2,Obj.cells #[.slice none 0 0] 63),(1,Obj.cells #[Qa4 0 (slT xs.length (Qac Qa0 xs))] 63),(0,Obj.coro none)]
def Qjh (s:Int) (xs:List (Row)):CF:=⟨147,ofList 4 [.int .i64 s],[Item.code (Qar YP 147)],[],.run,none⟩
def Qe4 (s:Int) (xs:List (Row)):Array Value:=#[.int .i64 s,Qa4 0 (slT xs.length (Qac Qa0 xs)),.tuple #[],pA 1 0,.slice none 0 0,pA 2 0,.tuple #[],.int .i64 s,Value.func (Fn.func 157) #[] #[Qa4 3 (ptT 0 #[.int .i64 s])],.tuple #[],.tuple #[],.tuple #[],.tuple #[],.tuple #[],.tuple #[],.tuple #[],.tuple #[],.tuple #[]]
def Qfi (xs:List (Row)) (n:Int):Array Value:=#[Qa4 0 (slT (List.length (xs.getD n.toNat default)) (Qac Qal (xs.getD n.toNat default)))]
def Qj0 (xs:List (Row)) (n:Int):Array Value:=#[slT (List.length (xs.getD n.toNat default)) (Qac Qal (xs.getD n.toNat default))]
theorem Qx9 (B:Lo) (s:Int) (xs:List (Row)):CE.finK 3 (Qam YP (Qa1 YP) J0 B 6 3 (Qjh s xs) (QgI s xs) 3
 [] 0 [] []) [] [] [{k:=3,rs:=[],cs:=#[.int .i64 s]}]=some (OO.ret (Value.func (Fn.func 157) #[] #[Qa4 3 (ptT 0 #[.int .i64 s])]),[],[],
 [Qbj (Fz.rs {k:=3,rs:=[],cs:=#[.int .i64 s]}) #[.int .i64 s] (Fz.cs {k:=3,rs:=[],cs:=#[.int .i64 s]})]):=by kernel_rfl
def QlH (B:Lo) (s:Int) (xs:List (Row)):List Prop:=[FJ YP B (Qjh s xs) (QgI s xs) 3 (OO.ret (Value.func (Fn.func 157) #[] #[Qa4 3 (ptT 0 #[.int .i64 s])])) (([]++((3,Qb0)::QaR (3+1) []))++QgI s xs) 4 (List.range 3) []]++([]:List Prop)
def Qsk (s:Int) (xs:List (Row)):Qaz:=[(4,Qaf.call (List.range 3) (OO.ret (Value.func (Fn.func 157) #[] #[Qa4 3 (ptT 0 #[.int .i64 s])])) ([]++(3,Qb0)::QaR 4 []) 4 [])]
def Qbp (s:Int) (xs:List (Row)):Qax:=[(5,Obj.loop {state:=LoopState.ready,pending:=none,fn:=121,tmps:=#[.int .i64 s,Qa4 0 (slT xs.length (Qac Qa0 xs)),.tuple #[],pA 1 0,.slice none 0 0,pA 2 0,.tuple #[],.int .i64 s,Value.func (Fn.func 157) #[] #[Qa4 3 (ptT 0 #[.int .i64 s])],.tuple #[],.tuple #[],.tuple #[],.tuple #[],.tuple #[],.tuple #[],.tuple #[],.tuple #[],.tuple #[]],params:=#[9],assign:=nav (Qar YP 121) [1,1,0,1,0,0],body:=nav (Qar YP 121) [1,1,0,1,0,1],defers:=4}),(4,Obj.deferred (some [])),(3,Obj.coro none),(2,Obj.cells #[.slice none 0 0] 63),(1,Obj.cells #[Qa4 0 (slT xs.length (Qac Qa0 xs))] 63),(0,Obj.coro none)]
def Qc6 (s:Int) (xs:List (Row)):CF:=⟨157,ofList 20 [Value.func (Fn.yield 5) #[] #[],Qa4 3 (ptT 0 #[.int .i64 s])],[Item.code (Qar YP 157)],[],.run,none⟩
def QcP (s:Int) (xs:List (Row)) (n:Int):List Value:=[Value.func (Fn.yield 5) #[] #[],Qa4 3 (ptT 0 #[.int .i64 s]),.int .i64 (QcF s),.int .i64 n]
def QcU (s:Int) (xs:List (Row)) (n:Int):List Obj:=[Obj.loop {state:=LoopState.ready,pending:=none,fn:=121,tmps:=#[.int .i64 s,Qa4 0 (slT xs.length (Qac Qa0 xs)),.tuple #[],pA 1 0,.slice none 0 0,pA 2 0,.tuple #[],.int .i64 s,Value.func (Fn.func 157) #[] #[Qa4 3 (ptT 0 #[.int .i64 s])],.tuple #[],.tuple #[],.tuple #[],.tuple #[],.tuple #[],.tuple #[],.tuple #[],.tuple #[],.tuple #[]],params:=#[9],assign:=nav (Qar YP 121) [1,1,0,1,0,0],body:=nav (Qar YP 121) [1,1,0,1,0,1],defers:=4},.cells #[.slice none 0 0] 63 (0,0)]
def QbA (s:Int) (xs:List (Row)) (n:Int):List Obj:=[]
def QcT:List Item:=([.code [1,0,0],.inLoop [1,0,0],.inBlock 0]).map (it (Qar YP 157))
def QcO (s:Int) (xs:List (Row)) (n:Int) (acc:List Row) (acc_n:Nat):List Value:=[Value.func (Fn.yield 5) #[] #[],Qa4 3 (ptT 0 #[.int .i64 s]),.int .i64 (QcF s),.int .i64 n]
def QcV (s:Int) (xs:List (Row)) (n:Int) (acc:List Row) (acc_n:Nat):List Obj:=[Obj.loop {state:=LoopState.ready,pending:=none,fn:=121,tmps:=#[.int .i64 s,Qa4 0 (slT xs.length (Qac Qa0 xs)),.tuple #[],pA 1 0,.slice none 0 0,pA 2 0,.tuple #[],.int .i64 s,Value.func (Fn.func 157) #[] #[Qa4 3 (ptT 0 #[.int .i64 s])],.tuple #[],.tuple #[],.tuple #[],.tuple #[],.tuple #[],.tuple #[],.tuple #[],.tuple #[],.tuple #[]],params:=#[9],assign:=nav (Qar YP 121) [1,1,0,1,0,0],body:=nav (Qar YP 121) [1,1,0,1,0,1],defers:=4},.cells #[.slice (some ⟨7,0,none⟩) acc_n 1] 63 (0,0)]
def QbC (s:Int) (xs:List (Row)) (n:Int) (acc:List Row) (acc_n:Nat):List Obj:=[Obj.cells (Qac (Qa6 0 Qa0) acc) 22 (0,0)]
def Qda:List Item:=([.code [1,0,0],.inLoop [1,0,0],.inBlock 0]).map (it (Qar YP 157))
def QmS (B:Lo) (s:Int) (xs:List (Row)) (n:Int) (dJ0:Nat->Value):List Prop:=[ltq n (QcF s)=true]++([]:List Prop)
def Qqv (s:Int) (xs:List (Row)) (n:Int) (dJ0:Nat->Value):Qaz:=[(0,hvT)]
def Qhw (s:Int) (xs:List (Row)) (n:Int) (dJ0:Nat->Value):Qax:=[(5,Obj.loop {state:=LoopState.ready,pending:=none,fn:=121,tmps:=#[.int .i64 s,Qa4 0 (slT xs.length (Qac Qa0 xs)),.tuple #[],pA 1 0,.slice none 0 0,pA 2 0,.tuple #[],.int .i64 s,Value.func (Fn.func 157) #[] #[Qa4 3 (ptT 0 #[.int .i64 s])],.tuple #[],.tuple #[],.tuple #[],.tuple #[],.tuple #[],.tuple #[],.tuple #[],.tuple #[],.tuple #[]],params:=#[9],assign:=nav (Qar YP 121) [1,1,0,1,0,0],body:=nav (Qar YP 121) [1,1,0,1,0,1],defers:=4}),(2,Obj.cells #[.slice none 0 0] 63),(6,Obj.coro none),(5,Obj.loop {state:=LoopState.ready,pending:=none,fn:=121,tmps:=#[.int .i64 s,Qa4 0 (slT xs.length (Qac Qa0 xs)),.tuple #[],pA 1 0,.slice none 0 0,pA 2 0,.tuple #[],.int .i64 s,Value.func (Fn.func 157) #[] #[Qa4 3 (ptT 0 #[.int .i64 s])],.tuple #[],.tuple #[],.tuple #[],.tuple #[],.tuple #[],.tuple #[],.tuple #[],.tuple #[],.tuple #[]],params:=#[9],assign:=nav (Qar YP 121) [1,1,0,1,0,0],body:=nav (Qar YP 121) [1,1,0,1,0,1],defers:=4}),(4,Obj.deferred (some [])),(3,Obj.coro none),(2,Obj.cells #[.slice none 0 0] 63),(1,Obj.cells #[Qa4 0 (slT xs.length (Qac Qa0 xs))] 63),(0,Obj.coro none)]
def Qj8 (s:Int) (xs:List (Row)) (n:Int) (dJ0:Nat->Value):CF:=⟨121,ofList 18 [.int .i64 s,Qa4 0 (slT xs.length (Qac Qa0 xs)),.tuple #[],pA 1 0,.slice none 0 0,pA 2 0,.tuple #[],.int .i64 s,Value.func (Fn.func 157) #[] #[Qa4 3 (ptT 0 #[.int .i64 s])],.int .i64 n,.tuple #[],.tuple #[],.tuple #[],.tuple #[],.tuple #[],.tuple #[],.tuple #[],.tuple #[]],[Item.code (nav (Qar YP 121) [1,1,0,1,0,0]),Item.beginRound,Item.code (nav (Qar YP 121) [1,1,0,1,0,1])],[],.run,some 5⟩
theorem Q0t (B:Lo) (s:Int) (xs:List (Row)) (n:Int) (dJ0:Nat->Value):CE.finK 7 (Qam YP (Qa1 YP) J0 B 6 7 (Qj8 s xs n dJ0) (Qhw s xs n dJ0) 7
 [(4,Qaf.tidx n.toNat (Qj0 xs n))] 0 [] []) [(5,KS.auto),(2,KS.auto)] [(8,KS.auto)] []=some (OO.ret (.bool true),[(5,Obj.loop {state:=LoopState.ready,pending:=none,fn:=121,tmps:=#[.int .i64 s,Qa4 0 (slT xs.length (Qac Qa0 xs)),.tuple #[],pA 1 0,.slice none 0 0,pA 2 0,.tuple #[],.int .i64 s,Value.func (Fn.func 157) #[] #[Qa4 3 (ptT 0 #[.int .i64 s])],.tuple #[],.tuple #[],.tuple #[],.tuple #[],.tuple #[],.tuple #[],.tuple #[],.tuple #[],.tuple #[]],params:=#[9],assign:=nav (Qar YP 121) [1,1,0,1,0,0],body:=nav (Qar YP 121) [1,1,0,1,0,1],defers:=4}),(2,Obj.cells #[.slice (some {block:=8,off:=0}) 1 1] 63)],[Obj.cells #[Qa4 0 (slT (List.length (xs.getD n.toNat default)) (Qac Qal (xs.getD n.toNat default)))] 22],
 [n=(↑n.toNat:Int)/\Int.toNat n < List.length xs/\Array.extract (Qac Qa0 xs) (Int.toNat n * TypeInfo.size Tryz.t22) (Int.toNat n * TypeInfo.size Tryz.t22+TypeInfo.size Tryz.t22)=(Qj0 xs n)]):=by kernel_rfl
theorem QxJ (B:Lo) (s:Int) (xs:List (Row)) (n:Int) (dJ0:Nat->Value):CE.landA 6 (Qam YP (Qa1 YP) J0 B 16 6 (Qco (none) 157 20 (([0,1,6,7]:List Nat).zip (QcP s xs n)) dJ0 QcT) (Qb5 (Qbp s xs) 6 (([5,2]:List Nat).zip (QcU s xs n)) (QbA s xs n)) (6+1+(QbA s xs n).length)
 (Qqv s xs n dJ0++[(5,Qaf.pure (.bool true) []),(9,Qaf.call (List.range 7) (OO.ret (.bool true)) ([(5,Obj.loop {state:=LoopState.ready,pending:=none,fn:=121,tmps:=(Qe4 s xs),params:=#[9],assign:=nav (Qar YP 121) [1,1,0,1,0,0],body:=nav (Qar YP 121) [1,1,0,1,0,1],defers:=4}),(2,Obj.cells #[.slice (some {block:=8,off:=0}) 1 1] 63)]++(7,Qb0)::QaR 8 [Obj.cells (Qfi xs n) 22]) 9 [5,2]),(12,hvI (n+1))]) 0 [] []) [0,1,6,7] [(5,KS.auto),(2,KS.auto)] [(8,KS.rows [(0,0)] [] (Qac (Qa6 0 Qa0) [xs.getD n.toNat default]))] []=some ⟨157,20,Qda,[],.run,none,QcO s xs (n+1) ([xs.getD n.toNat default]) (1),([5,2]:List Nat).zip (QcV s xs (n+1) ([xs.getD n.toNat default]) (1)),QbC s xs (n+1) ([xs.getD n.toNat default]) (1),
 [QaX 6 [(0,0)] [] (Qfi xs n) (Qac (Qa6 0 Qa0) [xs.getD n.toNat default]),wq (n+1)=n+1,FJ YP B (Qj8 s xs n dJ0) (Qhw s xs n dJ0) 7 (OO.ret (.bool true)) (([(5,Obj.loop {state:=LoopState.ready,pending:=none,fn:=121,tmps:=(Qe4 s xs),params:=#[9],assign:=nav (Qar YP 121) [1,1,0,1,0,0],body:=nav (Qar YP 121) [1,1,0,1,0,1],defers:=4}),(2,Obj.cells #[.slice (some {block:=8,off:=0}) 1 1] 63)]++((7,Qb0)::QaR (7+1) [Obj.cells (Qfi xs n) 22]))++Qhw s xs n dJ0) 9 (List.range 7) [5,2],QaA []/\Qaq YP J0 159 #[.int .i64 s,.int .i64 n] (.bool true)]++QmS B s xs n dJ0⟩:=by kernel_rfl
theorem Qzh (B:Lo) (s:Int) (xs:List (Row)) (n:Int) (dJ0:Nat->Value):CE.landA 6 (Qam YP (Qa1 YP) J0 B 16 6 (Qco (none) 157 20 (([0,1,6,7]:List Nat).zip (QcP s xs n)) dJ0 QcT) (Qb5 (Qbp s xs) 6 (([5,2]:List Nat).zip (QcU s xs n)) (QbA s xs n)) (6+1+(QbA s xs n).length)
 (Qqv s xs n dJ0++[(5,Qaf.pure (.bool false) []),(12,hvI (n+1))]) 0 [] []) [0,1,6,7] [(5,KS.auto),(2,KS.auto)] [] []=some ⟨157,20,QcT,[],.run,none,QcP s xs (n+1),([5,2]:List Nat).zip (QcU s xs (n+1)),QbA s xs (n+1),
 [wq (n+1)=n+1,QaA []/\Qaq YP J0 159 #[.int .i64 s,.int .i64 n] (.bool false)]++QmS B s xs n dJ0⟩:=by kernel_rfl
theorem QzA (B:Lo) (s:Int) (xs:List (Row)) (n:Int) (dJ0:Nat->Value):CE.finK 6 (Qam YP (Qa1 YP) J0 B 7 6 (Qco (none) 157 20 (([0,1,6,7]:List Nat).zip (QcP s xs n)) dJ0 QcT) (Qb5 (Qbp s xs) 6 (([5,2]:List Nat).zip (QcU s xs n)) (QbA s xs n)) (6+1+(QbA s xs n).length)
 [(0,hvF)] 0 [] []) [(5,KS.auto),(2,KS.auto)] [] []=some (OO.ret (.tuple #[]),[(5,Obj.loop {state:=LoopState.ready,pending:=none,fn:=121,tmps:=#[.int .i64 s,Qa4 0 (slT xs.length (Qac Qa0 xs)),.tuple #[],pA 1 0,.slice none 0 0,pA 2 0,.tuple #[],.int .i64 s,Value.func (Fn.func 157) #[] #[Qa4 3 (ptT 0 #[.int .i64 s])],.tuple #[],.tuple #[],.tuple #[],.tuple #[],.tuple #[],.tuple #[],.tuple #[],.tuple #[],.tuple #[]],params:=#[9],assign:=nav (Qar YP 121) [1,1,0,1,0,0],body:=nav (Qar YP 121) [1,1,0,1,0,1],defers:=4}),(2,Obj.cells #[.slice none 0 0] 63)],[],
 [ltq n (QcF s)=false]):=by kernel_rfl
def Qm5 (B:Lo) (s:Int) (xs:List (Row)) (n:Int) (acc:List Row) (acc_n:Nat) (dJ0:Nat->Value):List Prop:=[ltq n (QcF s)=true]++([]:List Prop)
def QqJ (s:Int) (xs:List (Row)) (n:Int) (acc:List Row) (acc_n:Nat) (dJ0:Nat->Value):Qaz:=[(0,hvT)]
def Qht (s:Int) (xs:List (Row)) (n:Int) (acc:List Row) (acc_n:Nat) (dJ0:Nat->Value):Qax:=[(5,Obj.loop {state:=LoopState.ready,pending:=none,fn:=121,tmps:=#[.int .i64 s,Qa4 0 (slT xs.length (Qac Qa0 xs)),.tuple #[],pA 1 0,.slice none 0 0,pA 2 0,.tuple #[],.int .i64 s,Value.func (Fn.func 157) #[] #[Qa4 3 (ptT 0 #[.int .i64 s])],.tuple #[],.tuple #[],.tuple #[],.tuple #[],.tuple #[],.tuple #[],.tuple #[],.tuple #[],.tuple #[]],params:=#[9],assign:=nav (Qar YP 121) [1,1,0,1,0,0],body:=nav (Qar YP 121) [1,1,0,1,0,1],defers:=4}),(2,Obj.cells #[.slice (some {block:=7,off:=0}) acc_n 1] 63),(6,Obj.coro none),(7,Obj.cells (Qac (Qa6 0 Qa0) acc) 22),(5,Obj.loop {state:=LoopState.ready,pending:=none,fn:=121,tmps:=#[.int .i64 s,Qa4 0 (slT xs.length (Qac Qa0 xs)),.tuple #[],pA 1 0,.slice none 0 0,pA 2 0,.tuple #[],.int .i64 s,Value.func (Fn.func 157) #[] #[Qa4 3 (ptT 0 #[.int .i64 s])],.tuple #[],.tuple #[],.tuple #[],.tuple #[],.tuple #[],.tuple #[],.tuple #[],.tuple #[],.tuple #[]],params:=#[9],assign:=nav (Qar YP 121) [1,1,0,1,0,0],body:=nav (Qar YP 121) [1,1,0,1,0,1],defers:=4}),(4,Obj.deferred (some [])),(3,Obj.coro none),(2,Obj.cells #[.slice none 0 0] 63),(1,Obj.cells #[Qa4 0 (slT xs.length (Qac Qa0 xs))] 63),(0,Obj.coro none)]
def QiQ (s:Int) (xs:List (Row)) (n:Int) (acc:List Row) (acc_n:Nat) (dJ0:Nat->Value):CF:=⟨121,ofList 18 [.int .i64 s,Qa4 0 (slT xs.length (Qac Qa0 xs)),.tuple #[],pA 1 0,.slice none 0 0,pA 2 0,.tuple #[],.int .i64 s,Value.func (Fn.func 157) #[] #[Qa4 3 (ptT 0 #[.int .i64 s])],.int .i64 n,.tuple #[],.tuple #[],.tuple #[],.tuple #[],.tuple #[],.tuple #[],.tuple #[],.tuple #[]],[Item.code (nav (Qar YP 121) [1,1,0,1,0,0]),Item.beginRound,Item.code (nav (Qar YP 121) [1,1,0,1,0,1])],[],.run,some 5⟩
theorem QyY (B:Lo) (s:Int) (xs:List (Row)) (n:Int) (acc:List Row) (acc_n:Nat) (dJ0:Nat->Value):CE.finK 8 (Qam YP (Qa1 YP) J0 B 6 8 (QiQ s xs n acc acc_n dJ0) (Qht s xs n acc acc_n dJ0) 8
 [(4,Qaf.tidx n.toNat (Qj0 xs n)),(7,Qaf.old (Hint.app (Qac (Qa6 0 Qa0) acc++(Qfi xs n))))] 0 [] []) [(7,KS.dead),(5,KS.auto),(2,KS.auto)] [(9,KS.rows [(0,0)] [] (Qac (Qa6 0 Qa0) (acc++[xs.getD n.toNat default])))] []=some (OO.ret (.bool true),[(7,Obj.pending #[] 0),(5,Obj.loop {state:=LoopState.ready,pending:=none,fn:=121,tmps:=#[.int .i64 s,Qa4 0 (slT xs.length (Qac Qa0 xs)),.tuple #[],pA 1 0,.slice none 0 0,pA 2 0,.tuple #[],.int .i64 s,Value.func (Fn.func 157) #[] #[Qa4 3 (ptT 0 #[.int .i64 s])],.tuple #[],.tuple #[],.tuple #[],.tuple #[],.tuple #[],.tuple #[],.tuple #[],.tuple #[],.tuple #[]],params:=#[9],assign:=nav (Qar YP 121) [1,1,0,1,0,0],body:=nav (Qar YP 121) [1,1,0,1,0,1],defers:=4}),(2,Obj.cells #[.slice (some {block:=9,off:=0}) (acc_n+1) 1] 63)],[Obj.cells (Qac (Qa6 0 Qa0) (acc++[xs.getD n.toNat default])) 22],
 [QaX 8 [(0,0)] [] (Qac (Qa6 0 Qa0) acc++(Qfi xs n)) (Qac (Qa6 0 Qa0) (acc++[xs.getD n.toNat default])),Array.size (Qac (Qa6 0 Qa0) acc)=acc_n * (0+1)/\acc_n+1<=maxLen/\(acc_n+1) * 24<=140737488355328/\Qac (Qa6 0 Qa0) acc++(Qfi xs n)=Qac (Qa6 0 Qa0) acc++(Qfi xs n),n=(↑n.toNat:Int)/\Int.toNat n < List.length xs/\Array.extract (Qac Qa0 xs) (Int.toNat n * TypeInfo.size Tryz.t22) (Int.toNat n * TypeInfo.size Tryz.t22+TypeInfo.size Tryz.t22)=(Qj0 xs n)]):=by kernel_rfl
theorem QyM (B:Lo) (s:Int) (xs:List (Row)) (n:Int) (acc:List Row) (acc_n:Nat) (dJ0:Nat->Value):CE.landA 6 (Qam YP (Qa1 YP) J0 B 16 6 (Qco (none) 157 20 (([0,1,6,7]:List Nat).zip (QcO s xs n acc acc_n)) dJ0 Qda) (Qb5 (Qbp s xs) 6 (([5,2]:List Nat).zip (QcV s xs n acc acc_n)) (QbC s xs n acc acc_n)) (6+1+(QbC s xs n acc acc_n).length)
 (QqJ s xs n acc acc_n dJ0++[(5,Qaf.pure (.bool true) []),(9,Qaf.call (List.range 8) (OO.ret (.bool true)) ([(7,Obj.pending #[] 0),(5,Obj.loop {state:=LoopState.ready,pending:=none,fn:=121,tmps:=(Qe4 s xs),params:=#[9],assign:=nav (Qar YP 121) [1,1,0,1,0,0],body:=nav (Qar YP 121) [1,1,0,1,0,1],defers:=4}),(2,Obj.cells #[.slice (some {block:=9,off:=0}) (acc_n+1) 1] 63)]++(8,Qb0)::QaR 9 [Obj.cells (Qac (Qa6 0 Qa0) (acc++[xs.getD n.toNat default])) 22]) 10 [7,5,2]),(12,hvI (n+1))]) 0 [] []) [0,1,6,7] [(5,KS.auto),(2,KS.auto)] [(9,KS.rows [(0,0)] [] (Qac (Qa6 0 Qa0) (acc++[xs.getD n.toNat default])))] []=some ⟨157,20,Qda,[],.run,none,QcO s xs (n+1) (acc++[xs.getD n.toNat default]) (acc_n+1),([5,2]:List Nat).zip (QcV s xs (n+1) (acc++[xs.getD n.toNat default]) (acc_n+1)),QbC s xs (n+1) (acc++[xs.getD n.toNat default]) (acc_n+1),
 [QaX 6 [(0,0)] [] (Qac (Qa6 0 Qa0) (acc++[xs.getD n.toNat default])) (Qac (Qa6 0 Qa0) (acc++[xs.getD n.toNat default])),wq (n+1)=n+1,FJ YP B (QiQ s xs n acc acc_n dJ0) (Qht s xs n acc acc_n dJ0) 8 (OO.ret (.bool true)) (([(7,Obj.pending #[] 0),(5,Obj.loop {state:=LoopState.ready,pending:=none,fn:=121,tmps:=(Qe4 s xs),params:=#[9],assign:=nav (Qar YP 121) [1,1,0,1,0,0],body:=nav (Qar YP 121) [1,1,0,1,0,1],defers:=4}),(2,Obj.cells #[.slice (some {block:=9,off:=0}) (acc_n+1) 1] 63)]++((8,Qb0)::QaR (8+1) [Obj.cells (Qac (Qa6 0 Qa0) (acc++[xs.getD n.toNat default])) 22]))++Qht s xs n acc acc_n dJ0) 10 (List.range 8) [7,5,2],QaA []/\Qaq YP J0 159 #[.int .i64 s,.int .i64 n] (.bool true)]++Qm5 B s xs n acc acc_n dJ0⟩:=by kernel_rfl
theorem Qxv (B:Lo) (s:Int) (xs:List (Row)) (n:Int) (acc:List Row) (acc_n:Nat) (dJ0:Nat->Value):CE.landA 6 (Qam YP (Qa1 YP) J0 B 16 6 (Qco (none) 157 20 (([0,1,6,7]:List Nat).zip (QcO s xs n acc acc_n)) dJ0 Qda) (Qb5 (Qbp s xs) 6 (([5,2]:List Nat).zip (QcV s xs n acc acc_n)) (QbC s xs n acc acc_n)) (6+1+(QbC s xs n acc acc_n).length)
 (QqJ s xs n acc acc_n dJ0++[(5,Qaf.pure (.bool false) []),(12,hvI (n+1))]) 0 [] []) [0,1,6,7] [(5,KS.auto),(2,KS.auto)] [(7,KS.rows [(0,0)] [] (Qac (Qa6 0 Qa0) acc))] []=some ⟨157,20,Qda,[],.run,none,QcO s xs (n+1) (acc) (acc_n),([5,2]:List Nat).zip (QcV s xs (n+1) (acc) (acc_n)),QbC s xs (n+1) (acc) (acc_n),
 [QaX 6 [(0,0)] [] (Qac (Qa6 0 Qa0) acc) (Qac (Qa6 0 Qa0) acc),wq (n+1)=n+1,QaA []/\Qaq YP J0 159 #[.int .i64 s,.int .i64 n] (.bool false)]++Qm5 B s xs n acc acc_n dJ0⟩:=by kernel_rfl
theorem QwO (B:Lo) (s:Int) (xs:List (Row)) (n:Int) (acc:List Row) (acc_n:Nat) (dJ0:Nat->Value):CE.finK 6 (Qam YP (Qa1 YP) J0 B 7 6 (Qco (none) 157 20 (([0,1,6,7]:List Nat).zip (QcO s xs n acc acc_n)) dJ0 Qda) (Qb5 (Qbp s xs) 6 (([5,2]:List Nat).zip (QcV s xs n acc acc_n)) (QbC s xs n acc acc_n)) (6+1+(QbC s xs n acc acc_n).length)
 [(0,hvF)] 0 [] []) [(5,KS.auto),(2,KS.auto)] [(7,KS.rows [(0,0)] [] (Qac (Qa6 0 Qa0) acc))] []=some (OO.ret (.tuple #[]),[(5,Obj.loop {state:=LoopState.ready,pending:=none,fn:=121,tmps:=#[.int .i64 s,Qa4 0 (slT xs.length (Qac Qa0 xs)),.tuple #[],pA 1 0,.slice none 0 0,pA 2 0,.tuple #[],.int .i64 s,Value.func (Fn.func 157) #[] #[Qa4 3 (ptT 0 #[.int .i64 s])],.tuple #[],.tuple #[],.tuple #[],.tuple #[],.tuple #[],.tuple #[],.tuple #[],.tuple #[],.tuple #[]],params:=#[9],assign:=nav (Qar YP 121) [1,1,0,1,0,0],body:=nav (Qar YP 121) [1,1,0,1,0,1],defers:=4}),(2,Obj.cells #[.slice (some {block:=7,off:=0}) acc_n 1] 63)],[Obj.cells (Qac (Qa6 0 Qa0) acc) 22],
 [QaX 6 [(0,0)] [] (Qac (Qa6 0 Qa0) acc) (Qac (Qa6 0 Qa0) acc),ltq n (QcF s)=false]):=by kernel_rfl
set_option maxHeartbeats 4000000 in
theorem Qk8 (s:Int) (xs:List (Row)) (h0:0<=s) (h1:s < 64) (hx:QcF s<=xs.length) {B:Lo} (hJ:∀w,B.has w->J0 w):∀m:Nat,(∀(n:Int),∀(r:Bool),(!(([]:List Row)++Qa8 s xs n).isEmpty)=r->(QcF s - n).toNat=m->∀(hn:0<=n),(∃dJ0:Nat->Value,(∀t,Qbc (dJ0 t))/\GoE YP B (Qc6 s xs) (Qbp s xs) 6 (Qco (none) 157 20 (([0,1,6,7]:List Nat).zip (QcP s xs n)) dJ0 QcT) (Qb5 (Qbp s xs) 6 (([5,2]:List Nat).zip (QcU s xs n)) (QbA s xs n)) (6+1+(QbA s xs n).length) ([5,2]:List Nat))->FinK YP B (Qc6 s xs) (Qbp s xs) 6 (.ret (.tuple #[])) (([5,2]:List Nat).zip ([Obj.loop {state:=LoopState.ready,pending:=none,fn:=121,tmps:=#[.int .i64 s,Qa4 0 (slT xs.length (Qac Qa0 xs)),.tuple #[],pA 1 0,.slice none 0 0,pA 2 0,.tuple #[],.int .i64 s,Value.func (Fn.func 157) #[] #[Qa4 3 (ptT 0 #[.int .i64 s])],.tuple #[],.tuple #[],.tuple #[],.tuple #[],.tuple #[],.tuple #[],.tuple #[],.tuple #[],.tuple #[]],params:=#[9],assign:=nav (Qar YP 121) [1,1,0,1,0,0],body:=nav (Qar YP 121) [1,1,0,1,0,1],defers:=4},.cells #[bif r then .slice (some ⟨7,0,none⟩) (([]:List Row)++Qa8 s xs n).length 1 else .slice none 0 0] 63 (0,0)])) (bif r then [Go.Obj.cells (Qac (Qa6 0 Qa0) (([]:List Row)++Qa8 s xs n)) 22 (0,0)] else []) ([5,2]:List Nat))/\(∀(n:Int) (acc:List Row) (acc_n:Nat),∀(r:Bool),(!(acc++Qa8 s xs n).isEmpty)=r->(QcF s - n).toNat=m->∀(hn:0<=n) (hacc:acc_n=acc.length) (haccb:acc≠[]/\(acc_n:Int)<=n),(∃dJ0:Nat->Value,(∀t,Qbc (dJ0 t))/\GoE YP B (Qc6 s xs) (Qbp s xs) 6 (Qco (none) 157 20 (([0,1,6,7]:List Nat).zip (QcO s xs n acc acc_n)) dJ0 Qda) (Qb5 (Qbp s xs) 6 (([5,2]:List Nat).zip (QcV s xs n acc acc_n)) (QbC s xs n acc acc_n)) (6+1+(QbC s xs n acc acc_n).length) ([5,2]:List Nat))->FinK YP B (Qc6 s xs) (Qbp s xs) 6 (.ret (.tuple #[])) (([5,2]:List Nat).zip ([Obj.loop {state:=LoopState.ready,pending:=none,fn:=121,tmps:=#[.int .i64 s,Qa4 0 (slT xs.length (Qac Qa0 xs)),.tuple #[],pA 1 0,.slice none 0 0,pA 2 0,.tuple #[],.int .i64 s,Value.func (Fn.func 157) #[] #[Qa4 3 (ptT 0 #[.int .i64 s])],.tuple #[],.tuple #[],.tuple #[],.tuple #[],.tuple #[],.tuple #[],.tuple #[],.tuple #[],.tuple #[]],params:=#[9],assign:=nav (Qar YP 121) [1,1,0,1,0,0],body:=nav (Qar YP 121) [1,1,0,1,0,1],defers:=4},.cells #[bif r then .slice (some ⟨7,0,none⟩) (acc++Qa8 s xs n).length 1 else .slice none 0 0] 63 (0,0)])) (bif r then [Go.Obj.cells (Qac (Qa6 0 Qa0) (acc++Qa8 s xs n)) 22 (0,0)] else []) ([5,2]:List Nat)):=by
 intro m0;induction m0 using Nat.strongRecOn with
 | _ m0 ih0=>
   refine ⟨?_, ?_⟩
   ·intro n r1 hr1 hm0 hn ⟨dJ0,hdJ0,hg0⟩;have hl:=QfI h0 h1;by_cases q0:(n:Int) < (QcF s)
    ·have hp1:QaA (QmS B s xs n dJ0):=by
      exact ⟨(QaW q0),trivial⟩
     cases q1:Qle s n with
     | true=>
       have rj2:FJ YP B (Qj8 s xs n dJ0) (Qhw s xs n dJ0) 7 (OO.ret (.bool true)) (([(5,Obj.loop {state:=LoopState.ready,pending:=none,fn:=121,tmps:=#[.int .i64 s,Qa4 0 (slT xs.length (Qac Qa0 xs)),.tuple #[],pA 1 0,.slice none 0 0,pA 2 0,.tuple #[],.int .i64 s,Value.func (Fn.func 157) #[] #[Qa4 3 (ptT 0 #[.int .i64 s])],.tuple #[],.tuple #[],.tuple #[],.tuple #[],.tuple #[],.tuple #[],.tuple #[],.tuple #[],.tuple #[]],params:=#[9],assign:=nav (Qar YP 121) [1,1,0,1,0,0],body:=nav (Qar YP 121) [1,1,0,1,0,1],defers:=4}),(2,Obj.cells #[.slice (some {block:=8,off:=0}) 1 1] 63)]++((7,Qb0)::QaR (7+1) [Obj.cells #[Qa4 0 (slT (List.length (xs.getD n.toNat default)) (Qac Qal (xs.getD n.toNat default)))] 22]))++Qhw s xs n dJ0) 9 (List.range 7) [5,2]:=by
        have s2:=Qfq (s:=s) (xs:=xs) q0 q1;exact FinK.fjB (GoE.finK okF hJ Qab (Qau (by kernel_rfl)) (Qak (by kernel_rfl)) ((GoE.refl (P:=YP) (B:=B) (c0:=Qj8 s xs n dJ0) (Qau (by kernel_rfl))).widen (Wf:=((([(5,KS.auto),(2,KS.auto)]):List (Nat×KS)).map (·.1))) (by simp) (Qak (by kernel_rfl))) (Q0t B s xs n dJ0)
         ⟨⟨by omega,by omega,(Qae (z:=1) (fun _=> rfl) (by omega))⟩,trivial⟩) (ex:=[]) (by kernel_rfl) (Qb1 _)
       have s2:=Qfq (s:=s) (xs:=xs) q0 q1;exact ((ih0 _ (by omega)).2 (n+1) ([xs.getD n.toNat default]) (1) r1 (by (rw [<-hr1,s2];simp;done)) rfl (by omega) (by (simp_all;done)) (by (refine ⟨by simp, ?_⟩;omega))
        (GoE.landA okF hJ Qab (Qau (by kernel_rfl)) (Qak (by kernel_rfl)) hg0 (QxJ B s xs n dJ0)
        ⟨(by exact (Qfa (by exact ⟨(.reg (List.Mem.head _) rfl),trivial⟩))),⟨(QaL (by omega) (by omega)),⟨rj2,⟨⟨trivial,(by have t_:=Q30 (s) (n) (by omega) (by omega);rw [q1] at t_;exact t_)⟩,hp1⟩⟩⟩⟩ (by kernel_rfl) (by kernel_rfl) (fun l hl=> by cases hl <;> decide))).cast (by rfl) (by (rw [s2];rfl)) (by (rw [s2];rfl))
     | false=>
       have s2:=QiR (s:=s) (xs:=xs) q0 q1;exact ((ih0 _ (by omega)).1 (n+1) r1 (by (rw [<-hr1,s2];done)) rfl (by omega)
        (GoE.landA okF hJ Qab (Qau (by kernel_rfl)) (Qak (by kernel_rfl)) hg0 (Qzh B s xs n dJ0)
        ⟨(QaL (by omega) (by omega)),⟨⟨trivial,(by have t_:=Q30 (s) (n) (by omega) (by omega);rw [q1] at t_;exact t_)⟩,hp1⟩⟩ (by kernel_rfl) (by kernel_rfl) (fun l hl=> by cases hl <;> decide))).cast (by rfl) (by (rw [s2];done)) (by (rw [s2];done))
    ·have s2:=Qjq (s:=s) (xs:=xs) (n:=n) (by omega);exact (GoE.finK okF hJ Qab (Qau (by kernel_rfl)) (Qak (by kernel_rfl)) hg0 (QzA B s xs n dJ0)
      ⟨(Qbh (Int.not_lt.1 q0)),trivial⟩).cast (by rfl) (by (subst hr1;rw [s2];rfl)) (by (subst hr1;rw [s2];rfl))
   ·intro n acc acc_n r1 hr1 hm0 hn hacc haccb ⟨dJ0,hdJ0,hg0⟩;have hl:=QfI h0 h1;by_cases q0:(n:Int) < (QcF s)
    ·have hp2:QaA (Qm5 B s xs n acc acc_n dJ0):=by
      exact ⟨(QaW q0),trivial⟩
     cases q1:Qle s n with
     | true=>
       have rj2:FJ YP B (QiQ s xs n acc acc_n dJ0) (Qht s xs n acc acc_n dJ0) 8 (OO.ret (.bool true)) (([(7,Obj.pending #[] 0),(5,Obj.loop {state:=LoopState.ready,pending:=none,fn:=121,tmps:=#[.int .i64 s,Qa4 0 (slT xs.length (Qac Qa0 xs)),.tuple #[],pA 1 0,.slice none 0 0,pA 2 0,.tuple #[],.int .i64 s,Value.func (Fn.func 157) #[] #[Qa4 3 (ptT 0 #[.int .i64 s])],.tuple #[],.tuple #[],.tuple #[],.tuple #[],.tuple #[],.tuple #[],.tuple #[],.tuple #[],.tuple #[]],params:=#[9],assign:=nav (Qar YP 121) [1,1,0,1,0,0],body:=nav (Qar YP 121) [1,1,0,1,0,1],defers:=4}),(2,Obj.cells #[.slice (some {block:=9,off:=0}) (acc_n+1) 1] 63)]++((8,Qb0)::QaR (8+1) [Obj.cells (Qac (Qa6 0 Qa0) (acc++[xs.getD n.toNat default])) 22]))++Qht s xs n acc acc_n dJ0) 10 (List.range 8) [7,5,2]:=by
        have s2:=Qfq (s:=s) (xs:=xs) q0 q1;exact FinK.fjB (GoE.finK okF hJ Qab (Qau (by kernel_rfl)) (Qak (by kernel_rfl)) ((GoE.refl (P:=YP) (B:=B) (c0:=QiQ s xs n acc acc_n dJ0) (Qau (by kernel_rfl))).widen (Wf:=((([(7,KS.dead),(5,KS.auto),(2,KS.auto)]):List (Nat×KS)).map (·.1))) (by simp) (Qak (by kernel_rfl))) (QyY B s xs n acc acc_n dJ0)
         ⟨(by exact (Qei (QaK (QaQ (fun _=> rfl)) (List.Mem.head _)) (by exact ⟨(.reg (List.Mem.head _) rfl),trivial⟩))),⟨⟨(by (rw [Qbf (z:=1) (fun _=> rfl)];first | omega | (simp;omega) | (simp_all;done))),(by unfold maxLen;omega),by omega,rfl⟩,⟨⟨by omega,by omega,(Qae (z:=1) (fun _=> rfl) (by omega))⟩,trivial⟩⟩⟩) (ex:=[7]) (by kernel_rfl) ⟨trivial,⟨trivial,⟨trivial,⟨(QeZ (t:=22) (fl:=(0,0)) (QaQ (fun _=> rfl)) (by decide)),⟨trivial,⟨trivial,⟨trivial,⟨trivial,⟨trivial,⟨trivial,trivial⟩⟩⟩⟩⟩⟩⟩⟩⟩⟩
       have s2:=Qfq (s:=s) (xs:=xs) q0 q1;exact ((ih0 _ (by omega)).2 (n+1) (acc++[xs.getD n.toNat default]) (acc_n+1) r1 (by (rw [<-hr1,s2];simp;done)) rfl (by omega) (by (simp_all;done)) (by (simp_all;done))
        (GoE.landA okF hJ Qab (Qau (by kernel_rfl)) (Qak (by kernel_rfl)) hg0 (QyM B s xs n acc acc_n dJ0)
        ⟨(by exact (QaK (QaQ (fun _=> rfl)) (List.Mem.head _))),⟨(QaL (by omega) (by omega)),⟨rj2,⟨⟨trivial,(by have t_:=Q30 (s) (n) (by omega) (by omega);rw [q1] at t_;exact t_)⟩,hp2⟩⟩⟩⟩ (by kernel_rfl) (by kernel_rfl) (fun l hl=> by cases hl <;> decide))).cast (by rfl) (by (rw [s2,<-List.append_assoc];done)) (by (rw [s2,<-List.append_assoc];done))
     | false=>
       have s2:=QiR (s:=s) (xs:=xs) q0 q1;exact ((ih0 _ (by omega)).2 (n+1) (acc) (acc_n) r1 (by (rw [<-hr1,s2];done)) rfl (by omega) (by with_reducible assumption) (by exact ⟨haccb.1,by omega⟩)
        (GoE.landA okF hJ Qab (Qau (by kernel_rfl)) (Qak (by kernel_rfl)) hg0 (Qxv B s xs n acc acc_n dJ0)
        ⟨(by exact (QaK (QaQ (fun _=> rfl)) (List.Mem.head _))),⟨(QaL (by omega) (by omega)),⟨⟨trivial,(by have t_:=Q30 (s) (n) (by omega) (by omega);rw [q1] at t_;exact t_)⟩,hp2⟩⟩⟩ (by kernel_rfl) (by kernel_rfl) (fun l hl=> by cases hl <;> decide))).cast (by rfl) (by (rw [s2];done)) (by (rw [s2];done))
    ·have s2:=Qjq (s:=s) (xs:=xs) (n:=n) (by omega);exact (GoE.finK okF hJ Qab (Qau (by kernel_rfl)) (Qak (by kernel_rfl)) hg0 (QwO B s xs n acc acc_n dJ0)
      ⟨(by exact (QaK (QaQ (fun _=> rfl)) (List.Mem.head _))),⟨(Qbh (Int.not_lt.1 q0)),trivial⟩⟩).cast (by rfl) (by (subst hr1;simp only [Q1d haccb.1,s2,List.append_nil,hacc,Bool.not_false,cond_true];rfl)) (by (subst hr1;simp only [Q1d haccb.1,s2,List.append_nil,hacc,Bool.not_false,cond_true];done))

theorem QxH (B:Lo) (s:Int) (xs:List (Row)):CE.landA 6 (Qam YP (Qa1 YP) J0 B 4 6 (Qc6 s xs) (Qbp s xs) 6
 [(1,Qaf.old (Hint.val (Value.int IntKind.u64 s))),(2,Qaf.pure (.int .i64 (QcF s)) [])] 0 [] []) [0,1,6,7] [(5,KS.auto),(2,KS.auto)] [] []=some ⟨157,20,QcT,[],.run,none,QcP s xs (0),([5,2]:List Nat).zip (QcU s xs (0)),QbA s xs (0),
 [QaA []/\Qaq YP J0 158 #[Value.int IntKind.u64 s] (.int .i64 (QcF s)),IntKind.wrap IntKind.u64 s=s]⟩:=by kernel_rfl
theorem QvU (B:Lo) (s:Int) (xs:List (Row)):QaY (Qam YP (Qa1 YP) J0 B 16 1 (Qaj YP 121 18 (([.int .i64 s,slT xs.length (Qac Qa0 xs)]).map (Qat 0 4))) H00 1
 (Qsk s xs++[(5,Qaf.call (List.range 6) (OO.ret (.tuple #[])) ([(5,Obj.loop {state:=LoopState.ready,pending:=none,fn:=121,tmps:=(Qe4 s xs),params:=#[9],assign:=nav (Qar YP 121) [1,1,0,1,0,0],body:=nav (Qar YP 121) [1,1,0,1,0,1],defers:=4}),(2,Obj.cells #[.slice (some {block:=7,off:=0}) (List.length ([]++Qa8 s xs 0)) 1] 63)]++(6,Qb0)::QaR 7 [Obj.cells (Qac (Qa6 0 Qa0) ([]++Qa8 s xs 0)) 22]) 8 [5,2])]) 0 [] []) [{k:=7,rs:=[0],cs:=Qac Qa0 ([]++Qa8 s xs 0)}]=some (slT (List.length ([]++Qa8 s xs 0)) (Fz.cs {k:=7,rs:=[0],cs:=Qac Qa0 ([]++Qa8 s xs 0)}),
 [Qbj (Fz.rs {k:=7,rs:=[0],cs:=Qac Qa0 ([]++Qa8 s xs 0)}) (Qac (Qa6 0 Qa0) ([]++Qa8 s xs 0)) (Fz.cs {k:=7,rs:=[0],cs:=Qac Qa0 ([]++Qa8 s xs 0)}),FJ YP B (Qc6 s xs) (Qbp s xs) 6 (OO.ret (.tuple #[])) (([(5,Obj.loop {state:=LoopState.ready,pending:=none,fn:=121,tmps:=(Qe4 s xs),params:=#[9],assign:=nav (Qar YP 121) [1,1,0,1,0,0],body:=nav (Qar YP 121) [1,1,0,1,0,1],defers:=4}),(2,Obj.cells #[.slice (some {block:=7,off:=0}) (List.length ([]++Qa8 s xs 0)) 1] 63)]++((6,Qb0)::QaR (6+1) [Obj.cells (Qac (Qa6 0 Qa0) ([]++Qa8 s xs 0)) 22]))++Qbp s xs) 8 (List.range 6) [5,2]]++QlH B s xs):=by kernel_rfl
theorem Qwl (B:Lo) (s:Int) (xs:List (Row)):CE.landA 6 (Qam YP (Qa1 YP) J0 B 4 6 (Qc6 s xs) (Qbp s xs) 6
 [(1,Qaf.old (Hint.val (Value.int IntKind.u64 s))),(2,Qaf.pure (.int .i64 (QcF s)) [])] 0 [] []) [0,1,6,7] [(5,KS.auto),(2,KS.auto)] [] []=some ⟨157,20,QcT,[],.run,none,QcP s xs (0),([5,2]:List Nat).zip (QcU s xs (0)),QbA s xs (0),
 [QaA []/\Qaq YP J0 158 #[Value.int IntKind.u64 s] (.int .i64 (QcF s)),IntKind.wrap IntKind.u64 s=s]⟩:=by kernel_rfl
theorem Qwa (B:Lo) (s:Int) (xs:List (Row)):QaY (Qam YP (Qa1 YP) J0 B 16 1 (Qaj YP 121 18 (([.int .i64 s,slT xs.length (Qac Qa0 xs)]).map (Qat 0 4))) H00 1
 (Qsk s xs++[(5,Qaf.call (List.range 6) (OO.ret (.tuple #[])) ([(5,Obj.loop {state:=LoopState.ready,pending:=none,fn:=121,tmps:=(Qe4 s xs),params:=#[9],assign:=nav (Qar YP 121) [1,1,0,1,0,0],body:=nav (Qar YP 121) [1,1,0,1,0,1],defers:=4}),(2,Obj.cells #[.slice none 0 0] 63)]++(6,Qb0)::QaR 7 []) 7 [5,2])]) 0 [] []) []=some (slT 0 #[],
 [FJ YP B (Qc6 s xs) (Qbp s xs) 6 (OO.ret (.tuple #[])) (([(5,Obj.loop {state:=LoopState.ready,pending:=none,fn:=121,tmps:=(Qe4 s xs),params:=#[9],assign:=nav (Qar YP 121) [1,1,0,1,0,0],body:=nav (Qar YP 121) [1,1,0,1,0,1],defers:=4}),(2,Obj.cells #[.slice none 0 0] 63)]++((6,Qb0)::QaR (6+1) []))++Qbp s xs) 7 (List.range 6) [5,2]]++QlH B s xs):=by kernel_rfl
set_option maxHeartbeats 4000000 in
theorem Q0S (s:Int) (xs:List (Row)) (h0:0<=s) (h1:s < 64) (hx:QcF s<=xs.length) {B:Lo} (hJ:∀w,B.has w->J0 w):EndsT YP B (Qaj YP 121 18 (([.int .i64 s,slT xs.length (Qac Qa0 xs)]).map (Qat 0 4))) (slT (Qa8 s xs 0).length (Qac Qa0 (Qa8 s xs 0))):=by
 have hl:=QfI h0 h1;have rj0:FJ YP B (Qjh s xs) (QgI s xs) 3 (OO.ret (Value.func (Fn.func 157) #[] #[Qa4 3 (ptT 0 #[.int .i64 s])])) (([]++((3,Qb0)::QaR (3+1) []))++QgI s xs) 4 (List.range 3) []:=by
  exact FinK.fjB (GoE.finK okF hJ Qab (Qau (by kernel_rfl)) (Qak (by kernel_rfl)) ((GoE.refl (P:=YP) (B:=B) (c0:=Qjh s xs) (Qau (by kernel_rfl))).widen (Wf:=((([]):List (Nat×KS)).map (·.1))) (by simp) (Qak (by kernel_rfl))) (Qx9 B s xs)
   ⟨(Qgs (by kernel_rfl)),trivial⟩) (ex:=[]) (by kernel_rfl) (Qb1 _)
 have hp0:QaA (QlH B s xs):=by
  exact ⟨rj0,trivial⟩
 cases q0: !List.isEmpty ([]++Qa8 s xs 0) with
 | true=>
   have rj1:FJ YP B (Qc6 s xs) (Qbp s xs) 6 (OO.ret (.tuple #[])) (([(5,Obj.loop {state:=LoopState.ready,pending:=none,fn:=121,tmps:=#[.int .i64 s,Qa4 0 (slT xs.length (Qac Qa0 xs)),.tuple #[],pA 1 0,.slice none 0 0,pA 2 0,.tuple #[],.int .i64 s,Value.func (Fn.func 157) #[] #[Qa4 3 (ptT 0 #[.int .i64 s])],.tuple #[],.tuple #[],.tuple #[],.tuple #[],.tuple #[],.tuple #[],.tuple #[],.tuple #[],.tuple #[]],params:=#[9],assign:=nav (Qar YP 121) [1,1,0,1,0,0],body:=nav (Qar YP 121) [1,1,0,1,0,1],defers:=4}),(2,Obj.cells #[.slice (some {block:=7,off:=0}) (List.length ([]++Qa8 s xs 0)) 1] 63)]++((6,Qb0)::QaR (6+1) [Obj.cells (Qac (Qa6 0 Qa0) ([]++Qa8 s xs 0)) 22]))++Qbp s xs) 8 (List.range 6) [5,2]:=by
    exact FinK.fjB ((Qk8 s xs h0 h1 hx hJ _).1 (0) true q0 rfl (by omega)
     (GoE.landA okF hJ Qab (Qau (by kernel_rfl)) (Qak (by kernel_rfl)) ((GoE.refl (P:=YP) (B:=B) (c0:=Qc6 s xs) (Qau (by kernel_rfl))).widen (Wf:=((([(5,KS.auto),(2,KS.auto)]):List (Nat×KS)).map (·.1))) (by simp) (Qak (by kernel_rfl))) (QxH B s xs)
     ⟨⟨trivial,Q67 (s) (by with_reducible assumption) (by with_reducible assumption)⟩,⟨(IntWalk.u64_in _ ⟨by omega,by omega⟩),trivial⟩⟩ (by kernel_rfl) (by kernel_rfl) (fun l hl=> by cases hl <;> decide))) (ex:=[]) (by kernel_rfl) (Qb1 _)
   exact (GoE.endsT okF hJ Qab GoE.start (QvU B s xs)
    ⟨(Qcl (QaQ (fun _=> rfl)) (List.Mem.head _)),⟨rj1,hp0⟩⟩).cast (by rfl)
 | false=>
   have rj1:FJ YP B (Qc6 s xs) (Qbp s xs) 6 (OO.ret (.tuple #[])) (([(5,Obj.loop {state:=LoopState.ready,pending:=none,fn:=121,tmps:=#[.int .i64 s,Qa4 0 (slT xs.length (Qac Qa0 xs)),.tuple #[],pA 1 0,.slice none 0 0,pA 2 0,.tuple #[],.int .i64 s,Value.func (Fn.func 157) #[] #[Qa4 3 (ptT 0 #[.int .i64 s])],.tuple #[],.tuple #[],.tuple #[],.tuple #[],.tuple #[],.tuple #[],.tuple #[],.tuple #[],.tuple #[]],params:=#[9],assign:=nav (Qar YP 121) [1,1,0,1,0,0],body:=nav (Qar YP 121) [1,1,0,1,0,1],defers:=4}),(2,Obj.cells #[.slice none 0 0] 63)]++((6,Qb0)::QaR (6+1) []))++Qbp s xs) 7 (List.range 6) [5,2]:=by
    exact FinK.fjB ((Qk8 s xs h0 h1 hx hJ _).1 (0) false q0 rfl (by omega)
     (GoE.landA okF hJ Qab (Qau (by kernel_rfl)) (Qak (by kernel_rfl)) ((GoE.refl (P:=YP) (B:=B) (c0:=Qc6 s xs) (Qau (by kernel_rfl))).widen (Wf:=((([(5,KS.auto),(2,KS.auto)]):List (Nat×KS)).map (·.1))) (by simp) (Qak (by kernel_rfl))) (Qwl B s xs)
     ⟨⟨trivial,Q67 (s) (by with_reducible assumption) (by with_reducible assumption)⟩,⟨(IntWalk.u64_in _ ⟨by omega,by omega⟩),trivial⟩⟩ (by kernel_rfl) (by kernel_rfl) (fun l hl=> by cases hl <;> decide))) (ex:=[]) (by kernel_rfl) (Qb1 _)
   exact (GoE.endsT okF hJ Qab GoE.start (Qwa B s xs)
    ⟨rj1,hp0⟩).cast (by (rw [Q5N q0];rfl))
theorem Q6u (s:Int) (xs:List (Row)) (h0:0<=s) (h1:s < 64) (hx:QcF s<=xs.length):Qaq YP J0 121 #[.int .i64 s,slT xs.length (Qac Qa0 xs)] (slT (Qa8 s xs 0).length (Qac Qa0 (Qa8 s xs 0))):=
 QaE (ts:=[.int .i64 s,slT xs.length (Qac Qa0 xs)]) Qbw (c0:=Qaj YP 121 18 (([.int .i64 s,slT xs.length (Qac Qa0 xs)]).map (Qat 0 4))) (by kernel_rfl) (by kernel_rfl) fun B hJ=> Q0S s xs h0 h1 hx hJ
end
end Go.Proofs.YtiabgkiccaodmaaGreat

namespace Go.Proofs.YtiabgkiccaodmaaGreat
open Go Go.CE Go.RowKit
set_option maxRecDepth 100000
def Qg1 {α β:Type} (f:α->β) (x0:β) (xs:List α) (i:Int):List β:=(xs.take i.toNat).map f++List.replicate (xs.length - i.toNat) x0
theorem QfE {α β:Type} {f:α->β} {x0:β} {xs:List α}:List.replicate xs.length x0=Qg1 f x0 xs 0:=by simp [Qg1]
theorem Qdz {α β:Type} {f:α->β} {x0:β} {xs:List α} {i:Int}:(Qg1 f x0 xs i).length=xs.length:=by simp [Qg1];omega
theorem Qd0 {α β:Type} [Inhabited α] {f:α->β} {x0:β} {xs:List α} {i:Int} (h0:0<=i) (h:i < xs.length):(Qg1 f x0 xs i).set i.toNat (f (xs.getD i.toNat default))=Qg1 f x0 xs (i+1):=by
 obtain ⟨k,rfl⟩:∃k:Nat,i=k:=⟨i.toNat,by omega⟩
 have hk:k < xs.length:=by omega
 have e1:((k:Int)).toNat=k:=by omega
 have e2:((k:Int)+1).toNat=k+1:=by omega
 unfold Qg1;rw [e1,e2];have hl:((xs.take k).map f).length=k:=by simp;omega
 rw [List.set_append_right _ _ (by omega),hl,Nat.sub_self];have er:xs.length - k=(xs.length - (k+1))+1:=by omega
 rw [er,List.replicate_succ,List.set_cons_zero];have et:xs.take (k+1)=xs.take k++[xs[k]]:=by rw [List.take_succ_eq_append_getElem hk]
 rw [et,List.map_append,List.append_assoc];simp [List.getD_eq_getElem?_getD,hk]
theorem Qdp {α β:Type} {f:α->β} {x0:β} {xs:List α} {i:Int} (h:xs.length<=i):Qg1 f x0 xs i=xs.map f:=by
 unfold Qg1;rw [List.take_of_length_le (by omega),show xs.length - i.toNat=0 by omega];simp
theorem Qfn {β:Type} {e:β->List Value} {ys zs:List β} {n:Nat} (h:ys=zs) (hn:n=zs.length):slT n (Qac e ys)=slT zs.length (Qac e zs):=by subst h hn;rfl
def Qhu (xs:List Qad) (i:Int) (ys:List Int):List Value:=[Value.func (Fn.func 140) #[] #[],.slice (some {block:=2,off:=0}) xs.length 1,Qa4 1 (slT xs.length (Qac Qap xs)),.int .i64 (↑xs.length:Int),.int .i64 i]
def Qey (xs:List Qad) (i:Int) (ys:List Int):List Obj:=[.cells (Qac Qal ys) 3 (0,0)]
noncomputable def Qho:List Item:=([.code [1,1,0,1,0,0],.inLoop [1,1,0,1,0,0],.inBlock 0,.code [1,1,1]]).map (it (Qar YP 92))
def QzN (B:Lo) (c0:CF) (xs:List Qad) (i:Int) (ys:List Int):Prop:=∃dJ:Nat->Value,(∀t,Qbc (dJ t))/\GoE YP B c0 H00 1 (Qa9 92 26 (([1,5,11,12,13]:List Nat).zip (Qhu xs i ys)) dJ Qho) (Qa5 (Qey xs i ys)) (2+(Qey xs i ys).length) []
noncomputable def Qhx (xs:List Qad) (i:Int) (ys:List Int) (dJ0:Nat->Value):Qax:=[(3,Obj.cells #[Qa4 1 (slT (List.length (Qad.goods (xs.getD i.toNat default))) (Qac Qa7 (Qad.goods (xs.getD i.toNat default)))),.int .i64 (Qad.weight (xs.getD i.toNat default)),.int .i64 (Qad.cost (xs.getD i.toNat default))] 118),(0,Obj.coro none),(1,Obj.coro none),(2,Obj.cells (Qac Qal ys) 3)]
noncomputable def Qi9 (xs:List Qad) (i:Int) (ys:List Int) (dJ0:Nat->Value):CF:=⟨140,ofList 5 [.agg #[Qa4 1 (slT (List.length (Qad.goods (xs.getD i.toNat default))) (Qac Qa7 (Qad.goods (xs.getD i.toNat default)))),.int .i64 (Qad.weight (xs.getD i.toNat default)),.int .i64 (Qad.cost (xs.getD i.toNat default))]],[Item.code (Qar YP 140)],[],.run,none⟩
theorem QxU (B:Lo) (xs:List Qad) (i:Int) (ys:List Int) (dJ0:Nat->Value):CE.finK 4 (Qam YP (Qa1 YP) J0 B 6 4 (Qi9 xs i ys dJ0) (Qhx xs i ys dJ0) 4
 [] 0 [] []) [] [] []=some (OO.ret (.int .i64 (Qad.weight (xs.getD i.toNat default))),[],[],
 []):=by kernel_rfl
theorem Qye (B:Lo) (xs:List Qad) (i:Int) (ys:List Int) (dJ0:Nat->Value):landM (Qam YP (Qa1 YP) J0 B 13 1 (Qa9 92 26 (([1,5,11,12,13]:List Nat).zip (Qhu xs i ys)) dJ0 Qho) (Qa5 (Qey xs i ys)) (2+(Qey xs i ys).length)
 [(0,hvT),(2,Qaf.tidx i.toNat #[slT (List.length (Qad.goods (xs.getD i.toNat default))) (Qac Qa7 (Qad.goods (xs.getD i.toNat default))),.int .i64 (Qad.weight (xs.getD i.toNat default)),.int .i64 (Qad.cost (xs.getD i.toNat default))]),(11,Qaf.call (List.range 4) (OO.ret (.int .i64 (Qad.weight (xs.getD i.toNat default)))) ([]++(4,Qb0)::QaR 5 []) 5 []),(12,Qaf.old (Hint.idx i.toNat)),(13,Qaf.old (Hint.st (Qac Qal (List.set ys i.toNat (Qad.weight (xs.getD i.toNat default)))))),(14,hvI (i+1))] 0 [] []) [1,5,11,12,13] [(2,KS.cells [] (Qac Qal (List.set ys i.toNat (Qad.weight (xs.getD i.toNat default)))))] []=some ⟨92,26,Qho,[],.run,none,Qhu xs (i+1) (List.set ys i.toNat (Qad.weight (xs.getD i.toNat default))),Qey xs (i+1) (List.set ys i.toNat (Qad.weight (xs.getD i.toNat default))),
 [QaF 1 [] (Qac Qal (List.set ys i.toNat (Qad.weight (xs.getD i.toNat default)))) (Qac Qal (List.set ys i.toNat (Qad.weight (xs.getD i.toNat default)))),wq (i+1)=i+1,0+Int.toNat i * 1+TypeInfo.size Tryz.t3<=Array.size (Qac Qal ys)/\splice (Qac Qal ys) (0+Int.toNat i * 1) (Value.cells (Qcd {len:=16000,tr:=Tri.set 14 (Tri.set 14 Tri.lf 22 (.int .i64 (Qad.weight (xs.getD i.toNat default)))) 23 (.pointer (some {block:=2,off:=0+Int.toNat i * 1}))} 22))=Qac Qal (List.set ys i.toNat (Qad.weight (xs.getD i.toNat default))),i=(↑i.toNat:Int)/\Int.toNat i < List.length xs,FJ YP B (Qi9 xs i ys dJ0) (Qhx xs i ys dJ0) 4 (OO.ret (.int .i64 (Qad.weight (xs.getD i.toNat default)))) (([]++((4,Qb0)::QaR (4+1) []))++Qhx xs i ys dJ0) 5 (List.range 4) [],i=(↑i.toNat:Int)/\Int.toNat i < List.length xs/\Array.extract (Qac Qap xs) (Int.toNat i * TypeInfo.size Tryz.t118) (Int.toNat i * TypeInfo.size Tryz.t118+TypeInfo.size Tryz.t118)=#[slT (List.length (Qad.goods (xs.getD i.toNat default))) (Qac Qa7 (Qad.goods (xs.getD i.toNat default))),.int .i64 (Qad.weight (xs.getD i.toNat default)),.int .i64 (Qad.cost (xs.getD i.toNat default))],ltq i (↑xs.length:Int)=true]⟩:=by kernel_rfl
theorem Qzi (B:Lo) (xs:List Qad) (i:Int) (ys:List Int) (dJ0:Nat->Value):QaY (Qam YP (Qa1 YP) J0 B 9 1 (Qa9 92 26 (([1,5,11,12,13]:List Nat).zip (Qhu xs i ys)) dJ0 Qho) (Qa5 (Qey xs i ys)) (2+(Qey xs i ys).length)
 [(0,hvF)] 0 [] []) [{k:=2,rs:=[],cs:=Qac Qal ys}]=some (slT xs.length (Fz.cs {k:=2,rs:=[],cs:=Qac Qal ys}),
 [Qbj (Fz.rs {k:=2,rs:=[],cs:=Qac Qal ys}) (Qac Qal ys) (Fz.cs {k:=2,rs:=[],cs:=Qac Qal ys}),ltq i (↑xs.length:Int)=false]):=by kernel_rfl
theorem Qxi (B:Lo) (xs:List Qad):landM (Qam YP (Qa1 YP) J0 B 9 1 (Qaj YP 92 26 (([slT xs.length (Qac Qap xs),.func (.func 140) #[] #[]]).map (Qat 0 4))) H00 1
 [(3,Qaf.old (Hint.mk xs.length (Qac (QbD [.int .i64 0]) (List.replicate xs.length ()))))] 0 [] []) [1,5,11,12,13] [(1,KS.rows [] [] (Qac Qal (List.replicate xs.length 0)))] []=some ⟨92,26,Qho,[],.run,none,Qhu xs (0) (List.replicate xs.length 0),Qey xs (0) (List.replicate xs.length 0),
 [QaX 1 [] [] (Qac (QbD [.int .i64 0]) (List.replicate xs.length ())) (Qac Qal (List.replicate xs.length 0)),QfK YP 22 (Qcd {len:=16000,tr:=Tri.set 14 Tri.lf 9 (.int .i64 (↑xs.length:Int))} 9) (Qcd {len:=16000,tr:=Tri.set 14 Tri.lf 9 (.int .i64 (↑xs.length:Int))} 9)=some (3,Qac (QbD [.int .i64 0]) (List.replicate xs.length ()),List.length xs,TypeInfo.size Tryz.t3)]⟩:=by kernel_rfl
set_option maxHeartbeats 4000000 in
theorem QxV (xs:List Qad) (hn:xs.length<=1000000) {B:Lo} (hJ:∀w,B.has w->J0 w) {c0:CF}:∀m:Nat,(∀(i:Int) (ys:List Int),(xs.length - i.toNat)=m->∀(h0:0<=i) (hy:ys=Qg1 Qad.weight 0 xs i),QzN B c0 xs i ys->EndsT YP B c0 (slI (xs.map Qad.weight))):=by
 intro m0;induction m0 using Nat.strongRecOn with
 | _ m0 ih0=>
   intro i ys hm0 h0 hy ⟨dJ0,hdJ0,hg0⟩;have hyl:ys.length=xs.length:=by rw [hy];exact Qdz
   by_cases q0:(i:Int) < ((↑xs.length:Int))
   ·have rj0:FJ YP B (Qi9 xs i ys dJ0) (Qhx xs i ys dJ0) 4 (OO.ret (.int .i64 (Qad.weight (xs.getD i.toNat default)))) (([]++((4,Qb0)::QaR (4+1) []))++Qhx xs i ys dJ0) 5 (List.range 4) []:=by
     exact FinK.fjB (GoE.finK okF hJ Qab (Qau (by kernel_rfl)) (Qak (by kernel_rfl)) ((GoE.refl (P:=YP) (B:=B) (c0:=Qi9 xs i ys dJ0) (Qau (by kernel_rfl))).widen (Wf:=((([]):List (Nat×KS)).map (·.1))) (by simp) (Qak (by kernel_rfl))) (QxU B xs i ys dJ0)
      trivial) (ex:=[2]) (by kernel_rfl) ⟨trivial,⟨trivial,⟨trivial,⟨(Qu5 (t:=3) (fl:=(0,0)) (fun x=> List.all_eq_true.1 (by rfl))),trivial⟩⟩⟩⟩
    exact ((ih0 _ (by omega)) (i+1) (List.set ys i.toNat (Qad.weight (xs.getD i.toNat default))) rfl (by omega) (by (subst hy;exact Qd0 h0 q0))
     (hg0.landM okF hJ Qab (Qye B xs i ys dJ0)
     ⟨(Qan (Qas (fun x=> List.all_eq_true.1 (by rfl)))),⟨(QaL (by omega) (by omega)),⟨(by exact Qf0 (z:=1) (fun _=> rfl) (by omega) rfl rfl),⟨⟨by omega,by omega⟩,⟨rj0,⟨⟨by omega,by omega,(Qae (z:=3) (fun _=> rfl) (by omega))⟩,⟨(QaW q0),trivial⟩⟩⟩⟩⟩⟩⟩ (by kernel_rfl) (by kernel_rfl))).cast (by rfl)
   ·exact (GoE.endsT okF hJ Qab hg0 (Qzi B xs i ys dJ0)
     ⟨(QaD (fun x=> List.all_eq_true.1 (by rfl))),⟨(Qbh (Int.not_lt.1 q0)),trivial⟩⟩).cast (by exact Qfn (hy.trans (Qdp (by omega))) (by simp))
set_option maxHeartbeats 4000000 in
theorem Q0K (xs:List Qad) (hn:xs.length<=1000000) {B:Lo} (hJ:∀w,B.has w->J0 w):EndsT YP B (Qaj YP 92 26 (([slT xs.length (Qac Qap xs),.func (.func 140) #[] #[]]).map (Qat 0 4))) (slI (xs.map Qad.weight)):=by
 exact ((QxV xs hn hJ _) (0) (List.replicate xs.length 0) rfl (by omega) (by exact QfE)
  (GoE.start.landM okF hJ Qab (Qxi B xs)
  ⟨(by exact (QbJ (by exact ⟨(.simple rfl),trivial⟩) _)),⟨(QfS (bytes:=8) (by kernel_rfl) (by omega) (by omega) (by omega)),trivial⟩⟩ (by kernel_rfl) (by kernel_rfl))).cast (by rfl)
theorem Q5I (xs:List Qad) (hn:xs.length<=1000000):Qaq YP J0 92 #[slT xs.length (Qac Qap xs),.func (.func 140) #[] #[]] (slI (xs.map Qad.weight)):=
 QaE (ts:=[slT xs.length (Qac Qap xs),.func (.func 140) #[] #[]]) Qbw (c0:=Qaj YP 92 26 (([slT xs.length (Qac Qap xs),.func (.func 140) #[] #[]]).map (Qat 0 4))) (by kernel_rfl) (by kernel_rfl) fun B hJ=> Q0K xs hn hJ
end Go.Proofs.YtiabgkiccaodmaaGreat

namespace Go.Proofs.YtiabgkiccaodmaaGreat
open Go Go.CE Go.RowKit
noncomputable section
set_option maxRecDepth 100000
structure Qaa where
 stock:List Int
 use:List Span
 glo:Int
 ghi:Int
 lots:List Qad
 hold:Int
deriving Inhabited
abbrev Q6V (xs:List Qad):Value:=slT xs.length (Qac Qap xs)
def Qah (s:Qaa):List Value:=[slI s.stock,Qnl s.use,.int .i64 s.glo,.int .i64 s.ghi,Q6V s.lots,.int .i64 s.hold]
def QcK (xs:List Span) (most:Int):Bool:=xs.all (fun s=> QbE s.lo s.hi 0 most)
def Qoo (k:Nat) (l:Qad):Bool:=decide (l.goods.length=k) && (QcK l.goods 100000 && (inB l.weight 0 100000 && inB l.cost 0 1000000))
def Qsd (s:Qaa):Bool:=decide (s.lots.length<=6) && s.lots.all (Qoo s.stock.length)
def Qa3 (s:Qaa):Bool:=inB s.stock.length 1 4 && (s.stock.all (fun x=> inB x 0 100000) && (decide (s.use.length=s.stock.length) && (QcK s.use 1000 && (QbE s.glo s.ghi 1 60 && (Qsd s && inB s.hold 0 100000)))))
theorem Qzj (B:Lo) (a b:Int):QaY (Qam YP (Qa1 YP) J0 B 6 1 (Qaj YP 75 5 (([.agg #[.int .i64 a,.int .i64 b]]).map (Qat 0 4))) H00 1
 [(3,Qaf.pure (.bool true) [])] 0 [] []) []=some (.bool true,
 [QaA []/\Qaq YP J0 109 #[.agg #[.int .i64 a,.int .i64 b],.int .i64 1,.int .i64 60] (.bool true)]):=by kernel_rfl
theorem Qx7 (B:Lo) (a b:Int):QaY (Qam YP (Qa1 YP) J0 B 6 1 (Qaj YP 75 5 (([.agg #[.int .i64 a,.int .i64 b]]).map (Qat 0 4))) H00 1
 [(3,Qaf.pure (.bool false) [])] 0 [] []) []=some (.bool false,
 [QaA []/\Qaq YP J0 109 #[.agg #[.int .i64 a,.int .i64 b],.int .i64 1,.int .i64 60] (.bool false)]):=by kernel_rfl
set_option maxHeartbeats 4000000 in
theorem Q2v (a b:Int)  {B:Lo} (hJ:∀w,B.has w->J0 w):EndsT YP B (Qaj YP 75 5 (([.agg #[.int .i64 a,.int .i64 b]]).map (Qat 0 4))) (.bool (QbE a b 1 60)):=by
 cases q0:QbE a b 1 60 with
 | true=>
   exact (GoE.endsT okF hJ Qab GoE.start (Qzj B a b)
    ⟨⟨trivial,(by have t_:=Qj7 (a) (b) (1) (60);rw [q0] at t_;exact t_)⟩,trivial⟩).cast (by rfl)
 | false=>
   exact (GoE.endsT okF hJ Qab GoE.start (Qx7 B a b)
    ⟨⟨trivial,(by have t_:=Qj7 (a) (b) (1) (60);rw [q0] at t_;exact t_)⟩,trivial⟩).cast (by rfl)
theorem Q3z (a b:Int)  :Qaq YP J0 75 #[.agg #[.int .i64 a,.int .i64 b]] (.bool (QbE a b 1 60)):=
 QaE (ts:=[.agg #[.int .i64 a,.int .i64 b]]) Qbw (c0:=Qaj YP 75 5 (([.agg #[.int .i64 a,.int .i64 b]]).map (Qat 0 4))) (by kernel_rfl) (by kernel_rfl) fun B hJ=> Q2v a b  hJ
theorem QqI (B:Lo) (n:Int):QaY (Qam YP (Qa1 YP) J0 B 6 1 (Qaj YP 114 5 (([.int .i64 n]).map (Qat 0 4))) H00 1
 [(2,Qaf.pure (.bool true) [])] 0 [] []) []=some (.bool true,
 [QaA []/\Qaq YP J0 76 #[.int .i64 n,.int .i64 0,.int .i64 100000] (.bool true)]):=by kernel_rfl
theorem Qqr (B:Lo) (n:Int):QaY (Qam YP (Qa1 YP) J0 B 6 1 (Qaj YP 114 5 (([.int .i64 n]).map (Qat 0 4))) H00 1
 [(2,Qaf.pure (.bool false) [])] 0 [] []) []=some (.bool false,
 [QaA []/\Qaq YP J0 76 #[.int .i64 n,.int .i64 0,.int .i64 100000] (.bool false)]):=by kernel_rfl
set_option maxHeartbeats 4000000 in
theorem QsJ (n:Int)  {B:Lo} (hJ:∀w,B.has w->J0 w):EndsT YP B (Qaj YP 114 5 (([.int .i64 n]).map (Qat 0 4))) (.bool (inB n 0 100000)):=by
 cases q0:inB n 0 100000 with
 | true=>
   exact (GoE.endsT okF hJ Qab GoE.start (QqI B n)
    ⟨⟨trivial,(by have t_:=pIn (n) (0) (100000);rw [q0] at t_;exact t_)⟩,trivial⟩).cast (by rfl)
 | false=>
   exact (GoE.endsT okF hJ Qab GoE.start (Qqr B n)
    ⟨⟨trivial,(by have t_:=pIn (n) (0) (100000);rw [q0] at t_;exact t_)⟩,trivial⟩).cast (by rfl)
theorem Qi2 (n:Int)  :Qaq YP J0 114 #[.int .i64 n] (.bool (inB n 0 100000)):=
 QaE (ts:=[.int .i64 n]) Qbw (c0:=Qaj YP 114 5 (([.int .i64 n]).map (Qat 0 4))) (by kernel_rfl) (by kernel_rfl) fun B hJ=> QsJ n  hJ
def QmV (B:Lo) (s:Qaa) (l:Qad):List Prop:=[eqq (↑l.goods.length:Int) (↑s.stock.length:Int)=true]++([]:List Prop)
def QrF (s:Qaa) (l:Qad):Qaz:=[(9,hvT)]
def Qmj (B:Lo) (s:Qaa) (l:Qad):List Prop:=[QaA []/\Qaq YP J0 101 #[slT l.goods.length (Qac Qa7 l.goods),.int .i64 100000] (.bool true)]++QmV B s l
def Qqq (s:Qaa) (l:Qad):Qaz:=QrF s l++[(13,Qaf.pure (.bool true) [])]
def Qly (B:Lo) (s:Qaa) (l:Qad):List Prop:=[QaA []/\Qaq YP J0 114 #[.int .i64 l.weight] (.bool true)]++Qmj B s l
def QqX (s:Qaa) (l:Qad):Qaz:=Qqq s l++[(18,Qaf.pure (.bool true) [])]
theorem Qzs (B:Lo) (s:Qaa) (l:Qad):QaY (Qam YP (Qa1 YP) J0 B 6 1 (Qaj YP 145 27 (([.agg (Qah s).toArray,.agg (Qap l).toArray]).map (Qat 0 4))) H00 1
 (QqX s l++[(23,Qaf.pure (.bool true) [])]) 0 [] []) []=some (.bool true,
 [QaA []/\Qaq YP J0 76 #[.int .i64 l.cost,.int .i64 0,.int .i64 1000000] (.bool true)]++Qly B s l):=by kernel_rfl
theorem Qze (B:Lo) (s:Qaa) (l:Qad):QaY (Qam YP (Qa1 YP) J0 B 6 1 (Qaj YP 145 27 (([.agg (Qah s).toArray,.agg (Qap l).toArray]).map (Qat 0 4))) H00 1
 (QqX s l++[(23,Qaf.pure (.bool false) [])]) 0 [] []) []=some (.bool false,
 [QaA []/\Qaq YP J0 76 #[.int .i64 l.cost,.int .i64 0,.int .i64 1000000] (.bool false)]++Qly B s l):=by kernel_rfl
theorem Q0k (B:Lo) (s:Qaa) (l:Qad):QaY (Qam YP (Qa1 YP) J0 B 6 1 (Qaj YP 145 27 (([.agg (Qah s).toArray,.agg (Qap l).toArray]).map (Qat 0 4))) H00 1
 (Qqq s l++[(18,Qaf.pure (.bool false) [])]) 0 [] []) []=some (.bool false,
 [QaA []/\Qaq YP J0 114 #[.int .i64 l.weight] (.bool false)]++Qmj B s l):=by kernel_rfl
theorem QxQ (B:Lo) (s:Qaa) (l:Qad):QaY (Qam YP (Qa1 YP) J0 B 6 1 (Qaj YP 145 27 (([.agg (Qah s).toArray,.agg (Qap l).toArray]).map (Qat 0 4))) H00 1
 (QrF s l++[(13,Qaf.pure (.bool false) [])]) 0 [] []) []=some (.bool false,
 [QaA []/\Qaq YP J0 101 #[slT l.goods.length (Qac Qa7 l.goods),.int .i64 100000] (.bool false)]++QmV B s l):=by kernel_rfl
theorem Qy1 (B:Lo) (s:Qaa) (l:Qad):QaY (Qam YP (Qa1 YP) J0 B 6 1 (Qaj YP 145 27 (([.agg (Qah s).toArray,.agg (Qap l).toArray]).map (Qat 0 4))) H00 1
 [(9,hvF)] 0 [] []) []=some (.bool false,
 [eqq (↑l.goods.length:Int) (↑s.stock.length:Int)=false]):=by kernel_rfl
set_option maxHeartbeats 4000000 in
theorem Q1c (s:Qaa) (l:Qad)  {B:Lo} (hJ:∀w,B.has w->J0 w):EndsT YP B (Qaj YP 145 27 (([.agg (Qah s).toArray,.agg (Qap l).toArray]).map (Qat 0 4))) (.bool (Qoo s.stock.length l)):=by
 by_cases q0:((↑l.goods.length:Int):Int)=((↑s.stock.length:Int))
 ·have hp0:QaA (QmV B s l):=by
   exact ⟨(QuQ q0),trivial⟩
  cases q1:List.all l.goods fun s=> QbE s.lo s.hi 0 100000 with
  | true=>
    have hp1:QaA (Qmj B s l):=by
     exact ⟨⟨trivial,(by have t_:=Qix l.goods (100000);rw [q1] at t_;exact t_)⟩,hp0⟩
    cases q2:inB l.weight 0 100000 with
    | true=>
      have hp2:QaA (Qly B s l):=by
       exact ⟨⟨trivial,(by have t_:=Qi2 l.weight;rw [q2] at t_;exact t_)⟩,hp1⟩
      cases q3:inB l.cost 0 1000000 with
      | true=>
        exact (GoE.endsT okF hJ Qab GoE.start (Qzs B s l)
         ⟨⟨trivial,(by have t_:=pIn l.cost (0) (1000000);rw [q3] at t_;exact t_)⟩,hp2⟩).cast (by (simp_all [Qoo,QcK];omega))
      | false=>
        exact (GoE.endsT okF hJ Qab GoE.start (Qze B s l)
         ⟨⟨trivial,(by have t_:=pIn l.cost (0) (1000000);rw [q3] at t_;exact t_)⟩,hp2⟩).cast (by (simp [Qoo,QcK, *];done))
    | false=>
      exact (GoE.endsT okF hJ Qab GoE.start (Q0k B s l)
       ⟨⟨trivial,(by have t_:=Qi2 l.weight;rw [q2] at t_;exact t_)⟩,hp1⟩).cast (by (simp [Qoo,QcK, *];done))
  | false=>
    exact (GoE.endsT okF hJ Qab GoE.start (QxQ B s l)
     ⟨⟨trivial,(by have t_:=Qix l.goods (100000);rw [q1] at t_;exact t_)⟩,hp0⟩).cast (by (simp [Qoo,QcK, *];done))
 ·exact (GoE.endsT okF hJ Qab GoE.start (Qy1 B s l)
   ⟨(Qw8 q0),trivial⟩).cast (by (simp_all [Qoo,QcK];omega))
theorem Q32 (s:Qaa) (l:Qad)  :Qaq YP J0 145 #[.agg (Qah s).toArray,.agg (Qap l).toArray] (.bool (Qoo s.stock.length l)):=
 QaE (ts:=[.agg (Qah s).toArray,.agg (Qap l).toArray]) Qbw (c0:=Qaj YP 145 27 (([.agg (Qah s).toArray,.agg (Qap l).toArray]).map (Qat 0 4))) (by kernel_rfl) (by kernel_rfl) fun B hJ=> Q1c s l  hJ
def Qeg (s:Qaa) (i:Int):List Value:=[pA 2 0,Qa4 1 (slT s.lots.length (Qac Qap s.lots)),.int .i64 (↑s.lots.length:Int),.int .i64 i]
def Qcr (s:Qaa) (i:Int):List Obj:=[Obj.cells #[Qa4 1 (slT s.stock.length (Qac Qal s.stock)),Qa4 1 (slT s.use.length (Qac Qa7 s.use)),.int .i64 s.glo,.int .i64 s.ghi,Qa4 1 (slT s.lots.length (Qac Qap s.lots)),.int .i64 s.hold] 62]
def Qej:List Item:=([.code [1,1,0,1,0,0],.inLoop [1,1,0,1,0,0],.inBlock 0,.code [1,1,1]]).map (it (Qar YP 113))
def Qtk (B:Lo) (c0:CF) (s:Qaa) (i:Int):Prop:=∃dJ:Nat->Value,(∀t,Qbc (dJ t))/\GoE YP B c0 H00 1 (Qa9 113 21 (([1,10,11,12]:List Nat).zip (Qeg s i)) dJ Qej) (Qa5 (Qcr s i)) (2+(Qcr s i).length) []
def Qgw (s:Qaa) (i:Int):Array Value:=#[slT (List.length (Qad.goods (s.lots.getD i.toNat default))) (Qac Qa7 (Qad.goods (s.lots.getD i.toNat default))),.int .i64 (Qad.weight (s.lots.getD i.toNat default)),.int .i64 (Qad.cost (s.lots.getD i.toNat default))]
def QhX (B:Lo) (s:Qaa) (i:Int) (dJ0:Nat->Value):List Prop:=[i=(↑i.toNat:Int)/\Int.toNat i < List.length s.lots/\Array.extract (Qac Qap s.lots) (Int.toNat i * TypeInfo.size Tryz.t118) (Int.toNat i * TypeInfo.size Tryz.t118+TypeInfo.size Tryz.t118)=(Qgw s i),ltq i (↑s.lots.length:Int)=true]++([]:List Prop)
def Qm6 (s:Qaa) (i:Int) (dJ0:Nat->Value):Qaz:=[(0,hvT),(1,Qaf.tidx i.toNat (Qgw s i))]
theorem Qsr (B:Lo) (s:Qaa) (i:Int) (dJ0:Nat->Value):landM (Qam YP (Qa1 YP) J0 B 16 1 (Qa9 113 21 (([1,10,11,12]:List Nat).zip (Qeg s i)) dJ0 Qej) (Qa5 (Qcr s i)) (2+(Qcr s i).length)
 (Qm6 s i dJ0++[(7,Qaf.pure (.bool true) []),(9,hvI (i+1))]) 0 [] []) [1,10,11,12] [(2,KS.auto)] []=some ⟨113,21,Qej,[],.run,none,Qeg s (i+1),Qcr s (i+1),
 [wq (i+1)=i+1,QaA []/\Qaq YP J0 145 #[.agg #[slT s.stock.length (Qac Qal s.stock),slT s.use.length (Qac Qa7 s.use),.int .i64 s.glo,.int .i64 s.ghi,slT s.lots.length (Qac Qap s.lots),.int .i64 s.hold],.agg (Qgw s i)] (.bool true)]++QhX B s i dJ0⟩:=by kernel_rfl
theorem Qt0 (B:Lo) (s:Qaa) (i:Int) (dJ0:Nat->Value):QaY (Qam YP (Qa1 YP) J0 B 16 1 (Qa9 113 21 (([1,10,11,12]:List Nat).zip (Qeg s i)) dJ0 Qej) (Qa5 (Qcr s i)) (2+(Qcr s i).length)
 (Qm6 s i dJ0++[(7,Qaf.pure (.bool false) [])]) 0 [] []) []=some (.bool false,
 [QaA []/\Qaq YP J0 145 #[.agg #[slT s.stock.length (Qac Qal s.stock),slT s.use.length (Qac Qa7 s.use),.int .i64 s.glo,.int .i64 s.ghi,slT s.lots.length (Qac Qap s.lots),.int .i64 s.hold],.agg (Qgw s i)] (.bool false)]++QhX B s i dJ0):=by kernel_rfl
theorem Qtz (B:Lo) (s:Qaa) (i:Int) (dJ0:Nat->Value):QaY (Qam YP (Qa1 YP) J0 B 9 1 (Qa9 113 21 (([1,10,11,12]:List Nat).zip (Qeg s i)) dJ0 Qej) (Qa5 (Qcr s i)) (2+(Qcr s i).length)
 [(0,hvF)] 0 [] []) []=some (.bool true,
 [ltq i (↑s.lots.length:Int)=false]):=by kernel_rfl
theorem Qsv (B:Lo) (s:Qaa):QaY (Qam YP (Qa1 YP) J0 B 10 1 (Qaj YP 113 21 (([.agg (Qah s).toArray]).map (Qat 0 4))) H00 1
 [(5,hvT)] 0 [] []) []=some (.bool false,
 [ltq 6 (↑s.lots.length:Int)=true]):=by kernel_rfl
theorem Qss (B:Lo) (s:Qaa):landM (Qam YP (Qa1 YP) J0 B 12 1 (Qaj YP 113 21 (([.agg (Qah s).toArray]).map (Qat 0 4))) H00 1
 [(5,hvF)] 0 [] []) [1,10,11,12] [(1,KS.auto)] []=some ⟨113,21,Qej,[],.run,none,Qeg s (0),Qcr s (0),
 [ltq 6 (↑s.lots.length:Int)=false]⟩:=by kernel_rfl
set_option maxHeartbeats 4000000 in
theorem QsO (s:Qaa)  (hfacts:s.lots.length<=9223372036854775807) {B:Lo} (hJ:∀w,B.has w->J0 w) {c0:CF}:∀m:Nat,(∀(i:Int),s.lots.length - i.toNat=m->∀(h0:0<=i) (h6:s.lots.length<=6),Qtk B c0 s i->EndsT YP B c0 (.bool ((s.lots.drop i.toNat).all (Qoo s.stock.length)))):=by
 intro m0;induction m0 using Nat.strongRecOn with
 | _ m0 ih0=>
   intro i hm0 h0 h6 ⟨dJ0,hdJ0,hg0⟩;by_cases q0:(i:Int) < ((↑s.lots.length:Int))
   ·have hp0:QaA (QhX B s i dJ0):=by
     exact ⟨⟨by omega,by omega,(Qae (z:=3) (fun _=> rfl) (by omega))⟩,⟨(QaW q0),trivial⟩⟩
    cases q1:Qoo s.stock.length (s.lots.getD i.toNat default) with
    | true=>
      exact ((ih0 _ (by omega)) (i+1) rfl (by omega) (by with_reducible assumption)
       (hg0.landM okF hJ Qab (Qsr B s i dJ0)
       ⟨(QaL (by omega) (by omega)),⟨⟨trivial,(by have t_:=Q32 (s) (s.lots.getD i.toNat default);rw [q1] at t_;exact t_)⟩,hp0⟩⟩ (by kernel_rfl) (by kernel_rfl))).cast (by (rw [Qh2 (i:=i)];(· simp_all);(· omega);(· omega)))
    | false=>
      exact (GoE.endsT okF hJ Qab hg0 (Qt0 B s i dJ0)
       ⟨⟨trivial,(by have t_:=Q32 (s) (s.lots.getD i.toNat default);rw [q1] at t_;exact t_)⟩,hp0⟩).cast (by (rw [Qh2 (i:=i)];(· simp_all);(· omega);(· omega)))
   ·exact (GoE.endsT okF hJ Qab hg0 (Qtz B s i dJ0)
     ⟨(Qbh (Int.not_lt.1 q0)),trivial⟩).cast (by (rw [QhD (i:=i)];(· simp_all);(· omega)))
set_option maxHeartbeats 4000000 in
theorem QuN (s:Qaa)  (hfacts:s.lots.length<=9223372036854775807) {B:Lo} (hJ:∀w,B.has w->J0 w):EndsT YP B (Qaj YP 113 21 (([.agg (Qah s).toArray]).map (Qat 0 4))) (.bool (Qsd s)):=by
 by_cases q0:(6:Int) < ((↑s.lots.length:Int))
 ·exact (GoE.endsT okF hJ Qab GoE.start (Qsv B s)
   ⟨(QaW q0),trivial⟩).cast (by (simp_all [Qsd];omega))
 ·exact ((QsO s hfacts hJ _) (0) rfl (by omega) (by omega)
   (GoE.start.landM okF hJ Qab (Qss B s)
   ⟨(Qbh (Int.not_lt.1 q0)),trivial⟩ (by kernel_rfl) (by kernel_rfl))).cast (by (simp_all [Qsd];omega))
theorem Quq (s:Qaa)  :Qaq YP J0 113 #[.agg (Qah s).toArray] (.bool (Qsd s)):=
 Qcw (ts:=[.agg (Qah s).toArray]) (s.lots.length<=9223372036854775807) (fun _ _ ht=> ht.ln2 (i:=0) (j:=4) rfl rfl) Qbw (c0:=Qaj YP 113 21 (([.agg (Qah s).toArray]).map (Qat 0 4))) (by kernel_rfl) (by kernel_rfl) fun hfacts B hJ=> QuN s  hfacts hJ
def QhZ (B:Lo) (s:Qaa):List Prop:=[QaA []/\Qaq YP J0 76 #[.int .i64 (↑s.stock.length:Int),.int .i64 1,.int .i64 4] (.bool true)]++([]:List Prop)
def Qlz (s:Qaa):Qaz:=[(5,Qaf.pure (.bool true) [])]
def Qif (B:Lo) (s:Qaa):List Prop:=[QaA []/\Qaq YP J0 100 #[slT s.stock.length (Qac Qal s.stock),.int .i64 0,.int .i64 100000] (.bool true)]++QhZ B s
def QmW (s:Qaa):Qaz:=Qlz s++[(9,Qaf.pure (.bool true) [])]
def Qic (B:Lo) (s:Qaa):List Prop:=[eqq (↑s.use.length:Int) (↑s.stock.length:Int)=true]++Qif B s
def Ql5 (s:Qaa):Qaz:=QmW s++[(18,hvT)]
def Qiq (B:Lo) (s:Qaa):List Prop:=[QaA []/\Qaq YP J0 101 #[slT s.use.length (Qac Qa7 s.use),.int .i64 1000] (.bool true)]++Qic B s
def QmA (s:Qaa):Qaz:=Ql5 s++[(23,Qaf.pure (.bool true) [])]
def Qig (B:Lo) (s:Qaa):List Prop:=[QaA []/\Qaq YP J0 75 #[.agg #[.int .i64 s.glo,.int .i64 s.ghi]] (.bool true)]++Qiq B s
def Qll (s:Qaa):Qaz:=QmA s++[(28,Qaf.pure (.bool true) [])]
def Qie (B:Lo) (s:Qaa):List Prop:=[QaA []/\Qaq YP J0 113 #[.agg #[slT s.stock.length (Qac Qal s.stock),slT s.use.length (Qac Qa7 s.use),.int .i64 s.glo,.int .i64 s.ghi,slT s.lots.length (Qac Qap s.lots),.int .i64 s.hold]] (.bool true)]++Qig B s
def QlZ (s:Qaa):Qaz:=Qll s++[(32,Qaf.pure (.bool true) [])]
theorem QsV (B:Lo) (s:Qaa):QaY (Qam YP (Qa1 YP) J0 B 6 1 (Qaj YP 79 40 (([.agg (Qah s).toArray]).map (Qat 0 4))) H00 1
 (QlZ s++[(37,Qaf.pure (.bool true) [])]) 0 [] []) []=some (.bool true,
 [QaA []/\Qaq YP J0 114 #[.int .i64 s.hold] (.bool true)]++Qie B s):=by kernel_rfl
theorem Qs4 (B:Lo) (s:Qaa):QaY (Qam YP (Qa1 YP) J0 B 6 1 (Qaj YP 79 40 (([.agg (Qah s).toArray]).map (Qat 0 4))) H00 1
 (QlZ s++[(37,Qaf.pure (.bool false) [])]) 0 [] []) []=some (.bool false,
 [QaA []/\Qaq YP J0 114 #[.int .i64 s.hold] (.bool false)]++Qie B s):=by kernel_rfl
theorem Qs5 (B:Lo) (s:Qaa):QaY (Qam YP (Qa1 YP) J0 B 6 1 (Qaj YP 79 40 (([.agg (Qah s).toArray]).map (Qat 0 4))) H00 1
 (Qll s++[(32,Qaf.pure (.bool false) [])]) 0 [] []) []=some (.bool false,
 [QaA []/\Qaq YP J0 113 #[.agg #[slT s.stock.length (Qac Qal s.stock),slT s.use.length (Qac Qa7 s.use),.int .i64 s.glo,.int .i64 s.ghi,slT s.lots.length (Qac Qap s.lots),.int .i64 s.hold]] (.bool false)]++Qig B s):=by kernel_rfl
theorem Qtb (B:Lo) (s:Qaa):QaY (Qam YP (Qa1 YP) J0 B 6 1 (Qaj YP 79 40 (([.agg (Qah s).toArray]).map (Qat 0 4))) H00 1
 (QmA s++[(28,Qaf.pure (.bool false) [])]) 0 [] []) []=some (.bool false,
 [QaA []/\Qaq YP J0 75 #[.agg #[.int .i64 s.glo,.int .i64 s.ghi]] (.bool false)]++Qiq B s):=by kernel_rfl
theorem Qs0 (B:Lo) (s:Qaa):QaY (Qam YP (Qa1 YP) J0 B 6 1 (Qaj YP 79 40 (([.agg (Qah s).toArray]).map (Qat 0 4))) H00 1
 (Ql5 s++[(23,Qaf.pure (.bool false) [])]) 0 [] []) []=some (.bool false,
 [QaA []/\Qaq YP J0 101 #[slT s.use.length (Qac Qa7 s.use),.int .i64 1000] (.bool false)]++Qic B s):=by kernel_rfl
theorem Qtw (B:Lo) (s:Qaa):QaY (Qam YP (Qa1 YP) J0 B 6 1 (Qaj YP 79 40 (([.agg (Qah s).toArray]).map (Qat 0 4))) H00 1
 (QmW s++[(18,hvF)]) 0 [] []) []=some (.bool false,
 [eqq (↑s.use.length:Int) (↑s.stock.length:Int)=false]++Qif B s):=by kernel_rfl
theorem Qte (B:Lo) (s:Qaa):QaY (Qam YP (Qa1 YP) J0 B 6 1 (Qaj YP 79 40 (([.agg (Qah s).toArray]).map (Qat 0 4))) H00 1
 (Qlz s++[(9,Qaf.pure (.bool false) [])]) 0 [] []) []=some (.bool false,
 [QaA []/\Qaq YP J0 100 #[slT s.stock.length (Qac Qal s.stock),.int .i64 0,.int .i64 100000] (.bool false)]++QhZ B s):=by kernel_rfl
theorem Qth (B:Lo) (s:Qaa):QaY (Qam YP (Qa1 YP) J0 B 6 1 (Qaj YP 79 40 (([.agg (Qah s).toArray]).map (Qat 0 4))) H00 1
 [(5,Qaf.pure (.bool false) [])] 0 [] []) []=some (.bool false,
 [QaA []/\Qaq YP J0 76 #[.int .i64 (↑s.stock.length:Int),.int .i64 1,.int .i64 4] (.bool false)]):=by kernel_rfl
set_option maxHeartbeats 4000000 in
theorem Qve (s:Qaa)  (hfacts:s.stock.length<=9223372036854775807/\s.use.length<=9223372036854775807) {B:Lo} (hJ:∀w,B.has w->J0 w):EndsT YP B (Qaj YP 79 40 (([.agg (Qah s).toArray]).map (Qat 0 4))) (.bool (Qa3 s)):=by
 cases q0:inB (↑s.stock.length:Int) 1 4 with
 | true=>
   have hp0:QaA (QhZ B s):=by
    exact ⟨⟨trivial,(by have t_:=pIn ((↑s.stock.length:Int)) (1) (4);rw [q0] at t_;exact t_)⟩,trivial⟩
   cases q1:List.all s.stock fun x=> inB x 0 100000 with
   | true=>
     have hp1:QaA (Qif B s):=by
      exact ⟨⟨trivial,(by have t_:=QuH s.stock (0) (100000);rw [q1] at t_;exact t_)⟩,hp0⟩
     by_cases q2:((↑s.use.length:Int):Int)=((↑s.stock.length:Int))
     ·have hp2:QaA (Qic B s):=by
       exact ⟨(QuQ q2),hp1⟩
      cases q3:List.all s.use fun s=> QbE s.lo s.hi 0 1000 with
      | true=>
        have hp3:QaA (Qiq B s):=by
         exact ⟨⟨trivial,(by have t_:=Qix s.use (1000);rw [q3] at t_;exact t_)⟩,hp2⟩
        cases q4:QbE s.glo s.ghi 1 60 with
        | true=>
          have hp4:QaA (Qig B s):=by
           exact ⟨⟨trivial,(by have t_:=Q3z s.glo s.ghi;rw [q4] at t_;exact t_)⟩,hp3⟩
          cases q5:Qsd s with
          | true=>
            have hp5:QaA (Qie B s):=by
             exact ⟨⟨trivial,(by have t_:=Quq (s);rw [q5] at t_;exact t_)⟩,hp4⟩
            cases q6:inB s.hold 0 100000 with
            | true=>
              exact (GoE.endsT okF hJ Qab GoE.start (QsV B s)
               ⟨⟨trivial,(by have t_:=Qi2 s.hold;rw [q6] at t_;exact t_)⟩,hp5⟩).cast (by (simp_all [Qa3,QcK];omega))
            | false=>
              exact (GoE.endsT okF hJ Qab GoE.start (Qs4 B s)
               ⟨⟨trivial,(by have t_:=Qi2 s.hold;rw [q6] at t_;exact t_)⟩,hp5⟩).cast (by (simp [Qa3,QcK, *];done))
          | false=>
            exact (GoE.endsT okF hJ Qab GoE.start (Qs5 B s)
             ⟨⟨trivial,(by have t_:=Quq (s);rw [q5] at t_;exact t_)⟩,hp4⟩).cast (by (simp [Qa3,QcK, *];done))
        | false=>
          exact (GoE.endsT okF hJ Qab GoE.start (Qtb B s)
           ⟨⟨trivial,(by have t_:=Q3z s.glo s.ghi;rw [q4] at t_;exact t_)⟩,hp3⟩).cast (by (simp [Qa3,QcK, *];done))
      | false=>
        exact (GoE.endsT okF hJ Qab GoE.start (Qs0 B s)
         ⟨⟨trivial,(by have t_:=Qix s.use (1000);rw [q3] at t_;exact t_)⟩,hp2⟩).cast (by (simp [Qa3,QcK, *];done))
     ·exact (GoE.endsT okF hJ Qab GoE.start (Qtw B s)
       ⟨(Qw8 q2),hp1⟩).cast (by (simp_all [Qa3,QcK];omega))
   | false=>
     exact (GoE.endsT okF hJ Qab GoE.start (Qte B s)
      ⟨⟨trivial,(by have t_:=QuH s.stock (0) (100000);rw [q1] at t_;exact t_)⟩,hp0⟩).cast (by (simp [Qa3,QcK, *];done))
 | false=>
   exact (GoE.endsT okF hJ Qab GoE.start (Qth B s)
    ⟨⟨trivial,(by have t_:=pIn ((↑s.stock.length:Int)) (1) (4);rw [q0] at t_;exact t_)⟩,trivial⟩).cast (by (simp [Qa3,QcK, *];done))
theorem Qh7 (s:Qaa)  :Qaq YP J0 79 #[.agg (Qah s).toArray] (.bool (Qa3 s)):=
 Qcw (ts:=[.agg (Qah s).toArray]) (s.stock.length<=9223372036854775807/\s.use.length<=9223372036854775807) (fun _ _ ht=> ⟨ht.ln2 (i:=0) (j:=0) rfl rfl,ht.ln2 (i:=0) (j:=1) rfl rfl⟩) Qbw (c0:=Qaj YP 79 40 (([.agg (Qah s).toArray]).map (Qat 0 4))) (by kernel_rfl) (by kernel_rfl) fun hfacts B hJ=> Qve s  hfacts hJ
theorem QnB (B:Lo) (s:Qaa):QaY (Qam YP (Qa1 YP) J0 B 11 1 (Qaj YP 42 6 (([.agg (Qah s).toArray]).map (Qat 0 4))) H00 1
 [(3,Qaf.pure (.bool true) [])] 0 [] []) []=some (.int .i64 0,
 [QaA []/\Qaq YP J0 79 #[.agg #[slT s.stock.length (Qac Qal s.stock),slT s.use.length (Qac Qa7 s.use),.int .i64 s.glo,.int .i64 s.ghi,slT s.lots.length (Qac Qap s.lots),.int .i64 s.hold]] (.bool true)]):=by kernel_rfl
theorem Qn9 (B:Lo) (s:Qaa):QaY (Qam YP (Qa1 YP) J0 B 10 1 (Qaj YP 42 6 (([.agg (Qah s).toArray]).map (Qat 0 4))) H00 1
 [(3,Qaf.pure (.bool false) [])] 0 [] []) []=some (.int .i64 2,
 [QaA []/\Qaq YP J0 79 #[.agg #[slT s.stock.length (Qac Qal s.stock),slT s.use.length (Qac Qa7 s.use),.int .i64 s.glo,.int .i64 s.ghi,slT s.lots.length (Qac Qap s.lots),.int .i64 s.hold]] (.bool false)]):=by kernel_rfl
set_option maxHeartbeats 4000000 in
theorem Qp7 (s:Qaa)  {B:Lo} (hJ:∀w,B.has w->J0 w):EndsT YP B (Qaj YP 42 6 (([.agg (Qah s).toArray]).map (Qat 0 4))) (.int .i64 (if Qa3 s then 0 else 2)):=by
 cases q0:Qa3 s with
 | true=>
   exact (GoE.endsT okF hJ Qab GoE.start (QnB B s)
    ⟨⟨trivial,(by have t_:=Qh7 (s);rw [q0] at t_;exact t_)⟩,trivial⟩).cast (by rfl)
 | false=>
   exact (GoE.endsT okF hJ Qab GoE.start (Qn9 B s)
    ⟨⟨trivial,(by have t_:=Qh7 (s);rw [q0] at t_;exact t_)⟩,trivial⟩).cast (by rfl)
theorem Qnk (s:Qaa)  :Qaq YP J0 42 #[.agg (Qah s).toArray] (.int .i64 (if Qa3 s then 0 else 2)):=
 QaE (ts:=[.agg (Qah s).toArray]) Qbw (c0:=Qaj YP 42 6 (([.agg (Qah s).toArray]).map (Qat 0 4))) (by kernel_rfl) (by kernel_rfl) fun B hJ=> Qp7 s  hJ
theorem QsC (B:Lo) (n:Int):QaY (Qam YP (Qa1 YP) J0 B 6 1 (Qaj YP 81 5 (([.int .i64 n]).map (Qat 0 4))) H00 1
 [(2,Qaf.pure (.bool true) [])] 0 [] []) []=some (.bool true,
 [QaA []/\Qaq YP J0 76 #[.int .i64 n,.int .i64 0,.int .i64 300] (.bool true)]):=by kernel_rfl
theorem Qt2 (B:Lo) (n:Int):QaY (Qam YP (Qa1 YP) J0 B 6 1 (Qaj YP 81 5 (([.int .i64 n]).map (Qat 0 4))) H00 1
 [(2,Qaf.pure (.bool false) [])] 0 [] []) []=some (.bool false,
 [QaA []/\Qaq YP J0 76 #[.int .i64 n,.int .i64 0,.int .i64 300] (.bool false)]):=by kernel_rfl
set_option maxHeartbeats 4000000 in
theorem Qv3 (n:Int)  {B:Lo} (hJ:∀w,B.has w->J0 w):EndsT YP B (Qaj YP 81 5 (([.int .i64 n]).map (Qat 0 4))) (.bool (inB n 0 300)):=by
 cases q0:inB n 0 300 with
 | true=>
   exact (GoE.endsT okF hJ Qab GoE.start (QsC B n)
    ⟨⟨trivial,(by have t_:=pIn (n) (0) (300);rw [q0] at t_;exact t_)⟩,trivial⟩).cast (by rfl)
 | false=>
   exact (GoE.endsT okF hJ Qab GoE.start (Qt2 B n)
    ⟨⟨trivial,(by have t_:=pIn (n) (0) (300);rw [q0] at t_;exact t_)⟩,trivial⟩).cast (by rfl)
theorem Qlh (n:Int)  :Qaq YP J0 81 #[.int .i64 n] (.bool (inB n 0 300)):=
 QaE (ts:=[.int .i64 n]) Qbw (c0:=Qaj YP 81 5 (([.int .i64 n]).map (Qat 0 4))) (by kernel_rfl) (by kernel_rfl) fun B hJ=> Qv3 n  hJ
end
end Go.Proofs.YtiabgkiccaodmaaGreat

