/- The numbers of a set. -/
import Derived.Test.YtiabgkiccaodmaaGreatZTN10
set_option linter.all false
namespace Go.Proofs.YtiabgkiccaodmaaGreat
open Go Go.CE Go.RowKit
noncomputable section
set_option maxRecDepth 100000
def Qcs (s:Int):Int:=if s=0 then 0 else ((s.toNat.log2+1:Nat):Int)
theorem Q3n:(List.range 64).all (fun x=> Qqc (Ql3 Tryz.prog (Qaw Tryz.prog) Qby 10000 158 #[.int .u64 (x:Nat)] (Qfh 0 []) ([]:List (Array Value×TypeId)).length) (.int .i64 (Qcs (x:Nat))) [])=true:=by decide+kernel
theorem Q4D (s:Int) (h0:0<=s) (h1:s < 64):Qao Tryz.prog J0 158 #[.int .u64 s] (.int .i64 (Qcs s)):=by
 obtain ⟨k,rfl⟩:∃k:Nat,s=k:=⟨s.toNat,by omega⟩
 exact Qo7 okF Qab (fuel:=10000) (by kernel_rfl) (by kernel_rfl) (by kernel_rfl) (List.all_eq_true.1 Q3n k (List.mem_range.2 (by omega)))
theorem Qz6:(List.range 64).all (fun x=> decide (0<=Qcs (x:Nat)) && decide (Qcs (x:Nat)<=6))=true:=by decide+kernel
theorem Qfo {s:Int} (h0:0<=s) (h1:s < 64):0<=Qcs s/\Qcs s<=6:=by
 obtain ⟨k,rfl⟩:∃k:Nat,s=k:=⟨s.toNat,by omega⟩
 have:=List.all_eq_true.1 Qz6 k (List.mem_range.2 (by omega))
 simpa using this
def Qav {α:Type} [Inhabited α] (s:Int) (xs:List α) (n:Int):List α:=((upI n (Qcs s)).filter (QjP s)).map fun k=> xs.getD k.toNat default
theorem Qfk {α:Type} [Inhabited α] {s n:Int} {xs:List α} (h:n < Qcs s) (hb:QjP s n=true):Qav s xs n=[xs.getD n.toNat default]++Qav s xs (n+1):=by
 unfold Qav;rw [Qej h,List.filter_cons_of_pos hb];rfl
theorem QhM {α:Type} [Inhabited α] {s n:Int} {xs:List α} (h:n < Qcs s) (hb:QjP s n=false):Qav s xs n=Qav s xs (n+1):=by
 unfold Qav;rw [Qej h,List.filter_cons_of_neg (by rw [hb];decide)]
theorem Qim {α:Type} [Inhabited α] {s n:Int} {xs:List α} (h:Qcs s<=n):Qav s xs n=[]:=by
 unfold Qav;rw [Qgl h];rfl
theorem Q0e {α:Type} {acc:List α} (h:acc≠[]):acc.isEmpty=false:=by
 cases acc with
 | nil=> exact absurd rfl h
 | cons x l=> rfl
theorem Q4h {α:Type} {l:List α} (h:(!([]++l).isEmpty)=false):l=[]:=by
 cases l with
 | nil=> rfl
 | cons x l=> cases h
structure Qag where
 goods:List Span
 weight:Int
 cost:Int
deriving Inhabited
def Qaq (l:Qag):List Value:=[Qms l.goods,.int .i64 l.weight,.int .i64 l.cost]
abbrev Row:=List Int
def Qas (l:Row):List Value:=[slI l]

def QgL (s:Int) (xs:List (Qag)):Qar:=[(2,Obj.cells #[.slice none 0 0] 60),(1,Obj.cells #[Qay 0 (slT xs.length (Qac Qaq xs))] 60),(0,Obj.coro none)]
def QhK (s:Int) (xs:List (Qag)):CF:=⟨147,ofList 4 [.int .i64 s],[Item.code (Qan Tryz.prog 147)],[],.run,none⟩
def Qe1 (s:Int) (xs:List (Qag)):Array Value:=#[.int .i64 s,Qay 0 (slT xs.length (Qac Qaq xs)),.tuple #[],pA 1 0,.slice none 0 0,pA 2 0,.tuple #[],.int .i64 s,Value.func (Fn.func 157) #[] #[Qay 3 (ptT 0 #[.int .i64 s])],.tuple #[],.tuple #[],.tuple #[],.tuple #[],.tuple #[],.tuple #[],.tuple #[],.tuple #[],.tuple #[]]
def QeO (xs:List (Qag)) (n:Int):Array Value:=#[Qay 0 (slT (List.length (Qag.goods (xs.getD n.toNat default))) (Qac QaD (Qag.goods (xs.getD n.toNat default)))),.int .i64 (Qag.weight (xs.getD n.toNat default)),.int .i64 (Qag.cost (xs.getD n.toNat default))]
def QhV (xs:List (Qag)) (n:Int):Array Value:=#[slT (List.length (Qag.goods (xs.getD n.toNat default))) (Qac QaD (Qag.goods (xs.getD n.toNat default))),.int .i64 (Qag.weight (xs.getD n.toNat default)),.int .i64 (Qag.cost (xs.getD n.toNat default))]
theorem Qxd (B:Lo) (s:Int) (xs:List (Qag)):CE.finK 3 (Qak Tryz.prog (Qaw Tryz.prog) J0 B 6 3 (QhK s xs) (QgL s xs) 3
 [] 0 [] []) [] [] [{k:=3,rs:=[],cs:=#[.int .i64 s]}]=some (OO.ret (Value.func (Fn.func 157) #[] #[Qay 3 (ptT 0 #[.int .i64 s])]),[],[],
 [Qct (Fz.rs {k:=3,rs:=[],cs:=#[.int .i64 s]}) #[.int .i64 s] (Fz.cs {k:=3,rs:=[],cs:=#[.int .i64 s]})]):=by kernel_rfl
def QkL (B:Lo) (s:Int) (xs:List (Qag)):List Prop:=[FJ Tryz.prog B (QhK s xs) (QgL s xs) 3 (OO.ret (Value.func (Fn.func 157) #[] #[Qay 3 (ptT 0 #[.int .i64 s])])) (([]++((3,Qbq)::QaG (3+1) []))++QgL s xs) 4 (List.range 3) []]++([]:List Prop)
def Qrh (s:Int) (xs:List (Qag)):Qap:=[(4,Qai.call (List.range 3) (OO.ret (Value.func (Fn.func 157) #[] #[Qay 3 (ptT 0 #[.int .i64 s])])) ([]++(3,Qbq)::QaG 4 []) 4 [])]
def QaZ (s:Int) (xs:List (Qag)):Qar:=[(5,Obj.loop {state:=LoopState.ready,pending:=none,fn:=139,tmps:=#[.int .i64 s,Qay 0 (slT xs.length (Qac Qaq xs)),.tuple #[],pA 1 0,.slice none 0 0,pA 2 0,.tuple #[],.int .i64 s,Value.func (Fn.func 157) #[] #[Qay 3 (ptT 0 #[.int .i64 s])],.tuple #[],.tuple #[],.tuple #[],.tuple #[],.tuple #[],.tuple #[],.tuple #[],.tuple #[],.tuple #[]],params:=#[9],assign:=nav (Qan Tryz.prog 139) [1,1,0,1,0,0],body:=nav (Qan Tryz.prog 139) [1,1,0,1,0,1],defers:=4}),(4,Obj.deferred (some [])),(3,Obj.coro none),(2,Obj.cells #[.slice none 0 0] 60),(1,Obj.cells #[Qay 0 (slT xs.length (Qac Qaq xs))] 60),(0,Obj.coro none)]
def Qc3 (s:Int) (xs:List (Qag)):CF:=⟨157,ofList 20 [Value.func (Fn.yield 5) #[] #[],Qay 3 (ptT 0 #[.int .i64 s])],[Item.code (Qan Tryz.prog 157)],[],.run,none⟩
def QcJ (s:Int) (xs:List (Qag)) (n:Int):List Value:=[Value.func (Fn.yield 5) #[] #[],Qay 3 (ptT 0 #[.int .i64 s]),.int .i64 (Qcs s),.int .i64 n]
def QcI (s:Int) (xs:List (Qag)) (n:Int):List Obj:=[Obj.loop {state:=LoopState.ready,pending:=none,fn:=139,tmps:=#[.int .i64 s,Qay 0 (slT xs.length (Qac Qaq xs)),.tuple #[],pA 1 0,.slice none 0 0,pA 2 0,.tuple #[],.int .i64 s,Value.func (Fn.func 157) #[] #[Qay 3 (ptT 0 #[.int .i64 s])],.tuple #[],.tuple #[],.tuple #[],.tuple #[],.tuple #[],.tuple #[],.tuple #[],.tuple #[],.tuple #[]],params:=#[9],assign:=nav (Qan Tryz.prog 139) [1,1,0,1,0,0],body:=nav (Qan Tryz.prog 139) [1,1,0,1,0,1],defers:=4},.cells #[.slice none 0 0] 60 (0,0)]
def Qb3 (s:Int) (xs:List (Qag)) (n:Int):List Obj:=[]
def QcN:List Item:=([.code [1,0,0],.inLoop [1,0,0],.inBlock 0]).map (it (Qan Tryz.prog 157))
def QcL (s:Int) (xs:List (Qag)) (n:Int) (acc:List Qag) (acc_n:Nat):List Value:=[Value.func (Fn.yield 5) #[] #[],Qay 3 (ptT 0 #[.int .i64 s]),.int .i64 (Qcs s),.int .i64 n]
def QcK (s:Int) (xs:List (Qag)) (n:Int) (acc:List Qag) (acc_n:Nat):List Obj:=[Obj.loop {state:=LoopState.ready,pending:=none,fn:=139,tmps:=#[.int .i64 s,Qay 0 (slT xs.length (Qac Qaq xs)),.tuple #[],pA 1 0,.slice none 0 0,pA 2 0,.tuple #[],.int .i64 s,Value.func (Fn.func 157) #[] #[Qay 3 (ptT 0 #[.int .i64 s])],.tuple #[],.tuple #[],.tuple #[],.tuple #[],.tuple #[],.tuple #[],.tuple #[],.tuple #[],.tuple #[]],params:=#[9],assign:=nav (Qan Tryz.prog 139) [1,1,0,1,0,0],body:=nav (Qan Tryz.prog 139) [1,1,0,1,0,1],defers:=4},.cells #[.slice (some ⟨7,0,none⟩) acc_n 3] 60 (0,0)]
def Qb2 (s:Int) (xs:List (Qag)) (n:Int) (acc:List Qag) (acc_n:Nat):List Obj:=[Obj.cells (Qac (Qa9 0 Qaq) acc) 118 (0,0)]
def QcH:List Item:=([.code [1,0,0],.inLoop [1,0,0],.inBlock 0]).map (it (Qan Tryz.prog 157))
def QlH (B:Lo) (s:Int) (xs:List (Qag)) (n:Int) (dJ0:Nat->Value):List Prop:=[ltq n (Qcs s)=true]++([]:List Prop)
def QoT (s:Int) (xs:List (Qag)) (n:Int) (dJ0:Nat->Value):Qap:=[(0,hvT)]
def QgC (s:Int) (xs:List (Qag)) (n:Int) (dJ0:Nat->Value):Qar:=[(5,Obj.loop {state:=LoopState.ready,pending:=none,fn:=139,tmps:=#[.int .i64 s,Qay 0 (slT xs.length (Qac Qaq xs)),.tuple #[],pA 1 0,.slice none 0 0,pA 2 0,.tuple #[],.int .i64 s,Value.func (Fn.func 157) #[] #[Qay 3 (ptT 0 #[.int .i64 s])],.tuple #[],.tuple #[],.tuple #[],.tuple #[],.tuple #[],.tuple #[],.tuple #[],.tuple #[],.tuple #[]],params:=#[9],assign:=nav (Qan Tryz.prog 139) [1,1,0,1,0,0],body:=nav (Qan Tryz.prog 139) [1,1,0,1,0,1],defers:=4}),(2,Obj.cells #[.slice none 0 0] 60),(6,Obj.coro none),(5,Obj.loop {state:=LoopState.ready,pending:=none,fn:=139,tmps:=#[.int .i64 s,Qay 0 (slT xs.length (Qac Qaq xs)),.tuple #[],pA 1 0,.slice none 0 0,pA 2 0,.tuple #[],.int .i64 s,Value.func (Fn.func 157) #[] #[Qay 3 (ptT 0 #[.int .i64 s])],.tuple #[],.tuple #[],.tuple #[],.tuple #[],.tuple #[],.tuple #[],.tuple #[],.tuple #[],.tuple #[]],params:=#[9],assign:=nav (Qan Tryz.prog 139) [1,1,0,1,0,0],body:=nav (Qan Tryz.prog 139) [1,1,0,1,0,1],defers:=4}),(4,Obj.deferred (some [])),(3,Obj.coro none),(2,Obj.cells #[.slice none 0 0] 60),(1,Obj.cells #[Qay 0 (slT xs.length (Qac Qaq xs))] 60),(0,Obj.coro none)]
def Qii (s:Int) (xs:List (Qag)) (n:Int) (dJ0:Nat->Value):CF:=⟨139,ofList 18 [.int .i64 s,Qay 0 (slT xs.length (Qac Qaq xs)),.tuple #[],pA 1 0,.slice none 0 0,pA 2 0,.tuple #[],.int .i64 s,Value.func (Fn.func 157) #[] #[Qay 3 (ptT 0 #[.int .i64 s])],.int .i64 n,.tuple #[],.tuple #[],.tuple #[],.tuple #[],.tuple #[],.tuple #[],.tuple #[],.tuple #[]],[Item.code (nav (Qan Tryz.prog 139) [1,1,0,1,0,0]),Item.beginRound,Item.code (nav (Qan Tryz.prog 139) [1,1,0,1,0,1])],[],.run,some 5⟩
theorem Qw0 (B:Lo) (s:Int) (xs:List (Qag)) (n:Int) (dJ0:Nat->Value):CE.finK 7 (Qak Tryz.prog (Qaw Tryz.prog) J0 B 6 7 (Qii s xs n dJ0) (QgC s xs n dJ0) 7
 [(4,Qai.tidx n.toNat (QhV xs n))] 0 [] []) [(5,KS.auto),(2,KS.auto)] [(8,KS.auto)] []=some (OO.ret (.bool true),[(5,Obj.loop {state:=LoopState.ready,pending:=none,fn:=139,tmps:=#[.int .i64 s,Qay 0 (slT xs.length (Qac Qaq xs)),.tuple #[],pA 1 0,.slice none 0 0,pA 2 0,.tuple #[],.int .i64 s,Value.func (Fn.func 157) #[] #[Qay 3 (ptT 0 #[.int .i64 s])],.tuple #[],.tuple #[],.tuple #[],.tuple #[],.tuple #[],.tuple #[],.tuple #[],.tuple #[],.tuple #[]],params:=#[9],assign:=nav (Qan Tryz.prog 139) [1,1,0,1,0,0],body:=nav (Qan Tryz.prog 139) [1,1,0,1,0,1],defers:=4}),(2,Obj.cells #[.slice (some {block:=8,off:=0}) 1 3] 60)],[Obj.cells #[Qay 0 (slT (List.length (Qag.goods (xs.getD n.toNat default))) (Qac QaD (Qag.goods (xs.getD n.toNat default)))),.int .i64 (Qag.weight (xs.getD n.toNat default)),.int .i64 (Qag.cost (xs.getD n.toNat default))] 118],
 [n=(↑n.toNat:Int)/\Int.toNat n < List.length xs/\Array.extract (Qac Qaq xs) (Int.toNat n * TypeInfo.size Tryz.t118) (Int.toNat n * TypeInfo.size Tryz.t118+TypeInfo.size Tryz.t118)=(QhV xs n)]):=by kernel_rfl
theorem Qxg (B:Lo) (s:Int) (xs:List (Qag)) (n:Int) (dJ0:Nat->Value):CE.landA 6 (Qak Tryz.prog (Qaw Tryz.prog) J0 B 16 6 (QbX (none) 157 20 (([0,1,6,7]:List Nat).zip (QcJ s xs n)) dJ0 QcN) (Qbx (QaZ s xs) 6 (([5,2]:List Nat).zip (QcI s xs n)) (Qb3 s xs n)) (6+1+(Qb3 s xs n).length)
 (QoT s xs n dJ0++[(5,Qai.pure (.bool true) []),(9,Qai.call (List.range 7) (OO.ret (.bool true)) ([(5,Obj.loop {state:=LoopState.ready,pending:=none,fn:=139,tmps:=(Qe1 s xs),params:=#[9],assign:=nav (Qan Tryz.prog 139) [1,1,0,1,0,0],body:=nav (Qan Tryz.prog 139) [1,1,0,1,0,1],defers:=4}),(2,Obj.cells #[.slice (some {block:=8,off:=0}) 1 3] 60)]++(7,Qbq)::QaG 8 [Obj.cells (QeO xs n) 118]) 9 [5,2]),(12,hvI (n+1))]) 0 [] []) [0,1,6,7] [(5,KS.auto),(2,KS.auto)] [(8,KS.rows [(0,0)] [] (Qac (Qa9 0 Qaq) [xs.getD n.toNat default]))] []=some ⟨157,20,QcH,[],.run,none,QcL s xs (n+1) ([xs.getD n.toNat default]) (1),([5,2]:List Nat).zip (QcK s xs (n+1) ([xs.getD n.toNat default]) (1)),Qb2 s xs (n+1) ([xs.getD n.toNat default]) (1),
 [Qbi 6 [(0,0)] [] (QeO xs n) (Qac (Qa9 0 Qaq) [xs.getD n.toNat default]),wq (n+1)=n+1,FJ Tryz.prog B (Qii s xs n dJ0) (QgC s xs n dJ0) 7 (OO.ret (.bool true)) (([(5,Obj.loop {state:=LoopState.ready,pending:=none,fn:=139,tmps:=(Qe1 s xs),params:=#[9],assign:=nav (Qan Tryz.prog 139) [1,1,0,1,0,0],body:=nav (Qan Tryz.prog 139) [1,1,0,1,0,1],defers:=4}),(2,Obj.cells #[.slice (some {block:=8,off:=0}) 1 3] 60)]++((7,Qbq)::QaG (7+1) [Obj.cells (QeO xs n) 118]))++QgC s xs n dJ0) 9 (List.range 7) [5,2],Qaz []/\Qao Tryz.prog J0 159 #[.int .i64 s,.int .i64 n] (.bool true)]++QlH B s xs n dJ0⟩:=by kernel_rfl
theorem Qzu (B:Lo) (s:Int) (xs:List (Qag)) (n:Int) (dJ0:Nat->Value):CE.landA 6 (Qak Tryz.prog (Qaw Tryz.prog) J0 B 16 6 (QbX (none) 157 20 (([0,1,6,7]:List Nat).zip (QcJ s xs n)) dJ0 QcN) (Qbx (QaZ s xs) 6 (([5,2]:List Nat).zip (QcI s xs n)) (Qb3 s xs n)) (6+1+(Qb3 s xs n).length)
 (QoT s xs n dJ0++[(5,Qai.pure (.bool false) []),(12,hvI (n+1))]) 0 [] []) [0,1,6,7] [(5,KS.auto),(2,KS.auto)] [] []=some ⟨157,20,QcN,[],.run,none,QcJ s xs (n+1),([5,2]:List Nat).zip (QcI s xs (n+1)),Qb3 s xs (n+1),
 [wq (n+1)=n+1,Qaz []/\Qao Tryz.prog J0 159 #[.int .i64 s,.int .i64 n] (.bool false)]++QlH B s xs n dJ0⟩:=by kernel_rfl
theorem Qy2 (B:Lo) (s:Int) (xs:List (Qag)) (n:Int) (dJ0:Nat->Value):CE.finK 6 (Qak Tryz.prog (Qaw Tryz.prog) J0 B 7 6 (QbX (none) 157 20 (([0,1,6,7]:List Nat).zip (QcJ s xs n)) dJ0 QcN) (Qbx (QaZ s xs) 6 (([5,2]:List Nat).zip (QcI s xs n)) (Qb3 s xs n)) (6+1+(Qb3 s xs n).length)
 [(0,hvF)] 0 [] []) [(5,KS.auto),(2,KS.auto)] [] []=some (OO.ret (.tuple #[]),[(5,Obj.loop {state:=LoopState.ready,pending:=none,fn:=139,tmps:=#[.int .i64 s,Qay 0 (slT xs.length (Qac Qaq xs)),.tuple #[],pA 1 0,.slice none 0 0,pA 2 0,.tuple #[],.int .i64 s,Value.func (Fn.func 157) #[] #[Qay 3 (ptT 0 #[.int .i64 s])],.tuple #[],.tuple #[],.tuple #[],.tuple #[],.tuple #[],.tuple #[],.tuple #[],.tuple #[],.tuple #[]],params:=#[9],assign:=nav (Qan Tryz.prog 139) [1,1,0,1,0,0],body:=nav (Qan Tryz.prog 139) [1,1,0,1,0,1],defers:=4}),(2,Obj.cells #[.slice none 0 0] 60)],[],
 [ltq n (Qcs s)=false]):=by kernel_rfl
def Qml (B:Lo) (s:Int) (xs:List (Qag)) (n:Int) (acc:List Qag) (acc_n:Nat) (dJ0:Nat->Value):List Prop:=[ltq n (Qcs s)=true]++([]:List Prop)
def QoR (s:Int) (xs:List (Qag)) (n:Int) (acc:List Qag) (acc_n:Nat) (dJ0:Nat->Value):Qap:=[(0,hvT)]
def QgJ (s:Int) (xs:List (Qag)) (n:Int) (acc:List Qag) (acc_n:Nat) (dJ0:Nat->Value):Qar:=[(5,Obj.loop {state:=LoopState.ready,pending:=none,fn:=139,tmps:=#[.int .i64 s,Qay 0 (slT xs.length (Qac Qaq xs)),.tuple #[],pA 1 0,.slice none 0 0,pA 2 0,.tuple #[],.int .i64 s,Value.func (Fn.func 157) #[] #[Qay 3 (ptT 0 #[.int .i64 s])],.tuple #[],.tuple #[],.tuple #[],.tuple #[],.tuple #[],.tuple #[],.tuple #[],.tuple #[],.tuple #[]],params:=#[9],assign:=nav (Qan Tryz.prog 139) [1,1,0,1,0,0],body:=nav (Qan Tryz.prog 139) [1,1,0,1,0,1],defers:=4}),(2,Obj.cells #[.slice (some {block:=7,off:=0}) acc_n 3] 60),(6,Obj.coro none),(7,Obj.cells (Qac (Qa9 0 Qaq) acc) 118),(5,Obj.loop {state:=LoopState.ready,pending:=none,fn:=139,tmps:=#[.int .i64 s,Qay 0 (slT xs.length (Qac Qaq xs)),.tuple #[],pA 1 0,.slice none 0 0,pA 2 0,.tuple #[],.int .i64 s,Value.func (Fn.func 157) #[] #[Qay 3 (ptT 0 #[.int .i64 s])],.tuple #[],.tuple #[],.tuple #[],.tuple #[],.tuple #[],.tuple #[],.tuple #[],.tuple #[],.tuple #[]],params:=#[9],assign:=nav (Qan Tryz.prog 139) [1,1,0,1,0,0],body:=nav (Qan Tryz.prog 139) [1,1,0,1,0,1],defers:=4}),(4,Obj.deferred (some [])),(3,Obj.coro none),(2,Obj.cells #[.slice none 0 0] 60),(1,Obj.cells #[Qay 0 (slT xs.length (Qac Qaq xs))] 60),(0,Obj.coro none)]
def Qij (s:Int) (xs:List (Qag)) (n:Int) (acc:List Qag) (acc_n:Nat) (dJ0:Nat->Value):CF:=⟨139,ofList 18 [.int .i64 s,Qay 0 (slT xs.length (Qac Qaq xs)),.tuple #[],pA 1 0,.slice none 0 0,pA 2 0,.tuple #[],.int .i64 s,Value.func (Fn.func 157) #[] #[Qay 3 (ptT 0 #[.int .i64 s])],.int .i64 n,.tuple #[],.tuple #[],.tuple #[],.tuple #[],.tuple #[],.tuple #[],.tuple #[],.tuple #[]],[Item.code (nav (Qan Tryz.prog 139) [1,1,0,1,0,0]),Item.beginRound,Item.code (nav (Qan Tryz.prog 139) [1,1,0,1,0,1])],[],.run,some 5⟩
theorem Qyw (B:Lo) (s:Int) (xs:List (Qag)) (n:Int) (acc:List Qag) (acc_n:Nat) (dJ0:Nat->Value):CE.finK 8 (Qak Tryz.prog (Qaw Tryz.prog) J0 B 6 8 (Qij s xs n acc acc_n dJ0) (QgJ s xs n acc acc_n dJ0) 8
 [(4,Qai.tidx n.toNat (QhV xs n)),(7,Qai.old (Hint.app (Qac (Qa9 0 Qaq) acc++(QeO xs n))))] 0 [] []) [(7,KS.dead),(5,KS.auto),(2,KS.auto)] [(9,KS.rows [(0,0)] [] (Qac (Qa9 0 Qaq) (acc++[xs.getD n.toNat default])))] []=some (OO.ret (.bool true),[(7,Obj.pending #[] 0),(5,Obj.loop {state:=LoopState.ready,pending:=none,fn:=139,tmps:=#[.int .i64 s,Qay 0 (slT xs.length (Qac Qaq xs)),.tuple #[],pA 1 0,.slice none 0 0,pA 2 0,.tuple #[],.int .i64 s,Value.func (Fn.func 157) #[] #[Qay 3 (ptT 0 #[.int .i64 s])],.tuple #[],.tuple #[],.tuple #[],.tuple #[],.tuple #[],.tuple #[],.tuple #[],.tuple #[],.tuple #[]],params:=#[9],assign:=nav (Qan Tryz.prog 139) [1,1,0,1,0,0],body:=nav (Qan Tryz.prog 139) [1,1,0,1,0,1],defers:=4}),(2,Obj.cells #[.slice (some {block:=9,off:=0}) (acc_n+1) 3] 60)],[Obj.cells (Qac (Qa9 0 Qaq) (acc++[xs.getD n.toNat default])) 118],
 [Qbi 8 [(0,0)] [] (Qac (Qa9 0 Qaq) acc++(QeO xs n)) (Qac (Qa9 0 Qaq) (acc++[xs.getD n.toNat default])),Array.size (Qac (Qa9 0 Qaq) acc)=acc_n * (2+1)/\acc_n+1<=maxLen/\(acc_n+1) * 40<=140737488355328/\Qac (Qa9 0 Qaq) acc++(QeO xs n)=Qac (Qa9 0 Qaq) acc++(QeO xs n),n=(↑n.toNat:Int)/\Int.toNat n < List.length xs/\Array.extract (Qac Qaq xs) (Int.toNat n * TypeInfo.size Tryz.t118) (Int.toNat n * TypeInfo.size Tryz.t118+TypeInfo.size Tryz.t118)=(QhV xs n)]):=by kernel_rfl
theorem Qy6 (B:Lo) (s:Int) (xs:List (Qag)) (n:Int) (acc:List Qag) (acc_n:Nat) (dJ0:Nat->Value):CE.landA 6 (Qak Tryz.prog (Qaw Tryz.prog) J0 B 16 6 (QbX (none) 157 20 (([0,1,6,7]:List Nat).zip (QcL s xs n acc acc_n)) dJ0 QcH) (Qbx (QaZ s xs) 6 (([5,2]:List Nat).zip (QcK s xs n acc acc_n)) (Qb2 s xs n acc acc_n)) (6+1+(Qb2 s xs n acc acc_n).length)
 (QoR s xs n acc acc_n dJ0++[(5,Qai.pure (.bool true) []),(9,Qai.call (List.range 8) (OO.ret (.bool true)) ([(7,Obj.pending #[] 0),(5,Obj.loop {state:=LoopState.ready,pending:=none,fn:=139,tmps:=(Qe1 s xs),params:=#[9],assign:=nav (Qan Tryz.prog 139) [1,1,0,1,0,0],body:=nav (Qan Tryz.prog 139) [1,1,0,1,0,1],defers:=4}),(2,Obj.cells #[.slice (some {block:=9,off:=0}) (acc_n+1) 3] 60)]++(8,Qbq)::QaG 9 [Obj.cells (Qac (Qa9 0 Qaq) (acc++[xs.getD n.toNat default])) 118]) 10 [7,5,2]),(12,hvI (n+1))]) 0 [] []) [0,1,6,7] [(5,KS.auto),(2,KS.auto)] [(9,KS.rows [(0,0)] [] (Qac (Qa9 0 Qaq) (acc++[xs.getD n.toNat default])))] []=some ⟨157,20,QcH,[],.run,none,QcL s xs (n+1) (acc++[xs.getD n.toNat default]) (acc_n+1),([5,2]:List Nat).zip (QcK s xs (n+1) (acc++[xs.getD n.toNat default]) (acc_n+1)),Qb2 s xs (n+1) (acc++[xs.getD n.toNat default]) (acc_n+1),
 [Qbi 6 [(0,0)] [] (Qac (Qa9 0 Qaq) (acc++[xs.getD n.toNat default])) (Qac (Qa9 0 Qaq) (acc++[xs.getD n.toNat default])),wq (n+1)=n+1,FJ Tryz.prog B (Qij s xs n acc acc_n dJ0) (QgJ s xs n acc acc_n dJ0) 8 (OO.ret (.bool true)) (([(7,Obj.pending #[] 0),(5,Obj.loop {state:=LoopState.ready,pending:=none,fn:=139,tmps:=(Qe1 s xs),params:=#[9],assign:=nav (Qan Tryz.prog 139) [1,1,0,1,0,0],body:=nav (Qan Tryz.prog 139) [1,1,0,1,0,1],defers:=4}),(2,Obj.cells #[.slice (some {block:=9,off:=0}) (acc_n+1) 3] 60)]++((8,Qbq)::QaG (8+1) [Obj.cells (Qac (Qa9 0 Qaq) (acc++[xs.getD n.toNat default])) 118]))++QgJ s xs n acc acc_n dJ0) 10 (List.range 8) [7,5,2],Qaz []/\Qao Tryz.prog J0 159 #[.int .i64 s,.int .i64 n] (.bool true)]++Qml B s xs n acc acc_n dJ0⟩:=by kernel_rfl
theorem QyY (B:Lo) (s:Int) (xs:List (Qag)) (n:Int) (acc:List Qag) (acc_n:Nat) (dJ0:Nat->Value):CE.landA 6 (Qak Tryz.prog (Qaw Tryz.prog) J0 B 16 6 (QbX (none) 157 20 (([0,1,6,7]:List Nat).zip (QcL s xs n acc acc_n)) dJ0 QcH) (Qbx (QaZ s xs) 6 (([5,2]:List Nat).zip (QcK s xs n acc acc_n)) (Qb2 s xs n acc acc_n)) (6+1+(Qb2 s xs n acc acc_n).length)
 (QoR s xs n acc acc_n dJ0++[(5,Qai.pure (.bool false) []),(12,hvI (n+1))]) 0 [] []) [0,1,6,7] [(5,KS.auto),(2,KS.auto)] [(7,KS.rows [(0,0)] [] (Qac (Qa9 0 Qaq) acc))] []=some ⟨157,20,QcH,[],.run,none,QcL s xs (n+1) (acc) (acc_n),([5,2]:List Nat).zip (QcK s xs (n+1) (acc) (acc_n)),Qb2 s xs (n+1) (acc) (acc_n),
 [Qbi 6 [(0,0)] [] (Qac (Qa9 0 Qaq) acc) (Qac (Qa9 0 Qaq) acc),wq (n+1)=n+1,Qaz []/\Qao Tryz.prog J0 159 #[.int .i64 s,.int .i64 n] (.bool false)]++Qml B s xs n acc acc_n dJ0⟩:=by kernel_rfl
theorem QxQ (B:Lo) (s:Int) (xs:List (Qag)) (n:Int) (acc:List Qag) (acc_n:Nat) (dJ0:Nat->Value):CE.finK 6 (Qak Tryz.prog (Qaw Tryz.prog) J0 B 7 6 (QbX (none) 157 20 (([0,1,6,7]:List Nat).zip (QcL s xs n acc acc_n)) dJ0 QcH) (Qbx (QaZ s xs) 6 (([5,2]:List Nat).zip (QcK s xs n acc acc_n)) (Qb2 s xs n acc acc_n)) (6+1+(Qb2 s xs n acc acc_n).length)
 [(0,hvF)] 0 [] []) [(5,KS.auto),(2,KS.auto)] [(7,KS.rows [(0,0)] [] (Qac (Qa9 0 Qaq) acc))] []=some (OO.ret (.tuple #[]),[(5,Obj.loop {state:=LoopState.ready,pending:=none,fn:=139,tmps:=#[.int .i64 s,Qay 0 (slT xs.length (Qac Qaq xs)),.tuple #[],pA 1 0,.slice none 0 0,pA 2 0,.tuple #[],.int .i64 s,Value.func (Fn.func 157) #[] #[Qay 3 (ptT 0 #[.int .i64 s])],.tuple #[],.tuple #[],.tuple #[],.tuple #[],.tuple #[],.tuple #[],.tuple #[],.tuple #[],.tuple #[]],params:=#[9],assign:=nav (Qan Tryz.prog 139) [1,1,0,1,0,0],body:=nav (Qan Tryz.prog 139) [1,1,0,1,0,1],defers:=4}),(2,Obj.cells #[.slice (some {block:=7,off:=0}) acc_n 3] 60)],[Obj.cells (Qac (Qa9 0 Qaq) acc) 118],
 [Qbi 6 [(0,0)] [] (Qac (Qa9 0 Qaq) acc) (Qac (Qa9 0 Qaq) acc),ltq n (Qcs s)=false]):=by kernel_rfl
set_option maxHeartbeats 4000000 in
theorem Qjx (s:Int) (xs:List (Qag)) (h0:0<=s) (h1:s < 64) (hx:Qcs s<=xs.length) {B:Lo} (hJ:∀w,B.has w->J0 w):∀m:Nat,(∀(n:Int),∀(r:Bool),(!(([]:List Qag)++Qav s xs n).isEmpty)=r->(Qcs s - n).toNat=m->∀(hn:0<=n),(∃dJ0:Nat->Value,(∀t,Qbb (dJ0 t))/\GoE Tryz.prog B (Qc3 s xs) (QaZ s xs) 6 (QbX (none) 157 20 (([0,1,6,7]:List Nat).zip (QcJ s xs n)) dJ0 QcN) (Qbx (QaZ s xs) 6 (([5,2]:List Nat).zip (QcI s xs n)) (Qb3 s xs n)) (6+1+(Qb3 s xs n).length) ([5,2]:List Nat))->FinK Tryz.prog B (Qc3 s xs) (QaZ s xs) 6 (.ret (.tuple #[])) (([5,2]:List Nat).zip ([Obj.loop {state:=LoopState.ready,pending:=none,fn:=139,tmps:=#[.int .i64 s,Qay 0 (slT xs.length (Qac Qaq xs)),.tuple #[],pA 1 0,.slice none 0 0,pA 2 0,.tuple #[],.int .i64 s,Value.func (Fn.func 157) #[] #[Qay 3 (ptT 0 #[.int .i64 s])],.tuple #[],.tuple #[],.tuple #[],.tuple #[],.tuple #[],.tuple #[],.tuple #[],.tuple #[],.tuple #[]],params:=#[9],assign:=nav (Qan Tryz.prog 139) [1,1,0,1,0,0],body:=nav (Qan Tryz.prog 139) [1,1,0,1,0,1],defers:=4},.cells #[bif r then .slice (some ⟨7,0,none⟩) (([]:List Qag)++Qav s xs n).length 3 else .slice none 0 0] 60 (0,0)])) (bif r then [Go.Obj.cells (Qac (Qa9 0 Qaq) (([]:List Qag)++Qav s xs n)) 118 (0,0)] else []) ([5,2]:List Nat))/\(∀(n:Int) (acc:List Qag) (acc_n:Nat),∀(r:Bool),(!(acc++Qav s xs n).isEmpty)=r->(Qcs s - n).toNat=m->∀(hn:0<=n) (hacc:acc_n=acc.length) (haccb:acc≠[]/\(acc_n:Int)<=n),(∃dJ0:Nat->Value,(∀t,Qbb (dJ0 t))/\GoE Tryz.prog B (Qc3 s xs) (QaZ s xs) 6 (QbX (none) 157 20 (([0,1,6,7]:List Nat).zip (QcL s xs n acc acc_n)) dJ0 QcH) (Qbx (QaZ s xs) 6 (([5,2]:List Nat).zip (QcK s xs n acc acc_n)) (Qb2 s xs n acc acc_n)) (6+1+(Qb2 s xs n acc acc_n).length) ([5,2]:List Nat))->FinK Tryz.prog B (Qc3 s xs) (QaZ s xs) 6 (.ret (.tuple #[])) (([5,2]:List Nat).zip ([Obj.loop {state:=LoopState.ready,pending:=none,fn:=139,tmps:=#[.int .i64 s,Qay 0 (slT xs.length (Qac Qaq xs)),.tuple #[],pA 1 0,.slice none 0 0,pA 2 0,.tuple #[],.int .i64 s,Value.func (Fn.func 157) #[] #[Qay 3 (ptT 0 #[.int .i64 s])],.tuple #[],.tuple #[],.tuple #[],.tuple #[],.tuple #[],.tuple #[],.tuple #[],.tuple #[],.tuple #[]],params:=#[9],assign:=nav (Qan Tryz.prog 139) [1,1,0,1,0,0],body:=nav (Qan Tryz.prog 139) [1,1,0,1,0,1],defers:=4},.cells #[bif r then .slice (some ⟨7,0,none⟩) (acc++Qav s xs n).length 3 else .slice none 0 0] 60 (0,0)])) (bif r then [Go.Obj.cells (Qac (Qa9 0 Qaq) (acc++Qav s xs n)) 118 (0,0)] else []) ([5,2]:List Nat)):=by
 intro m0
 induction m0 using Nat.strongRecOn with
 | _ m0 ih0=>
   refine ⟨?_, ?_⟩
   ·intro n r1 hr1 hm0 hn ⟨dJ0,hdJ0,hg0⟩
    have hl:=Qfo h0 h1
    by_cases q0:(n:Int) < (Qcs s)
    ·
     have hp1:Qaz (QlH B s xs n dJ0):=by
      exact ⟨(Qbn q0),trivial⟩
     cases q1:QjP s n with
     | true=>
       have rj2:FJ Tryz.prog B (Qii s xs n dJ0) (QgC s xs n dJ0) 7 (OO.ret (.bool true)) (([(5,Obj.loop {state:=LoopState.ready,pending:=none,fn:=139,tmps:=#[.int .i64 s,Qay 0 (slT xs.length (Qac Qaq xs)),.tuple #[],pA 1 0,.slice none 0 0,pA 2 0,.tuple #[],.int .i64 s,Value.func (Fn.func 157) #[] #[Qay 3 (ptT 0 #[.int .i64 s])],.tuple #[],.tuple #[],.tuple #[],.tuple #[],.tuple #[],.tuple #[],.tuple #[],.tuple #[],.tuple #[]],params:=#[9],assign:=nav (Qan Tryz.prog 139) [1,1,0,1,0,0],body:=nav (Qan Tryz.prog 139) [1,1,0,1,0,1],defers:=4}),(2,Obj.cells #[.slice (some {block:=8,off:=0}) 1 3] 60)]++((7,Qbq)::QaG (7+1) [Obj.cells #[Qay 0 (slT (List.length (Qag.goods (xs.getD n.toNat default))) (Qac QaD (Qag.goods (xs.getD n.toNat default)))),.int .i64 (Qag.weight (xs.getD n.toNat default)),.int .i64 (Qag.cost (xs.getD n.toNat default))] 118]))++QgC s xs n dJ0) 9 (List.range 7) [5,2]:=by
        have s2:=Qfk (s:=s) (xs:=xs) q0 q1
        exact FinK.fjB (GoE.finK okF hJ Qab (Qal (by kernel_rfl)) (Qaf (by kernel_rfl)) ((GoE.refl (P:=Tryz.prog) (B:=B) (c0:=Qii s xs n dJ0) (Qal (by kernel_rfl))).widen (Wf:=((([(5,KS.auto),(2,KS.auto)]):List (Nat×KS)).map (·.1))) (by simp) (Qaf (by kernel_rfl))) (Qw0 B s xs n dJ0)
         ⟨⟨by omega,by omega,(Qaj (z:=3) (fun _=> rfl) (by omega))⟩,trivial⟩) (ex:=[]) (by kernel_rfl) (Qbu _)
       have s2:=Qfk (s:=s) (xs:=xs) q0 q1
       exact ((ih0 _ (by omega)).2 (n+1) ([xs.getD n.toNat default]) (1) r1 (by (rw [<-hr1,s2];simp;done)) rfl (by omega) (by (simp_all;done)) (by (refine ⟨by simp, ?_⟩;omega))
        (GoE.landA okF hJ Qab (Qal (by kernel_rfl)) (Qaf (by kernel_rfl)) hg0 (Qxg B s xs n dJ0)
        ⟨(by exact (QmJ (by exact ⟨(.reg (List.Mem.head _) rfl),⟨(.simple rfl),⟨(.simple rfl),trivial⟩⟩⟩))),⟨(QaV (by omega) (by omega)),⟨rj2,⟨⟨trivial,(by have t_:=Q1L (s) (n) (by omega) (by omega);rw [q1] at t_;exact t_)⟩,hp1⟩⟩⟩⟩ (by kernel_rfl) (by kernel_rfl) (fun l hl=> by cases hl <;> decide))).cast (by rfl) (by (rw [s2];rfl)) (by (rw [s2];rfl))
     | false=>
       have s2:=QhM (s:=s) (xs:=xs) q0 q1
       exact ((ih0 _ (by omega)).1 (n+1) r1 (by (rw [<-hr1,s2];done)) rfl (by omega)
        (GoE.landA okF hJ Qab (Qal (by kernel_rfl)) (Qaf (by kernel_rfl)) hg0 (Qzu B s xs n dJ0)
        ⟨(QaV (by omega) (by omega)),⟨⟨trivial,(by have t_:=Q1L (s) (n) (by omega) (by omega);rw [q1] at t_;exact t_)⟩,hp1⟩⟩ (by kernel_rfl) (by kernel_rfl) (fun l hl=> by cases hl <;> decide))).cast (by rfl) (by (rw [s2];done)) (by (rw [s2];done))
    ·
     have s2:=Qim (s:=s) (xs:=xs) (n:=n) (by omega)
     exact (GoE.finK okF hJ Qab (Qal (by kernel_rfl)) (Qaf (by kernel_rfl)) hg0 (Qy2 B s xs n dJ0)
      ⟨(Qbk (Int.not_lt.1 q0)),trivial⟩).cast (by rfl) (by (subst hr1;rw [s2];rfl)) (by (subst hr1;rw [s2];rfl))
   ·intro n acc acc_n r1 hr1 hm0 hn hacc haccb ⟨dJ0,hdJ0,hg0⟩
    have hl:=Qfo h0 h1
    by_cases q0:(n:Int) < (Qcs s)
    ·
     have hp2:Qaz (Qml B s xs n acc acc_n dJ0):=by
      exact ⟨(Qbn q0),trivial⟩
     cases q1:QjP s n with
     | true=>
       have rj2:FJ Tryz.prog B (Qij s xs n acc acc_n dJ0) (QgJ s xs n acc acc_n dJ0) 8 (OO.ret (.bool true)) (([(7,Obj.pending #[] 0),(5,Obj.loop {state:=LoopState.ready,pending:=none,fn:=139,tmps:=#[.int .i64 s,Qay 0 (slT xs.length (Qac Qaq xs)),.tuple #[],pA 1 0,.slice none 0 0,pA 2 0,.tuple #[],.int .i64 s,Value.func (Fn.func 157) #[] #[Qay 3 (ptT 0 #[.int .i64 s])],.tuple #[],.tuple #[],.tuple #[],.tuple #[],.tuple #[],.tuple #[],.tuple #[],.tuple #[],.tuple #[]],params:=#[9],assign:=nav (Qan Tryz.prog 139) [1,1,0,1,0,0],body:=nav (Qan Tryz.prog 139) [1,1,0,1,0,1],defers:=4}),(2,Obj.cells #[.slice (some {block:=9,off:=0}) (acc_n+1) 3] 60)]++((8,Qbq)::QaG (8+1) [Obj.cells (Qac (Qa9 0 Qaq) (acc++[xs.getD n.toNat default])) 118]))++QgJ s xs n acc acc_n dJ0) 10 (List.range 8) [7,5,2]:=by
        have s2:=Qfk (s:=s) (xs:=xs) q0 q1
        exact FinK.fjB (GoE.finK okF hJ Qab (Qal (by kernel_rfl)) (Qaf (by kernel_rfl)) ((GoE.refl (P:=Tryz.prog) (B:=B) (c0:=Qij s xs n acc acc_n dJ0) (Qal (by kernel_rfl))).widen (Wf:=((([(7,KS.dead),(5,KS.auto),(2,KS.auto)]):List (Nat×KS)).map (·.1))) (by simp) (Qaf (by kernel_rfl))) (Qyw B s xs n acc acc_n dJ0)
         ⟨(by exact (Qmo (Qb1 (Qbt (fun _=> rfl)) (List.Mem.head _)) (by exact ⟨(.reg (List.Mem.head _) rfl),⟨(.simple rfl),⟨(.simple rfl),trivial⟩⟩⟩))),⟨⟨(by (rw [Qdk (z:=3) (fun _=> rfl)];first | omega | (simp;omega) | (simp_all;done))),(by unfold maxLen;omega),by omega,rfl⟩,⟨⟨by omega,by omega,(Qaj (z:=3) (fun _=> rfl) (by omega))⟩,trivial⟩⟩⟩) (ex:=[7]) (by kernel_rfl) ⟨trivial,⟨trivial,⟨trivial,⟨(QeG (t:=118) (fl:=(0,0)) (Qbt (fun _=> rfl)) (by decide)),⟨trivial,⟨trivial,⟨trivial,⟨trivial,⟨trivial,⟨trivial,trivial⟩⟩⟩⟩⟩⟩⟩⟩⟩⟩
       have s2:=Qfk (s:=s) (xs:=xs) q0 q1
       exact ((ih0 _ (by omega)).2 (n+1) (acc++[xs.getD n.toNat default]) (acc_n+1) r1 (by (rw [<-hr1,s2];simp;done)) rfl (by omega) (by (simp_all;done)) (by (simp_all;done))
        (GoE.landA okF hJ Qab (Qal (by kernel_rfl)) (Qaf (by kernel_rfl)) hg0 (Qy6 B s xs n acc acc_n dJ0)
        ⟨(by exact (Qb1 (Qbt (fun _=> rfl)) (List.Mem.head _))),⟨(QaV (by omega) (by omega)),⟨rj2,⟨⟨trivial,(by have t_:=Q1L (s) (n) (by omega) (by omega);rw [q1] at t_;exact t_)⟩,hp2⟩⟩⟩⟩ (by kernel_rfl) (by kernel_rfl) (fun l hl=> by cases hl <;> decide))).cast (by rfl) (by (rw [s2,<-List.append_assoc];done)) (by (rw [s2,<-List.append_assoc];done))
     | false=>
       have s2:=QhM (s:=s) (xs:=xs) q0 q1
       exact ((ih0 _ (by omega)).2 (n+1) (acc) (acc_n) r1 (by (rw [<-hr1,s2];done)) rfl (by omega) (by with_reducible assumption) (by exact ⟨haccb.1,by omega⟩)
        (GoE.landA okF hJ Qab (Qal (by kernel_rfl)) (Qaf (by kernel_rfl)) hg0 (QyY B s xs n acc acc_n dJ0)
        ⟨(by exact (Qb1 (Qbt (fun _=> rfl)) (List.Mem.head _))),⟨(QaV (by omega) (by omega)),⟨⟨trivial,(by have t_:=Q1L (s) (n) (by omega) (by omega);rw [q1] at t_;exact t_)⟩,hp2⟩⟩⟩ (by kernel_rfl) (by kernel_rfl) (fun l hl=> by cases hl <;> decide))).cast (by rfl) (by (rw [s2];done)) (by (rw [s2];done))
    ·
     have s2:=Qim (s:=s) (xs:=xs) (n:=n) (by omega)
     exact (GoE.finK okF hJ Qab (Qal (by kernel_rfl)) (Qaf (by kernel_rfl)) hg0 (QxQ B s xs n acc acc_n dJ0)
      ⟨(by exact (Qb1 (Qbt (fun _=> rfl)) (List.Mem.head _))),⟨(Qbk (Int.not_lt.1 q0)),trivial⟩⟩).cast (by rfl) (by (subst hr1;simp only [Q0e haccb.1,s2,List.append_nil,hacc,Bool.not_false,cond_true];rfl)) (by (subst hr1;simp only [Q0e haccb.1,s2,List.append_nil,hacc,Bool.not_false,cond_true];done))

theorem Qwj (B:Lo) (s:Int) (xs:List (Qag)):CE.landA 6 (Qak Tryz.prog (Qaw Tryz.prog) J0 B 4 6 (Qc3 s xs) (QaZ s xs) 6
 [(1,Qai.old (Hint.val (Value.int IntKind.u64 s))),(2,Qai.pure (.int .i64 (Qcs s)) [])] 0 [] []) [0,1,6,7] [(5,KS.auto),(2,KS.auto)] [] []=some ⟨157,20,QcN,[],.run,none,QcJ s xs (0),([5,2]:List Nat).zip (QcI s xs (0)),Qb3 s xs (0),
 [Qaz []/\Qao Tryz.prog J0 158 #[Value.int IntKind.u64 s] (.int .i64 (Qcs s)),IntKind.wrap IntKind.u64 s=s]⟩:=by kernel_rfl
theorem Qv1 (B:Lo) (s:Int) (xs:List (Qag)):QaK (Qak Tryz.prog (Qaw Tryz.prog) J0 B 16 1 (Qae Tryz.prog 139 18 (([.int .i64 s,slT xs.length (Qac Qaq xs)]).map (Qam 0 4))) H00 1
 (Qrh s xs++[(5,Qai.call (List.range 6) (OO.ret (.tuple #[])) ([(5,Obj.loop {state:=LoopState.ready,pending:=none,fn:=139,tmps:=(Qe1 s xs),params:=#[9],assign:=nav (Qan Tryz.prog 139) [1,1,0,1,0,0],body:=nav (Qan Tryz.prog 139) [1,1,0,1,0,1],defers:=4}),(2,Obj.cells #[.slice (some {block:=7,off:=0}) (List.length ([]++Qav s xs 0)) 3] 60)]++(6,Qbq)::QaG 7 [Obj.cells (Qac (Qa9 0 Qaq) ([]++Qav s xs 0)) 118]) 8 [5,2])]) 0 [] []) [{k:=7,rs:=[0],cs:=Qac Qaq ([]++Qav s xs 0)}]=some (slT (List.length ([]++Qav s xs 0)) (Fz.cs {k:=7,rs:=[0],cs:=Qac Qaq ([]++Qav s xs 0)}),
 [Qct (Fz.rs {k:=7,rs:=[0],cs:=Qac Qaq ([]++Qav s xs 0)}) (Qac (Qa9 0 Qaq) ([]++Qav s xs 0)) (Fz.cs {k:=7,rs:=[0],cs:=Qac Qaq ([]++Qav s xs 0)}),FJ Tryz.prog B (Qc3 s xs) (QaZ s xs) 6 (OO.ret (.tuple #[])) (([(5,Obj.loop {state:=LoopState.ready,pending:=none,fn:=139,tmps:=(Qe1 s xs),params:=#[9],assign:=nav (Qan Tryz.prog 139) [1,1,0,1,0,0],body:=nav (Qan Tryz.prog 139) [1,1,0,1,0,1],defers:=4}),(2,Obj.cells #[.slice (some {block:=7,off:=0}) (List.length ([]++Qav s xs 0)) 3] 60)]++((6,Qbq)::QaG (6+1) [Obj.cells (Qac (Qa9 0 Qaq) ([]++Qav s xs 0)) 118]))++QaZ s xs) 8 (List.range 6) [5,2]]++QkL B s xs):=by kernel_rfl
theorem QvG (B:Lo) (s:Int) (xs:List (Qag)):CE.landA 6 (Qak Tryz.prog (Qaw Tryz.prog) J0 B 4 6 (Qc3 s xs) (QaZ s xs) 6
 [(1,Qai.old (Hint.val (Value.int IntKind.u64 s))),(2,Qai.pure (.int .i64 (Qcs s)) [])] 0 [] []) [0,1,6,7] [(5,KS.auto),(2,KS.auto)] [] []=some ⟨157,20,QcN,[],.run,none,QcJ s xs (0),([5,2]:List Nat).zip (QcI s xs (0)),Qb3 s xs (0),
 [Qaz []/\Qao Tryz.prog J0 158 #[Value.int IntKind.u64 s] (.int .i64 (Qcs s)),IntKind.wrap IntKind.u64 s=s]⟩:=by kernel_rfl
theorem Qvi (B:Lo) (s:Int) (xs:List (Qag)):QaK (Qak Tryz.prog (Qaw Tryz.prog) J0 B 16 1 (Qae Tryz.prog 139 18 (([.int .i64 s,slT xs.length (Qac Qaq xs)]).map (Qam 0 4))) H00 1
 (Qrh s xs++[(5,Qai.call (List.range 6) (OO.ret (.tuple #[])) ([(5,Obj.loop {state:=LoopState.ready,pending:=none,fn:=139,tmps:=(Qe1 s xs),params:=#[9],assign:=nav (Qan Tryz.prog 139) [1,1,0,1,0,0],body:=nav (Qan Tryz.prog 139) [1,1,0,1,0,1],defers:=4}),(2,Obj.cells #[.slice none 0 0] 60)]++(6,Qbq)::QaG 7 []) 7 [5,2])]) 0 [] []) []=some (slT 0 #[],
 [FJ Tryz.prog B (Qc3 s xs) (QaZ s xs) 6 (OO.ret (.tuple #[])) (([(5,Obj.loop {state:=LoopState.ready,pending:=none,fn:=139,tmps:=(Qe1 s xs),params:=#[9],assign:=nav (Qan Tryz.prog 139) [1,1,0,1,0,0],body:=nav (Qan Tryz.prog 139) [1,1,0,1,0,1],defers:=4}),(2,Obj.cells #[.slice none 0 0] 60)]++((6,Qbq)::QaG (6+1) []))++QaZ s xs) 7 (List.range 6) [5,2]]++QkL B s xs):=by kernel_rfl
set_option maxHeartbeats 4000000 in
theorem Q1p (s:Int) (xs:List (Qag)) (h0:0<=s) (h1:s < 64) (hx:Qcs s<=xs.length) {B:Lo} (hJ:∀w,B.has w->J0 w):EndsT Tryz.prog B (Qae Tryz.prog 139 18 (([.int .i64 s,slT xs.length (Qac Qaq xs)]).map (Qam 0 4))) (slT (Qav s xs 0).length (Qac Qaq (Qav s xs 0))):=by
 have hl:=Qfo h0 h1
 have rj0:FJ Tryz.prog B (QhK s xs) (QgL s xs) 3 (OO.ret (Value.func (Fn.func 157) #[] #[Qay 3 (ptT 0 #[.int .i64 s])])) (([]++((3,Qbq)::QaG (3+1) []))++QgL s xs) 4 (List.range 3) []:=by
  exact FinK.fjB (GoE.finK okF hJ Qab (Qal (by kernel_rfl)) (Qaf (by kernel_rfl)) ((GoE.refl (P:=Tryz.prog) (B:=B) (c0:=QhK s xs) (Qal (by kernel_rfl))).widen (Wf:=((([]):List (Nat×KS)).map (·.1))) (by simp) (Qaf (by kernel_rfl))) (Qxd B s xs)
   ⟨(QfR (by kernel_rfl)),trivial⟩) (ex:=[]) (by kernel_rfl) (Qbu _)
 have hp0:Qaz (QkL B s xs):=by
  exact ⟨rj0,trivial⟩
 cases q0: !List.isEmpty ([]++Qav s xs 0) with
 | true=>
   have rj1:FJ Tryz.prog B (Qc3 s xs) (QaZ s xs) 6 (OO.ret (.tuple #[])) (([(5,Obj.loop {state:=LoopState.ready,pending:=none,fn:=139,tmps:=#[.int .i64 s,Qay 0 (slT xs.length (Qac Qaq xs)),.tuple #[],pA 1 0,.slice none 0 0,pA 2 0,.tuple #[],.int .i64 s,Value.func (Fn.func 157) #[] #[Qay 3 (ptT 0 #[.int .i64 s])],.tuple #[],.tuple #[],.tuple #[],.tuple #[],.tuple #[],.tuple #[],.tuple #[],.tuple #[],.tuple #[]],params:=#[9],assign:=nav (Qan Tryz.prog 139) [1,1,0,1,0,0],body:=nav (Qan Tryz.prog 139) [1,1,0,1,0,1],defers:=4}),(2,Obj.cells #[.slice (some {block:=7,off:=0}) (List.length ([]++Qav s xs 0)) 3] 60)]++((6,Qbq)::QaG (6+1) [Obj.cells (Qac (Qa9 0 Qaq) ([]++Qav s xs 0)) 118]))++QaZ s xs) 8 (List.range 6) [5,2]:=by
    exact FinK.fjB ((Qjx s xs h0 h1 hx hJ _).1 (0) true q0 rfl (by omega)
     (GoE.landA okF hJ Qab (Qal (by kernel_rfl)) (Qaf (by kernel_rfl)) ((GoE.refl (P:=Tryz.prog) (B:=B) (c0:=Qc3 s xs) (Qal (by kernel_rfl))).widen (Wf:=((([(5,KS.auto),(2,KS.auto)]):List (Nat×KS)).map (·.1))) (by simp) (Qaf (by kernel_rfl))) (Qwj B s xs)
     ⟨⟨trivial,Q4D (s) (by with_reducible assumption) (by with_reducible assumption)⟩,⟨(IntWalk.u64_in _ ⟨by omega,by omega⟩),trivial⟩⟩ (by kernel_rfl) (by kernel_rfl) (fun l hl=> by cases hl <;> decide))) (ex:=[]) (by kernel_rfl) (Qbu _)
   exact (GoE.endsT okF hJ Qab GoE.start (Qv1 B s xs)
    ⟨(Qe0 (Qbt (fun _=> rfl)) (List.Mem.head _)),⟨rj1,hp0⟩⟩).cast (by rfl)
 | false=>
   have rj1:FJ Tryz.prog B (Qc3 s xs) (QaZ s xs) 6 (OO.ret (.tuple #[])) (([(5,Obj.loop {state:=LoopState.ready,pending:=none,fn:=139,tmps:=#[.int .i64 s,Qay 0 (slT xs.length (Qac Qaq xs)),.tuple #[],pA 1 0,.slice none 0 0,pA 2 0,.tuple #[],.int .i64 s,Value.func (Fn.func 157) #[] #[Qay 3 (ptT 0 #[.int .i64 s])],.tuple #[],.tuple #[],.tuple #[],.tuple #[],.tuple #[],.tuple #[],.tuple #[],.tuple #[],.tuple #[]],params:=#[9],assign:=nav (Qan Tryz.prog 139) [1,1,0,1,0,0],body:=nav (Qan Tryz.prog 139) [1,1,0,1,0,1],defers:=4}),(2,Obj.cells #[.slice none 0 0] 60)]++((6,Qbq)::QaG (6+1) []))++QaZ s xs) 7 (List.range 6) [5,2]:=by
    exact FinK.fjB ((Qjx s xs h0 h1 hx hJ _).1 (0) false q0 rfl (by omega)
     (GoE.landA okF hJ Qab (Qal (by kernel_rfl)) (Qaf (by kernel_rfl)) ((GoE.refl (P:=Tryz.prog) (B:=B) (c0:=Qc3 s xs) (Qal (by kernel_rfl))).widen (Wf:=((([(5,KS.auto),(2,KS.auto)]):List (Nat×KS)).map (·.1))) (by simp) (Qaf (by kernel_rfl))) (QvG B s xs)
     ⟨⟨trivial,Q4D (s) (by with_reducible assumption) (by with_reducible assumption)⟩,⟨(IntWalk.u64_in _ ⟨by omega,by omega⟩),trivial⟩⟩ (by kernel_rfl) (by kernel_rfl) (fun l hl=> by cases hl <;> decide))) (ex:=[]) (by kernel_rfl) (Qbu _)
   exact (GoE.endsT okF hJ Qab GoE.start (Qvi B s xs)
    ⟨rj1,hp0⟩).cast (by (rw [Q4h q0];rfl))
theorem Q3A (s:Int) (xs:List (Qag)) (h0:0<=s) (h1:s < 64) (hx:Qcs s<=xs.length):Qao Tryz.prog J0 139 #[.int .i64 s,slT xs.length (Qac Qaq xs)] (slT (Qav s xs 0).length (Qac Qaq (Qav s xs 0))):=
 Qa8 (ts:=[.int .i64 s,slT xs.length (Qac Qaq xs)]) Qbr (c0:=Qae Tryz.prog 139 18 (([.int .i64 s,slT xs.length (Qac Qaq xs)]).map (Qam 0 4))) (by kernel_rfl) (by kernel_rfl) fun B hJ=> Q1p s xs h0 h1 hx hJ
def QgG (s:Int) (xs:List (Row)):Qar:=[(2,Obj.cells #[.slice none 0 0] 63),(1,Obj.cells #[Qay 0 (slT xs.length (Qac Qas xs))] 63),(0,Obj.coro none)]
def Qir (s:Int) (xs:List (Row)):CF:=⟨147,ofList 4 [.int .i64 s],[Item.code (Qan Tryz.prog 147)],[],.run,none⟩
def Qeq (s:Int) (xs:List (Row)):Array Value:=#[.int .i64 s,Qay 0 (slT xs.length (Qac Qas xs)),.tuple #[],pA 1 0,.slice none 0 0,pA 2 0,.tuple #[],.int .i64 s,Value.func (Fn.func 157) #[] #[Qay 3 (ptT 0 #[.int .i64 s])],.tuple #[],.tuple #[],.tuple #[],.tuple #[],.tuple #[],.tuple #[],.tuple #[],.tuple #[],.tuple #[]]
def Qfa (xs:List (Row)) (n:Int):Array Value:=#[Qay 0 (slT (List.length (xs.getD n.toNat default)) (Qac Qa1 (xs.getD n.toNat default)))]
def QhL (xs:List (Row)) (n:Int):Array Value:=#[slT (List.length (xs.getD n.toNat default)) (Qac Qa1 (xs.getD n.toNat default))]
theorem Qxm (B:Lo) (s:Int) (xs:List (Row)):CE.finK 3 (Qak Tryz.prog (Qaw Tryz.prog) J0 B 6 3 (Qir s xs) (QgG s xs) 3
 [] 0 [] []) [] [] [{k:=3,rs:=[],cs:=#[.int .i64 s]}]=some (OO.ret (Value.func (Fn.func 157) #[] #[Qay 3 (ptT 0 #[.int .i64 s])]),[],[],
 [Qct (Fz.rs {k:=3,rs:=[],cs:=#[.int .i64 s]}) #[.int .i64 s] (Fz.cs {k:=3,rs:=[],cs:=#[.int .i64 s]})]):=by kernel_rfl
def QkP (B:Lo) (s:Int) (xs:List (Row)):List Prop:=[FJ Tryz.prog B (Qir s xs) (QgG s xs) 3 (OO.ret (Value.func (Fn.func 157) #[] #[Qay 3 (ptT 0 #[.int .i64 s])])) (([]++((3,Qbq)::QaG (3+1) []))++QgG s xs) 4 (List.range 3) []]++([]:List Prop)
def Qp5 (s:Int) (xs:List (Row)):Qap:=[(4,Qai.call (List.range 3) (OO.ret (Value.func (Fn.func 157) #[] #[Qay 3 (ptT 0 #[.int .i64 s])])) ([]++(3,Qbq)::QaG 4 []) 4 [])]
def Qbc (s:Int) (xs:List (Row)):Qar:=[(5,Obj.loop {state:=LoopState.ready,pending:=none,fn:=121,tmps:=#[.int .i64 s,Qay 0 (slT xs.length (Qac Qas xs)),.tuple #[],pA 1 0,.slice none 0 0,pA 2 0,.tuple #[],.int .i64 s,Value.func (Fn.func 157) #[] #[Qay 3 (ptT 0 #[.int .i64 s])],.tuple #[],.tuple #[],.tuple #[],.tuple #[],.tuple #[],.tuple #[],.tuple #[],.tuple #[],.tuple #[]],params:=#[9],assign:=nav (Qan Tryz.prog 121) [1,1,0,1,0,0],body:=nav (Qan Tryz.prog 121) [1,1,0,1,0,1],defers:=4}),(4,Obj.deferred (some [])),(3,Obj.coro none),(2,Obj.cells #[.slice none 0 0] 63),(1,Obj.cells #[Qay 0 (slT xs.length (Qac Qas xs))] 63),(0,Obj.coro none)]
def Qcz (s:Int) (xs:List (Row)):CF:=⟨157,ofList 20 [Value.func (Fn.yield 5) #[] #[],Qay 3 (ptT 0 #[.int .i64 s])],[Item.code (Qan Tryz.prog 157)],[],.run,none⟩
def QcO (s:Int) (xs:List (Row)) (n:Int):List Value:=[Value.func (Fn.yield 5) #[] #[],Qay 3 (ptT 0 #[.int .i64 s]),.int .i64 (Qcs s),.int .i64 n]
def QcT (s:Int) (xs:List (Row)) (n:Int):List Obj:=[Obj.loop {state:=LoopState.ready,pending:=none,fn:=121,tmps:=#[.int .i64 s,Qay 0 (slT xs.length (Qac Qas xs)),.tuple #[],pA 1 0,.slice none 0 0,pA 2 0,.tuple #[],.int .i64 s,Value.func (Fn.func 157) #[] #[Qay 3 (ptT 0 #[.int .i64 s])],.tuple #[],.tuple #[],.tuple #[],.tuple #[],.tuple #[],.tuple #[],.tuple #[],.tuple #[],.tuple #[]],params:=#[9],assign:=nav (Qan Tryz.prog 121) [1,1,0,1,0,0],body:=nav (Qan Tryz.prog 121) [1,1,0,1,0,1],defers:=4},.cells #[.slice none 0 0] 63 (0,0)]
def Qb4 (s:Int) (xs:List (Row)) (n:Int):List Obj:=[]
def QcU:List Item:=([.code [1,0,0],.inLoop [1,0,0],.inBlock 0]).map (it (Qan Tryz.prog 157))
def QcG (s:Int) (xs:List (Row)) (n:Int) (acc:List Row) (acc_n:Nat):List Value:=[Value.func (Fn.yield 5) #[] #[],Qay 3 (ptT 0 #[.int .i64 s]),.int .i64 (Qcs s),.int .i64 n]
def QcP (s:Int) (xs:List (Row)) (n:Int) (acc:List Row) (acc_n:Nat):List Obj:=[Obj.loop {state:=LoopState.ready,pending:=none,fn:=121,tmps:=#[.int .i64 s,Qay 0 (slT xs.length (Qac Qas xs)),.tuple #[],pA 1 0,.slice none 0 0,pA 2 0,.tuple #[],.int .i64 s,Value.func (Fn.func 157) #[] #[Qay 3 (ptT 0 #[.int .i64 s])],.tuple #[],.tuple #[],.tuple #[],.tuple #[],.tuple #[],.tuple #[],.tuple #[],.tuple #[],.tuple #[]],params:=#[9],assign:=nav (Qan Tryz.prog 121) [1,1,0,1,0,0],body:=nav (Qan Tryz.prog 121) [1,1,0,1,0,1],defers:=4},.cells #[.slice (some ⟨7,0,none⟩) acc_n 1] 63 (0,0)]
def Qb0 (s:Int) (xs:List (Row)) (n:Int) (acc:List Row) (acc_n:Nat):List Obj:=[Obj.cells (Qac (Qa9 0 Qas) acc) 22 (0,0)]
def QcV:List Item:=([.code [1,0,0],.inLoop [1,0,0],.inBlock 0]).map (it (Qan Tryz.prog 157))
def QlB (B:Lo) (s:Int) (xs:List (Row)) (n:Int) (dJ0:Nat->Value):List Prop:=[ltq n (Qcs s)=true]++([]:List Prop)
def QoY (s:Int) (xs:List (Row)) (n:Int) (dJ0:Nat->Value):Qap:=[(0,hvT)]
def QgA (s:Int) (xs:List (Row)) (n:Int) (dJ0:Nat->Value):Qar:=[(5,Obj.loop {state:=LoopState.ready,pending:=none,fn:=121,tmps:=#[.int .i64 s,Qay 0 (slT xs.length (Qac Qas xs)),.tuple #[],pA 1 0,.slice none 0 0,pA 2 0,.tuple #[],.int .i64 s,Value.func (Fn.func 157) #[] #[Qay 3 (ptT 0 #[.int .i64 s])],.tuple #[],.tuple #[],.tuple #[],.tuple #[],.tuple #[],.tuple #[],.tuple #[],.tuple #[],.tuple #[]],params:=#[9],assign:=nav (Qan Tryz.prog 121) [1,1,0,1,0,0],body:=nav (Qan Tryz.prog 121) [1,1,0,1,0,1],defers:=4}),(2,Obj.cells #[.slice none 0 0] 63),(6,Obj.coro none),(5,Obj.loop {state:=LoopState.ready,pending:=none,fn:=121,tmps:=#[.int .i64 s,Qay 0 (slT xs.length (Qac Qas xs)),.tuple #[],pA 1 0,.slice none 0 0,pA 2 0,.tuple #[],.int .i64 s,Value.func (Fn.func 157) #[] #[Qay 3 (ptT 0 #[.int .i64 s])],.tuple #[],.tuple #[],.tuple #[],.tuple #[],.tuple #[],.tuple #[],.tuple #[],.tuple #[],.tuple #[]],params:=#[9],assign:=nav (Qan Tryz.prog 121) [1,1,0,1,0,0],body:=nav (Qan Tryz.prog 121) [1,1,0,1,0,1],defers:=4}),(4,Obj.deferred (some [])),(3,Obj.coro none),(2,Obj.cells #[.slice none 0 0] 63),(1,Obj.cells #[Qay 0 (slT xs.length (Qac Qas xs))] 63),(0,Obj.coro none)]
def QhH (s:Int) (xs:List (Row)) (n:Int) (dJ0:Nat->Value):CF:=⟨121,ofList 18 [.int .i64 s,Qay 0 (slT xs.length (Qac Qas xs)),.tuple #[],pA 1 0,.slice none 0 0,pA 2 0,.tuple #[],.int .i64 s,Value.func (Fn.func 157) #[] #[Qay 3 (ptT 0 #[.int .i64 s])],.int .i64 n,.tuple #[],.tuple #[],.tuple #[],.tuple #[],.tuple #[],.tuple #[],.tuple #[],.tuple #[]],[Item.code (nav (Qan Tryz.prog 121) [1,1,0,1,0,0]),Item.beginRound,Item.code (nav (Qan Tryz.prog 121) [1,1,0,1,0,1])],[],.run,some 5⟩
theorem Qx4 (B:Lo) (s:Int) (xs:List (Row)) (n:Int) (dJ0:Nat->Value):CE.finK 7 (Qak Tryz.prog (Qaw Tryz.prog) J0 B 6 7 (QhH s xs n dJ0) (QgA s xs n dJ0) 7
 [(4,Qai.tidx n.toNat (QhL xs n))] 0 [] []) [(5,KS.auto),(2,KS.auto)] [(8,KS.auto)] []=some (OO.ret (.bool true),[(5,Obj.loop {state:=LoopState.ready,pending:=none,fn:=121,tmps:=#[.int .i64 s,Qay 0 (slT xs.length (Qac Qas xs)),.tuple #[],pA 1 0,.slice none 0 0,pA 2 0,.tuple #[],.int .i64 s,Value.func (Fn.func 157) #[] #[Qay 3 (ptT 0 #[.int .i64 s])],.tuple #[],.tuple #[],.tuple #[],.tuple #[],.tuple #[],.tuple #[],.tuple #[],.tuple #[],.tuple #[]],params:=#[9],assign:=nav (Qan Tryz.prog 121) [1,1,0,1,0,0],body:=nav (Qan Tryz.prog 121) [1,1,0,1,0,1],defers:=4}),(2,Obj.cells #[.slice (some {block:=8,off:=0}) 1 1] 63)],[Obj.cells #[Qay 0 (slT (List.length (xs.getD n.toNat default)) (Qac Qa1 (xs.getD n.toNat default)))] 22],
 [n=(↑n.toNat:Int)/\Int.toNat n < List.length xs/\Array.extract (Qac Qas xs) (Int.toNat n * TypeInfo.size Tryz.t22) (Int.toNat n * TypeInfo.size Tryz.t22+TypeInfo.size Tryz.t22)=(QhL xs n)]):=by kernel_rfl
theorem Qx6 (B:Lo) (s:Int) (xs:List (Row)) (n:Int) (dJ0:Nat->Value):CE.landA 6 (Qak Tryz.prog (Qaw Tryz.prog) J0 B 16 6 (QbX (none) 157 20 (([0,1,6,7]:List Nat).zip (QcO s xs n)) dJ0 QcU) (Qbx (Qbc s xs) 6 (([5,2]:List Nat).zip (QcT s xs n)) (Qb4 s xs n)) (6+1+(Qb4 s xs n).length)
 (QoY s xs n dJ0++[(5,Qai.pure (.bool true) []),(9,Qai.call (List.range 7) (OO.ret (.bool true)) ([(5,Obj.loop {state:=LoopState.ready,pending:=none,fn:=121,tmps:=(Qeq s xs),params:=#[9],assign:=nav (Qan Tryz.prog 121) [1,1,0,1,0,0],body:=nav (Qan Tryz.prog 121) [1,1,0,1,0,1],defers:=4}),(2,Obj.cells #[.slice (some {block:=8,off:=0}) 1 1] 63)]++(7,Qbq)::QaG 8 [Obj.cells (Qfa xs n) 22]) 9 [5,2]),(12,hvI (n+1))]) 0 [] []) [0,1,6,7] [(5,KS.auto),(2,KS.auto)] [(8,KS.rows [(0,0)] [] (Qac (Qa9 0 Qas) [xs.getD n.toNat default]))] []=some ⟨157,20,QcV,[],.run,none,QcG s xs (n+1) ([xs.getD n.toNat default]) (1),([5,2]:List Nat).zip (QcP s xs (n+1) ([xs.getD n.toNat default]) (1)),Qb0 s xs (n+1) ([xs.getD n.toNat default]) (1),
 [Qbi 6 [(0,0)] [] (Qfa xs n) (Qac (Qa9 0 Qas) [xs.getD n.toNat default]),wq (n+1)=n+1,FJ Tryz.prog B (QhH s xs n dJ0) (QgA s xs n dJ0) 7 (OO.ret (.bool true)) (([(5,Obj.loop {state:=LoopState.ready,pending:=none,fn:=121,tmps:=(Qeq s xs),params:=#[9],assign:=nav (Qan Tryz.prog 121) [1,1,0,1,0,0],body:=nav (Qan Tryz.prog 121) [1,1,0,1,0,1],defers:=4}),(2,Obj.cells #[.slice (some {block:=8,off:=0}) 1 1] 63)]++((7,Qbq)::QaG (7+1) [Obj.cells (Qfa xs n) 22]))++QgA s xs n dJ0) 9 (List.range 7) [5,2],Qaz []/\Qao Tryz.prog J0 159 #[.int .i64 s,.int .i64 n] (.bool true)]++QlB B s xs n dJ0⟩:=by kernel_rfl
theorem Qzp (B:Lo) (s:Int) (xs:List (Row)) (n:Int) (dJ0:Nat->Value):CE.landA 6 (Qak Tryz.prog (Qaw Tryz.prog) J0 B 16 6 (QbX (none) 157 20 (([0,1,6,7]:List Nat).zip (QcO s xs n)) dJ0 QcU) (Qbx (Qbc s xs) 6 (([5,2]:List Nat).zip (QcT s xs n)) (Qb4 s xs n)) (6+1+(Qb4 s xs n).length)
 (QoY s xs n dJ0++[(5,Qai.pure (.bool false) []),(12,hvI (n+1))]) 0 [] []) [0,1,6,7] [(5,KS.auto),(2,KS.auto)] [] []=some ⟨157,20,QcU,[],.run,none,QcO s xs (n+1),([5,2]:List Nat).zip (QcT s xs (n+1)),Qb4 s xs (n+1),
 [wq (n+1)=n+1,Qaz []/\Qao Tryz.prog J0 159 #[.int .i64 s,.int .i64 n] (.bool false)]++QlB B s xs n dJ0⟩:=by kernel_rfl
theorem QyQ (B:Lo) (s:Int) (xs:List (Row)) (n:Int) (dJ0:Nat->Value):CE.finK 6 (Qak Tryz.prog (Qaw Tryz.prog) J0 B 7 6 (QbX (none) 157 20 (([0,1,6,7]:List Nat).zip (QcO s xs n)) dJ0 QcU) (Qbx (Qbc s xs) 6 (([5,2]:List Nat).zip (QcT s xs n)) (Qb4 s xs n)) (6+1+(Qb4 s xs n).length)
 [(0,hvF)] 0 [] []) [(5,KS.auto),(2,KS.auto)] [] []=some (OO.ret (.tuple #[]),[(5,Obj.loop {state:=LoopState.ready,pending:=none,fn:=121,tmps:=#[.int .i64 s,Qay 0 (slT xs.length (Qac Qas xs)),.tuple #[],pA 1 0,.slice none 0 0,pA 2 0,.tuple #[],.int .i64 s,Value.func (Fn.func 157) #[] #[Qay 3 (ptT 0 #[.int .i64 s])],.tuple #[],.tuple #[],.tuple #[],.tuple #[],.tuple #[],.tuple #[],.tuple #[],.tuple #[],.tuple #[]],params:=#[9],assign:=nav (Qan Tryz.prog 121) [1,1,0,1,0,0],body:=nav (Qan Tryz.prog 121) [1,1,0,1,0,1],defers:=4}),(2,Obj.cells #[.slice none 0 0] 63)],[],
 [ltq n (Qcs s)=false]):=by kernel_rfl
def Qlz (B:Lo) (s:Int) (xs:List (Row)) (n:Int) (acc:List Row) (acc_n:Nat) (dJ0:Nat->Value):List Prop:=[ltq n (Qcs s)=true]++([]:List Prop)
def QpK (s:Int) (xs:List (Row)) (n:Int) (acc:List Row) (acc_n:Nat) (dJ0:Nat->Value):Qap:=[(0,hvT)]
def QgM (s:Int) (xs:List (Row)) (n:Int) (acc:List Row) (acc_n:Nat) (dJ0:Nat->Value):Qar:=[(5,Obj.loop {state:=LoopState.ready,pending:=none,fn:=121,tmps:=#[.int .i64 s,Qay 0 (slT xs.length (Qac Qas xs)),.tuple #[],pA 1 0,.slice none 0 0,pA 2 0,.tuple #[],.int .i64 s,Value.func (Fn.func 157) #[] #[Qay 3 (ptT 0 #[.int .i64 s])],.tuple #[],.tuple #[],.tuple #[],.tuple #[],.tuple #[],.tuple #[],.tuple #[],.tuple #[],.tuple #[]],params:=#[9],assign:=nav (Qan Tryz.prog 121) [1,1,0,1,0,0],body:=nav (Qan Tryz.prog 121) [1,1,0,1,0,1],defers:=4}),(2,Obj.cells #[.slice (some {block:=7,off:=0}) acc_n 1] 63),(6,Obj.coro none),(7,Obj.cells (Qac (Qa9 0 Qas) acc) 22),(5,Obj.loop {state:=LoopState.ready,pending:=none,fn:=121,tmps:=#[.int .i64 s,Qay 0 (slT xs.length (Qac Qas xs)),.tuple #[],pA 1 0,.slice none 0 0,pA 2 0,.tuple #[],.int .i64 s,Value.func (Fn.func 157) #[] #[Qay 3 (ptT 0 #[.int .i64 s])],.tuple #[],.tuple #[],.tuple #[],.tuple #[],.tuple #[],.tuple #[],.tuple #[],.tuple #[],.tuple #[]],params:=#[9],assign:=nav (Qan Tryz.prog 121) [1,1,0,1,0,0],body:=nav (Qan Tryz.prog 121) [1,1,0,1,0,1],defers:=4}),(4,Obj.deferred (some [])),(3,Obj.coro none),(2,Obj.cells #[.slice none 0 0] 63),(1,Obj.cells #[Qay 0 (slT xs.length (Qac Qas xs))] 63),(0,Obj.coro none)]
def Qil (s:Int) (xs:List (Row)) (n:Int) (acc:List Row) (acc_n:Nat) (dJ0:Nat->Value):CF:=⟨121,ofList 18 [.int .i64 s,Qay 0 (slT xs.length (Qac Qas xs)),.tuple #[],pA 1 0,.slice none 0 0,pA 2 0,.tuple #[],.int .i64 s,Value.func (Fn.func 157) #[] #[Qay 3 (ptT 0 #[.int .i64 s])],.int .i64 n,.tuple #[],.tuple #[],.tuple #[],.tuple #[],.tuple #[],.tuple #[],.tuple #[],.tuple #[]],[Item.code (nav (Qan Tryz.prog 121) [1,1,0,1,0,0]),Item.beginRound,Item.code (nav (Qan Tryz.prog 121) [1,1,0,1,0,1])],[],.run,some 5⟩
theorem Qy3 (B:Lo) (s:Int) (xs:List (Row)) (n:Int) (acc:List Row) (acc_n:Nat) (dJ0:Nat->Value):CE.finK 8 (Qak Tryz.prog (Qaw Tryz.prog) J0 B 6 8 (Qil s xs n acc acc_n dJ0) (QgM s xs n acc acc_n dJ0) 8
 [(4,Qai.tidx n.toNat (QhL xs n)),(7,Qai.old (Hint.app (Qac (Qa9 0 Qas) acc++(Qfa xs n))))] 0 [] []) [(7,KS.dead),(5,KS.auto),(2,KS.auto)] [(9,KS.rows [(0,0)] [] (Qac (Qa9 0 Qas) (acc++[xs.getD n.toNat default])))] []=some (OO.ret (.bool true),[(7,Obj.pending #[] 0),(5,Obj.loop {state:=LoopState.ready,pending:=none,fn:=121,tmps:=#[.int .i64 s,Qay 0 (slT xs.length (Qac Qas xs)),.tuple #[],pA 1 0,.slice none 0 0,pA 2 0,.tuple #[],.int .i64 s,Value.func (Fn.func 157) #[] #[Qay 3 (ptT 0 #[.int .i64 s])],.tuple #[],.tuple #[],.tuple #[],.tuple #[],.tuple #[],.tuple #[],.tuple #[],.tuple #[],.tuple #[]],params:=#[9],assign:=nav (Qan Tryz.prog 121) [1,1,0,1,0,0],body:=nav (Qan Tryz.prog 121) [1,1,0,1,0,1],defers:=4}),(2,Obj.cells #[.slice (some {block:=9,off:=0}) (acc_n+1) 1] 63)],[Obj.cells (Qac (Qa9 0 Qas) (acc++[xs.getD n.toNat default])) 22],
 [Qbi 8 [(0,0)] [] (Qac (Qa9 0 Qas) acc++(Qfa xs n)) (Qac (Qa9 0 Qas) (acc++[xs.getD n.toNat default])),Array.size (Qac (Qa9 0 Qas) acc)=acc_n * (0+1)/\acc_n+1<=maxLen/\(acc_n+1) * 24<=140737488355328/\Qac (Qa9 0 Qas) acc++(Qfa xs n)=Qac (Qa9 0 Qas) acc++(Qfa xs n),n=(↑n.toNat:Int)/\Int.toNat n < List.length xs/\Array.extract (Qac Qas xs) (Int.toNat n * TypeInfo.size Tryz.t22) (Int.toNat n * TypeInfo.size Tryz.t22+TypeInfo.size Tryz.t22)=(QhL xs n)]):=by kernel_rfl
theorem Qzg (B:Lo) (s:Int) (xs:List (Row)) (n:Int) (acc:List Row) (acc_n:Nat) (dJ0:Nat->Value):CE.landA 6 (Qak Tryz.prog (Qaw Tryz.prog) J0 B 16 6 (QbX (none) 157 20 (([0,1,6,7]:List Nat).zip (QcG s xs n acc acc_n)) dJ0 QcV) (Qbx (Qbc s xs) 6 (([5,2]:List Nat).zip (QcP s xs n acc acc_n)) (Qb0 s xs n acc acc_n)) (6+1+(Qb0 s xs n acc acc_n).length)
 (QpK s xs n acc acc_n dJ0++[(5,Qai.pure (.bool true) []),(9,Qai.call (List.range 8) (OO.ret (.bool true)) ([(7,Obj.pending #[] 0),(5,Obj.loop {state:=LoopState.ready,pending:=none,fn:=121,tmps:=(Qeq s xs),params:=#[9],assign:=nav (Qan Tryz.prog 121) [1,1,0,1,0,0],body:=nav (Qan Tryz.prog 121) [1,1,0,1,0,1],defers:=4}),(2,Obj.cells #[.slice (some {block:=9,off:=0}) (acc_n+1) 1] 63)]++(8,Qbq)::QaG 9 [Obj.cells (Qac (Qa9 0 Qas) (acc++[xs.getD n.toNat default])) 22]) 10 [7,5,2]),(12,hvI (n+1))]) 0 [] []) [0,1,6,7] [(5,KS.auto),(2,KS.auto)] [(9,KS.rows [(0,0)] [] (Qac (Qa9 0 Qas) (acc++[xs.getD n.toNat default])))] []=some ⟨157,20,QcV,[],.run,none,QcG s xs (n+1) (acc++[xs.getD n.toNat default]) (acc_n+1),([5,2]:List Nat).zip (QcP s xs (n+1) (acc++[xs.getD n.toNat default]) (acc_n+1)),Qb0 s xs (n+1) (acc++[xs.getD n.toNat default]) (acc_n+1),
 [Qbi 6 [(0,0)] [] (Qac (Qa9 0 Qas) (acc++[xs.getD n.toNat default])) (Qac (Qa9 0 Qas) (acc++[xs.getD n.toNat default])),wq (n+1)=n+1,FJ Tryz.prog B (Qil s xs n acc acc_n dJ0) (QgM s xs n acc acc_n dJ0) 8 (OO.ret (.bool true)) (([(7,Obj.pending #[] 0),(5,Obj.loop {state:=LoopState.ready,pending:=none,fn:=121,tmps:=(Qeq s xs),params:=#[9],assign:=nav (Qan Tryz.prog 121) [1,1,0,1,0,0],body:=nav (Qan Tryz.prog 121) [1,1,0,1,0,1],defers:=4}),(2,Obj.cells #[.slice (some {block:=9,off:=0}) (acc_n+1) 1] 63)]++((8,Qbq)::QaG (8+1) [Obj.cells (Qac (Qa9 0 Qas) (acc++[xs.getD n.toNat default])) 22]))++QgM s xs n acc acc_n dJ0) 10 (List.range 8) [7,5,2],Qaz []/\Qao Tryz.prog J0 159 #[.int .i64 s,.int .i64 n] (.bool true)]++Qlz B s xs n acc acc_n dJ0⟩:=by kernel_rfl
theorem Qwl (B:Lo) (s:Int) (xs:List (Row)) (n:Int) (acc:List Row) (acc_n:Nat) (dJ0:Nat->Value):CE.landA 6 (Qak Tryz.prog (Qaw Tryz.prog) J0 B 16 6 (QbX (none) 157 20 (([0,1,6,7]:List Nat).zip (QcG s xs n acc acc_n)) dJ0 QcV) (Qbx (Qbc s xs) 6 (([5,2]:List Nat).zip (QcP s xs n acc acc_n)) (Qb0 s xs n acc acc_n)) (6+1+(Qb0 s xs n acc acc_n).length)
 (QpK s xs n acc acc_n dJ0++[(5,Qai.pure (.bool false) []),(12,hvI (n+1))]) 0 [] []) [0,1,6,7] [(5,KS.auto),(2,KS.auto)] [(7,KS.rows [(0,0)] [] (Qac (Qa9 0 Qas) acc))] []=some ⟨157,20,QcV,[],.run,none,QcG s xs (n+1) (acc) (acc_n),([5,2]:List Nat).zip (QcP s xs (n+1) (acc) (acc_n)),Qb0 s xs (n+1) (acc) (acc_n),
 [Qbi 6 [(0,0)] [] (Qac (Qa9 0 Qas) acc) (Qac (Qa9 0 Qas) acc),wq (n+1)=n+1,Qaz []/\Qao Tryz.prog J0 159 #[.int .i64 s,.int .i64 n] (.bool false)]++Qlz B s xs n acc acc_n dJ0⟩:=by kernel_rfl
theorem Qyx (B:Lo) (s:Int) (xs:List (Row)) (n:Int) (acc:List Row) (acc_n:Nat) (dJ0:Nat->Value):CE.finK 6 (Qak Tryz.prog (Qaw Tryz.prog) J0 B 7 6 (QbX (none) 157 20 (([0,1,6,7]:List Nat).zip (QcG s xs n acc acc_n)) dJ0 QcV) (Qbx (Qbc s xs) 6 (([5,2]:List Nat).zip (QcP s xs n acc acc_n)) (Qb0 s xs n acc acc_n)) (6+1+(Qb0 s xs n acc acc_n).length)
 [(0,hvF)] 0 [] []) [(5,KS.auto),(2,KS.auto)] [(7,KS.rows [(0,0)] [] (Qac (Qa9 0 Qas) acc))] []=some (OO.ret (.tuple #[]),[(5,Obj.loop {state:=LoopState.ready,pending:=none,fn:=121,tmps:=#[.int .i64 s,Qay 0 (slT xs.length (Qac Qas xs)),.tuple #[],pA 1 0,.slice none 0 0,pA 2 0,.tuple #[],.int .i64 s,Value.func (Fn.func 157) #[] #[Qay 3 (ptT 0 #[.int .i64 s])],.tuple #[],.tuple #[],.tuple #[],.tuple #[],.tuple #[],.tuple #[],.tuple #[],.tuple #[],.tuple #[]],params:=#[9],assign:=nav (Qan Tryz.prog 121) [1,1,0,1,0,0],body:=nav (Qan Tryz.prog 121) [1,1,0,1,0,1],defers:=4}),(2,Obj.cells #[.slice (some {block:=7,off:=0}) acc_n 1] 63)],[Obj.cells (Qac (Qa9 0 Qas) acc) 22],
 [Qbi 6 [(0,0)] [] (Qac (Qa9 0 Qas) acc) (Qac (Qa9 0 Qas) acc),ltq n (Qcs s)=false]):=by kernel_rfl
set_option maxHeartbeats 4000000 in
theorem Qjt (s:Int) (xs:List (Row)) (h0:0<=s) (h1:s < 64) (hx:Qcs s<=xs.length) {B:Lo} (hJ:∀w,B.has w->J0 w):∀m:Nat,(∀(n:Int),∀(r:Bool),(!(([]:List Row)++Qav s xs n).isEmpty)=r->(Qcs s - n).toNat=m->∀(hn:0<=n),(∃dJ0:Nat->Value,(∀t,Qbb (dJ0 t))/\GoE Tryz.prog B (Qcz s xs) (Qbc s xs) 6 (QbX (none) 157 20 (([0,1,6,7]:List Nat).zip (QcO s xs n)) dJ0 QcU) (Qbx (Qbc s xs) 6 (([5,2]:List Nat).zip (QcT s xs n)) (Qb4 s xs n)) (6+1+(Qb4 s xs n).length) ([5,2]:List Nat))->FinK Tryz.prog B (Qcz s xs) (Qbc s xs) 6 (.ret (.tuple #[])) (([5,2]:List Nat).zip ([Obj.loop {state:=LoopState.ready,pending:=none,fn:=121,tmps:=#[.int .i64 s,Qay 0 (slT xs.length (Qac Qas xs)),.tuple #[],pA 1 0,.slice none 0 0,pA 2 0,.tuple #[],.int .i64 s,Value.func (Fn.func 157) #[] #[Qay 3 (ptT 0 #[.int .i64 s])],.tuple #[],.tuple #[],.tuple #[],.tuple #[],.tuple #[],.tuple #[],.tuple #[],.tuple #[],.tuple #[]],params:=#[9],assign:=nav (Qan Tryz.prog 121) [1,1,0,1,0,0],body:=nav (Qan Tryz.prog 121) [1,1,0,1,0,1],defers:=4},.cells #[bif r then .slice (some ⟨7,0,none⟩) (([]:List Row)++Qav s xs n).length 1 else .slice none 0 0] 63 (0,0)])) (bif r then [Go.Obj.cells (Qac (Qa9 0 Qas) (([]:List Row)++Qav s xs n)) 22 (0,0)] else []) ([5,2]:List Nat))/\(∀(n:Int) (acc:List Row) (acc_n:Nat),∀(r:Bool),(!(acc++Qav s xs n).isEmpty)=r->(Qcs s - n).toNat=m->∀(hn:0<=n) (hacc:acc_n=acc.length) (haccb:acc≠[]/\(acc_n:Int)<=n),(∃dJ0:Nat->Value,(∀t,Qbb (dJ0 t))/\GoE Tryz.prog B (Qcz s xs) (Qbc s xs) 6 (QbX (none) 157 20 (([0,1,6,7]:List Nat).zip (QcG s xs n acc acc_n)) dJ0 QcV) (Qbx (Qbc s xs) 6 (([5,2]:List Nat).zip (QcP s xs n acc acc_n)) (Qb0 s xs n acc acc_n)) (6+1+(Qb0 s xs n acc acc_n).length) ([5,2]:List Nat))->FinK Tryz.prog B (Qcz s xs) (Qbc s xs) 6 (.ret (.tuple #[])) (([5,2]:List Nat).zip ([Obj.loop {state:=LoopState.ready,pending:=none,fn:=121,tmps:=#[.int .i64 s,Qay 0 (slT xs.length (Qac Qas xs)),.tuple #[],pA 1 0,.slice none 0 0,pA 2 0,.tuple #[],.int .i64 s,Value.func (Fn.func 157) #[] #[Qay 3 (ptT 0 #[.int .i64 s])],.tuple #[],.tuple #[],.tuple #[],.tuple #[],.tuple #[],.tuple #[],.tuple #[],.tuple #[],.tuple #[]],params:=#[9],assign:=nav (Qan Tryz.prog 121) [1,1,0,1,0,0],body:=nav (Qan Tryz.prog 121) [1,1,0,1,0,1],defers:=4},.cells #[bif r then .slice (some ⟨7,0,none⟩) (acc++Qav s xs n).length 1 else .slice none 0 0] 63 (0,0)])) (bif r then [Go.Obj.cells (Qac (Qa9 0 Qas) (acc++Qav s xs n)) 22 (0,0)] else []) ([5,2]:List Nat)):=by
 intro m0
 induction m0 using Nat.strongRecOn with
 | _ m0 ih0=>
   refine ⟨?_, ?_⟩
   ·intro n r1 hr1 hm0 hn ⟨dJ0,hdJ0,hg0⟩
    have hl:=Qfo h0 h1
    by_cases q0:(n:Int) < (Qcs s)
    ·
     have hp1:Qaz (QlB B s xs n dJ0):=by
      exact ⟨(Qbn q0),trivial⟩
     cases q1:QjP s n with
     | true=>
       have rj2:FJ Tryz.prog B (QhH s xs n dJ0) (QgA s xs n dJ0) 7 (OO.ret (.bool true)) (([(5,Obj.loop {state:=LoopState.ready,pending:=none,fn:=121,tmps:=#[.int .i64 s,Qay 0 (slT xs.length (Qac Qas xs)),.tuple #[],pA 1 0,.slice none 0 0,pA 2 0,.tuple #[],.int .i64 s,Value.func (Fn.func 157) #[] #[Qay 3 (ptT 0 #[.int .i64 s])],.tuple #[],.tuple #[],.tuple #[],.tuple #[],.tuple #[],.tuple #[],.tuple #[],.tuple #[],.tuple #[]],params:=#[9],assign:=nav (Qan Tryz.prog 121) [1,1,0,1,0,0],body:=nav (Qan Tryz.prog 121) [1,1,0,1,0,1],defers:=4}),(2,Obj.cells #[.slice (some {block:=8,off:=0}) 1 1] 63)]++((7,Qbq)::QaG (7+1) [Obj.cells #[Qay 0 (slT (List.length (xs.getD n.toNat default)) (Qac Qa1 (xs.getD n.toNat default)))] 22]))++QgA s xs n dJ0) 9 (List.range 7) [5,2]:=by
        have s2:=Qfk (s:=s) (xs:=xs) q0 q1
        exact FinK.fjB (GoE.finK okF hJ Qab (Qal (by kernel_rfl)) (Qaf (by kernel_rfl)) ((GoE.refl (P:=Tryz.prog) (B:=B) (c0:=QhH s xs n dJ0) (Qal (by kernel_rfl))).widen (Wf:=((([(5,KS.auto),(2,KS.auto)]):List (Nat×KS)).map (·.1))) (by simp) (Qaf (by kernel_rfl))) (Qx4 B s xs n dJ0)
         ⟨⟨by omega,by omega,(Qaj (z:=1) (fun _=> rfl) (by omega))⟩,trivial⟩) (ex:=[]) (by kernel_rfl) (Qbu _)
       have s2:=Qfk (s:=s) (xs:=xs) q0 q1
       exact ((ih0 _ (by omega)).2 (n+1) ([xs.getD n.toNat default]) (1) r1 (by (rw [<-hr1,s2];simp;done)) rfl (by omega) (by (simp_all;done)) (by (refine ⟨by simp, ?_⟩;omega))
        (GoE.landA okF hJ Qab (Qal (by kernel_rfl)) (Qaf (by kernel_rfl)) hg0 (Qx6 B s xs n dJ0)
        ⟨(by exact (QmJ (by exact ⟨(.reg (List.Mem.head _) rfl),trivial⟩))),⟨(QaV (by omega) (by omega)),⟨rj2,⟨⟨trivial,(by have t_:=Q1L (s) (n) (by omega) (by omega);rw [q1] at t_;exact t_)⟩,hp1⟩⟩⟩⟩ (by kernel_rfl) (by kernel_rfl) (fun l hl=> by cases hl <;> decide))).cast (by rfl) (by (rw [s2];rfl)) (by (rw [s2];rfl))
     | false=>
       have s2:=QhM (s:=s) (xs:=xs) q0 q1
       exact ((ih0 _ (by omega)).1 (n+1) r1 (by (rw [<-hr1,s2];done)) rfl (by omega)
        (GoE.landA okF hJ Qab (Qal (by kernel_rfl)) (Qaf (by kernel_rfl)) hg0 (Qzp B s xs n dJ0)
        ⟨(QaV (by omega) (by omega)),⟨⟨trivial,(by have t_:=Q1L (s) (n) (by omega) (by omega);rw [q1] at t_;exact t_)⟩,hp1⟩⟩ (by kernel_rfl) (by kernel_rfl) (fun l hl=> by cases hl <;> decide))).cast (by rfl) (by (rw [s2];done)) (by (rw [s2];done))
    ·
     have s2:=Qim (s:=s) (xs:=xs) (n:=n) (by omega)
     exact (GoE.finK okF hJ Qab (Qal (by kernel_rfl)) (Qaf (by kernel_rfl)) hg0 (QyQ B s xs n dJ0)
      ⟨(Qbk (Int.not_lt.1 q0)),trivial⟩).cast (by rfl) (by (subst hr1;rw [s2];rfl)) (by (subst hr1;rw [s2];rfl))
   ·intro n acc acc_n r1 hr1 hm0 hn hacc haccb ⟨dJ0,hdJ0,hg0⟩
    have hl:=Qfo h0 h1
    by_cases q0:(n:Int) < (Qcs s)
    ·
     have hp2:Qaz (Qlz B s xs n acc acc_n dJ0):=by
      exact ⟨(Qbn q0),trivial⟩
     cases q1:QjP s n with
     | true=>
       have rj2:FJ Tryz.prog B (Qil s xs n acc acc_n dJ0) (QgM s xs n acc acc_n dJ0) 8 (OO.ret (.bool true)) (([(7,Obj.pending #[] 0),(5,Obj.loop {state:=LoopState.ready,pending:=none,fn:=121,tmps:=#[.int .i64 s,Qay 0 (slT xs.length (Qac Qas xs)),.tuple #[],pA 1 0,.slice none 0 0,pA 2 0,.tuple #[],.int .i64 s,Value.func (Fn.func 157) #[] #[Qay 3 (ptT 0 #[.int .i64 s])],.tuple #[],.tuple #[],.tuple #[],.tuple #[],.tuple #[],.tuple #[],.tuple #[],.tuple #[],.tuple #[]],params:=#[9],assign:=nav (Qan Tryz.prog 121) [1,1,0,1,0,0],body:=nav (Qan Tryz.prog 121) [1,1,0,1,0,1],defers:=4}),(2,Obj.cells #[.slice (some {block:=9,off:=0}) (acc_n+1) 1] 63)]++((8,Qbq)::QaG (8+1) [Obj.cells (Qac (Qa9 0 Qas) (acc++[xs.getD n.toNat default])) 22]))++QgM s xs n acc acc_n dJ0) 10 (List.range 8) [7,5,2]:=by
        have s2:=Qfk (s:=s) (xs:=xs) q0 q1
        exact FinK.fjB (GoE.finK okF hJ Qab (Qal (by kernel_rfl)) (Qaf (by kernel_rfl)) ((GoE.refl (P:=Tryz.prog) (B:=B) (c0:=Qil s xs n acc acc_n dJ0) (Qal (by kernel_rfl))).widen (Wf:=((([(7,KS.dead),(5,KS.auto),(2,KS.auto)]):List (Nat×KS)).map (·.1))) (by simp) (Qaf (by kernel_rfl))) (Qy3 B s xs n acc acc_n dJ0)
         ⟨(by exact (Qmo (Qb1 (Qbt (fun _=> rfl)) (List.Mem.head _)) (by exact ⟨(.reg (List.Mem.head _) rfl),trivial⟩))),⟨⟨(by (rw [Qdk (z:=1) (fun _=> rfl)];first | omega | (simp;omega) | (simp_all;done))),(by unfold maxLen;omega),by omega,rfl⟩,⟨⟨by omega,by omega,(Qaj (z:=1) (fun _=> rfl) (by omega))⟩,trivial⟩⟩⟩) (ex:=[7]) (by kernel_rfl) ⟨trivial,⟨trivial,⟨trivial,⟨(QeG (t:=22) (fl:=(0,0)) (Qbt (fun _=> rfl)) (by decide)),⟨trivial,⟨trivial,⟨trivial,⟨trivial,⟨trivial,⟨trivial,trivial⟩⟩⟩⟩⟩⟩⟩⟩⟩⟩
       have s2:=Qfk (s:=s) (xs:=xs) q0 q1
       exact ((ih0 _ (by omega)).2 (n+1) (acc++[xs.getD n.toNat default]) (acc_n+1) r1 (by (rw [<-hr1,s2];simp;done)) rfl (by omega) (by (simp_all;done)) (by (simp_all;done))
        (GoE.landA okF hJ Qab (Qal (by kernel_rfl)) (Qaf (by kernel_rfl)) hg0 (Qzg B s xs n acc acc_n dJ0)
        ⟨(by exact (Qb1 (Qbt (fun _=> rfl)) (List.Mem.head _))),⟨(QaV (by omega) (by omega)),⟨rj2,⟨⟨trivial,(by have t_:=Q1L (s) (n) (by omega) (by omega);rw [q1] at t_;exact t_)⟩,hp2⟩⟩⟩⟩ (by kernel_rfl) (by kernel_rfl) (fun l hl=> by cases hl <;> decide))).cast (by rfl) (by (rw [s2,<-List.append_assoc];done)) (by (rw [s2,<-List.append_assoc];done))
     | false=>
       have s2:=QhM (s:=s) (xs:=xs) q0 q1
       exact ((ih0 _ (by omega)).2 (n+1) (acc) (acc_n) r1 (by (rw [<-hr1,s2];done)) rfl (by omega) (by with_reducible assumption) (by exact ⟨haccb.1,by omega⟩)
        (GoE.landA okF hJ Qab (Qal (by kernel_rfl)) (Qaf (by kernel_rfl)) hg0 (Qwl B s xs n acc acc_n dJ0)
        ⟨(by exact (Qb1 (Qbt (fun _=> rfl)) (List.Mem.head _))),⟨(QaV (by omega) (by omega)),⟨⟨trivial,(by have t_:=Q1L (s) (n) (by omega) (by omega);rw [q1] at t_;exact t_)⟩,hp2⟩⟩⟩ (by kernel_rfl) (by kernel_rfl) (fun l hl=> by cases hl <;> decide))).cast (by rfl) (by (rw [s2];done)) (by (rw [s2];done))
    ·
     have s2:=Qim (s:=s) (xs:=xs) (n:=n) (by omega)
     exact (GoE.finK okF hJ Qab (Qal (by kernel_rfl)) (Qaf (by kernel_rfl)) hg0 (Qyx B s xs n acc acc_n dJ0)
      ⟨(by exact (Qb1 (Qbt (fun _=> rfl)) (List.Mem.head _))),⟨(Qbk (Int.not_lt.1 q0)),trivial⟩⟩).cast (by rfl) (by (subst hr1;simp only [Q0e haccb.1,s2,List.append_nil,hacc,Bool.not_false,cond_true];rfl)) (by (subst hr1;simp only [Q0e haccb.1,s2,List.append_nil,hacc,Bool.not_false,cond_true];done))

theorem Qxp (B:Lo) (s:Int) (xs:List (Row)):CE.landA 6 (Qak Tryz.prog (Qaw Tryz.prog) J0 B 4 6 (Qcz s xs) (Qbc s xs) 6
 [(1,Qai.old (Hint.val (Value.int IntKind.u64 s))),(2,Qai.pure (.int .i64 (Qcs s)) [])] 0 [] []) [0,1,6,7] [(5,KS.auto),(2,KS.auto)] [] []=some ⟨157,20,QcU,[],.run,none,QcO s xs (0),([5,2]:List Nat).zip (QcT s xs (0)),Qb4 s xs (0),
 [Qaz []/\Qao Tryz.prog J0 158 #[Value.int IntKind.u64 s] (.int .i64 (Qcs s)),IntKind.wrap IntKind.u64 s=s]⟩:=by kernel_rfl
theorem Qvr (B:Lo) (s:Int) (xs:List (Row)):QaK (Qak Tryz.prog (Qaw Tryz.prog) J0 B 16 1 (Qae Tryz.prog 121 18 (([.int .i64 s,slT xs.length (Qac Qas xs)]).map (Qam 0 4))) H00 1
 (Qp5 s xs++[(5,Qai.call (List.range 6) (OO.ret (.tuple #[])) ([(5,Obj.loop {state:=LoopState.ready,pending:=none,fn:=121,tmps:=(Qeq s xs),params:=#[9],assign:=nav (Qan Tryz.prog 121) [1,1,0,1,0,0],body:=nav (Qan Tryz.prog 121) [1,1,0,1,0,1],defers:=4}),(2,Obj.cells #[.slice (some {block:=7,off:=0}) (List.length ([]++Qav s xs 0)) 1] 63)]++(6,Qbq)::QaG 7 [Obj.cells (Qac (Qa9 0 Qas) ([]++Qav s xs 0)) 22]) 8 [5,2])]) 0 [] []) [{k:=7,rs:=[0],cs:=Qac Qas ([]++Qav s xs 0)}]=some (slT (List.length ([]++Qav s xs 0)) (Fz.cs {k:=7,rs:=[0],cs:=Qac Qas ([]++Qav s xs 0)}),
 [Qct (Fz.rs {k:=7,rs:=[0],cs:=Qac Qas ([]++Qav s xs 0)}) (Qac (Qa9 0 Qas) ([]++Qav s xs 0)) (Fz.cs {k:=7,rs:=[0],cs:=Qac Qas ([]++Qav s xs 0)}),FJ Tryz.prog B (Qcz s xs) (Qbc s xs) 6 (OO.ret (.tuple #[])) (([(5,Obj.loop {state:=LoopState.ready,pending:=none,fn:=121,tmps:=(Qeq s xs),params:=#[9],assign:=nav (Qan Tryz.prog 121) [1,1,0,1,0,0],body:=nav (Qan Tryz.prog 121) [1,1,0,1,0,1],defers:=4}),(2,Obj.cells #[.slice (some {block:=7,off:=0}) (List.length ([]++Qav s xs 0)) 1] 63)]++((6,Qbq)::QaG (6+1) [Obj.cells (Qac (Qa9 0 Qas) ([]++Qav s xs 0)) 22]))++Qbc s xs) 8 (List.range 6) [5,2]]++QkP B s xs):=by kernel_rfl
theorem QvA (B:Lo) (s:Int) (xs:List (Row)):CE.landA 6 (Qak Tryz.prog (Qaw Tryz.prog) J0 B 4 6 (Qcz s xs) (Qbc s xs) 6
 [(1,Qai.old (Hint.val (Value.int IntKind.u64 s))),(2,Qai.pure (.int .i64 (Qcs s)) [])] 0 [] []) [0,1,6,7] [(5,KS.auto),(2,KS.auto)] [] []=some ⟨157,20,QcU,[],.run,none,QcO s xs (0),([5,2]:List Nat).zip (QcT s xs (0)),Qb4 s xs (0),
 [Qaz []/\Qao Tryz.prog J0 158 #[Value.int IntKind.u64 s] (.int .i64 (Qcs s)),IntKind.wrap IntKind.u64 s=s]⟩:=by kernel_rfl
theorem Qv5 (B:Lo) (s:Int) (xs:List (Row)):QaK (Qak Tryz.prog (Qaw Tryz.prog) J0 B 16 1 (Qae Tryz.prog 121 18 (([.int .i64 s,slT xs.length (Qac Qas xs)]).map (Qam 0 4))) H00 1
 (Qp5 s xs++[(5,Qai.call (List.range 6) (OO.ret (.tuple #[])) ([(5,Obj.loop {state:=LoopState.ready,pending:=none,fn:=121,tmps:=(Qeq s xs),params:=#[9],assign:=nav (Qan Tryz.prog 121) [1,1,0,1,0,0],body:=nav (Qan Tryz.prog 121) [1,1,0,1,0,1],defers:=4}),(2,Obj.cells #[.slice none 0 0] 63)]++(6,Qbq)::QaG 7 []) 7 [5,2])]) 0 [] []) []=some (slT 0 #[],
 [FJ Tryz.prog B (Qcz s xs) (Qbc s xs) 6 (OO.ret (.tuple #[])) (([(5,Obj.loop {state:=LoopState.ready,pending:=none,fn:=121,tmps:=(Qeq s xs),params:=#[9],assign:=nav (Qan Tryz.prog 121) [1,1,0,1,0,0],body:=nav (Qan Tryz.prog 121) [1,1,0,1,0,1],defers:=4}),(2,Obj.cells #[.slice none 0 0] 63)]++((6,Qbq)::QaG (6+1) []))++Qbc s xs) 7 (List.range 6) [5,2]]++QkP B s xs):=by kernel_rfl
set_option maxHeartbeats 4000000 in
theorem Q0M (s:Int) (xs:List (Row)) (h0:0<=s) (h1:s < 64) (hx:Qcs s<=xs.length) {B:Lo} (hJ:∀w,B.has w->J0 w):EndsT Tryz.prog B (Qae Tryz.prog 121 18 (([.int .i64 s,slT xs.length (Qac Qas xs)]).map (Qam 0 4))) (slT (Qav s xs 0).length (Qac Qas (Qav s xs 0))):=by
 have hl:=Qfo h0 h1
 have rj0:FJ Tryz.prog B (Qir s xs) (QgG s xs) 3 (OO.ret (Value.func (Fn.func 157) #[] #[Qay 3 (ptT 0 #[.int .i64 s])])) (([]++((3,Qbq)::QaG (3+1) []))++QgG s xs) 4 (List.range 3) []:=by
  exact FinK.fjB (GoE.finK okF hJ Qab (Qal (by kernel_rfl)) (Qaf (by kernel_rfl)) ((GoE.refl (P:=Tryz.prog) (B:=B) (c0:=Qir s xs) (Qal (by kernel_rfl))).widen (Wf:=((([]):List (Nat×KS)).map (·.1))) (by simp) (Qaf (by kernel_rfl))) (Qxm B s xs)
   ⟨(QfR (by kernel_rfl)),trivial⟩) (ex:=[]) (by kernel_rfl) (Qbu _)
 have hp0:Qaz (QkP B s xs):=by
  exact ⟨rj0,trivial⟩
 cases q0: !List.isEmpty ([]++Qav s xs 0) with
 | true=>
   have rj1:FJ Tryz.prog B (Qcz s xs) (Qbc s xs) 6 (OO.ret (.tuple #[])) (([(5,Obj.loop {state:=LoopState.ready,pending:=none,fn:=121,tmps:=#[.int .i64 s,Qay 0 (slT xs.length (Qac Qas xs)),.tuple #[],pA 1 0,.slice none 0 0,pA 2 0,.tuple #[],.int .i64 s,Value.func (Fn.func 157) #[] #[Qay 3 (ptT 0 #[.int .i64 s])],.tuple #[],.tuple #[],.tuple #[],.tuple #[],.tuple #[],.tuple #[],.tuple #[],.tuple #[],.tuple #[]],params:=#[9],assign:=nav (Qan Tryz.prog 121) [1,1,0,1,0,0],body:=nav (Qan Tryz.prog 121) [1,1,0,1,0,1],defers:=4}),(2,Obj.cells #[.slice (some {block:=7,off:=0}) (List.length ([]++Qav s xs 0)) 1] 63)]++((6,Qbq)::QaG (6+1) [Obj.cells (Qac (Qa9 0 Qas) ([]++Qav s xs 0)) 22]))++Qbc s xs) 8 (List.range 6) [5,2]:=by
    exact FinK.fjB ((Qjt s xs h0 h1 hx hJ _).1 (0) true q0 rfl (by omega)
     (GoE.landA okF hJ Qab (Qal (by kernel_rfl)) (Qaf (by kernel_rfl)) ((GoE.refl (P:=Tryz.prog) (B:=B) (c0:=Qcz s xs) (Qal (by kernel_rfl))).widen (Wf:=((([(5,KS.auto),(2,KS.auto)]):List (Nat×KS)).map (·.1))) (by simp) (Qaf (by kernel_rfl))) (Qxp B s xs)
     ⟨⟨trivial,Q4D (s) (by with_reducible assumption) (by with_reducible assumption)⟩,⟨(IntWalk.u64_in _ ⟨by omega,by omega⟩),trivial⟩⟩ (by kernel_rfl) (by kernel_rfl) (fun l hl=> by cases hl <;> decide))) (ex:=[]) (by kernel_rfl) (Qbu _)
   exact (GoE.endsT okF hJ Qab GoE.start (Qvr B s xs)
    ⟨(Qe0 (Qbt (fun _=> rfl)) (List.Mem.head _)),⟨rj1,hp0⟩⟩).cast (by rfl)
 | false=>
   have rj1:FJ Tryz.prog B (Qcz s xs) (Qbc s xs) 6 (OO.ret (.tuple #[])) (([(5,Obj.loop {state:=LoopState.ready,pending:=none,fn:=121,tmps:=#[.int .i64 s,Qay 0 (slT xs.length (Qac Qas xs)),.tuple #[],pA 1 0,.slice none 0 0,pA 2 0,.tuple #[],.int .i64 s,Value.func (Fn.func 157) #[] #[Qay 3 (ptT 0 #[.int .i64 s])],.tuple #[],.tuple #[],.tuple #[],.tuple #[],.tuple #[],.tuple #[],.tuple #[],.tuple #[],.tuple #[]],params:=#[9],assign:=nav (Qan Tryz.prog 121) [1,1,0,1,0,0],body:=nav (Qan Tryz.prog 121) [1,1,0,1,0,1],defers:=4}),(2,Obj.cells #[.slice none 0 0] 63)]++((6,Qbq)::QaG (6+1) []))++Qbc s xs) 7 (List.range 6) [5,2]:=by
    exact FinK.fjB ((Qjt s xs h0 h1 hx hJ _).1 (0) false q0 rfl (by omega)
     (GoE.landA okF hJ Qab (Qal (by kernel_rfl)) (Qaf (by kernel_rfl)) ((GoE.refl (P:=Tryz.prog) (B:=B) (c0:=Qcz s xs) (Qal (by kernel_rfl))).widen (Wf:=((([(5,KS.auto),(2,KS.auto)]):List (Nat×KS)).map (·.1))) (by simp) (Qaf (by kernel_rfl))) (QvA B s xs)
     ⟨⟨trivial,Q4D (s) (by with_reducible assumption) (by with_reducible assumption)⟩,⟨(IntWalk.u64_in _ ⟨by omega,by omega⟩),trivial⟩⟩ (by kernel_rfl) (by kernel_rfl) (fun l hl=> by cases hl <;> decide))) (ex:=[]) (by kernel_rfl) (Qbu _)
   exact (GoE.endsT okF hJ Qab GoE.start (Qv5 B s xs)
    ⟨rj1,hp0⟩).cast (by (rw [Q4h q0];rfl))
theorem Q4m (s:Int) (xs:List (Row)) (h0:0<=s) (h1:s < 64) (hx:Qcs s<=xs.length):Qao Tryz.prog J0 121 #[.int .i64 s,slT xs.length (Qac Qas xs)] (slT (Qav s xs 0).length (Qac Qas (Qav s xs 0))):=
 Qa8 (ts:=[.int .i64 s,slT xs.length (Qac Qas xs)]) Qbr (c0:=Qae Tryz.prog 121 18 (([.int .i64 s,slT xs.length (Qac Qas xs)]).map (Qam 0 4))) (by kernel_rfl) (by kernel_rfl) fun B hJ=> Q0M s xs h0 h1 hx hJ
end
end Go.Proofs.YtiabgkiccaodmaaGreat

namespace Go.Proofs.YtiabgkiccaodmaaGreat
open Go Go.CE Go.RowKit
set_option maxRecDepth 100000
def QfU {α β:Type} (f:α->β) (x0:β) (xs:List α) (i:Int):List β:=(xs.take i.toNat).map f++List.replicate (xs.length - i.toNat) x0
theorem Qfq {α β:Type} {f:α->β} {x0:β} {xs:List α}:List.replicate xs.length x0=QfU f x0 xs 0:=by simp [QfU]
theorem Qdl {α β:Type} {f:α->β} {x0:β} {xs:List α} {i:Int}:(QfU f x0 xs i).length=xs.length:=by simp [QfU];omega
theorem Qdh {α β:Type} [Inhabited α] {f:α->β} {x0:β} {xs:List α} {i:Int} (h0:0<=i) (h:i < xs.length):(QfU f x0 xs i).set i.toNat (f (xs.getD i.toNat default))=QfU f x0 xs (i+1):=by
 obtain ⟨k,rfl⟩:∃k:Nat,i=k:=⟨i.toNat,by omega⟩
 have hk:k < xs.length:=by omega
 have e1:((k:Int)).toNat=k:=by omega
 have e2:((k:Int)+1).toNat=k+1:=by omega
 unfold QfU
 rw [e1,e2]
 have hl:((xs.take k).map f).length=k:=by simp;omega
 rw [List.set_append_right _ _ (by omega),hl,Nat.sub_self]
 have er:xs.length - k=(xs.length - (k+1))+1:=by omega
 rw [er,List.replicate_succ,List.set_cons_zero]
 have et:xs.take (k+1)=xs.take k++[xs[k]]:=by rw [List.take_succ_eq_append_getElem hk]
 rw [et,List.map_append,List.append_assoc]
 simp [List.getD_eq_getElem?_getD,hk]
theorem Qda {α β:Type} {f:α->β} {x0:β} {xs:List α} {i:Int} (h:xs.length<=i):QfU f x0 xs i=xs.map f:=by
 unfold QfU
 rw [List.take_of_length_le (by omega),show xs.length - i.toNat=0 by omega]
 simp
theorem QeM {β:Type} {e:β->List Value} {ys zs:List β} {n:Nat} (h:ys=zs) (hn:n=zs.length):slT n (Qac e ys)=slT zs.length (Qac e zs):=by subst h hn;rfl
def Qgq (xs:List Qag) (i:Int) (ys:List Int):List Value:=[Value.func (Fn.func 140) #[] #[],.slice (some {block:=2,off:=0}) xs.length 1,Qay 1 (slT xs.length (Qac Qaq xs)),.int .i64 (↑xs.length:Int),.int .i64 i]
def Qem (xs:List Qag) (i:Int) (ys:List Int):List Obj:=[.cells (Qac Qa1 ys) 3 (0,0)]
noncomputable def Qg4:List Item:=([.code [1,1,0,1,0,0],.inLoop [1,1,0,1,0,0],.inBlock 0,.code [1,1,1]]).map (it (Qan Tryz.prog 92))
def Qwo (B:Lo) (c0:CF) (xs:List Qag) (i:Int) (ys:List Int):Prop:=∃dJ:Nat->Value,(∀t,Qbb (dJ t))/\GoE Tryz.prog B c0 H00 1 (Qa4 92 26 (([1,5,11,12,13]:List Nat).zip (Qgq xs i ys)) dJ Qg4) (Qa3 (Qem xs i ys)) (2+(Qem xs i ys).length) []
noncomputable def Qgs (xs:List Qag) (i:Int) (ys:List Int) (dJ0:Nat->Value):Qar:=[(3,Obj.cells #[Qay 1 (slT (List.length (Qag.goods (xs.getD i.toNat default))) (Qac QaD (Qag.goods (xs.getD i.toNat default)))),.int .i64 (Qag.weight (xs.getD i.toNat default)),.int .i64 (Qag.cost (xs.getD i.toNat default))] 118),(0,Obj.coro none),(1,Obj.coro none),(2,Obj.cells (Qac Qa1 ys) 3)]
noncomputable def QhD (xs:List Qag) (i:Int) (ys:List Int) (dJ0:Nat->Value):CF:=⟨140,ofList 5 [.agg #[Qay 1 (slT (List.length (Qag.goods (xs.getD i.toNat default))) (Qac QaD (Qag.goods (xs.getD i.toNat default)))),.int .i64 (Qag.weight (xs.getD i.toNat default)),.int .i64 (Qag.cost (xs.getD i.toNat default))]],[Item.code (Qan Tryz.prog 140)],[],.run,none⟩
theorem Qz0 (B:Lo) (xs:List Qag) (i:Int) (ys:List Int) (dJ0:Nat->Value):CE.finK 4 (Qak Tryz.prog (Qaw Tryz.prog) J0 B 6 4 (QhD xs i ys dJ0) (Qgs xs i ys dJ0) 4
 [] 0 [] []) [] [] []=some (OO.ret (.int .i64 (Qag.weight (xs.getD i.toNat default))),[],[],
 []):=by kernel_rfl
theorem Qx5 (B:Lo) (xs:List Qag) (i:Int) (ys:List Int) (dJ0:Nat->Value):landM (Qak Tryz.prog (Qaw Tryz.prog) J0 B 13 1 (Qa4 92 26 (([1,5,11,12,13]:List Nat).zip (Qgq xs i ys)) dJ0 Qg4) (Qa3 (Qem xs i ys)) (2+(Qem xs i ys).length)
 [(0,hvT),(2,Qai.tidx i.toNat #[slT (List.length (Qag.goods (xs.getD i.toNat default))) (Qac QaD (Qag.goods (xs.getD i.toNat default))),.int .i64 (Qag.weight (xs.getD i.toNat default)),.int .i64 (Qag.cost (xs.getD i.toNat default))]),(11,Qai.call (List.range 4) (OO.ret (.int .i64 (Qag.weight (xs.getD i.toNat default)))) ([]++(4,Qbq)::QaG 5 []) 5 []),(12,Qai.old (Hint.idx i.toNat)),(13,Qai.old (Hint.st (Qac Qa1 (List.set ys i.toNat (Qag.weight (xs.getD i.toNat default)))))),(14,hvI (i+1))] 0 [] []) [1,5,11,12,13] [(2,KS.cells [] (Qac Qa1 (List.set ys i.toNat (Qag.weight (xs.getD i.toNat default)))))] []=some ⟨92,26,Qg4,[],.run,none,Qgq xs (i+1) (List.set ys i.toNat (Qag.weight (xs.getD i.toNat default))),Qem xs (i+1) (List.set ys i.toNat (Qag.weight (xs.getD i.toNat default))),
 [QeR 1 [] (Qac Qa1 (List.set ys i.toNat (Qag.weight (xs.getD i.toNat default)))) (Qac Qa1 (List.set ys i.toNat (Qag.weight (xs.getD i.toNat default)))),wq (i+1)=i+1,0+Int.toNat i * 1+TypeInfo.size Tryz.t3<=Array.size (Qac Qa1 ys)/\splice (Qac Qa1 ys) (0+Int.toNat i * 1) (Value.cells (QbR {len:=16000,tr:=Tri.set 14 (Tri.set 14 Tri.lf 22 (.int .i64 (Qag.weight (xs.getD i.toNat default)))) 23 (.pointer (some {block:=2,off:=0+Int.toNat i * 1}))} 22))=Qac Qa1 (List.set ys i.toNat (Qag.weight (xs.getD i.toNat default))),i=(↑i.toNat:Int)/\Int.toNat i < List.length xs,FJ Tryz.prog B (QhD xs i ys dJ0) (Qgs xs i ys dJ0) 4 (OO.ret (.int .i64 (Qag.weight (xs.getD i.toNat default)))) (([]++((4,Qbq)::QaG (4+1) []))++Qgs xs i ys dJ0) 5 (List.range 4) [],i=(↑i.toNat:Int)/\Int.toNat i < List.length xs/\Array.extract (Qac Qaq xs) (Int.toNat i * TypeInfo.size Tryz.t118) (Int.toNat i * TypeInfo.size Tryz.t118+TypeInfo.size Tryz.t118)=#[slT (List.length (Qag.goods (xs.getD i.toNat default))) (Qac QaD (Qag.goods (xs.getD i.toNat default))),.int .i64 (Qag.weight (xs.getD i.toNat default)),.int .i64 (Qag.cost (xs.getD i.toNat default))],ltq i (↑xs.length:Int)=true]⟩:=by kernel_rfl
theorem Qw2 (B:Lo) (xs:List Qag) (i:Int) (ys:List Int) (dJ0:Nat->Value):QaK (Qak Tryz.prog (Qaw Tryz.prog) J0 B 9 1 (Qa4 92 26 (([1,5,11,12,13]:List Nat).zip (Qgq xs i ys)) dJ0 Qg4) (Qa3 (Qem xs i ys)) (2+(Qem xs i ys).length)
 [(0,hvF)] 0 [] []) [{k:=2,rs:=[],cs:=Qac Qa1 ys}]=some (slT xs.length (Fz.cs {k:=2,rs:=[],cs:=Qac Qa1 ys}),
 [Qct (Fz.rs {k:=2,rs:=[],cs:=Qac Qa1 ys}) (Qac Qa1 ys) (Fz.cs {k:=2,rs:=[],cs:=Qac Qa1 ys}),ltq i (↑xs.length:Int)=false]):=by kernel_rfl
theorem QwL (B:Lo) (xs:List Qag):landM (Qak Tryz.prog (Qaw Tryz.prog) J0 B 9 1 (Qae Tryz.prog 92 26 (([slT xs.length (Qac Qaq xs),.func (.func 140) #[] #[]]).map (Qam 0 4))) H00 1
 [(3,Qai.old (Hint.mk xs.length (Qac (Qb5 [.int .i64 0]) (List.replicate xs.length ()))))] 0 [] []) [1,5,11,12,13] [(1,KS.rows [] [] (Qac Qa1 (List.replicate xs.length 0)))] []=some ⟨92,26,Qg4,[],.run,none,Qgq xs (0) (List.replicate xs.length 0),Qem xs (0) (List.replicate xs.length 0),
 [Qbi 1 [] [] (Qac (Qb5 [.int .i64 0]) (List.replicate xs.length ())) (Qac Qa1 (List.replicate xs.length 0)),Qf6 Tryz.prog 22 (QbR {len:=16000,tr:=Tri.set 14 Tri.lf 9 (.int .i64 (↑xs.length:Int))} 9) (QbR {len:=16000,tr:=Tri.set 14 Tri.lf 9 (.int .i64 (↑xs.length:Int))} 9)=some (3,Qac (Qb5 [.int .i64 0]) (List.replicate xs.length ()),List.length xs,TypeInfo.size Tryz.t3)]⟩:=by kernel_rfl
set_option maxHeartbeats 4000000 in
theorem QyM (xs:List Qag) (hn:xs.length<=1000000) {B:Lo} (hJ:∀w,B.has w->J0 w) {c0:CF}:∀m:Nat,(∀(i:Int) (ys:List Int),(xs.length - i.toNat)=m->∀(h0:0<=i) (hy:ys=QfU Qag.weight 0 xs i),Qwo B c0 xs i ys->EndsT Tryz.prog B c0 (slI (xs.map Qag.weight))):=by
 intro m0
 induction m0 using Nat.strongRecOn with
 | _ m0 ih0=>
   intro i ys hm0 h0 hy ⟨dJ0,hdJ0,hg0⟩
   have hyl:ys.length=xs.length:=by rw [hy];exact Qdl
   by_cases q0:(i:Int) < ((↑xs.length:Int))
   ·
    have rj0:FJ Tryz.prog B (QhD xs i ys dJ0) (Qgs xs i ys dJ0) 4 (OO.ret (.int .i64 (Qag.weight (xs.getD i.toNat default)))) (([]++((4,Qbq)::QaG (4+1) []))++Qgs xs i ys dJ0) 5 (List.range 4) []:=by
     exact FinK.fjB (GoE.finK okF hJ Qab (Qal (by kernel_rfl)) (Qaf (by kernel_rfl)) ((GoE.refl (P:=Tryz.prog) (B:=B) (c0:=QhD xs i ys dJ0) (Qal (by kernel_rfl))).widen (Wf:=((([]):List (Nat×KS)).map (·.1))) (by simp) (Qaf (by kernel_rfl))) (Qz0 B xs i ys dJ0)
      trivial) (ex:=[2]) (by kernel_rfl) ⟨trivial,⟨trivial,⟨trivial,⟨(QtE (t:=3) (fl:=(0,0)) (fun x=> List.all_eq_true.1 (by rfl))),trivial⟩⟩⟩⟩
    exact ((ih0 _ (by omega)) (i+1) (List.set ys i.toNat (Qag.weight (xs.getD i.toNat default))) rfl (by omega) (by (subst hy;exact Qdh h0 q0))
     (hg0.landM okF hJ Qab (Qx5 B xs i ys dJ0)
     ⟨(QaY (Qbj (fun x=> List.all_eq_true.1 (by rfl)))),⟨(QaV (by omega) (by omega)),⟨(by exact Qfb (z:=1) (fun _=> rfl) (by omega) rfl rfl),⟨⟨by omega,by omega⟩,⟨rj0,⟨⟨by omega,by omega,(Qaj (z:=3) (fun _=> rfl) (by omega))⟩,⟨(Qbn q0),trivial⟩⟩⟩⟩⟩⟩⟩ (by kernel_rfl) (by kernel_rfl))).cast (by rfl)
   ·
    exact (GoE.endsT okF hJ Qab hg0 (Qw2 B xs i ys dJ0)
     ⟨(Qcg (fun x=> List.all_eq_true.1 (by rfl))),⟨(Qbk (Int.not_lt.1 q0)),trivial⟩⟩).cast (by exact QeM (hy.trans (Qda (by omega))) (by simp))
set_option maxHeartbeats 4000000 in
theorem Q1y (xs:List Qag) (hn:xs.length<=1000000) {B:Lo} (hJ:∀w,B.has w->J0 w):EndsT Tryz.prog B (Qae Tryz.prog 92 26 (([slT xs.length (Qac Qaq xs),.func (.func 140) #[] #[]]).map (Qam 0 4))) (slI (xs.map Qag.weight)):=by
 exact ((QyM xs hn hJ _) (0) (List.replicate xs.length 0) rfl (by omega) (by exact Qfq)
  (GoE.start.landM okF hJ Qab (QwL B xs)
  ⟨(by exact (QbA (by exact ⟨(.simple rfl),trivial⟩) _)),⟨(QfE (bytes:=8) (by kernel_rfl) (by omega) (by omega) (by omega)),trivial⟩⟩ (by kernel_rfl) (by kernel_rfl))).cast (by rfl)
theorem Q3V (xs:List Qag) (hn:xs.length<=1000000):Qao Tryz.prog J0 92 #[slT xs.length (Qac Qaq xs),.func (.func 140) #[] #[]] (slI (xs.map Qag.weight)):=
 Qa8 (ts:=[slT xs.length (Qac Qaq xs),.func (.func 140) #[] #[]]) Qbr (c0:=Qae Tryz.prog 92 26 (([slT xs.length (Qac Qaq xs),.func (.func 140) #[] #[]]).map (Qam 0 4))) (by kernel_rfl) (by kernel_rfl) fun B hJ=> Q1y xs hn hJ
end Go.Proofs.YtiabgkiccaodmaaGreat

namespace Go.Proofs.YtiabgkiccaodmaaGreat
open Go Go.CE Go.RowKit
noncomputable section
set_option maxRecDepth 100000
structure Qaa where
 stock:List Int
 use:List Span
 glo:Int
 ghi:Int
 lots:List Qag
 hold:Int
deriving Inhabited
abbrev Q4U (xs:List Qag):Value:=slT xs.length (Qac Qaq xs)
def Qah (s:Qaa):List Value:=[slI s.stock,Qms s.use,.int .i64 s.glo,.int .i64 s.ghi,Q4U s.lots,.int .i64 s.hold]
def QcE (xs:List Span) (most:Int):Bool:=xs.all (fun s=> Qb6 s.lo s.hi 0 most)
def QmE (k:Nat) (l:Qag):Bool:=decide (l.goods.length=k) && (QcE l.goods 100000 && (inB l.weight 0 100000 && inB l.cost 0 1000000))
def QpZ (s:Qaa):Bool:=decide (s.lots.length<=6) && s.lots.all (QmE s.stock.length)
def Qa0 (s:Qaa):Bool:=inB s.stock.length 1 4 && (s.stock.all (fun x=> inB x 0 100000) && (decide (s.use.length=s.stock.length) && (QcE s.use 1000 && (Qb6 s.glo s.ghi 1 60 && (QpZ s && inB s.hold 0 100000)))))
theorem Qzl (B:Lo) (a b:Int):QaK (Qak Tryz.prog (Qaw Tryz.prog) J0 B 6 1 (Qae Tryz.prog 75 5 (([.agg #[.int .i64 a,.int .i64 b]]).map (Qam 0 4))) H00 1
 [(3,Qai.pure (.bool true) [])] 0 [] []) []=some (.bool true,
 [Qaz []/\Qao Tryz.prog J0 109 #[.agg #[.int .i64 a,.int .i64 b],.int .i64 1,.int .i64 60] (.bool true)]):=by kernel_rfl
theorem Qyg (B:Lo) (a b:Int):QaK (Qak Tryz.prog (Qaw Tryz.prog) J0 B 6 1 (Qae Tryz.prog 75 5 (([.agg #[.int .i64 a,.int .i64 b]]).map (Qam 0 4))) H00 1
 [(3,Qai.pure (.bool false) [])] 0 [] []) []=some (.bool false,
 [Qaz []/\Qao Tryz.prog J0 109 #[.agg #[.int .i64 a,.int .i64 b],.int .i64 1,.int .i64 60] (.bool false)]):=by kernel_rfl
set_option maxHeartbeats 4000000 in
theorem Q0q (a b:Int)  {B:Lo} (hJ:∀w,B.has w->J0 w):EndsT Tryz.prog B (Qae Tryz.prog 75 5 (([.agg #[.int .i64 a,.int .i64 b]]).map (Qam 0 4))) (.bool (Qb6 a b 1 60)):=by
 cases q0:Qb6 a b 1 60 with
 | true=>
   exact (GoE.endsT okF hJ Qab GoE.start (Qzl B a b)
    ⟨⟨trivial,(by have t_:=QhX (a) (b) (1) (60);rw [q0] at t_;exact t_)⟩,trivial⟩).cast (by rfl)
 | false=>
   exact (GoE.endsT okF hJ Qab GoE.start (Qyg B a b)
    ⟨⟨trivial,(by have t_:=QhX (a) (b) (1) (60);rw [q0] at t_;exact t_)⟩,trivial⟩).cast (by rfl)
theorem Q1M (a b:Int)  :Qao Tryz.prog J0 75 #[.agg #[.int .i64 a,.int .i64 b]] (.bool (Qb6 a b 1 60)):=
 Qa8 (ts:=[.agg #[.int .i64 a,.int .i64 b]]) Qbr (c0:=Qae Tryz.prog 75 5 (([.agg #[.int .i64 a,.int .i64 b]]).map (Qam 0 4))) (by kernel_rfl) (by kernel_rfl) fun B hJ=> Q0q a b  hJ
theorem QqA (B:Lo) (n:Int):QaK (Qak Tryz.prog (Qaw Tryz.prog) J0 B 6 1 (Qae Tryz.prog 114 5 (([.int .i64 n]).map (Qam 0 4))) H00 1
 [(2,Qai.pure (.bool true) [])] 0 [] []) []=some (.bool true,
 [Qaz []/\Qao Tryz.prog J0 76 #[.int .i64 n,.int .i64 0,.int .i64 100000] (.bool true)]):=by kernel_rfl
theorem QoI (B:Lo) (n:Int):QaK (Qak Tryz.prog (Qaw Tryz.prog) J0 B 6 1 (Qae Tryz.prog 114 5 (([.int .i64 n]).map (Qam 0 4))) H00 1
 [(2,Qai.pure (.bool false) [])] 0 [] []) []=some (.bool false,
 [Qaz []/\Qao Tryz.prog J0 76 #[.int .i64 n,.int .i64 0,.int .i64 100000] (.bool false)]):=by kernel_rfl
set_option maxHeartbeats 4000000 in
theorem QrO (n:Int)  {B:Lo} (hJ:∀w,B.has w->J0 w):EndsT Tryz.prog B (Qae Tryz.prog 114 5 (([.int .i64 n]).map (Qam 0 4))) (.bool (inB n 0 100000)):=by
 cases q0:inB n 0 100000 with
 | true=>
   exact (GoE.endsT okF hJ Qab GoE.start (QqA B n)
    ⟨⟨trivial,(by have t_:=pIn (n) (0) (100000);rw [q0] at t_;exact t_)⟩,trivial⟩).cast (by rfl)
 | false=>
   exact (GoE.endsT okF hJ Qab GoE.start (QoI B n)
    ⟨⟨trivial,(by have t_:=pIn (n) (0) (100000);rw [q0] at t_;exact t_)⟩,trivial⟩).cast (by rfl)
theorem Qi2 (n:Int)  :Qao Tryz.prog J0 114 #[.int .i64 n] (.bool (inB n 0 100000)):=
 Qa8 (ts:=[.int .i64 n]) Qbr (c0:=Qae Tryz.prog 114 5 (([.int .i64 n]).map (Qam 0 4))) (by kernel_rfl) (by kernel_rfl) fun B hJ=> QrO n  hJ
def QkA (B:Lo) (s:Qaa) (l:Qag):List Prop:=[eqq (↑l.goods.length:Int) (↑s.stock.length:Int)=true]++([]:List Prop)
def Qq6 (s:Qaa) (l:Qag):Qap:=[(9,hvT)]
def Qmr (B:Lo) (s:Qaa) (l:Qag):List Prop:=[Qaz []/\Qao Tryz.prog J0 101 #[slT l.goods.length (Qac QaD l.goods),.int .i64 100000] (.bool true)]++QkA B s l
def QpX (s:Qaa) (l:Qag):Qap:=Qq6 s l++[(13,Qai.pure (.bool true) [])]
def Qmf (B:Lo) (s:Qaa) (l:Qag):List Prop:=[Qaz []/\Qao Tryz.prog J0 114 #[.int .i64 l.weight] (.bool true)]++Qmr B s l
def QpT (s:Qaa) (l:Qag):Qap:=QpX s l++[(18,Qai.pure (.bool true) [])]
theorem Qzt (B:Lo) (s:Qaa) (l:Qag):QaK (Qak Tryz.prog (Qaw Tryz.prog) J0 B 6 1 (Qae Tryz.prog 145 27 (([.agg (Qah s).toArray,.agg (Qaq l).toArray]).map (Qam 0 4))) H00 1
 (QpT s l++[(23,Qai.pure (.bool true) [])]) 0 [] []) []=some (.bool true,
 [Qaz []/\Qao Tryz.prog J0 76 #[.int .i64 l.cost,.int .i64 0,.int .i64 1000000] (.bool true)]++Qmf B s l):=by kernel_rfl
theorem Qxs (B:Lo) (s:Qaa) (l:Qag):QaK (Qak Tryz.prog (Qaw Tryz.prog) J0 B 6 1 (Qae Tryz.prog 145 27 (([.agg (Qah s).toArray,.agg (Qaq l).toArray]).map (Qam 0 4))) H00 1
 (QpT s l++[(23,Qai.pure (.bool false) [])]) 0 [] []) []=some (.bool false,
 [Qaz []/\Qao Tryz.prog J0 76 #[.int .i64 l.cost,.int .i64 0,.int .i64 1000000] (.bool false)]++Qmf B s l):=by kernel_rfl
theorem QxI (B:Lo) (s:Qaa) (l:Qag):QaK (Qak Tryz.prog (Qaw Tryz.prog) J0 B 6 1 (Qae Tryz.prog 145 27 (([.agg (Qah s).toArray,.agg (Qaq l).toArray]).map (Qam 0 4))) H00 1
 (QpX s l++[(18,Qai.pure (.bool false) [])]) 0 [] []) []=some (.bool false,
 [Qaz []/\Qao Tryz.prog J0 114 #[.int .i64 l.weight] (.bool false)]++Qmr B s l):=by kernel_rfl
theorem QxV (B:Lo) (s:Qaa) (l:Qag):QaK (Qak Tryz.prog (Qaw Tryz.prog) J0 B 6 1 (Qae Tryz.prog 145 27 (([.agg (Qah s).toArray,.agg (Qaq l).toArray]).map (Qam 0 4))) H00 1
 (Qq6 s l++[(13,Qai.pure (.bool false) [])]) 0 [] []) []=some (.bool false,
 [Qaz []/\Qao Tryz.prog J0 101 #[slT l.goods.length (Qac QaD l.goods),.int .i64 100000] (.bool false)]++QkA B s l):=by kernel_rfl
theorem QyS (B:Lo) (s:Qaa) (l:Qag):QaK (Qak Tryz.prog (Qaw Tryz.prog) J0 B 6 1 (Qae Tryz.prog 145 27 (([.agg (Qah s).toArray,.agg (Qaq l).toArray]).map (Qam 0 4))) H00 1
 [(9,hvF)] 0 [] []) []=some (.bool false,
 [eqq (↑l.goods.length:Int) (↑s.stock.length:Int)=false]):=by kernel_rfl
set_option maxHeartbeats 4000000 in
theorem Q04 (s:Qaa) (l:Qag)  {B:Lo} (hJ:∀w,B.has w->J0 w):EndsT Tryz.prog B (Qae Tryz.prog 145 27 (([.agg (Qah s).toArray,.agg (Qaq l).toArray]).map (Qam 0 4))) (.bool (QmE s.stock.length l)):=by
 by_cases q0:((↑l.goods.length:Int):Int)=((↑s.stock.length:Int))
 ·
  have hp0:Qaz (QkA B s l):=by
   exact ⟨(Qw8 q0),trivial⟩
  cases q1:List.all l.goods fun s=> Qb6 s.lo s.hi 0 100000 with
  | true=>
    have hp1:Qaz (Qmr B s l):=by
     exact ⟨⟨trivial,(by have t_:=Qiw l.goods (100000);rw [q1] at t_;exact t_)⟩,hp0⟩
    cases q2:inB l.weight 0 100000 with
    | true=>
      have hp2:Qaz (Qmf B s l):=by
       exact ⟨⟨trivial,(by have t_:=Qi2 l.weight;rw [q2] at t_;exact t_)⟩,hp1⟩
      cases q3:inB l.cost 0 1000000 with
      | true=>
        exact (GoE.endsT okF hJ Qab GoE.start (Qzt B s l)
         ⟨⟨trivial,(by have t_:=pIn l.cost (0) (1000000);rw [q3] at t_;exact t_)⟩,hp2⟩).cast (by (simp_all [QmE,QcE];omega))
      | false=>
        exact (GoE.endsT okF hJ Qab GoE.start (Qxs B s l)
         ⟨⟨trivial,(by have t_:=pIn l.cost (0) (1000000);rw [q3] at t_;exact t_)⟩,hp2⟩).cast (by (simp [QmE,QcE, *];done))
    | false=>
      exact (GoE.endsT okF hJ Qab GoE.start (QxI B s l)
       ⟨⟨trivial,(by have t_:=Qi2 l.weight;rw [q2] at t_;exact t_)⟩,hp1⟩).cast (by (simp [QmE,QcE, *];done))
  | false=>
    exact (GoE.endsT okF hJ Qab GoE.start (QxV B s l)
     ⟨⟨trivial,(by have t_:=Qiw l.goods (100000);rw [q1] at t_;exact t_)⟩,hp0⟩).cast (by (simp [QmE,QcE, *];done))
 ·
  exact (GoE.endsT okF hJ Qab GoE.start (QyS B s l)
   ⟨(Qzy q0),trivial⟩).cast (by (simp_all [QmE,QcE];omega))
theorem Q1H (s:Qaa) (l:Qag)  :Qao Tryz.prog J0 145 #[.agg (Qah s).toArray,.agg (Qaq l).toArray] (.bool (QmE s.stock.length l)):=
 Qa8 (ts:=[.agg (Qah s).toArray,.agg (Qaq l).toArray]) Qbr (c0:=Qae Tryz.prog 145 27 (([.agg (Qah s).toArray,.agg (Qaq l).toArray]).map (Qam 0 4))) (by kernel_rfl) (by kernel_rfl) fun B hJ=> Q04 s l  hJ
def Qea (s:Qaa) (i:Int):List Value:=[pA 2 0,Qay 1 (slT s.lots.length (Qac Qaq s.lots)),.int .i64 (↑s.lots.length:Int),.int .i64 i]
def Qch (s:Qaa) (i:Int):List Obj:=[Obj.cells #[Qay 1 (slT s.stock.length (Qac Qa1 s.stock)),Qay 1 (slT s.use.length (Qac QaD s.use)),.int .i64 s.glo,.int .i64 s.ghi,Qay 1 (slT s.lots.length (Qac Qaq s.lots)),.int .i64 s.hold] 62]
def QdW:List Item:=([.code [1,1,0,1,0,0],.inLoop [1,1,0,1,0,0],.inBlock 0,.code [1,1,1]]).map (it (Qan Tryz.prog 113))
def Qr9 (B:Lo) (c0:CF) (s:Qaa) (i:Int):Prop:=∃dJ:Nat->Value,(∀t,Qbb (dJ t))/\GoE Tryz.prog B c0 H00 1 (Qa4 113 21 (([1,10,11,12]:List Nat).zip (Qea s i)) dJ QdW) (Qa3 (Qch s i)) (2+(Qch s i).length) []
def QfY (s:Qaa) (i:Int):Array Value:=#[slT (List.length (Qag.goods (s.lots.getD i.toNat default))) (Qac QaD (Qag.goods (s.lots.getD i.toNat default))),.int .i64 (Qag.weight (s.lots.getD i.toNat default)),.int .i64 (Qag.cost (s.lots.getD i.toNat default))]
def Qht (B:Lo) (s:Qaa) (i:Int) (dJ0:Nat->Value):List Prop:=[i=(↑i.toNat:Int)/\Int.toNat i < List.length s.lots/\Array.extract (Qac Qaq s.lots) (Int.toNat i * TypeInfo.size Tryz.t118) (Int.toNat i * TypeInfo.size Tryz.t118+TypeInfo.size Tryz.t118)=(QfY s i),ltq i (↑s.lots.length:Int)=true]++([]:List Prop)
def Qlu (s:Qaa) (i:Int) (dJ0:Nat->Value):Qap:=[(0,hvT),(1,Qai.tidx i.toNat (QfY s i))]
theorem Qsj (B:Lo) (s:Qaa) (i:Int) (dJ0:Nat->Value):landM (Qak Tryz.prog (Qaw Tryz.prog) J0 B 16 1 (Qa4 113 21 (([1,10,11,12]:List Nat).zip (Qea s i)) dJ0 QdW) (Qa3 (Qch s i)) (2+(Qch s i).length)
 (Qlu s i dJ0++[(7,Qai.pure (.bool true) []),(9,hvI (i+1))]) 0 [] []) [1,10,11,12] [(2,KS.auto)] []=some ⟨113,21,QdW,[],.run,none,Qea s (i+1),Qch s (i+1),
 [wq (i+1)=i+1,Qaz []/\Qao Tryz.prog J0 145 #[.agg #[slT s.stock.length (Qac Qa1 s.stock),slT s.use.length (Qac QaD s.use),.int .i64 s.glo,.int .i64 s.ghi,slT s.lots.length (Qac Qaq s.lots),.int .i64 s.hold],.agg (QfY s i)] (.bool true)]++Qht B s i dJ0⟩:=by kernel_rfl
theorem Qs4 (B:Lo) (s:Qaa) (i:Int) (dJ0:Nat->Value):QaK (Qak Tryz.prog (Qaw Tryz.prog) J0 B 16 1 (Qa4 113 21 (([1,10,11,12]:List Nat).zip (Qea s i)) dJ0 QdW) (Qa3 (Qch s i)) (2+(Qch s i).length)
 (Qlu s i dJ0++[(7,Qai.pure (.bool false) [])]) 0 [] []) []=some (.bool false,
 [Qaz []/\Qao Tryz.prog J0 145 #[.agg #[slT s.stock.length (Qac Qa1 s.stock),slT s.use.length (Qac QaD s.use),.int .i64 s.glo,.int .i64 s.ghi,slT s.lots.length (Qac Qaq s.lots),.int .i64 s.hold],.agg (QfY s i)] (.bool false)]++Qht B s i dJ0):=by kernel_rfl
theorem Qr0 (B:Lo) (s:Qaa) (i:Int) (dJ0:Nat->Value):QaK (Qak Tryz.prog (Qaw Tryz.prog) J0 B 9 1 (Qa4 113 21 (([1,10,11,12]:List Nat).zip (Qea s i)) dJ0 QdW) (Qa3 (Qch s i)) (2+(Qch s i).length)
 [(0,hvF)] 0 [] []) []=some (.bool true,
 [ltq i (↑s.lots.length:Int)=false]):=by kernel_rfl
theorem Qs3 (B:Lo) (s:Qaa):QaK (Qak Tryz.prog (Qaw Tryz.prog) J0 B 10 1 (Qae Tryz.prog 113 21 (([.agg (Qah s).toArray]).map (Qam 0 4))) H00 1
 [(5,hvT)] 0 [] []) []=some (.bool false,
 [ltq 6 (↑s.lots.length:Int)=true]):=by kernel_rfl
theorem Qsq (B:Lo) (s:Qaa):landM (Qak Tryz.prog (Qaw Tryz.prog) J0 B 12 1 (Qae Tryz.prog 113 21 (([.agg (Qah s).toArray]).map (Qam 0 4))) H00 1
 [(5,hvF)] 0 [] []) [1,10,11,12] [(1,KS.auto)] []=some ⟨113,21,QdW,[],.run,none,Qea s (0),Qch s (0),
 [ltq 6 (↑s.lots.length:Int)=false]⟩:=by kernel_rfl
set_option maxHeartbeats 4000000 in
theorem Qs5 (s:Qaa)  (hfacts:s.lots.length<=9223372036854775807) {B:Lo} (hJ:∀w,B.has w->J0 w) {c0:CF}:∀m:Nat,(∀(i:Int),s.lots.length - i.toNat=m->∀(h0:0<=i) (h6:s.lots.length<=6),Qr9 B c0 s i->EndsT Tryz.prog B c0 (.bool ((s.lots.drop i.toNat).all (QmE s.stock.length)))):=by
 intro m0
 induction m0 using Nat.strongRecOn with
 | _ m0 ih0=>
   intro i hm0 h0 h6 ⟨dJ0,hdJ0,hg0⟩
   by_cases q0:(i:Int) < ((↑s.lots.length:Int))
   ·
    have hp0:Qaz (Qht B s i dJ0):=by
     exact ⟨⟨by omega,by omega,(Qaj (z:=3) (fun _=> rfl) (by omega))⟩,⟨(Qbn q0),trivial⟩⟩
    cases q1:QmE s.stock.length (s.lots.getD i.toNat default) with
    | true=>
      exact ((ih0 _ (by omega)) (i+1) rfl (by omega) (by with_reducible assumption)
       (hg0.landM okF hJ Qab (Qsj B s i dJ0)
       ⟨(QaV (by omega) (by omega)),⟨⟨trivial,(by have t_:=Q1H (s) (s.lots.getD i.toNat default);rw [q1] at t_;exact t_)⟩,hp0⟩⟩ (by kernel_rfl) (by kernel_rfl))).cast (by (rw [QgY (i:=i)];(· simp_all);(· omega);(· omega)))
    | false=>
      exact (GoE.endsT okF hJ Qab hg0 (Qs4 B s i dJ0)
       ⟨⟨trivial,(by have t_:=Q1H (s) (s.lots.getD i.toNat default);rw [q1] at t_;exact t_)⟩,hp0⟩).cast (by (rw [QgY (i:=i)];(· simp_all);(· omega);(· omega)))
   ·
    exact (GoE.endsT okF hJ Qab hg0 (Qr0 B s i dJ0)
     ⟨(Qbk (Int.not_lt.1 q0)),trivial⟩).cast (by (rw [Qno (i:=i)];(· simp_all);(· omega)))
set_option maxHeartbeats 4000000 in
theorem Qv0 (s:Qaa)  (hfacts:s.lots.length<=9223372036854775807) {B:Lo} (hJ:∀w,B.has w->J0 w):EndsT Tryz.prog B (Qae Tryz.prog 113 21 (([.agg (Qah s).toArray]).map (Qam 0 4))) (.bool (QpZ s)):=by
 by_cases q0:(6:Int) < ((↑s.lots.length:Int))
 ·
  exact (GoE.endsT okF hJ Qab GoE.start (Qs3 B s)
   ⟨(Qbn q0),trivial⟩).cast (by (simp_all [QpZ];omega))
 ·
  exact ((Qs5 s hfacts hJ _) (0) rfl (by omega) (by omega)
   (GoE.start.landM okF hJ Qab (Qsq B s)
   ⟨(Qbk (Int.not_lt.1 q0)),trivial⟩ (by kernel_rfl) (by kernel_rfl))).cast (by (simp_all [QpZ];omega))
theorem Qt7 (s:Qaa)  :Qao Tryz.prog J0 113 #[.agg (Qah s).toArray] (.bool (QpZ s)):=
 QbW (ts:=[.agg (Qah s).toArray]) (s.lots.length<=9223372036854775807) (fun _ _ ht=> ht.ln2 (i:=0) (j:=4) rfl rfl) Qbr (c0:=Qae Tryz.prog 113 21 (([.agg (Qah s).toArray]).map (Qam 0 4))) (by kernel_rfl) (by kernel_rfl) fun hfacts B hJ=> Qv0 s  hfacts hJ
def Qhx (B:Lo) (s:Qaa):List Prop:=[Qaz []/\Qao Tryz.prog J0 76 #[.int .i64 (↑s.stock.length:Int),.int .i64 1,.int .i64 4] (.bool true)]++([]:List Prop)
def QkT (s:Qaa):Qap:=[(5,Qai.pure (.bool true) [])]
def Qh4 (B:Lo) (s:Qaa):List Prop:=[Qaz []/\Qao Tryz.prog J0 100 #[slT s.stock.length (Qac Qa1 s.stock),.int .i64 0,.int .i64 100000] (.bool true)]++Qhx B s
def Qkl (s:Qaa):Qap:=QkT s++[(9,Qai.pure (.bool true) [])]
def Qhz (B:Lo) (s:Qaa):List Prop:=[eqq (↑s.use.length:Int) (↑s.stock.length:Int)=true]++Qh4 B s
def Qmq (s:Qaa):Qap:=Qkl s++[(18,hvT)]
def Qh8 (B:Lo) (s:Qaa):List Prop:=[Qaz []/\Qao Tryz.prog J0 101 #[slT s.use.length (Qac QaD s.use),.int .i64 1000] (.bool true)]++Qhz B s
def Qmp (s:Qaa):Qap:=Qmq s++[(23,Qai.pure (.bool true) [])]
def Qhs (B:Lo) (s:Qaa):List Prop:=[Qaz []/\Qao Tryz.prog J0 75 #[.agg #[.int .i64 s.glo,.int .i64 s.ghi]] (.bool true)]++Qh8 B s
def QjU (s:Qaa):Qap:=Qmp s++[(28,Qai.pure (.bool true) [])]
def Qhv (B:Lo) (s:Qaa):List Prop:=[Qaz []/\Qao Tryz.prog J0 113 #[.agg #[slT s.stock.length (Qac Qa1 s.stock),slT s.use.length (Qac QaD s.use),.int .i64 s.glo,.int .i64 s.ghi,slT s.lots.length (Qac Qaq s.lots),.int .i64 s.hold]] (.bool true)]++Qhs B s
def QlL (s:Qaa):Qap:=QjU s++[(32,Qai.pure (.bool true) [])]
theorem Qrv (B:Lo) (s:Qaa):QaK (Qak Tryz.prog (Qaw Tryz.prog) J0 B 6 1 (Qae Tryz.prog 79 40 (([.agg (Qah s).toArray]).map (Qam 0 4))) H00 1
 (QlL s++[(37,Qai.pure (.bool true) [])]) 0 [] []) []=some (.bool true,
 [Qaz []/\Qao Tryz.prog J0 114 #[.int .i64 s.hold] (.bool true)]++Qhv B s):=by kernel_rfl
theorem Qr6 (B:Lo) (s:Qaa):QaK (Qak Tryz.prog (Qaw Tryz.prog) J0 B 6 1 (Qae Tryz.prog 79 40 (([.agg (Qah s).toArray]).map (Qam 0 4))) H00 1
 (QlL s++[(37,Qai.pure (.bool false) [])]) 0 [] []) []=some (.bool false,
 [Qaz []/\Qao Tryz.prog J0 114 #[.int .i64 s.hold] (.bool false)]++Qhv B s):=by kernel_rfl
theorem Qr8 (B:Lo) (s:Qaa):QaK (Qak Tryz.prog (Qaw Tryz.prog) J0 B 6 1 (Qae Tryz.prog 79 40 (([.agg (Qah s).toArray]).map (Qam 0 4))) H00 1
 (QjU s++[(32,Qai.pure (.bool false) [])]) 0 [] []) []=some (.bool false,
 [Qaz []/\Qao Tryz.prog J0 113 #[.agg #[slT s.stock.length (Qac Qa1 s.stock),slT s.use.length (Qac QaD s.use),.int .i64 s.glo,.int .i64 s.ghi,slT s.lots.length (Qac Qaq s.lots),.int .i64 s.hold]] (.bool false)]++Qhs B s):=by kernel_rfl
theorem QrI (B:Lo) (s:Qaa):QaK (Qak Tryz.prog (Qaw Tryz.prog) J0 B 6 1 (Qae Tryz.prog 79 40 (([.agg (Qah s).toArray]).map (Qam 0 4))) H00 1
 (Qmp s++[(28,Qai.pure (.bool false) [])]) 0 [] []) []=some (.bool false,
 [Qaz []/\Qao Tryz.prog J0 75 #[.agg #[.int .i64 s.glo,.int .i64 s.ghi]] (.bool false)]++Qh8 B s):=by kernel_rfl
theorem Qsa (B:Lo) (s:Qaa):QaK (Qak Tryz.prog (Qaw Tryz.prog) J0 B 6 1 (Qae Tryz.prog 79 40 (([.agg (Qah s).toArray]).map (Qam 0 4))) H00 1
 (Qmq s++[(23,Qai.pure (.bool false) [])]) 0 [] []) []=some (.bool false,
 [Qaz []/\Qao Tryz.prog J0 101 #[slT s.use.length (Qac QaD s.use),.int .i64 1000] (.bool false)]++Qhz B s):=by kernel_rfl
theorem Qsi (B:Lo) (s:Qaa):QaK (Qak Tryz.prog (Qaw Tryz.prog) J0 B 6 1 (Qae Tryz.prog 79 40 (([.agg (Qah s).toArray]).map (Qam 0 4))) H00 1
 (Qkl s++[(18,hvF)]) 0 [] []) []=some (.bool false,
 [eqq (↑s.use.length:Int) (↑s.stock.length:Int)=false]++Qh4 B s):=by kernel_rfl
theorem QrK (B:Lo) (s:Qaa):QaK (Qak Tryz.prog (Qaw Tryz.prog) J0 B 6 1 (Qae Tryz.prog 79 40 (([.agg (Qah s).toArray]).map (Qam 0 4))) H00 1
 (QkT s++[(9,Qai.pure (.bool false) [])]) 0 [] []) []=some (.bool false,
 [Qaz []/\Qao Tryz.prog J0 100 #[slT s.stock.length (Qac Qa1 s.stock),.int .i64 0,.int .i64 100000] (.bool false)]++Qhx B s):=by kernel_rfl
theorem QrR (B:Lo) (s:Qaa):QaK (Qak Tryz.prog (Qaw Tryz.prog) J0 B 6 1 (Qae Tryz.prog 79 40 (([.agg (Qah s).toArray]).map (Qam 0 4))) H00 1
 [(5,Qai.pure (.bool false) [])] 0 [] []) []=some (.bool false,
 [Qaz []/\Qao Tryz.prog J0 76 #[.int .i64 (↑s.stock.length:Int),.int .i64 1,.int .i64 4] (.bool false)]):=by kernel_rfl
set_option maxHeartbeats 4000000 in
theorem QvD (s:Qaa)  (hfacts:s.stock.length<=9223372036854775807/\s.use.length<=9223372036854775807) {B:Lo} (hJ:∀w,B.has w->J0 w):EndsT Tryz.prog B (Qae Tryz.prog 79 40 (([.agg (Qah s).toArray]).map (Qam 0 4))) (.bool (Qa0 s)):=by
 cases q0:inB (↑s.stock.length:Int) 1 4 with
 | true=>
   have hp0:Qaz (Qhx B s):=by
    exact ⟨⟨trivial,(by have t_:=pIn ((↑s.stock.length:Int)) (1) (4);rw [q0] at t_;exact t_)⟩,trivial⟩
   cases q1:List.all s.stock fun x=> inB x 0 100000 with
   | true=>
     have hp1:Qaz (Qh4 B s):=by
      exact ⟨⟨trivial,(by have t_:=Qt6 s.stock (0) (100000);rw [q1] at t_;exact t_)⟩,hp0⟩
     by_cases q2:((↑s.use.length:Int):Int)=((↑s.stock.length:Int))
     ·
      have hp2:Qaz (Qhz B s):=by
       exact ⟨(Qw8 q2),hp1⟩
      cases q3:List.all s.use fun s=> Qb6 s.lo s.hi 0 1000 with
      | true=>
        have hp3:Qaz (Qh8 B s):=by
         exact ⟨⟨trivial,(by have t_:=Qiw s.use (1000);rw [q3] at t_;exact t_)⟩,hp2⟩
        cases q4:Qb6 s.glo s.ghi 1 60 with
        | true=>
          have hp4:Qaz (Qhs B s):=by
           exact ⟨⟨trivial,(by have t_:=Q1M s.glo s.ghi;rw [q4] at t_;exact t_)⟩,hp3⟩
          cases q5:QpZ s with
          | true=>
            have hp5:Qaz (Qhv B s):=by
             exact ⟨⟨trivial,(by have t_:=Qt7 (s);rw [q5] at t_;exact t_)⟩,hp4⟩
            cases q6:inB s.hold 0 100000 with
            | true=>
              exact (GoE.endsT okF hJ Qab GoE.start (Qrv B s)
               ⟨⟨trivial,(by have t_:=Qi2 s.hold;rw [q6] at t_;exact t_)⟩,hp5⟩).cast (by (simp_all [Qa0,QcE];omega))
            | false=>
              exact (GoE.endsT okF hJ Qab GoE.start (Qr6 B s)
               ⟨⟨trivial,(by have t_:=Qi2 s.hold;rw [q6] at t_;exact t_)⟩,hp5⟩).cast (by (simp [Qa0,QcE, *];done))
          | false=>
            exact (GoE.endsT okF hJ Qab GoE.start (Qr8 B s)
             ⟨⟨trivial,(by have t_:=Qt7 (s);rw [q5] at t_;exact t_)⟩,hp4⟩).cast (by (simp [Qa0,QcE, *];done))
        | false=>
          exact (GoE.endsT okF hJ Qab GoE.start (QrI B s)
           ⟨⟨trivial,(by have t_:=Q1M s.glo s.ghi;rw [q4] at t_;exact t_)⟩,hp3⟩).cast (by (simp [Qa0,QcE, *];done))
      | false=>
        exact (GoE.endsT okF hJ Qab GoE.start (Qsa B s)
         ⟨⟨trivial,(by have t_:=Qiw s.use (1000);rw [q3] at t_;exact t_)⟩,hp2⟩).cast (by (simp [Qa0,QcE, *];done))
     ·
      exact (GoE.endsT okF hJ Qab GoE.start (Qsi B s)
       ⟨(Qzy q2),hp1⟩).cast (by (simp_all [Qa0,QcE];omega))
   | false=>
     exact (GoE.endsT okF hJ Qab GoE.start (QrK B s)
      ⟨⟨trivial,(by have t_:=Qt6 s.stock (0) (100000);rw [q1] at t_;exact t_)⟩,hp0⟩).cast (by (simp [Qa0,QcE, *];done))
 | false=>
   exact (GoE.endsT okF hJ Qab GoE.start (QrR B s)
    ⟨⟨trivial,(by have t_:=pIn ((↑s.stock.length:Int)) (1) (4);rw [q0] at t_;exact t_)⟩,trivial⟩).cast (by (simp [Qa0,QcE, *];done))
theorem QjN (s:Qaa)  :Qao Tryz.prog J0 79 #[.agg (Qah s).toArray] (.bool (Qa0 s)):=
 QbW (ts:=[.agg (Qah s).toArray]) (s.stock.length<=9223372036854775807/\s.use.length<=9223372036854775807) (fun _ _ ht=> ⟨ht.ln2 (i:=0) (j:=0) rfl rfl,ht.ln2 (i:=0) (j:=1) rfl rfl⟩) Qbr (c0:=Qae Tryz.prog 79 40 (([.agg (Qah s).toArray]).map (Qam 0 4))) (by kernel_rfl) (by kernel_rfl) fun hfacts B hJ=> QvD s  hfacts hJ
theorem QrW (B:Lo) (n:Int):QaK (Qak Tryz.prog (Qaw Tryz.prog) J0 B 6 1 (Qae Tryz.prog 81 5 (([.int .i64 n]).map (Qam 0 4))) H00 1
 [(2,Qai.pure (.bool true) [])] 0 [] []) []=some (.bool true,
 [Qaz []/\Qao Tryz.prog J0 76 #[.int .i64 n,.int .i64 0,.int .i64 300] (.bool true)]):=by kernel_rfl
theorem Qsw (B:Lo) (n:Int):QaK (Qak Tryz.prog (Qaw Tryz.prog) J0 B 6 1 (Qae Tryz.prog 81 5 (([.int .i64 n]).map (Qam 0 4))) H00 1
 [(2,Qai.pure (.bool false) [])] 0 [] []) []=some (.bool false,
 [Qaz []/\Qao Tryz.prog J0 76 #[.int .i64 n,.int .i64 0,.int .i64 300] (.bool false)]):=by kernel_rfl
set_option maxHeartbeats 4000000 in
theorem QuP (n:Int)  {B:Lo} (hJ:∀w,B.has w->J0 w):EndsT Tryz.prog B (Qae Tryz.prog 81 5 (([.int .i64 n]).map (Qam 0 4))) (.bool (inB n 0 300)):=by
 cases q0:inB n 0 300 with
 | true=>
   exact (GoE.endsT okF hJ Qab GoE.start (QrW B n)
    ⟨⟨trivial,(by have t_:=pIn (n) (0) (300);rw [q0] at t_;exact t_)⟩,trivial⟩).cast (by rfl)
 | false=>
   exact (GoE.endsT okF hJ Qab GoE.start (Qsw B n)
    ⟨⟨trivial,(by have t_:=pIn (n) (0) (300);rw [q0] at t_;exact t_)⟩,trivial⟩).cast (by rfl)
theorem QjI (n:Int)  :Qao Tryz.prog J0 81 #[.int .i64 n] (.bool (inB n 0 300)):=
 Qa8 (ts:=[.int .i64 n]) Qbr (c0:=Qae Tryz.prog 81 5 (([.int .i64 n]).map (Qam 0 4))) (by kernel_rfl) (by kernel_rfl) fun B hJ=> QuP n  hJ
end
end Go.Proofs.YtiabgkiccaodmaaGreat

