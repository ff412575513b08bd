/- Sets of numbers. -/
import Derived.Test.YtiabgkiccaodmaaGreatZMO10
set_option linter.all false
namespace Go.Proofs.YtiabgkiccaodmaaGreat
open Go Go.CE Go.RowKit
set_option maxRecDepth 100000
def QpO (s n:Int):Int:=((orN s ((Qul n:Nat):Int):Nat):Int)
def QkK (s n:Int):Bool:=decide (((Q2L ((QsT s n:Nat):Int) 1:Nat):Int)=1)
theorem QoX {s n:Int}:QkK s n=s.toNat.testBit n.toNat:=by
 unfold QkK Q2L QsT;rw [Int.toNat_natCast,show (1:Int).toNat=1 from rfl,Nat.and_one_is_mod,Nat.shiftRight_eq_div_pow,Nat.testBit_eq_decide_div_mod_eq];exact decide_eq_decide.2 (by omega)
def QaW:List Int->Int->Int
 | [],s=> s
 | n::l,s=> QaW l (QpO s n)
theorem Q0y {s n:Int} {k:Nat} (h0:0<=s) (h:s < 2 ^ k) (hn:n.toNat < k):QpO s n < 2 ^ k:=by
 obtain ⟨b,rfl⟩:∃b:Nat,s=b:=⟨s.toNat,by omega⟩
 have e:(2:Int) ^ k=((2 ^ k:Nat):Int):=by rw [Int.natCast_pow];rfl
 rw [e] at h ⊢;have h':b < 2 ^ k:=by exact_mod_cast h
 have:b ||| 2 ^ n.toNat < 2 ^ k:=Nat.or_lt_two_pow h' (Nat.pow_lt_pow_right (by decide) hn)
 unfold QpO orN Qul;rw [Int.toNat_natCast,Int.toNat_natCast];exact_mod_cast this
theorem Q0i {l:List Int} {i s:Int} (h0:0<=i) (h:i < l.length):QaW (l.drop i.toNat) s=QaW (l.drop (i+1).toNat) (QpO s (l.getD i.toNat default)):=by
 obtain ⟨k,rfl⟩:∃k:Nat,i=k:=⟨i.toNat,by omega⟩
 have hk:k < l.length:=by omega
 have e1:((k:Int)).toNat=k:=by omega
 have e2:((k:Int)+1).toNat=k+1:=by omega
 rw [e1,e2,List.drop_eq_getElem_cons hk];simp [QaW,List.getD_eq_getElem?_getD,hk]
theorem Q28 {l:List Int} {i s:Int} (h:l.length<=i):QaW (l.drop i.toNat) s=s:=by
 rw [List.drop_eq_nil_of_le (by omega)];rfl
theorem Q2Y (B:Lo) (s n:Int):QaF (Qah YP (Qau YP) J0 B 6 1 (Qae YP 146 9 (([.int .i64 s,.int .i64 n]).map (Qal 0 4))) H00 1
 [(3,Qaf.bin (.int .i64 (↑(Qul n):Int))),(4,Qaf.bin (.int .i64 (↑(orN s (↑(Qul n):Int)):Int)))] 0 [] []) []=some (.int .i64 (↑(orN s (↑(Qul n):Int)):Int),
 [Qi6 YP BinOp.or 120 (QbV {len:=16000,tr:=Tri.set 14 (Tri.set 14 Tri.lf 7 (.int .i64 (↑(Qul n):Int))) 5 (.int .i64 s)} 5) (QbV {len:=16000,tr:=Tri.set 14 (Tri.set 14 Tri.lf 7 (.int .i64 (↑(Qul n):Int))) 5 (.int .i64 s)} 7) (.int .i64 (↑(orN s (↑(Qul n):Int)):Int)),Qi6 YP BinOp.shl 120 (.int .i64 1) (QbV {len:=16000,tr:=Tri.set 14 Tri.lf 6 (.int .i64 n)} 6) (.int .i64 (↑(Qul n):Int))]):=by kernel_rfl
set_option maxHeartbeats 4000000 in
theorem Q55 (s n:Int) (hn:0<=n/\n<=61) (hs:0<=s/\s<=4611686018427387904) {B:Lo} (hJ:∀w,B.has w->J0 w):EndsT YP B (Qae YP 146 9 (([.int .i64 s,.int .i64 n]).map (Qal 0 4))) (.int .i64 (QpO s n)):=by
 have e1:=Q53 (n:=n) (by omega);exact (GoE.endsT okF hJ Qab GoE.start (Q2Y B s n)
  ⟨(Q6z (by omega) (by omega) (by omega) (by omega)),⟨(Q2H (by omega) (by omega)),trivial⟩⟩).cast (by rfl)
theorem Q7Q (s n:Int) (hn:0<=n/\n<=61) (hs:0<=s/\s<=4611686018427387904):Qai YP J0 146 #[.int .i64 s,.int .i64 n] (.int .i64 (QpO s n)):=
 Qa5 (ts:=[.int .i64 s,.int .i64 n]) Qbn (c0:=Qae YP 146 9 (([.int .i64 s,.int .i64 n]).map (Qal 0 4))) (by kernel_rfl) (by kernel_rfl) fun B hJ=> Q55 s n hn hs hJ
noncomputable def Qt2 (B:Lo) (s n:Int):List Prop:=[Qi6 YP BinOp.and 120 (QbV {len:=16000,tr:=Tri.set 14 Tri.lf 7 (.int .i64 (↑(QsT s n):Int))} 7) (.int .i64 1) (.int .i64 (↑(Q2L (↑(QsT s n):Int) 1):Int)),Qi6 YP BinOp.shr 120 (QbV {len:=16000,tr:=Tri.set 14 (Tri.set 14 Tri.lf 6 (.int .i64 n)) 5 (.int .i64 s)} 5) (QbV {len:=16000,tr:=Tri.set 14 (Tri.set 14 Tri.lf 6 (.int .i64 n)) 5 (.int .i64 s)} 6) (.int .i64 (↑(QsT s n):Int))]++([]:List Prop)
noncomputable def Qya (s n:Int):Qan:=[(3,Qaf.bin (.int .i64 (↑(QsT s n):Int))),(4,Qaf.bin (.int .i64 (↑(Q2L (↑(QsT s n):Int) 1):Int)))]
theorem Q6b (B:Lo) (s n:Int):QaF (Qah YP (Qau YP) J0 B 6 1 (Qae YP 159 10 (([.int .i64 s,.int .i64 n]).map (Qal 0 4))) H00 1
 (Qya s n++[(5,hvT)]) 0 [] []) []=some (.bool true,
 [eqq (↑(Q2L (↑(QsT s n):Int) 1):Int) 1=true]++Qt2 B s n):=by kernel_rfl
theorem Q5m (B:Lo) (s n:Int):QaF (Qah YP (Qau YP) J0 B 6 1 (Qae YP 159 10 (([.int .i64 s,.int .i64 n]).map (Qal 0 4))) H00 1
 (Qya s n++[(5,hvF)]) 0 [] []) []=some (.bool false,
 [eqq (↑(Q2L (↑(QsT s n):Int) 1):Int) 1=false]++Qt2 B s n):=by kernel_rfl
set_option maxHeartbeats 4000000 in
theorem Q7m (s n:Int) (hn:0<=n/\n<=61) (hs:0<=s/\s<=4611686018427387904) {B:Lo} (hJ:∀w,B.has w->J0 w):EndsT YP B (Qae YP 159 10 (([.int .i64 s,.int .i64 n]).map (Qal 0 4))) (.bool (QkK s n)):=by
 have e1:QsT s n<=s.toNat:=Q5I;have hp0:Qas (Qt2 B s n):=by
  exact ⟨(Q6c (by omega) (by omega) (by omega) (by omega)),⟨(Q4R (by omega) (by omega) (by omega)),trivial⟩⟩
 by_cases q0:((↑(Q2L (↑(QsT s n):Int) 1):Int):Int)=(1)
 ·exact (GoE.endsT okF hJ Qab GoE.start (Q6b B s n)
   ⟨(Qvr q0),hp0⟩).cast (by (simp [QkK, *];done))
 ·exact (GoE.endsT okF hJ Qab GoE.start (Q5m B s n)
   ⟨(Qw1 q0),hp0⟩).cast (by (simp [QkK, *];done))
theorem Q44 (s n:Int) (hn:0<=n/\n<=61) (hs:0<=s/\s<=4611686018427387904):Qai YP J0 159 #[.int .i64 s,.int .i64 n] (.bool (QkK s n)):=
 Qa5 (ts:=[.int .i64 s,.int .i64 n]) Qbn (c0:=Qae YP 159 10 (([.int .i64 s,.int .i64 n]).map (Qal 0 4))) (by kernel_rfl) (by kernel_rfl) fun B hJ=> Q7m s n hn hs hJ
def QqA (xs:List Int) (i s:Int):List Value:=[.int .i64 s,Qat 1 (slT xs.length (Qad Qav xs)),.int .i64 (↑xs.length:Int),.int .i64 i]
def Qku (xs:List Int) (i s:Int):List Obj:=[]
noncomputable def QrL:List Item:=([.code [1,1,0,1,0,0],.inLoop [1,1,0,1,0,0],.inBlock 0,.code [1,1,1]]).map (it (Qaq YP 116))
def Q62 (B:Lo) (c0:CF) (xs:List Int) (i s:Int):Prop:=∃dJ:Nat->Value,(∀t,Qbg (dJ t))/\GoE YP B c0 H00 1 (Qa3 116 17 (([3,6,7,8]:List Nat).zip (QqA xs i s)) dJ QrL) (Qa1 (Qku xs i s)) (2+(Qku xs i s).length) []
theorem Q69 (B:Lo) (xs:List Int) (i s:Int) (dJ0:Nat->Value):landM (Qah YP (Qau YP) J0 B 13 1 (Qa3 116 17 (([3,6,7,8]:List Nat).zip (QqA xs i s)) dJ0 QrL) (Qa1 (Qku xs i s)) (2+(Qku xs i s).length)
 [(0,hvT),(1,Qaf.tidx i.toNat #[.int .i64 (xs.getD i.toNat default)]),(6,Qaf.pure (.int .i64 (QpO s (xs.getD i.toNat default))) []),(8,hvI (i+1))] 0 [] []) [3,6,7,8] [] []=some ⟨116,17,QrL,[],.run,none,QqA xs (i+1) (QpO s (xs.getD i.toNat default)),Qku xs (i+1) (QpO s (xs.getD i.toNat default)),
 [wq (i+1)=i+1,Qas []/\Qai YP J0 146 #[.int .i64 s,.int .i64 (xs.getD i.toNat default)] (.int .i64 (QpO s (xs.getD i.toNat default))),i=(↑i.toNat:Int)/\Int.toNat i < List.length xs/\Array.extract (Qad Qav xs) (Int.toNat i * TypeInfo.size Tryz.t3) (Int.toNat i * TypeInfo.size Tryz.t3+TypeInfo.size Tryz.t3)=#[.int .i64 (xs.getD i.toNat default)],ltq i (↑xs.length:Int)=true]⟩:=by kernel_rfl
theorem Q73 (B:Lo) (xs:List Int) (i s:Int) (dJ0:Nat->Value):QaF (Qah YP (Qau YP) J0 B 9 1 (Qa3 116 17 (([3,6,7,8]:List Nat).zip (QqA xs i s)) dJ0 QrL) (Qa1 (Qku xs i s)) (2+(Qku xs i s).length)
 [(0,hvF)] 0 [] []) []=some (.int .i64 s,
 [ltq i (↑xs.length:Int)=false]):=by kernel_rfl
theorem Q6J (B:Lo) (xs:List Int):landM (Qah YP (Qau YP) J0 B 9 1 (Qae YP 116 17 (([slI xs]).map (Qal 0 4))) H00 1
 [] 0 [] []) [3,6,7,8] [] []=some ⟨116,17,QrL,[],.run,none,QqA xs (0) (0),Qku xs (0) (0),
 []⟩:=by kernel_rfl
set_option maxHeartbeats 4000000 in
theorem Q6I (xs:List Int) (hx:∀x∈xs,0<=x/\x<=61) (hfacts:xs.length<=9223372036854775807) {B:Lo} (hJ:∀w,B.has w->J0 w) {c0:CF}:∀m:Nat,(∀(i s:Int),(xs.length - i.toNat)=m->∀(h0:0<=i) (h1:0<=s) (h2:s < 4611686018427387904),Q62 B c0 xs i s->EndsT YP B c0 (.int .i64 (QaW (xs.drop i.toNat) s))):=by
 intro m0;induction m0 using Nat.strongRecOn with
 | _ m0 ih0=>
   intro i s hm0 h0 h1 h2 ⟨dJ0,hdJ0,hg0⟩;by_cases q0:(i:Int) < ((↑xs.length:Int))
   ·have s2:=Q0i (l:=xs) (s:=s) h0 q0;have hm:=hx (xs.getD i.toNat default) (by rw [List.getD_eq_getElem?_getD,List.getElem?_eq_getElem (by omega)];exact List.getElem_mem _);have hw:=Q0y (s:=s) (n:=xs.getD i.toNat default) (k:=62) h1 (by omega) (by omega);have hw0:0<=QpO s (xs.getD i.toNat default):=Int.natCast_nonneg _;exact ((ih0 _ (by omega)) (i+1) (QpO s (xs.getD i.toNat default)) rfl (by omega) (by with_reducible assumption) (by omega)
     (hg0.landM okF hJ Qab (Q69 B xs i s dJ0)
     ⟨(QaR (by omega) (by omega)),⟨⟨trivial,Q7Q (s) (xs.getD i.toNat default) (by with_reducible assumption) (by omega)⟩,⟨⟨by omega,by omega,(Qao (z:=1) (fun _=> rfl) (by omega))⟩,⟨(Qbq q0),trivial⟩⟩⟩⟩ (by kernel_rfl) (by kernel_rfl))).cast (by (rw [s2];done))
   ·have s2:=Q28 (l:=xs) (i:=i) (s:=s) (by omega);have hw0:0<=QpO s (xs.getD i.toNat default):=Int.natCast_nonneg _;exact (GoE.endsT okF hJ Qab hg0 (Q73 B xs i s dJ0)
     ⟨(Qbj (Int.not_lt.1 q0)),trivial⟩).cast (by (rw [s2];done))
set_option maxHeartbeats 4000000 in
theorem Q7Y (xs:List Int) (hx:∀x∈xs,0<=x/\x<=61) (hfacts:xs.length<=9223372036854775807) {B:Lo} (hJ:∀w,B.has w->J0 w):EndsT YP B (Qae YP 116 17 (([slI xs]).map (Qal 0 4))) (.int .i64 (QaW xs 0)):=by
 exact ((Q6I xs hx hfacts hJ _) (0) (0) rfl (by omega) (by omega) (by omega)
  (GoE.start.landM okF hJ Qab (Q6J B xs)
  trivial (by kernel_rfl) (by kernel_rfl))).cast (by rfl)
theorem pOf (xs:List Int) (hx:∀x∈xs,0<=x/\x<=61):Qai YP J0 116 #[slI xs] (.int .i64 (QaW xs 0)):=
 Qcv (ts:=[slI xs]) (xs.length<=9223372036854775807) (fun _ _ ht=> ht.ln (i:=0) rfl) Qbn (c0:=Qae YP 116 17 (([slI xs]).map (Qal 0 4))) (by kernel_rfl) (by kernel_rfl) fun hfacts B hJ=> Q7Y xs hx hfacts hJ
end Go.Proofs.YtiabgkiccaodmaaGreat

namespace Go.Proofs.YtiabgkiccaodmaaGreat
open Go Go.CE Go.RowKit
noncomputable section
set_option maxRecDepth 100000
def Qc5 (s:Int):Int:=if s=0 then 0 else ((s.toNat.log2+1:Nat):Int)
theorem Q5L:(List.range 64).all (fun x=> Qqb (Qm5 YP (Qau YP) Qb3 10000 158 #[.int .u64 (x:Nat)] (Qfu 0 []) ([]:List (Array Value×TypeId)).length) (.int .i64 (Qc5 (x:Nat))) [])=true:=by decide+kernel
theorem Q76 (s:Int) (h0:0<=s) (h1:s < 64):Qai YP J0 158 #[.int .u64 s] (.int .i64 (Qc5 s)):=by
 obtain ⟨k,rfl⟩:∃k:Nat,s=k:=⟨s.toNat,by omega⟩
 exact QpU okF Qab (fuel:=10000) (by kernel_rfl) (by kernel_rfl) (by kernel_rfl) (List.all_eq_true.1 Q5L k (List.mem_range.2 (by omega)))
theorem Q2I:(List.range 64).all (fun x=> decide (0<=Qc5 (x:Nat)) && decide (Qc5 (x:Nat)<=6))=true:=by decide+kernel
theorem Qf3 {s:Int} (h0:0<=s) (h1:s < 64):0<=Qc5 s/\Qc5 s<=6:=by
 obtain ⟨k,rfl⟩:∃k:Nat,s=k:=⟨s.toNat,by omega⟩
 have:=List.all_eq_true.1 Q2I k (List.mem_range.2 (by omega));simpa using this
def Qay {α:Type} [Inhabited α] (s:Int) (xs:List α) (n:Int):List α:=((upI n (Qc5 s)).filter (QkK s)).map fun k=> xs.getD k.toNat default
theorem Qfo {α:Type} [Inhabited α] {s n:Int} {xs:List α} (h:n < Qc5 s) (hb:QkK s n=true):Qay s xs n=[xs.getD n.toNat default]++Qay s xs (n+1):=by
 unfold Qay;rw [Qfy h,List.filter_cons_of_pos hb];rfl
theorem QiE {α:Type} [Inhabited α] {s n:Int} {xs:List α} (h:n < Qc5 s) (hb:QkK s n=false):Qay s xs n=Qay s xs (n+1):=by
 unfold Qay;rw [Qfy h,List.filter_cons_of_neg (by rw [hb];decide)]
theorem Qit {α:Type} [Inhabited α] {s n:Int} {xs:List α} (h:Qc5 s<=n):Qay s xs n=[]:=by
 unfold Qay;rw [QjT h];rfl
theorem Q3H {α:Type} {acc:List α} (h:acc≠[]):acc.isEmpty=false:=by
 cases acc with
 | nil=> exact absurd rfl h
 | cons x l=> rfl
theorem Q6N {α:Type} {l:List α} (h:(!([]++l).isEmpty)=false):l=[]:=by
 cases l with
 | nil=> rfl
 | cons x l=> cases h
structure Qak where
 goods:List Span
 weight:Int
 cost:Int
deriving Inhabited
def Qam (l:Qak):List Value:=[Qol l.goods,.int .i64 l.weight,.int .i64 l.cost]
abbrev Row:=List Int
def Qax (l:Row):List Value:=[slI l]

def QgU (s:Int) (xs:List (Qak)):Qar:=[(2,Obj.cells #[.slice none 0 0] 60),(1,Obj.cells #[Qat 0 (slT xs.length (Qad Qam xs))] 60),(0,Obj.coro none)]
def Qjf (s:Int) (xs:List (Qak)):CF:=⟨147,ofList 4 [.int .i64 s],[Item.code (Qaq YP 147)],[],.run,none⟩
def Qez (s:Int) (xs:List (Qak)):Array Value:=#[.int .i64 s,Qat 0 (slT xs.length (Qad Qam xs)),.tuple #[],pA 1 0,.slice none 0 0,pA 2 0,.tuple #[],.int .i64 s,Value.func (Fn.func 157) #[] #[Qat 3 (ptT 0 #[.int .i64 s])],.tuple #[],.tuple #[],.tuple #[],.tuple #[],.tuple #[],.tuple #[],.tuple #[],.tuple #[],.tuple #[]]
def Qfd (xs:List (Qak)) (n:Int):Array Value:=#[Qat 0 (slT (List.length (Qak.goods (xs.getD n.toNat default))) (Qad Qaz (Qak.goods (xs.getD n.toNat default)))),.int .i64 (Qak.weight (xs.getD n.toNat default)),.int .i64 (Qak.cost (xs.getD n.toNat default))]
def Qio (xs:List (Qak)) (n:Int):Array Value:=#[slT (List.length (Qak.goods (xs.getD n.toNat default))) (Qad Qaz (Qak.goods (xs.getD n.toNat default))),.int .i64 (Qak.weight (xs.getD n.toNat default)),.int .i64 (Qak.cost (xs.getD n.toNat default))]
theorem Q1k (B:Lo) (s:Int) (xs:List (Qak)):CE.finK 3 (Qah YP (Qau YP) J0 B 6 3 (Qjf s xs) (QgU s xs) 3
 [] 0 [] []) [] [] [{k:=3,rs:=[],cs:=#[.int .i64 s]}]=some (OO.ret (Value.func (Fn.func 157) #[] #[Qat 3 (ptT 0 #[.int .i64 s])]),[],[],
 [Qbl (Fz.rs {k:=3,rs:=[],cs:=#[.int .i64 s]}) #[.int .i64 s] (Fz.cs {k:=3,rs:=[],cs:=#[.int .i64 s]})]):=by kernel_rfl
def Qmg (B:Lo) (s:Int) (xs:List (Qak)):List Prop:=[FJ YP B (Qjf s xs) (QgU s xs) 3 (OO.ret (Value.func (Fn.func 157) #[] #[Qat 3 (ptT 0 #[.int .i64 s])])) (([]++((3,Qbc)::QaA (3+1) []))++QgU s xs) 4 (List.range 3) []]++([]:List Prop)
def Qq0 (s:Int) (xs:List (Qak)):Qan:=[(4,Qaf.call (List.range 3) (OO.ret (Value.func (Fn.func 157) #[] #[Qat 3 (ptT 0 #[.int .i64 s])])) ([]++(3,Qbc)::QaA 4 []) 4 [])]
def Qbi (s:Int) (xs:List (Qak)):Qar:=[(5,Obj.loop {state:=LoopState.ready,pending:=none,fn:=139,tmps:=#[.int .i64 s,Qat 0 (slT xs.length (Qad Qam xs)),.tuple #[],pA 1 0,.slice none 0 0,pA 2 0,.tuple #[],.int .i64 s,Value.func (Fn.func 157) #[] #[Qat 3 (ptT 0 #[.int .i64 s])],.tuple #[],.tuple #[],.tuple #[],.tuple #[],.tuple #[],.tuple #[],.tuple #[],.tuple #[],.tuple #[]],params:=#[9],assign:=nav (Qaq YP 139) [1,1,0,1,0,0],body:=nav (Qaq YP 139) [1,1,0,1,0,1],defers:=4}),(4,Obj.deferred (some [])),(3,Obj.coro none),(2,Obj.cells #[.slice none 0 0] 60),(1,Obj.cells #[Qat 0 (slT xs.length (Qad Qam xs))] 60),(0,Obj.coro none)]
def Qc9 (s:Int) (xs:List (Qak)):CF:=⟨157,ofList 20 [Value.func (Fn.yield 5) #[] #[],Qat 3 (ptT 0 #[.int .i64 s])],[Item.code (Qaq YP 157)],[],.run,none⟩
def QcZ (s:Int) (xs:List (Qak)) (n:Int):List Value:=[Value.func (Fn.yield 5) #[] #[],Qat 3 (ptT 0 #[.int .i64 s]),.int .i64 (Qc5 s),.int .i64 n]
def QcX (s:Int) (xs:List (Qak)) (n:Int):List Obj:=[Obj.loop {state:=LoopState.ready,pending:=none,fn:=139,tmps:=#[.int .i64 s,Qat 0 (slT xs.length (Qad Qam xs)),.tuple #[],pA 1 0,.slice none 0 0,pA 2 0,.tuple #[],.int .i64 s,Value.func (Fn.func 157) #[] #[Qat 3 (ptT 0 #[.int .i64 s])],.tuple #[],.tuple #[],.tuple #[],.tuple #[],.tuple #[],.tuple #[],.tuple #[],.tuple #[],.tuple #[]],params:=#[9],assign:=nav (Qaq YP 139) [1,1,0,1,0,0],body:=nav (Qaq YP 139) [1,1,0,1,0,1],defers:=4},.cells #[.slice none 0 0] 60 (0,0)]
def Qb5 (s:Int) (xs:List (Qak)) (n:Int):List Obj:=[]
def Qdh:List Item:=([.code [1,0,0],.inLoop [1,0,0],.inBlock 0]).map (it (Qaq YP 157))
def Qda (s:Int) (xs:List (Qak)) (n:Int) (acc:List Qak) (acc_n:Nat):List Value:=[Value.func (Fn.yield 5) #[] #[],Qat 3 (ptT 0 #[.int .i64 s]),.int .i64 (Qc5 s),.int .i64 n]
def QcQ (s:Int) (xs:List (Qak)) (n:Int) (acc:List Qak) (acc_n:Nat):List Obj:=[Obj.loop {state:=LoopState.ready,pending:=none,fn:=139,tmps:=#[.int .i64 s,Qat 0 (slT xs.length (Qad Qam xs)),.tuple #[],pA 1 0,.slice none 0 0,pA 2 0,.tuple #[],.int .i64 s,Value.func (Fn.func 157) #[] #[Qat 3 (ptT 0 #[.int .i64 s])],.tuple #[],.tuple #[],.tuple #[],.tuple #[],.tuple #[],.tuple #[],.tuple #[],.tuple #[],.tuple #[]],params:=#[9],assign:=nav (Qaq YP 139) [1,1,0,1,0,0],body:=nav (Qaq YP 139) [1,1,0,1,0,1],defers:=4},.cells #[.slice (some ⟨7,0,none⟩) acc_n 3] 60 (0,0)]
def Qb7 (s:Int) (xs:List (Qak)) (n:Int) (acc:List Qak) (acc_n:Nat):List Obj:=[Obj.cells (Qad (QaG 0 Qam) acc) 118 (0,0)]
def QcS:List Item:=([.code [1,0,0],.inLoop [1,0,0],.inBlock 0]).map (it (Qaq YP 157))
def Qms (B:Lo) (s:Int) (xs:List (Qak)) (n:Int) (dJ0:Nat->Value):List Prop:=[ltq n (Qc5 s)=true]++([]:List Prop)
def Qrm (s:Int) (xs:List (Qak)) (n:Int) (dJ0:Nat->Value):Qan:=[(0,hvT)]
def QgX (s:Int) (xs:List (Qak)) (n:Int) (dJ0:Nat->Value):Qar:=[(5,Obj.loop {state:=LoopState.ready,pending:=none,fn:=139,tmps:=#[.int .i64 s,Qat 0 (slT xs.length (Qad Qam xs)),.tuple #[],pA 1 0,.slice none 0 0,pA 2 0,.tuple #[],.int .i64 s,Value.func (Fn.func 157) #[] #[Qat 3 (ptT 0 #[.int .i64 s])],.tuple #[],.tuple #[],.tuple #[],.tuple #[],.tuple #[],.tuple #[],.tuple #[],.tuple #[],.tuple #[]],params:=#[9],assign:=nav (Qaq YP 139) [1,1,0,1,0,0],body:=nav (Qaq YP 139) [1,1,0,1,0,1],defers:=4}),(2,Obj.cells #[.slice none 0 0] 60),(6,Obj.coro none),(5,Obj.loop {state:=LoopState.ready,pending:=none,fn:=139,tmps:=#[.int .i64 s,Qat 0 (slT xs.length (Qad Qam xs)),.tuple #[],pA 1 0,.slice none 0 0,pA 2 0,.tuple #[],.int .i64 s,Value.func (Fn.func 157) #[] #[Qat 3 (ptT 0 #[.int .i64 s])],.tuple #[],.tuple #[],.tuple #[],.tuple #[],.tuple #[],.tuple #[],.tuple #[],.tuple #[],.tuple #[]],params:=#[9],assign:=nav (Qaq YP 139) [1,1,0,1,0,0],body:=nav (Qaq YP 139) [1,1,0,1,0,1],defers:=4}),(4,Obj.deferred (some [])),(3,Obj.coro none),(2,Obj.cells #[.slice none 0 0] 60),(1,Obj.cells #[Qat 0 (slT xs.length (Qad Qam xs))] 60),(0,Obj.coro none)]
def Qjh (s:Int) (xs:List (Qak)) (n:Int) (dJ0:Nat->Value):CF:=⟨139,ofList 18 [.int .i64 s,Qat 0 (slT xs.length (Qad Qam xs)),.tuple #[],pA 1 0,.slice none 0 0,pA 2 0,.tuple #[],.int .i64 s,Value.func (Fn.func 157) #[] #[Qat 3 (ptT 0 #[.int .i64 s])],.int .i64 n,.tuple #[],.tuple #[],.tuple #[],.tuple #[],.tuple #[],.tuple #[],.tuple #[],.tuple #[]],[Item.code (nav (Qaq YP 139) [1,1,0,1,0,0]),Item.beginRound,Item.code (nav (Qaq YP 139) [1,1,0,1,0,1])],[],.run,some 5⟩
theorem Q1H (B:Lo) (s:Int) (xs:List (Qak)) (n:Int) (dJ0:Nat->Value):CE.finK 7 (Qah YP (Qau YP) J0 B 6 7 (Qjh s xs n dJ0) (QgX s xs n dJ0) 7
 [(4,Qaf.tidx n.toNat (Qio xs n))] 0 [] []) [(5,KS.auto),(2,KS.auto)] [(8,KS.auto)] []=some (OO.ret (.bool true),[(5,Obj.loop {state:=LoopState.ready,pending:=none,fn:=139,tmps:=#[.int .i64 s,Qat 0 (slT xs.length (Qad Qam xs)),.tuple #[],pA 1 0,.slice none 0 0,pA 2 0,.tuple #[],.int .i64 s,Value.func (Fn.func 157) #[] #[Qat 3 (ptT 0 #[.int .i64 s])],.tuple #[],.tuple #[],.tuple #[],.tuple #[],.tuple #[],.tuple #[],.tuple #[],.tuple #[],.tuple #[]],params:=#[9],assign:=nav (Qaq YP 139) [1,1,0,1,0,0],body:=nav (Qaq YP 139) [1,1,0,1,0,1],defers:=4}),(2,Obj.cells #[.slice (some {block:=8,off:=0}) 1 3] 60)],[Obj.cells #[Qat 0 (slT (List.length (Qak.goods (xs.getD n.toNat default))) (Qad Qaz (Qak.goods (xs.getD n.toNat default)))),.int .i64 (Qak.weight (xs.getD n.toNat default)),.int .i64 (Qak.cost (xs.getD n.toNat default))] 118],
 [n=(↑n.toNat:Int)/\Int.toNat n < List.length xs/\Array.extract (Qad Qam xs) (Int.toNat n * TypeInfo.size Tryz.t118) (Int.toNat n * TypeInfo.size Tryz.t118+TypeInfo.size Tryz.t118)=(Qio xs n)]):=by kernel_rfl
theorem Q05 (B:Lo) (s:Int) (xs:List (Qak)) (n:Int) (dJ0:Nat->Value):CE.landA 6 (Qah YP (Qau YP) J0 B 16 6 (Qc6 (none) 157 20 (([0,1,6,7]:List Nat).zip (QcZ s xs n)) dJ0 Qdh) (QbM (Qbi s xs) 6 (([5,2]:List Nat).zip (QcX s xs n)) (Qb5 s xs n)) (6+1+(Qb5 s xs n).length)
 (Qrm s xs n dJ0++[(5,Qaf.pure (.bool true) []),(9,Qaf.call (List.range 7) (OO.ret (.bool true)) ([(5,Obj.loop {state:=LoopState.ready,pending:=none,fn:=139,tmps:=(Qez s xs),params:=#[9],assign:=nav (Qaq YP 139) [1,1,0,1,0,0],body:=nav (Qaq YP 139) [1,1,0,1,0,1],defers:=4}),(2,Obj.cells #[.slice (some {block:=8,off:=0}) 1 3] 60)]++(7,Qbc)::QaA 8 [Obj.cells (Qfd xs n) 118]) 9 [5,2]),(12,hvI (n+1))]) 0 [] []) [0,1,6,7] [(5,KS.auto),(2,KS.auto)] [(8,KS.rows [(0,0)] [] (Qad (QaG 0 Qam) [xs.getD n.toNat default]))] []=some ⟨157,20,QcS,[],.run,none,Qda s xs (n+1) ([xs.getD n.toNat default]) (1),([5,2]:List Nat).zip (QcQ s xs (n+1) ([xs.getD n.toNat default]) (1)),Qb7 s xs (n+1) ([xs.getD n.toNat default]) (1),
 [Qbu 6 [(0,0)] [] (Qfd xs n) (Qad (QaG 0 Qam) [xs.getD n.toNat default]),wq (n+1)=n+1,FJ YP B (Qjh s xs n dJ0) (QgX s xs n dJ0) 7 (OO.ret (.bool true)) (([(5,Obj.loop {state:=LoopState.ready,pending:=none,fn:=139,tmps:=(Qez s xs),params:=#[9],assign:=nav (Qaq YP 139) [1,1,0,1,0,0],body:=nav (Qaq YP 139) [1,1,0,1,0,1],defers:=4}),(2,Obj.cells #[.slice (some {block:=8,off:=0}) 1 3] 60)]++((7,Qbc)::QaA (7+1) [Obj.cells (Qfd xs n) 118]))++QgX s xs n dJ0) 9 (List.range 7) [5,2],Qas []/\Qai YP J0 159 #[.int .i64 s,.int .i64 n] (.bool true)]++Qms B s xs n dJ0⟩:=by kernel_rfl
theorem Q1G (B:Lo) (s:Int) (xs:List (Qak)) (n:Int) (dJ0:Nat->Value):CE.landA 6 (Qah YP (Qau YP) J0 B 16 6 (Qc6 (none) 157 20 (([0,1,6,7]:List Nat).zip (QcZ s xs n)) dJ0 Qdh) (QbM (Qbi s xs) 6 (([5,2]:List Nat).zip (QcX s xs n)) (Qb5 s xs n)) (6+1+(Qb5 s xs n).length)
 (Qrm s xs n dJ0++[(5,Qaf.pure (.bool false) []),(12,hvI (n+1))]) 0 [] []) [0,1,6,7] [(5,KS.auto),(2,KS.auto)] [] []=some ⟨157,20,Qdh,[],.run,none,QcZ s xs (n+1),([5,2]:List Nat).zip (QcX s xs (n+1)),Qb5 s xs (n+1),
 [wq (n+1)=n+1,Qas []/\Qai YP J0 159 #[.int .i64 s,.int .i64 n] (.bool false)]++Qms B s xs n dJ0⟩:=by kernel_rfl
theorem QxA (B:Lo) (s:Int) (xs:List (Qak)) (n:Int) (dJ0:Nat->Value):CE.finK 6 (Qah YP (Qau YP) J0 B 7 6 (Qc6 (none) 157 20 (([0,1,6,7]:List Nat).zip (QcZ s xs n)) dJ0 Qdh) (QbM (Qbi s xs) 6 (([5,2]:List Nat).zip (QcX s xs n)) (Qb5 s xs n)) (6+1+(Qb5 s xs n).length)
 [(0,hvF)] 0 [] []) [(5,KS.auto),(2,KS.auto)] [] []=some (OO.ret (.tuple #[]),[(5,Obj.loop {state:=LoopState.ready,pending:=none,fn:=139,tmps:=#[.int .i64 s,Qat 0 (slT xs.length (Qad Qam xs)),.tuple #[],pA 1 0,.slice none 0 0,pA 2 0,.tuple #[],.int .i64 s,Value.func (Fn.func 157) #[] #[Qat 3 (ptT 0 #[.int .i64 s])],.tuple #[],.tuple #[],.tuple #[],.tuple #[],.tuple #[],.tuple #[],.tuple #[],.tuple #[],.tuple #[]],params:=#[9],assign:=nav (Qaq YP 139) [1,1,0,1,0,0],body:=nav (Qaq YP 139) [1,1,0,1,0,1],defers:=4}),(2,Obj.cells #[.slice none 0 0] 60)],[],
 [ltq n (Qc5 s)=false]):=by kernel_rfl
def QlK (B:Lo) (s:Int) (xs:List (Qak)) (n:Int) (acc:List Qak) (acc_n:Nat) (dJ0:Nat->Value):List Prop:=[ltq n (Qc5 s)=true]++([]:List Prop)
def QrM (s:Int) (xs:List (Qak)) (n:Int) (acc:List Qak) (acc_n:Nat) (dJ0:Nat->Value):Qan:=[(0,hvT)]
def QgM (s:Int) (xs:List (Qak)) (n:Int) (acc:List Qak) (acc_n:Nat) (dJ0:Nat->Value):Qar:=[(5,Obj.loop {state:=LoopState.ready,pending:=none,fn:=139,tmps:=#[.int .i64 s,Qat 0 (slT xs.length (Qad Qam xs)),.tuple #[],pA 1 0,.slice none 0 0,pA 2 0,.tuple #[],.int .i64 s,Value.func (Fn.func 157) #[] #[Qat 3 (ptT 0 #[.int .i64 s])],.tuple #[],.tuple #[],.tuple #[],.tuple #[],.tuple #[],.tuple #[],.tuple #[],.tuple #[],.tuple #[]],params:=#[9],assign:=nav (Qaq YP 139) [1,1,0,1,0,0],body:=nav (Qaq YP 139) [1,1,0,1,0,1],defers:=4}),(2,Obj.cells #[.slice (some {block:=7,off:=0}) acc_n 3] 60),(6,Obj.coro none),(7,Obj.cells (Qad (QaG 0 Qam) acc) 118),(5,Obj.loop {state:=LoopState.ready,pending:=none,fn:=139,tmps:=#[.int .i64 s,Qat 0 (slT xs.length (Qad Qam xs)),.tuple #[],pA 1 0,.slice none 0 0,pA 2 0,.tuple #[],.int .i64 s,Value.func (Fn.func 157) #[] #[Qat 3 (ptT 0 #[.int .i64 s])],.tuple #[],.tuple #[],.tuple #[],.tuple #[],.tuple #[],.tuple #[],.tuple #[],.tuple #[],.tuple #[]],params:=#[9],assign:=nav (Qaq YP 139) [1,1,0,1,0,0],body:=nav (Qaq YP 139) [1,1,0,1,0,1],defers:=4}),(4,Obj.deferred (some [])),(3,Obj.coro none),(2,Obj.cells #[.slice none 0 0] 60),(1,Obj.cells #[Qat 0 (slT xs.length (Qad Qam xs))] 60),(0,Obj.coro none)]
def Qiz (s:Int) (xs:List (Qak)) (n:Int) (acc:List Qak) (acc_n:Nat) (dJ0:Nat->Value):CF:=⟨139,ofList 18 [.int .i64 s,Qat 0 (slT xs.length (Qad Qam xs)),.tuple #[],pA 1 0,.slice none 0 0,pA 2 0,.tuple #[],.int .i64 s,Value.func (Fn.func 157) #[] #[Qat 3 (ptT 0 #[.int .i64 s])],.int .i64 n,.tuple #[],.tuple #[],.tuple #[],.tuple #[],.tuple #[],.tuple #[],.tuple #[],.tuple #[]],[Item.code (nav (Qaq YP 139) [1,1,0,1,0,0]),Item.beginRound,Item.code (nav (Qaq YP 139) [1,1,0,1,0,1])],[],.run,some 5⟩
theorem Qyi (B:Lo) (s:Int) (xs:List (Qak)) (n:Int) (acc:List Qak) (acc_n:Nat) (dJ0:Nat->Value):CE.finK 8 (Qah YP (Qau YP) J0 B 6 8 (Qiz s xs n acc acc_n dJ0) (QgM s xs n acc acc_n dJ0) 8
 [(4,Qaf.tidx n.toNat (Qio xs n)),(7,Qaf.old (Hint.app (Qad (QaG 0 Qam) acc++(Qfd xs n))))] 0 [] []) [(7,KS.dead),(5,KS.auto),(2,KS.auto)] [(9,KS.rows [(0,0)] [] (Qad (QaG 0 Qam) (acc++[xs.getD n.toNat default])))] []=some (OO.ret (.bool true),[(7,Obj.pending #[] 0),(5,Obj.loop {state:=LoopState.ready,pending:=none,fn:=139,tmps:=#[.int .i64 s,Qat 0 (slT xs.length (Qad Qam xs)),.tuple #[],pA 1 0,.slice none 0 0,pA 2 0,.tuple #[],.int .i64 s,Value.func (Fn.func 157) #[] #[Qat 3 (ptT 0 #[.int .i64 s])],.tuple #[],.tuple #[],.tuple #[],.tuple #[],.tuple #[],.tuple #[],.tuple #[],.tuple #[],.tuple #[]],params:=#[9],assign:=nav (Qaq YP 139) [1,1,0,1,0,0],body:=nav (Qaq YP 139) [1,1,0,1,0,1],defers:=4}),(2,Obj.cells #[.slice (some {block:=9,off:=0}) (acc_n+1) 3] 60)],[Obj.cells (Qad (QaG 0 Qam) (acc++[xs.getD n.toNat default])) 118],
 [Qbu 8 [(0,0)] [] (Qad (QaG 0 Qam) acc++(Qfd xs n)) (Qad (QaG 0 Qam) (acc++[xs.getD n.toNat default])),Array.size (Qad (QaG 0 Qam) acc)=acc_n * (2+1)/\acc_n+1<=maxLen/\(acc_n+1) * 40<=140737488355328/\Qad (QaG 0 Qam) acc++(Qfd xs n)=Qad (QaG 0 Qam) acc++(Qfd xs n),n=(↑n.toNat:Int)/\Int.toNat n < List.length xs/\Array.extract (Qad Qam xs) (Int.toNat n * TypeInfo.size Tryz.t118) (Int.toNat n * TypeInfo.size Tryz.t118+TypeInfo.size Tryz.t118)=(Qio xs n)]):=by kernel_rfl
theorem Q1t (B:Lo) (s:Int) (xs:List (Qak)) (n:Int) (acc:List Qak) (acc_n:Nat) (dJ0:Nat->Value):CE.landA 6 (Qah YP (Qau YP) J0 B 16 6 (Qc6 (none) 157 20 (([0,1,6,7]:List Nat).zip (Qda s xs n acc acc_n)) dJ0 QcS) (QbM (Qbi s xs) 6 (([5,2]:List Nat).zip (QcQ s xs n acc acc_n)) (Qb7 s xs n acc acc_n)) (6+1+(Qb7 s xs n acc acc_n).length)
 (QrM s xs n acc acc_n dJ0++[(5,Qaf.pure (.bool true) []),(9,Qaf.call (List.range 8) (OO.ret (.bool true)) ([(7,Obj.pending #[] 0),(5,Obj.loop {state:=LoopState.ready,pending:=none,fn:=139,tmps:=(Qez s xs),params:=#[9],assign:=nav (Qaq YP 139) [1,1,0,1,0,0],body:=nav (Qaq YP 139) [1,1,0,1,0,1],defers:=4}),(2,Obj.cells #[.slice (some {block:=9,off:=0}) (acc_n+1) 3] 60)]++(8,Qbc)::QaA 9 [Obj.cells (Qad (QaG 0 Qam) (acc++[xs.getD n.toNat default])) 118]) 10 [7,5,2]),(12,hvI (n+1))]) 0 [] []) [0,1,6,7] [(5,KS.auto),(2,KS.auto)] [(9,KS.rows [(0,0)] [] (Qad (QaG 0 Qam) (acc++[xs.getD n.toNat default])))] []=some ⟨157,20,QcS,[],.run,none,Qda s xs (n+1) (acc++[xs.getD n.toNat default]) (acc_n+1),([5,2]:List Nat).zip (QcQ s xs (n+1) (acc++[xs.getD n.toNat default]) (acc_n+1)),Qb7 s xs (n+1) (acc++[xs.getD n.toNat default]) (acc_n+1),
 [Qbu 6 [(0,0)] [] (Qad (QaG 0 Qam) (acc++[xs.getD n.toNat default])) (Qad (QaG 0 Qam) (acc++[xs.getD n.toNat default])),wq (n+1)=n+1,FJ YP B (Qiz s xs n acc acc_n dJ0) (QgM s xs n acc acc_n dJ0) 8 (OO.ret (.bool true)) (([(7,Obj.pending #[] 0),(5,Obj.loop {state:=LoopState.ready,pending:=none,fn:=139,tmps:=(Qez s xs),params:=#[9],assign:=nav (Qaq YP 139) [1,1,0,1,0,0],body:=nav (Qaq YP 139) [1,1,0,1,0,1],defers:=4}),(2,Obj.cells #[.slice (some {block:=9,off:=0}) (acc_n+1) 3] 60)]++((8,Qbc)::QaA (8+1) [Obj.cells (Qad (QaG 0 Qam) (acc++[xs.getD n.toNat default])) 118]))++QgM s xs n acc acc_n dJ0) 10 (List.range 8) [7,5,2],Qas []/\Qai YP J0 159 #[.int .i64 s,.int .i64 n] (.bool true)]++QlK B s xs n acc acc_n dJ0⟩:=by kernel_rfl
theorem QxH (B:Lo) (s:Int) (xs:List (Qak)) (n:Int) (acc:List Qak) (acc_n:Nat) (dJ0:Nat->Value):CE.landA 6 (Qah YP (Qau YP) J0 B 16 6 (Qc6 (none) 157 20 (([0,1,6,7]:List Nat).zip (Qda s xs n acc acc_n)) dJ0 QcS) (QbM (Qbi s xs) 6 (([5,2]:List Nat).zip (QcQ s xs n acc acc_n)) (Qb7 s xs n acc acc_n)) (6+1+(Qb7 s xs n acc acc_n).length)
 (QrM s xs n acc acc_n dJ0++[(5,Qaf.pure (.bool false) []),(12,hvI (n+1))]) 0 [] []) [0,1,6,7] [(5,KS.auto),(2,KS.auto)] [(7,KS.rows [(0,0)] [] (Qad (QaG 0 Qam) acc))] []=some ⟨157,20,QcS,[],.run,none,Qda s xs (n+1) (acc) (acc_n),([5,2]:List Nat).zip (QcQ s xs (n+1) (acc) (acc_n)),Qb7 s xs (n+1) (acc) (acc_n),
 [Qbu 6 [(0,0)] [] (Qad (QaG 0 Qam) acc) (Qad (QaG 0 Qam) acc),wq (n+1)=n+1,Qas []/\Qai YP J0 159 #[.int .i64 s,.int .i64 n] (.bool false)]++QlK B s xs n acc acc_n dJ0⟩:=by kernel_rfl
theorem Q1M (B:Lo) (s:Int) (xs:List (Qak)) (n:Int) (acc:List Qak) (acc_n:Nat) (dJ0:Nat->Value):CE.finK 6 (Qah YP (Qau YP) J0 B 7 6 (Qc6 (none) 157 20 (([0,1,6,7]:List Nat).zip (Qda s xs n acc acc_n)) dJ0 QcS) (QbM (Qbi s xs) 6 (([5,2]:List Nat).zip (QcQ s xs n acc acc_n)) (Qb7 s xs n acc acc_n)) (6+1+(Qb7 s xs n acc acc_n).length)
 [(0,hvF)] 0 [] []) [(5,KS.auto),(2,KS.auto)] [(7,KS.rows [(0,0)] [] (Qad (QaG 0 Qam) acc))] []=some (OO.ret (.tuple #[]),[(5,Obj.loop {state:=LoopState.ready,pending:=none,fn:=139,tmps:=#[.int .i64 s,Qat 0 (slT xs.length (Qad Qam xs)),.tuple #[],pA 1 0,.slice none 0 0,pA 2 0,.tuple #[],.int .i64 s,Value.func (Fn.func 157) #[] #[Qat 3 (ptT 0 #[.int .i64 s])],.tuple #[],.tuple #[],.tuple #[],.tuple #[],.tuple #[],.tuple #[],.tuple #[],.tuple #[],.tuple #[]],params:=#[9],assign:=nav (Qaq YP 139) [1,1,0,1,0,0],body:=nav (Qaq YP 139) [1,1,0,1,0,1],defers:=4}),(2,Obj.cells #[.slice (some {block:=7,off:=0}) acc_n 3] 60)],[Obj.cells (Qad (QaG 0 Qam) acc) 118],
 [Qbu 6 [(0,0)] [] (Qad (QaG 0 Qam) acc) (Qad (QaG 0 Qam) acc),ltq n (Qc5 s)=false]):=by kernel_rfl
set_option maxHeartbeats 4000000 in
theorem Qks (s:Int) (xs:List (Qak)) (h0:0<=s) (h1:s < 64) (hx:Qc5 s<=xs.length) {B:Lo} (hJ:∀w,B.has w->J0 w):∀m:Nat,(∀(n:Int),∀(r:Bool),(!(([]:List Qak)++Qay s xs n).isEmpty)=r->(Qc5 s - n).toNat=m->∀(hn:0<=n),(∃dJ0:Nat->Value,(∀t,Qbg (dJ0 t))/\GoE YP B (Qc9 s xs) (Qbi s xs) 6 (Qc6 (none) 157 20 (([0,1,6,7]:List Nat).zip (QcZ s xs n)) dJ0 Qdh) (QbM (Qbi s xs) 6 (([5,2]:List Nat).zip (QcX s xs n)) (Qb5 s xs n)) (6+1+(Qb5 s xs n).length) ([5,2]:List Nat))->FinK YP B (Qc9 s xs) (Qbi s xs) 6 (.ret (.tuple #[])) (([5,2]:List Nat).zip ([Obj.loop {state:=LoopState.ready,pending:=none,fn:=139,tmps:=#[.int .i64 s,Qat 0 (slT xs.length (Qad Qam xs)),.tuple #[],pA 1 0,.slice none 0 0,pA 2 0,.tuple #[],.int .i64 s,Value.func (Fn.func 157) #[] #[Qat 3 (ptT 0 #[.int .i64 s])],.tuple #[],.tuple #[],.tuple #[],.tuple #[],.tuple #[],.tuple #[],.tuple #[],.tuple #[],.tuple #[]],params:=#[9],assign:=nav (Qaq YP 139) [1,1,0,1,0,0],body:=nav (Qaq YP 139) [1,1,0,1,0,1],defers:=4},.cells #[bif r then .slice (some ⟨7,0,none⟩) (([]:List Qak)++Qay s xs n).length 3 else .slice none 0 0] 60 (0,0)])) (bif r then [Go.Obj.cells (Qad (QaG 0 Qam) (([]:List Qak)++Qay s xs n)) 118 (0,0)] else []) ([5,2]:List Nat))/\(∀(n:Int) (acc:List Qak) (acc_n:Nat),∀(r:Bool),(!(acc++Qay s xs n).isEmpty)=r->(Qc5 s - n).toNat=m->∀(hn:0<=n) (hacc:acc_n=acc.length) (haccb:acc≠[]/\(acc_n:Int)<=n),(∃dJ0:Nat->Value,(∀t,Qbg (dJ0 t))/\GoE YP B (Qc9 s xs) (Qbi s xs) 6 (Qc6 (none) 157 20 (([0,1,6,7]:List Nat).zip (Qda s xs n acc acc_n)) dJ0 QcS) (QbM (Qbi s xs) 6 (([5,2]:List Nat).zip (QcQ s xs n acc acc_n)) (Qb7 s xs n acc acc_n)) (6+1+(Qb7 s xs n acc acc_n).length) ([5,2]:List Nat))->FinK YP B (Qc9 s xs) (Qbi s xs) 6 (.ret (.tuple #[])) (([5,2]:List Nat).zip ([Obj.loop {state:=LoopState.ready,pending:=none,fn:=139,tmps:=#[.int .i64 s,Qat 0 (slT xs.length (Qad Qam xs)),.tuple #[],pA 1 0,.slice none 0 0,pA 2 0,.tuple #[],.int .i64 s,Value.func (Fn.func 157) #[] #[Qat 3 (ptT 0 #[.int .i64 s])],.tuple #[],.tuple #[],.tuple #[],.tuple #[],.tuple #[],.tuple #[],.tuple #[],.tuple #[],.tuple #[]],params:=#[9],assign:=nav (Qaq YP 139) [1,1,0,1,0,0],body:=nav (Qaq YP 139) [1,1,0,1,0,1],defers:=4},.cells #[bif r then .slice (some ⟨7,0,none⟩) (acc++Qay s xs n).length 3 else .slice none 0 0] 60 (0,0)])) (bif r then [Go.Obj.cells (Qad (QaG 0 Qam) (acc++Qay s xs n)) 118 (0,0)] else []) ([5,2]:List Nat)):=by
 intro m0;induction m0 using Nat.strongRecOn with
 | _ m0 ih0=>
   refine ⟨?_, ?_⟩
   ·intro n r1 hr1 hm0 hn ⟨dJ0,hdJ0,hg0⟩;have hl:=Qf3 h0 h1;by_cases q0:(n:Int) < (Qc5 s)
    ·have hp1:Qas (Qms B s xs n dJ0):=by
      exact ⟨(Qbq q0),trivial⟩
     cases q1:QkK s n with
     | true=>
       have rj2:FJ YP B (Qjh s xs n dJ0) (QgX s xs n dJ0) 7 (OO.ret (.bool true)) (([(5,Obj.loop {state:=LoopState.ready,pending:=none,fn:=139,tmps:=#[.int .i64 s,Qat 0 (slT xs.length (Qad Qam xs)),.tuple #[],pA 1 0,.slice none 0 0,pA 2 0,.tuple #[],.int .i64 s,Value.func (Fn.func 157) #[] #[Qat 3 (ptT 0 #[.int .i64 s])],.tuple #[],.tuple #[],.tuple #[],.tuple #[],.tuple #[],.tuple #[],.tuple #[],.tuple #[],.tuple #[]],params:=#[9],assign:=nav (Qaq YP 139) [1,1,0,1,0,0],body:=nav (Qaq YP 139) [1,1,0,1,0,1],defers:=4}),(2,Obj.cells #[.slice (some {block:=8,off:=0}) 1 3] 60)]++((7,Qbc)::QaA (7+1) [Obj.cells #[Qat 0 (slT (List.length (Qak.goods (xs.getD n.toNat default))) (Qad Qaz (Qak.goods (xs.getD n.toNat default)))),.int .i64 (Qak.weight (xs.getD n.toNat default)),.int .i64 (Qak.cost (xs.getD n.toNat default))] 118]))++QgX s xs n dJ0) 9 (List.range 7) [5,2]:=by
        have s2:=Qfo (s:=s) (xs:=xs) q0 q1;exact FinK.fjB (GoE.finK okF hJ Qab (Qaj (by kernel_rfl)) (Qag (by kernel_rfl)) ((GoE.refl (P:=YP) (B:=B) (c0:=Qjh s xs n dJ0) (Qaj (by kernel_rfl))).widen (Wf:=((([(5,KS.auto),(2,KS.auto)]):List (Nat×KS)).map (·.1))) (by simp) (Qag (by kernel_rfl))) (Q1H B s xs n dJ0)
         ⟨⟨by omega,by omega,(Qao (z:=3) (fun _=> rfl) (by omega))⟩,trivial⟩) (ex:=[]) (by kernel_rfl) (QaX _)
       have s2:=Qfo (s:=s) (xs:=xs) q0 q1;exact ((ih0 _ (by omega)).2 (n+1) ([xs.getD n.toNat default]) (1) r1 (by (rw [<-hr1,s2];simp;done)) rfl (by omega) (by (simp_all;done)) (by (refine ⟨by simp, ?_⟩;omega))
        (GoE.landA okF hJ Qab (Qaj (by kernel_rfl)) (Qag (by kernel_rfl)) hg0 (Q05 B s xs n dJ0)
        ⟨(by exact (Qoj (by exact ⟨(.reg (List.Mem.head _) rfl),⟨(.simple rfl),⟨(.simple rfl),trivial⟩⟩⟩))),⟨(QaR (by omega) (by omega)),⟨rj2,⟨⟨trivial,(by have t_:=Q44 (s) (n) (by omega) (by omega);rw [q1] at t_;exact t_)⟩,hp1⟩⟩⟩⟩ (by kernel_rfl) (by kernel_rfl) (fun l hl=> by cases hl <;> decide))).cast (by rfl) (by (rw [s2];rfl)) (by (rw [s2];rfl))
     | false=>
       have s2:=QiE (s:=s) (xs:=xs) q0 q1;exact ((ih0 _ (by omega)).1 (n+1) r1 (by (rw [<-hr1,s2];done)) rfl (by omega)
        (GoE.landA okF hJ Qab (Qaj (by kernel_rfl)) (Qag (by kernel_rfl)) hg0 (Q1G B s xs n dJ0)
        ⟨(QaR (by omega) (by omega)),⟨⟨trivial,(by have t_:=Q44 (s) (n) (by omega) (by omega);rw [q1] at t_;exact t_)⟩,hp1⟩⟩ (by kernel_rfl) (by kernel_rfl) (fun l hl=> by cases hl <;> decide))).cast (by rfl) (by (rw [s2];done)) (by (rw [s2];done))
    ·have s2:=Qit (s:=s) (xs:=xs) (n:=n) (by omega);exact (GoE.finK okF hJ Qab (Qaj (by kernel_rfl)) (Qag (by kernel_rfl)) hg0 (QxA B s xs n dJ0)
      ⟨(Qbj (Int.not_lt.1 q0)),trivial⟩).cast (by rfl) (by (subst hr1;rw [s2];rfl)) (by (subst hr1;rw [s2];rfl))
   ·intro n acc acc_n r1 hr1 hm0 hn hacc haccb ⟨dJ0,hdJ0,hg0⟩;have hl:=Qf3 h0 h1;by_cases q0:(n:Int) < (Qc5 s)
    ·have hp2:Qas (QlK B s xs n acc acc_n dJ0):=by
      exact ⟨(Qbq q0),trivial⟩
     cases q1:QkK s n with
     | true=>
       have rj2:FJ YP B (Qiz s xs n acc acc_n dJ0) (QgM s xs n acc acc_n dJ0) 8 (OO.ret (.bool true)) (([(7,Obj.pending #[] 0),(5,Obj.loop {state:=LoopState.ready,pending:=none,fn:=139,tmps:=#[.int .i64 s,Qat 0 (slT xs.length (Qad Qam xs)),.tuple #[],pA 1 0,.slice none 0 0,pA 2 0,.tuple #[],.int .i64 s,Value.func (Fn.func 157) #[] #[Qat 3 (ptT 0 #[.int .i64 s])],.tuple #[],.tuple #[],.tuple #[],.tuple #[],.tuple #[],.tuple #[],.tuple #[],.tuple #[],.tuple #[]],params:=#[9],assign:=nav (Qaq YP 139) [1,1,0,1,0,0],body:=nav (Qaq YP 139) [1,1,0,1,0,1],defers:=4}),(2,Obj.cells #[.slice (some {block:=9,off:=0}) (acc_n+1) 3] 60)]++((8,Qbc)::QaA (8+1) [Obj.cells (Qad (QaG 0 Qam) (acc++[xs.getD n.toNat default])) 118]))++QgM s xs n acc acc_n dJ0) 10 (List.range 8) [7,5,2]:=by
        have s2:=Qfo (s:=s) (xs:=xs) q0 q1;exact FinK.fjB (GoE.finK okF hJ Qab (Qaj (by kernel_rfl)) (Qag (by kernel_rfl)) ((GoE.refl (P:=YP) (B:=B) (c0:=Qiz s xs n acc acc_n dJ0) (Qaj (by kernel_rfl))).widen (Wf:=((([(7,KS.dead),(5,KS.auto),(2,KS.auto)]):List (Nat×KS)).map (·.1))) (by simp) (Qag (by kernel_rfl))) (Qyi B s xs n acc acc_n dJ0)
         ⟨(by exact (QlR (Qb9 (Qb1 (fun _=> rfl)) (List.Mem.head _)) (by exact ⟨(.reg (List.Mem.head _) rfl),⟨(.simple rfl),⟨(.simple rfl),trivial⟩⟩⟩))),⟨⟨(by (rw [Qcc (z:=3) (fun _=> rfl)];first | omega | (simp;omega) | (simp_all;done))),(by unfold maxLen;omega),by omega,rfl⟩,⟨⟨by omega,by omega,(Qao (z:=3) (fun _=> rfl) (by omega))⟩,trivial⟩⟩⟩) (ex:=[7]) (by kernel_rfl) ⟨trivial,⟨trivial,⟨trivial,⟨(QeU (t:=118) (fl:=(0,0)) (Qb1 (fun _=> rfl)) (by decide)),⟨trivial,⟨trivial,⟨trivial,⟨trivial,⟨trivial,⟨trivial,trivial⟩⟩⟩⟩⟩⟩⟩⟩⟩⟩
       have s2:=Qfo (s:=s) (xs:=xs) q0 q1;exact ((ih0 _ (by omega)).2 (n+1) (acc++[xs.getD n.toNat default]) (acc_n+1) r1 (by (rw [<-hr1,s2];simp;done)) rfl (by omega) (by (simp_all;done)) (by (simp_all;done))
        (GoE.landA okF hJ Qab (Qaj (by kernel_rfl)) (Qag (by kernel_rfl)) hg0 (Q1t B s xs n acc acc_n dJ0)
        ⟨(by exact (Qb9 (Qb1 (fun _=> rfl)) (List.Mem.head _))),⟨(QaR (by omega) (by omega)),⟨rj2,⟨⟨trivial,(by have t_:=Q44 (s) (n) (by omega) (by omega);rw [q1] at t_;exact t_)⟩,hp2⟩⟩⟩⟩ (by kernel_rfl) (by kernel_rfl) (fun l hl=> by cases hl <;> decide))).cast (by rfl) (by (rw [s2,<-List.append_assoc];done)) (by (rw [s2,<-List.append_assoc];done))
     | false=>
       have s2:=QiE (s:=s) (xs:=xs) q0 q1;exact ((ih0 _ (by omega)).2 (n+1) (acc) (acc_n) r1 (by (rw [<-hr1,s2];done)) rfl (by omega) (by with_reducible assumption) (by exact ⟨haccb.1,by omega⟩)
        (GoE.landA okF hJ Qab (Qaj (by kernel_rfl)) (Qag (by kernel_rfl)) hg0 (QxH B s xs n acc acc_n dJ0)
        ⟨(by exact (Qb9 (Qb1 (fun _=> rfl)) (List.Mem.head _))),⟨(QaR (by omega) (by omega)),⟨⟨trivial,(by have t_:=Q44 (s) (n) (by omega) (by omega);rw [q1] at t_;exact t_)⟩,hp2⟩⟩⟩ (by kernel_rfl) (by kernel_rfl) (fun l hl=> by cases hl <;> decide))).cast (by rfl) (by (rw [s2];done)) (by (rw [s2];done))
    ·have s2:=Qit (s:=s) (xs:=xs) (n:=n) (by omega);exact (GoE.finK okF hJ Qab (Qaj (by kernel_rfl)) (Qag (by kernel_rfl)) hg0 (Q1M B s xs n acc acc_n dJ0)
      ⟨(by exact (Qb9 (Qb1 (fun _=> rfl)) (List.Mem.head _))),⟨(Qbj (Int.not_lt.1 q0)),trivial⟩⟩).cast (by rfl) (by (subst hr1;simp only [Q3H haccb.1,s2,List.append_nil,hacc,Bool.not_false,cond_true];rfl)) (by (subst hr1;simp only [Q3H haccb.1,s2,List.append_nil,hacc,Bool.not_false,cond_true];done))

theorem QxZ (B:Lo) (s:Int) (xs:List (Qak)):CE.landA 6 (Qah YP (Qau YP) J0 B 4 6 (Qc9 s xs) (Qbi s xs) 6
 [(1,Qaf.old (Hint.val (Value.int IntKind.u64 s))),(2,Qaf.pure (.int .i64 (Qc5 s)) [])] 0 [] []) [0,1,6,7] [(5,KS.auto),(2,KS.auto)] [] []=some ⟨157,20,Qdh,[],.run,none,QcZ s xs (0),([5,2]:List Nat).zip (QcX s xs (0)),Qb5 s xs (0),
 [Qas []/\Qai YP J0 158 #[Value.int IntKind.u64 s] (.int .i64 (Qc5 s)),IntKind.wrap IntKind.u64 s=s]⟩:=by kernel_rfl
theorem QwZ (B:Lo) (s:Int) (xs:List (Qak)):QaF (Qah YP (Qau YP) J0 B 16 1 (Qae YP 139 18 (([.int .i64 s,slT xs.length (Qad Qam xs)]).map (Qal 0 4))) H00 1
 (Qq0 s xs++[(5,Qaf.call (List.range 6) (OO.ret (.tuple #[])) ([(5,Obj.loop {state:=LoopState.ready,pending:=none,fn:=139,tmps:=(Qez s xs),params:=#[9],assign:=nav (Qaq YP 139) [1,1,0,1,0,0],body:=nav (Qaq YP 139) [1,1,0,1,0,1],defers:=4}),(2,Obj.cells #[.slice (some {block:=7,off:=0}) (List.length ([]++Qay s xs 0)) 3] 60)]++(6,Qbc)::QaA 7 [Obj.cells (Qad (QaG 0 Qam) ([]++Qay s xs 0)) 118]) 8 [5,2])]) 0 [] []) [{k:=7,rs:=[0],cs:=Qad Qam ([]++Qay s xs 0)}]=some (slT (List.length ([]++Qay s xs 0)) (Fz.cs {k:=7,rs:=[0],cs:=Qad Qam ([]++Qay s xs 0)}),
 [Qbl (Fz.rs {k:=7,rs:=[0],cs:=Qad Qam ([]++Qay s xs 0)}) (Qad (QaG 0 Qam) ([]++Qay s xs 0)) (Fz.cs {k:=7,rs:=[0],cs:=Qad Qam ([]++Qay s xs 0)}),FJ YP B (Qc9 s xs) (Qbi s xs) 6 (OO.ret (.tuple #[])) (([(5,Obj.loop {state:=LoopState.ready,pending:=none,fn:=139,tmps:=(Qez s xs),params:=#[9],assign:=nav (Qaq YP 139) [1,1,0,1,0,0],body:=nav (Qaq YP 139) [1,1,0,1,0,1],defers:=4}),(2,Obj.cells #[.slice (some {block:=7,off:=0}) (List.length ([]++Qay s xs 0)) 3] 60)]++((6,Qbc)::QaA (6+1) [Obj.cells (Qad (QaG 0 Qam) ([]++Qay s xs 0)) 118]))++Qbi s xs) 8 (List.range 6) [5,2]]++Qmg B s xs):=by kernel_rfl
theorem Qxd (B:Lo) (s:Int) (xs:List (Qak)):CE.landA 6 (Qah YP (Qau YP) J0 B 4 6 (Qc9 s xs) (Qbi s xs) 6
 [(1,Qaf.old (Hint.val (Value.int IntKind.u64 s))),(2,Qaf.pure (.int .i64 (Qc5 s)) [])] 0 [] []) [0,1,6,7] [(5,KS.auto),(2,KS.auto)] [] []=some ⟨157,20,Qdh,[],.run,none,QcZ s xs (0),([5,2]:List Nat).zip (QcX s xs (0)),Qb5 s xs (0),
 [Qas []/\Qai YP J0 158 #[Value.int IntKind.u64 s] (.int .i64 (Qc5 s)),IntKind.wrap IntKind.u64 s=s]⟩:=by kernel_rfl
theorem Qvo (B:Lo) (s:Int) (xs:List (Qak)):QaF (Qah YP (Qau YP) J0 B 16 1 (Qae YP 139 18 (([.int .i64 s,slT xs.length (Qad Qam xs)]).map (Qal 0 4))) H00 1
 (Qq0 s xs++[(5,Qaf.call (List.range 6) (OO.ret (.tuple #[])) ([(5,Obj.loop {state:=LoopState.ready,pending:=none,fn:=139,tmps:=(Qez s xs),params:=#[9],assign:=nav (Qaq YP 139) [1,1,0,1,0,0],body:=nav (Qaq YP 139) [1,1,0,1,0,1],defers:=4}),(2,Obj.cells #[.slice none 0 0] 60)]++(6,Qbc)::QaA 7 []) 7 [5,2])]) 0 [] []) []=some (slT 0 #[],
 [FJ YP B (Qc9 s xs) (Qbi s xs) 6 (OO.ret (.tuple #[])) (([(5,Obj.loop {state:=LoopState.ready,pending:=none,fn:=139,tmps:=(Qez s xs),params:=#[9],assign:=nav (Qaq YP 139) [1,1,0,1,0,0],body:=nav (Qaq YP 139) [1,1,0,1,0,1],defers:=4}),(2,Obj.cells #[.slice none 0 0] 60)]++((6,Qbc)::QaA (6+1) []))++Qbi s xs) 7 (List.range 6) [5,2]]++Qmg B s xs):=by kernel_rfl
set_option maxHeartbeats 4000000 in
theorem Q2h (s:Int) (xs:List (Qak)) (h0:0<=s) (h1:s < 64) (hx:Qc5 s<=xs.length) {B:Lo} (hJ:∀w,B.has w->J0 w):EndsT YP B (Qae YP 139 18 (([.int .i64 s,slT xs.length (Qad Qam xs)]).map (Qal 0 4))) (slT (Qay s xs 0).length (Qad Qam (Qay s xs 0))):=by
 have hl:=Qf3 h0 h1;have rj0:FJ YP B (Qjf s xs) (QgU s xs) 3 (OO.ret (Value.func (Fn.func 157) #[] #[Qat 3 (ptT 0 #[.int .i64 s])])) (([]++((3,Qbc)::QaA (3+1) []))++QgU s xs) 4 (List.range 3) []:=by
  exact FinK.fjB (GoE.finK okF hJ Qab (Qaj (by kernel_rfl)) (Qag (by kernel_rfl)) ((GoE.refl (P:=YP) (B:=B) (c0:=Qjf s xs) (Qaj (by kernel_rfl))).widen (Wf:=((([]):List (Nat×KS)).map (·.1))) (by simp) (Qag (by kernel_rfl))) (Q1k B s xs)
   ⟨(QfZ (by kernel_rfl)),trivial⟩) (ex:=[]) (by kernel_rfl) (QaX _)
 have hp0:Qas (Qmg B s xs):=by
  exact ⟨rj0,trivial⟩
 cases q0: !List.isEmpty ([]++Qay s xs 0) with
 | true=>
   have rj1:FJ YP B (Qc9 s xs) (Qbi s xs) 6 (OO.ret (.tuple #[])) (([(5,Obj.loop {state:=LoopState.ready,pending:=none,fn:=139,tmps:=#[.int .i64 s,Qat 0 (slT xs.length (Qad Qam xs)),.tuple #[],pA 1 0,.slice none 0 0,pA 2 0,.tuple #[],.int .i64 s,Value.func (Fn.func 157) #[] #[Qat 3 (ptT 0 #[.int .i64 s])],.tuple #[],.tuple #[],.tuple #[],.tuple #[],.tuple #[],.tuple #[],.tuple #[],.tuple #[],.tuple #[]],params:=#[9],assign:=nav (Qaq YP 139) [1,1,0,1,0,0],body:=nav (Qaq YP 139) [1,1,0,1,0,1],defers:=4}),(2,Obj.cells #[.slice (some {block:=7,off:=0}) (List.length ([]++Qay s xs 0)) 3] 60)]++((6,Qbc)::QaA (6+1) [Obj.cells (Qad (QaG 0 Qam) ([]++Qay s xs 0)) 118]))++Qbi s xs) 8 (List.range 6) [5,2]:=by
    exact FinK.fjB ((Qks s xs h0 h1 hx hJ _).1 (0) true q0 rfl (by omega)
     (GoE.landA okF hJ Qab (Qaj (by kernel_rfl)) (Qag (by kernel_rfl)) ((GoE.refl (P:=YP) (B:=B) (c0:=Qc9 s xs) (Qaj (by kernel_rfl))).widen (Wf:=((([(5,KS.auto),(2,KS.auto)]):List (Nat×KS)).map (·.1))) (by simp) (Qag (by kernel_rfl))) (QxZ B s xs)
     ⟨⟨trivial,Q76 (s) (by with_reducible assumption) (by with_reducible assumption)⟩,⟨(IntWalk.u64_in _ ⟨by omega,by omega⟩),trivial⟩⟩ (by kernel_rfl) (by kernel_rfl) (fun l hl=> by cases hl <;> decide))) (ex:=[]) (by kernel_rfl) (QaX _)
   exact (GoE.endsT okF hJ Qab GoE.start (QwZ B s xs)
    ⟨(QeE (Qb1 (fun _=> rfl)) (List.Mem.head _)),⟨rj1,hp0⟩⟩).cast (by rfl)
 | false=>
   have rj1:FJ YP B (Qc9 s xs) (Qbi s xs) 6 (OO.ret (.tuple #[])) (([(5,Obj.loop {state:=LoopState.ready,pending:=none,fn:=139,tmps:=#[.int .i64 s,Qat 0 (slT xs.length (Qad Qam xs)),.tuple #[],pA 1 0,.slice none 0 0,pA 2 0,.tuple #[],.int .i64 s,Value.func (Fn.func 157) #[] #[Qat 3 (ptT 0 #[.int .i64 s])],.tuple #[],.tuple #[],.tuple #[],.tuple #[],.tuple #[],.tuple #[],.tuple #[],.tuple #[],.tuple #[]],params:=#[9],assign:=nav (Qaq YP 139) [1,1,0,1,0,0],body:=nav (Qaq YP 139) [1,1,0,1,0,1],defers:=4}),(2,Obj.cells #[.slice none 0 0] 60)]++((6,Qbc)::QaA (6+1) []))++Qbi s xs) 7 (List.range 6) [5,2]:=by
    exact FinK.fjB ((Qks s xs h0 h1 hx hJ _).1 (0) false q0 rfl (by omega)
     (GoE.landA okF hJ Qab (Qaj (by kernel_rfl)) (Qag (by kernel_rfl)) ((GoE.refl (P:=YP) (B:=B) (c0:=Qc9 s xs) (Qaj (by kernel_rfl))).widen (Wf:=((([(5,KS.auto),(2,KS.auto)]):List (Nat×KS)).map (·.1))) (by simp) (Qag (by kernel_rfl))) (Qxd B s xs)
     ⟨⟨trivial,Q76 (s) (by with_reducible assumption) (by with_reducible assumption)⟩,⟨(IntWalk.u64_in _ ⟨by omega,by omega⟩),trivial⟩⟩ (by kernel_rfl) (by kernel_rfl) (fun l hl=> by cases hl <;> decide))) (ex:=[]) (by kernel_rfl) (QaX _)
   exact (GoE.endsT okF hJ Qab GoE.start (Qvo B s xs)
    ⟨rj1,hp0⟩).cast (by (rw [Q6N q0];rfl))
theorem Q7y (s:Int) (xs:List (Qak)) (h0:0<=s) (h1:s < 64) (hx:Qc5 s<=xs.length):Qai YP J0 139 #[.int .i64 s,slT xs.length (Qad Qam xs)] (slT (Qay s xs 0).length (Qad Qam (Qay s xs 0))):=
 Qa5 (ts:=[.int .i64 s,slT xs.length (Qad Qam xs)]) Qbn (c0:=Qae YP 139 18 (([.int .i64 s,slT xs.length (Qad Qam xs)]).map (Qal 0 4))) (by kernel_rfl) (by kernel_rfl) fun B hJ=> Q2h s xs h0 h1 hx hJ
def Qhh (s:Int) (xs:List (Row)):Qar:=[(2,Obj.cells #[.slice none 0 0] 63),(1,Obj.cells #[Qat 0 (slT xs.length (Qad Qax xs))] 63),(0,Obj.coro none)]
def Qix (s:Int) (xs:List (Row)):CF:=⟨147,ofList 4 [.int .i64 s],[Item.code (Qaq YP 147)],[],.run,none⟩
def Qe1 (s:Int) (xs:List (Row)):Array Value:=#[.int .i64 s,Qat 0 (slT xs.length (Qad Qax xs)),.tuple #[],pA 1 0,.slice none 0 0,pA 2 0,.tuple #[],.int .i64 s,Value.func (Fn.func 157) #[] #[Qat 3 (ptT 0 #[.int .i64 s])],.tuple #[],.tuple #[],.tuple #[],.tuple #[],.tuple #[],.tuple #[],.tuple #[],.tuple #[],.tuple #[]]
def Qfj (xs:List (Row)) (n:Int):Array Value:=#[Qat 0 (slT (List.length (xs.getD n.toNat default)) (Qad Qav (xs.getD n.toNat default)))]
def Qig (xs:List (Row)) (n:Int):Array Value:=#[slT (List.length (xs.getD n.toNat default)) (Qad Qav (xs.getD n.toNat default))]
theorem Q0r (B:Lo) (s:Int) (xs:List (Row)):CE.finK 3 (Qah YP (Qau YP) J0 B 6 3 (Qix s xs) (Qhh s xs) 3
 [] 0 [] []) [] [] [{k:=3,rs:=[],cs:=#[.int .i64 s]}]=some (OO.ret (Value.func (Fn.func 157) #[] #[Qat 3 (ptT 0 #[.int .i64 s])]),[],[],
 [Qbl (Fz.rs {k:=3,rs:=[],cs:=#[.int .i64 s]}) #[.int .i64 s] (Fz.cs {k:=3,rs:=[],cs:=#[.int .i64 s]})]):=by kernel_rfl
def Qle (B:Lo) (s:Int) (xs:List (Row)):List Prop:=[FJ YP B (Qix s xs) (Qhh s xs) 3 (OO.ret (Value.func (Fn.func 157) #[] #[Qat 3 (ptT 0 #[.int .i64 s])])) (([]++((3,Qbc)::QaA (3+1) []))++Qhh s xs) 4 (List.range 3) []]++([]:List Prop)
def Qry (s:Int) (xs:List (Row)):Qan:=[(4,Qaf.call (List.range 3) (OO.ret (Value.func (Fn.func 157) #[] #[Qat 3 (ptT 0 #[.int .i64 s])])) ([]++(3,Qbc)::QaA 4 []) 4 [])]
def Qbh (s:Int) (xs:List (Row)):Qar:=[(5,Obj.loop {state:=LoopState.ready,pending:=none,fn:=121,tmps:=#[.int .i64 s,Qat 0 (slT xs.length (Qad Qax xs)),.tuple #[],pA 1 0,.slice none 0 0,pA 2 0,.tuple #[],.int .i64 s,Value.func (Fn.func 157) #[] #[Qat 3 (ptT 0 #[.int .i64 s])],.tuple #[],.tuple #[],.tuple #[],.tuple #[],.tuple #[],.tuple #[],.tuple #[],.tuple #[],.tuple #[]],params:=#[9],assign:=nav (Qaq YP 121) [1,1,0,1,0,0],body:=nav (Qaq YP 121) [1,1,0,1,0,1],defers:=4}),(4,Obj.deferred (some [])),(3,Obj.coro none),(2,Obj.cells #[.slice none 0 0] 63),(1,Obj.cells #[Qat 0 (slT xs.length (Qad Qax xs))] 63),(0,Obj.coro none)]
def Qc8 (s:Int) (xs:List (Row)):CF:=⟨157,ofList 20 [Value.func (Fn.yield 5) #[] #[],Qat 3 (ptT 0 #[.int .i64 s])],[Item.code (Qaq YP 157)],[],.run,none⟩
def QcW (s:Int) (xs:List (Row)) (n:Int):List Value:=[Value.func (Fn.yield 5) #[] #[],Qat 3 (ptT 0 #[.int .i64 s]),.int .i64 (Qc5 s),.int .i64 n]
def QcT (s:Int) (xs:List (Row)) (n:Int):List Obj:=[Obj.loop {state:=LoopState.ready,pending:=none,fn:=121,tmps:=#[.int .i64 s,Qat 0 (slT xs.length (Qad Qax xs)),.tuple #[],pA 1 0,.slice none 0 0,pA 2 0,.tuple #[],.int .i64 s,Value.func (Fn.func 157) #[] #[Qat 3 (ptT 0 #[.int .i64 s])],.tuple #[],.tuple #[],.tuple #[],.tuple #[],.tuple #[],.tuple #[],.tuple #[],.tuple #[],.tuple #[]],params:=#[9],assign:=nav (Qaq YP 121) [1,1,0,1,0,0],body:=nav (Qaq YP 121) [1,1,0,1,0,1],defers:=4},.cells #[.slice none 0 0] 63 (0,0)]
def Qb8 (s:Int) (xs:List (Row)) (n:Int):List Obj:=[]
def QcV:List Item:=([.code [1,0,0],.inLoop [1,0,0],.inBlock 0]).map (it (Qaq YP 157))
def Qdf (s:Int) (xs:List (Row)) (n:Int) (acc:List Row) (acc_n:Nat):List Value:=[Value.func (Fn.yield 5) #[] #[],Qat 3 (ptT 0 #[.int .i64 s]),.int .i64 (Qc5 s),.int .i64 n]
def Qde (s:Int) (xs:List (Row)) (n:Int) (acc:List Row) (acc_n:Nat):List Obj:=[Obj.loop {state:=LoopState.ready,pending:=none,fn:=121,tmps:=#[.int .i64 s,Qat 0 (slT xs.length (Qad Qax xs)),.tuple #[],pA 1 0,.slice none 0 0,pA 2 0,.tuple #[],.int .i64 s,Value.func (Fn.func 157) #[] #[Qat 3 (ptT 0 #[.int .i64 s])],.tuple #[],.tuple #[],.tuple #[],.tuple #[],.tuple #[],.tuple #[],.tuple #[],.tuple #[],.tuple #[]],params:=#[9],assign:=nav (Qaq YP 121) [1,1,0,1,0,0],body:=nav (Qaq YP 121) [1,1,0,1,0,1],defers:=4},.cells #[.slice (some ⟨7,0,none⟩) acc_n 1] 63 (0,0)]
def Qb6 (s:Int) (xs:List (Row)) (n:Int) (acc:List Row) (acc_n:Nat):List Obj:=[Obj.cells (Qad (QaG 0 Qax) acc) 22 (0,0)]
def Qdb:List Item:=([.code [1,0,0],.inLoop [1,0,0],.inBlock 0]).map (it (Qaq YP 157))
def Qmb (B:Lo) (s:Int) (xs:List (Row)) (n:Int) (dJ0:Nat->Value):List Prop:=[ltq n (Qc5 s)=true]++([]:List Prop)
def QrC (s:Int) (xs:List (Row)) (n:Int) (dJ0:Nat->Value):Qan:=[(0,hvT)]
def QgY (s:Int) (xs:List (Row)) (n:Int) (dJ0:Nat->Value):Qar:=[(5,Obj.loop {state:=LoopState.ready,pending:=none,fn:=121,tmps:=#[.int .i64 s,Qat 0 (slT xs.length (Qad Qax xs)),.tuple #[],pA 1 0,.slice none 0 0,pA 2 0,.tuple #[],.int .i64 s,Value.func (Fn.func 157) #[] #[Qat 3 (ptT 0 #[.int .i64 s])],.tuple #[],.tuple #[],.tuple #[],.tuple #[],.tuple #[],.tuple #[],.tuple #[],.tuple #[],.tuple #[]],params:=#[9],assign:=nav (Qaq YP 121) [1,1,0,1,0,0],body:=nav (Qaq YP 121) [1,1,0,1,0,1],defers:=4}),(2,Obj.cells #[.slice none 0 0] 63),(6,Obj.coro none),(5,Obj.loop {state:=LoopState.ready,pending:=none,fn:=121,tmps:=#[.int .i64 s,Qat 0 (slT xs.length (Qad Qax xs)),.tuple #[],pA 1 0,.slice none 0 0,pA 2 0,.tuple #[],.int .i64 s,Value.func (Fn.func 157) #[] #[Qat 3 (ptT 0 #[.int .i64 s])],.tuple #[],.tuple #[],.tuple #[],.tuple #[],.tuple #[],.tuple #[],.tuple #[],.tuple #[],.tuple #[]],params:=#[9],assign:=nav (Qaq YP 121) [1,1,0,1,0,0],body:=nav (Qaq YP 121) [1,1,0,1,0,1],defers:=4}),(4,Obj.deferred (some [])),(3,Obj.coro none),(2,Obj.cells #[.slice none 0 0] 63),(1,Obj.cells #[Qat 0 (slT xs.length (Qad Qax xs))] 63),(0,Obj.coro none)]
def QiK (s:Int) (xs:List (Row)) (n:Int) (dJ0:Nat->Value):CF:=⟨121,ofList 18 [.int .i64 s,Qat 0 (slT xs.length (Qad Qax xs)),.tuple #[],pA 1 0,.slice none 0 0,pA 2 0,.tuple #[],.int .i64 s,Value.func (Fn.func 157) #[] #[Qat 3 (ptT 0 #[.int .i64 s])],.int .i64 n,.tuple #[],.tuple #[],.tuple #[],.tuple #[],.tuple #[],.tuple #[],.tuple #[],.tuple #[]],[Item.code (nav (Qaq YP 121) [1,1,0,1,0,0]),Item.beginRound,Item.code (nav (Qaq YP 121) [1,1,0,1,0,1])],[],.run,some 5⟩
theorem Q1q (B:Lo) (s:Int) (xs:List (Row)) (n:Int) (dJ0:Nat->Value):CE.finK 7 (Qah YP (Qau YP) J0 B 6 7 (QiK s xs n dJ0) (QgY s xs n dJ0) 7
 [(4,Qaf.tidx n.toNat (Qig xs n))] 0 [] []) [(5,KS.auto),(2,KS.auto)] [(8,KS.auto)] []=some (OO.ret (.bool true),[(5,Obj.loop {state:=LoopState.ready,pending:=none,fn:=121,tmps:=#[.int .i64 s,Qat 0 (slT xs.length (Qad Qax xs)),.tuple #[],pA 1 0,.slice none 0 0,pA 2 0,.tuple #[],.int .i64 s,Value.func (Fn.func 157) #[] #[Qat 3 (ptT 0 #[.int .i64 s])],.tuple #[],.tuple #[],.tuple #[],.tuple #[],.tuple #[],.tuple #[],.tuple #[],.tuple #[],.tuple #[]],params:=#[9],assign:=nav (Qaq YP 121) [1,1,0,1,0,0],body:=nav (Qaq YP 121) [1,1,0,1,0,1],defers:=4}),(2,Obj.cells #[.slice (some {block:=8,off:=0}) 1 1] 63)],[Obj.cells #[Qat 0 (slT (List.length (xs.getD n.toNat default)) (Qad Qav (xs.getD n.toNat default)))] 22],
 [n=(↑n.toNat:Int)/\Int.toNat n < List.length xs/\Array.extract (Qad Qax xs) (Int.toNat n * TypeInfo.size Tryz.t22) (Int.toNat n * TypeInfo.size Tryz.t22+TypeInfo.size Tryz.t22)=(Qig xs n)]):=by kernel_rfl
theorem Q11 (B:Lo) (s:Int) (xs:List (Row)) (n:Int) (dJ0:Nat->Value):CE.landA 6 (Qah YP (Qau YP) J0 B 16 6 (Qc6 (none) 157 20 (([0,1,6,7]:List Nat).zip (QcW s xs n)) dJ0 QcV) (QbM (Qbh s xs) 6 (([5,2]:List Nat).zip (QcT s xs n)) (Qb8 s xs n)) (6+1+(Qb8 s xs n).length)
 (QrC s xs n dJ0++[(5,Qaf.pure (.bool true) []),(9,Qaf.call (List.range 7) (OO.ret (.bool true)) ([(5,Obj.loop {state:=LoopState.ready,pending:=none,fn:=121,tmps:=(Qe1 s xs),params:=#[9],assign:=nav (Qaq YP 121) [1,1,0,1,0,0],body:=nav (Qaq YP 121) [1,1,0,1,0,1],defers:=4}),(2,Obj.cells #[.slice (some {block:=8,off:=0}) 1 1] 63)]++(7,Qbc)::QaA 8 [Obj.cells (Qfj xs n) 22]) 9 [5,2]),(12,hvI (n+1))]) 0 [] []) [0,1,6,7] [(5,KS.auto),(2,KS.auto)] [(8,KS.rows [(0,0)] [] (Qad (QaG 0 Qax) [xs.getD n.toNat default]))] []=some ⟨157,20,Qdb,[],.run,none,Qdf s xs (n+1) ([xs.getD n.toNat default]) (1),([5,2]:List Nat).zip (Qde s xs (n+1) ([xs.getD n.toNat default]) (1)),Qb6 s xs (n+1) ([xs.getD n.toNat default]) (1),
 [Qbu 6 [(0,0)] [] (Qfj xs n) (Qad (QaG 0 Qax) [xs.getD n.toNat default]),wq (n+1)=n+1,FJ YP B (QiK s xs n dJ0) (QgY s xs n dJ0) 7 (OO.ret (.bool true)) (([(5,Obj.loop {state:=LoopState.ready,pending:=none,fn:=121,tmps:=(Qe1 s xs),params:=#[9],assign:=nav (Qaq YP 121) [1,1,0,1,0,0],body:=nav (Qaq YP 121) [1,1,0,1,0,1],defers:=4}),(2,Obj.cells #[.slice (some {block:=8,off:=0}) 1 1] 63)]++((7,Qbc)::QaA (7+1) [Obj.cells (Qfj xs n) 22]))++QgY s xs n dJ0) 9 (List.range 7) [5,2],Qas []/\Qai YP J0 159 #[.int .i64 s,.int .i64 n] (.bool true)]++Qmb B s xs n dJ0⟩:=by kernel_rfl
theorem QzG (B:Lo) (s:Int) (xs:List (Row)) (n:Int) (dJ0:Nat->Value):CE.landA 6 (Qah YP (Qau YP) J0 B 16 6 (Qc6 (none) 157 20 (([0,1,6,7]:List Nat).zip (QcW s xs n)) dJ0 QcV) (QbM (Qbh s xs) 6 (([5,2]:List Nat).zip (QcT s xs n)) (Qb8 s xs n)) (6+1+(Qb8 s xs n).length)
 (QrC s xs n dJ0++[(5,Qaf.pure (.bool false) []),(12,hvI (n+1))]) 0 [] []) [0,1,6,7] [(5,KS.auto),(2,KS.auto)] [] []=some ⟨157,20,QcV,[],.run,none,QcW s xs (n+1),([5,2]:List Nat).zip (QcT s xs (n+1)),Qb8 s xs (n+1),
 [wq (n+1)=n+1,Qas []/\Qai YP J0 159 #[.int .i64 s,.int .i64 n] (.bool false)]++Qmb B s xs n dJ0⟩:=by kernel_rfl
theorem Qz2 (B:Lo) (s:Int) (xs:List (Row)) (n:Int) (dJ0:Nat->Value):CE.finK 6 (Qah YP (Qau YP) J0 B 7 6 (Qc6 (none) 157 20 (([0,1,6,7]:List Nat).zip (QcW s xs n)) dJ0 QcV) (QbM (Qbh s xs) 6 (([5,2]:List Nat).zip (QcT s xs n)) (Qb8 s xs n)) (6+1+(Qb8 s xs n).length)
 [(0,hvF)] 0 [] []) [(5,KS.auto),(2,KS.auto)] [] []=some (OO.ret (.tuple #[]),[(5,Obj.loop {state:=LoopState.ready,pending:=none,fn:=121,tmps:=#[.int .i64 s,Qat 0 (slT xs.length (Qad Qax xs)),.tuple #[],pA 1 0,.slice none 0 0,pA 2 0,.tuple #[],.int .i64 s,Value.func (Fn.func 157) #[] #[Qat 3 (ptT 0 #[.int .i64 s])],.tuple #[],.tuple #[],.tuple #[],.tuple #[],.tuple #[],.tuple #[],.tuple #[],.tuple #[],.tuple #[]],params:=#[9],assign:=nav (Qaq YP 121) [1,1,0,1,0,0],body:=nav (Qaq YP 121) [1,1,0,1,0,1],defers:=4}),(2,Obj.cells #[.slice none 0 0] 63)],[],
 [ltq n (Qc5 s)=false]):=by kernel_rfl
def Qm4 (B:Lo) (s:Int) (xs:List (Row)) (n:Int) (acc:List Row) (acc_n:Nat) (dJ0:Nat->Value):List Prop:=[ltq n (Qc5 s)=true]++([]:List Prop)
def Qsg (s:Int) (xs:List (Row)) (n:Int) (acc:List Row) (acc_n:Nat) (dJ0:Nat->Value):Qan:=[(0,hvT)]
def QgE (s:Int) (xs:List (Row)) (n:Int) (acc:List Row) (acc_n:Nat) (dJ0:Nat->Value):Qar:=[(5,Obj.loop {state:=LoopState.ready,pending:=none,fn:=121,tmps:=#[.int .i64 s,Qat 0 (slT xs.length (Qad Qax xs)),.tuple #[],pA 1 0,.slice none 0 0,pA 2 0,.tuple #[],.int .i64 s,Value.func (Fn.func 157) #[] #[Qat 3 (ptT 0 #[.int .i64 s])],.tuple #[],.tuple #[],.tuple #[],.tuple #[],.tuple #[],.tuple #[],.tuple #[],.tuple #[],.tuple #[]],params:=#[9],assign:=nav (Qaq YP 121) [1,1,0,1,0,0],body:=nav (Qaq YP 121) [1,1,0,1,0,1],defers:=4}),(2,Obj.cells #[.slice (some {block:=7,off:=0}) acc_n 1] 63),(6,Obj.coro none),(7,Obj.cells (Qad (QaG 0 Qax) acc) 22),(5,Obj.loop {state:=LoopState.ready,pending:=none,fn:=121,tmps:=#[.int .i64 s,Qat 0 (slT xs.length (Qad Qax xs)),.tuple #[],pA 1 0,.slice none 0 0,pA 2 0,.tuple #[],.int .i64 s,Value.func (Fn.func 157) #[] #[Qat 3 (ptT 0 #[.int .i64 s])],.tuple #[],.tuple #[],.tuple #[],.tuple #[],.tuple #[],.tuple #[],.tuple #[],.tuple #[],.tuple #[]],params:=#[9],assign:=nav (Qaq YP 121) [1,1,0,1,0,0],body:=nav (Qaq YP 121) [1,1,0,1,0,1],defers:=4}),(4,Obj.deferred (some [])),(3,Obj.coro none),(2,Obj.cells #[.slice none 0 0] 63),(1,Obj.cells #[Qat 0 (slT xs.length (Qad Qax xs))] 63),(0,Obj.coro none)]
def QiU (s:Int) (xs:List (Row)) (n:Int) (acc:List Row) (acc_n:Nat) (dJ0:Nat->Value):CF:=⟨121,ofList 18 [.int .i64 s,Qat 0 (slT xs.length (Qad Qax xs)),.tuple #[],pA 1 0,.slice none 0 0,pA 2 0,.tuple #[],.int .i64 s,Value.func (Fn.func 157) #[] #[Qat 3 (ptT 0 #[.int .i64 s])],.int .i64 n,.tuple #[],.tuple #[],.tuple #[],.tuple #[],.tuple #[],.tuple #[],.tuple #[],.tuple #[]],[Item.code (nav (Qaq YP 121) [1,1,0,1,0,0]),Item.beginRound,Item.code (nav (Qaq YP 121) [1,1,0,1,0,1])],[],.run,some 5⟩
theorem Q0p (B:Lo) (s:Int) (xs:List (Row)) (n:Int) (acc:List Row) (acc_n:Nat) (dJ0:Nat->Value):CE.finK 8 (Qah YP (Qau YP) J0 B 6 8 (QiU s xs n acc acc_n dJ0) (QgE s xs n acc acc_n dJ0) 8
 [(4,Qaf.tidx n.toNat (Qig xs n)),(7,Qaf.old (Hint.app (Qad (QaG 0 Qax) acc++(Qfj xs n))))] 0 [] []) [(7,KS.dead),(5,KS.auto),(2,KS.auto)] [(9,KS.rows [(0,0)] [] (Qad (QaG 0 Qax) (acc++[xs.getD n.toNat default])))] []=some (OO.ret (.bool true),[(7,Obj.pending #[] 0),(5,Obj.loop {state:=LoopState.ready,pending:=none,fn:=121,tmps:=#[.int .i64 s,Qat 0 (slT xs.length (Qad Qax xs)),.tuple #[],pA 1 0,.slice none 0 0,pA 2 0,.tuple #[],.int .i64 s,Value.func (Fn.func 157) #[] #[Qat 3 (ptT 0 #[.int .i64 s])],.tuple #[],.tuple #[],.tuple #[],.tuple #[],.tuple #[],.tuple #[],.tuple #[],.tuple #[],.tuple #[]],params:=#[9],assign:=nav (Qaq YP 121) [1,1,0,1,0,0],body:=nav (Qaq YP 121) [1,1,0,1,0,1],defers:=4}),(2,Obj.cells #[.slice (some {block:=9,off:=0}) (acc_n+1) 1] 63)],[Obj.cells (Qad (QaG 0 Qax) (acc++[xs.getD n.toNat default])) 22],
 [Qbu 8 [(0,0)] [] (Qad (QaG 0 Qax) acc++(Qfj xs n)) (Qad (QaG 0 Qax) (acc++[xs.getD n.toNat default])),Array.size (Qad (QaG 0 Qax) acc)=acc_n * (0+1)/\acc_n+1<=maxLen/\(acc_n+1) * 24<=140737488355328/\Qad (QaG 0 Qax) acc++(Qfj xs n)=Qad (QaG 0 Qax) acc++(Qfj xs n),n=(↑n.toNat:Int)/\Int.toNat n < List.length xs/\Array.extract (Qad Qax xs) (Int.toNat n * TypeInfo.size Tryz.t22) (Int.toNat n * TypeInfo.size Tryz.t22+TypeInfo.size Tryz.t22)=(Qig xs n)]):=by kernel_rfl
theorem Qzj (B:Lo) (s:Int) (xs:List (Row)) (n:Int) (acc:List Row) (acc_n:Nat) (dJ0:Nat->Value):CE.landA 6 (Qah YP (Qau YP) J0 B 16 6 (Qc6 (none) 157 20 (([0,1,6,7]:List Nat).zip (Qdf s xs n acc acc_n)) dJ0 Qdb) (QbM (Qbh s xs) 6 (([5,2]:List Nat).zip (Qde s xs n acc acc_n)) (Qb6 s xs n acc acc_n)) (6+1+(Qb6 s xs n acc acc_n).length)
 (Qsg s xs n acc acc_n dJ0++[(5,Qaf.pure (.bool true) []),(9,Qaf.call (List.range 8) (OO.ret (.bool true)) ([(7,Obj.pending #[] 0),(5,Obj.loop {state:=LoopState.ready,pending:=none,fn:=121,tmps:=(Qe1 s xs),params:=#[9],assign:=nav (Qaq YP 121) [1,1,0,1,0,0],body:=nav (Qaq YP 121) [1,1,0,1,0,1],defers:=4}),(2,Obj.cells #[.slice (some {block:=9,off:=0}) (acc_n+1) 1] 63)]++(8,Qbc)::QaA 9 [Obj.cells (Qad (QaG 0 Qax) (acc++[xs.getD n.toNat default])) 22]) 10 [7,5,2]),(12,hvI (n+1))]) 0 [] []) [0,1,6,7] [(5,KS.auto),(2,KS.auto)] [(9,KS.rows [(0,0)] [] (Qad (QaG 0 Qax) (acc++[xs.getD n.toNat default])))] []=some ⟨157,20,Qdb,[],.run,none,Qdf s xs (n+1) (acc++[xs.getD n.toNat default]) (acc_n+1),([5,2]:List Nat).zip (Qde s xs (n+1) (acc++[xs.getD n.toNat default]) (acc_n+1)),Qb6 s xs (n+1) (acc++[xs.getD n.toNat default]) (acc_n+1),
 [Qbu 6 [(0,0)] [] (Qad (QaG 0 Qax) (acc++[xs.getD n.toNat default])) (Qad (QaG 0 Qax) (acc++[xs.getD n.toNat default])),wq (n+1)=n+1,FJ YP B (QiU s xs n acc acc_n dJ0) (QgE s xs n acc acc_n dJ0) 8 (OO.ret (.bool true)) (([(7,Obj.pending #[] 0),(5,Obj.loop {state:=LoopState.ready,pending:=none,fn:=121,tmps:=(Qe1 s xs),params:=#[9],assign:=nav (Qaq YP 121) [1,1,0,1,0,0],body:=nav (Qaq YP 121) [1,1,0,1,0,1],defers:=4}),(2,Obj.cells #[.slice (some {block:=9,off:=0}) (acc_n+1) 1] 63)]++((8,Qbc)::QaA (8+1) [Obj.cells (Qad (QaG 0 Qax) (acc++[xs.getD n.toNat default])) 22]))++QgE s xs n acc acc_n dJ0) 10 (List.range 8) [7,5,2],Qas []/\Qai YP J0 159 #[.int .i64 s,.int .i64 n] (.bool true)]++Qm4 B s xs n acc acc_n dJ0⟩:=by kernel_rfl
theorem QzQ (B:Lo) (s:Int) (xs:List (Row)) (n:Int) (acc:List Row) (acc_n:Nat) (dJ0:Nat->Value):CE.landA 6 (Qah YP (Qau YP) J0 B 16 6 (Qc6 (none) 157 20 (([0,1,6,7]:List Nat).zip (Qdf s xs n acc acc_n)) dJ0 Qdb) (QbM (Qbh s xs) 6 (([5,2]:List Nat).zip (Qde s xs n acc acc_n)) (Qb6 s xs n acc acc_n)) (6+1+(Qb6 s xs n acc acc_n).length)
 (Qsg s xs n acc acc_n dJ0++[(5,Qaf.pure (.bool false) []),(12,hvI (n+1))]) 0 [] []) [0,1,6,7] [(5,KS.auto),(2,KS.auto)] [(7,KS.rows [(0,0)] [] (Qad (QaG 0 Qax) acc))] []=some ⟨157,20,Qdb,[],.run,none,Qdf s xs (n+1) (acc) (acc_n),([5,2]:List Nat).zip (Qde s xs (n+1) (acc) (acc_n)),Qb6 s xs (n+1) (acc) (acc_n),
 [Qbu 6 [(0,0)] [] (Qad (QaG 0 Qax) acc) (Qad (QaG 0 Qax) acc),wq (n+1)=n+1,Qas []/\Qai YP J0 159 #[.int .i64 s,.int .i64 n] (.bool false)]++Qm4 B s xs n acc acc_n dJ0⟩:=by kernel_rfl
theorem Q1z (B:Lo) (s:Int) (xs:List (Row)) (n:Int) (acc:List Row) (acc_n:Nat) (dJ0:Nat->Value):CE.finK 6 (Qah YP (Qau YP) J0 B 7 6 (Qc6 (none) 157 20 (([0,1,6,7]:List Nat).zip (Qdf s xs n acc acc_n)) dJ0 Qdb) (QbM (Qbh s xs) 6 (([5,2]:List Nat).zip (Qde s xs n acc acc_n)) (Qb6 s xs n acc acc_n)) (6+1+(Qb6 s xs n acc acc_n).length)
 [(0,hvF)] 0 [] []) [(5,KS.auto),(2,KS.auto)] [(7,KS.rows [(0,0)] [] (Qad (QaG 0 Qax) acc))] []=some (OO.ret (.tuple #[]),[(5,Obj.loop {state:=LoopState.ready,pending:=none,fn:=121,tmps:=#[.int .i64 s,Qat 0 (slT xs.length (Qad Qax xs)),.tuple #[],pA 1 0,.slice none 0 0,pA 2 0,.tuple #[],.int .i64 s,Value.func (Fn.func 157) #[] #[Qat 3 (ptT 0 #[.int .i64 s])],.tuple #[],.tuple #[],.tuple #[],.tuple #[],.tuple #[],.tuple #[],.tuple #[],.tuple #[],.tuple #[]],params:=#[9],assign:=nav (Qaq YP 121) [1,1,0,1,0,0],body:=nav (Qaq YP 121) [1,1,0,1,0,1],defers:=4}),(2,Obj.cells #[.slice (some {block:=7,off:=0}) acc_n 1] 63)],[Obj.cells (Qad (QaG 0 Qax) acc) 22],
 [Qbu 6 [(0,0)] [] (Qad (QaG 0 Qax) acc) (Qad (QaG 0 Qax) acc),ltq n (Qc5 s)=false]):=by kernel_rfl
set_option maxHeartbeats 4000000 in
theorem Qkk (s:Int) (xs:List (Row)) (h0:0<=s) (h1:s < 64) (hx:Qc5 s<=xs.length) {B:Lo} (hJ:∀w,B.has w->J0 w):∀m:Nat,(∀(n:Int),∀(r:Bool),(!(([]:List Row)++Qay s xs n).isEmpty)=r->(Qc5 s - n).toNat=m->∀(hn:0<=n),(∃dJ0:Nat->Value,(∀t,Qbg (dJ0 t))/\GoE YP B (Qc8 s xs) (Qbh s xs) 6 (Qc6 (none) 157 20 (([0,1,6,7]:List Nat).zip (QcW s xs n)) dJ0 QcV) (QbM (Qbh s xs) 6 (([5,2]:List Nat).zip (QcT s xs n)) (Qb8 s xs n)) (6+1+(Qb8 s xs n).length) ([5,2]:List Nat))->FinK YP B (Qc8 s xs) (Qbh s xs) 6 (.ret (.tuple #[])) (([5,2]:List Nat).zip ([Obj.loop {state:=LoopState.ready,pending:=none,fn:=121,tmps:=#[.int .i64 s,Qat 0 (slT xs.length (Qad Qax xs)),.tuple #[],pA 1 0,.slice none 0 0,pA 2 0,.tuple #[],.int .i64 s,Value.func (Fn.func 157) #[] #[Qat 3 (ptT 0 #[.int .i64 s])],.tuple #[],.tuple #[],.tuple #[],.tuple #[],.tuple #[],.tuple #[],.tuple #[],.tuple #[],.tuple #[]],params:=#[9],assign:=nav (Qaq YP 121) [1,1,0,1,0,0],body:=nav (Qaq YP 121) [1,1,0,1,0,1],defers:=4},.cells #[bif r then .slice (some ⟨7,0,none⟩) (([]:List Row)++Qay s xs n).length 1 else .slice none 0 0] 63 (0,0)])) (bif r then [Go.Obj.cells (Qad (QaG 0 Qax) (([]:List Row)++Qay s xs n)) 22 (0,0)] else []) ([5,2]:List Nat))/\(∀(n:Int) (acc:List Row) (acc_n:Nat),∀(r:Bool),(!(acc++Qay s xs n).isEmpty)=r->(Qc5 s - n).toNat=m->∀(hn:0<=n) (hacc:acc_n=acc.length) (haccb:acc≠[]/\(acc_n:Int)<=n),(∃dJ0:Nat->Value,(∀t,Qbg (dJ0 t))/\GoE YP B (Qc8 s xs) (Qbh s xs) 6 (Qc6 (none) 157 20 (([0,1,6,7]:List Nat).zip (Qdf s xs n acc acc_n)) dJ0 Qdb) (QbM (Qbh s xs) 6 (([5,2]:List Nat).zip (Qde s xs n acc acc_n)) (Qb6 s xs n acc acc_n)) (6+1+(Qb6 s xs n acc acc_n).length) ([5,2]:List Nat))->FinK YP B (Qc8 s xs) (Qbh s xs) 6 (.ret (.tuple #[])) (([5,2]:List Nat).zip ([Obj.loop {state:=LoopState.ready,pending:=none,fn:=121,tmps:=#[.int .i64 s,Qat 0 (slT xs.length (Qad Qax xs)),.tuple #[],pA 1 0,.slice none 0 0,pA 2 0,.tuple #[],.int .i64 s,Value.func (Fn.func 157) #[] #[Qat 3 (ptT 0 #[.int .i64 s])],.tuple #[],.tuple #[],.tuple #[],.tuple #[],.tuple #[],.tuple #[],.tuple #[],.tuple #[],.tuple #[]],params:=#[9],assign:=nav (Qaq YP 121) [1,1,0,1,0,0],body:=nav (Qaq YP 121) [1,1,0,1,0,1],defers:=4},.cells #[bif r then .slice (some ⟨7,0,none⟩) (acc++Qay s xs n).length 1 else .slice none 0 0] 63 (0,0)])) (bif r then [Go.Obj.cells (Qad (QaG 0 Qax) (acc++Qay s xs n)) 22 (0,0)] else []) ([5,2]:List Nat)):=by
 intro m0;induction m0 using Nat.strongRecOn with
 | _ m0 ih0=>
   refine ⟨?_, ?_⟩
   ·intro n r1 hr1 hm0 hn ⟨dJ0,hdJ0,hg0⟩;have hl:=Qf3 h0 h1;by_cases q0:(n:Int) < (Qc5 s)
    ·have hp1:Qas (Qmb B s xs n dJ0):=by
      exact ⟨(Qbq q0),trivial⟩
     cases q1:QkK s n with
     | true=>
       have rj2:FJ YP B (QiK s xs n dJ0) (QgY s xs n dJ0) 7 (OO.ret (.bool true)) (([(5,Obj.loop {state:=LoopState.ready,pending:=none,fn:=121,tmps:=#[.int .i64 s,Qat 0 (slT xs.length (Qad Qax xs)),.tuple #[],pA 1 0,.slice none 0 0,pA 2 0,.tuple #[],.int .i64 s,Value.func (Fn.func 157) #[] #[Qat 3 (ptT 0 #[.int .i64 s])],.tuple #[],.tuple #[],.tuple #[],.tuple #[],.tuple #[],.tuple #[],.tuple #[],.tuple #[],.tuple #[]],params:=#[9],assign:=nav (Qaq YP 121) [1,1,0,1,0,0],body:=nav (Qaq YP 121) [1,1,0,1,0,1],defers:=4}),(2,Obj.cells #[.slice (some {block:=8,off:=0}) 1 1] 63)]++((7,Qbc)::QaA (7+1) [Obj.cells #[Qat 0 (slT (List.length (xs.getD n.toNat default)) (Qad Qav (xs.getD n.toNat default)))] 22]))++QgY s xs n dJ0) 9 (List.range 7) [5,2]:=by
        have s2:=Qfo (s:=s) (xs:=xs) q0 q1;exact FinK.fjB (GoE.finK okF hJ Qab (Qaj (by kernel_rfl)) (Qag (by kernel_rfl)) ((GoE.refl (P:=YP) (B:=B) (c0:=QiK s xs n dJ0) (Qaj (by kernel_rfl))).widen (Wf:=((([(5,KS.auto),(2,KS.auto)]):List (Nat×KS)).map (·.1))) (by simp) (Qag (by kernel_rfl))) (Q1q B s xs n dJ0)
         ⟨⟨by omega,by omega,(Qao (z:=1) (fun _=> rfl) (by omega))⟩,trivial⟩) (ex:=[]) (by kernel_rfl) (QaX _)
       have s2:=Qfo (s:=s) (xs:=xs) q0 q1;exact ((ih0 _ (by omega)).2 (n+1) ([xs.getD n.toNat default]) (1) r1 (by (rw [<-hr1,s2];simp;done)) rfl (by omega) (by (simp_all;done)) (by (refine ⟨by simp, ?_⟩;omega))
        (GoE.landA okF hJ Qab (Qaj (by kernel_rfl)) (Qag (by kernel_rfl)) hg0 (Q11 B s xs n dJ0)
        ⟨(by exact (Qoj (by exact ⟨(.reg (List.Mem.head _) rfl),trivial⟩))),⟨(QaR (by omega) (by omega)),⟨rj2,⟨⟨trivial,(by have t_:=Q44 (s) (n) (by omega) (by omega);rw [q1] at t_;exact t_)⟩,hp1⟩⟩⟩⟩ (by kernel_rfl) (by kernel_rfl) (fun l hl=> by cases hl <;> decide))).cast (by rfl) (by (rw [s2];rfl)) (by (rw [s2];rfl))
     | false=>
       have s2:=QiE (s:=s) (xs:=xs) q0 q1;exact ((ih0 _ (by omega)).1 (n+1) r1 (by (rw [<-hr1,s2];done)) rfl (by omega)
        (GoE.landA okF hJ Qab (Qaj (by kernel_rfl)) (Qag (by kernel_rfl)) hg0 (QzG B s xs n dJ0)
        ⟨(QaR (by omega) (by omega)),⟨⟨trivial,(by have t_:=Q44 (s) (n) (by omega) (by omega);rw [q1] at t_;exact t_)⟩,hp1⟩⟩ (by kernel_rfl) (by kernel_rfl) (fun l hl=> by cases hl <;> decide))).cast (by rfl) (by (rw [s2];done)) (by (rw [s2];done))
    ·have s2:=Qit (s:=s) (xs:=xs) (n:=n) (by omega);exact (GoE.finK okF hJ Qab (Qaj (by kernel_rfl)) (Qag (by kernel_rfl)) hg0 (Qz2 B s xs n dJ0)
      ⟨(Qbj (Int.not_lt.1 q0)),trivial⟩).cast (by rfl) (by (subst hr1;rw [s2];rfl)) (by (subst hr1;rw [s2];rfl))
   ·intro n acc acc_n r1 hr1 hm0 hn hacc haccb ⟨dJ0,hdJ0,hg0⟩;have hl:=Qf3 h0 h1;by_cases q0:(n:Int) < (Qc5 s)
    ·have hp2:Qas (Qm4 B s xs n acc acc_n dJ0):=by
      exact ⟨(Qbq q0),trivial⟩
     cases q1:QkK s n with
     | true=>
       have rj2:FJ YP B (QiU s xs n acc acc_n dJ0) (QgE s xs n acc acc_n dJ0) 8 (OO.ret (.bool true)) (([(7,Obj.pending #[] 0),(5,Obj.loop {state:=LoopState.ready,pending:=none,fn:=121,tmps:=#[.int .i64 s,Qat 0 (slT xs.length (Qad Qax xs)),.tuple #[],pA 1 0,.slice none 0 0,pA 2 0,.tuple #[],.int .i64 s,Value.func (Fn.func 157) #[] #[Qat 3 (ptT 0 #[.int .i64 s])],.tuple #[],.tuple #[],.tuple #[],.tuple #[],.tuple #[],.tuple #[],.tuple #[],.tuple #[],.tuple #[]],params:=#[9],assign:=nav (Qaq YP 121) [1,1,0,1,0,0],body:=nav (Qaq YP 121) [1,1,0,1,0,1],defers:=4}),(2,Obj.cells #[.slice (some {block:=9,off:=0}) (acc_n+1) 1] 63)]++((8,Qbc)::QaA (8+1) [Obj.cells (Qad (QaG 0 Qax) (acc++[xs.getD n.toNat default])) 22]))++QgE s xs n acc acc_n dJ0) 10 (List.range 8) [7,5,2]:=by
        have s2:=Qfo (s:=s) (xs:=xs) q0 q1;exact FinK.fjB (GoE.finK okF hJ Qab (Qaj (by kernel_rfl)) (Qag (by kernel_rfl)) ((GoE.refl (P:=YP) (B:=B) (c0:=QiU s xs n acc acc_n dJ0) (Qaj (by kernel_rfl))).widen (Wf:=((([(7,KS.dead),(5,KS.auto),(2,KS.auto)]):List (Nat×KS)).map (·.1))) (by simp) (Qag (by kernel_rfl))) (Q0p B s xs n acc acc_n dJ0)
         ⟨(by exact (QlR (Qb9 (Qb1 (fun _=> rfl)) (List.Mem.head _)) (by exact ⟨(.reg (List.Mem.head _) rfl),trivial⟩))),⟨⟨(by (rw [Qcc (z:=1) (fun _=> rfl)];first | omega | (simp;omega) | (simp_all;done))),(by unfold maxLen;omega),by omega,rfl⟩,⟨⟨by omega,by omega,(Qao (z:=1) (fun _=> rfl) (by omega))⟩,trivial⟩⟩⟩) (ex:=[7]) (by kernel_rfl) ⟨trivial,⟨trivial,⟨trivial,⟨(QeU (t:=22) (fl:=(0,0)) (Qb1 (fun _=> rfl)) (by decide)),⟨trivial,⟨trivial,⟨trivial,⟨trivial,⟨trivial,⟨trivial,trivial⟩⟩⟩⟩⟩⟩⟩⟩⟩⟩
       have s2:=Qfo (s:=s) (xs:=xs) q0 q1;exact ((ih0 _ (by omega)).2 (n+1) (acc++[xs.getD n.toNat default]) (acc_n+1) r1 (by (rw [<-hr1,s2];simp;done)) rfl (by omega) (by (simp_all;done)) (by (simp_all;done))
        (GoE.landA okF hJ Qab (Qaj (by kernel_rfl)) (Qag (by kernel_rfl)) hg0 (Qzj B s xs n acc acc_n dJ0)
        ⟨(by exact (Qb9 (Qb1 (fun _=> rfl)) (List.Mem.head _))),⟨(QaR (by omega) (by omega)),⟨rj2,⟨⟨trivial,(by have t_:=Q44 (s) (n) (by omega) (by omega);rw [q1] at t_;exact t_)⟩,hp2⟩⟩⟩⟩ (by kernel_rfl) (by kernel_rfl) (fun l hl=> by cases hl <;> decide))).cast (by rfl) (by (rw [s2,<-List.append_assoc];done)) (by (rw [s2,<-List.append_assoc];done))
     | false=>
       have s2:=QiE (s:=s) (xs:=xs) q0 q1;exact ((ih0 _ (by omega)).2 (n+1) (acc) (acc_n) r1 (by (rw [<-hr1,s2];done)) rfl (by omega) (by with_reducible assumption) (by exact ⟨haccb.1,by omega⟩)
        (GoE.landA okF hJ Qab (Qaj (by kernel_rfl)) (Qag (by kernel_rfl)) hg0 (QzQ B s xs n acc acc_n dJ0)
        ⟨(by exact (Qb9 (Qb1 (fun _=> rfl)) (List.Mem.head _))),⟨(QaR (by omega) (by omega)),⟨⟨trivial,(by have t_:=Q44 (s) (n) (by omega) (by omega);rw [q1] at t_;exact t_)⟩,hp2⟩⟩⟩ (by kernel_rfl) (by kernel_rfl) (fun l hl=> by cases hl <;> decide))).cast (by rfl) (by (rw [s2];done)) (by (rw [s2];done))
    ·have s2:=Qit (s:=s) (xs:=xs) (n:=n) (by omega);exact (GoE.finK okF hJ Qab (Qaj (by kernel_rfl)) (Qag (by kernel_rfl)) hg0 (Q1z B s xs n acc acc_n dJ0)
      ⟨(by exact (Qb9 (Qb1 (fun _=> rfl)) (List.Mem.head _))),⟨(Qbj (Int.not_lt.1 q0)),trivial⟩⟩).cast (by rfl) (by (subst hr1;simp only [Q3H haccb.1,s2,List.append_nil,hacc,Bool.not_false,cond_true];rfl)) (by (subst hr1;simp only [Q3H haccb.1,s2,List.append_nil,hacc,Bool.not_false,cond_true];done))

theorem Q0q (B:Lo) (s:Int) (xs:List (Row)):CE.landA 6 (Qah YP (Qau YP) J0 B 4 6 (Qc8 s xs) (Qbh s xs) 6
 [(1,Qaf.old (Hint.val (Value.int IntKind.u64 s))),(2,Qaf.pure (.int .i64 (Qc5 s)) [])] 0 [] []) [0,1,6,7] [(5,KS.auto),(2,KS.auto)] [] []=some ⟨157,20,QcV,[],.run,none,QcW s xs (0),([5,2]:List Nat).zip (QcT s xs (0)),Qb8 s xs (0),
 [Qas []/\Qai YP J0 158 #[Value.int IntKind.u64 s] (.int .i64 (Qc5 s)),IntKind.wrap IntKind.u64 s=s]⟩:=by kernel_rfl
theorem QwO (B:Lo) (s:Int) (xs:List (Row)):QaF (Qah YP (Qau YP) J0 B 16 1 (Qae YP 121 18 (([.int .i64 s,slT xs.length (Qad Qax xs)]).map (Qal 0 4))) H00 1
 (Qry s xs++[(5,Qaf.call (List.range 6) (OO.ret (.tuple #[])) ([(5,Obj.loop {state:=LoopState.ready,pending:=none,fn:=121,tmps:=(Qe1 s xs),params:=#[9],assign:=nav (Qaq YP 121) [1,1,0,1,0,0],body:=nav (Qaq YP 121) [1,1,0,1,0,1],defers:=4}),(2,Obj.cells #[.slice (some {block:=7,off:=0}) (List.length ([]++Qay s xs 0)) 1] 63)]++(6,Qbc)::QaA 7 [Obj.cells (Qad (QaG 0 Qax) ([]++Qay s xs 0)) 22]) 8 [5,2])]) 0 [] []) [{k:=7,rs:=[0],cs:=Qad Qax ([]++Qay s xs 0)}]=some (slT (List.length ([]++Qay s xs 0)) (Fz.cs {k:=7,rs:=[0],cs:=Qad Qax ([]++Qay s xs 0)}),
 [Qbl (Fz.rs {k:=7,rs:=[0],cs:=Qad Qax ([]++Qay s xs 0)}) (Qad (QaG 0 Qax) ([]++Qay s xs 0)) (Fz.cs {k:=7,rs:=[0],cs:=Qad Qax ([]++Qay s xs 0)}),FJ YP B (Qc8 s xs) (Qbh s xs) 6 (OO.ret (.tuple #[])) (([(5,Obj.loop {state:=LoopState.ready,pending:=none,fn:=121,tmps:=(Qe1 s xs),params:=#[9],assign:=nav (Qaq YP 121) [1,1,0,1,0,0],body:=nav (Qaq YP 121) [1,1,0,1,0,1],defers:=4}),(2,Obj.cells #[.slice (some {block:=7,off:=0}) (List.length ([]++Qay s xs 0)) 1] 63)]++((6,Qbc)::QaA (6+1) [Obj.cells (Qad (QaG 0 Qax) ([]++Qay s xs 0)) 22]))++Qbh s xs) 8 (List.range 6) [5,2]]++Qle B s xs):=by kernel_rfl
theorem Qxo (B:Lo) (s:Int) (xs:List (Row)):CE.landA 6 (Qah YP (Qau YP) J0 B 4 6 (Qc8 s xs) (Qbh s xs) 6
 [(1,Qaf.old (Hint.val (Value.int IntKind.u64 s))),(2,Qaf.pure (.int .i64 (Qc5 s)) [])] 0 [] []) [0,1,6,7] [(5,KS.auto),(2,KS.auto)] [] []=some ⟨157,20,QcV,[],.run,none,QcW s xs (0),([5,2]:List Nat).zip (QcT s xs (0)),Qb8 s xs (0),
 [Qas []/\Qai YP J0 158 #[Value.int IntKind.u64 s] (.int .i64 (Qc5 s)),IntKind.wrap IntKind.u64 s=s]⟩:=by kernel_rfl
theorem QwT (B:Lo) (s:Int) (xs:List (Row)):QaF (Qah YP (Qau YP) J0 B 16 1 (Qae YP 121 18 (([.int .i64 s,slT xs.length (Qad Qax xs)]).map (Qal 0 4))) H00 1
 (Qry s xs++[(5,Qaf.call (List.range 6) (OO.ret (.tuple #[])) ([(5,Obj.loop {state:=LoopState.ready,pending:=none,fn:=121,tmps:=(Qe1 s xs),params:=#[9],assign:=nav (Qaq YP 121) [1,1,0,1,0,0],body:=nav (Qaq YP 121) [1,1,0,1,0,1],defers:=4}),(2,Obj.cells #[.slice none 0 0] 63)]++(6,Qbc)::QaA 7 []) 7 [5,2])]) 0 [] []) []=some (slT 0 #[],
 [FJ YP B (Qc8 s xs) (Qbh s xs) 6 (OO.ret (.tuple #[])) (([(5,Obj.loop {state:=LoopState.ready,pending:=none,fn:=121,tmps:=(Qe1 s xs),params:=#[9],assign:=nav (Qaq YP 121) [1,1,0,1,0,0],body:=nav (Qaq YP 121) [1,1,0,1,0,1],defers:=4}),(2,Obj.cells #[.slice none 0 0] 63)]++((6,Qbc)::QaA (6+1) []))++Qbh s xs) 7 (List.range 6) [5,2]]++Qle B s xs):=by kernel_rfl
set_option maxHeartbeats 4000000 in
theorem Q3B (s:Int) (xs:List (Row)) (h0:0<=s) (h1:s < 64) (hx:Qc5 s<=xs.length) {B:Lo} (hJ:∀w,B.has w->J0 w):EndsT YP B (Qae YP 121 18 (([.int .i64 s,slT xs.length (Qad Qax xs)]).map (Qal 0 4))) (slT (Qay s xs 0).length (Qad Qax (Qay s xs 0))):=by
 have hl:=Qf3 h0 h1;have rj0:FJ YP B (Qix s xs) (Qhh s xs) 3 (OO.ret (Value.func (Fn.func 157) #[] #[Qat 3 (ptT 0 #[.int .i64 s])])) (([]++((3,Qbc)::QaA (3+1) []))++Qhh s xs) 4 (List.range 3) []:=by
  exact FinK.fjB (GoE.finK okF hJ Qab (Qaj (by kernel_rfl)) (Qag (by kernel_rfl)) ((GoE.refl (P:=YP) (B:=B) (c0:=Qix s xs) (Qaj (by kernel_rfl))).widen (Wf:=((([]):List (Nat×KS)).map (·.1))) (by simp) (Qag (by kernel_rfl))) (Q0r B s xs)
   ⟨(QfZ (by kernel_rfl)),trivial⟩) (ex:=[]) (by kernel_rfl) (QaX _)
 have hp0:Qas (Qle B s xs):=by
  exact ⟨rj0,trivial⟩
 cases q0: !List.isEmpty ([]++Qay s xs 0) with
 | true=>
   have rj1:FJ YP B (Qc8 s xs) (Qbh s xs) 6 (OO.ret (.tuple #[])) (([(5,Obj.loop {state:=LoopState.ready,pending:=none,fn:=121,tmps:=#[.int .i64 s,Qat 0 (slT xs.length (Qad Qax xs)),.tuple #[],pA 1 0,.slice none 0 0,pA 2 0,.tuple #[],.int .i64 s,Value.func (Fn.func 157) #[] #[Qat 3 (ptT 0 #[.int .i64 s])],.tuple #[],.tuple #[],.tuple #[],.tuple #[],.tuple #[],.tuple #[],.tuple #[],.tuple #[],.tuple #[]],params:=#[9],assign:=nav (Qaq YP 121) [1,1,0,1,0,0],body:=nav (Qaq YP 121) [1,1,0,1,0,1],defers:=4}),(2,Obj.cells #[.slice (some {block:=7,off:=0}) (List.length ([]++Qay s xs 0)) 1] 63)]++((6,Qbc)::QaA (6+1) [Obj.cells (Qad (QaG 0 Qax) ([]++Qay s xs 0)) 22]))++Qbh s xs) 8 (List.range 6) [5,2]:=by
    exact FinK.fjB ((Qkk s xs h0 h1 hx hJ _).1 (0) true q0 rfl (by omega)
     (GoE.landA okF hJ Qab (Qaj (by kernel_rfl)) (Qag (by kernel_rfl)) ((GoE.refl (P:=YP) (B:=B) (c0:=Qc8 s xs) (Qaj (by kernel_rfl))).widen (Wf:=((([(5,KS.auto),(2,KS.auto)]):List (Nat×KS)).map (·.1))) (by simp) (Qag (by kernel_rfl))) (Q0q B s xs)
     ⟨⟨trivial,Q76 (s) (by with_reducible assumption) (by with_reducible assumption)⟩,⟨(IntWalk.u64_in _ ⟨by omega,by omega⟩),trivial⟩⟩ (by kernel_rfl) (by kernel_rfl) (fun l hl=> by cases hl <;> decide))) (ex:=[]) (by kernel_rfl) (QaX _)
   exact (GoE.endsT okF hJ Qab GoE.start (QwO B s xs)
    ⟨(QeE (Qb1 (fun _=> rfl)) (List.Mem.head _)),⟨rj1,hp0⟩⟩).cast (by rfl)
 | false=>
   have rj1:FJ YP B (Qc8 s xs) (Qbh s xs) 6 (OO.ret (.tuple #[])) (([(5,Obj.loop {state:=LoopState.ready,pending:=none,fn:=121,tmps:=#[.int .i64 s,Qat 0 (slT xs.length (Qad Qax xs)),.tuple #[],pA 1 0,.slice none 0 0,pA 2 0,.tuple #[],.int .i64 s,Value.func (Fn.func 157) #[] #[Qat 3 (ptT 0 #[.int .i64 s])],.tuple #[],.tuple #[],.tuple #[],.tuple #[],.tuple #[],.tuple #[],.tuple #[],.tuple #[],.tuple #[]],params:=#[9],assign:=nav (Qaq YP 121) [1,1,0,1,0,0],body:=nav (Qaq YP 121) [1,1,0,1,0,1],defers:=4}),(2,Obj.cells #[.slice none 0 0] 63)]++((6,Qbc)::QaA (6+1) []))++Qbh s xs) 7 (List.range 6) [5,2]:=by
    exact FinK.fjB ((Qkk s xs h0 h1 hx hJ _).1 (0) false q0 rfl (by omega)
     (GoE.landA okF hJ Qab (Qaj (by kernel_rfl)) (Qag (by kernel_rfl)) ((GoE.refl (P:=YP) (B:=B) (c0:=Qc8 s xs) (Qaj (by kernel_rfl))).widen (Wf:=((([(5,KS.auto),(2,KS.auto)]):List (Nat×KS)).map (·.1))) (by simp) (Qag (by kernel_rfl))) (Qxo B s xs)
     ⟨⟨trivial,Q76 (s) (by with_reducible assumption) (by with_reducible assumption)⟩,⟨(IntWalk.u64_in _ ⟨by omega,by omega⟩),trivial⟩⟩ (by kernel_rfl) (by kernel_rfl) (fun l hl=> by cases hl <;> decide))) (ex:=[]) (by kernel_rfl) (QaX _)
   exact (GoE.endsT okF hJ Qab GoE.start (QwT B s xs)
    ⟨rj1,hp0⟩).cast (by (rw [Q6N q0];rfl))
theorem Q7q (s:Int) (xs:List (Row)) (h0:0<=s) (h1:s < 64) (hx:Qc5 s<=xs.length):Qai YP J0 121 #[.int .i64 s,slT xs.length (Qad Qax xs)] (slT (Qay s xs 0).length (Qad Qax (Qay s xs 0))):=
 Qa5 (ts:=[.int .i64 s,slT xs.length (Qad Qax xs)]) Qbn (c0:=Qae YP 121 18 (([.int .i64 s,slT xs.length (Qad Qax xs)]).map (Qal 0 4))) (by kernel_rfl) (by kernel_rfl) fun B hJ=> Q3B s xs h0 h1 hx hJ
end
end Go.Proofs.YtiabgkiccaodmaaGreat

namespace Go.Proofs.YtiabgkiccaodmaaGreat
open Go Go.CE Go.RowKit
set_option maxRecDepth 100000
def Qgx {α β:Type} (f:α->β) (x0:β) (xs:List α) (i:Int):List β:=(xs.take i.toNat).map f++List.replicate (xs.length - i.toNat) x0
theorem Qgj {α β:Type} {f:α->β} {x0:β} {xs:List α}:List.replicate xs.length x0=Qgx f x0 xs 0:=by simp [Qgx]
theorem QdQ {α β:Type} {f:α->β} {x0:β} {xs:List α} {i:Int}:(Qgx f x0 xs i).length=xs.length:=by simp [Qgx];omega
theorem QdM {α β:Type} [Inhabited α] {f:α->β} {x0:β} {xs:List α} {i:Int} (h0:0<=i) (h:i < xs.length):(Qgx f x0 xs i).set i.toNat (f (xs.getD i.toNat default))=Qgx f x0 xs (i+1):=by
 obtain ⟨k,rfl⟩:∃k:Nat,i=k:=⟨i.toNat,by omega⟩
 have hk:k < xs.length:=by omega
 have e1:((k:Int)).toNat=k:=by omega
 have e2:((k:Int)+1).toNat=k+1:=by omega
 unfold Qgx;rw [e1,e2];have hl:((xs.take k).map f).length=k:=by simp;omega
 rw [List.set_append_right _ _ (by omega),hl,Nat.sub_self];have er:xs.length - k=(xs.length - (k+1))+1:=by omega
 rw [er,List.replicate_succ,List.set_cons_zero];have et:xs.take (k+1)=xs.take k++[xs[k]]:=by rw [List.take_succ_eq_append_getElem hk]
 rw [et,List.map_append,List.append_assoc];simp [List.getD_eq_getElem?_getD,hk]
theorem QdS {α β:Type} {f:α->β} {x0:β} {xs:List α} {i:Int} (h:xs.length<=i):Qgx f x0 xs i=xs.map f:=by
 unfold Qgx;rw [List.take_of_length_le (by omega),show xs.length - i.toNat=0 by omega];simp
theorem Qf7 {β:Type} {e:β->List Value} {ys zs:List β} {n:Nat} (h:ys=zs) (hn:n=zs.length):slT n (Qad e ys)=slT zs.length (Qad e zs):=by subst h hn;rfl
def QgS (xs:List Qak) (i:Int) (ys:List Int):List Value:=[Value.func (Fn.func 140) #[] #[],.slice (some {block:=2,off:=0}) xs.length 1,Qat 1 (slT xs.length (Qad Qam xs)),.int .i64 (↑xs.length:Int),.int .i64 i]
def Qe8 (xs:List Qak) (i:Int) (ys:List Int):List Obj:=[.cells (Qad Qav ys) 3 (0,0)]
noncomputable def Qg4:List Item:=([.code [1,1,0,1,0,0],.inLoop [1,1,0,1,0,0],.inBlock 0,.code [1,1,1]]).map (it (Qaq YP 92))
def QyB (B:Lo) (c0:CF) (xs:List Qak) (i:Int) (ys:List Int):Prop:=∃dJ:Nat->Value,(∀t,Qbg (dJ t))/\GoE YP B c0 H00 1 (Qa3 92 26 (([1,5,11,12,13]:List Nat).zip (QgS xs i ys)) dJ Qg4) (Qa1 (Qe8 xs i ys)) (2+(Qe8 xs i ys).length) []
noncomputable def QgO (xs:List Qak) (i:Int) (ys:List Int) (dJ0:Nat->Value):Qar:=[(3,Obj.cells #[Qat 1 (slT (List.length (Qak.goods (xs.getD i.toNat default))) (Qad Qaz (Qak.goods (xs.getD i.toNat default)))),.int .i64 (Qak.weight (xs.getD i.toNat default)),.int .i64 (Qak.cost (xs.getD i.toNat default))] 118),(0,Obj.coro none),(1,Obj.coro none),(2,Obj.cells (Qad Qav ys) 3)]
noncomputable def Qik (xs:List Qak) (i:Int) (ys:List Int) (dJ0:Nat->Value):CF:=⟨140,ofList 5 [.agg #[Qat 1 (slT (List.length (Qak.goods (xs.getD i.toNat default))) (Qad Qaz (Qak.goods (xs.getD i.toNat default)))),.int .i64 (Qak.weight (xs.getD i.toNat default)),.int .i64 (Qak.cost (xs.getD i.toNat default))]],[Item.code (Qaq YP 140)],[],.run,none⟩
theorem Qyw (B:Lo) (xs:List Qak) (i:Int) (ys:List Int) (dJ0:Nat->Value):CE.finK 4 (Qah YP (Qau YP) J0 B 6 4 (Qik xs i ys dJ0) (QgO xs i ys dJ0) 4
 [] 0 [] []) [] [] []=some (OO.ret (.int .i64 (Qak.weight (xs.getD i.toNat default))),[],[],
 []):=by kernel_rfl
theorem Q0u (B:Lo) (xs:List Qak) (i:Int) (ys:List Int) (dJ0:Nat->Value):landM (Qah YP (Qau YP) J0 B 13 1 (Qa3 92 26 (([1,5,11,12,13]:List Nat).zip (QgS xs i ys)) dJ0 Qg4) (Qa1 (Qe8 xs i ys)) (2+(Qe8 xs i ys).length)
 [(0,hvT),(2,Qaf.tidx i.toNat #[slT (List.length (Qak.goods (xs.getD i.toNat default))) (Qad Qaz (Qak.goods (xs.getD i.toNat default))),.int .i64 (Qak.weight (xs.getD i.toNat default)),.int .i64 (Qak.cost (xs.getD i.toNat default))]),(11,Qaf.call (List.range 4) (OO.ret (.int .i64 (Qak.weight (xs.getD i.toNat default)))) ([]++(4,Qbc)::QaA 5 []) 5 []),(12,Qaf.old (Hint.idx i.toNat)),(13,Qaf.old (Hint.st (Qad Qav (List.set ys i.toNat (Qak.weight (xs.getD i.toNat default)))))),(14,hvI (i+1))] 0 [] []) [1,5,11,12,13] [(2,KS.cells [] (Qad Qav (List.set ys i.toNat (Qak.weight (xs.getD i.toNat default)))))] []=some ⟨92,26,Qg4,[],.run,none,QgS xs (i+1) (List.set ys i.toNat (Qak.weight (xs.getD i.toNat default))),Qe8 xs (i+1) (List.set ys i.toNat (Qak.weight (xs.getD i.toNat default))),
 [Qdd 1 [] (Qad Qav (List.set ys i.toNat (Qak.weight (xs.getD i.toNat default)))) (Qad Qav (List.set ys i.toNat (Qak.weight (xs.getD i.toNat default)))),wq (i+1)=i+1,0+Int.toNat i * 1+TypeInfo.size Tryz.t3<=Array.size (Qad Qav ys)/\splice (Qad Qav ys) (0+Int.toNat i * 1) (Value.cells (QbV {len:=16000,tr:=Tri.set 14 (Tri.set 14 Tri.lf 22 (.int .i64 (Qak.weight (xs.getD i.toNat default)))) 23 (.pointer (some {block:=2,off:=0+Int.toNat i * 1}))} 22))=Qad Qav (List.set ys i.toNat (Qak.weight (xs.getD i.toNat default))),i=(↑i.toNat:Int)/\Int.toNat i < List.length xs,FJ YP B (Qik xs i ys dJ0) (QgO xs i ys dJ0) 4 (OO.ret (.int .i64 (Qak.weight (xs.getD i.toNat default)))) (([]++((4,Qbc)::QaA (4+1) []))++QgO xs i ys dJ0) 5 (List.range 4) [],i=(↑i.toNat:Int)/\Int.toNat i < List.length xs/\Array.extract (Qad Qam xs) (Int.toNat i * TypeInfo.size Tryz.t118) (Int.toNat i * TypeInfo.size Tryz.t118+TypeInfo.size Tryz.t118)=#[slT (List.length (Qak.goods (xs.getD i.toNat default))) (Qad Qaz (Qak.goods (xs.getD i.toNat default))),.int .i64 (Qak.weight (xs.getD i.toNat default)),.int .i64 (Qak.cost (xs.getD i.toNat default))],ltq i (↑xs.length:Int)=true]⟩:=by kernel_rfl
theorem Q0X (B:Lo) (xs:List Qak) (i:Int) (ys:List Int) (dJ0:Nat->Value):QaF (Qah YP (Qau YP) J0 B 9 1 (Qa3 92 26 (([1,5,11,12,13]:List Nat).zip (QgS xs i ys)) dJ0 Qg4) (Qa1 (Qe8 xs i ys)) (2+(Qe8 xs i ys).length)
 [(0,hvF)] 0 [] []) [{k:=2,rs:=[],cs:=Qad Qav ys}]=some (slT xs.length (Fz.cs {k:=2,rs:=[],cs:=Qad Qav ys}),
 [Qbl (Fz.rs {k:=2,rs:=[],cs:=Qad Qav ys}) (Qad Qav ys) (Fz.cs {k:=2,rs:=[],cs:=Qad Qav ys}),ltq i (↑xs.length:Int)=false]):=by kernel_rfl
theorem Qz9 (B:Lo) (xs:List Qak):landM (Qah YP (Qau YP) J0 B 9 1 (Qae YP 92 26 (([slT xs.length (Qad Qam xs),.func (.func 140) #[] #[]]).map (Qal 0 4))) H00 1
 [(3,Qaf.old (Hint.mk xs.length (Qad (QbL [.int .i64 0]) (List.replicate xs.length ()))))] 0 [] []) [1,5,11,12,13] [(1,KS.rows [] [] (Qad Qav (List.replicate xs.length 0)))] []=some ⟨92,26,Qg4,[],.run,none,QgS xs (0) (List.replicate xs.length 0),Qe8 xs (0) (List.replicate xs.length 0),
 [Qbu 1 [] [] (Qad (QbL [.int .i64 0]) (List.replicate xs.length ())) (Qad Qav (List.replicate xs.length 0)),Qgh YP 22 (QbV {len:=16000,tr:=Tri.set 14 Tri.lf 9 (.int .i64 (↑xs.length:Int))} 9) (QbV {len:=16000,tr:=Tri.set 14 Tri.lf 9 (.int .i64 (↑xs.length:Int))} 9)=some (3,Qad (QbL [.int .i64 0]) (List.replicate xs.length ()),List.length xs,TypeInfo.size Tryz.t3)]⟩:=by kernel_rfl
set_option maxHeartbeats 4000000 in
theorem Qy9 (xs:List Qak) (hn:xs.length<=1000000) {B:Lo} (hJ:∀w,B.has w->J0 w) {c0:CF}:∀m:Nat,(∀(i:Int) (ys:List Int),(xs.length - i.toNat)=m->∀(h0:0<=i) (hy:ys=Qgx Qak.weight 0 xs i),QyB B c0 xs i ys->EndsT YP B c0 (slI (xs.map Qak.weight))):=by
 intro m0;induction m0 using Nat.strongRecOn with
 | _ m0 ih0=>
   intro i ys hm0 h0 hy ⟨dJ0,hdJ0,hg0⟩;have hyl:ys.length=xs.length:=by rw [hy];exact QdQ
   by_cases q0:(i:Int) < ((↑xs.length:Int))
   ·have rj0:FJ YP B (Qik xs i ys dJ0) (QgO xs i ys dJ0) 4 (OO.ret (.int .i64 (Qak.weight (xs.getD i.toNat default)))) (([]++((4,Qbc)::QaA (4+1) []))++QgO xs i ys dJ0) 5 (List.range 4) []:=by
     exact FinK.fjB (GoE.finK okF hJ Qab (Qaj (by kernel_rfl)) (Qag (by kernel_rfl)) ((GoE.refl (P:=YP) (B:=B) (c0:=Qik xs i ys dJ0) (Qaj (by kernel_rfl))).widen (Wf:=((([]):List (Nat×KS)).map (·.1))) (by simp) (Qag (by kernel_rfl))) (Qyw B xs i ys dJ0)
      trivial) (ex:=[2]) (by kernel_rfl) ⟨trivial,⟨trivial,⟨trivial,⟨(Quh (t:=3) (fl:=(0,0)) (fun x=> List.all_eq_true.1 (by rfl))),trivial⟩⟩⟩⟩
    exact ((ih0 _ (by omega)) (i+1) (List.set ys i.toNat (Qak.weight (xs.getD i.toNat default))) rfl (by omega) (by (subst hy;exact QdM h0 q0))
     (hg0.landM okF hJ Qab (Q0u B xs i ys dJ0)
     ⟨(QaO (QaT (fun x=> List.all_eq_true.1 (by rfl)))),⟨(QaR (by omega) (by omega)),⟨(by exact Qfr (z:=1) (fun _=> rfl) (by omega) rfl rfl),⟨⟨by omega,by omega⟩,⟨rj0,⟨⟨by omega,by omega,(Qao (z:=3) (fun _=> rfl) (by omega))⟩,⟨(Qbq q0),trivial⟩⟩⟩⟩⟩⟩⟩ (by kernel_rfl) (by kernel_rfl))).cast (by rfl)
   ·exact (GoE.endsT okF hJ Qab hg0 (Q0X B xs i ys dJ0)
     ⟨(QaC (fun x=> List.all_eq_true.1 (by rfl))),⟨(Qbj (Int.not_lt.1 q0)),trivial⟩⟩).cast (by exact Qf7 (hy.trans (QdS (by omega))) (by simp))
set_option maxHeartbeats 4000000 in
theorem Q32 (xs:List Qak) (hn:xs.length<=1000000) {B:Lo} (hJ:∀w,B.has w->J0 w):EndsT YP B (Qae YP 92 26 (([slT xs.length (Qad Qam xs),.func (.func 140) #[] #[]]).map (Qal 0 4))) (slI (xs.map Qak.weight)):=by
 exact ((Qy9 xs hn hJ _) (0) (List.replicate xs.length 0) rfl (by omega) (by exact Qgj)
  (GoE.start.landM okF hJ Qab (Qz9 B xs)
  ⟨(by exact (QbQ (by exact ⟨(.simple rfl),trivial⟩) _)),⟨(Qgs (bytes:=8) (by kernel_rfl) (by omega) (by omega) (by omega)),trivial⟩⟩ (by kernel_rfl) (by kernel_rfl))).cast (by rfl)
theorem Q63 (xs:List Qak) (hn:xs.length<=1000000):Qai YP J0 92 #[slT xs.length (Qad Qam xs),.func (.func 140) #[] #[]] (slI (xs.map Qak.weight)):=
 Qa5 (ts:=[slT xs.length (Qad Qam xs),.func (.func 140) #[] #[]]) Qbn (c0:=Qae YP 92 26 (([slT xs.length (Qad Qam xs),.func (.func 140) #[] #[]]).map (Qal 0 4))) (by kernel_rfl) (by kernel_rfl) fun B hJ=> Q32 xs hn hJ
end Go.Proofs.YtiabgkiccaodmaaGreat

namespace Go.Proofs.YtiabgkiccaodmaaGreat
open Go Go.CE Go.RowKit
noncomputable section
set_option maxRecDepth 100000
structure Qaa where
 stock:List Int
 use:List Span
 glo:Int
 ghi:Int
 lots:List Qak
 hold:Int
deriving Inhabited
abbrev Q5o (xs:List Qak):Value:=slT xs.length (Qad Qam xs)
def Qap (s:Qaa):List Value:=[slI s.stock,Qol s.use,.int .i64 s.glo,.int .i64 s.ghi,Q5o s.lots,.int .i64 s.hold]
def QcK (xs:List Span) (most:Int):Bool:=xs.all (fun s=> Qbw s.lo s.hi 0 most)
def Qoh (k:Nat) (l:Qak):Bool:=decide (l.goods.length=k) && (QcK l.goods 100000 && (inB l.weight 0 100000 && inB l.cost 0 1000000))
def Qpv (s:Qaa):Bool:=decide (s.lots.length<=6) && s.lots.all (Qoh s.stock.length)
def Qa7 (s:Qaa):Bool:=inB s.stock.length 1 4 && (s.stock.all (fun x=> inB x 0 100000) && (decide (s.use.length=s.stock.length) && (QcK s.use 1000 && (Qbw s.glo s.ghi 1 60 && (Qpv s && inB s.hold 0 100000)))))
theorem Q1e (B:Lo) (a b:Int):QaF (Qah YP (Qau YP) J0 B 6 1 (Qae YP 75 5 (([.agg #[.int .i64 a,.int .i64 b]]).map (Qal 0 4))) H00 1
 [(3,Qaf.pure (.bool true) [])] 0 [] []) []=some (.bool true,
 [Qas []/\Qai YP J0 109 #[.agg #[.int .i64 a,.int .i64 b],.int .i64 1,.int .i64 60] (.bool true)]):=by kernel_rfl
theorem Qy7 (B:Lo) (a b:Int):QaF (Qah YP (Qau YP) J0 B 6 1 (Qae YP 75 5 (([.agg #[.int .i64 a,.int .i64 b]]).map (Qal 0 4))) H00 1
 [(3,Qaf.pure (.bool false) [])] 0 [] []) []=some (.bool false,
 [Qas []/\Qai YP J0 109 #[.agg #[.int .i64 a,.int .i64 b],.int .i64 1,.int .i64 60] (.bool false)]):=by kernel_rfl
set_option maxHeartbeats 4000000 in
theorem Q4m (a b:Int)  {B:Lo} (hJ:∀w,B.has w->J0 w):EndsT YP B (Qae YP 75 5 (([.agg #[.int .i64 a,.int .i64 b]]).map (Qal 0 4))) (.bool (Qbw a b 1 60)):=by
 cases q0:Qbw a b 1 60 with
 | true=>
   exact (GoE.endsT okF hJ Qab GoE.start (Q1e B a b)
    ⟨⟨trivial,(by have t_:=Qiu (a) (b) (1) (60);rw [q0] at t_;exact t_)⟩,trivial⟩).cast (by rfl)
 | false=>
   exact (GoE.endsT okF hJ Qab GoE.start (Qy7 B a b)
    ⟨⟨trivial,(by have t_:=Qiu (a) (b) (1) (60);rw [q0] at t_;exact t_)⟩,trivial⟩).cast (by rfl)
theorem Q4z (a b:Int)  :Qai YP J0 75 #[.agg #[.int .i64 a,.int .i64 b]] (.bool (Qbw a b 1 60)):=
 Qa5 (ts:=[.agg #[.int .i64 a,.int .i64 b]]) Qbn (c0:=Qae YP 75 5 (([.agg #[.int .i64 a,.int .i64 b]]).map (Qal 0 4))) (by kernel_rfl) (by kernel_rfl) fun B hJ=> Q4m a b  hJ
theorem Qsy (B:Lo) (n:Int):QaF (Qah YP (Qau YP) J0 B 6 1 (Qae YP 114 5 (([.int .i64 n]).map (Qal 0 4))) H00 1
 [(2,Qaf.pure (.bool true) [])] 0 [] []) []=some (.bool true,
 [Qas []/\Qai YP J0 76 #[.int .i64 n,.int .i64 0,.int .i64 100000] (.bool true)]):=by kernel_rfl
theorem QrB (B:Lo) (n:Int):QaF (Qah YP (Qau YP) J0 B 6 1 (Qae YP 114 5 (([.int .i64 n]).map (Qal 0 4))) H00 1
 [(2,Qaf.pure (.bool false) [])] 0 [] []) []=some (.bool false,
 [Qas []/\Qai YP J0 76 #[.int .i64 n,.int .i64 0,.int .i64 100000] (.bool false)]):=by kernel_rfl
set_option maxHeartbeats 4000000 in
theorem Qt6 (n:Int)  {B:Lo} (hJ:∀w,B.has w->J0 w):EndsT YP B (Qae YP 114 5 (([.int .i64 n]).map (Qal 0 4))) (.bool (inB n 0 100000)):=by
 cases q0:inB n 0 100000 with
 | true=>
   exact (GoE.endsT okF hJ Qab GoE.start (Qsy B n)
    ⟨⟨trivial,(by have t_:=pIn (n) (0) (100000);rw [q0] at t_;exact t_)⟩,trivial⟩).cast (by rfl)
 | false=>
   exact (GoE.endsT okF hJ Qab GoE.start (QrB B n)
    ⟨⟨trivial,(by have t_:=pIn (n) (0) (100000);rw [q0] at t_;exact t_)⟩,trivial⟩).cast (by rfl)
theorem QiI (n:Int)  :Qai YP J0 114 #[.int .i64 n] (.bool (inB n 0 100000)):=
 Qa5 (ts:=[.int .i64 n]) Qbn (c0:=Qae YP 114 5 (([.int .i64 n]).map (Qal 0 4))) (by kernel_rfl) (by kernel_rfl) fun B hJ=> Qt6 n  hJ
def Qmw (B:Lo) (s:Qaa) (l:Qak):List Prop:=[eqq (↑l.goods.length:Int) (↑s.stock.length:Int)=true]++([]:List Prop)
def Qrv (s:Qaa) (l:Qak):Qan:=[(9,hvT)]
def Qld (B:Lo) (s:Qaa) (l:Qak):List Prop:=[Qas []/\Qai YP J0 101 #[slT l.goods.length (Qad Qaz l.goods),.int .i64 100000] (.bool true)]++Qmw B s l
def Qr0 (s:Qaa) (l:Qak):Qan:=Qrv s l++[(13,Qaf.pure (.bool true) [])]
def QmP (B:Lo) (s:Qaa) (l:Qak):List Prop:=[Qas []/\Qai YP J0 114 #[.int .i64 l.weight] (.bool true)]++Qld B s l
def Qsj (s:Qaa) (l:Qak):Qan:=Qr0 s l++[(18,Qaf.pure (.bool true) [])]
theorem Q16 (B:Lo) (s:Qaa) (l:Qak):QaF (Qah YP (Qau YP) J0 B 6 1 (Qae YP 145 27 (([.agg (Qap s).toArray,.agg (Qam l).toArray]).map (Qal 0 4))) H00 1
 (Qsj s l++[(23,Qaf.pure (.bool true) [])]) 0 [] []) []=some (.bool true,
 [Qas []/\Qai YP J0 76 #[.int .i64 l.cost,.int .i64 0,.int .i64 1000000] (.bool true)]++QmP B s l):=by kernel_rfl
theorem QzL (B:Lo) (s:Qaa) (l:Qak):QaF (Qah YP (Qau YP) J0 B 6 1 (Qae YP 145 27 (([.agg (Qap s).toArray,.agg (Qam l).toArray]).map (Qal 0 4))) H00 1
 (Qsj s l++[(23,Qaf.pure (.bool false) [])]) 0 [] []) []=some (.bool false,
 [Qas []/\Qai YP J0 76 #[.int .i64 l.cost,.int .i64 0,.int .i64 1000000] (.bool false)]++QmP B s l):=by kernel_rfl
theorem Qyx (B:Lo) (s:Qaa) (l:Qak):QaF (Qah YP (Qau YP) J0 B 6 1 (Qae YP 145 27 (([.agg (Qap s).toArray,.agg (Qam l).toArray]).map (Qal 0 4))) H00 1
 (Qr0 s l++[(18,Qaf.pure (.bool false) [])]) 0 [] []) []=some (.bool false,
 [Qas []/\Qai YP J0 114 #[.int .i64 l.weight] (.bool false)]++Qld B s l):=by kernel_rfl
theorem QyV (B:Lo) (s:Qaa) (l:Qak):QaF (Qah YP (Qau YP) J0 B 6 1 (Qae YP 145 27 (([.agg (Qap s).toArray,.agg (Qam l).toArray]).map (Qal 0 4))) H00 1
 (Qrv s l++[(13,Qaf.pure (.bool false) [])]) 0 [] []) []=some (.bool false,
 [Qas []/\Qai YP J0 101 #[slT l.goods.length (Qad Qaz l.goods),.int .i64 100000] (.bool false)]++Qmw B s l):=by kernel_rfl
theorem Qy3 (B:Lo) (s:Qaa) (l:Qak):QaF (Qah YP (Qau YP) J0 B 6 1 (Qae YP 145 27 (([.agg (Qap s).toArray,.agg (Qam l).toArray]).map (Qal 0 4))) H00 1
 [(9,hvF)] 0 [] []) []=some (.bool false,
 [eqq (↑l.goods.length:Int) (↑s.stock.length:Int)=false]):=by kernel_rfl
set_option maxHeartbeats 4000000 in
theorem Q3E (s:Qaa) (l:Qak)  {B:Lo} (hJ:∀w,B.has w->J0 w):EndsT YP B (Qae YP 145 27 (([.agg (Qap s).toArray,.agg (Qam l).toArray]).map (Qal 0 4))) (.bool (Qoh s.stock.length l)):=by
 by_cases q0:((↑l.goods.length:Int):Int)=((↑s.stock.length:Int))
 ·have hp0:Qas (Qmw B s l):=by
   exact ⟨(Qvr q0),trivial⟩
  cases q1:List.all l.goods fun s=> Qbw s.lo s.hi 0 100000 with
  | true=>
    have hp1:Qas (Qld B s l):=by
     exact ⟨⟨trivial,(by have t_:=QfE l.goods (100000);rw [q1] at t_;exact t_)⟩,hp0⟩
    cases q2:inB l.weight 0 100000 with
    | true=>
      have hp2:Qas (QmP B s l):=by
       exact ⟨⟨trivial,(by have t_:=QiI l.weight;rw [q2] at t_;exact t_)⟩,hp1⟩
      cases q3:inB l.cost 0 1000000 with
      | true=>
        exact (GoE.endsT okF hJ Qab GoE.start (Q16 B s l)
         ⟨⟨trivial,(by have t_:=pIn l.cost (0) (1000000);rw [q3] at t_;exact t_)⟩,hp2⟩).cast (by (simp_all [Qoh,QcK];omega))
      | false=>
        exact (GoE.endsT okF hJ Qab GoE.start (QzL B s l)
         ⟨⟨trivial,(by have t_:=pIn l.cost (0) (1000000);rw [q3] at t_;exact t_)⟩,hp2⟩).cast (by (simp [Qoh,QcK, *];done))
    | false=>
      exact (GoE.endsT okF hJ Qab GoE.start (Qyx B s l)
       ⟨⟨trivial,(by have t_:=QiI l.weight;rw [q2] at t_;exact t_)⟩,hp1⟩).cast (by (simp [Qoh,QcK, *];done))
  | false=>
    exact (GoE.endsT okF hJ Qab GoE.start (QyV B s l)
     ⟨⟨trivial,(by have t_:=QfE l.goods (100000);rw [q1] at t_;exact t_)⟩,hp0⟩).cast (by (simp [Qoh,QcK, *];done))
 ·exact (GoE.endsT okF hJ Qab GoE.start (Qy3 B s l)
   ⟨(Qw1 q0),trivial⟩).cast (by (simp_all [Qoh,QcK];omega))
theorem Q4D (s:Qaa) (l:Qak)  :Qai YP J0 145 #[.agg (Qap s).toArray,.agg (Qam l).toArray] (.bool (Qoh s.stock.length l)):=
 Qa5 (ts:=[.agg (Qap s).toArray,.agg (Qam l).toArray]) Qbn (c0:=Qae YP 145 27 (([.agg (Qap s).toArray,.agg (Qam l).toArray]).map (Qal 0 4))) (by kernel_rfl) (by kernel_rfl) fun B hJ=> Q3E s l  hJ
def Qeo (s:Qaa) (i:Int):List Value:=[pA 2 0,Qat 1 (slT s.lots.length (Qad Qam s.lots)),.int .i64 (↑s.lots.length:Int),.int .i64 i]
def Qck (s:Qaa) (i:Int):List Obj:=[Obj.cells #[Qat 1 (slT s.stock.length (Qad Qav s.stock)),Qat 1 (slT s.use.length (Qad Qaz s.use)),.int .i64 s.glo,.int .i64 s.ghi,Qat 1 (slT s.lots.length (Qad Qam s.lots)),.int .i64 s.hold] 62]
def Qei:List Item:=([.code [1,1,0,1,0,0],.inLoop [1,1,0,1,0,0],.inBlock 0,.code [1,1,1]]).map (it (Qaq YP 113))
def Qtp (B:Lo) (c0:CF) (s:Qaa) (i:Int):Prop:=∃dJ:Nat->Value,(∀t,Qbg (dJ t))/\GoE YP B c0 H00 1 (Qa3 113 21 (([1,10,11,12]:List Nat).zip (Qeo s i)) dJ Qei) (Qa1 (Qck s i)) (2+(Qck s i).length) []
def Qge (s:Qaa) (i:Int):Array Value:=#[slT (List.length (Qak.goods (s.lots.getD i.toNat default))) (Qad Qaz (Qak.goods (s.lots.getD i.toNat default))),.int .i64 (Qak.weight (s.lots.getD i.toNat default)),.int .i64 (Qak.cost (s.lots.getD i.toNat default))]
def QhT (B:Lo) (s:Qaa) (i:Int) (dJ0:Nat->Value):List Prop:=[i=(↑i.toNat:Int)/\Int.toNat i < List.length s.lots/\Array.extract (Qad Qam s.lots) (Int.toNat i * TypeInfo.size Tryz.t118) (Int.toNat i * TypeInfo.size Tryz.t118+TypeInfo.size Tryz.t118)=(Qge s i),ltq i (↑s.lots.length:Int)=true]++([]:List Prop)
def Qnt (s:Qaa) (i:Int) (dJ0:Nat->Value):Qan:=[(0,hvT),(1,Qaf.tidx i.toNat (Qge s i))]
theorem QsL (B:Lo) (s:Qaa) (i:Int) (dJ0:Nat->Value):landM (Qah YP (Qau YP) J0 B 16 1 (Qa3 113 21 (([1,10,11,12]:List Nat).zip (Qeo s i)) dJ0 Qei) (Qa1 (Qck s i)) (2+(Qck s i).length)
 (Qnt s i dJ0++[(7,Qaf.pure (.bool true) []),(9,hvI (i+1))]) 0 [] []) [1,10,11,12] [(2,KS.auto)] []=some ⟨113,21,Qei,[],.run,none,Qeo s (i+1),Qck s (i+1),
 [wq (i+1)=i+1,Qas []/\Qai YP J0 145 #[.agg #[slT s.stock.length (Qad Qav s.stock),slT s.use.length (Qad Qaz s.use),.int .i64 s.glo,.int .i64 s.ghi,slT s.lots.length (Qad Qam s.lots),.int .i64 s.hold],.agg (Qge s i)] (.bool true)]++QhT B s i dJ0⟩:=by kernel_rfl
theorem QtS (B:Lo) (s:Qaa) (i:Int) (dJ0:Nat->Value):QaF (Qah YP (Qau YP) J0 B 16 1 (Qa3 113 21 (([1,10,11,12]:List Nat).zip (Qeo s i)) dJ0 Qei) (Qa1 (Qck s i)) (2+(Qck s i).length)
 (Qnt s i dJ0++[(7,Qaf.pure (.bool false) [])]) 0 [] []) []=some (.bool false,
 [Qas []/\Qai YP J0 145 #[.agg #[slT s.stock.length (Qad Qav s.stock),slT s.use.length (Qad Qaz s.use),.int .i64 s.glo,.int .i64 s.ghi,slT s.lots.length (Qad Qam s.lots),.int .i64 s.hold],.agg (Qge s i)] (.bool false)]++QhT B s i dJ0):=by kernel_rfl
theorem Qtt (B:Lo) (s:Qaa) (i:Int) (dJ0:Nat->Value):QaF (Qah YP (Qau YP) J0 B 9 1 (Qa3 113 21 (([1,10,11,12]:List Nat).zip (Qeo s i)) dJ0 Qei) (Qa1 (Qck s i)) (2+(Qck s i).length)
 [(0,hvF)] 0 [] []) []=some (.bool true,
 [ltq i (↑s.lots.length:Int)=false]):=by kernel_rfl
theorem QsW (B:Lo) (s:Qaa):QaF (Qah YP (Qau YP) J0 B 10 1 (Qae YP 113 21 (([.agg (Qap s).toArray]).map (Qal 0 4))) H00 1
 [(5,hvT)] 0 [] []) []=some (.bool false,
 [ltq 6 (↑s.lots.length:Int)=true]):=by kernel_rfl
theorem Qtb (B:Lo) (s:Qaa):landM (Qah YP (Qau YP) J0 B 12 1 (Qae YP 113 21 (([.agg (Qap s).toArray]).map (Qal 0 4))) H00 1
 [(5,hvF)] 0 [] []) [1,10,11,12] [(1,KS.auto)] []=some ⟨113,21,Qei,[],.run,none,Qeo s (0),Qck s (0),
 [ltq 6 (↑s.lots.length:Int)=false]⟩:=by kernel_rfl
set_option maxHeartbeats 4000000 in
theorem Qth (s:Qaa)  (hfacts:s.lots.length<=9223372036854775807) {B:Lo} (hJ:∀w,B.has w->J0 w) {c0:CF}:∀m:Nat,(∀(i:Int),s.lots.length - i.toNat=m->∀(h0:0<=i) (h6:s.lots.length<=6),Qtp B c0 s i->EndsT YP B c0 (.bool ((s.lots.drop i.toNat).all (Qoh s.stock.length)))):=by
 intro m0;induction m0 using Nat.strongRecOn with
 | _ m0 ih0=>
   intro i hm0 h0 h6 ⟨dJ0,hdJ0,hg0⟩;by_cases q0:(i:Int) < ((↑s.lots.length:Int))
   ·have hp0:Qas (QhT B s i dJ0):=by
     exact ⟨⟨by omega,by omega,(Qao (z:=3) (fun _=> rfl) (by omega))⟩,⟨(Qbq q0),trivial⟩⟩
    cases q1:Qoh s.stock.length (s.lots.getD i.toNat default) with
    | true=>
      exact ((ih0 _ (by omega)) (i+1) rfl (by omega) (by with_reducible assumption)
       (hg0.landM okF hJ Qab (QsL B s i dJ0)
       ⟨(QaR (by omega) (by omega)),⟨⟨trivial,(by have t_:=Q4D (s) (s.lots.getD i.toNat default);rw [q1] at t_;exact t_)⟩,hp0⟩⟩ (by kernel_rfl) (by kernel_rfl))).cast (by (rw [Qev (i:=i)];(· simp_all);(· omega);(· omega)))
    | false=>
      exact (GoE.endsT okF hJ Qab hg0 (QtS B s i dJ0)
       ⟨⟨trivial,(by have t_:=Q4D (s) (s.lots.getD i.toNat default);rw [q1] at t_;exact t_)⟩,hp0⟩).cast (by (rw [Qev (i:=i)];(· simp_all);(· omega);(· omega)))
   ·exact (GoE.endsT okF hJ Qab hg0 (Qtt B s i dJ0)
     ⟨(Qbj (Int.not_lt.1 q0)),trivial⟩).cast (by (rw [Qdy (i:=i)];(· simp_all);(· omega)))
set_option maxHeartbeats 4000000 in
theorem QwC (s:Qaa)  (hfacts:s.lots.length<=9223372036854775807) {B:Lo} (hJ:∀w,B.has w->J0 w):EndsT YP B (Qae YP 113 21 (([.agg (Qap s).toArray]).map (Qal 0 4))) (.bool (Qpv s)):=by
 by_cases q0:(6:Int) < ((↑s.lots.length:Int))
 ·exact (GoE.endsT okF hJ Qab GoE.start (QsW B s)
   ⟨(Qbq q0),trivial⟩).cast (by (simp_all [Qpv];omega))
 ·exact ((Qth s hfacts hJ _) (0) rfl (by omega) (by omega)
   (GoE.start.landM okF hJ Qab (Qtb B s)
   ⟨(Qbj (Int.not_lt.1 q0)),trivial⟩ (by kernel_rfl) (by kernel_rfl))).cast (by (simp_all [Qpv];omega))
theorem Qud (s:Qaa)  :Qai YP J0 113 #[.agg (Qap s).toArray] (.bool (Qpv s)):=
 Qcv (ts:=[.agg (Qap s).toArray]) (s.lots.length<=9223372036854775807) (fun _ _ ht=> ht.ln2 (i:=0) (j:=4) rfl rfl) Qbn (c0:=Qae YP 113 21 (([.agg (Qap s).toArray]).map (Qal 0 4))) (by kernel_rfl) (by kernel_rfl) fun hfacts B hJ=> QwC s  hfacts hJ
def QhH (B:Lo) (s:Qaa):List Prop:=[Qas []/\Qai YP J0 76 #[.int .i64 (↑s.stock.length:Int),.int .i64 1,.int .i64 4] (.bool true)]++([]:List Prop)
def Qnu (s:Qaa):Qan:=[(5,Qaf.pure (.bool true) [])]
def QhV (B:Lo) (s:Qaa):List Prop:=[Qas []/\Qai YP J0 100 #[slT s.stock.length (Qad Qav s.stock),.int .i64 0,.int .i64 100000] (.bool true)]++QhH B s
def Qmf (s:Qaa):Qan:=Qnu s++[(9,Qaf.pure (.bool true) [])]
def QhJ (B:Lo) (s:Qaa):List Prop:=[eqq (↑s.use.length:Int) (↑s.stock.length:Int)=true]++QhV B s
def Qln (s:Qaa):Qan:=Qmf s++[(18,hvT)]
def QhG (B:Lo) (s:Qaa):List Prop:=[Qas []/\Qai YP J0 101 #[slT s.use.length (Qad Qaz s.use),.int .i64 1000] (.bool true)]++QhJ B s
def Qme (s:Qaa):Qan:=Qln s++[(23,Qaf.pure (.bool true) [])]
def Qia (B:Lo) (s:Qaa):List Prop:=[Qas []/\Qai YP J0 75 #[.agg #[.int .i64 s.glo,.int .i64 s.ghi]] (.bool true)]++QhG B s
def QmB (s:Qaa):Qan:=Qme s++[(28,Qaf.pure (.bool true) [])]
def QhY (B:Lo) (s:Qaa):List Prop:=[Qas []/\Qai YP J0 113 #[.agg #[slT s.stock.length (Qad Qav s.stock),slT s.use.length (Qad Qaz s.use),.int .i64 s.glo,.int .i64 s.ghi,slT s.lots.length (Qad Qam s.lots),.int .i64 s.hold]] (.bool true)]++Qia B s
def Qlg (s:Qaa):Qan:=QmB s++[(32,Qaf.pure (.bool true) [])]
theorem QtM (B:Lo) (s:Qaa):QaF (Qah YP (Qau YP) J0 B 6 1 (Qae YP 79 40 (([.agg (Qap s).toArray]).map (Qal 0 4))) H00 1
 (Qlg s++[(37,Qaf.pure (.bool true) [])]) 0 [] []) []=some (.bool true,
 [Qas []/\Qai YP J0 114 #[.int .i64 s.hold] (.bool true)]++QhY B s):=by kernel_rfl
theorem QsE (B:Lo) (s:Qaa):QaF (Qah YP (Qau YP) J0 B 6 1 (Qae YP 79 40 (([.agg (Qap s).toArray]).map (Qal 0 4))) H00 1
 (Qlg s++[(37,Qaf.pure (.bool false) [])]) 0 [] []) []=some (.bool false,
 [Qas []/\Qai YP J0 114 #[.int .i64 s.hold] (.bool false)]++QhY B s):=by kernel_rfl
theorem QsZ (B:Lo) (s:Qaa):QaF (Qah YP (Qau YP) J0 B 6 1 (Qae YP 79 40 (([.agg (Qap s).toArray]).map (Qal 0 4))) H00 1
 (QmB s++[(32,Qaf.pure (.bool false) [])]) 0 [] []) []=some (.bool false,
 [Qas []/\Qai YP J0 113 #[.agg #[slT s.stock.length (Qad Qav s.stock),slT s.use.length (Qad Qaz s.use),.int .i64 s.glo,.int .i64 s.ghi,slT s.lots.length (Qad Qam s.lots),.int .i64 s.hold]] (.bool false)]++Qia B s):=by kernel_rfl
theorem Qt9 (B:Lo) (s:Qaa):QaF (Qah YP (Qau YP) J0 B 6 1 (Qae YP 79 40 (([.agg (Qap s).toArray]).map (Qal 0 4))) H00 1
 (Qme s++[(28,Qaf.pure (.bool false) [])]) 0 [] []) []=some (.bool false,
 [Qas []/\Qai YP J0 75 #[.agg #[.int .i64 s.glo,.int .i64 s.ghi]] (.bool false)]++QhG B s):=by kernel_rfl
theorem Qtg (B:Lo) (s:Qaa):QaF (Qah YP (Qau YP) J0 B 6 1 (Qae YP 79 40 (([.agg (Qap s).toArray]).map (Qal 0 4))) H00 1
 (Qln s++[(23,Qaf.pure (.bool false) [])]) 0 [] []) []=some (.bool false,
 [Qas []/\Qai YP J0 101 #[slT s.use.length (Qad Qaz s.use),.int .i64 1000] (.bool false)]++QhJ B s):=by kernel_rfl
theorem QtH (B:Lo) (s:Qaa):QaF (Qah YP (Qau YP) J0 B 6 1 (Qae YP 79 40 (([.agg (Qap s).toArray]).map (Qal 0 4))) H00 1
 (Qmf s++[(18,hvF)]) 0 [] []) []=some (.bool false,
 [eqq (↑s.use.length:Int) (↑s.stock.length:Int)=false]++QhV B s):=by kernel_rfl
theorem Qtr (B:Lo) (s:Qaa):QaF (Qah YP (Qau YP) J0 B 6 1 (Qae YP 79 40 (([.agg (Qap s).toArray]).map (Qal 0 4))) H00 1
 (Qnu s++[(9,Qaf.pure (.bool false) [])]) 0 [] []) []=some (.bool false,
 [Qas []/\Qai YP J0 100 #[slT s.stock.length (Qad Qav s.stock),.int .i64 0,.int .i64 100000] (.bool false)]++QhH B s):=by kernel_rfl
theorem QsJ (B:Lo) (s:Qaa):QaF (Qah YP (Qau YP) J0 B 6 1 (Qae YP 79 40 (([.agg (Qap s).toArray]).map (Qal 0 4))) H00 1
 [(5,Qaf.pure (.bool false) [])] 0 [] []) []=some (.bool false,
 [Qas []/\Qai YP J0 76 #[.int .i64 (↑s.stock.length:Int),.int .i64 1,.int .i64 4] (.bool false)]):=by kernel_rfl
set_option maxHeartbeats 4000000 in
theorem QwK (s:Qaa)  (hfacts:s.stock.length<=9223372036854775807/\s.use.length<=9223372036854775807) {B:Lo} (hJ:∀w,B.has w->J0 w):EndsT YP B (Qae YP 79 40 (([.agg (Qap s).toArray]).map (Qal 0 4))) (.bool (Qa7 s)):=by
 cases q0:inB (↑s.stock.length:Int) 1 4 with
 | true=>
   have hp0:Qas (QhH B s):=by
    exact ⟨⟨trivial,(by have t_:=pIn ((↑s.stock.length:Int)) (1) (4);rw [q0] at t_;exact t_)⟩,trivial⟩
   cases q1:List.all s.stock fun x=> inB x 0 100000 with
   | true=>
     have hp1:Qas (QhV B s):=by
      exact ⟨⟨trivial,(by have t_:=QuZ s.stock (0) (100000);rw [q1] at t_;exact t_)⟩,hp0⟩
     by_cases q2:((↑s.use.length:Int):Int)=((↑s.stock.length:Int))
     ·have hp2:Qas (QhJ B s):=by
       exact ⟨(Qvr q2),hp1⟩
      cases q3:List.all s.use fun s=> Qbw s.lo s.hi 0 1000 with
      | true=>
        have hp3:Qas (QhG B s):=by
         exact ⟨⟨trivial,(by have t_:=QfE s.use (1000);rw [q3] at t_;exact t_)⟩,hp2⟩
        cases q4:Qbw s.glo s.ghi 1 60 with
        | true=>
          have hp4:Qas (Qia B s):=by
           exact ⟨⟨trivial,(by have t_:=Q4z s.glo s.ghi;rw [q4] at t_;exact t_)⟩,hp3⟩
          cases q5:Qpv s with
          | true=>
            have hp5:Qas (QhY B s):=by
             exact ⟨⟨trivial,(by have t_:=Qud (s);rw [q5] at t_;exact t_)⟩,hp4⟩
            cases q6:inB s.hold 0 100000 with
            | true=>
              exact (GoE.endsT okF hJ Qab GoE.start (QtM B s)
               ⟨⟨trivial,(by have t_:=QiI s.hold;rw [q6] at t_;exact t_)⟩,hp5⟩).cast (by (simp_all [Qa7,QcK];omega))
            | false=>
              exact (GoE.endsT okF hJ Qab GoE.start (QsE B s)
               ⟨⟨trivial,(by have t_:=QiI s.hold;rw [q6] at t_;exact t_)⟩,hp5⟩).cast (by (simp [Qa7,QcK, *];done))
          | false=>
            exact (GoE.endsT okF hJ Qab GoE.start (QsZ B s)
             ⟨⟨trivial,(by have t_:=Qud (s);rw [q5] at t_;exact t_)⟩,hp4⟩).cast (by (simp [Qa7,QcK, *];done))
        | false=>
          exact (GoE.endsT okF hJ Qab GoE.start (Qt9 B s)
           ⟨⟨trivial,(by have t_:=Q4z s.glo s.ghi;rw [q4] at t_;exact t_)⟩,hp3⟩).cast (by (simp [Qa7,QcK, *];done))
      | false=>
        exact (GoE.endsT okF hJ Qab GoE.start (Qtg B s)
         ⟨⟨trivial,(by have t_:=QfE s.use (1000);rw [q3] at t_;exact t_)⟩,hp2⟩).cast (by (simp [Qa7,QcK, *];done))
     ·exact (GoE.endsT okF hJ Qab GoE.start (QtH B s)
       ⟨(Qw1 q2),hp1⟩).cast (by (simp_all [Qa7,QcK];omega))
   | false=>
     exact (GoE.endsT okF hJ Qab GoE.start (Qtr B s)
      ⟨⟨trivial,(by have t_:=QuZ s.stock (0) (100000);rw [q1] at t_;exact t_)⟩,hp0⟩).cast (by (simp [Qa7,QcK, *];done))
 | false=>
   exact (GoE.endsT okF hJ Qab GoE.start (QsJ B s)
    ⟨⟨trivial,(by have t_:=pIn ((↑s.stock.length:Int)) (1) (4);rw [q0] at t_;exact t_)⟩,trivial⟩).cast (by (simp [Qa7,QcK, *];done))
theorem QuF (s:Qaa)  :Qai YP J0 79 #[.agg (Qap s).toArray] (.bool (Qa7 s)):=
 Qcv (ts:=[.agg (Qap s).toArray]) (s.stock.length<=9223372036854775807/\s.use.length<=9223372036854775807) (fun _ _ ht=> ⟨ht.ln2 (i:=0) (j:=0) rfl rfl,ht.ln2 (i:=0) (j:=1) rfl rfl⟩) Qbn (c0:=Qae YP 79 40 (([.agg (Qap s).toArray]).map (Qal 0 4))) (by kernel_rfl) (by kernel_rfl) fun hfacts B hJ=> QwK s  hfacts hJ
theorem QtD (B:Lo) (n:Int):QaF (Qah YP (Qau YP) J0 B 6 1 (Qae YP 81 5 (([.int .i64 n]).map (Qal 0 4))) H00 1
 [(2,Qaf.pure (.bool true) [])] 0 [] []) []=some (.bool true,
 [Qas []/\Qai YP J0 76 #[.int .i64 n,.int .i64 0,.int .i64 300] (.bool true)]):=by kernel_rfl
theorem Qs8 (B:Lo) (n:Int):QaF (Qah YP (Qau YP) J0 B 6 1 (Qae YP 81 5 (([.int .i64 n]).map (Qal 0 4))) H00 1
 [(2,Qaf.pure (.bool false) [])] 0 [] []) []=some (.bool false,
 [Qas []/\Qai YP J0 76 #[.int .i64 n,.int .i64 0,.int .i64 300] (.bool false)]):=by kernel_rfl
set_option maxHeartbeats 4000000 in
theorem Qwu (n:Int)  {B:Lo} (hJ:∀w,B.has w->J0 w):EndsT YP B (Qae YP 81 5 (([.int .i64 n]).map (Qal 0 4))) (.bool (inB n 0 300)):=by
 cases q0:inB n 0 300 with
 | true=>
   exact (GoE.endsT okF hJ Qab GoE.start (QtD B n)
    ⟨⟨trivial,(by have t_:=pIn (n) (0) (300);rw [q0] at t_;exact t_)⟩,trivial⟩).cast (by rfl)
 | false=>
   exact (GoE.endsT okF hJ Qab GoE.start (Qs8 B n)
    ⟨⟨trivial,(by have t_:=pIn (n) (0) (300);rw [q0] at t_;exact t_)⟩,trivial⟩).cast (by rfl)
theorem Qu7 (n:Int)  :Qai YP J0 81 #[.int .i64 n] (.bool (inB n 0 300)):=
 Qa5 (ts:=[.int .i64 n]) Qbn (c0:=Qae YP 81 5 (([.int .i64 n]).map (Qal 0 4))) (by kernel_rfl) (by kernel_rfl) fun B hJ=> Qwu n  hJ
end
end Go.Proofs.YtiabgkiccaodmaaGreat

