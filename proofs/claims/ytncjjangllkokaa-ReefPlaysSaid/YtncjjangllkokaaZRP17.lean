/- Reef: truths. -/
import Derived.Test.YtncjjangllkokaaZRP16
import Derived.Test.YtncjjangllkokaaZRP07
import Derived.Test.YtncjjangllkokaaZRP10
set_option linter.all false
namespace Go.Proofs.Ytncjjangllkokaa
open Go Go.CE Go.RowKit
noncomputable section
set_option maxRecDepth 100000
def Qvi (xs:List Int) (ss:List Span) (i:Int):Bool:=(upI i xs.length).all fun k=> inB (xs.getD k.toNat default) (ss.getD k.toNat default).lo (ss.getD k.toNat default).hi
def Qns (xs:List Int) (ss:List Span):Bool:=decide (xs.length=ss.length) && Qvi xs ss 0
theorem QbE {xs:List Int} {ss:List Span} {i:Int} (h:i < xs.length):Qvi xs ss i=(inB (xs.getD i.toNat default) (ss.getD i.toNat default).lo (ss.getD i.toNat default).hi && Qvi xs ss (i+1)):=by
 unfold Qvi;rw [Qn5 h,List.all_cons]
theorem QiX {xs:List Int} {ss:List Span} {i:Int} (h:xs.length<=i):Qvi xs ss i=true:=by
 unfold Qvi;rw [Qnd h];rfl
def Qyo (rf:Qaf) (plan:List Int) (gs ts:List (List Int)) (s:Int):Bool:=Qns (gs.getD s.toNat default) (rf.places.map Qba) && Qns (ts.getD s.toNat default) (QaX rf.places (plan.getD s.toNat 0))
def QkD (rf:Qaf) (plan:List Int) (gs ts:List (List Int)) (i:Int):Bool:=(upI i rf.seasons).all fun s=> Qyo rf plan gs ts s
theorem QeB {rf:Qaf} {plan:List Int} {gs ts:List (List Int)} {i:Int} (h:i < rf.seasons):QkD rf plan gs ts i=(Qyo rf plan gs ts i && QkD rf plan gs ts (i+1)):=by
 unfold QkD;rw [Qn5 h,List.all_cons]
theorem QsC {rf:Qaf} {plan:List Int} {gs ts:List (List Int)} {i:Int} (h:rf.seasons<=i):QkD rf plan gs ts i=true:=by
 unfold QkD;rw [Qnd h];rfl
def Qb1 (rf:Qaf) (plan:List Int) (t:Qah):Bool:=Qns t.starts (rf.places.map (QaS rf.miss)) && (decide ((t.grows.length:Int)=rf.seasons) && (decide ((t.takes.length:Int)=rf.seasons) && QkD rf plan t.grows t.takes 0))
theorem Q0B {rf:Qaf} {plan:List Int} {gs ts:List (List Int)} {s:Int} (h:¬(gs.getD s.toNat default).length=rf.places.length\/¬(ts.getD s.toNat default).length=rf.places.length):Qyo rf plan gs ts s=false:=by
 unfold Qyo Qns;rw [List.length_map,show (QaX rf.places (plan.getD s.toNat 0)).length=rf.places.length by rw [QaX,QaZ];omega];rcases h with h | h
 ·rw [decide_eq_false h];rfl
 ·rw [decide_eq_false h,Bool.false_and,Bool.and_false]
theorem Q20 {rf:Qaf} {plan:List Int} {gs ts:List (List Int)} {s:Int} (h1:(gs.getD s.toNat default).length=rf.places.length) (h2:(ts.getD s.toNat default).length=rf.places.length):Qyo rf plan gs ts s=(Qvi (gs.getD s.toNat default) (rf.places.map Qba) 0 && Qvi (ts.getD s.toNat default) (QaX rf.places (plan.getD s.toNat default)) 0):=by
 unfold Qyo Qns;rw [List.length_map,show (QaX rf.places (plan.getD s.toNat 0)).length=rf.places.length by rw [QaX,QaZ];omega,decide_eq_true h1,decide_eq_true h2,Bool.true_and,Bool.true_and];rfl
theorem QmH {rf:Qaf} {plan:List Int} {t:Qah} (h:¬t.starts.length=rf.places.length\/¬(t.grows.length:Int)=rf.seasons\/¬(t.takes.length:Int)=rf.seasons):Qb1 rf plan t=false:=by
 unfold Qb1 Qns;rw [List.length_map];rcases h with h | h | h
 ·rw [decide_eq_false h];rfl
 ·rw [decide_eq_false h,Bool.false_and,Bool.and_false]
 ·rw [decide_eq_false h,Bool.false_and,Bool.and_false,Bool.and_false]
theorem Qwc {rf:Qaf} {plan:List Int} {t:Qah} (h1:t.starts.length=rf.places.length) (h2:(t.grows.length:Int)=rf.seasons) (h3:(t.takes.length:Int)=rf.seasons):Qb1 rf plan t=(Qvi t.starts (rf.places.map (QaS rf.miss)) 0 && QkD rf plan t.grows t.takes 0):=by
 unfold Qb1 Qns;rw [List.length_map,decide_eq_true h1,decide_eq_true h2,decide_eq_true h3,Bool.true_and,Bool.true_and,Bool.true_and]
theorem QcQ {ps:List Qaa} {f:Qaa->Span} {i:Int} (h0:0<=i) (h:i < ps.length):(ps.map f).getD i.toNat default=f (ps.getD i.toNat default):=by
 have hk:i.toNat < ps.length:=by omega
 simp [List.getD_eq_getElem?_getD,hk]
def Qda (xs:List Int) (ss:List Span) (i:Int):List Value:=[Qaq 1 (slT ss.length (Qae QaA ss)),Qaq 1 (slT xs.length (Qae Qav xs)),.int .i64 (↑xs.length:Int),.int .i64 i]
def QbK (xs:List Int) (ss:List Span) (i:Int):List Obj:=[]
def QcV:List Item:=([.code [1,1,0,1,0,0],.inLoop [1,1,0,1,0,0],.inBlock 0,.code [1,1,1]]).map (it (QaB YP 81))
def QrX (B:Lo) (c0:CF) (xs:List Int) (ss:List Span) (i:Int):Prop:=∃dJ:Nat->Value,(∀t,Qbi (dJ t))/\GoE YP B c0 H00 1 (Qa8 81 27 (([1,12,13,14]:List Nat).zip (Qda xs ss i)) dJ QcV) (Qa6 (QbK xs ss i)) (2+(QbK xs ss i).length) []
def QeN (ss:List Span) (i:Int):Array Value:=#[.int .i64 (Span.lo (ss.getD i.toNat default)),.int .i64 (Span.hi (ss.getD i.toNat default))]
def Qg2 (B:Lo) (xs:List Int) (ss:List Span) (i:Int) (dJ0:Nat->Value):List Prop:=[i=(↑i.toNat:Int)/\Int.toNat i < List.length ss/\Array.extract (Qae QaA ss) (Int.toNat i * TypeInfo.size Try.t38) (Int.toNat i * TypeInfo.size Try.t38+TypeInfo.size Try.t38)=(QeN ss i),i=(↑i.toNat:Int)/\Int.toNat i < List.length xs/\Array.extract (Qae Qav xs) (Int.toNat i * TypeInfo.size Try.t3) (Int.toNat i * TypeInfo.size Try.t3+TypeInfo.size Try.t3)=#[.int .i64 (xs.getD i.toNat default)],ltq i (↑xs.length:Int)=true]++([]:List Prop)
def Qkd (xs:List Int) (ss:List Span) (i:Int) (dJ0:Nat->Value):Qax:=[(0,hvT),(2,Qai.tidx i.toNat #[.int .i64 (xs.getD i.toNat default)]),(9,Qai.tidx i.toNat (QeN ss i))]
theorem Qr8 (B:Lo) (xs:List Int) (ss:List Span) (i:Int) (dJ0:Nat->Value):landM (Qam YP (Qa3 YP) J0 B 16 1 (Qa8 81 27 (([1,12,13,14]:List Nat).zip (Qda xs ss i)) dJ0 QcV) (Qa6 (QbK xs ss i)) (2+(QbK xs ss i).length)
 (Qkd xs ss i dJ0++[(11,Qai.pure (.bool true) []),(13,hvI (i+1))]) 0 [] []) [1,12,13,14] [] []=some ⟨81,27,QcV,[],.run,none,Qda xs ss (i+1),QbK xs ss (i+1),
 [wq (i+1)=i+1,Qa2 []/\Qaw YP J0 101 #[.int .i64 (xs.getD i.toNat default),.agg (QeN ss i)] (.bool true)]++Qg2 B xs ss i dJ0⟩:=by kernel_rfl
theorem Qsn (B:Lo) (xs:List Int) (ss:List Span) (i:Int) (dJ0:Nat->Value):Qbd (Qam YP (Qa3 YP) J0 B 16 1 (Qa8 81 27 (([1,12,13,14]:List Nat).zip (Qda xs ss i)) dJ0 QcV) (Qa6 (QbK xs ss i)) (2+(QbK xs ss i).length)
 (Qkd xs ss i dJ0++[(11,Qai.pure (.bool false) [])]) 0 [] []) []=some (.bool false,
 [Qa2 []/\Qaw YP J0 101 #[.int .i64 (xs.getD i.toNat default),.agg (QeN ss i)] (.bool false)]++Qg2 B xs ss i dJ0):=by kernel_rfl
theorem Qqw (B:Lo) (xs:List Int) (ss:List Span) (i:Int) (dJ0:Nat->Value):Qbd (Qam YP (Qa3 YP) J0 B 9 1 (Qa8 81 27 (([1,12,13,14]:List Nat).zip (Qda xs ss i)) dJ0 QcV) (Qa6 (QbK xs ss i)) (2+(QbK xs ss i).length)
 [(0,hvF)] 0 [] []) []=some (.bool true,
 [ltq i (↑xs.length:Int)=false]):=by kernel_rfl
theorem QqQ (B:Lo) (xs:List Int) (ss:List Span):Qbd (Qam YP (Qa3 YP) J0 B 10 1 (Qaj YP 81 27 (([slI xs,QpS ss]).map (Qau 0 4))) H00 1
 [(5,hvT)] 0 [] []) []=some (.bool false,
 [(!eqq (↑xs.length:Int) (↑ss.length:Int))=true]):=by kernel_rfl
theorem Qs0 (B:Lo) (xs:List Int) (ss:List Span):landM (Qam YP (Qa3 YP) J0 B 12 1 (Qaj YP 81 27 (([slI xs,QpS ss]).map (Qau 0 4))) H00 1
 [(5,hvF)] 0 [] []) [1,12,13,14] [] []=some ⟨81,27,QcV,[],.run,none,Qda xs ss (0),QbK xs ss (0),
 [(!eqq (↑xs.length:Int) (↑ss.length:Int))=false]⟩:=by kernel_rfl
set_option maxHeartbeats 4000000 in
theorem Qr9 (xs:List Int) (ss:List Span)  (hfacts:xs.length<=9223372036854775807/\ss.length<=9223372036854775807) {B:Lo} (hJ:∀w,B.has w->J0 w) {c0:CF}:∀m:Nat,(∀(i:Int),xs.length - i.toNat=m->∀(h0:0<=i) (hle:xs.length=ss.length),QrX B c0 xs ss i->EndsT YP B c0 (.bool (Qvi xs ss i))):=by
 intro m0;induction m0 using Nat.strongRecOn with
 | _ m0 ih0=>
   intro i hm0 h0 hle ⟨dJ0,hdJ0,hg0⟩;by_cases q0:(i:Int) < ((↑xs.length:Int))
   ·have hp0:Qa2 (Qg2 B xs ss i dJ0):=by
     exact ⟨⟨by omega,by omega,(Qal (z:=2) (fun _=> rfl) (by omega))⟩,⟨⟨by omega,by omega,(Qal (z:=1) (fun _=> rfl) (by omega))⟩,⟨(QbD q0),trivial⟩⟩⟩
    cases q1:inB (xs.getD i.toNat default) (Span.lo (ss.getD i.toNat default)) (Span.hi (ss.getD i.toNat default)) with
    | true=>
      have s2:=QbE (ss:=ss) q0;exact ((ih0 _ (by omega)) (i+1) rfl (by omega) (by with_reducible assumption)
       (hg0.landM okF hJ Qab (Qr8 B xs ss i dJ0)
       ⟨(QaH (by omega) (by omega)),⟨⟨trivial,(by have t_:=Qye (xs.getD i.toNat default) (Span.lo (ss.getD i.toNat default)) (Span.hi (ss.getD i.toNat default));rw [q1] at t_;exact t_)⟩,hp0⟩⟩ (by kernel_rfl) (by kernel_rfl))).cast (by (rw [s2];simp_all;done))
    | false=>
      have s2:=QbE (ss:=ss) q0;exact (GoE.endsT okF hJ Qab hg0 (Qsn B xs ss i dJ0)
       ⟨⟨trivial,(by have t_:=Qye (xs.getD i.toNat default) (Span.lo (ss.getD i.toNat default)) (Span.hi (ss.getD i.toNat default));rw [q1] at t_;exact t_)⟩,hp0⟩).cast (by (rw [s2];simp_all;done))
   ·have s2:=QiX (xs:=xs) (ss:=ss) (i:=i) (by omega);exact (GoE.endsT okF hJ Qab hg0 (Qqw B xs ss i dJ0)
     ⟨(QbI (Int.not_lt.1 q0)),trivial⟩).cast (by (rw [s2];done))
set_option maxHeartbeats 4000000 in
theorem Quh (xs:List Int) (ss:List Span)  (hfacts:xs.length<=9223372036854775807/\ss.length<=9223372036854775807) {B:Lo} (hJ:∀w,B.has w->J0 w):EndsT YP B (Qaj YP 81 27 (([slI xs,QpS ss]).map (Qau 0 4))) (.bool (Qns xs ss)):=by
 by_cases q0:((↑xs.length:Int):Int)≠((↑ss.length:Int))
 ·exact (GoE.endsT okF hJ Qab GoE.start (QqQ B xs ss)
   ⟨(QgM q0),trivial⟩).cast (by (simp_all [Qns];omega))
 ·exact ((Qr9 xs ss hfacts hJ _) (0) rfl (by omega) (by omega)
   (GoE.start.landM okF hJ Qab (Qs0 B xs ss)
   ⟨(QeW (Decidable.of_not_not q0)),trivial⟩ (by kernel_rfl) (by kernel_rfl))).cast (by (simp_all [Qns];omega))
theorem QfS (xs:List Int) (ss:List Span)  :Qaw YP J0 81 #[slI xs,QpS ss] (.bool (Qns xs ss)):=
 QbY (ts:=[slI xs,QpS ss]) (xs.length<=9223372036854775807/\ss.length<=9223372036854775807) (fun _ _ ht=> ⟨ht.ln (i:=0) rfl,ht.ln (i:=1) rfl⟩) QbS (c0:=Qaj YP 81 27 (([slI xs,QpS ss]).map (Qau 0 4))) (by kernel_rfl) (by kernel_rfl) fun hfacts B hJ=> Quh xs ss  hfacts hJ
def QcB (rf:Qaf) (plan:List Int) (t:Qah) (i:Int):List Value:=[pA 2 0,pA 3 0,.int .i64 rf.seasons,.int .i64 i]
def Qb0 (rf:Qaf) (plan:List Int) (t:Qah) (i:Int):List Obj:=[Obj.cells #[Qaq 1 (slT rf.places.length (Qae Qad rf.places)),.int .i64 rf.miss,.int .i64 rf.seasons,.int .i64 (plan.getD 0 0),.int .i64 (plan.getD 1 0),.int .i64 (plan.getD 2 0),.int .i64 (plan.getD 3 0)] 84,Obj.cells #[Qaq 1 (slT t.starts.length (Qae Qav t.starts)),Qaq 1 (slT t.grows.length (Qae QaP t.grows)),Qaq 1 (slT t.takes.length (Qae QaP t.takes))] 42]
def Qc9:List Item:=([.code [1,1,0,1,0,0],.inLoop [1,1,0,1,0,0],.inBlock 0,.code [1,1,1]]).map (it (QaB YP 58))
def QrE (B:Lo) (c0:CF) (rf:Qaf) (plan:List Int) (t:Qah) (i:Int):Prop:=∃dJ:Nat->Value,(∀t,Qbi (dJ t))/\GoE YP B c0 H00 1 (Qa8 58 58 (([2,3,32,33]:List Nat).zip (QcB rf plan t i)) dJ Qc9) (Qa6 (Qb0 rf plan t i)) (2+(Qb0 rf plan t i).length) []
def Qgp (rf:Qaf) (plan:List Int):Array Value:=#[slT rf.places.length (Qae Qad rf.places),.int .i64 rf.miss,.int .i64 rf.seasons,.int .i64 (plan.getD 0 0),.int .i64 (plan.getD 1 0),.int .i64 (plan.getD 2 0),.int .i64 (plan.getD 3 0)]
def Qgl (B:Lo) (rf:Qaf) (plan:List Int) (t:Qah) (i:Int) (dJ0:Nat->Value):List Prop:=[Qa2 []/\Qaw YP J0 83 #[.agg (Qgp rf plan)] (slT (List.length (List.map Qba rf.places)) (Qae QaA (List.map Qba rf.places))),i=(↑i.toNat:Int)/\Int.toNat i < List.length t.grows/\Array.extract (Qae QaP t.grows) (Int.toNat i * TypeInfo.size Try.t25) (Int.toNat i * TypeInfo.size Try.t25+TypeInfo.size Try.t25)=#[slT (List.length (t.grows.getD i.toNat default)) (Qae Qav (t.grows.getD i.toNat default))],ltq i rf.seasons=true]++([]:List Prop)
def QkS (rf:Qaf) (plan:List Int) (t:Qah) (i:Int) (dJ0:Nat->Value):Qax:=[(0,hvT),(6,Qai.tidx i.toNat #[slT (List.length (t.grows.getD i.toNat default)) (Qae Qav (t.grows.getD i.toNat default))]),(9,Qai.pure (slT (List.length (List.map Qba rf.places)) (Qae QaA (List.map Qba rf.places))) [])]
def Qg5 (B:Lo) (rf:Qaf) (plan:List Int) (t:Qah) (i:Int) (dJ0:Nat->Value):List Prop:=[Qa2 []/\Qaw YP J0 84 #[.agg (Qgp rf plan),.int .i64 i] (slT (List.length (QaX rf.places (plan.getD i.toNat 0))) (Qae QaA (QaX rf.places (plan.getD i.toNat 0)))),i=(↑i.toNat:Int)/\Int.toNat i < List.length t.takes/\Array.extract (Qae QaP t.takes) (Int.toNat i * TypeInfo.size Try.t25) (Int.toNat i * TypeInfo.size Try.t25+TypeInfo.size Try.t25)=#[slT (List.length (t.takes.getD i.toNat default)) (Qae Qav (t.takes.getD i.toNat default))],Qa2 []/\Qaw YP J0 81 #[slT (List.length (t.grows.getD i.toNat default)) (Qae Qav (t.grows.getD i.toNat default)),slT (List.length (List.map Qba rf.places)) (Qae QaA (List.map Qba rf.places))] (.bool true)]++Qgl B rf plan t i dJ0
def QjK (rf:Qaf) (plan:List Int) (t:Qah) (i:Int) (dJ0:Nat->Value):Qax:=QkS rf plan t i dJ0++[(10,Qai.pure (.bool true) []),(16,Qai.tidx i.toNat #[slT (List.length (t.takes.getD i.toNat default)) (Qae Qav (t.takes.getD i.toNat default))]),(20,Qai.pure (slT (List.length (QaX rf.places (plan.getD i.toNat 0))) (Qae QaA (QaX rf.places (plan.getD i.toNat 0)))) [])]
theorem Qqd (B:Lo) (rf:Qaf) (plan:List Int) (t:Qah) (i:Int) (dJ0:Nat->Value):landM (Qam YP (Qa3 YP) J0 B 16 1 (Qa8 58 58 (([2,3,32,33]:List Nat).zip (QcB rf plan t i)) dJ0 Qc9) (Qa6 (Qb0 rf plan t i)) (2+(Qb0 rf plan t i).length)
 (QjK rf plan t i dJ0++[(21,Qai.pure (.bool true) []),(24,hvI (i+1))]) 0 [] []) [2,3,32,33] [(2,KS.auto),(3,KS.auto)] []=some ⟨58,58,Qc9,[],.run,none,QcB rf plan t (i+1),Qb0 rf plan t (i+1),
 [wq (i+1)=i+1,Qa2 []/\Qaw YP J0 81 #[slT (List.length (t.takes.getD i.toNat default)) (Qae Qav (t.takes.getD i.toNat default)),slT (List.length (QaX rf.places (plan.getD i.toNat 0))) (Qae QaA (QaX rf.places (plan.getD i.toNat 0)))] (.bool true)]++Qg5 B rf plan t i dJ0⟩:=by kernel_rfl
theorem Qrl (B:Lo) (rf:Qaf) (plan:List Int) (t:Qah) (i:Int) (dJ0:Nat->Value):Qbd (Qam YP (Qa3 YP) J0 B 16 1 (Qa8 58 58 (([2,3,32,33]:List Nat).zip (QcB rf plan t i)) dJ0 Qc9) (Qa6 (Qb0 rf plan t i)) (2+(Qb0 rf plan t i).length)
 (QjK rf plan t i dJ0++[(21,Qai.pure (.bool false) [])]) 0 [] []) []=some (.bool false,
 [Qa2 []/\Qaw YP J0 81 #[slT (List.length (t.takes.getD i.toNat default)) (Qae Qav (t.takes.getD i.toNat default)),slT (List.length (QaX rf.places (plan.getD i.toNat 0))) (Qae QaA (QaX rf.places (plan.getD i.toNat 0)))] (.bool false)]++Qg5 B rf plan t i dJ0):=by kernel_rfl
theorem QrM (B:Lo) (rf:Qaf) (plan:List Int) (t:Qah) (i:Int) (dJ0:Nat->Value):Qbd (Qam YP (Qa3 YP) J0 B 16 1 (Qa8 58 58 (([2,3,32,33]:List Nat).zip (QcB rf plan t i)) dJ0 Qc9) (Qa6 (Qb0 rf plan t i)) (2+(Qb0 rf plan t i).length)
 (QkS rf plan t i dJ0++[(10,Qai.pure (.bool false) [])]) 0 [] []) []=some (.bool false,
 [Qa2 []/\Qaw YP J0 81 #[slT (List.length (t.grows.getD i.toNat default)) (Qae Qav (t.grows.getD i.toNat default)),slT (List.length (List.map Qba rf.places)) (Qae QaA (List.map Qba rf.places))] (.bool false)]++Qgl B rf plan t i dJ0):=by kernel_rfl
theorem Qr5 (B:Lo) (rf:Qaf) (plan:List Int) (t:Qah) (i:Int) (dJ0:Nat->Value):Qbd (Qam YP (Qa3 YP) J0 B 9 1 (Qa8 58 58 (([2,3,32,33]:List Nat).zip (QcB rf plan t i)) dJ0 Qc9) (Qa6 (Qb0 rf plan t i)) (2+(Qb0 rf plan t i).length)
 [(0,hvF)] 0 [] []) []=some (.bool true,
 [ltq i rf.seasons=false]):=by kernel_rfl
def Qgx (B:Lo) (rf:Qaf) (plan:List Int) (t:Qah):List Prop:=[Qa2 []/\Qaw YP J0 82 #[.agg (Qgp rf plan)] (slT (List.length (List.map (QaS rf.miss) rf.places)) (Qae QaA (List.map (QaS rf.miss) rf.places)))]++([]:List Prop)
def QkP (rf:Qaf) (plan:List Int) (t:Qah):Qax:=[(6,Qai.pure (slT (List.length (List.map (QaS rf.miss) rf.places)) (Qae QaA (List.map (QaS rf.miss) rf.places))) [])]
def Qgg (B:Lo) (rf:Qaf) (plan:List Int) (t:Qah):List Prop:=[Qa2 []/\Qaw YP J0 81 #[slT t.starts.length (Qae Qav t.starts),slT (List.length (List.map (QaS rf.miss) rf.places)) (Qae QaA (List.map (QaS rf.miss) rf.places))] (.bool true)]++Qgx B rf plan t
def Qjk (rf:Qaf) (plan:List Int) (t:Qah):Qax:=QkP rf plan t++[(7,Qai.pure (.bool true) [])]
theorem Qqq (B:Lo) (rf:Qaf) (plan:List Int) (t:Qah):Qbd (Qam YP (Qa3 YP) J0 B 10 1 (Qaj YP 58 58 (([.agg (QaG rf plan).toArray,.agg #[slI t.starts,slT t.grows.length (Qae QaP t.grows),slT t.takes.length (Qae QaP t.takes)]]).map (Qau 0 4))) H00 1
 (Qjk rf plan t++[(16,hvT)]) 0 [] []) []=some (.bool false,
 [(!eqq (↑t.grows.length:Int) rf.seasons)=true]++Qgg B rf plan t):=by kernel_rfl
def Qgy (B:Lo) (rf:Qaf) (plan:List Int) (t:Qah):List Prop:=[(!eqq (↑t.grows.length:Int) rf.seasons)=false]++Qgg B rf plan t
def QjX (rf:Qaf) (plan:List Int) (t:Qah):Qax:=Qjk rf plan t++[(16,hvF)]
theorem QrZ (B:Lo) (rf:Qaf) (plan:List Int) (t:Qah):Qbd (Qam YP (Qa3 YP) J0 B 10 1 (Qaj YP 58 58 (([.agg (QaG rf plan).toArray,.agg #[slI t.starts,slT t.grows.length (Qae QaP t.grows),slT t.takes.length (Qae QaP t.takes)]]).map (Qau 0 4))) H00 1
 (QjX rf plan t++[(25,hvT)]) 0 [] []) []=some (.bool false,
 [(!eqq (↑t.takes.length:Int) rf.seasons)=true]++Qgy B rf plan t):=by kernel_rfl
theorem QrL (B:Lo) (rf:Qaf) (plan:List Int) (t:Qah):landM (Qam YP (Qa3 YP) J0 B 12 1 (Qaj YP 58 58 (([.agg (QaG rf plan).toArray,.agg #[slI t.starts,slT t.grows.length (Qae QaP t.grows),slT t.takes.length (Qae QaP t.takes)]]).map (Qau 0 4))) H00 1
 (QjX rf plan t++[(25,hvF)]) 0 [] []) [2,3,32,33] [(1,KS.auto),(2,KS.auto)] []=some ⟨58,58,Qc9,[],.run,none,QcB rf plan t (0),Qb0 rf plan t (0),
 [(!eqq (↑t.takes.length:Int) rf.seasons)=false]++Qgy B rf plan t⟩:=by kernel_rfl
theorem Qq9 (B:Lo) (rf:Qaf) (plan:List Int) (t:Qah):Qbd (Qam YP (Qa3 YP) J0 B 10 1 (Qaj YP 58 58 (([.agg (QaG rf plan).toArray,.agg #[slI t.starts,slT t.grows.length (Qae QaP t.grows),slT t.takes.length (Qae QaP t.takes)]]).map (Qau 0 4))) H00 1
 (QkP rf plan t++[(7,Qai.pure (.bool false) [])]) 0 [] []) []=some (.bool false,
 [Qa2 []/\Qaw YP J0 81 #[slT t.starts.length (Qae Qav t.starts),slT (List.length (List.map (QaS rf.miss) rf.places)) (Qae QaA (List.map (QaS rf.miss) rf.places))] (.bool false)]++Qgx B rf plan t):=by kernel_rfl
set_option maxHeartbeats 4000000 in
theorem QrG (rf:Qaf) (plan:List Int) (t:Qah) (hr:Qbm rf=true) (hl:plan.length<=4) (hp:∀j:Nat,0<=plan.getD j 0/\plan.getD j 0<=1000000) {B:Lo} (hJ:∀w,B.has w->J0 w) {c0:CF}:∀m:Nat,(∀(i:Int),(rf.seasons - i).toNat=m->∀(h0:0<=i) (hgl:(t.grows.length:Int)=rf.seasons) (htl:(t.takes.length:Int)=rf.seasons),QrE B c0 rf plan t i->EndsT YP B c0 (.bool (QkD rf plan t.grows t.takes i))):=by
 intro m0;induction m0 using Nat.strongRecOn with
 | _ m0 ih0=>
   intro i hm0 h0 hgl htl ⟨dJ0,hdJ0,hg0⟩;have hsz:=Qbj (QaL hr).1;by_cases q0:(i:Int) < rf.seasons
   ·have hp0:Qa2 (Qgl B rf plan t i dJ0):=by
     exact ⟨⟨trivial,Q3D (rf) (plan) (by omega)⟩,⟨⟨by omega,by omega,(Qal (z:=1) (fun _=> rfl) (by omega))⟩,⟨(QbD q0),trivial⟩⟩⟩
    cases q1:Qns (t.grows.getD i.toNat default) (List.map Qba rf.places) with
    | true=>
      have hp1:Qa2 (Qg5 B rf plan t i dJ0):=by
       exact ⟨⟨trivial,Q3I (rf) (plan) (i) (by omega) (by with_reducible assumption) (by with_reducible assumption) (by omega) (by with_reducible assumption)⟩,⟨⟨by omega,by omega,(Qal (z:=1) (fun _=> rfl) (by omega))⟩,⟨⟨trivial,(by have t_:=QfS (t.grows.getD i.toNat default) (List.map Qba rf.places);rw [q1] at t_;exact t_)⟩,hp0⟩⟩⟩
      cases q2:Qns (t.takes.getD i.toNat default) (QaX rf.places (plan.getD i.toNat 0)) with
      | true=>
        have s2:=QeB (plan:=plan) (gs:=t.grows) (ts:=t.takes) q0;exact ((ih0 _ (by omega)) (i+1) rfl (by omega) (by with_reducible assumption) (by with_reducible assumption)
         (hg0.landM okF hJ Qab (Qqd B rf plan t i dJ0)
         ⟨(QaH (by omega) (by omega)),⟨⟨trivial,(by have t_:=QfS (t.takes.getD i.toNat default) (QaX rf.places (plan.getD i.toNat 0));rw [q2] at t_;exact t_)⟩,hp1⟩⟩ (by kernel_rfl) (by kernel_rfl))).cast (by (rw [s2];simp_all [Qyo];done))
      | false=>
        have s2:=QeB (plan:=plan) (gs:=t.grows) (ts:=t.takes) q0;exact (GoE.endsT okF hJ Qab hg0 (Qrl B rf plan t i dJ0)
         ⟨⟨trivial,(by have t_:=QfS (t.takes.getD i.toNat default) (QaX rf.places (plan.getD i.toNat 0));rw [q2] at t_;exact t_)⟩,hp1⟩).cast (by (rw [s2];simp_all [Qyo];done))
    | false=>
      have s2:=QeB (plan:=plan) (gs:=t.grows) (ts:=t.takes) q0;exact (GoE.endsT okF hJ Qab hg0 (QrM B rf plan t i dJ0)
       ⟨⟨trivial,(by have t_:=QfS (t.grows.getD i.toNat default) (List.map Qba rf.places);rw [q1] at t_;exact t_)⟩,hp0⟩).cast (by (rw [s2];simp_all [Qyo];done))
   ·have s2:=QsC (rf:=rf) (plan:=plan) (gs:=t.grows) (ts:=t.takes) (i:=i) (by omega);exact (GoE.endsT okF hJ Qab hg0 (Qr5 B rf plan t i dJ0)
     ⟨(QbI (Int.not_lt.1 q0)),trivial⟩).cast (by (rw [s2];done))
set_option maxHeartbeats 4000000 in
theorem Qub (rf:Qaf) (plan:List Int) (t:Qah) (hr:Qbm rf=true) (hl:plan.length<=4) (hp:∀j:Nat,0<=plan.getD j 0/\plan.getD j 0<=1000000) {B:Lo} (hJ:∀w,B.has w->J0 w):EndsT YP B (Qaj YP 58 58 (([.agg (QaG rf plan).toArray,.agg #[slI t.starts,slT t.grows.length (Qae QaP t.grows),slT t.takes.length (Qae QaP t.takes)]]).map (Qau 0 4))) (.bool (Qb1 rf plan t)):=by
 have hsz:=Qbj (QaL hr).1;have hcs:=(fun k h0 h1=> (Qdc ((QaL hr).2 k h0 h1).1).1)
 have hp2:Qa2 (Qgx B rf plan t):=by
  exact ⟨⟨trivial,Q2I (rf) (plan) (by omega) (by omega) (by with_reducible assumption)⟩,trivial⟩
 cases q0:Qns t.starts (List.map (QaS rf.miss) rf.places) with
 | true=>
   have hp3:Qa2 (Qgg B rf plan t):=by
    exact ⟨⟨trivial,(by have t_:=QfS t.starts (List.map (QaS rf.miss) rf.places);rw [q0] at t_;exact t_)⟩,hp2⟩
   by_cases q1:((↑t.grows.length:Int):Int)≠rf.seasons
   ·exact (GoE.endsT okF hJ Qab GoE.start (Qqq B rf plan t)
     ⟨(QgM q1),hp3⟩).cast (by (simp only [Qb1];simp [*];done))
   ·have hp4:Qa2 (Qgy B rf plan t):=by
     exact ⟨(QeW (Decidable.of_not_not q1)),hp3⟩
    by_cases q2:((↑t.takes.length:Int):Int)≠rf.seasons
    ·exact (GoE.endsT okF hJ Qab GoE.start (QrZ B rf plan t)
      ⟨(QgM q2),hp4⟩).cast (by (simp only [Qb1];simp [*];done))
    ·exact ((QrG rf plan t hr hl hp hJ _) (0) rfl (by omega) (by omega) (by omega)
      (GoE.start.landM okF hJ Qab (QrL B rf plan t)
      ⟨(QeW (Decidable.of_not_not q2)),hp4⟩ (by kernel_rfl) (by kernel_rfl))).cast (by (simp_all [Qb1];done))
 | false=>
   exact (GoE.endsT okF hJ Qab GoE.start (Qq9 B rf plan t)
    ⟨⟨trivial,(by have t_:=QfS t.starts (List.map (QaS rf.miss) rf.places);rw [q0] at t_;exact t_)⟩,hp2⟩).cast (by (simp only [Qb1];simp [*];done))
theorem QsR (rf:Qaf) (plan:List Int) (t:Qah) (hr:Qbm rf=true) (hl:plan.length<=4) (hp:∀j:Nat,0<=plan.getD j 0/\plan.getD j 0<=1000000):Qaw YP J0 58 #[.agg (QaG rf plan).toArray,.agg #[slI t.starts,slT t.grows.length (Qae QaP t.grows),slT t.takes.length (Qae QaP t.takes)]] (.bool (Qb1 rf plan t)):=
 QaV (ts:=[.agg (QaG rf plan).toArray,.agg #[slI t.starts,slT t.grows.length (Qae QaP t.grows),slT t.takes.length (Qae QaP t.takes)]]) QbS (c0:=Qaj YP 58 58 (([.agg (QaG rf plan).toArray,.agg #[slI t.starts,slT t.grows.length (Qae QaP t.grows),slT t.takes.length (Qae QaP t.takes)]]).map (Qau 0 4))) (by kernel_rfl) (by kernel_rfl) fun B hJ=> Qub rf plan t hr hl hp hJ
def Qe5 (rf:Qaf) (plan:List Int) (t:Qah) (i:Int):List Value:=[Qaq 1 (slT plan.length (Qae Qav plan)),pA 2 0,pA 3 0,.int .i64 i]
def Qc0 (rf:Qaf) (plan:List Int) (t:Qah) (i:Int):List Obj:=[Obj.cells #[Qaq 1 (slT rf.places.length (Qae Qad rf.places)),.int .i64 rf.miss,.int .i64 rf.seasons] 24,Obj.cells #[Qaq 1 (slT t.starts.length (Qae Qav t.starts)),Qaq 1 (slT t.grows.length (Qae QaP t.grows)),Qaq 1 (slT t.takes.length (Qae QaP t.takes))] 42]
def QeF:List Item:=([.code [1,1,0,1,0,0],.inLoop [1,1,0,1,0,0],.inBlock 0,.code [1,1,1]]).map (it (QaB YP 27))
def Qxy (B:Lo) (c0:CF) (rf:Qaf) (plan:List Int) (t:Qah) (i:Int):Prop:=∃dJ:Nat->Value,(∀t,Qbi (dJ t))/\GoE YP B c0 H00 1 (Qa8 27 136 (([1,3,5,7]:List Nat).zip (Qe5 rf plan t i)) dJ QeF) (Qa6 (Qc0 rf plan t i)) (2+(Qc0 rf plan t i).length) []
def QdW (rf:Qaf) (plan:List Int) (t:Qah) (s:Int):List Value:=[Qaq 1 (slT plan.length (Qae Qav plan)),pA 2 0,pA 3 0,.int .i64 s]
def QbZ (rf:Qaf) (plan:List Int) (t:Qah) (s:Int):List Obj:=[Obj.cells #[Qaq 1 (slT rf.places.length (Qae Qad rf.places)),.int .i64 rf.miss,.int .i64 rf.seasons] 24,Obj.cells #[Qaq 1 (slT t.starts.length (Qae Qav t.starts)),Qaq 1 (slT t.grows.length (Qae QaP t.grows)),Qaq 1 (slT t.takes.length (Qae QaP t.takes))] 42]
def QdJ:List Item:=([.code [1,1,1,0,1,0,0],.inLoop [1,1,1,0,1,0,0],.inBlock 2,.code [1,1,1,1]]).map (it (QaB YP 27))
def QwD (B:Lo) (c0:CF) (rf:Qaf) (plan:List Int) (t:Qah) (s:Int):Prop:=∃dJ:Nat->Value,(∀t,Qbi (dJ t))/\GoE YP B c0 H00 1 (Qa8 27 136 (([1,3,5,8]:List Nat).zip (QdW rf plan t s)) dJ QdJ) (Qa6 (QbZ rf plan t s)) (2+(QbZ rf plan t s).length) []
def Qcz (rf:Qaf) (plan:List Int) (t:Qah) (s i:Int):List Value:=[Qaq 1 (slT plan.length (Qae Qav plan)),pA 2 0,pA 3 0,.int .i64 s,.int .i64 i]
def Qbr (rf:Qaf) (plan:List Int) (t:Qah) (s i:Int):List Obj:=[Obj.cells #[Qaq 1 (slT rf.places.length (Qae Qad rf.places)),.int .i64 rf.miss,.int .i64 rf.seasons] 24,Obj.cells #[Qaq 1 (slT t.starts.length (Qae Qav t.starts)),Qaq 1 (slT t.grows.length (Qae QaP t.grows)),Qaq 1 (slT t.takes.length (Qae QaP t.takes))] 42]
def Qc3:List Item:=([.code [1,1,1,0,1,0,0,1,0,0,1,1,0,0],.inLoop [1,1,1,0,1,0,0,1,0,0,1,1,0,0],.inBlock 4,.inBlock 3,.code [1,1,1,0,1,0,0,1,1],.inLoop [1,1,1,0,1,0,0],.inBlock 2,.code [1,1,1,1]]).map (it (QaB YP 27))
def Qyk (B:Lo) (c0:CF) (rf:Qaf) (plan:List Int) (t:Qah) (s i:Int):Prop:=∃dJ:Nat->Value,(∀t,Qbi (dJ t))/\GoE YP B c0 H00 1 (Qa8 27 136 (([1,3,5,8,9]:List Nat).zip (Qcz rf plan t s i)) dJ Qc3) (Qa6 (Qbr rf plan t s i)) (2+(Qbr rf plan t s i).length) []
def Qj4 (B:Lo) (rf:Qaf) (plan:List Int) (t:Qah) (i:Int) (dJ0:Nat->Value):List Prop:=[Qa2 []/\Qaw YP J0 60 #[.agg #[slT rf.places.length (Qae Qad rf.places),.int .i64 rf.miss,.int .i64 rf.seasons],.int .i64 (Qaa.count (rf.places.getD i.toNat default))] (.int .i64 (Qkm rf.miss (Qaa.count (rf.places.getD i.toNat default)))),i=(↑i.toNat:Int)/\Int.toNat i < List.length rf.places/\Array.extract (Qae Qad rf.places) (Int.toNat i * TypeInfo.size Try.t54) (Int.toNat i * TypeInfo.size Try.t54+TypeInfo.size Try.t54)=#[.int .i64 (Qaa.count (rf.places.getD i.toNat default)),.int .i64 (Qaa.room (rf.places.getD i.toNat default)),.int .i64 (Qaa.glo (rf.places.getD i.toNat default)),.int .i64 (Qaa.ghi (rf.places.getD i.toNat default)),.int .i64 (Qaa.drift (rf.places.getD i.toNat default)),.int .i64 (Qaa.into (rf.places.getD i.toNat default)),.int .i64 (Qaa.olo (rf.places.getD i.toNat default)),.int .i64 (Qaa.ohi (rf.places.getD i.toNat default)),.int .i64 (Qaa.slo (rf.places.getD i.toNat default)),.int .i64 (Qaa.shi (rf.places.getD i.toNat default)),.int .i64 (Qaa.goal (rf.places.getD i.toNat default)),.int .i64 (Qaa.worth (rf.places.getD i.toNat default))],i=(↑i.toNat:Int)/\Int.toNat i < List.length rf.places/\Array.extract (Qae Qad rf.places) (Int.toNat i * TypeInfo.size Try.t54) (Int.toNat i * TypeInfo.size Try.t54+TypeInfo.size Try.t54)=#[.int .i64 (Qaa.count (rf.places.getD i.toNat default)),.int .i64 (Qaa.room (rf.places.getD i.toNat default)),.int .i64 (Qaa.glo (rf.places.getD i.toNat default)),.int .i64 (Qaa.ghi (rf.places.getD i.toNat default)),.int .i64 (Qaa.drift (rf.places.getD i.toNat default)),.int .i64 (Qaa.into (rf.places.getD i.toNat default)),.int .i64 (Qaa.olo (rf.places.getD i.toNat default)),.int .i64 (Qaa.ohi (rf.places.getD i.toNat default)),.int .i64 (Qaa.slo (rf.places.getD i.toNat default)),.int .i64 (Qaa.shi (rf.places.getD i.toNat default)),.int .i64 (Qaa.goal (rf.places.getD i.toNat default)),.int .i64 (Qaa.worth (rf.places.getD i.toNat default))],i=(↑i.toNat:Int)/\Int.toNat i < List.length t.starts/\Array.extract (Qae Qav t.starts) (Int.toNat i * TypeInfo.size Try.t3) (Int.toNat i * TypeInfo.size Try.t3+TypeInfo.size Try.t3)=#[.int .i64 (t.starts.getD i.toNat default)],ltq i (↑rf.places.length:Int)=true]++([]:List Prop)
def Qp9 (rf:Qaf) (plan:List Int) (t:Qah) (i:Int) (dJ0:Nat->Value):Qax:=[(4,hvT),(8,Qai.tidx i.toNat #[.int .i64 (t.starts.getD i.toNat default)]),(13,Qai.tidx i.toNat #[.int .i64 (Qaa.count (rf.places.getD i.toNat default)),.int .i64 (Qaa.room (rf.places.getD i.toNat default)),.int .i64 (Qaa.glo (rf.places.getD i.toNat default)),.int .i64 (Qaa.ghi (rf.places.getD i.toNat default)),.int .i64 (Qaa.drift (rf.places.getD i.toNat default)),.int .i64 (Qaa.into (rf.places.getD i.toNat default)),.int .i64 (Qaa.olo (rf.places.getD i.toNat default)),.int .i64 (Qaa.ohi (rf.places.getD i.toNat default)),.int .i64 (Qaa.slo (rf.places.getD i.toNat default)),.int .i64 (Qaa.shi (rf.places.getD i.toNat default)),.int .i64 (Qaa.goal (rf.places.getD i.toNat default)),.int .i64 (Qaa.worth (rf.places.getD i.toNat default))]),(20,Qai.tidx i.toNat #[.int .i64 (Qaa.count (rf.places.getD i.toNat default)),.int .i64 (Qaa.room (rf.places.getD i.toNat default)),.int .i64 (Qaa.glo (rf.places.getD i.toNat default)),.int .i64 (Qaa.ghi (rf.places.getD i.toNat default)),.int .i64 (Qaa.drift (rf.places.getD i.toNat default)),.int .i64 (Qaa.into (rf.places.getD i.toNat default)),.int .i64 (Qaa.olo (rf.places.getD i.toNat default)),.int .i64 (Qaa.ohi (rf.places.getD i.toNat default)),.int .i64 (Qaa.slo (rf.places.getD i.toNat default)),.int .i64 (Qaa.shi (rf.places.getD i.toNat default)),.int .i64 (Qaa.goal (rf.places.getD i.toNat default)),.int .i64 (Qaa.worth (rf.places.getD i.toNat default))]),(23,Qai.pure (.int .i64 (Qkm rf.miss (Qaa.count (rf.places.getD i.toNat default)))) [])]
theorem Qxr (B:Lo) (rf:Qaf) (plan:List Int) (t:Qah) (i:Int) (dJ0:Nat->Value):landM (Qam YP (Qa3 YP) J0 B 14 1 (Qa8 27 136 (([1,3,5,7]:List Nat).zip (Qe5 rf plan t i)) dJ0 QeF) (Qa6 (Qc0 rf plan t i)) (2+(Qc0 rf plan t i).length)
 (Qp9 rf plan t i dJ0++[(24,Qai.pure (.bool true) []),(27,hvI (i+1))]) 0 [] []) [1,3,5,7] [(2,KS.auto),(3,KS.auto)] []=some ⟨27,136,QeF,[],.run,none,Qe5 rf plan t (i+1),Qc0 rf plan t (i+1),
 [wq (i+1)=i+1,Qa2 []/\Qaw YP J0 55 #[.int .i64 (t.starts.getD i.toNat default),.int .i64 (Qaa.count (rf.places.getD i.toNat default)),.int .i64 (Qkm rf.miss (Qaa.count (rf.places.getD i.toNat default)))] (.bool true)]++Qj4 B rf plan t i dJ0⟩:=by kernel_rfl
theorem Qxp (B:Lo) (rf:Qaf) (plan:List Int) (t:Qah) (i:Int) (dJ0:Nat->Value):Qbd (Qam YP (Qa3 YP) J0 B 14 1 (Qa8 27 136 (([1,3,5,7]:List Nat).zip (Qe5 rf plan t i)) dJ0 QeF) (Qa6 (Qc0 rf plan t i)) (2+(Qc0 rf plan t i).length)
 (Qp9 rf plan t i dJ0++[(24,Qai.pure (.bool false) [])]) 0 [] []) []=some (.bool false,
 [Qa2 []/\Qaw YP J0 55 #[.int .i64 (t.starts.getD i.toNat default),.int .i64 (Qaa.count (rf.places.getD i.toNat default)),.int .i64 (Qkm rf.miss (Qaa.count (rf.places.getD i.toNat default)))] (.bool false)]++Qj4 B rf plan t i dJ0):=by kernel_rfl
theorem Qxo (B:Lo) (rf:Qaf) (plan:List Int) (t:Qah) (i:Int) (dJ0:Nat->Value):landM (Qam YP (Qa3 YP) J0 B 10 1 (Qa8 27 136 (([1,3,5,7]:List Nat).zip (Qe5 rf plan t i)) dJ0 QeF) (Qa6 (Qc0 rf plan t i)) (2+(Qc0 rf plan t i).length)
 [(4,hvF)] 0 [] []) [1,3,5,8] [(2,KS.auto),(3,KS.auto)] []=some ⟨27,136,QdJ,[],.run,none,QdW rf plan t (0),QbZ rf plan t (0),
 [ltq i (↑rf.places.length:Int)=false]⟩:=by kernel_rfl
def Qla (B:Lo) (rf:Qaf) (plan:List Int) (t:Qah) (s:Int) (dJ0:Nat->Value):List Prop:=[s=(↑s.toNat:Int)/\Int.toNat s < List.length t.grows/\Array.extract (Qae QaP t.grows) (Int.toNat s * TypeInfo.size Try.t25) (Int.toNat s * TypeInfo.size Try.t25+TypeInfo.size Try.t25)=#[slT (List.length (t.grows.getD s.toNat default)) (Qae Qav (t.grows.getD s.toNat default))],ltq s rf.seasons=true]++([]:List Prop)
def QpE (rf:Qaf) (plan:List Int) (t:Qah) (s:Int) (dJ0:Nat->Value):Qax:=[(3,hvT),(7,Qai.tidx s.toNat #[slT (List.length (t.grows.getD s.toNat default)) (Qae Qav (t.grows.getD s.toNat default))])]
theorem QwO (B:Lo) (rf:Qaf) (plan:List Int) (t:Qah) (s:Int) (dJ0:Nat->Value):Qbd (Qam YP (Qa3 YP) J0 B 15 1 (Qa8 27 136 (([1,3,5,8]:List Nat).zip (QdW rf plan t s)) dJ0 QdJ) (Qa6 (QbZ rf plan t s)) (2+(QbZ rf plan t s).length)
 (QpE rf plan t s dJ0++[(13,hvT)]) 0 [] []) []=some (.bool false,
 [(!eqq (↑(List.length (t.grows.getD s.toNat default)):Int) (↑rf.places.length:Int))=true]++Qla B rf plan t s dJ0):=by kernel_rfl
def QjD (B:Lo) (rf:Qaf) (plan:List Int) (t:Qah) (s:Int) (dJ0:Nat->Value):List Prop:=[s=(↑s.toNat:Int)/\Int.toNat s < List.length t.takes/\Array.extract (Qae QaP t.takes) (Int.toNat s * TypeInfo.size Try.t25) (Int.toNat s * TypeInfo.size Try.t25+TypeInfo.size Try.t25)=#[slT (List.length (t.takes.getD s.toNat default)) (Qae Qav (t.takes.getD s.toNat default))],(!eqq (↑(List.length (t.grows.getD s.toNat default)):Int) (↑rf.places.length:Int))=false]++Qla B rf plan t s dJ0
def Qpx (rf:Qaf) (plan:List Int) (t:Qah) (s:Int) (dJ0:Nat->Value):Qax:=QpE rf plan t s dJ0++[(13,hvF),(18,Qai.tidx s.toNat #[slT (List.length (t.takes.getD s.toNat default)) (Qae Qav (t.takes.getD s.toNat default))])]
theorem Qx9 (B:Lo) (rf:Qaf) (plan:List Int) (t:Qah) (s:Int) (dJ0:Nat->Value):Qbd (Qam YP (Qa3 YP) J0 B 15 1 (Qa8 27 136 (([1,3,5,8]:List Nat).zip (QdW rf plan t s)) dJ0 QdJ) (Qa6 (QbZ rf plan t s)) (2+(QbZ rf plan t s).length)
 (Qpx rf plan t s dJ0++[(24,hvT)]) 0 [] []) []=some (.bool false,
 [(!eqq (↑(List.length (t.takes.getD s.toNat default)):Int) (↑rf.places.length:Int))=true]++QjD B rf plan t s dJ0):=by kernel_rfl
theorem Qwx (B:Lo) (rf:Qaf) (plan:List Int) (t:Qah) (s:Int) (dJ0:Nat->Value):landM (Qam YP (Qa3 YP) J0 B 16 1 (Qa8 27 136 (([1,3,5,8]:List Nat).zip (QdW rf plan t s)) dJ0 QdJ) (Qa6 (QbZ rf plan t s)) (2+(QbZ rf plan t s).length)
 (Qpx rf plan t s dJ0++[(24,hvF)]) 0 [] []) [1,3,5,8,9] [(2,KS.auto),(3,KS.auto)] []=some ⟨27,136,Qc3,[],.run,none,Qcz rf plan t (s) (0),Qbr rf plan t (s) (0),
 [(!eqq (↑(List.length (t.takes.getD s.toNat default)):Int) (↑rf.places.length:Int))=false]++QjD B rf plan t s dJ0⟩:=by kernel_rfl
theorem QvC (B:Lo) (rf:Qaf) (plan:List Int) (t:Qah) (s:Int) (dJ0:Nat->Value):Qbd (Qam YP (Qa3 YP) J0 B 9 1 (Qa8 27 136 (([1,3,5,8]:List Nat).zip (QdW rf plan t s)) dJ0 QdJ) (Qa6 (QbZ rf plan t s)) (2+(QbZ rf plan t s).length)
 [(3,hvF)] 0 [] []) []=some (.bool true,
 [ltq s rf.seasons=false]):=by kernel_rfl
def Qkk (B:Lo) (rf:Qaf) (plan:List Int) (t:Qah) (s i:Int) (dJ0:Nat->Value):List Prop:=[i=(↑i.toNat:Int)/\Int.toNat i < List.length rf.places/\Array.extract (Qae Qad rf.places) (Int.toNat i * TypeInfo.size Try.t54) (Int.toNat i * TypeInfo.size Try.t54+TypeInfo.size Try.t54)=#[.int .i64 (Qaa.count (rf.places.getD i.toNat default)),.int .i64 (Qaa.room (rf.places.getD i.toNat default)),.int .i64 (Qaa.glo (rf.places.getD i.toNat default)),.int .i64 (Qaa.ghi (rf.places.getD i.toNat default)),.int .i64 (Qaa.drift (rf.places.getD i.toNat default)),.int .i64 (Qaa.into (rf.places.getD i.toNat default)),.int .i64 (Qaa.olo (rf.places.getD i.toNat default)),.int .i64 (Qaa.ohi (rf.places.getD i.toNat default)),.int .i64 (Qaa.slo (rf.places.getD i.toNat default)),.int .i64 (Qaa.shi (rf.places.getD i.toNat default)),.int .i64 (Qaa.goal (rf.places.getD i.toNat default)),.int .i64 (Qaa.worth (rf.places.getD i.toNat default))],i=(↑i.toNat:Int)/\Int.toNat i < List.length (t.grows.getD s.toNat default)/\Array.extract (Qae Qav (t.grows.getD s.toNat default)) (Int.toNat i * TypeInfo.size Try.t3) (Int.toNat i * TypeInfo.size Try.t3+TypeInfo.size Try.t3)=#[.int .i64 (List.getD (t.grows.getD s.toNat default) i.toNat default)],s=(↑s.toNat:Int)/\Int.toNat s < List.length t.grows/\Array.extract (Qae QaP t.grows) (Int.toNat s * TypeInfo.size Try.t25) (Int.toNat s * TypeInfo.size Try.t25+TypeInfo.size Try.t25)=#[slT (List.length (t.grows.getD s.toNat default)) (Qae Qav (t.grows.getD s.toNat default))],ltq i (↑rf.places.length:Int)=true]++([]:List Prop)
def Qp1 (rf:Qaf) (plan:List Int) (t:Qah) (s i:Int) (dJ0:Nat->Value):Qax:=[(4,hvT),(8,Qai.tidx s.toNat #[slT (List.length (t.grows.getD s.toNat default)) (Qae Qav (t.grows.getD s.toNat default))]),(11,Qai.tidx i.toNat #[.int .i64 (List.getD (t.grows.getD s.toNat default) i.toNat default)]),(16,Qai.tidx i.toNat #[.int .i64 (Qaa.count (rf.places.getD i.toNat default)),.int .i64 (Qaa.room (rf.places.getD i.toNat default)),.int .i64 (Qaa.glo (rf.places.getD i.toNat default)),.int .i64 (Qaa.ghi (rf.places.getD i.toNat default)),.int .i64 (Qaa.drift (rf.places.getD i.toNat default)),.int .i64 (Qaa.into (rf.places.getD i.toNat default)),.int .i64 (Qaa.olo (rf.places.getD i.toNat default)),.int .i64 (Qaa.ohi (rf.places.getD i.toNat default)),.int .i64 (Qaa.slo (rf.places.getD i.toNat default)),.int .i64 (Qaa.shi (rf.places.getD i.toNat default)),.int .i64 (Qaa.goal (rf.places.getD i.toNat default)),.int .i64 (Qaa.worth (rf.places.getD i.toNat default))])]
def Qj8 (B:Lo) (rf:Qaf) (plan:List Int) (t:Qah) (s i:Int) (dJ0:Nat->Value):List Prop:=[s=(↑s.toNat:Int)/\Int.toNat s < List.length plan/\Array.extract (Qae Qav plan) (Int.toNat s * TypeInfo.size Try.t3) (Int.toNat s * TypeInfo.size Try.t3+TypeInfo.size Try.t3)=#[.int .i64 (plan.getD s.toNat default)],i=(↑i.toNat:Int)/\Int.toNat i < List.length rf.places/\Array.extract (Qae Qad rf.places) (Int.toNat i * TypeInfo.size Try.t54) (Int.toNat i * TypeInfo.size Try.t54+TypeInfo.size Try.t54)=#[.int .i64 (Qaa.count (rf.places.getD i.toNat default)),.int .i64 (Qaa.room (rf.places.getD i.toNat default)),.int .i64 (Qaa.glo (rf.places.getD i.toNat default)),.int .i64 (Qaa.ghi (rf.places.getD i.toNat default)),.int .i64 (Qaa.drift (rf.places.getD i.toNat default)),.int .i64 (Qaa.into (rf.places.getD i.toNat default)),.int .i64 (Qaa.olo (rf.places.getD i.toNat default)),.int .i64 (Qaa.ohi (rf.places.getD i.toNat default)),.int .i64 (Qaa.slo (rf.places.getD i.toNat default)),.int .i64 (Qaa.shi (rf.places.getD i.toNat default)),.int .i64 (Qaa.goal (rf.places.getD i.toNat default)),.int .i64 (Qaa.worth (rf.places.getD i.toNat default))],i=(↑i.toNat:Int)/\Int.toNat i < List.length (t.takes.getD s.toNat default)/\Array.extract (Qae Qav (t.takes.getD s.toNat default)) (Int.toNat i * TypeInfo.size Try.t3) (Int.toNat i * TypeInfo.size Try.t3+TypeInfo.size Try.t3)=#[.int .i64 (List.getD (t.takes.getD s.toNat default) i.toNat default)],s=(↑s.toNat:Int)/\Int.toNat s < List.length t.takes/\Array.extract (Qae QaP t.takes) (Int.toNat s * TypeInfo.size Try.t25) (Int.toNat s * TypeInfo.size Try.t25+TypeInfo.size Try.t25)=#[slT (List.length (t.takes.getD s.toNat default)) (Qae Qav (t.takes.getD s.toNat default))],Qa2 []/\Qaw YP J0 32 #[.int .i64 (List.getD (t.grows.getD s.toNat default) i.toNat default),.agg #[.int .i64 (Qaa.glo (rf.places.getD i.toNat default)),.int .i64 (Qaa.ghi (rf.places.getD i.toNat default))]] (.bool true)]++Qkk B rf plan t s i dJ0
def Qo9 (rf:Qaf) (plan:List Int) (t:Qah) (s i:Int) (dJ0:Nat->Value):Qax:=Qp1 rf plan t s i dJ0++[(19,Qai.pure (.bool true) []),(25,Qai.tidx s.toNat #[slT (List.length (t.takes.getD s.toNat default)) (Qae Qav (t.takes.getD s.toNat default))]),(28,Qai.tidx i.toNat #[.int .i64 (List.getD (t.takes.getD s.toNat default) i.toNat default)]),(33,Qai.tidx i.toNat #[.int .i64 (Qaa.count (rf.places.getD i.toNat default)),.int .i64 (Qaa.room (rf.places.getD i.toNat default)),.int .i64 (Qaa.glo (rf.places.getD i.toNat default)),.int .i64 (Qaa.ghi (rf.places.getD i.toNat default)),.int .i64 (Qaa.drift (rf.places.getD i.toNat default)),.int .i64 (Qaa.into (rf.places.getD i.toNat default)),.int .i64 (Qaa.olo (rf.places.getD i.toNat default)),.int .i64 (Qaa.ohi (rf.places.getD i.toNat default)),.int .i64 (Qaa.slo (rf.places.getD i.toNat default)),.int .i64 (Qaa.shi (rf.places.getD i.toNat default)),.int .i64 (Qaa.goal (rf.places.getD i.toNat default)),.int .i64 (Qaa.worth (rf.places.getD i.toNat default))]),(37,Qai.tidx s.toNat #[.int .i64 (plan.getD s.toNat default)])]
def QkV (B:Lo) (rf:Qaf) (plan:List Int) (t:Qah) (s i:Int) (dJ0:Nat->Value):List Prop:=[Qa2 []/\Qaw YP J0 61 #[.agg #[.int .i64 (Qaa.count (rf.places.getD i.toNat default)),.int .i64 (Qaa.room (rf.places.getD i.toNat default)),.int .i64 (Qaa.glo (rf.places.getD i.toNat default)),.int .i64 (Qaa.ghi (rf.places.getD i.toNat default)),.int .i64 (Qaa.drift (rf.places.getD i.toNat default)),.int .i64 (Qaa.into (rf.places.getD i.toNat default)),.int .i64 (Qaa.olo (rf.places.getD i.toNat default)),.int .i64 (Qaa.ohi (rf.places.getD i.toNat default)),.int .i64 (Qaa.slo (rf.places.getD i.toNat default)),.int .i64 (Qaa.shi (rf.places.getD i.toNat default)),.int .i64 (Qaa.goal (rf.places.getD i.toNat default)),.int .i64 (Qaa.worth (rf.places.getD i.toNat default))],.bool true] (.agg #[.int .i64 (if true=true then Qaa.slo (rf.places.getD i.toNat default) else Qaa.olo (rf.places.getD i.toNat default)),.int .i64 (if true=true then Qaa.shi (rf.places.getD i.toNat default) else Qaa.ohi (rf.places.getD i.toNat default))]),Qa2 []/\Qaw YP J0 47 #[.int .i64 (plan.getD s.toNat default),.int .i64 i] (.bool true)]++Qj8 B rf plan t s i dJ0
def Qpw (rf:Qaf) (plan:List Int) (t:Qah) (s i:Int) (dJ0:Nat->Value):Qax:=Qo9 rf plan t s i dJ0++[(40,Qai.pure (.bool true) []),(41,Qai.pure (.agg #[.int .i64 (if true=true then Qaa.slo (rf.places.getD i.toNat default) else Qaa.olo (rf.places.getD i.toNat default)),.int .i64 (if true=true then Qaa.shi (rf.places.getD i.toNat default) else Qaa.ohi (rf.places.getD i.toNat default))]) [])]
theorem QvA (B:Lo) (rf:Qaf) (plan:List Int) (t:Qah) (s i:Int) (dJ0:Nat->Value):landM (Qam YP (Qa3 YP) J0 B 14 1 (Qa8 27 136 (([1,3,5,8,9]:List Nat).zip (Qcz rf plan t s i)) dJ0 Qc3) (Qa6 (Qbr rf plan t s i)) (2+(Qbr rf plan t s i).length)
 (Qpw rf plan t s i dJ0++[(42,Qai.pure (.bool true) []),(46,hvI (i+1))]) 0 [] []) [1,3,5,8,9] [(2,KS.auto),(3,KS.auto)] []=some ⟨27,136,Qc3,[],.run,none,Qcz rf plan t (s) (i+1),Qbr rf plan t (s) (i+1),
 [wq (i+1)=i+1,Qa2 []/\Qaw YP J0 32 #[.int .i64 (List.getD (t.takes.getD s.toNat default) i.toNat default),.agg #[.int .i64 (if true=true then Qaa.slo (rf.places.getD i.toNat default) else Qaa.olo (rf.places.getD i.toNat default)),.int .i64 (if true=true then Qaa.shi (rf.places.getD i.toNat default) else Qaa.ohi (rf.places.getD i.toNat default))]] (.bool true)]++QkV B rf plan t s i dJ0⟩:=by kernel_rfl
theorem QvJ (B:Lo) (rf:Qaf) (plan:List Int) (t:Qah) (s i:Int) (dJ0:Nat->Value):Qbd (Qam YP (Qa3 YP) J0 B 14 1 (Qa8 27 136 (([1,3,5,8,9]:List Nat).zip (Qcz rf plan t s i)) dJ0 Qc3) (Qa6 (Qbr rf plan t s i)) (2+(Qbr rf plan t s i).length)
 (Qpw rf plan t s i dJ0++[(42,Qai.pure (.bool false) [])]) 0 [] []) []=some (.bool false,
 [Qa2 []/\Qaw YP J0 32 #[.int .i64 (List.getD (t.takes.getD s.toNat default) i.toNat default),.agg #[.int .i64 (if true=true then Qaa.slo (rf.places.getD i.toNat default) else Qaa.olo (rf.places.getD i.toNat default)),.int .i64 (if true=true then Qaa.shi (rf.places.getD i.toNat default) else Qaa.ohi (rf.places.getD i.toNat default))]] (.bool false)]++QkV B rf plan t s i dJ0):=by kernel_rfl
def QjY (B:Lo) (rf:Qaf) (plan:List Int) (t:Qah) (s i:Int) (dJ0:Nat->Value):List Prop:=[Qa2 []/\Qaw YP J0 61 #[.agg #[.int .i64 (Qaa.count (rf.places.getD i.toNat default)),.int .i64 (Qaa.room (rf.places.getD i.toNat default)),.int .i64 (Qaa.glo (rf.places.getD i.toNat default)),.int .i64 (Qaa.ghi (rf.places.getD i.toNat default)),.int .i64 (Qaa.drift (rf.places.getD i.toNat default)),.int .i64 (Qaa.into (rf.places.getD i.toNat default)),.int .i64 (Qaa.olo (rf.places.getD i.toNat default)),.int .i64 (Qaa.ohi (rf.places.getD i.toNat default)),.int .i64 (Qaa.slo (rf.places.getD i.toNat default)),.int .i64 (Qaa.shi (rf.places.getD i.toNat default)),.int .i64 (Qaa.goal (rf.places.getD i.toNat default)),.int .i64 (Qaa.worth (rf.places.getD i.toNat default))],.bool false] (.agg #[.int .i64 (if false=true then Qaa.slo (rf.places.getD i.toNat default) else Qaa.olo (rf.places.getD i.toNat default)),.int .i64 (if false=true then Qaa.shi (rf.places.getD i.toNat default) else Qaa.ohi (rf.places.getD i.toNat default))]),Qa2 []/\Qaw YP J0 47 #[.int .i64 (plan.getD s.toNat default),.int .i64 i] (.bool false)]++Qj8 B rf plan t s i dJ0
def Qpu (rf:Qaf) (plan:List Int) (t:Qah) (s i:Int) (dJ0:Nat->Value):Qax:=Qo9 rf plan t s i dJ0++[(40,Qai.pure (.bool false) []),(41,Qai.pure (.agg #[.int .i64 (if false=true then Qaa.slo (rf.places.getD i.toNat default) else Qaa.olo (rf.places.getD i.toNat default)),.int .i64 (if false=true then Qaa.shi (rf.places.getD i.toNat default) else Qaa.ohi (rf.places.getD i.toNat default))]) [])]
theorem Qxb (B:Lo) (rf:Qaf) (plan:List Int) (t:Qah) (s i:Int) (dJ0:Nat->Value):landM (Qam YP (Qa3 YP) J0 B 14 1 (Qa8 27 136 (([1,3,5,8,9]:List Nat).zip (Qcz rf plan t s i)) dJ0 Qc3) (Qa6 (Qbr rf plan t s i)) (2+(Qbr rf plan t s i).length)
 (Qpu rf plan t s i dJ0++[(42,Qai.pure (.bool true) []),(46,hvI (i+1))]) 0 [] []) [1,3,5,8,9] [(2,KS.auto),(3,KS.auto)] []=some ⟨27,136,Qc3,[],.run,none,Qcz rf plan t (s) (i+1),Qbr rf plan t (s) (i+1),
 [wq (i+1)=i+1,Qa2 []/\Qaw YP J0 32 #[.int .i64 (List.getD (t.takes.getD s.toNat default) i.toNat default),.agg #[.int .i64 (if false=true then Qaa.slo (rf.places.getD i.toNat default) else Qaa.olo (rf.places.getD i.toNat default)),.int .i64 (if false=true then Qaa.shi (rf.places.getD i.toNat default) else Qaa.ohi (rf.places.getD i.toNat default))]] (.bool true)]++QjY B rf plan t s i dJ0⟩:=by kernel_rfl
theorem QtO (B:Lo) (rf:Qaf) (plan:List Int) (t:Qah) (s i:Int) (dJ0:Nat->Value):Qbd (Qam YP (Qa3 YP) J0 B 14 1 (Qa8 27 136 (([1,3,5,8,9]:List Nat).zip (Qcz rf plan t s i)) dJ0 Qc3) (Qa6 (Qbr rf plan t s i)) (2+(Qbr rf plan t s i).length)
 (Qpu rf plan t s i dJ0++[(42,Qai.pure (.bool false) [])]) 0 [] []) []=some (.bool false,
 [Qa2 []/\Qaw YP J0 32 #[.int .i64 (List.getD (t.takes.getD s.toNat default) i.toNat default),.agg #[.int .i64 (if false=true then Qaa.slo (rf.places.getD i.toNat default) else Qaa.olo (rf.places.getD i.toNat default)),.int .i64 (if false=true then Qaa.shi (rf.places.getD i.toNat default) else Qaa.ohi (rf.places.getD i.toNat default))]] (.bool false)]++QjY B rf plan t s i dJ0):=by kernel_rfl
theorem Quo (B:Lo) (rf:Qaf) (plan:List Int) (t:Qah) (s i:Int) (dJ0:Nat->Value):Qbd (Qam YP (Qa3 YP) J0 B 14 1 (Qa8 27 136 (([1,3,5,8,9]:List Nat).zip (Qcz rf plan t s i)) dJ0 Qc3) (Qa6 (Qbr rf plan t s i)) (2+(Qbr rf plan t s i).length)
 (Qp1 rf plan t s i dJ0++[(19,Qai.pure (.bool false) [])]) 0 [] []) []=some (.bool false,
 [Qa2 []/\Qaw YP J0 32 #[.int .i64 (List.getD (t.grows.getD s.toNat default) i.toNat default),.agg #[.int .i64 (Qaa.glo (rf.places.getD i.toNat default)),.int .i64 (Qaa.ghi (rf.places.getD i.toNat default))]] (.bool false)]++Qkk B rf plan t s i dJ0):=by kernel_rfl
theorem QuG (B:Lo) (rf:Qaf) (plan:List Int) (t:Qah) (s i:Int) (dJ0:Nat->Value):landM (Qam YP (Qa3 YP) J0 B 8 1 (Qa8 27 136 (([1,3,5,8,9]:List Nat).zip (Qcz rf plan t s i)) dJ0 Qc3) (Qa6 (Qbr rf plan t s i)) (2+(Qbr rf plan t s i).length)
 [(4,hvF),(6,hvI (s+1))] 0 [] []) [1,3,5,8] [(2,KS.auto),(3,KS.auto)] []=some ⟨27,136,QdJ,[],.run,none,QdW rf plan t (s+1),QbZ rf plan t (s+1),
 [wq (s+1)=s+1,ltq i (↑rf.places.length:Int)=false]⟩:=by kernel_rfl
theorem QtH (B:Lo) (rf:Qaf) (plan:List Int) (t:Qah):Qbd (Qam YP (Qa3 YP) J0 B 10 1 (Qaj YP 27 136 (([.agg (Qak rf).toArray,slI plan,.agg #[slI t.starts,slT t.grows.length (Qae QaP t.grows),slT t.takes.length (Qae QaP t.takes)]]).map (Qau 0 4))) H00 1
 [(9,hvT)] 0 [] []) []=some (.bool false,
 [(!eqq (↑t.starts.length:Int) (↑rf.places.length:Int))=true]):=by kernel_rfl
def Qj1 (B:Lo) (rf:Qaf) (plan:List Int) (t:Qah):List Prop:=[(!eqq (↑t.starts.length:Int) (↑rf.places.length:Int))=false]++([]:List Prop)
def QoP (rf:Qaf) (plan:List Int) (t:Qah):Qax:=[(9,hvF)]
theorem Qu1 (B:Lo) (rf:Qaf) (plan:List Int) (t:Qah):Qbd (Qam YP (Qa3 YP) J0 B 10 1 (Qaj YP 27 136 (([.agg (Qak rf).toArray,slI plan,.agg #[slI t.starts,slT t.grows.length (Qae QaP t.grows),slT t.takes.length (Qae QaP t.takes)]]).map (Qau 0 4))) H00 1
 (QoP rf plan t++[(16,hvT)]) 0 [] []) []=some (.bool false,
 [(!eqq (↑t.grows.length:Int) rf.seasons)=true]++Qj1 B rf plan t):=by kernel_rfl
def Qkw (B:Lo) (rf:Qaf) (plan:List Int) (t:Qah):List Prop:=[(!eqq (↑t.grows.length:Int) rf.seasons)=false]++Qj1 B rf plan t
def Qo3 (rf:Qaf) (plan:List Int) (t:Qah):Qax:=QoP rf plan t++[(16,hvF)]
theorem QuO (B:Lo) (rf:Qaf) (plan:List Int) (t:Qah):Qbd (Qam YP (Qa3 YP) J0 B 10 1 (Qaj YP 27 136 (([.agg (Qak rf).toArray,slI plan,.agg #[slI t.starts,slT t.grows.length (Qae QaP t.grows),slT t.takes.length (Qae QaP t.takes)]]).map (Qau 0 4))) H00 1
 (Qo3 rf plan t++[(24,hvT)]) 0 [] []) []=some (.bool false,
 [(!eqq (↑t.takes.length:Int) rf.seasons)=true]++Qkw B rf plan t):=by kernel_rfl
theorem Qu7 (B:Lo) (rf:Qaf) (plan:List Int) (t:Qah):landM (Qam YP (Qa3 YP) J0 B 12 1 (Qaj YP 27 136 (([.agg (Qak rf).toArray,slI plan,.agg #[slI t.starts,slT t.grows.length (Qae QaP t.grows),slT t.takes.length (Qae QaP t.takes)]]).map (Qau 0 4))) H00 1
 (Qo3 rf plan t++[(24,hvF)]) 0 [] []) [1,3,5,7] [(1,KS.auto),(2,KS.auto)] []=some ⟨27,136,QeF,[],.run,none,Qe5 rf plan t (0),Qc0 rf plan t (0),
 [(!eqq (↑t.takes.length:Int) rf.seasons)=false]++Qkw B rf plan t⟩:=by kernel_rfl
set_option maxHeartbeats 4000000 in
theorem QwW (rf:Qaf) (plan:List Int) (t:Qah) (hr:Qbm rf=true) (hpl:(plan.length:Int)=rf.seasons) (hp:∀j:Nat,0<=plan.getD j default/\plan.getD j default<=1000000) {B:Lo} (hJ:∀w,B.has w->J0 w) {c0:CF}:∀m:Nat,(∀(i:Int),(rf.places.length - i.toNat)+1000000=m->∀(h0:0<=i) (hgl:(t.grows.length:Int)=rf.seasons) (htl:(t.takes.length:Int)=rf.seasons) (hsl:t.starts.length=rf.places.length),Qxy B c0 rf plan t i->EndsT YP B c0 (.bool (Qvi t.starts (rf.places.map (QaS rf.miss)) i && QkD rf plan t.grows t.takes 0)))/\(∀(s:Int),(rf.seasons - s).toNat * 1000+900=m->∀(s0:0<=s) (hgl:(t.grows.length:Int)=rf.seasons) (htl:(t.takes.length:Int)=rf.seasons),QwD B c0 rf plan t s->EndsT YP B c0 (.bool (QkD rf plan t.grows t.takes s)))/\(∀(s i:Int),(rf.seasons - s).toNat * 1000+800 - i.toNat=m->∀(s0:0<=s) (s1:s < rf.seasons) (i0:0<=i) (i1:i<=rf.places.length) (hgl:(t.grows.length:Int)=rf.seasons) (htl:(t.takes.length:Int)=rf.seasons) (hg:(t.grows.getD s.toNat default).length=rf.places.length) (ht:(t.takes.getD s.toNat default).length=rf.places.length),Qyk B c0 rf plan t s i->EndsT YP B c0 (.bool (Qvi (t.grows.getD s.toNat default) (rf.places.map Qba) i && (Qvi (t.takes.getD s.toNat default) (QaX rf.places (plan.getD s.toNat default)) i && QkD rf plan t.grows t.takes (s+1))))):=by
 intro m0;induction m0 using Nat.strongRecOn with
 | _ m0 ih0=>
   refine ⟨?_, ?_, ?_⟩
   ·intro i hm0 h0 hgl htl hsl ⟨dJ0,hdJ0,hg0⟩;have hsz:=Qbj (QaL hr).1;by_cases q0:(i:Int) < ((↑rf.places.length:Int))
    ·have hp0:Qa2 (Qj4 B rf plan t i dJ0):=by
      have hcs:=(Qdc ((QaL hr).2 i h0 q0).1).1;exact ⟨⟨trivial,Q4t (rf) (Qaa.count (rf.places.getD i.toNat default)) (by omega) (by omega)⟩,⟨⟨by omega,by omega,(Qal (z:=12) (fun _=> rfl) (by omega))⟩,⟨⟨by omega,by omega,(Qal (z:=12) (fun _=> rfl) (by omega))⟩,⟨⟨by omega,by omega,(Qal (z:=1) (fun _=> rfl) (by omega))⟩,⟨(QbD q0),trivial⟩⟩⟩⟩⟩
     cases q1:inB (t.starts.getD i.toNat default) (Qaa.count (rf.places.getD i.toNat default)) (Qkm rf.miss (Qaa.count (rf.places.getD i.toNat default))) with
     | true=>
       have k1:t.starts.length=rf.places.length:=(by omega)
       have k2:(t.grows.length:Int)=rf.seasons:=(by omega)
       have k3:(t.takes.length:Int)=rf.seasons:=(by omega)
       have s2:=QbE (xs:=t.starts) (ss:=rf.places.map (QaS rf.miss)) (i:=i) (by omega);have m1:=QcQ (f:=QaS rf.miss) h0 q0;exact ((ih0 _ (by omega)).1 (i+1) rfl (by omega) (by with_reducible assumption) (by with_reducible assumption) (by with_reducible assumption)
        (hg0.landM okF hJ Qab (Qxr B rf plan t i dJ0)
        ⟨(QaH (by omega) (by omega)),⟨⟨trivial,(by have t_:=rin (t.starts.getD i.toNat default) (Qaa.count (rf.places.getD i.toNat default)) (Qkm rf.miss (Qaa.count (rf.places.getD i.toNat default)));rw [q1] at t_;exact t_)⟩,hp0⟩⟩ (by kernel_rfl) (by kernel_rfl))).cast (by (rw [s2,m1];simp_all [QaS];done))
     | false=>
       have k1:t.starts.length=rf.places.length:=(by omega)
       have s2:=QbE (xs:=t.starts) (ss:=rf.places.map (QaS rf.miss)) (i:=i) (by omega);have m1:=QcQ (f:=QaS rf.miss) h0 q0;exact (GoE.endsT okF hJ Qab hg0 (Qxp B rf plan t i dJ0)
        ⟨⟨trivial,(by have t_:=rin (t.starts.getD i.toNat default) (Qaa.count (rf.places.getD i.toNat default)) (Qkm rf.miss (Qaa.count (rf.places.getD i.toNat default)));rw [q1] at t_;exact t_)⟩,hp0⟩).cast (by (rw [s2,m1];simp_all [QaS];done))
    ·have k2:(t.grows.length:Int)=rf.seasons:=(by omega)
     have k3:(t.takes.length:Int)=rf.seasons:=(by omega)
     have s2:=QiX (xs:=t.starts) (ss:=rf.places.map (QaS rf.miss)) (i:=i) (by omega);exact ((ih0 _ (by omega)).2.1 (0) rfl (by omega) (by with_reducible assumption) (by with_reducible assumption)
      (hg0.landM okF hJ Qab (Qxo B rf plan t i dJ0)
      ⟨(QbI (Int.not_lt.1 q0)),trivial⟩ (by kernel_rfl) (by kernel_rfl))).cast (by (rw [s2];simp;done))
   ·intro s hm0 s0 hgl htl ⟨dJ0,hdJ0,hg0⟩;have hsz:=Qbj (QaL hr).1;by_cases q0:(s:Int) < rf.seasons
    ·have hp1:Qa2 (Qla B rf plan t s dJ0):=by
      exact ⟨⟨by omega,by omega,(Qal (z:=1) (fun _=> rfl) (by omega))⟩,⟨(QbD q0),trivial⟩⟩
     by_cases q1:((↑(List.length (t.grows.getD s.toNat default)):Int):Int)≠((↑rf.places.length:Int))
     ·have s2:=QeB (plan:=plan) (gs:=t.grows) (ts:=t.takes) q0;exact (GoE.endsT okF hJ Qab hg0 (QwO B rf plan t s dJ0)
       ⟨(QgM q1),hp1⟩).cast (by (rw [s2,Q0B (by omega)];rfl))
     ·have hp2:Qa2 (QjD B rf plan t s dJ0):=by
       exact ⟨⟨by omega,by omega,(Qal (z:=1) (fun _=> rfl) (by omega))⟩,⟨(QeW (Decidable.of_not_not q1)),hp1⟩⟩
      by_cases q2:((↑(List.length (t.takes.getD s.toNat default)):Int):Int)≠((↑rf.places.length:Int))
      ·have s2:=QeB (plan:=plan) (gs:=t.grows) (ts:=t.takes) q0;exact (GoE.endsT okF hJ Qab hg0 (Qx9 B rf plan t s dJ0)
        ⟨(QgM q2),hp2⟩).cast (by (rw [s2,Q0B (by omega)];rfl))
      ·have k2:(t.grows.length:Int)=rf.seasons:=(by omega)
       have k3:(t.takes.length:Int)=rf.seasons:=(by omega)
       have s2:=QeB (plan:=plan) (gs:=t.grows) (ts:=t.takes) q0;exact ((ih0 _ (by omega)).2.2 (s) (0) rfl (by with_reducible assumption) (by with_reducible assumption) (by omega) (by omega) (by with_reducible assumption) (by with_reducible assumption) (by omega) (by omega)
        (hg0.landM okF hJ Qab (Qwx B rf plan t s dJ0)
        ⟨(QeW (Decidable.of_not_not q2)),hp2⟩ (by kernel_rfl) (by kernel_rfl))).cast (by (rw [s2,Q20 (by omega) (by omega),Bool.and_assoc];done))
    ·have s2:=QsC (rf:=rf) (plan:=plan) (gs:=t.grows) (ts:=t.takes) (i:=s) (by omega);exact (GoE.endsT okF hJ Qab hg0 (QvC B rf plan t s dJ0)
      ⟨(QbI (Int.not_lt.1 q0)),trivial⟩).cast (by (rw [s2];done))
   ·intro s i hm0 s0 s1 i0 i1 hgl htl hg ht ⟨dJ0,hdJ0,hg0⟩;have hsz:=Qbj (QaL hr).1;have hpk:=hp s.toNat;by_cases q0:(i:Int) < ((↑rf.places.length:Int))
    ·have hp3:Qa2 (Qkk B rf plan t s i dJ0):=by
      exact ⟨⟨by omega,by omega,(Qal (z:=12) (fun _=> rfl) (by omega))⟩,⟨⟨by omega,by omega,(Qal (z:=1) (fun _=> rfl) (by omega))⟩,⟨⟨by omega,by omega,(Qal (z:=1) (fun _=> rfl) (by omega))⟩,⟨(QbD q0),trivial⟩⟩⟩⟩
     cases q1:inB (List.getD (t.grows.getD s.toNat default) i.toNat default) (Qaa.glo (rf.places.getD i.toNat default)) (Qaa.ghi (rf.places.getD i.toNat default)) with
     | true=>
       have hp4:Qa2 (Qj8 B rf plan t s i dJ0):=by
        exact ⟨⟨by omega,by omega,(Qal (z:=1) (fun _=> rfl) (by omega))⟩,⟨⟨by omega,by omega,(Qal (z:=12) (fun _=> rfl) (by omega))⟩,⟨⟨by omega,by omega,(Qal (z:=1) (fun _=> rfl) (by omega))⟩,⟨⟨by omega,by omega,(Qal (z:=1) (fun _=> rfl) (by omega))⟩,⟨⟨trivial,(by have t_:=Qh9 (List.getD (t.grows.getD s.toNat default) i.toNat default) (Qaa.glo (rf.places.getD i.toNat default)) (Qaa.ghi (rf.places.getD i.toNat default));rw [q1] at t_;exact t_)⟩,hp3⟩⟩⟩⟩⟩
       cases q2:hasB (plan.getD s.toNat default) i with
       | true=>
         have hp5:Qa2 (QkV B rf plan t s i dJ0):=by
          exact ⟨⟨trivial,Q0J (rf.places.getD i.toNat default) (true)⟩,⟨⟨trivial,(by have t_:=Q48 (plan.getD s.toNat default) (i) (by omega) (by omega);rw [q2] at t_;exact t_)⟩,hp4⟩⟩
         cases q3:inB (List.getD (t.takes.getD s.toNat default) i.toNat default) (if true=true then Qaa.slo (rf.places.getD i.toNat default) else Qaa.olo (rf.places.getD i.toNat default)) (if true=true then Qaa.shi (rf.places.getD i.toNat default) else Qaa.ohi (rf.places.getD i.toNat default)) with
         | true=>
           have k2:(t.grows.length:Int)=rf.seasons:=(by omega)
           have k3:(t.takes.length:Int)=rf.seasons:=(by omega)
           have s2:=QbE (xs:=(t.grows.getD s.toNat default)) (ss:=rf.places.map Qba) (i:=i) (by omega);have s3:=QbE (xs:=(t.takes.getD s.toNat default)) (ss:=QaX rf.places (plan.getD s.toNat default)) (i:=i) (by omega);have m1:=QcQ (f:=Qba) i0 q0;have m2:(QaX rf.places (plan.getD s.toNat default)).getD i.toNat default=QcF (plan.getD s.toNat default) i (rf.places.getD i.toNat default):=QaQ i0 q0;exact ((ih0 _ (by omega)).2.2 (s) (i+1) rfl (by with_reducible assumption) (by with_reducible assumption) (by omega) (by omega) (by with_reducible assumption) (by with_reducible assumption) (by with_reducible assumption) (by with_reducible assumption)
            (hg0.landM okF hJ Qab (QvA B rf plan t s i dJ0)
            ⟨(QaH (by omega) (by omega)),⟨⟨trivial,(by have t_:=Qh9 (List.getD (t.takes.getD s.toNat default) i.toNat default) (if true=true then Qaa.slo (rf.places.getD i.toNat default) else Qaa.olo (rf.places.getD i.toNat default)) (if true=true then Qaa.shi (rf.places.getD i.toNat default) else Qaa.ohi (rf.places.getD i.toNat default));rw [q3] at t_;exact t_)⟩,hp5⟩⟩ (by kernel_rfl) (by kernel_rfl))).cast (by (rw [s2,s3,m1,m2];simp_all [Qba,QcF,Qkt,Qcb];done))
         | false=>
           have k2:(t.grows.length:Int)=rf.seasons:=(by omega)
           have k3:(t.takes.length:Int)=rf.seasons:=(by omega)
           have s2:=QbE (xs:=(t.grows.getD s.toNat default)) (ss:=rf.places.map Qba) (i:=i) (by omega);have s3:=QbE (xs:=(t.takes.getD s.toNat default)) (ss:=QaX rf.places (plan.getD s.toNat default)) (i:=i) (by omega);have m1:=QcQ (f:=Qba) i0 q0;have m2:(QaX rf.places (plan.getD s.toNat default)).getD i.toNat default=QcF (plan.getD s.toNat default) i (rf.places.getD i.toNat default):=QaQ i0 q0;exact (GoE.endsT okF hJ Qab hg0 (QvJ B rf plan t s i dJ0)
            ⟨⟨trivial,(by have t_:=Qh9 (List.getD (t.takes.getD s.toNat default) i.toNat default) (if true=true then Qaa.slo (rf.places.getD i.toNat default) else Qaa.olo (rf.places.getD i.toNat default)) (if true=true then Qaa.shi (rf.places.getD i.toNat default) else Qaa.ohi (rf.places.getD i.toNat default));rw [q3] at t_;exact t_)⟩,hp5⟩).cast (by (rw [s2,s3,m1,m2];simp_all [Qba,QcF,Qkt,Qcb];done))
       | false=>
         have hp6:Qa2 (QjY B rf plan t s i dJ0):=by
          exact ⟨⟨trivial,Q0J (rf.places.getD i.toNat default) (false)⟩,⟨⟨trivial,(by have t_:=Q48 (plan.getD s.toNat default) (i) (by omega) (by omega);rw [q2] at t_;exact t_)⟩,hp4⟩⟩
         cases q3:inB (List.getD (t.takes.getD s.toNat default) i.toNat default) (if false=true then Qaa.slo (rf.places.getD i.toNat default) else Qaa.olo (rf.places.getD i.toNat default)) (if false=true then Qaa.shi (rf.places.getD i.toNat default) else Qaa.ohi (rf.places.getD i.toNat default)) with
         | true=>
           have k2:(t.grows.length:Int)=rf.seasons:=(by omega)
           have k3:(t.takes.length:Int)=rf.seasons:=(by omega)
           have s2:=QbE (xs:=(t.grows.getD s.toNat default)) (ss:=rf.places.map Qba) (i:=i) (by omega);have s3:=QbE (xs:=(t.takes.getD s.toNat default)) (ss:=QaX rf.places (plan.getD s.toNat default)) (i:=i) (by omega);have m1:=QcQ (f:=Qba) i0 q0;have m2:(QaX rf.places (plan.getD s.toNat default)).getD i.toNat default=QcF (plan.getD s.toNat default) i (rf.places.getD i.toNat default):=QaQ i0 q0;exact ((ih0 _ (by omega)).2.2 (s) (i+1) rfl (by with_reducible assumption) (by with_reducible assumption) (by omega) (by omega) (by with_reducible assumption) (by with_reducible assumption) (by with_reducible assumption) (by with_reducible assumption)
            (hg0.landM okF hJ Qab (Qxb B rf plan t s i dJ0)
            ⟨(QaH (by omega) (by omega)),⟨⟨trivial,(by have t_:=Qh9 (List.getD (t.takes.getD s.toNat default) i.toNat default) (if false=true then Qaa.slo (rf.places.getD i.toNat default) else Qaa.olo (rf.places.getD i.toNat default)) (if false=true then Qaa.shi (rf.places.getD i.toNat default) else Qaa.ohi (rf.places.getD i.toNat default));rw [q3] at t_;exact t_)⟩,hp6⟩⟩ (by kernel_rfl) (by kernel_rfl))).cast (by (rw [s2,s3,m1,m2];simp_all [Qba,QcF,Qkt,Qcb];done))
         | false=>
           have k2:(t.grows.length:Int)=rf.seasons:=(by omega)
           have k3:(t.takes.length:Int)=rf.seasons:=(by omega)
           have s2:=QbE (xs:=(t.grows.getD s.toNat default)) (ss:=rf.places.map Qba) (i:=i) (by omega);have s3:=QbE (xs:=(t.takes.getD s.toNat default)) (ss:=QaX rf.places (plan.getD s.toNat default)) (i:=i) (by omega);have m1:=QcQ (f:=Qba) i0 q0;have m2:(QaX rf.places (plan.getD s.toNat default)).getD i.toNat default=QcF (plan.getD s.toNat default) i (rf.places.getD i.toNat default):=QaQ i0 q0;exact (GoE.endsT okF hJ Qab hg0 (QtO B rf plan t s i dJ0)
            ⟨⟨trivial,(by have t_:=Qh9 (List.getD (t.takes.getD s.toNat default) i.toNat default) (if false=true then Qaa.slo (rf.places.getD i.toNat default) else Qaa.olo (rf.places.getD i.toNat default)) (if false=true then Qaa.shi (rf.places.getD i.toNat default) else Qaa.ohi (rf.places.getD i.toNat default));rw [q3] at t_;exact t_)⟩,hp6⟩).cast (by (rw [s2,s3,m1,m2];simp_all [Qba,QcF,Qkt,Qcb];done))
     | false=>
       have k2:(t.grows.length:Int)=rf.seasons:=(by omega)
       have k3:(t.takes.length:Int)=rf.seasons:=(by omega)
       have s2:=QbE (xs:=(t.grows.getD s.toNat default)) (ss:=rf.places.map Qba) (i:=i) (by omega);have s3:=QbE (xs:=(t.takes.getD s.toNat default)) (ss:=QaX rf.places (plan.getD s.toNat default)) (i:=i) (by omega);have m1:=QcQ (f:=Qba) i0 q0;have m2:(QaX rf.places (plan.getD s.toNat default)).getD i.toNat default=QcF (plan.getD s.toNat default) i (rf.places.getD i.toNat default):=QaQ i0 q0;exact (GoE.endsT okF hJ Qab hg0 (Quo B rf plan t s i dJ0)
        ⟨⟨trivial,(by have t_:=Qh9 (List.getD (t.grows.getD s.toNat default) i.toNat default) (Qaa.glo (rf.places.getD i.toNat default)) (Qaa.ghi (rf.places.getD i.toNat default));rw [q1] at t_;exact t_)⟩,hp3⟩).cast (by (rw [s2,s3,m1,m2];simp_all [Qba,QcF,Qkt,Qcb];done))
    ·have k2:(t.grows.length:Int)=rf.seasons:=(by omega)
     have k3:(t.takes.length:Int)=rf.seasons:=(by omega)
     have s2:=QiX (xs:=(t.grows.getD s.toNat default)) (ss:=rf.places.map Qba) (i:=i) (by omega);have s3:=QiX (xs:=(t.takes.getD s.toNat default)) (ss:=QaX rf.places (plan.getD s.toNat default)) (i:=i) (by omega);exact ((ih0 _ (by omega)).2.1 (s+1) rfl (by omega) (by with_reducible assumption) (by with_reducible assumption)
      (hg0.landM okF hJ Qab (QuG B rf plan t s i dJ0)
      ⟨(QaH (by omega) (by omega)),⟨(QbI (Int.not_lt.1 q0)),trivial⟩⟩ (by kernel_rfl) (by kernel_rfl))).cast (by (rw [s2,s3];simp;done))
set_option maxHeartbeats 4000000 in
theorem QzW (rf:Qaf) (plan:List Int) (t:Qah) (hr:Qbm rf=true) (hpl:(plan.length:Int)=rf.seasons) (hp:∀j:Nat,0<=plan.getD j default/\plan.getD j default<=1000000) {B:Lo} (hJ:∀w,B.has w->J0 w):EndsT YP B (Qaj YP 27 136 (([.agg (Qak rf).toArray,slI plan,.agg #[slI t.starts,slT t.grows.length (Qae QaP t.grows),slT t.takes.length (Qae QaP t.takes)]]).map (Qau 0 4))) (.bool (Qb1 rf plan t)):=by
 by_cases q0:((↑t.starts.length:Int):Int)≠((↑rf.places.length:Int))
 ·exact (GoE.endsT okF hJ Qab GoE.start (QtH B rf plan t)
   ⟨(QgM q0),trivial⟩).cast (by (rw [QmH (by omega)];done))
 ·have hp7:Qa2 (Qj1 B rf plan t):=by
   exact ⟨(QeW (Decidable.of_not_not q0)),trivial⟩
  by_cases q1:((↑t.grows.length:Int):Int)≠rf.seasons
  ·exact (GoE.endsT okF hJ Qab GoE.start (Qu1 B rf plan t)
    ⟨(QgM q1),hp7⟩).cast (by (rw [QmH (by omega)];done))
  ·have hp8:Qa2 (Qkw B rf plan t):=by
    exact ⟨(QeW (Decidable.of_not_not q1)),hp7⟩
   by_cases q2:((↑t.takes.length:Int):Int)≠rf.seasons
   ·exact (GoE.endsT okF hJ Qab GoE.start (QuO B rf plan t)
     ⟨(QgM q2),hp8⟩).cast (by (rw [QmH (by omega)];done))
   ·have k1:t.starts.length=rf.places.length:=(by omega)
    have k2:(t.grows.length:Int)=rf.seasons:=(by omega)
    have k3:(t.takes.length:Int)=rf.seasons:=(by omega)
    exact ((QwW rf plan t hr hpl hp hJ _).1 (0) rfl (by omega) (by with_reducible assumption) (by with_reducible assumption) (by with_reducible assumption)
     (GoE.start.landM okF hJ Qab (Qu7 B rf plan t)
     ⟨(QeW (Decidable.of_not_not q2)),hp8⟩ (by kernel_rfl) (by kernel_rfl))).cast (by (rw [Qwc (by omega) (by omega) (by omega)];done))
theorem Q0A (rf:Qaf) (plan:List Int) (t:Qah) (hr:Qbm rf=true) (hpl:(plan.length:Int)=rf.seasons) (hp:∀j:Nat,0<=plan.getD j default/\plan.getD j default<=1000000):Qaw YP J0 27 #[.agg (Qak rf).toArray,slI plan,.agg #[slI t.starts,slT t.grows.length (Qae QaP t.grows),slT t.takes.length (Qae QaP t.takes)]] (.bool (Qb1 rf plan t)):=
 QaV (ts:=[.agg (Qak rf).toArray,slI plan,.agg #[slI t.starts,slT t.grows.length (Qae QaP t.grows),slT t.takes.length (Qae QaP t.takes)]]) QbS (c0:=Qaj YP 27 136 (([.agg (Qak rf).toArray,slI plan,.agg #[slI t.starts,slT t.grows.length (Qae QaP t.grows),slT t.takes.length (Qae QaP t.takes)]]).map (Qau 0 4))) (by kernel_rfl) (by kernel_rfl) fun B hJ=> QzW rf plan t hr hpl hp hJ
end
end Go.Proofs.Ytncjjangllkokaa

namespace Go.Proofs.Ytncjjangllkokaa
open Go Go.CE Go.RowKit
noncomputable section
set_option maxRecDepth 100000
theorem Q2Q {n:Nat} (h:n<=4):((Qe0 n:Nat):Int)<=16:=by
 unfold Qe0;have:n=0\/n=1\/n=2\/n=3\/n=4:=by omega
 rcases this with rfl | rfl | rfl | rfl | rfl <;> decide
theorem QiP {rf:Qaf} {plan:List Int} (hr:Qbm rf=true) (hp:QbN rf plan=true) (j:Nat):0<=plan.getD j 0/\plan.getD j 0<=15:=by
 have h:=(QdA hp).2;have h4:=Q2Q (n:=rf.places.length) (by have:=Qbj (QaL hr).1;omega);by_cases hj:j < plan.length
 ·have e:plan.getD j 0=plan[j]:=by simp [List.getD_eq_getElem?_getD,hj]
  have:=h plan[j] (List.getElem_mem hj);rw [e];omega
 ·rw [List.getD_eq_getElem?_getD,List.getElem?_eq_none (by omega)];exact ⟨Int.le_refl _,by decide⟩
theorem Qjz {xs:List Int} {ss:List Span} (h:Qns xs ss=true):xs.length=ss.length/\∀k:Int,0<=k->k < xs.length->(ss.getD k.toNat default).lo<=xs.getD k.toNat default/\xs.getD k.toNat default<=(ss.getD k.toNat default).hi:=by
 unfold Qns at h;simp only [YB,decide_eq_true_iff] at h;exact ⟨h.1,fun k h0 h1=> Qhz.1 (QrW h.2 h0 h1)⟩
theorem Qq0 {rf:Qaf} {plan:List Int} {t:Qah} (h:Qb1 rf plan t=true):Qns t.starts (rf.places.map (QaS rf.miss))=true/\(t.grows.length:Int)=rf.seasons/\(t.takes.length:Int)=rf.seasons/\∀s:Int,0<=s->s < rf.seasons->Qns (t.grows.getD s.toNat default) (rf.places.map Qba)=true/\Qns (t.takes.getD s.toNat default) (QaX rf.places (plan.getD s.toNat 0))=true:=by
 unfold Qb1 at h;simp only [YB,decide_eq_true_iff] at h;refine ⟨h.1,h.2.1,h.2.2.1,fun s h0 h1=> ?_⟩;have:=QrW h.2.2.2 h0 h1;unfold Qyo at this;simpa only [YB] using this
theorem Q3k {rf:Qaf} (hr:Qbm rf=true):QkX rf.places:=by
 have hs:=Qbj (QaL hr).1;refine ⟨by omega,fun k h0 h1=> ?_⟩;have h:=(QaL hr).2 k h0 h1;have hp:=Qdc h.1;exact ⟨hp.2.1,hp.2.2.2.2.2.1,h.2.1,h.2.2⟩
theorem Qst {ps:List Qaa} {p k:Int} (h0:0<=k) (h:k < ps.length):(QaX ps p).getD k.toNat default=QcF p k (ps.getD k.toNat default):=QaQ h0 h
theorem Que {ps:List Qaa} {p:Int}:(QaX ps p).length=ps.length:=by rw [QaX,QaZ];omega
theorem Qxt {rf:Qaf} (hr:Qbm rf=true) {p k:Int} (h0:0<=k) (h:k < rf.places.length):0<=(QcF p k (rf.places.getD k.toNat default)).lo/\(QcF p k (rf.places.getD k.toNat default)).lo<=(QcF p k (rf.places.getD k.toNat default)).hi/\(QcF p k (rf.places.getD k.toNat default)).hi<=1000000:=by
 have hp:=Qdc ((QaL hr).2 k h0 h).1;unfold QcF;split
 ·exact hp.2.2.2.2.2.2.2.1
 ·exact hp.2.2.2.2.2.2.1
theorem Q1j {rf:Qaf} {plan:List Int} {t:Qah} (hr:Qbm rf=true) (ht:Qb1 rf plan t=true):OkT rf.places rf.seasons t.grows t.takes (Qac t.starts)/\t.starts.length=rf.places.length:=by
 have hs:=Qbj (QaL hr).1;obtain ⟨h1,h2,h3,h4⟩:=Qq0 ht;obtain ⟨s1,s2⟩:=Qjz h1;rw [List.length_map] at s1;have st:∀k:Int,0<=k->k < 4->0<=nth t.starts k/\nth t.starts k<=4000000:=fun k k0 k1=> by
  by_cases hk:k < rf.places.length
  ·have hp:=Qdc ((QaL hr).2 k k0 hk).1;have:=s2 k k0 (by omega);rw [QcQ k0 hk] at this;have hm:=Qec (a:=(rf.places.getD k.toNat default).count) (r:=rf.miss) (by omega) (by omega);have hm2:(rf.places.getD k.toNat default).count * rf.miss<=1000000 * 2000:=Int.mul_le_mul hp.1.2 hs.2.1.2 hs.2.1.1 (by omega);have e2:((rf.places.getD k.toNat default).count * rf.miss).tdiv 1000=((rf.places.getD k.toNat default).count * rf.miss) / 1000:=Int.tdiv_eq_ediv_of_nonneg hm.1;simp only [QaS,Qkm] at this;unfold nth;omega
  ·unfold nth;rw [List.getD_eq_getElem?_getD,List.getElem?_eq_none (by omega)];exact ⟨Int.le_refl _,by decide⟩
 have a0:=st 0 (by omega) (by omega);have a1:=st 1 (by omega) (by omega);have a2:=st 2 (by omega) (by omega);have a3:=st 3 (by omega) (by omega);have es:(Qac t.starts).sum=nth t.starts 0+nth t.starts 1+nth t.starts 2+nth t.starts 3:=rfl;refine ⟨⟨Q3k hr,by omega,by omega,by omega,h2,h3,fun k hk=> ?_,fun k hk=> ?_,⟨⟨a0.1,a1.1,a2.1,a3.1⟩,by omega⟩,by omega⟩,s1⟩
 ·obtain ⟨g1,g2⟩:=Qjz (h4 k (by omega) hk).1;rw [List.length_map] at g1;simp only [Int.toNat_natCast] at g1 g2;refine ⟨g1,fun j j0 j1=> ?_⟩;have hp:=Qdc ((QaL hr).2 j j0 (by omega)).1;have:=g2 j j0 (by rw [g1];exact j1);rw [QcQ j0 j1] at this;simp only [Qba] at this;show 0<=(t.grows.getD k default).getD j.toNat default/\(t.grows.getD k default).getD j.toNat default<=2000;omega
 ·obtain ⟨g1,g2⟩:=Qjz (h4 k (by omega) hk).2;rw [Que] at g1;simp only [Int.toNat_natCast] at g1 g2;refine ⟨g1,fun j j0 j1=> ?_⟩;have:=g2 j j0 (by rw [g1];exact j1);rw [Qst j0 j1] at this;have hp:=Qxt hr (p:=plan.getD k 0) j0 j1;show 0<=(t.takes.getD k default).getD j.toNat default/\(t.takes.getD k default).getD j.toNat default<=1000000;omega
abbrev Qct (xs:List (List Int)):Value:=slT xs.length (Qae QaP xs)
def QiL (rf:Qaf) (plan:List Int):Array Value:=#[slT rf.places.length (Qae Qad rf.places),.int .i64 rf.miss,.int .i64 rf.seasons,.int .i64 (plan.getD 0 0),.int .i64 (plan.getD 1 0),.int .i64 (plan.getD 2 0),.int .i64 (plan.getD 3 0)]
def Qnk (rf:Qaf) (plan:List Int):Array Value:=#[.agg #[slT rf.places.length (Qae Qad rf.places),.int .i64 rf.miss,.int .i64 rf.seasons],slT plan.length (Qae Qav plan)]
def Qmf (t:Qah):Array Value:=#[slT t.starts.length (Qae Qav t.starts),slT t.grows.length (Qae QaP t.grows),slT t.takes.length (Qae QaP t.takes)]
def QnS (rf:Qaf):Array Value:=#[slT rf.places.length (Qae Qad rf.places),.int .i64 rf.miss,.int .i64 rf.seasons]
def Qov (B:Lo) (rf:Qaf) (plan:List Int) (t:Qah):List Prop:=[Qa2 []/\Qaw YP J0 50 #[.agg (QnS rf)] (.bool true)]++([]:List Prop)
def QsS (rf:Qaf) (plan:List Int) (t:Qah):Qax:=[(6,Qai.pure (.bool true) [])]
def QmO (B:Lo) (rf:Qaf) (plan:List Int) (t:Qah):List Prop:=[Qa2 []/\Qaw YP J0 52 (Qnk rf plan) (.agg (QiL rf plan)),Qa2 []/\Qaw YP J0 51 (Qnk rf plan) (.bool true)]++Qov B rf plan t
def QsH (rf:Qaf) (plan:List Int) (t:Qah):Qax:=QsS rf plan t++[(11,Qai.pure (.bool true) []),(17,Qai.pure (.agg (QiL rf plan)) [])]
theorem QyL (B:Lo) (rf:Qaf) (plan:List Int) (t:Qah):Qbd (Qam YP (Qa3 YP) J0 B 13 1 (Qaj YP 26 37 (([.agg (Qak rf).toArray,slI plan,.agg #[slI t.starts,Qct t.grows,Qct t.takes]]).map (Qau 0 4))) H00 1
 (QsH rf plan t++[(19,Qai.pure (.bool true) []),(24,Qai.pure (.tuple #[slT (List.length (Qbk rf.seasons rf.places t.grows t.takes (Qac t.starts))) (Qae QaP (Qbk rf.seasons rf.places t.grows t.takes (Qac t.starts))),.agg #[.int .i64 (F4.sum (Qac t.starts)),.int .i64 (Qa9 0 rf.seasons (Qb6 rf.places t.grows t.takes (Qac t.starts))),.int .i64 (Qa9 0 rf.seasons (QaW rf.places t.grows t.takes (Qac t.starts))),.int .i64 (Qa9 0 rf.seasons (Qb4 rf.places t.grows t.takes (Qac t.starts))),.int .i64 (F4.sum (stF rf.places t.grows t.takes (Qac t.starts) (Int.toNat rf.seasons)))]]) [])]) 0 [] []) []=some (.tuple #[slT (List.length (Qbk rf.seasons rf.places t.grows t.takes (Qac t.starts))) (Qae QaP (Qbk rf.seasons rf.places t.grows t.takes (Qac t.starts))),.agg #[.int .i64 (F4.sum (Qac t.starts)),.int .i64 (Qa9 0 rf.seasons (Qb6 rf.places t.grows t.takes (Qac t.starts))),.int .i64 (Qa9 0 rf.seasons (QaW rf.places t.grows t.takes (Qac t.starts))),.int .i64 (Qa9 0 rf.seasons (Qb4 rf.places t.grows t.takes (Qac t.starts))),.int .i64 (F4.sum (stF rf.places t.grows t.takes (Qac t.starts) (Int.toNat rf.seasons)))],.int .i64 0],
 [Qa2 []/\Qaw YP J0 59 #[.agg (QnS rf),.agg (Qmf t)] (.tuple #[slT (List.length (Qbk rf.seasons rf.places t.grows t.takes (Qac t.starts))) (Qae QaP (Qbk rf.seasons rf.places t.grows t.takes (Qac t.starts))),.agg #[.int .i64 (F4.sum (Qac t.starts)),.int .i64 (Qa9 0 rf.seasons (Qb6 rf.places t.grows t.takes (Qac t.starts))),.int .i64 (Qa9 0 rf.seasons (QaW rf.places t.grows t.takes (Qac t.starts))),.int .i64 (Qa9 0 rf.seasons (Qb4 rf.places t.grows t.takes (Qac t.starts))),.int .i64 (F4.sum (stF rf.places t.grows t.takes (Qac t.starts) (Int.toNat rf.seasons)))]]),Qa2 []/\Qaw YP J0 58 #[.agg (QiL rf plan),.agg (Qmf t)] (.bool true)]++QmO B rf plan t):=by kernel_rfl
theorem Qyt (B:Lo) (rf:Qaf) (plan:List Int) (t:Qah):Qbd (Qam YP (Qa3 YP) J0 B 10 1 (Qaj YP 26 37 (([.agg (Qak rf).toArray,slI plan,.agg #[slI t.starts,Qct t.grows,Qct t.takes]]).map (Qau 0 4))) H00 1
 (QsH rf plan t++[(19,Qai.pure (.bool false) [])]) 0 [] []) []=some (.tuple #[slT 0 #[],.agg #[.int .i64 0,.int .i64 0,.int .i64 0,.int .i64 0,.int .i64 0],.int .i64 2],
 [Qa2 []/\Qaw YP J0 58 #[.agg (QiL rf plan),.agg (Qmf t)] (.bool false)]++QmO B rf plan t):=by kernel_rfl
theorem Q06 (B:Lo) (rf:Qaf) (plan:List Int) (t:Qah):Qbd (Qam YP (Qa3 YP) J0 B 10 1 (Qaj YP 26 37 (([.agg (Qak rf).toArray,slI plan,.agg #[slI t.starts,Qct t.grows,Qct t.takes]]).map (Qau 0 4))) H00 1
 (QsS rf plan t++[(11,Qai.pure (.bool false) [])]) 0 [] []) []=some (.tuple #[slT 0 #[],.agg #[.int .i64 0,.int .i64 0,.int .i64 0,.int .i64 0,.int .i64 0],.int .i64 2],
 [Qa2 []/\Qaw YP J0 51 (Qnk rf plan) (.bool false)]++Qov B rf plan t):=by kernel_rfl
theorem Qzn (B:Lo) (rf:Qaf) (plan:List Int) (t:Qah):Qbd (Qam YP (Qa3 YP) J0 B 10 1 (Qaj YP 26 37 (([.agg (Qak rf).toArray,slI plan,.agg #[slI t.starts,Qct t.grows,Qct t.takes]]).map (Qau 0 4))) H00 1
 [(6,Qai.pure (.bool false) [])] 0 [] []) []=some (.tuple #[slT 0 #[],.agg #[.int .i64 0,.int .i64 0,.int .i64 0,.int .i64 0,.int .i64 0],.int .i64 2],
 [Qa2 []/\Qaw YP J0 50 #[.agg (QnS rf)] (.bool false)]):=by kernel_rfl
set_option maxHeartbeats 4000000 in
theorem Q1x (rf:Qaf) (plan:List Int) (t:Qah)  {B:Lo} (hJ:∀w,B.has w->J0 w):EndsT YP B (Qaj YP 26 37 (([.agg (Qak rf).toArray,slI plan,.agg #[slI t.starts,Qct t.grows,Qct t.takes]]).map (Qau 0 4))) (.tuple #[if Qbm rf && (QbN rf plan && Qb1 rf plan t) then Qct (Qbk rf.seasons rf.places t.grows t.takes (Qac t.starts)) else Qct [],.agg #[.int .i64 (if Qbm rf && (QbN rf plan && Qb1 rf plan t) then (Qac t.starts).sum else 0),.int .i64 (if Qbm rf && (QbN rf plan && Qb1 rf plan t) then Qa9 0 rf.seasons (Qb6 rf.places t.grows t.takes (Qac t.starts)) else 0),.int .i64 (if Qbm rf && (QbN rf plan && Qb1 rf plan t) then Qa9 0 rf.seasons (QaW rf.places t.grows t.takes (Qac t.starts)) else 0),.int .i64 (if Qbm rf && (QbN rf plan && Qb1 rf plan t) then Qa9 0 rf.seasons (Qb4 rf.places t.grows t.takes (Qac t.starts)) else 0),.int .i64 (if Qbm rf && (QbN rf plan && Qb1 rf plan t) then (stF rf.places t.grows t.takes (Qac t.starts) rf.seasons.toNat).sum else 0)],.int .i64 (if Qbm rf && (QbN rf plan && Qb1 rf plan t) then 0 else 2)]):=by
 cases q0:Qbm rf with
 | true=>
   have hp0:Qa2 (Qov B rf plan t):=by
    have hsz:=Qbj (QaL ‹Qbm rf=true›).1;exact ⟨⟨trivial,(by have t_:=Qyl (rf);rw [q0] at t_;exact t_)⟩,trivial⟩
   cases q1:QbN rf plan with
   | true=>
     have hp1:Qa2 (QmO B rf plan t):=by
      have hsz:=Qbj (QaL ‹Qbm rf=true›).1;have hpf:=(QdA ‹QbN rf plan=true›).1;have hpg:=(fun j=> (fun h=> ⟨h.1,by omega⟩) (QiP ‹Qbm rf=true› ‹QbN rf plan=true› j):∀j:Nat,0<=plan.getD j 0/\plan.getD j 0<=1000000)
      exact ⟨⟨trivial,QxH (rf) (plan) (by omega) (by omega)⟩,⟨⟨trivial,(by have t_:=Qx3 (rf) (plan) (by omega);rw [q1] at t_;exact t_)⟩,hp0⟩⟩
     cases q2:Qb1 rf plan t with
     | true=>
       have hsz:=Qbj (QaL ‹Qbm rf=true›).1;have hpf:=(QdA ‹QbN rf plan=true›).1;have hpg:=(fun j=> (fun h=> ⟨h.1,by omega⟩) (QiP ‹Qbm rf=true› ‹QbN rf plan=true› j):∀j:Nat,0<=plan.getD j 0/\plan.getD j 0<=1000000)
       have hok:=Q1j ‹Qbm rf=true› ‹Qb1 rf plan t=true›;have hok1:=hok.1;have hok2:=hok.2;exact (GoE.endsT okF hJ Qab GoE.start (QyL B rf plan t)
        ⟨⟨trivial,Q4g (rf) (t) (by with_reducible assumption) (by with_reducible assumption) (by omega) (by omega)⟩,⟨⟨trivial,(by have t_:=QsR (rf) (plan) (t) (by with_reducible assumption) (by omega) (by with_reducible assumption);rw [q2] at t_;exact t_)⟩,hp1⟩⟩).cast (by rfl)
     | false=>
       have hsz:=Qbj (QaL ‹Qbm rf=true›).1;have hpf:=(QdA ‹QbN rf plan=true›).1;have hpg:=(fun j=> (fun h=> ⟨h.1,by omega⟩) (QiP ‹Qbm rf=true› ‹QbN rf plan=true› j):∀j:Nat,0<=plan.getD j 0/\plan.getD j 0<=1000000)
       exact (GoE.endsT okF hJ Qab GoE.start (Qyt B rf plan t)
        ⟨⟨trivial,(by have t_:=QsR (rf) (plan) (t) (by with_reducible assumption) (by omega) (by with_reducible assumption);rw [q2] at t_;exact t_)⟩,hp1⟩).cast (by rfl)
   | false=>
     have hsz:=Qbj (QaL ‹Qbm rf=true›).1;exact (GoE.endsT okF hJ Qab GoE.start (Q06 B rf plan t)
      ⟨⟨trivial,(by have t_:=Qx3 (rf) (plan) (by omega);rw [q1] at t_;exact t_)⟩,hp0⟩).cast (by rfl)
 | false=>
   exact (GoE.endsT okF hJ Qab GoE.start (Qzn B rf plan t)
    ⟨⟨trivial,(by have t_:=Qyl (rf);rw [q0] at t_;exact t_)⟩,trivial⟩).cast (by rfl)
theorem Qyw (rf:Qaf) (plan:List Int) (t:Qah)  :Qaw YP J0 26 #[.agg (Qak rf).toArray,slI plan,.agg #[slI t.starts,Qct t.grows,Qct t.takes]] (.tuple #[if Qbm rf && (QbN rf plan && Qb1 rf plan t) then Qct (Qbk rf.seasons rf.places t.grows t.takes (Qac t.starts)) else Qct [],.agg #[.int .i64 (if Qbm rf && (QbN rf plan && Qb1 rf plan t) then (Qac t.starts).sum else 0),.int .i64 (if Qbm rf && (QbN rf plan && Qb1 rf plan t) then Qa9 0 rf.seasons (Qb6 rf.places t.grows t.takes (Qac t.starts)) else 0),.int .i64 (if Qbm rf && (QbN rf plan && Qb1 rf plan t) then Qa9 0 rf.seasons (QaW rf.places t.grows t.takes (Qac t.starts)) else 0),.int .i64 (if Qbm rf && (QbN rf plan && Qb1 rf plan t) then Qa9 0 rf.seasons (Qb4 rf.places t.grows t.takes (Qac t.starts)) else 0),.int .i64 (if Qbm rf && (QbN rf plan && Qb1 rf plan t) then (stF rf.places t.grows t.takes (Qac t.starts) rf.seasons.toNat).sum else 0)],.int .i64 (if Qbm rf && (QbN rf plan && Qb1 rf plan t) then 0 else 2)]):=
 QaV (ts:=[.agg (Qak rf).toArray,slI plan,.agg #[slI t.starts,Qct t.grows,Qct t.takes]]) QbS (c0:=Qaj YP 26 37 (([.agg (Qak rf).toArray,slI plan,.agg #[slI t.starts,Qct t.grows,Qct t.takes]]).map (Qau 0 4))) (by kernel_rfl) (by kernel_rfl) fun B hJ=> Q1x rf plan t  hJ
end
end Go.Proofs.Ytncjjangllkokaa

namespace Go.Proofs.Ytncjjangllkokaa
open Go Go.CE Go.RowKit
def inN (n:Int):Value:=.int .i64 n
def QaI (g:FuncId):Bool:=Nat.ble 3 g && (Nat.blt g 116 && !([]:List Nat).any (Nat.beq g))
theorem Qap:∀g,QaI g=true->Qa3 YP g=true:=by
 have h:(List.range 116).all (fun g=> !(QaI g) || Qa3 YP g)=true:=by decide+kernel
 intro g hg;have hg':=hg;simp only [QaI,YB] at hg;have h1:g < 116:=YL hg.2.1;have:=List.all_eq_true.1 h g (List.mem_range.2 h1);rw [hg'] at this;simpa using this
def cB0:Obj:=.cells #[inN 1000,inN 2000,inN 200,inN 300,inN 100,inN 1,inN 200,inN 300,inN 0,inN 50,inN 900,inN 10,inN 500,inN 800,inN 100,inN 200,inN 0,inN (-1),inN 100,inN 200,inN 0,inN 20,inN 450,inN 6] 54 (0,0)
def cB1:Obj:=.cells #[.slice (some ⟨2104,0,none⟩) 2 12,inN 200,inN 2,inN 1,inN 1,inN 0,inN 0] 84 (0,0)
def cB2:Obj:=.cells #[inN 1000,inN 2000,inN 200,inN 300,inN 100,inN 1,inN 200,inN 300,inN 0,inN 50,inN 900,inN 10,inN 500,inN 800,inN 100,inN 200,inN 0,inN (-1),inN 100,inN 122,inN 0,inN 20,inN 450,inN 6] 54 (0,0)
def cB3:Obj:=.cells #[inN 1000,inN 2000,inN 200,inN 300,inN 100,inN 1,inN 200,inN 300,inN 0,inN 50,inN 900,inN 10,inN 500,inN 800,inN 100,inN 200,inN 0,inN (-1),inN 100,inN 183,inN 0,inN 20,inN 450,inN 6] 54 (0,0)
def cB4:Obj:=.cells #[inN 1000,inN 2000,inN 200,inN 300,inN 100,inN 1,inN 200,inN 300,inN 0,inN 50,inN 900,inN 10,inN 500,inN 800,inN 100,inN 200,inN 0,inN (-1),inN 100,inN 199,inN 0,inN 20,inN 450,inN 6] 54 (0,0)
def cB5:Obj:=.cells #[inN 1000,inN 2000,inN 200,inN 300,inN 100,inN 1,inN 200,inN 300,inN 0,inN 50,inN 900,inN 10,inN 500,inN 800,inN 100,inN 200,inN 0,inN (-1),inN 100,inN 191,inN 0,inN 20,inN 450,inN 6] 54 (0,0)
def cB6:Obj:=.cells #[inN 1000,inN 2000,inN 200,inN 300,inN 100,inN 1,inN 200,inN 300,inN 0,inN 50,inN 900,inN 10,inN 500,inN 800,inN 100,inN 200,inN 0,inN (-1),inN 100,inN 195,inN 0,inN 20,inN 450,inN 6] 54 (0,0)
def cB7:Obj:=.cells #[inN 1000,inN 2000,inN 200,inN 300,inN 100,inN 1,inN 200,inN 300,inN 0,inN 50,inN 900,inN 10,inN 500,inN 800,inN 100,inN 200,inN 0,inN (-1),inN 100,inN 197,inN 0,inN 20,inN 450,inN 6] 54 (0,0)
def cB8:Obj:=.cells #[inN 1000,inN 2000,inN 200,inN 300,inN 100,inN 1,inN 200,inN 300,inN 0,inN 50,inN 900,inN 10,inN 500,inN 800,inN 100,inN 200,inN 0,inN (-1),inN 100,inN 196,inN 0,inN 20,inN 450,inN 6] 54 (0,0)
end Go.Proofs.Ytncjjangllkokaa

namespace Go.Proofs.Ytncjjangllkokaa
open Go Go.CE Go.RowKit
def Qwz:Memo:=
 ⟨26,#[.agg #[.slice (some ⟨7,0,none⟩) 2 12,inN 200,inN 2],.slice (some ⟨8,0,none⟩) 2 1,.agg #[.slice (some ⟨9,0,none⟩) 2 1,.slice (some ⟨12,0,none⟩) 2 1,.slice (some ⟨15,0,none⟩) 2 1]],[(9,.cells #[inN 1100,inN 550] 3 (0,0)),(12,.cells #[.slice (some ⟨10,0,none⟩) 2 1,.slice (some ⟨11,0,none⟩) 2 1] 25 (0,0)),(10,.cells #[inN 250,inN 150] 3 (0,0)),(15,.cells #[.slice (some ⟨13,0,none⟩) 2 1,.slice (some ⟨14,0,none⟩) 2 1] 25 (0,0)),(13,.cells #[inN 250,inN 150] 3 (0,0)),(11,.cells #[inN 200,inN 100] 3 (0,0)),(14,.cells #[inN 200,inN 100] 3 (0,0)),(8,.cells #[inN 0,inN 0] 3 (0,0)),(7,cB0)],16,.tuple #[.slice (some ⟨107,0,none⟩) 2 1,.agg #[inN 1650,inN 615,inN 700,inN 0,inN 1565],inN 0],[(121,.cells #[inN 867,inN 698] 3 (0,0)),(114,.cells #[inN 988,inN 619] 3 (0,0)),(107,.cells #[.slice (some ⟨114,0,none⟩) 2 1,.slice (some ⟨121,0,none⟩) 2 1] 25 (0,0))],123⟩
theorem QvD:Qa7 Qwz (Qwz.run YP QaI QaK 100000)=true:=by decide+kernel
def Qr3:Memo:=
 ⟨18,#[.agg #[.slice (some ⟨131,0,none⟩) 2 12,inN 200,inN 2],.slice (some ⟨132,0,none⟩) 2 1],[(132,.cells #[inN 0,inN 0] 3 (0,0)),(131,cB0)],133,.tuple #[.slice (some ⟨191,0,none⟩) 2 1,inN 0],[(375,.cells #[inN 543,inN 1209,inN 410,inN 856] 38 (0,0)),(283,.cells #[inN 780,inN 1204,inN 470,inN 776] 38 (0,0)),(191,.cells #[.slice (some ⟨283,0,none⟩) 2 2,.slice (some ⟨375,0,none⟩) 2 2] 36 (0,0))],376⟩
theorem Qvj:Qa7 Qr3 (Qr3.run YP QaI QaK 100000)=true:=by decide+kernel
def Qrr:Memo:=
 ⟨88,#[.slice (some ⟨383,0,none⟩) 2 12,.agg #[inN 1063,inN 440,inN 0,inN 0]],[(383,cB0)],539,.tuple #[.agg #[inN 1,inN 10],.bool true],[],544⟩
theorem Qui:Qa7 Qrr (Qrr.drun YP QaI QaK 100000)=true:=by decide+kernel
def Qqj:Memo:=
 ⟨98,#[.agg #[.slice (some ⟨552,0,none⟩) 2 12,inN 200,inN 2,inN 3,inN 3,inN 0,inN 0],.agg #[inN 1000,inN 500,inN 0,inN 0],inN 0,.func (.func 76) #[] #[],.func (.func 77) #[] #[]],[(552,cB0)],622,.agg #[inN 1030,inN 650,inN 0,inN 0],[],663⟩
theorem QtP:Qa7 Qqj (Qqj.run YP QaI QaK 100000)=true:=by decide+kernel
def QqU:Memo:=
 ⟨98,#[.agg #[.slice (some ⟨552,0,none⟩) 2 12,inN 200,inN 2,inN 3,inN 3,inN 0,inN 0],.agg #[inN 1030,inN 650,inN 0,inN 0],inN 1,.func (.func 76) #[] #[],.func (.func 77) #[] #[]],[(552,cB0)],666,.agg #[inN 1063,inN 818,inN 0,inN 0],[],707⟩
theorem QtX:Qa7 QqU (QqU.run YP QaI QaK 100000)=true:=by decide+kernel
def Qs1:Memo:=
 ⟨88,#[.slice (some ⟨552,0,none⟩) 2 12,.agg #[inN 1063,inN 818,inN 0,inN 0]],[(552,cB0)],707,.tuple #[.agg #[inN 0,inN 0],.bool false],[],712⟩
theorem Qvk:Qa7 Qs1 (Qs1.drun YP QaI QaK 100000)=true:=by decide+kernel
def Qsf:Memo:=
 ⟨98,#[.agg #[.slice (some ⟨552,0,none⟩) 2 12,inN 200,inN 2,inN 0,inN 0,inN 0,inN 0],.agg #[inN 1000,inN 500,inN 0,inN 0],inN 0,.func (.func 76) #[] #[],.func (.func 77) #[] #[]],[(552,cB0)],760,.agg #[inN 780,inN 470,inN 0,inN 0],[],801⟩
theorem QuY:Qa7 Qsf (Qsf.run YP QaI QaK 100000)=true:=by decide+kernel
def Qqv:Memo:=
 ⟨98,#[.agg #[.slice (some ⟨552,0,none⟩) 2 12,inN 200,inN 2,inN 0,inN 0,inN 0,inN 0],.agg #[inN 780,inN 470,inN 0,inN 0],inN 1,.func (.func 76) #[] #[],.func (.func 77) #[] #[]],[(552,cB0)],804,.agg #[inN 543,inN 410,inN 0,inN 0],[],845⟩
theorem QuH:Qa7 Qqv (Qqv.run YP QaI QaK 100000)=true:=by decide+kernel
def QrT:Memo:=
 ⟨88,#[.slice (some ⟨552,0,none⟩) 2 12,.agg #[inN 543,inN 410,inN 0,inN 0]],[(552,cB0)],845,.tuple #[.agg #[inN 0,inN 357],.bool true],[],849⟩
theorem QuA:Qa7 QrT (QrT.drun YP QaI QaK 100000)=true:=by decide+kernel
def Qqf:Memo:=
 ⟨98,#[.agg #[.slice (some ⟨552,0,none⟩) 2 12,inN 200,inN 2,inN 0,inN 1,inN 0,inN 0],.agg #[inN 780,inN 470,inN 0,inN 0],inN 1,.func (.func 76) #[] #[],.func (.func 77) #[] #[]],[(552,cB0)],876,.agg #[inN 793,inN 410,inN 0,inN 0],[],917⟩
theorem QtM:Qa7 Qqf (Qqf.run YP QaI QaK 100000)=true:=by decide+kernel
def Qr1:Memo:=
 ⟨88,#[.slice (some ⟨552,0,none⟩) 2 12,.agg #[inN 793,inN 410,inN 0,inN 0]],[(552,cB0)],917,.tuple #[.agg #[inN 0,inN 107],.bool true],[],921⟩
theorem Qve:Qa7 Qr1 (Qr1.drun YP QaI QaK 100000)=true:=by decide+kernel
def Qsc:Memo:=
 ⟨98,#[.agg #[.slice (some ⟨552,0,none⟩) 2 12,inN 200,inN 2,inN 0,inN 2,inN 0,inN 0],.agg #[inN 780,inN 470,inN 0,inN 0],inN 1,.func (.func 76) #[] #[],.func (.func 77) #[] #[]],[(552,cB0)],948,.agg #[inN 543,inN 590,inN 0,inN 0],[],989⟩
theorem Qvf:Qa7 Qsc (Qsc.run YP QaI QaK 100000)=true:=by decide+kernel
def QrA:Memo:=
 ⟨88,#[.slice (some ⟨552,0,none⟩) 2 12,.agg #[inN 543,inN 590,inN 0,inN 0]],[(552,cB0)],989,.tuple #[.agg #[inN 0,inN 357],.bool true],[],993⟩
theorem Qu4:Qa7 QrA (QrA.drun YP QaI QaK 100000)=true:=by decide+kernel
def Qmg:Memo:=
 ⟨98,#[.agg #[.slice (some ⟨552,0,none⟩) 2 12,inN 200,inN 2,inN 0,inN 3,inN 0,inN 0],.agg #[inN 780,inN 470,inN 0,inN 0],inN 1,.func (.func 76) #[] #[],.func (.func 77) #[] #[]],[(552,cB0)],1020,.agg #[inN 793,inN 590,inN 0,inN 0],[],1061⟩
theorem Qq8:Qa7 Qmg (Qmg.run YP QaI QaK 100000)=true:=by decide+kernel
end Go.Proofs.Ytncjjangllkokaa

namespace Go.Proofs.Ytncjjangllkokaa
open Go Go.CE Go.RowKit
noncomputable def Qkv:Orc:=Qbc [Qrr]
theorem Qlw (B:Lo):QdD YP B Qkv:=Qa5 Qap Qab (Qaz _ _) Qui (Qbf _ _)
def Qr2:Memo:=
 ⟨35,#[.agg #[.slice (some ⟨383,0,none⟩) 2 12,inN 200,inN 2],.slice (some ⟨384,0,none⟩) 2 1],[(384,.cells #[inN 1,inN 1] 3 (0,0)),(383,cB0)],385,.tuple #[inN 1,inN 10,inN 0],[],545⟩
theorem QuP:Qa7 Qr2 (Qr2.run YP QaI Qkv 100000)=true:=by decide+kernel
end Go.Proofs.Ytncjjangllkokaa

namespace Go.Proofs.Ytncjjangllkokaa
open Go Go.CE Go.RowKit
def Qob:Memo:=
 ⟨88,#[.slice (some ⟨552,0,none⟩) 2 12,.agg #[inN 793,inN 590,inN 0,inN 0]],[(552,cB0)],1061,.tuple #[.agg #[inN 0,inN 107],.bool true],[],1065⟩
theorem QqA:Qa7 Qob (Qob.drun YP QaI QaK 100000)=true:=by decide+kernel
def Qno:Memo:=
 ⟨98,#[.agg #[.slice (some ⟨552,0,none⟩) 2 12,inN 200,inN 2,inN 1,inN 0,inN 0,inN 0],.agg #[inN 1000,inN 500,inN 0,inN 0],inN 0,.func (.func 76) #[] #[],.func (.func 77) #[] #[]],[(552,cB0)],1112,.agg #[inN 1030,inN 470,inN 0,inN 0],[],1153⟩
theorem Qqm:Qa7 Qno (Qno.run YP QaI QaK 100000)=true:=by decide+kernel
def Qma:Memo:=
 ⟨98,#[.agg #[.slice (some ⟨552,0,none⟩) 2 12,inN 200,inN 2,inN 1,inN 0,inN 0,inN 0],.agg #[inN 1030,inN 470,inN 0,inN 0],inN 1,.func (.func 76) #[] #[],.func (.func 77) #[] #[]],[(552,cB0)],1156,.agg #[inN 813,inN 440,inN 0,inN 0],[],1197⟩
theorem Qqa:Qa7 Qma (Qma.run YP QaI QaK 100000)=true:=by decide+kernel
def QnR:Memo:=
 ⟨88,#[.slice (some ⟨552,0,none⟩) 2 12,.agg #[inN 813,inN 440,inN 0,inN 0]],[(552,cB0)],1197,.tuple #[.agg #[inN 0,inN 87],.bool true],[],1201⟩
theorem Qqg:Qa7 QnR (QnR.drun YP QaI QaK 100000)=true:=by decide+kernel
def QmN:Memo:=
 ⟨98,#[.agg #[.slice (some ⟨552,0,none⟩) 2 12,inN 200,inN 2,inN 1,inN 1,inN 0,inN 0],.agg #[inN 1030,inN 470,inN 0,inN 0],inN 1,.func (.func 76) #[] #[],.func (.func 77) #[] #[]],[(552,cB0)],1228,.agg #[inN 1063,inN 440,inN 0,inN 0],[],1269⟩
theorem QpY:Qa7 QmN (QmN.run YP QaI QaK 100000)=true:=by decide+kernel
def Qnz:Memo:=
 ⟨88,#[.slice (some ⟨552,0,none⟩) 2 12,.agg #[inN 1063,inN 440,inN 0,inN 0]],[(552,cB0)],1269,.tuple #[.agg #[inN 1,inN 10],.bool true],[],1274⟩
theorem Qsd:Qa7 Qnz (Qnz.drun YP QaI QaK 100000)=true:=by decide+kernel
def Qmy:Memo:=
 ⟨98,#[.agg #[.slice (some ⟨552,0,none⟩) 2 12,inN 200,inN 2,inN 1,inN 2,inN 0,inN 0],.agg #[inN 1030,inN 470,inN 0,inN 0],inN 1,.func (.func 76) #[] #[],.func (.func 77) #[] #[]],[(552,cB0)],1301,.agg #[inN 813,inN 620,inN 0,inN 0],[],1342⟩
theorem QrU:Qa7 Qmy (Qmy.run YP QaI QaK 100000)=true:=by decide+kernel
def Qoe:Memo:=
 ⟨88,#[.slice (some ⟨552,0,none⟩) 2 12,.agg #[inN 813,inN 620,inN 0,inN 0]],[(552,cB0)],1342,.tuple #[.agg #[inN 0,inN 87],.bool true],[],1346⟩
theorem Qrj:Qa7 Qoe (Qoe.drun YP QaI QaK 100000)=true:=by decide+kernel
def Qoc:Memo:=
 ⟨98,#[.agg #[.slice (some ⟨552,0,none⟩) 2 12,inN 200,inN 2,inN 1,inN 3,inN 0,inN 0],.agg #[inN 1030,inN 470,inN 0,inN 0],inN 1,.func (.func 76) #[] #[],.func (.func 77) #[] #[]],[(552,cB0)],1373,.agg #[inN 1063,inN 620,inN 0,inN 0],[],1414⟩
theorem QqX:Qa7 Qoc (Qoc.run YP QaI QaK 100000)=true:=by decide+kernel
def QnM:Memo:=
 ⟨88,#[.slice (some ⟨552,0,none⟩) 2 12,.agg #[inN 1063,inN 620,inN 0,inN 0]],[(552,cB0)],1414,.tuple #[.agg #[inN 0,inN 0],.bool false],[],1419⟩
theorem Qrc:Qa7 QnM (QnM.drun YP QaI QaK 100000)=true:=by decide+kernel
def Qop:Memo:=
 ⟨98,#[.agg #[.slice (some ⟨552,0,none⟩) 2 12,inN 200,inN 2,inN 2,inN 0,inN 0,inN 0],.agg #[inN 1000,inN 500,inN 0,inN 0],inN 0,.func (.func 76) #[] #[],.func (.func 77) #[] #[]],[(552,cB0)],1486,.agg #[inN 780,inN 650,inN 0,inN 0],[],1527⟩
theorem Qqb:Qa7 Qop (Qop.run YP QaI QaK 100000)=true:=by decide+kernel
def Qm5:Memo:=
 ⟨98,#[.agg #[.slice (some ⟨552,0,none⟩) 2 12,inN 200,inN 2,inN 2,inN 0,inN 0,inN 0],.agg #[inN 780,inN 650,inN 0,inN 0],inN 1,.func (.func 76) #[] #[],.func (.func 77) #[] #[]],[(552,cB0)],1530,.agg #[inN 543,inN 608,inN 0,inN 0],[],1571⟩
theorem Qqz:Qa7 Qm5 (Qm5.run YP QaI QaK 100000)=true:=by decide+kernel
def Qn1:Memo:=
 ⟨88,#[.slice (some ⟨552,0,none⟩) 2 12,.agg #[inN 543,inN 608,inN 0,inN 0]],[(552,cB0)],1571,.tuple #[.agg #[inN 0,inN 357],.bool true],[],1575⟩
theorem QpV:Qa7 Qn1 (Qn1.drun YP QaI QaK 100000)=true:=by decide+kernel
def QnY:Memo:=
 ⟨98,#[.agg #[.slice (some ⟨552,0,none⟩) 2 12,inN 200,inN 2,inN 2,inN 1,inN 0,inN 0],.agg #[inN 780,inN 650,inN 0,inN 0],inN 1,.func (.func 76) #[] #[],.func (.func 77) #[] #[]],[(552,cB0)],1622,.agg #[inN 793,inN 608,inN 0,inN 0],[],1663⟩
theorem Qrm:Qa7 QnY (QnY.run YP QaI QaK 100000)=true:=by decide+kernel
end Go.Proofs.Ytncjjangllkokaa

namespace Go.Proofs.Ytncjjangllkokaa
open Go Go.CE Go.RowKit
def Qn7:Memo:=
 ⟨88,#[.slice (some ⟨552,0,none⟩) 2 12,.agg #[inN 793,inN 608,inN 0,inN 0]],[(552,cB0)],1663,.tuple #[.agg #[inN 0,inN 107],.bool true],[],1667⟩
theorem QqL:Qa7 Qn7 (Qn7.drun YP QaI QaK 100000)=true:=by decide+kernel
def Qok:Memo:=
 ⟨98,#[.agg #[.slice (some ⟨552,0,none⟩) 2 12,inN 200,inN 2,inN 2,inN 2,inN 0,inN 0],.agg #[inN 780,inN 650,inN 0,inN 0],inN 1,.func (.func 76) #[] #[],.func (.func 77) #[] #[]],[(552,cB0)],1714,.agg #[inN 543,inN 788,inN 0,inN 0],[],1755⟩
theorem QrB:Qa7 Qok (Qok.run YP QaI QaK 100000)=true:=by decide+kernel
def QmC:Memo:=
 ⟨88,#[.slice (some ⟨552,0,none⟩) 2 12,.agg #[inN 543,inN 788,inN 0,inN 0]],[(552,cB0)],1755,.tuple #[.agg #[inN 0,inN 357],.bool true],[],1759⟩
theorem QqF:Qa7 QmC (QmC.drun YP QaI QaK 100000)=true:=by decide+kernel
def Qnu:Memo:=
 ⟨98,#[.agg #[.slice (some ⟨552,0,none⟩) 2 12,inN 200,inN 2,inN 2,inN 3,inN 0,inN 0],.agg #[inN 780,inN 650,inN 0,inN 0],inN 1,.func (.func 76) #[] #[],.func (.func 77) #[] #[]],[(552,cB0)],1806,.agg #[inN 793,inN 788,inN 0,inN 0],[],1847⟩
theorem QrN:Qa7 Qnu (Qnu.run YP QaI QaK 100000)=true:=by decide+kernel
def Qmu:Memo:=
 ⟨88,#[.slice (some ⟨552,0,none⟩) 2 12,.agg #[inN 793,inN 788,inN 0,inN 0]],[(552,cB0)],1847,.tuple #[.agg #[inN 0,inN 107],.bool true],[],1851⟩
theorem QrC:Qa7 Qmu (Qmu.drun YP QaI QaK 100000)=true:=by decide+kernel
def Qmj:Memo:=
 ⟨98,#[.agg #[.slice (some ⟨552,0,none⟩) 2 12,inN 200,inN 2,inN 3,inN 0,inN 0,inN 0],.agg #[inN 1030,inN 650,inN 0,inN 0],inN 1,.func (.func 76) #[] #[],.func (.func 77) #[] #[]],[(552,cB0)],1898,.agg #[inN 813,inN 638,inN 0,inN 0],[],1939⟩
theorem Qr7:Qa7 Qmj (Qmj.run YP QaI QaK 100000)=true:=by decide+kernel
def QnK:Memo:=
 ⟨88,#[.slice (some ⟨552,0,none⟩) 2 12,.agg #[inN 813,inN 638,inN 0,inN 0]],[(552,cB0)],1939,.tuple #[.agg #[inN 0,inN 87],.bool true],[],1943⟩
theorem QqS:Qa7 QnK (QnK.drun YP QaI QaK 100000)=true:=by decide+kernel
def Qof:Memo:=
 ⟨98,#[.agg #[.slice (some ⟨552,0,none⟩) 2 12,inN 200,inN 2,inN 3,inN 2,inN 0,inN 0],.agg #[inN 1030,inN 650,inN 0,inN 0],inN 1,.func (.func 76) #[] #[],.func (.func 77) #[] #[]],[(552,cB0)],2014,.agg #[inN 813,inN 818,inN 0,inN 0],[],2055⟩
theorem Qqk:Qa7 Qof (Qof.run YP QaI QaK 100000)=true:=by decide+kernel
def QnQ:Memo:=
 ⟨88,#[.slice (some ⟨552,0,none⟩) 2 12,.agg #[inN 813,inN 818,inN 0,inN 0]],[(552,cB0)],2055,.tuple #[.agg #[inN 0,inN 87],.bool true],[],2059⟩
theorem QqT:Qa7 QnQ (QnQ.drun YP QaI QaK 100000)=true:=by decide+kernel
def Qnj:Memo:=
 ⟨88,#[.slice (some ⟨2134,0,none⟩) 2 12,.agg #[inN 1063,inN 440,inN 0,inN 0]],[(2134,cB0)],2266,.tuple #[.agg #[inN 1,inN 10],.bool true],[],2271⟩
theorem Qsh:Qa7 Qnj (Qnj.drun YP QaI QaK 100000)=true:=by decide+kernel
def QnU:Memo:=
 ⟨88,#[.slice (some ⟨2274,0,none⟩) 2 12,.agg #[inN 1063,inN 440,inN 0,inN 0]],[(2274,cB0)],2406,.tuple #[.agg #[inN 1,inN 10],.bool true],[],2411⟩
theorem QqR:Qa7 QnU (QnU.drun YP QaI QaK 100000)=true:=by decide+kernel
def QmG:Memo:=
 ⟨88,#[.slice (some ⟨2414,0,none⟩) 2 12,.agg #[inN 1063,inN 440,inN 0,inN 0]],[(2414,cB0)],2546,.tuple #[.agg #[inN 1,inN 10],.bool true],[],2551⟩
theorem QrP:Qa7 QmG (QmG.drun YP QaI QaK 100000)=true:=by decide+kernel
def Qn0:Memo:=
 ⟨88,#[.slice (some ⟨2554,0,none⟩) 2 12,.agg #[inN 1063,inN 440,inN 0,inN 0]],[(2554,cB0)],2686,.tuple #[.agg #[inN 1,inN 10],.bool true],[],2691⟩
theorem Qsg:Qa7 Qn0 (Qn0.drun YP QaI QaK 100000)=true:=by decide+kernel
def Qnf:Memo:=
 ⟨88,#[.slice (some ⟨2694,0,none⟩) 2 12,.agg #[inN 1063,inN 440,inN 0,inN 0]],[(2694,cB0)],2826,.tuple #[.agg #[inN 1,inN 10],.bool true],[],2831⟩
theorem QqY:Qa7 Qnf (Qnf.drun YP QaI QaK 100000)=true:=by decide+kernel
end Go.Proofs.Ytncjjangllkokaa

namespace Go.Proofs.Ytncjjangllkokaa
open Go Go.CE Go.RowKit
noncomputable def QkF:Orc:=Qbc [Qqj,QqU,Qs1,Qsf,Qqv,QrT,Qqf,Qr1,Qsc,QrA,Qmg,Qob,Qno,Qma,QnR,QmN,Qnz,Qmy,Qoe,Qoc,QnM,Qop,Qm5,Qn1,QnY,Qn7,Qok,QmC,Qnu,Qmu,Qmj,QnK,Qof,QnQ]
theorem Ql2 (B:Lo):QdD YP B QkF:=Qa1 Qap Qab (Qaz _ _) QtP (Qa1 Qap Qab (Qaz _ _) QtX (Qa5 Qap Qab (Qaz _ _) Qvk (Qa1 Qap Qab (Qaz _ _) QuY (Qa1 Qap Qab (Qaz _ _) QuH (Qa5 Qap Qab (Qaz _ _) QuA (Qa1 Qap Qab (Qaz _ _) QtM (Qa5 Qap Qab (Qaz _ _) Qve (Qa1 Qap Qab (Qaz _ _) Qvf (Qa5 Qap Qab (Qaz _ _) Qu4 (Qa1 Qap Qab (Qaz _ _) Qq8 (Qa5 Qap Qab (Qaz _ _) QqA (Qa1 Qap Qab (Qaz _ _) Qqm (Qa1 Qap Qab (Qaz _ _) Qqa (Qa5 Qap Qab (Qaz _ _) Qqg (Qa1 Qap Qab (Qaz _ _) QpY (Qa5 Qap Qab (Qaz _ _) Qsd (Qa1 Qap Qab (Qaz _ _) QrU (Qa5 Qap Qab (Qaz _ _) Qrj (Qa1 Qap Qab (Qaz _ _) QqX (Qa5 Qap Qab (Qaz _ _) Qrc (Qa1 Qap Qab (Qaz _ _) Qqb (Qa1 Qap Qab (Qaz _ _) Qqz (Qa5 Qap Qab (Qaz _ _) QpV (Qa1 Qap Qab (Qaz _ _) Qrm (Qa5 Qap Qab (Qaz _ _) QqL (Qa1 Qap Qab (Qaz _ _) QrB (Qa5 Qap Qab (Qaz _ _) QqF (Qa1 Qap Qab (Qaz _ _) QrN (Qa5 Qap Qab (Qaz _ _) QrC (Qa1 Qap Qab (Qaz _ _) Qr7 (Qa5 Qap Qab (Qaz _ _) QqS (Qa1 Qap Qab (Qaz _ _) Qqk (Qa5 Qap Qab (Qaz _ _) QqT (Qbf _ _))))))))))))))))))))))))))))))))))
def Qry:Memo:=
 ⟨37,#[.agg #[.slice (some ⟨552,0,none⟩) 2 12,inN 200,inN 2]],[(552,cB0)],553,.tuple #[.slice (some ⟨2086,0,none⟩) 2 1,inN 26,inN 0],[(2086,.cells #[inN 1,inN 3] 3 (0,0))],2097⟩
theorem QuB:Qa7 Qry (Qry.run YP QaI QkF 100000)=true:=by decide+kernel
end Go.Proofs.Ytncjjangllkokaa

namespace Go.Proofs.Ytncjjangllkokaa
open Go Go.CE Go.RowKit
def QnP:Memo:=
 ⟨88,#[.slice (some ⟨2834,0,none⟩) 2 12,.agg #[inN 1063,inN 440,inN 0,inN 0]],[(2834,cB0)],2966,.tuple #[.agg #[inN 1,inN 10],.bool true],[],2971⟩
theorem Qq7:Qa7 QnP (QnP.drun YP QaI QaK 100000)=true:=by decide+kernel
def QnA:Memo:=
 ⟨88,#[.slice (some ⟨2974,0,none⟩) 2 12,.agg #[inN 1063,inN 440,inN 0,inN 0]],[(2974,cB0)],3106,.tuple #[.agg #[inN 1,inN 10],.bool true],[],3111⟩
theorem QqC:Qa7 QnA (QnA.drun YP QaI QaK 100000)=true:=by decide+kernel
def Qmv:Memo:=
 ⟨88,#[.slice (some ⟨3114,0,none⟩) 2 12,.agg #[inN 1063,inN 440,inN 0,inN 0]],[(3114,cB0)],3246,.tuple #[.agg #[inN 1,inN 10],.bool true],[],3251⟩
theorem Qru:Qa7 Qmv (Qmv.drun YP QaI QaK 100000)=true:=by decide+kernel
def Qmb:Memo:=
 ⟨88,#[.slice (some ⟨3254,0,none⟩) 2 12,.agg #[inN 1063,inN 440,inN 0,inN 0]],[(3254,cB0)],3386,.tuple #[.agg #[inN 1,inN 10],.bool true],[],3391⟩
theorem Qqh:Qa7 Qmb (Qmb.drun YP QaI QaK 100000)=true:=by decide+kernel
def Qmh:Memo:=
 ⟨88,#[.slice (some ⟨3394,0,none⟩) 2 12,.agg #[inN 1063,inN 440,inN 0,inN 0]],[(3394,cB0)],3526,.tuple #[.agg #[inN 1,inN 10],.bool true],[],3531⟩
theorem Qq2:Qa7 Qmh (Qmh.drun YP QaI QaK 100000)=true:=by decide+kernel
def Qm1:Memo:=
 ⟨88,#[.slice (some ⟨3534,0,none⟩) 2 12,.agg #[inN 1063,inN 440,inN 0,inN 0]],[(3534,cB0)],3666,.tuple #[.agg #[inN 1,inN 10],.bool true],[],3671⟩
theorem QrD:Qa7 Qm1 (Qm1.drun YP QaI QaK 100000)=true:=by decide+kernel
def QmU:Memo:=
 ⟨88,#[.slice (some ⟨3674,0,none⟩) 2 12,.agg #[inN 1063,inN 440,inN 0,inN 0]],[(3674,cB0)],3806,.tuple #[.agg #[inN 1,inN 10],.bool true],[],3811⟩
theorem QqJ:Qa7 QmU (QmU.drun YP QaI QaK 100000)=true:=by decide+kernel
def QnC:Memo:=
 ⟨88,#[.slice (some ⟨3814,0,none⟩) 2 12,.agg #[inN 1063,inN 603,inN 0,inN 0]],[(3814,cB2)],3946,.tuple #[.agg #[inN 0,inN 0],.bool false],[],3951⟩
theorem Qqx:Qa7 QnC (QnC.drun YP QaI QaK 100000)=true:=by decide+kernel
def QnE:Memo:=
 ⟨88,#[.slice (some ⟨3954,0,none⟩) 2 12,.agg #[inN 1063,inN 475,inN 0,inN 0]],[(3954,cB3)],4086,.tuple #[.agg #[inN 0,inN 0],.bool false],[],4091⟩
theorem Qro:Qa7 QnE (QnE.drun YP QaI QaK 100000)=true:=by decide+kernel
def Qmi:Memo:=
 ⟨88,#[.slice (some ⟨4094,0,none⟩) 2 12,.agg #[inN 1063,inN 440,inN 0,inN 0]],[(4094,cB0)],4226,.tuple #[.agg #[inN 1,inN 10],.bool true],[],4231⟩
theorem Qqe:Qa7 Qmi (Qmi.drun YP QaI QaK 100000)=true:=by decide+kernel
def QnI:Memo:=
 ⟨88,#[.slice (some ⟨4234,0,none⟩) 2 12,.agg #[inN 1063,inN 442,inN 0,inN 0]],[(4234,cB4)],4366,.tuple #[.agg #[inN 1,inN 8],.bool true],[],4371⟩
theorem Qri:Qa7 QnI (QnI.drun YP QaI QaK 100000)=true:=by decide+kernel
def Qmw:Memo:=
 ⟨88,#[.slice (some ⟨4374,0,none⟩) 2 12,.agg #[inN 1063,inN 458,inN 0,inN 0]],[(4374,cB5)],4506,.tuple #[.agg #[inN 0,inN 0],.bool false],[],4511⟩
theorem QqN:Qa7 Qmw (Qmw.drun YP QaI QaK 100000)=true:=by decide+kernel
def Qn4:Memo:=
 ⟨88,#[.slice (some ⟨4514,0,none⟩) 2 12,.agg #[inN 1063,inN 450,inN 0,inN 0]],[(4514,cB6)],4646,.tuple #[.agg #[inN 0,inN 0],.bool false],[],4651⟩
theorem Qsj:Qa7 Qn4 (Qn4.drun YP QaI QaK 100000)=true:=by decide+kernel
def Qm3:Memo:=
 ⟨88,#[.slice (some ⟨4654,0,none⟩) 2 12,.agg #[inN 1063,inN 446,inN 0,inN 0]],[(4654,cB7)],4786,.tuple #[.agg #[inN 1,inN 4],.bool true],[],4791⟩
theorem Qra:Qa7 Qm3 (Qm3.drun YP QaI QaK 100000)=true:=by decide+kernel
end Go.Proofs.Ytncjjangllkokaa

namespace Go.Proofs.Ytncjjangllkokaa
open Go Go.CE Go.RowKit
noncomputable section
def Qi4:Orc:=Qbc [Qnj]
theorem Qjx (B:Lo):QdD YP B Qi4:=Qa5 Qap Qab (Qaz _ _) Qsh (Qbf _ _)
def Qnl:Memo:=
 ⟨93,#[inN 500000,.pointer (some ⟨2130,0,none⟩),.pointer (some ⟨2131,0,none⟩)],[(2104,cB0),(2131,.cells #[inN 1] 3 (0,0)),(2130,cB1)],2132,.bool true,[],2272⟩
theorem QrJ:Qa7 Qnl (Qnl.run YP QaI Qi4 100000)=true:=by decide+kernel
def Qis:Orc:=Qbc [QnU]
theorem QjT (B:Lo):QdD YP B Qis:=Qa5 Qap Qab (Qaz _ _) QqR (Qbf _ _)
def QnL:Memo:=
 ⟨93,#[inN 250000,.pointer (some ⟨2130,0,none⟩),.pointer (some ⟨2131,0,none⟩)],[(2104,cB0),(2131,.cells #[inN 1] 3 (0,0)),(2130,cB1)],2272,.bool true,[],2412⟩
theorem Qr6:Qa7 QnL (QnL.run YP QaI Qis 100000)=true:=by decide+kernel
def Qiq:Orc:=Qbc [QmG]
theorem Qlb (B:Lo):QdD YP B Qiq:=Qa5 Qap Qab (Qaz _ _) QrP (Qbf _ _)
def Qnh:Memo:=
 ⟨93,#[inN 125000,.pointer (some ⟨2130,0,none⟩),.pointer (some ⟨2131,0,none⟩)],[(2104,cB0),(2131,.cells #[inN 1] 3 (0,0)),(2130,cB1)],2412,.bool true,[],2552⟩
theorem Qrg:Qa7 Qnh (Qnh.run YP QaI Qiq 100000)=true:=by decide+kernel
def Qij:Orc:=Qbc [Qn0]
theorem Qlm (B:Lo):QdD YP B Qij:=Qa5 Qap Qab (Qaz _ _) Qsg (Qbf _ _)
def Qon:Memo:=
 ⟨93,#[inN 62500,.pointer (some ⟨2130,0,none⟩),.pointer (some ⟨2131,0,none⟩)],[(2104,cB0),(2131,.cells #[inN 1] 3 (0,0)),(2130,cB1)],2552,.bool true,[],2692⟩
theorem QrV:Qa7 Qon (Qon.run YP QaI Qij 100000)=true:=by decide+kernel
def Qit:Orc:=Qbc [Qnf]
theorem Qkc (B:Lo):QdD YP B Qit:=Qa5 Qap Qab (Qaz _ _) QqY (Qbf _ _)
def QmP:Memo:=
 ⟨93,#[inN 31250,.pointer (some ⟨2130,0,none⟩),.pointer (some ⟨2131,0,none⟩)],[(2104,cB0),(2131,.cells #[inN 1] 3 (0,0)),(2130,cB1)],2692,.bool true,[],2832⟩
theorem Qsy:Qa7 QmP (QmP.run YP QaI Qit 100000)=true:=by decide+kernel
def QhW:Orc:=Qbc [QnP]
theorem Qjo (B:Lo):QdD YP B QhW:=Qa5 Qap Qab (Qaz _ _) Qq7 (Qbf _ _)
def QmA:Memo:=
 ⟨93,#[inN 15625,.pointer (some ⟨2130,0,none⟩),.pointer (some ⟨2131,0,none⟩)],[(2104,cB0),(2131,.cells #[inN 1] 3 (0,0)),(2130,cB1)],2832,.bool true,[],2972⟩
theorem Qqs:Qa7 QmA (QmA.run YP QaI QhW 100000)=true:=by decide+kernel
def Qiy:Orc:=Qbc [QnA]
theorem QkI (B:Lo):QdD YP B Qiy:=Qa5 Qap Qab (Qaz _ _) QqC (Qbf _ _)
def Qoq:Memo:=
 ⟨93,#[inN 7812,.pointer (some ⟨2130,0,none⟩),.pointer (some ⟨2131,0,none⟩)],[(2104,cB0),(2131,.cells #[inN 1] 3 (0,0)),(2130,cB1)],2972,.bool true,[],3112⟩
theorem QqB:Qa7 Qoq (Qoq.run YP QaI Qiy 100000)=true:=by decide+kernel
def Qif:Orc:=Qbc [Qmv]
theorem Qk0 (B:Lo):QdD YP B Qif:=Qa5 Qap Qab (Qaz _ _) Qru (Qbf _ _)
def Qna:Memo:=
 ⟨93,#[inN 3906,.pointer (some ⟨2130,0,none⟩),.pointer (some ⟨2131,0,none⟩)],[(2104,cB0),(2131,.cells #[inN 1] 3 (0,0)),(2130,cB1)],3112,.bool true,[],3252⟩
theorem Qs3:Qa7 Qna (Qna.run YP QaI Qif 100000)=true:=by decide+kernel
def Qio:Orc:=Qbc [Qmb]
theorem Qkh (B:Lo):QdD YP B Qio:=Qa5 Qap Qab (Qaz _ _) Qqh (Qbf _ _)
def Qn3:Memo:=
 ⟨93,#[inN 1953,.pointer (some ⟨2130,0,none⟩),.pointer (some ⟨2131,0,none⟩)],[(2104,cB0),(2131,.cells #[inN 1] 3 (0,0)),(2130,cB1)],3252,.bool true,[],3392⟩
theorem Qq4:Qa7 Qn3 (Qn3.run YP QaI Qio 100000)=true:=by decide+kernel
def Qiv:Orc:=Qbc [Qmh]
theorem Qki (B:Lo):QdD YP B Qiv:=Qa5 Qap Qab (Qaz _ _) Qq2 (Qbf _ _)
def Qnq:Memo:=
 ⟨93,#[inN 976,.pointer (some ⟨2130,0,none⟩),.pointer (some ⟨2131,0,none⟩)],[(2104,cB0),(2131,.cells #[inN 1] 3 (0,0)),(2130,cB1)],3392,.bool true,[],3532⟩
theorem QqM:Qa7 Qnq (Qnq.run YP QaI Qiv 100000)=true:=by decide+kernel
def Qi5:Orc:=Qbc [Qm1]
theorem Qli (B:Lo):QdD YP B Qi5:=Qa5 Qap Qab (Qaz _ _) QrD (Qbf _ _)
def Qos:Memo:=
 ⟨93,#[inN 488,.pointer (some ⟨2130,0,none⟩),.pointer (some ⟨2131,0,none⟩)],[(2104,cB0),(2131,.cells #[inN 1] 3 (0,0)),(2130,cB1)],3532,.bool true,[],3672⟩
theorem Qqp:Qa7 Qos (Qos.run YP QaI Qi5 100000)=true:=by decide+kernel
def Qi0:Orc:=Qbc [QmU]
theorem QjO (B:Lo):QdD YP B Qi0:=Qa5 Qap Qab (Qaz _ _) QqJ (Qbf _ _)
def Qny:Memo:=
 ⟨93,#[inN 244,.pointer (some ⟨2130,0,none⟩),.pointer (some ⟨2131,0,none⟩)],[(2104,cB0),(2131,.cells #[inN 1] 3 (0,0)),(2130,cB1)],3672,.bool true,[],3812⟩
theorem QqH:Qa7 Qny (Qny.run YP QaI Qi0 100000)=true:=by decide+kernel
def Qi6:Orc:=Qbc [QnC]
theorem Qkr (B:Lo):QdD YP B Qi6:=Qa5 Qap Qab (Qaz _ _) Qqx (Qbf _ _)
def QmM:Memo:=
 ⟨93,#[inN 122,.pointer (some ⟨2130,0,none⟩),.pointer (some ⟨2131,0,none⟩)],[(2104,cB0),(2131,.cells #[inN 1] 3 (0,0)),(2130,cB1)],3812,.bool false,[],3952⟩
theorem QrQ:Qa7 QmM (QmM.run YP QaI Qi6 100000)=true:=by decide+kernel
def Qip:Orc:=Qbc [QnE]
theorem Qlc (B:Lo):QdD YP B Qip:=Qa5 Qap Qab (Qaz _ _) Qro (Qbf _ _)
def Qnw:Memo:=
 ⟨93,#[inN 183,.pointer (some ⟨2130,0,none⟩),.pointer (some ⟨2131,0,none⟩)],[(2104,cB0),(2131,.cells #[inN 1] 3 (0,0)),(2130,cB1)],3952,.bool false,[],4092⟩
theorem Qrb:Qa7 Qnw (Qnw.run YP QaI Qip 100000)=true:=by decide+kernel
end
end Go.Proofs.Ytncjjangllkokaa

namespace Go.Proofs.Ytncjjangllkokaa
open Go Go.CE Go.RowKit
def Qoo:Memo:=
 ⟨88,#[.slice (some ⟨4794,0,none⟩) 2 12,.agg #[inN 1063,inN 448,inN 0,inN 0]],[(4794,cB8)],4926,.tuple #[.agg #[inN 1,inN 2],.bool true],[],4931⟩
theorem Qqr:Qa7 Qoo (Qoo.drun YP QaI QaK 100000)=true:=by decide+kernel
end Go.Proofs.Ytncjjangllkokaa

namespace Go.Proofs.Ytncjjangllkokaa
open Go Go.CE Go.RowKit
noncomputable section
def Qiu:Orc:=Qbc [Qmi]
theorem Qkg (B:Lo):QdD YP B Qiu:=Qa5 Qap Qab (Qaz _ _) Qqe (Qbf _ _)
def QnF:Memo:=
 ⟨93,#[inN 214,.pointer (some ⟨2130,0,none⟩),.pointer (some ⟨2131,0,none⟩)],[(2104,cB0),(2131,.cells #[inN 1] 3 (0,0)),(2130,cB1)],4092,.bool true,[],4232⟩
theorem Qqc:Qa7 QnF (QnF.run YP QaI Qiu 100000)=true:=by decide+kernel
def Qi8:Orc:=Qbc [QnI]
theorem Qj3 (B:Lo):QdD YP B Qi8:=Qa5 Qap Qab (Qaz _ _) Qri (Qbf _ _)
def QnX:Memo:=
 ⟨93,#[inN 199,.pointer (some ⟨2130,0,none⟩),.pointer (some ⟨2131,0,none⟩)],[(2104,cB0),(2131,.cells #[inN 1] 3 (0,0)),(2130,cB1)],4232,.bool true,[],4372⟩
theorem QpZ:Qa7 QnX (QnX.run YP QaI Qi8 100000)=true:=by decide+kernel
def Qic:Orc:=Qbc [Qmw]
theorem Qjq (B:Lo):QdD YP B Qic:=Qa5 Qap Qab (Qaz _ _) QqN (Qbf _ _)
def Qnm:Memo:=
 ⟨93,#[inN 191,.pointer (some ⟨2130,0,none⟩),.pointer (some ⟨2131,0,none⟩)],[(2104,cB0),(2131,.cells #[inN 1] 3 (0,0)),(2130,cB1)],4372,.bool false,[],4512⟩
theorem Qsp:Qa7 Qnm (Qnm.run YP QaI Qic 100000)=true:=by decide+kernel
def Qib:Orc:=Qbc [Qn4]
theorem Qkq (B:Lo):QdD YP B Qib:=Qa5 Qap Qab (Qaz _ _) Qsj (Qbf _ _)
def QmL:Memo:=
 ⟨93,#[inN 195,.pointer (some ⟨2130,0,none⟩),.pointer (some ⟨2131,0,none⟩)],[(2104,cB0),(2131,.cells #[inN 1] 3 (0,0)),(2130,cB1)],4512,.bool false,[],4652⟩
theorem QqG:Qa7 QmL (QmL.run YP QaI Qib 100000)=true:=by decide+kernel
def Qie:Orc:=Qbc [Qm3]
theorem Qku (B:Lo):QdD YP B Qie:=Qa5 Qap Qab (Qaz _ _) Qra (Qbf _ _)
def QmI:Memo:=
 ⟨93,#[inN 197,.pointer (some ⟨2130,0,none⟩),.pointer (some ⟨2131,0,none⟩)],[(2104,cB0),(2131,.cells #[inN 1] 3 (0,0)),(2130,cB1)],4652,.bool true,[],4792⟩
theorem QrK:Qa7 QmI (QmI.run YP QaI Qie 100000)=true:=by decide+kernel
def Qi7:Orc:=Qbc [Qoo]
theorem Qlg (B:Lo):QdD YP B Qi7:=Qa5 Qap Qab (Qaz _ _) Qqr (Qbf _ _)
def QnJ:Memo:=
 ⟨93,#[inN 196,.pointer (some ⟨2130,0,none⟩),.pointer (some ⟨2131,0,none⟩)],[(2104,cB0),(2131,.cells #[inN 1] 3 (0,0)),(2130,cB1)],4792,.bool true,[],4932⟩
theorem QqZ:Qa7 QnJ (QnJ.run YP QaI Qi7 100000)=true:=by decide+kernel
end
end Go.Proofs.Ytncjjangllkokaa

namespace Go.Proofs.Ytncjjangllkokaa
open Go Go.CE Go.RowKit
noncomputable def QhV:Orc:=Qbc [Qnl,QnL,Qnh,Qon,QmP,QmA,Qoq,Qna,Qn3,Qnq,Qos,Qny,QmM,Qnw,QnF,QnX,Qnm,QmL,QmI,QnJ]
theorem QjB (B:Lo):QdD YP B QhV:=Qa1 Qap Qab (Qjx _) QrJ (Qa1 Qap Qab (QjT _) Qr6 (Qa1 Qap Qab (Qlb _) Qrg (Qa1 Qap Qab (Qlm _) QrV (Qa1 Qap Qab (Qkc _) Qsy (Qa1 Qap Qab (Qjo _) Qqs (Qa1 Qap Qab (QkI _) QqB (Qa1 Qap Qab (Qk0 _) Qs3 (Qa1 Qap Qab (Qkh _) Qq4 (Qa1 Qap Qab (Qki _) QqM (Qa1 Qap Qab (Qli _) Qqp (Qa1 Qap Qab (QjO _) QqH (Qa1 Qap Qab (Qkr _) QrQ (Qa1 Qap Qab (Qlc _) Qrb (Qa1 Qap Qab (Qkg _) Qqc (Qa1 Qap Qab (Qj3 _) QpZ (Qa1 Qap Qab (Qjq _) Qsp (Qa1 Qap Qab (Qkq _) QqG (Qa1 Qap Qab (Qku _) QrK (Qa1 Qap Qab (Qlg _) QqZ (Qbf _ _))))))))))))))))))))
def Qog:Memo:=
 ⟨43,#[.agg #[.slice (some ⟨2104,0,none⟩) 2 12,inN 200,inN 2],.slice (some ⟨2105,0,none⟩) 2 1,inN 1],[(2105,.cells #[inN 1,inN 1] 3 (0,0)),(2104,cB0)],2106,.tuple #[inN 195,inN 0],[],4932⟩
theorem Qrz:Qa7 Qog (Qog.run YP QaI QhV 100000)=true:=by decide+kernel
end Go.Proofs.Ytncjjangllkokaa

namespace Go.Proofs.Ytncjjangllkokaa
open Go Go.CE Go.RowKit
noncomputable def Q0S:Orc:=Qbc [Qwz,Qr3,Qr2,Qry,Qog]
theorem Qwd (B:Lo):QdD YP B Q0S:=Qa1 Qap Qab (Qaz _ _) QvD (Qa1 Qap Qab (Qaz _ _) Qvj (Qa1 Qap Qab (Qlw _) QuP (Qa1 Qap Qab (Ql2 _) QuB (Qa1 Qap Qab (QjB _) Qrz (Qbf _ _)))))
theorem QxZ:QzG (QqK YP QaI Q0S 100000 16 #[] (QfX 0 []) ([]:List (Array Value×TypeId)).length) (.bool true) []=true:=by decide+kernel
theorem Qul (w:World):Calls YP 16 #[] w fun e w'=> e=.returned (.bool true)/\Below w.heap.size w w':=by
 have hc:=Qwu Qap Qab (at':=[]) (args':=#[]) QxZ (w:=w) (I:=fun _=> True) (hI:=fun _ _ _ _=> trivial) (Qwd _) trivial rfl (fun i x a h=> by simp at h) ⟨rfl,fun i v v' h=> by simp at h⟩;intro cs;obtain ⟨e,w',fr,⟨v',n',H',μ',he,hp,hv,hb,hun,hbel⟩,h1,h2,h3⟩:=hc cs;exact ⟨e,w',fr,⟨by rw [he,QiB rfl hv],hbel⟩,h1,h2,h3⟩
theorem known:Qaw YP J0 16 #[] (.bool true):=fun fm w args' _ _ ha=> by
 have e:args'=#[]:=by exact Array.eq_empty_of_size_eq_zero ha.1.symm
 subst e;exact (Qul w).mono fun _ _ h=> ⟨_,h.1,h.2,.simple rfl⟩
end Go.Proofs.Ytncjjangllkokaa
