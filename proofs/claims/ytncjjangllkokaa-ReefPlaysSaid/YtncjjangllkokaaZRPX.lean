/- ReefPlays: whatever the input, it returns true, and each argument reads as it did. The row, from the walk. -/
import Derived.Test.YtncjjangllkokaaZRP17
import Derived.Test.YtncjjangllkokaaZRP10
import Derived.JoinedOf
import Derived.Test.YtncjjangllkokaaRows
set_option linter.all false
namespace Go.Proofs.Ytncjjangllkokaa
open Go Go.CE Go.RowKit
noncomputable section
set_option maxRecDepth 100000
theorem Qp3 {rf:Qaf} {plan:List Int} (hr:Qbm rf=true) (hp:QbN rf plan=true):∀j:Nat,0<=plan.getD j default/\plan.getD j default<=1000000:=fun j=> by
 have h:=QiP hr hp j;show 0<=plan.getD j 0/\plan.getD j 0<=1000000;omega
def sizedB (t:Qah):Bool:=(decide (t.starts.length<=8) && (decide (t.grows.length<=8) && decide (t.takes.length<=8))) && ((t.grows.all fun l=> decide (l.length<=8)) && t.takes.all fun l=> decide (l.length<=8))
def Qe2 (t:Qah) (i:Int):List Value:=[pA 2 0,.int .i64 i]
def Qcy (t:Qah) (i:Int):List Obj:=[Obj.cells #[Qaq 1 (slT t.starts.length (Qae Qav t.starts)),Qaq 1 (slT t.grows.length (Qae QaP t.grows)),Qaq 1 (slT t.takes.length (Qae QaP t.takes))] 42]
def Qew:List Item:=([.code [1,1,0,1,0,0],.inLoop [1,1,0,1,0,0],.inBlock 0,.code [1,1,1]]).map (it (QaB YP 25))
def Qv2 (B:Lo) (c0:CF) (t:Qah) (i:Int):Prop:=∃dJ:Nat->Value,(∀t,Qbi (dJ t))/\GoE YP B c0 H00 1 (Qa8 25 49 (([1,3]:List Nat).zip (Qe2 t i)) dJ Qew) (Qa6 (Qcy t i)) (2+(Qcy t i).length) []
def Qex (t:Qah) (i:Int):List Value:=[pA 2 0,.int .i64 i]
def Qc6 (t:Qah) (i:Int):List Obj:=[Obj.cells #[Qaq 1 (slT t.starts.length (Qae Qav t.starts)),Qaq 1 (slT t.grows.length (Qae QaP t.grows)),Qaq 1 (slT t.takes.length (Qae QaP t.takes))] 42]
def QeG:List Item:=([.code [1,1,1,0,1,0,0],.inLoop [1,1,1,0,1,0,0],.inBlock 2,.code [1,1,1,1]]).map (it (QaB YP 25))
def QwC (B:Lo) (c0:CF) (t:Qah) (i:Int):Prop:=∃dJ:Nat->Value,(∀t,Qbi (dJ t))/\GoE YP B c0 H00 1 (Qa8 25 49 (([1,4]:List Nat).zip (Qex t i)) dJ QeG) (Qa6 (Qc6 t i)) (2+(Qc6 t i).length) []
def Qk5 (B:Lo) (t:Qah) (i:Int) (dJ0:Nat->Value):List Prop:=[i=(↑i.toNat:Int)/\Int.toNat i < List.length t.grows/\Array.extract (Qae QaP t.grows) (Int.toNat i * TypeInfo.size Try.t25) (Int.toNat i * TypeInfo.size Try.t25+TypeInfo.size Try.t25)=#[slT (List.length (t.grows.getD i.toNat default)) (Qae Qav (t.grows.getD i.toNat default))],ltq i (↑t.grows.length:Int)=true]++([]:List Prop)
def QpF (t:Qah) (i:Int) (dJ0:Nat->Value):Qax:=[(4,hvT),(8,Qai.tidx i.toNat #[slT (List.length (t.grows.getD i.toNat default)) (Qae Qav (t.grows.getD i.toNat default))])]
theorem Qwi (B:Lo) (t:Qah) (i:Int) (dJ0:Nat->Value):Qbd (Qam YP (Qa3 YP) J0 B 14 1 (Qa8 25 49 (([1,3]:List Nat).zip (Qe2 t i)) dJ0 Qew) (Qa6 (Qcy t i)) (2+(Qcy t i).length)
 (QpF t i dJ0++[(11,hvT)]) 0 [] []) []=some (.bool false,
 [ltq 8 (↑(List.length (t.grows.getD i.toNat default)):Int)=true]++Qk5 B t i dJ0):=by kernel_rfl
theorem Qw0 (B:Lo) (t:Qah) (i:Int) (dJ0:Nat->Value):landM (Qam YP (Qa3 YP) J0 B 14 1 (Qa8 25 49 (([1,3]:List Nat).zip (Qe2 t i)) dJ0 Qew) (Qa6 (Qcy t i)) (2+(Qcy t i).length)
 (QpF t i dJ0++[(11,hvF),(13,hvI (i+1))]) 0 [] []) [1,3] [(2,KS.auto)] []=some ⟨25,49,Qew,[],.run,none,Qe2 t (i+1),Qcy t (i+1),
 [wq (i+1)=i+1,ltq 8 (↑(List.length (t.grows.getD i.toNat default)):Int)=false]++Qk5 B t i dJ0⟩:=by kernel_rfl
theorem QvZ (B:Lo) (t:Qah) (i:Int) (dJ0:Nat->Value):landM (Qam YP (Qa3 YP) J0 B 10 1 (Qa8 25 49 (([1,3]:List Nat).zip (Qe2 t i)) dJ0 Qew) (Qa6 (Qcy t i)) (2+(Qcy t i).length)
 [(4,hvF)] 0 [] []) [1,4] [(2,KS.auto)] []=some ⟨25,49,QeG,[],.run,none,Qex t (0),Qc6 t (0),
 [ltq i (↑t.grows.length:Int)=false]⟩:=by kernel_rfl
def QkH (B:Lo) (t:Qah) (i:Int) (dJ0:Nat->Value):List Prop:=[i=(↑i.toNat:Int)/\Int.toNat i < List.length t.takes/\Array.extract (Qae QaP t.takes) (Int.toNat i * TypeInfo.size Try.t25) (Int.toNat i * TypeInfo.size Try.t25+TypeInfo.size Try.t25)=#[slT (List.length (t.takes.getD i.toNat default)) (Qae Qav (t.takes.getD i.toNat default))],ltq i (↑t.takes.length:Int)=true]++([]:List Prop)
def Qo6 (t:Qah) (i:Int) (dJ0:Nat->Value):Qax:=[(4,hvT),(8,Qai.tidx i.toNat #[slT (List.length (t.takes.getD i.toNat default)) (Qae Qav (t.takes.getD i.toNat default))])]
theorem Qx6 (B:Lo) (t:Qah) (i:Int) (dJ0:Nat->Value):Qbd (Qam YP (Qa3 YP) J0 B 14 1 (Qa8 25 49 (([1,4]:List Nat).zip (Qex t i)) dJ0 QeG) (Qa6 (Qc6 t i)) (2+(Qc6 t i).length)
 (Qo6 t i dJ0++[(11,hvT)]) 0 [] []) []=some (.bool false,
 [ltq 8 (↑(List.length (t.takes.getD i.toNat default)):Int)=true]++QkH B t i dJ0):=by kernel_rfl
theorem Qvs (B:Lo) (t:Qah) (i:Int) (dJ0:Nat->Value):landM (Qam YP (Qa3 YP) J0 B 14 1 (Qa8 25 49 (([1,4]:List Nat).zip (Qex t i)) dJ0 QeG) (Qa6 (Qc6 t i)) (2+(Qc6 t i).length)
 (Qo6 t i dJ0++[(11,hvF),(13,hvI (i+1))]) 0 [] []) [1,4] [(2,KS.auto)] []=some ⟨25,49,QeG,[],.run,none,Qex t (i+1),Qc6 t (i+1),
 [wq (i+1)=i+1,ltq 8 (↑(List.length (t.takes.getD i.toNat default)):Int)=false]++QkH B t i dJ0⟩:=by kernel_rfl
theorem Qv4 (B:Lo) (t:Qah) (i:Int) (dJ0:Nat->Value):Qbd (Qam YP (Qa3 YP) J0 B 9 1 (Qa8 25 49 (([1,4]:List Nat).zip (Qex t i)) dJ0 QeG) (Qa6 (Qc6 t i)) (2+(Qc6 t i).length)
 [(4,hvF)] 0 [] []) []=some (.bool true,
 [ltq i (↑t.takes.length:Int)=false]):=by kernel_rfl
theorem Qw5 (B:Lo) (t:Qah):Qbd (Qam YP (Qa3 YP) J0 B 10 1 (Qaj YP 25 49 (([.agg #[slI t.starts,Qct t.grows,Qct t.takes]]).map (Qau 0 4))) H00 1
 [(5,hvT)] 0 [] []) []=some (.bool false,
 [ltq 8 (↑t.starts.length:Int)=true]):=by kernel_rfl
def Qkj (B:Lo) (t:Qah):List Prop:=[ltq 8 (↑t.starts.length:Int)=false]++([]:List Prop)
def Qp0 (t:Qah):Qax:=[(5,hvF)]
theorem QvE (B:Lo) (t:Qah):Qbd (Qam YP (Qa3 YP) J0 B 10 1 (Qaj YP 25 49 (([.agg #[slI t.starts,Qct t.grows,Qct t.takes]]).map (Qau 0 4))) H00 1
 (Qp0 t++[(10,hvT)]) 0 [] []) []=some (.bool false,
 [ltq 8 (↑t.grows.length:Int)=true]++Qkj B t):=by kernel_rfl
def Qk9 (B:Lo) (t:Qah):List Prop:=[ltq 8 (↑t.grows.length:Int)=false]++Qkj B t
def Qpj (t:Qah):Qax:=Qp0 t++[(10,hvF)]
theorem QvI (B:Lo) (t:Qah):Qbd (Qam YP (Qa3 YP) J0 B 10 1 (Qaj YP 25 49 (([.agg #[slI t.starts,Qct t.grows,Qct t.takes]]).map (Qau 0 4))) H00 1
 (Qpj t++[(16,hvT)]) 0 [] []) []=some (.bool false,
 [ltq 8 (↑t.takes.length:Int)=true]++Qk9 B t):=by kernel_rfl
theorem Qwq (B:Lo) (t:Qah):landM (Qam YP (Qa3 YP) J0 B 12 1 (Qaj YP 25 49 (([.agg #[slI t.starts,Qct t.grows,Qct t.takes]]).map (Qau 0 4))) H00 1
 (Qpj t++[(16,hvF)]) 0 [] []) [1,3] [(1,KS.auto)] []=some ⟨25,49,Qew,[],.run,none,Qe2 t (0),Qcy t (0),
 [ltq 8 (↑t.takes.length:Int)=false]++Qk9 B t⟩:=by kernel_rfl
set_option maxHeartbeats 4000000 in
theorem Qw8 (t:Qah)  (hfacts:t.starts.length<=9223372036854775807/\t.grows.length<=9223372036854775807/\t.takes.length<=9223372036854775807) {B:Lo} (hJ:∀w,B.has w->J0 w) {c0:CF}:∀m:Nat,(∀(i:Int),(t.grows.length - i.toNat)+1000=m->∀(h0:0<=i) (h8:t.starts.length<=8/\t.grows.length<=8/\t.takes.length<=8),Qv2 B c0 t i->EndsT YP B c0 (.bool ((t.grows.drop i.toNat).all (fun l=> decide (l.length<=8)) && t.takes.all fun l=> decide (l.length<=8))))/\(∀(i:Int),(t.takes.length - i.toNat)=m->∀(h0:0<=i) (h8:t.starts.length<=8/\t.grows.length<=8/\t.takes.length<=8),QwC B c0 t i->EndsT YP B c0 (.bool ((t.takes.drop i.toNat).all (fun l=> decide (l.length<=8))))):=by
 intro m0;induction m0 using Nat.strongRecOn with
 | _ m0 ih0=>
   refine ⟨?_, ?_⟩
   ·intro i hm0 h0 h8 ⟨dJ0,hdJ0,hg0⟩;by_cases q0:(i:Int) < ((↑t.grows.length:Int))
    ·have hp0:Qa2 (Qk5 B t i dJ0):=by
      exact ⟨⟨by omega,by omega,(Qal (z:=1) (fun _=> rfl) (by omega))⟩,⟨(QbD q0),trivial⟩⟩
     by_cases q1:(8:Int) < ((↑(List.length (t.grows.getD i.toNat default)):Int))
     ·have s2:=QeA (l:=t.grows) (p:=fun l=> decide (l.length<=8)) h0 q0;exact (GoE.endsT okF hJ Qab hg0 (Qwi B t i dJ0)
       ⟨(QbD q1),hp0⟩).cast (by (rw [s2,decide_eq_false (by omega)];rfl))
     ·have s2:=QeA (l:=t.grows) (p:=fun l=> decide (l.length<=8)) h0 q0;exact ((ih0 _ (by omega)).1 (i+1) rfl (by omega) (by with_reducible assumption)
       (hg0.landM okF hJ Qab (Qw0 B t i dJ0)
       ⟨(QaH (by omega) (by omega)),⟨(QbI (Int.not_lt.1 q1)),hp0⟩⟩ (by kernel_rfl) (by kernel_rfl))).cast (by (rw [s2,decide_eq_true (by omega),Bool.true_and];done))
    ·have s2:=QgY (l:=t.grows) (p:=fun l=> decide (l.length<=8)) (i:=i) (by omega);exact ((ih0 _ (by omega)).2 (0) rfl (by omega) (by with_reducible assumption)
      (hg0.landM okF hJ Qab (QvZ B t i dJ0)
      ⟨(QbI (Int.not_lt.1 q0)),trivial⟩ (by kernel_rfl) (by kernel_rfl))).cast (by (rw [s2];simp [*];done))
   ·intro i hm0 h0 h8 ⟨dJ0,hdJ0,hg0⟩;by_cases q0:(i:Int) < ((↑t.takes.length:Int))
    ·have hp1:Qa2 (QkH B t i dJ0):=by
      exact ⟨⟨by omega,by omega,(Qal (z:=1) (fun _=> rfl) (by omega))⟩,⟨(QbD q0),trivial⟩⟩
     by_cases q1:(8:Int) < ((↑(List.length (t.takes.getD i.toNat default)):Int))
     ·have s2:=QeA (l:=t.takes) (p:=fun l=> decide (l.length<=8)) h0 q0;exact (GoE.endsT okF hJ Qab hg0 (Qx6 B t i dJ0)
       ⟨(QbD q1),hp1⟩).cast (by (rw [s2,decide_eq_false (by omega)];rfl))
     ·have s2:=QeA (l:=t.takes) (p:=fun l=> decide (l.length<=8)) h0 q0;exact ((ih0 _ (by omega)).2 (i+1) rfl (by omega) (by with_reducible assumption)
       (hg0.landM okF hJ Qab (Qvs B t i dJ0)
       ⟨(QaH (by omega) (by omega)),⟨(QbI (Int.not_lt.1 q1)),hp1⟩⟩ (by kernel_rfl) (by kernel_rfl))).cast (by (rw [s2,decide_eq_true (by omega),Bool.true_and];done))
    ·have s2:=QgY (l:=t.takes) (p:=fun l=> decide (l.length<=8)) (i:=i) (by omega);exact (GoE.endsT okF hJ Qab hg0 (Qv4 B t i dJ0)
      ⟨(QbI (Int.not_lt.1 q0)),trivial⟩).cast (by (rw [s2];done))
set_option maxHeartbeats 4000000 in
theorem QyU (t:Qah)  (hfacts:t.starts.length<=9223372036854775807/\t.grows.length<=9223372036854775807/\t.takes.length<=9223372036854775807) {B:Lo} (hJ:∀w,B.has w->J0 w):EndsT YP B (Qaj YP 25 49 (([.agg #[slI t.starts,Qct t.grows,Qct t.takes]]).map (Qau 0 4))) (.bool (sizedB t)):=by
 by_cases q0:(8:Int) < ((↑t.starts.length:Int))
 ·exact (GoE.endsT okF hJ Qab GoE.start (Qw5 B t)
   ⟨(QbD q0),trivial⟩).cast (by (simp_all [sizedB];omega))
 ·have hp2:Qa2 (Qkj B t):=by
   exact ⟨(QbI (Int.not_lt.1 q0)),trivial⟩
  by_cases q1:(8:Int) < ((↑t.grows.length:Int))
  ·exact (GoE.endsT okF hJ Qab GoE.start (QvE B t)
    ⟨(QbD q1),hp2⟩).cast (by (simp_all [sizedB];omega))
  ·have hp3:Qa2 (Qk9 B t):=by
    exact ⟨(QbI (Int.not_lt.1 q1)),hp2⟩
   by_cases q2:(8:Int) < ((↑t.takes.length:Int))
   ·exact (GoE.endsT okF hJ Qab GoE.start (QvI B t)
     ⟨(QbD q2),hp3⟩).cast (by (simp_all [sizedB];omega))
   ·exact ((Qw8 t hfacts hJ _).1 (0) rfl (by omega) (by omega)
     (GoE.start.landM okF hJ Qab (Qwq B t)
     ⟨(QbI (Int.not_lt.1 q2)),hp3⟩ (by kernel_rfl) (by kernel_rfl))).cast (by (simp_all [sizedB];omega))
theorem Q0V (t:Qah)  :Qaw YP J0 25 #[.agg #[slI t.starts,Qct t.grows,Qct t.takes]] (.bool (sizedB t)):=
 QbY (ts:=[.agg #[slI t.starts,Qct t.grows,Qct t.takes]]) (t.starts.length<=9223372036854775807/\t.grows.length<=9223372036854775807/\t.takes.length<=9223372036854775807) (fun _ _ ht=> ⟨ht.ln2 (i:=0) (j:=0) rfl rfl,ht.ln2 (i:=0) (j:=1) rfl rfl,ht.ln2 (i:=0) (j:=2) rfl rfl⟩) QbS (c0:=Qaj YP 25 49 (([.agg #[slI t.starts,Qct t.grows,Qct t.takes]]).map (Qau 0 4))) (by kernel_rfl) (by kernel_rfl) fun hfacts B hJ=> QyU t  hfacts hJ
def Qf8 (xs:List Int) (i:Int):List Value:=[Qaq 1 (slT xs.length (Qae Qav xs)),Qaq 1 (slT xs.length (Qae Qav xs)),.int .i64 i]
def Qdq (xs:List Int) (i:Int):List Obj:=[]
def Qfk:List Item:=([.code [1,1,0,1,0,0],.inLoop [1,1,0,1,0,0],.inBlock 0,.code [1,1,1]]).map (it (QaB YP 39))
def QxF (B:Lo) (c0:CF) (xs:List Int) (i:Int):Prop:=∃dJ:Nat->Value,(∀t,Qbi (dJ t))/\GoE YP B c0 H00 1 (Qa8 39 26 (([0,1,5]:List Nat).zip (Qf8 xs i)) dJ Qfk) (Qa6 (Qdq xs i)) (2+(Qdq xs i).length) []
theorem Qwf (B:Lo) (xs:List Int) (i:Int) (dJ0:Nat->Value):landM (Qam YP (Qa3 YP) J0 B 14 1 (Qa8 39 26 (([0,1,5]:List Nat).zip (Qf8 xs i)) dJ0 Qfk) (Qa6 (Qdq xs i)) (2+(Qdq xs i).length)
 [(3,hvT),(6,Qai.tidx i.toNat #[.int .i64 (xs.getD i.toNat default)]),(10,Qai.tidx i.toNat #[.int .i64 (xs.getD i.toNat default)]),(12,hvF),(14,hvI (i+1))] 0 [] []) [0,1,5] [] []=some ⟨39,26,Qfk,[],.run,none,Qf8 xs (i+1),Qdq xs (i+1),
 [wq (i+1)=i+1,(!eqq (xs.getD i.toNat default) (xs.getD i.toNat default))=false,i=(↑i.toNat:Int)/\Int.toNat i < List.length xs/\Array.extract (Qae Qav xs) (Int.toNat i * TypeInfo.size Try.t3) (Int.toNat i * TypeInfo.size Try.t3+TypeInfo.size Try.t3)=#[.int .i64 (xs.getD i.toNat default)],i=(↑i.toNat:Int)/\Int.toNat i < List.length xs/\Array.extract (Qae Qav xs) (Int.toNat i * TypeInfo.size Try.t3) (Int.toNat i * TypeInfo.size Try.t3+TypeInfo.size Try.t3)=#[.int .i64 (xs.getD i.toNat default)],ltq i (↑xs.length:Int)=true]⟩:=by kernel_rfl
theorem QwF (B:Lo) (xs:List Int) (i:Int) (dJ0:Nat->Value):Qbd (Qam YP (Qa3 YP) J0 B 9 1 (Qa8 39 26 (([0,1,5]:List Nat).zip (Qf8 xs i)) dJ0 Qfk) (Qa6 (Qdq xs i)) (2+(Qdq xs i).length)
 [(3,hvF)] 0 [] []) []=some (.bool true,
 [ltq i (↑xs.length:Int)=false]):=by kernel_rfl
theorem Qv0 (B:Lo) (xs:List Int):landM (Qam YP (Qa3 YP) J0 B 12 1 (Qaj YP 39 26 (([slI xs,slI xs]).map (Qau 0 4))) H00 1
 [(5,hvF)] 0 [] []) [0,1,5] [] []=some ⟨39,26,Qfk,[],.run,none,Qf8 xs (0),Qdq xs (0),
 [(!eqq (↑xs.length:Int) (↑xs.length:Int))=false]⟩:=by kernel_rfl
set_option maxHeartbeats 4000000 in
theorem Qw9 (xs:List Int)  (hfacts:xs.length<=9223372036854775807) {B:Lo} (hJ:∀w,B.has w->J0 w) {c0:CF}:∀m:Nat,(∀(i:Int),xs.length - i.toNat=m->∀(h0:0<=i),QxF B c0 xs i->EndsT YP B c0 (.bool true)):=by
 intro m0;induction m0 using Nat.strongRecOn with
 | _ m0 ih0=>
   intro i hm0 h0 ⟨dJ0,hdJ0,hg0⟩;by_cases q0:(i:Int) < ((↑xs.length:Int))
   ·exact ((ih0 _ (by omega)) (i+1) rfl (by omega)
     (hg0.landM okF hJ Qab (Qwf B xs i dJ0)
     ⟨(QaH (by omega) (by omega)),⟨(QeW rfl),⟨⟨by omega,by omega,(Qal (z:=1) (fun _=> rfl) (by omega))⟩,⟨⟨by omega,by omega,(Qal (z:=1) (fun _=> rfl) (by omega))⟩,⟨(QbD q0),trivial⟩⟩⟩⟩⟩ (by kernel_rfl) (by kernel_rfl))).cast (by rfl)
   ·exact (GoE.endsT okF hJ Qab hg0 (QwF B xs i dJ0)
     ⟨(QbI (Int.not_lt.1 q0)),trivial⟩).cast rfl
set_option maxHeartbeats 4000000 in
theorem Qy7 (xs:List Int)  (hfacts:xs.length<=9223372036854775807) {B:Lo} (hJ:∀w,B.has w->J0 w):EndsT YP B (Qaj YP 39 26 (([slI xs,slI xs]).map (Qau 0 4))) (.bool true):=by
 exact ((Qw9 xs hfacts hJ _) (0) rfl (by omega)
  (GoE.start.landM okF hJ Qab (Qv0 B xs)
  ⟨(QeW rfl),trivial⟩ (by kernel_rfl) (by kernel_rfl))).cast (by rfl)
theorem Q3w (xs:List Int)  :Qaw YP J0 39 #[slI xs,slI xs] (.bool true):=
 QbY (ts:=[slI xs,slI xs]) (xs.length<=9223372036854775807) (fun _ _ ht=> ht.ln (i:=0) rfl) QbS (c0:=Qaj YP 39 26 (([slI xs,slI xs]).map (Qau 0 4))) (by kernel_rfl) (by kernel_rfl) fun hfacts B hJ=> Qy7 xs  hfacts hJ
def Qfa (xs:List (List Int)) (i:Int):List Value:=[Qaq 1 (slT xs.length (Qae QaP xs)),Qaq 1 (slT xs.length (Qae QaP xs)),.int .i64 i]
def Qdn (xs:List (List Int)) (i:Int):List Obj:=[]
def Qfy:List Item:=([.code [1,1,0,1,0,0],.inLoop [1,1,0,1,0,0],.inBlock 0,.code [1,1,1]]).map (it (QaB YP 29))
def Qxv (B:Lo) (c0:CF) (xs:List (List Int)) (i:Int):Prop:=∃dJ:Nat->Value,(∀t,Qbi (dJ t))/\GoE YP B c0 H00 1 (Qa8 29 27 (([0,1,5]:List Nat).zip (Qfa xs i)) dJ Qfy) (Qa6 (Qdn xs i)) (2+(Qdn xs i).length) []
def Qhd (xs:List (List Int)) (i:Int):Array Value:=#[slT (List.length (xs.getD i.toNat default)) (Qae Qav (xs.getD i.toNat default))]
theorem QwQ (B:Lo) (xs:List (List Int)) (i:Int) (dJ0:Nat->Value):landM (Qam YP (Qa3 YP) J0 B 14 1 (Qa8 29 27 (([0,1,5]:List Nat).zip (Qfa xs i)) dJ0 Qfy) (Qa6 (Qdn xs i)) (2+(Qdn xs i).length)
 [(3,hvT),(6,Qai.tidx i.toNat (Qhd xs i)),(10,Qai.tidx i.toNat (Qhd xs i)),(12,Qai.pure (.bool true) []),(15,hvI (i+1))] 0 [] []) [0,1,5] [] []=some ⟨29,27,Qfy,[],.run,none,Qfa xs (i+1),Qdn xs (i+1),
 [wq (i+1)=i+1,Qa2 []/\Qaw YP J0 39 #[slT (List.length (xs.getD i.toNat default)) (Qae Qav (xs.getD i.toNat default)),slT (List.length (xs.getD i.toNat default)) (Qae Qav (xs.getD i.toNat default))] (.bool true),i=(↑i.toNat:Int)/\Int.toNat i < List.length xs/\Array.extract (Qae QaP xs) (Int.toNat i * TypeInfo.size Try.t25) (Int.toNat i * TypeInfo.size Try.t25+TypeInfo.size Try.t25)=(Qhd xs i),i=(↑i.toNat:Int)/\Int.toNat i < List.length xs/\Array.extract (Qae QaP xs) (Int.toNat i * TypeInfo.size Try.t25) (Int.toNat i * TypeInfo.size Try.t25+TypeInfo.size Try.t25)=(Qhd xs i),ltq i (↑xs.length:Int)=true]⟩:=by kernel_rfl
theorem Qw1 (B:Lo) (xs:List (List Int)) (i:Int) (dJ0:Nat->Value):Qbd (Qam YP (Qa3 YP) J0 B 9 1 (Qa8 29 27 (([0,1,5]:List Nat).zip (Qfa xs i)) dJ0 Qfy) (Qa6 (Qdn xs i)) (2+(Qdn xs i).length)
 [(3,hvF)] 0 [] []) []=some (.bool true,
 [ltq i (↑xs.length:Int)=false]):=by kernel_rfl
theorem Qvp (B:Lo) (xs:List (List Int)):landM (Qam YP (Qa3 YP) J0 B 12 1 (Qaj YP 29 27 (([Qct xs,Qct xs]).map (Qau 0 4))) H00 1
 [(5,hvF)] 0 [] []) [0,1,5] [] []=some ⟨29,27,Qfy,[],.run,none,Qfa xs (0),Qdn xs (0),
 [(!eqq (↑xs.length:Int) (↑xs.length:Int))=false]⟩:=by kernel_rfl
set_option maxHeartbeats 4000000 in
theorem Qws (xs:List (List Int))  (hfacts:xs.length<=9223372036854775807) {B:Lo} (hJ:∀w,B.has w->J0 w) {c0:CF}:∀m:Nat,(∀(i:Int),xs.length - i.toNat=m->∀(h0:0<=i),Qxv B c0 xs i->EndsT YP B c0 (.bool true)):=by
 intro m0;induction m0 using Nat.strongRecOn with
 | _ m0 ih0=>
   intro i hm0 h0 ⟨dJ0,hdJ0,hg0⟩;by_cases q0:(i:Int) < ((↑xs.length:Int))
   ·exact ((ih0 _ (by omega)) (i+1) rfl (by omega)
     (hg0.landM okF hJ Qab (QwQ B xs i dJ0)
     ⟨(QaH (by omega) (by omega)),⟨⟨trivial,Q3w (xs.getD i.toNat default)⟩,⟨⟨by omega,by omega,(Qal (z:=1) (fun _=> rfl) (by omega))⟩,⟨⟨by omega,by omega,(Qal (z:=1) (fun _=> rfl) (by omega))⟩,⟨(QbD q0),trivial⟩⟩⟩⟩⟩ (by kernel_rfl) (by kernel_rfl))).cast (by rfl)
   ·exact (GoE.endsT okF hJ Qab hg0 (Qw1 B xs i dJ0)
     ⟨(QbI (Int.not_lt.1 q0)),trivial⟩).cast rfl
set_option maxHeartbeats 4000000 in
theorem Q00 (xs:List (List Int))  (hfacts:xs.length<=9223372036854775807) {B:Lo} (hJ:∀w,B.has w->J0 w):EndsT YP B (Qaj YP 29 27 (([Qct xs,Qct xs]).map (Qau 0 4))) (.bool true):=by
 exact ((Qws xs hfacts hJ _) (0) rfl (by omega)
  (GoE.start.landM okF hJ Qab (Qvp B xs)
  ⟨(QeW rfl),trivial⟩ (by kernel_rfl) (by kernel_rfl))).cast (by rfl)
theorem Q2R (xs:List (List Int))  :Qaw YP J0 29 #[Qct xs,Qct xs] (.bool true):=
 QbY (ts:=[Qct xs,Qct xs]) (xs.length<=9223372036854775807) (fun _ _ ht=> ht.ln (i:=0) rfl) QbS (c0:=Qaj YP 29 27 (([Qct xs,Qct xs]).map (Qau 0 4))) (by kernel_rfl) (by kernel_rfl) fun hfacts B hJ=> Q00 xs  hfacts hJ
def QgL (rf:Qaf) (t:Qah):Array Value:=#[.int .i64 (F4.sum (Qac t.starts)),.int .i64 (Qa9 0 rf.seasons (Qb6 rf.places t.grows t.takes (Qac t.starts))),.int .i64 (Qa9 0 rf.seasons (QaW rf.places t.grows t.takes (Qac t.starts))),.int .i64 (Qa9 0 rf.seasons (Qb4 rf.places t.grows t.takes (Qac t.starts))),.int .i64 (F4.sum (stF rf.places t.grows t.takes (Qac t.starts) (Int.toNat rf.seasons)))]
def QeE (rf:Qaf) (plan:List Int) (t:Qah):Array Value:=#[.agg #[slT rf.places.length (Qae Qad rf.places),.int .i64 rf.miss,.int .i64 rf.seasons],slT plan.length (Qae Qav plan),.agg #[slT t.starts.length (Qae Qav t.starts),slT t.grows.length (Qae QaP t.grows),slT t.takes.length (Qae QaP t.takes)]]
def QgO (rf:Qaf) (plan:List Int):Array Value:=#[.agg #[slT rf.places.length (Qae Qad rf.places),.int .i64 rf.miss,.int .i64 rf.seasons],slT plan.length (Qae Qav plan)]
def QjV (t:Qah):Array Value:=#[slT t.starts.length (Qae Qav t.starts),slT t.grows.length (Qae QaP t.grows),slT t.takes.length (Qae QaP t.takes)]
def Qe7  :Value:=(.tuple #[slT 0 #[],.agg #[.int .i64 0,.int .i64 0,.int .i64 0,.int .i64 0,.int .i64 0],.int .i64 2])
def QjS (rf:Qaf):Array Value:=#[slT rf.places.length (Qae Qad rf.places),.int .i64 rf.miss,.int .i64 rf.seasons]
def Qj5 (B:Lo) (rf:Qaf) (plan:List Int) (t:Qah):List Prop:=[Qa2 []/\Qaw YP J0 15 #[.agg (QjS rf)] (.bool true)]++([]:List Prop)
def Qpk (rf:Qaf) (plan:List Int) (t:Qah):Qax:=[(4,Qai.pure (.bool true) [])]
theorem QvP (B:Lo) (rf:Qaf) (plan:List Int) (t:Qah):Qbd (Qam YP (Qa3 YP) J0 B 10 1 (Qaj YP 4 81 (([.agg (Qak rf).toArray,slI plan,.agg #[slI t.starts,Qct t.grows,Qct t.takes]]).map (Qau 0 4))) H00 1
 (Qpk rf plan t++[(9,hvT),(16,Qai.pure (.bool true) [])]) 0 [] []) []=some (.bool true,
 [Qa2 []/\Qaw YP J0 16 #[] (.bool true),ltq 8 (↑plan.length:Int)=true]++Qj5 B rf plan t):=by kernel_rfl
def Qle (B:Lo) (rf:Qaf) (plan:List Int) (t:Qah):List Prop:=[ltq 8 (↑plan.length:Int)=false]++Qj5 B rf plan t
def QoZ (rf:Qaf) (plan:List Int) (t:Qah):Qax:=Qpk rf plan t++[(9,hvF)]
def Qfs (B:Lo) (rf:Qaf) (plan:List Int) (t:Qah):List Prop:=[Qa2 []/\Qaw YP J0 25 #[.agg (QjV t)] (.bool true)]++Qle B rf plan t
def QgX (rf:Qaf) (plan:List Int) (t:Qah):Qax:=QoZ rf plan t++[(13,Qai.pure (.bool true) [])]
theorem QwU (B:Lo) (rf:Qaf) (plan:List Int) (t:Qah):Qbd (Qam YP (Qa3 YP) J0 B 20 1 (Qaj YP 4 81 (([.agg (Qak rf).toArray,slI plan,.agg #[slI t.starts,Qct t.grows,Qct t.takes]]).map (Qau 0 4))) H00 1
 (QgX rf plan t++[(19,Qai.pure (.tuple #[slT (List.length (Qbk rf.seasons rf.places t.grows t.takes (Qac t.starts))) (Qae QaP (Qbk rf.seasons rf.places t.grows t.takes (Qac t.starts))),.agg (QgL rf t),.int .i64 0]) []),(30,Qai.pure (.bool true) []),(36,Qai.pure (.bool true) []),(41,Qai.pure (.tuple #[slT (List.length (Qbk rf.seasons rf.places t.grows t.takes (Qac t.starts))) (Qae QaP (Qbk rf.seasons rf.places t.grows t.takes (Qac t.starts))),.agg (QgL rf t)]) []),(53,Qai.pure (.bool true) []),(58,Qai.old (Hint.eq true)),(61,Qai.pure (.bool true) [])]) 0 [] []) []=some (.bool true,
 [Qa2 []/\Qaw YP J0 16 #[] (.bool true),(eqq (F4.sum (Qac t.starts)) (F4.sum (Qac t.starts)) && (eqq (Qa9 0 rf.seasons (Qb6 rf.places t.grows t.takes (Qac t.starts))) (Qa9 0 rf.seasons (Qb6 rf.places t.grows t.takes (Qac t.starts))) && (eqq (Qa9 0 rf.seasons (QaW rf.places t.grows t.takes (Qac t.starts))) (Qa9 0 rf.seasons (QaW rf.places t.grows t.takes (Qac t.starts))) && (eqq (Qa9 0 rf.seasons (Qb4 rf.places t.grows t.takes (Qac t.starts))) (Qa9 0 rf.seasons (Qb4 rf.places t.grows t.takes (Qac t.starts))) && (eqq (F4.sum (stF rf.places t.grows t.takes (Qac t.starts) (Int.toNat rf.seasons))) (F4.sum (stF rf.places t.grows t.takes (Qac t.starts) (Int.toNat rf.seasons))) && true)))))=true,Qa2 []/\Qaw YP J0 29 #[slT (List.length (Qbk rf.seasons rf.places t.grows t.takes (Qac t.starts))) (Qae QaP (Qbk rf.seasons rf.places t.grows t.takes (Qac t.starts))),slT (List.length (Qbk rf.seasons rf.places t.grows t.takes (Qac t.starts))) (Qae QaP (Qbk rf.seasons rf.places t.grows t.takes (Qac t.starts)))] (.bool true),Qa2 []/\Qaw YP J0 28 #[.agg (QjS rf),.agg (QjV t)] (.tuple #[slT (List.length (Qbk rf.seasons rf.places t.grows t.takes (Qac t.starts))) (Qae QaP (Qbk rf.seasons rf.places t.grows t.takes (Qac t.starts))),.agg (QgL rf t)]),Qa2 []/\Qaw YP J0 27 (QeE rf plan t) (.bool true),Qa2 []/\Qaw YP J0 21 (QgO rf plan) (.bool true),Qa2 []/\Qaw YP J0 26 (QeE rf plan t) (.tuple #[slT (List.length (Qbk rf.seasons rf.places t.grows t.takes (Qac t.starts))) (Qae QaP (Qbk rf.seasons rf.places t.grows t.takes (Qac t.starts))),.agg (QgL rf t),.int .i64 0])]++Qfs B rf plan t):=by kernel_rfl
theorem Qxf (B:Lo) (rf:Qaf) (plan:List Int) (t:Qah):Qbd (Qam YP (Qa3 YP) J0 B 17 1 (Qaj YP 4 81 (([.agg (Qak rf).toArray,slI plan,.agg #[slI t.starts,Qct t.grows,Qct t.takes]]).map (Qau 0 4))) H00 1
 (QgX rf plan t++[(19,Qai.pure Qe7 []),(30,Qai.pure (.bool true) []),(36,Qai.pure (.bool false) []),(52,Qai.pure (.bool true) [])]) 0 [] []) []=some (.bool true,
 [Qa2 []/\Qaw YP J0 16 #[] (.bool true),Qa2 []/\Qaw YP J0 27 (QeE rf plan t) (.bool false),Qa2 []/\Qaw YP J0 21 (QgO rf plan) (.bool true),Qa2 []/\Qaw YP J0 26 (QeE rf plan t) Qe7]++Qfs B rf plan t):=by kernel_rfl
theorem Qwy (B:Lo) (rf:Qaf) (plan:List Int) (t:Qah):Qbd (Qam YP (Qa3 YP) J0 B 17 1 (Qaj YP 4 81 (([.agg (Qak rf).toArray,slI plan,.agg #[slI t.starts,Qct t.grows,Qct t.takes]]).map (Qau 0 4))) H00 1
 (QgX rf plan t++[(19,Qai.pure Qe7 []),(30,Qai.pure (.bool false) []),(52,Qai.pure (.bool true) [])]) 0 [] []) []=some (.bool true,
 [Qa2 []/\Qaw YP J0 16 #[] (.bool true),Qa2 []/\Qaw YP J0 21 (QgO rf plan) (.bool false),Qa2 []/\Qaw YP J0 26 (QeE rf plan t) Qe7]++Qfs B rf plan t):=by kernel_rfl
theorem Qxw (B:Lo) (rf:Qaf) (plan:List Int) (t:Qah):Qbd (Qam YP (Qa3 YP) J0 B 17 1 (Qaj YP 4 81 (([.agg (Qak rf).toArray,slI plan,.agg #[slI t.starts,Qct t.grows,Qct t.takes]]).map (Qau 0 4))) H00 1
 (QgX rf plan t++[(19,Qai.pure Qe7 []),(30,Qai.pure (.bool false) []),(52,Qai.pure (.bool true) [])]) 0 [] []) []=some (.bool true,
 [Qa2 []/\Qaw YP J0 16 #[] (.bool true),Qa2 []/\Qaw YP J0 21 (QgO rf plan) (.bool false),Qa2 []/\Qaw YP J0 26 (QeE rf plan t) Qe7]++Qfs B rf plan t):=by kernel_rfl
theorem Qx5 (B:Lo) (rf:Qaf) (plan:List Int) (t:Qah):Qbd (Qam YP (Qa3 YP) J0 B 10 1 (Qaj YP 4 81 (([.agg (Qak rf).toArray,slI plan,.agg #[slI t.starts,Qct t.grows,Qct t.takes]]).map (Qau 0 4))) H00 1
 (QoZ rf plan t++[(13,Qai.pure (.bool false) []),(16,Qai.pure (.bool true) [])]) 0 [] []) []=some (.bool true,
 [Qa2 []/\Qaw YP J0 16 #[] (.bool true),Qa2 []/\Qaw YP J0 25 #[.agg (QjV t)] (.bool false)]++Qle B rf plan t):=by kernel_rfl
theorem Qxc (B:Lo) (rf:Qaf) (plan:List Int) (t:Qah):Qbd (Qam YP (Qa3 YP) J0 B 10 1 (Qaj YP 4 81 (([.agg (Qak rf).toArray,slI plan,.agg #[slI t.starts,Qct t.grows,Qct t.takes]]).map (Qau 0 4))) H00 1
 [(4,Qai.pure (.bool false) []),(16,Qai.pure (.bool true) [])] 0 [] []) []=some (.bool true,
 [Qa2 []/\Qaw YP J0 16 #[] (.bool true),Qa2 []/\Qaw YP J0 15 #[.agg (QjS rf)] (.bool false)]):=by kernel_rfl
set_option maxHeartbeats 4000000 in
theorem Q0q (rf:Qaf) (plan:List Int) (t:Qah)  (hfacts:plan.length<=9223372036854775807) {B:Lo} (hJ:∀w,B.has w->J0 w):EndsT YP B (Qaj YP 4 81 (([.agg (Qak rf).toArray,slI plan,.agg #[slI t.starts,Qct t.grows,Qct t.takes]]).map (Qau 0 4))) (.bool true):=by
 cases q0:decide (List.length rf.places<=8) with
 | true=>
   have hp0:Qa2 (Qj5 B rf plan t):=by
    exact ⟨⟨trivial,(by have t_:=Q0W (rf);rw [q0] at t_;exact t_)⟩,trivial⟩
   by_cases q1:(8:Int) < ((↑plan.length:Int))
   ·exact (GoE.endsT okF hJ Qab GoE.start (QvP B rf plan t)
     ⟨⟨trivial,known⟩,⟨(QbD q1),hp0⟩⟩).cast rfl
   ·have hp1:Qa2 (Qle B rf plan t):=by
     exact ⟨(QbI (Int.not_lt.1 q1)),hp0⟩
    cases q2:sizedB t with
    | true=>
      have hp2:Qa2 (Qfs B rf plan t):=by
       exact ⟨⟨trivial,(by have t_:=Q0V (t);rw [q2] at t_;exact t_)⟩,hp1⟩
      cases q3:Qbm rf with
      | true=>
        cases q4:QbN rf plan with
        | true=>
          cases q5:Qb1 rf plan t with
          | true=>
            have hsz:=Qbj (QaL ‹Qbm rf=true›).1;have hpf:=(QdA ‹QbN rf plan=true›).1;have hpg:=Qp3 ‹Qbm rf=true› ‹QbN rf plan=true›;have hok:=Q1j ‹Qbm rf=true› ‹Qb1 rf plan t=true›;have hok1:=hok.1;have hok2:=hok.2;exact (GoE.endsT okF hJ Qab GoE.start (QwU B rf plan t)
             ⟨⟨trivial,known⟩,⟨(by simp [Qjj]),⟨⟨trivial,Q2R (Qbk rf.seasons rf.places t.grows t.takes (Qac t.starts))⟩,⟨⟨trivial,Q4I (rf) (t) (by with_reducible assumption) (by with_reducible assumption) (by omega) (by omega)⟩,⟨⟨trivial,(by have t_:=Q0A (rf) (plan) (t) (by with_reducible assumption) (by with_reducible assumption) (by with_reducible assumption);rw [q5] at t_;exact t_)⟩,⟨⟨trivial,(by have t_:=Qtl (rf) (plan);rw [q3,q4] at t_;exact t_)⟩,⟨⟨trivial,(by have t_:=Qyw (rf) (plan) (t);rw [q3,q4,q5] at t_;exact t_)⟩,hp2⟩⟩⟩⟩⟩⟩⟩).cast rfl
          | false=>
            have hpf:=(QdA ‹QbN rf plan=true›).1;have hpg:=Qp3 ‹Qbm rf=true› ‹QbN rf plan=true›;exact (GoE.endsT okF hJ Qab GoE.start (Qxf B rf plan t)
             ⟨⟨trivial,known⟩,⟨⟨trivial,(by have t_:=Q0A (rf) (plan) (t) (by with_reducible assumption) (by with_reducible assumption) (by with_reducible assumption);rw [q5] at t_;exact t_)⟩,⟨⟨trivial,(by have t_:=Qtl (rf) (plan);rw [q3,q4] at t_;exact t_)⟩,⟨⟨trivial,(by have t_:=Qyw (rf) (plan) (t);rw [q3,q4,q5] at t_;exact t_)⟩,hp2⟩⟩⟩⟩).cast rfl
        | false=>
          exact (GoE.endsT okF hJ Qab GoE.start (Qwy B rf plan t)
           ⟨⟨trivial,known⟩,⟨⟨trivial,(by have t_:=Qtl (rf) (plan);rw [q3,q4] at t_;exact t_)⟩,⟨⟨trivial,(by have t_:=Qyw (rf) (plan) (t);rw [q3,q4] at t_;exact t_)⟩,hp2⟩⟩⟩).cast rfl
      | false=>
        exact (GoE.endsT okF hJ Qab GoE.start (Qxw B rf plan t)
         ⟨⟨trivial,known⟩,⟨⟨trivial,(by have t_:=Qtl (rf) (plan);rw [q3] at t_;exact t_)⟩,⟨⟨trivial,(by have t_:=Qyw (rf) (plan) (t);rw [q3] at t_;exact t_)⟩,hp2⟩⟩⟩).cast rfl
    | false=>
      exact (GoE.endsT okF hJ Qab GoE.start (Qx5 B rf plan t)
       ⟨⟨trivial,known⟩,⟨⟨trivial,(by have t_:=Q0V (t);rw [q2] at t_;exact t_)⟩,hp1⟩⟩).cast rfl
 | false=>
   exact (GoE.endsT okF hJ Qab GoE.start (Qxc B rf plan t)
    ⟨⟨trivial,known⟩,⟨⟨trivial,(by have t_:=Q0W (rf);rw [q0] at t_;exact t_)⟩,trivial⟩⟩).cast rfl
theorem Q2L (rf:Qaf) (plan:List Int) (t:Qah)  :Qaw YP J0 4 #[.agg (Qak rf).toArray,slI plan,.agg #[slI t.starts,Qct t.grows,Qct t.takes]] (.bool true):=
 QbY (ts:=[.agg (Qak rf).toArray,slI plan,.agg #[slI t.starts,Qct t.grows,Qct t.takes]]) (plan.length<=9223372036854775807) (fun _ _ ht=> ht.ln (i:=1) rfl) QbS (c0:=Qaj YP 4 81 (([.agg (Qak rf).toArray,slI plan,.agg #[slI t.starts,Qct t.grows,Qct t.takes]]).map (Qau 0 4))) (by kernel_rfl) (by kernel_rfl) fun hfacts B hJ=> Q0q rf plan t  hfacts hJ
end
end Go.Proofs.Ytncjjangllkokaa

namespace Go.Proofs.Ytncjjangllkokaa
open Go Go.CE Go.RowKit
def Qti:Sh:=shS [.int,.int]
def QwH:Sh:=shS [.int,.int,Qti,.int,.int,Qti,Qti,.int,.int]
def QoB:Sh:=shS [.slice QwH,.int,.int]
def QkT:Sh:=shS [.slice .int,.slice (.slice .int),.slice (.slice .int)]
theorem QnV {cs:List Value} (h:Qti.ok cs):∃s:Span,cs=QaA s:=by
 obtain ⟨_,_,rfl,⟨a,_,rfl⟩,_,_,rfl,⟨b,_,rfl⟩,rfl⟩:=h;exact ⟨⟨a,b⟩,rfl⟩
theorem QxT {cs:List Value} (h:QwH.ok cs):∃s:Qaa,cs=Qad s:=by
 obtain ⟨_,_,rfl,⟨a,_,rfl⟩,_,_,rfl,⟨b,_,rfl⟩,_,_,rfl,h3,_,_,rfl,⟨d,_,rfl⟩,_,_,rfl,⟨e,_,rfl⟩,_,_,rfl,h6,_,_,rfl,h7,_,_,rfl,⟨g,_,rfl⟩,_,_,rfl,⟨w,_,rfl⟩,rfl⟩:=h;obtain ⟨x,rfl⟩:=QnV h3;obtain ⟨y,rfl⟩:=QnV h6;obtain ⟨z,rfl⟩:=QnV h7;exact ⟨⟨a,b,x.lo,x.hi,d,e,y.lo,y.hi,z.lo,z.hi,g,w⟩,rfl⟩
theorem QyE {v:Value} (h:QoB.arg v):∃r:Qaf,v=.agg (Qak r).toArray:=by
 obtain ⟨cs,rfl,h⟩:=h;obtain ⟨_,_,rfl,h1,_,_,rfl,⟨m,_,rfl⟩,_,_,rfl,⟨n,_,rfl⟩,rfl⟩:=h;obtain ⟨xs,rfl⟩:=QiJ (fun _=> QxT) h1;exact ⟨⟨xs,m,n⟩,rfl⟩
theorem QiV {cs:List Value} (h:Sh.ok (.slice .int) cs):∃xs:List Int,cs=QaP xs:=QiJ (fun _=> Q2V) h
theorem Q0g {v:Value} (h:Sh.arg (.slice .int) v):∃xs:List Int,v=slI xs:=by
 obtain ⟨xs,hx⟩:=QiV (show Sh.ok (.slice .int) [v] from h);exact ⟨xs,by simpa using hx⟩
theorem Qym {v:Value} (h:QkT.arg v):∃t:Qah,v=.agg #[slI t.starts,Qct t.grows,Qct t.takes]:=by
 obtain ⟨cs,rfl,h⟩:=h;obtain ⟨_,_,rfl,h1,_,_,rfl,h2,_,_,rfl,h3,rfl⟩:=h;obtain ⟨xs,rfl⟩:=QiV h1;obtain ⟨ys,rfl⟩:=QiJ (fun _=> QiV) h2;obtain ⟨zs,rfl⟩:=QiJ (fun _=> QiV) h3;exact ⟨⟨xs,ys,zs⟩,rfl⟩
theorem Qxe:∀trs,Qtd [QoB,.slice .int,QkT] trs->Qaw YP J0 4 trs.toArray (.bool true):=by
 rintro trs ⟨t0,_,rfl,h0,t1,_,rfl,h1,t2,_,rfl,h2,rfl⟩;obtain ⟨r,rfl⟩:=QyE h0;obtain ⟨l,rfl⟩:=Q0g h1;obtain ⟨t,rfl⟩:=Qym h2;exact Q2L r l t
end Go.Proofs.Ytncjjangllkokaa

namespace Go.Proofs.Ytncjjangllkokaa
open Go Go.CE Go.ChangeShapes Go.WideShapes Go.RowKit
set_option maxRecDepth 100000 in
theorem QiC (os:Os) (started:os.Started) (H:Type) (enc:TypeId×Value->H):
 ReturnsInHanded {} Try.checked os 4 .any (Rows.reefPlaysSpec.pre6 enc YP Try.f4 Rows.reefPlaysRow.domain false) (Rows.reefPlaysSpec.post enc YP Try.f4 false true false false):=by
 refine returnsInHanded_of_change (C:=Try.checked) (show ownKnob YP.godebug=none by kernel_rfl) started (by kernel_rfl) Try.func4
  (ChangeSpec.witness6 (enc:=enc) (C:=Try.checked) false ⟨#[],#[Sh.zeroA QoB,Sh.zeroA (.slice .int),Sh.zeroA QkT],[]⟩ 8 (by kernel_rfl) (by kernel_rfl) (by kernel_rfl) (by kernel_rfl)) ?_
 intro W base args ds gs before hval0 hW _ _;have hval:∀(j:Nat) t v,Try.f4.params[j]? =some t->args[j]? =some v->Value.okWide YP W .any base t v:=hval0;have hW':=hW;obtain ⟨p,q,hA0,hV,rfl,_,_⟩:=hW;obtain ⟨rfl,rfl⟩:=trodVars_none hV;have hA1:DataW.TrodAll enc YP W 0 (fun _=> true) true Try.f4.params.toList args.toList ds p:=hA0;have hlt:∀x∈p,x.block < W.heap.size:=fun x hx=> hW'.lt x (by simpa using hx)
 have hch:Qlh YP [QoB,(.slice .int),QkT] Try.f4.params.toList=true:=by kernel_rfl
 have hrd:(Try.f4.params.toList.all fun t=> YP.readableRec t && decide (t < YP.types.size))=true:=by kernel_rfl
 refine (QyQ (J:=J0) (ss:=[QoB,(.slice .int),QkT]) trivial hch hA1 (fun j t v h1 h2=> hval j t v (by simpa using h1) h2) Qxe).mono fun e W' ⟨he,hB⟩=> ?_
 subst he;have hB2:=Qhc (show laidOutB YP=true by kernel_rfl) hB _ _ _ _ hrd hA1 hlt;have hA:DataW.TrodAll enc YP W 0 (fun _=> true) true Try.f4.params.toList args.toList ds p:=hA1;rw [Try.params4] at hA;simp only [List.toList_toArray] at hA;have hA:=hA;obtain ⟨v0,vs0,d0,ds0,p0,q0,_,rfl,_,h0,_⟩:=CE.trodAll_cons hA;obtain ⟨v1,vs1,d1,ds1,p1,q1,_,rfl,_,h1,_⟩:=CE.trodAll_cons h0;obtain ⟨v2,vs2,d2,ds2,p2,q2,_,rfl,_,h2,_⟩:=CE.trodAll_cons h1;obtain ⟨_,rfl,_⟩:=CE.trodAll_nil h2;exact ⟨_,rfl,_,_,_,[],_,[],hW',trodAll_mk1 (shut_bool Try.underlying4 _),hB2,rfl,hB.frame _,fun h=> by cases h⟩
theorem reefPlays_row:Rows.ReefPlaysSaid:=
 OpenClaim.holds_of_wide 4 Try.f4 rfl rfl rfl rfl rfl rfl rfl ⟨rfl,rfl,rfl,rfl,rfl⟩ rfl rfl rfl rfl rfl (by kernel_rfl) Try.func4 (by kernel_rfl)
  (of_decide_eq_true (by kernel_rfl)) (by unfold Func.isWrapper;first | (rw [if_pos (by decide+kernel)];kernel_rfl) | (rw [if_neg (by decide+kernel)];exact ⟨rfl,rfl⟩))
  (fun os started H enc _=> QiC os started H enc)
end Go.Proofs.Ytncjjangllkokaa
