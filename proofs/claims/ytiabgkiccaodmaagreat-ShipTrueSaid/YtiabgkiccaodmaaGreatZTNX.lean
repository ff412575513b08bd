/- ShipTrue: whatever the input, it returns true, and each argument reads as it did. The row, from the walk. -/
import Derived.Test.YtiabgkiccaodmaaGreatZTN14
import Derived.Test.YtiabgkiccaodmaaGreatZTN15
import Derived.JoinedOf
import Derived.Test.YtiabgkiccaodmaaGreatRows
set_option linter.all false
namespace Go.Proofs.YtiabgkiccaodmaaGreat
open Go Go.CE Go.RowKit
noncomputable section
set_option maxRecDepth 100000
theorem Qcv {s:Qaa} {load:List Int} {days k:Int} {t:Qad} (hs:Qa0 s=true) (hl:QcF s load=true) (ht:Qbv s days t=true) (hd:0<=days/\days<=300) (k0:0<=k) (k1:k < s.stock.length):
 ((QaI s (QaF load 0) days t).map Qat).getD k.toNat default=Qat (Qm3 s (QaF load 0) days t k)/\((Qbl s (QaF load 0) days).getD k.toNat default).may=Q3q s (QaF load 0) days k/\((Qbl s (QaF load 0) days).getD k.toNat default).must=QvK s (QaF load 0) days k/\
 (0<=Qat (Qm3 s (QaF load 0) days t k)->0<=Q3q s (QaF load 0) days k/\Q3q s (QaF load 0) days k<=Qat (Qm3 s (QaF load 0) days t k))/\(0<=QvK s (QaF load 0) days k->0<=Qat (Qm3 s (QaF load 0) days t k)/\Qat (Qm3 s (QaF load 0) days t k)<=QvK s (QaF load 0) days k):=by
 have g:=QcX hs hl
 refine ⟨Qny k0 k1,by rw [QsD k0 k1];rfl,by rw [QsD k0 k1];rfl,Q0k hs ht hd g.2.1 g.2.2.1 g.2.2.2 k0 k1,Qx1 hs ht hd g.2.1 g.2.2.1 g.2.2.2 k0 k1⟩
def Qcc (s:Qaa) (load:List Int) (days:Int) (t:Qad) (k:Int):List Value:=[Qay 1 (slT (List.length (List.map Qat (QaI s (QaF load 0) days t))) (Qac Qa1 (List.map Qat (QaI s (QaF load 0) days t)))),Qay 1 (slT (List.length (Qbl s (QaF load 0) days)) (Qac Qci (Qbl s (QaF load 0) days))),.int .i64 k]
def QaR (s:Qaa) (load:List Int) (days:Int) (t:Qad) (k:Int):List Obj:=[]
def Qcd:List Item:=([.code [1,1,1,1,1,0,1,0,0],.inLoop [1,1,1,1,1,0,1,0,0],.inBlock 0,.code [1,1,1,1,1,1]]).map (it (Qan Tryz.prog 9))
def Q0S (B:Lo) (c0:CF) (s:Qaa) (load:List Int) (days:Int) (t:Qad) (k:Int):Prop:=∃dJ:Nat->Value,(∀t,Qbb (dJ t))/\GoE Tryz.prog B c0 H00 1 (Qa4 9 140 (([9,12,14]:List Nat).zip (Qcc s load days t k)) dJ Qcd) (Qa3 (QaR s load days t k)) (2+(QaR s load days t k).length) []
def Qic (s:Qaa) (load:List Int) (days:Int):Array Value:=#[.agg #[slT s.stock.length (Qac Qa1 s.stock),slT s.use.length (Qac QaD s.use),.int .i64 s.glo,.int .i64 s.ghi,slT s.lots.length (Qac Qaq s.lots),.int .i64 s.hold],slT load.length (Qac Qa1 load),.int .i64 days]
def Qip (s:Qaa):Array Value:=#[slT s.stock.length (Qac Qa1 s.stock),slT s.use.length (Qac QaD s.use),.int .i64 s.glo,.int .i64 s.ghi,slT s.lots.length (Qac Qaq s.lots),.int .i64 s.hold]
def QhO (t:Qad):Array Value:=#[slT t.uses.length (Qac Qa1 t.uses),slT t.gaps.length (Qac Qa1 t.gaps),slT t.goods.length (Qac Qas t.goods)]
def Qds (s:Qaa) (load:List Int) (days:Int) (k:Int):Array Value:=#[.int .i64 (Wnt.may (List.getD (Qbl s (QaF load 0) days) k.toNat default)),.int .i64 (Wnt.must (List.getD (Qbl s (QaF load 0) days) k.toNat default))]
def Qdt (s:Qaa) (load:List Int) (days:Int) (t:Qad) (k:Int):Array Value:=#[.int .i64 (List.getD (List.map Qat (QaI s (QaF load 0) days t)) k.toNat default)]
def Qnq (B:Lo) (s:Qaa) (load:List Int) (days:Int) (t:Qad) (k:Int) (dJ0:Nat->Value):List Prop:=[k=(↑k.toNat:Int)/\Int.toNat k < List.length (List.map Qat (QaI s (QaF load 0) days t))/\Array.extract (Qac Qa1 (List.map Qat (QaI s (QaF load 0) days t))) (Int.toNat k * TypeInfo.size Tryz.t3) (Int.toNat k * TypeInfo.size Tryz.t3+TypeInfo.size Tryz.t3)=(Qdt s load days t k),ltq k (↑(List.length (List.map Qat (QaI s (QaF load 0) days t))):Int)=true]++([]:List Prop)
def Qt5 (s:Qaa) (load:List Int) (days:Int) (t:Qad) (k:Int) (dJ0:Nat->Value):Qap:=[(3,hvT),(6,Qai.tidx k.toNat (Qdt s load days t k))]
def QnW (B:Lo) (s:Qaa) (load:List Int) (days:Int) (t:Qad) (k:Int) (dJ0:Nat->Value):List Prop:=[k=(↑k.toNat:Int)/\Int.toNat k < List.length (Qbl s (QaF load 0) days)/\Array.extract (Qac Qci (Qbl s (QaF load 0) days)) (Int.toNat k * TypeInfo.size Tryz.t81) (Int.toNat k * TypeInfo.size Tryz.t81+TypeInfo.size Tryz.t81)=(Qds s load days k),(!ltq (List.getD (List.map Qat (QaI s (QaF load 0) days t)) k.toNat default) 0)=true]++Qnq B s load days t k dJ0
def QtH (s:Qaa) (load:List Int) (days:Int) (t:Qad) (k:Int) (dJ0:Nat->Value):Qap:=Qt5 s load days t k dJ0++[(8,hvT),(12,Qai.tidx k.toNat (Qds s load days k))]
theorem Q1s (B:Lo) (s:Qaa) (load:List Int) (days:Int) (t:Qad) (k:Int) (dJ0:Nat->Value):QaK (Qak Tryz.prog (Qaw Tryz.prog) J0 B 14 1 (Qa4 9 140 (([9,12,14]:List Nat).zip (Qcc s load days t k)) dJ0 Qcd) (Qa3 (QaR s load days t k)) (2+(QaR s load days t k).length)
 (QtH s load days t k dJ0++[(15,hvT)]) 0 [] []) []=some (.bool false,
 [ltq (Wnt.may (List.getD (Qbl s (QaF load 0) days) k.toNat default)) 0=true]++QnW B s load days t k dJ0):=by kernel_rfl
def QnY (B:Lo) (s:Qaa) (load:List Int) (days:Int) (t:Qad) (k:Int) (dJ0:Nat->Value):List Prop:=[k=(↑k.toNat:Int)/\Int.toNat k < List.length (Qbl s (QaF load 0) days)/\Array.extract (Qac Qci (Qbl s (QaF load 0) days)) (Int.toNat k * TypeInfo.size Tryz.t81) (Int.toNat k * TypeInfo.size Tryz.t81+TypeInfo.size Tryz.t81)=(Qds s load days k),k=(↑k.toNat:Int)/\Int.toNat k < List.length (List.map Qat (QaI s (QaF load 0) days t))/\Array.extract (Qac Qa1 (List.map Qat (QaI s (QaF load 0) days t))) (Int.toNat k * TypeInfo.size Tryz.t3) (Int.toNat k * TypeInfo.size Tryz.t3+TypeInfo.size Tryz.t3)=(Qdt s load days t k),ltq (Wnt.may (List.getD (Qbl s (QaF load 0) days) k.toNat default)) 0=false]++QnW B s load days t k dJ0
def Qte (s:Qaa) (load:List Int) (days:Int) (t:Qad) (k:Int) (dJ0:Nat->Value):Qap:=QtH s load days t k dJ0++[(15,hvF),(19,Qai.tidx k.toNat (Qdt s load days t k)),(23,Qai.tidx k.toNat (Qds s load days k))]
theorem QzQ (B:Lo) (s:Qaa) (load:List Int) (days:Int) (t:Qad) (k:Int) (dJ0:Nat->Value):QaK (Qak Tryz.prog (Qaw Tryz.prog) J0 B 14 1 (Qa4 9 140 (([9,12,14]:List Nat).zip (Qcc s load days t k)) dJ0 Qcd) (Qa3 (QaR s load days t k)) (2+(QaR s load days t k).length)
 (Qte s load days t k dJ0++[(26,hvT)]) 0 [] []) []=some (.bool false,
 [ltq (List.getD (List.map Qat (QaI s (QaF load 0) days t)) k.toNat default) (Wnt.may (List.getD (Qbl s (QaF load 0) days) k.toNat default))=true]++QnY B s load days t k dJ0):=by kernel_rfl
def Qoz (B:Lo) (s:Qaa) (load:List Int) (days:Int) (t:Qad) (k:Int) (dJ0:Nat->Value):List Prop:=[k=(↑k.toNat:Int)/\Int.toNat k < List.length (Qbl s (QaF load 0) days)/\Array.extract (Qac Qci (Qbl s (QaF load 0) days)) (Int.toNat k * TypeInfo.size Tryz.t81) (Int.toNat k * TypeInfo.size Tryz.t81+TypeInfo.size Tryz.t81)=(Qds s load days k),ltq (List.getD (List.map Qat (QaI s (QaF load 0) days t)) k.toNat default) (Wnt.may (List.getD (Qbl s (QaF load 0) days) k.toNat default))=false]++QnY B s load days t k dJ0
def Qtz (s:Qaa) (load:List Int) (days:Int) (t:Qad) (k:Int) (dJ0:Nat->Value):Qap:=Qte s load days t k dJ0++[(26,hvF),(32,Qai.tidx k.toNat (Qds s load days k))]
def QnE (B:Lo) (s:Qaa) (load:List Int) (days:Int) (t:Qad) (k:Int) (dJ0:Nat->Value):List Prop:=[k=(↑k.toNat:Int)/\Int.toNat k < List.length (List.map Qat (QaI s (QaF load 0) days t))/\Array.extract (Qac Qa1 (List.map Qat (QaI s (QaF load 0) days t))) (Int.toNat k * TypeInfo.size Tryz.t3) (Int.toNat k * TypeInfo.size Tryz.t3+TypeInfo.size Tryz.t3)=(Qdt s load days t k),(!ltq (Wnt.must (List.getD (Qbl s (QaF load 0) days) k.toNat default)) 0)=true]++Qoz B s load days t k dJ0
def Qtd (s:Qaa) (load:List Int) (days:Int) (t:Qad) (k:Int) (dJ0:Nat->Value):Qap:=Qtz s load days t k dJ0++[(35,hvT),(39,Qai.tidx k.toNat (Qdt s load days t k))]
theorem Q05 (B:Lo) (s:Qaa) (load:List Int) (days:Int) (t:Qad) (k:Int) (dJ0:Nat->Value):QaK (Qak Tryz.prog (Qaw Tryz.prog) J0 B 14 1 (Qa4 9 140 (([9,12,14]:List Nat).zip (Qcc s load days t k)) dJ0 Qcd) (Qa3 (QaR s load days t k)) (2+(QaR s load days t k).length)
 (Qtd s load days t k dJ0++[(41,hvT)]) 0 [] []) []=some (.bool false,
 [ltq (List.getD (List.map Qat (QaI s (QaF load 0) days t)) k.toNat default) 0=true]++QnE B s load days t k dJ0):=by kernel_rfl
def Qoh (B:Lo) (s:Qaa) (load:List Int) (days:Int) (t:Qad) (k:Int) (dJ0:Nat->Value):List Prop:=[k=(↑k.toNat:Int)/\Int.toNat k < List.length (Qbl s (QaF load 0) days)/\Array.extract (Qac Qci (Qbl s (QaF load 0) days)) (Int.toNat k * TypeInfo.size Tryz.t81) (Int.toNat k * TypeInfo.size Tryz.t81+TypeInfo.size Tryz.t81)=(Qds s load days k),k=(↑k.toNat:Int)/\Int.toNat k < List.length (List.map Qat (QaI s (QaF load 0) days t))/\Array.extract (Qac Qa1 (List.map Qat (QaI s (QaF load 0) days t))) (Int.toNat k * TypeInfo.size Tryz.t3) (Int.toNat k * TypeInfo.size Tryz.t3+TypeInfo.size Tryz.t3)=(Qdt s load days t k),ltq (List.getD (List.map Qat (QaI s (QaF load 0) days t)) k.toNat default) 0=false]++QnE B s load days t k dJ0
def QsC (s:Qaa) (load:List Int) (days:Int) (t:Qad) (k:Int) (dJ0:Nat->Value):Qap:=Qtd s load days t k dJ0++[(41,hvF),(45,Qai.tidx k.toNat (Qdt s load days t k)),(49,Qai.tidx k.toNat (Qds s load days k))]
theorem QzF (B:Lo) (s:Qaa) (load:List Int) (days:Int) (t:Qad) (k:Int) (dJ0:Nat->Value):QaK (Qak Tryz.prog (Qaw Tryz.prog) J0 B 14 1 (Qa4 9 140 (([9,12,14]:List Nat).zip (Qcc s load days t k)) dJ0 Qcd) (Qa3 (QaR s load days t k)) (2+(QaR s load days t k).length)
 (QsC s load days t k dJ0++[(52,hvT)]) 0 [] []) []=some (.bool false,
 [ltq (Wnt.must (List.getD (Qbl s (QaF load 0) days) k.toNat default)) (List.getD (List.map Qat (QaI s (QaF load 0) days t)) k.toNat default)=true]++Qoh B s load days t k dJ0):=by kernel_rfl
theorem QzW (B:Lo) (s:Qaa) (load:List Int) (days:Int) (t:Qad) (k:Int) (dJ0:Nat->Value):landM (Qak Tryz.prog (Qaw Tryz.prog) J0 B 14 1 (Qa4 9 140 (([9,12,14]:List Nat).zip (Qcc s load days t k)) dJ0 Qcd) (Qa3 (QaR s load days t k)) (2+(QaR s load days t k).length)
 (QsC s load days t k dJ0++[(52,hvF),(57,hvI (k+1))]) 0 [] []) [9,12,14] [] []=some ⟨9,140,Qcd,[],.run,none,Qcc s load days t (k+1),QaR s load days t (k+1),
 [wq (k+1)=k+1,ltq (Wnt.must (List.getD (Qbl s (QaF load 0) days) k.toNat default)) (List.getD (List.map Qat (QaI s (QaF load 0) days t)) k.toNat default)=false]++Qoh B s load days t k dJ0⟩:=by kernel_rfl
theorem Q07 (B:Lo) (s:Qaa) (load:List Int) (days:Int) (t:Qad) (k:Int) (dJ0:Nat->Value):landM (Qak Tryz.prog (Qaw Tryz.prog) J0 B 14 1 (Qa4 9 140 (([9,12,14]:List Nat).zip (Qcc s load days t k)) dJ0 Qcd) (Qa3 (QaR s load days t k)) (2+(QaR s load days t k).length)
 (Qtz s load days t k dJ0++[(35,hvF),(57,hvI (k+1))]) 0 [] []) [9,12,14] [] []=some ⟨9,140,Qcd,[],.run,none,Qcc s load days t (k+1),QaR s load days t (k+1),
 [wq (k+1)=k+1,(!ltq (Wnt.must (List.getD (Qbl s (QaF load 0) days) k.toNat default)) 0)=false]++Qoz B s load days t k dJ0⟩:=by kernel_rfl
def QnK (B:Lo) (s:Qaa) (load:List Int) (days:Int) (t:Qad) (k:Int) (dJ0:Nat->Value):List Prop:=[k=(↑k.toNat:Int)/\Int.toNat k < List.length (Qbl s (QaF load 0) days)/\Array.extract (Qac Qci (Qbl s (QaF load 0) days)) (Int.toNat k * TypeInfo.size Tryz.t81) (Int.toNat k * TypeInfo.size Tryz.t81+TypeInfo.size Tryz.t81)=(Qds s load days k),(!ltq (List.getD (List.map Qat (QaI s (QaF load 0) days t)) k.toNat default) 0)=false]++Qnq B s load days t k dJ0
def Qtt (s:Qaa) (load:List Int) (days:Int) (t:Qad) (k:Int) (dJ0:Nat->Value):Qap:=Qt5 s load days t k dJ0++[(8,hvF),(32,Qai.tidx k.toNat (Qds s load days k))]
def Qox (B:Lo) (s:Qaa) (load:List Int) (days:Int) (t:Qad) (k:Int) (dJ0:Nat->Value):List Prop:=[k=(↑k.toNat:Int)/\Int.toNat k < List.length (List.map Qat (QaI s (QaF load 0) days t))/\Array.extract (Qac Qa1 (List.map Qat (QaI s (QaF load 0) days t))) (Int.toNat k * TypeInfo.size Tryz.t3) (Int.toNat k * TypeInfo.size Tryz.t3+TypeInfo.size Tryz.t3)=(Qdt s load days t k),(!ltq (Wnt.must (List.getD (Qbl s (QaF load 0) days) k.toNat default)) 0)=true]++QnK B s load days t k dJ0
def QtG (s:Qaa) (load:List Int) (days:Int) (t:Qad) (k:Int) (dJ0:Nat->Value):Qap:=Qtt s load days t k dJ0++[(35,hvT),(39,Qai.tidx k.toNat (Qdt s load days t k))]
theorem Q1e (B:Lo) (s:Qaa) (load:List Int) (days:Int) (t:Qad) (k:Int) (dJ0:Nat->Value):QaK (Qak Tryz.prog (Qaw Tryz.prog) J0 B 14 1 (Qa4 9 140 (([9,12,14]:List Nat).zip (Qcc s load days t k)) dJ0 Qcd) (Qa3 (QaR s load days t k)) (2+(QaR s load days t k).length)
 (QtG s load days t k dJ0++[(41,hvT)]) 0 [] []) []=some (.bool false,
 [ltq (List.getD (List.map Qat (QaI s (QaF load 0) days t)) k.toNat default) 0=true]++Qox B s load days t k dJ0):=by kernel_rfl
def Qoq (B:Lo) (s:Qaa) (load:List Int) (days:Int) (t:Qad) (k:Int) (dJ0:Nat->Value):List Prop:=[k=(↑k.toNat:Int)/\Int.toNat k < List.length (Qbl s (QaF load 0) days)/\Array.extract (Qac Qci (Qbl s (QaF load 0) days)) (Int.toNat k * TypeInfo.size Tryz.t81) (Int.toNat k * TypeInfo.size Tryz.t81+TypeInfo.size Tryz.t81)=(Qds s load days k),k=(↑k.toNat:Int)/\Int.toNat k < List.length (List.map Qat (QaI s (QaF load 0) days t))/\Array.extract (Qac Qa1 (List.map Qat (QaI s (QaF load 0) days t))) (Int.toNat k * TypeInfo.size Tryz.t3) (Int.toNat k * TypeInfo.size Tryz.t3+TypeInfo.size Tryz.t3)=(Qdt s load days t k),ltq (List.getD (List.map Qat (QaI s (QaF load 0) days t)) k.toNat default) 0=false]++Qox B s load days t k dJ0
def QsY (s:Qaa) (load:List Int) (days:Int) (t:Qad) (k:Int) (dJ0:Nat->Value):Qap:=QtG s load days t k dJ0++[(41,hvF),(45,Qai.tidx k.toNat (Qdt s load days t k)),(49,Qai.tidx k.toNat (Qds s load days k))]
theorem Q02 (B:Lo) (s:Qaa) (load:List Int) (days:Int) (t:Qad) (k:Int) (dJ0:Nat->Value):QaK (Qak Tryz.prog (Qaw Tryz.prog) J0 B 14 1 (Qa4 9 140 (([9,12,14]:List Nat).zip (Qcc s load days t k)) dJ0 Qcd) (Qa3 (QaR s load days t k)) (2+(QaR s load days t k).length)
 (QsY s load days t k dJ0++[(52,hvT)]) 0 [] []) []=some (.bool false,
 [ltq (Wnt.must (List.getD (Qbl s (QaF load 0) days) k.toNat default)) (List.getD (List.map Qat (QaI s (QaF load 0) days t)) k.toNat default)=true]++Qoq B s load days t k dJ0):=by kernel_rfl
theorem Q0W (B:Lo) (s:Qaa) (load:List Int) (days:Int) (t:Qad) (k:Int) (dJ0:Nat->Value):landM (Qak Tryz.prog (Qaw Tryz.prog) J0 B 14 1 (Qa4 9 140 (([9,12,14]:List Nat).zip (Qcc s load days t k)) dJ0 Qcd) (Qa3 (QaR s load days t k)) (2+(QaR s load days t k).length)
 (QsY s load days t k dJ0++[(52,hvF),(57,hvI (k+1))]) 0 [] []) [9,12,14] [] []=some ⟨9,140,Qcd,[],.run,none,Qcc s load days t (k+1),QaR s load days t (k+1),
 [wq (k+1)=k+1,ltq (Wnt.must (List.getD (Qbl s (QaF load 0) days) k.toNat default)) (List.getD (List.map Qat (QaI s (QaF load 0) days t)) k.toNat default)=false]++Qoq B s load days t k dJ0⟩:=by kernel_rfl
theorem Q0h (B:Lo) (s:Qaa) (load:List Int) (days:Int) (t:Qad) (k:Int) (dJ0:Nat->Value):landM (Qak Tryz.prog (Qaw Tryz.prog) J0 B 14 1 (Qa4 9 140 (([9,12,14]:List Nat).zip (Qcc s load days t k)) dJ0 Qcd) (Qa3 (QaR s load days t k)) (2+(QaR s load days t k).length)
 (Qtt s load days t k dJ0++[(35,hvF),(57,hvI (k+1))]) 0 [] []) [9,12,14] [] []=some ⟨9,140,Qcd,[],.run,none,Qcc s load days t (k+1),QaR s load days t (k+1),
 [wq (k+1)=k+1,(!ltq (Wnt.must (List.getD (Qbl s (QaF load 0) days) k.toNat default)) 0)=false]++QnK B s load days t k dJ0⟩:=by kernel_rfl
theorem QxY (B:Lo) (s:Qaa) (load:List Int) (days:Int) (t:Qad) (k:Int) (dJ0:Nat->Value):QaK (Qak Tryz.prog (Qaw Tryz.prog) J0 B 9 1 (Qa4 9 140 (([9,12,14]:List Nat).zip (Qcc s load days t k)) dJ0 Qcd) (Qa3 (QaR s load days t k)) (2+(QaR s load days t k).length)
 [(3,hvF),(4,Qai.pure (.bool true) [])] 0 [] []) []=some (.bool true,
 [Qaz []/\Qao Tryz.prog J0 17 #[] (.bool true),ltq k (↑(List.length (List.map Qat (QaI s (QaF load 0) days t))):Int)=false]):=by kernel_rfl
def Qon (B:Lo) (s:Qaa) (load:List Int) (days:Int) (t:Qad):List Prop:=[Qaz []/\Qao Tryz.prog J0 36 #[.agg (Qip s)] (.bool true)]++([]:List Prop)
def QsA (s:Qaa) (load:List Int) (days:Int) (t:Qad):Qap:=[(4,Qai.pure (.bool true) [])]
theorem Qxl (B:Lo) (s:Qaa) (load:List Int) (days:Int) (t:Qad):QaK (Qak Tryz.prog (Qaw Tryz.prog) J0 B 10 1 (Qae Tryz.prog 9 140 (([.agg (Qah s).toArray,slI load,.int .i64 days,.agg (Qa2 t).toArray]).map (Qam 0 4))) H00 1
 (QsA s load days t++[(9,hvT),(30,Qai.pure (.bool true) [])]) 0 [] []) []=some (.bool true,
 [Qaz []/\Qao Tryz.prog J0 17 #[] (.bool true),ltq 10 (↑load.length:Int)=true]++Qon B s load days t):=by kernel_rfl
def Qks (B:Lo) (s:Qaa) (load:List Int) (days:Int) (t:Qad):List Prop:=[ltq 10 (↑load.length:Int)=false]++Qon B s load days t
def QpL (s:Qaa) (load:List Int) (days:Int) (t:Qad):Qap:=QsA s load days t++[(9,hvF)]
def Qg3 (B:Lo) (s:Qaa) (load:List Int) (days:Int) (t:Qad):List Prop:=[Qaz []/\Qao Tryz.prog J0 37 #[.agg (QhO t)] (.bool true)]++Qks B s load days t
def Qio (s:Qaa) (load:List Int) (days:Int) (t:Qad):Qap:=QpL s load days t++[(13,Qai.pure (.bool true) [])]
def QjY (B:Lo) (s:Qaa) (load:List Int) (days:Int) (t:Qad):List Prop:=[Qaz []/\Qao Tryz.prog J0 39 (Qic s load days) (.bool true)]++Qg3 B s load days t
def Qq8 (s:Qaa) (load:List Int) (days:Int) (t:Qad):Qap:=Qio s load days t++[(20,Qai.pure (.bool true) [])]
def Qlb (B:Lo) (s:Qaa) (load:List Int) (days:Int) (t:Qad):List Prop:=[Qaz []/\Qao Tryz.prog J0 43 (Qic s load days) (.tuple #[slT (List.length (Qbl s (QaF load 0) days)) (Qac Qci (Qbl s (QaF load 0) days)),.int .i64 0]),Qaz []/\Qao Tryz.prog J0 38 #[.agg (Qip s),slT load.length (Qac Qa1 load),.int .i64 days,.agg (QhO t)] (.tuple #[slT (List.length (List.map Qat (QaI s (QaF load 0) days t))) (Qac Qa1 (List.map Qat (QaI s (QaF load 0) days t))),slT (List.length (List.map Qg1 (QaI s (QaF load 0) days t))) (Qac Qa1 (List.map Qg1 (QaI s (QaF load 0) days t))),.int .i64 0]),Qaz []/\Qao Tryz.prog J0 40 #[.agg (Qip s),.int .i64 days,.agg (QhO t)] (.bool true)]++QjY B s load days t
def QoD (s:Qaa) (load:List Int) (days:Int) (t:Qad):Qap:=Qq8 s load days t++[(27,Qai.pure (.bool true) []),(34,Qai.pure (.tuple #[slT (List.length (List.map Qat (QaI s (QaF load 0) days t))) (Qac Qa1 (List.map Qat (QaI s (QaF load 0) days t))),slT (List.length (List.map Qg1 (QaI s (QaF load 0) days t))) (Qac Qa1 (List.map Qg1 (QaI s (QaF load 0) days t))),.int .i64 0]) []),(45,Qai.pure (.tuple #[slT (List.length (Qbl s (QaF load 0) days)) (Qac Qci (Qbl s (QaF load 0) days)),.int .i64 0]) [])]
theorem Qw7 (B:Lo) (s:Qaa) (load:List Int) (days:Int) (t:Qad):QaK (Qak Tryz.prog (Qaw Tryz.prog) J0 B 19 1 (Qae Tryz.prog 9 140 (([.agg (Qah s).toArray,slI load,.int .i64 days,.agg (Qa2 t).toArray]).map (Qam 0 4))) H00 1
 (QoD s load days t++[(63,hvT)]) 0 [] []) []=some (.bool false,
 [(!eqq (↑(List.length (List.map Qat (QaI s (QaF load 0) days t))):Int) (↑s.stock.length:Int))=true]++Qlb B s load days t):=by kernel_rfl
def QkR (B:Lo) (s:Qaa) (load:List Int) (days:Int) (t:Qad):List Prop:=[(!eqq (↑(List.length (List.map Qat (QaI s (QaF load 0) days t))):Int) (↑s.stock.length:Int))=false]++Qlb B s load days t
def Qqw (s:Qaa) (load:List Int) (days:Int) (t:Qad):Qap:=QoD s load days t++[(63,hvF)]
theorem QyD (B:Lo) (s:Qaa) (load:List Int) (days:Int) (t:Qad):QaK (Qak Tryz.prog (Qaw Tryz.prog) J0 B 19 1 (Qae Tryz.prog 9 140 (([.agg (Qah s).toArray,slI load,.int .i64 days,.agg (Qa2 t).toArray]).map (Qam 0 4))) H00 1
 (Qqw s load days t++[(71,hvT)]) 0 [] []) []=some (.bool false,
 [(!eqq (↑(List.length (Qbl s (QaF load 0) days)):Int) (↑s.stock.length:Int))=true]++QkR B s load days t):=by kernel_rfl
theorem Qyu (B:Lo) (s:Qaa) (load:List Int) (days:Int) (t:Qad):landM (Qak Tryz.prog (Qaw Tryz.prog) J0 B 21 1 (Qae Tryz.prog 9 140 (([.agg (Qah s).toArray,slI load,.int .i64 days,.agg (Qa2 t).toArray]).map (Qam 0 4))) H00 1
 (Qqw s load days t++[(71,hvF)]) 0 [] []) [9,12,14] [] []=some ⟨9,140,Qcd,[],.run,none,Qcc s load days t (0),QaR s load days t (0),
 [(!eqq (↑(List.length (Qbl s (QaF load 0) days)):Int) (↑s.stock.length:Int))=false]++QkR B s load days t⟩:=by kernel_rfl
theorem QxM (B:Lo) (s:Qaa) (load:List Int) (days:Int) (t:Qad):QaK (Qak Tryz.prog (Qaw Tryz.prog) J0 B 10 1 (Qae Tryz.prog 9 140 (([.agg (Qah s).toArray,slI load,.int .i64 days,.agg (Qa2 t).toArray]).map (Qam 0 4))) H00 1
 (Qq8 s load days t++[(27,Qai.pure (.bool false) []),(30,Qai.pure (.bool true) [])]) 0 [] []) []=some (.bool true,
 [Qaz []/\Qao Tryz.prog J0 17 #[] (.bool true),Qaz []/\Qao Tryz.prog J0 40 #[.agg (Qip s),.int .i64 days,.agg (QhO t)] (.bool false)]++QjY B s load days t):=by kernel_rfl
theorem Qxo (B:Lo) (s:Qaa) (load:List Int) (days:Int) (t:Qad):QaK (Qak Tryz.prog (Qaw Tryz.prog) J0 B 10 1 (Qae Tryz.prog 9 140 (([.agg (Qah s).toArray,slI load,.int .i64 days,.agg (Qa2 t).toArray]).map (Qam 0 4))) H00 1
 (Qio s load days t++[(20,Qai.pure (.bool false) []),(30,Qai.pure (.bool true) [])]) 0 [] []) []=some (.bool true,
 [Qaz []/\Qao Tryz.prog J0 17 #[] (.bool true),Qaz []/\Qao Tryz.prog J0 39 (Qic s load days) (.bool false)]++Qg3 B s load days t):=by kernel_rfl
theorem Qxf (B:Lo) (s:Qaa) (load:List Int) (days:Int) (t:Qad):QaK (Qak Tryz.prog (Qaw Tryz.prog) J0 B 10 1 (Qae Tryz.prog 9 140 (([.agg (Qah s).toArray,slI load,.int .i64 days,.agg (Qa2 t).toArray]).map (Qam 0 4))) H00 1
 (Qio s load days t++[(20,Qai.pure (.bool false) []),(30,Qai.pure (.bool true) [])]) 0 [] []) []=some (.bool true,
 [Qaz []/\Qao Tryz.prog J0 17 #[] (.bool true),Qaz []/\Qao Tryz.prog J0 39 (Qic s load days) (.bool false)]++Qg3 B s load days t):=by kernel_rfl
theorem QxA (B:Lo) (s:Qaa) (load:List Int) (days:Int) (t:Qad):QaK (Qak Tryz.prog (Qaw Tryz.prog) J0 B 10 1 (Qae Tryz.prog 9 140 (([.agg (Qah s).toArray,slI load,.int .i64 days,.agg (Qa2 t).toArray]).map (Qam 0 4))) H00 1
 (Qio s load days t++[(20,Qai.pure (.bool false) []),(30,Qai.pure (.bool true) [])]) 0 [] []) []=some (.bool true,
 [Qaz []/\Qao Tryz.prog J0 17 #[] (.bool true),Qaz []/\Qao Tryz.prog J0 39 (Qic s load days) (.bool false)]++Qg3 B s load days t):=by kernel_rfl
theorem Qw5 (B:Lo) (s:Qaa) (load:List Int) (days:Int) (t:Qad):QaK (Qak Tryz.prog (Qaw Tryz.prog) J0 B 10 1 (Qae Tryz.prog 9 140 (([.agg (Qah s).toArray,slI load,.int .i64 days,.agg (Qa2 t).toArray]).map (Qam 0 4))) H00 1
 (QpL s load days t++[(13,Qai.pure (.bool false) []),(30,Qai.pure (.bool true) [])]) 0 [] []) []=some (.bool true,
 [Qaz []/\Qao Tryz.prog J0 17 #[] (.bool true),Qaz []/\Qao Tryz.prog J0 37 #[.agg (QhO t)] (.bool false)]++Qks B s load days t):=by kernel_rfl
theorem QwD (B:Lo) (s:Qaa) (load:List Int) (days:Int) (t:Qad):QaK (Qak Tryz.prog (Qaw Tryz.prog) J0 B 10 1 (Qae Tryz.prog 9 140 (([.agg (Qah s).toArray,slI load,.int .i64 days,.agg (Qa2 t).toArray]).map (Qam 0 4))) H00 1
 [(4,Qai.pure (.bool false) []),(30,Qai.pure (.bool true) [])] 0 [] []) []=some (.bool true,
 [Qaz []/\Qao Tryz.prog J0 17 #[] (.bool true),Qaz []/\Qao Tryz.prog J0 36 #[.agg (Qip s)] (.bool false)]):=by kernel_rfl
set_option maxHeartbeats 4000000 in
theorem Q0b (s:Qaa) (load:List Int) (days:Int) (t:Qad)  (hfacts:s.stock.length<=9223372036854775807) {B:Lo} (hJ:∀w,B.has w->J0 w) {c0:CF}:∀m:Nat,(∀(k:Int),s.stock.length - k.toNat=m->∀(k0:0<=k) (hs:Qa0 s=true) (hl:QcF s load=true) (ht:Qbv s days t=true) (hd:0<=days/\days<=300),Q0S B c0 s load days t k->EndsT Tryz.prog B c0 (.bool true)):=by
 intro m0
 induction m0 using Nat.strongRecOn with
 | _ m0 ih0=>
   intro k hm0 k0 hs hl ht hd ⟨dJ0,hdJ0,hg0⟩
   have hgl:=Qfl (s:=s) (load:=QaF load 0) (days:=days) (t:=t)
   have hgm:((QaI s (QaF load 0) days t).map Qat).length=s.stock.length:=by rw [List.length_map,hgl]
   have hwl:=Qn3 (s:=s) (load:=QaF load 0) (days:=days)
   have hgl:=Qfl (s:=s) (load:=QaF load 0) (days:=days) (t:=t)
   have hgm:((QaI s (QaF load 0) days t).map Qat).length=s.stock.length:=by rw [List.length_map,hgl]
   have hwl:=Qn3 (s:=s) (load:=QaF load 0) (days:=days)
   by_cases q0:(k:Int) < ((↑(List.length (List.map Qat (QaI s (QaF load 0) days t))):Int))
   ·
    have hp0:Qaz (Qnq B s load days t k dJ0):=by
     have m1:=Qcv hs hl ht hd k0 (by omega)
     exact ⟨⟨by omega,by omega,(Qaj (z:=1) (fun _=> rfl) (by omega))⟩,⟨(Qbn q0),trivial⟩⟩
    by_cases q1:(0:Int)<=(List.getD (List.map Qat (QaI s (QaF load 0) days t)) k.toNat default)
    ·
     have hp1:Qaz (QnW B s load days t k dJ0):=by
      have m1:=Qcv hs hl ht hd k0 (by omega)
      exact ⟨⟨by omega,by omega,(Qaj (z:=2) (fun _=> rfl) (by omega))⟩,⟨(QbE q1),hp0⟩⟩
     by_cases q2:(Wnt.may (List.getD (Qbl s (QaF load 0) days) k.toNat default):Int) < (0)
     ·
      have m1:=Qcv hs hl ht hd k0 (by omega)
      exact (GoE.endsT okF hJ Qab hg0 (Q1s B s load days t k dJ0)
       ⟨(Qbn q2),hp1⟩).cast (by (exfalso;omega))
     ·
      have hp2:Qaz (QnY B s load days t k dJ0):=by
       have m1:=Qcv hs hl ht hd k0 (by omega)
       exact ⟨⟨by omega,by omega,(Qaj (z:=2) (fun _=> rfl) (by omega))⟩,⟨⟨by omega,by omega,(Qaj (z:=1) (fun _=> rfl) (by omega))⟩,⟨(Qbk (Int.not_lt.1 q2)),hp1⟩⟩⟩
      by_cases q3:(List.getD (List.map Qat (QaI s (QaF load 0) days t)) k.toNat default:Int) < (Wnt.may (List.getD (Qbl s (QaF load 0) days) k.toNat default))
      ·
       have m1:=Qcv hs hl ht hd k0 (by omega)
       exact (GoE.endsT okF hJ Qab hg0 (QzQ B s load days t k dJ0)
        ⟨(Qbn q3),hp2⟩).cast (by (exfalso;omega))
      ·
       have hp3:Qaz (Qoz B s load days t k dJ0):=by
        have m1:=Qcv hs hl ht hd k0 (by omega)
        exact ⟨⟨by omega,by omega,(Qaj (z:=2) (fun _=> rfl) (by omega))⟩,⟨(Qbk (Int.not_lt.1 q3)),hp2⟩⟩
       by_cases q4:(0:Int)<=(Wnt.must (List.getD (Qbl s (QaF load 0) days) k.toNat default))
       ·
        have hp4:Qaz (QnE B s load days t k dJ0):=by
         have m1:=Qcv hs hl ht hd k0 (by omega)
         exact ⟨⟨by omega,by omega,(Qaj (z:=1) (fun _=> rfl) (by omega))⟩,⟨(QbE q4),hp3⟩⟩
        by_cases q5:(List.getD (List.map Qat (QaI s (QaF load 0) days t)) k.toNat default:Int) < (0)
        ·
         have m1:=Qcv hs hl ht hd k0 (by omega)
         exact (GoE.endsT okF hJ Qab hg0 (Q05 B s load days t k dJ0)
          ⟨(Qbn q5),hp4⟩).cast (by (exfalso;omega))
        ·
         have hp5:Qaz (Qoh B s load days t k dJ0):=by
          have m1:=Qcv hs hl ht hd k0 (by omega)
          exact ⟨⟨by omega,by omega,(Qaj (z:=2) (fun _=> rfl) (by omega))⟩,⟨⟨by omega,by omega,(Qaj (z:=1) (fun _=> rfl) (by omega))⟩,⟨(Qbk (Int.not_lt.1 q5)),hp4⟩⟩⟩
         by_cases q6:(Wnt.must (List.getD (Qbl s (QaF load 0) days) k.toNat default):Int) < (List.getD (List.map Qat (QaI s (QaF load 0) days t)) k.toNat default)
         ·
          have m1:=Qcv hs hl ht hd k0 (by omega)
          exact (GoE.endsT okF hJ Qab hg0 (QzF B s load days t k dJ0)
           ⟨(Qbn q6),hp5⟩).cast (by (exfalso;omega))
         ·
          have m1:=Qcv hs hl ht hd k0 (by omega)
          exact ((ih0 _ (by omega)) (k+1) rfl (by omega) (by with_reducible assumption) (by with_reducible assumption) (by with_reducible assumption) (by with_reducible assumption)
           (hg0.landM okF hJ Qab (QzW B s load days t k dJ0)
           ⟨(QaV (by omega) (by omega)),⟨(Qbk (Int.not_lt.1 q6)),hp5⟩⟩ (by kernel_rfl) (by kernel_rfl))).cast (by rfl)
       ·
        have m1:=Qcv hs hl ht hd k0 (by omega)
        exact ((ih0 _ (by omega)) (k+1) rfl (by omega) (by with_reducible assumption) (by with_reducible assumption) (by with_reducible assumption) (by with_reducible assumption)
         (hg0.landM okF hJ Qab (Q07 B s load days t k dJ0)
         ⟨(QaV (by omega) (by omega)),⟨(QbD (Int.not_le.1 q4)),hp3⟩⟩ (by kernel_rfl) (by kernel_rfl))).cast (by rfl)
    ·
     have hp6:Qaz (QnK B s load days t k dJ0):=by
      have m1:=Qcv hs hl ht hd k0 (by omega)
      exact ⟨⟨by omega,by omega,(Qaj (z:=2) (fun _=> rfl) (by omega))⟩,⟨(QbD (Int.not_le.1 q1)),hp0⟩⟩
     by_cases q2:(0:Int)<=(Wnt.must (List.getD (Qbl s (QaF load 0) days) k.toNat default))
     ·
      have hp7:Qaz (Qox B s load days t k dJ0):=by
       have m1:=Qcv hs hl ht hd k0 (by omega)
       exact ⟨⟨by omega,by omega,(Qaj (z:=1) (fun _=> rfl) (by omega))⟩,⟨(QbE q2),hp6⟩⟩
      by_cases q3:(List.getD (List.map Qat (QaI s (QaF load 0) days t)) k.toNat default:Int) < (0)
      ·
       have m1:=Qcv hs hl ht hd k0 (by omega)
       exact (GoE.endsT okF hJ Qab hg0 (Q1e B s load days t k dJ0)
        ⟨(Qbn q3),hp7⟩).cast (by (exfalso;omega))
      ·
       have hp8:Qaz (Qoq B s load days t k dJ0):=by
        have m1:=Qcv hs hl ht hd k0 (by omega)
        exact ⟨⟨by omega,by omega,(Qaj (z:=2) (fun _=> rfl) (by omega))⟩,⟨⟨by omega,by omega,(Qaj (z:=1) (fun _=> rfl) (by omega))⟩,⟨(Qbk (Int.not_lt.1 q3)),hp7⟩⟩⟩
       by_cases q4:(Wnt.must (List.getD (Qbl s (QaF load 0) days) k.toNat default):Int) < (List.getD (List.map Qat (QaI s (QaF load 0) days t)) k.toNat default)
       ·
        have m1:=Qcv hs hl ht hd k0 (by omega)
        exact (GoE.endsT okF hJ Qab hg0 (Q02 B s load days t k dJ0)
         ⟨(Qbn q4),hp8⟩).cast (by (exfalso;omega))
       ·
        have m1:=Qcv hs hl ht hd k0 (by omega)
        exact ((ih0 _ (by omega)) (k+1) rfl (by omega) (by with_reducible assumption) (by with_reducible assumption) (by with_reducible assumption) (by with_reducible assumption)
         (hg0.landM okF hJ Qab (Q0W B s load days t k dJ0)
         ⟨(QaV (by omega) (by omega)),⟨(Qbk (Int.not_lt.1 q4)),hp8⟩⟩ (by kernel_rfl) (by kernel_rfl))).cast (by rfl)
     ·
      have m1:=Qcv hs hl ht hd k0 (by omega)
      exact ((ih0 _ (by omega)) (k+1) rfl (by omega) (by with_reducible assumption) (by with_reducible assumption) (by with_reducible assumption) (by with_reducible assumption)
       (hg0.landM okF hJ Qab (Q0h B s load days t k dJ0)
       ⟨(QaV (by omega) (by omega)),⟨(QbD (Int.not_le.1 q2)),hp6⟩⟩ (by kernel_rfl) (by kernel_rfl))).cast (by rfl)
   ·
    exact (GoE.endsT okF hJ Qab hg0 (QxY B s load days t k dJ0)
     ⟨⟨trivial,known⟩,⟨(Qbk (Int.not_lt.1 q0)),trivial⟩⟩).cast rfl
set_option maxHeartbeats 4000000 in
theorem Q29 (s:Qaa) (load:List Int) (days:Int) (t:Qad)  (hfacts:s.stock.length<=9223372036854775807) {B:Lo} (hJ:∀w,B.has w->J0 w):EndsT Tryz.prog B (Qae Tryz.prog 9 140 (([.agg (Qah s).toArray,slI load,.int .i64 days,.agg (Qa2 t).toArray]).map (Qam 0 4))) (.bool true):=by
 have hgl:=Qfl (s:=s) (load:=QaF load 0) (days:=days) (t:=t)
 have hgm:((QaI s (QaF load 0) days t).map Qat).length=s.stock.length:=by rw [List.length_map,hgl]
 have hwl:=Qn3 (s:=s) (load:=QaF load 0) (days:=days)
 cases q0:Qe6 s with
 | true=>
   have hp9:Qaz (Qon B s load days t):=by
    have hb:=Qbp ‹Qe6 s=true›
    exact ⟨⟨trivial,(by have t_:=Qww (s);rw [q0] at t_;exact t_)⟩,trivial⟩
   by_cases q1:(10:Int) < ((↑load.length:Int))
   ·
    exact (GoE.endsT okF hJ Qab GoE.start (Qxl B s load days t)
     ⟨⟨trivial,known⟩,⟨(Qbn q1),hp9⟩⟩).cast rfl
   ·
    have hp10:Qaz (Qks B s load days t):=by
     exact ⟨(Qbk (Int.not_lt.1 q1)),hp9⟩
    cases q2:Q1R t with
    | true=>
      have hp11:Qaz (Qg3 B s load days t):=by
       have hb:=Qbp ‹Qe6 s=true›
       exact ⟨⟨trivial,(by have t_:=Qya (t);rw [q2] at t_;exact t_)⟩,hp10⟩
      cases q3:Qa0 s with
      | true=>
        cases q4:QcF s load with
        | true=>
          cases q5:inB days 0 300 with
          | true=>
            have hp12:Qaz (QjY B s load days t):=by
             have hb:=Qbp ‹Qe6 s=true›
             have g2:=QaP.1 ‹inB days 0 300=true›
             exact ⟨⟨trivial,(by have t_:=Qo0 (s) (load) (days) (by with_reducible assumption) (by omega);rw [q3,q4,q5] at t_;exact t_)⟩,hp11⟩
            cases q6:Qbv s days t with
            | true=>
              have hp13:Qaz (Qlb B s load days t):=by
               have hb:=Qbp ‹Qe6 s=true›
               have g2:=QaP.1 ‹inB days 0 300=true›
               exact ⟨⟨trivial,(by have t_:=Q4X (s) (load) (days);rw [q3,q4,q5] at t_;exact t_)⟩,⟨⟨trivial,(by have t_:=Q5e (s) (load) (days) (t);rw [q3,q4,q5,q6] at t_;exact t_)⟩,⟨⟨trivial,(by have t_:=Qyn (s) (days) (t) (by with_reducible assumption);rw [q6] at t_;exact t_)⟩,hp12⟩⟩⟩
              by_cases q7:((↑(List.length (List.map Qat (QaI s (QaF load 0) days t))):Int):Int)≠((↑s.stock.length:Int))
              ·
               have hb:=Qbp ‹Qe6 s=true›
               have g2:=QaP.1 ‹inB days 0 300=true›
               exact (GoE.endsT okF hJ Qab GoE.start (Qw7 B s load days t)
                ⟨(Qju q7),hp13⟩).cast (by (exfalso;omega))
              ·
               have hp14:Qaz (QkR B s load days t):=by
                exact ⟨(Qjn (Decidable.of_not_not q7)),hp13⟩
               by_cases q8:((↑(List.length (Qbl s (QaF load 0) days)):Int):Int)≠((↑s.stock.length:Int))
               ·
                have hb:=Qbp ‹Qe6 s=true›
                have g2:=QaP.1 ‹inB days 0 300=true›
                exact (GoE.endsT okF hJ Qab GoE.start (QyD B s load days t)
                 ⟨(Qju q8),hp14⟩).cast (by (exfalso;omega))
               ·
                have hb:=Qbp ‹Qe6 s=true›
                have g2:=QaP.1 ‹inB days 0 300=true›
                exact ((Q0b s load days t hfacts hJ _) (0) rfl (by omega) (by with_reducible assumption) (by with_reducible assumption) (by with_reducible assumption) (by with_reducible assumption)
                 (GoE.start.landM okF hJ Qab (Qyu B s load days t)
                 ⟨(Qjn (Decidable.of_not_not q8)),hp14⟩ (by kernel_rfl) (by kernel_rfl))).cast (by rfl)
            | false=>
              have hb:=Qbp ‹Qe6 s=true›
              have g2:=QaP.1 ‹inB days 0 300=true›
              exact (GoE.endsT okF hJ Qab GoE.start (QxM B s load days t)
               ⟨⟨trivial,known⟩,⟨⟨trivial,(by have t_:=Qyn (s) (days) (t) (by with_reducible assumption);rw [q6] at t_;exact t_)⟩,hp12⟩⟩).cast rfl
          | false=>
            have hb:=Qbp ‹Qe6 s=true›
            exact (GoE.endsT okF hJ Qab GoE.start (Qxo B s load days t)
             ⟨⟨trivial,known⟩,⟨⟨trivial,(by have t_:=Qo0 (s) (load) (days) (by with_reducible assumption) (by omega);rw [q3,q4,q5] at t_;exact t_)⟩,hp11⟩⟩).cast rfl
        | false=>
          have hb:=Qbp ‹Qe6 s=true›
          exact (GoE.endsT okF hJ Qab GoE.start (Qxf B s load days t)
           ⟨⟨trivial,known⟩,⟨⟨trivial,(by have t_:=Qo0 (s) (load) (days) (by with_reducible assumption) (by omega);rw [q3,q4] at t_;exact t_)⟩,hp11⟩⟩).cast rfl
      | false=>
        have hb:=Qbp ‹Qe6 s=true›
        exact (GoE.endsT okF hJ Qab GoE.start (QxA B s load days t)
         ⟨⟨trivial,known⟩,⟨⟨trivial,(by have t_:=Qo0 (s) (load) (days) (by with_reducible assumption) (by omega);rw [q3] at t_;exact t_)⟩,hp11⟩⟩).cast rfl
    | false=>
      have hb:=Qbp ‹Qe6 s=true›
      exact (GoE.endsT okF hJ Qab GoE.start (Qw5 B s load days t)
       ⟨⟨trivial,known⟩,⟨⟨trivial,(by have t_:=Qya (t);rw [q2] at t_;exact t_)⟩,hp10⟩⟩).cast rfl
 | false=>
   exact (GoE.endsT okF hJ Qab GoE.start (QwD B s load days t)
    ⟨⟨trivial,known⟩,⟨⟨trivial,(by have t_:=Qww (s);rw [q0] at t_;exact t_)⟩,trivial⟩⟩).cast rfl
theorem Q4R (s:Qaa) (load:List Int) (days:Int) (t:Qad)  :Qao Tryz.prog J0 9 #[.agg (Qah s).toArray,slI load,.int .i64 days,.agg (Qa2 t).toArray] (.bool true):=
 QbW (ts:=[.agg (Qah s).toArray,slI load,.int .i64 days,.agg (Qa2 t).toArray]) (s.stock.length<=9223372036854775807) (fun _ _ ht=> ht.ln2 (i:=0) (j:=0) rfl rfl) Qbr (c0:=Qae Tryz.prog 9 140 (([.agg (Qah s).toArray,slI load,.int .i64 days,.agg (Qa2 t).toArray]).map (Qam 0 4))) (by kernel_rfl) (by kernel_rfl) fun hfacts B hJ=> Q29 s load days t  hfacts hJ
end
end Go.Proofs.YtiabgkiccaodmaaGreat

namespace Go.Proofs.YtiabgkiccaodmaaGreat
open Go Go.CE Go.RowKit
theorem Q08:∀trs,Qti [Ql9,.slice .int,.int,Qkh] trs->Qao Tryz.prog J0 9 trs.toArray (.bool true):=by
 rintro trs ⟨t0,_,rfl,h0,t1,_,rfl,h1,t2,_,rfl,h2,t3,_,rfl,h3,rfl⟩
 obtain ⟨s,rfl⟩:=QyK h0
 obtain ⟨l,rfl⟩:=Q1l h1
 obtain ⟨z,rfl⟩:=Q2h h2
 obtain ⟨t,rfl⟩:=Qzx h3
 exact Q4R s l z t
end Go.Proofs.YtiabgkiccaodmaaGreat

namespace Go.Proofs.YtiabgkiccaodmaaGreat
open Go Go.CE Go.ChangeShapes Go.WideShapes Go.RowKit
set_option maxRecDepth 100000 in
theorem Qls (os:Os) (started:os.Started) (H:Type) (enc:TypeId×Value->H):
 ReturnsInHanded {} Tryz.checked os 9 .any (Rows.shipTrueSpec.pre6 enc Tryz.prog Tryz.f9 Rows.shipTrueRow.domain false) (Rows.shipTrueSpec.post enc Tryz.prog Tryz.f9 false true false false):=by
 refine returnsInHanded_of_change (C:=Tryz.checked) (show ownKnob Tryz.prog.godebug=none by kernel_rfl) started (by kernel_rfl) Tryz.func9
  (ChangeSpec.witness6 (enc:=enc) (C:=Tryz.checked) false ⟨#[],#[Sh.zeroA Ql9,Sh.zeroA (.slice .int),Sh.zeroA .int,Sh.zeroA Qkh],[]⟩ 8 (by kernel_rfl) (by kernel_rfl) (by kernel_rfl) (by kernel_rfl)) ?_
 intro W base args ds gs before hval0 hW _ _
 have hval:∀(j:Nat) t v,Tryz.f9.params[j]? =some t->args[j]? =some v->Value.okWide Tryz.prog W .any base t v:=hval0
 have hW':=hW
 obtain ⟨p,q,hA0,hV,rfl,_,_⟩:=hW
 obtain ⟨rfl,rfl⟩:=trodVars_none hV
 have hA1:DataW.TrodAll enc Tryz.prog W 0 (fun _=> true) true Tryz.f9.params.toList args.toList ds p:=hA0
 have hlt:∀x∈p,x.block < W.heap.size:=fun x hx=> hW'.lt x (by simpa using hx)
 have hch:Qko Tryz.prog [Ql9,(.slice .int),.int,Qkh] Tryz.f9.params.toList=true:=by kernel_rfl
 have hrd:(Tryz.f9.params.toList.all fun t=> Tryz.prog.readableRec t && decide (t < Tryz.prog.types.size))=true:=by kernel_rfl
 refine (QzT (J:=J0) (ss:=[Ql9,(.slice .int),.int,Qkh]) trivial hch hA1 (fun j t v h1 h2=> hval j t v (by simpa using h1) h2) Q08).mono fun e W' ⟨he,hB⟩=> ?_
 subst he
 have hB2:=Qiz (show laidOutB Tryz.prog=true by kernel_rfl) hB _ _ _ _ hrd hA1 hlt
 have hA:DataW.TrodAll enc Tryz.prog W 0 (fun _=> true) true Tryz.f9.params.toList args.toList ds p:=hA1
 rw [Tryz.params9] at hA
 simp only [List.toList_toArray] at hA
 have hA:=hA
 obtain ⟨v0,vs0,d0,ds0,p0,q0,_,rfl,_,h0,_⟩:=CE.trodAll_cons hA
 obtain ⟨v1,vs1,d1,ds1,p1,q1,_,rfl,_,h1,_⟩:=CE.trodAll_cons h0
 obtain ⟨v2,vs2,d2,ds2,p2,q2,_,rfl,_,h2,_⟩:=CE.trodAll_cons h1
 obtain ⟨v3,vs3,d3,ds3,p3,q3,_,rfl,_,h3,_⟩:=CE.trodAll_cons h2
 obtain ⟨_,rfl,_⟩:=CE.trodAll_nil h3
 exact ⟨_,rfl,_,_,_,[],_,[],hW',trodAll_mk1 (shut_bool Tryz.underlying4 _),hB2,rfl,hB.frame _,fun h=> by cases h⟩
theorem shipTrue_row:Rows.ShipTrueSaid:=
 OpenClaim.holds_of_wide 9 Tryz.f9 rfl rfl rfl rfl rfl rfl rfl ⟨rfl,rfl,rfl,rfl,rfl⟩ rfl rfl rfl rfl rfl (by kernel_rfl) Tryz.func9 (by kernel_rfl)
  (of_decide_eq_true (by kernel_rfl)) (by unfold Func.isWrapper;first | (rw [if_pos (by decide+kernel)];kernel_rfl) | (rw [if_neg (by decide+kernel)];exact ⟨rfl,rfl⟩))
  (fun os started H enc _=> Qls os started H enc)
end Go.Proofs.YtiabgkiccaodmaaGreat
