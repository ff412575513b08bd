/- The reference's stores, loads and truths. -/
import Derived.Test.YtiabgkiccaodmaaGreatZWN11
set_option linter.all false
namespace Go.Proofs.YtiabgkiccaodmaaGreat
open Go Go.CE Go.RowKit
noncomputable section
set_option maxRecDepth 100000
theorem QbZ {α:Type} [Inhabited α] {l:List α} {i:Int} {p:α->Bool} (h0:0<=i) (h:i < l.length):(l.drop i.toNat).all p=(p (l.getD i.toNat default) && (l.drop (i+1).toNat).all p):=by
 obtain ⟨k,rfl⟩:∃k:Nat,i=k:=⟨i.toNat,by omega⟩
 have hk:k < l.length:=by omega
 have e1:((k:Int)).toNat=k:=by omega
 have e2:((k:Int)+1).toNat=k+1:=by omega
 rw [e1,e2,List.drop_eq_getElem_cons hk,List.all_cons]
 simp [List.getD_eq_getElem?_getD,hk]
theorem Qbc {α:Type} {l:List α} {i:Int} {p:α->Bool} (h:l.length<=i):(l.drop i.toNat).all p=true:=by
 rw [List.drop_eq_nil_of_le (by omega)];rfl
def Qqk (k:Nat) (l:Qad):Bool:=Qc5 l.goods 100000 && (decide (l.goods.length=k) && (inB l.weight 0 100000 && inB l.cost 0 1000000))
def storeT (s:Qaa):Bool:=inB s.stock.length 1 4 && (decide (s.use.length=s.stock.length) && (Qb2 s.glo s.ghi 1 60 && (decide (s.lots.length<=6) && inB s.hold 0 100000)))
def QsX (s:Qaa):Bool:=s.stock.all (fun x=> inB x 0 100000) && (Qc5 s.use 1000 && (s.lots.all (Qqk s.stock.length) && storeT s))
theorem QvU {s:Qaa}:QsX s=QaD s:=by
 have e:Qqk s.stock.length=Qnu s.stock.length:=by
  funext l;unfold Qqk Qnu
  cases Qc5 l.goods 100000 <;> cases decide (l.goods.length=s.stock.length) <;> rfl
 unfold QsX QaD storeT Qqr
 rw [e]
 cases inB s.stock.length 1 4 <;> cases s.stock.all (fun x=> inB x 0 100000) <;> cases decide (s.use.length=s.stock.length) <;> cases Qc5 s.use 1000 <;> cases Qb2 s.glo s.ghi 1 60 <;> cases decide (s.lots.length<=6) <;> cases s.lots.all (Qnu s.stock.length) <;> simp
def wtL (l:List Qad):Nat:=(l.map fun x=> x.goods.length+2).sum
theorem Q2O {l:List Qad} {i:Int} (h0:0<=i) (h:i < l.length):wtL (l.drop i.toNat)=(l.getD i.toNat default).goods.length+2+wtL (l.drop (i+1).toNat):=by
 obtain ⟨k,rfl⟩:∃k:Nat,i=k:=⟨i.toNat,by omega⟩
 have hk:k < l.length:=by omega
 have e1:((k:Int)).toNat=k:=by omega
 have e2:((k:Int)+1).toNat=k+1:=by omega
 rw [e1,e2,List.drop_eq_getElem_cons hk]
 unfold wtL
 rw [List.map_cons,List.sum_cons]
 simp [List.getD_eq_getElem?_getD,hk]
def QfE (s:Qaa) (i:Int):List Value:=[pA 2 0,.int .i64 i]
def Qdh (s:Qaa) (i:Int):List Obj:=[Obj.cells #[Qay 1 (slT s.stock.length (Qab Qag s.stock)),Qay 1 (slT s.use.length (Qab Qa3 s.use)),.int .i64 s.glo,.int .i64 s.ghi,Qay 1 (slT s.lots.length (Qab Qao s.lots)),.int .i64 s.hold] 62]
def Qf4:List Item:=([.code [1,0,1,0,0],.inLoop [1,0,1,0,0],.inBlock 0,.code [1,1]]).map (it (Qaq Tryz.prog 44))
def Qyx (B:Lo) (c0:CF) (s:Qaa) (i:Int):Prop:=∃dJ:Nat->Value,(∀t,QaP (dJ t))/\GoE Tryz.prog B c0 H00 1 (Qa2 44 110 (([1,3]:List Nat).zip (QfE s i)) dJ Qf4) (Qaz (Qdh s i)) (2+(Qdh s i).length) []
def Qfx (s:Qaa) (i:Int):List Value:=[pA 2 0,.int .i64 i]
def Qda (s:Qaa) (i:Int):List Obj:=[Obj.cells #[Qay 1 (slT s.stock.length (Qab Qag s.stock)),Qay 1 (slT s.use.length (Qab Qa3 s.use)),.int .i64 s.glo,.int .i64 s.ghi,Qay 1 (slT s.lots.length (Qab Qao s.lots)),.int .i64 s.hold] 62]
def Qft:List Item:=([.code [1,1,0,1,0,0],.inLoop [1,1,0,1,0,0],.inBlock 2,.code [1,1,1]]).map (it (Qaq Tryz.prog 44))
def QxV (B:Lo) (c0:CF) (s:Qaa) (i:Int):Prop:=∃dJ:Nat->Value,(∀t,QaP (dJ t))/\GoE Tryz.prog B c0 H00 1 (Qa2 44 110 (([1,4]:List Nat).zip (Qfx s i)) dJ Qft) (Qaz (Qda s i)) (2+(Qda s i).length) []
def Qdd (s:Qaa) (i:Int):List Value:=[pA 2 0,.int .i64 i]
def Qbr (s:Qaa) (i:Int):List Obj:=[Obj.cells #[Qay 1 (slT s.stock.length (Qab Qag s.stock)),Qay 1 (slT s.use.length (Qab Qa3 s.use)),.int .i64 s.glo,.int .i64 s.ghi,Qay 1 (slT s.lots.length (Qab Qao s.lots)),.int .i64 s.hold] 62]
def Qdg:List Item:=([.code [1,1,1,0,1,0,0],.inLoop [1,1,1,0,1,0,0],.inBlock 4,.code [1,1,1,1]]).map (it (Qaq Tryz.prog 44))
def QxW (B:Lo) (c0:CF) (s:Qaa) (i:Int):Prop:=∃dJ:Nat->Value,(∀t,QaP (dJ t))/\GoE Tryz.prog B c0 H00 1 (Qa2 44 110 (([1,5]:List Nat).zip (Qdd s i)) dJ Qdg) (Qaz (Qbr s i)) (2+(Qbr s i).length) []
def QdI (s:Qaa) (i j:Int):List Value:=[pA 2 0,.int .i64 i,pA 3 0,.int .i64 j]
def Qb6 (s:Qaa) (i j:Int):List Obj:=[Obj.cells #[Qay 1 (slT s.stock.length (Qab Qag s.stock)),Qay 1 (slT s.use.length (Qab Qa3 s.use)),.int .i64 s.glo,.int .i64 s.ghi,Qay 1 (slT s.lots.length (Qab Qao s.lots)),.int .i64 s.hold] 62,Obj.cells #[Qay 1 (slT (List.length (Qad.goods (s.lots.getD i.toNat default))) (Qab Qa3 (Qad.goods (s.lots.getD i.toNat default)))),.int .i64 (Qad.weight (s.lots.getD i.toNat default)),.int .i64 (Qad.cost (s.lots.getD i.toNat default))] 118]
def Qd3:List Item:=([.code [1,1,1,0,1,0,0,1,0,0,1,0,1,0,0],.inLoop [1,1,1,0,1,0,0,1,0,0,1,0,1,0,0],.inBlock 6,.code [1,1,1,0,1,0,0,1,0,0,1,1],.inBlock 5,.code [1,1,1,0,1,0,0,1,1],.inLoop [1,1,1,0,1,0,0],.inBlock 4,.code [1,1,1,1]]).map (it (Qaq Tryz.prog 44))
def QyN (B:Lo) (c0:CF) (s:Qaa) (i j:Int):Prop:=∃dJ:Nat->Value,(∀t,QaP (dJ t))/\GoE Tryz.prog B c0 H00 1 (Qa2 44 110 (([1,5,6,7]:List Nat).zip (QdI s i j)) dJ Qd3) (Qaz (Qb6 s i j)) (2+(Qb6 s i j).length) []
def Ql2 (B:Lo) (s:Qaa) (i:Int) (dJ0:Nat->Value):List Prop:=[i=(↑i.toNat:Int)/\Int.toNat i < List.length s.stock/\Array.extract (Qab Qag s.stock) (Int.toNat i * TypeInfo.size Tryz.t3) (Int.toNat i * TypeInfo.size Tryz.t3+TypeInfo.size Tryz.t3)=#[.int .i64 (s.stock.getD i.toNat default)],ltq i (↑s.stock.length:Int)=true]++([]:List Prop)
def QqL (s:Qaa) (i:Int) (dJ0:Nat->Value):Qa7:=[(4,hvT),(8,Qah.tidx i.toNat #[.int .i64 (s.stock.getD i.toNat default)])]
theorem Qy8 (B:Lo) (s:Qaa) (i:Int) (dJ0:Nat->Value):landM (Qan Tryz.prog (Qa6 Tryz.prog) J0 B 14 1 (Qa2 44 110 (([1,3]:List Nat).zip (QfE s i)) dJ0 Qf4) (Qaz (Qdh s i)) (2+(Qdh s i).length)
 (QqL s i dJ0++[(10,Qah.pure (.bool true) []),(13,hvI (i+1))]) 0 [] []) [1,3] [(2,KS.auto)] []=some ⟨44,110,Qf4,[],.run,none,QfE s (i+1),Qdh s (i+1),
 [wq (i+1)=i+1,QaB []/\Qau Tryz.prog J0 69 #[.int .i64 (s.stock.getD i.toNat default),.int .i64 0,.int .i64 100000] (.bool true)]++Ql2 B s i dJ0⟩:=by kernel_rfl
theorem QyR (B:Lo) (s:Qaa) (i:Int) (dJ0:Nat->Value):Qbe (Qan Tryz.prog (Qa6 Tryz.prog) J0 B 14 1 (Qa2 44 110 (([1,3]:List Nat).zip (QfE s i)) dJ0 Qf4) (Qaz (Qdh s i)) (2+(Qdh s i).length)
 (QqL s i dJ0++[(10,Qah.pure (.bool false) [])]) 0 [] []) []=some (.bool false,
 [QaB []/\Qau Tryz.prog J0 69 #[.int .i64 (s.stock.getD i.toNat default),.int .i64 0,.int .i64 100000] (.bool false)]++Ql2 B s i dJ0):=by kernel_rfl
theorem Qwr (B:Lo) (s:Qaa) (i:Int) (dJ0:Nat->Value):landM (Qan Tryz.prog (Qa6 Tryz.prog) J0 B 10 1 (Qa2 44 110 (([1,3]:List Nat).zip (QfE s i)) dJ0 Qf4) (Qaz (Qdh s i)) (2+(Qdh s i).length)
 [(4,hvF)] 0 [] []) [1,4] [(2,KS.auto)] []=some ⟨44,110,Qft,[],.run,none,Qfx s (0),Qda s (0),
 [ltq i (↑s.stock.length:Int)=false]⟩:=by kernel_rfl
def Qlu (B:Lo) (s:Qaa) (i:Int) (dJ0:Nat->Value):List Prop:=[i=(↑i.toNat:Int)/\Int.toNat i < List.length s.use/\Array.extract (Qab Qa3 s.use) (Int.toNat i * TypeInfo.size Tryz.t25) (Int.toNat i * TypeInfo.size Tryz.t25+TypeInfo.size Tryz.t25)=#[.int .i64 (Span.lo (s.use.getD i.toNat default)),.int .i64 (Span.hi (s.use.getD i.toNat default))],ltq i (↑s.use.length:Int)=true]++([]:List Prop)
def Qrl (s:Qaa) (i:Int) (dJ0:Nat->Value):Qa7:=[(4,hvT),(8,Qah.tidx i.toNat #[.int .i64 (Span.lo (s.use.getD i.toNat default)),.int .i64 (Span.hi (s.use.getD i.toNat default))])]
theorem Qw7 (B:Lo) (s:Qaa) (i:Int) (dJ0:Nat->Value):landM (Qan Tryz.prog (Qa6 Tryz.prog) J0 B 14 1 (Qa2 44 110 (([1,4]:List Nat).zip (Qfx s i)) dJ0 Qft) (Qaz (Qda s i)) (2+(Qda s i).length)
 (Qrl s i dJ0++[(10,Qah.pure (.bool true) []),(13,hvI (i+1))]) 0 [] []) [1,4] [(2,KS.auto)] []=some ⟨44,110,Qft,[],.run,none,Qfx s (i+1),Qda s (i+1),
 [wq (i+1)=i+1,QaB []/\Qau Tryz.prog J0 70 #[.agg #[.int .i64 (Span.lo (s.use.getD i.toNat default)),.int .i64 (Span.hi (s.use.getD i.toNat default))],.int .i64 0,.int .i64 1000] (.bool true)]++Qlu B s i dJ0⟩:=by kernel_rfl
theorem Qwf (B:Lo) (s:Qaa) (i:Int) (dJ0:Nat->Value):Qbe (Qan Tryz.prog (Qa6 Tryz.prog) J0 B 14 1 (Qa2 44 110 (([1,4]:List Nat).zip (Qfx s i)) dJ0 Qft) (Qaz (Qda s i)) (2+(Qda s i).length)
 (Qrl s i dJ0++[(10,Qah.pure (.bool false) [])]) 0 [] []) []=some (.bool false,
 [QaB []/\Qau Tryz.prog J0 70 #[.agg #[.int .i64 (Span.lo (s.use.getD i.toNat default)),.int .i64 (Span.hi (s.use.getD i.toNat default))],.int .i64 0,.int .i64 1000] (.bool false)]++Qlu B s i dJ0):=by kernel_rfl
theorem Qyn (B:Lo) (s:Qaa) (i:Int) (dJ0:Nat->Value):landM (Qan Tryz.prog (Qa6 Tryz.prog) J0 B 10 1 (Qa2 44 110 (([1,4]:List Nat).zip (Qfx s i)) dJ0 Qft) (Qaz (Qda s i)) (2+(Qda s i).length)
 [(4,hvF)] 0 [] []) [1,5] [(2,KS.auto)] []=some ⟨44,110,Qdg,[],.run,none,Qdd s (0),Qbr s (0),
 [ltq i (↑s.use.length:Int)=false]⟩:=by kernel_rfl
theorem QxT (B:Lo) (s:Qaa) (i:Int) (dJ0:Nat->Value):landM (Qan Tryz.prog (Qa6 Tryz.prog) J0 B 14 1 (Qa2 44 110 (([1,5]:List Nat).zip (Qdd s i)) dJ0 Qdg) (Qaz (Qbr s i)) (2+(Qbr s i).length)
 [(4,hvT),(8,Qah.tidx i.toNat #[slT (List.length (Qad.goods (s.lots.getD i.toNat default))) (Qab Qa3 (Qad.goods (s.lots.getD i.toNat default))),.int .i64 (Qad.weight (s.lots.getD i.toNat default)),.int .i64 (Qad.cost (s.lots.getD i.toNat default))])] 0 [] []) [1,5,6,7] [(2,KS.auto),(3,KS.auto)] []=some ⟨44,110,Qd3,[],.run,none,QdI s (i) (0),Qb6 s (i) (0),
 [i=(↑i.toNat:Int)/\Int.toNat i < List.length s.lots/\Array.extract (Qab Qao s.lots) (Int.toNat i * TypeInfo.size Tryz.t118) (Int.toNat i * TypeInfo.size Tryz.t118+TypeInfo.size Tryz.t118)=#[slT (List.length (Qad.goods (s.lots.getD i.toNat default))) (Qab Qa3 (Qad.goods (s.lots.getD i.toNat default))),.int .i64 (Qad.weight (s.lots.getD i.toNat default)),.int .i64 (Qad.cost (s.lots.getD i.toNat default))],ltq i (↑s.lots.length:Int)=true]⟩:=by kernel_rfl
def QlA (B:Lo) (s:Qaa) (i:Int) (dJ0:Nat->Value):List Prop:=[ltq i (↑s.lots.length:Int)=false]++([]:List Prop)
def Qpt (s:Qaa) (i:Int) (dJ0:Nat->Value):Qa7:=[(4,hvF)]
def QmH (B:Lo) (s:Qaa) (i:Int) (dJ0:Nat->Value):List Prop:=[QaB []/\Qau Tryz.prog J0 69 #[.int .i64 (↑s.stock.length:Int),.int .i64 1,.int .i64 4] (.bool true)]++QlA B s i dJ0
def QpB (s:Qaa) (i:Int) (dJ0:Nat->Value):Qa7:=Qpt s i dJ0++[(8,Qah.pure (.bool true) [])]
def Qms (B:Lo) (s:Qaa) (i:Int) (dJ0:Nat->Value):List Prop:=[eqq (↑s.use.length:Int) (↑s.stock.length:Int)=true]++QmH B s i dJ0
def Qqj (s:Qaa) (i:Int) (dJ0:Nat->Value):Qa7:=QpB s i dJ0++[(16,hvT)]
def Qm5 (B:Lo) (s:Qaa) (i:Int) (dJ0:Nat->Value):List Prop:=[QaB []/\Qau Tryz.prog J0 30 #[.agg #[.int .i64 s.glo,.int .i64 s.ghi]] (.bool true)]++Qms B s i dJ0
def Qqg (s:Qaa) (i:Int) (dJ0:Nat->Value):Qa7:=Qqj s i dJ0++[(21,Qah.pure (.bool true) [])]
def QlH (B:Lo) (s:Qaa) (i:Int) (dJ0:Nat->Value):List Prop:=[(!ltq 6 (↑s.lots.length:Int))=true]++Qm5 B s i dJ0
def QpO (s:Qaa) (i:Int) (dJ0:Nat->Value):Qa7:=Qqg s i dJ0++[(27,hvT)]
theorem Qwc (B:Lo) (s:Qaa) (i:Int) (dJ0:Nat->Value):Qbe (Qan Tryz.prog (Qa6 Tryz.prog) J0 B 9 1 (Qa2 44 110 (([1,5]:List Nat).zip (Qdd s i)) dJ0 Qdg) (Qaz (Qbr s i)) (2+(Qbr s i).length)
 (QpO s i dJ0++[(32,Qah.pure (.bool true) [])]) 0 [] []) []=some (.bool true,
 [QaB []/\Qau Tryz.prog J0 69 #[.int .i64 s.hold,.int .i64 0,.int .i64 100000] (.bool true)]++QlH B s i dJ0):=by kernel_rfl
theorem QyD (B:Lo) (s:Qaa) (i:Int) (dJ0:Nat->Value):Qbe (Qan Tryz.prog (Qa6 Tryz.prog) J0 B 9 1 (Qa2 44 110 (([1,5]:List Nat).zip (Qdd s i)) dJ0 Qdg) (Qaz (Qbr s i)) (2+(Qbr s i).length)
 (QpO s i dJ0++[(32,Qah.pure (.bool false) [])]) 0 [] []) []=some (.bool false,
 [QaB []/\Qau Tryz.prog J0 69 #[.int .i64 s.hold,.int .i64 0,.int .i64 100000] (.bool false)]++QlH B s i dJ0):=by kernel_rfl
theorem Qwy (B:Lo) (s:Qaa) (i:Int) (dJ0:Nat->Value):Qbe (Qan Tryz.prog (Qa6 Tryz.prog) J0 B 9 1 (Qa2 44 110 (([1,5]:List Nat).zip (Qdd s i)) dJ0 Qdg) (Qaz (Qbr s i)) (2+(Qbr s i).length)
 (Qqg s i dJ0++[(27,hvF)]) 0 [] []) []=some (.bool false,
 [(!ltq 6 (↑s.lots.length:Int))=false]++Qm5 B s i dJ0):=by kernel_rfl
theorem Qvc (B:Lo) (s:Qaa) (i:Int) (dJ0:Nat->Value):Qbe (Qan Tryz.prog (Qa6 Tryz.prog) J0 B 9 1 (Qa2 44 110 (([1,5]:List Nat).zip (Qdd s i)) dJ0 Qdg) (Qaz (Qbr s i)) (2+(Qbr s i).length)
 (Qqj s i dJ0++[(21,Qah.pure (.bool false) [])]) 0 [] []) []=some (.bool false,
 [QaB []/\Qau Tryz.prog J0 30 #[.agg #[.int .i64 s.glo,.int .i64 s.ghi]] (.bool false)]++Qms B s i dJ0):=by kernel_rfl
theorem Qvr (B:Lo) (s:Qaa) (i:Int) (dJ0:Nat->Value):Qbe (Qan Tryz.prog (Qa6 Tryz.prog) J0 B 9 1 (Qa2 44 110 (([1,5]:List Nat).zip (Qdd s i)) dJ0 Qdg) (Qaz (Qbr s i)) (2+(Qbr s i).length)
 (QpB s i dJ0++[(16,hvF)]) 0 [] []) []=some (.bool false,
 [eqq (↑s.use.length:Int) (↑s.stock.length:Int)=false]++QmH B s i dJ0):=by kernel_rfl
theorem QuE (B:Lo) (s:Qaa) (i:Int) (dJ0:Nat->Value):Qbe (Qan Tryz.prog (Qa6 Tryz.prog) J0 B 9 1 (Qa2 44 110 (([1,5]:List Nat).zip (Qdd s i)) dJ0 Qdg) (Qaz (Qbr s i)) (2+(Qbr s i).length)
 (Qpt s i dJ0++[(8,Qah.pure (.bool false) [])]) 0 [] []) []=some (.bool false,
 [QaB []/\Qau Tryz.prog J0 69 #[.int .i64 (↑s.stock.length:Int),.int .i64 1,.int .i64 4] (.bool false)]++QlA B s i dJ0):=by kernel_rfl
def Qm0 (B:Lo) (s:Qaa) (i j:Int) (dJ0:Nat->Value):List Prop:=[j=(↑j.toNat:Int)/\Int.toNat j < List.length (Qad.goods (s.lots.getD i.toNat default))/\Array.extract (Qab Qa3 (Qad.goods (s.lots.getD i.toNat default))) (Int.toNat j * TypeInfo.size Tryz.t25) (Int.toNat j * TypeInfo.size Tryz.t25+TypeInfo.size Tryz.t25)=#[.int .i64 (Span.lo (List.getD (Qad.goods (s.lots.getD i.toNat default)) j.toNat default)),.int .i64 (Span.hi (List.getD (Qad.goods (s.lots.getD i.toNat default)) j.toNat default))],ltq j (↑(List.length (Qad.goods (s.lots.getD i.toNat default))):Int)=true]++([]:List Prop)
def Qqx (s:Qaa) (i j:Int) (dJ0:Nat->Value):Qa7:=[(4,hvT),(8,Qah.tidx j.toNat #[.int .i64 (Span.lo (List.getD (Qad.goods (s.lots.getD i.toNat default)) j.toNat default)),.int .i64 (Span.hi (List.getD (Qad.goods (s.lots.getD i.toNat default)) j.toNat default))])]
theorem Qup (B:Lo) (s:Qaa) (i j:Int) (dJ0:Nat->Value):landM (Qan Tryz.prog (Qa6 Tryz.prog) J0 B 14 1 (Qa2 44 110 (([1,5,6,7]:List Nat).zip (QdI s i j)) dJ0 Qd3) (Qaz (Qb6 s i j)) (2+(Qb6 s i j).length)
 (Qqx s i j dJ0++[(10,Qah.pure (.bool true) []),(13,hvI (j+1))]) 0 [] []) [1,5,6,7] [(2,KS.auto),(3,KS.auto)] []=some ⟨44,110,Qd3,[],.run,none,QdI s (i) (j+1),Qb6 s (i) (j+1),
 [wq (j+1)=j+1,QaB []/\Qau Tryz.prog J0 70 #[.agg #[.int .i64 (Span.lo (List.getD (Qad.goods (s.lots.getD i.toNat default)) j.toNat default)),.int .i64 (Span.hi (List.getD (Qad.goods (s.lots.getD i.toNat default)) j.toNat default))],.int .i64 0,.int .i64 100000] (.bool true)]++Qm0 B s i j dJ0⟩:=by kernel_rfl
theorem Qvd (B:Lo) (s:Qaa) (i j:Int) (dJ0:Nat->Value):Qbe (Qan Tryz.prog (Qa6 Tryz.prog) J0 B 14 1 (Qa2 44 110 (([1,5,6,7]:List Nat).zip (QdI s i j)) dJ0 Qd3) (Qaz (Qb6 s i j)) (2+(Qb6 s i j).length)
 (Qqx s i j dJ0++[(10,Qah.pure (.bool false) [])]) 0 [] []) []=some (.bool false,
 [QaB []/\Qau Tryz.prog J0 70 #[.agg #[.int .i64 (Span.lo (List.getD (Qad.goods (s.lots.getD i.toNat default)) j.toNat default)),.int .i64 (Span.hi (List.getD (Qad.goods (s.lots.getD i.toNat default)) j.toNat default))],.int .i64 0,.int .i64 100000] (.bool false)]++Qm0 B s i j dJ0):=by kernel_rfl
def QkU (B:Lo) (s:Qaa) (i j:Int) (dJ0:Nat->Value):List Prop:=[ltq j (↑(List.length (Qad.goods (s.lots.getD i.toNat default))):Int)=false]++([]:List Prop)
def Qpv (s:Qaa) (i j:Int) (dJ0:Nat->Value):Qa7:=[(4,hvF)]
theorem QtB (B:Lo) (s:Qaa) (i j:Int) (dJ0:Nat->Value):Qbe (Qan Tryz.prog (Qa6 Tryz.prog) J0 B 12 1 (Qa2 44 110 (([1,5,6,7]:List Nat).zip (QdI s i j)) dJ0 Qd3) (Qaz (Qb6 s i j)) (2+(Qb6 s i j).length)
 (Qpv s i j dJ0++[(11,hvT)]) 0 [] []) []=some (.bool false,
 [(!eqq (↑(List.length (Qad.goods (s.lots.getD i.toNat default))):Int) (↑s.stock.length:Int))=true]++QkU B s i j dJ0):=by kernel_rfl
def Qlc (B:Lo) (s:Qaa) (i j:Int) (dJ0:Nat->Value):List Prop:=[(!eqq (↑(List.length (Qad.goods (s.lots.getD i.toNat default))):Int) (↑s.stock.length:Int))=false]++QkU B s i j dJ0
def Qqu (s:Qaa) (i j:Int) (dJ0:Nat->Value):Qa7:=Qpv s i j dJ0++[(11,hvF)]
def Qjo (B:Lo) (s:Qaa) (i j:Int) (dJ0:Nat->Value):List Prop:=[QaB []/\Qau Tryz.prog J0 69 #[.int .i64 (Qad.weight (s.lots.getD i.toNat default)),.int .i64 0,.int .i64 100000] (.bool true)]++Qlc B s i j dJ0
def Qnw (s:Qaa) (i j:Int) (dJ0:Nat->Value):Qa7:=Qqu s i j dJ0++[(15,Qah.pure (.bool true) [])]
theorem Quo (B:Lo) (s:Qaa) (i j:Int) (dJ0:Nat->Value):landM (Qan Tryz.prog (Qa6 Tryz.prog) J0 B 12 1 (Qa2 44 110 (([1,5,6,7]:List Nat).zip (QdI s i j)) dJ0 Qd3) (Qaz (Qb6 s i j)) (2+(Qb6 s i j).length)
 (Qnw s i j dJ0++[(21,Qah.pure (.bool true) []),(25,hvI (i+1))]) 0 [] []) [1,5] [(2,KS.auto)] []=some ⟨44,110,Qdg,[],.run,none,Qdd s (i+1),Qbr s (i+1),
 [wq (i+1)=i+1,QaB []/\Qau Tryz.prog J0 69 #[.int .i64 (Qad.cost (s.lots.getD i.toNat default)),.int .i64 0,.int .i64 1000000] (.bool true)]++Qjo B s i j dJ0⟩:=by kernel_rfl
theorem Quh (B:Lo) (s:Qaa) (i j:Int) (dJ0:Nat->Value):Qbe (Qan Tryz.prog (Qa6 Tryz.prog) J0 B 12 1 (Qa2 44 110 (([1,5,6,7]:List Nat).zip (QdI s i j)) dJ0 Qd3) (Qaz (Qb6 s i j)) (2+(Qb6 s i j).length)
 (Qnw s i j dJ0++[(21,Qah.pure (.bool false) [])]) 0 [] []) []=some (.bool false,
 [QaB []/\Qau Tryz.prog J0 69 #[.int .i64 (Qad.cost (s.lots.getD i.toNat default)),.int .i64 0,.int .i64 1000000] (.bool false)]++Qjo B s i j dJ0):=by kernel_rfl
theorem QuZ (B:Lo) (s:Qaa) (i j:Int) (dJ0:Nat->Value):Qbe (Qan Tryz.prog (Qa6 Tryz.prog) J0 B 12 1 (Qa2 44 110 (([1,5,6,7]:List Nat).zip (QdI s i j)) dJ0 Qd3) (Qaz (Qb6 s i j)) (2+(Qb6 s i j).length)
 (Qqu s i j dJ0++[(15,Qah.pure (.bool false) [])]) 0 [] []) []=some (.bool false,
 [QaB []/\Qau Tryz.prog J0 69 #[.int .i64 (Qad.weight (s.lots.getD i.toNat default)),.int .i64 0,.int .i64 100000] (.bool false)]++Qlc B s i j dJ0):=by kernel_rfl
theorem Qu3 (B:Lo) (s:Qaa):landM (Qan Tryz.prog (Qa6 Tryz.prog) J0 B 7 1 (Qal Tryz.prog 44 110 (([.agg (Qap s).toArray]).map (Qav 0 4))) H00 1
 [] 0 [] []) [1,3] [(1,KS.auto)] []=some ⟨44,110,Qf4,[],.run,none,QfE s (0),Qdh s (0),
 []⟩:=by kernel_rfl
set_option maxHeartbeats 4000000 in
theorem QvQ (s:Qaa) (hb:∀l∈s.lots,l.goods.length<=8) (hfacts:s.stock.length<=9223372036854775807/\s.use.length<=9223372036854775807/\s.lots.length<=9223372036854775807) {B:Lo} (hJ:∀w,B.has w->J0 w) {c0:CF}:∀m:Nat,(∀(i:Int),(s.stock.length - i.toNat)+s.use.length+wtL s.lots+9=m->∀(h0:0<=i),Qyx B c0 s i->EndsT Tryz.prog B c0 (.bool ((s.stock.drop i.toNat).all (fun x=> inB x 0 100000) && (Qc5 s.use 1000 && (s.lots.all (Qqk s.stock.length) && storeT s)))))/\(∀(i:Int),(s.use.length - i.toNat)+wtL s.lots+8=m->∀(h0:0<=i),QxV B c0 s i->EndsT Tryz.prog B c0 (.bool ((s.use.drop i.toNat).all (fun s=> Qb2 s.lo s.hi 0 1000) && (s.lots.all (Qqk s.stock.length) && storeT s))))/\(∀(i:Int),wtL (s.lots.drop i.toNat)+1=m->∀(h0:0<=i),QxW B c0 s i->EndsT Tryz.prog B c0 (.bool ((s.lots.drop i.toNat).all (Qqk s.stock.length) && storeT s)))/\(∀(i j:Int),((s.lots.getD i.toNat default).goods.length - j.toNat)+wtL (s.lots.drop (i+1).toNat)+2=m->∀(h0:0<=i) (h1:i < s.lots.length) (j0:0<=j),QyN B c0 s i j->EndsT Tryz.prog B c0 (.bool ((((s.lots.getD i.toNat default).goods.drop j.toNat).all (fun s=> Qb2 s.lo s.hi 0 100000) && (decide ((s.lots.getD i.toNat default).goods.length=s.stock.length) && (inB (s.lots.getD i.toNat default).weight 0 100000 && inB (s.lots.getD i.toNat default).cost 0 1000000))) && ((s.lots.drop (i+1).toNat).all (Qqk s.stock.length) && storeT s)))):=by
 intro m0
 induction m0 using Nat.strongRecOn with
 | _ m0 ih0=>
   refine ⟨?_, ?_, ?_, ?_⟩
   ·intro i hm0 h0 ⟨dJ0,hdJ0,hg0⟩
    by_cases q0:(i:Int) < ((↑s.stock.length:Int))
    ·
     have hp0:QaB (Ql2 B s i dJ0):=by
      have s2:=QbZ (l:=s.stock) (p:=fun x=> inB x 0 100000) h0 q0
      exact ⟨⟨by omega,by omega,(Qae (z:=1) (fun _=> rfl) (by omega))⟩,⟨(QaW q0),trivial⟩⟩
     cases q1:inB (s.stock.getD i.toNat default) 0 100000 with
     | true=>
       have s2:=QbZ (l:=s.stock) (p:=fun x=> inB x 0 100000) h0 q0
       exact ((ih0 _ (by omega)).1 (i+1) rfl (by omega)
        (hg0.landM okF hJ Qac (Qy8 B s i dJ0)
        ⟨(QaM (by omega) (by omega)),⟨⟨trivial,(by have t_:=rin (s.stock.getD i.toNat default) (0) (100000);rw [q1] at t_;exact t_)⟩,hp0⟩⟩ (by kernel_rfl) (by kernel_rfl))).cast (by (simp only [s2,q1,Bool.true_and,Bool.false_and];done))
     | false=>
       have s2:=QbZ (l:=s.stock) (p:=fun x=> inB x 0 100000) h0 q0
       exact (GoE.endsT okF hJ Qac hg0 (QyR B s i dJ0)
        ⟨⟨trivial,(by have t_:=rin (s.stock.getD i.toNat default) (0) (100000);rw [q1] at t_;exact t_)⟩,hp0⟩).cast (by (simp only [s2,q1,Bool.true_and,Bool.false_and];done))
    ·
     have s2:=Qbc (l:=s.stock) (p:=fun x=> inB x 0 100000) (i:=i) (by omega)
     exact ((ih0 _ (by (first | omega | (simp only [Int.toNat_zero,List.drop_zero];omega)))).2.1 (0) rfl (by omega)
      (hg0.landM okF hJ Qac (Qwr B s i dJ0)
      ⟨(Qbb (Int.not_lt.1 q0)),trivial⟩ (by kernel_rfl) (by kernel_rfl))).cast (by (simp only [s2,Qc5,Int.toNat_zero,List.drop_zero,Bool.true_and];done))
   ·intro i hm0 h0 ⟨dJ0,hdJ0,hg0⟩
    by_cases q0:(i:Int) < ((↑s.use.length:Int))
    ·
     have hp1:QaB (Qlu B s i dJ0):=by
      have s2:=QbZ (l:=s.use) (p:=fun s=> Qb2 s.lo s.hi 0 1000) h0 q0
      have m2:wtL (s.lots.drop (Int.toNat 0))=wtL s.lots:=rfl
      exact ⟨⟨by omega,by omega,(Qae (z:=2) (fun _=> rfl) (by omega))⟩,⟨(QaW q0),trivial⟩⟩
     cases q1:Qb2 (Span.lo (s.use.getD i.toNat default)) (Span.hi (s.use.getD i.toNat default)) 0 1000 with
     | true=>
       have s2:=QbZ (l:=s.use) (p:=fun s=> Qb2 s.lo s.hi 0 1000) h0 q0
       have m2:wtL (s.lots.drop (Int.toNat 0))=wtL s.lots:=rfl
       exact ((ih0 _ (by (first | omega | (simp only [Int.toNat_zero,List.drop_zero];omega)))).2.1 (i+1) rfl (by omega)
        (hg0.landM okF hJ Qac (Qw7 B s i dJ0)
        ⟨(QaM (by omega) (by omega)),⟨⟨trivial,(by have t_:=Quw (Span.lo (s.use.getD i.toNat default)) (Span.hi (s.use.getD i.toNat default)) (0) (1000);rw [q1] at t_;exact t_)⟩,hp1⟩⟩ (by kernel_rfl) (by kernel_rfl))).cast (by (simp only [s2,q1,Bool.true_and,Bool.false_and];done))
     | false=>
       have s2:=QbZ (l:=s.use) (p:=fun s=> Qb2 s.lo s.hi 0 1000) h0 q0
       have m2:wtL (s.lots.drop (Int.toNat 0))=wtL s.lots:=rfl
       exact (GoE.endsT okF hJ Qac hg0 (Qwf B s i dJ0)
        ⟨⟨trivial,(by have t_:=Quw (Span.lo (s.use.getD i.toNat default)) (Span.hi (s.use.getD i.toNat default)) (0) (1000);rw [q1] at t_;exact t_)⟩,hp1⟩).cast (by (simp only [s2,q1,Bool.true_and,Bool.false_and];done))
    ·
     have s2:=Qbc (l:=s.use) (p:=fun s=> Qb2 s.lo s.hi 0 1000) (i:=i) (by omega)
     have m2:wtL (s.lots.drop (Int.toNat 0))=wtL s.lots:=rfl
     exact ((ih0 _ (by (first | omega | (simp only [Int.toNat_zero,List.drop_zero];omega)))).2.2.1 (0) rfl (by omega)
      (hg0.landM okF hJ Qac (Qyn B s i dJ0)
      ⟨(Qbb (Int.not_lt.1 q0)),trivial⟩ (by kernel_rfl) (by kernel_rfl))).cast (by (simp only [s2,Int.toNat_zero,List.drop_zero,Bool.true_and];done))
   ·intro i hm0 h0 ⟨dJ0,hdJ0,hg0⟩
    by_cases q0:(i:Int) < ((↑s.lots.length:Int))
    ·
     have s2:=QbZ (l:=s.lots) (p:=Qqk s.stock.length) h0 q0
     have s3:=Q2O (l:=s.lots) h0 q0
     exact ((ih0 _ (by omega)).2.2.2 (i) (0) rfl (by with_reducible assumption) (by with_reducible assumption) (by omega)
      (hg0.landM okF hJ Qac (QxT B s i dJ0)
      ⟨⟨by omega,by omega,(Qae (z:=3) (fun _=> rfl) (by omega))⟩,⟨(QaW q0),trivial⟩⟩ (by kernel_rfl) (by kernel_rfl))).cast (by (simp only [s2,Qqk,Qc5,Int.toNat_zero,List.drop_zero,Bool.and_assoc];done))
    ·
     have hp2:QaB (QlA B s i dJ0):=by
      exact ⟨(Qbb (Int.not_lt.1 q0)),trivial⟩
     cases q1:inB (↑s.stock.length:Int) 1 4 with
     | true=>
       have hp3:QaB (QmH B s i dJ0):=by
        have s2:=Qbc (l:=s.lots) (p:=Qqk s.stock.length) (i:=i) (by omega)
        exact ⟨⟨trivial,(by have t_:=rin ((↑s.stock.length:Int)) (1) (4);rw [q1] at t_;exact t_)⟩,hp2⟩
       by_cases q2:((↑s.use.length:Int):Int)=((↑s.stock.length:Int))
       ·
        have hp4:QaB (Qms B s i dJ0):=by
         exact ⟨(Quc q2),hp3⟩
        cases q3:Qb2 s.glo s.ghi 1 60 with
        | true=>
          have hp5:QaB (Qm5 B s i dJ0):=by
           have s2:=Qbc (l:=s.lots) (p:=Qqk s.stock.length) (i:=i) (by omega)
           exact ⟨⟨trivial,(by have t_:=Q5H s.glo s.ghi;rw [q3] at t_;exact t_)⟩,hp4⟩
          by_cases q4:((↑s.lots.length:Int):Int)<=(6)
          ·
           have hp6:QaB (QlH B s i dJ0):=by
            exact ⟨(Qdu q4),hp5⟩
           cases q5:inB s.hold 0 100000 with
           | true=>
             have s2:=Qbc (l:=s.lots) (p:=Qqk s.stock.length) (i:=i) (by omega)
             exact (GoE.endsT okF hJ Qac hg0 (Qwc B s i dJ0)
              ⟨⟨trivial,(by have t_:=rin s.hold (0) (100000);rw [q5] at t_;exact t_)⟩,hp6⟩).cast (by (rw [s2];simp_all [storeT];omega))
           | false=>
             have s2:=Qbc (l:=s.lots) (p:=Qqk s.stock.length) (i:=i) (by omega)
             exact (GoE.endsT okF hJ Qac hg0 (QyD B s i dJ0)
              ⟨⟨trivial,(by have t_:=rin s.hold (0) (100000);rw [q5] at t_;exact t_)⟩,hp6⟩).cast (by (rw [s2];simp [storeT, *];done))
          ·
           have s2:=Qbc (l:=s.lots) (p:=Qqk s.stock.length) (i:=i) (by omega)
           exact (GoE.endsT okF hJ Qac hg0 (Qwy B s i dJ0)
            ⟨(Qdn (Int.not_le.1 q4)),hp5⟩).cast (by (rw [s2];simp_all [storeT];omega))
        | false=>
          have s2:=Qbc (l:=s.lots) (p:=Qqk s.stock.length) (i:=i) (by omega)
          exact (GoE.endsT okF hJ Qac hg0 (Qvc B s i dJ0)
           ⟨⟨trivial,(by have t_:=Q5H s.glo s.ghi;rw [q3] at t_;exact t_)⟩,hp4⟩).cast (by (rw [s2];simp [storeT, *];done))
       ·
        have s2:=Qbc (l:=s.lots) (p:=Qqk s.stock.length) (i:=i) (by omega)
        exact (GoE.endsT okF hJ Qac hg0 (Qvr B s i dJ0)
         ⟨(QtU q2),hp3⟩).cast (by (rw [s2];simp_all [storeT];omega))
     | false=>
       have s2:=Qbc (l:=s.lots) (p:=Qqk s.stock.length) (i:=i) (by omega)
       exact (GoE.endsT okF hJ Qac hg0 (QuE B s i dJ0)
        ⟨⟨trivial,(by have t_:=rin ((↑s.stock.length:Int)) (1) (4);rw [q1] at t_;exact t_)⟩,hp2⟩).cast (by (rw [s2];simp [storeT, *];done))
   ·intro i j hm0 h0 h1 j0 ⟨dJ0,hdJ0,hg0⟩
    have hgl:=hb _ (QaI h0 h1)
    by_cases q0:(j:Int) < ((↑(List.length (Qad.goods (s.lots.getD i.toNat default))):Int))
    ·
     have hp7:QaB (Qm0 B s i j dJ0):=by
      have s2:=QbZ (l:=(s.lots.getD i.toNat default).goods) (p:=fun s=> Qb2 s.lo s.hi 0 100000) j0 q0
      exact ⟨⟨by omega,by omega,(Qae (z:=2) (fun _=> rfl) (by omega))⟩,⟨(QaW q0),trivial⟩⟩
     cases q1:Qb2 (Span.lo (List.getD (Qad.goods (s.lots.getD i.toNat default)) j.toNat default)) (Span.hi (List.getD (Qad.goods (s.lots.getD i.toNat default)) j.toNat default)) 0 100000 with
     | true=>
       have s2:=QbZ (l:=(s.lots.getD i.toNat default).goods) (p:=fun s=> Qb2 s.lo s.hi 0 100000) j0 q0
       exact ((ih0 _ (by omega)).2.2.2 (i) (j+1) rfl (by with_reducible assumption) (by with_reducible assumption) (by omega)
        (hg0.landM okF hJ Qac (Qup B s i j dJ0)
        ⟨(QaM (by omega) (by omega)),⟨⟨trivial,(by have t_:=Quw (Span.lo (List.getD (Qad.goods (s.lots.getD i.toNat default)) j.toNat default)) (Span.hi (List.getD (Qad.goods (s.lots.getD i.toNat default)) j.toNat default)) (0) (100000);rw [q1] at t_;exact t_)⟩,hp7⟩⟩ (by kernel_rfl) (by kernel_rfl))).cast (by (simp only [s2,q1,Bool.true_and,Bool.false_and];done))
     | false=>
       have s2:=QbZ (l:=(s.lots.getD i.toNat default).goods) (p:=fun s=> Qb2 s.lo s.hi 0 100000) j0 q0
       exact (GoE.endsT okF hJ Qac hg0 (Qvd B s i j dJ0)
        ⟨⟨trivial,(by have t_:=Quw (Span.lo (List.getD (Qad.goods (s.lots.getD i.toNat default)) j.toNat default)) (Span.hi (List.getD (Qad.goods (s.lots.getD i.toNat default)) j.toNat default)) (0) (100000);rw [q1] at t_;exact t_)⟩,hp7⟩).cast (by (simp only [s2,q1,Bool.true_and,Bool.false_and];done))
    ·
     have hp8:QaB (QkU B s i j dJ0):=by
      exact ⟨(Qbb (Int.not_lt.1 q0)),trivial⟩
     by_cases q1:((↑(List.length (Qad.goods (s.lots.getD i.toNat default))):Int):Int)≠((↑s.stock.length:Int))
     ·
      have s2:=Qbc (l:=(s.lots.getD i.toNat default).goods) (p:=fun s=> Qb2 s.lo s.hi 0 100000) (i:=j) (by omega)
      exact (GoE.endsT okF hJ Qac hg0 (QtB B s i j dJ0)
       ⟨(Q2y q1),hp8⟩).cast (by (simp only [s2,Bool.true_and];simp_all;omega))
     ·
      have hp9:QaB (Qlc B s i j dJ0):=by
       exact ⟨(Q2c (Decidable.of_not_not q1)),hp8⟩
      cases q2:inB (Qad.weight (s.lots.getD i.toNat default)) 0 100000 with
      | true=>
        have hp10:QaB (Qjo B s i j dJ0):=by
         have s2:=Qbc (l:=(s.lots.getD i.toNat default).goods) (p:=fun s=> Qb2 s.lo s.hi 0 100000) (i:=j) (by omega)
         exact ⟨⟨trivial,(by have t_:=rin (Qad.weight (s.lots.getD i.toNat default)) (0) (100000);rw [q2] at t_;exact t_)⟩,hp9⟩
        cases q3:inB (Qad.cost (s.lots.getD i.toNat default)) 0 1000000 with
        | true=>
          have s2:=Qbc (l:=(s.lots.getD i.toNat default).goods) (p:=fun s=> Qb2 s.lo s.hi 0 100000) (i:=j) (by omega)
          exact ((ih0 _ (by omega)).2.2.1 (i+1) rfl (by omega)
           (hg0.landM okF hJ Qac (Quo B s i j dJ0)
           ⟨(QaM (by omega) (by omega)),⟨⟨trivial,(by have t_:=rin (Qad.cost (s.lots.getD i.toNat default)) (0) (1000000);rw [q3] at t_;exact t_)⟩,hp10⟩⟩ (by kernel_rfl) (by kernel_rfl))).cast (by (simp only [s2,Bool.true_and];simp_all;omega))
        | false=>
          have s2:=Qbc (l:=(s.lots.getD i.toNat default).goods) (p:=fun s=> Qb2 s.lo s.hi 0 100000) (i:=j) (by omega)
          exact (GoE.endsT okF hJ Qac hg0 (Quh B s i j dJ0)
           ⟨⟨trivial,(by have t_:=rin (Qad.cost (s.lots.getD i.toNat default)) (0) (1000000);rw [q3] at t_;exact t_)⟩,hp10⟩).cast (by (simp only [s2,Bool.true_and];simp [*];done))
      | false=>
        have s2:=Qbc (l:=(s.lots.getD i.toNat default).goods) (p:=fun s=> Qb2 s.lo s.hi 0 100000) (i:=j) (by omega)
        exact (GoE.endsT okF hJ Qac hg0 (QuZ B s i j dJ0)
         ⟨⟨trivial,(by have t_:=rin (Qad.weight (s.lots.getD i.toNat default)) (0) (100000);rw [q2] at t_;exact t_)⟩,hp9⟩).cast (by (simp only [s2,Bool.true_and];simp [*];done))
set_option maxHeartbeats 4000000 in
theorem Q0S (s:Qaa) (hb:∀l∈s.lots,l.goods.length<=8) (hfacts:s.stock.length<=9223372036854775807/\s.use.length<=9223372036854775807/\s.lots.length<=9223372036854775807) {B:Lo} (hJ:∀w,B.has w->J0 w):EndsT Tryz.prog B (Qal Tryz.prog 44 110 (([.agg (Qap s).toArray]).map (Qav 0 4))) (.bool (QsX s)):=by
 exact ((QvQ s hb hfacts hJ _).1 (0) rfl (by omega)
  (GoE.start.landM okF hJ Qac (Qu3 B s)
  trivial (by kernel_rfl) (by kernel_rfl))).cast (by rfl)
theorem Q4o (s:Qaa) (hb:∀l∈s.lots,l.goods.length<=8):Qau Tryz.prog J0 44 #[.agg (Qap s).toArray] (.bool (QsX s)):=
 QcY (ts:=[.agg (Qap s).toArray]) (s.stock.length<=9223372036854775807/\s.use.length<=9223372036854775807/\s.lots.length<=9223372036854775807) (fun _ _ ht=> ⟨ht.ln2 (i:=0) (j:=0) rfl rfl,ht.ln2 (i:=0) (j:=1) rfl rfl,ht.ln2 (i:=0) (j:=4) rfl rfl⟩) Qbw (c0:=Qal Tryz.prog 44 110 (([.agg (Qap s).toArray]).map (Qav 0 4))) (by kernel_rfl) (by kernel_rfl) fun hfacts B hJ=> Q0S s hb hfacts hJ
def Qch (s:Qaa) (i:Int):List Value:=[pA 2 0,.int .i64 i]
def QaZ (s:Qaa) (i:Int):List Obj:=[Obj.cells #[Qay 1 (slT s.stock.length (Qab Qag s.stock)),Qay 1 (slT s.use.length (Qab Qa3 s.use)),.int .i64 s.glo,.int .i64 s.ghi,Qay 1 (slT s.lots.length (Qab Qao s.lots)),.int .i64 s.hold] 62]
def Qcg:List Item:=([.code [1,0,1,0,0],.inLoop [1,0,1,0,0],.inBlock 0,.code [1,1]]).map (it (Qaq Tryz.prog 36))
def QvD (B:Lo) (c0:CF) (s:Qaa) (i:Int):Prop:=∃dJ:Nat->Value,(∀t,QaP (dJ t))/\GoE Tryz.prog B c0 H00 1 (Qa2 36 39 (([1,3]:List Nat).zip (Qch s i)) dJ Qcg) (Qaz (QaZ s i)) (2+(QaZ s i).length) []
def Qly (B:Lo) (s:Qaa) (i:Int) (dJ0:Nat->Value):List Prop:=[ltq i (↑s.lots.length:Int)=true]++([]:List Prop)
def Qps (s:Qaa) (i:Int) (dJ0:Nat->Value):Qa7:=[(4,hvT)]
def Qlf (B:Lo) (s:Qaa) (i:Int) (dJ0:Nat->Value):List Prop:=[i=(↑i.toNat:Int)/\Int.toNat i < List.length s.lots/\Array.extract (Qab Qao s.lots) (Int.toNat i * TypeInfo.size Tryz.t118) (Int.toNat i * TypeInfo.size Tryz.t118+TypeInfo.size Tryz.t118)=#[slT (List.length (Qad.goods (s.lots.getD i.toNat default))) (Qab Qa3 (Qad.goods (s.lots.getD i.toNat default))),.int .i64 (Qad.weight (s.lots.getD i.toNat default)),.int .i64 (Qad.cost (s.lots.getD i.toNat default))],ltq i 12=true]++Qly B s i dJ0
def Qpu (s:Qaa) (i:Int) (dJ0:Nat->Value):Qa7:=Qps s i dJ0++[(7,hvT),(12,Qah.tidx i.toNat #[slT (List.length (Qad.goods (s.lots.getD i.toNat default))) (Qab Qa3 (Qad.goods (s.lots.getD i.toNat default))),.int .i64 (Qad.weight (s.lots.getD i.toNat default)),.int .i64 (Qad.cost (s.lots.getD i.toNat default))])]
theorem QwI (B:Lo) (s:Qaa) (i:Int) (dJ0:Nat->Value):Qbe (Qan Tryz.prog (Qa6 Tryz.prog) J0 B 14 1 (Qa2 36 39 (([1,3]:List Nat).zip (Qch s i)) dJ0 Qcg) (Qaz (QaZ s i)) (2+(QaZ s i).length)
 (Qpu s i dJ0++[(16,hvT)]) 0 [] []) []=some (.bool false,
 [ltq 8 (↑(List.length (Qad.goods (s.lots.getD i.toNat default))):Int)=true]++Qlf B s i dJ0):=by kernel_rfl
theorem QyY (B:Lo) (s:Qaa) (i:Int) (dJ0:Nat->Value):landM (Qan Tryz.prog (Qa6 Tryz.prog) J0 B 14 1 (Qa2 36 39 (([1,3]:List Nat).zip (Qch s i)) dJ0 Qcg) (Qaz (QaZ s i)) (2+(QaZ s i).length)
 (Qpu s i dJ0++[(16,hvF),(18,hvI (i+1))]) 0 [] []) [1,3] [(2,KS.auto)] []=some ⟨36,39,Qcg,[],.run,none,Qch s (i+1),QaZ s (i+1),
 [wq (i+1)=i+1,ltq 8 (↑(List.length (Qad.goods (s.lots.getD i.toNat default))):Int)=false]++Qlf B s i dJ0⟩:=by kernel_rfl
def Ql8 (B:Lo) (s:Qaa) (i:Int) (dJ0:Nat->Value):List Prop:=[ltq i 12=false]++Qly B s i dJ0
def Qru (s:Qaa) (i:Int) (dJ0:Nat->Value):Qa7:=Qps s i dJ0++[(7,hvF)]
def QlI (B:Lo) (s:Qaa) (i:Int) (dJ0:Nat->Value):List Prop:=[(!ltq 8 (↑s.stock.length:Int))=true]++Ql8 B s i dJ0
def Qrf (s:Qaa) (i:Int) (dJ0:Nat->Value):Qa7:=Qru s i dJ0++[(12,hvT)]
def QlK (B:Lo) (s:Qaa) (i:Int) (dJ0:Nat->Value):List Prop:=[(!ltq 8 (↑s.use.length:Int))=true]++QlI B s i dJ0
def Qq7 (s:Qaa) (i:Int) (dJ0:Nat->Value):Qa7:=Qrf s i dJ0++[(17,hvT)]
theorem Qwa (B:Lo) (s:Qaa) (i:Int) (dJ0:Nat->Value):Qbe (Qan Tryz.prog (Qa6 Tryz.prog) J0 B 9 1 (Qa2 36 39 (([1,3]:List Nat).zip (Qch s i)) dJ0 Qcg) (Qaz (QaZ s i)) (2+(QaZ s i).length)
 (Qq7 s i dJ0++[(23,hvT)]) 0 [] []) []=some (.bool true,
 [(!ltq 9 (↑s.lots.length:Int))=true]++QlK B s i dJ0):=by kernel_rfl
theorem QvY (B:Lo) (s:Qaa) (i:Int) (dJ0:Nat->Value):Qbe (Qan Tryz.prog (Qa6 Tryz.prog) J0 B 9 1 (Qa2 36 39 (([1,3]:List Nat).zip (Qch s i)) dJ0 Qcg) (Qaz (QaZ s i)) (2+(QaZ s i).length)
 (Qq7 s i dJ0++[(23,hvF)]) 0 [] []) []=some (.bool false,
 [(!ltq 9 (↑s.lots.length:Int))=false]++QlK B s i dJ0):=by kernel_rfl
theorem Qw8 (B:Lo) (s:Qaa) (i:Int) (dJ0:Nat->Value):Qbe (Qan Tryz.prog (Qa6 Tryz.prog) J0 B 9 1 (Qa2 36 39 (([1,3]:List Nat).zip (Qch s i)) dJ0 Qcg) (Qaz (QaZ s i)) (2+(QaZ s i).length)
 (Qrf s i dJ0++[(17,hvF)]) 0 [] []) []=some (.bool false,
 [(!ltq 8 (↑s.use.length:Int))=false]++QlI B s i dJ0):=by kernel_rfl
theorem QvR (B:Lo) (s:Qaa) (i:Int) (dJ0:Nat->Value):Qbe (Qan Tryz.prog (Qa6 Tryz.prog) J0 B 9 1 (Qa2 36 39 (([1,3]:List Nat).zip (Qch s i)) dJ0 Qcg) (Qaz (QaZ s i)) (2+(QaZ s i).length)
 (Qru s i dJ0++[(12,hvF)]) 0 [] []) []=some (.bool false,
 [(!ltq 8 (↑s.stock.length:Int))=false]++Ql8 B s i dJ0):=by kernel_rfl
def Ql3 (B:Lo) (s:Qaa) (i:Int) (dJ0:Nat->Value):List Prop:=[ltq i (↑s.lots.length:Int)=false]++([]:List Prop)
def Qqp (s:Qaa) (i:Int) (dJ0:Nat->Value):Qa7:=[(4,hvF)]
def Qml (B:Lo) (s:Qaa) (i:Int) (dJ0:Nat->Value):List Prop:=[(!ltq 8 (↑s.stock.length:Int))=true]++Ql3 B s i dJ0
def Qp0 (s:Qaa) (i:Int) (dJ0:Nat->Value):Qa7:=Qqp s i dJ0++[(12,hvT)]
def Ql6 (B:Lo) (s:Qaa) (i:Int) (dJ0:Nat->Value):List Prop:=[(!ltq 8 (↑s.use.length:Int))=true]++Qml B s i dJ0
def Qrc (s:Qaa) (i:Int) (dJ0:Nat->Value):Qa7:=Qp0 s i dJ0++[(17,hvT)]
theorem QwC (B:Lo) (s:Qaa) (i:Int) (dJ0:Nat->Value):Qbe (Qan Tryz.prog (Qa6 Tryz.prog) J0 B 9 1 (Qa2 36 39 (([1,3]:List Nat).zip (Qch s i)) dJ0 Qcg) (Qaz (QaZ s i)) (2+(QaZ s i).length)
 (Qrc s i dJ0++[(23,hvT)]) 0 [] []) []=some (.bool true,
 [(!ltq 9 (↑s.lots.length:Int))=true]++Ql6 B s i dJ0):=by kernel_rfl
theorem QwK (B:Lo) (s:Qaa) (i:Int) (dJ0:Nat->Value):Qbe (Qan Tryz.prog (Qa6 Tryz.prog) J0 B 9 1 (Qa2 36 39 (([1,3]:List Nat).zip (Qch s i)) dJ0 Qcg) (Qaz (QaZ s i)) (2+(QaZ s i).length)
 (Qrc s i dJ0++[(23,hvF)]) 0 [] []) []=some (.bool false,
 [(!ltq 9 (↑s.lots.length:Int))=false]++Ql6 B s i dJ0):=by kernel_rfl
theorem QyL (B:Lo) (s:Qaa) (i:Int) (dJ0:Nat->Value):Qbe (Qan Tryz.prog (Qa6 Tryz.prog) J0 B 9 1 (Qa2 36 39 (([1,3]:List Nat).zip (Qch s i)) dJ0 Qcg) (Qaz (QaZ s i)) (2+(QaZ s i).length)
 (Qp0 s i dJ0++[(17,hvF)]) 0 [] []) []=some (.bool false,
 [(!ltq 8 (↑s.use.length:Int))=false]++Qml B s i dJ0):=by kernel_rfl
theorem QvE (B:Lo) (s:Qaa) (i:Int) (dJ0:Nat->Value):Qbe (Qan Tryz.prog (Qa6 Tryz.prog) J0 B 9 1 (Qa2 36 39 (([1,3]:List Nat).zip (Qch s i)) dJ0 Qcg) (Qaz (QaZ s i)) (2+(QaZ s i).length)
 (Qqp s i dJ0++[(12,hvF)]) 0 [] []) []=some (.bool false,
 [(!ltq 8 (↑s.stock.length:Int))=false]++Ql3 B s i dJ0):=by kernel_rfl
theorem QuP (B:Lo) (s:Qaa):landM (Qan Tryz.prog (Qa6 Tryz.prog) J0 B 7 1 (Qal Tryz.prog 36 39 (([.agg (Qap s).toArray]).map (Qav 0 4))) H00 1
 [] 0 [] []) [1,3] [(1,KS.auto)] []=some ⟨36,39,Qcg,[],.run,none,Qch s (0),QaZ s (0),
 []⟩:=by kernel_rfl
set_option maxHeartbeats 4000000 in
theorem Qyj (s:Qaa)  (hfacts:s.stock.length<=9223372036854775807/\s.use.length<=9223372036854775807/\s.lots.length<=9223372036854775807) {B:Lo} (hJ:∀w,B.has w->J0 w) {c0:CF}:∀m:Nat,(∀(i:Int),s.lots.length - i.toNat=m->∀(h0:0<=i),QvD B c0 s i->EndsT Tryz.prog B c0 (.bool (((s.lots.take 12).drop i.toNat).all (fun l=> decide (l.goods.length<=8)) && (decide (s.stock.length<=8) && (decide (s.use.length<=8) && decide (s.lots.length<=9)))))):=by
 intro m0
 induction m0 using Nat.strongRecOn with
 | _ m0 ih0=>
   intro i hm0 h0 ⟨dJ0,hdJ0,hg0⟩
   by_cases q0:(i:Int) < ((↑s.lots.length:Int))
   ·
    have hp0:QaB (Qly B s i dJ0):=by
     exact ⟨(QaW q0),trivial⟩
    by_cases q1:(i:Int) < (12)
    ·
     have hp1:QaB (Qlf B s i dJ0):=by
      have s2:=QbZ (l:=s.lots.take 12) (p:=fun l=> decide (l.goods.length<=8)) h0 (by rw [List.length_take];omega)
      have e3:(s.lots.take 12).getD i.toNat default=s.lots.getD i.toNat default:=by simp only [List.getD_eq_getElem?_getD];rw [List.getElem?_take_of_lt (by omega)]
      rw [e3] at s2
      exact ⟨⟨by omega,by omega,(Qae (z:=3) (fun _=> rfl) (by omega))⟩,⟨(QaW q1),hp0⟩⟩
     by_cases q2:(8:Int) < ((↑(List.length (Qad.goods (s.lots.getD i.toNat default))):Int))
     ·
      have s2:=QbZ (l:=s.lots.take 12) (p:=fun l=> decide (l.goods.length<=8)) h0 (by rw [List.length_take];omega)
      have e3:(s.lots.take 12).getD i.toNat default=s.lots.getD i.toNat default:=by simp only [List.getD_eq_getElem?_getD];rw [List.getElem?_take_of_lt (by omega)]
      rw [e3] at s2
      rw [decide_eq_false (by omega)] at s2
      exact (GoE.endsT okF hJ Qac hg0 (QwI B s i dJ0)
       ⟨(QaW q2),hp1⟩).cast (by (simp only [s2,Bool.true_and,Bool.false_and];done))
     ·
      have s2:=QbZ (l:=s.lots.take 12) (p:=fun l=> decide (l.goods.length<=8)) h0 (by rw [List.length_take];omega)
      have e3:(s.lots.take 12).getD i.toNat default=s.lots.getD i.toNat default:=by simp only [List.getD_eq_getElem?_getD];rw [List.getElem?_take_of_lt (by omega)]
      rw [e3] at s2
      rw [decide_eq_true (by omega)] at s2
      exact ((ih0 _ (by omega)) (i+1) rfl (by omega)
       (hg0.landM okF hJ Qac (QyY B s i dJ0)
       ⟨(QaM (by omega) (by omega)),⟨(Qbb (Int.not_lt.1 q2)),hp1⟩⟩ (by kernel_rfl) (by kernel_rfl))).cast (by (simp only [s2,Bool.true_and,Bool.false_and];done))
    ·
     have hp2:QaB (Ql8 B s i dJ0):=by
      exact ⟨(Qbb (Int.not_lt.1 q1)),hp0⟩
     by_cases q2:((↑s.stock.length:Int):Int)<=(8)
     ·
      have hp3:QaB (QlI B s i dJ0):=by
       exact ⟨(Qdu q2),hp2⟩
      by_cases q3:((↑s.use.length:Int):Int)<=(8)
      ·
       have hp4:QaB (QlK B s i dJ0):=by
        exact ⟨(Qdu q3),hp3⟩
       by_cases q4:((↑s.lots.length:Int):Int)<=(9)
       ·
        have s2:=QbZ (l:=s.lots.take 12) (p:=fun l=> decide (l.goods.length<=8)) h0 (by rw [List.length_take];omega)
        have e3:(s.lots.take 12).getD i.toNat default=s.lots.getD i.toNat default:=by simp only [List.getD_eq_getElem?_getD];rw [List.getElem?_take_of_lt (by omega)]
        rw [e3] at s2
        rw [decide_eq_true (by omega)] at s2
        have s2:=Qbc (l:=s.lots.take 12) (p:=fun l=> decide (l.goods.length<=8)) (i:=i) (by rw [List.length_take];omega)
        exact (GoE.endsT okF hJ Qac hg0 (Qwa B s i dJ0)
         ⟨(Qdu q4),hp4⟩).cast (by (simp only [s2,Bool.true_and];simp_all;omega))
       ·
        have s2:=Qbc (l:=s.lots.take 12) (p:=fun l=> decide (l.goods.length<=8)) (i:=i) (by rw [List.length_take];omega)
        exact (GoE.endsT okF hJ Qac hg0 (QvY B s i dJ0)
         ⟨(Qdn (Int.not_le.1 q4)),hp4⟩).cast (by (simp only [s2,Bool.true_and];simp_all;omega))
      ·
       have s2:=Qbc (l:=s.lots.take 12) (p:=fun l=> decide (l.goods.length<=8)) (i:=i) (by rw [List.length_take];omega)
       exact (GoE.endsT okF hJ Qac hg0 (Qw8 B s i dJ0)
        ⟨(Qdn (Int.not_le.1 q3)),hp3⟩).cast (by (simp only [s2,Bool.true_and];simp_all;omega))
     ·
      have s2:=Qbc (l:=s.lots.take 12) (p:=fun l=> decide (l.goods.length<=8)) (i:=i) (by rw [List.length_take];omega)
      exact (GoE.endsT okF hJ Qac hg0 (QvR B s i dJ0)
       ⟨(Qdn (Int.not_le.1 q2)),hp2⟩).cast (by (simp only [s2,Bool.true_and];simp_all;omega))
   ·
    have hp5:QaB (Ql3 B s i dJ0):=by
     exact ⟨(Qbb (Int.not_lt.1 q0)),trivial⟩
    by_cases q1:((↑s.stock.length:Int):Int)<=(8)
    ·
     have hp6:QaB (Qml B s i dJ0):=by
      exact ⟨(Qdu q1),hp5⟩
     by_cases q2:((↑s.use.length:Int):Int)<=(8)
     ·
      have hp7:QaB (Ql6 B s i dJ0):=by
       exact ⟨(Qdu q2),hp6⟩
      by_cases q3:((↑s.lots.length:Int):Int)<=(9)
      ·
       have s2:=Qbc (l:=s.lots.take 12) (p:=fun l=> decide (l.goods.length<=8)) (i:=i) (by rw [List.length_take];omega)
       exact (GoE.endsT okF hJ Qac hg0 (QwC B s i dJ0)
        ⟨(Qdu q3),hp7⟩).cast (by (simp only [s2,Bool.true_and];simp_all;omega))
      ·
       have s2:=Qbc (l:=s.lots.take 12) (p:=fun l=> decide (l.goods.length<=8)) (i:=i) (by rw [List.length_take];omega)
       exact (GoE.endsT okF hJ Qac hg0 (QwK B s i dJ0)
        ⟨(Qdn (Int.not_le.1 q3)),hp7⟩).cast (by (simp only [s2,Bool.true_and];simp_all;omega))
     ·
      have s2:=Qbc (l:=s.lots.take 12) (p:=fun l=> decide (l.goods.length<=8)) (i:=i) (by rw [List.length_take];omega)
      exact (GoE.endsT okF hJ Qac hg0 (QyL B s i dJ0)
       ⟨(Qdn (Int.not_le.1 q2)),hp6⟩).cast (by (simp only [s2,Bool.true_and];simp_all;omega))
    ·
     have s2:=Qbc (l:=s.lots.take 12) (p:=fun l=> decide (l.goods.length<=8)) (i:=i) (by rw [List.length_take];omega)
     exact (GoE.endsT okF hJ Qac hg0 (QvE B s i dJ0)
      ⟨(Qdn (Int.not_le.1 q1)),hp5⟩).cast (by (simp only [s2,Bool.true_and];simp_all;omega))
set_option maxHeartbeats 4000000 in
theorem Q03 (s:Qaa)  (hfacts:s.stock.length<=9223372036854775807/\s.use.length<=9223372036854775807/\s.lots.length<=9223372036854775807) {B:Lo} (hJ:∀w,B.has w->J0 w):EndsT Tryz.prog B (Qal Tryz.prog 36 39 (([.agg (Qap s).toArray]).map (Qav 0 4))) (.bool (((s.lots.take 12).all fun l=> decide (l.goods.length<=8)) && (decide (s.stock.length<=8) && (decide (s.use.length<=8) && decide (s.lots.length<=9))))):=by
 exact ((Qyj s hfacts hJ _) (0) rfl (by omega)
  (GoE.start.landM okF hJ Qac (QuP B s)
  trivial (by kernel_rfl) (by kernel_rfl))).cast (by rfl)
theorem Q3Z (s:Qaa)  :Qau Tryz.prog J0 36 #[.agg (Qap s).toArray] (.bool (((s.lots.take 12).all fun l=> decide (l.goods.length<=8)) && (decide (s.stock.length<=8) && (decide (s.use.length<=8) && decide (s.lots.length<=9))))):=
 QcY (ts:=[.agg (Qap s).toArray]) (s.stock.length<=9223372036854775807/\s.use.length<=9223372036854775807/\s.lots.length<=9223372036854775807) (fun _ _ ht=> ⟨ht.ln2 (i:=0) (j:=0) rfl rfl,ht.ln2 (i:=0) (j:=1) rfl rfl,ht.ln2 (i:=0) (j:=4) rfl rfl⟩) Qbw (c0:=Qal Tryz.prog 36 39 (([.agg (Qap s).toArray]).map (Qav 0 4))) (by kernel_rfl) (by kernel_rfl) fun hfacts B hJ=> Q03 s  hfacts hJ
end
end Go.Proofs.YtiabgkiccaodmaaGreat

namespace Go.Proofs.YtiabgkiccaodmaaGreat
open Go Go.CE Go.RowKit
noncomputable section
set_option maxRecDepth 100000
def QcG (l:List Int) (i:Int):Int:=if 0 < i then l.getD (i - 1).toNat default else -1
def Qz7 (s:Qaa) (l:List Int):Int:=Qgn (l.map fun x=> (s.lots.getD x.toNat default).weight)
theorem QeS {s:Qaa} {i:Int} {l:List Int} (h0:0<=i) (h:i < l.length):Qz7 s (l.drop i.toNat)=(s.lots.getD (l.getD i.toNat default).toNat default).weight+Qz7 s (l.drop (i+1).toNat):=by
 obtain ⟨k,rfl⟩:∃k:Nat,i=k:=⟨i.toNat,by omega⟩
 have hk:k < l.length:=by omega
 have e1:((k:Int)).toNat=k:=by omega
 have e2:((k:Int)+1).toNat=k+1:=by omega
 unfold Qz7
 rw [e1,e2,List.drop_eq_getElem_cons hk,List.map_cons]
 simp [Qgn,List.getD_eq_getElem?_getD,hk]
theorem QsJ {s:Qaa} {i:Int} {l:List Int} (h:l.length<=i):Qz7 s (l.drop i.toNat)=0:=by
 rw [List.drop_eq_nil_of_le (by omega)];rfl
theorem QrX {l:List Int} {i:Int} (h0:0<=i):QcG l (i+1)=l.getD i.toNat default:=by
 unfold QcG;rw [if_pos (by omega),show i+1 - 1=i by omega]
theorem Q3X {x lo hi:Int} (q:inB x lo hi=false):¬(lo<=x/\x<=hi):=fun h=> by rw [Qbn.2 h] at q;cases q
theorem Q5I {x lo hi:Int} (h:¬(lo<=x/\x<=hi)):inB x lo hi=false:=by
 cases hc:inB x lo hi with
 | false=> rfl
 | true=> exact absurd (Qbn.1 hc) h
def QdZ (s:Qaa) (load:List Int) (w i:Int):List Value:=[Qay 1 (slT load.length (Qab Qag load)),pA 2 0,.int .i64 w,.int .i64 i]
def QbS (s:Qaa) (load:List Int) (w i:Int):List Obj:=[Obj.cells #[Qay 1 (slT s.stock.length (Qab Qag s.stock)),Qay 1 (slT s.use.length (Qab Qa3 s.use)),.int .i64 s.glo,.int .i64 s.ghi,Qay 1 (slT s.lots.length (Qab Qao s.lots)),.int .i64 s.hold] 62]
def Qea:List Item:=([.code [1,1,0,1,0,0],.inLoop [1,1,0,1,0,0],.inBlock 0,.code [1,1,1]]).map (it (Qaq Tryz.prog 56))
def Q0B (B:Lo) (c0:CF) (s:Qaa) (load:List Int) (w i:Int):Prop:=∃dJ:Nat->Value,(∀t,QaP (dJ t))/\GoE Tryz.prog B c0 H00 1 (Qa2 56 54 (([1,2,5,6]:List Nat).zip (QdZ s load w i)) dJ Qea) (Qaz (QbS s load w i)) (2+(QbS s load w i).length) []
def QkB (s:Qaa) (load:List Int) (i:Int):Array Value:=#[slT (List.length (Qad.goods (s.lots.getD (Int.toNat (load.getD i.toNat default)) default))) (Qab Qa3 (Qad.goods (s.lots.getD (Int.toNat (load.getD i.toNat default)) default))),.int .i64 (Qad.weight (s.lots.getD (Int.toNat (load.getD i.toNat default)) default)),.int .i64 (Qad.cost (s.lots.getD (Int.toNat (load.getD i.toNat default)) default))]
def Qob (B:Lo) (s:Qaa) (load:List Int) (w i:Int) (dJ0:Nat->Value):List Prop:=[wq ((↑s.lots.length:Int) - 1)=(↑s.lots.length:Int) - 1,i=(↑i.toNat:Int)/\Int.toNat i < List.length load/\Array.extract (Qab Qag load) (Int.toNat i * TypeInfo.size Tryz.t3) (Int.toNat i * TypeInfo.size Tryz.t3+TypeInfo.size Tryz.t3)=#[.int .i64 (load.getD i.toNat default)],ltq i (↑load.length:Int)=true]++([]:List Prop)
def Qtf (s:Qaa) (load:List Int) (w i:Int) (dJ0:Nat->Value):Qa7:=[(3,hvT),(6,Qah.tidx i.toNat #[.int .i64 (load.getD i.toNat default)]),(11,hvI ((↑s.lots.length:Int) - 1))]
def QoU (B:Lo) (s:Qaa) (load:List Int) (w i:Int) (dJ0:Nat->Value):List Prop:=[QaB []/\Qau Tryz.prog J0 69 #[.int .i64 (load.getD i.toNat default),.int .i64 0,.int .i64 ((↑s.lots.length:Int) - 1)] (.bool true)]++Qob B s load w i dJ0
def QsD (s:Qaa) (load:List Int) (w i:Int) (dJ0:Nat->Value):Qa7:=Qtf s load w i dJ0++[(12,Qah.pure (.bool true) [])]
def QoA (B:Lo) (s:Qaa) (load:List Int) (w i:Int) (dJ0:Nat->Value):List Prop:=[i - 1=(↑(Int.toNat (i - 1)):Int)/\Int.toNat (i - 1) < List.length load/\Array.extract (Qab Qag load) (Int.toNat (i - 1) * TypeInfo.size Tryz.t3) (Int.toNat (i - 1) * TypeInfo.size Tryz.t3+TypeInfo.size Tryz.t3)=#[.int .i64 (load.getD (Int.toNat (i - 1)) default)],wq (i - 1)=i - 1,i=(↑i.toNat:Int)/\Int.toNat i < List.length load/\Array.extract (Qab Qag load) (Int.toNat i * TypeInfo.size Tryz.t3) (Int.toNat i * TypeInfo.size Tryz.t3+TypeInfo.size Tryz.t3)=#[.int .i64 (load.getD i.toNat default)],ltq 0 i=true]++QoU B s load w i dJ0
def Qt1 (s:Qaa) (load:List Int) (w i:Int) (dJ0:Nat->Value):Qa7:=QsD s load w i dJ0++[(16,hvT),(20,Qah.tidx i.toNat #[.int .i64 (load.getD i.toNat default)]),(24,hvI (i - 1)),(25,Qah.tidx (Int.toNat (i - 1)) #[.int .i64 (load.getD (Int.toNat (i - 1)) default)])]
theorem Qzx (B:Lo) (s:Qaa) (load:List Int) (w i:Int) (dJ0:Nat->Value):Qbe (Qan Tryz.prog (Qa6 Tryz.prog) J0 B 15 1 (Qa2 56 54 (([1,2,5,6]:List Nat).zip (QdZ s load w i)) dJ0 Qea) (Qaz (QbS s load w i)) (2+(QbS s load w i).length)
 (Qt1 s load w i dJ0++[(27,hvT)]) 0 [] []) []=some (.bool false,
 [(!ltq (load.getD (Int.toNat (i - 1)) default) (load.getD i.toNat default))=true]++QoA B s load w i dJ0):=by kernel_rfl
theorem Q1e (B:Lo) (s:Qaa) (load:List Int) (w i:Int) (dJ0:Nat->Value):landM (Qan Tryz.prog (Qa6 Tryz.prog) J0 B 16 1 (Qa2 56 54 (([1,2,5,6]:List Nat).zip (QdZ s load w i)) dJ0 Qea) (Qaz (QbS s load w i)) (2+(QbS s load w i).length)
 (Qt1 s load w i dJ0++[(27,hvF),(35,Qah.tidx i.toNat #[.int .i64 (load.getD i.toNat default)]),(37,Qah.tidx (Int.toNat (load.getD i.toNat default)) (QkB s load i)),(40,hvI (w+Qad.weight (s.lots.getD (Int.toNat (load.getD i.toNat default)) default))),(43,hvI (i+1))]) 0 [] []) [1,2,5,6] [(2,KS.auto)] []=some ⟨56,54,Qea,[],.run,none,QdZ s load (w+Qad.weight (s.lots.getD (Int.toNat (load.getD i.toNat default)) default)) (i+1),QbS s load (w+Qad.weight (s.lots.getD (Int.toNat (load.getD i.toNat default)) default)) (i+1),
 [wq (i+1)=i+1,wq (w+Qad.weight (s.lots.getD (Int.toNat (load.getD i.toNat default)) default))=w+Qad.weight (s.lots.getD (Int.toNat (load.getD i.toNat default)) default),load.getD i.toNat default=(↑(Int.toNat (load.getD i.toNat default)):Int)/\Int.toNat (load.getD i.toNat default) < List.length s.lots/\Array.extract (Qab Qao s.lots) (Int.toNat (load.getD i.toNat default) * TypeInfo.size Tryz.t118) (Int.toNat (load.getD i.toNat default) * TypeInfo.size Tryz.t118+TypeInfo.size Tryz.t118)=(QkB s load i),i=(↑i.toNat:Int)/\Int.toNat i < List.length load/\Array.extract (Qab Qag load) (Int.toNat i * TypeInfo.size Tryz.t3) (Int.toNat i * TypeInfo.size Tryz.t3+TypeInfo.size Tryz.t3)=#[.int .i64 (load.getD i.toNat default)],(!ltq (load.getD (Int.toNat (i - 1)) default) (load.getD i.toNat default))=false]++QoA B s load w i dJ0⟩:=by kernel_rfl
theorem Q1g (B:Lo) (s:Qaa) (load:List Int) (w i:Int) (dJ0:Nat->Value):landM (Qan Tryz.prog (Qa6 Tryz.prog) J0 B 16 1 (Qa2 56 54 (([1,2,5,6]:List Nat).zip (QdZ s load w i)) dJ0 Qea) (Qaz (QbS s load w i)) (2+(QbS s load w i).length)
 (QsD s load w i dJ0++[(16,hvF),(35,Qah.tidx i.toNat #[.int .i64 (load.getD i.toNat default)]),(37,Qah.tidx (Int.toNat (load.getD i.toNat default)) (QkB s load i)),(40,hvI (w+Qad.weight (s.lots.getD (Int.toNat (load.getD i.toNat default)) default))),(43,hvI (i+1))]) 0 [] []) [1,2,5,6] [(2,KS.auto)] []=some ⟨56,54,Qea,[],.run,none,QdZ s load (w+Qad.weight (s.lots.getD (Int.toNat (load.getD i.toNat default)) default)) (i+1),QbS s load (w+Qad.weight (s.lots.getD (Int.toNat (load.getD i.toNat default)) default)) (i+1),
 [wq (i+1)=i+1,wq (w+Qad.weight (s.lots.getD (Int.toNat (load.getD i.toNat default)) default))=w+Qad.weight (s.lots.getD (Int.toNat (load.getD i.toNat default)) default),load.getD i.toNat default=(↑(Int.toNat (load.getD i.toNat default)):Int)/\Int.toNat (load.getD i.toNat default) < List.length s.lots/\Array.extract (Qab Qao s.lots) (Int.toNat (load.getD i.toNat default) * TypeInfo.size Tryz.t118) (Int.toNat (load.getD i.toNat default) * TypeInfo.size Tryz.t118+TypeInfo.size Tryz.t118)=(QkB s load i),i=(↑i.toNat:Int)/\Int.toNat i < List.length load/\Array.extract (Qab Qag load) (Int.toNat i * TypeInfo.size Tryz.t3) (Int.toNat i * TypeInfo.size Tryz.t3+TypeInfo.size Tryz.t3)=#[.int .i64 (load.getD i.toNat default)],ltq 0 i=false]++QoU B s load w i dJ0⟩:=by kernel_rfl
theorem Q1a (B:Lo) (s:Qaa) (load:List Int) (w i:Int) (dJ0:Nat->Value):Qbe (Qan Tryz.prog (Qa6 Tryz.prog) J0 B 15 1 (Qa2 56 54 (([1,2,5,6]:List Nat).zip (QdZ s load w i)) dJ0 Qea) (Qaz (QbS s load w i)) (2+(QbS s load w i).length)
 (Qtf s load w i dJ0++[(12,Qah.pure (.bool false) [])]) 0 [] []) []=some (.bool false,
 [QaB []/\Qau Tryz.prog J0 69 #[.int .i64 (load.getD i.toNat default),.int .i64 0,.int .i64 ((↑s.lots.length:Int) - 1)] (.bool false)]++Qob B s load w i dJ0):=by kernel_rfl
def Qo3 (B:Lo) (s:Qaa) (load:List Int) (w i:Int) (dJ0:Nat->Value):List Prop:=[ltq i (↑load.length:Int)=false]++([]:List Prop)
def Qt3 (s:Qaa) (load:List Int) (w i:Int) (dJ0:Nat->Value):Qa7:=[(3,hvF)]
theorem Q0b (B:Lo) (s:Qaa) (load:List Int) (w i:Int) (dJ0:Nat->Value):Qbe (Qan Tryz.prog (Qa6 Tryz.prog) J0 B 9 1 (Qa2 56 54 (([1,2,5,6]:List Nat).zip (QdZ s load w i)) dJ0 Qea) (Qaz (QbS s load w i)) (2+(QbS s load w i).length)
 (Qt3 s load w i dJ0++[(7,hvT)]) 0 [] []) []=some (.bool true,
 [(!ltq s.hold w)=true]++Qo3 B s load w i dJ0):=by kernel_rfl
theorem Q0y (B:Lo) (s:Qaa) (load:List Int) (w i:Int) (dJ0:Nat->Value):Qbe (Qan Tryz.prog (Qa6 Tryz.prog) J0 B 9 1 (Qa2 56 54 (([1,2,5,6]:List Nat).zip (QdZ s load w i)) dJ0 Qea) (Qaz (QbS s load w i)) (2+(QbS s load w i).length)
 (Qt3 s load w i dJ0++[(7,hvF)]) 0 [] []) []=some (.bool false,
 [(!ltq s.hold w)=false]++Qo3 B s load w i dJ0):=by kernel_rfl
theorem Q1J (B:Lo) (s:Qaa) (load:List Int):landM (Qan Tryz.prog (Qa6 Tryz.prog) J0 B 9 1 (Qal Tryz.prog 56 54 (([.agg (Qap s).toArray,slI load]).map (Qav 0 4))) H00 1
 [] 0 [] []) [1,2,5,6] [(1,KS.auto)] []=some ⟨56,54,Qea,[],.run,none,QdZ s load (0) (0),QbS s load (0) (0),
 []⟩:=by kernel_rfl
set_option maxHeartbeats 4000000 in
theorem Q1r (s:Qaa) (load:List Int) (hs:QaD s=true) (hl:load.length<=10) {B:Lo} (hJ:∀w,B.has w->J0 w) {c0:CF}:∀m:Nat,(∀(w i:Int),load.length - i.toNat=m->∀(h0:0<=i) (h1:0<=w/\w<=100000 * i) (hp: -1<=QcG load i),Q0B B c0 s load w i->EndsT Tryz.prog B c0 (.bool (QdO s.lots.length (load.drop i.toNat) (QcG load i+1) && decide (w+Qz7 s (load.drop i.toNat)<=s.hold)))):=by
 intro m0
 induction m0 using Nat.strongRecOn with
 | _ m0 ih0=>
   intro w i hm0 h0 h1 hp ⟨dJ0,hdJ0,hg0⟩
   have hm:=Qas hs
   have g3:=QrX (l:=load) h0
   by_cases q0:(i:Int) < ((↑load.length:Int))
   ·
    have hp0:QaB (Qob B s load w i dJ0):=by
     have s2:=Qcy (things:=s.lots.length) (least:=QcG load i+1) (l:=load) h0 q0
     have s3:=QeS (s:=s) h0 q0
     exact ⟨(QaM (by omega) (by omega)),⟨⟨by omega,by omega,(Qae (z:=1) (fun _=> rfl) (by omega))⟩,⟨(QaW q0),trivial⟩⟩⟩
    cases q1:inB (load.getD i.toNat default) 0 ((↑s.lots.length:Int) - 1) with
    | true=>
      have hp1:QaB (QoU B s load w i dJ0):=by
       have s2:=Qcy (things:=s.lots.length) (least:=QcG load i+1) (l:=load) h0 q0
       have s3:=QeS (s:=s) h0 q0
       have g1:=Qbn.1 ‹inB (load.getD i.toNat default) 0 _=true›
       have g2:=Qd6 (hm.2 _ (QaI (l:=s.lots) (i:=load.getD i.toNat default) (by omega) (by omega)))
       exact ⟨⟨trivial,(by have t_:=rin (load.getD i.toNat default) (0) ((↑s.lots.length:Int) - 1);rw [q1] at t_;exact t_)⟩,hp0⟩
      by_cases q2:(0:Int) < (i)
      ·
       have hp2:QaB (QoA B s load w i dJ0):=by
        have s2:=Qcy (things:=s.lots.length) (least:=QcG load i+1) (l:=load) h0 q0
        have s3:=QeS (s:=s) h0 q0
        have g1:=Qbn.1 ‹inB (load.getD i.toNat default) 0 _=true›
        have g2:=Qd6 (hm.2 _ (QaI (l:=s.lots) (i:=load.getD i.toNat default) (by omega) (by omega)))
        have pv:QcG load i=load.getD (i - 1).toNat default:=if_pos ‹0 < i›
        exact ⟨⟨by omega,by omega,(Qae (z:=1) (fun _=> rfl) (by omega))⟩,⟨(QaM (by omega) (by omega)),⟨⟨by omega,by omega,(Qae (z:=1) (fun _=> rfl) (by omega))⟩,⟨(QaW q2),hp1⟩⟩⟩⟩
       by_cases q3:(load.getD i.toNat default:Int)<=(load.getD (Int.toNat (i - 1)) default)
       ·
        have s2:=Qcy (things:=s.lots.length) (least:=QcG load i+1) (l:=load) h0 q0
        have s3:=QeS (s:=s) h0 q0
        have g1:=Qbn.1 ‹inB (load.getD i.toNat default) 0 _=true›
        have g2:=Qd6 (hm.2 _ (QaI (l:=s.lots) (i:=load.getD i.toNat default) (by omega) (by omega)))
        have pv:QcG load i=load.getD (i - 1).toNat default:=if_pos ‹0 < i›
        have et:inB (load.getD i.toNat default) (QcG load i+1) ((s.lots.length:Int) - 1)=false:=Q5I (by omega)
        exact (GoE.endsT okF hJ Qac hg0 (Qzx B s load w i dJ0)
         ⟨(Qdu q3),hp2⟩).cast (by (rw [s2,et];rfl))
       ·
        have s2:=Qcy (things:=s.lots.length) (least:=QcG load i+1) (l:=load) h0 q0
        have s3:=QeS (s:=s) h0 q0
        have g1:=Qbn.1 ‹inB (load.getD i.toNat default) 0 _=true›
        have g2:=Qd6 (hm.2 _ (QaI (l:=s.lots) (i:=load.getD i.toNat default) (by omega) (by omega)))
        have pv:QcG load i=load.getD (i - 1).toNat default:=if_pos ‹0 < i›
        have et:inB (load.getD i.toNat default) (QcG load i+1) ((s.lots.length:Int) - 1)=true:=Qbn.2 (by omega)
        exact ((ih0 _ (by omega)) (w+Qad.weight (s.lots.getD (Int.toNat (load.getD i.toNat default)) default)) (i+1) rfl (by omega) (by omega) (by omega)
         (hg0.landM okF hJ Qac (Q1e B s load w i dJ0)
         ⟨(QaM (by omega) (by omega)),⟨(QaM (by omega) (by omega)),⟨⟨by omega,by omega,(Qae (z:=3) (fun _=> rfl) (by omega))⟩,⟨⟨by omega,by omega,(Qae (z:=1) (fun _=> rfl) (by omega))⟩,⟨(Qdn (Int.not_le.1 q3)),hp2⟩⟩⟩⟩⟩ (by kernel_rfl) (by kernel_rfl))).cast (by (rw [s2,s3,et,g3,Int.add_assoc];rfl))
      ·
       have s2:=Qcy (things:=s.lots.length) (least:=QcG load i+1) (l:=load) h0 q0
       have s3:=QeS (s:=s) h0 q0
       have g1:=Qbn.1 ‹inB (load.getD i.toNat default) 0 _=true›
       have g2:=Qd6 (hm.2 _ (QaI (l:=s.lots) (i:=load.getD i.toNat default) (by omega) (by omega)))
       have pv:QcG load i= -1:=if_neg ‹¬0 < i›
       have et:inB (load.getD i.toNat default) (QcG load i+1) ((s.lots.length:Int) - 1)=true:=Qbn.2 (by omega)
       exact ((ih0 _ (by omega)) (w+Qad.weight (s.lots.getD (Int.toNat (load.getD i.toNat default)) default)) (i+1) rfl (by omega) (by omega) (by omega)
        (hg0.landM okF hJ Qac (Q1g B s load w i dJ0)
        ⟨(QaM (by omega) (by omega)),⟨(QaM (by omega) (by omega)),⟨⟨by omega,by omega,(Qae (z:=3) (fun _=> rfl) (by omega))⟩,⟨⟨by omega,by omega,(Qae (z:=1) (fun _=> rfl) (by omega))⟩,⟨(Qbb (Int.not_lt.1 q2)),hp1⟩⟩⟩⟩⟩ (by kernel_rfl) (by kernel_rfl))).cast (by (rw [s2,s3,et,g3,Int.add_assoc];rfl))
    | false=>
      have s2:=Qcy (things:=s.lots.length) (least:=QcG load i+1) (l:=load) h0 q0
      have s3:=QeS (s:=s) h0 q0
      have g1n:¬(0<=load.getD i.toNat default/\load.getD i.toNat default<=(s.lots.length:Int) - 1):=Q3X ‹inB (load.getD i.toNat default) 0 _=false›
      have et:inB (load.getD i.toNat default) (QcG load i+1) ((s.lots.length:Int) - 1)=false:=Q5I (by omega)
      exact (GoE.endsT okF hJ Qac hg0 (Q1a B s load w i dJ0)
       ⟨⟨trivial,(by have t_:=rin (load.getD i.toNat default) (0) ((↑s.lots.length:Int) - 1);rw [q1] at t_;exact t_)⟩,hp0⟩).cast (by (rw [s2,et];rfl))
   ·
    have hp3:QaB (Qo3 B s load w i dJ0):=by
     exact ⟨(Qbb (Int.not_lt.1 q0)),trivial⟩
    by_cases q1:(w:Int)<=s.hold
    ·
     have s2:=Qmc (things:=s.lots.length) (least:=QcG load i+1) (l:=load) (i:=i) (by omega)
     have s3:=QsJ (s:=s) (l:=load) (i:=i) (by omega)
     exact (GoE.endsT okF hJ Qac hg0 (Q0b B s load w i dJ0)
      ⟨(Qdu q1),hp3⟩).cast (by (rw [s2,s3];simp_all;done))
    ·
     have s2:=Qmc (things:=s.lots.length) (least:=QcG load i+1) (l:=load) (i:=i) (by omega)
     have s3:=QsJ (s:=s) (l:=load) (i:=i) (by omega)
     exact (GoE.endsT okF hJ Qac hg0 (Q0y B s load w i dJ0)
      ⟨(Qdn (Int.not_le.1 q1)),hp3⟩).cast (by (rw [s2,s3];simp_all;done))
set_option maxHeartbeats 4000000 in
theorem Q3F (s:Qaa) (load:List Int) (hs:QaD s=true) (hl:load.length<=10) {B:Lo} (hJ:∀w,B.has w->J0 w):EndsT Tryz.prog B (Qal Tryz.prog 56 54 (([.agg (Qap s).toArray,slI load]).map (Qav 0 4))) (.bool (QdO s.lots.length load 0 && decide (Qz7 s load<=s.hold))):=by
 have hm:=Qas hs
 exact ((Q1r s load hs hl hJ _) (0) (0) rfl (by omega) (by omega) (by (simp [QcG];done))
  (GoE.start.landM okF hJ Qac (Q1J B s load)
  trivial (by kernel_rfl) (by kernel_rfl))).cast (by simp [QcG])
theorem Q53 (s:Qaa) (load:List Int) (hs:QaD s=true) (hl:load.length<=10):Qau Tryz.prog J0 56 #[.agg (Qap s).toArray,slI load] (.bool (QdO s.lots.length load 0 && decide (Qz7 s load<=s.hold))):=
 QaF (ts:=[.agg (Qap s).toArray,slI load]) Qbw (c0:=Qal Tryz.prog 56 54 (([.agg (Qap s).toArray,slI load]).map (Qav 0 4))) (by kernel_rfl) (by kernel_rfl) fun B hJ=> Q3F s load hs hl hJ
theorem Q0u (B:Lo) (n:Int):Qbe (Qan Tryz.prog (Qa6 Tryz.prog) J0 B 6 1 (Qal Tryz.prog 52 5 (([.int .i64 n]).map (Qav 0 4))) H00 1
 [(2,Qah.pure (.bool true) [])] 0 [] []) []=some (.bool true,
 [QaB []/\Qau Tryz.prog J0 69 #[.int .i64 n,.int .i64 0,.int .i64 300] (.bool true)]):=by kernel_rfl
theorem Q1C (B:Lo) (n:Int):Qbe (Qan Tryz.prog (Qa6 Tryz.prog) J0 B 6 1 (Qal Tryz.prog 52 5 (([.int .i64 n]).map (Qav 0 4))) H00 1
 [(2,Qah.pure (.bool false) [])] 0 [] []) []=some (.bool false,
 [QaB []/\Qau Tryz.prog J0 69 #[.int .i64 n,.int .i64 0,.int .i64 300] (.bool false)]):=by kernel_rfl
set_option maxHeartbeats 4000000 in
theorem Q30 (n:Int)  {B:Lo} (hJ:∀w,B.has w->J0 w):EndsT Tryz.prog B (Qal Tryz.prog 52 5 (([.int .i64 n]).map (Qav 0 4))) (.bool (inB n 0 300)):=by
 cases q0:inB n 0 300 with
 | true=>
   exact (GoE.endsT okF hJ Qac GoE.start (Q0u B n)
    ⟨⟨trivial,(by have t_:=rin (n) (0) (300);rw [q0] at t_;exact t_)⟩,trivial⟩).cast (by rfl)
 | false=>
   exact (GoE.endsT okF hJ Qac GoE.start (Q1C B n)
    ⟨⟨trivial,(by have t_:=rin (n) (0) (300);rw [q0] at t_;exact t_)⟩,trivial⟩).cast (by rfl)
theorem Q4I (n:Int)  :Qau Tryz.prog J0 52 #[.int .i64 n] (.bool (inB n 0 300)):=
 QaF (ts:=[.int .i64 n]) Qbw (c0:=Qal Tryz.prog 52 5 (([.int .i64 n]).map (Qav 0 4))) (by kernel_rfl) (by kernel_rfl) fun B hJ=> Q30 n  hJ
end
end Go.Proofs.YtiabgkiccaodmaaGreat

namespace Go.Proofs.YtiabgkiccaodmaaGreat
open Go Go.CE Go.RowKit
noncomputable section
set_option maxRecDepth 100000
def Qgz (day:Int):List Int->Int->Bool
 | [],_=> false
 | g::l,s=> decide (s+g=day) || Qgz day l (s+g)
theorem QhL {day s i:Int} {l:List Int} (h0:0<=i) (h:i < l.length):Qgz day (l.drop i.toNat) s=(decide (s+l.getD i.toNat default=day) || Qgz day (l.drop (i+1).toNat) (s+l.getD i.toNat default)):=by
 obtain ⟨k,rfl⟩:∃k:Nat,i=k:=⟨i.toNat,by omega⟩
 have hk:k < l.length:=by omega
 have e1:((k:Int)).toNat=k:=by omega
 have e2:((k:Int)+1).toNat=k+1:=by omega
 rw [e1,e2,List.drop_eq_getElem_cons hk]
 simp [Qgz,List.getD_eq_getElem?_getD,hk]
theorem QuU {day s i:Int} {l:List Int} (h:l.length<=i):Qgz day (l.drop i.toNat) s=false:=by
 rw [List.drop_eq_nil_of_le (by omega)];rfl
def Qkr (t:Qar) (kind:Int) (l:List Int):Int:=Qgn (l.map fun x=> (t.goods.getD x.toNat default).getD kind.toNat default)
theorem Qxp {t:Qar} {kind i:Int} {l:List Int} (h0:0<=i) (h:i < l.length):Qkr t kind (l.drop i.toNat)=(t.goods.getD (l.getD i.toNat default).toNat default).getD kind.toNat default+Qkr t kind (l.drop (i+1).toNat):=by
 obtain ⟨k,rfl⟩:∃k:Nat,i=k:=⟨i.toNat,by omega⟩
 have hk:k < l.length:=by omega
 have e1:((k:Int)).toNat=k:=by omega
 have e2:((k:Int)+1).toNat=k+1:=by omega
 unfold Qkr
 rw [e1,e2,List.drop_eq_getElem_cons hk,List.map_cons]
 simp [Qgn,List.getD_eq_getElem?_getD,hk]
theorem Qpd {t:Qar} {kind i:Int} {l:List Int} (h:l.length<=i):Qkr t kind (l.drop i.toNat)=0:=by
 rw [List.drop_eq_nil_of_le (by omega)];rfl
def Qkq (use br:Int) (comes:Int->Bool):List Int->Int×Int->Int×Int
 | [],st=> st
 | d::ds,st=> Qkq use br comes ds (if (st.2+if comes d=true then br else 0) < use/\st.1 < 0 then d else st.1,if 0 < (st.2+if comes d=true then br else 0) - use then (st.2+if comes d=true then br else 0) - use else 0)
def Q3K (use br:Int) (comes:Int->Bool) (days d w L:Int):Int×Int:=Qkq use br comes (upI (d+1) days) (if L < use/\w < 0 then d else w,if 0 < L - use then L - use else 0)
theorem QgK {use br days d w s:Int} {comes:Int->Bool} (h:d < days):Qkq use br comes (upI d days) (w,s)=Q3K use br comes days d w (s+if comes d=true then br else 0):=by
 rw [Qgd h];rfl
theorem Q0K {use br days d w s:Int} {comes:Int->Bool} (h:days<=d):Qkq use br comes (upI d days) (w,s)=(w,s):=by
 rw [QlJ h];rfl
theorem kD {use br days d w L w' s':Int} {comes:Int->Bool} (h1:(if L < use/\w < 0 then d else w)=w') (h2:(if 0 < L - use then L - use else 0)=s'):Qkq use br comes (upI (d+1) days) (w',s')=Q3K use br comes days d w L:=by subst h1 h2;rfl
def Qni (p:Int×Int):Value:=.tuple #[.int .i64 p.1,.int .i64 p.2]
def Qrs (t:Qar) (kind ration:Int):Int:=(t.uses.getD kind.toNat default * ration+999).tdiv 1000
def Qct (t:Qar) (d:Int):Bool:=Qgz d t.gaps 0
def QfB (t:Qar) (day:Int) (s i:Int):List Value:=[.int .i64 day,pA 2 0,.int .i64 s,.int .i64 i]
def Qde (t:Qar) (day:Int) (s i:Int):List Obj:=[Obj.cells #[Qay 1 (slT t.uses.length (Qab Qag t.uses)),Qay 1 (slT t.gaps.length (Qab Qag t.gaps)),Qay 1 (slT t.goods.length (Qab Qax t.goods))] 65]
def Qf6:List Item:=([.code [1,1,0,1,0,0],.inLoop [1,1,0,1,0,0],.inBlock 0,.code [1,1,1]]).map (it (Qaq Tryz.prog 88))
def Qxx (B:Lo) (c0:CF) (t:Qar) (day:Int) (s i:Int):Prop:=∃dJ:Nat->Value,(∀t,QaP (dJ t))/\GoE Tryz.prog B c0 H00 1 (Qa2 88 24 (([1,2,5,6]:List Nat).zip (QfB t day s i)) dJ Qf6) (Qaz (Qde t day s i)) (2+(Qde t day s i).length) []
def QkS (B:Lo) (t:Qar) (day:Int) (s i:Int) (dJ0:Nat->Value):List Prop:=[wq (s+t.gaps.getD i.toNat default)=s+t.gaps.getD i.toNat default,i=(↑i.toNat:Int)/\Int.toNat i < List.length t.gaps/\Array.extract (Qab Qag t.gaps) (Int.toNat i * TypeInfo.size Tryz.t3) (Int.toNat i * TypeInfo.size Tryz.t3+TypeInfo.size Tryz.t3)=#[.int .i64 (t.gaps.getD i.toNat default)],ltq i (↑t.gaps.length:Int)=true]++([]:List Prop)
def QqU (t:Qar) (day:Int) (s i:Int) (dJ0:Nat->Value):Qa7:=[(4,hvT),(9,Qah.tidx i.toNat #[.int .i64 (t.gaps.getD i.toNat default)]),(11,hvI (s+t.gaps.getD i.toNat default))]
theorem QyQ (B:Lo) (t:Qar) (day:Int) (s i:Int) (dJ0:Nat->Value):Qbe (Qan Tryz.prog (Qa6 Tryz.prog) J0 B 16 1 (Qa2 88 24 (([1,2,5,6]:List Nat).zip (QfB t day s i)) dJ0 Qf6) (Qaz (Qde t day s i)) (2+(Qde t day s i).length)
 (QqU t day s i dJ0++[(15,hvT)]) 0 [] []) []=some (.bool true,
 [eqq (s+t.gaps.getD i.toNat default) day=true]++QkS B t day s i dJ0):=by kernel_rfl
theorem Qyd (B:Lo) (t:Qar) (day:Int) (s i:Int) (dJ0:Nat->Value):landM (Qan Tryz.prog (Qa6 Tryz.prog) J0 B 16 1 (Qa2 88 24 (([1,2,5,6]:List Nat).zip (QfB t day s i)) dJ0 Qf6) (Qaz (Qde t day s i)) (2+(Qde t day s i).length)
 (QqU t day s i dJ0++[(15,hvF),(17,hvI (i+1))]) 0 [] []) [1,2,5,6] [(2,KS.auto)] []=some ⟨88,24,Qf6,[],.run,none,QfB t day (s+t.gaps.getD i.toNat default) (i+1),Qde t day (s+t.gaps.getD i.toNat default) (i+1),
 [wq (i+1)=i+1,eqq (s+t.gaps.getD i.toNat default) day=false]++QkS B t day s i dJ0⟩:=by kernel_rfl
theorem Qyf (B:Lo) (t:Qar) (day:Int) (s i:Int) (dJ0:Nat->Value):Qbe (Qan Tryz.prog (Qa6 Tryz.prog) J0 B 9 1 (Qa2 88 24 (([1,2,5,6]:List Nat).zip (QfB t day s i)) dJ0 Qf6) (Qaz (Qde t day s i)) (2+(Qde t day s i).length)
 [(4,hvF)] 0 [] []) []=some (.bool false,
 [ltq i (↑t.gaps.length:Int)=false]):=by kernel_rfl
theorem Qy0 (B:Lo) (t:Qar) (day:Int):landM (Qan Tryz.prog (Qa6 Tryz.prog) J0 B 9 1 (Qal Tryz.prog 88 24 (([.agg (QaA t).toArray,.int .i64 day]).map (Qav 0 4))) H00 1
 [] 0 [] []) [1,2,5,6] [(1,KS.auto)] []=some ⟨88,24,Qf6,[],.run,none,QfB t day (0) (0),Qde t day (0) (0),
 []⟩:=by kernel_rfl
set_option maxHeartbeats 4000000 in
theorem Qwt (t:Qar) (day:Int) (hg:∀x∈t.gaps,0<=x/\x<=60) (hl:t.gaps.length<=300) {B:Lo} (hJ:∀w,B.has w->J0 w) {c0:CF}:∀m:Nat,(∀(s i:Int),t.gaps.length - i.toNat=m->∀(h0:0<=i) (h1:0<=s/\s<=60 * i),Qxx B c0 t day s i->EndsT Tryz.prog B c0 (.bool (Qgz day (t.gaps.drop i.toNat) s))):=by
 intro m0
 induction m0 using Nat.strongRecOn with
 | _ m0 ih0=>
   intro s i hm0 h0 h1 ⟨dJ0,hdJ0,hg0⟩
   by_cases q0:(i:Int) < ((↑t.gaps.length:Int))
   ·
    have hp0:QaB (QkS B t day s i dJ0):=by
     have s2:=QhL (day:=day) (s:=s) (l:=t.gaps) h0 q0
     have g1:=hg _ (QaI h0 q0)
     exact ⟨(QaM (by omega) (by omega)),⟨⟨by omega,by omega,(Qae (z:=1) (fun _=> rfl) (by omega))⟩,⟨(QaW q0),trivial⟩⟩⟩
    by_cases q1:(s+t.gaps.getD i.toNat default:Int)=(day)
    ·
     have s2:=QhL (day:=day) (s:=s) (l:=t.gaps) h0 q0
     have g1:=hg _ (QaI h0 q0)
     exact (GoE.endsT okF hJ Qac hg0 (QyQ B t day s i dJ0)
      ⟨(Quc q1),hp0⟩).cast (by (rw [s2,decide_eq_true (by assumption)];rfl))
    ·
     have s2:=QhL (day:=day) (s:=s) (l:=t.gaps) h0 q0
     have g1:=hg _ (QaI h0 q0)
     exact ((ih0 _ (by omega)) (s+t.gaps.getD i.toNat default) (i+1) rfl (by omega) (by omega)
      (hg0.landM okF hJ Qac (Qyd B t day s i dJ0)
      ⟨(QaM (by omega) (by omega)),⟨(QtU q1),hp0⟩⟩ (by kernel_rfl) (by kernel_rfl))).cast (by (rw [s2,decide_eq_false (by assumption)];rfl))
   ·
    have s2:=QuU (day:=day) (s:=s) (l:=t.gaps) (i:=i) (by omega)
    exact (GoE.endsT okF hJ Qac hg0 (Qyf B t day s i dJ0)
     ⟨(Qbb (Int.not_lt.1 q0)),trivial⟩).cast (by (rw [s2];done))
set_option maxHeartbeats 4000000 in
theorem Q0C (t:Qar) (day:Int) (hg:∀x∈t.gaps,0<=x/\x<=60) (hl:t.gaps.length<=300) {B:Lo} (hJ:∀w,B.has w->J0 w):EndsT Tryz.prog B (Qal Tryz.prog 88 24 (([.agg (QaA t).toArray,.int .i64 day]).map (Qav 0 4))) (.bool (Qct t day)):=by
 exact ((Qwt t day hg hl hJ _) (0) (0) rfl (by omega) (by omega)
  (GoE.start.landM okF hJ Qac (Qy0 B t day)
  trivial (by kernel_rfl) (by kernel_rfl))).cast (by rfl)
theorem Q2n (t:Qar) (day:Int) (hg:∀x∈t.gaps,0<=x/\x<=60) (hl:t.gaps.length<=300):Qau Tryz.prog J0 88 #[.agg (QaA t).toArray,.int .i64 day] (.bool (Qct t day)):=
 QaF (ts:=[.agg (QaA t).toArray,.int .i64 day]) Qbw (c0:=Qal Tryz.prog 88 24 (([.agg (QaA t).toArray,.int .i64 day]).map (Qav 0 4))) (by kernel_rfl) (by kernel_rfl) fun B hJ=> Q0C t day hg hl hJ
def QcQ (s:Qaa) (load:List Int) (days:Int) (t:Qar) (kind ration:Int) (d stock w:Int):List Value:=[Qay 1 (slT load.length (Qab Qag load)),.int .i64 days,.int .i64 kind,pA 2 0,.int .i64 stock,.int .i64 w,.int .i64 (Int.tdiv (t.uses.getD kind.toNat default * ration+999) 1000),.int .i64 d]
def Qb7 (s:Qaa) (load:List Int) (days:Int) (t:Qar) (kind ration:Int) (d stock w:Int):List Obj:=[Obj.cells #[Qay 1 (slT t.uses.length (Qab Qag t.uses)),Qay 1 (slT t.gaps.length (Qab Qag t.gaps)),Qay 1 (slT t.goods.length (Qab Qax t.goods))] 65]
def QcR:List Item:=([.code [1,1,1,0,1,0,0],.inLoop [1,1,1,0,1,0,0],.inBlock 0,.code [1,1,1,1]]).map (it (Qaq Tryz.prog 41))
def Q1G (B:Lo) (c0:CF) (s:Qaa) (load:List Int) (days:Int) (t:Qar) (kind ration:Int) (d stock w:Int):Prop:=∃dJ:Nat->Value,(∀t,QaP (dJ t))/\GoE Tryz.prog B c0 H00 1 (Qa2 41 74 (([1,2,4,9,14,15,16,17]:List Nat).zip (QcQ s load days t kind ration d stock w)) dJ QcR) (Qaz (Qb7 s load days t kind ration d stock w)) (2+(Qb7 s load days t kind ration d stock w).length) []
def QfK (s:Qaa) (load:List Int) (days:Int) (t:Qar) (kind ration:Int) (d i stock w:Int):List Value:=[Qay 1 (slT load.length (Qab Qag load)),.int .i64 days,.int .i64 kind,pA 2 0,.int .i64 stock,.int .i64 w,.int .i64 (Int.tdiv (t.uses.getD kind.toNat default * ration+999) 1000),.int .i64 d,.int .i64 i]
def Qdi (s:Qaa) (load:List Int) (days:Int) (t:Qar) (kind ration:Int) (d i stock w:Int):List Obj:=[Obj.cells #[Qay 1 (slT t.uses.length (Qab Qag t.uses)),Qay 1 (slT t.gaps.length (Qab Qag t.gaps)),Qay 1 (slT t.goods.length (Qab Qax t.goods))] 65]
def Qgc:List Item:=([.code [1,1,1,0,1,0,0,1,0,0,0,1,0,1,0,0],.inLoop [1,1,1,0,1,0,0,1,0,0,0,1,0,1,0,0],.inBlock 2,.code [1,1,1,0,1,0,0,1,0,0,1],.inBlock 1,.code [1,1,1,0,1,0,0,1,1],.inLoop [1,1,1,0,1,0,0],.inBlock 0,.code [1,1,1,1]]).map (it (Qaq Tryz.prog 41))
def Q0O (B:Lo) (c0:CF) (s:Qaa) (load:List Int) (days:Int) (t:Qar) (kind ration:Int) (d i stock w:Int):Prop:=∃dJ:Nat->Value,(∀t,QaP (dJ t))/\GoE Tryz.prog B c0 H00 1 (Qa2 41 74 (([1,2,4,9,14,15,16,17,18]:List Nat).zip (QfK s load days t kind ration d i stock w)) dJ Qgc) (Qaz (Qdi s load days t kind ration d i stock w)) (2+(Qdi s load days t kind ration d i stock w).length) []
def Qow (B:Lo) (s:Qaa) (load:List Int) (days:Int) (t:Qar) (kind ration:Int) (d stock w:Int) (dJ0:Nat->Value):List Prop:=[ltq d days=true]++([]:List Prop)
def Qtw (s:Qaa) (load:List Int) (days:Int) (t:Qar) (kind ration:Int) (d stock w:Int) (dJ0:Nat->Value):Qa7:=[(2,hvT)]
theorem Q0h (B:Lo) (s:Qaa) (load:List Int) (days:Int) (t:Qar) (kind ration:Int) (d stock w:Int) (dJ0:Nat->Value):landM (Qan Tryz.prog (Qa6 Tryz.prog) J0 B 15 1 (Qa2 41 74 (([1,2,4,9,14,15,16,17]:List Nat).zip (QcQ s load days t kind ration d stock w)) dJ0 QcR) (Qaz (Qb7 s load days t kind ration d stock w)) (2+(Qb7 s load days t kind ration d stock w).length)
 (Qtw s load days t kind ration d stock w dJ0++[(5,Qah.pure (.bool true) [])]) 0 [] []) [1,2,4,9,14,15,16,17,18] [(2,KS.auto)] []=some ⟨41,74,Qgc,[],.run,none,QfK s load days t kind ration (d) (0) (stock) (w),Qdi s load days t kind ration (d) (0) (stock) (w),
 [QaB []/\Qau Tryz.prog J0 88 #[.agg #[slT t.uses.length (Qab Qag t.uses),slT t.gaps.length (Qab Qag t.gaps),slT t.goods.length (Qab Qax t.goods)],.int .i64 d] (.bool true)]++Qow B s load days t kind ration d stock w dJ0⟩:=by kernel_rfl
def QoE (B:Lo) (s:Qaa) (load:List Int) (days:Int) (t:Qar) (kind ration:Int) (d stock w:Int) (dJ0:Nat->Value):List Prop:=[QaB []/\Qau Tryz.prog J0 88 #[.agg #[slT t.uses.length (Qab Qag t.uses),slT t.gaps.length (Qab Qag t.gaps),slT t.goods.length (Qab Qax t.goods)],.int .i64 d] (.bool false)]++Qow B s load days t kind ration d stock w dJ0
def QsG (s:Qaa) (load:List Int) (days:Int) (t:Qar) (kind ration:Int) (d stock w:Int) (dJ0:Nat->Value):Qa7:=Qtw s load days t kind ration d stock w dJ0++[(5,Qah.pure (.bool false) [])]
def QoN (B:Lo) (s:Qaa) (load:List Int) (days:Int) (t:Qar) (kind ration:Int) (d stock w:Int) (dJ0:Nat->Value):List Prop:=[ltq stock (Int.tdiv (t.uses.getD kind.toNat default * ration+999) 1000)=true]++QoE B s load days t kind ration d stock w dJ0
def Qtr (s:Qaa) (load:List Int) (days:Int) (t:Qar) (kind ration:Int) (d stock w:Int) (dJ0:Nat->Value):Qa7:=QsG s load days t kind ration d stock w dJ0++[(8,hvT)]
theorem Q1H (B:Lo) (s:Qaa) (load:List Int) (days:Int) (t:Qar) (kind ration:Int) (d stock w:Int) (dJ0:Nat->Value):landM (Qan Tryz.prog (Qa6 Tryz.prog) J0 B 21 1 (Qa2 41 74 (([1,2,4,9,14,15,16,17]:List Nat).zip (QcQ s load days t kind ration d stock w)) dJ0 QcR) (Qaz (Qb7 s load days t kind ration d stock w)) (2+(Qb7 s load days t kind ration d stock w).length)
 (Qtr s load days t kind ration d stock w dJ0++[(11,hvT),(17,hvI (stock - Int.tdiv (t.uses.getD kind.toNat default * ration+999) 1000)),(21,hvI (d+1))]) 0 [] []) [1,2,4,9,14,15,16,17] [(2,KS.auto)] []=some ⟨41,74,QcR,[],.run,none,QcQ s load days t kind ration (d+1) (if stock - Int.tdiv (t.uses.getD kind.toNat default * ration+999) 1000 > 0 then stock - Int.tdiv (t.uses.getD kind.toNat default * ration+999) 1000 else 0) (d),Qb7 s load days t kind ration (d+1) (if stock - Int.tdiv (t.uses.getD kind.toNat default * ration+999) 1000 > 0 then stock - Int.tdiv (t.uses.getD kind.toNat default * ration+999) 1000 else 0) (d),
 [wq (d+1)=d+1,wq (stock - Int.tdiv (t.uses.getD kind.toNat default * ration+999) 1000)=stock - Int.tdiv (t.uses.getD kind.toNat default * ration+999) 1000,ltq w 0=true]++QoN B s load days t kind ration d stock w dJ0⟩:=by kernel_rfl
theorem Q1A (B:Lo) (s:Qaa) (load:List Int) (days:Int) (t:Qar) (kind ration:Int) (d stock w:Int) (dJ0:Nat->Value):landM (Qan Tryz.prog (Qa6 Tryz.prog) J0 B 21 1 (Qa2 41 74 (([1,2,4,9,14,15,16,17]:List Nat).zip (QcQ s load days t kind ration d stock w)) dJ0 QcR) (Qaz (Qb7 s load days t kind ration d stock w)) (2+(Qb7 s load days t kind ration d stock w).length)
 (Qtr s load days t kind ration d stock w dJ0++[(11,hvF),(15,hvI (stock - Int.tdiv (t.uses.getD kind.toNat default * ration+999) 1000)),(19,hvI (d+1))]) 0 [] []) [1,2,4,9,14,15,16,17] [(2,KS.auto)] []=some ⟨41,74,QcR,[],.run,none,QcQ s load days t kind ration (d+1) (if stock - Int.tdiv (t.uses.getD kind.toNat default * ration+999) 1000 > 0 then stock - Int.tdiv (t.uses.getD kind.toNat default * ration+999) 1000 else 0) (w),Qb7 s load days t kind ration (d+1) (if stock - Int.tdiv (t.uses.getD kind.toNat default * ration+999) 1000 > 0 then stock - Int.tdiv (t.uses.getD kind.toNat default * ration+999) 1000 else 0) (w),
 [wq (d+1)=d+1,wq (stock - Int.tdiv (t.uses.getD kind.toNat default * ration+999) 1000)=stock - Int.tdiv (t.uses.getD kind.toNat default * ration+999) 1000,ltq w 0=false]++QoN B s load days t kind ration d stock w dJ0⟩:=by kernel_rfl
theorem Q1V (B:Lo) (s:Qaa) (load:List Int) (days:Int) (t:Qar) (kind ration:Int) (d stock w:Int) (dJ0:Nat->Value):landM (Qan Tryz.prog (Qa6 Tryz.prog) J0 B 21 1 (Qa2 41 74 (([1,2,4,9,14,15,16,17]:List Nat).zip (QcQ s load days t kind ration d stock w)) dJ0 QcR) (Qaz (Qb7 s load days t kind ration d stock w)) (2+(Qb7 s load days t kind ration d stock w).length)
 (QsG s load days t kind ration d stock w dJ0++[(8,hvF),(15,hvI (stock - Int.tdiv (t.uses.getD kind.toNat default * ration+999) 1000)),(19,hvI (d+1))]) 0 [] []) [1,2,4,9,14,15,16,17] [(2,KS.auto)] []=some ⟨41,74,QcR,[],.run,none,QcQ s load days t kind ration (d+1) (if stock - Int.tdiv (t.uses.getD kind.toNat default * ration+999) 1000 > 0 then stock - Int.tdiv (t.uses.getD kind.toNat default * ration+999) 1000 else 0) (w),Qb7 s load days t kind ration (d+1) (if stock - Int.tdiv (t.uses.getD kind.toNat default * ration+999) 1000 > 0 then stock - Int.tdiv (t.uses.getD kind.toNat default * ration+999) 1000 else 0) (w),
 [wq (d+1)=d+1,wq (stock - Int.tdiv (t.uses.getD kind.toNat default * ration+999) 1000)=stock - Int.tdiv (t.uses.getD kind.toNat default * ration+999) 1000,ltq stock (Int.tdiv (t.uses.getD kind.toNat default * ration+999) 1000)=false]++QoE B s load days t kind ration d stock w dJ0⟩:=by kernel_rfl
theorem Q0H (B:Lo) (s:Qaa) (load:List Int) (days:Int) (t:Qar) (kind ration:Int) (d stock w:Int) (dJ0:Nat->Value):Qbe (Qan Tryz.prog (Qa6 Tryz.prog) J0 B 9 1 (Qa2 41 74 (([1,2,4,9,14,15,16,17]:List Nat).zip (QcQ s load days t kind ration d stock w)) dJ0 QcR) (Qaz (Qb7 s load days t kind ration d stock w)) (2+(Qb7 s load days t kind ration d stock w).length)
 [(2,hvF)] 0 [] []) []=some (.tuple #[.int .i64 w,.int .i64 stock],
 [ltq d days=false]):=by kernel_rfl
theorem Q0A (B:Lo) (s:Qaa) (load:List Int) (days:Int) (t:Qar) (kind ration:Int) (d i stock w:Int) (dJ0:Nat->Value):landM (Qan Tryz.prog (Qa6 Tryz.prog) J0 B 11 1 (Qa2 41 74 (([1,2,4,9,14,15,16,17,18]:List Nat).zip (QfK s load days t kind ration d i stock w)) dJ0 Qgc) (Qaz (Qdi s load days t kind ration d i stock w)) (2+(Qdi s load days t kind ration d i stock w).length)
 [(3,hvT),(9,Qah.tidx i.toNat #[.int .i64 (load.getD i.toNat default)]),(11,Qah.tidx (Int.toNat (load.getD i.toNat default)) #[slT (List.length (t.goods.getD (Int.toNat (load.getD i.toNat default)) default)) (Qab Qag (t.goods.getD (Int.toNat (load.getD i.toNat default)) default))]),(14,Qah.tidx kind.toNat #[.int .i64 (List.getD (t.goods.getD (Int.toNat (load.getD i.toNat default)) default) kind.toNat default)]),(16,hvI (stock+List.getD (t.goods.getD (Int.toNat (load.getD i.toNat default)) default) kind.toNat default)),(19,hvI (i+1))] 0 [] []) [1,2,4,9,14,15,16,17,18] [(2,KS.auto)] []=some ⟨41,74,Qgc,[],.run,none,QfK s load days t kind ration (d) (i+1) (stock+List.getD (t.goods.getD (Int.toNat (load.getD i.toNat default)) default) kind.toNat default) (w),Qdi s load days t kind ration (d) (i+1) (stock+List.getD (t.goods.getD (Int.toNat (load.getD i.toNat default)) default) kind.toNat default) (w),
 [wq (i+1)=i+1,wq (stock+List.getD (t.goods.getD (Int.toNat (load.getD i.toNat default)) default) kind.toNat default)=stock+List.getD (t.goods.getD (Int.toNat (load.getD i.toNat default)) default) kind.toNat default,kind=(↑kind.toNat:Int)/\Int.toNat kind < List.length (t.goods.getD (Int.toNat (load.getD i.toNat default)) default)/\Array.extract (Qab Qag (t.goods.getD (Int.toNat (load.getD i.toNat default)) default)) (Int.toNat kind * TypeInfo.size Tryz.t3) (Int.toNat kind * TypeInfo.size Tryz.t3+TypeInfo.size Tryz.t3)=#[.int .i64 (List.getD (t.goods.getD (Int.toNat (load.getD i.toNat default)) default) kind.toNat default)],load.getD i.toNat default=(↑(Int.toNat (load.getD i.toNat default)):Int)/\Int.toNat (load.getD i.toNat default) < List.length t.goods/\Array.extract (Qab Qax t.goods) (Int.toNat (load.getD i.toNat default) * TypeInfo.size Tryz.t22) (Int.toNat (load.getD i.toNat default) * TypeInfo.size Tryz.t22+TypeInfo.size Tryz.t22)=#[slT (List.length (t.goods.getD (Int.toNat (load.getD i.toNat default)) default)) (Qab Qag (t.goods.getD (Int.toNat (load.getD i.toNat default)) default))],i=(↑i.toNat:Int)/\Int.toNat i < List.length load/\Array.extract (Qab Qag load) (Int.toNat i * TypeInfo.size Tryz.t3) (Int.toNat i * TypeInfo.size Tryz.t3+TypeInfo.size Tryz.t3)=#[.int .i64 (load.getD i.toNat default)],ltq i (↑load.length:Int)=true]⟩:=by kernel_rfl
def QoX (B:Lo) (s:Qaa) (load:List Int) (days:Int) (t:Qar) (kind ration:Int) (d i stock w:Int) (dJ0:Nat->Value):List Prop:=[ltq i (↑load.length:Int)=false]++([]:List Prop)
def Qs6 (s:Qaa) (load:List Int) (days:Int) (t:Qar) (kind ration:Int) (d i stock w:Int) (dJ0:Nat->Value):Qa7:=[(3,hvF)]
def Qoa (B:Lo) (s:Qaa) (load:List Int) (days:Int) (t:Qar) (kind ration:Int) (d i stock w:Int) (dJ0:Nat->Value):List Prop:=[ltq stock (Int.tdiv (t.uses.getD kind.toNat default * ration+999) 1000)=true]++QoX B s load days t kind ration d i stock w dJ0
def Qtt (s:Qaa) (load:List Int) (days:Int) (t:Qar) (kind ration:Int) (d i stock w:Int) (dJ0:Nat->Value):Qa7:=Qs6 s load days t kind ration d i stock w dJ0++[(6,hvT)]
theorem Q1p (B:Lo) (s:Qaa) (load:List Int) (days:Int) (t:Qar) (kind ration:Int) (d i stock w:Int) (dJ0:Nat->Value):landM (Qan Tryz.prog (Qa6 Tryz.prog) J0 B 14 1 (Qa2 41 74 (([1,2,4,9,14,15,16,17,18]:List Nat).zip (QfK s load days t kind ration d i stock w)) dJ0 Qgc) (Qaz (Qdi s load days t kind ration d i stock w)) (2+(Qdi s load days t kind ration d i stock w).length)
 (Qtt s load days t kind ration d i stock w dJ0++[(9,hvT),(15,hvI (stock - Int.tdiv (t.uses.getD kind.toNat default * ration+999) 1000)),(19,hvI (d+1))]) 0 [] []) [1,2,4,9,14,15,16,17] [(2,KS.auto)] []=some ⟨41,74,QcR,[],.run,none,QcQ s load days t kind ration (d+1) (if stock - Int.tdiv (t.uses.getD kind.toNat default * ration+999) 1000 > 0 then stock - Int.tdiv (t.uses.getD kind.toNat default * ration+999) 1000 else 0) (d),Qb7 s load days t kind ration (d+1) (if stock - Int.tdiv (t.uses.getD kind.toNat default * ration+999) 1000 > 0 then stock - Int.tdiv (t.uses.getD kind.toNat default * ration+999) 1000 else 0) (d),
 [wq (d+1)=d+1,wq (stock - Int.tdiv (t.uses.getD kind.toNat default * ration+999) 1000)=stock - Int.tdiv (t.uses.getD kind.toNat default * ration+999) 1000,ltq w 0=true]++Qoa B s load days t kind ration d i stock w dJ0⟩:=by kernel_rfl
theorem Q04 (B:Lo) (s:Qaa) (load:List Int) (days:Int) (t:Qar) (kind ration:Int) (d i stock w:Int) (dJ0:Nat->Value):landM (Qan Tryz.prog (Qa6 Tryz.prog) J0 B 14 1 (Qa2 41 74 (([1,2,4,9,14,15,16,17,18]:List Nat).zip (QfK s load days t kind ration d i stock w)) dJ0 Qgc) (Qaz (Qdi s load days t kind ration d i stock w)) (2+(Qdi s load days t kind ration d i stock w).length)
 (Qtt s load days t kind ration d i stock w dJ0++[(9,hvF),(13,hvI (stock - Int.tdiv (t.uses.getD kind.toNat default * ration+999) 1000)),(17,hvI (d+1))]) 0 [] []) [1,2,4,9,14,15,16,17] [(2,KS.auto)] []=some ⟨41,74,QcR,[],.run,none,QcQ s load days t kind ration (d+1) (if stock - Int.tdiv (t.uses.getD kind.toNat default * ration+999) 1000 > 0 then stock - Int.tdiv (t.uses.getD kind.toNat default * ration+999) 1000 else 0) (w),Qb7 s load days t kind ration (d+1) (if stock - Int.tdiv (t.uses.getD kind.toNat default * ration+999) 1000 > 0 then stock - Int.tdiv (t.uses.getD kind.toNat default * ration+999) 1000 else 0) (w),
 [wq (d+1)=d+1,wq (stock - Int.tdiv (t.uses.getD kind.toNat default * ration+999) 1000)=stock - Int.tdiv (t.uses.getD kind.toNat default * ration+999) 1000,ltq w 0=false]++Qoa B s load days t kind ration d i stock w dJ0⟩:=by kernel_rfl
theorem QzD (B:Lo) (s:Qaa) (load:List Int) (days:Int) (t:Qar) (kind ration:Int) (d i stock w:Int) (dJ0:Nat->Value):landM (Qan Tryz.prog (Qa6 Tryz.prog) J0 B 14 1 (Qa2 41 74 (([1,2,4,9,14,15,16,17,18]:List Nat).zip (QfK s load days t kind ration d i stock w)) dJ0 Qgc) (Qaz (Qdi s load days t kind ration d i stock w)) (2+(Qdi s load days t kind ration d i stock w).length)
 (Qs6 s load days t kind ration d i stock w dJ0++[(6,hvF),(13,hvI (stock - Int.tdiv (t.uses.getD kind.toNat default * ration+999) 1000)),(17,hvI (d+1))]) 0 [] []) [1,2,4,9,14,15,16,17] [(2,KS.auto)] []=some ⟨41,74,QcR,[],.run,none,QcQ s load days t kind ration (d+1) (if stock - Int.tdiv (t.uses.getD kind.toNat default * ration+999) 1000 > 0 then stock - Int.tdiv (t.uses.getD kind.toNat default * ration+999) 1000 else 0) (w),Qb7 s load days t kind ration (d+1) (if stock - Int.tdiv (t.uses.getD kind.toNat default * ration+999) 1000 > 0 then stock - Int.tdiv (t.uses.getD kind.toNat default * ration+999) 1000 else 0) (w),
 [wq (d+1)=d+1,wq (stock - Int.tdiv (t.uses.getD kind.toNat default * ration+999) 1000)=stock - Int.tdiv (t.uses.getD kind.toNat default * ration+999) 1000,ltq stock (Int.tdiv (t.uses.getD kind.toNat default * ration+999) 1000)=false]++QoX B s load days t kind ration d i stock w dJ0⟩:=by kernel_rfl
theorem Q1L (B:Lo) (s:Qaa) (load:List Int) (days:Int) (t:Qar) (kind ration:Int):landM (Qan Tryz.prog (Qa6 Tryz.prog) J0 B 11 1 (Qal Tryz.prog 41 74 (([.agg (Qap s).toArray,slI load,.int .i64 days,.agg (QaA t).toArray,.int .i64 kind,.int .i64 ration]).map (Qav 0 4))) H00 1
 [(7,Qah.tidx kind.toNat #[.int .i64 (s.stock.getD kind.toNat default)]),(14,Qah.tidx kind.toNat #[.int .i64 (t.uses.getD kind.toNat default)]),(17,hvI (t.uses.getD kind.toNat default * ration)),(18,hvI (t.uses.getD kind.toNat default * ration+999)),(19,hvI (Int.tdiv (t.uses.getD kind.toNat default * ration+999) 1000))] 0 [] []) [1,2,4,9,14,15,16,17] [(2,KS.auto)] []=some ⟨41,74,QcR,[],.run,none,QcQ s load days t kind ration (0) (s.stock.getD kind.toNat default) (-1),Qb7 s load days t kind ration (0) (s.stock.getD kind.toNat default) (-1),
 [IntKind.wrap .i64 (Int.tdiv (t.uses.getD kind.toNat default * ration+999) 1000)=Int.tdiv (t.uses.getD kind.toNat default * ration+999) 1000,wq (t.uses.getD kind.toNat default * ration+999)=t.uses.getD kind.toNat default * ration+999,wq (t.uses.getD kind.toNat default * ration)=t.uses.getD kind.toNat default * ration,kind=(↑kind.toNat:Int)/\Int.toNat kind < List.length t.uses/\Array.extract (Qab Qag t.uses) (Int.toNat kind * TypeInfo.size Tryz.t3) (Int.toNat kind * TypeInfo.size Tryz.t3+TypeInfo.size Tryz.t3)=#[.int .i64 (t.uses.getD kind.toNat default)],kind=(↑kind.toNat:Int)/\Int.toNat kind < List.length s.stock/\Array.extract (Qab Qag s.stock) (Int.toNat kind * TypeInfo.size Tryz.t3) (Int.toNat kind * TypeInfo.size Tryz.t3+TypeInfo.size Tryz.t3)=#[.int .i64 (s.stock.getD kind.toNat default)]]⟩:=by kernel_rfl
set_option maxHeartbeats 4000000 in
theorem Q10 (s:Qaa) (load:List Int) (days:Int) (t:Qar) (kind ration:Int) (hs:QaD s=true) (hl:load.length<=10) (hx:∀x∈load,0<=x/\x < s.lots.length) (ht:Qdq s days t=true) (hd:0<=days/\days<=300) (hk:0<=kind/\kind < s.stock.length) (hr:0<=ration/\ration<=1001) {B:Lo} (hJ:∀w,B.has w->J0 w) {c0:CF}:∀m:Nat,(∀(d stock w:Int),(days - d).toNat * 20=m->∀(d0:0<=d) (s0:0<=stock/\stock<=100000+1000000 * d) (w0: -1<=w/\w<=300),Q1G B c0 s load days t kind ration d stock w->EndsT Tryz.prog B c0 (Qni (Qkq (Qrs t kind ration) (Qkr t kind load) (Qct t) (upI d days) (w,stock))))/\(∀(d i stock w:Int),(days - d).toNat * 20 - 15+(load.length - i.toNat)=m->∀(d0:0<=d) (d1:d < days) (i0:0<=i) (i1:i<=load.length) (s0:0<=stock/\stock<=100000+1000000 * d+100000 * i) (w0: -1<=w/\w<=300),Q0O B c0 s load days t kind ration d i stock w->EndsT Tryz.prog B c0 (Qni (Q3K (Qrs t kind ration) (Qkr t kind load) (Qct t) days d w (stock+Qkr t kind (load.drop i.toNat))))):=by
 intro m0
 induction m0 using Nat.strongRecOn with
 | _ m0 ih0=>
   refine ⟨?_, ?_⟩
   ·intro d stock w hm0 d0 s0 w0 ⟨dJ0,hdJ0,hg0⟩
    have ht':=ht;simp only [Qdq,Qnk,Bool.and_eq_true,decide_eq_true_iff,List.all_eq_true,Qbn] at ht'
    have hgp:=Qa0 hs
    have hst:=Qaj hs
    have hrows:=QdY hs ht'.2.2
    have hus:=(Qb8 ht'.1)
    have hgg:∀x∈t.gaps,0<=x/\x<=60:=fun x h=> by have:=ht'.2.1.2.1 x h;omega
    have hgl:t.gaps.length<=300:=ht'.2.1.1
    have hu1:=hus.2 kind hk.1 (by omega)
    have hu2:=hst.2.2.2 _ (QaI (l:=s.use) hk.1 (by omega))
    have hs1:=hst.2.1 _ (QaI (l:=s.stock) hk.1 hk.2)
    have hu3:0<=t.uses.getD kind.toNat default * ration:=Int.mul_nonneg (by omega) (by omega)
    have hu4:t.uses.getD kind.toNat default * ration<=1000 * 1001:=Int.mul_le_mul (by omega) (by omega) (by omega) (by omega)
    have hu5:(t.uses.getD kind.toNat default * ration+999).tdiv 1000=(t.uses.getD kind.toNat default * ration+999) / 1000:=Int.tdiv_eq_ediv_of_nonneg (by omega)
    have hU:Qrs t kind ration=(t.uses.getD kind.toNat default * ration+999).tdiv 1000:=rfl
    by_cases q0:(d:Int) < (days)
    ·
     have hp0:QaB (Qow B s load days t kind ration d stock w dJ0):=by
      exact ⟨(QaW q0),trivial⟩
     cases q1:Qct t d with
     | true=>
       have s2:=QgK (use:=Qrs t kind ration) (br:=Qkr t kind load) (comes:=Qct t) (days:=days) (d:=d) (w:=w) (s:=stock) (by omega)
       have hc:(if Qct t d=true then Qkr t kind load else 0)=Qkr t kind load:=if_pos ‹Qct t d=true›
       exact ((ih0 _ (by omega)).2 (d) (0) (stock) (w) rfl (by with_reducible assumption) (by with_reducible assumption) (by omega) (by omega) (by omega) (by with_reducible assumption)
        (hg0.landM okF hJ Qac (Q0h B s load days t kind ration d stock w dJ0)
        ⟨⟨trivial,(by have t_:=Q2n (t) (d) (by with_reducible assumption) (by with_reducible assumption);rw [q1] at t_;exact t_)⟩,hp0⟩ (by kernel_rfl) (by kernel_rfl))).cast (by (rw [s2,hc];rfl))
     | false=>
       have hp1:QaB (QoE B s load days t kind ration d stock w dJ0):=by
        have s2:=QgK (use:=Qrs t kind ration) (br:=Qkr t kind load) (comes:=Qct t) (days:=days) (d:=d) (w:=w) (s:=stock) (by omega)
        have hc:(if Qct t d=true then Qkr t kind load else 0)=0:=if_neg (by rw [‹Qct t d=false›];decide)
        exact ⟨⟨trivial,(by have t_:=Q2n (t) (d) (by with_reducible assumption) (by with_reducible assumption);rw [q1] at t_;exact t_)⟩,hp0⟩
       by_cases q2:(stock:Int) < (Int.tdiv (t.uses.getD kind.toNat default * ration+999) 1000)
       ·
        have hp2:QaB (QoN B s load days t kind ration d stock w dJ0):=by
         exact ⟨(QaW q2),hp1⟩
        by_cases q3:(w:Int) < (0)
        ·
         have s2:=QgK (use:=Qrs t kind ration) (br:=Qkr t kind load) (comes:=Qct t) (days:=days) (d:=d) (w:=w) (s:=stock) (by omega)
         have hc:(if Qct t d=true then Qkr t kind load else 0)=0:=if_neg (by rw [‹Qct t d=false›];decide)
         exact ((ih0 _ (by omega)).1 (d+1) (if stock - Int.tdiv (t.uses.getD kind.toNat default * ration+999) 1000 > 0 then stock - Int.tdiv (t.uses.getD kind.toNat default * ration+999) 1000 else 0) (d) rfl (by omega) (by omega) (by omega)
          (hg0.landM okF hJ Qac (Q1H B s load days t kind ration d stock w dJ0)
          ⟨(QaM (by omega) (by omega)),⟨(QaM (by omega) (by omega)),⟨(QaW q3),hp2⟩⟩⟩ (by kernel_rfl) (by kernel_rfl))).cast (by (rw [s2,hc];exact congrArg Qni (kD (by split <;> omega) (by split <;> omega))))
        ·
         have s2:=QgK (use:=Qrs t kind ration) (br:=Qkr t kind load) (comes:=Qct t) (days:=days) (d:=d) (w:=w) (s:=stock) (by omega)
         have hc:(if Qct t d=true then Qkr t kind load else 0)=0:=if_neg (by rw [‹Qct t d=false›];decide)
         exact ((ih0 _ (by omega)).1 (d+1) (if stock - Int.tdiv (t.uses.getD kind.toNat default * ration+999) 1000 > 0 then stock - Int.tdiv (t.uses.getD kind.toNat default * ration+999) 1000 else 0) (w) rfl (by omega) (by omega) (by with_reducible assumption)
          (hg0.landM okF hJ Qac (Q1A B s load days t kind ration d stock w dJ0)
          ⟨(QaM (by omega) (by omega)),⟨(QaM (by omega) (by omega)),⟨(Qbb (Int.not_lt.1 q3)),hp2⟩⟩⟩ (by kernel_rfl) (by kernel_rfl))).cast (by (rw [s2,hc];exact congrArg Qni (kD (by split <;> omega) (by split <;> omega))))
       ·
        have s2:=QgK (use:=Qrs t kind ration) (br:=Qkr t kind load) (comes:=Qct t) (days:=days) (d:=d) (w:=w) (s:=stock) (by omega)
        have hc:(if Qct t d=true then Qkr t kind load else 0)=0:=if_neg (by rw [‹Qct t d=false›];decide)
        exact ((ih0 _ (by omega)).1 (d+1) (if stock - Int.tdiv (t.uses.getD kind.toNat default * ration+999) 1000 > 0 then stock - Int.tdiv (t.uses.getD kind.toNat default * ration+999) 1000 else 0) (w) rfl (by omega) (by omega) (by with_reducible assumption)
         (hg0.landM okF hJ Qac (Q1V B s load days t kind ration d stock w dJ0)
         ⟨(QaM (by omega) (by omega)),⟨(QaM (by omega) (by omega)),⟨(Qbb (Int.not_lt.1 q2)),hp1⟩⟩⟩ (by kernel_rfl) (by kernel_rfl))).cast (by (rw [s2,hc];exact congrArg Qni (kD (by split <;> omega) (by split <;> omega))))
    ·
     have s2:=Q0K (use:=Qrs t kind ration) (br:=Qkr t kind load) (comes:=Qct t) (days:=days) (d:=d) (w:=w) (s:=stock) (by omega)
     exact (GoE.endsT okF hJ Qac hg0 (Q0H B s load days t kind ration d stock w dJ0)
      ⟨(Qbb (Int.not_lt.1 q0)),trivial⟩).cast (by (rw [s2];rfl))
   ·intro d i stock w hm0 d0 d1 i0 i1 s0 w0 ⟨dJ0,hdJ0,hg0⟩
    have ht':=ht;simp only [Qdq,Qnk,Bool.and_eq_true,decide_eq_true_iff,List.all_eq_true,Qbn] at ht'
    have hgp:=Qa0 hs
    have hst:=Qaj hs
    have hrows:=QdY hs ht'.2.2
    have hus:=(Qb8 ht'.1)
    have hgg:∀x∈t.gaps,0<=x/\x<=60:=fun x h=> by have:=ht'.2.1.2.1 x h;omega
    have hgl:t.gaps.length<=300:=ht'.2.1.1
    have hu1:=hus.2 kind hk.1 (by omega)
    have hu2:=hst.2.2.2 _ (QaI (l:=s.use) hk.1 (by omega))
    have hs1:=hst.2.1 _ (QaI (l:=s.stock) hk.1 hk.2)
    have hu3:0<=t.uses.getD kind.toNat default * ration:=Int.mul_nonneg (by omega) (by omega)
    have hu4:t.uses.getD kind.toNat default * ration<=1000 * 1001:=Int.mul_le_mul (by omega) (by omega) (by omega) (by omega)
    have hu5:(t.uses.getD kind.toNat default * ration+999).tdiv 1000=(t.uses.getD kind.toNat default * ration+999) / 1000:=Int.tdiv_eq_ediv_of_nonneg (by omega)
    have hU:Qrs t kind ration=(t.uses.getD kind.toNat default * ration+999).tdiv 1000:=rfl
    by_cases q0:(i:Int) < ((↑load.length:Int))
    ·
     have s2:=Qxp (t:=t) (kind:=kind) (l:=load) i0 q0
     have g1:=hx _ (QaI i0 q0)
     have g2:=hrows.2 _ (QaI (l:=t.goods) (i:=load.getD i.toNat default) g1.1 (by omega))
     have g3:=g2.2 _ (QaI (l:=t.goods.getD (load.getD i.toNat default).toNat default) (i:=kind) hk.1 (by omega))
     exact ((ih0 _ (by omega)).2 (d) (i+1) (stock+List.getD (t.goods.getD (Int.toNat (load.getD i.toNat default)) default) kind.toNat default) (w) rfl (by with_reducible assumption) (by with_reducible assumption) (by omega) (by omega) (by omega) (by with_reducible assumption)
      (hg0.landM okF hJ Qac (Q0A B s load days t kind ration d i stock w dJ0)
      ⟨(QaM (by omega) (by omega)),⟨(QaM (by omega) (by omega)),⟨⟨by first | omega | (split <;> omega),by first | omega | (split <;> omega),(Qae (z:=1) (fun _=> rfl) (by omega))⟩,⟨⟨by first | omega | (split <;> omega),by first | omega | (split <;> omega),(Qae (z:=1) (fun _=> rfl) (by omega))⟩,⟨⟨by first | omega | (split <;> omega),by first | omega | (split <;> omega),(Qae (z:=1) (fun _=> rfl) (by omega))⟩,⟨(QaW q0),trivial⟩⟩⟩⟩⟩⟩ (by kernel_rfl) (by kernel_rfl))).cast (by (rw [s2,<-Int.add_assoc];done))
    ·
     have hp3:QaB (QoX B s load days t kind ration d i stock w dJ0):=by
      exact ⟨(Qbb (Int.not_lt.1 q0)),trivial⟩
     by_cases q1:(stock:Int) < (Int.tdiv (t.uses.getD kind.toNat default * ration+999) 1000)
     ·
      have hp4:QaB (Qoa B s load days t kind ration d i stock w dJ0):=by
       exact ⟨(QaW q1),hp3⟩
      by_cases q2:(w:Int) < (0)
      ·
       have s2:=Qpd (t:=t) (kind:=kind) (l:=load) (i:=i) (by omega)
       exact ((ih0 _ (by omega)).1 (d+1) (if stock - Int.tdiv (t.uses.getD kind.toNat default * ration+999) 1000 > 0 then stock - Int.tdiv (t.uses.getD kind.toNat default * ration+999) 1000 else 0) (d) rfl (by omega) (by omega) (by omega)
        (hg0.landM okF hJ Qac (Q1p B s load days t kind ration d i stock w dJ0)
        ⟨(QaM (by omega) (by omega)),⟨(QaM (by omega) (by omega)),⟨(QaW q2),hp4⟩⟩⟩ (by kernel_rfl) (by kernel_rfl))).cast (by (rw [s2];exact congrArg Qni (kD (by split <;> omega) (by split <;> omega))))
      ·
       have s2:=Qpd (t:=t) (kind:=kind) (l:=load) (i:=i) (by omega)
       exact ((ih0 _ (by omega)).1 (d+1) (if stock - Int.tdiv (t.uses.getD kind.toNat default * ration+999) 1000 > 0 then stock - Int.tdiv (t.uses.getD kind.toNat default * ration+999) 1000 else 0) (w) rfl (by omega) (by omega) (by with_reducible assumption)
        (hg0.landM okF hJ Qac (Q04 B s load days t kind ration d i stock w dJ0)
        ⟨(QaM (by omega) (by omega)),⟨(QaM (by omega) (by omega)),⟨(Qbb (Int.not_lt.1 q2)),hp4⟩⟩⟩ (by kernel_rfl) (by kernel_rfl))).cast (by (rw [s2];exact congrArg Qni (kD (by split <;> omega) (by split <;> omega))))
     ·
      have s2:=Qpd (t:=t) (kind:=kind) (l:=load) (i:=i) (by omega)
      exact ((ih0 _ (by omega)).1 (d+1) (if stock - Int.tdiv (t.uses.getD kind.toNat default * ration+999) 1000 > 0 then stock - Int.tdiv (t.uses.getD kind.toNat default * ration+999) 1000 else 0) (w) rfl (by omega) (by omega) (by with_reducible assumption)
       (hg0.landM okF hJ Qac (QzD B s load days t kind ration d i stock w dJ0)
       ⟨(QaM (by omega) (by omega)),⟨(QaM (by omega) (by omega)),⟨(Qbb (Int.not_lt.1 q1)),hp3⟩⟩⟩ (by kernel_rfl) (by kernel_rfl))).cast (by (rw [s2];exact congrArg Qni (kD (by split <;> omega) (by split <;> omega))))
set_option maxHeartbeats 4000000 in
theorem Q2D (s:Qaa) (load:List Int) (days:Int) (t:Qar) (kind ration:Int) (hs:QaD s=true) (hl:load.length<=10) (hx:∀x∈load,0<=x/\x < s.lots.length) (ht:Qdq s days t=true) (hd:0<=days/\days<=300) (hk:0<=kind/\kind < s.stock.length) (hr:0<=ration/\ration<=1001) {B:Lo} (hJ:∀w,B.has w->J0 w):EndsT Tryz.prog B (Qal Tryz.prog 41 74 (([.agg (Qap s).toArray,slI load,.int .i64 days,.agg (QaA t).toArray,.int .i64 kind,.int .i64 ration]).map (Qav 0 4))) (Qni (Qkq (Qrs t kind ration) (Qkr t kind load) (Qct t) (upI 0 days) (-1,s.stock.getD kind.toNat default))):=by
 have ht':=ht;simp only [Qdq,Qnk,Bool.and_eq_true,decide_eq_true_iff,List.all_eq_true,Qbn] at ht'
 have hgp:=Qa0 hs
 have hst:=Qaj hs
 have hrows:=QdY hs ht'.2.2
 have hus:=(Qb8 ht'.1)
 have hgg:∀x∈t.gaps,0<=x/\x<=60:=fun x h=> by have:=ht'.2.1.2.1 x h;omega
 have hgl:t.gaps.length<=300:=ht'.2.1.1
 have hu1:=hus.2 kind hk.1 (by omega)
 have hu2:=hst.2.2.2 _ (QaI (l:=s.use) hk.1 (by omega))
 have hs1:=hst.2.1 _ (QaI (l:=s.stock) hk.1 hk.2)
 have hu3:0<=t.uses.getD kind.toNat default * ration:=Int.mul_nonneg (by omega) (by omega)
 have hu4:t.uses.getD kind.toNat default * ration<=1000 * 1001:=Int.mul_le_mul (by omega) (by omega) (by omega) (by omega)
 have hu5:(t.uses.getD kind.toNat default * ration+999).tdiv 1000=(t.uses.getD kind.toNat default * ration+999) / 1000:=Int.tdiv_eq_ediv_of_nonneg (by omega)
 have hU:Qrs t kind ration=(t.uses.getD kind.toNat default * ration+999).tdiv 1000:=rfl
 exact ((Q10 s load days t kind ration hs hl hx ht hd hk hr hJ _).1 (0) (s.stock.getD kind.toNat default) (-1) rfl (by omega) (by omega) (by omega)
  (GoE.start.landM okF hJ Qac (Q1L B s load days t kind ration)
  ⟨(QhQ (by omega) (by omega)),⟨(QaM (by omega) (by omega)),⟨(QaM (by omega) (by omega)),⟨⟨by omega,by omega,(Qae (z:=1) (fun _=> rfl) (by omega))⟩,⟨⟨by omega,by omega,(Qae (z:=1) (fun _=> rfl) (by omega))⟩,trivial⟩⟩⟩⟩⟩ (by kernel_rfl) (by kernel_rfl))).cast (by rfl)
theorem Q5u (s:Qaa) (load:List Int) (days:Int) (t:Qar) (kind ration:Int) (hs:QaD s=true) (hl:load.length<=10) (hx:∀x∈load,0<=x/\x < s.lots.length) (ht:Qdq s days t=true) (hd:0<=days/\days<=300) (hk:0<=kind/\kind < s.stock.length) (hr:0<=ration/\ration<=1001):Qau Tryz.prog J0 41 #[.agg (Qap s).toArray,slI load,.int .i64 days,.agg (QaA t).toArray,.int .i64 kind,.int .i64 ration] (Qni (Qkq (Qrs t kind ration) (Qkr t kind load) (Qct t) (upI 0 days) (-1,s.stock.getD kind.toNat default))):=
 QaF (ts:=[.agg (Qap s).toArray,slI load,.int .i64 days,.agg (QaA t).toArray,.int .i64 kind,.int .i64 ration]) Qbw (c0:=Qal Tryz.prog 41 74 (([.agg (Qap s).toArray,slI load,.int .i64 days,.agg (QaA t).toArray,.int .i64 kind,.int .i64 ration]).map (Qav 0 4))) (by kernel_rfl) (by kernel_rfl) fun B hJ=> Q2D s load days t kind ration hs hl hx ht hd hk hr hJ
end
end Go.Proofs.YtiabgkiccaodmaaGreat

namespace Go.Proofs.YtiabgkiccaodmaaGreat
open Go Go.CE Go.RowKit
theorem QtH {a b c:Int} (h1:a<=b) (h2:b<=c):upI a c=upI a b++upI b c:=by
 obtain ⟨n,hn⟩:∃n:Nat,b=a+n:=⟨(b - a).toNat,by omega⟩
 subst hn
 induction n generalizing a with
 | zero=> rw [QlJ (a:=a) (b:=a+((0:Nat):Int)) (by omega),show a+((0:Nat):Int)=a by omega];rfl
 | succ n ih=>
   rw [Qgd (a:=a) (b:=c) (by omega),Qgd (a:=a) (b:=a+((n+1:Nat):Int)) (by omega),show a+((n+1:Nat):Int)=(a+1)+(n:Int) by omega,ih (by omega) (by omega)]
   rfl
theorem QnQ {a b x:Int} (h:x∈upI a b):a<=x/\x < b:=by
 unfold upI at h
 obtain ⟨k,hk,rfl⟩:=List.mem_map.1 h
 have:=List.mem_range.1 hk
 omega
theorem Qw9 {s x n:Int} (hs:0<=s) (hx:0<=x) (hn:0<=n):Qk0 (Qpl s x) n=(Qk0 s n || decide (x=n)):=by
 rw [QoB,QoB]
 unfold Qpl orN QsF
 rw [Int.toNat_natCast,Int.toNat_natCast,Nat.testBit_or,Nat.testBit_two_pow]
 congr 1
 exact decide_eq_decide.2 (by omega)
theorem Q44 {s n:Int}:0<=Qpl s n:=Int.natCast_nonneg _
theorem QpW {n:Int} (hn:0<=n):∀(l:List Int) (s:Int),(∀x∈l,0<=x)->0<=s->Qk0 (Qbp l s) n=(Qk0 s n || l.contains n)
 | [],s,_,_=> by simp [Qbp]
 | x::l,s,h,hs=> by
   rw [Qbp,QpW hn l (Qpl s x) (fun y hy=> h y (by simp [hy])) Q44,Qw9 hs (h x (by simp)) hn,List.contains_cons,Bool.or_assoc]
   congr 1
   congr 1
   by_cases e:x=n
   ·subst e;simp
   ·rw [decide_eq_false e];symm;exact beq_eq_false_iff_ne.2 (Ne.symm e)
theorem QxU {n:Int}:Qk0 0 n=false:=by rw [QoB];simp
theorem QzZ {s n:Int} (h0:0<=s) (hn:Qcv s<=n):Qk0 s n=false:=by
 rw [QoB]
 refine Nat.testBit_lt_two_pow ?_
 unfold Qcv at hn
 by_cases hs:s=0
 ·subst hs;exact Nat.two_pow_pos _
 ·rw [if_neg hs] at hn
  have hb:s.toNat≠0:=by omega
  have:s.toNat < 2 ^ (s.toNat.log2+1):=Nat.lt_log2_self
  exact Nat.lt_of_lt_of_le this (Nat.pow_le_pow_right (by decide) (by omega))
theorem QmM {things:Int}:∀{l:List Int} {least:Int},QdO things l least=true->∀x∈l,least<=x/\x < things
 | [],_,_,x,hx=> by simp at hx
 | n::l,least,h,x,hx=> by
   simp only [QdO,Bool.and_eq_true,Qbn] at h
   rcases List.mem_cons.1 hx with rfl | hx
   ·omega
   ·have:=QmM h.2 x hx;omega
theorem QrW {things:Int}:∀(m:Nat) (l:List Int) (least:Int),(things - least).toNat=m->QdO things l least=true->(upI least things).filter (fun n=> l.contains n)=l:=by
 intro m
 induction m with
 | zero=>
   intro l least hm h
   rw [QlJ (by omega)]
   cases l with
   | nil=> rfl
   | cons x l=> have:=QmM h x (by simp);omega
 | succ m ih=>
   intro l least hm h
   cases l with
   | nil=> simp
   | cons x l=>
     have hx:=QmM h x (by simp)
     rw [Qgd (by omega)]
     by_cases e:least=x
     ·subst e
      rw [List.filter_cons_of_pos (by simp)]
      simp only [QdO,Bool.and_eq_true] at h
      congr 1
      refine (List.filter_congr fun n hn=> ?_).trans (ih l (least+1) (by omega) h.2)
      have:=(QnQ hn).1
      rw [List.contains_cons,beq_eq_false_iff_ne.2 (by omega),Bool.false_or]
     ·have hne:(x::l).contains least=false:=by
       cases hc:(x::l).contains least with
       | false=> rfl
       | true=>
         have hm2:least∈x::l:=List.contains_iff_mem.1 hc
         simp only [QdO,Bool.and_eq_true,Qbn] at h
         rcases List.mem_cons.1 hm2 with rfl | hm2
         ·exact absurd rfl e
         ·have:=QmM h.2 least hm2;omega
      rw [List.filter_cons_of_neg (by rw [hne];decide)]
      refine ih (x::l) (least+1) (by omega) ?_
      simp only [QdO,Bool.and_eq_true,Qbn] at h ⊢
      exact ⟨by omega,h.2⟩
theorem QqD {α:Type} [Inhabited α] {xs:List α} {load:List Int} {things:Nat} (ht:things<=61) (h:QdO things load 0=true):Qa5 (Qbp load 0) xs 0=load.map fun x=> xs.getD x.toNat default:=by
 have hin:=Qjm h (Int.le_refl 0)
 have hlt:=Qjv ht load 0 hin (Int.le_refl 0) (Int.pow_pos (by decide))
 have hle:=Qm8 hlt.1 hlt.2
 have h0:0<=Qcv (Qbp load 0):=by unfold Qcv;split <;> omega
 have e1:(upI 0 (Qcv (Qbp load 0))).filter (Qk0 (Qbp load 0))=(upI 0 things).filter (Qk0 (Qbp load 0)):=by
  rw [QtH (a:=0) (b:=Qcv (Qbp load 0)) (c:=things) h0 hle,List.filter_append]
  have:(upI (Qcv (Qbp load 0)) things).filter (Qk0 (Qbp load 0))=[]:=by
   rw [List.filter_eq_nil_iff]
   intro n hn
   rw [QzZ hlt.1 (QnQ hn).1];decide
  rw [this,List.append_nil]
 have e2:(upI 0 things).filter (Qk0 (Qbp load 0))=load:=by
  refine (List.filter_congr fun n hn=> ?_).trans (QrW _ load 0 rfl h)
  rw [QpW (QnQ hn).1 load 0 (fun x hx=> (hin x hx).1) (Int.le_refl 0),QxU,Bool.false_or]
 unfold Qa5
 rw [e1,e2]
theorem Q3p {s:Qaa} {load:List Int} (hs:QaD s=true):(QdO s.lots.length load 0 && decide (Qz7 s load<=s.hold))=Qdy s load:=by
 have hm:=Qas hs
 unfold Qdy Qsf Qz7
 cases h:QdO s.lots.length load 0 with
 | false=> rfl
 | true=> rw [QqD (by omega) h,List.map_map];rfl
theorem QtG {s:Qaa} {t:Qar} {load:List Int} {k:Int} (hs:QaD s=true) (h:Qdy s load=true):Qip (Qbp load 0) t.goods k=Qkr t k load:=by
 have hm:=Qas hs
 simp only [Qdy,Bool.and_eq_true] at h
 unfold Qip Qkr
 rw [QqD (by omega) h.1,List.map_map];rfl
theorem Qq1 {days:Int}:∀(l:List Int) (day:Int) (bs:List Bool) (d:Int),(∀g∈l,0<=g)->0<=day->bs.length=days.toNat->0<=d->d < days->(Qgh days l day bs).getD d.toNat default=(bs.getD d.toNat default || Qgz d l day)
 | [],day,bs,d,_,_,_,_,_=> by simp [Qgh,Qgz]
 | g::l,day,bs,d,h,h0,hb,d0,d1=> by
   have hg:=h g (by simp)
   simp only [Qgh,Qgz]
   rw [Qq1 l (day+g) _ d (fun x hx=> h x (by simp [hx])) (by omega) (by cases decide (day+g < days) <;> simp [hb]) d0 d1,<-Bool.or_assoc]
   congr 1
   have hk:d.toNat < bs.length:=by omega
   by_cases e:day+g < days
   ·rw [decide_eq_true e,cond_true]
    simp only [List.getD_eq_getElem?_getD,List.getElem?_set]
    by_cases e2:day+g=d
    ·rw [if_pos (by omega),decide_eq_true e2,if_pos (by omega)];simp
    ·rw [if_neg (by omega),decide_eq_false e2,Bool.or_false]
   ·rw [decide_eq_false e,cond_false,decide_eq_false (by omega),Bool.or_false]
theorem QuK {days d:Int} {gaps:List Int} (h:∀g∈gaps,0<=g) (d0:0<=d) (d1:d < days):(Qdx days gaps).getD d.toNat default=Qgz d gaps 0:=by
 unfold Qdx
 rw [Qq1 gaps 0 _ d h (Int.le_refl 0) (by simp) d0 d1]
 have hk:d.toNat < days.toNat:=by omega
 simp [List.getD_eq_getElem?_getD,hk]
theorem QyU {use br:Int} {comes:Int->Bool}:∀(cs:List Bool) (d left w:Int),0<=d->(∀j:Nat,j < cs.length->comes (d+j)=cs.getD j default)->Qkq use br comes (upI d (d+cs.length)) (w,left)=(if w < 0/\0<=Qbm use br cs d left then Qbm use br cs d left else w,QiL use br cs left)
 | [],d,left,w,h0,_=> by
   rw [QlJ (by simp)]
   simp [Qkq,Qbm,QiL]
 | c::cs,d,left,w,h0,h=> by
   have hc:comes d=c:=by have:=h 0 (by simp);simpa using this
   rw [Qgd (by simp;omega),show d+((c::cs).length:Int)=(d+1)+cs.length by simp;omega]
   simp only [Qkq]
   rw [hc]
   have eL:(left+if c=true then br else 0)=left+bif c then br else 0:=by cases c <;> rfl
   have f1:Qbm use br (c::cs) d left=bif decide ((left+bif c then br else 0) < use) then d else Qbm use br cs (d+1) (Qno use (left+bif c then br else 0)):=rfl
   have f2:QiL use br (c::cs) left=QiL use br cs (Qno use (left+bif c then br else 0)):=rfl
   rw [eL,f1,f2]
   generalize (left+bif c then br else 0:Int)=L at *
   have hs:(if 0 < L - use then L - use else 0)=Qno use L:=by unfold Qno;split <;> split <;> omega
   rw [hs,QyU cs (d+1) (Qno use L) _ (by omega) (fun j hj=> by
    have:=h (j+1) (by simp;omega)
    rw [show d+((j+1:Nat):Int)=d+1+(j:Int) by omega] at this
    rw [this];simp)]
   have hor:=Qjh (use:=use) (br:=br) cs (d+1) (Qno use L) (by omega)
   by_cases e:L < use
   ·rw [decide_eq_true e,cond_true]
    by_cases hw:w < 0
    ·rw [if_pos (show L < use/\w < 0 from ⟨e,hw⟩),if_neg (by omega),if_pos (by omega)]
    ·rw [if_neg (show ¬(L < use/\w < 0) by omega),if_neg (by omega),if_neg (by omega)]
   ·rw [decide_eq_false e,cond_false,if_neg (show ¬(L < use/\w < 0) by omega)]
theorem QwB {s:Qaa} {load:List Int} {days:Int} {t:Qar} {k:Int} (hs:QaD s=true) (hl:Qdy s load=true) (ht:Qdq s days t=true) (hd:0<=days/\days<=300):
 Qkq (Qrs t k 1000) (Qkr t k load) (Qct t) (upI 0 days) (-1,s.stock.getD k.toNat default)=(Qa9 (Qe9 s (Qbp load 0) days t k),Qzf (Qe9 s (Qbp load 0) days t k)):=by
 have ht':=ht
 simp only [Qdq,Qnk,Bool.and_eq_true,decide_eq_true_iff,List.all_eq_true,Qbn] at ht'
 have hgp:=Qa0 hs
 have hlen:(Qdx days t.gaps).length=days.toNat:=by unfold Qdx;rw [Qj3,List.length_replicate]
 have hu:Qrs t k 1000=t.uses.getD k.toNat default:=by
  have hnn:0<=t.uses.getD k.toNat default:=by
   by_cases hk:k.toNat < t.uses.length
   ·have hus:=Qb8 ht'.1
    have h1:=hus.2 k.toNat (by omega) (by omega)
    have h2:=(Qaj hs).2.2.2 _ (QaI (l:=s.use) (i:=(k.toNat:Int)) (by omega) (by omega))
    rw [Int.toNat_natCast] at h1 h2
    omega
   ·rw [List.getD_eq_getElem?_getD,List.getElem?_eq_none (by omega)];exact Int.le_refl _
  unfold Qrs
  rw [Int.tdiv_eq_ediv_of_nonneg (by omega)]
  omega
 have hk:=QyU (use:=Qrs t k 1000) (br:=Qkr t k load) (comes:=Qct t) (Qdx days t.gaps) 0 (s.stock.getD k.toNat default) (-1) (Int.le_refl 0) (fun j hj=> by
  have:=QuK (days:=days) (d:=(j:Int)) (gaps:=t.gaps) (fun g hg=> by have:=ht'.2.1.2.1 g hg;omega) (by omega) (by omega)
  rw [Int.zero_add,<-Int.toNat_natCast j,this];rfl)
 rw [hlen,show (0:Int)+(days.toNat:Int)=days by omega] at hk
 rw [hk,hu,<-QtG hs hl]
 have hor:=Qjh (use:=t.uses.getD k.toNat default) (br:=Qip (Qbp load 0) t.goods k) (Qdx days t.gaps) 0 (s.stock.getD k.toNat default) (Int.le_refl 0)
 unfold Qa9 Qzf Qe9
 simp only
 congr 1
 split <;> omega
theorem Q3f {s:Qaa} {load days k:Int} {t:Qar} (h0:0<=k) (h1:k < s.stock.length):(Qcb s load days t).getD k.toNat default=Qe9 s load days t k:=by
 have hk:k.toNat < (upI 0 (s.stock.length:Int)).length:=by rw [Qc7];omega
 have e:=QiC h0 h1
 rw [List.getD_eq_getElem?_getD,List.getElem?_eq_getElem hk] at e
 unfold Qcb
 rw [List.getD_eq_getElem?_getD,List.getElem?_map,List.getElem?_eq_getElem hk]
 simp only [Option.map_some,Option.getD_some] at e ⊢
 rw [e]
theorem QhV {s:Qaa} {load days:Int} {t:Qar}:(Qcb s load days t).length=s.stock.length:=by simp [Qcb,Qc7]
theorem Qtx {s:Qaa} {load days k:Int} {t:Qar} {f:Gd->Int} (h0:0<=k) (h1:k < s.stock.length):((Qcb s load days t).map f).getD k.toNat default=f (Qe9 s load days t k):=by
 have hk:k.toNat < (Qcb s load days t).length:=by rw [QhV];omega
 have e:=Q3f (s:=s) (load:=load) (days:=days) (t:=t) h0 h1
 rw [List.getD_eq_getElem?_getD,List.getElem?_eq_getElem hk] at e
 rw [List.getD_eq_getElem?_getD,List.getElem?_map,List.getElem?_eq_getElem hk]
 simp only [Option.map_some,Option.getD_some] at e ⊢
 rw [e]
end Go.Proofs.YtiabgkiccaodmaaGreat
