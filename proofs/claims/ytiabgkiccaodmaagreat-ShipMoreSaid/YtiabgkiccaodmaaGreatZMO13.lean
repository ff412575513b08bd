/- The reference's stores, loads and truths. -/
import Derived.Test.YtiabgkiccaodmaaGreatZMO12
import Derived.Test.YtiabgkiccaodmaaGreatZMO10
import Derived.Test.YtiabgkiccaodmaaGreatZMO09
set_option linter.all false
namespace Go.Proofs.YtiabgkiccaodmaaGreat
open Go Go.CE Go.RowKit
noncomputable section
set_option maxRecDepth 100000
theorem Qcg {α:Type} [Inhabited α] {l:List α} {i:Int} {p:α->Bool} (h0:0<=i) (h:i < l.length):(l.drop i.toNat).all p=(p (l.getD i.toNat default) && (l.drop (i+1).toNat).all p):=by
 obtain ⟨k,rfl⟩:∃k:Nat,i=k:=⟨i.toNat,by omega⟩
 have hk:k < l.length:=by omega
 have e1:((k:Int)).toNat=k:=by omega
 have e2:((k:Int)+1).toNat=k+1:=by omega
 rw [e1,e2,List.drop_eq_getElem_cons hk,List.all_cons];simp [List.getD_eq_getElem?_getD,hk]
theorem Qbd {α:Type} {l:List α} {i:Int} {p:α->Bool} (h:l.length<=i):(l.drop i.toNat).all p=true:=by
 rw [List.drop_eq_nil_of_le (by omega)];rfl
def QrS (k:Nat) (l:Qak):Bool:=QcK l.goods 100000 && (decide (l.goods.length=k) && (inB l.weight 0 100000 && inB l.cost 0 1000000))
def storeT (s:Qaa):Bool:=inB s.stock.length 1 4 && (decide (s.use.length=s.stock.length) && (Qbw s.glo s.ghi 1 60 && (decide (s.lots.length<=6) && inB s.hold 0 100000)))
def Qu8 (s:Qaa):Bool:=s.stock.all (fun x=> inB x 0 100000) && (QcK s.use 1000 && (s.lots.all (QrS s.stock.length) && storeT s))
theorem QxB {s:Qaa}:Qu8 s=Qa7 s:=by
 have e:QrS s.stock.length=Qoh s.stock.length:=by
  funext l;unfold QrS Qoh;cases QcK l.goods 100000 <;> cases decide (l.goods.length=s.stock.length) <;> rfl
 unfold Qu8 Qa7 storeT Qpv;rw [e];cases inB s.stock.length 1 4 <;> cases s.stock.all (fun x=> inB x 0 100000) <;> cases decide (s.use.length=s.stock.length) <;> cases QcK s.use 1000 <;> cases Qbw s.glo s.ghi 1 60 <;> cases decide (s.lots.length<=6) <;> cases s.lots.all (Qoh s.stock.length) <;> simp
def wtL (l:List Qak):Nat:=(l.map fun x=> x.goods.length+2).sum
theorem Q6k {l:List Qak} {i:Int} (h0:0<=i) (h:i < l.length):wtL (l.drop i.toNat)=(l.getD i.toNat default).goods.length+2+wtL (l.drop (i+1).toNat):=by
 obtain ⟨k,rfl⟩:∃k:Nat,i=k:=⟨i.toNat,by omega⟩
 have hk:k < l.length:=by omega
 have e1:((k:Int)).toNat=k:=by omega
 have e2:((k:Int)+1).toNat=k+1:=by omega
 rw [e1,e2,List.drop_eq_getElem_cons hk];unfold wtL;rw [List.map_cons,List.sum_cons];simp [List.getD_eq_getElem?_getD,hk]
def QfH (s:Qaa) (i:Int):List Value:=[pA 2 0,.int .i64 i]
def Qdo (s:Qaa) (i:Int):List Obj:=[Obj.cells #[Qat 1 (slT s.stock.length (Qad Qav s.stock)),Qat 1 (slT s.use.length (Qad Qaz s.use)),.int .i64 s.glo,.int .i64 s.ghi,Qat 1 (slT s.lots.length (Qad Qam s.lots)),.int .i64 s.hold] 62]
def QfO:List Item:=([.code [1,0,1,0,0],.inLoop [1,0,1,0,0],.inBlock 0,.code [1,1]]).map (it (Qaq YP 44))
def Q1D (B:Lo) (c0:CF) (s:Qaa) (i:Int):Prop:=∃dJ:Nat->Value,(∀t,Qbg (dJ t))/\GoE YP B c0 H00 1 (Qa3 44 110 (([1,3]:List Nat).zip (QfH s i)) dJ QfO) (Qa1 (Qdo s i)) (2+(Qdo s i).length) []
def QfN (s:Qaa) (i:Int):List Value:=[pA 2 0,.int .i64 i]
def Qdn (s:Qaa) (i:Int):List Obj:=[Obj.cells #[Qat 1 (slT s.stock.length (Qad Qav s.stock)),Qat 1 (slT s.use.length (Qad Qaz s.use)),.int .i64 s.glo,.int .i64 s.ghi,Qat 1 (slT s.lots.length (Qad Qam s.lots)),.int .i64 s.hold] 62]
def QfA:List Item:=([.code [1,1,0,1,0,0],.inLoop [1,1,0,1,0,0],.inBlock 2,.code [1,1,1]]).map (it (Qaq YP 44))
def Q0V (B:Lo) (c0:CF) (s:Qaa) (i:Int):Prop:=∃dJ:Nat->Value,(∀t,Qbg (dJ t))/\GoE YP B c0 H00 1 (Qa3 44 110 (([1,4]:List Nat).zip (QfN s i)) dJ QfA) (Qa1 (Qdn s i)) (2+(Qdn s i).length) []
def Qds (s:Qaa) (i:Int):List Value:=[pA 2 0,.int .i64 i]
def Qb2 (s:Qaa) (i:Int):List Obj:=[Obj.cells #[Qat 1 (slT s.stock.length (Qad Qav s.stock)),Qat 1 (slT s.use.length (Qad Qaz s.use)),.int .i64 s.glo,.int .i64 s.ghi,Qat 1 (slT s.lots.length (Qad Qam s.lots)),.int .i64 s.hold] 62]
def Qdv:List Item:=([.code [1,1,1,0,1,0,0],.inLoop [1,1,1,0,1,0,0],.inBlock 4,.code [1,1,1,1]]).map (it (Qaq YP 44))
def Q0t (B:Lo) (c0:CF) (s:Qaa) (i:Int):Prop:=∃dJ:Nat->Value,(∀t,Qbg (dJ t))/\GoE YP B c0 H00 1 (Qa3 44 110 (([1,5]:List Nat).zip (Qds s i)) dJ Qdv) (Qa1 (Qb2 s i)) (2+(Qb2 s i).length) []
def QdV (s:Qaa) (i j:Int):List Value:=[pA 2 0,.int .i64 i,pA 3 0,.int .i64 j]
def QbI (s:Qaa) (i j:Int):List Obj:=[Obj.cells #[Qat 1 (slT s.stock.length (Qad Qav s.stock)),Qat 1 (slT s.use.length (Qad Qaz s.use)),.int .i64 s.glo,.int .i64 s.ghi,Qat 1 (slT s.lots.length (Qad Qam s.lots)),.int .i64 s.hold] 62,Obj.cells #[Qat 1 (slT (List.length (Qak.goods (s.lots.getD i.toNat default))) (Qad Qaz (Qak.goods (s.lots.getD i.toNat default)))),.int .i64 (Qak.weight (s.lots.getD i.toNat default)),.int .i64 (Qak.cost (s.lots.getD i.toNat default))] 118]
def QdW:List Item:=([.code [1,1,1,0,1,0,0,1,0,0,1,0,1,0,0],.inLoop [1,1,1,0,1,0,0,1,0,0,1,0,1,0,0],.inBlock 6,.code [1,1,1,0,1,0,0,1,0,0,1,1],.inBlock 5,.code [1,1,1,0,1,0,0,1,1],.inLoop [1,1,1,0,1,0,0],.inBlock 4,.code [1,1,1,1]]).map (it (Qaq YP 44))
def Qyv (B:Lo) (c0:CF) (s:Qaa) (i j:Int):Prop:=∃dJ:Nat->Value,(∀t,Qbg (dJ t))/\GoE YP B c0 H00 1 (Qa3 44 110 (([1,5,6,7]:List Nat).zip (QdV s i j)) dJ QdW) (Qa1 (QbI s i j)) (2+(QbI s i j).length) []
def Ql4 (B:Lo) (s:Qaa) (i:Int) (dJ0:Nat->Value):List Prop:=[i=(↑i.toNat:Int)/\Int.toNat i < List.length s.stock/\Array.extract (Qad Qav s.stock) (Int.toNat i * TypeInfo.size Tryz.t3) (Int.toNat i * TypeInfo.size Tryz.t3+TypeInfo.size Tryz.t3)=#[.int .i64 (s.stock.getD i.toNat default)],ltq i (↑s.stock.length:Int)=true]++([]:List Prop)
def Qr2 (s:Qaa) (i:Int) (dJ0:Nat->Value):Qan:=[(4,hvT),(8,Qaf.tidx i.toNat #[.int .i64 (s.stock.getD i.toNat default)])]
theorem Q0s (B:Lo) (s:Qaa) (i:Int) (dJ0:Nat->Value):landM (Qah YP (Qau YP) J0 B 14 1 (Qa3 44 110 (([1,3]:List Nat).zip (QfH s i)) dJ0 QfO) (Qa1 (Qdo s i)) (2+(Qdo s i).length)
 (Qr2 s i dJ0++[(10,Qaf.pure (.bool true) []),(13,hvI (i+1))]) 0 [] []) [1,3] [(2,KS.auto)] []=some ⟨44,110,QfO,[],.run,none,QfH s (i+1),Qdo s (i+1),
 [wq (i+1)=i+1,Qas []/\Qai YP J0 69 #[.int .i64 (s.stock.getD i.toNat default),.int .i64 0,.int .i64 100000] (.bool true)]++Ql4 B s i dJ0⟩:=by kernel_rfl
theorem Qzq (B:Lo) (s:Qaa) (i:Int) (dJ0:Nat->Value):QaF (Qah YP (Qau YP) J0 B 14 1 (Qa3 44 110 (([1,3]:List Nat).zip (QfH s i)) dJ0 QfO) (Qa1 (Qdo s i)) (2+(Qdo s i).length)
 (Qr2 s i dJ0++[(10,Qaf.pure (.bool false) [])]) 0 [] []) []=some (.bool false,
 [Qas []/\Qai YP J0 69 #[.int .i64 (s.stock.getD i.toNat default),.int .i64 0,.int .i64 100000] (.bool false)]++Ql4 B s i dJ0):=by kernel_rfl
theorem Qz3 (B:Lo) (s:Qaa) (i:Int) (dJ0:Nat->Value):landM (Qah YP (Qau YP) J0 B 10 1 (Qa3 44 110 (([1,3]:List Nat).zip (QfH s i)) dJ0 QfO) (Qa1 (Qdo s i)) (2+(Qdo s i).length)
 [(4,hvF)] 0 [] []) [1,4] [(2,KS.auto)] []=some ⟨44,110,QfA,[],.run,none,QfN s (0),Qdn s (0),
 [ltq i (↑s.stock.length:Int)=false]⟩:=by kernel_rfl
def QlX (B:Lo) (s:Qaa) (i:Int) (dJ0:Nat->Value):List Prop:=[i=(↑i.toNat:Int)/\Int.toNat i < List.length s.use/\Array.extract (Qad Qaz s.use) (Int.toNat i * TypeInfo.size Tryz.t25) (Int.toNat i * TypeInfo.size Tryz.t25+TypeInfo.size Tryz.t25)=#[.int .i64 (Span.lo (s.use.getD i.toNat default)),.int .i64 (Span.hi (s.use.getD i.toNat default))],ltq i (↑s.use.length:Int)=true]++([]:List Prop)
def Qr1 (s:Qaa) (i:Int) (dJ0:Nat->Value):Qan:=[(4,hvT),(8,Qaf.tidx i.toNat #[.int .i64 (Span.lo (s.use.getD i.toNat default)),.int .i64 (Span.hi (s.use.getD i.toNat default))])]
theorem Qzr (B:Lo) (s:Qaa) (i:Int) (dJ0:Nat->Value):landM (Qah YP (Qau YP) J0 B 14 1 (Qa3 44 110 (([1,4]:List Nat).zip (QfN s i)) dJ0 QfA) (Qa1 (Qdn s i)) (2+(Qdn s i).length)
 (Qr1 s i dJ0++[(10,Qaf.pure (.bool true) []),(13,hvI (i+1))]) 0 [] []) [1,4] [(2,KS.auto)] []=some ⟨44,110,QfA,[],.run,none,QfN s (i+1),Qdn s (i+1),
 [wq (i+1)=i+1,Qas []/\Qai YP J0 70 #[.agg #[.int .i64 (Span.lo (s.use.getD i.toNat default)),.int .i64 (Span.hi (s.use.getD i.toNat default))],.int .i64 0,.int .i64 1000] (.bool true)]++QlX B s i dJ0⟩:=by kernel_rfl
theorem Q1d (B:Lo) (s:Qaa) (i:Int) (dJ0:Nat->Value):QaF (Qah YP (Qau YP) J0 B 14 1 (Qa3 44 110 (([1,4]:List Nat).zip (QfN s i)) dJ0 QfA) (Qa1 (Qdn s i)) (2+(Qdn s i).length)
 (Qr1 s i dJ0++[(10,Qaf.pure (.bool false) [])]) 0 [] []) []=some (.bool false,
 [Qas []/\Qai YP J0 70 #[.agg #[.int .i64 (Span.lo (s.use.getD i.toNat default)),.int .i64 (Span.hi (s.use.getD i.toNat default))],.int .i64 0,.int .i64 1000] (.bool false)]++QlX B s i dJ0):=by kernel_rfl
theorem Qzl (B:Lo) (s:Qaa) (i:Int) (dJ0:Nat->Value):landM (Qah YP (Qau YP) J0 B 10 1 (Qa3 44 110 (([1,4]:List Nat).zip (QfN s i)) dJ0 QfA) (Qa1 (Qdn s i)) (2+(Qdn s i).length)
 [(4,hvF)] 0 [] []) [1,5] [(2,KS.auto)] []=some ⟨44,110,Qdv,[],.run,none,Qds s (0),Qb2 s (0),
 [ltq i (↑s.use.length:Int)=false]⟩:=by kernel_rfl
theorem Q1E (B:Lo) (s:Qaa) (i:Int) (dJ0:Nat->Value):landM (Qah YP (Qau YP) J0 B 14 1 (Qa3 44 110 (([1,5]:List Nat).zip (Qds s i)) dJ0 Qdv) (Qa1 (Qb2 s i)) (2+(Qb2 s i).length)
 [(4,hvT),(8,Qaf.tidx i.toNat #[slT (List.length (Qak.goods (s.lots.getD i.toNat default))) (Qad Qaz (Qak.goods (s.lots.getD i.toNat default))),.int .i64 (Qak.weight (s.lots.getD i.toNat default)),.int .i64 (Qak.cost (s.lots.getD i.toNat default))])] 0 [] []) [1,5,6,7] [(2,KS.auto),(3,KS.auto)] []=some ⟨44,110,QdW,[],.run,none,QdV s (i) (0),QbI s (i) (0),
 [i=(↑i.toNat:Int)/\Int.toNat i < List.length s.lots/\Array.extract (Qad Qam s.lots) (Int.toNat i * TypeInfo.size Tryz.t118) (Int.toNat i * TypeInfo.size Tryz.t118+TypeInfo.size Tryz.t118)=#[slT (List.length (Qak.goods (s.lots.getD i.toNat default))) (Qad Qaz (Qak.goods (s.lots.getD i.toNat default))),.int .i64 (Qak.weight (s.lots.getD i.toNat default)),.int .i64 (Qak.cost (s.lots.getD i.toNat default))],ltq i (↑s.lots.length:Int)=true]⟩:=by kernel_rfl
def Qnv (B:Lo) (s:Qaa) (i:Int) (dJ0:Nat->Value):List Prop:=[ltq i (↑s.lots.length:Int)=false]++([]:List Prop)
def QrJ (s:Qaa) (i:Int) (dJ0:Nat->Value):Qan:=[(4,hvF)]
def QmC (B:Lo) (s:Qaa) (i:Int) (dJ0:Nat->Value):List Prop:=[Qas []/\Qai YP J0 69 #[.int .i64 (↑s.stock.length:Int),.int .i64 1,.int .i64 4] (.bool true)]++Qnv B s i dJ0
def QrX (s:Qaa) (i:Int) (dJ0:Nat->Value):Qan:=QrJ s i dJ0++[(8,Qaf.pure (.bool true) [])]
def Qmp (B:Lo) (s:Qaa) (i:Int) (dJ0:Nat->Value):List Prop:=[eqq (↑s.use.length:Int) (↑s.stock.length:Int)=true]++QmC B s i dJ0
def Qr9 (s:Qaa) (i:Int) (dJ0:Nat->Value):Qan:=QrX s i dJ0++[(16,hvT)]
def QmX (B:Lo) (s:Qaa) (i:Int) (dJ0:Nat->Value):List Prop:=[Qas []/\Qai YP J0 30 #[.agg #[.int .i64 s.glo,.int .i64 s.ghi]] (.bool true)]++Qmp B s i dJ0
def QqG (s:Qaa) (i:Int) (dJ0:Nat->Value):Qan:=Qr9 s i dJ0++[(21,Qaf.pure (.bool true) [])]
def Qlx (B:Lo) (s:Qaa) (i:Int) (dJ0:Nat->Value):List Prop:=[(!ltq 6 (↑s.lots.length:Int))=true]++QmX B s i dJ0
def Qq6 (s:Qaa) (i:Int) (dJ0:Nat->Value):Qan:=QqG s i dJ0++[(27,hvT)]
theorem QxX (B:Lo) (s:Qaa) (i:Int) (dJ0:Nat->Value):QaF (Qah YP (Qau YP) J0 B 9 1 (Qa3 44 110 (([1,5]:List Nat).zip (Qds s i)) dJ0 Qdv) (Qa1 (Qb2 s i)) (2+(Qb2 s i).length)
 (Qq6 s i dJ0++[(32,Qaf.pure (.bool true) [])]) 0 [] []) []=some (.bool true,
 [Qas []/\Qai YP J0 69 #[.int .i64 s.hold,.int .i64 0,.int .i64 100000] (.bool true)]++Qlx B s i dJ0):=by kernel_rfl
theorem QzV (B:Lo) (s:Qaa) (i:Int) (dJ0:Nat->Value):QaF (Qah YP (Qau YP) J0 B 9 1 (Qa3 44 110 (([1,5]:List Nat).zip (Qds s i)) dJ0 Qdv) (Qa1 (Qb2 s i)) (2+(Qb2 s i).length)
 (Qq6 s i dJ0++[(32,Qaf.pure (.bool false) [])]) 0 [] []) []=some (.bool false,
 [Qas []/\Qai YP J0 69 #[.int .i64 s.hold,.int .i64 0,.int .i64 100000] (.bool false)]++Qlx B s i dJ0):=by kernel_rfl
theorem Q0D (B:Lo) (s:Qaa) (i:Int) (dJ0:Nat->Value):QaF (Qah YP (Qau YP) J0 B 9 1 (Qa3 44 110 (([1,5]:List Nat).zip (Qds s i)) dJ0 Qdv) (Qa1 (Qb2 s i)) (2+(Qb2 s i).length)
 (QqG s i dJ0++[(27,hvF)]) 0 [] []) []=some (.bool false,
 [(!ltq 6 (↑s.lots.length:Int))=false]++QmX B s i dJ0):=by kernel_rfl
theorem Qx0 (B:Lo) (s:Qaa) (i:Int) (dJ0:Nat->Value):QaF (Qah YP (Qau YP) J0 B 9 1 (Qa3 44 110 (([1,5]:List Nat).zip (Qds s i)) dJ0 Qdv) (Qa1 (Qb2 s i)) (2+(Qb2 s i).length)
 (Qr9 s i dJ0++[(21,Qaf.pure (.bool false) [])]) 0 [] []) []=some (.bool false,
 [Qas []/\Qai YP J0 30 #[.agg #[.int .i64 s.glo,.int .i64 s.ghi]] (.bool false)]++Qmp B s i dJ0):=by kernel_rfl
theorem QvJ (B:Lo) (s:Qaa) (i:Int) (dJ0:Nat->Value):QaF (Qah YP (Qau YP) J0 B 9 1 (Qa3 44 110 (([1,5]:List Nat).zip (Qds s i)) dJ0 Qdv) (Qa1 (Qb2 s i)) (2+(Qb2 s i).length)
 (QrX s i dJ0++[(16,hvF)]) 0 [] []) []=some (.bool false,
 [eqq (↑s.use.length:Int) (↑s.stock.length:Int)=false]++QmC B s i dJ0):=by kernel_rfl
theorem Qvy (B:Lo) (s:Qaa) (i:Int) (dJ0:Nat->Value):QaF (Qah YP (Qau YP) J0 B 9 1 (Qa3 44 110 (([1,5]:List Nat).zip (Qds s i)) dJ0 Qdv) (Qa1 (Qb2 s i)) (2+(Qb2 s i).length)
 (QrJ s i dJ0++[(8,Qaf.pure (.bool false) [])]) 0 [] []) []=some (.bool false,
 [Qas []/\Qai YP J0 69 #[.int .i64 (↑s.stock.length:Int),.int .i64 1,.int .i64 4] (.bool false)]++Qnv B s i dJ0):=by kernel_rfl
def QlD (B:Lo) (s:Qaa) (i j:Int) (dJ0:Nat->Value):List Prop:=[j=(↑j.toNat:Int)/\Int.toNat j < List.length (Qak.goods (s.lots.getD i.toNat default))/\Array.extract (Qad Qaz (Qak.goods (s.lots.getD i.toNat default))) (Int.toNat j * TypeInfo.size Tryz.t25) (Int.toNat j * TypeInfo.size Tryz.t25+TypeInfo.size Tryz.t25)=#[.int .i64 (Span.lo (List.getD (Qak.goods (s.lots.getD i.toNat default)) j.toNat default)),.int .i64 (Span.hi (List.getD (Qak.goods (s.lots.getD i.toNat default)) j.toNat default))],ltq j (↑(List.length (Qak.goods (s.lots.getD i.toNat default))):Int)=true]++([]:List Prop)
def QqL (s:Qaa) (i j:Int) (dJ0:Nat->Value):Qan:=[(4,hvT),(8,Qaf.tidx j.toNat #[.int .i64 (Span.lo (List.getD (Qak.goods (s.lots.getD i.toNat default)) j.toNat default)),.int .i64 (Span.hi (List.getD (Qak.goods (s.lots.getD i.toNat default)) j.toNat default))])]
theorem Qx5 (B:Lo) (s:Qaa) (i j:Int) (dJ0:Nat->Value):landM (Qah YP (Qau YP) J0 B 14 1 (Qa3 44 110 (([1,5,6,7]:List Nat).zip (QdV s i j)) dJ0 QdW) (Qa1 (QbI s i j)) (2+(QbI s i j).length)
 (QqL s i j dJ0++[(10,Qaf.pure (.bool true) []),(13,hvI (j+1))]) 0 [] []) [1,5,6,7] [(2,KS.auto),(3,KS.auto)] []=some ⟨44,110,QdW,[],.run,none,QdV s (i) (j+1),QbI s (i) (j+1),
 [wq (j+1)=j+1,Qas []/\Qai YP J0 70 #[.agg #[.int .i64 (Span.lo (List.getD (Qak.goods (s.lots.getD i.toNat default)) j.toNat default)),.int .i64 (Span.hi (List.getD (Qak.goods (s.lots.getD i.toNat default)) j.toNat default))],.int .i64 0,.int .i64 100000] (.bool true)]++QlD B s i j dJ0⟩:=by kernel_rfl
theorem Qwk (B:Lo) (s:Qaa) (i j:Int) (dJ0:Nat->Value):QaF (Qah YP (Qau YP) J0 B 14 1 (Qa3 44 110 (([1,5,6,7]:List Nat).zip (QdV s i j)) dJ0 QdW) (Qa1 (QbI s i j)) (2+(QbI s i j).length)
 (QqL s i j dJ0++[(10,Qaf.pure (.bool false) [])]) 0 [] []) []=some (.bool false,
 [Qas []/\Qai YP J0 70 #[.agg #[.int .i64 (Span.lo (List.getD (Qak.goods (s.lots.getD i.toNat default)) j.toNat default)),.int .i64 (Span.hi (List.getD (Qak.goods (s.lots.getD i.toNat default)) j.toNat default))],.int .i64 0,.int .i64 100000] (.bool false)]++QlD B s i j dJ0):=by kernel_rfl
def QlF (B:Lo) (s:Qaa) (i j:Int) (dJ0:Nat->Value):List Prop:=[ltq j (↑(List.length (Qak.goods (s.lots.getD i.toNat default))):Int)=false]++([]:List Prop)
def QrR (s:Qaa) (i j:Int) (dJ0:Nat->Value):Qan:=[(4,hvF)]
theorem QvD (B:Lo) (s:Qaa) (i j:Int) (dJ0:Nat->Value):QaF (Qah YP (Qau YP) J0 B 12 1 (Qa3 44 110 (([1,5,6,7]:List Nat).zip (QdV s i j)) dJ0 QdW) (Qa1 (QbI s i j)) (2+(QbI s i j).length)
 (QrR s i j dJ0++[(11,hvT)]) 0 [] []) []=some (.bool false,
 [(!eqq (↑(List.length (Qak.goods (s.lots.getD i.toNat default))):Int) (↑s.stock.length:Int))=true]++QlF B s i j dJ0):=by kernel_rfl
def Qm6 (B:Lo) (s:Qaa) (i j:Int) (dJ0:Nat->Value):List Prop:=[(!eqq (↑(List.length (Qak.goods (s.lots.getD i.toNat default))):Int) (↑s.stock.length:Int))=false]++QlF B s i j dJ0
def Qsv (s:Qaa) (i j:Int) (dJ0:Nat->Value):Qan:=QrR s i j dJ0++[(11,hvF)]
def Qj1 (B:Lo) (s:Qaa) (i j:Int) (dJ0:Nat->Value):List Prop:=[Qas []/\Qai YP J0 69 #[.int .i64 (Qak.weight (s.lots.getD i.toNat default)),.int .i64 0,.int .i64 100000] (.bool true)]++Qm6 B s i j dJ0
def Qok (s:Qaa) (i j:Int) (dJ0:Nat->Value):Qan:=Qsv s i j dJ0++[(15,Qaf.pure (.bool true) [])]
theorem Qxq (B:Lo) (s:Qaa) (i j:Int) (dJ0:Nat->Value):landM (Qah YP (Qau YP) J0 B 12 1 (Qa3 44 110 (([1,5,6,7]:List Nat).zip (QdV s i j)) dJ0 QdW) (Qa1 (QbI s i j)) (2+(QbI s i j).length)
 (Qok s i j dJ0++[(21,Qaf.pure (.bool true) []),(25,hvI (i+1))]) 0 [] []) [1,5] [(2,KS.auto)] []=some ⟨44,110,Qdv,[],.run,none,Qds s (i+1),Qb2 s (i+1),
 [wq (i+1)=i+1,Qas []/\Qai YP J0 69 #[.int .i64 (Qak.cost (s.lots.getD i.toNat default)),.int .i64 0,.int .i64 1000000] (.bool true)]++Qj1 B s i j dJ0⟩:=by kernel_rfl
theorem QwV (B:Lo) (s:Qaa) (i j:Int) (dJ0:Nat->Value):QaF (Qah YP (Qau YP) J0 B 12 1 (Qa3 44 110 (([1,5,6,7]:List Nat).zip (QdV s i j)) dJ0 QdW) (Qa1 (QbI s i j)) (2+(QbI s i j).length)
 (Qok s i j dJ0++[(21,Qaf.pure (.bool false) [])]) 0 [] []) []=some (.bool false,
 [Qas []/\Qai YP J0 69 #[.int .i64 (Qak.cost (s.lots.getD i.toNat default)),.int .i64 0,.int .i64 1000000] (.bool false)]++Qj1 B s i j dJ0):=by kernel_rfl
theorem Qxr (B:Lo) (s:Qaa) (i j:Int) (dJ0:Nat->Value):QaF (Qah YP (Qau YP) J0 B 12 1 (Qa3 44 110 (([1,5,6,7]:List Nat).zip (QdV s i j)) dJ0 QdW) (Qa1 (QbI s i j)) (2+(QbI s i j).length)
 (Qsv s i j dJ0++[(15,Qaf.pure (.bool false) [])]) 0 [] []) []=some (.bool false,
 [Qas []/\Qai YP J0 69 #[.int .i64 (Qak.weight (s.lots.getD i.toNat default)),.int .i64 0,.int .i64 100000] (.bool false)]++Qm6 B s i j dJ0):=by kernel_rfl
theorem Qwm (B:Lo) (s:Qaa):landM (Qah YP (Qau YP) J0 B 7 1 (Qae YP 44 110 (([.agg (Qap s).toArray]).map (Qal 0 4))) H00 1
 [] 0 [] []) [1,3] [(1,KS.auto)] []=some ⟨44,110,QfO,[],.run,none,QfH s (0),Qdo s (0),
 []⟩:=by kernel_rfl
set_option maxHeartbeats 4000000 in
theorem QxF (s:Qaa) (hb:∀l∈s.lots,l.goods.length<=8) (hfacts:s.stock.length<=9223372036854775807/\s.use.length<=9223372036854775807/\s.lots.length<=9223372036854775807) {B:Lo} (hJ:∀w,B.has w->J0 w) {c0:CF}:∀m:Nat,(∀(i:Int),(s.stock.length - i.toNat)+s.use.length+wtL s.lots+9=m->∀(h0:0<=i),Q1D B c0 s i->EndsT YP B c0 (.bool ((s.stock.drop i.toNat).all (fun x=> inB x 0 100000) && (QcK s.use 1000 && (s.lots.all (QrS s.stock.length) && storeT s)))))/\(∀(i:Int),(s.use.length - i.toNat)+wtL s.lots+8=m->∀(h0:0<=i),Q0V B c0 s i->EndsT YP B c0 (.bool ((s.use.drop i.toNat).all (fun s=> Qbw s.lo s.hi 0 1000) && (s.lots.all (QrS s.stock.length) && storeT s))))/\(∀(i:Int),wtL (s.lots.drop i.toNat)+1=m->∀(h0:0<=i),Q0t B c0 s i->EndsT YP B c0 (.bool ((s.lots.drop i.toNat).all (QrS s.stock.length) && storeT s)))/\(∀(i j:Int),((s.lots.getD i.toNat default).goods.length - j.toNat)+wtL (s.lots.drop (i+1).toNat)+2=m->∀(h0:0<=i) (h1:i < s.lots.length) (j0:0<=j),Qyv B c0 s i j->EndsT YP B c0 (.bool ((((s.lots.getD i.toNat default).goods.drop j.toNat).all (fun s=> Qbw s.lo s.hi 0 100000) && (decide ((s.lots.getD i.toNat default).goods.length=s.stock.length) && (inB (s.lots.getD i.toNat default).weight 0 100000 && inB (s.lots.getD i.toNat default).cost 0 1000000))) && ((s.lots.drop (i+1).toNat).all (QrS s.stock.length) && storeT s)))):=by
 intro m0;induction m0 using Nat.strongRecOn with
 | _ m0 ih0=>
   refine ⟨?_, ?_, ?_, ?_⟩
   ·intro i hm0 h0 ⟨dJ0,hdJ0,hg0⟩;by_cases q0:(i:Int) < ((↑s.stock.length:Int))
    ·have hp0:Qas (Ql4 B s i dJ0):=by
      have s2:=Qcg (l:=s.stock) (p:=fun x=> inB x 0 100000) h0 q0;exact ⟨⟨by omega,by omega,(Qao (z:=1) (fun _=> rfl) (by omega))⟩,⟨(Qbq q0),trivial⟩⟩
     cases q1:inB (s.stock.getD i.toNat default) 0 100000 with
     | true=>
       have s2:=Qcg (l:=s.stock) (p:=fun x=> inB x 0 100000) h0 q0;exact ((ih0 _ (by omega)).1 (i+1) rfl (by omega)
        (hg0.landM okF hJ Qab (Q0s B s i dJ0)
        ⟨(QaR (by omega) (by omega)),⟨⟨trivial,(by have t_:=rin (s.stock.getD i.toNat default) (0) (100000);rw [q1] at t_;exact t_)⟩,hp0⟩⟩ (by kernel_rfl) (by kernel_rfl))).cast (by (simp only [s2,q1,Bool.true_and,Bool.false_and];done))
     | false=>
       have s2:=Qcg (l:=s.stock) (p:=fun x=> inB x 0 100000) h0 q0;exact (GoE.endsT okF hJ Qab hg0 (Qzq B s i dJ0)
        ⟨⟨trivial,(by have t_:=rin (s.stock.getD i.toNat default) (0) (100000);rw [q1] at t_;exact t_)⟩,hp0⟩).cast (by (simp only [s2,q1,Bool.true_and,Bool.false_and];done))
    ·have s2:=Qbd (l:=s.stock) (p:=fun x=> inB x 0 100000) (i:=i) (by omega);exact ((ih0 _ (by (first | omega | (simp only [Int.toNat_zero,List.drop_zero];omega)))).2.1 (0) rfl (by omega)
      (hg0.landM okF hJ Qab (Qz3 B s i dJ0)
      ⟨(Qbj (Int.not_lt.1 q0)),trivial⟩ (by kernel_rfl) (by kernel_rfl))).cast (by (simp only [s2,QcK,Int.toNat_zero,List.drop_zero,Bool.true_and];done))
   ·intro i hm0 h0 ⟨dJ0,hdJ0,hg0⟩;by_cases q0:(i:Int) < ((↑s.use.length:Int))
    ·have hp1:Qas (QlX B s i dJ0):=by
      have s2:=Qcg (l:=s.use) (p:=fun s=> Qbw s.lo s.hi 0 1000) h0 q0;have m2:wtL (s.lots.drop (Int.toNat 0))=wtL s.lots:=rfl;exact ⟨⟨by omega,by omega,(Qao (z:=2) (fun _=> rfl) (by omega))⟩,⟨(Qbq q0),trivial⟩⟩
     cases q1:Qbw (Span.lo (s.use.getD i.toNat default)) (Span.hi (s.use.getD i.toNat default)) 0 1000 with
     | true=>
       have s2:=Qcg (l:=s.use) (p:=fun s=> Qbw s.lo s.hi 0 1000) h0 q0;have m2:wtL (s.lots.drop (Int.toNat 0))=wtL s.lots:=rfl;exact ((ih0 _ (by (first | omega | (simp only [Int.toNat_zero,List.drop_zero];omega)))).2.1 (i+1) rfl (by omega)
        (hg0.landM okF hJ Qab (Qzr B s i dJ0)
        ⟨(QaR (by omega) (by omega)),⟨⟨trivial,(by have t_:=Qn5 (Span.lo (s.use.getD i.toNat default)) (Span.hi (s.use.getD i.toNat default)) (0) (1000);rw [q1] at t_;exact t_)⟩,hp1⟩⟩ (by kernel_rfl) (by kernel_rfl))).cast (by (simp only [s2,q1,Bool.true_and,Bool.false_and];done))
     | false=>
       have s2:=Qcg (l:=s.use) (p:=fun s=> Qbw s.lo s.hi 0 1000) h0 q0;have m2:wtL (s.lots.drop (Int.toNat 0))=wtL s.lots:=rfl;exact (GoE.endsT okF hJ Qab hg0 (Q1d B s i dJ0)
        ⟨⟨trivial,(by have t_:=Qn5 (Span.lo (s.use.getD i.toNat default)) (Span.hi (s.use.getD i.toNat default)) (0) (1000);rw [q1] at t_;exact t_)⟩,hp1⟩).cast (by (simp only [s2,q1,Bool.true_and,Bool.false_and];done))
    ·have s2:=Qbd (l:=s.use) (p:=fun s=> Qbw s.lo s.hi 0 1000) (i:=i) (by omega);have m2:wtL (s.lots.drop (Int.toNat 0))=wtL s.lots:=rfl;exact ((ih0 _ (by (first | omega | (simp only [Int.toNat_zero,List.drop_zero];omega)))).2.2.1 (0) rfl (by omega)
      (hg0.landM okF hJ Qab (Qzl B s i dJ0)
      ⟨(Qbj (Int.not_lt.1 q0)),trivial⟩ (by kernel_rfl) (by kernel_rfl))).cast (by (simp only [s2,Int.toNat_zero,List.drop_zero,Bool.true_and];done))
   ·intro i hm0 h0 ⟨dJ0,hdJ0,hg0⟩;by_cases q0:(i:Int) < ((↑s.lots.length:Int))
    ·have s2:=Qcg (l:=s.lots) (p:=QrS s.stock.length) h0 q0;have s3:=Q6k (l:=s.lots) h0 q0;exact ((ih0 _ (by omega)).2.2.2 (i) (0) rfl (by with_reducible assumption) (by with_reducible assumption) (by omega)
      (hg0.landM okF hJ Qab (Q1E B s i dJ0)
      ⟨⟨by omega,by omega,(Qao (z:=3) (fun _=> rfl) (by omega))⟩,⟨(Qbq q0),trivial⟩⟩ (by kernel_rfl) (by kernel_rfl))).cast (by (simp only [s2,QrS,QcK,Int.toNat_zero,List.drop_zero,Bool.and_assoc];done))
    ·have hp2:Qas (Qnv B s i dJ0):=by
      exact ⟨(Qbj (Int.not_lt.1 q0)),trivial⟩
     cases q1:inB (↑s.stock.length:Int) 1 4 with
     | true=>
       have hp3:Qas (QmC B s i dJ0):=by
        have s2:=Qbd (l:=s.lots) (p:=QrS s.stock.length) (i:=i) (by omega);exact ⟨⟨trivial,(by have t_:=rin ((↑s.stock.length:Int)) (1) (4);rw [q1] at t_;exact t_)⟩,hp2⟩
       by_cases q2:((↑s.use.length:Int):Int)=((↑s.stock.length:Int))
       ·have hp4:Qas (Qmp B s i dJ0):=by
         exact ⟨(Qvr q2),hp3⟩
        cases q3:Qbw s.glo s.ghi 1 60 with
        | true=>
          have hp5:Qas (QmX B s i dJ0):=by
           have s2:=Qbd (l:=s.lots) (p:=QrS s.stock.length) (i:=i) (by omega);exact ⟨⟨trivial,(by have t_:=Q8q s.glo s.ghi;rw [q3] at t_;exact t_)⟩,hp4⟩
          by_cases q4:((↑s.lots.length:Int):Int)<=(6)
          ·have hp6:Qas (Qlx B s i dJ0):=by
            exact ⟨(Qcq q4),hp5⟩
           cases q5:inB s.hold 0 100000 with
           | true=>
             have s2:=Qbd (l:=s.lots) (p:=QrS s.stock.length) (i:=i) (by omega);exact (GoE.endsT okF hJ Qab hg0 (QxX B s i dJ0)
              ⟨⟨trivial,(by have t_:=rin s.hold (0) (100000);rw [q5] at t_;exact t_)⟩,hp6⟩).cast (by (rw [s2];simp_all [storeT];omega))
           | false=>
             have s2:=Qbd (l:=s.lots) (p:=QrS s.stock.length) (i:=i) (by omega);exact (GoE.endsT okF hJ Qab hg0 (QzV B s i dJ0)
              ⟨⟨trivial,(by have t_:=rin s.hold (0) (100000);rw [q5] at t_;exact t_)⟩,hp6⟩).cast (by (rw [s2];simp [storeT, *];done))
          ·have s2:=Qbd (l:=s.lots) (p:=QrS s.stock.length) (i:=i) (by omega);exact (GoE.endsT okF hJ Qab hg0 (Q0D B s i dJ0)
            ⟨(Qcn (Int.not_le.1 q4)),hp5⟩).cast (by (rw [s2];simp_all [storeT];omega))
        | false=>
          have s2:=Qbd (l:=s.lots) (p:=QrS s.stock.length) (i:=i) (by omega);exact (GoE.endsT okF hJ Qab hg0 (Qx0 B s i dJ0)
           ⟨⟨trivial,(by have t_:=Q8q s.glo s.ghi;rw [q3] at t_;exact t_)⟩,hp4⟩).cast (by (rw [s2];simp [storeT, *];done))
       ·have s2:=Qbd (l:=s.lots) (p:=QrS s.stock.length) (i:=i) (by omega);exact (GoE.endsT okF hJ Qab hg0 (QvJ B s i dJ0)
         ⟨(Qw1 q2),hp3⟩).cast (by (rw [s2];simp_all [storeT];omega))
     | false=>
       have s2:=Qbd (l:=s.lots) (p:=QrS s.stock.length) (i:=i) (by omega);exact (GoE.endsT okF hJ Qab hg0 (Qvy B s i dJ0)
        ⟨⟨trivial,(by have t_:=rin ((↑s.stock.length:Int)) (1) (4);rw [q1] at t_;exact t_)⟩,hp2⟩).cast (by (rw [s2];simp [storeT, *];done))
   ·intro i j hm0 h0 h1 j0 ⟨dJ0,hdJ0,hg0⟩;have hgl:=hb _ (Qa6 h0 h1);by_cases q0:(j:Int) < ((↑(List.length (Qak.goods (s.lots.getD i.toNat default))):Int))
    ·have hp7:Qas (QlD B s i j dJ0):=by
      have s2:=Qcg (l:=(s.lots.getD i.toNat default).goods) (p:=fun s=> Qbw s.lo s.hi 0 100000) j0 q0;exact ⟨⟨by omega,by omega,(Qao (z:=2) (fun _=> rfl) (by omega))⟩,⟨(Qbq q0),trivial⟩⟩
     cases q1:Qbw (Span.lo (List.getD (Qak.goods (s.lots.getD i.toNat default)) j.toNat default)) (Span.hi (List.getD (Qak.goods (s.lots.getD i.toNat default)) j.toNat default)) 0 100000 with
     | true=>
       have s2:=Qcg (l:=(s.lots.getD i.toNat default).goods) (p:=fun s=> Qbw s.lo s.hi 0 100000) j0 q0;exact ((ih0 _ (by omega)).2.2.2 (i) (j+1) rfl (by with_reducible assumption) (by with_reducible assumption) (by omega)
        (hg0.landM okF hJ Qab (Qx5 B s i j dJ0)
        ⟨(QaR (by omega) (by omega)),⟨⟨trivial,(by have t_:=Qn5 (Span.lo (List.getD (Qak.goods (s.lots.getD i.toNat default)) j.toNat default)) (Span.hi (List.getD (Qak.goods (s.lots.getD i.toNat default)) j.toNat default)) (0) (100000);rw [q1] at t_;exact t_)⟩,hp7⟩⟩ (by kernel_rfl) (by kernel_rfl))).cast (by (simp only [s2,q1,Bool.true_and,Bool.false_and];done))
     | false=>
       have s2:=Qcg (l:=(s.lots.getD i.toNat default).goods) (p:=fun s=> Qbw s.lo s.hi 0 100000) j0 q0;exact (GoE.endsT okF hJ Qab hg0 (Qwk B s i j dJ0)
        ⟨⟨trivial,(by have t_:=Qn5 (Span.lo (List.getD (Qak.goods (s.lots.getD i.toNat default)) j.toNat default)) (Span.hi (List.getD (Qak.goods (s.lots.getD i.toNat default)) j.toNat default)) (0) (100000);rw [q1] at t_;exact t_)⟩,hp7⟩).cast (by (simp only [s2,q1,Bool.true_and,Bool.false_and];done))
    ·have hp8:Qas (QlF B s i j dJ0):=by
      exact ⟨(Qbj (Int.not_lt.1 q0)),trivial⟩
     by_cases q1:((↑(List.length (Qak.goods (s.lots.getD i.toNat default))):Int):Int)≠((↑s.stock.length:Int))
     ·have s2:=Qbd (l:=(s.lots.getD i.toNat default).goods) (p:=fun s=> Qbw s.lo s.hi 0 100000) (i:=j) (by omega);exact (GoE.endsT okF hJ Qab hg0 (QvD B s i j dJ0)
       ⟨(Q0n q1),hp8⟩).cast (by (simp only [s2,Bool.true_and];simp_all;omega))
     ·have hp9:Qas (Qm6 B s i j dJ0):=by
       exact ⟨(Q1u (Decidable.of_not_not q1)),hp8⟩
      cases q2:inB (Qak.weight (s.lots.getD i.toNat default)) 0 100000 with
      | true=>
        have hp10:Qas (Qj1 B s i j dJ0):=by
         have s2:=Qbd (l:=(s.lots.getD i.toNat default).goods) (p:=fun s=> Qbw s.lo s.hi 0 100000) (i:=j) (by omega);exact ⟨⟨trivial,(by have t_:=rin (Qak.weight (s.lots.getD i.toNat default)) (0) (100000);rw [q2] at t_;exact t_)⟩,hp9⟩
        cases q3:inB (Qak.cost (s.lots.getD i.toNat default)) 0 1000000 with
        | true=>
          have s2:=Qbd (l:=(s.lots.getD i.toNat default).goods) (p:=fun s=> Qbw s.lo s.hi 0 100000) (i:=j) (by omega);exact ((ih0 _ (by omega)).2.2.1 (i+1) rfl (by omega)
           (hg0.landM okF hJ Qab (Qxq B s i j dJ0)
           ⟨(QaR (by omega) (by omega)),⟨⟨trivial,(by have t_:=rin (Qak.cost (s.lots.getD i.toNat default)) (0) (1000000);rw [q3] at t_;exact t_)⟩,hp10⟩⟩ (by kernel_rfl) (by kernel_rfl))).cast (by (simp only [s2,Bool.true_and];simp_all;omega))
        | false=>
          have s2:=Qbd (l:=(s.lots.getD i.toNat default).goods) (p:=fun s=> Qbw s.lo s.hi 0 100000) (i:=j) (by omega);exact (GoE.endsT okF hJ Qab hg0 (QwV B s i j dJ0)
           ⟨⟨trivial,(by have t_:=rin (Qak.cost (s.lots.getD i.toNat default)) (0) (1000000);rw [q3] at t_;exact t_)⟩,hp10⟩).cast (by (simp only [s2,Bool.true_and];simp [*];done))
      | false=>
        have s2:=Qbd (l:=(s.lots.getD i.toNat default).goods) (p:=fun s=> Qbw s.lo s.hi 0 100000) (i:=j) (by omega);exact (GoE.endsT okF hJ Qab hg0 (Qxr B s i j dJ0)
         ⟨⟨trivial,(by have t_:=rin (Qak.weight (s.lots.getD i.toNat default)) (0) (100000);rw [q2] at t_;exact t_)⟩,hp9⟩).cast (by (simp only [s2,Bool.true_and];simp [*];done))
set_option maxHeartbeats 4000000 in
theorem Q31 (s:Qaa) (hb:∀l∈s.lots,l.goods.length<=8) (hfacts:s.stock.length<=9223372036854775807/\s.use.length<=9223372036854775807/\s.lots.length<=9223372036854775807) {B:Lo} (hJ:∀w,B.has w->J0 w):EndsT YP B (Qae YP 44 110 (([.agg (Qap s).toArray]).map (Qal 0 4))) (.bool (Qu8 s)):=by
 exact ((QxF s hb hfacts hJ _).1 (0) rfl (by omega)
  (GoE.start.landM okF hJ Qab (Qwm B s)
  trivial (by kernel_rfl) (by kernel_rfl))).cast (by rfl)
theorem Q7t (s:Qaa) (hb:∀l∈s.lots,l.goods.length<=8):Qai YP J0 44 #[.agg (Qap s).toArray] (.bool (Qu8 s)):=
 Qcv (ts:=[.agg (Qap s).toArray]) (s.stock.length<=9223372036854775807/\s.use.length<=9223372036854775807/\s.lots.length<=9223372036854775807) (fun _ _ ht=> ⟨ht.ln2 (i:=0) (j:=0) rfl rfl,ht.ln2 (i:=0) (j:=1) rfl rfl,ht.ln2 (i:=0) (j:=4) rfl rfl⟩) Qbn (c0:=Qae YP 44 110 (([.agg (Qap s).toArray]).map (Qal 0 4))) (by kernel_rfl) (by kernel_rfl) fun hfacts B hJ=> Q31 s hb hfacts hJ
def Qco (s:Qaa) (i:Int):List Value:=[pA 2 0,.int .i64 i]
def Qba (s:Qaa) (i:Int):List Obj:=[Obj.cells #[Qat 1 (slT s.stock.length (Qad Qav s.stock)),Qat 1 (slT s.use.length (Qad Qaz s.use)),.int .i64 s.glo,.int .i64 s.ghi,Qat 1 (slT s.lots.length (Qad Qam s.lots)),.int .i64 s.hold] 62]
def Qcp:List Item:=([.code [1,0,1,0,0],.inLoop [1,0,1,0,0],.inBlock 0,.code [1,1]]).map (it (Qaq YP 36))
def Q0N (B:Lo) (c0:CF) (s:Qaa) (i:Int):Prop:=∃dJ:Nat->Value,(∀t,Qbg (dJ t))/\GoE YP B c0 H00 1 (Qa3 36 39 (([1,3]:List Nat).zip (Qco s i)) dJ Qcp) (Qa1 (Qba s i)) (2+(Qba s i).length) []
def Qlo (B:Lo) (s:Qaa) (i:Int) (dJ0:Nat->Value):List Prop:=[ltq i (↑s.lots.length:Int)=true]++([]:List Prop)
def QrV (s:Qaa) (i:Int) (dJ0:Nat->Value):Qan:=[(4,hvT)]
def QmL (B:Lo) (s:Qaa) (i:Int) (dJ0:Nat->Value):List Prop:=[i=(↑i.toNat:Int)/\Int.toNat i < List.length s.lots/\Array.extract (Qad Qam s.lots) (Int.toNat i * TypeInfo.size Tryz.t118) (Int.toNat i * TypeInfo.size Tryz.t118+TypeInfo.size Tryz.t118)=#[slT (List.length (Qak.goods (s.lots.getD i.toNat default))) (Qad Qaz (Qak.goods (s.lots.getD i.toNat default))),.int .i64 (Qak.weight (s.lots.getD i.toNat default)),.int .i64 (Qak.cost (s.lots.getD i.toNat default))],ltq i 12=true]++Qlo B s i dJ0
def Qqs (s:Qaa) (i:Int) (dJ0:Nat->Value):Qan:=QrV s i dJ0++[(7,hvT),(12,Qaf.tidx i.toNat #[slT (List.length (Qak.goods (s.lots.getD i.toNat default))) (Qad Qaz (Qak.goods (s.lots.getD i.toNat default))),.int .i64 (Qak.weight (s.lots.getD i.toNat default)),.int .i64 (Qak.cost (s.lots.getD i.toNat default))])]
theorem Qyy (B:Lo) (s:Qaa) (i:Int) (dJ0:Nat->Value):QaF (Qah YP (Qau YP) J0 B 14 1 (Qa3 36 39 (([1,3]:List Nat).zip (Qco s i)) dJ0 Qcp) (Qa1 (Qba s i)) (2+(Qba s i).length)
 (Qqs s i dJ0++[(16,hvT)]) 0 [] []) []=some (.bool false,
 [ltq 8 (↑(List.length (Qak.goods (s.lots.getD i.toNat default))):Int)=true]++QmL B s i dJ0):=by kernel_rfl
theorem Qyp (B:Lo) (s:Qaa) (i:Int) (dJ0:Nat->Value):landM (Qah YP (Qau YP) J0 B 14 1 (Qa3 36 39 (([1,3]:List Nat).zip (Qco s i)) dJ0 Qcp) (Qa1 (Qba s i)) (2+(Qba s i).length)
 (Qqs s i dJ0++[(16,hvF),(18,hvI (i+1))]) 0 [] []) [1,3] [(2,KS.auto)] []=some ⟨36,39,Qcp,[],.run,none,Qco s (i+1),Qba s (i+1),
 [wq (i+1)=i+1,ltq 8 (↑(List.length (Qak.goods (s.lots.getD i.toNat default))):Int)=false]++QmL B s i dJ0⟩:=by kernel_rfl
def QlB (B:Lo) (s:Qaa) (i:Int) (dJ0:Nat->Value):List Prop:=[ltq i 12=false]++Qlo B s i dJ0
def Qq7 (s:Qaa) (i:Int) (dJ0:Nat->Value):Qan:=QrV s i dJ0++[(7,hvF)]
def Qlv (B:Lo) (s:Qaa) (i:Int) (dJ0:Nat->Value):List Prop:=[(!ltq 8 (↑s.stock.length:Int))=true]++QlB B s i dJ0
def Qsq (s:Qaa) (i:Int) (dJ0:Nat->Value):Qan:=Qq7 s i dJ0++[(12,hvT)]
def Qnh (B:Lo) (s:Qaa) (i:Int) (dJ0:Nat->Value):List Prop:=[(!ltq 8 (↑s.use.length:Int))=true]++Qlv B s i dJ0
def QrW (s:Qaa) (i:Int) (dJ0:Nat->Value):Qan:=Qsq s i dJ0++[(17,hvT)]
theorem QzJ (B:Lo) (s:Qaa) (i:Int) (dJ0:Nat->Value):QaF (Qah YP (Qau YP) J0 B 9 1 (Qa3 36 39 (([1,3]:List Nat).zip (Qco s i)) dJ0 Qcp) (Qa1 (Qba s i)) (2+(Qba s i).length)
 (QrW s i dJ0++[(23,hvT)]) 0 [] []) []=some (.bool true,
 [(!ltq 9 (↑s.lots.length:Int))=true]++Qnh B s i dJ0):=by kernel_rfl
theorem Q1w (B:Lo) (s:Qaa) (i:Int) (dJ0:Nat->Value):QaF (Qah YP (Qau YP) J0 B 9 1 (Qa3 36 39 (([1,3]:List Nat).zip (Qco s i)) dJ0 Qcp) (Qa1 (Qba s i)) (2+(Qba s i).length)
 (QrW s i dJ0++[(23,hvF)]) 0 [] []) []=some (.bool false,
 [(!ltq 9 (↑s.lots.length:Int))=false]++Qnh B s i dJ0):=by kernel_rfl
theorem Q03 (B:Lo) (s:Qaa) (i:Int) (dJ0:Nat->Value):QaF (Qah YP (Qau YP) J0 B 9 1 (Qa3 36 39 (([1,3]:List Nat).zip (Qco s i)) dJ0 Qcp) (Qa1 (Qba s i)) (2+(Qba s i).length)
 (Qsq s i dJ0++[(17,hvF)]) 0 [] []) []=some (.bool false,
 [(!ltq 8 (↑s.use.length:Int))=false]++Qlv B s i dJ0):=by kernel_rfl
theorem Qym (B:Lo) (s:Qaa) (i:Int) (dJ0:Nat->Value):QaF (Qah YP (Qau YP) J0 B 9 1 (Qa3 36 39 (([1,3]:List Nat).zip (Qco s i)) dJ0 Qcp) (Qa1 (Qba s i)) (2+(Qba s i).length)
 (Qq7 s i dJ0++[(12,hvF)]) 0 [] []) []=some (.bool false,
 [(!ltq 8 (↑s.stock.length:Int))=false]++QlB B s i dJ0):=by kernel_rfl
def Qna (B:Lo) (s:Qaa) (i:Int) (dJ0:Nat->Value):List Prop:=[ltq i (↑s.lots.length:Int)=false]++([]:List Prop)
def Qr5 (s:Qaa) (i:Int) (dJ0:Nat->Value):Qan:=[(4,hvF)]
def QlU (B:Lo) (s:Qaa) (i:Int) (dJ0:Nat->Value):List Prop:=[(!ltq 8 (↑s.stock.length:Int))=true]++Qna B s i dJ0
def QqE (s:Qaa) (i:Int) (dJ0:Nat->Value):Qan:=Qr5 s i dJ0++[(12,hvT)]
def QmM (B:Lo) (s:Qaa) (i:Int) (dJ0:Nat->Value):List Prop:=[(!ltq 8 (↑s.use.length:Int))=true]++QlU B s i dJ0
def QrN (s:Qaa) (i:Int) (dJ0:Nat->Value):Qan:=QqE s i dJ0++[(17,hvT)]
theorem Qzt (B:Lo) (s:Qaa) (i:Int) (dJ0:Nat->Value):QaF (Qah YP (Qau YP) J0 B 9 1 (Qa3 36 39 (([1,3]:List Nat).zip (Qco s i)) dJ0 Qcp) (Qa1 (Qba s i)) (2+(Qba s i).length)
 (QrN s i dJ0++[(23,hvT)]) 0 [] []) []=some (.bool true,
 [(!ltq 9 (↑s.lots.length:Int))=true]++QmM B s i dJ0):=by kernel_rfl
theorem QxJ (B:Lo) (s:Qaa) (i:Int) (dJ0:Nat->Value):QaF (Qah YP (Qau YP) J0 B 9 1 (Qa3 36 39 (([1,3]:List Nat).zip (Qco s i)) dJ0 Qcp) (Qa1 (Qba s i)) (2+(Qba s i).length)
 (QrN s i dJ0++[(23,hvF)]) 0 [] []) []=some (.bool false,
 [(!ltq 9 (↑s.lots.length:Int))=false]++QmM B s i dJ0):=by kernel_rfl
theorem QyZ (B:Lo) (s:Qaa) (i:Int) (dJ0:Nat->Value):QaF (Qah YP (Qau YP) J0 B 9 1 (Qa3 36 39 (([1,3]:List Nat).zip (Qco s i)) dJ0 Qcp) (Qa1 (Qba s i)) (2+(Qba s i).length)
 (QqE s i dJ0++[(17,hvF)]) 0 [] []) []=some (.bool false,
 [(!ltq 8 (↑s.use.length:Int))=false]++QlU B s i dJ0):=by kernel_rfl
theorem Q0B (B:Lo) (s:Qaa) (i:Int) (dJ0:Nat->Value):QaF (Qah YP (Qau YP) J0 B 9 1 (Qa3 36 39 (([1,3]:List Nat).zip (Qco s i)) dJ0 Qcp) (Qa1 (Qba s i)) (2+(Qba s i).length)
 (Qr5 s i dJ0++[(12,hvF)]) 0 [] []) []=some (.bool false,
 [(!ltq 8 (↑s.stock.length:Int))=false]++Qna B s i dJ0):=by kernel_rfl
theorem Qv0 (B:Lo) (s:Qaa):landM (Qah YP (Qau YP) J0 B 7 1 (Qae YP 36 39 (([.agg (Qap s).toArray]).map (Qal 0 4))) H00 1
 [] 0 [] []) [1,3] [(1,KS.auto)] []=some ⟨36,39,Qcp,[],.run,none,Qco s (0),Qba s (0),
 []⟩:=by kernel_rfl
set_option maxHeartbeats 4000000 in
theorem QxE (s:Qaa)  (hfacts:s.stock.length<=9223372036854775807/\s.use.length<=9223372036854775807/\s.lots.length<=9223372036854775807) {B:Lo} (hJ:∀w,B.has w->J0 w) {c0:CF}:∀m:Nat,(∀(i:Int),s.lots.length - i.toNat=m->∀(h0:0<=i),Q0N B c0 s i->EndsT YP B c0 (.bool (((s.lots.take 12).drop i.toNat).all (fun l=> decide (l.goods.length<=8)) && (decide (s.stock.length<=8) && (decide (s.use.length<=8) && decide (s.lots.length<=9)))))):=by
 intro m0;induction m0 using Nat.strongRecOn with
 | _ m0 ih0=>
   intro i hm0 h0 ⟨dJ0,hdJ0,hg0⟩;by_cases q0:(i:Int) < ((↑s.lots.length:Int))
   ·have hp0:Qas (Qlo B s i dJ0):=by
     exact ⟨(Qbq q0),trivial⟩
    by_cases q1:(i:Int) < (12)
    ·have hp1:Qas (QmL B s i dJ0):=by
      have s2:=Qcg (l:=s.lots.take 12) (p:=fun l=> decide (l.goods.length<=8)) h0 (by rw [List.length_take];omega);have e3:(s.lots.take 12).getD i.toNat default=s.lots.getD i.toNat default:=by simp only [List.getD_eq_getElem?_getD];rw [List.getElem?_take_of_lt (by omega)]
      rw [e3] at s2;exact ⟨⟨by omega,by omega,(Qao (z:=3) (fun _=> rfl) (by omega))⟩,⟨(Qbq q1),hp0⟩⟩
     by_cases q2:(8:Int) < ((↑(List.length (Qak.goods (s.lots.getD i.toNat default))):Int))
     ·have s2:=Qcg (l:=s.lots.take 12) (p:=fun l=> decide (l.goods.length<=8)) h0 (by rw [List.length_take];omega);have e3:(s.lots.take 12).getD i.toNat default=s.lots.getD i.toNat default:=by simp only [List.getD_eq_getElem?_getD];rw [List.getElem?_take_of_lt (by omega)]
      rw [e3] at s2;rw [decide_eq_false (by omega)] at s2;exact (GoE.endsT okF hJ Qab hg0 (Qyy B s i dJ0)
       ⟨(Qbq q2),hp1⟩).cast (by (simp only [s2,Bool.true_and,Bool.false_and];done))
     ·have s2:=Qcg (l:=s.lots.take 12) (p:=fun l=> decide (l.goods.length<=8)) h0 (by rw [List.length_take];omega);have e3:(s.lots.take 12).getD i.toNat default=s.lots.getD i.toNat default:=by simp only [List.getD_eq_getElem?_getD];rw [List.getElem?_take_of_lt (by omega)]
      rw [e3] at s2;rw [decide_eq_true (by omega)] at s2;exact ((ih0 _ (by omega)) (i+1) rfl (by omega)
       (hg0.landM okF hJ Qab (Qyp B s i dJ0)
       ⟨(QaR (by omega) (by omega)),⟨(Qbj (Int.not_lt.1 q2)),hp1⟩⟩ (by kernel_rfl) (by kernel_rfl))).cast (by (simp only [s2,Bool.true_and,Bool.false_and];done))
    ·have hp2:Qas (QlB B s i dJ0):=by
      exact ⟨(Qbj (Int.not_lt.1 q1)),hp0⟩
     by_cases q2:((↑s.stock.length:Int):Int)<=(8)
     ·have hp3:Qas (Qlv B s i dJ0):=by
       exact ⟨(Qcq q2),hp2⟩
      by_cases q3:((↑s.use.length:Int):Int)<=(8)
      ·have hp4:Qas (Qnh B s i dJ0):=by
        exact ⟨(Qcq q3),hp3⟩
       by_cases q4:((↑s.lots.length:Int):Int)<=(9)
       ·have s2:=Qcg (l:=s.lots.take 12) (p:=fun l=> decide (l.goods.length<=8)) h0 (by rw [List.length_take];omega);have e3:(s.lots.take 12).getD i.toNat default=s.lots.getD i.toNat default:=by simp only [List.getD_eq_getElem?_getD];rw [List.getElem?_take_of_lt (by omega)]
        rw [e3] at s2;rw [decide_eq_true (by omega)] at s2;have s2:=Qbd (l:=s.lots.take 12) (p:=fun l=> decide (l.goods.length<=8)) (i:=i) (by rw [List.length_take];omega);exact (GoE.endsT okF hJ Qab hg0 (QzJ B s i dJ0)
         ⟨(Qcq q4),hp4⟩).cast (by (simp only [s2,Bool.true_and];simp_all;omega))
       ·have s2:=Qbd (l:=s.lots.take 12) (p:=fun l=> decide (l.goods.length<=8)) (i:=i) (by rw [List.length_take];omega);exact (GoE.endsT okF hJ Qab hg0 (Q1w B s i dJ0)
         ⟨(Qcn (Int.not_le.1 q4)),hp4⟩).cast (by (simp only [s2,Bool.true_and];simp_all;omega))
      ·have s2:=Qbd (l:=s.lots.take 12) (p:=fun l=> decide (l.goods.length<=8)) (i:=i) (by rw [List.length_take];omega);exact (GoE.endsT okF hJ Qab hg0 (Q03 B s i dJ0)
        ⟨(Qcn (Int.not_le.1 q3)),hp3⟩).cast (by (simp only [s2,Bool.true_and];simp_all;omega))
     ·have s2:=Qbd (l:=s.lots.take 12) (p:=fun l=> decide (l.goods.length<=8)) (i:=i) (by rw [List.length_take];omega);exact (GoE.endsT okF hJ Qab hg0 (Qym B s i dJ0)
       ⟨(Qcn (Int.not_le.1 q2)),hp2⟩).cast (by (simp only [s2,Bool.true_and];simp_all;omega))
   ·have hp5:Qas (Qna B s i dJ0):=by
     exact ⟨(Qbj (Int.not_lt.1 q0)),trivial⟩
    by_cases q1:((↑s.stock.length:Int):Int)<=(8)
    ·have hp6:Qas (QlU B s i dJ0):=by
      exact ⟨(Qcq q1),hp5⟩
     by_cases q2:((↑s.use.length:Int):Int)<=(8)
     ·have hp7:Qas (QmM B s i dJ0):=by
       exact ⟨(Qcq q2),hp6⟩
      by_cases q3:((↑s.lots.length:Int):Int)<=(9)
      ·have s2:=Qbd (l:=s.lots.take 12) (p:=fun l=> decide (l.goods.length<=8)) (i:=i) (by rw [List.length_take];omega);exact (GoE.endsT okF hJ Qab hg0 (Qzt B s i dJ0)
        ⟨(Qcq q3),hp7⟩).cast (by (simp only [s2,Bool.true_and];simp_all;omega))
      ·have s2:=Qbd (l:=s.lots.take 12) (p:=fun l=> decide (l.goods.length<=8)) (i:=i) (by rw [List.length_take];omega);exact (GoE.endsT okF hJ Qab hg0 (QxJ B s i dJ0)
        ⟨(Qcn (Int.not_le.1 q3)),hp7⟩).cast (by (simp only [s2,Bool.true_and];simp_all;omega))
     ·have s2:=Qbd (l:=s.lots.take 12) (p:=fun l=> decide (l.goods.length<=8)) (i:=i) (by rw [List.length_take];omega);exact (GoE.endsT okF hJ Qab hg0 (QyZ B s i dJ0)
       ⟨(Qcn (Int.not_le.1 q2)),hp6⟩).cast (by (simp only [s2,Bool.true_and];simp_all;omega))
    ·have s2:=Qbd (l:=s.lots.take 12) (p:=fun l=> decide (l.goods.length<=8)) (i:=i) (by rw [List.length_take];omega);exact (GoE.endsT okF hJ Qab hg0 (Q0B B s i dJ0)
      ⟨(Qcn (Int.not_le.1 q1)),hp5⟩).cast (by (simp only [s2,Bool.true_and];simp_all;omega))
set_option maxHeartbeats 4000000 in
theorem Q2N (s:Qaa)  (hfacts:s.stock.length<=9223372036854775807/\s.use.length<=9223372036854775807/\s.lots.length<=9223372036854775807) {B:Lo} (hJ:∀w,B.has w->J0 w):EndsT YP B (Qae YP 36 39 (([.agg (Qap s).toArray]).map (Qal 0 4))) (.bool (((s.lots.take 12).all fun l=> decide (l.goods.length<=8)) && (decide (s.stock.length<=8) && (decide (s.use.length<=8) && decide (s.lots.length<=9))))):=by
 exact ((QxE s hfacts hJ _) (0) rfl (by omega)
  (GoE.start.landM okF hJ Qab (Qv0 B s)
  trivial (by kernel_rfl) (by kernel_rfl))).cast (by rfl)
theorem Q6K (s:Qaa)  :Qai YP J0 36 #[.agg (Qap s).toArray] (.bool (((s.lots.take 12).all fun l=> decide (l.goods.length<=8)) && (decide (s.stock.length<=8) && (decide (s.use.length<=8) && decide (s.lots.length<=9))))):=
 Qcv (ts:=[.agg (Qap s).toArray]) (s.stock.length<=9223372036854775807/\s.use.length<=9223372036854775807/\s.lots.length<=9223372036854775807) (fun _ _ ht=> ⟨ht.ln2 (i:=0) (j:=0) rfl rfl,ht.ln2 (i:=0) (j:=1) rfl rfl,ht.ln2 (i:=0) (j:=4) rfl rfl⟩) Qbn (c0:=Qae YP 36 39 (([.agg (Qap s).toArray]).map (Qal 0 4))) (by kernel_rfl) (by kernel_rfl) fun hfacts B hJ=> Q2N s  hfacts hJ
end
end Go.Proofs.YtiabgkiccaodmaaGreat

namespace Go.Proofs.YtiabgkiccaodmaaGreat
open Go Go.CE Go.RowKit
noncomputable section
set_option maxRecDepth 100000
def QcR (l:List Int) (i:Int):Int:=if 0 < i then l.getD (i - 1).toNat default else -1
def Q3b (s:Qaa) (l:List Int):Int:=QfW (l.map fun x=> (s.lots.getD x.toNat default).weight)
theorem Qfi {s:Qaa} {i:Int} {l:List Int} (h0:0<=i) (h:i < l.length):Q3b s (l.drop i.toNat)=(s.lots.getD (l.getD i.toNat default).toNat default).weight+Q3b s (l.drop (i+1).toNat):=by
 obtain ⟨k,rfl⟩:∃k:Nat,i=k:=⟨i.toNat,by omega⟩
 have hk:k < l.length:=by omega
 have e1:((k:Int)).toNat=k:=by omega
 have e2:((k:Int)+1).toNat=k+1:=by omega
 unfold Q3b;rw [e1,e2,List.drop_eq_getElem_cons hk,List.map_cons];simp [QfW,List.getD_eq_getElem?_getD,hk]
theorem Quc {s:Qaa} {i:Int} {l:List Int} (h:l.length<=i):Q3b s (l.drop i.toNat)=0:=by
 rw [List.drop_eq_nil_of_le (by omega)];rfl
theorem QsN {l:List Int} {i:Int} (h0:0<=i):QcR l (i+1)=l.getD i.toNat default:=by
 unfold QcR;rw [if_pos (by omega),show i+1 - 1=i by omega]
theorem Q6V {x lo hi:Int} (q:inB x lo hi=false):¬(lo<=x/\x<=hi):=fun h=> by rw [Qa4.2 h] at q;cases q
theorem Q8v {x lo hi:Int} (h:¬(lo<=x/\x<=hi)):inB x lo hi=false:=by
 cases hc:inB x lo hi with
 | false=> rfl
 | true=> exact absurd (Qa4.1 hc) h
def Qew (s:Qaa) (load:List Int) (w i:Int):List Value:=[Qat 1 (slT load.length (Qad Qav load)),pA 2 0,.int .i64 w,.int .i64 i]
def Qch (s:Qaa) (load:List Int) (w i:Int):List Obj:=[Obj.cells #[Qat 1 (slT s.stock.length (Qad Qav s.stock)),Qat 1 (slT s.use.length (Qad Qaz s.use)),.int .i64 s.glo,.int .i64 s.ghi,Qat 1 (slT s.lots.length (Qad Qam s.lots)),.int .i64 s.hold] 62]
def Qes:List Item:=([.code [1,1,0,1,0,0],.inLoop [1,1,0,1,0,0],.inBlock 0,.code [1,1,1]]).map (it (Qaq YP 56))
def Q26 (B:Lo) (c0:CF) (s:Qaa) (load:List Int) (w i:Int):Prop:=∃dJ:Nat->Value,(∀t,Qbg (dJ t))/\GoE YP B c0 H00 1 (Qa3 56 54 (([1,2,5,6]:List Nat).zip (Qew s load w i)) dJ Qes) (Qa1 (Qch s load w i)) (2+(Qch s load w i).length) []
def QkM (s:Qaa) (load:List Int) (i:Int):Array Value:=#[slT (List.length (Qak.goods (s.lots.getD (Int.toNat (load.getD i.toNat default)) default))) (Qad Qaz (Qak.goods (s.lots.getD (Int.toNat (load.getD i.toNat default)) default))),.int .i64 (Qak.weight (s.lots.getD (Int.toNat (load.getD i.toNat default)) default)),.int .i64 (Qak.cost (s.lots.getD (Int.toNat (load.getD i.toNat default)) default))]
def Qpm (B:Lo) (s:Qaa) (load:List Int) (w i:Int) (dJ0:Nat->Value):List Prop:=[wq ((↑s.lots.length:Int) - 1)=(↑s.lots.length:Int) - 1,i=(↑i.toNat:Int)/\Int.toNat i < List.length load/\Array.extract (Qad Qav load) (Int.toNat i * TypeInfo.size Tryz.t3) (Int.toNat i * TypeInfo.size Tryz.t3+TypeInfo.size Tryz.t3)=#[.int .i64 (load.getD i.toNat default)],ltq i (↑load.length:Int)=true]++([]:List Prop)
def Qun (s:Qaa) (load:List Int) (w i:Int) (dJ0:Nat->Value):Qan:=[(3,hvT),(6,Qaf.tidx i.toNat #[.int .i64 (load.getD i.toNat default)]),(11,hvI ((↑s.lots.length:Int) - 1))]
def Qpc (B:Lo) (s:Qaa) (load:List Int) (w i:Int) (dJ0:Nat->Value):List Prop:=[Qas []/\Qai YP J0 69 #[.int .i64 (load.getD i.toNat default),.int .i64 0,.int .i64 ((↑s.lots.length:Int) - 1)] (.bool true)]++Qpm B s load w i dJ0
def Qu4 (s:Qaa) (load:List Int) (w i:Int) (dJ0:Nat->Value):Qan:=Qun s load w i dJ0++[(12,Qaf.pure (.bool true) [])]
def QoW (B:Lo) (s:Qaa) (load:List Int) (w i:Int) (dJ0:Nat->Value):List Prop:=[i - 1=(↑(Int.toNat (i - 1)):Int)/\Int.toNat (i - 1) < List.length load/\Array.extract (Qad Qav load) (Int.toNat (i - 1) * TypeInfo.size Tryz.t3) (Int.toNat (i - 1) * TypeInfo.size Tryz.t3+TypeInfo.size Tryz.t3)=#[.int .i64 (load.getD (Int.toNat (i - 1)) default)],wq (i - 1)=i - 1,i=(↑i.toNat:Int)/\Int.toNat i < List.length load/\Array.extract (Qad Qav load) (Int.toNat i * TypeInfo.size Tryz.t3) (Int.toNat i * TypeInfo.size Tryz.t3+TypeInfo.size Tryz.t3)=#[.int .i64 (load.getD i.toNat default)],ltq 0 i=true]++Qpc B s load w i dJ0
def Qu6 (s:Qaa) (load:List Int) (w i:Int) (dJ0:Nat->Value):Qan:=Qu4 s load w i dJ0++[(16,hvT),(20,Qaf.tidx i.toNat #[.int .i64 (load.getD i.toNat default)]),(24,hvI (i - 1)),(25,Qaf.tidx (Int.toNat (i - 1)) #[.int .i64 (load.getD (Int.toNat (i - 1)) default)])]
theorem Q3u (B:Lo) (s:Qaa) (load:List Int) (w i:Int) (dJ0:Nat->Value):QaF (Qah YP (Qau YP) J0 B 15 1 (Qa3 56 54 (([1,2,5,6]:List Nat).zip (Qew s load w i)) dJ0 Qes) (Qa1 (Qch s load w i)) (2+(Qch s load w i).length)
 (Qu6 s load w i dJ0++[(27,hvT)]) 0 [] []) []=some (.bool false,
 [(!ltq (load.getD (Int.toNat (i - 1)) default) (load.getD i.toNat default))=true]++QoW B s load w i dJ0):=by kernel_rfl
theorem Q3v (B:Lo) (s:Qaa) (load:List Int) (w i:Int) (dJ0:Nat->Value):landM (Qah YP (Qau YP) J0 B 16 1 (Qa3 56 54 (([1,2,5,6]:List Nat).zip (Qew s load w i)) dJ0 Qes) (Qa1 (Qch s load w i)) (2+(Qch s load w i).length)
 (Qu6 s load w i dJ0++[(27,hvF),(35,Qaf.tidx i.toNat #[.int .i64 (load.getD i.toNat default)]),(37,Qaf.tidx (Int.toNat (load.getD i.toNat default)) (QkM s load i)),(40,hvI (w+Qak.weight (s.lots.getD (Int.toNat (load.getD i.toNat default)) default))),(43,hvI (i+1))]) 0 [] []) [1,2,5,6] [(2,KS.auto)] []=some ⟨56,54,Qes,[],.run,none,Qew s load (w+Qak.weight (s.lots.getD (Int.toNat (load.getD i.toNat default)) default)) (i+1),Qch s load (w+Qak.weight (s.lots.getD (Int.toNat (load.getD i.toNat default)) default)) (i+1),
 [wq (i+1)=i+1,wq (w+Qak.weight (s.lots.getD (Int.toNat (load.getD i.toNat default)) default))=w+Qak.weight (s.lots.getD (Int.toNat (load.getD i.toNat default)) default),load.getD i.toNat default=(↑(Int.toNat (load.getD i.toNat default)):Int)/\Int.toNat (load.getD i.toNat default) < List.length s.lots/\Array.extract (Qad Qam s.lots) (Int.toNat (load.getD i.toNat default) * TypeInfo.size Tryz.t118) (Int.toNat (load.getD i.toNat default) * TypeInfo.size Tryz.t118+TypeInfo.size Tryz.t118)=(QkM s load i),i=(↑i.toNat:Int)/\Int.toNat i < List.length load/\Array.extract (Qad Qav load) (Int.toNat i * TypeInfo.size Tryz.t3) (Int.toNat i * TypeInfo.size Tryz.t3+TypeInfo.size Tryz.t3)=#[.int .i64 (load.getD i.toNat default)],(!ltq (load.getD (Int.toNat (i - 1)) default) (load.getD i.toNat default))=false]++QoW B s load w i dJ0⟩:=by kernel_rfl
theorem Q3z (B:Lo) (s:Qaa) (load:List Int) (w i:Int) (dJ0:Nat->Value):landM (Qah YP (Qau YP) J0 B 16 1 (Qa3 56 54 (([1,2,5,6]:List Nat).zip (Qew s load w i)) dJ0 Qes) (Qa1 (Qch s load w i)) (2+(Qch s load w i).length)
 (Qu4 s load w i dJ0++[(16,hvF),(35,Qaf.tidx i.toNat #[.int .i64 (load.getD i.toNat default)]),(37,Qaf.tidx (Int.toNat (load.getD i.toNat default)) (QkM s load i)),(40,hvI (w+Qak.weight (s.lots.getD (Int.toNat (load.getD i.toNat default)) default))),(43,hvI (i+1))]) 0 [] []) [1,2,5,6] [(2,KS.auto)] []=some ⟨56,54,Qes,[],.run,none,Qew s load (w+Qak.weight (s.lots.getD (Int.toNat (load.getD i.toNat default)) default)) (i+1),Qch s load (w+Qak.weight (s.lots.getD (Int.toNat (load.getD i.toNat default)) default)) (i+1),
 [wq (i+1)=i+1,wq (w+Qak.weight (s.lots.getD (Int.toNat (load.getD i.toNat default)) default))=w+Qak.weight (s.lots.getD (Int.toNat (load.getD i.toNat default)) default),load.getD i.toNat default=(↑(Int.toNat (load.getD i.toNat default)):Int)/\Int.toNat (load.getD i.toNat default) < List.length s.lots/\Array.extract (Qad Qam s.lots) (Int.toNat (load.getD i.toNat default) * TypeInfo.size Tryz.t118) (Int.toNat (load.getD i.toNat default) * TypeInfo.size Tryz.t118+TypeInfo.size Tryz.t118)=(QkM s load i),i=(↑i.toNat:Int)/\Int.toNat i < List.length load/\Array.extract (Qad Qav load) (Int.toNat i * TypeInfo.size Tryz.t3) (Int.toNat i * TypeInfo.size Tryz.t3+TypeInfo.size Tryz.t3)=#[.int .i64 (load.getD i.toNat default)],ltq 0 i=false]++Qpc B s load w i dJ0⟩:=by kernel_rfl
theorem Q2s (B:Lo) (s:Qaa) (load:List Int) (w i:Int) (dJ0:Nat->Value):QaF (Qah YP (Qau YP) J0 B 15 1 (Qa3 56 54 (([1,2,5,6]:List Nat).zip (Qew s load w i)) dJ0 Qes) (Qa1 (Qch s load w i)) (2+(Qch s load w i).length)
 (Qun s load w i dJ0++[(12,Qaf.pure (.bool false) [])]) 0 [] []) []=some (.bool false,
 [Qas []/\Qai YP J0 69 #[.int .i64 (load.getD i.toNat default),.int .i64 0,.int .i64 ((↑s.lots.length:Int) - 1)] (.bool false)]++Qpm B s load w i dJ0):=by kernel_rfl
def QoF (B:Lo) (s:Qaa) (load:List Int) (w i:Int) (dJ0:Nat->Value):List Prop:=[ltq i (↑load.length:Int)=false]++([]:List Prop)
def QtV (s:Qaa) (load:List Int) (w i:Int) (dJ0:Nat->Value):Qan:=[(3,hvF)]
theorem Q3J (B:Lo) (s:Qaa) (load:List Int) (w i:Int) (dJ0:Nat->Value):QaF (Qah YP (Qau YP) J0 B 9 1 (Qa3 56 54 (([1,2,5,6]:List Nat).zip (Qew s load w i)) dJ0 Qes) (Qa1 (Qch s load w i)) (2+(Qch s load w i).length)
 (QtV s load w i dJ0++[(7,hvT)]) 0 [] []) []=some (.bool true,
 [(!ltq s.hold w)=true]++QoF B s load w i dJ0):=by kernel_rfl
theorem Q3Q (B:Lo) (s:Qaa) (load:List Int) (w i:Int) (dJ0:Nat->Value):QaF (Qah YP (Qau YP) J0 B 9 1 (Qa3 56 54 (([1,2,5,6]:List Nat).zip (Qew s load w i)) dJ0 Qes) (Qa1 (Qch s load w i)) (2+(Qch s load w i).length)
 (QtV s load w i dJ0++[(7,hvF)]) 0 [] []) []=some (.bool false,
 [(!ltq s.hold w)=false]++QoF B s load w i dJ0):=by kernel_rfl
theorem Q2c (B:Lo) (s:Qaa) (load:List Int):landM (Qah YP (Qau YP) J0 B 9 1 (Qae YP 56 54 (([.agg (Qap s).toArray,slI load]).map (Qal 0 4))) H00 1
 [] 0 [] []) [1,2,5,6] [(1,KS.auto)] []=some ⟨56,54,Qes,[],.run,none,Qew s load (0) (0),Qch s load (0) (0),
 []⟩:=by kernel_rfl
set_option maxHeartbeats 4000000 in
theorem Q33 (s:Qaa) (load:List Int) (hs:Qa7 s=true) (hl:load.length<=10) {B:Lo} (hJ:∀w,B.has w->J0 w) {c0:CF}:∀m:Nat,(∀(w i:Int),load.length - i.toNat=m->∀(h0:0<=i) (h1:0<=w/\w<=100000 * i) (hp: -1<=QcR load i),Q26 B c0 s load w i->EndsT YP B c0 (.bool (Qel s.lots.length (load.drop i.toNat) (QcR load i+1) && decide (w+Q3b s (load.drop i.toNat)<=s.hold)))):=by
 intro m0;induction m0 using Nat.strongRecOn with
 | _ m0 ih0=>
   intro w i hm0 h0 h1 hp ⟨dJ0,hdJ0,hg0⟩;have hm:=Qbv hs;have g3:=QsN (l:=load) h0;by_cases q0:(i:Int) < ((↑load.length:Int))
   ·have hp0:Qas (Qpm B s load w i dJ0):=by
     have s2:=QcH (things:=s.lots.length) (least:=QcR load i+1) (l:=load) h0 q0;have s3:=Qfi (s:=s) h0 q0;exact ⟨(QaR (by omega) (by omega)),⟨⟨by omega,by omega,(Qao (z:=1) (fun _=> rfl) (by omega))⟩,⟨(Qbq q0),trivial⟩⟩⟩
    cases q1:inB (load.getD i.toNat default) 0 ((↑s.lots.length:Int) - 1) with
    | true=>
      have hp1:Qas (Qpc B s load w i dJ0):=by
       have s2:=QcH (things:=s.lots.length) (least:=QcR load i+1) (l:=load) h0 q0;have s3:=Qfi (s:=s) h0 q0;have g1:=Qa4.1 ‹inB (load.getD i.toNat default) 0 _=true›;have g2:=QdF (hm.2 _ (Qa6 (l:=s.lots) (i:=load.getD i.toNat default) (by omega) (by omega)));exact ⟨⟨trivial,(by have t_:=rin (load.getD i.toNat default) (0) ((↑s.lots.length:Int) - 1);rw [q1] at t_;exact t_)⟩,hp0⟩
      by_cases q2:(0:Int) < (i)
      ·have hp2:Qas (QoW B s load w i dJ0):=by
        have s2:=QcH (things:=s.lots.length) (least:=QcR load i+1) (l:=load) h0 q0;have s3:=Qfi (s:=s) h0 q0;have g1:=Qa4.1 ‹inB (load.getD i.toNat default) 0 _=true›;have g2:=QdF (hm.2 _ (Qa6 (l:=s.lots) (i:=load.getD i.toNat default) (by omega) (by omega)));have pv:QcR load i=load.getD (i - 1).toNat default:=if_pos ‹0 < i›;exact ⟨⟨by omega,by omega,(Qao (z:=1) (fun _=> rfl) (by omega))⟩,⟨(QaR (by omega) (by omega)),⟨⟨by omega,by omega,(Qao (z:=1) (fun _=> rfl) (by omega))⟩,⟨(Qbq q2),hp1⟩⟩⟩⟩
       by_cases q3:(load.getD i.toNat default:Int)<=(load.getD (Int.toNat (i - 1)) default)
       ·have s2:=QcH (things:=s.lots.length) (least:=QcR load i+1) (l:=load) h0 q0;have s3:=Qfi (s:=s) h0 q0;have g1:=Qa4.1 ‹inB (load.getD i.toNat default) 0 _=true›;have g2:=QdF (hm.2 _ (Qa6 (l:=s.lots) (i:=load.getD i.toNat default) (by omega) (by omega)));have pv:QcR load i=load.getD (i - 1).toNat default:=if_pos ‹0 < i›;have et:inB (load.getD i.toNat default) (QcR load i+1) ((s.lots.length:Int) - 1)=false:=Q8v (by omega);exact (GoE.endsT okF hJ Qab hg0 (Q3u B s load w i dJ0)
         ⟨(Qcq q3),hp2⟩).cast (by (rw [s2,et];rfl))
       ·have s2:=QcH (things:=s.lots.length) (least:=QcR load i+1) (l:=load) h0 q0;have s3:=Qfi (s:=s) h0 q0;have g1:=Qa4.1 ‹inB (load.getD i.toNat default) 0 _=true›;have g2:=QdF (hm.2 _ (Qa6 (l:=s.lots) (i:=load.getD i.toNat default) (by omega) (by omega)));have pv:QcR load i=load.getD (i - 1).toNat default:=if_pos ‹0 < i›;have et:inB (load.getD i.toNat default) (QcR load i+1) ((s.lots.length:Int) - 1)=true:=Qa4.2 (by omega);exact ((ih0 _ (by omega)) (w+Qak.weight (s.lots.getD (Int.toNat (load.getD i.toNat default)) default)) (i+1) rfl (by omega) (by omega) (by omega)
         (hg0.landM okF hJ Qab (Q3v B s load w i dJ0)
         ⟨(QaR (by omega) (by omega)),⟨(QaR (by omega) (by omega)),⟨⟨by omega,by omega,(Qao (z:=3) (fun _=> rfl) (by omega))⟩,⟨⟨by omega,by omega,(Qao (z:=1) (fun _=> rfl) (by omega))⟩,⟨(Qcn (Int.not_le.1 q3)),hp2⟩⟩⟩⟩⟩ (by kernel_rfl) (by kernel_rfl))).cast (by (rw [s2,s3,et,g3,Int.add_assoc];rfl))
      ·have s2:=QcH (things:=s.lots.length) (least:=QcR load i+1) (l:=load) h0 q0;have s3:=Qfi (s:=s) h0 q0;have g1:=Qa4.1 ‹inB (load.getD i.toNat default) 0 _=true›;have g2:=QdF (hm.2 _ (Qa6 (l:=s.lots) (i:=load.getD i.toNat default) (by omega) (by omega)));have pv:QcR load i= -1:=if_neg ‹¬0 < i›;have et:inB (load.getD i.toNat default) (QcR load i+1) ((s.lots.length:Int) - 1)=true:=Qa4.2 (by omega);exact ((ih0 _ (by omega)) (w+Qak.weight (s.lots.getD (Int.toNat (load.getD i.toNat default)) default)) (i+1) rfl (by omega) (by omega) (by omega)
        (hg0.landM okF hJ Qab (Q3z B s load w i dJ0)
        ⟨(QaR (by omega) (by omega)),⟨(QaR (by omega) (by omega)),⟨⟨by omega,by omega,(Qao (z:=3) (fun _=> rfl) (by omega))⟩,⟨⟨by omega,by omega,(Qao (z:=1) (fun _=> rfl) (by omega))⟩,⟨(Qbj (Int.not_lt.1 q2)),hp1⟩⟩⟩⟩⟩ (by kernel_rfl) (by kernel_rfl))).cast (by (rw [s2,s3,et,g3,Int.add_assoc];rfl))
    | false=>
      have s2:=QcH (things:=s.lots.length) (least:=QcR load i+1) (l:=load) h0 q0;have s3:=Qfi (s:=s) h0 q0;have g1n:¬(0<=load.getD i.toNat default/\load.getD i.toNat default<=(s.lots.length:Int) - 1):=Q6V ‹inB (load.getD i.toNat default) 0 _=false›;have et:inB (load.getD i.toNat default) (QcR load i+1) ((s.lots.length:Int) - 1)=false:=Q8v (by omega);exact (GoE.endsT okF hJ Qab hg0 (Q2s B s load w i dJ0)
       ⟨⟨trivial,(by have t_:=rin (load.getD i.toNat default) (0) ((↑s.lots.length:Int) - 1);rw [q1] at t_;exact t_)⟩,hp0⟩).cast (by (rw [s2,et];rfl))
   ·have hp3:Qas (QoF B s load w i dJ0):=by
     exact ⟨(Qbj (Int.not_lt.1 q0)),trivial⟩
    by_cases q1:(w:Int)<=s.hold
    ·have s2:=QmG (things:=s.lots.length) (least:=QcR load i+1) (l:=load) (i:=i) (by omega);have s3:=Quc (s:=s) (l:=load) (i:=i) (by omega);exact (GoE.endsT okF hJ Qab hg0 (Q3J B s load w i dJ0)
      ⟨(Qcq q1),hp3⟩).cast (by (rw [s2,s3];simp_all;done))
    ·have s2:=QmG (things:=s.lots.length) (least:=QcR load i+1) (l:=load) (i:=i) (by omega);have s3:=Quc (s:=s) (l:=load) (i:=i) (by omega);exact (GoE.endsT okF hJ Qab hg0 (Q3Q B s load w i dJ0)
      ⟨(Qcn (Int.not_le.1 q1)),hp3⟩).cast (by (rw [s2,s3];simp_all;done))
set_option maxHeartbeats 4000000 in
theorem Q5U (s:Qaa) (load:List Int) (hs:Qa7 s=true) (hl:load.length<=10) {B:Lo} (hJ:∀w,B.has w->J0 w):EndsT YP B (Qae YP 56 54 (([.agg (Qap s).toArray,slI load]).map (Qal 0 4))) (.bool (Qel s.lots.length load 0 && decide (Q3b s load<=s.hold))):=by
 have hm:=Qbv hs;exact ((Q33 s load hs hl hJ _) (0) (0) rfl (by omega) (by omega) (by (simp [QcR];done))
  (GoE.start.landM okF hJ Qab (Q2c B s load)
  trivial (by kernel_rfl) (by kernel_rfl))).cast (by simp [QcR])
theorem Q7W (s:Qaa) (load:List Int) (hs:Qa7 s=true) (hl:load.length<=10):Qai YP J0 56 #[.agg (Qap s).toArray,slI load] (.bool (Qel s.lots.length load 0 && decide (Q3b s load<=s.hold))):=
 Qa5 (ts:=[.agg (Qap s).toArray,slI load]) Qbn (c0:=Qae YP 56 54 (([.agg (Qap s).toArray,slI load]).map (Qal 0 4))) (by kernel_rfl) (by kernel_rfl) fun B hJ=> Q5U s load hs hl hJ
theorem Q2w (B:Lo) (n:Int):QaF (Qah YP (Qau YP) J0 B 6 1 (Qae YP 52 5 (([.int .i64 n]).map (Qal 0 4))) H00 1
 [(2,Qaf.pure (.bool true) [])] 0 [] []) []=some (.bool true,
 [Qas []/\Qai YP J0 69 #[.int .i64 n,.int .i64 0,.int .i64 300] (.bool true)]):=by kernel_rfl
theorem Q2C (B:Lo) (n:Int):QaF (Qah YP (Qau YP) J0 B 6 1 (Qae YP 52 5 (([.int .i64 n]).map (Qal 0 4))) H00 1
 [(2,Qaf.pure (.bool false) [])] 0 [] []) []=some (.bool false,
 [Qas []/\Qai YP J0 69 #[.int .i64 n,.int .i64 0,.int .i64 300] (.bool false)]):=by kernel_rfl
set_option maxHeartbeats 4000000 in
theorem Q5f (n:Int)  {B:Lo} (hJ:∀w,B.has w->J0 w):EndsT YP B (Qae YP 52 5 (([.int .i64 n]).map (Qal 0 4))) (.bool (inB n 0 300)):=by
 cases q0:inB n 0 300 with
 | true=>
   exact (GoE.endsT okF hJ Qab GoE.start (Q2w B n)
    ⟨⟨trivial,(by have t_:=rin (n) (0) (300);rw [q0] at t_;exact t_)⟩,trivial⟩).cast (by rfl)
 | false=>
   exact (GoE.endsT okF hJ Qab GoE.start (Q2C B n)
    ⟨⟨trivial,(by have t_:=rin (n) (0) (300);rw [q0] at t_;exact t_)⟩,trivial⟩).cast (by rfl)
theorem Q6v (n:Int)  :Qai YP J0 52 #[.int .i64 n] (.bool (inB n 0 300)):=
 Qa5 (ts:=[.int .i64 n]) Qbn (c0:=Qae YP 52 5 (([.int .i64 n]).map (Qal 0 4))) (by kernel_rfl) (by kernel_rfl) fun B hJ=> Q5f n  hJ
end
end Go.Proofs.YtiabgkiccaodmaaGreat

namespace Go.Proofs.YtiabgkiccaodmaaGreat
open Go Go.CE Go.RowKit
set_option maxRecDepth 100000
def Qir (day:Int):List Int->Int->Bool
 | [],_=> false
 | g::l,s=> decide (s+g=day) || Qir day l (s+g)
end Go.Proofs.YtiabgkiccaodmaaGreat

namespace Go.Proofs.YtiabgkiccaodmaaGreat
open Go Go.CE Go.RowKit
theorem Qxx {a b c:Int} (h1:a<=b) (h2:b<=c):upI a c=upI a b++upI b c:=by
 obtain ⟨n,hn⟩:∃n:Nat,b=a+n:=⟨(b - a).toNat,by omega⟩
 subst hn;induction n generalizing a with
 | zero=> rw [QjT (a:=a) (b:=a+((0:Nat):Int)) (by omega),show a+((0:Nat):Int)=a by omega];rfl
 | succ n ih=>
   rw [Qfy (a:=a) (b:=c) (by omega),Qfy (a:=a) (b:=a+((n+1:Nat):Int)) (by omega),show a+((n+1:Nat):Int)=(a+1)+(n:Int) by omega,ih (by omega) (by omega)];rfl
theorem QhE {a b x:Int} (h:x∈upI a b):a<=x/\x < b:=by
 unfold upI at h;obtain ⟨k,hk,rfl⟩:=List.mem_map.1 h;have:=List.mem_range.1 hk;omega
theorem Qza {s x n:Int} (hs:0<=s) (hx:0<=x) (hn:0<=n):QkK (QpO s x) n=(QkK s n || decide (x=n)):=by
 rw [QoX,QoX];unfold QpO orN Qul;rw [Int.toNat_natCast,Int.toNat_natCast,Nat.testBit_or,Nat.testBit_two_pow];congr 1;exact decide_eq_decide.2 (by omega)
theorem Q7g {s n:Int}:0<=QpO s n:=Int.natCast_nonneg _
theorem Qrx {n:Int} (hn:0<=n):∀(l:List Int) (s:Int),(∀x∈l,0<=x)->0<=s->QkK (QaW l s) n=(QkK s n || l.contains n)
 | [],s,_,_=> by simp [QaW]
 | x::l,s,h,hs=> by
   rw [QaW,Qrx hn l (QpO s x) (fun y hy=> h y (by simp [hy])) Q7g,Qza hs (h x (by simp)) hn,List.contains_cons,Bool.or_assoc];congr 1;congr 1;by_cases e:x=n
   ·subst e;simp
   ·rw [decide_eq_false e];symm;exact beq_eq_false_iff_ne.2 (Ne.symm e)
theorem Q0E {n:Int}:QkK 0 n=false:=by rw [QoX];simp
theorem Q3o {s n:Int} (h0:0<=s) (hn:Qc5 s<=n):QkK s n=false:=by
 rw [QoX];refine Nat.testBit_lt_two_pow ?_;unfold Qc5 at hn;by_cases hs:s=0
 ·subst hs;exact Nat.two_pow_pos _
 ·rw [if_neg hs] at hn;have hb:s.toNat≠0:=by omega
  have:s.toNat < 2 ^ (s.toNat.log2+1):=Nat.lt_log2_self;exact Nat.lt_of_lt_of_le this (Nat.pow_le_pow_right (by decide) (by omega))
theorem QpH {things:Int}:∀{l:List Int} {least:Int},Qel things l least=true->∀x∈l,least<=x/\x < things
 | [],_,_,x,hx=> by simp at hx
 | n::l,least,h,x,hx=> by
   simp only [Qel,YB,Qa4] at h;rcases List.mem_cons.1 hx with rfl | hx
   ·omega
   ·have:=QpH h.2 x hx;omega
theorem Qtw {things:Int}:∀(m:Nat) (l:List Int) (least:Int),(things - least).toNat=m->Qel things l least=true->(upI least things).filter (fun n=> l.contains n)=l:=by
 intro m;induction m with
 | zero=>
   intro l least hm h;rw [QjT (by omega)];cases l with
   | nil=> rfl
   | cons x l=> have:=QpH h x (by simp);omega
 | succ m ih=>
   intro l least hm h;cases l with
   | nil=> simp
   | cons x l=>
     have hx:=QpH h x (by simp);rw [Qfy (by omega)];by_cases e:least=x
     ·subst e;rw [List.filter_cons_of_pos (by simp)];simp only [Qel,YB] at h;congr 1;refine (List.filter_congr fun n hn=> ?_).trans (ih l (least+1) (by omega) h.2);have:=(QhE hn).1;rw [List.contains_cons,beq_eq_false_iff_ne.2 (by omega),Bool.false_or]
     ·have hne:(x::l).contains least=false:=by
       cases hc:(x::l).contains least with
       | false=> rfl
       | true=>
         have hm2:least∈x::l:=List.contains_iff_mem.1 hc;simp only [Qel,YB,Qa4] at h;rcases List.mem_cons.1 hm2 with rfl | hm2
         ·exact absurd rfl e
         ·have:=QpH h.2 least hm2;omega
      rw [List.filter_cons_of_neg (by rw [hne];decide)];refine ih (x::l) (least+1) (by omega) ?_;simp only [Qel,YB,Qa4] at h ⊢;exact ⟨by omega,h.2⟩
theorem Qy0 {α:Type} [Inhabited α] {xs:List α} {load:List Int} {things:Nat} (ht:things<=61) (h:Qel things load 0=true):Qay (QaW load 0) xs 0=load.map fun x=> xs.getD x.toNat default:=by
 have hin:=Qjv h (Int.le_refl 0);have hlt:=QjG ht load 0 hin (Int.le_refl 0) (Int.pow_pos (by decide));have hle:=QlY hlt.1 hlt.2;have h0:0<=Qc5 (QaW load 0):=by unfold Qc5;split <;> omega
 have e1:(upI 0 (Qc5 (QaW load 0))).filter (QkK (QaW load 0))=(upI 0 things).filter (QkK (QaW load 0)):=by
  rw [Qxx (a:=0) (b:=Qc5 (QaW load 0)) (c:=things) h0 hle,List.filter_append];have:(upI (Qc5 (QaW load 0)) things).filter (QkK (QaW load 0))=[]:=by
   rw [List.filter_eq_nil_iff];intro n hn;rw [Q3o hlt.1 (QhE hn).1];decide
  rw [this,List.append_nil]
 have e2:(upI 0 things).filter (QkK (QaW load 0))=load:=by
  refine (List.filter_congr fun n hn=> ?_).trans (Qtw _ load 0 rfl h);rw [Qrx (QhE hn).1 load 0 (fun x hx=> (hin x hx).1) (Int.le_refl 0),Q0E,Bool.false_or]
 unfold Qay;rw [e1,e2]
theorem Q4G {s:Qaa} {load:List Int} (hs:Qa7 s=true):(Qel s.lots.length load 0 && decide (Q3b s load<=s.hold))=Qcz s load:=by
 have hm:=Qbv hs;unfold Qcz QtQ Q3b;cases h:Qel s.lots.length load 0 with
 | false=> rfl
 | true=> rw [Qy0 (by omega) h,List.map_map];rfl
theorem Qq8 {days:Int}:∀(l:List Int) (day:Int) (bs:List Bool) (d:Int),(∀g∈l,0<=g)->0<=day->bs.length=days.toNat->0<=d->d < days->(Qgu days l day bs).getD d.toNat default=(bs.getD d.toNat default || Qir d l day)
 | [],day,bs,d,_,_,_,_,_=> by simp [Qgu,Qir]
 | g::l,day,bs,d,h,h0,hb,d0,d1=> by
   have hg:=h g (by simp);simp only [Qgu,Qir];rw [Qq8 l (day+g) _ d (fun x hx=> h x (by simp [hx])) (by omega) (by cases decide (day+g < days) <;> simp [hb]) d0 d1,<-Bool.or_assoc];congr 1;have hk:d.toNat < bs.length:=by omega
   by_cases e:day+g < days
   ·rw [decide_eq_true e,cond_true];simp only [List.getD_eq_getElem?_getD,List.getElem?_set];by_cases e2:day+g=d
    ·rw [if_pos (by omega),decide_eq_true e2,if_pos (by omega)];simp
    ·rw [if_neg (by omega),decide_eq_false e2,Bool.or_false]
   ·rw [decide_eq_false e,cond_false,decide_eq_false (by omega),Bool.or_false]
theorem QvK {days d:Int} {gaps:List Int} (h:∀g∈gaps,0<=g) (d0:0<=d) (d1:d < days):(QcL days gaps).getD d.toNat default=Qir d gaps 0:=by
 unfold QcL;rw [Qq8 gaps 0 _ d h (Int.le_refl 0) (by simp) d0 d1];have hk:d.toNat < days.toNat:=by omega
 simp [List.getD_eq_getElem?_getD,hk]
theorem Q5T {s:Qaa} {load days k:Int} {t:QaJ} (h0:0<=k) (h1:k < s.stock.length):(Qci s load days t).getD k.toNat default=Qs3 s load days t k:=by
 have hk:k.toNat < (upI 0 (s.stock.length:Int)).length:=by rw [Qcu];omega
 have e:=Qgo h0 h1;rw [List.getD_eq_getElem?_getD,List.getElem?_eq_getElem hk] at e;unfold Qci;rw [List.getD_eq_getElem?_getD,List.getElem?_map,List.getElem?_eq_getElem hk];simp only [Option.map_some,Option.getD_some] at e ⊢;rw [e]
theorem QhS {s:Qaa} {load days:Int} {t:QaJ}:(Qci s load days t).length=s.stock.length:=by simp [Qci,Qcu]
theorem QuQ {s:Qaa} {load days k:Int} {t:QaJ} {f:Gd->Int} (h0:0<=k) (h1:k < s.stock.length):((Qci s load days t).map f).getD k.toNat default=f (Qs3 s load days t k):=by
 have hk:k.toNat < (Qci s load days t).length:=by rw [QhS];omega
 have e:=Q5T (s:=s) (load:=load) (days:=days) (t:=t) h0 h1;rw [List.getD_eq_getElem?_getD,List.getElem?_eq_getElem hk] at e;rw [List.getD_eq_getElem?_getD,List.getElem?_map,List.getElem?_eq_getElem hk];simp only [Option.map_some,Option.getD_some] at e ⊢;rw [e]
end Go.Proofs.YtiabgkiccaodmaaGreat

namespace Go.Proofs.YtiabgkiccaodmaaGreat
open Go Go.CE Go.RowKit
noncomputable section
set_option maxRecDepth 100000
theorem Qzy (s:Qaa) (hb:∀l∈s.lots,l.goods.length<=8):Qai YP J0 44 #[.agg (Qap s).toArray] (.bool (Qa7 s)):=by
 have h:=Q7t s hb;rw [QxB] at h;exact h
theorem Q41 (s:Qaa) (load:List Int) (hs:Qa7 s=true) (hl:load.length<=10):Qai YP J0 56 #[.agg (Qap s).toArray,slI load] (.bool (Qcz s load)):=by
 have h:=Q7W s load hs hl;rw [Q4G hs] at h;exact h
def Qhx (s:Qaa):Array Value:=#[slT s.stock.length (Qad Qav s.stock),slT s.use.length (Qad Qaz s.use),.int .i64 s.glo,.int .i64 s.ghi,slT s.lots.length (Qad Qam s.lots),.int .i64 s.hold]
def QjD (B:Lo) (s:Qaa) (load:List Int) (days:Int):List Prop:=[Qas []/\Qai YP J0 44 #[.agg (Qhx s)] (.bool true)]++([]:List Prop)
def QnJ (s:Qaa) (load:List Int) (days:Int):Qan:=[(3,Qaf.pure (.bool true) [])]
def Qjn (B:Lo) (s:Qaa) (load:List Int) (days:Int):List Prop:=[Qas []/\Qai YP J0 56 #[.agg (Qhx s),slT load.length (Qad Qav load)] (.bool true)]++QjD B s load days
def Qoc (s:Qaa) (load:List Int) (days:Int):Qan:=QnJ s load days++[(7,Qaf.pure (.bool true) [])]
theorem Qxa (B:Lo) (s:Qaa) (load:List Int) (days:Int):QaF (Qah YP (Qau YP) J0 B 6 1 (Qae YP 39 18 (([.agg (Qap s).toArray,slI load,.int .i64 days]).map (Qal 0 4))) H00 1
 (Qoc s load days++[(11,Qaf.pure (.bool true) [])]) 0 [] []) []=some (.bool true,
 [Qas []/\Qai YP J0 52 #[.int .i64 days] (.bool true)]++Qjn B s load days):=by kernel_rfl
theorem Qwn (B:Lo) (s:Qaa) (load:List Int) (days:Int):QaF (Qah YP (Qau YP) J0 B 6 1 (Qae YP 39 18 (([.agg (Qap s).toArray,slI load,.int .i64 days]).map (Qal 0 4))) H00 1
 (Qoc s load days++[(11,Qaf.pure (.bool false) [])]) 0 [] []) []=some (.bool false,
 [Qas []/\Qai YP J0 52 #[.int .i64 days] (.bool false)]++Qjn B s load days):=by kernel_rfl
theorem Qvk (B:Lo) (s:Qaa) (load:List Int) (days:Int):QaF (Qah YP (Qau YP) J0 B 6 1 (Qae YP 39 18 (([.agg (Qap s).toArray,slI load,.int .i64 days]).map (Qal 0 4))) H00 1
 (QnJ s load days++[(7,Qaf.pure (.bool false) [])]) 0 [] []) []=some (.bool false,
 [Qas []/\Qai YP J0 56 #[.agg (Qhx s),slT load.length (Qad Qav load)] (.bool false)]++QjD B s load days):=by kernel_rfl
theorem QvW (B:Lo) (s:Qaa) (load:List Int) (days:Int):QaF (Qah YP (Qau YP) J0 B 6 1 (Qae YP 39 18 (([.agg (Qap s).toArray,slI load,.int .i64 days]).map (Qal 0 4))) H00 1
 [(3,Qaf.pure (.bool false) [])] 0 [] []) []=some (.bool false,
 [Qas []/\Qai YP J0 44 #[.agg (Qhx s)] (.bool false)]):=by kernel_rfl
set_option maxHeartbeats 4000000 in
theorem QyG (s:Qaa) (load:List Int) (days:Int) (hb:∀l∈s.lots,l.goods.length<=8) (hl:load.length<=10) {B:Lo} (hJ:∀w,B.has w->J0 w):EndsT YP B (Qae YP 39 18 (([.agg (Qap s).toArray,slI load,.int .i64 days]).map (Qal 0 4))) (.bool (Qa7 s && (Qcz s load && inB days 0 300))):=by
 cases q0:Qa7 s with
 | true=>
   have hp0:Qas (QjD B s load days):=by
    exact ⟨⟨trivial,(by have t_:=Qzy (s) (by with_reducible assumption);rw [q0] at t_;exact t_)⟩,trivial⟩
   cases q1:Qcz s load with
   | true=>
     have hp1:Qas (Qjn B s load days):=by
      exact ⟨⟨trivial,(by have t_:=Q41 (s) (load) (by with_reducible assumption) (by with_reducible assumption);rw [q1] at t_;exact t_)⟩,hp0⟩
     cases q2:inB days 0 300 with
     | true=>
       exact (GoE.endsT okF hJ Qab GoE.start (Qxa B s load days)
        ⟨⟨trivial,(by have t_:=Q6v (days);rw [q2] at t_;exact t_)⟩,hp1⟩).cast (by rfl)
     | false=>
       exact (GoE.endsT okF hJ Qab GoE.start (Qwn B s load days)
        ⟨⟨trivial,(by have t_:=Q6v (days);rw [q2] at t_;exact t_)⟩,hp1⟩).cast (by rfl)
   | false=>
     exact (GoE.endsT okF hJ Qab GoE.start (Qvk B s load days)
      ⟨⟨trivial,(by have t_:=Q41 (s) (load) (by with_reducible assumption) (by with_reducible assumption);rw [q1] at t_;exact t_)⟩,hp0⟩).cast (by rfl)
 | false=>
   exact (GoE.endsT okF hJ Qab GoE.start (QvW B s load days)
    ⟨⟨trivial,(by have t_:=Qzy (s) (by with_reducible assumption);rw [q0] at t_;exact t_)⟩,trivial⟩).cast (by rfl)
theorem Qo3 (s:Qaa) (load:List Int) (days:Int) (hb:∀l∈s.lots,l.goods.length<=8) (hl:load.length<=10):Qai YP J0 39 #[.agg (Qap s).toArray,slI load,.int .i64 days] (.bool (Qa7 s && (Qcz s load && inB days 0 300))):=
 Qa5 (ts:=[.agg (Qap s).toArray,slI load,.int .i64 days]) Qbn (c0:=Qae YP 39 18 (([.agg (Qap s).toArray,slI load,.int .i64 days]).map (Qal 0 4))) (by kernel_rfl) (by kernel_rfl) fun B hJ=> QyG s load days hb hl hJ
def QdZ (s:Qaa):Bool:=((s.lots.take 12).all fun l=> decide (l.goods.length<=8)) && (decide (s.stock.length<=8) && (decide (s.use.length<=8) && decide (s.lots.length<=9)))
theorem Qbm {s:Qaa} (h:QdZ s=true):∀l∈s.lots,l.goods.length<=8:=by
 simp only [QdZ,YB,decide_eq_true_iff,List.all_eq_true] at h;intro l hl;refine h.1 l ?_;rw [List.take_of_length_le (by omega)];exact hl
theorem QzT (s:Qaa):Qai YP J0 36 #[.agg (Qap s).toArray] (.bool (QdZ s)):=Q6K s
end
end Go.Proofs.YtiabgkiccaodmaaGreat

namespace Go.Proofs.YtiabgkiccaodmaaGreat
open Go Go.CE Go.RowKit
def Q6t:Sh:=shS [.slice Qow,.int,.int]
def QmT:Sh:=shS [.slice .int,.slice Qow,Qow,.slice Q6t,.int]
theorem Q4M {cs:List Value} (h:Q6t.ok cs):∃l:Qak,cs=Qam l:=by
 obtain ⟨_,_,rfl,h1,_,_,rfl,⟨a,_,rfl⟩,_,_,rfl,⟨b,_,rfl⟩,rfl⟩:=h;obtain ⟨ss,rfl⟩:=Qgd (fun _=> Qi4) h1;exact ⟨⟨ss,a,b⟩,rfl⟩
theorem Qzz {v:Value} (h:QmT.arg v):∃s:Qaa,v=.agg (Qap s).toArray:=by
 obtain ⟨cs,rfl,h⟩:=h;obtain ⟨_,_,rfl,h1,_,_,rfl,h2,_,_,rfl,h3,_,_,rfl,h4,_,_,rfl,⟨f,_,rfl⟩,rfl⟩:=h;obtain ⟨xs,rfl⟩:=Qgd (fun _=> Q0F) h1;obtain ⟨us,rfl⟩:=Qgd (fun _=> Qi4) h2;obtain ⟨g,rfl⟩:=Qi4 h3;obtain ⟨ls,rfl⟩:=Qgd (fun _=> Q4M) h4;exact ⟨⟨xs,us,g.lo,g.hi,ls,f⟩,rfl⟩
theorem Q3l {v:Value} (h:Sh.arg (.slice .int) v):∃xs:List Int,v=slI xs:=by
 obtain ⟨xs,hx⟩:=Qgd (fun _=> Q0F) (show Sh.ok (.slice .int) [v] from h);exact ⟨xs,by simpa using hx⟩
end Go.Proofs.YtiabgkiccaodmaaGreat

namespace Go.Proofs.YtiabgkiccaodmaaGreat
open Go Go.CE Go.RowKit
noncomputable section
set_option maxRecDepth 100000
def QfP (xs:List Span) (i:Int) (ys:List Int):List Value:=[Value.func (Fn.func 103) #[] #[],.slice (some {block:=2,off:=0}) xs.length 1,Qat 1 (slT xs.length (Qad Qaz xs)),.int .i64 (↑xs.length:Int),.int .i64 i]
def Qd5 (xs:List Span) (i:Int) (ys:List Int):List Obj:=[.cells (Qad Qav ys) 3 (0,0)]
def QfL:List Item:=([.code [1,1,0,1,0,0],.inLoop [1,1,0,1,0,0],.inBlock 0,.code [1,1,1]]).map (it (Qaq YP 160))
def QvP (B:Lo) (c0:CF) (xs:List Span) (i:Int) (ys:List Int):Prop:=∃dJ:Nat->Value,(∀t,Qbg (dJ t))/\GoE YP B c0 H00 1 (Qa3 160 26 (([1,5,11,12,13]:List Nat).zip (QfP xs i ys)) dJ QfL) (Qa1 (Qd5 xs i ys)) (2+(Qd5 xs i ys).length) []
def QjB (xs:List Span) (i:Int):Array Value:=#[.int .i64 (Span.lo (xs.getD i.toNat default)),.int .i64 (Span.hi (xs.getD i.toNat default))]
theorem QwP (B:Lo) (xs:List Span) (i:Int) (ys:List Int) (dJ0:Nat->Value):landM (Qah YP (Qau YP) J0 B 13 1 (Qa3 160 26 (([1,5,11,12,13]:List Nat).zip (QfP xs i ys)) dJ0 QfL) (Qa1 (Qd5 xs i ys)) (2+(Qd5 xs i ys).length)
 [(0,hvT),(2,Qaf.tidx i.toNat (QjB xs i)),(11,Qaf.pure (.int .i64 (Span.hi (xs.getD i.toNat default))) []),(12,Qaf.old (Hint.idx i.toNat)),(13,Qaf.old (Hint.st (Qad Qav (List.set ys i.toNat (Span.hi (xs.getD i.toNat default)))))),(14,hvI (i+1))] 0 [] []) [1,5,11,12,13] [(2,KS.cells [] (Qad Qav (List.set ys i.toNat (Span.hi (xs.getD i.toNat default)))))] []=some ⟨160,26,QfL,[],.run,none,QfP xs (i+1) (List.set ys i.toNat (Span.hi (xs.getD i.toNat default))),Qd5 xs (i+1) (List.set ys i.toNat (Span.hi (xs.getD i.toNat default))),
 [Qdd 1 [] (Qad Qav (List.set ys i.toNat (Span.hi (xs.getD i.toNat default)))) (Qad Qav (List.set ys i.toNat (Span.hi (xs.getD i.toNat default)))),wq (i+1)=i+1,0+Int.toNat i * 1+TypeInfo.size Tryz.t3<=Array.size (Qad Qav ys)/\splice (Qad Qav ys) (0+Int.toNat i * 1) (Value.cells (QbV {len:=16000,tr:=Tri.set 14 (Tri.set 14 Tri.lf 22 (.int .i64 (Span.hi (xs.getD i.toNat default)))) 23 (.pointer (some {block:=2,off:=0+Int.toNat i * 1}))} 22))=Qad Qav (List.set ys i.toNat (Span.hi (xs.getD i.toNat default))),i=(↑i.toNat:Int)/\Int.toNat i < List.length xs,Qas []/\Qai YP J0 103 #[.agg (QjB xs i)] (.int .i64 (Span.hi (xs.getD i.toNat default))),i=(↑i.toNat:Int)/\Int.toNat i < List.length xs/\Array.extract (Qad Qaz xs) (Int.toNat i * TypeInfo.size Tryz.t25) (Int.toNat i * TypeInfo.size Tryz.t25+TypeInfo.size Tryz.t25)=(QjB xs i),ltq i (↑xs.length:Int)=true]⟩:=by kernel_rfl
theorem Qxl (B:Lo) (xs:List Span) (i:Int) (ys:List Int) (dJ0:Nat->Value):QaF (Qah YP (Qau YP) J0 B 9 1 (Qa3 160 26 (([1,5,11,12,13]:List Nat).zip (QfP xs i ys)) dJ0 QfL) (Qa1 (Qd5 xs i ys)) (2+(Qd5 xs i ys).length)
 [(0,hvF)] 0 [] []) [{k:=2,rs:=[],cs:=Qad Qav ys}]=some (slT xs.length (Fz.cs {k:=2,rs:=[],cs:=Qad Qav ys}),
 [Qbl (Fz.rs {k:=2,rs:=[],cs:=Qad Qav ys}) (Qad Qav ys) (Fz.cs {k:=2,rs:=[],cs:=Qad Qav ys}),ltq i (↑xs.length:Int)=false]):=by kernel_rfl
theorem Qv2 (B:Lo) (xs:List Span):landM (Qah YP (Qau YP) J0 B 9 1 (Qae YP 160 26 (([Qol xs,.func (.func 103) #[] #[]]).map (Qal 0 4))) H00 1
 [(3,Qaf.old (Hint.mk xs.length (Qad (QbL [.int .i64 0]) (List.replicate xs.length ()))))] 0 [] []) [1,5,11,12,13] [(1,KS.rows [] [] (Qad Qav (List.replicate xs.length 0)))] []=some ⟨160,26,QfL,[],.run,none,QfP xs (0) (List.replicate xs.length 0),Qd5 xs (0) (List.replicate xs.length 0),
 [Qbu 1 [] [] (Qad (QbL [.int .i64 0]) (List.replicate xs.length ())) (Qad Qav (List.replicate xs.length 0)),Qgh YP 22 (QbV {len:=16000,tr:=Tri.set 14 Tri.lf 9 (.int .i64 (↑xs.length:Int))} 9) (QbV {len:=16000,tr:=Tri.set 14 Tri.lf 9 (.int .i64 (↑xs.length:Int))} 9)=some (3,Qad (QbL [.int .i64 0]) (List.replicate xs.length ()),List.length xs,TypeInfo.size Tryz.t3)]⟩:=by kernel_rfl
set_option maxHeartbeats 4000000 in
theorem Qvx (xs:List Span) (hn:xs.length<=1000000) {B:Lo} (hJ:∀w,B.has w->J0 w) {c0:CF}:∀m:Nat,(∀(i:Int) (ys:List Int),(xs.length - i.toNat)=m->∀(h0:0<=i) (hy:ys=Qgx Span.hi 0 xs i),QvP B c0 xs i ys->EndsT YP B c0 (slI (xs.map Span.hi))):=by
 intro m0;induction m0 using Nat.strongRecOn with
 | _ m0 ih0=>
   intro i ys hm0 h0 hy ⟨dJ0,hdJ0,hg0⟩;have hyl:ys.length=xs.length:=by rw [hy];exact QdQ
   by_cases q0:(i:Int) < ((↑xs.length:Int))
   ·exact ((ih0 _ (by omega)) (i+1) (List.set ys i.toNat (Span.hi (xs.getD i.toNat default))) rfl (by omega) (by (subst hy;exact QdM (f:=Span.hi) h0 q0))
     (hg0.landM okF hJ Qab (QwP B xs i ys dJ0)
     ⟨(QaO (QaT (fun x=> List.all_eq_true.1 (by rfl)))),⟨(QaR (by omega) (by omega)),⟨(by exact Qfr (z:=1) (fun _=> rfl) (by omega) rfl rfl),⟨⟨by omega,by omega⟩,⟨⟨trivial,Q5V (Span.lo (xs.getD i.toNat default)) (Span.hi (xs.getD i.toNat default))⟩,⟨⟨by omega,by omega,(Qao (z:=2) (fun _=> rfl) (by omega))⟩,⟨(Qbq q0),trivial⟩⟩⟩⟩⟩⟩⟩ (by kernel_rfl) (by kernel_rfl))).cast (by rfl)
   ·exact (GoE.endsT okF hJ Qab hg0 (Qxl B xs i ys dJ0)
     ⟨(QaC (fun x=> List.all_eq_true.1 (by rfl))),⟨(Qbj (Int.not_lt.1 q0)),trivial⟩⟩).cast (by exact Qf7 (hy.trans (QdS (by omega))) (by simp))
set_option maxHeartbeats 4000000 in
theorem Q1s (xs:List Span) (hn:xs.length<=1000000) {B:Lo} (hJ:∀w,B.has w->J0 w):EndsT YP B (Qae YP 160 26 (([Qol xs,.func (.func 103) #[] #[]]).map (Qal 0 4))) (slI (xs.map Span.hi)):=by
 exact ((Qvx xs hn hJ _) (0) (List.replicate xs.length 0) rfl (by omega) (by exact Qgj)
  (GoE.start.landM okF hJ Qab (Qv2 B xs)
  ⟨(by exact (QbQ (by exact ⟨(.simple rfl),trivial⟩) _)),⟨(Qgs (bytes:=8) (by kernel_rfl) (by omega) (by omega) (by omega)),trivial⟩⟩ (by kernel_rfl) (by kernel_rfl))).cast (by rfl)
theorem Q1W (xs:List Span) (hn:xs.length<=1000000):Qai YP J0 160 #[Qol xs,.func (.func 103) #[] #[]] (slI (xs.map Span.hi)):=
 Qa5 (ts:=[Qol xs,.func (.func 103) #[] #[]]) Qbn (c0:=Qae YP 160 26 (([Qol xs,.func (.func 103) #[] #[]]).map (Qal 0 4))) (by kernel_rfl) (by kernel_rfl) fun B hJ=> Q1s xs hn hJ
def QfV (xs:List Span) (i:Int) (ys:List Int):List Value:=[Value.func (Fn.func 104) #[] #[],.slice (some {block:=2,off:=0}) xs.length 1,Qat 1 (slT xs.length (Qad Qaz xs)),.int .i64 (↑xs.length:Int),.int .i64 i]
def Qd6 (xs:List Span) (i:Int) (ys:List Int):List Obj:=[.cells (Qad Qav ys) 3 (0,0)]
def QfG:List Item:=([.code [1,1,0,1,0,0],.inLoop [1,1,0,1,0,0],.inBlock 0,.code [1,1,1]]).map (it (Qaq YP 160))
def Qw7 (B:Lo) (c0:CF) (xs:List Span) (i:Int) (ys:List Int):Prop:=∃dJ:Nat->Value,(∀t,Qbg (dJ t))/\GoE YP B c0 H00 1 (Qa3 160 26 (([1,5,11,12,13]:List Nat).zip (QfV xs i ys)) dJ QfG) (Qa1 (Qd6 xs i ys)) (2+(Qd6 xs i ys).length) []
def Qjt (xs:List Span) (i:Int):Array Value:=#[.int .i64 (Span.lo (xs.getD i.toNat default)),.int .i64 (Span.hi (xs.getD i.toNat default))]
theorem Qvv (B:Lo) (xs:List Span) (i:Int) (ys:List Int) (dJ0:Nat->Value):landM (Qah YP (Qau YP) J0 B 13 1 (Qa3 160 26 (([1,5,11,12,13]:List Nat).zip (QfV xs i ys)) dJ0 QfG) (Qa1 (Qd6 xs i ys)) (2+(Qd6 xs i ys).length)
 [(0,hvT),(2,Qaf.tidx i.toNat (Qjt xs i)),(11,Qaf.pure (.int .i64 (Span.lo (xs.getD i.toNat default))) []),(12,Qaf.old (Hint.idx i.toNat)),(13,Qaf.old (Hint.st (Qad Qav (List.set ys i.toNat (Span.lo (xs.getD i.toNat default)))))),(14,hvI (i+1))] 0 [] []) [1,5,11,12,13] [(2,KS.cells [] (Qad Qav (List.set ys i.toNat (Span.lo (xs.getD i.toNat default)))))] []=some ⟨160,26,QfG,[],.run,none,QfV xs (i+1) (List.set ys i.toNat (Span.lo (xs.getD i.toNat default))),Qd6 xs (i+1) (List.set ys i.toNat (Span.lo (xs.getD i.toNat default))),
 [Qdd 1 [] (Qad Qav (List.set ys i.toNat (Span.lo (xs.getD i.toNat default)))) (Qad Qav (List.set ys i.toNat (Span.lo (xs.getD i.toNat default)))),wq (i+1)=i+1,0+Int.toNat i * 1+TypeInfo.size Tryz.t3<=Array.size (Qad Qav ys)/\splice (Qad Qav ys) (0+Int.toNat i * 1) (Value.cells (QbV {len:=16000,tr:=Tri.set 14 (Tri.set 14 Tri.lf 22 (.int .i64 (Span.lo (xs.getD i.toNat default)))) 23 (.pointer (some {block:=2,off:=0+Int.toNat i * 1}))} 22))=Qad Qav (List.set ys i.toNat (Span.lo (xs.getD i.toNat default))),i=(↑i.toNat:Int)/\Int.toNat i < List.length xs,Qas []/\Qai YP J0 104 #[.agg (Qjt xs i)] (.int .i64 (Span.lo (xs.getD i.toNat default))),i=(↑i.toNat:Int)/\Int.toNat i < List.length xs/\Array.extract (Qad Qaz xs) (Int.toNat i * TypeInfo.size Tryz.t25) (Int.toNat i * TypeInfo.size Tryz.t25+TypeInfo.size Tryz.t25)=(Qjt xs i),ltq i (↑xs.length:Int)=true]⟩:=by kernel_rfl
theorem QwL (B:Lo) (xs:List Span) (i:Int) (ys:List Int) (dJ0:Nat->Value):QaF (Qah YP (Qau YP) J0 B 9 1 (Qa3 160 26 (([1,5,11,12,13]:List Nat).zip (QfV xs i ys)) dJ0 QfG) (Qa1 (Qd6 xs i ys)) (2+(Qd6 xs i ys).length)
 [(0,hvF)] 0 [] []) [{k:=2,rs:=[],cs:=Qad Qav ys}]=some (slT xs.length (Fz.cs {k:=2,rs:=[],cs:=Qad Qav ys}),
 [Qbl (Fz.rs {k:=2,rs:=[],cs:=Qad Qav ys}) (Qad Qav ys) (Fz.cs {k:=2,rs:=[],cs:=Qad Qav ys}),ltq i (↑xs.length:Int)=false]):=by kernel_rfl
theorem QvY (B:Lo) (xs:List Span):landM (Qah YP (Qau YP) J0 B 9 1 (Qae YP 160 26 (([Qol xs,.func (.func 104) #[] #[]]).map (Qal 0 4))) H00 1
 [(3,Qaf.old (Hint.mk xs.length (Qad (QbL [.int .i64 0]) (List.replicate xs.length ()))))] 0 [] []) [1,5,11,12,13] [(1,KS.rows [] [] (Qad Qav (List.replicate xs.length 0)))] []=some ⟨160,26,QfG,[],.run,none,QfV xs (0) (List.replicate xs.length 0),Qd6 xs (0) (List.replicate xs.length 0),
 [Qbu 1 [] [] (Qad (QbL [.int .i64 0]) (List.replicate xs.length ())) (Qad Qav (List.replicate xs.length 0)),Qgh YP 22 (QbV {len:=16000,tr:=Tri.set 14 Tri.lf 9 (.int .i64 (↑xs.length:Int))} 9) (QbV {len:=16000,tr:=Tri.set 14 Tri.lf 9 (.int .i64 (↑xs.length:Int))} 9)=some (3,Qad (QbL [.int .i64 0]) (List.replicate xs.length ()),List.length xs,TypeInfo.size Tryz.t3)]⟩:=by kernel_rfl
set_option maxHeartbeats 4000000 in
theorem Qxt (xs:List Span) (hn:xs.length<=1000000) {B:Lo} (hJ:∀w,B.has w->J0 w) {c0:CF}:∀m:Nat,(∀(i:Int) (ys:List Int),(xs.length - i.toNat)=m->∀(h0:0<=i) (hy:ys=Qgx Span.lo 0 xs i),Qw7 B c0 xs i ys->EndsT YP B c0 (slI (xs.map Span.lo))):=by
 intro m0;induction m0 using Nat.strongRecOn with
 | _ m0 ih0=>
   intro i ys hm0 h0 hy ⟨dJ0,hdJ0,hg0⟩;have hyl:ys.length=xs.length:=by rw [hy];exact QdQ
   by_cases q0:(i:Int) < ((↑xs.length:Int))
   ·exact ((ih0 _ (by omega)) (i+1) (List.set ys i.toNat (Span.lo (xs.getD i.toNat default))) rfl (by omega) (by (subst hy;exact QdM (f:=Span.lo) h0 q0))
     (hg0.landM okF hJ Qab (Qvv B xs i ys dJ0)
     ⟨(QaO (QaT (fun x=> List.all_eq_true.1 (by rfl)))),⟨(QaR (by omega) (by omega)),⟨(by exact Qfr (z:=1) (fun _=> rfl) (by omega) rfl rfl),⟨⟨by omega,by omega⟩,⟨⟨trivial,Q7K (Span.lo (xs.getD i.toNat default)) (Span.hi (xs.getD i.toNat default))⟩,⟨⟨by omega,by omega,(Qao (z:=2) (fun _=> rfl) (by omega))⟩,⟨(Qbq q0),trivial⟩⟩⟩⟩⟩⟩⟩ (by kernel_rfl) (by kernel_rfl))).cast (by rfl)
   ·exact (GoE.endsT okF hJ Qab hg0 (QwL B xs i ys dJ0)
     ⟨(QaC (fun x=> List.all_eq_true.1 (by rfl))),⟨(Qbj (Int.not_lt.1 q0)),trivial⟩⟩).cast (by exact Qf7 (hy.trans (QdS (by omega))) (by simp))
set_option maxHeartbeats 4000000 in
theorem QzP (xs:List Span) (hn:xs.length<=1000000) {B:Lo} (hJ:∀w,B.has w->J0 w):EndsT YP B (Qae YP 160 26 (([Qol xs,.func (.func 104) #[] #[]]).map (Qal 0 4))) (slI (xs.map Span.lo)):=by
 exact ((Qxt xs hn hJ _) (0) (List.replicate xs.length 0) rfl (by omega) (by exact Qgj)
  (GoE.start.landM okF hJ Qab (QvY B xs)
  ⟨(by exact (QbQ (by exact ⟨(.simple rfl),trivial⟩) _)),⟨(Qgs (bytes:=8) (by kernel_rfl) (by omega) (by omega) (by omega)),trivial⟩⟩ (by kernel_rfl) (by kernel_rfl))).cast (by rfl)
theorem QyW (xs:List Span) (hn:xs.length<=1000000):Qai YP J0 160 #[Qol xs,.func (.func 104) #[] #[]] (slI (xs.map Span.lo)):=
 Qa5 (ts:=[Qol xs,.func (.func 104) #[] #[]]) Qbn (c0:=Qae YP 160 26 (([Qol xs,.func (.func 104) #[] #[]]).map (Qal 0 4))) (by kernel_rfl) (by kernel_rfl) fun B hJ=> QzP xs hn hJ
theorem Qvw (B:Lo) (n d:Int):QaF (Qah YP (Qau YP) J0 B 6 1 (Qae YP 132 11 (([.int .i64 n,.int .i64 d]).map (Qal 0 4))) H00 1
 [(3,hvI (n+d)),(4,hvI (n+d - 1)),(6,Qaf.bin (.int .i64 (Int.tdiv (n+d - 1) d)))] 0 [] []) []=some (.int .i64 (Int.tdiv (n+d - 1) d),
 [Qi6 YP BinOp.quo 3 (QbV {len:=16000,tr:=Tri.set 14 (Tri.set 14 Tri.lf 9 (.int .i64 d)) 8 (.int .i64 (n+d - 1))} 8) (QbV {len:=16000,tr:=Tri.set 14 (Tri.set 14 Tri.lf 9 (.int .i64 d)) 8 (.int .i64 (n+d - 1))} 9) (.int .i64 (Int.tdiv (n+d - 1) d)),wq (n+d - 1)=n+d - 1,wq (n+d)=n+d]):=by kernel_rfl
set_option maxHeartbeats 4000000 in
theorem QxT (n d:Int) (hn:0<=n/\n<=2000000) (hd:1<=d/\d<=1000) {B:Lo} (hJ:∀w,B.has w->J0 w):EndsT YP B (Qae YP 132 11 (([.int .i64 n,.int .i64 d]).map (Qal 0 4))) (.int .i64 ((n+d - 1).tdiv d)):=by
 have e1:(n+d - 1).tdiv d=(n+d - 1) / d:=Int.tdiv_eq_ediv_of_nonneg (by omega);have e2:(n+d - 1) / d<=n+d - 1:=Int.ediv_le_self _ (by omega);have e3:0<=(n+d - 1) / d:=Int.ediv_nonneg (by omega) (by omega);exact (GoE.endsT okF hJ Qab GoE.start (Qvw B n d)
  ⟨(Q4Y (by omega) rfl (by omega) (by omega)),⟨(QaR (by omega) (by omega)),⟨(QaR (by omega) (by omega)),trivial⟩⟩⟩).cast (by rfl)
theorem Qyq (n d:Int) (hn:0<=n/\n<=2000000) (hd:1<=d/\d<=1000):Qai YP J0 132 #[.int .i64 n,.int .i64 d] (.int .i64 ((n+d - 1).tdiv d)):=
 Qa5 (ts:=[.int .i64 n,.int .i64 d]) Qbn (c0:=Qae YP 132 11 (([.int .i64 n,.int .i64 d]).map (Qal 0 4))) (by kernel_rfl) (by kernel_rfl) fun B hJ=> QxT n d hn hd hJ
end
end Go.Proofs.YtiabgkiccaodmaaGreat

namespace Go.CE
open Go Go.RowKit

section
variable {P:Program} {F:FuncId->Bool} {T:Tm} {o:Oper} {H:Qar} {n:Nat}
theorem QnN {t e:TypeId} {x lo:Operand} {b off m s z:Nat} {k:IntKind} {l:Int} (ho:o.op=.slice t x (some lo) none none) (hx:evC T x=some (.slice (some ⟨b,off,none⟩) m s)) (hl:evC T lo=some (.int k l)) (hu:und P t=some (.slice e)) (hz:Qfv P e=some (z+1)) (h1:0 < l) (h2:l < m):
 opS P F Qb3 (fun _ _ _=> none) T o H n=some ⟨.ret (.slice (some ⟨b,off+l.toNat * (z+1),none⟩) (m - l.toNat) 0),H,n,[],[]⟩:=by
 have e1:Q2a m (some (.int k l)) none=some (l.toNat,m):=by
  simp only [Q2a,bnd,decide_eq_true (show (0:Int)<=l by omega),decide_eq_true (show l<=(m:Int) by omega),Bool.and_self,cond_true]
 have e2:Nat.beq l.toNat 0=false:=by cases h:Nat.beq l.toNat 0 with
  | false=> rfl
  | true=> have:=YE h;omega
 have e3:Nat.blt l.toNat m=true:=Nat.ble_eq_true_of_le (show l.toNat+1<=m by omega);have e4:QhA P t (.slice (some ⟨b,off,none⟩) m s) (some (.int k l)) none=some (.slice (some ⟨b,off+l.toNat * (z+1),none⟩) (m - l.toNat) 0):=by
  simp only [QhA,hu,hz,e1,e2,e3,cond_true,cond_false]
 have e5:Qng P F (evC T) o H n=some ⟨.val (.slice (some ⟨b,off+l.toNat * (z+1),none⟩) (m - l.toNat) 0),H,n,[],[]⟩:=by
  unfold Qng cop;simp only [ho,hx,evo,hl,e4,mkPure,Option.map_some,List.all_nil,cond_true]
 unfold opS;simp only [ho,e5]
theorem QnR {t e:TypeId} {x hi:Operand} {b off m s z:Nat} {k:IntKind} {l:Int} (ho:o.op=.slice t x none (some hi) none) (hx:evC T x=some (.slice (some ⟨b,off,none⟩) m s)) (hl:evC T hi=some (.int k l)) (hu:und P t=some (.slice e)) (hz:Qfv P e=some (z+1)) (h1:0<=l) (h2:l<=m):
 opS P F Qb3 (fun _ _ _=> none) T o H n=some ⟨.ret (.slice (some ⟨b,off,none⟩) l.toNat s),H,n,[],[]⟩:=by
 have e1:Q2a m none (some (.int k l))=some (0,l.toNat):=by
  simp only [Q2a,bnd,decide_eq_true h1,decide_eq_true h2,Bool.and_self,cond_true]
 have e4:QhA P t (.slice (some ⟨b,off,none⟩) m s) none (some (.int k l))=some (.slice (some ⟨b,off,none⟩) l.toNat s):=by
  simp only [QhA,hu,hz,e1,show Nat.beq 0 0=true from rfl,cond_true]
 have e5:Qng P F (evC T) o H n=some ⟨.val (.slice (some ⟨b,off,none⟩) l.toNat s),H,n,[],[]⟩:=by
  unfold Qng cop;simp only [ho,hx,evo,hl,e4,mkPure,Option.map_some,List.all_nil,cond_true]
 unfold opS;simp only [ho,e5]
theorem Qo6 {c:Call} {s x:Operand} {t t2 e te:TypeId} {b off k s1 b2 off2 m s2 z q:Nat} {cs cs2 cs':Array Value} {te2:TypeId} {f2:Nat×Nat} {H':Qar} (ho:o.op=.call c) (hc:c.callee=.builtin .copy) (ha:c.args.toList=[s,x]) (hat:c.argTypes.toList=[t,t2])
 (hs:evC T s=some (.slice (some ⟨b,off,none⟩) k s1)) (hx:evC T x=some (.slice (some ⟨b2,off2,none⟩) m s2)) (hu:und P t=some (.slice e)) (hz:Qfv P e=some z) (hb:Qaw H b=some (.cells cs te (0,0))) (hb2:Qaw H b2=some (.cells cs2 te2 f2)) (hn:b < n) (hn2:b2 < n)
 (hH:Qgr H b (.cells cs' te (0,0))=H') (hq:q=Nat.min m k) (hf:off+q * z<=cs.size/\off2+q * z<=cs2.size/\ones (cs2.extract off2 (off2+q * z))=true/\splice cs off (cs2.extract off2 (off2+q * z))=cs'):
 opS P F Qb3 (fun _ _ _=> none) T o H n=some ⟨.ret (.int .i64 q),H',n,[b,b2],[b]⟩:=by
 obtain ⟨h1,h2,h3,h4⟩:=hf;subst hq hH h4;have e4:QsA P t H n (.slice (some ⟨b,off,none⟩) k s1) (.slice (some ⟨b2,off2,none⟩) m s2)=some ⟨.val (.int .i64 (Nat.min m k)),Qgr H b (.cells (splice cs off (cs2.extract off2 (off2+Nat.min m k * z))) te (0,0)),n,[b,b2],[b]⟩:=by
  simp only [QsA,hu,hz,hb,hb2,h3,show Nat.ble (off+Nat.min m k * z) cs.size=true from Nat.ble_eq_true_of_le h1,show Nat.ble (off2+Nat.min m k * z) cs2.size=true from Nat.ble_eq_true_of_le h2,Bool.and_self,cond_true]
 have e5:Qng P F (evC T) o H n=some ⟨.val (.int .i64 (Nat.min m k)),Qgr H b (.cells (splice cs off (cs2.extract off2 (off2+Nat.min m k * z))) te (0,0)),n,[b,b2],[b]⟩:=by
  unfold Qng cop;simp only [ho,hc,ha,hat,hs,hx,e4,List.all_cons,List.all_nil,show Nat.blt b n=true from Nat.ble_eq_true_of_le hn,show Nat.blt b2 n=true from Nat.ble_eq_true_of_le hn2,Bool.and_self,cond_true]
 unfold opS;simp only [ho,e5]
end
section
variable {P:Program} {F:FuncId->Bool} {T:Tm} {o:Oper} {H:Qar} {n:Nat}
end
theorem Qzx {α:Type} {e:α->List Value} (h:∀x,(e x).all (·.oneCell')=true) (zs:List α) (i j:Nat):ones ((Qad e zs).extract i j)=true:=by
 unfold ones;rw [Array.all_eq_true'];intro v hv;have hv':v∈(Qad e zs).toList:=by
  have:=Array.mem_def.1 hv;rw [Array.toList_extract,List.extract_eq_take_drop] at this;exact List.mem_of_mem_drop (List.mem_of_mem_take this)
 simp only [Qad,List.mem_flatMap] at hv';obtain ⟨x,_,hx⟩:=hv';exact List.all_eq_true.1 (h x) v hx
theorem Qx1 {v:Value} (h:simple v=true):v.oneCell'=true:=by
 cases v <;> first | rfl | (cases h;done)
theorem QsI {α:Type} {e:α->List Value} {r:Nat} (hs:∀x,(e x).all simple=true) (xs:List α):(Qad e xs).map (Qf5 r)=Qad e xs/\((Qad e xs).all fun v=> simple v || Qf2 v)=true/\ones (Qad e xs)=true:=by
 have h:∀v∈Qad e xs,simple v=true:=QaT fun x=> List.all_eq_true.1 (hs x)
 refine ⟨?_,Array.all_eq_true'.2 fun v hv=> by rw [h v hv];rfl,Array.all_eq_true'.2 fun v hv=> Qx1 (h v hv)⟩;apply Array.ext (by simp);intro i h1 h2;have hv:=h _ (Array.getElem_mem h2);simp [Qf5,hv]
def Qjz {α:Type} (ys:List α) (a:Nat) (zs:List α):List α:=ys.take a++zs++ys.drop (a+zs.length)
theorem Qq1 {α:Type} {e:α->List Value} {z:Nat} (h:∀x,(e x).length=z):∀(zs:List α) (c:Nat),(zs.flatMap e).drop (c * z)=(zs.drop c).flatMap e:=by
 intro zs;induction zs with
 | nil=> intro c;simp
 | cons x zs ih=>
   intro c;cases c with
   | zero=> simp
   | succ c=>
     rw [List.flatMap_cons,List.drop_succ_cons,<-ih c,Nat.succ_mul,Nat.add_comm,List.drop_append];rw [List.drop_eq_nil_of_le (by rw [h];omega),List.nil_append,h];congr 1;omega
theorem Qrz {α:Type} {e:α->List Value} {z:Nat} (h:∀x,(e x).length=z):∀(zs:List α) (q:Nat),(zs.flatMap e).take (q * z)=(zs.take q).flatMap e:=by
 intro zs;induction zs with
 | nil=> intro q;simp
 | cons x zs ih=>
   intro q;cases q with
   | zero=> simp
   | succ q=>
     rw [List.flatMap_cons,List.take_succ_cons,List.flatMap_cons,<-ih q,Nat.succ_mul,Nat.add_comm,List.take_append];rw [List.take_of_length_le (by rw [h];omega),h];congr 2;omega
theorem Q3Y {α:Type} {e:α->List Value} {z:Nat} (h:∀x,(e x).length=z) (zs:List α) (c q:Nat):(Qad e zs).extract (c * z) (c * z+q * z)=Qad e ((zs.drop c).take q):=by
 apply Array.toList_inj.1;simp only [Qad,Array.toList_extract,List.extract_eq_take_drop,Qq1 h];rw [show c * z+q * z - c * z=q * z by omega,Qrz h]
theorem QjL {α:Type} {e:α->List Value} {xs:List α} {x:α} {cs:Array Value} (h:cs=(e x).toArray):Qad e xs++cs=Qad e (xs++[x]):=by
 rw [h];exact Qhf
theorem Q3X {α:Type} {e:α->List Value} {z:Nat} (h:∀x,(e x).length=z) {ys zs:List α} {a:Nat}:splice (Qad e ys) (a * z) (Qad e zs)=Qad e (Qjz ys a zs):=by
 have hl:(zs.flatMap e).length=zs.length * z:=by
  have:=Qcc (e:=e) (xs:=zs) h;simpa [Qad] using this
 apply Array.toList_inj.1;simp only [splice,Qad,Qjz,List.flatMap_append,Qrz h];rw [hl,<-Nat.add_mul,Qq1 h]
theorem Qy2 {α:Type} {e:α->List Value} {z:Nat} (h:∀x,(e x).length=z) (hs:∀x,(e x).all (·.oneCell')=true) {ys zs:List α} {a c q:Nat} (h1:a+q<=ys.length) (h2:c+q<=zs.length):
 a * z+q * z<=(Qad e ys).size/\c * z+q * z<=(Qad e zs).size/\ones ((Qad e zs).extract (c * z) (c * z+q * z))=true/\splice (Qad e ys) (a * z) ((Qad e zs).extract (c * z) (c * z+q * z))=Qad e (Qjz ys a ((zs.drop c).take q)):=by
 refine ⟨?_, ?_,Qzx hs _ _ _, ?_⟩
 ·rw [Qcc h,<-Nat.add_mul];exact Nat.mul_le_mul_right _ h1
 ·rw [Qcc h,<-Nat.add_mul];exact Nat.mul_le_mul_right _ h2
 ·rw [Q3Y h,Q3X h]
theorem QjK {α:Type} {e:α->List Value} {z:Nat} (h:∀x,(e x).length=z) (hs:∀x,(e x).all (·.oneCell')=true) {ys zs:List α} {a c q:Nat} (h1:a+q<=ys.length) (h2:c+q<=zs.length):
 0+a * z+q * z<=(Qad e ys).size/\0+c * z+q * z<=(Qad e zs).size/\ones ((Qad e zs).extract (0+c * z) (0+c * z+q * z))=true/\splice (Qad e ys) (0+a * z) ((Qad e zs).extract (0+c * z) (0+c * z+q * z))=Qad e (Qjz ys a ((zs.drop c).take q)):=by
 simp only [Nat.zero_add];exact Qy2 h hs h1 h2
def Qgt {α:Type} (x x0:α) (n k:Nat):List α:=List.replicate k x++List.replicate (n - k) x0
theorem Qvf {α:Type} {x x0:α} {n k:Nat} (h:k<=n):(Qgt x x0 n k).length=n:=by simp [Qgt];omega
theorem QuB {α:Type} {x x0:α} {n:Nat}:Qgt x x0 n n=List.replicate n x:=by simp [Qgt]
theorem Qvg {α:Type} {x x0:α} {n k q:Nat} (h:k+q<=n) (hq:q<=k):Qjz (Qgt x x0 n k) k (((Qgt x x0 n k).drop 0).take q)=Qgt x x0 n (k+q):=by
 have e1:(Qgt x x0 n k).take k=List.replicate k x:=by simp [Qgt]
 have e2:((Qgt x x0 n k).drop 0).take q=List.replicate q x:=by
  simp [Qgt,List.take_append,Nat.min_eq_left hq];omega
 have e3:(Qgt x x0 n k).drop (k+q)=List.replicate (n - (k+q)) x0:=by
  simp [Qgt,List.drop_append,Nat.sub_sub]
 rw [e2,Qjz,e1,List.length_replicate,e3,Qgt,List.append_assoc,<-List.replicate_append_replicate,List.append_assoc]
theorem Qxe {α:Type} {x x0:α} {n q:Nat} (hq:q=min 1 n):Qjz (List.replicate n x0) 0 (([x].drop 0).take q)=Qgt x x0 n q:=by
 subst hq;cases n with
 | zero=> simp [Qjz,Qgt]
 | succ n=> simp [Qjz,Qgt,show min 1 (n+1)=1 by omega]
def cpE (vs zs:List Value):Bool->List Value
 | true=> vs
 | false=> zs
theorem Qrd {vs zs:List Value} {z q k:Nat} (hv:vs.length=z) (hz:zs.length=z) (hv1:vs.all (·.oneCell')=true) (hz1:zs.all (·.oneCell')=true) (hq:q=min 1 k):
 0+q * z<=(Qad (QbL zs) (List.replicate k ())).size/\0+q * z<=vs.toArray.size/\ones (vs.toArray.extract 0 (0+q * z))=true/\splice (Qad (QbL zs) (List.replicate k ())) 0 (vs.toArray.extract 0 (0+q * z))=Qad (cpE vs zs) (Qgt true false k q):=by
 have e1:Qad (QbL zs) (List.replicate k ())=Qad (cpE vs zs) (List.replicate k false):=by
  simp [Qad,QbL,cpE,List.flatMap_replicate]
 have e2:vs.toArray=Qad (cpE vs zs) [true]:=by simp [Qad,cpE]
 have h:∀x,(cpE vs zs x).length=z:=fun x=> by cases x <;> assumption
 have hs:∀x,(cpE vs zs x).all (·.oneCell')=true:=fun x=> by cases x <;> assumption
 have:=QjK h hs (ys:=List.replicate k false) (zs:=[true]) (a:=0) (c:=0) (q:=q) (by simp;omega) (by simp;omega);rw [Qxe hq] at this;rw [e1,e2];simpa using this
theorem Q0I {α:Type} {e:α->List Value} {x:α} {zs:List Value} {n:Nat}:Qad (cpE (e x) zs) (List.replicate n true)=Qad e (List.replicate n x):=by
 simp [Qad,cpE,List.flatMap_replicate]
theorem Qzi {fm:Nat->Option Obj} {xs:Array Value} (h:xs.all simple=true):TRv fm (.tuple xs) (.tuple xs):=by
 refine .tuple rfl fun i v v' h1 h2=> ?_
 rw [h1] at h2;cases h2;exact .simple (Array.all_eq_true'.1 h v (Array.mem_of_getElem? h1))
theorem Qp1 {P:Program} {F:FuncId->Bool} {J:World->Prop} (hF:∀g,F g=true->Qau P g=true) (hmix:P.follows .mixedOrders=true) {g:FuncId} {args:Array Value} {out:Value} {fuel:Nat} (hs:args.all simple=true) (ho:∀fm,TRv fm out out) (ho2:af out=true) (h:Qqb (Qm5 P F Qb3 fuel g args (Qfu 0 []) ([]:List (Array Value×TypeId)).length) out []=true):Qai P J g args out:=fun fm w args' _ _ ha=> by
 have e:args'=args:=by
  refine Array.ext ha.1.symm fun i h1 h2=> ?_
  have k1:args[i]? =some args[i]:=by simp [h2]
  have k2:args'[i]? =some args'[i]:=by simp [h1]
  exact (ha.2 i _ _ k1 k2).simple_eq (Array.all_eq_true'.1 hs _ (Array.getElem_mem h2))
 subst e;have hc:=Qnk hF hmix (at':=[]) (args':=args') h (w:=w) (I:=fun _=> True) (hI:=fun _ _ _ _=> trivial) (QaM _ _) trivial rfl (fun i x a h=> by simp at h) ⟨rfl,fun i v v' h1 h2=> by rw [h1] at h2;cases h2;exact QbT (Array.all_eq_true'.1 hs v (Array.mem_of_getElem? h1))⟩;refine hc.mono fun e w' ⟨v',n',H',μ',he,hp,hv,hb,hun,hbel⟩=> ⟨out,by rw [he,Qje ho2 hv],hbel,ho _⟩
end Go.CE
