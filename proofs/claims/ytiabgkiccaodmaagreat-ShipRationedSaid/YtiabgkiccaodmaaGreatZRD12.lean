/- The reference's stores, loads and truths. -/
import Derived.Test.YtiabgkiccaodmaaGreatZRD11
set_option linter.all false
namespace Go.Proofs.YtiabgkiccaodmaaGreat
open Go Go.CE Go.RowKit
noncomputable section
set_option maxRecDepth 100000
theorem Qbq {α:Type} [Inhabited α] {l:List α} {i:Int} {p:α->Bool} (h0:0<=i) (h:i < l.length):(l.drop i.toNat).all p=(p (l.getD i.toNat default) && (l.drop (i+1).toNat).all p):=by
 obtain ⟨k,rfl⟩:∃k:Nat,i=k:=⟨i.toNat,by omega⟩
 have hk:k < l.length:=by omega
 have e1:((k:Int)).toNat=k:=by omega
 have e2:((k:Int)+1).toNat=k+1:=by omega
 rw [e1,e2,List.drop_eq_getElem_cons hk,List.all_cons];simp [List.getD_eq_getElem?_getD,hk]
theorem QaL {α:Type} {l:List α} {i:Int} {p:α->Bool} (h:l.length<=i):(l.drop i.toNat).all p=true:=by
 rw [List.drop_eq_nil_of_le (by omega)];rfl
def Qqj (k:Nat) (l:Qae):Bool:=QcO l.goods 100000 && (decide (l.goods.length=k) && (inB l.weight 0 100000 && inB l.cost 0 1000000))
def storeT (s:Qaa):Bool:=inB s.stock.length 1 4 && (decide (s.use.length=s.stock.length) && (QbI s.glo s.ghi 1 60 && (decide (s.lots.length<=6) && inB s.hold 0 100000)))
def Quk (s:Qaa):Bool:=s.stock.all (fun x=> inB x 0 100000) && (QcO s.use 1000 && (s.lots.all (Qqj s.stock.length) && storeT s))
theorem QxU {s:Qaa}:Quk s=Qav s:=by
 have e:Qqj s.stock.length=Qoh s.stock.length:=by
  funext l;unfold Qqj Qoh;cases QcO l.goods 100000 <;> cases decide (l.goods.length=s.stock.length) <;> rfl
 unfold Quk Qav storeT Qq9;rw [e];cases inB s.stock.length 1 4 <;> cases s.stock.all (fun x=> inB x 0 100000) <;> cases decide (s.use.length=s.stock.length) <;> cases QcO s.use 1000 <;> cases QbI s.glo s.ghi 1 60 <;> cases decide (s.lots.length<=6) <;> cases s.lots.all (Qoh s.stock.length) <;> simp
def wtL (l:List Qae):Nat:=(l.map fun x=> x.goods.length+2).sum
theorem Q4Q {l:List Qae} {i:Int} (h0:0<=i) (h:i < l.length):wtL (l.drop i.toNat)=(l.getD i.toNat default).goods.length+2+wtL (l.drop (i+1).toNat):=by
 obtain ⟨k,rfl⟩:∃k:Nat,i=k:=⟨i.toNat,by omega⟩
 have hk:k < l.length:=by omega
 have e1:((k:Int)).toNat=k:=by omega
 have e2:((k:Int)+1).toNat=k+1:=by omega
 rw [e1,e2,List.drop_eq_getElem_cons hk];unfold wtL;rw [List.map_cons,List.sum_cons];simp [List.getD_eq_getElem?_getD,hk]
def QfX (s:Qaa) (i:Int):List Value:=[pA 2 0,.int .i64 i]
def Qdt (s:Qaa) (i:Int):List Obj:=[Obj.cells #[Qa0 1 (slT s.stock.length (Qac Qat s.stock)),Qa0 1 (slT s.use.length (Qac Qa9 s.use)),.int .i64 s.glo,.int .i64 s.ghi,Qa0 1 (slT s.lots.length (Qac Qan s.lots)),.int .i64 s.hold] 62]
def Qgq:List Item:=([.code [1,0,1,0,0],.inLoop [1,0,1,0,0],.inBlock 0,.code [1,1]]).map (it (Qaq YP 44))
def Q0r (B:Lo) (c0:CF) (s:Qaa) (i:Int):Prop:=∃dJ:Nat->Value,(∀t,Qbd (dJ t))/\GoE YP B c0 H00 1 (Qa8 44 110 (([1,3]:List Nat).zip (QfX s i)) dJ Qgq) (Qa6 (Qdt s i)) (2+(Qdt s i).length) []
def Qgb (s:Qaa) (i:Int):List Value:=[pA 2 0,.int .i64 i]
def Qdo (s:Qaa) (i:Int):List Obj:=[Obj.cells #[Qa0 1 (slT s.stock.length (Qac Qat s.stock)),Qa0 1 (slT s.use.length (Qac Qa9 s.use)),.int .i64 s.glo,.int .i64 s.ghi,Qa0 1 (slT s.lots.length (Qac Qan s.lots)),.int .i64 s.hold] 62]
def Qgd:List Item:=([.code [1,1,0,1,0,0],.inLoop [1,1,0,1,0,0],.inBlock 2,.code [1,1,1]]).map (it (Qaq YP 44))
def QxA (B:Lo) (c0:CF) (s:Qaa) (i:Int):Prop:=∃dJ:Nat->Value,(∀t,Qbd (dJ t))/\GoE YP B c0 H00 1 (Qa8 44 110 (([1,4]:List Nat).zip (Qgb s i)) dJ Qgd) (Qa6 (Qdo s i)) (2+(Qdo s i).length) []
def Qdz (s:Qaa) (i:Int):List Value:=[pA 2 0,.int .i64 i]
def Qb8 (s:Qaa) (i:Int):List Obj:=[Obj.cells #[Qa0 1 (slT s.stock.length (Qac Qat s.stock)),Qa0 1 (slT s.use.length (Qac Qa9 s.use)),.int .i64 s.glo,.int .i64 s.ghi,Qa0 1 (slT s.lots.length (Qac Qan s.lots)),.int .i64 s.hold] 62]
def Qdv:List Item:=([.code [1,1,1,0,1,0,0],.inLoop [1,1,1,0,1,0,0],.inBlock 4,.code [1,1,1,1]]).map (it (Qaq YP 44))
def Q1d (B:Lo) (c0:CF) (s:Qaa) (i:Int):Prop:=∃dJ:Nat->Value,(∀t,Qbd (dJ t))/\GoE YP B c0 H00 1 (Qa8 44 110 (([1,5]:List Nat).zip (Qdz s i)) dJ Qdv) (Qa6 (Qb8 s i)) (2+(Qb8 s i).length) []
def QdN (s:Qaa) (i j:Int):List Value:=[pA 2 0,.int .i64 i,pA 3 0,.int .i64 j]
def QbN (s:Qaa) (i j:Int):List Obj:=[Obj.cells #[Qa0 1 (slT s.stock.length (Qac Qat s.stock)),Qa0 1 (slT s.use.length (Qac Qa9 s.use)),.int .i64 s.glo,.int .i64 s.ghi,Qa0 1 (slT s.lots.length (Qac Qan s.lots)),.int .i64 s.hold] 62,Obj.cells #[Qa0 1 (slT (List.length (Qae.goods (s.lots.getD i.toNat default))) (Qac Qa9 (Qae.goods (s.lots.getD i.toNat default)))),.int .i64 (Qae.weight (s.lots.getD i.toNat default)),.int .i64 (Qae.cost (s.lots.getD i.toNat default))] 118]
def QdZ:List Item:=([.code [1,1,1,0,1,0,0,1,0,0,1,0,1,0,0],.inLoop [1,1,1,0,1,0,0,1,0,0,1,0,1,0,0],.inBlock 6,.code [1,1,1,0,1,0,0,1,0,0,1,1],.inBlock 5,.code [1,1,1,0,1,0,0,1,1],.inLoop [1,1,1,0,1,0,0],.inBlock 4,.code [1,1,1,1]]).map (it (Qaq YP 44))
def Qyp (B:Lo) (c0:CF) (s:Qaa) (i j:Int):Prop:=∃dJ:Nat->Value,(∀t,Qbd (dJ t))/\GoE YP B c0 H00 1 (Qa8 44 110 (([1,5,6,7]:List Nat).zip (QdN s i j)) dJ QdZ) (Qa6 (QbN s i j)) (2+(QbN s i j).length) []
def Qmz (B:Lo) (s:Qaa) (i:Int) (dJ0:Nat->Value):List Prop:=[i=(↑i.toNat:Int)/\Int.toNat i < List.length s.stock/\Array.extract (Qac Qat s.stock) (Int.toNat i * TypeInfo.size Tryz.t3) (Int.toNat i * TypeInfo.size Tryz.t3+TypeInfo.size Tryz.t3)=#[.int .i64 (s.stock.getD i.toNat default)],ltq i (↑s.stock.length:Int)=true]++([]:List Prop)
def QqK (s:Qaa) (i:Int) (dJ0:Nat->Value):Qas:=[(4,hvT),(8,Qai.tidx i.toNat #[.int .i64 (s.stock.getD i.toNat default)])]
theorem QxZ (B:Lo) (s:Qaa) (i:Int) (dJ0:Nat->Value):landM (Qal YP (Qa1 YP) J0 B 14 1 (Qa8 44 110 (([1,3]:List Nat).zip (QfX s i)) dJ0 Qgq) (Qa6 (Qdt s i)) (2+(Qdt s i).length)
 (QqK s i dJ0++[(10,Qai.pure (.bool true) []),(13,hvI (i+1))]) 0 [] []) [1,3] [(2,KS.auto)] []=some ⟨44,110,Qgq,[],.run,none,QfX s (i+1),Qdt s (i+1),
 [wq (i+1)=i+1,Qa3 []/\Qam YP J0 69 #[.int .i64 (s.stock.getD i.toNat default),.int .i64 0,.int .i64 100000] (.bool true)]++Qmz B s i dJ0⟩:=by kernel_rfl
theorem Q1o (B:Lo) (s:Qaa) (i:Int) (dJ0:Nat->Value):QaU (Qal YP (Qa1 YP) J0 B 14 1 (Qa8 44 110 (([1,3]:List Nat).zip (QfX s i)) dJ0 Qgq) (Qa6 (Qdt s i)) (2+(Qdt s i).length)
 (QqK s i dJ0++[(10,Qai.pure (.bool false) [])]) 0 [] []) []=some (.bool false,
 [Qa3 []/\Qam YP J0 69 #[.int .i64 (s.stock.getD i.toNat default),.int .i64 0,.int .i64 100000] (.bool false)]++Qmz B s i dJ0):=by kernel_rfl
theorem QzE (B:Lo) (s:Qaa) (i:Int) (dJ0:Nat->Value):landM (Qal YP (Qa1 YP) J0 B 10 1 (Qa8 44 110 (([1,3]:List Nat).zip (QfX s i)) dJ0 Qgq) (Qa6 (Qdt s i)) (2+(Qdt s i).length)
 [(4,hvF)] 0 [] []) [1,4] [(2,KS.auto)] []=some ⟨44,110,Qgd,[],.run,none,Qgb s (0),Qdo s (0),
 [ltq i (↑s.stock.length:Int)=false]⟩:=by kernel_rfl
def QmI (B:Lo) (s:Qaa) (i:Int) (dJ0:Nat->Value):List Prop:=[i=(↑i.toNat:Int)/\Int.toNat i < List.length s.use/\Array.extract (Qac Qa9 s.use) (Int.toNat i * TypeInfo.size Tryz.t25) (Int.toNat i * TypeInfo.size Tryz.t25+TypeInfo.size Tryz.t25)=#[.int .i64 (Span.lo (s.use.getD i.toNat default)),.int .i64 (Span.hi (s.use.getD i.toNat default))],ltq i (↑s.use.length:Int)=true]++([]:List Prop)
def Qsf (s:Qaa) (i:Int) (dJ0:Nat->Value):Qas:=[(4,hvT),(8,Qai.tidx i.toNat #[.int .i64 (Span.lo (s.use.getD i.toNat default)),.int .i64 (Span.hi (s.use.getD i.toNat default))])]
theorem QxR (B:Lo) (s:Qaa) (i:Int) (dJ0:Nat->Value):landM (Qal YP (Qa1 YP) J0 B 14 1 (Qa8 44 110 (([1,4]:List Nat).zip (Qgb s i)) dJ0 Qgd) (Qa6 (Qdo s i)) (2+(Qdo s i).length)
 (Qsf s i dJ0++[(10,Qai.pure (.bool true) []),(13,hvI (i+1))]) 0 [] []) [1,4] [(2,KS.auto)] []=some ⟨44,110,Qgd,[],.run,none,Qgb s (i+1),Qdo s (i+1),
 [wq (i+1)=i+1,Qa3 []/\Qam YP J0 70 #[.agg #[.int .i64 (Span.lo (s.use.getD i.toNat default)),.int .i64 (Span.hi (s.use.getD i.toNat default))],.int .i64 0,.int .i64 1000] (.bool true)]++QmI B s i dJ0⟩:=by kernel_rfl
theorem QyY (B:Lo) (s:Qaa) (i:Int) (dJ0:Nat->Value):QaU (Qal YP (Qa1 YP) J0 B 14 1 (Qa8 44 110 (([1,4]:List Nat).zip (Qgb s i)) dJ0 Qgd) (Qa6 (Qdo s i)) (2+(Qdo s i).length)
 (Qsf s i dJ0++[(10,Qai.pure (.bool false) [])]) 0 [] []) []=some (.bool false,
 [Qa3 []/\Qam YP J0 70 #[.agg #[.int .i64 (Span.lo (s.use.getD i.toNat default)),.int .i64 (Span.hi (s.use.getD i.toNat default))],.int .i64 0,.int .i64 1000] (.bool false)]++QmI B s i dJ0):=by kernel_rfl
theorem Qy3 (B:Lo) (s:Qaa) (i:Int) (dJ0:Nat->Value):landM (Qal YP (Qa1 YP) J0 B 10 1 (Qa8 44 110 (([1,4]:List Nat).zip (Qgb s i)) dJ0 Qgd) (Qa6 (Qdo s i)) (2+(Qdo s i).length)
 [(4,hvF)] 0 [] []) [1,5] [(2,KS.auto)] []=some ⟨44,110,Qdv,[],.run,none,Qdz s (0),Qb8 s (0),
 [ltq i (↑s.use.length:Int)=false]⟩:=by kernel_rfl
theorem Q0D (B:Lo) (s:Qaa) (i:Int) (dJ0:Nat->Value):landM (Qal YP (Qa1 YP) J0 B 14 1 (Qa8 44 110 (([1,5]:List Nat).zip (Qdz s i)) dJ0 Qdv) (Qa6 (Qb8 s i)) (2+(Qb8 s i).length)
 [(4,hvT),(8,Qai.tidx i.toNat #[slT (List.length (Qae.goods (s.lots.getD i.toNat default))) (Qac Qa9 (Qae.goods (s.lots.getD i.toNat default))),.int .i64 (Qae.weight (s.lots.getD i.toNat default)),.int .i64 (Qae.cost (s.lots.getD i.toNat default))])] 0 [] []) [1,5,6,7] [(2,KS.auto),(3,KS.auto)] []=some ⟨44,110,QdZ,[],.run,none,QdN s (i) (0),QbN s (i) (0),
 [i=(↑i.toNat:Int)/\Int.toNat i < List.length s.lots/\Array.extract (Qac Qan s.lots) (Int.toNat i * TypeInfo.size Tryz.t118) (Int.toNat i * TypeInfo.size Tryz.t118+TypeInfo.size Tryz.t118)=#[slT (List.length (Qae.goods (s.lots.getD i.toNat default))) (Qac Qa9 (Qae.goods (s.lots.getD i.toNat default))),.int .i64 (Qae.weight (s.lots.getD i.toNat default)),.int .i64 (Qae.cost (s.lots.getD i.toNat default))],ltq i (↑s.lots.length:Int)=true]⟩:=by kernel_rfl
def QlD (B:Lo) (s:Qaa) (i:Int) (dJ0:Nat->Value):List Prop:=[ltq i (↑s.lots.length:Int)=false]++([]:List Prop)
def Qri (s:Qaa) (i:Int) (dJ0:Nat->Value):Qas:=[(4,hvF)]
def Ql6 (B:Lo) (s:Qaa) (i:Int) (dJ0:Nat->Value):List Prop:=[Qa3 []/\Qam YP J0 69 #[.int .i64 (↑s.stock.length:Int),.int .i64 1,.int .i64 4] (.bool true)]++QlD B s i dJ0
def Qql (s:Qaa) (i:Int) (dJ0:Nat->Value):Qas:=Qri s i dJ0++[(8,Qai.pure (.bool true) [])]
def Qly (B:Lo) (s:Qaa) (i:Int) (dJ0:Nat->Value):List Prop:=[eqq (↑s.use.length:Int) (↑s.stock.length:Int)=true]++Ql6 B s i dJ0
def Qrf (s:Qaa) (i:Int) (dJ0:Nat->Value):Qas:=Qql s i dJ0++[(16,hvT)]
def QlZ (B:Lo) (s:Qaa) (i:Int) (dJ0:Nat->Value):List Prop:=[Qa3 []/\Qam YP J0 30 #[.agg #[.int .i64 s.glo,.int .i64 s.ghi]] (.bool true)]++Qly B s i dJ0
def Qr7 (s:Qaa) (i:Int) (dJ0:Nat->Value):Qas:=Qrf s i dJ0++[(21,Qai.pure (.bool true) [])]
def Ql7 (B:Lo) (s:Qaa) (i:Int) (dJ0:Nat->Value):List Prop:=[(!ltq 6 (↑s.lots.length:Int))=true]++QlZ B s i dJ0
def Qsd (s:Qaa) (i:Int) (dJ0:Nat->Value):Qas:=Qr7 s i dJ0++[(27,hvT)]
theorem Q0X (B:Lo) (s:Qaa) (i:Int) (dJ0:Nat->Value):QaU (Qal YP (Qa1 YP) J0 B 9 1 (Qa8 44 110 (([1,5]:List Nat).zip (Qdz s i)) dJ0 Qdv) (Qa6 (Qb8 s i)) (2+(Qb8 s i).length)
 (Qsd s i dJ0++[(32,Qai.pure (.bool true) [])]) 0 [] []) []=some (.bool true,
 [Qa3 []/\Qam YP J0 69 #[.int .i64 s.hold,.int .i64 0,.int .i64 100000] (.bool true)]++Ql7 B s i dJ0):=by kernel_rfl
theorem QxH (B:Lo) (s:Qaa) (i:Int) (dJ0:Nat->Value):QaU (Qal YP (Qa1 YP) J0 B 9 1 (Qa8 44 110 (([1,5]:List Nat).zip (Qdz s i)) dJ0 Qdv) (Qa6 (Qb8 s i)) (2+(Qb8 s i).length)
 (Qsd s i dJ0++[(32,Qai.pure (.bool false) [])]) 0 [] []) []=some (.bool false,
 [Qa3 []/\Qam YP J0 69 #[.int .i64 s.hold,.int .i64 0,.int .i64 100000] (.bool false)]++Ql7 B s i dJ0):=by kernel_rfl
theorem QyM (B:Lo) (s:Qaa) (i:Int) (dJ0:Nat->Value):QaU (Qal YP (Qa1 YP) J0 B 9 1 (Qa8 44 110 (([1,5]:List Nat).zip (Qdz s i)) dJ0 Qdv) (Qa6 (Qb8 s i)) (2+(Qb8 s i).length)
 (Qr7 s i dJ0++[(27,hvF)]) 0 [] []) []=some (.bool false,
 [(!ltq 6 (↑s.lots.length:Int))=false]++QlZ B s i dJ0):=by kernel_rfl
theorem Qwg (B:Lo) (s:Qaa) (i:Int) (dJ0:Nat->Value):QaU (Qal YP (Qa1 YP) J0 B 9 1 (Qa8 44 110 (([1,5]:List Nat).zip (Qdz s i)) dJ0 Qdv) (Qa6 (Qb8 s i)) (2+(Qb8 s i).length)
 (Qrf s i dJ0++[(21,Qai.pure (.bool false) [])]) 0 [] []) []=some (.bool false,
 [Qa3 []/\Qam YP J0 30 #[.agg #[.int .i64 s.glo,.int .i64 s.ghi]] (.bool false)]++Qly B s i dJ0):=by kernel_rfl
theorem QvS (B:Lo) (s:Qaa) (i:Int) (dJ0:Nat->Value):QaU (Qal YP (Qa1 YP) J0 B 9 1 (Qa8 44 110 (([1,5]:List Nat).zip (Qdz s i)) dJ0 Qdv) (Qa6 (Qb8 s i)) (2+(Qb8 s i).length)
 (Qql s i dJ0++[(16,hvF)]) 0 [] []) []=some (.bool false,
 [eqq (↑s.use.length:Int) (↑s.stock.length:Int)=false]++Ql6 B s i dJ0):=by kernel_rfl
theorem Qwv (B:Lo) (s:Qaa) (i:Int) (dJ0:Nat->Value):QaU (Qal YP (Qa1 YP) J0 B 9 1 (Qa8 44 110 (([1,5]:List Nat).zip (Qdz s i)) dJ0 Qdv) (Qa6 (Qb8 s i)) (2+(Qb8 s i).length)
 (Qri s i dJ0++[(8,Qai.pure (.bool false) [])]) 0 [] []) []=some (.bool false,
 [Qa3 []/\Qam YP J0 69 #[.int .i64 (↑s.stock.length:Int),.int .i64 1,.int .i64 4] (.bool false)]++QlD B s i dJ0):=by kernel_rfl
def QmX (B:Lo) (s:Qaa) (i j:Int) (dJ0:Nat->Value):List Prop:=[j=(↑j.toNat:Int)/\Int.toNat j < List.length (Qae.goods (s.lots.getD i.toNat default))/\Array.extract (Qac Qa9 (Qae.goods (s.lots.getD i.toNat default))) (Int.toNat j * TypeInfo.size Tryz.t25) (Int.toNat j * TypeInfo.size Tryz.t25+TypeInfo.size Tryz.t25)=#[.int .i64 (Span.lo (List.getD (Qae.goods (s.lots.getD i.toNat default)) j.toNat default)),.int .i64 (Span.hi (List.getD (Qae.goods (s.lots.getD i.toNat default)) j.toNat default))],ltq j (↑(List.length (Qae.goods (s.lots.getD i.toNat default))):Int)=true]++([]:List Prop)
def Qrg (s:Qaa) (i j:Int) (dJ0:Nat->Value):Qas:=[(4,hvT),(8,Qai.tidx j.toNat #[.int .i64 (Span.lo (List.getD (Qae.goods (s.lots.getD i.toNat default)) j.toNat default)),.int .i64 (Span.hi (List.getD (Qae.goods (s.lots.getD i.toNat default)) j.toNat default))])]
theorem QvV (B:Lo) (s:Qaa) (i j:Int) (dJ0:Nat->Value):landM (Qal YP (Qa1 YP) J0 B 14 1 (Qa8 44 110 (([1,5,6,7]:List Nat).zip (QdN s i j)) dJ0 QdZ) (Qa6 (QbN s i j)) (2+(QbN s i j).length)
 (Qrg s i j dJ0++[(10,Qai.pure (.bool true) []),(13,hvI (j+1))]) 0 [] []) [1,5,6,7] [(2,KS.auto),(3,KS.auto)] []=some ⟨44,110,QdZ,[],.run,none,QdN s (i) (j+1),QbN s (i) (j+1),
 [wq (j+1)=j+1,Qa3 []/\Qam YP J0 70 #[.agg #[.int .i64 (Span.lo (List.getD (Qae.goods (s.lots.getD i.toNat default)) j.toNat default)),.int .i64 (Span.hi (List.getD (Qae.goods (s.lots.getD i.toNat default)) j.toNat default))],.int .i64 0,.int .i64 100000] (.bool true)]++QmX B s i j dJ0⟩:=by kernel_rfl
theorem QwB (B:Lo) (s:Qaa) (i j:Int) (dJ0:Nat->Value):QaU (Qal YP (Qa1 YP) J0 B 14 1 (Qa8 44 110 (([1,5,6,7]:List Nat).zip (QdN s i j)) dJ0 QdZ) (Qa6 (QbN s i j)) (2+(QbN s i j).length)
 (Qrg s i j dJ0++[(10,Qai.pure (.bool false) [])]) 0 [] []) []=some (.bool false,
 [Qa3 []/\Qam YP J0 70 #[.agg #[.int .i64 (Span.lo (List.getD (Qae.goods (s.lots.getD i.toNat default)) j.toNat default)),.int .i64 (Span.hi (List.getD (Qae.goods (s.lots.getD i.toNat default)) j.toNat default))],.int .i64 0,.int .i64 100000] (.bool false)]++QmX B s i j dJ0):=by kernel_rfl
def QmG (B:Lo) (s:Qaa) (i j:Int) (dJ0:Nat->Value):List Prop:=[ltq j (↑(List.length (Qae.goods (s.lots.getD i.toNat default))):Int)=false]++([]:List Prop)
def Qq3 (s:Qaa) (i j:Int) (dJ0:Nat->Value):Qas:=[(4,hvF)]
theorem Qwy (B:Lo) (s:Qaa) (i j:Int) (dJ0:Nat->Value):QaU (Qal YP (Qa1 YP) J0 B 12 1 (Qa8 44 110 (([1,5,6,7]:List Nat).zip (QdN s i j)) dJ0 QdZ) (Qa6 (QbN s i j)) (2+(QbN s i j).length)
 (Qq3 s i j dJ0++[(11,hvT)]) 0 [] []) []=some (.bool false,
 [(!eqq (↑(List.length (Qae.goods (s.lots.getD i.toNat default))):Int) (↑s.stock.length:Int))=true]++QmG B s i j dJ0):=by kernel_rfl
def QlQ (B:Lo) (s:Qaa) (i j:Int) (dJ0:Nat->Value):List Prop:=[(!eqq (↑(List.length (Qae.goods (s.lots.getD i.toNat default))):Int) (↑s.stock.length:Int))=false]++QmG B s i j dJ0
def Qqb (s:Qaa) (i j:Int) (dJ0:Nat->Value):Qas:=Qq3 s i j dJ0++[(11,hvF)]
def QjF (B:Lo) (s:Qaa) (i j:Int) (dJ0:Nat->Value):List Prop:=[Qa3 []/\Qam YP J0 69 #[.int .i64 (Qae.weight (s.lots.getD i.toNat default)),.int .i64 0,.int .i64 100000] (.bool true)]++QlQ B s i j dJ0
def Qol (s:Qaa) (i j:Int) (dJ0:Nat->Value):Qas:=Qqb s i j dJ0++[(15,Qai.pure (.bool true) [])]
theorem Qwa (B:Lo) (s:Qaa) (i j:Int) (dJ0:Nat->Value):landM (Qal YP (Qa1 YP) J0 B 12 1 (Qa8 44 110 (([1,5,6,7]:List Nat).zip (QdN s i j)) dJ0 QdZ) (Qa6 (QbN s i j)) (2+(QbN s i j).length)
 (Qol s i j dJ0++[(21,Qai.pure (.bool true) []),(25,hvI (i+1))]) 0 [] []) [1,5] [(2,KS.auto)] []=some ⟨44,110,Qdv,[],.run,none,Qdz s (i+1),Qb8 s (i+1),
 [wq (i+1)=i+1,Qa3 []/\Qam YP J0 69 #[.int .i64 (Qae.cost (s.lots.getD i.toNat default)),.int .i64 0,.int .i64 1000000] (.bool true)]++QjF B s i j dJ0⟩:=by kernel_rfl
theorem Qxp (B:Lo) (s:Qaa) (i j:Int) (dJ0:Nat->Value):QaU (Qal YP (Qa1 YP) J0 B 12 1 (Qa8 44 110 (([1,5,6,7]:List Nat).zip (QdN s i j)) dJ0 QdZ) (Qa6 (QbN s i j)) (2+(QbN s i j).length)
 (Qol s i j dJ0++[(21,Qai.pure (.bool false) [])]) 0 [] []) []=some (.bool false,
 [Qa3 []/\Qam YP J0 69 #[.int .i64 (Qae.cost (s.lots.getD i.toNat default)),.int .i64 0,.int .i64 1000000] (.bool false)]++QjF B s i j dJ0):=by kernel_rfl
theorem Qxl (B:Lo) (s:Qaa) (i j:Int) (dJ0:Nat->Value):QaU (Qal YP (Qa1 YP) J0 B 12 1 (Qa8 44 110 (([1,5,6,7]:List Nat).zip (QdN s i j)) dJ0 QdZ) (Qa6 (QbN s i j)) (2+(QbN s i j).length)
 (Qqb s i j dJ0++[(15,Qai.pure (.bool false) [])]) 0 [] []) []=some (.bool false,
 [Qa3 []/\Qam YP J0 69 #[.int .i64 (Qae.weight (s.lots.getD i.toNat default)),.int .i64 0,.int .i64 100000] (.bool false)]++QlQ B s i j dJ0):=by kernel_rfl
theorem QvF (B:Lo) (s:Qaa):landM (Qal YP (Qa1 YP) J0 B 7 1 (Qaj YP 44 110 (([.agg (Qah s).toArray]).map (Qao 0 4))) H00 1
 [] 0 [] []) [1,3] [(1,KS.auto)] []=some ⟨44,110,Qgq,[],.run,none,QfX s (0),Qdt s (0),
 []⟩:=by kernel_rfl
set_option maxHeartbeats 4000000 in
theorem QzI (s:Qaa) (hb:∀l∈s.lots,l.goods.length<=8) (hfacts:s.stock.length<=9223372036854775807/\s.use.length<=9223372036854775807/\s.lots.length<=9223372036854775807) {B:Lo} (hJ:∀w,B.has w->J0 w) {c0:CF}:∀m:Nat,(∀(i:Int),(s.stock.length - i.toNat)+s.use.length+wtL s.lots+9=m->∀(h0:0<=i),Q0r B c0 s i->EndsT YP B c0 (.bool ((s.stock.drop i.toNat).all (fun x=> inB x 0 100000) && (QcO s.use 1000 && (s.lots.all (Qqj s.stock.length) && storeT s)))))/\(∀(i:Int),(s.use.length - i.toNat)+wtL s.lots+8=m->∀(h0:0<=i),QxA B c0 s i->EndsT YP B c0 (.bool ((s.use.drop i.toNat).all (fun s=> QbI s.lo s.hi 0 1000) && (s.lots.all (Qqj s.stock.length) && storeT s))))/\(∀(i:Int),wtL (s.lots.drop i.toNat)+1=m->∀(h0:0<=i),Q1d B c0 s i->EndsT YP B c0 (.bool ((s.lots.drop i.toNat).all (Qqj s.stock.length) && storeT s)))/\(∀(i j:Int),((s.lots.getD i.toNat default).goods.length - j.toNat)+wtL (s.lots.drop (i+1).toNat)+2=m->∀(h0:0<=i) (h1:i < s.lots.length) (j0:0<=j),Qyp B c0 s i j->EndsT YP B c0 (.bool ((((s.lots.getD i.toNat default).goods.drop j.toNat).all (fun s=> QbI s.lo s.hi 0 100000) && (decide ((s.lots.getD i.toNat default).goods.length=s.stock.length) && (inB (s.lots.getD i.toNat default).weight 0 100000 && inB (s.lots.getD i.toNat default).cost 0 1000000))) && ((s.lots.drop (i+1).toNat).all (Qqj s.stock.length) && storeT s)))):=by
 intro m0;induction m0 using Nat.strongRecOn with
 | _ m0 ih0=>
   refine ⟨?_, ?_, ?_, ?_⟩
   ·intro i hm0 h0 ⟨dJ0,hdJ0,hg0⟩;by_cases q0:(i:Int) < ((↑s.stock.length:Int))
    ·have hp0:Qa3 (Qmz B s i dJ0):=by
      have s2:=Qbq (l:=s.stock) (p:=fun x=> inB x 0 100000) h0 q0;exact ⟨⟨by omega,by omega,(Qag (z:=1) (fun _=> rfl) (by omega))⟩,⟨(Qbe q0),trivial⟩⟩
     cases q1:inB (s.stock.getD i.toNat default) 0 100000 with
     | true=>
       have s2:=Qbq (l:=s.stock) (p:=fun x=> inB x 0 100000) h0 q0;exact ((ih0 _ (by omega)).1 (i+1) rfl (by omega)
        (hg0.landM okF hJ Qab (QxZ B s i dJ0)
        ⟨(QaQ (by omega) (by omega)),⟨⟨trivial,(by have t_:=rin (s.stock.getD i.toNat default) (0) (100000);rw [q1] at t_;exact t_)⟩,hp0⟩⟩ (by kernel_rfl) (by kernel_rfl))).cast (by (simp only [s2,q1,Bool.true_and,Bool.false_and];done))
     | false=>
       have s2:=Qbq (l:=s.stock) (p:=fun x=> inB x 0 100000) h0 q0;exact (GoE.endsT okF hJ Qab hg0 (Q1o B s i dJ0)
        ⟨⟨trivial,(by have t_:=rin (s.stock.getD i.toNat default) (0) (100000);rw [q1] at t_;exact t_)⟩,hp0⟩).cast (by (simp only [s2,q1,Bool.true_and,Bool.false_and];done))
    ·have s2:=QaL (l:=s.stock) (p:=fun x=> inB x 0 100000) (i:=i) (by omega);exact ((ih0 _ (by (first | omega | (simp only [Int.toNat_zero,List.drop_zero];omega)))).2.1 (0) rfl (by omega)
      (hg0.landM okF hJ Qab (QzE B s i dJ0)
      ⟨(Qbj (Int.not_lt.1 q0)),trivial⟩ (by kernel_rfl) (by kernel_rfl))).cast (by (simp only [s2,QcO,Int.toNat_zero,List.drop_zero,Bool.true_and];done))
   ·intro i hm0 h0 ⟨dJ0,hdJ0,hg0⟩;by_cases q0:(i:Int) < ((↑s.use.length:Int))
    ·have hp1:Qa3 (QmI B s i dJ0):=by
      have s2:=Qbq (l:=s.use) (p:=fun s=> QbI s.lo s.hi 0 1000) h0 q0;have m2:wtL (s.lots.drop (Int.toNat 0))=wtL s.lots:=rfl;exact ⟨⟨by omega,by omega,(Qag (z:=2) (fun _=> rfl) (by omega))⟩,⟨(Qbe q0),trivial⟩⟩
     cases q1:QbI (Span.lo (s.use.getD i.toNat default)) (Span.hi (s.use.getD i.toNat default)) 0 1000 with
     | true=>
       have s2:=Qbq (l:=s.use) (p:=fun s=> QbI s.lo s.hi 0 1000) h0 q0;have m2:wtL (s.lots.drop (Int.toNat 0))=wtL s.lots:=rfl;exact ((ih0 _ (by (first | omega | (simp only [Int.toNat_zero,List.drop_zero];omega)))).2.1 (i+1) rfl (by omega)
        (hg0.landM okF hJ Qab (QxR B s i dJ0)
        ⟨(QaQ (by omega) (by omega)),⟨⟨trivial,(by have t_:=Qw1 (Span.lo (s.use.getD i.toNat default)) (Span.hi (s.use.getD i.toNat default)) (0) (1000);rw [q1] at t_;exact t_)⟩,hp1⟩⟩ (by kernel_rfl) (by kernel_rfl))).cast (by (simp only [s2,q1,Bool.true_and,Bool.false_and];done))
     | false=>
       have s2:=Qbq (l:=s.use) (p:=fun s=> QbI s.lo s.hi 0 1000) h0 q0;have m2:wtL (s.lots.drop (Int.toNat 0))=wtL s.lots:=rfl;exact (GoE.endsT okF hJ Qab hg0 (QyY B s i dJ0)
        ⟨⟨trivial,(by have t_:=Qw1 (Span.lo (s.use.getD i.toNat default)) (Span.hi (s.use.getD i.toNat default)) (0) (1000);rw [q1] at t_;exact t_)⟩,hp1⟩).cast (by (simp only [s2,q1,Bool.true_and,Bool.false_and];done))
    ·have s2:=QaL (l:=s.use) (p:=fun s=> QbI s.lo s.hi 0 1000) (i:=i) (by omega);have m2:wtL (s.lots.drop (Int.toNat 0))=wtL s.lots:=rfl;exact ((ih0 _ (by (first | omega | (simp only [Int.toNat_zero,List.drop_zero];omega)))).2.2.1 (0) rfl (by omega)
      (hg0.landM okF hJ Qab (Qy3 B s i dJ0)
      ⟨(Qbj (Int.not_lt.1 q0)),trivial⟩ (by kernel_rfl) (by kernel_rfl))).cast (by (simp only [s2,Int.toNat_zero,List.drop_zero,Bool.true_and];done))
   ·intro i hm0 h0 ⟨dJ0,hdJ0,hg0⟩;by_cases q0:(i:Int) < ((↑s.lots.length:Int))
    ·have s2:=Qbq (l:=s.lots) (p:=Qqj s.stock.length) h0 q0;have s3:=Q4Q (l:=s.lots) h0 q0;exact ((ih0 _ (by omega)).2.2.2 (i) (0) rfl (by with_reducible assumption) (by with_reducible assumption) (by omega)
      (hg0.landM okF hJ Qab (Q0D B s i dJ0)
      ⟨⟨by omega,by omega,(Qag (z:=3) (fun _=> rfl) (by omega))⟩,⟨(Qbe q0),trivial⟩⟩ (by kernel_rfl) (by kernel_rfl))).cast (by (simp only [s2,Qqj,QcO,Int.toNat_zero,List.drop_zero,Bool.and_assoc];done))
    ·have hp2:Qa3 (QlD B s i dJ0):=by
      exact ⟨(Qbj (Int.not_lt.1 q0)),trivial⟩
     cases q1:inB (↑s.stock.length:Int) 1 4 with
     | true=>
       have hp3:Qa3 (Ql6 B s i dJ0):=by
        have s2:=QaL (l:=s.lots) (p:=Qqj s.stock.length) (i:=i) (by omega);exact ⟨⟨trivial,(by have t_:=rin ((↑s.stock.length:Int)) (1) (4);rw [q1] at t_;exact t_)⟩,hp2⟩
       by_cases q2:((↑s.use.length:Int):Int)=((↑s.stock.length:Int))
       ·have hp4:Qa3 (Qly B s i dJ0):=by
         exact ⟨(Qmk q2),hp3⟩
        cases q3:QbI s.glo s.ghi 1 60 with
        | true=>
          have hp5:Qa3 (QlZ B s i dJ0):=by
           have s2:=QaL (l:=s.lots) (p:=Qqj s.stock.length) (i:=i) (by omega);exact ⟨⟨trivial,(by have t_:=Q7K s.glo s.ghi;rw [q3] at t_;exact t_)⟩,hp4⟩
          by_cases q4:((↑s.lots.length:Int):Int)<=(6)
          ·have hp6:Qa3 (Ql7 B s i dJ0):=by
            exact ⟨(Qca q4),hp5⟩
           cases q5:inB s.hold 0 100000 with
           | true=>
             have s2:=QaL (l:=s.lots) (p:=Qqj s.stock.length) (i:=i) (by omega);exact (GoE.endsT okF hJ Qab hg0 (Q0X B s i dJ0)
              ⟨⟨trivial,(by have t_:=rin s.hold (0) (100000);rw [q5] at t_;exact t_)⟩,hp6⟩).cast (by (rw [s2];simp_all [storeT];omega))
           | false=>
             have s2:=QaL (l:=s.lots) (p:=Qqj s.stock.length) (i:=i) (by omega);exact (GoE.endsT okF hJ Qab hg0 (QxH B s i dJ0)
              ⟨⟨trivial,(by have t_:=rin s.hold (0) (100000);rw [q5] at t_;exact t_)⟩,hp6⟩).cast (by (rw [s2];simp [storeT, *];done))
          ·have s2:=QaL (l:=s.lots) (p:=Qqj s.stock.length) (i:=i) (by omega);exact (GoE.endsT okF hJ Qab hg0 (QyM B s i dJ0)
            ⟨(Qcb (Int.not_le.1 q4)),hp5⟩).cast (by (rw [s2];simp_all [storeT];omega))
        | false=>
          have s2:=QaL (l:=s.lots) (p:=Qqj s.stock.length) (i:=i) (by omega);exact (GoE.endsT okF hJ Qab hg0 (Qwg B s i dJ0)
           ⟨⟨trivial,(by have t_:=Q7K s.glo s.ghi;rw [q3] at t_;exact t_)⟩,hp4⟩).cast (by (rw [s2];simp [storeT, *];done))
       ·have s2:=QaL (l:=s.lots) (p:=Qqj s.stock.length) (i:=i) (by omega);exact (GoE.endsT okF hJ Qab hg0 (QvS B s i dJ0)
         ⟨(Qlu q2),hp3⟩).cast (by (rw [s2];simp_all [storeT];omega))
     | false=>
       have s2:=QaL (l:=s.lots) (p:=Qqj s.stock.length) (i:=i) (by omega);exact (GoE.endsT okF hJ Qab hg0 (Qwv B s i dJ0)
        ⟨⟨trivial,(by have t_:=rin ((↑s.stock.length:Int)) (1) (4);rw [q1] at t_;exact t_)⟩,hp2⟩).cast (by (rw [s2];simp [storeT, *];done))
   ·intro i j hm0 h0 h1 j0 ⟨dJ0,hdJ0,hg0⟩;have hgl:=hb _ (QaF h0 h1);by_cases q0:(j:Int) < ((↑(List.length (Qae.goods (s.lots.getD i.toNat default))):Int))
    ·have hp7:Qa3 (QmX B s i j dJ0):=by
      have s2:=Qbq (l:=(s.lots.getD i.toNat default).goods) (p:=fun s=> QbI s.lo s.hi 0 100000) j0 q0;exact ⟨⟨by omega,by omega,(Qag (z:=2) (fun _=> rfl) (by omega))⟩,⟨(Qbe q0),trivial⟩⟩
     cases q1:QbI (Span.lo (List.getD (Qae.goods (s.lots.getD i.toNat default)) j.toNat default)) (Span.hi (List.getD (Qae.goods (s.lots.getD i.toNat default)) j.toNat default)) 0 100000 with
     | true=>
       have s2:=Qbq (l:=(s.lots.getD i.toNat default).goods) (p:=fun s=> QbI s.lo s.hi 0 100000) j0 q0;exact ((ih0 _ (by omega)).2.2.2 (i) (j+1) rfl (by with_reducible assumption) (by with_reducible assumption) (by omega)
        (hg0.landM okF hJ Qab (QvV B s i j dJ0)
        ⟨(QaQ (by omega) (by omega)),⟨⟨trivial,(by have t_:=Qw1 (Span.lo (List.getD (Qae.goods (s.lots.getD i.toNat default)) j.toNat default)) (Span.hi (List.getD (Qae.goods (s.lots.getD i.toNat default)) j.toNat default)) (0) (100000);rw [q1] at t_;exact t_)⟩,hp7⟩⟩ (by kernel_rfl) (by kernel_rfl))).cast (by (simp only [s2,q1,Bool.true_and,Bool.false_and];done))
     | false=>
       have s2:=Qbq (l:=(s.lots.getD i.toNat default).goods) (p:=fun s=> QbI s.lo s.hi 0 100000) j0 q0;exact (GoE.endsT okF hJ Qab hg0 (QwB B s i j dJ0)
        ⟨⟨trivial,(by have t_:=Qw1 (Span.lo (List.getD (Qae.goods (s.lots.getD i.toNat default)) j.toNat default)) (Span.hi (List.getD (Qae.goods (s.lots.getD i.toNat default)) j.toNat default)) (0) (100000);rw [q1] at t_;exact t_)⟩,hp7⟩).cast (by (simp only [s2,q1,Bool.true_and,Bool.false_and];done))
    ·have hp8:Qa3 (QmG B s i j dJ0):=by
      exact ⟨(Qbj (Int.not_lt.1 q0)),trivial⟩
     by_cases q1:((↑(List.length (Qae.goods (s.lots.getD i.toNat default))):Int):Int)≠((↑s.stock.length:Int))
     ·have s2:=QaL (l:=(s.lots.getD i.toNat default).goods) (p:=fun s=> QbI s.lo s.hi 0 100000) (i:=j) (by omega);exact (GoE.endsT okF hJ Qab hg0 (Qwy B s i j dJ0)
       ⟨(QqV q1),hp8⟩).cast (by (simp only [s2,Bool.true_and];simp_all;omega))
     ·have hp9:Qa3 (QlQ B s i j dJ0):=by
       exact ⟨(QsI (Decidable.of_not_not q1)),hp8⟩
      cases q2:inB (Qae.weight (s.lots.getD i.toNat default)) 0 100000 with
      | true=>
        have hp10:Qa3 (QjF B s i j dJ0):=by
         have s2:=QaL (l:=(s.lots.getD i.toNat default).goods) (p:=fun s=> QbI s.lo s.hi 0 100000) (i:=j) (by omega);exact ⟨⟨trivial,(by have t_:=rin (Qae.weight (s.lots.getD i.toNat default)) (0) (100000);rw [q2] at t_;exact t_)⟩,hp9⟩
        cases q3:inB (Qae.cost (s.lots.getD i.toNat default)) 0 1000000 with
        | true=>
          have s2:=QaL (l:=(s.lots.getD i.toNat default).goods) (p:=fun s=> QbI s.lo s.hi 0 100000) (i:=j) (by omega);exact ((ih0 _ (by omega)).2.2.1 (i+1) rfl (by omega)
           (hg0.landM okF hJ Qab (Qwa B s i j dJ0)
           ⟨(QaQ (by omega) (by omega)),⟨⟨trivial,(by have t_:=rin (Qae.cost (s.lots.getD i.toNat default)) (0) (1000000);rw [q3] at t_;exact t_)⟩,hp10⟩⟩ (by kernel_rfl) (by kernel_rfl))).cast (by (simp only [s2,Bool.true_and];simp_all;omega))
        | false=>
          have s2:=QaL (l:=(s.lots.getD i.toNat default).goods) (p:=fun s=> QbI s.lo s.hi 0 100000) (i:=j) (by omega);exact (GoE.endsT okF hJ Qab hg0 (Qxp B s i j dJ0)
           ⟨⟨trivial,(by have t_:=rin (Qae.cost (s.lots.getD i.toNat default)) (0) (1000000);rw [q3] at t_;exact t_)⟩,hp10⟩).cast (by (simp only [s2,Bool.true_and];simp [*];done))
      | false=>
        have s2:=QaL (l:=(s.lots.getD i.toNat default).goods) (p:=fun s=> QbI s.lo s.hi 0 100000) (i:=j) (by omega);exact (GoE.endsT okF hJ Qab hg0 (Qxl B s i j dJ0)
         ⟨⟨trivial,(by have t_:=rin (Qae.weight (s.lots.getD i.toNat default)) (0) (100000);rw [q2] at t_;exact t_)⟩,hp9⟩).cast (by (simp only [s2,Bool.true_and];simp [*];done))
set_option maxHeartbeats 4000000 in
theorem Q1O (s:Qaa) (hb:∀l∈s.lots,l.goods.length<=8) (hfacts:s.stock.length<=9223372036854775807/\s.use.length<=9223372036854775807/\s.lots.length<=9223372036854775807) {B:Lo} (hJ:∀w,B.has w->J0 w):EndsT YP B (Qaj YP 44 110 (([.agg (Qah s).toArray]).map (Qao 0 4))) (.bool (Quk s)):=by
 exact ((QzI s hb hfacts hJ _).1 (0) rfl (by omega)
  (GoE.start.landM okF hJ Qab (QvF B s)
  trivial (by kernel_rfl) (by kernel_rfl))).cast (by rfl)
theorem Q5K (s:Qaa) (hb:∀l∈s.lots,l.goods.length<=8):Qam YP J0 44 #[.agg (Qah s).toArray] (.bool (Quk s)):=
 Qct (ts:=[.agg (Qah s).toArray]) (s.stock.length<=9223372036854775807/\s.use.length<=9223372036854775807/\s.lots.length<=9223372036854775807) (fun _ _ ht=> ⟨ht.ln2 (i:=0) (j:=0) rfl rfl,ht.ln2 (i:=0) (j:=1) rfl rfl,ht.ln2 (i:=0) (j:=4) rfl rfl⟩) Qb1 (c0:=Qaj YP 44 110 (([.agg (Qah s).toArray]).map (Qao 0 4))) (by kernel_rfl) (by kernel_rfl) fun hfacts B hJ=> Q1O s hb hfacts hJ
def Qcv (s:Qaa) (i:Int):List Value:=[pA 2 0,.int .i64 i]
def Qbi (s:Qaa) (i:Int):List Obj:=[Obj.cells #[Qa0 1 (slT s.stock.length (Qac Qat s.stock)),Qa0 1 (slT s.use.length (Qac Qa9 s.use)),.int .i64 s.glo,.int .i64 s.ghi,Qa0 1 (slT s.lots.length (Qac Qan s.lots)),.int .i64 s.hold] 62]
def Qcr:List Item:=([.code [1,0,1,0,0],.inLoop [1,0,1,0,0],.inBlock 0,.code [1,1]]).map (it (Qaq YP 36))
def Q1v (B:Lo) (c0:CF) (s:Qaa) (i:Int):Prop:=∃dJ:Nat->Value,(∀t,Qbd (dJ t))/\GoE YP B c0 H00 1 (Qa8 36 39 (([1,3]:List Nat).zip (Qcv s i)) dJ Qcr) (Qa6 (Qbi s i)) (2+(Qbi s i).length) []
def QmT (B:Lo) (s:Qaa) (i:Int) (dJ0:Nat->Value):List Prop:=[ltq i (↑s.lots.length:Int)=true]++([]:List Prop)
def QqF (s:Qaa) (i:Int) (dJ0:Nat->Value):Qas:=[(4,hvT)]
def Qnh (B:Lo) (s:Qaa) (i:Int) (dJ0:Nat->Value):List Prop:=[i=(↑i.toNat:Int)/\Int.toNat i < List.length s.lots/\Array.extract (Qac Qan s.lots) (Int.toNat i * TypeInfo.size Tryz.t118) (Int.toNat i * TypeInfo.size Tryz.t118+TypeInfo.size Tryz.t118)=#[slT (List.length (Qae.goods (s.lots.getD i.toNat default))) (Qac Qa9 (Qae.goods (s.lots.getD i.toNat default))),.int .i64 (Qae.weight (s.lots.getD i.toNat default)),.int .i64 (Qae.cost (s.lots.getD i.toNat default))],ltq i 12=true]++QmT B s i dJ0
def Qr3 (s:Qaa) (i:Int) (dJ0:Nat->Value):Qas:=QqF s i dJ0++[(7,hvT),(12,Qai.tidx i.toNat #[slT (List.length (Qae.goods (s.lots.getD i.toNat default))) (Qac Qa9 (Qae.goods (s.lots.getD i.toNat default))),.int .i64 (Qae.weight (s.lots.getD i.toNat default)),.int .i64 (Qae.cost (s.lots.getD i.toNat default))])]
theorem Qy5 (B:Lo) (s:Qaa) (i:Int) (dJ0:Nat->Value):QaU (Qal YP (Qa1 YP) J0 B 14 1 (Qa8 36 39 (([1,3]:List Nat).zip (Qcv s i)) dJ0 Qcr) (Qa6 (Qbi s i)) (2+(Qbi s i).length)
 (Qr3 s i dJ0++[(16,hvT)]) 0 [] []) []=some (.bool false,
 [ltq 8 (↑(List.length (Qae.goods (s.lots.getD i.toNat default))):Int)=true]++Qnh B s i dJ0):=by kernel_rfl
theorem Q0h (B:Lo) (s:Qaa) (i:Int) (dJ0:Nat->Value):landM (Qal YP (Qa1 YP) J0 B 14 1 (Qa8 36 39 (([1,3]:List Nat).zip (Qcv s i)) dJ0 Qcr) (Qa6 (Qbi s i)) (2+(Qbi s i).length)
 (Qr3 s i dJ0++[(16,hvF),(18,hvI (i+1))]) 0 [] []) [1,3] [(2,KS.auto)] []=some ⟨36,39,Qcr,[],.run,none,Qcv s (i+1),Qbi s (i+1),
 [wq (i+1)=i+1,ltq 8 (↑(List.length (Qae.goods (s.lots.getD i.toNat default))):Int)=false]++Qnh B s i dJ0⟩:=by kernel_rfl
def QmR (B:Lo) (s:Qaa) (i:Int) (dJ0:Nat->Value):List Prop:=[ltq i 12=false]++QmT B s i dJ0
def QqX (s:Qaa) (i:Int) (dJ0:Nat->Value):Qas:=QqF s i dJ0++[(7,hvF)]
def Qms (B:Lo) (s:Qaa) (i:Int) (dJ0:Nat->Value):List Prop:=[(!ltq 8 (↑s.stock.length:Int))=true]++QmR B s i dJ0
def Qs9 (s:Qaa) (i:Int) (dJ0:Nat->Value):Qas:=QqX s i dJ0++[(12,hvT)]
def QlT (B:Lo) (s:Qaa) (i:Int) (dJ0:Nat->Value):List Prop:=[(!ltq 8 (↑s.use.length:Int))=true]++Qms B s i dJ0
def QrJ (s:Qaa) (i:Int) (dJ0:Nat->Value):Qas:=Qs9 s i dJ0++[(17,hvT)]
theorem Q1h (B:Lo) (s:Qaa) (i:Int) (dJ0:Nat->Value):QaU (Qal YP (Qa1 YP) J0 B 9 1 (Qa8 36 39 (([1,3]:List Nat).zip (Qcv s i)) dJ0 Qcr) (Qa6 (Qbi s i)) (2+(Qbi s i).length)
 (QrJ s i dJ0++[(23,hvT)]) 0 [] []) []=some (.bool true,
 [(!ltq 9 (↑s.lots.length:Int))=true]++QlT B s i dJ0):=by kernel_rfl
theorem QyX (B:Lo) (s:Qaa) (i:Int) (dJ0:Nat->Value):QaU (Qal YP (Qa1 YP) J0 B 9 1 (Qa8 36 39 (([1,3]:List Nat).zip (Qcv s i)) dJ0 Qcr) (Qa6 (Qbi s i)) (2+(Qbi s i).length)
 (QrJ s i dJ0++[(23,hvF)]) 0 [] []) []=some (.bool false,
 [(!ltq 9 (↑s.lots.length:Int))=false]++QlT B s i dJ0):=by kernel_rfl
theorem QxT (B:Lo) (s:Qaa) (i:Int) (dJ0:Nat->Value):QaU (Qal YP (Qa1 YP) J0 B 9 1 (Qa8 36 39 (([1,3]:List Nat).zip (Qcv s i)) dJ0 Qcr) (Qa6 (Qbi s i)) (2+(Qbi s i).length)
 (Qs9 s i dJ0++[(17,hvF)]) 0 [] []) []=some (.bool false,
 [(!ltq 8 (↑s.use.length:Int))=false]++Qms B s i dJ0):=by kernel_rfl
theorem Qz6 (B:Lo) (s:Qaa) (i:Int) (dJ0:Nat->Value):QaU (Qal YP (Qa1 YP) J0 B 9 1 (Qa8 36 39 (([1,3]:List Nat).zip (Qcv s i)) dJ0 Qcr) (Qa6 (Qbi s i)) (2+(Qbi s i).length)
 (QqX s i dJ0++[(12,hvF)]) 0 [] []) []=some (.bool false,
 [(!ltq 8 (↑s.stock.length:Int))=false]++QmR B s i dJ0):=by kernel_rfl
def Qnx (B:Lo) (s:Qaa) (i:Int) (dJ0:Nat->Value):List Prop:=[ltq i (↑s.lots.length:Int)=false]++([]:List Prop)
def Qrs (s:Qaa) (i:Int) (dJ0:Nat->Value):Qas:=[(4,hvF)]
def Qmm (B:Lo) (s:Qaa) (i:Int) (dJ0:Nat->Value):List Prop:=[(!ltq 8 (↑s.stock.length:Int))=true]++Qnx B s i dJ0
def Qse (s:Qaa) (i:Int) (dJ0:Nat->Value):Qas:=Qrs s i dJ0++[(12,hvT)]
def Qng (B:Lo) (s:Qaa) (i:Int) (dJ0:Nat->Value):List Prop:=[(!ltq 8 (↑s.use.length:Int))=true]++Qmm B s i dJ0
def Qs1 (s:Qaa) (i:Int) (dJ0:Nat->Value):Qas:=Qse s i dJ0++[(17,hvT)]
theorem Q0y (B:Lo) (s:Qaa) (i:Int) (dJ0:Nat->Value):QaU (Qal YP (Qa1 YP) J0 B 9 1 (Qa8 36 39 (([1,3]:List Nat).zip (Qcv s i)) dJ0 Qcr) (Qa6 (Qbi s i)) (2+(Qbi s i).length)
 (Qs1 s i dJ0++[(23,hvT)]) 0 [] []) []=some (.bool true,
 [(!ltq 9 (↑s.lots.length:Int))=true]++Qng B s i dJ0):=by kernel_rfl
theorem Q1x (B:Lo) (s:Qaa) (i:Int) (dJ0:Nat->Value):QaU (Qal YP (Qa1 YP) J0 B 9 1 (Qa8 36 39 (([1,3]:List Nat).zip (Qcv s i)) dJ0 Qcr) (Qa6 (Qbi s i)) (2+(Qbi s i).length)
 (Qs1 s i dJ0++[(23,hvF)]) 0 [] []) []=some (.bool false,
 [(!ltq 9 (↑s.lots.length:Int))=false]++Qng B s i dJ0):=by kernel_rfl
theorem Q02 (B:Lo) (s:Qaa) (i:Int) (dJ0:Nat->Value):QaU (Qal YP (Qa1 YP) J0 B 9 1 (Qa8 36 39 (([1,3]:List Nat).zip (Qcv s i)) dJ0 Qcr) (Qa6 (Qbi s i)) (2+(Qbi s i).length)
 (Qse s i dJ0++[(17,hvF)]) 0 [] []) []=some (.bool false,
 [(!ltq 8 (↑s.use.length:Int))=false]++Qmm B s i dJ0):=by kernel_rfl
theorem Qx9 (B:Lo) (s:Qaa) (i:Int) (dJ0:Nat->Value):QaU (Qal YP (Qa1 YP) J0 B 9 1 (Qa8 36 39 (([1,3]:List Nat).zip (Qcv s i)) dJ0 Qcr) (Qa6 (Qbi s i)) (2+(Qbi s i).length)
 (Qrs s i dJ0++[(12,hvF)]) 0 [] []) []=some (.bool false,
 [(!ltq 8 (↑s.stock.length:Int))=false]++Qnx B s i dJ0):=by kernel_rfl
theorem Qxx (B:Lo) (s:Qaa):landM (Qal YP (Qa1 YP) J0 B 7 1 (Qaj YP 36 39 (([.agg (Qah s).toArray]).map (Qao 0 4))) H00 1
 [] 0 [] []) [1,3] [(1,KS.auto)] []=some ⟨36,39,Qcr,[],.run,none,Qcv s (0),Qbi s (0),
 []⟩:=by kernel_rfl
set_option maxHeartbeats 4000000 in
theorem Q0x (s:Qaa)  (hfacts:s.stock.length<=9223372036854775807/\s.use.length<=9223372036854775807/\s.lots.length<=9223372036854775807) {B:Lo} (hJ:∀w,B.has w->J0 w) {c0:CF}:∀m:Nat,(∀(i:Int),s.lots.length - i.toNat=m->∀(h0:0<=i),Q1v B c0 s i->EndsT YP B c0 (.bool (((s.lots.take 12).drop i.toNat).all (fun l=> decide (l.goods.length<=8)) && (decide (s.stock.length<=8) && (decide (s.use.length<=8) && decide (s.lots.length<=9)))))):=by
 intro m0;induction m0 using Nat.strongRecOn with
 | _ m0 ih0=>
   intro i hm0 h0 ⟨dJ0,hdJ0,hg0⟩;by_cases q0:(i:Int) < ((↑s.lots.length:Int))
   ·have hp0:Qa3 (QmT B s i dJ0):=by
     exact ⟨(Qbe q0),trivial⟩
    by_cases q1:(i:Int) < (12)
    ·have hp1:Qa3 (Qnh B s i dJ0):=by
      have s2:=Qbq (l:=s.lots.take 12) (p:=fun l=> decide (l.goods.length<=8)) h0 (by rw [List.length_take];omega);have e3:(s.lots.take 12).getD i.toNat default=s.lots.getD i.toNat default:=by simp only [List.getD_eq_getElem?_getD];rw [List.getElem?_take_of_lt (by omega)]
      rw [e3] at s2;exact ⟨⟨by omega,by omega,(Qag (z:=3) (fun _=> rfl) (by omega))⟩,⟨(Qbe q1),hp0⟩⟩
     by_cases q2:(8:Int) < ((↑(List.length (Qae.goods (s.lots.getD i.toNat default))):Int))
     ·have s2:=Qbq (l:=s.lots.take 12) (p:=fun l=> decide (l.goods.length<=8)) h0 (by rw [List.length_take];omega);have e3:(s.lots.take 12).getD i.toNat default=s.lots.getD i.toNat default:=by simp only [List.getD_eq_getElem?_getD];rw [List.getElem?_take_of_lt (by omega)]
      rw [e3] at s2;rw [decide_eq_false (by omega)] at s2;exact (GoE.endsT okF hJ Qab hg0 (Qy5 B s i dJ0)
       ⟨(Qbe q2),hp1⟩).cast (by (simp only [s2,Bool.true_and,Bool.false_and];done))
     ·have s2:=Qbq (l:=s.lots.take 12) (p:=fun l=> decide (l.goods.length<=8)) h0 (by rw [List.length_take];omega);have e3:(s.lots.take 12).getD i.toNat default=s.lots.getD i.toNat default:=by simp only [List.getD_eq_getElem?_getD];rw [List.getElem?_take_of_lt (by omega)]
      rw [e3] at s2;rw [decide_eq_true (by omega)] at s2;exact ((ih0 _ (by omega)) (i+1) rfl (by omega)
       (hg0.landM okF hJ Qab (Q0h B s i dJ0)
       ⟨(QaQ (by omega) (by omega)),⟨(Qbj (Int.not_lt.1 q2)),hp1⟩⟩ (by kernel_rfl) (by kernel_rfl))).cast (by (simp only [s2,Bool.true_and,Bool.false_and];done))
    ·have hp2:Qa3 (QmR B s i dJ0):=by
      exact ⟨(Qbj (Int.not_lt.1 q1)),hp0⟩
     by_cases q2:((↑s.stock.length:Int):Int)<=(8)
     ·have hp3:Qa3 (Qms B s i dJ0):=by
       exact ⟨(Qca q2),hp2⟩
      by_cases q3:((↑s.use.length:Int):Int)<=(8)
      ·have hp4:Qa3 (QlT B s i dJ0):=by
        exact ⟨(Qca q3),hp3⟩
       by_cases q4:((↑s.lots.length:Int):Int)<=(9)
       ·have s2:=Qbq (l:=s.lots.take 12) (p:=fun l=> decide (l.goods.length<=8)) h0 (by rw [List.length_take];omega);have e3:(s.lots.take 12).getD i.toNat default=s.lots.getD i.toNat default:=by simp only [List.getD_eq_getElem?_getD];rw [List.getElem?_take_of_lt (by omega)]
        rw [e3] at s2;rw [decide_eq_true (by omega)] at s2;have s2:=QaL (l:=s.lots.take 12) (p:=fun l=> decide (l.goods.length<=8)) (i:=i) (by rw [List.length_take];omega);exact (GoE.endsT okF hJ Qab hg0 (Q1h B s i dJ0)
         ⟨(Qca q4),hp4⟩).cast (by (simp only [s2,Bool.true_and];simp_all;omega))
       ·have s2:=QaL (l:=s.lots.take 12) (p:=fun l=> decide (l.goods.length<=8)) (i:=i) (by rw [List.length_take];omega);exact (GoE.endsT okF hJ Qab hg0 (QyX B s i dJ0)
         ⟨(Qcb (Int.not_le.1 q4)),hp4⟩).cast (by (simp only [s2,Bool.true_and];simp_all;omega))
      ·have s2:=QaL (l:=s.lots.take 12) (p:=fun l=> decide (l.goods.length<=8)) (i:=i) (by rw [List.length_take];omega);exact (GoE.endsT okF hJ Qab hg0 (QxT B s i dJ0)
        ⟨(Qcb (Int.not_le.1 q3)),hp3⟩).cast (by (simp only [s2,Bool.true_and];simp_all;omega))
     ·have s2:=QaL (l:=s.lots.take 12) (p:=fun l=> decide (l.goods.length<=8)) (i:=i) (by rw [List.length_take];omega);exact (GoE.endsT okF hJ Qab hg0 (Qz6 B s i dJ0)
       ⟨(Qcb (Int.not_le.1 q2)),hp2⟩).cast (by (simp only [s2,Bool.true_and];simp_all;omega))
   ·have hp5:Qa3 (Qnx B s i dJ0):=by
     exact ⟨(Qbj (Int.not_lt.1 q0)),trivial⟩
    by_cases q1:((↑s.stock.length:Int):Int)<=(8)
    ·have hp6:Qa3 (Qmm B s i dJ0):=by
      exact ⟨(Qca q1),hp5⟩
     by_cases q2:((↑s.use.length:Int):Int)<=(8)
     ·have hp7:Qa3 (Qng B s i dJ0):=by
       exact ⟨(Qca q2),hp6⟩
      by_cases q3:((↑s.lots.length:Int):Int)<=(9)
      ·have s2:=QaL (l:=s.lots.take 12) (p:=fun l=> decide (l.goods.length<=8)) (i:=i) (by rw [List.length_take];omega);exact (GoE.endsT okF hJ Qab hg0 (Q0y B s i dJ0)
        ⟨(Qca q3),hp7⟩).cast (by (simp only [s2,Bool.true_and];simp_all;omega))
      ·have s2:=QaL (l:=s.lots.take 12) (p:=fun l=> decide (l.goods.length<=8)) (i:=i) (by rw [List.length_take];omega);exact (GoE.endsT okF hJ Qab hg0 (Q1x B s i dJ0)
        ⟨(Qcb (Int.not_le.1 q3)),hp7⟩).cast (by (simp only [s2,Bool.true_and];simp_all;omega))
     ·have s2:=QaL (l:=s.lots.take 12) (p:=fun l=> decide (l.goods.length<=8)) (i:=i) (by rw [List.length_take];omega);exact (GoE.endsT okF hJ Qab hg0 (Q02 B s i dJ0)
       ⟨(Qcb (Int.not_le.1 q2)),hp6⟩).cast (by (simp only [s2,Bool.true_and];simp_all;omega))
    ·have s2:=QaL (l:=s.lots.take 12) (p:=fun l=> decide (l.goods.length<=8)) (i:=i) (by rw [List.length_take];omega);exact (GoE.endsT okF hJ Qab hg0 (Qx9 B s i dJ0)
      ⟨(Qcb (Int.not_le.1 q1)),hp5⟩).cast (by (simp only [s2,Bool.true_and];simp_all;omega))
set_option maxHeartbeats 4000000 in
theorem Q3E (s:Qaa)  (hfacts:s.stock.length<=9223372036854775807/\s.use.length<=9223372036854775807/\s.lots.length<=9223372036854775807) {B:Lo} (hJ:∀w,B.has w->J0 w):EndsT YP B (Qaj YP 36 39 (([.agg (Qah s).toArray]).map (Qao 0 4))) (.bool (((s.lots.take 12).all fun l=> decide (l.goods.length<=8)) && (decide (s.stock.length<=8) && (decide (s.use.length<=8) && decide (s.lots.length<=9))))):=by
 exact ((Q0x s hfacts hJ _) (0) rfl (by omega)
  (GoE.start.landM okF hJ Qab (Qxx B s)
  trivial (by kernel_rfl) (by kernel_rfl))).cast (by rfl)
theorem Q6h (s:Qaa)  :Qam YP J0 36 #[.agg (Qah s).toArray] (.bool (((s.lots.take 12).all fun l=> decide (l.goods.length<=8)) && (decide (s.stock.length<=8) && (decide (s.use.length<=8) && decide (s.lots.length<=9))))):=
 Qct (ts:=[.agg (Qah s).toArray]) (s.stock.length<=9223372036854775807/\s.use.length<=9223372036854775807/\s.lots.length<=9223372036854775807) (fun _ _ ht=> ⟨ht.ln2 (i:=0) (j:=0) rfl rfl,ht.ln2 (i:=0) (j:=1) rfl rfl,ht.ln2 (i:=0) (j:=4) rfl rfl⟩) Qb1 (c0:=Qaj YP 36 39 (([.agg (Qah s).toArray]).map (Qao 0 4))) (by kernel_rfl) (by kernel_rfl) fun hfacts B hJ=> Q3E s  hfacts hJ
end
end Go.Proofs.YtiabgkiccaodmaaGreat

namespace Go.Proofs.YtiabgkiccaodmaaGreat
open Go Go.CE Go.RowKit
noncomputable section
set_option maxRecDepth 100000
def QcV (l:List Int) (i:Int):Int:=if 0 < i then l.getD (i - 1).toNat default else -1
def Q39 (s:Qaa) (l:List Int):Int:=QeO (l.map fun x=> (s.lots.getD x.toNat default).weight)
theorem Qfn {s:Qaa} {i:Int} {l:List Int} (h0:0<=i) (h:i < l.length):Q39 s (l.drop i.toNat)=(s.lots.getD (l.getD i.toNat default).toNat default).weight+Q39 s (l.drop (i+1).toNat):=by
 obtain ⟨k,rfl⟩:∃k:Nat,i=k:=⟨i.toNat,by omega⟩
 have hk:k < l.length:=by omega
 have e1:((k:Int)).toNat=k:=by omega
 have e2:((k:Int)+1).toNat=k+1:=by omega
 unfold Q39;rw [e1,e2,List.drop_eq_getElem_cons hk,List.map_cons];simp [QeO,List.getD_eq_getElem?_getD,hk]
theorem Qu2 {s:Qaa} {i:Int} {l:List Int} (h:l.length<=i):Q39 s (l.drop i.toNat)=0:=by
 rw [List.drop_eq_nil_of_le (by omega)];rfl
theorem QtQ {l:List Int} {i:Int} (h0:0<=i):QcV l (i+1)=l.getD i.toNat default:=by
 unfold QcV;rw [if_pos (by omega),show i+1 - 1=i by omega]
theorem Q6u {x lo hi:Int} (q:inB x lo hi=false):¬(lo<=x/\x<=hi):=fun h=> by rw [QaA.2 h] at q;cases q
theorem Q7B {x lo hi:Int} (h:¬(lo<=x/\x<=hi)):inB x lo hi=false:=by
 cases hc:inB x lo hi with
 | false=> rfl
 | true=> exact absurd (QaA.1 hc) h
def Qez (s:Qaa) (load:List Int) (w i:Int):List Value:=[Qa0 1 (slT load.length (Qac Qat load)),pA 2 0,.int .i64 w,.int .i64 i]
def Qci (s:Qaa) (load:List Int) (w i:Int):List Obj:=[Obj.cells #[Qa0 1 (slT s.stock.length (Qac Qat s.stock)),Qa0 1 (slT s.use.length (Qac Qa9 s.use)),.int .i64 s.glo,.int .i64 s.ghi,Qa0 1 (slT s.lots.length (Qac Qan s.lots)),.int .i64 s.hold] 62]
def Qe2:List Item:=([.code [1,1,0,1,0,0],.inLoop [1,1,0,1,0,0],.inBlock 0,.code [1,1,1]]).map (it (Qaq YP 56))
def Q3g (B:Lo) (c0:CF) (s:Qaa) (load:List Int) (w i:Int):Prop:=∃dJ:Nat->Value,(∀t,Qbd (dJ t))/\GoE YP B c0 H00 1 (Qa8 56 54 (([1,2,5,6]:List Nat).zip (Qez s load w i)) dJ Qe2) (Qa6 (Qci s load w i)) (2+(Qci s load w i).length) []
def Qlj (s:Qaa) (load:List Int) (i:Int):Array Value:=#[slT (List.length (Qae.goods (s.lots.getD (Int.toNat (load.getD i.toNat default)) default))) (Qac Qa9 (Qae.goods (s.lots.getD (Int.toNat (load.getD i.toNat default)) default))),.int .i64 (Qae.weight (s.lots.getD (Int.toNat (load.getD i.toNat default)) default)),.int .i64 (Qae.cost (s.lots.getD (Int.toNat (load.getD i.toNat default)) default))]
def Qpt (B:Lo) (s:Qaa) (load:List Int) (w i:Int) (dJ0:Nat->Value):List Prop:=[wq ((↑s.lots.length:Int) - 1)=(↑s.lots.length:Int) - 1,i=(↑i.toNat:Int)/\Int.toNat i < List.length load/\Array.extract (Qac Qat load) (Int.toNat i * TypeInfo.size Tryz.t3) (Int.toNat i * TypeInfo.size Tryz.t3+TypeInfo.size Tryz.t3)=#[.int .i64 (load.getD i.toNat default)],ltq i (↑load.length:Int)=true]++([]:List Prop)
def QuD (s:Qaa) (load:List Int) (w i:Int) (dJ0:Nat->Value):Qas:=[(3,hvT),(6,Qai.tidx i.toNat #[.int .i64 (load.getD i.toNat default)]),(11,hvI ((↑s.lots.length:Int) - 1))]
def QpF (B:Lo) (s:Qaa) (load:List Int) (w i:Int) (dJ0:Nat->Value):List Prop:=[Qa3 []/\Qam YP J0 69 #[.int .i64 (load.getD i.toNat default),.int .i64 0,.int .i64 ((↑s.lots.length:Int) - 1)] (.bool true)]++Qpt B s load w i dJ0
def Qvb (s:Qaa) (load:List Int) (w i:Int) (dJ0:Nat->Value):Qas:=QuD s load w i dJ0++[(12,Qai.pure (.bool true) [])]
def QoQ (B:Lo) (s:Qaa) (load:List Int) (w i:Int) (dJ0:Nat->Value):List Prop:=[i - 1=(↑(Int.toNat (i - 1)):Int)/\Int.toNat (i - 1) < List.length load/\Array.extract (Qac Qat load) (Int.toNat (i - 1) * TypeInfo.size Tryz.t3) (Int.toNat (i - 1) * TypeInfo.size Tryz.t3+TypeInfo.size Tryz.t3)=#[.int .i64 (load.getD (Int.toNat (i - 1)) default)],wq (i - 1)=i - 1,i=(↑i.toNat:Int)/\Int.toNat i < List.length load/\Array.extract (Qac Qat load) (Int.toNat i * TypeInfo.size Tryz.t3) (Int.toNat i * TypeInfo.size Tryz.t3+TypeInfo.size Tryz.t3)=#[.int .i64 (load.getD i.toNat default)],ltq 0 i=true]++QpF B s load w i dJ0
def Qun (s:Qaa) (load:List Int) (w i:Int) (dJ0:Nat->Value):Qas:=Qvb s load w i dJ0++[(16,hvT),(20,Qai.tidx i.toNat #[.int .i64 (load.getD i.toNat default)]),(24,hvI (i - 1)),(25,Qai.tidx (Int.toNat (i - 1)) #[.int .i64 (load.getD (Int.toNat (i - 1)) default)])]
theorem Q2Y (B:Lo) (s:Qaa) (load:List Int) (w i:Int) (dJ0:Nat->Value):QaU (Qal YP (Qa1 YP) J0 B 15 1 (Qa8 56 54 (([1,2,5,6]:List Nat).zip (Qez s load w i)) dJ0 Qe2) (Qa6 (Qci s load w i)) (2+(Qci s load w i).length)
 (Qun s load w i dJ0++[(27,hvT)]) 0 [] []) []=some (.bool false,
 [(!ltq (load.getD (Int.toNat (i - 1)) default) (load.getD i.toNat default))=true]++QoQ B s load w i dJ0):=by kernel_rfl
theorem Q3H (B:Lo) (s:Qaa) (load:List Int) (w i:Int) (dJ0:Nat->Value):landM (Qal YP (Qa1 YP) J0 B 16 1 (Qa8 56 54 (([1,2,5,6]:List Nat).zip (Qez s load w i)) dJ0 Qe2) (Qa6 (Qci s load w i)) (2+(Qci s load w i).length)
 (Qun s load w i dJ0++[(27,hvF),(35,Qai.tidx i.toNat #[.int .i64 (load.getD i.toNat default)]),(37,Qai.tidx (Int.toNat (load.getD i.toNat default)) (Qlj s load i)),(40,hvI (w+Qae.weight (s.lots.getD (Int.toNat (load.getD i.toNat default)) default))),(43,hvI (i+1))]) 0 [] []) [1,2,5,6] [(2,KS.auto)] []=some ⟨56,54,Qe2,[],.run,none,Qez s load (w+Qae.weight (s.lots.getD (Int.toNat (load.getD i.toNat default)) default)) (i+1),Qci s load (w+Qae.weight (s.lots.getD (Int.toNat (load.getD i.toNat default)) default)) (i+1),
 [wq (i+1)=i+1,wq (w+Qae.weight (s.lots.getD (Int.toNat (load.getD i.toNat default)) default))=w+Qae.weight (s.lots.getD (Int.toNat (load.getD i.toNat default)) default),load.getD i.toNat default=(↑(Int.toNat (load.getD i.toNat default)):Int)/\Int.toNat (load.getD i.toNat default) < List.length s.lots/\Array.extract (Qac Qan s.lots) (Int.toNat (load.getD i.toNat default) * TypeInfo.size Tryz.t118) (Int.toNat (load.getD i.toNat default) * TypeInfo.size Tryz.t118+TypeInfo.size Tryz.t118)=(Qlj s load i),i=(↑i.toNat:Int)/\Int.toNat i < List.length load/\Array.extract (Qac Qat load) (Int.toNat i * TypeInfo.size Tryz.t3) (Int.toNat i * TypeInfo.size Tryz.t3+TypeInfo.size Tryz.t3)=#[.int .i64 (load.getD i.toNat default)],(!ltq (load.getD (Int.toNat (i - 1)) default) (load.getD i.toNat default))=false]++QoQ B s load w i dJ0⟩:=by kernel_rfl
theorem Q3C (B:Lo) (s:Qaa) (load:List Int) (w i:Int) (dJ0:Nat->Value):landM (Qal YP (Qa1 YP) J0 B 16 1 (Qa8 56 54 (([1,2,5,6]:List Nat).zip (Qez s load w i)) dJ0 Qe2) (Qa6 (Qci s load w i)) (2+(Qci s load w i).length)
 (Qvb s load w i dJ0++[(16,hvF),(35,Qai.tidx i.toNat #[.int .i64 (load.getD i.toNat default)]),(37,Qai.tidx (Int.toNat (load.getD i.toNat default)) (Qlj s load i)),(40,hvI (w+Qae.weight (s.lots.getD (Int.toNat (load.getD i.toNat default)) default))),(43,hvI (i+1))]) 0 [] []) [1,2,5,6] [(2,KS.auto)] []=some ⟨56,54,Qe2,[],.run,none,Qez s load (w+Qae.weight (s.lots.getD (Int.toNat (load.getD i.toNat default)) default)) (i+1),Qci s load (w+Qae.weight (s.lots.getD (Int.toNat (load.getD i.toNat default)) default)) (i+1),
 [wq (i+1)=i+1,wq (w+Qae.weight (s.lots.getD (Int.toNat (load.getD i.toNat default)) default))=w+Qae.weight (s.lots.getD (Int.toNat (load.getD i.toNat default)) default),load.getD i.toNat default=(↑(Int.toNat (load.getD i.toNat default)):Int)/\Int.toNat (load.getD i.toNat default) < List.length s.lots/\Array.extract (Qac Qan s.lots) (Int.toNat (load.getD i.toNat default) * TypeInfo.size Tryz.t118) (Int.toNat (load.getD i.toNat default) * TypeInfo.size Tryz.t118+TypeInfo.size Tryz.t118)=(Qlj s load i),i=(↑i.toNat:Int)/\Int.toNat i < List.length load/\Array.extract (Qac Qat load) (Int.toNat i * TypeInfo.size Tryz.t3) (Int.toNat i * TypeInfo.size Tryz.t3+TypeInfo.size Tryz.t3)=#[.int .i64 (load.getD i.toNat default)],ltq 0 i=false]++QpF B s load w i dJ0⟩:=by kernel_rfl
theorem Q3d (B:Lo) (s:Qaa) (load:List Int) (w i:Int) (dJ0:Nat->Value):QaU (Qal YP (Qa1 YP) J0 B 15 1 (Qa8 56 54 (([1,2,5,6]:List Nat).zip (Qez s load w i)) dJ0 Qe2) (Qa6 (Qci s load w i)) (2+(Qci s load w i).length)
 (QuD s load w i dJ0++[(12,Qai.pure (.bool false) [])]) 0 [] []) []=some (.bool false,
 [Qa3 []/\Qam YP J0 69 #[.int .i64 (load.getD i.toNat default),.int .i64 0,.int .i64 ((↑s.lots.length:Int) - 1)] (.bool false)]++Qpt B s load w i dJ0):=by kernel_rfl
def Qpd (B:Lo) (s:Qaa) (load:List Int) (w i:Int) (dJ0:Nat->Value):List Prop:=[ltq i (↑load.length:Int)=false]++([]:List Prop)
def QuE (s:Qaa) (load:List Int) (w i:Int) (dJ0:Nat->Value):Qas:=[(3,hvF)]
theorem Q16 (B:Lo) (s:Qaa) (load:List Int) (w i:Int) (dJ0:Nat->Value):QaU (Qal YP (Qa1 YP) J0 B 9 1 (Qa8 56 54 (([1,2,5,6]:List Nat).zip (Qez s load w i)) dJ0 Qe2) (Qa6 (Qci s load w i)) (2+(Qci s load w i).length)
 (QuE s load w i dJ0++[(7,hvT)]) 0 [] []) []=some (.bool true,
 [(!ltq s.hold w)=true]++Qpd B s load w i dJ0):=by kernel_rfl
theorem Q18 (B:Lo) (s:Qaa) (load:List Int) (w i:Int) (dJ0:Nat->Value):QaU (Qal YP (Qa1 YP) J0 B 9 1 (Qa8 56 54 (([1,2,5,6]:List Nat).zip (Qez s load w i)) dJ0 Qe2) (Qa6 (Qci s load w i)) (2+(Qci s load w i).length)
 (QuE s load w i dJ0++[(7,hvF)]) 0 [] []) []=some (.bool false,
 [(!ltq s.hold w)=false]++Qpd B s load w i dJ0):=by kernel_rfl
theorem Q2h (B:Lo) (s:Qaa) (load:List Int):landM (Qal YP (Qa1 YP) J0 B 9 1 (Qaj YP 56 54 (([.agg (Qah s).toArray,slI load]).map (Qao 0 4))) H00 1
 [] 0 [] []) [1,2,5,6] [(1,KS.auto)] []=some ⟨56,54,Qe2,[],.run,none,Qez s load (0) (0),Qci s load (0) (0),
 []⟩:=by kernel_rfl
set_option maxHeartbeats 4000000 in
theorem Q3s (s:Qaa) (load:List Int) (hs:Qav s=true) (hl:load.length<=10) {B:Lo} (hJ:∀w,B.has w->J0 w) {c0:CF}:∀m:Nat,(∀(w i:Int),load.length - i.toNat=m->∀(h0:0<=i) (h1:0<=w/\w<=100000 * i) (hp: -1<=QcV load i),Q3g B c0 s load w i->EndsT YP B c0 (.bool (Qef s.lots.length (load.drop i.toNat) (QcV load i+1) && decide (w+Q39 s (load.drop i.toNat)<=s.hold)))):=by
 intro m0;induction m0 using Nat.strongRecOn with
 | _ m0 ih0=>
   intro w i hm0 h0 h1 hp ⟨dJ0,hdJ0,hg0⟩;have hm:=Qay hs;have g3:=QtQ (l:=load) h0;by_cases q0:(i:Int) < ((↑load.length:Int))
   ·have hp0:Qa3 (Qpt B s load w i dJ0):=by
     have s2:=QcL (things:=s.lots.length) (least:=QcV load i+1) (l:=load) h0 q0;have s3:=Qfn (s:=s) h0 q0;exact ⟨(QaQ (by omega) (by omega)),⟨⟨by omega,by omega,(Qag (z:=1) (fun _=> rfl) (by omega))⟩,⟨(Qbe q0),trivial⟩⟩⟩
    cases q1:inB (load.getD i.toNat default) 0 ((↑s.lots.length:Int) - 1) with
    | true=>
      have hp1:Qa3 (QpF B s load w i dJ0):=by
       have s2:=QcL (things:=s.lots.length) (least:=QcV load i+1) (l:=load) h0 q0;have s3:=Qfn (s:=s) h0 q0;have g1:=QaA.1 ‹inB (load.getD i.toNat default) 0 _=true›;have g2:=Qcq (hm.2 _ (QaF (l:=s.lots) (i:=load.getD i.toNat default) (by omega) (by omega)));exact ⟨⟨trivial,(by have t_:=rin (load.getD i.toNat default) (0) ((↑s.lots.length:Int) - 1);rw [q1] at t_;exact t_)⟩,hp0⟩
      by_cases q2:(0:Int) < (i)
      ·have hp2:Qa3 (QoQ B s load w i dJ0):=by
        have s2:=QcL (things:=s.lots.length) (least:=QcV load i+1) (l:=load) h0 q0;have s3:=Qfn (s:=s) h0 q0;have g1:=QaA.1 ‹inB (load.getD i.toNat default) 0 _=true›;have g2:=Qcq (hm.2 _ (QaF (l:=s.lots) (i:=load.getD i.toNat default) (by omega) (by omega)));have pv:QcV load i=load.getD (i - 1).toNat default:=if_pos ‹0 < i›;exact ⟨⟨by omega,by omega,(Qag (z:=1) (fun _=> rfl) (by omega))⟩,⟨(QaQ (by omega) (by omega)),⟨⟨by omega,by omega,(Qag (z:=1) (fun _=> rfl) (by omega))⟩,⟨(Qbe q2),hp1⟩⟩⟩⟩
       by_cases q3:(load.getD i.toNat default:Int)<=(load.getD (Int.toNat (i - 1)) default)
       ·have s2:=QcL (things:=s.lots.length) (least:=QcV load i+1) (l:=load) h0 q0;have s3:=Qfn (s:=s) h0 q0;have g1:=QaA.1 ‹inB (load.getD i.toNat default) 0 _=true›;have g2:=Qcq (hm.2 _ (QaF (l:=s.lots) (i:=load.getD i.toNat default) (by omega) (by omega)));have pv:QcV load i=load.getD (i - 1).toNat default:=if_pos ‹0 < i›;have et:inB (load.getD i.toNat default) (QcV load i+1) ((s.lots.length:Int) - 1)=false:=Q7B (by omega);exact (GoE.endsT okF hJ Qab hg0 (Q2Y B s load w i dJ0)
         ⟨(Qca q3),hp2⟩).cast (by (rw [s2,et];rfl))
       ·have s2:=QcL (things:=s.lots.length) (least:=QcV load i+1) (l:=load) h0 q0;have s3:=Qfn (s:=s) h0 q0;have g1:=QaA.1 ‹inB (load.getD i.toNat default) 0 _=true›;have g2:=Qcq (hm.2 _ (QaF (l:=s.lots) (i:=load.getD i.toNat default) (by omega) (by omega)));have pv:QcV load i=load.getD (i - 1).toNat default:=if_pos ‹0 < i›;have et:inB (load.getD i.toNat default) (QcV load i+1) ((s.lots.length:Int) - 1)=true:=QaA.2 (by omega);exact ((ih0 _ (by omega)) (w+Qae.weight (s.lots.getD (Int.toNat (load.getD i.toNat default)) default)) (i+1) rfl (by omega) (by omega) (by omega)
         (hg0.landM okF hJ Qab (Q3H B s load w i dJ0)
         ⟨(QaQ (by omega) (by omega)),⟨(QaQ (by omega) (by omega)),⟨⟨by omega,by omega,(Qag (z:=3) (fun _=> rfl) (by omega))⟩,⟨⟨by omega,by omega,(Qag (z:=1) (fun _=> rfl) (by omega))⟩,⟨(Qcb (Int.not_le.1 q3)),hp2⟩⟩⟩⟩⟩ (by kernel_rfl) (by kernel_rfl))).cast (by (rw [s2,s3,et,g3,Int.add_assoc];rfl))
      ·have s2:=QcL (things:=s.lots.length) (least:=QcV load i+1) (l:=load) h0 q0;have s3:=Qfn (s:=s) h0 q0;have g1:=QaA.1 ‹inB (load.getD i.toNat default) 0 _=true›;have g2:=Qcq (hm.2 _ (QaF (l:=s.lots) (i:=load.getD i.toNat default) (by omega) (by omega)));have pv:QcV load i= -1:=if_neg ‹¬0 < i›;have et:inB (load.getD i.toNat default) (QcV load i+1) ((s.lots.length:Int) - 1)=true:=QaA.2 (by omega);exact ((ih0 _ (by omega)) (w+Qae.weight (s.lots.getD (Int.toNat (load.getD i.toNat default)) default)) (i+1) rfl (by omega) (by omega) (by omega)
        (hg0.landM okF hJ Qab (Q3C B s load w i dJ0)
        ⟨(QaQ (by omega) (by omega)),⟨(QaQ (by omega) (by omega)),⟨⟨by omega,by omega,(Qag (z:=3) (fun _=> rfl) (by omega))⟩,⟨⟨by omega,by omega,(Qag (z:=1) (fun _=> rfl) (by omega))⟩,⟨(Qbj (Int.not_lt.1 q2)),hp1⟩⟩⟩⟩⟩ (by kernel_rfl) (by kernel_rfl))).cast (by (rw [s2,s3,et,g3,Int.add_assoc];rfl))
    | false=>
      have s2:=QcL (things:=s.lots.length) (least:=QcV load i+1) (l:=load) h0 q0;have s3:=Qfn (s:=s) h0 q0;have g1n:¬(0<=load.getD i.toNat default/\load.getD i.toNat default<=(s.lots.length:Int) - 1):=Q6u ‹inB (load.getD i.toNat default) 0 _=false›;have et:inB (load.getD i.toNat default) (QcV load i+1) ((s.lots.length:Int) - 1)=false:=Q7B (by omega);exact (GoE.endsT okF hJ Qab hg0 (Q3d B s load w i dJ0)
       ⟨⟨trivial,(by have t_:=rin (load.getD i.toNat default) (0) ((↑s.lots.length:Int) - 1);rw [q1] at t_;exact t_)⟩,hp0⟩).cast (by (rw [s2,et];rfl))
   ·have hp3:Qa3 (Qpd B s load w i dJ0):=by
     exact ⟨(Qbj (Int.not_lt.1 q0)),trivial⟩
    by_cases q1:(w:Int)<=s.hold
    ·have s2:=QmU (things:=s.lots.length) (least:=QcV load i+1) (l:=load) (i:=i) (by omega);have s3:=Qu2 (s:=s) (l:=load) (i:=i) (by omega);exact (GoE.endsT okF hJ Qab hg0 (Q16 B s load w i dJ0)
      ⟨(Qca q1),hp3⟩).cast (by (rw [s2,s3];simp_all;done))
    ·have s2:=QmU (things:=s.lots.length) (least:=QcV load i+1) (l:=load) (i:=i) (by omega);have s3:=Qu2 (s:=s) (l:=load) (i:=i) (by omega);exact (GoE.endsT okF hJ Qab hg0 (Q18 B s load w i dJ0)
      ⟨(Qcb (Int.not_le.1 q1)),hp3⟩).cast (by (rw [s2,s3];simp_all;done))
set_option maxHeartbeats 4000000 in
theorem Q4T (s:Qaa) (load:List Int) (hs:Qav s=true) (hl:load.length<=10) {B:Lo} (hJ:∀w,B.has w->J0 w):EndsT YP B (Qaj YP 56 54 (([.agg (Qah s).toArray,slI load]).map (Qao 0 4))) (.bool (Qef s.lots.length load 0 && decide (Q39 s load<=s.hold))):=by
 have hm:=Qay hs;exact ((Q3s s load hs hl hJ _) (0) (0) rfl (by omega) (by omega) (by (simp [QcV];done))
  (GoE.start.landM okF hJ Qab (Q2h B s load)
  trivial (by kernel_rfl) (by kernel_rfl))).cast (by simp [QcV])
theorem Q7u (s:Qaa) (load:List Int) (hs:Qav s=true) (hl:load.length<=10):Qam YP J0 56 #[.agg (Qah s).toArray,slI load] (.bool (Qef s.lots.length load 0 && decide (Q39 s load<=s.hold))):=
 QaG (ts:=[.agg (Qah s).toArray,slI load]) Qb1 (c0:=Qaj YP 56 54 (([.agg (Qah s).toArray,slI load]).map (Qao 0 4))) (by kernel_rfl) (by kernel_rfl) fun B hJ=> Q4T s load hs hl hJ
theorem Q32 (B:Lo) (n:Int):QaU (Qal YP (Qa1 YP) J0 B 6 1 (Qaj YP 52 5 (([.int .i64 n]).map (Qao 0 4))) H00 1
 [(2,Qai.pure (.bool true) [])] 0 [] []) []=some (.bool true,
 [Qa3 []/\Qam YP J0 69 #[.int .i64 n,.int .i64 0,.int .i64 300] (.bool true)]):=by kernel_rfl
theorem Q3r (B:Lo) (n:Int):QaU (Qal YP (Qa1 YP) J0 B 6 1 (Qaj YP 52 5 (([.int .i64 n]).map (Qao 0 4))) H00 1
 [(2,Qai.pure (.bool false) [])] 0 [] []) []=some (.bool false,
 [Qa3 []/\Qam YP J0 69 #[.int .i64 n,.int .i64 0,.int .i64 300] (.bool false)]):=by kernel_rfl
set_option maxHeartbeats 4000000 in
theorem Q4l (n:Int)  {B:Lo} (hJ:∀w,B.has w->J0 w):EndsT YP B (Qaj YP 52 5 (([.int .i64 n]).map (Qao 0 4))) (.bool (inB n 0 300)):=by
 cases q0:inB n 0 300 with
 | true=>
   exact (GoE.endsT okF hJ Qab GoE.start (Q32 B n)
    ⟨⟨trivial,(by have t_:=rin (n) (0) (300);rw [q0] at t_;exact t_)⟩,trivial⟩).cast (by rfl)
 | false=>
   exact (GoE.endsT okF hJ Qab GoE.start (Q3r B n)
    ⟨⟨trivial,(by have t_:=rin (n) (0) (300);rw [q0] at t_;exact t_)⟩,trivial⟩).cast (by rfl)
theorem Q6n (n:Int)  :Qam YP J0 52 #[.int .i64 n] (.bool (inB n 0 300)):=
 QaG (ts:=[.int .i64 n]) Qb1 (c0:=Qaj YP 52 5 (([.int .i64 n]).map (Qao 0 4))) (by kernel_rfl) (by kernel_rfl) fun B hJ=> Q4l n  hJ
def QoU (B:Lo) (s:Qaa) (k:Int):List Prop:=[wq ((↑s.stock.length:Int) - 1)=(↑s.stock.length:Int) - 1]++([]:List Prop)
def Qvi (s:Qaa) (k:Int):Qas:=[(6,hvI ((↑s.stock.length:Int) - 1))]
theorem Q3I (B:Lo) (s:Qaa) (k:Int):QaU (Qal YP (Qa1 YP) J0 B 6 1 (Qaj YP 49 11 (([.agg (Qah s).toArray,.int .i64 k]).map (Qao 0 4))) H00 1
 (Qvi s k++[(7,Qai.pure (.bool true) [])]) 0 [] []) []=some (.bool true,
 [Qa3 []/\Qam YP J0 69 #[.int .i64 k,.int .i64 0,.int .i64 ((↑s.stock.length:Int) - 1)] (.bool true)]++QoU B s k):=by kernel_rfl
theorem Q1G (B:Lo) (s:Qaa) (k:Int):QaU (Qal YP (Qa1 YP) J0 B 6 1 (Qaj YP 49 11 (([.agg (Qah s).toArray,.int .i64 k]).map (Qao 0 4))) H00 1
 (Qvi s k++[(7,Qai.pure (.bool false) [])]) 0 [] []) []=some (.bool false,
 [Qa3 []/\Qam YP J0 69 #[.int .i64 k,.int .i64 0,.int .i64 ((↑s.stock.length:Int) - 1)] (.bool false)]++QoU B s k):=by kernel_rfl
set_option maxHeartbeats 4000000 in
theorem Q45 (s:Qaa) (k:Int)  (hfacts:s.stock.length<=9223372036854775807) {B:Lo} (hJ:∀w,B.has w->J0 w):EndsT YP B (Qaj YP 49 11 (([.agg (Qah s).toArray,.int .i64 k]).map (Qao 0 4))) (.bool (inB k 0 (s.stock.length - 1))):=by
 have hp0:Qa3 (QoU B s k):=by
  exact ⟨(QaQ (by omega) (by omega)),trivial⟩
 cases q0:inB k 0 ((↑s.stock.length:Int) - 1) with
 | true=>
   exact (GoE.endsT okF hJ Qab GoE.start (Q3I B s k)
    ⟨⟨trivial,(by have t_:=rin (k) (0) ((↑s.stock.length:Int) - 1);rw [q0] at t_;exact t_)⟩,hp0⟩).cast (by rfl)
 | false=>
   exact (GoE.endsT okF hJ Qab GoE.start (Q1G B s k)
    ⟨⟨trivial,(by have t_:=rin (k) (0) ((↑s.stock.length:Int) - 1);rw [q0] at t_;exact t_)⟩,hp0⟩).cast (by rfl)
theorem Q12 (s:Qaa) (k:Int)  :Qam YP J0 49 #[.agg (Qah s).toArray,.int .i64 k] (.bool (inB k 0 (s.stock.length - 1))):=
 Qct (ts:=[.agg (Qah s).toArray,.int .i64 k]) (s.stock.length<=9223372036854775807) (fun _ _ ht=> ht.ln2 (i:=0) (j:=0) rfl rfl) Qb1 (c0:=Qaj YP 49 11 (([.agg (Qah s).toArray,.int .i64 k]).map (Qao 0 4))) (by kernel_rfl) (by kernel_rfl) fun hfacts B hJ=> Q45 s k  hfacts hJ
def Qmr (s:Qaa) (all:List Row) (i:Int):Bool:=(upI i all.length).all fun k=> decide ((all.getD k.toNat default).length=s.stock.length) && Qvo (all.getD k.toNat default) (s.lots.getD k.toNat default).goods 0
theorem Qkz {s:Qaa} {all:List Row} {i:Int} (h:i < all.length):Qmr s all i=((decide ((all.getD i.toNat default).length=s.stock.length) && Qvo (all.getD i.toNat default) (s.lots.getD i.toNat default).goods 0) && Qmr s all (i+1)):=by
 unfold Qmr;rw [QdW h];rfl
theorem QxP {s:Qaa} {all:List Row} {i:Int} (h:all.length<=i):Qmr s all i=true:=by unfold Qmr;rw [QgG h];rfl
def QiN (s:Qaa) (days:Int) (t:Qaf):Bool:=(decide (t.uses.length=s.stock.length) && (decide (t.goods.length=s.lots.length) && decide (t.gaps.length<=300))) && (Qvo t.uses s.use 0 && (Qmr s t.goods 0 && (t.gaps.all (fun x=> inB x s.glo s.ghi) && decide (days<=QeO t.gaps))))
theorem Qz9 {s:Qaa} {days:Int} {t:Qaf} (hs:Qav s=true):QiN s days t=Qbn s days t:=by
 have hu:s.use.length=s.stock.length:=(Qar hs).2.2.1;have hl:=(Qay hs).2;by_cases hg:t.goods.length=s.lots.length
 ·have e:Qmr s t.goods 0=Q5T s t.goods 0:=by
   unfold Qmr Q5T;rw [hg];have key:∀l:List Int,(∀k∈l,0<=k/\k < s.lots.length)->l.all (fun k=> decide ((t.goods.getD k.toNat default).length=s.stock.length) && Qvo (t.goods.getD k.toNat default) (s.lots.getD k.toNat default).goods 0)=l.all fun k=> Qey (t.goods.getD k.toNat default) (s.lots.getD k.toNat default).goods:=by
    intro l;induction l with
    | nil=> intro _;rfl
    | cons k l ih=>
      intro h;have hk:=h k (by simp);have h1:=(Qcq (hl _ (QaF (l:=s.lots) hk.1 hk.2))).1;rw [List.all_cons,List.all_cons,ih fun q hq=> h q (by simp [hq])];unfold Qey;rw [h1]
   refine key _ fun k hk=> ?_
   unfold upI at hk;obtain ⟨q,hq,rfl⟩:=List.mem_map.1 hk;have:=List.mem_range.1 hq;omega
  unfold QiN Qbn Qey QjB QkK;rw [e,hu,hg];cases decide (t.uses.length=s.stock.length) <;> cases decide (t.gaps.length<=300) <;> cases Qvo t.uses s.use 0 <;> cases Q5T s t.goods 0 <;> simp
 ·unfold QiN Qbn QkK;rw [decide_eq_false hg];simp
def wtR (l:List Row):Nat:=(l.map fun x=> x.length+2).sum
theorem Qpe {l:List Row} {i:Int} (h0:0<=i) (h:i < l.length):wtR (l.drop i.toNat)=(l.getD i.toNat default).length+2+wtR (l.drop (i+1).toNat):=by
 obtain ⟨k,rfl⟩:∃k:Nat,i=k:=⟨i.toNat,by omega⟩
 have hk:k < l.length:=by omega
 have e1:((k:Int)).toNat=k:=by omega
 have e2:((k:Int)+1).toNat=k+1:=by omega
 rw [e1,e2,List.drop_eq_getElem_cons hk];unfold wtR;rw [List.map_cons,List.sum_cons];simp [List.getD_eq_getElem?_getD,hk]
def Qgi (s:Qaa) (days:Int) (t:Qaf) (i:Int):List Value:=[.int .i64 days,pA 2 0,pA 3 0,.int .i64 i]
def Qdn (s:Qaa) (days:Int) (t:Qaf) (i:Int):List Obj:=[Obj.cells #[Qa0 1 (slT s.stock.length (Qac Qat s.stock)),Qa0 1 (slT s.use.length (Qac Qa9 s.use)),.int .i64 s.glo,.int .i64 s.ghi,Qa0 1 (slT s.lots.length (Qac Qan s.lots)),.int .i64 s.hold] 62,Obj.cells #[Qa0 1 (slT t.uses.length (Qac Qat t.uses)),Qa0 1 (slT t.gaps.length (Qac Qat t.gaps)),Qa0 1 (slT t.goods.length (Qac Qaw t.goods))] 65]
def Qgv:List Item:=([.code [1,1,0,1,0,0],.inLoop [1,1,0,1,0,0],.inBlock 0,.code [1,1,1]]).map (it (Qaq YP 40))
def Qym (B:Lo) (c0:CF) (s:Qaa) (days:Int) (t:Qaf) (i:Int):Prop:=∃dJ:Nat->Value,(∀t,Qbd (dJ t))/\GoE YP B c0 H00 1 (Qa8 40 141 (([1,3,5,7]:List Nat).zip (Qgi s days t i)) dJ Qgv) (Qa6 (Qdn s days t i)) (2+(Qdn s days t i).length) []
def Qge (s:Qaa) (days:Int) (t:Qaf) (i:Int):List Value:=[.int .i64 days,pA 2 0,pA 3 0,.int .i64 i]
def Qds (s:Qaa) (days:Int) (t:Qaf) (i:Int):List Obj:=[Obj.cells #[Qa0 1 (slT s.stock.length (Qac Qat s.stock)),Qa0 1 (slT s.use.length (Qac Qa9 s.use)),.int .i64 s.glo,.int .i64 s.ghi,Qa0 1 (slT s.lots.length (Qac Qan s.lots)),.int .i64 s.hold] 62,Obj.cells #[Qa0 1 (slT t.uses.length (Qac Qat t.uses)),Qa0 1 (slT t.gaps.length (Qac Qat t.gaps)),Qa0 1 (slT t.goods.length (Qac Qaw t.goods))] 65]
def QfW:List Item:=([.code [1,1,1,0,1,0,0],.inLoop [1,1,1,0,1,0,0],.inBlock 2,.code [1,1,1,1]]).map (it (Qaq YP 40))
def Q0C (B:Lo) (c0:CF) (s:Qaa) (days:Int) (t:Qaf) (i:Int):Prop:=∃dJ:Nat->Value,(∀t,Qbd (dJ t))/\GoE YP B c0 H00 1 (Qa8 40 141 (([1,3,5,8]:List Nat).zip (Qge s days t i)) dJ QfW) (Qa6 (Qds s days t i)) (2+(Qds s days t i).length) []
def QfQ (s:Qaa) (days:Int) (t:Qaf) (i k:Int):List Value:=[.int .i64 days,pA 2 0,pA 3 0,.int .i64 i,.int .i64 k]
def Qdy (s:Qaa) (days:Int) (t:Qaf) (i k:Int):List Obj:=[Obj.cells #[Qa0 1 (slT s.stock.length (Qac Qat s.stock)),Qa0 1 (slT s.use.length (Qac Qa9 s.use)),.int .i64 s.glo,.int .i64 s.ghi,Qa0 1 (slT s.lots.length (Qac Qan s.lots)),.int .i64 s.hold] 62,Obj.cells #[Qa0 1 (slT t.uses.length (Qac Qat t.uses)),Qa0 1 (slT t.gaps.length (Qac Qat t.gaps)),Qa0 1 (slT t.goods.length (Qac Qaw t.goods))] 65]
def Qgh:List Item:=([.code [1,1,1,0,1,0,0,1,0,0,1,1,0,0],.inLoop [1,1,1,0,1,0,0,1,0,0,1,1,0,0],.inBlock 4,.inBlock 3,.code [1,1,1,0,1,0,0,1,1],.inLoop [1,1,1,0,1,0,0],.inBlock 2,.code [1,1,1,1]]).map (it (Qaq YP 40))
def QyE (B:Lo) (c0:CF) (s:Qaa) (days:Int) (t:Qaf) (i k:Int):Prop:=∃dJ:Nat->Value,(∀t,Qbd (dJ t))/\GoE YP B c0 H00 1 (Qa8 40 141 (([1,3,5,8,9]:List Nat).zip (QfQ s days t i k)) dJ Qgh) (Qa6 (Qdy s days t i k)) (2+(Qdy s days t i k).length) []
def Qfr (s:Qaa) (days:Int) (t:Qaf) (sum i:Int):List Value:=[.int .i64 days,pA 2 0,pA 3 0,.int .i64 sum,.int .i64 i]
def QcA (s:Qaa) (days:Int) (t:Qaf) (sum i:Int):List Obj:=[Obj.cells #[Qa0 1 (slT s.stock.length (Qac Qat s.stock)),Qa0 1 (slT s.use.length (Qac Qa9 s.use)),.int .i64 s.glo,.int .i64 s.ghi,Qa0 1 (slT s.lots.length (Qac Qan s.lots)),.int .i64 s.hold] 62,Obj.cells #[Qa0 1 (slT t.uses.length (Qac Qat t.uses)),Qa0 1 (slT t.gaps.length (Qac Qat t.gaps)),Qa0 1 (slT t.goods.length (Qac Qaw t.goods))] 65]
def Qft:List Item:=([.code [1,1,1,1,1,0,1,0,0],.inLoop [1,1,1,1,1,0,1,0,0],.inBlock 6,.code [1,1,1,1,1,1]]).map (it (Qaq YP 40))
def Q0f (B:Lo) (c0:CF) (s:Qaa) (days:Int) (t:Qaf) (sum i:Int):Prop:=∃dJ:Nat->Value,(∀t,Qbd (dJ t))/\GoE YP B c0 H00 1 (Qa8 40 141 (([1,3,5,11,12]:List Nat).zip (Qfr s days t sum i)) dJ Qft) (Qa6 (QcA s days t sum i)) (2+(QcA s days t sum i).length) []
def QmS (B:Lo) (s:Qaa) (days:Int) (t:Qaf) (i:Int) (dJ0:Nat->Value):List Prop:=[i=(↑i.toNat:Int)/\Int.toNat i < List.length s.use/\Array.extract (Qac Qa9 s.use) (Int.toNat i * TypeInfo.size Tryz.t25) (Int.toNat i * TypeInfo.size Tryz.t25+TypeInfo.size Tryz.t25)=#[.int .i64 (Span.lo (s.use.getD i.toNat default)),.int .i64 (Span.hi (s.use.getD i.toNat default))],i=(↑i.toNat:Int)/\Int.toNat i < List.length s.use/\Array.extract (Qac Qa9 s.use) (Int.toNat i * TypeInfo.size Tryz.t25) (Int.toNat i * TypeInfo.size Tryz.t25+TypeInfo.size Tryz.t25)=#[.int .i64 (Span.lo (s.use.getD i.toNat default)),.int .i64 (Span.hi (s.use.getD i.toNat default))],i=(↑i.toNat:Int)/\Int.toNat i < List.length t.uses/\Array.extract (Qac Qat t.uses) (Int.toNat i * TypeInfo.size Tryz.t3) (Int.toNat i * TypeInfo.size Tryz.t3+TypeInfo.size Tryz.t3)=#[.int .i64 (t.uses.getD i.toNat default)],ltq i (↑t.uses.length:Int)=true]++([]:List Prop)
def Qsj (s:Qaa) (days:Int) (t:Qaf) (i:Int) (dJ0:Nat->Value):Qas:=[(4,hvT),(8,Qai.tidx i.toNat #[.int .i64 (t.uses.getD i.toNat default)]),(13,Qai.tidx i.toNat #[.int .i64 (Span.lo (s.use.getD i.toNat default)),.int .i64 (Span.hi (s.use.getD i.toNat default))]),(19,Qai.tidx i.toNat #[.int .i64 (Span.lo (s.use.getD i.toNat default)),.int .i64 (Span.hi (s.use.getD i.toNat default))])]
theorem Q1k (B:Lo) (s:Qaa) (days:Int) (t:Qaf) (i:Int) (dJ0:Nat->Value):landM (Qal YP (Qa1 YP) J0 B 14 1 (Qa8 40 141 (([1,3,5,7]:List Nat).zip (Qgi s days t i)) dJ0 Qgv) (Qa6 (Qdn s days t i)) (2+(Qdn s days t i).length)
 (Qsj s days t i dJ0++[(22,Qai.pure (.bool true) []),(25,hvI (i+1))]) 0 [] []) [1,3,5,7] [(2,KS.auto),(3,KS.auto)] []=some ⟨40,141,Qgv,[],.run,none,Qgi s days t (i+1),Qdn s days t (i+1),
 [wq (i+1)=i+1,Qa3 []/\Qam YP J0 69 #[.int .i64 (t.uses.getD i.toNat default),.int .i64 (Span.lo (s.use.getD i.toNat default)),.int .i64 (Span.hi (s.use.getD i.toNat default))] (.bool true)]++QmS B s days t i dJ0⟩:=by kernel_rfl
theorem Q1e (B:Lo) (s:Qaa) (days:Int) (t:Qaf) (i:Int) (dJ0:Nat->Value):QaU (Qal YP (Qa1 YP) J0 B 14 1 (Qa8 40 141 (([1,3,5,7]:List Nat).zip (Qgi s days t i)) dJ0 Qgv) (Qa6 (Qdn s days t i)) (2+(Qdn s days t i).length)
 (Qsj s days t i dJ0++[(22,Qai.pure (.bool false) [])]) 0 [] []) []=some (.bool false,
 [Qa3 []/\Qam YP J0 69 #[.int .i64 (t.uses.getD i.toNat default),.int .i64 (Span.lo (s.use.getD i.toNat default)),.int .i64 (Span.hi (s.use.getD i.toNat default))] (.bool false)]++QmS B s days t i dJ0):=by kernel_rfl
theorem QyQ (B:Lo) (s:Qaa) (days:Int) (t:Qaf) (i:Int) (dJ0:Nat->Value):landM (Qal YP (Qa1 YP) J0 B 10 1 (Qa8 40 141 (([1,3,5,7]:List Nat).zip (Qgi s days t i)) dJ0 Qgv) (Qa6 (Qdn s days t i)) (2+(Qdn s days t i).length)
 [(4,hvF)] 0 [] []) [1,3,5,8] [(2,KS.auto),(3,KS.auto)] []=some ⟨40,141,QfW,[],.run,none,Qge s days t (0),Qds s days t (0),
 [ltq i (↑t.uses.length:Int)=false]⟩:=by kernel_rfl
def Qn5 (B:Lo) (s:Qaa) (days:Int) (t:Qaf) (i:Int) (dJ0:Nat->Value):List Prop:=[i=(↑i.toNat:Int)/\Int.toNat i < List.length t.goods/\Array.extract (Qac Qaw t.goods) (Int.toNat i * TypeInfo.size Tryz.t22) (Int.toNat i * TypeInfo.size Tryz.t22+TypeInfo.size Tryz.t22)=#[slT (List.length (t.goods.getD i.toNat default)) (Qac Qat (t.goods.getD i.toNat default))],ltq i (↑t.goods.length:Int)=true]++([]:List Prop)
def QqQ (s:Qaa) (days:Int) (t:Qaf) (i:Int) (dJ0:Nat->Value):Qas:=[(4,hvT),(8,Qai.tidx i.toNat #[slT (List.length (t.goods.getD i.toNat default)) (Qac Qat (t.goods.getD i.toNat default))])]
theorem Qz5 (B:Lo) (s:Qaa) (days:Int) (t:Qaf) (i:Int) (dJ0:Nat->Value):QaU (Qal YP (Qa1 YP) J0 B 15 1 (Qa8 40 141 (([1,3,5,8]:List Nat).zip (Qge s days t i)) dJ0 QfW) (Qa6 (Qds s days t i)) (2+(Qds s days t i).length)
 (QqQ s days t i dJ0++[(14,hvT)]) 0 [] []) []=some (.bool false,
 [(!eqq (↑(List.length (t.goods.getD i.toNat default)):Int) (↑s.stock.length:Int))=true]++Qn5 B s days t i dJ0):=by kernel_rfl
theorem Q0P (B:Lo) (s:Qaa) (days:Int) (t:Qaf) (i:Int) (dJ0:Nat->Value):landM (Qal YP (Qa1 YP) J0 B 16 1 (Qa8 40 141 (([1,3,5,8]:List Nat).zip (Qge s days t i)) dJ0 QfW) (Qa6 (Qds s days t i)) (2+(Qds s days t i).length)
 (QqQ s days t i dJ0++[(14,hvF)]) 0 [] []) [1,3,5,8,9] [(2,KS.auto),(3,KS.auto)] []=some ⟨40,141,Qgh,[],.run,none,QfQ s days t (i) (0),Qdy s days t (i) (0),
 [(!eqq (↑(List.length (t.goods.getD i.toNat default)):Int) (↑s.stock.length:Int))=false]++Qn5 B s days t i dJ0⟩:=by kernel_rfl
theorem Q0G (B:Lo) (s:Qaa) (days:Int) (t:Qaf) (i:Int) (dJ0:Nat->Value):landM (Qal YP (Qa1 YP) J0 B 12 1 (Qa8 40 141 (([1,3,5,8]:List Nat).zip (Qge s days t i)) dJ0 QfW) (Qa6 (Qds s days t i)) (2+(Qds s days t i).length)
 [(4,hvF)] 0 [] []) [1,3,5,11,12] [(2,KS.auto),(3,KS.auto)] []=some ⟨40,141,Qft,[],.run,none,Qfr s days t (0) (0),QcA s days t (0) (0),
 [ltq i (↑t.goods.length:Int)=false]⟩:=by kernel_rfl
def QlN (B:Lo) (s:Qaa) (days:Int) (t:Qaf) (i k:Int) (dJ0:Nat->Value):List Prop:=[i=(↑i.toNat:Int)/\Int.toNat i < List.length t.goods/\Array.extract (Qac Qaw t.goods) (Int.toNat i * TypeInfo.size Tryz.t22) (Int.toNat i * TypeInfo.size Tryz.t22+TypeInfo.size Tryz.t22)=#[slT (List.length (t.goods.getD i.toNat default)) (Qac Qat (t.goods.getD i.toNat default))]]++([]:List Prop)
def Qss (s:Qaa) (days:Int) (t:Qaf) (i k:Int) (dJ0:Nat->Value):Qas:=[(4,Qai.tidx i.toNat #[slT (List.length (t.goods.getD i.toNat default)) (Qac Qat (t.goods.getD i.toNat default))])]
def Qm6 (B:Lo) (s:Qaa) (days:Int) (t:Qaf) (i k:Int) (dJ0:Nat->Value):List Prop:=[k=(↑k.toNat:Int)/\Int.toNat k < List.length (t.goods.getD i.toNat default)/\Array.extract (Qac Qat (t.goods.getD i.toNat default)) (Int.toNat k * TypeInfo.size Tryz.t3) (Int.toNat k * TypeInfo.size Tryz.t3+TypeInfo.size Tryz.t3)=#[.int .i64 (List.getD (t.goods.getD i.toNat default) k.toNat default)],i=(↑i.toNat:Int)/\Int.toNat i < List.length t.goods/\Array.extract (Qac Qaw t.goods) (Int.toNat i * TypeInfo.size Tryz.t22) (Int.toNat i * TypeInfo.size Tryz.t22+TypeInfo.size Tryz.t22)=#[slT (List.length (t.goods.getD i.toNat default)) (Qac Qat (t.goods.getD i.toNat default))],k=(↑k.toNat:Int)/\Int.toNat k < List.length (Qae.goods (s.lots.getD i.toNat default))/\Array.extract (Qac Qa9 (Qae.goods (s.lots.getD i.toNat default))) (Int.toNat k * TypeInfo.size Tryz.t25) (Int.toNat k * TypeInfo.size Tryz.t25+TypeInfo.size Tryz.t25)=#[.int .i64 (Span.lo (List.getD (Qae.goods (s.lots.getD i.toNat default)) k.toNat default)),.int .i64 (Span.hi (List.getD (Qae.goods (s.lots.getD i.toNat default)) k.toNat default))],i=(↑i.toNat:Int)/\Int.toNat i < List.length s.lots/\Array.extract (Qac Qan s.lots) (Int.toNat i * TypeInfo.size Tryz.t118) (Int.toNat i * TypeInfo.size Tryz.t118+TypeInfo.size Tryz.t118)=#[slT (List.length (Qae.goods (s.lots.getD i.toNat default))) (Qac Qa9 (Qae.goods (s.lots.getD i.toNat default))),.int .i64 (Qae.weight (s.lots.getD i.toNat default)),.int .i64 (Qae.cost (s.lots.getD i.toNat default))],ltq k (↑(List.length (t.goods.getD i.toNat default)):Int)=true]++QlN B s days t i k dJ0
def Qrj (s:Qaa) (days:Int) (t:Qaf) (i k:Int) (dJ0:Nat->Value):Qas:=Qss s days t i k dJ0++[(7,hvT),(11,Qai.tidx i.toNat #[slT (List.length (Qae.goods (s.lots.getD i.toNat default))) (Qac Qa9 (Qae.goods (s.lots.getD i.toNat default))),.int .i64 (Qae.weight (s.lots.getD i.toNat default)),.int .i64 (Qae.cost (s.lots.getD i.toNat default))]),(15,Qai.tidx k.toNat #[.int .i64 (Span.lo (List.getD (Qae.goods (s.lots.getD i.toNat default)) k.toNat default)),.int .i64 (Span.hi (List.getD (Qae.goods (s.lots.getD i.toNat default)) k.toNat default))]),(22,Qai.tidx i.toNat #[slT (List.length (t.goods.getD i.toNat default)) (Qac Qat (t.goods.getD i.toNat default))]),(25,Qai.tidx k.toNat #[.int .i64 (List.getD (t.goods.getD i.toNat default) k.toNat default)])]
theorem QxC (B:Lo) (s:Qaa) (days:Int) (t:Qaf) (i k:Int) (dJ0:Nat->Value):landM (Qal YP (Qa1 YP) J0 B 16 1 (Qa8 40 141 (([1,3,5,8,9]:List Nat).zip (QfQ s days t i k)) dJ0 Qgh) (Qa6 (Qdy s days t i k)) (2+(Qdy s days t i k).length)
 (Qrj s days t i k dJ0++[(31,Qai.pure (.bool true) []),(34,hvI (k+1))]) 0 [] []) [1,3,5,8,9] [(2,KS.auto),(3,KS.auto)] []=some ⟨40,141,Qgh,[],.run,none,QfQ s days t (i) (k+1),Qdy s days t (i) (k+1),
 [wq (k+1)=k+1,Qa3 []/\Qam YP J0 69 #[.int .i64 (List.getD (t.goods.getD i.toNat default) k.toNat default),.int .i64 (Span.lo (List.getD (Qae.goods (s.lots.getD i.toNat default)) k.toNat default)),.int .i64 (Span.hi (List.getD (Qae.goods (s.lots.getD i.toNat default)) k.toNat default))] (.bool true)]++Qm6 B s days t i k dJ0⟩:=by kernel_rfl
theorem Qyg (B:Lo) (s:Qaa) (days:Int) (t:Qaf) (i k:Int) (dJ0:Nat->Value):QaU (Qal YP (Qa1 YP) J0 B 16 1 (Qa8 40 141 (([1,3,5,8,9]:List Nat).zip (QfQ s days t i k)) dJ0 Qgh) (Qa6 (Qdy s days t i k)) (2+(Qdy s days t i k).length)
 (Qrj s days t i k dJ0++[(31,Qai.pure (.bool false) [])]) 0 [] []) []=some (.bool false,
 [Qa3 []/\Qam YP J0 69 #[.int .i64 (List.getD (t.goods.getD i.toNat default) k.toNat default),.int .i64 (Span.lo (List.getD (Qae.goods (s.lots.getD i.toNat default)) k.toNat default)),.int .i64 (Span.hi (List.getD (Qae.goods (s.lots.getD i.toNat default)) k.toNat default))] (.bool false)]++Qm6 B s days t i k dJ0):=by kernel_rfl
theorem QxX (B:Lo) (s:Qaa) (days:Int) (t:Qaf) (i k:Int) (dJ0:Nat->Value):landM (Qal YP (Qa1 YP) J0 B 8 1 (Qa8 40 141 (([1,3,5,8,9]:List Nat).zip (QfQ s days t i k)) dJ0 Qgh) (Qa6 (Qdy s days t i k)) (2+(Qdy s days t i k).length)
 (Qss s days t i k dJ0++[(7,hvF),(9,hvI (i+1))]) 0 [] []) [1,3,5,8] [(2,KS.auto),(3,KS.auto)] []=some ⟨40,141,QfW,[],.run,none,Qge s days t (i+1),Qds s days t (i+1),
 [wq (i+1)=i+1,ltq k (↑(List.length (t.goods.getD i.toNat default)):Int)=false]++QlN B s days t i k dJ0⟩:=by kernel_rfl
def Qmx (B:Lo) (s:Qaa) (days:Int) (t:Qaf) (sum i:Int) (dJ0:Nat->Value):List Prop:=[i=(↑i.toNat:Int)/\Int.toNat i < List.length t.gaps/\Array.extract (Qac Qat t.gaps) (Int.toNat i * TypeInfo.size Tryz.t3) (Int.toNat i * TypeInfo.size Tryz.t3+TypeInfo.size Tryz.t3)=#[.int .i64 (t.gaps.getD i.toNat default)],ltq i (↑t.gaps.length:Int)=true]++([]:List Prop)
def Qsl (s:Qaa) (days:Int) (t:Qaf) (sum i:Int) (dJ0:Nat->Value):Qas:=[(4,hvT),(8,Qai.tidx i.toNat #[.int .i64 (t.gaps.getD i.toNat default)])]
theorem Qyu (B:Lo) (s:Qaa) (days:Int) (t:Qaf) (sum i:Int) (dJ0:Nat->Value):landM (Qal YP (Qa1 YP) J0 B 16 1 (Qa8 40 141 (([1,3,5,11,12]:List Nat).zip (Qfr s days t sum i)) dJ0 Qft) (Qa6 (QcA s days t sum i)) (2+(QcA s days t sum i).length)
 (Qsl s days t sum i dJ0++[(16,Qai.pure (.bool true) []),(22,Qai.tidx i.toNat #[.int .i64 (t.gaps.getD i.toNat default)]),(24,hvI (sum+t.gaps.getD i.toNat default)),(27,hvI (i+1))]) 0 [] []) [1,3,5,11,12] [(2,KS.auto),(3,KS.auto)] []=some ⟨40,141,Qft,[],.run,none,Qfr s days t (sum+t.gaps.getD i.toNat default) (i+1),QcA s days t (sum+t.gaps.getD i.toNat default) (i+1),
 [wq (i+1)=i+1,wq (sum+t.gaps.getD i.toNat default)=sum+t.gaps.getD i.toNat default,i=(↑i.toNat:Int)/\Int.toNat i < List.length t.gaps/\Array.extract (Qac Qat t.gaps) (Int.toNat i * TypeInfo.size Tryz.t3) (Int.toNat i * TypeInfo.size Tryz.t3+TypeInfo.size Tryz.t3)=#[.int .i64 (t.gaps.getD i.toNat default)],Qa3 []/\Qam YP J0 69 #[.int .i64 (t.gaps.getD i.toNat default),.int .i64 s.glo,.int .i64 s.ghi] (.bool true)]++Qmx B s days t sum i dJ0⟩:=by kernel_rfl
theorem Qw8 (B:Lo) (s:Qaa) (days:Int) (t:Qaf) (sum i:Int) (dJ0:Nat->Value):QaU (Qal YP (Qa1 YP) J0 B 15 1 (Qa8 40 141 (([1,3,5,11,12]:List Nat).zip (Qfr s days t sum i)) dJ0 Qft) (Qa6 (QcA s days t sum i)) (2+(QcA s days t sum i).length)
 (Qsl s days t sum i dJ0++[(16,Qai.pure (.bool false) [])]) 0 [] []) []=some (.bool false,
 [Qa3 []/\Qam YP J0 69 #[.int .i64 (t.gaps.getD i.toNat default),.int .i64 s.glo,.int .i64 s.ghi] (.bool false)]++Qmx B s days t sum i dJ0):=by kernel_rfl
def Qna (B:Lo) (s:Qaa) (days:Int) (t:Qaf) (sum i:Int) (dJ0:Nat->Value):List Prop:=[ltq i (↑t.gaps.length:Int)=false]++([]:List Prop)
def QsE (s:Qaa) (days:Int) (t:Qaf) (sum i:Int) (dJ0:Nat->Value):Qas:=[(4,hvF)]
theorem Qv9 (B:Lo) (s:Qaa) (days:Int) (t:Qaf) (sum i:Int) (dJ0:Nat->Value):QaU (Qal YP (Qa1 YP) J0 B 9 1 (Qa8 40 141 (([1,3,5,11,12]:List Nat).zip (Qfr s days t sum i)) dJ0 Qft) (Qa6 (QcA s days t sum i)) (2+(QcA s days t sum i).length)
 (QsE s days t sum i dJ0++[(7,hvT)]) 0 [] []) []=some (.bool true,
 [(!ltq sum days)=true]++Qna B s days t sum i dJ0):=by kernel_rfl
theorem QvP (B:Lo) (s:Qaa) (days:Int) (t:Qaf) (sum i:Int) (dJ0:Nat->Value):QaU (Qal YP (Qa1 YP) J0 B 9 1 (Qa8 40 141 (([1,3,5,11,12]:List Nat).zip (Qfr s days t sum i)) dJ0 Qft) (Qa6 (QcA s days t sum i)) (2+(QcA s days t sum i).length)
 (QsE s days t sum i dJ0++[(7,hvF)]) 0 [] []) []=some (.bool false,
 [(!ltq sum days)=false]++Qna B s days t sum i dJ0):=by kernel_rfl
theorem Qx2 (B:Lo) (s:Qaa) (days:Int) (t:Qaf):QaU (Qal YP (Qa1 YP) J0 B 10 1 (Qaj YP 40 141 (([.agg (Qah s).toArray,.int .i64 days,.agg (Qa4 t).toArray]).map (Qao 0 4))) H00 1
 [(9,hvT)] 0 [] []) []=some (.bool false,
 [(!eqq (↑t.uses.length:Int) (↑s.stock.length:Int))=true]):=by kernel_rfl
def Qnj (B:Lo) (s:Qaa) (days:Int) (t:Qaf):List Prop:=[(!eqq (↑t.uses.length:Int) (↑s.stock.length:Int))=false]++([]:List Prop)
def Qrk (s:Qaa) (days:Int) (t:Qaf):Qas:=[(9,hvF)]
theorem QvZ (B:Lo) (s:Qaa) (days:Int) (t:Qaf):QaU (Qal YP (Qa1 YP) J0 B 10 1 (Qaj YP 40 141 (([.agg (Qah s).toArray,.int .i64 days,.agg (Qa4 t).toArray]).map (Qao 0 4))) H00 1
 (Qrk s days t++[(17,hvT)]) 0 [] []) []=some (.bool false,
 [(!eqq (↑t.goods.length:Int) (↑s.lots.length:Int))=true]++Qnj B s days t):=by kernel_rfl
def Qml (B:Lo) (s:Qaa) (days:Int) (t:Qaf):List Prop:=[(!eqq (↑t.goods.length:Int) (↑s.lots.length:Int))=false]++Qnj B s days t
def QsA (s:Qaa) (days:Int) (t:Qaf):Qas:=Qrk s days t++[(17,hvF)]
theorem Qwo (B:Lo) (s:Qaa) (days:Int) (t:Qaf):QaU (Qal YP (Qa1 YP) J0 B 10 1 (Qaj YP 40 141 (([.agg (Qah s).toArray,.int .i64 days,.agg (Qa4 t).toArray]).map (Qao 0 4))) H00 1
 (QsA s days t++[(23,hvT)]) 0 [] []) []=some (.bool false,
 [ltq 300 (↑t.gaps.length:Int)=true]++Qml B s days t):=by kernel_rfl
theorem QwF (B:Lo) (s:Qaa) (days:Int) (t:Qaf):landM (Qal YP (Qa1 YP) J0 B 12 1 (Qaj YP 40 141 (([.agg (Qah s).toArray,.int .i64 days,.agg (Qa4 t).toArray]).map (Qao 0 4))) H00 1
 (QsA s days t++[(23,hvF)]) 0 [] []) [1,3,5,7] [(1,KS.auto),(2,KS.auto)] []=some ⟨40,141,Qgv,[],.run,none,Qgi s days t (0),Qdn s days t (0),
 [ltq 300 (↑t.gaps.length:Int)=false]++Qml B s days t⟩:=by kernel_rfl
set_option maxHeartbeats 4000000 in
theorem Qzc (s:Qaa) (days:Int) (t:Qaf) (hs:Qav s=true) (hfacts:t.uses.length<=9223372036854775807/\t.gaps.length<=9223372036854775807/\t.goods.length<=9223372036854775807) {B:Lo} (hJ:∀w,B.has w->J0 w) {c0:CF}:∀m:Nat,(∀(i:Int),(t.uses.length - i.toNat)+wtR t.goods+t.gaps.length+9=m->∀(h0:0<=i) (e1:t.uses.length=s.stock.length) (e2:t.goods.length=s.lots.length) (e3:t.gaps.length<=300),Qym B c0 s days t i->EndsT YP B c0 (.bool (Qvo t.uses s.use i && (Qmr s t.goods 0 && (t.gaps.all (fun x=> inB x s.glo s.ghi) && decide (days<=QeO t.gaps))))))/\(∀(i:Int),wtR (t.goods.drop i.toNat)+t.gaps.length+8=m->∀(h0:0<=i) (e1:t.uses.length=s.stock.length) (e2:t.goods.length=s.lots.length) (e3:t.gaps.length<=300),Q0C B c0 s days t i->EndsT YP B c0 (.bool (Qmr s t.goods i && (t.gaps.all (fun x=> inB x s.glo s.ghi) && decide (days<=QeO t.gaps)))))/\(∀(i k:Int),((t.goods.getD i.toNat default).length - k.toNat)+wtR (t.goods.drop (i+1).toNat)+t.gaps.length+9=m->∀(h0:0<=i) (h1:i < t.goods.length) (k0:0<=k) (hr:(t.goods.getD i.toNat default).length=s.stock.length) (e1:t.uses.length=s.stock.length) (e2:t.goods.length=s.lots.length) (e3:t.gaps.length<=300),QyE B c0 s days t i k->EndsT YP B c0 (.bool (Qvo (t.goods.getD i.toNat default) (s.lots.getD i.toNat default).goods k && (Qmr s t.goods (i+1) && (t.gaps.all (fun x=> inB x s.glo s.ghi) && decide (days<=QeO t.gaps))))))/\(∀(sum i:Int),(t.gaps.length - i.toNat)=m->∀(h0:0<=i) (h1:0<=sum/\sum<=60 * i) (e1:t.uses.length=s.stock.length) (e2:t.goods.length=s.lots.length) (e3:t.gaps.length<=300),Q0f B c0 s days t sum i->EndsT YP B c0 (.bool ((t.gaps.drop i.toNat).all (fun x=> inB x s.glo s.ghi) && decide (days<=sum+QeO (t.gaps.drop i.toNat))))):=by
 intro m0;induction m0 using Nat.strongRecOn with
 | _ m0 ih0=>
   refine ⟨?_, ?_, ?_, ?_⟩
   ·intro i hm0 h0 e1 e2 e3 ⟨dJ0,hdJ0,hg0⟩;have hm:=Qay hs;have hgp:=Qa5 hs;have hst:=Qar hs;by_cases q0:(i:Int) < ((↑t.uses.length:Int))
    ·have hp0:Qa3 (QmS B s days t i dJ0):=by
      have s2:=QfS (ns:=t.uses) (ss:=s.use) q0;exact ⟨⟨by omega,by omega,(Qag (z:=2) (fun _=> rfl) (by omega))⟩,⟨⟨by omega,by omega,(Qag (z:=2) (fun _=> rfl) (by omega))⟩,⟨⟨by omega,by omega,(Qag (z:=1) (fun _=> rfl) (by omega))⟩,⟨(Qbe q0),trivial⟩⟩⟩⟩
     cases q1:inB (t.uses.getD i.toNat default) (Span.lo (s.use.getD i.toNat default)) (Span.hi (s.use.getD i.toNat default)) with
     | true=>
       have s2:=QfS (ns:=t.uses) (ss:=s.use) q0;exact ((ih0 _ (by (first | omega | (simp only [Int.toNat_zero,List.drop_zero];omega)))).1 (i+1) rfl (by omega) (by with_reducible assumption) (by with_reducible assumption) (by with_reducible assumption)
        (hg0.landM okF hJ Qab (Q1k B s days t i dJ0)
        ⟨(QaQ (by omega) (by omega)),⟨⟨trivial,(by have t_:=rin (t.uses.getD i.toNat default) (Span.lo (s.use.getD i.toNat default)) (Span.hi (s.use.getD i.toNat default));rw [q1] at t_;exact t_)⟩,hp0⟩⟩ (by kernel_rfl) (by kernel_rfl))).cast (by (rw [s2,q1];rfl))
     | false=>
       have s2:=QfS (ns:=t.uses) (ss:=s.use) q0;exact (GoE.endsT okF hJ Qab hg0 (Q1e B s days t i dJ0)
        ⟨⟨trivial,(by have t_:=rin (t.uses.getD i.toNat default) (Span.lo (s.use.getD i.toNat default)) (Span.hi (s.use.getD i.toNat default));rw [q1] at t_;exact t_)⟩,hp0⟩).cast (by (rw [s2,q1];rfl))
    ·have s2:=QuT (ns:=t.uses) (ss:=s.use) (i:=i) (by omega);exact ((ih0 _ (by (first | omega | (simp only [Int.toNat_zero,List.drop_zero];omega)))).2.1 (0) rfl (by omega) (by with_reducible assumption) (by with_reducible assumption) (by with_reducible assumption)
      (hg0.landM okF hJ Qab (QyQ B s days t i dJ0)
      ⟨(Qbj (Int.not_lt.1 q0)),trivial⟩ (by kernel_rfl) (by kernel_rfl))).cast (by (rw [s2];rfl))
   ·intro i hm0 h0 e1 e2 e3 ⟨dJ0,hdJ0,hg0⟩;have hm:=Qay hs;have hgp:=Qa5 hs;have hst:=Qar hs;by_cases q0:(i:Int) < ((↑t.goods.length:Int))
    ·have hp1:Qa3 (Qn5 B s days t i dJ0):=by
      have s2:=Qkz (s:=s) (all:=t.goods) q0;have s3:=Qpe (l:=t.goods) h0 q0;exact ⟨⟨by omega,by omega,(Qag (z:=1) (fun _=> rfl) (by omega))⟩,⟨(Qbe q0),trivial⟩⟩
     by_cases q1:((↑(List.length (t.goods.getD i.toNat default)):Int):Int)≠((↑s.stock.length:Int))
     ·have s2:=Qkz (s:=s) (all:=t.goods) q0;have s3:=Qpe (l:=t.goods) h0 q0;rw [decide_eq_false (by omega)] at s2;exact (GoE.endsT okF hJ Qab hg0 (Qz5 B s days t i dJ0)
       ⟨(QqV q1),hp1⟩).cast (by (rw [s2];rfl))
     ·have s2:=Qkz (s:=s) (all:=t.goods) q0;have s3:=Qpe (l:=t.goods) h0 q0;rw [decide_eq_true (by omega)] at s2;exact ((ih0 _ (by omega)).2.2.1 (i) (0) rfl (by with_reducible assumption) (by with_reducible assumption) (by omega) (by omega) (by with_reducible assumption) (by with_reducible assumption) (by with_reducible assumption)
       (hg0.landM okF hJ Qab (Q0P B s days t i dJ0)
       ⟨(QsI (Decidable.of_not_not q1)),hp1⟩ (by kernel_rfl) (by kernel_rfl))).cast (by (rw [s2];simp [Bool.and_assoc];done))
    ·have s2:=QxP (s:=s) (all:=t.goods) (i:=i) (by omega);exact ((ih0 _ (by omega)).2.2.2 (0) (0) rfl (by omega) (by omega) (by with_reducible assumption) (by with_reducible assumption) (by with_reducible assumption)
      (hg0.landM okF hJ Qab (Q0G B s days t i dJ0)
      ⟨(Qbj (Int.not_lt.1 q0)),trivial⟩ (by kernel_rfl) (by kernel_rfl))).cast (by (rw [s2];simp [Bool.and_assoc];done))
   ·intro i k hm0 h0 h1 k0 hr e1 e2 e3 ⟨dJ0,hdJ0,hg0⟩;have hm:=Qay hs;have hgp:=Qa5 hs;have hst:=Qar hs;have hlt:=(Qcq (hm.2 _ (QaF (l:=s.lots) (i:=i) h0 (by omega)))).1;have hp2:Qa3 (QlN B s days t i k dJ0):=by
     exact ⟨⟨by omega,by omega,(Qag (z:=1) (fun _=> rfl) (by omega))⟩,trivial⟩
    by_cases q0:(k:Int) < ((↑(List.length (t.goods.getD i.toNat default)):Int))
    ·have hp3:Qa3 (Qm6 B s days t i k dJ0):=by
      have s2:=QfS (ns:=t.goods.getD i.toNat default) (ss:=(s.lots.getD i.toNat default).goods) q0;exact ⟨⟨by omega,by omega,(Qag (z:=1) (fun _=> rfl) (by omega))⟩,⟨⟨by omega,by omega,(Qag (z:=1) (fun _=> rfl) (by omega))⟩,⟨⟨by omega,by omega,(Qag (z:=2) (fun _=> rfl) (by omega))⟩,⟨⟨by omega,by omega,(Qag (z:=3) (fun _=> rfl) (by omega))⟩,⟨(Qbe q0),hp2⟩⟩⟩⟩⟩
     cases q1:inB (List.getD (t.goods.getD i.toNat default) k.toNat default) (Span.lo (List.getD (Qae.goods (s.lots.getD i.toNat default)) k.toNat default)) (Span.hi (List.getD (Qae.goods (s.lots.getD i.toNat default)) k.toNat default)) with
     | true=>
       have s2:=QfS (ns:=t.goods.getD i.toNat default) (ss:=(s.lots.getD i.toNat default).goods) q0;exact ((ih0 _ (by omega)).2.2.1 (i) (k+1) rfl (by with_reducible assumption) (by with_reducible assumption) (by omega) (by with_reducible assumption) (by with_reducible assumption) (by with_reducible assumption) (by with_reducible assumption)
        (hg0.landM okF hJ Qab (QxC B s days t i k dJ0)
        ⟨(QaQ (by omega) (by omega)),⟨⟨trivial,(by have t_:=rin (List.getD (t.goods.getD i.toNat default) k.toNat default) (Span.lo (List.getD (Qae.goods (s.lots.getD i.toNat default)) k.toNat default)) (Span.hi (List.getD (Qae.goods (s.lots.getD i.toNat default)) k.toNat default));rw [q1] at t_;exact t_)⟩,hp3⟩⟩ (by kernel_rfl) (by kernel_rfl))).cast (by (rw [s2,q1];rfl))
     | false=>
       have s2:=QfS (ns:=t.goods.getD i.toNat default) (ss:=(s.lots.getD i.toNat default).goods) q0;exact (GoE.endsT okF hJ Qab hg0 (Qyg B s days t i k dJ0)
        ⟨⟨trivial,(by have t_:=rin (List.getD (t.goods.getD i.toNat default) k.toNat default) (Span.lo (List.getD (Qae.goods (s.lots.getD i.toNat default)) k.toNat default)) (Span.hi (List.getD (Qae.goods (s.lots.getD i.toNat default)) k.toNat default));rw [q1] at t_;exact t_)⟩,hp3⟩).cast (by (rw [s2,q1];rfl))
    ·have s2:=QuT (ns:=t.goods.getD i.toNat default) (ss:=(s.lots.getD i.toNat default).goods) (i:=k) (by omega);exact ((ih0 _ (by omega)).2.1 (i+1) rfl (by omega) (by with_reducible assumption) (by with_reducible assumption) (by with_reducible assumption)
      (hg0.landM okF hJ Qab (QxX B s days t i k dJ0)
      ⟨(QaQ (by omega) (by omega)),⟨(Qbj (Int.not_lt.1 q0)),hp2⟩⟩ (by kernel_rfl) (by kernel_rfl))).cast (by (rw [s2];rfl))
   ·intro sum i hm0 h0 h1 e1 e2 e3 ⟨dJ0,hdJ0,hg0⟩;have hm:=Qay hs;have hgp:=Qa5 hs;have hst:=Qar hs;by_cases q0:(i:Int) < ((↑t.gaps.length:Int))
    ·have hp4:Qa3 (Qmx B s days t sum i dJ0):=by
      have s2:=Qbq (l:=t.gaps) (p:=fun x=> inB x s.glo s.ghi) h0 q0;have s3:=Qj9 (l:=t.gaps) h0 q0;exact ⟨⟨by omega,by omega,(Qag (z:=1) (fun _=> rfl) (by omega))⟩,⟨(Qbe q0),trivial⟩⟩
     cases q1:inB (t.gaps.getD i.toNat default) s.glo s.ghi with
     | true=>
       have s2:=Qbq (l:=t.gaps) (p:=fun x=> inB x s.glo s.ghi) h0 q0;have s3:=Qj9 (l:=t.gaps) h0 q0;have g1:=QaA.1 ‹inB (t.gaps.getD i.toNat default) _ _=true›;exact ((ih0 _ (by omega)).2.2.2 (sum+t.gaps.getD i.toNat default) (i+1) rfl (by omega) (by omega) (by with_reducible assumption) (by with_reducible assumption) (by with_reducible assumption)
        (hg0.landM okF hJ Qab (Qyu B s days t sum i dJ0)
        ⟨(QaQ (by omega) (by omega)),⟨(QaQ (by omega) (by omega)),⟨⟨by omega,by omega,(Qag (z:=1) (fun _=> rfl) (by omega))⟩,⟨⟨trivial,(by have t_:=rin (t.gaps.getD i.toNat default) s.glo s.ghi;rw [q1] at t_;exact t_)⟩,hp4⟩⟩⟩⟩ (by kernel_rfl) (by kernel_rfl))).cast (by (simp only [s2,s3,q1,Int.add_assoc,Bool.true_and,Bool.false_and];done))
     | false=>
       have s2:=Qbq (l:=t.gaps) (p:=fun x=> inB x s.glo s.ghi) h0 q0;have s3:=Qj9 (l:=t.gaps) h0 q0;exact (GoE.endsT okF hJ Qab hg0 (Qw8 B s days t sum i dJ0)
        ⟨⟨trivial,(by have t_:=rin (t.gaps.getD i.toNat default) s.glo s.ghi;rw [q1] at t_;exact t_)⟩,hp4⟩).cast (by (simp only [s2,s3,q1,Int.add_assoc,Bool.true_and,Bool.false_and];done))
    ·have hp5:Qa3 (Qna B s days t sum i dJ0):=by
      exact ⟨(Qbj (Int.not_lt.1 q0)),trivial⟩
     by_cases q1:(days:Int)<=(sum)
     ·have s2:=QaL (l:=t.gaps) (p:=fun x=> inB x s.glo s.ghi) (i:=i) (by omega);have s3:=QoK (l:=t.gaps) (i:=i) (by omega);exact (GoE.endsT okF hJ Qab hg0 (Qv9 B s days t sum i dJ0)
       ⟨(Qca q1),hp5⟩).cast (by (simp only [s2,s3,Bool.true_and];simp_all;done))
     ·have s2:=QaL (l:=t.gaps) (p:=fun x=> inB x s.glo s.ghi) (i:=i) (by omega);have s3:=QoK (l:=t.gaps) (i:=i) (by omega);exact (GoE.endsT okF hJ Qab hg0 (QvP B s days t sum i dJ0)
       ⟨(Qcb (Int.not_le.1 q1)),hp5⟩).cast (by (simp only [s2,s3,Bool.true_and];simp_all;done))
set_option maxHeartbeats 4000000 in
theorem Q1X (s:Qaa) (days:Int) (t:Qaf) (hs:Qav s=true) (hfacts:t.uses.length<=9223372036854775807/\t.gaps.length<=9223372036854775807/\t.goods.length<=9223372036854775807) {B:Lo} (hJ:∀w,B.has w->J0 w):EndsT YP B (Qaj YP 40 141 (([.agg (Qah s).toArray,.int .i64 days,.agg (Qa4 t).toArray]).map (Qao 0 4))) (.bool (QiN s days t)):=by
 have hm:=Qay hs;have hgp:=Qa5 hs;have hst:=Qar hs;by_cases q0:((↑t.uses.length:Int):Int)≠((↑s.stock.length:Int))
 ·exact (GoE.endsT okF hJ Qab GoE.start (Qx2 B s days t)
   ⟨(QqV q0),trivial⟩).cast (by (simp only [QiN,decide_eq_false (show ¬t.uses.length=s.stock.length by omega),Bool.false_and];done))
 ·have hp6:Qa3 (Qnj B s days t):=by
   exact ⟨(QsI (Decidable.of_not_not q0)),trivial⟩
  by_cases q1:((↑t.goods.length:Int):Int)≠((↑s.lots.length:Int))
  ·exact (GoE.endsT okF hJ Qab GoE.start (QvZ B s days t)
    ⟨(QqV q1),hp6⟩).cast (by (simp only [QiN,decide_eq_false (show ¬t.goods.length=s.lots.length by omega),Bool.false_and,Bool.and_false];done))
  ·have hp7:Qa3 (Qml B s days t):=by
    exact ⟨(QsI (Decidable.of_not_not q1)),hp6⟩
   by_cases q2:(300:Int) < ((↑t.gaps.length:Int))
   ·exact (GoE.endsT okF hJ Qab GoE.start (Qwo B s days t)
     ⟨(Qbe q2),hp7⟩).cast (by (simp only [QiN,decide_eq_false (show ¬t.gaps.length<=300 by omega),Bool.false_and,Bool.and_false];done))
   ·exact ((Qzc s days t hs hfacts hJ _).1 (0) rfl (by omega) (by omega) (by omega) (by omega)
     (GoE.start.landM okF hJ Qab (QwF B s days t)
     ⟨(Qbj (Int.not_lt.1 q2)),hp7⟩ (by kernel_rfl) (by kernel_rfl))).cast (by (simp only [QiN,decide_eq_true (show t.uses.length=s.stock.length by omega),decide_eq_true (show t.goods.length=s.lots.length by omega),decide_eq_true (show t.gaps.length<=300 by omega),Bool.true_and];done))
theorem Q6J (s:Qaa) (days:Int) (t:Qaf) (hs:Qav s=true):Qam YP J0 40 #[.agg (Qah s).toArray,.int .i64 days,.agg (Qa4 t).toArray] (.bool (QiN s days t)):=
 Qct (ts:=[.agg (Qah s).toArray,.int .i64 days,.agg (Qa4 t).toArray]) (t.uses.length<=9223372036854775807/\t.gaps.length<=9223372036854775807/\t.goods.length<=9223372036854775807) (fun _ _ ht=> ⟨ht.ln2 (i:=2) (j:=0) rfl rfl,ht.ln2 (i:=2) (j:=1) rfl rfl,ht.ln2 (i:=2) (j:=2) rfl rfl⟩) Qb1 (c0:=Qaj YP 40 141 (([.agg (Qah s).toArray,.int .i64 days,.agg (Qa4 t).toArray]).map (Qao 0 4))) (by kernel_rfl) (by kernel_rfl) fun hfacts B hJ=> Q1X s days t hs hfacts hJ
end
end Go.Proofs.YtiabgkiccaodmaaGreat

