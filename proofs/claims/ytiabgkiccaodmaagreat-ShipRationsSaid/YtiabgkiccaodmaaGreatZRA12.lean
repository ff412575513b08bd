/- The reference's stores, loads and truths. -/
import Derived.Test.YtiabgkiccaodmaaGreatZRA11
set_option linter.all false
namespace Go.Proofs.YtiabgkiccaodmaaGreat
open Go Go.CE Go.RowKit
noncomputable section
set_option maxRecDepth 100000
theorem QbL {α:Type} [Inhabited α] {l:List α} {i:Int} {p:α->Bool} (h0:0<=i) (h:i < l.length):(l.drop i.toNat).all p=(p (l.getD i.toNat default) && (l.drop (i+1).toNat).all p):=by
 obtain ⟨k,rfl⟩:∃k:Nat,i=k:=⟨i.toNat,by omega⟩
 have hk:k < l.length:=by omega
 have e1:((k:Int)).toNat=k:=by omega
 have e2:((k:Int)+1).toNat=k+1:=by omega
 rw [e1,e2,List.drop_eq_getElem_cons hk,List.all_cons]
 simp [List.getD_eq_getElem?_getD,hk]
theorem QaX {α:Type} {l:List α} {i:Int} {p:α->Bool} (h:l.length<=i):(l.drop i.toNat).all p=true:=by
 rw [List.drop_eq_nil_of_le (by omega)];rfl
def Qou (k:Nat) (l:Qad):Bool:=Qct l.goods 100000 && (decide (l.goods.length=k) && (inB l.weight 0 100000 && inB l.cost 0 1000000))
def storeT (s:Qaa):Bool:=inB s.stock.length 1 4 && (decide (s.use.length=s.stock.length) && (Qbz s.glo s.ghi 1 60 && (decide (s.lots.length<=6) && inB s.hold 0 100000)))
def QrG (s:Qaa):Bool:=s.stock.all (fun x=> inB x 0 100000) && (Qct s.use 1000 && (s.lots.all (Qou s.stock.length) && storeT s))
theorem Qwb {s:Qaa}:QrG s=Qa8 s:=by
 have e:Qou s.stock.length=Qoh s.stock.length:=by
  funext l;unfold Qou Qoh
  cases Qct l.goods 100000 <;> cases decide (l.goods.length=s.stock.length) <;> rfl
 unfold QrG Qa8 storeT QpA
 rw [e]
 cases inB s.stock.length 1 4 <;> cases s.stock.all (fun x=> inB x 0 100000) <;> cases decide (s.use.length=s.stock.length) <;> cases Qct s.use 1000 <;> cases Qbz s.glo s.ghi 1 60 <;> cases decide (s.lots.length<=6) <;> cases s.lots.all (Qoh s.stock.length) <;> simp
def wtL (l:List Qad):Nat:=(l.map fun x=> x.goods.length+2).sum
theorem Q2j {l:List Qad} {i:Int} (h0:0<=i) (h:i < l.length):wtL (l.drop i.toNat)=(l.getD i.toNat default).goods.length+2+wtL (l.drop (i+1).toNat):=by
 obtain ⟨k,rfl⟩:∃k:Nat,i=k:=⟨i.toNat,by omega⟩
 have hk:k < l.length:=by omega
 have e1:((k:Int)).toNat=k:=by omega
 have e2:((k:Int)+1).toNat=k+1:=by omega
 rw [e1,e2,List.drop_eq_getElem_cons hk]
 unfold wtL
 rw [List.map_cons,List.sum_cons]
 simp [List.getD_eq_getElem?_getD,hk]
def Qfw (s:Qaa) (i:Int):List Value:=[pA 2 0,.int .i64 i]
def QcO (s:Qaa) (i:Int):List Obj:=[Obj.cells #[Qa0 1 (slT s.stock.length (Qac Qar s.stock)),Qa0 1 (slT s.use.length (Qac Qa6 s.use)),.int .i64 s.glo,.int .i64 s.ghi,Qa0 1 (slT s.lots.length (Qac Qam s.lots)),.int .i64 s.hold] 62]
def Qfp:List Item:=([.code [1,0,1,0,0],.inLoop [1,0,1,0,0],.inBlock 0,.code [1,1]]).map (it (Qal Tryz.prog 44))
def Qxk (B:Lo) (c0:CF) (s:Qaa) (i:Int):Prop:=∃dJ:Nat->Value,(∀t,QaS (dJ t))/\GoE Tryz.prog B c0 H00 1 (Qa4 44 110 (([1,3]:List Nat).zip (Qfw s i)) dJ Qfp) (Qa3 (QcO s i)) (2+(QcO s i).length) []
def Qfk (s:Qaa) (i:Int):List Value:=[pA 2 0,.int .i64 i]
def QcN (s:Qaa) (i:Int):List Obj:=[Obj.cells #[Qa0 1 (slT s.stock.length (Qac Qar s.stock)),Qa0 1 (slT s.use.length (Qac Qa6 s.use)),.int .i64 s.glo,.int .i64 s.ghi,Qa0 1 (slT s.lots.length (Qac Qam s.lots)),.int .i64 s.hold] 62]
def Qff:List Item:=([.code [1,1,0,1,0,0],.inLoop [1,1,0,1,0,0],.inBlock 2,.code [1,1,1]]).map (it (Qal Tryz.prog 44))
def Qyc (B:Lo) (c0:CF) (s:Qaa) (i:Int):Prop:=∃dJ:Nat->Value,(∀t,QaS (dJ t))/\GoE Tryz.prog B c0 H00 1 (Qa4 44 110 (([1,4]:List Nat).zip (Qfk s i)) dJ Qff) (Qa3 (QcN s i)) (2+(QcN s i).length) []
def QcU (s:Qaa) (i:Int):List Value:=[pA 2 0,.int .i64 i]
def Qbo (s:Qaa) (i:Int):List Obj:=[Obj.cells #[Qa0 1 (slT s.stock.length (Qac Qar s.stock)),Qa0 1 (slT s.use.length (Qac Qa6 s.use)),.int .i64 s.glo,.int .i64 s.ghi,Qa0 1 (slT s.lots.length (Qac Qam s.lots)),.int .i64 s.hold] 62]
def QcQ:List Item:=([.code [1,1,1,0,1,0,0],.inLoop [1,1,1,0,1,0,0],.inBlock 4,.code [1,1,1,1]]).map (it (Qal Tryz.prog 44))
def QxI (B:Lo) (c0:CF) (s:Qaa) (i:Int):Prop:=∃dJ:Nat->Value,(∀t,QaS (dJ t))/\GoE Tryz.prog B c0 H00 1 (Qa4 44 110 (([1,5]:List Nat).zip (QcU s i)) dJ QcQ) (Qa3 (Qbo s i)) (2+(Qbo s i).length) []
def Qd0 (s:Qaa) (i j:Int):List Value:=[pA 2 0,.int .i64 i,pA 3 0,.int .i64 j]
def Qb7 (s:Qaa) (i j:Int):List Obj:=[Obj.cells #[Qa0 1 (slT s.stock.length (Qac Qar s.stock)),Qa0 1 (slT s.use.length (Qac Qa6 s.use)),.int .i64 s.glo,.int .i64 s.ghi,Qa0 1 (slT s.lots.length (Qac Qam s.lots)),.int .i64 s.hold] 62,Obj.cells #[Qa0 1 (slT (List.length (Qad.goods (s.lots.getD i.toNat default))) (Qac Qa6 (Qad.goods (s.lots.getD i.toNat default)))),.int .i64 (Qad.weight (s.lots.getD i.toNat default)),.int .i64 (Qad.cost (s.lots.getD i.toNat default))] 118]
def Qdy:List Item:=([.code [1,1,1,0,1,0,0,1,0,0,1,0,1,0,0],.inLoop [1,1,1,0,1,0,0,1,0,0,1,0,1,0,0],.inBlock 6,.code [1,1,1,0,1,0,0,1,0,0,1,1],.inBlock 5,.code [1,1,1,0,1,0,0,1,1],.inLoop [1,1,1,0,1,0,0],.inBlock 4,.code [1,1,1,1]]).map (it (Qal Tryz.prog 44))
def QxO (B:Lo) (c0:CF) (s:Qaa) (i j:Int):Prop:=∃dJ:Nat->Value,(∀t,QaS (dJ t))/\GoE Tryz.prog B c0 H00 1 (Qa4 44 110 (([1,5,6,7]:List Nat).zip (Qd0 s i j)) dJ Qdy) (Qa3 (Qb7 s i j)) (2+(Qb7 s i j).length) []
def Qkq (B:Lo) (s:Qaa) (i:Int) (dJ0:Nat->Value):List Prop:=[i=(↑i.toNat:Int)/\Int.toNat i < List.length s.stock/\Array.extract (Qac Qar s.stock) (Int.toNat i * TypeInfo.size Tryz.t3) (Int.toNat i * TypeInfo.size Tryz.t3+TypeInfo.size Tryz.t3)=#[.int .i64 (s.stock.getD i.toNat default)],ltq i (↑s.stock.length:Int)=true]++([]:List Prop)
def Qo2 (s:Qaa) (i:Int) (dJ0:Nat->Value):Qay:=[(4,hvT),(8,Qaj.tidx i.toNat #[.int .i64 (s.stock.getD i.toNat default)])]
theorem Qv6 (B:Lo) (s:Qaa) (i:Int) (dJ0:Nat->Value):landM (Qak Tryz.prog (Qa1 Tryz.prog) J0 B 14 1 (Qa4 44 110 (([1,3]:List Nat).zip (Qfw s i)) dJ0 Qfp) (Qa3 (QcO s i)) (2+(QcO s i).length)
 (Qo2 s i dJ0++[(10,Qaj.pure (.bool true) []),(13,hvI (i+1))]) 0 [] []) [1,3] [(2,KS.auto)] []=some ⟨44,110,Qfp,[],.run,none,Qfw s (i+1),QcO s (i+1),
 [wq (i+1)=i+1,Qa7 []/\Qas Tryz.prog J0 69 #[.int .i64 (s.stock.getD i.toNat default),.int .i64 0,.int .i64 100000] (.bool true)]++Qkq B s i dJ0⟩:=by kernel_rfl
theorem QxX (B:Lo) (s:Qaa) (i:Int) (dJ0:Nat->Value):Qbb (Qak Tryz.prog (Qa1 Tryz.prog) J0 B 14 1 (Qa4 44 110 (([1,3]:List Nat).zip (Qfw s i)) dJ0 Qfp) (Qa3 (QcO s i)) (2+(QcO s i).length)
 (Qo2 s i dJ0++[(10,Qaj.pure (.bool false) [])]) 0 [] []) []=some (.bool false,
 [Qa7 []/\Qas Tryz.prog J0 69 #[.int .i64 (s.stock.getD i.toNat default),.int .i64 0,.int .i64 100000] (.bool false)]++Qkq B s i dJ0):=by kernel_rfl
theorem Qv1 (B:Lo) (s:Qaa) (i:Int) (dJ0:Nat->Value):landM (Qak Tryz.prog (Qa1 Tryz.prog) J0 B 10 1 (Qa4 44 110 (([1,3]:List Nat).zip (Qfw s i)) dJ0 Qfp) (Qa3 (QcO s i)) (2+(QcO s i).length)
 [(4,hvF)] 0 [] []) [1,4] [(2,KS.auto)] []=some ⟨44,110,Qff,[],.run,none,Qfk s (0),QcN s (0),
 [ltq i (↑s.stock.length:Int)=false]⟩:=by kernel_rfl
def Qlc (B:Lo) (s:Qaa) (i:Int) (dJ0:Nat->Value):List Prop:=[i=(↑i.toNat:Int)/\Int.toNat i < List.length s.use/\Array.extract (Qac Qa6 s.use) (Int.toNat i * TypeInfo.size Tryz.t25) (Int.toNat i * TypeInfo.size Tryz.t25+TypeInfo.size Tryz.t25)=#[.int .i64 (Span.lo (s.use.getD i.toNat default)),.int .i64 (Span.hi (s.use.getD i.toNat default))],ltq i (↑s.use.length:Int)=true]++([]:List Prop)
def Qop (s:Qaa) (i:Int) (dJ0:Nat->Value):Qay:=[(4,hvT),(8,Qaj.tidx i.toNat #[.int .i64 (Span.lo (s.use.getD i.toNat default)),.int .i64 (Span.hi (s.use.getD i.toNat default))])]
theorem Qxu (B:Lo) (s:Qaa) (i:Int) (dJ0:Nat->Value):landM (Qak Tryz.prog (Qa1 Tryz.prog) J0 B 14 1 (Qa4 44 110 (([1,4]:List Nat).zip (Qfk s i)) dJ0 Qff) (Qa3 (QcN s i)) (2+(QcN s i).length)
 (Qop s i dJ0++[(10,Qaj.pure (.bool true) []),(13,hvI (i+1))]) 0 [] []) [1,4] [(2,KS.auto)] []=some ⟨44,110,Qff,[],.run,none,Qfk s (i+1),QcN s (i+1),
 [wq (i+1)=i+1,Qa7 []/\Qas Tryz.prog J0 70 #[.agg #[.int .i64 (Span.lo (s.use.getD i.toNat default)),.int .i64 (Span.hi (s.use.getD i.toNat default))],.int .i64 0,.int .i64 1000] (.bool true)]++Qlc B s i dJ0⟩:=by kernel_rfl
theorem QxL (B:Lo) (s:Qaa) (i:Int) (dJ0:Nat->Value):Qbb (Qak Tryz.prog (Qa1 Tryz.prog) J0 B 14 1 (Qa4 44 110 (([1,4]:List Nat).zip (Qfk s i)) dJ0 Qff) (Qa3 (QcN s i)) (2+(QcN s i).length)
 (Qop s i dJ0++[(10,Qaj.pure (.bool false) [])]) 0 [] []) []=some (.bool false,
 [Qa7 []/\Qas Tryz.prog J0 70 #[.agg #[.int .i64 (Span.lo (s.use.getD i.toNat default)),.int .i64 (Span.hi (s.use.getD i.toNat default))],.int .i64 0,.int .i64 1000] (.bool false)]++Qlc B s i dJ0):=by kernel_rfl
theorem QwM (B:Lo) (s:Qaa) (i:Int) (dJ0:Nat->Value):landM (Qak Tryz.prog (Qa1 Tryz.prog) J0 B 10 1 (Qa4 44 110 (([1,4]:List Nat).zip (Qfk s i)) dJ0 Qff) (Qa3 (QcN s i)) (2+(QcN s i).length)
 [(4,hvF)] 0 [] []) [1,5] [(2,KS.auto)] []=some ⟨44,110,QcQ,[],.run,none,QcU s (0),Qbo s (0),
 [ltq i (↑s.use.length:Int)=false]⟩:=by kernel_rfl
theorem Qwv (B:Lo) (s:Qaa) (i:Int) (dJ0:Nat->Value):landM (Qak Tryz.prog (Qa1 Tryz.prog) J0 B 14 1 (Qa4 44 110 (([1,5]:List Nat).zip (QcU s i)) dJ0 QcQ) (Qa3 (Qbo s i)) (2+(Qbo s i).length)
 [(4,hvT),(8,Qaj.tidx i.toNat #[slT (List.length (Qad.goods (s.lots.getD i.toNat default))) (Qac Qa6 (Qad.goods (s.lots.getD i.toNat default))),.int .i64 (Qad.weight (s.lots.getD i.toNat default)),.int .i64 (Qad.cost (s.lots.getD i.toNat default))])] 0 [] []) [1,5,6,7] [(2,KS.auto),(3,KS.auto)] []=some ⟨44,110,Qdy,[],.run,none,Qd0 s (i) (0),Qb7 s (i) (0),
 [i=(↑i.toNat:Int)/\Int.toNat i < List.length s.lots/\Array.extract (Qac Qam s.lots) (Int.toNat i * TypeInfo.size Tryz.t118) (Int.toNat i * TypeInfo.size Tryz.t118+TypeInfo.size Tryz.t118)=#[slT (List.length (Qad.goods (s.lots.getD i.toNat default))) (Qac Qa6 (Qad.goods (s.lots.getD i.toNat default))),.int .i64 (Qad.weight (s.lots.getD i.toNat default)),.int .i64 (Qad.cost (s.lots.getD i.toNat default))],ltq i (↑s.lots.length:Int)=true]⟩:=by kernel_rfl
def QlP (B:Lo) (s:Qaa) (i:Int) (dJ0:Nat->Value):List Prop:=[ltq i (↑s.lots.length:Int)=false]++([]:List Prop)
def QpG (s:Qaa) (i:Int) (dJ0:Nat->Value):Qay:=[(4,hvF)]
def QkO (B:Lo) (s:Qaa) (i:Int) (dJ0:Nat->Value):List Prop:=[Qa7 []/\Qas Tryz.prog J0 69 #[.int .i64 (↑s.stock.length:Int),.int .i64 1,.int .i64 4] (.bool true)]++QlP B s i dJ0
def Qpk (s:Qaa) (i:Int) (dJ0:Nat->Value):Qay:=QpG s i dJ0++[(8,Qaj.pure (.bool true) [])]
def Ql2 (B:Lo) (s:Qaa) (i:Int) (dJ0:Nat->Value):List Prop:=[eqq (↑s.use.length:Int) (↑s.stock.length:Int)=true]++QkO B s i dJ0
def Qqg (s:Qaa) (i:Int) (dJ0:Nat->Value):Qay:=Qpk s i dJ0++[(16,hvT)]
def QkR (B:Lo) (s:Qaa) (i:Int) (dJ0:Nat->Value):List Prop:=[Qa7 []/\Qas Tryz.prog J0 30 #[.agg #[.int .i64 s.glo,.int .i64 s.ghi]] (.bool true)]++Ql2 B s i dJ0
def Qo7 (s:Qaa) (i:Int) (dJ0:Nat->Value):Qay:=Qqg s i dJ0++[(21,Qaj.pure (.bool true) [])]
def Ql1 (B:Lo) (s:Qaa) (i:Int) (dJ0:Nat->Value):List Prop:=[(!ltq 6 (↑s.lots.length:Int))=true]++QkR B s i dJ0
def QoI (s:Qaa) (i:Int) (dJ0:Nat->Value):Qay:=Qo7 s i dJ0++[(27,hvT)]
theorem Qxi (B:Lo) (s:Qaa) (i:Int) (dJ0:Nat->Value):Qbb (Qak Tryz.prog (Qa1 Tryz.prog) J0 B 9 1 (Qa4 44 110 (([1,5]:List Nat).zip (QcU s i)) dJ0 QcQ) (Qa3 (Qbo s i)) (2+(Qbo s i).length)
 (QoI s i dJ0++[(32,Qaj.pure (.bool true) [])]) 0 [] []) []=some (.bool true,
 [Qa7 []/\Qas Tryz.prog J0 69 #[.int .i64 s.hold,.int .i64 0,.int .i64 100000] (.bool true)]++Ql1 B s i dJ0):=by kernel_rfl
theorem QvS (B:Lo) (s:Qaa) (i:Int) (dJ0:Nat->Value):Qbb (Qak Tryz.prog (Qa1 Tryz.prog) J0 B 9 1 (Qa4 44 110 (([1,5]:List Nat).zip (QcU s i)) dJ0 QcQ) (Qa3 (Qbo s i)) (2+(Qbo s i).length)
 (QoI s i dJ0++[(32,Qaj.pure (.bool false) [])]) 0 [] []) []=some (.bool false,
 [Qa7 []/\Qas Tryz.prog J0 69 #[.int .i64 s.hold,.int .i64 0,.int .i64 100000] (.bool false)]++Ql1 B s i dJ0):=by kernel_rfl
theorem QuS (B:Lo) (s:Qaa) (i:Int) (dJ0:Nat->Value):Qbb (Qak Tryz.prog (Qa1 Tryz.prog) J0 B 9 1 (Qa4 44 110 (([1,5]:List Nat).zip (QcU s i)) dJ0 QcQ) (Qa3 (Qbo s i)) (2+(Qbo s i).length)
 (Qo7 s i dJ0++[(27,hvF)]) 0 [] []) []=some (.bool false,
 [(!ltq 6 (↑s.lots.length:Int))=false]++QkR B s i dJ0):=by kernel_rfl
theorem QuB (B:Lo) (s:Qaa) (i:Int) (dJ0:Nat->Value):Qbb (Qak Tryz.prog (Qa1 Tryz.prog) J0 B 9 1 (Qa4 44 110 (([1,5]:List Nat).zip (QcU s i)) dJ0 QcQ) (Qa3 (Qbo s i)) (2+(Qbo s i).length)
 (Qqg s i dJ0++[(21,Qaj.pure (.bool false) [])]) 0 [] []) []=some (.bool false,
 [Qa7 []/\Qas Tryz.prog J0 30 #[.agg #[.int .i64 s.glo,.int .i64 s.ghi]] (.bool false)]++Ql2 B s i dJ0):=by kernel_rfl
theorem QsU (B:Lo) (s:Qaa) (i:Int) (dJ0:Nat->Value):Qbb (Qak Tryz.prog (Qa1 Tryz.prog) J0 B 9 1 (Qa4 44 110 (([1,5]:List Nat).zip (QcU s i)) dJ0 QcQ) (Qa3 (Qbo s i)) (2+(Qbo s i).length)
 (Qpk s i dJ0++[(16,hvF)]) 0 [] []) []=some (.bool false,
 [eqq (↑s.use.length:Int) (↑s.stock.length:Int)=false]++QkO B s i dJ0):=by kernel_rfl
theorem QtX (B:Lo) (s:Qaa) (i:Int) (dJ0:Nat->Value):Qbb (Qak Tryz.prog (Qa1 Tryz.prog) J0 B 9 1 (Qa4 44 110 (([1,5]:List Nat).zip (QcU s i)) dJ0 QcQ) (Qa3 (Qbo s i)) (2+(Qbo s i).length)
 (QpG s i dJ0++[(8,Qaj.pure (.bool false) [])]) 0 [] []) []=some (.bool false,
 [Qa7 []/\Qas Tryz.prog J0 69 #[.int .i64 (↑s.stock.length:Int),.int .i64 1,.int .i64 4] (.bool false)]++QlP B s i dJ0):=by kernel_rfl
def QkM (B:Lo) (s:Qaa) (i j:Int) (dJ0:Nat->Value):List Prop:=[j=(↑j.toNat:Int)/\Int.toNat j < List.length (Qad.goods (s.lots.getD i.toNat default))/\Array.extract (Qac Qa6 (Qad.goods (s.lots.getD i.toNat default))) (Int.toNat j * TypeInfo.size Tryz.t25) (Int.toNat j * TypeInfo.size Tryz.t25+TypeInfo.size Tryz.t25)=#[.int .i64 (Span.lo (List.getD (Qad.goods (s.lots.getD i.toNat default)) j.toNat default)),.int .i64 (Span.hi (List.getD (Qad.goods (s.lots.getD i.toNat default)) j.toNat default))],ltq j (↑(List.length (Qad.goods (s.lots.getD i.toNat default))):Int)=true]++([]:List Prop)
def Qqh (s:Qaa) (i j:Int) (dJ0:Nat->Value):Qay:=[(4,hvT),(8,Qaj.tidx j.toNat #[.int .i64 (Span.lo (List.getD (Qad.goods (s.lots.getD i.toNat default)) j.toNat default)),.int .i64 (Span.hi (List.getD (Qad.goods (s.lots.getD i.toNat default)) j.toNat default))])]
theorem QsE (B:Lo) (s:Qaa) (i j:Int) (dJ0:Nat->Value):landM (Qak Tryz.prog (Qa1 Tryz.prog) J0 B 14 1 (Qa4 44 110 (([1,5,6,7]:List Nat).zip (Qd0 s i j)) dJ0 Qdy) (Qa3 (Qb7 s i j)) (2+(Qb7 s i j).length)
 (Qqh s i j dJ0++[(10,Qaj.pure (.bool true) []),(13,hvI (j+1))]) 0 [] []) [1,5,6,7] [(2,KS.auto),(3,KS.auto)] []=some ⟨44,110,Qdy,[],.run,none,Qd0 s (i) (j+1),Qb7 s (i) (j+1),
 [wq (j+1)=j+1,Qa7 []/\Qas Tryz.prog J0 70 #[.agg #[.int .i64 (Span.lo (List.getD (Qad.goods (s.lots.getD i.toNat default)) j.toNat default)),.int .i64 (Span.hi (List.getD (Qad.goods (s.lots.getD i.toNat default)) j.toNat default))],.int .i64 0,.int .i64 100000] (.bool true)]++QkM B s i j dJ0⟩:=by kernel_rfl
theorem QsM (B:Lo) (s:Qaa) (i j:Int) (dJ0:Nat->Value):Qbb (Qak Tryz.prog (Qa1 Tryz.prog) J0 B 14 1 (Qa4 44 110 (([1,5,6,7]:List Nat).zip (Qd0 s i j)) dJ0 Qdy) (Qa3 (Qb7 s i j)) (2+(Qb7 s i j).length)
 (Qqh s i j dJ0++[(10,Qaj.pure (.bool false) [])]) 0 [] []) []=some (.bool false,
 [Qa7 []/\Qas Tryz.prog J0 70 #[.agg #[.int .i64 (Span.lo (List.getD (Qad.goods (s.lots.getD i.toNat default)) j.toNat default)),.int .i64 (Span.hi (List.getD (Qad.goods (s.lots.getD i.toNat default)) j.toNat default))],.int .i64 0,.int .i64 100000] (.bool false)]++QkM B s i j dJ0):=by kernel_rfl
def Qlk (B:Lo) (s:Qaa) (i j:Int) (dJ0:Nat->Value):List Prop:=[ltq j (↑(List.length (Qad.goods (s.lots.getD i.toNat default))):Int)=false]++([]:List Prop)
def Qot (s:Qaa) (i j:Int) (dJ0:Nat->Value):Qay:=[(4,hvF)]
theorem QtQ (B:Lo) (s:Qaa) (i j:Int) (dJ0:Nat->Value):Qbb (Qak Tryz.prog (Qa1 Tryz.prog) J0 B 12 1 (Qa4 44 110 (([1,5,6,7]:List Nat).zip (Qd0 s i j)) dJ0 Qdy) (Qa3 (Qb7 s i j)) (2+(Qb7 s i j).length)
 (Qot s i j dJ0++[(11,hvT)]) 0 [] []) []=some (.bool false,
 [(!eqq (↑(List.length (Qad.goods (s.lots.getD i.toNat default))):Int) (↑s.stock.length:Int))=true]++Qlk B s i j dJ0):=by kernel_rfl
def Qkd (B:Lo) (s:Qaa) (i j:Int) (dJ0:Nat->Value):List Prop:=[(!eqq (↑(List.length (Qad.goods (s.lots.getD i.toNat default))):Int) (↑s.stock.length:Int))=false]++Qlk B s i j dJ0
def Qo1 (s:Qaa) (i j:Int) (dJ0:Nat->Value):Qay:=Qot s i j dJ0++[(11,hvF)]
def Qjb (B:Lo) (s:Qaa) (i j:Int) (dJ0:Nat->Value):List Prop:=[Qa7 []/\Qas Tryz.prog J0 69 #[.int .i64 (Qad.weight (s.lots.getD i.toNat default)),.int .i64 0,.int .i64 100000] (.bool true)]++Qkd B s i j dJ0
def QmV (s:Qaa) (i j:Int) (dJ0:Nat->Value):Qay:=Qo1 s i j dJ0++[(15,Qaj.pure (.bool true) [])]
theorem QsQ (B:Lo) (s:Qaa) (i j:Int) (dJ0:Nat->Value):landM (Qak Tryz.prog (Qa1 Tryz.prog) J0 B 12 1 (Qa4 44 110 (([1,5,6,7]:List Nat).zip (Qd0 s i j)) dJ0 Qdy) (Qa3 (Qb7 s i j)) (2+(Qb7 s i j).length)
 (QmV s i j dJ0++[(21,Qaj.pure (.bool true) []),(25,hvI (i+1))]) 0 [] []) [1,5] [(2,KS.auto)] []=some ⟨44,110,QcQ,[],.run,none,QcU s (i+1),Qbo s (i+1),
 [wq (i+1)=i+1,Qa7 []/\Qas Tryz.prog J0 69 #[.int .i64 (Qad.cost (s.lots.getD i.toNat default)),.int .i64 0,.int .i64 1000000] (.bool true)]++Qjb B s i j dJ0⟩:=by kernel_rfl
theorem QsW (B:Lo) (s:Qaa) (i j:Int) (dJ0:Nat->Value):Qbb (Qak Tryz.prog (Qa1 Tryz.prog) J0 B 12 1 (Qa4 44 110 (([1,5,6,7]:List Nat).zip (Qd0 s i j)) dJ0 Qdy) (Qa3 (Qb7 s i j)) (2+(Qb7 s i j).length)
 (QmV s i j dJ0++[(21,Qaj.pure (.bool false) [])]) 0 [] []) []=some (.bool false,
 [Qa7 []/\Qas Tryz.prog J0 69 #[.int .i64 (Qad.cost (s.lots.getD i.toNat default)),.int .i64 0,.int .i64 1000000] (.bool false)]++Qjb B s i j dJ0):=by kernel_rfl
theorem QtY (B:Lo) (s:Qaa) (i j:Int) (dJ0:Nat->Value):Qbb (Qak Tryz.prog (Qa1 Tryz.prog) J0 B 12 1 (Qa4 44 110 (([1,5,6,7]:List Nat).zip (Qd0 s i j)) dJ0 Qdy) (Qa3 (Qb7 s i j)) (2+(Qb7 s i j).length)
 (Qo1 s i j dJ0++[(15,Qaj.pure (.bool false) [])]) 0 [] []) []=some (.bool false,
 [Qa7 []/\Qas Tryz.prog J0 69 #[.int .i64 (Qad.weight (s.lots.getD i.toNat default)),.int .i64 0,.int .i64 100000] (.bool false)]++Qkd B s i j dJ0):=by kernel_rfl
theorem QtW (B:Lo) (s:Qaa):landM (Qak Tryz.prog (Qa1 Tryz.prog) J0 B 7 1 (Qai Tryz.prog 44 110 (([.agg (Qah s).toArray]).map (Qaq 0 4))) H00 1
 [] 0 [] []) [1,3] [(1,KS.auto)] []=some ⟨44,110,Qfp,[],.run,none,Qfw s (0),QcO s (0),
 []⟩:=by kernel_rfl
set_option maxHeartbeats 4000000 in
theorem Qvi (s:Qaa) (hb:∀l∈s.lots,l.goods.length<=8) (hfacts:s.stock.length<=9223372036854775807/\s.use.length<=9223372036854775807/\s.lots.length<=9223372036854775807) {B:Lo} (hJ:∀w,B.has w->J0 w) {c0:CF}:∀m:Nat,(∀(i:Int),(s.stock.length - i.toNat)+s.use.length+wtL s.lots+9=m->∀(h0:0<=i),Qxk B c0 s i->EndsT Tryz.prog B c0 (.bool ((s.stock.drop i.toNat).all (fun x=> inB x 0 100000) && (Qct s.use 1000 && (s.lots.all (Qou s.stock.length) && storeT s)))))/\(∀(i:Int),(s.use.length - i.toNat)+wtL s.lots+8=m->∀(h0:0<=i),Qyc B c0 s i->EndsT Tryz.prog B c0 (.bool ((s.use.drop i.toNat).all (fun s=> Qbz s.lo s.hi 0 1000) && (s.lots.all (Qou s.stock.length) && storeT s))))/\(∀(i:Int),wtL (s.lots.drop i.toNat)+1=m->∀(h0:0<=i),QxI B c0 s i->EndsT Tryz.prog B c0 (.bool ((s.lots.drop i.toNat).all (Qou s.stock.length) && storeT s)))/\(∀(i j:Int),((s.lots.getD i.toNat default).goods.length - j.toNat)+wtL (s.lots.drop (i+1).toNat)+2=m->∀(h0:0<=i) (h1:i < s.lots.length) (j0:0<=j),QxO B c0 s i j->EndsT Tryz.prog B c0 (.bool ((((s.lots.getD i.toNat default).goods.drop j.toNat).all (fun s=> Qbz s.lo s.hi 0 100000) && (decide ((s.lots.getD i.toNat default).goods.length=s.stock.length) && (inB (s.lots.getD i.toNat default).weight 0 100000 && inB (s.lots.getD i.toNat default).cost 0 1000000))) && ((s.lots.drop (i+1).toNat).all (Qou s.stock.length) && storeT s)))):=by
 intro m0
 induction m0 using Nat.strongRecOn with
 | _ m0 ih0=>
   refine ⟨?_, ?_, ?_, ?_⟩
   ·intro i hm0 h0 ⟨dJ0,hdJ0,hg0⟩
    by_cases q0:(i:Int) < ((↑s.stock.length:Int))
    ·
     have hp0:Qa7 (Qkq B s i dJ0):=by
      have s2:=QbL (l:=s.stock) (p:=fun x=> inB x 0 100000) h0 q0
      exact ⟨⟨by omega,by omega,(Qaf (z:=1) (fun _=> rfl) (by omega))⟩,⟨(Qbl q0),trivial⟩⟩
     cases q1:inB (s.stock.getD i.toNat default) 0 100000 with
     | true=>
       have s2:=QbL (l:=s.stock) (p:=fun x=> inB x 0 100000) h0 q0
       exact ((ih0 _ (by omega)).1 (i+1) rfl (by omega)
        (hg0.landM okF hJ Qab (Qv6 B s i dJ0)
        ⟨(QaJ (by omega) (by omega)),⟨⟨trivial,(by have t_:=rin (s.stock.getD i.toNat default) (0) (100000);rw [q1] at t_;exact t_)⟩,hp0⟩⟩ (by kernel_rfl) (by kernel_rfl))).cast (by (simp only [s2,q1,Bool.true_and,Bool.false_and];done))
     | false=>
       have s2:=QbL (l:=s.stock) (p:=fun x=> inB x 0 100000) h0 q0
       exact (GoE.endsT okF hJ Qab hg0 (QxX B s i dJ0)
        ⟨⟨trivial,(by have t_:=rin (s.stock.getD i.toNat default) (0) (100000);rw [q1] at t_;exact t_)⟩,hp0⟩).cast (by (simp only [s2,q1,Bool.true_and,Bool.false_and];done))
    ·
     have s2:=QaX (l:=s.stock) (p:=fun x=> inB x 0 100000) (i:=i) (by omega)
     exact ((ih0 _ (by (first | omega | (simp only [Int.toNat_zero,List.drop_zero];omega)))).2.1 (0) rfl (by omega)
      (hg0.landM okF hJ Qab (Qv1 B s i dJ0)
      ⟨(Qbq (Int.not_lt.1 q0)),trivial⟩ (by kernel_rfl) (by kernel_rfl))).cast (by (simp only [s2,Qct,Int.toNat_zero,List.drop_zero,Bool.true_and];done))
   ·intro i hm0 h0 ⟨dJ0,hdJ0,hg0⟩
    by_cases q0:(i:Int) < ((↑s.use.length:Int))
    ·
     have hp1:Qa7 (Qlc B s i dJ0):=by
      have s2:=QbL (l:=s.use) (p:=fun s=> Qbz s.lo s.hi 0 1000) h0 q0
      have m2:wtL (s.lots.drop (Int.toNat 0))=wtL s.lots:=rfl
      exact ⟨⟨by omega,by omega,(Qaf (z:=2) (fun _=> rfl) (by omega))⟩,⟨(Qbl q0),trivial⟩⟩
     cases q1:Qbz (Span.lo (s.use.getD i.toNat default)) (Span.hi (s.use.getD i.toNat default)) 0 1000 with
     | true=>
       have s2:=QbL (l:=s.use) (p:=fun s=> Qbz s.lo s.hi 0 1000) h0 q0
       have m2:wtL (s.lots.drop (Int.toNat 0))=wtL s.lots:=rfl
       exact ((ih0 _ (by (first | omega | (simp only [Int.toNat_zero,List.drop_zero];omega)))).2.1 (i+1) rfl (by omega)
        (hg0.landM okF hJ Qab (Qxu B s i dJ0)
        ⟨(QaJ (by omega) (by omega)),⟨⟨trivial,(by have t_:=Qt9 (Span.lo (s.use.getD i.toNat default)) (Span.hi (s.use.getD i.toNat default)) (0) (1000);rw [q1] at t_;exact t_)⟩,hp1⟩⟩ (by kernel_rfl) (by kernel_rfl))).cast (by (simp only [s2,q1,Bool.true_and,Bool.false_and];done))
     | false=>
       have s2:=QbL (l:=s.use) (p:=fun s=> Qbz s.lo s.hi 0 1000) h0 q0
       have m2:wtL (s.lots.drop (Int.toNat 0))=wtL s.lots:=rfl
       exact (GoE.endsT okF hJ Qab hg0 (QxL B s i dJ0)
        ⟨⟨trivial,(by have t_:=Qt9 (Span.lo (s.use.getD i.toNat default)) (Span.hi (s.use.getD i.toNat default)) (0) (1000);rw [q1] at t_;exact t_)⟩,hp1⟩).cast (by (simp only [s2,q1,Bool.true_and,Bool.false_and];done))
    ·
     have s2:=QaX (l:=s.use) (p:=fun s=> Qbz s.lo s.hi 0 1000) (i:=i) (by omega)
     have m2:wtL (s.lots.drop (Int.toNat 0))=wtL s.lots:=rfl
     exact ((ih0 _ (by (first | omega | (simp only [Int.toNat_zero,List.drop_zero];omega)))).2.2.1 (0) rfl (by omega)
      (hg0.landM okF hJ Qab (QwM B s i dJ0)
      ⟨(Qbq (Int.not_lt.1 q0)),trivial⟩ (by kernel_rfl) (by kernel_rfl))).cast (by (simp only [s2,Int.toNat_zero,List.drop_zero,Bool.true_and];done))
   ·intro i hm0 h0 ⟨dJ0,hdJ0,hg0⟩
    by_cases q0:(i:Int) < ((↑s.lots.length:Int))
    ·
     have s2:=QbL (l:=s.lots) (p:=Qou s.stock.length) h0 q0
     have s3:=Q2j (l:=s.lots) h0 q0
     exact ((ih0 _ (by omega)).2.2.2 (i) (0) rfl (by with_reducible assumption) (by with_reducible assumption) (by omega)
      (hg0.landM okF hJ Qab (Qwv B s i dJ0)
      ⟨⟨by omega,by omega,(Qaf (z:=3) (fun _=> rfl) (by omega))⟩,⟨(Qbl q0),trivial⟩⟩ (by kernel_rfl) (by kernel_rfl))).cast (by (simp only [s2,Qou,Qct,Int.toNat_zero,List.drop_zero,Bool.and_assoc];done))
    ·
     have hp2:Qa7 (QlP B s i dJ0):=by
      exact ⟨(Qbq (Int.not_lt.1 q0)),trivial⟩
     cases q1:inB (↑s.stock.length:Int) 1 4 with
     | true=>
       have hp3:Qa7 (QkO B s i dJ0):=by
        have s2:=QaX (l:=s.lots) (p:=Qou s.stock.length) (i:=i) (by omega)
        exact ⟨⟨trivial,(by have t_:=rin ((↑s.stock.length:Int)) (1) (4);rw [q1] at t_;exact t_)⟩,hp2⟩
       by_cases q2:((↑s.use.length:Int):Int)=((↑s.stock.length:Int))
       ·
        have hp4:Qa7 (Ql2 B s i dJ0):=by
         exact ⟨(Qnl q2),hp3⟩
        cases q3:Qbz s.glo s.ghi 1 60 with
        | true=>
          have hp5:Qa7 (QkR B s i dJ0):=by
           have s2:=QaX (l:=s.lots) (p:=Qou s.stock.length) (i:=i) (by omega)
           exact ⟨⟨trivial,(by have t_:=Q4n s.glo s.ghi;rw [q3] at t_;exact t_)⟩,hp4⟩
          by_cases q4:((↑s.lots.length:Int):Int)<=(6)
          ·
           have hp6:Qa7 (Ql1 B s i dJ0):=by
            exact ⟨(Qdi q4),hp5⟩
           cases q5:inB s.hold 0 100000 with
           | true=>
             have s2:=QaX (l:=s.lots) (p:=Qou s.stock.length) (i:=i) (by omega)
             exact (GoE.endsT okF hJ Qab hg0 (Qxi B s i dJ0)
              ⟨⟨trivial,(by have t_:=rin s.hold (0) (100000);rw [q5] at t_;exact t_)⟩,hp6⟩).cast (by (rw [s2];simp_all [storeT];omega))
           | false=>
             have s2:=QaX (l:=s.lots) (p:=Qou s.stock.length) (i:=i) (by omega)
             exact (GoE.endsT okF hJ Qab hg0 (QvS B s i dJ0)
              ⟨⟨trivial,(by have t_:=rin s.hold (0) (100000);rw [q5] at t_;exact t_)⟩,hp6⟩).cast (by (rw [s2];simp [storeT, *];done))
          ·
           have s2:=QaX (l:=s.lots) (p:=Qou s.stock.length) (i:=i) (by omega)
           exact (GoE.endsT okF hJ Qab hg0 (QuS B s i dJ0)
            ⟨(Qdn (Int.not_le.1 q4)),hp5⟩).cast (by (rw [s2];simp_all [storeT];omega))
        | false=>
          have s2:=QaX (l:=s.lots) (p:=Qou s.stock.length) (i:=i) (by omega)
          exact (GoE.endsT okF hJ Qab hg0 (QuB B s i dJ0)
           ⟨⟨trivial,(by have t_:=Q4n s.glo s.ghi;rw [q3] at t_;exact t_)⟩,hp4⟩).cast (by (rw [s2];simp [storeT, *];done))
       ·
        have s2:=QaX (l:=s.lots) (p:=Qou s.stock.length) (i:=i) (by omega)
        exact (GoE.endsT okF hJ Qab hg0 (QsU B s i dJ0)
         ⟨(Qnq q2),hp3⟩).cast (by (rw [s2];simp_all [storeT];omega))
     | false=>
       have s2:=QaX (l:=s.lots) (p:=Qou s.stock.length) (i:=i) (by omega)
       exact (GoE.endsT okF hJ Qab hg0 (QtX B s i dJ0)
        ⟨⟨trivial,(by have t_:=rin ((↑s.stock.length:Int)) (1) (4);rw [q1] at t_;exact t_)⟩,hp2⟩).cast (by (rw [s2];simp [storeT, *];done))
   ·intro i j hm0 h0 h1 j0 ⟨dJ0,hdJ0,hg0⟩
    have hgl:=hb _ (QaB h0 h1)
    by_cases q0:(j:Int) < ((↑(List.length (Qad.goods (s.lots.getD i.toNat default))):Int))
    ·
     have hp7:Qa7 (QkM B s i j dJ0):=by
      have s2:=QbL (l:=(s.lots.getD i.toNat default).goods) (p:=fun s=> Qbz s.lo s.hi 0 100000) j0 q0
      exact ⟨⟨by omega,by omega,(Qaf (z:=2) (fun _=> rfl) (by omega))⟩,⟨(Qbl q0),trivial⟩⟩
     cases q1:Qbz (Span.lo (List.getD (Qad.goods (s.lots.getD i.toNat default)) j.toNat default)) (Span.hi (List.getD (Qad.goods (s.lots.getD i.toNat default)) j.toNat default)) 0 100000 with
     | true=>
       have s2:=QbL (l:=(s.lots.getD i.toNat default).goods) (p:=fun s=> Qbz s.lo s.hi 0 100000) j0 q0
       exact ((ih0 _ (by omega)).2.2.2 (i) (j+1) rfl (by with_reducible assumption) (by with_reducible assumption) (by omega)
        (hg0.landM okF hJ Qab (QsE B s i j dJ0)
        ⟨(QaJ (by omega) (by omega)),⟨⟨trivial,(by have t_:=Qt9 (Span.lo (List.getD (Qad.goods (s.lots.getD i.toNat default)) j.toNat default)) (Span.hi (List.getD (Qad.goods (s.lots.getD i.toNat default)) j.toNat default)) (0) (100000);rw [q1] at t_;exact t_)⟩,hp7⟩⟩ (by kernel_rfl) (by kernel_rfl))).cast (by (simp only [s2,q1,Bool.true_and,Bool.false_and];done))
     | false=>
       have s2:=QbL (l:=(s.lots.getD i.toNat default).goods) (p:=fun s=> Qbz s.lo s.hi 0 100000) j0 q0
       exact (GoE.endsT okF hJ Qab hg0 (QsM B s i j dJ0)
        ⟨⟨trivial,(by have t_:=Qt9 (Span.lo (List.getD (Qad.goods (s.lots.getD i.toNat default)) j.toNat default)) (Span.hi (List.getD (Qad.goods (s.lots.getD i.toNat default)) j.toNat default)) (0) (100000);rw [q1] at t_;exact t_)⟩,hp7⟩).cast (by (simp only [s2,q1,Bool.true_and,Bool.false_and];done))
    ·
     have hp8:Qa7 (Qlk B s i j dJ0):=by
      exact ⟨(Qbq (Int.not_lt.1 q0)),trivial⟩
     by_cases q1:((↑(List.length (Qad.goods (s.lots.getD i.toNat default))):Int):Int)≠((↑s.stock.length:Int))
     ·
      have s2:=QaX (l:=(s.lots.getD i.toNat default).goods) (p:=fun s=> Qbz s.lo s.hi 0 100000) (i:=j) (by omega)
      exact (GoE.endsT okF hJ Qab hg0 (QtQ B s i j dJ0)
       ⟨(Q3f q1),hp8⟩).cast (by (simp only [s2,Bool.true_and];simp_all;omega))
     ·
      have hp9:Qa7 (Qkd B s i j dJ0):=by
       exact ⟨(Q3y (Decidable.of_not_not q1)),hp8⟩
      cases q2:inB (Qad.weight (s.lots.getD i.toNat default)) 0 100000 with
      | true=>
        have hp10:Qa7 (Qjb B s i j dJ0):=by
         have s2:=QaX (l:=(s.lots.getD i.toNat default).goods) (p:=fun s=> Qbz s.lo s.hi 0 100000) (i:=j) (by omega)
         exact ⟨⟨trivial,(by have t_:=rin (Qad.weight (s.lots.getD i.toNat default)) (0) (100000);rw [q2] at t_;exact t_)⟩,hp9⟩
        cases q3:inB (Qad.cost (s.lots.getD i.toNat default)) 0 1000000 with
        | true=>
          have s2:=QaX (l:=(s.lots.getD i.toNat default).goods) (p:=fun s=> Qbz s.lo s.hi 0 100000) (i:=j) (by omega)
          exact ((ih0 _ (by omega)).2.2.1 (i+1) rfl (by omega)
           (hg0.landM okF hJ Qab (QsQ B s i j dJ0)
           ⟨(QaJ (by omega) (by omega)),⟨⟨trivial,(by have t_:=rin (Qad.cost (s.lots.getD i.toNat default)) (0) (1000000);rw [q3] at t_;exact t_)⟩,hp10⟩⟩ (by kernel_rfl) (by kernel_rfl))).cast (by (simp only [s2,Bool.true_and];simp_all;omega))
        | false=>
          have s2:=QaX (l:=(s.lots.getD i.toNat default).goods) (p:=fun s=> Qbz s.lo s.hi 0 100000) (i:=j) (by omega)
          exact (GoE.endsT okF hJ Qab hg0 (QsW B s i j dJ0)
           ⟨⟨trivial,(by have t_:=rin (Qad.cost (s.lots.getD i.toNat default)) (0) (1000000);rw [q3] at t_;exact t_)⟩,hp10⟩).cast (by (simp only [s2,Bool.true_and];simp [*];done))
      | false=>
        have s2:=QaX (l:=(s.lots.getD i.toNat default).goods) (p:=fun s=> Qbz s.lo s.hi 0 100000) (i:=j) (by omega)
        exact (GoE.endsT okF hJ Qab hg0 (QtY B s i j dJ0)
         ⟨⟨trivial,(by have t_:=rin (Qad.weight (s.lots.getD i.toNat default)) (0) (100000);rw [q2] at t_;exact t_)⟩,hp9⟩).cast (by (simp only [s2,Bool.true_and];simp [*];done))
set_option maxHeartbeats 4000000 in
theorem Qyk (s:Qaa) (hb:∀l∈s.lots,l.goods.length<=8) (hfacts:s.stock.length<=9223372036854775807/\s.use.length<=9223372036854775807/\s.lots.length<=9223372036854775807) {B:Lo} (hJ:∀w,B.has w->J0 w):EndsT Tryz.prog B (Qai Tryz.prog 44 110 (([.agg (Qah s).toArray]).map (Qaq 0 4))) (.bool (QrG s)):=by
 exact ((Qvi s hb hfacts hJ _).1 (0) rfl (by omega)
  (GoE.start.landM okF hJ Qab (QtW B s)
  trivial (by kernel_rfl) (by kernel_rfl))).cast (by rfl)
theorem Q2X (s:Qaa) (hb:∀l∈s.lots,l.goods.length<=8):Qas Tryz.prog J0 44 #[.agg (Qah s).toArray] (.bool (QrG s)):=
 Qc2 (ts:=[.agg (Qah s).toArray]) (s.stock.length<=9223372036854775807/\s.use.length<=9223372036854775807/\s.lots.length<=9223372036854775807) (fun _ _ ht=> ⟨ht.ln2 (i:=0) (j:=0) rfl rfl,ht.ln2 (i:=0) (j:=1) rfl rfl,ht.ln2 (i:=0) (j:=4) rfl rfl⟩) Qb6 (c0:=Qai Tryz.prog 44 110 (([.agg (Qah s).toArray]).map (Qaq 0 4))) (by kernel_rfl) (by kernel_rfl) fun hfacts B hJ=> Qyk s hb hfacts hJ
def QbT (s:Qaa) (i:Int):List Value:=[pA 2 0,.int .i64 i]
def QaU (s:Qaa) (i:Int):List Obj:=[Obj.cells #[Qa0 1 (slT s.stock.length (Qac Qar s.stock)),Qa0 1 (slT s.use.length (Qac Qa6 s.use)),.int .i64 s.glo,.int .i64 s.ghi,Qa0 1 (slT s.lots.length (Qac Qam s.lots)),.int .i64 s.hold] 62]
def QbS:List Item:=([.code [1,0,1,0,0],.inLoop [1,0,1,0,0],.inBlock 0,.code [1,1]]).map (it (Qal Tryz.prog 36))
def Qvx (B:Lo) (c0:CF) (s:Qaa) (i:Int):Prop:=∃dJ:Nat->Value,(∀t,QaS (dJ t))/\GoE Tryz.prog B c0 H00 1 (Qa4 36 39 (([1,3]:List Nat).zip (QbT s i)) dJ QbS) (Qa3 (QaU s i)) (2+(QaU s i).length) []
def Qk5 (B:Lo) (s:Qaa) (i:Int) (dJ0:Nat->Value):List Prop:=[ltq i (↑s.lots.length:Int)=true]++([]:List Prop)
def Qpo (s:Qaa) (i:Int) (dJ0:Nat->Value):Qay:=[(4,hvT)]
def QlS (B:Lo) (s:Qaa) (i:Int) (dJ0:Nat->Value):List Prop:=[i=(↑i.toNat:Int)/\Int.toNat i < List.length s.lots/\Array.extract (Qac Qam s.lots) (Int.toNat i * TypeInfo.size Tryz.t118) (Int.toNat i * TypeInfo.size Tryz.t118+TypeInfo.size Tryz.t118)=#[slT (List.length (Qad.goods (s.lots.getD i.toNat default))) (Qac Qa6 (Qad.goods (s.lots.getD i.toNat default))),.int .i64 (Qad.weight (s.lots.getD i.toNat default)),.int .i64 (Qad.cost (s.lots.getD i.toNat default))],ltq i 12=true]++Qk5 B s i dJ0
def QpB (s:Qaa) (i:Int) (dJ0:Nat->Value):Qay:=Qpo s i dJ0++[(7,hvT),(12,Qaj.tidx i.toNat #[slT (List.length (Qad.goods (s.lots.getD i.toNat default))) (Qac Qa6 (Qad.goods (s.lots.getD i.toNat default))),.int .i64 (Qad.weight (s.lots.getD i.toNat default)),.int .i64 (Qad.cost (s.lots.getD i.toNat default))])]
theorem QuH (B:Lo) (s:Qaa) (i:Int) (dJ0:Nat->Value):Qbb (Qak Tryz.prog (Qa1 Tryz.prog) J0 B 14 1 (Qa4 36 39 (([1,3]:List Nat).zip (QbT s i)) dJ0 QbS) (Qa3 (QaU s i)) (2+(QaU s i).length)
 (QpB s i dJ0++[(16,hvT)]) 0 [] []) []=some (.bool false,
 [ltq 8 (↑(List.length (Qad.goods (s.lots.getD i.toNat default))):Int)=true]++QlS B s i dJ0):=by kernel_rfl
theorem Qxh (B:Lo) (s:Qaa) (i:Int) (dJ0:Nat->Value):landM (Qak Tryz.prog (Qa1 Tryz.prog) J0 B 14 1 (Qa4 36 39 (([1,3]:List Nat).zip (QbT s i)) dJ0 QbS) (Qa3 (QaU s i)) (2+(QaU s i).length)
 (QpB s i dJ0++[(16,hvF),(18,hvI (i+1))]) 0 [] []) [1,3] [(2,KS.auto)] []=some ⟨36,39,QbS,[],.run,none,QbT s (i+1),QaU s (i+1),
 [wq (i+1)=i+1,ltq 8 (↑(List.length (Qad.goods (s.lots.getD i.toNat default))):Int)=false]++QlS B s i dJ0⟩:=by kernel_rfl
def Qld (B:Lo) (s:Qaa) (i:Int) (dJ0:Nat->Value):List Prop:=[ltq i 12=false]++Qk5 B s i dJ0
def Qos (s:Qaa) (i:Int) (dJ0:Nat->Value):Qay:=Qpo s i dJ0++[(7,hvF)]
def Ql8 (B:Lo) (s:Qaa) (i:Int) (dJ0:Nat->Value):List Prop:=[(!ltq 8 (↑s.stock.length:Int))=true]++Qld B s i dJ0
def QoE (s:Qaa) (i:Int) (dJ0:Nat->Value):Qay:=Qos s i dJ0++[(12,hvT)]
def Qki (B:Lo) (s:Qaa) (i:Int) (dJ0:Nat->Value):List Prop:=[(!ltq 8 (↑s.use.length:Int))=true]++Ql8 B s i dJ0
def Qqi (s:Qaa) (i:Int) (dJ0:Nat->Value):Qay:=QoE s i dJ0++[(17,hvT)]
theorem QxQ (B:Lo) (s:Qaa) (i:Int) (dJ0:Nat->Value):Qbb (Qak Tryz.prog (Qa1 Tryz.prog) J0 B 9 1 (Qa4 36 39 (([1,3]:List Nat).zip (QbT s i)) dJ0 QbS) (Qa3 (QaU s i)) (2+(QaU s i).length)
 (Qqi s i dJ0++[(23,hvT)]) 0 [] []) []=some (.bool true,
 [(!ltq 9 (↑s.lots.length:Int))=true]++Qki B s i dJ0):=by kernel_rfl
theorem Qwq (B:Lo) (s:Qaa) (i:Int) (dJ0:Nat->Value):Qbb (Qak Tryz.prog (Qa1 Tryz.prog) J0 B 9 1 (Qa4 36 39 (([1,3]:List Nat).zip (QbT s i)) dJ0 QbS) (Qa3 (QaU s i)) (2+(QaU s i).length)
 (Qqi s i dJ0++[(23,hvF)]) 0 [] []) []=some (.bool false,
 [(!ltq 9 (↑s.lots.length:Int))=false]++Qki B s i dJ0):=by kernel_rfl
theorem Qxt (B:Lo) (s:Qaa) (i:Int) (dJ0:Nat->Value):Qbb (Qak Tryz.prog (Qa1 Tryz.prog) J0 B 9 1 (Qa4 36 39 (([1,3]:List Nat).zip (QbT s i)) dJ0 QbS) (Qa3 (QaU s i)) (2+(QaU s i).length)
 (QoE s i dJ0++[(17,hvF)]) 0 [] []) []=some (.bool false,
 [(!ltq 8 (↑s.use.length:Int))=false]++Ql8 B s i dJ0):=by kernel_rfl
theorem Qv4 (B:Lo) (s:Qaa) (i:Int) (dJ0:Nat->Value):Qbb (Qak Tryz.prog (Qa1 Tryz.prog) J0 B 9 1 (Qa4 36 39 (([1,3]:List Nat).zip (QbT s i)) dJ0 QbS) (Qa3 (QaU s i)) (2+(QaU s i).length)
 (Qos s i dJ0++[(12,hvF)]) 0 [] []) []=some (.bool false,
 [(!ltq 8 (↑s.stock.length:Int))=false]++Qld B s i dJ0):=by kernel_rfl
def Qks (B:Lo) (s:Qaa) (i:Int) (dJ0:Nat->Value):List Prop:=[ltq i (↑s.lots.length:Int)=false]++([]:List Prop)
def Qqs (s:Qaa) (i:Int) (dJ0:Nat->Value):Qay:=[(4,hvF)]
def Qkb (B:Lo) (s:Qaa) (i:Int) (dJ0:Nat->Value):List Prop:=[(!ltq 8 (↑s.stock.length:Int))=true]++Qks B s i dJ0
def Qo8 (s:Qaa) (i:Int) (dJ0:Nat->Value):Qay:=Qqs s i dJ0++[(12,hvT)]
def QlN (B:Lo) (s:Qaa) (i:Int) (dJ0:Nat->Value):List Prop:=[(!ltq 8 (↑s.use.length:Int))=true]++Qkb B s i dJ0
def Qpi (s:Qaa) (i:Int) (dJ0:Nat->Value):Qay:=Qo8 s i dJ0++[(17,hvT)]
theorem QvH (B:Lo) (s:Qaa) (i:Int) (dJ0:Nat->Value):Qbb (Qak Tryz.prog (Qa1 Tryz.prog) J0 B 9 1 (Qa4 36 39 (([1,3]:List Nat).zip (QbT s i)) dJ0 QbS) (Qa3 (QaU s i)) (2+(QaU s i).length)
 (Qpi s i dJ0++[(23,hvT)]) 0 [] []) []=some (.bool true,
 [(!ltq 9 (↑s.lots.length:Int))=true]++QlN B s i dJ0):=by kernel_rfl
theorem QuK (B:Lo) (s:Qaa) (i:Int) (dJ0:Nat->Value):Qbb (Qak Tryz.prog (Qa1 Tryz.prog) J0 B 9 1 (Qa4 36 39 (([1,3]:List Nat).zip (QbT s i)) dJ0 QbS) (Qa3 (QaU s i)) (2+(QaU s i).length)
 (Qpi s i dJ0++[(23,hvF)]) 0 [] []) []=some (.bool false,
 [(!ltq 9 (↑s.lots.length:Int))=false]++QlN B s i dJ0):=by kernel_rfl
theorem Qw5 (B:Lo) (s:Qaa) (i:Int) (dJ0:Nat->Value):Qbb (Qak Tryz.prog (Qa1 Tryz.prog) J0 B 9 1 (Qa4 36 39 (([1,3]:List Nat).zip (QbT s i)) dJ0 QbS) (Qa3 (QaU s i)) (2+(QaU s i).length)
 (Qo8 s i dJ0++[(17,hvF)]) 0 [] []) []=some (.bool false,
 [(!ltq 8 (↑s.use.length:Int))=false]++Qkb B s i dJ0):=by kernel_rfl
theorem Qwg (B:Lo) (s:Qaa) (i:Int) (dJ0:Nat->Value):Qbb (Qak Tryz.prog (Qa1 Tryz.prog) J0 B 9 1 (Qa4 36 39 (([1,3]:List Nat).zip (QbT s i)) dJ0 QbS) (Qa3 (QaU s i)) (2+(QaU s i).length)
 (Qqs s i dJ0++[(12,hvF)]) 0 [] []) []=some (.bool false,
 [(!ltq 8 (↑s.stock.length:Int))=false]++Qks B s i dJ0):=by kernel_rfl
theorem QsJ (B:Lo) (s:Qaa):landM (Qak Tryz.prog (Qa1 Tryz.prog) J0 B 7 1 (Qai Tryz.prog 36 39 (([.agg (Qah s).toArray]).map (Qaq 0 4))) H00 1
 [] 0 [] []) [1,3] [(1,KS.auto)] []=some ⟨36,39,QbS,[],.run,none,QbT s (0),QaU s (0),
 []⟩:=by kernel_rfl
set_option maxHeartbeats 4000000 in
theorem Qvh (s:Qaa)  (hfacts:s.stock.length<=9223372036854775807/\s.use.length<=9223372036854775807/\s.lots.length<=9223372036854775807) {B:Lo} (hJ:∀w,B.has w->J0 w) {c0:CF}:∀m:Nat,(∀(i:Int),s.lots.length - i.toNat=m->∀(h0:0<=i),Qvx B c0 s i->EndsT Tryz.prog B c0 (.bool (((s.lots.take 12).drop i.toNat).all (fun l=> decide (l.goods.length<=8)) && (decide (s.stock.length<=8) && (decide (s.use.length<=8) && decide (s.lots.length<=9)))))):=by
 intro m0
 induction m0 using Nat.strongRecOn with
 | _ m0 ih0=>
   intro i hm0 h0 ⟨dJ0,hdJ0,hg0⟩
   by_cases q0:(i:Int) < ((↑s.lots.length:Int))
   ·
    have hp0:Qa7 (Qk5 B s i dJ0):=by
     exact ⟨(Qbl q0),trivial⟩
    by_cases q1:(i:Int) < (12)
    ·
     have hp1:Qa7 (QlS B s i dJ0):=by
      have s2:=QbL (l:=s.lots.take 12) (p:=fun l=> decide (l.goods.length<=8)) h0 (by rw [List.length_take];omega)
      have e3:(s.lots.take 12).getD i.toNat default=s.lots.getD i.toNat default:=by simp only [List.getD_eq_getElem?_getD];rw [List.getElem?_take_of_lt (by omega)]
      rw [e3] at s2
      exact ⟨⟨by omega,by omega,(Qaf (z:=3) (fun _=> rfl) (by omega))⟩,⟨(Qbl q1),hp0⟩⟩
     by_cases q2:(8:Int) < ((↑(List.length (Qad.goods (s.lots.getD i.toNat default))):Int))
     ·
      have s2:=QbL (l:=s.lots.take 12) (p:=fun l=> decide (l.goods.length<=8)) h0 (by rw [List.length_take];omega)
      have e3:(s.lots.take 12).getD i.toNat default=s.lots.getD i.toNat default:=by simp only [List.getD_eq_getElem?_getD];rw [List.getElem?_take_of_lt (by omega)]
      rw [e3] at s2
      rw [decide_eq_false (by omega)] at s2
      exact (GoE.endsT okF hJ Qab hg0 (QuH B s i dJ0)
       ⟨(Qbl q2),hp1⟩).cast (by (simp only [s2,Bool.true_and,Bool.false_and];done))
     ·
      have s2:=QbL (l:=s.lots.take 12) (p:=fun l=> decide (l.goods.length<=8)) h0 (by rw [List.length_take];omega)
      have e3:(s.lots.take 12).getD i.toNat default=s.lots.getD i.toNat default:=by simp only [List.getD_eq_getElem?_getD];rw [List.getElem?_take_of_lt (by omega)]
      rw [e3] at s2
      rw [decide_eq_true (by omega)] at s2
      exact ((ih0 _ (by omega)) (i+1) rfl (by omega)
       (hg0.landM okF hJ Qab (Qxh B s i dJ0)
       ⟨(QaJ (by omega) (by omega)),⟨(Qbq (Int.not_lt.1 q2)),hp1⟩⟩ (by kernel_rfl) (by kernel_rfl))).cast (by (simp only [s2,Bool.true_and,Bool.false_and];done))
    ·
     have hp2:Qa7 (Qld B s i dJ0):=by
      exact ⟨(Qbq (Int.not_lt.1 q1)),hp0⟩
     by_cases q2:((↑s.stock.length:Int):Int)<=(8)
     ·
      have hp3:Qa7 (Ql8 B s i dJ0):=by
       exact ⟨(Qdi q2),hp2⟩
      by_cases q3:((↑s.use.length:Int):Int)<=(8)
      ·
       have hp4:Qa7 (Qki B s i dJ0):=by
        exact ⟨(Qdi q3),hp3⟩
       by_cases q4:((↑s.lots.length:Int):Int)<=(9)
       ·
        have s2:=QbL (l:=s.lots.take 12) (p:=fun l=> decide (l.goods.length<=8)) h0 (by rw [List.length_take];omega)
        have e3:(s.lots.take 12).getD i.toNat default=s.lots.getD i.toNat default:=by simp only [List.getD_eq_getElem?_getD];rw [List.getElem?_take_of_lt (by omega)]
        rw [e3] at s2
        rw [decide_eq_true (by omega)] at s2
        have s2:=QaX (l:=s.lots.take 12) (p:=fun l=> decide (l.goods.length<=8)) (i:=i) (by rw [List.length_take];omega)
        exact (GoE.endsT okF hJ Qab hg0 (QxQ B s i dJ0)
         ⟨(Qdi q4),hp4⟩).cast (by (simp only [s2,Bool.true_and];simp_all;omega))
       ·
        have s2:=QaX (l:=s.lots.take 12) (p:=fun l=> decide (l.goods.length<=8)) (i:=i) (by rw [List.length_take];omega)
        exact (GoE.endsT okF hJ Qab hg0 (Qwq B s i dJ0)
         ⟨(Qdn (Int.not_le.1 q4)),hp4⟩).cast (by (simp only [s2,Bool.true_and];simp_all;omega))
      ·
       have s2:=QaX (l:=s.lots.take 12) (p:=fun l=> decide (l.goods.length<=8)) (i:=i) (by rw [List.length_take];omega)
       exact (GoE.endsT okF hJ Qab hg0 (Qxt B s i dJ0)
        ⟨(Qdn (Int.not_le.1 q3)),hp3⟩).cast (by (simp only [s2,Bool.true_and];simp_all;omega))
     ·
      have s2:=QaX (l:=s.lots.take 12) (p:=fun l=> decide (l.goods.length<=8)) (i:=i) (by rw [List.length_take];omega)
      exact (GoE.endsT okF hJ Qab hg0 (Qv4 B s i dJ0)
       ⟨(Qdn (Int.not_le.1 q2)),hp2⟩).cast (by (simp only [s2,Bool.true_and];simp_all;omega))
   ·
    have hp5:Qa7 (Qks B s i dJ0):=by
     exact ⟨(Qbq (Int.not_lt.1 q0)),trivial⟩
    by_cases q1:((↑s.stock.length:Int):Int)<=(8)
    ·
     have hp6:Qa7 (Qkb B s i dJ0):=by
      exact ⟨(Qdi q1),hp5⟩
     by_cases q2:((↑s.use.length:Int):Int)<=(8)
     ·
      have hp7:Qa7 (QlN B s i dJ0):=by
       exact ⟨(Qdi q2),hp6⟩
      by_cases q3:((↑s.lots.length:Int):Int)<=(9)
      ·
       have s2:=QaX (l:=s.lots.take 12) (p:=fun l=> decide (l.goods.length<=8)) (i:=i) (by rw [List.length_take];omega)
       exact (GoE.endsT okF hJ Qab hg0 (QvH B s i dJ0)
        ⟨(Qdi q3),hp7⟩).cast (by (simp only [s2,Bool.true_and];simp_all;omega))
      ·
       have s2:=QaX (l:=s.lots.take 12) (p:=fun l=> decide (l.goods.length<=8)) (i:=i) (by rw [List.length_take];omega)
       exact (GoE.endsT okF hJ Qab hg0 (QuK B s i dJ0)
        ⟨(Qdn (Int.not_le.1 q3)),hp7⟩).cast (by (simp only [s2,Bool.true_and];simp_all;omega))
     ·
      have s2:=QaX (l:=s.lots.take 12) (p:=fun l=> decide (l.goods.length<=8)) (i:=i) (by rw [List.length_take];omega)
      exact (GoE.endsT okF hJ Qab hg0 (Qw5 B s i dJ0)
       ⟨(Qdn (Int.not_le.1 q2)),hp6⟩).cast (by (simp only [s2,Bool.true_and];simp_all;omega))
    ·
     have s2:=QaX (l:=s.lots.take 12) (p:=fun l=> decide (l.goods.length<=8)) (i:=i) (by rw [List.length_take];omega)
     exact (GoE.endsT okF hJ Qab hg0 (Qwg B s i dJ0)
      ⟨(Qdn (Int.not_le.1 q1)),hp5⟩).cast (by (simp only [s2,Bool.true_and];simp_all;omega))
set_option maxHeartbeats 4000000 in
theorem Qyz (s:Qaa)  (hfacts:s.stock.length<=9223372036854775807/\s.use.length<=9223372036854775807/\s.lots.length<=9223372036854775807) {B:Lo} (hJ:∀w,B.has w->J0 w):EndsT Tryz.prog B (Qai Tryz.prog 36 39 (([.agg (Qah s).toArray]).map (Qaq 0 4))) (.bool (((s.lots.take 12).all fun l=> decide (l.goods.length<=8)) && (decide (s.stock.length<=8) && (decide (s.use.length<=8) && decide (s.lots.length<=9))))):=by
 exact ((Qvh s hfacts hJ _) (0) rfl (by omega)
  (GoE.start.landM okF hJ Qab (QsJ B s)
  trivial (by kernel_rfl) (by kernel_rfl))).cast (by rfl)
theorem Q3n (s:Qaa)  :Qas Tryz.prog J0 36 #[.agg (Qah s).toArray] (.bool (((s.lots.take 12).all fun l=> decide (l.goods.length<=8)) && (decide (s.stock.length<=8) && (decide (s.use.length<=8) && decide (s.lots.length<=9))))):=
 Qc2 (ts:=[.agg (Qah s).toArray]) (s.stock.length<=9223372036854775807/\s.use.length<=9223372036854775807/\s.lots.length<=9223372036854775807) (fun _ _ ht=> ⟨ht.ln2 (i:=0) (j:=0) rfl rfl,ht.ln2 (i:=0) (j:=1) rfl rfl,ht.ln2 (i:=0) (j:=4) rfl rfl⟩) Qb6 (c0:=Qai Tryz.prog 36 39 (([.agg (Qah s).toArray]).map (Qaq 0 4))) (by kernel_rfl) (by kernel_rfl) fun hfacts B hJ=> Qyz s  hfacts hJ
end
end Go.Proofs.YtiabgkiccaodmaaGreat

namespace Go.Proofs.YtiabgkiccaodmaaGreat
open Go Go.CE Go.RowKit
noncomputable section
set_option maxRecDepth 100000
def Qc9 (l:List Int) (i:Int):Int:=if 0 < i then l.getD (i - 1).toNat default else -1
def QyQ (s:Qaa) (l:List Int):Int:=QeE (l.map fun x=> (s.lots.getD x.toNat default).weight)
theorem Qe4 {s:Qaa} {i:Int} {l:List Int} (h0:0<=i) (h:i < l.length):QyQ s (l.drop i.toNat)=(s.lots.getD (l.getD i.toNat default).toNat default).weight+QyQ s (l.drop (i+1).toNat):=by
 obtain ⟨k,rfl⟩:∃k:Nat,i=k:=⟨i.toNat,by omega⟩
 have hk:k < l.length:=by omega
 have e1:((k:Int)).toNat=k:=by omega
 have e2:((k:Int)+1).toNat=k+1:=by omega
 unfold QyQ
 rw [e1,e2,List.drop_eq_getElem_cons hk,List.map_cons]
 simp [QeE,List.getD_eq_getElem?_getD,hk]
theorem QrN {s:Qaa} {i:Int} {l:List Int} (h:l.length<=i):QyQ s (l.drop i.toNat)=0:=by
 rw [List.drop_eq_nil_of_le (by omega)];rfl
theorem Qqz {l:List Int} {i:Int} (h0:0<=i):Qc9 l (i+1)=l.getD i.toNat default:=by
 unfold Qc9;rw [if_pos (by omega),show i+1 - 1=i by omega]
theorem Q3a {x lo hi:Int} (q:inB x lo hi=false):¬(lo<=x/\x<=hi):=fun h=> by rw [QaW.2 h] at q;cases q
theorem Q4i {x lo hi:Int} (h:¬(lo<=x/\x<=hi)):inB x lo hi=false:=by
 cases hc:inB x lo hi with
 | false=> rfl
 | true=> exact absurd (QaW.1 hc) h
def QdK (s:Qaa) (load:List Int) (w i:Int):List Value:=[Qa0 1 (slT load.length (Qac Qar load)),pA 2 0,.int .i64 w,.int .i64 i]
def QbK (s:Qaa) (load:List Int) (w i:Int):List Obj:=[Obj.cells #[Qa0 1 (slT s.stock.length (Qac Qar s.stock)),Qa0 1 (slT s.use.length (Qac Qa6 s.use)),.int .i64 s.glo,.int .i64 s.ghi,Qa0 1 (slT s.lots.length (Qac Qam s.lots)),.int .i64 s.hold] 62]
def QdL:List Item:=([.code [1,1,0,1,0,0],.inLoop [1,1,0,1,0,0],.inBlock 0,.code [1,1,1]]).map (it (Qal Tryz.prog 56))
def QzK (B:Lo) (c0:CF) (s:Qaa) (load:List Int) (w i:Int):Prop:=∃dJ:Nat->Value,(∀t,QaS (dJ t))/\GoE Tryz.prog B c0 H00 1 (Qa4 56 54 (([1,2,5,6]:List Nat).zip (QdK s load w i)) dJ QdL) (Qa3 (QbK s load w i)) (2+(QbK s load w i).length) []
def QjJ (s:Qaa) (load:List Int) (i:Int):Array Value:=#[slT (List.length (Qad.goods (s.lots.getD (Int.toNat (load.getD i.toNat default)) default))) (Qac Qa6 (Qad.goods (s.lots.getD (Int.toNat (load.getD i.toNat default)) default))),.int .i64 (Qad.weight (s.lots.getD (Int.toNat (load.getD i.toNat default)) default)),.int .i64 (Qad.cost (s.lots.getD (Int.toNat (load.getD i.toNat default)) default))]
def Qnd (B:Lo) (s:Qaa) (load:List Int) (w i:Int) (dJ0:Nat->Value):List Prop:=[wq ((↑s.lots.length:Int) - 1)=(↑s.lots.length:Int) - 1,i=(↑i.toNat:Int)/\Int.toNat i < List.length load/\Array.extract (Qac Qar load) (Int.toNat i * TypeInfo.size Tryz.t3) (Int.toNat i * TypeInfo.size Tryz.t3+TypeInfo.size Tryz.t3)=#[.int .i64 (load.getD i.toNat default)],ltq i (↑load.length:Int)=true]++([]:List Prop)
def QrR (s:Qaa) (load:List Int) (w i:Int) (dJ0:Nat->Value):Qay:=[(3,hvT),(6,Qaj.tidx i.toNat #[.int .i64 (load.getD i.toNat default)]),(11,hvI ((↑s.lots.length:Int) - 1))]
def QnM (B:Lo) (s:Qaa) (load:List Int) (w i:Int) (dJ0:Nat->Value):List Prop:=[Qa7 []/\Qas Tryz.prog J0 69 #[.int .i64 (load.getD i.toNat default),.int .i64 0,.int .i64 ((↑s.lots.length:Int) - 1)] (.bool true)]++Qnd B s load w i dJ0
def Qsa (s:Qaa) (load:List Int) (w i:Int) (dJ0:Nat->Value):Qay:=QrR s load w i dJ0++[(12,Qaj.pure (.bool true) [])]
def QnT (B:Lo) (s:Qaa) (load:List Int) (w i:Int) (dJ0:Nat->Value):List Prop:=[i - 1=(↑(Int.toNat (i - 1)):Int)/\Int.toNat (i - 1) < List.length load/\Array.extract (Qac Qar load) (Int.toNat (i - 1) * TypeInfo.size Tryz.t3) (Int.toNat (i - 1) * TypeInfo.size Tryz.t3+TypeInfo.size Tryz.t3)=#[.int .i64 (load.getD (Int.toNat (i - 1)) default)],wq (i - 1)=i - 1,i=(↑i.toNat:Int)/\Int.toNat i < List.length load/\Array.extract (Qac Qar load) (Int.toNat i * TypeInfo.size Tryz.t3) (Int.toNat i * TypeInfo.size Tryz.t3+TypeInfo.size Tryz.t3)=#[.int .i64 (load.getD i.toNat default)],ltq 0 i=true]++QnM B s load w i dJ0
def Qsf (s:Qaa) (load:List Int) (w i:Int) (dJ0:Nat->Value):Qay:=Qsa s load w i dJ0++[(16,hvT),(20,Qaj.tidx i.toNat #[.int .i64 (load.getD i.toNat default)]),(24,hvI (i - 1)),(25,Qaj.tidx (Int.toNat (i - 1)) #[.int .i64 (load.getD (Int.toNat (i - 1)) default)])]
theorem Qzc (B:Lo) (s:Qaa) (load:List Int) (w i:Int) (dJ0:Nat->Value):Qbb (Qak Tryz.prog (Qa1 Tryz.prog) J0 B 15 1 (Qa4 56 54 (([1,2,5,6]:List Nat).zip (QdK s load w i)) dJ0 QdL) (Qa3 (QbK s load w i)) (2+(QbK s load w i).length)
 (Qsf s load w i dJ0++[(27,hvT)]) 0 [] []) []=some (.bool false,
 [(!ltq (load.getD (Int.toNat (i - 1)) default) (load.getD i.toNat default))=true]++QnT B s load w i dJ0):=by kernel_rfl
theorem QyC (B:Lo) (s:Qaa) (load:List Int) (w i:Int) (dJ0:Nat->Value):landM (Qak Tryz.prog (Qa1 Tryz.prog) J0 B 16 1 (Qa4 56 54 (([1,2,5,6]:List Nat).zip (QdK s load w i)) dJ0 QdL) (Qa3 (QbK s load w i)) (2+(QbK s load w i).length)
 (Qsf s load w i dJ0++[(27,hvF),(35,Qaj.tidx i.toNat #[.int .i64 (load.getD i.toNat default)]),(37,Qaj.tidx (Int.toNat (load.getD i.toNat default)) (QjJ s load i)),(40,hvI (w+Qad.weight (s.lots.getD (Int.toNat (load.getD i.toNat default)) default))),(43,hvI (i+1))]) 0 [] []) [1,2,5,6] [(2,KS.auto)] []=some ⟨56,54,QdL,[],.run,none,QdK s load (w+Qad.weight (s.lots.getD (Int.toNat (load.getD i.toNat default)) default)) (i+1),QbK s load (w+Qad.weight (s.lots.getD (Int.toNat (load.getD i.toNat default)) default)) (i+1),
 [wq (i+1)=i+1,wq (w+Qad.weight (s.lots.getD (Int.toNat (load.getD i.toNat default)) default))=w+Qad.weight (s.lots.getD (Int.toNat (load.getD i.toNat default)) default),load.getD i.toNat default=(↑(Int.toNat (load.getD i.toNat default)):Int)/\Int.toNat (load.getD i.toNat default) < List.length s.lots/\Array.extract (Qac Qam s.lots) (Int.toNat (load.getD i.toNat default) * TypeInfo.size Tryz.t118) (Int.toNat (load.getD i.toNat default) * TypeInfo.size Tryz.t118+TypeInfo.size Tryz.t118)=(QjJ s load i),i=(↑i.toNat:Int)/\Int.toNat i < List.length load/\Array.extract (Qac Qar load) (Int.toNat i * TypeInfo.size Tryz.t3) (Int.toNat i * TypeInfo.size Tryz.t3+TypeInfo.size Tryz.t3)=#[.int .i64 (load.getD i.toNat default)],(!ltq (load.getD (Int.toNat (i - 1)) default) (load.getD i.toNat default))=false]++QnT B s load w i dJ0⟩:=by kernel_rfl
theorem QyT (B:Lo) (s:Qaa) (load:List Int) (w i:Int) (dJ0:Nat->Value):landM (Qak Tryz.prog (Qa1 Tryz.prog) J0 B 16 1 (Qa4 56 54 (([1,2,5,6]:List Nat).zip (QdK s load w i)) dJ0 QdL) (Qa3 (QbK s load w i)) (2+(QbK s load w i).length)
 (Qsa s load w i dJ0++[(16,hvF),(35,Qaj.tidx i.toNat #[.int .i64 (load.getD i.toNat default)]),(37,Qaj.tidx (Int.toNat (load.getD i.toNat default)) (QjJ s load i)),(40,hvI (w+Qad.weight (s.lots.getD (Int.toNat (load.getD i.toNat default)) default))),(43,hvI (i+1))]) 0 [] []) [1,2,5,6] [(2,KS.auto)] []=some ⟨56,54,QdL,[],.run,none,QdK s load (w+Qad.weight (s.lots.getD (Int.toNat (load.getD i.toNat default)) default)) (i+1),QbK s load (w+Qad.weight (s.lots.getD (Int.toNat (load.getD i.toNat default)) default)) (i+1),
 [wq (i+1)=i+1,wq (w+Qad.weight (s.lots.getD (Int.toNat (load.getD i.toNat default)) default))=w+Qad.weight (s.lots.getD (Int.toNat (load.getD i.toNat default)) default),load.getD i.toNat default=(↑(Int.toNat (load.getD i.toNat default)):Int)/\Int.toNat (load.getD i.toNat default) < List.length s.lots/\Array.extract (Qac Qam s.lots) (Int.toNat (load.getD i.toNat default) * TypeInfo.size Tryz.t118) (Int.toNat (load.getD i.toNat default) * TypeInfo.size Tryz.t118+TypeInfo.size Tryz.t118)=(QjJ s load i),i=(↑i.toNat:Int)/\Int.toNat i < List.length load/\Array.extract (Qac Qar load) (Int.toNat i * TypeInfo.size Tryz.t3) (Int.toNat i * TypeInfo.size Tryz.t3+TypeInfo.size Tryz.t3)=#[.int .i64 (load.getD i.toNat default)],ltq 0 i=false]++QnM B s load w i dJ0⟩:=by kernel_rfl
theorem QzW (B:Lo) (s:Qaa) (load:List Int) (w i:Int) (dJ0:Nat->Value):Qbb (Qak Tryz.prog (Qa1 Tryz.prog) J0 B 15 1 (Qa4 56 54 (([1,2,5,6]:List Nat).zip (QdK s load w i)) dJ0 QdL) (Qa3 (QbK s load w i)) (2+(QbK s load w i).length)
 (QrR s load w i dJ0++[(12,Qaj.pure (.bool false) [])]) 0 [] []) []=some (.bool false,
 [Qa7 []/\Qas Tryz.prog J0 69 #[.int .i64 (load.getD i.toNat default),.int .i64 0,.int .i64 ((↑s.lots.length:Int) - 1)] (.bool false)]++Qnd B s load w i dJ0):=by kernel_rfl
def QnP (B:Lo) (s:Qaa) (load:List Int) (w i:Int) (dJ0:Nat->Value):List Prop:=[ltq i (↑load.length:Int)=false]++([]:List Prop)
def Qs4 (s:Qaa) (load:List Int) (w i:Int) (dJ0:Nat->Value):Qay:=[(3,hvF)]
theorem Q0o (B:Lo) (s:Qaa) (load:List Int) (w i:Int) (dJ0:Nat->Value):Qbb (Qak Tryz.prog (Qa1 Tryz.prog) J0 B 9 1 (Qa4 56 54 (([1,2,5,6]:List Nat).zip (QdK s load w i)) dJ0 QdL) (Qa3 (QbK s load w i)) (2+(QbK s load w i).length)
 (Qs4 s load w i dJ0++[(7,hvT)]) 0 [] []) []=some (.bool true,
 [(!ltq s.hold w)=true]++QnP B s load w i dJ0):=by kernel_rfl
theorem Qz5 (B:Lo) (s:Qaa) (load:List Int) (w i:Int) (dJ0:Nat->Value):Qbb (Qak Tryz.prog (Qa1 Tryz.prog) J0 B 9 1 (Qa4 56 54 (([1,2,5,6]:List Nat).zip (QdK s load w i)) dJ0 QdL) (Qa3 (QbK s load w i)) (2+(QbK s load w i).length)
 (Qs4 s load w i dJ0++[(7,hvF)]) 0 [] []) []=some (.bool false,
 [(!ltq s.hold w)=false]++QnP B s load w i dJ0):=by kernel_rfl
theorem Qyr (B:Lo) (s:Qaa) (load:List Int):landM (Qak Tryz.prog (Qa1 Tryz.prog) J0 B 9 1 (Qai Tryz.prog 56 54 (([.agg (Qah s).toArray,slI load]).map (Qaq 0 4))) H00 1
 [] 0 [] []) [1,2,5,6] [(1,KS.auto)] []=some ⟨56,54,QdL,[],.run,none,QdK s load (0) (0),QbK s load (0) (0),
 []⟩:=by kernel_rfl
set_option maxHeartbeats 4000000 in
theorem Qz4 (s:Qaa) (load:List Int) (hs:Qa8 s=true) (hl:load.length<=10) {B:Lo} (hJ:∀w,B.has w->J0 w) {c0:CF}:∀m:Nat,(∀(w i:Int),load.length - i.toNat=m->∀(h0:0<=i) (h1:0<=w/\w<=100000 * i) (hp: -1<=Qc9 load i),QzK B c0 s load w i->EndsT Tryz.prog B c0 (.bool (Qd4 s.lots.length (load.drop i.toNat) (Qc9 load i+1) && decide (w+QyQ s (load.drop i.toNat)<=s.hold)))):=by
 intro m0
 induction m0 using Nat.strongRecOn with
 | _ m0 ih0=>
   intro w i hm0 h0 h1 hp ⟨dJ0,hdJ0,hg0⟩
   have hm:=Qa2 hs
   have g3:=Qqz (l:=load) h0
   by_cases q0:(i:Int) < ((↑load.length:Int))
   ·
    have hp0:Qa7 (Qnd B s load w i dJ0):=by
     have s2:=Qcq (things:=s.lots.length) (least:=Qc9 load i+1) (l:=load) h0 q0
     have s3:=Qe4 (s:=s) h0 q0
     exact ⟨(QaJ (by omega) (by omega)),⟨⟨by omega,by omega,(Qaf (z:=1) (fun _=> rfl) (by omega))⟩,⟨(Qbl q0),trivial⟩⟩⟩
    cases q1:inB (load.getD i.toNat default) 0 ((↑s.lots.length:Int) - 1) with
    | true=>
      have hp1:Qa7 (QnM B s load w i dJ0):=by
       have s2:=Qcq (things:=s.lots.length) (least:=Qc9 load i+1) (l:=load) h0 q0
       have s3:=Qe4 (s:=s) h0 q0
       have g1:=QaW.1 ‹inB (load.getD i.toNat default) 0 _=true›
       have g2:=Qc6 (hm.2 _ (QaB (l:=s.lots) (i:=load.getD i.toNat default) (by omega) (by omega)))
       exact ⟨⟨trivial,(by have t_:=rin (load.getD i.toNat default) (0) ((↑s.lots.length:Int) - 1);rw [q1] at t_;exact t_)⟩,hp0⟩
      by_cases q2:(0:Int) < (i)
      ·
       have hp2:Qa7 (QnT B s load w i dJ0):=by
        have s2:=Qcq (things:=s.lots.length) (least:=Qc9 load i+1) (l:=load) h0 q0
        have s3:=Qe4 (s:=s) h0 q0
        have g1:=QaW.1 ‹inB (load.getD i.toNat default) 0 _=true›
        have g2:=Qc6 (hm.2 _ (QaB (l:=s.lots) (i:=load.getD i.toNat default) (by omega) (by omega)))
        have pv:Qc9 load i=load.getD (i - 1).toNat default:=if_pos ‹0 < i›
        exact ⟨⟨by omega,by omega,(Qaf (z:=1) (fun _=> rfl) (by omega))⟩,⟨(QaJ (by omega) (by omega)),⟨⟨by omega,by omega,(Qaf (z:=1) (fun _=> rfl) (by omega))⟩,⟨(Qbl q2),hp1⟩⟩⟩⟩
       by_cases q3:(load.getD i.toNat default:Int)<=(load.getD (Int.toNat (i - 1)) default)
       ·
        have s2:=Qcq (things:=s.lots.length) (least:=Qc9 load i+1) (l:=load) h0 q0
        have s3:=Qe4 (s:=s) h0 q0
        have g1:=QaW.1 ‹inB (load.getD i.toNat default) 0 _=true›
        have g2:=Qc6 (hm.2 _ (QaB (l:=s.lots) (i:=load.getD i.toNat default) (by omega) (by omega)))
        have pv:Qc9 load i=load.getD (i - 1).toNat default:=if_pos ‹0 < i›
        have et:inB (load.getD i.toNat default) (Qc9 load i+1) ((s.lots.length:Int) - 1)=false:=Q4i (by omega)
        exact (GoE.endsT okF hJ Qab hg0 (Qzc B s load w i dJ0)
         ⟨(Qdi q3),hp2⟩).cast (by (rw [s2,et];rfl))
       ·
        have s2:=Qcq (things:=s.lots.length) (least:=Qc9 load i+1) (l:=load) h0 q0
        have s3:=Qe4 (s:=s) h0 q0
        have g1:=QaW.1 ‹inB (load.getD i.toNat default) 0 _=true›
        have g2:=Qc6 (hm.2 _ (QaB (l:=s.lots) (i:=load.getD i.toNat default) (by omega) (by omega)))
        have pv:Qc9 load i=load.getD (i - 1).toNat default:=if_pos ‹0 < i›
        have et:inB (load.getD i.toNat default) (Qc9 load i+1) ((s.lots.length:Int) - 1)=true:=QaW.2 (by omega)
        exact ((ih0 _ (by omega)) (w+Qad.weight (s.lots.getD (Int.toNat (load.getD i.toNat default)) default)) (i+1) rfl (by omega) (by omega) (by omega)
         (hg0.landM okF hJ Qab (QyC B s load w i dJ0)
         ⟨(QaJ (by omega) (by omega)),⟨(QaJ (by omega) (by omega)),⟨⟨by omega,by omega,(Qaf (z:=3) (fun _=> rfl) (by omega))⟩,⟨⟨by omega,by omega,(Qaf (z:=1) (fun _=> rfl) (by omega))⟩,⟨(Qdn (Int.not_le.1 q3)),hp2⟩⟩⟩⟩⟩ (by kernel_rfl) (by kernel_rfl))).cast (by (rw [s2,s3,et,g3,Int.add_assoc];rfl))
      ·
       have s2:=Qcq (things:=s.lots.length) (least:=Qc9 load i+1) (l:=load) h0 q0
       have s3:=Qe4 (s:=s) h0 q0
       have g1:=QaW.1 ‹inB (load.getD i.toNat default) 0 _=true›
       have g2:=Qc6 (hm.2 _ (QaB (l:=s.lots) (i:=load.getD i.toNat default) (by omega) (by omega)))
       have pv:Qc9 load i= -1:=if_neg ‹¬0 < i›
       have et:inB (load.getD i.toNat default) (Qc9 load i+1) ((s.lots.length:Int) - 1)=true:=QaW.2 (by omega)
       exact ((ih0 _ (by omega)) (w+Qad.weight (s.lots.getD (Int.toNat (load.getD i.toNat default)) default)) (i+1) rfl (by omega) (by omega) (by omega)
        (hg0.landM okF hJ Qab (QyT B s load w i dJ0)
        ⟨(QaJ (by omega) (by omega)),⟨(QaJ (by omega) (by omega)),⟨⟨by omega,by omega,(Qaf (z:=3) (fun _=> rfl) (by omega))⟩,⟨⟨by omega,by omega,(Qaf (z:=1) (fun _=> rfl) (by omega))⟩,⟨(Qbq (Int.not_lt.1 q2)),hp1⟩⟩⟩⟩⟩ (by kernel_rfl) (by kernel_rfl))).cast (by (rw [s2,s3,et,g3,Int.add_assoc];rfl))
    | false=>
      have s2:=Qcq (things:=s.lots.length) (least:=Qc9 load i+1) (l:=load) h0 q0
      have s3:=Qe4 (s:=s) h0 q0
      have g1n:¬(0<=load.getD i.toNat default/\load.getD i.toNat default<=(s.lots.length:Int) - 1):=Q3a ‹inB (load.getD i.toNat default) 0 _=false›
      have et:inB (load.getD i.toNat default) (Qc9 load i+1) ((s.lots.length:Int) - 1)=false:=Q4i (by omega)
      exact (GoE.endsT okF hJ Qab hg0 (QzW B s load w i dJ0)
       ⟨⟨trivial,(by have t_:=rin (load.getD i.toNat default) (0) ((↑s.lots.length:Int) - 1);rw [q1] at t_;exact t_)⟩,hp0⟩).cast (by (rw [s2,et];rfl))
   ·
    have hp3:Qa7 (QnP B s load w i dJ0):=by
     exact ⟨(Qbq (Int.not_lt.1 q0)),trivial⟩
    by_cases q1:(w:Int)<=s.hold
    ·
     have s2:=Qkv (things:=s.lots.length) (least:=Qc9 load i+1) (l:=load) (i:=i) (by omega)
     have s3:=QrN (s:=s) (l:=load) (i:=i) (by omega)
     exact (GoE.endsT okF hJ Qab hg0 (Q0o B s load w i dJ0)
      ⟨(Qdi q1),hp3⟩).cast (by (rw [s2,s3];simp_all;done))
    ·
     have s2:=Qkv (things:=s.lots.length) (least:=Qc9 load i+1) (l:=load) (i:=i) (by omega)
     have s3:=QrN (s:=s) (l:=load) (i:=i) (by omega)
     exact (GoE.endsT okF hJ Qab hg0 (Qz5 B s load w i dJ0)
      ⟨(Qdn (Int.not_le.1 q1)),hp3⟩).cast (by (rw [s2,s3];simp_all;done))
set_option maxHeartbeats 4000000 in
theorem Q1M (s:Qaa) (load:List Int) (hs:Qa8 s=true) (hl:load.length<=10) {B:Lo} (hJ:∀w,B.has w->J0 w):EndsT Tryz.prog B (Qai Tryz.prog 56 54 (([.agg (Qah s).toArray,slI load]).map (Qaq 0 4))) (.bool (Qd4 s.lots.length load 0 && decide (QyQ s load<=s.hold))):=by
 have hm:=Qa2 hs
 exact ((Qz4 s load hs hl hJ _) (0) (0) rfl (by omega) (by omega) (by (simp [Qc9];done))
  (GoE.start.landM okF hJ Qab (Qyr B s load)
  trivial (by kernel_rfl) (by kernel_rfl))).cast (by simp [Qc9])
theorem Q3U (s:Qaa) (load:List Int) (hs:Qa8 s=true) (hl:load.length<=10):Qas Tryz.prog J0 56 #[.agg (Qah s).toArray,slI load] (.bool (Qd4 s.lots.length load 0 && decide (QyQ s load<=s.hold))):=
 QaE (ts:=[.agg (Qah s).toArray,slI load]) Qb6 (c0:=Qai Tryz.prog 56 54 (([.agg (Qah s).toArray,slI load]).map (Qaq 0 4))) (by kernel_rfl) (by kernel_rfl) fun B hJ=> Q1M s load hs hl hJ
theorem QyP (B:Lo) (n:Int):Qbb (Qak Tryz.prog (Qa1 Tryz.prog) J0 B 6 1 (Qai Tryz.prog 52 5 (([.int .i64 n]).map (Qaq 0 4))) H00 1
 [(2,Qaj.pure (.bool true) [])] 0 [] []) []=some (.bool true,
 [Qa7 []/\Qas Tryz.prog J0 69 #[.int .i64 n,.int .i64 0,.int .i64 300] (.bool true)]):=by kernel_rfl
theorem Qzu (B:Lo) (n:Int):Qbb (Qak Tryz.prog (Qa1 Tryz.prog) J0 B 6 1 (Qai Tryz.prog 52 5 (([.int .i64 n]).map (Qaq 0 4))) H00 1
 [(2,Qaj.pure (.bool false) [])] 0 [] []) []=some (.bool false,
 [Qa7 []/\Qas Tryz.prog J0 69 #[.int .i64 n,.int .i64 0,.int .i64 300] (.bool false)]):=by kernel_rfl
set_option maxHeartbeats 4000000 in
theorem Q2f (n:Int)  {B:Lo} (hJ:∀w,B.has w->J0 w):EndsT Tryz.prog B (Qai Tryz.prog 52 5 (([.int .i64 n]).map (Qaq 0 4))) (.bool (inB n 0 300)):=by
 cases q0:inB n 0 300 with
 | true=>
   exact (GoE.endsT okF hJ Qab GoE.start (QyP B n)
    ⟨⟨trivial,(by have t_:=rin (n) (0) (300);rw [q0] at t_;exact t_)⟩,trivial⟩).cast (by rfl)
 | false=>
   exact (GoE.endsT okF hJ Qab GoE.start (Qzu B n)
    ⟨⟨trivial,(by have t_:=rin (n) (0) (300);rw [q0] at t_;exact t_)⟩,trivial⟩).cast (by rfl)
theorem Q2B (n:Int)  :Qas Tryz.prog J0 52 #[.int .i64 n] (.bool (inB n 0 300)):=
 QaE (ts:=[.int .i64 n]) Qb6 (c0:=Qai Tryz.prog 52 5 (([.int .i64 n]).map (Qaq 0 4))) (by kernel_rfl) (by kernel_rfl) fun B hJ=> Q2f n  hJ
def Qnc (B:Lo) (s:Qaa) (k:Int):List Prop:=[wq ((↑s.stock.length:Int) - 1)=(↑s.stock.length:Int) - 1]++([]:List Prop)
def Qs3 (s:Qaa) (k:Int):Qay:=[(6,hvI ((↑s.stock.length:Int) - 1))]
theorem Q0l (B:Lo) (s:Qaa) (k:Int):Qbb (Qak Tryz.prog (Qa1 Tryz.prog) J0 B 6 1 (Qai Tryz.prog 49 11 (([.agg (Qah s).toArray,.int .i64 k]).map (Qaq 0 4))) H00 1
 (Qs3 s k++[(7,Qaj.pure (.bool true) [])]) 0 [] []) []=some (.bool true,
 [Qa7 []/\Qas Tryz.prog J0 69 #[.int .i64 k,.int .i64 0,.int .i64 ((↑s.stock.length:Int) - 1)] (.bool true)]++Qnc B s k):=by kernel_rfl
theorem Q0c (B:Lo) (s:Qaa) (k:Int):Qbb (Qak Tryz.prog (Qa1 Tryz.prog) J0 B 6 1 (Qai Tryz.prog 49 11 (([.agg (Qah s).toArray,.int .i64 k]).map (Qaq 0 4))) H00 1
 (Qs3 s k++[(7,Qaj.pure (.bool false) [])]) 0 [] []) []=some (.bool false,
 [Qa7 []/\Qas Tryz.prog J0 69 #[.int .i64 k,.int .i64 0,.int .i64 ((↑s.stock.length:Int) - 1)] (.bool false)]++Qnc B s k):=by kernel_rfl
set_option maxHeartbeats 4000000 in
theorem Q2c (s:Qaa) (k:Int)  (hfacts:s.stock.length<=9223372036854775807) {B:Lo} (hJ:∀w,B.has w->J0 w):EndsT Tryz.prog B (Qai Tryz.prog 49 11 (([.agg (Qah s).toArray,.int .i64 k]).map (Qaq 0 4))) (.bool (inB k 0 (s.stock.length - 1))):=by
 have hp0:Qa7 (Qnc B s k):=by
  exact ⟨(QaJ (by omega) (by omega)),trivial⟩
 cases q0:inB k 0 ((↑s.stock.length:Int) - 1) with
 | true=>
   exact (GoE.endsT okF hJ Qab GoE.start (Q0l B s k)
    ⟨⟨trivial,(by have t_:=rin (k) (0) ((↑s.stock.length:Int) - 1);rw [q0] at t_;exact t_)⟩,hp0⟩).cast (by rfl)
 | false=>
   exact (GoE.endsT okF hJ Qab GoE.start (Q0c B s k)
    ⟨⟨trivial,(by have t_:=rin (k) (0) ((↑s.stock.length:Int) - 1);rw [q0] at t_;exact t_)⟩,hp0⟩).cast (by rfl)
theorem Q2V (s:Qaa) (k:Int)  :Qas Tryz.prog J0 49 #[.agg (Qah s).toArray,.int .i64 k] (.bool (inB k 0 (s.stock.length - 1))):=
 Qc2 (ts:=[.agg (Qah s).toArray,.int .i64 k]) (s.stock.length<=9223372036854775807) (fun _ _ ht=> ht.ln2 (i:=0) (j:=0) rfl rfl) Qb6 (c0:=Qai Tryz.prog 49 11 (([.agg (Qah s).toArray,.int .i64 k]).map (Qaq 0 4))) (by kernel_rfl) (by kernel_rfl) fun hfacts B hJ=> Q2c s k  hfacts hJ
end
end Go.Proofs.YtiabgkiccaodmaaGreat

namespace Go.Proofs.YtiabgkiccaodmaaGreat
open Go Go.CE Go.RowKit
noncomputable section
set_option maxRecDepth 100000
def QeD (day:Int):List Int->Int->Bool
 | [],_=> false
 | g::l,s=> decide (s+g=day) || QeD day l (s+g)
theorem Qhz {day s i:Int} {l:List Int} (h0:0<=i) (h:i < l.length):QeD day (l.drop i.toNat) s=(decide (s+l.getD i.toNat default=day) || QeD day (l.drop (i+1).toNat) (s+l.getD i.toNat default)):=by
 obtain ⟨k,rfl⟩:∃k:Nat,i=k:=⟨i.toNat,by omega⟩
 have hk:k < l.length:=by omega
 have e1:((k:Int)).toNat=k:=by omega
 have e2:((k:Int)+1).toNat=k+1:=by omega
 rw [e1,e2,List.drop_eq_getElem_cons hk]
 simp [QeD,List.getD_eq_getElem?_getD,hk]
theorem QsL {day s i:Int} {l:List Int} (h:l.length<=i):QeD day (l.drop i.toNat) s=false:=by
 rw [List.drop_eq_nil_of_le (by omega)];rfl
def QfS (t:Qat) (kind:Int) (l:List Int):Int:=QeE (l.map fun x=> (t.goods.getD x.toNat default).getD kind.toNat default)
theorem Qw9 {t:Qat} {kind i:Int} {l:List Int} (h0:0<=i) (h:i < l.length):QfS t kind (l.drop i.toNat)=(t.goods.getD (l.getD i.toNat default).toNat default).getD kind.toNat default+QfS t kind (l.drop (i+1).toNat):=by
 obtain ⟨k,rfl⟩:∃k:Nat,i=k:=⟨i.toNat,by omega⟩
 have hk:k < l.length:=by omega
 have e1:((k:Int)).toNat=k:=by omega
 have e2:((k:Int)+1).toNat=k+1:=by omega
 unfold QfS
 rw [e1,e2,List.drop_eq_getElem_cons hk,List.map_cons]
 simp [QeE,List.getD_eq_getElem?_getD,hk]
theorem Qnu {t:Qat} {kind i:Int} {l:List Int} (h:l.length<=i):QfS t kind (l.drop i.toNat)=0:=by
 rw [List.drop_eq_nil_of_le (by omega)];rfl
def Qe0 (use br:Int) (comes:Int->Bool):List Int->Int×Int->Int×Int
 | [],st=> st
 | d::ds,st=> Qe0 use br comes ds (if (st.2+if comes d=true then br else 0) < use/\st.1 < 0 then d else st.1,if 0 < (st.2+if comes d=true then br else 0) - use then (st.2+if comes d=true then br else 0) - use else 0)
def Q0U (use br:Int) (comes:Int->Bool) (days d w L:Int):Int×Int:=Qe0 use br comes (upI (d+1) days) (if L < use/\w < 0 then d else w,if 0 < L - use then L - use else 0)
theorem QfT {use br days d w s:Int} {comes:Int->Bool} (h:d < days):Qe0 use br comes (upI d days) (w,s)=Q0U use br comes days d w (s+if comes d=true then br else 0):=by
 rw [Qel h];rfl
theorem QzV {use br days d w s:Int} {comes:Int->Bool} (h:days<=d):Qe0 use br comes (upI d days) (w,s)=(w,s):=by
 rw [Qht h];rfl
theorem kD {use br days d w L w' s':Int} {comes:Int->Bool} (h1:(if L < use/\w < 0 then d else w)=w') (h2:(if 0 < L - use then L - use else 0)=s'):Qe0 use br comes (upI (d+1) days) (w',s')=Q0U use br comes days d w L:=by subst h1 h2;rfl
def Qms (p:Int×Int):Value:=.tuple #[.int .i64 p.1,.int .i64 p.2]
def Qfs (t:Qat) (kind ration:Int):Int:=(t.uses.getD kind.toNat default * ration+999).tdiv 1000
def Qbs (t:Qat) (d:Int):Bool:=QeD d t.gaps 0
def Qfc (t:Qat) (day:Int) (s i:Int):List Value:=[.int .i64 day,pA 2 0,.int .i64 s,.int .i64 i]
def QcT (t:Qat) (day:Int) (s i:Int):List Obj:=[Obj.cells #[Qa0 1 (slT t.uses.length (Qac Qar t.uses)),Qa0 1 (slT t.gaps.length (Qac Qar t.gaps)),Qa0 1 (slT t.goods.length (Qac Qaz t.goods))] 65]
def Qft:List Item:=([.code [1,1,0,1,0,0],.inLoop [1,1,0,1,0,0],.inBlock 0,.code [1,1,1]]).map (it (Qal Tryz.prog 88))
def Qx1 (B:Lo) (c0:CF) (t:Qat) (day:Int) (s i:Int):Prop:=∃dJ:Nat->Value,(∀t,QaS (dJ t))/\GoE Tryz.prog B c0 H00 1 (Qa4 88 24 (([1,2,5,6]:List Nat).zip (Qfc t day s i)) dJ Qft) (Qa3 (QcT t day s i)) (2+(QcT t day s i).length) []
def Qky (B:Lo) (t:Qat) (day:Int) (s i:Int) (dJ0:Nat->Value):List Prop:=[wq (s+t.gaps.getD i.toNat default)=s+t.gaps.getD i.toNat default,i=(↑i.toNat:Int)/\Int.toNat i < List.length t.gaps/\Array.extract (Qac Qar t.gaps) (Int.toNat i * TypeInfo.size Tryz.t3) (Int.toNat i * TypeInfo.size Tryz.t3+TypeInfo.size Tryz.t3)=#[.int .i64 (t.gaps.getD i.toNat default)],ltq i (↑t.gaps.length:Int)=true]++([]:List Prop)
def QpO (t:Qat) (day:Int) (s i:Int) (dJ0:Nat->Value):Qay:=[(4,hvT),(9,Qaj.tidx i.toNat #[.int .i64 (t.gaps.getD i.toNat default)]),(11,hvI (s+t.gaps.getD i.toNat default))]
theorem QxC (B:Lo) (t:Qat) (day:Int) (s i:Int) (dJ0:Nat->Value):Qbb (Qak Tryz.prog (Qa1 Tryz.prog) J0 B 16 1 (Qa4 88 24 (([1,2,5,6]:List Nat).zip (Qfc t day s i)) dJ0 Qft) (Qa3 (QcT t day s i)) (2+(QcT t day s i).length)
 (QpO t day s i dJ0++[(15,hvT)]) 0 [] []) []=some (.bool true,
 [eqq (s+t.gaps.getD i.toNat default) day=true]++Qky B t day s i dJ0):=by kernel_rfl
theorem QvR (B:Lo) (t:Qat) (day:Int) (s i:Int) (dJ0:Nat->Value):landM (Qak Tryz.prog (Qa1 Tryz.prog) J0 B 16 1 (Qa4 88 24 (([1,2,5,6]:List Nat).zip (Qfc t day s i)) dJ0 Qft) (Qa3 (QcT t day s i)) (2+(QcT t day s i).length)
 (QpO t day s i dJ0++[(15,hvF),(17,hvI (i+1))]) 0 [] []) [1,2,5,6] [(2,KS.auto)] []=some ⟨88,24,Qft,[],.run,none,Qfc t day (s+t.gaps.getD i.toNat default) (i+1),QcT t day (s+t.gaps.getD i.toNat default) (i+1),
 [wq (i+1)=i+1,eqq (s+t.gaps.getD i.toNat default) day=false]++Qky B t day s i dJ0⟩:=by kernel_rfl
theorem QxG (B:Lo) (t:Qat) (day:Int) (s i:Int) (dJ0:Nat->Value):Qbb (Qak Tryz.prog (Qa1 Tryz.prog) J0 B 9 1 (Qa4 88 24 (([1,2,5,6]:List Nat).zip (Qfc t day s i)) dJ0 Qft) (Qa3 (QcT t day s i)) (2+(QcT t day s i).length)
 [(4,hvF)] 0 [] []) []=some (.bool false,
 [ltq i (↑t.gaps.length:Int)=false]):=by kernel_rfl
theorem QuW (B:Lo) (t:Qat) (day:Int):landM (Qak Tryz.prog (Qa1 Tryz.prog) J0 B 9 1 (Qai Tryz.prog 88 24 (([.agg (QaI t).toArray,.int .i64 day]).map (Qaq 0 4))) H00 1
 [] 0 [] []) [1,2,5,6] [(1,KS.auto)] []=some ⟨88,24,Qft,[],.run,none,Qfc t day (0) (0),QcT t day (0) (0),
 []⟩:=by kernel_rfl
set_option maxHeartbeats 4000000 in
theorem QwK (t:Qat) (day:Int) (hg:∀x∈t.gaps,0<=x/\x<=60) (hl:t.gaps.length<=300) {B:Lo} (hJ:∀w,B.has w->J0 w) {c0:CF}:∀m:Nat,(∀(s i:Int),t.gaps.length - i.toNat=m->∀(h0:0<=i) (h1:0<=s/\s<=60 * i),Qx1 B c0 t day s i->EndsT Tryz.prog B c0 (.bool (QeD day (t.gaps.drop i.toNat) s))):=by
 intro m0
 induction m0 using Nat.strongRecOn with
 | _ m0 ih0=>
   intro s i hm0 h0 h1 ⟨dJ0,hdJ0,hg0⟩
   by_cases q0:(i:Int) < ((↑t.gaps.length:Int))
   ·
    have hp0:Qa7 (Qky B t day s i dJ0):=by
     have s2:=Qhz (day:=day) (s:=s) (l:=t.gaps) h0 q0
     have g1:=hg _ (QaB h0 q0)
     exact ⟨(QaJ (by omega) (by omega)),⟨⟨by omega,by omega,(Qaf (z:=1) (fun _=> rfl) (by omega))⟩,⟨(Qbl q0),trivial⟩⟩⟩
    by_cases q1:(s+t.gaps.getD i.toNat default:Int)=(day)
    ·
     have s2:=Qhz (day:=day) (s:=s) (l:=t.gaps) h0 q0
     have g1:=hg _ (QaB h0 q0)
     exact (GoE.endsT okF hJ Qab hg0 (QxC B t day s i dJ0)
      ⟨(Qnl q1),hp0⟩).cast (by (rw [s2,decide_eq_true (by assumption)];rfl))
    ·
     have s2:=Qhz (day:=day) (s:=s) (l:=t.gaps) h0 q0
     have g1:=hg _ (QaB h0 q0)
     exact ((ih0 _ (by omega)) (s+t.gaps.getD i.toNat default) (i+1) rfl (by omega) (by omega)
      (hg0.landM okF hJ Qab (QvR B t day s i dJ0)
      ⟨(QaJ (by omega) (by omega)),⟨(Qnq q1),hp0⟩⟩ (by kernel_rfl) (by kernel_rfl))).cast (by (rw [s2,decide_eq_false (by assumption)];rfl))
   ·
    have s2:=QsL (day:=day) (s:=s) (l:=t.gaps) (i:=i) (by omega)
    exact (GoE.endsT okF hJ Qab hg0 (QxG B t day s i dJ0)
     ⟨(Qbq (Int.not_lt.1 q0)),trivial⟩).cast (by (rw [s2];done))
set_option maxHeartbeats 4000000 in
theorem Qy9 (t:Qat) (day:Int) (hg:∀x∈t.gaps,0<=x/\x<=60) (hl:t.gaps.length<=300) {B:Lo} (hJ:∀w,B.has w->J0 w):EndsT Tryz.prog B (Qai Tryz.prog 88 24 (([.agg (QaI t).toArray,.int .i64 day]).map (Qaq 0 4))) (.bool (Qbs t day)):=by
 exact ((QwK t day hg hl hJ _) (0) (0) rfl (by omega) (by omega)
  (GoE.start.landM okF hJ Qab (QuW B t day)
  trivial (by kernel_rfl) (by kernel_rfl))).cast (by rfl)
theorem Q0M (t:Qat) (day:Int) (hg:∀x∈t.gaps,0<=x/\x<=60) (hl:t.gaps.length<=300):Qas Tryz.prog J0 88 #[.agg (QaI t).toArray,.int .i64 day] (.bool (Qbs t day)):=
 QaE (ts:=[.agg (QaI t).toArray,.int .i64 day]) Qb6 (c0:=Qai Tryz.prog 88 24 (([.agg (QaI t).toArray,.int .i64 day]).map (Qaq 0 4))) (by kernel_rfl) (by kernel_rfl) fun B hJ=> Qy9 t day hg hl hJ
def QcI (s:Qaa) (load:List Int) (days:Int) (t:Qat) (kind ration:Int) (d stock w:Int):List Value:=[Qa0 1 (slT load.length (Qac Qar load)),.int .i64 days,.int .i64 kind,pA 2 0,.int .i64 stock,.int .i64 w,.int .i64 (Int.tdiv (t.uses.getD kind.toNat default * ration+999) 1000),.int .i64 d]
def Qb9 (s:Qaa) (load:List Int) (days:Int) (t:Qat) (kind ration:Int) (d stock w:Int):List Obj:=[Obj.cells #[Qa0 1 (slT t.uses.length (Qac Qar t.uses)),Qa0 1 (slT t.gaps.length (Qac Qar t.gaps)),Qa0 1 (slT t.goods.length (Qac Qaz t.goods))] 65]
def QcK:List Item:=([.code [1,1,1,0,1,0,0],.inLoop [1,1,1,0,1,0,0],.inBlock 0,.code [1,1,1,1]]).map (it (Qal Tryz.prog 41))
def Q0y (B:Lo) (c0:CF) (s:Qaa) (load:List Int) (days:Int) (t:Qat) (kind ration:Int) (d stock w:Int):Prop:=∃dJ:Nat->Value,(∀t,QaS (dJ t))/\GoE Tryz.prog B c0 H00 1 (Qa4 41 74 (([1,2,4,9,14,15,16,17]:List Nat).zip (QcI s load days t kind ration d stock w)) dJ QcK) (Qa3 (Qb9 s load days t kind ration d stock w)) (2+(Qb9 s load days t kind ration d stock w).length) []
def QfH (s:Qaa) (load:List Int) (days:Int) (t:Qat) (kind ration:Int) (d i stock w:Int):List Value:=[Qa0 1 (slT load.length (Qac Qar load)),.int .i64 days,.int .i64 kind,pA 2 0,.int .i64 stock,.int .i64 w,.int .i64 (Int.tdiv (t.uses.getD kind.toNat default * ration+999) 1000),.int .i64 d,.int .i64 i]
def QcY (s:Qaa) (load:List Int) (days:Int) (t:Qat) (kind ration:Int) (d i stock w:Int):List Obj:=[Obj.cells #[Qa0 1 (slT t.uses.length (Qac Qar t.uses)),Qa0 1 (slT t.gaps.length (Qac Qar t.gaps)),Qa0 1 (slT t.goods.length (Qac Qaz t.goods))] 65]
def QfI:List Item:=([.code [1,1,1,0,1,0,0,1,0,0,0,1,0,1,0,0],.inLoop [1,1,1,0,1,0,0,1,0,0,0,1,0,1,0,0],.inBlock 2,.code [1,1,1,0,1,0,0,1,0,0,1],.inBlock 1,.code [1,1,1,0,1,0,0,1,1],.inLoop [1,1,1,0,1,0,0],.inBlock 0,.code [1,1,1,1]]).map (it (Qal Tryz.prog 41))
def QyW (B:Lo) (c0:CF) (s:Qaa) (load:List Int) (days:Int) (t:Qat) (kind ration:Int) (d i stock w:Int):Prop:=∃dJ:Nat->Value,(∀t,QaS (dJ t))/\GoE Tryz.prog B c0 H00 1 (Qa4 41 74 (([1,2,4,9,14,15,16,17,18]:List Nat).zip (QfH s load days t kind ration d i stock w)) dJ QfI) (Qa3 (QcY s load days t kind ration d i stock w)) (2+(QcY s load days t kind ration d i stock w).length) []
def QmZ (B:Lo) (s:Qaa) (load:List Int) (days:Int) (t:Qat) (kind ration:Int) (d stock w:Int) (dJ0:Nat->Value):List Prop:=[ltq d days=true]++([]:List Prop)
def Qsr (s:Qaa) (load:List Int) (days:Int) (t:Qat) (kind ration:Int) (d stock w:Int) (dJ0:Nat->Value):Qay:=[(2,hvT)]
theorem Qyq (B:Lo) (s:Qaa) (load:List Int) (days:Int) (t:Qat) (kind ration:Int) (d stock w:Int) (dJ0:Nat->Value):landM (Qak Tryz.prog (Qa1 Tryz.prog) J0 B 15 1 (Qa4 41 74 (([1,2,4,9,14,15,16,17]:List Nat).zip (QcI s load days t kind ration d stock w)) dJ0 QcK) (Qa3 (Qb9 s load days t kind ration d stock w)) (2+(Qb9 s load days t kind ration d stock w).length)
 (Qsr s load days t kind ration d stock w dJ0++[(5,Qaj.pure (.bool true) [])]) 0 [] []) [1,2,4,9,14,15,16,17,18] [(2,KS.auto)] []=some ⟨41,74,QfI,[],.run,none,QfH s load days t kind ration (d) (0) (stock) (w),QcY s load days t kind ration (d) (0) (stock) (w),
 [Qa7 []/\Qas Tryz.prog J0 88 #[.agg #[slT t.uses.length (Qac Qar t.uses),slT t.gaps.length (Qac Qar t.gaps),slT t.goods.length (Qac Qaz t.goods)],.int .i64 d] (.bool true)]++QmZ B s load days t kind ration d stock w dJ0⟩:=by kernel_rfl
def QnC (B:Lo) (s:Qaa) (load:List Int) (days:Int) (t:Qat) (kind ration:Int) (d stock w:Int) (dJ0:Nat->Value):List Prop:=[Qa7 []/\Qas Tryz.prog J0 88 #[.agg #[slT t.uses.length (Qac Qar t.uses),slT t.gaps.length (Qac Qar t.gaps),slT t.goods.length (Qac Qaz t.goods)],.int .i64 d] (.bool false)]++QmZ B s load days t kind ration d stock w dJ0
def Qsj (s:Qaa) (load:List Int) (days:Int) (t:Qat) (kind ration:Int) (d stock w:Int) (dJ0:Nat->Value):Qay:=Qsr s load days t kind ration d stock w dJ0++[(5,Qaj.pure (.bool false) [])]
def Qn1 (B:Lo) (s:Qaa) (load:List Int) (days:Int) (t:Qat) (kind ration:Int) (d stock w:Int) (dJ0:Nat->Value):List Prop:=[ltq stock (Int.tdiv (t.uses.getD kind.toNat default * ration+999) 1000)=true]++QnC B s load days t kind ration d stock w dJ0
def Qsc (s:Qaa) (load:List Int) (days:Int) (t:Qat) (kind ration:Int) (d stock w:Int) (dJ0:Nat->Value):Qay:=Qsj s load days t kind ration d stock w dJ0++[(8,hvT)]
theorem QyA (B:Lo) (s:Qaa) (load:List Int) (days:Int) (t:Qat) (kind ration:Int) (d stock w:Int) (dJ0:Nat->Value):landM (Qak Tryz.prog (Qa1 Tryz.prog) J0 B 21 1 (Qa4 41 74 (([1,2,4,9,14,15,16,17]:List Nat).zip (QcI s load days t kind ration d stock w)) dJ0 QcK) (Qa3 (Qb9 s load days t kind ration d stock w)) (2+(Qb9 s load days t kind ration d stock w).length)
 (Qsc s load days t kind ration d stock w dJ0++[(11,hvT),(17,hvI (stock - Int.tdiv (t.uses.getD kind.toNat default * ration+999) 1000)),(21,hvI (d+1))]) 0 [] []) [1,2,4,9,14,15,16,17] [(2,KS.auto)] []=some ⟨41,74,QcK,[],.run,none,QcI s load days t kind ration (d+1) (if stock - Int.tdiv (t.uses.getD kind.toNat default * ration+999) 1000 > 0 then stock - Int.tdiv (t.uses.getD kind.toNat default * ration+999) 1000 else 0) (d),Qb9 s load days t kind ration (d+1) (if stock - Int.tdiv (t.uses.getD kind.toNat default * ration+999) 1000 > 0 then stock - Int.tdiv (t.uses.getD kind.toNat default * ration+999) 1000 else 0) (d),
 [wq (d+1)=d+1,wq (stock - Int.tdiv (t.uses.getD kind.toNat default * ration+999) 1000)=stock - Int.tdiv (t.uses.getD kind.toNat default * ration+999) 1000,ltq w 0=true]++Qn1 B s load days t kind ration d stock w dJ0⟩:=by kernel_rfl
theorem QyY (B:Lo) (s:Qaa) (load:List Int) (days:Int) (t:Qat) (kind ration:Int) (d stock w:Int) (dJ0:Nat->Value):landM (Qak Tryz.prog (Qa1 Tryz.prog) J0 B 21 1 (Qa4 41 74 (([1,2,4,9,14,15,16,17]:List Nat).zip (QcI s load days t kind ration d stock w)) dJ0 QcK) (Qa3 (Qb9 s load days t kind ration d stock w)) (2+(Qb9 s load days t kind ration d stock w).length)
 (Qsc s load days t kind ration d stock w dJ0++[(11,hvF),(15,hvI (stock - Int.tdiv (t.uses.getD kind.toNat default * ration+999) 1000)),(19,hvI (d+1))]) 0 [] []) [1,2,4,9,14,15,16,17] [(2,KS.auto)] []=some ⟨41,74,QcK,[],.run,none,QcI s load days t kind ration (d+1) (if stock - Int.tdiv (t.uses.getD kind.toNat default * ration+999) 1000 > 0 then stock - Int.tdiv (t.uses.getD kind.toNat default * ration+999) 1000 else 0) (w),Qb9 s load days t kind ration (d+1) (if stock - Int.tdiv (t.uses.getD kind.toNat default * ration+999) 1000 > 0 then stock - Int.tdiv (t.uses.getD kind.toNat default * ration+999) 1000 else 0) (w),
 [wq (d+1)=d+1,wq (stock - Int.tdiv (t.uses.getD kind.toNat default * ration+999) 1000)=stock - Int.tdiv (t.uses.getD kind.toNat default * ration+999) 1000,ltq w 0=false]++Qn1 B s load days t kind ration d stock w dJ0⟩:=by kernel_rfl
theorem QzG (B:Lo) (s:Qaa) (load:List Int) (days:Int) (t:Qat) (kind ration:Int) (d stock w:Int) (dJ0:Nat->Value):landM (Qak Tryz.prog (Qa1 Tryz.prog) J0 B 21 1 (Qa4 41 74 (([1,2,4,9,14,15,16,17]:List Nat).zip (QcI s load days t kind ration d stock w)) dJ0 QcK) (Qa3 (Qb9 s load days t kind ration d stock w)) (2+(Qb9 s load days t kind ration d stock w).length)
 (Qsj s load days t kind ration d stock w dJ0++[(8,hvF),(15,hvI (stock - Int.tdiv (t.uses.getD kind.toNat default * ration+999) 1000)),(19,hvI (d+1))]) 0 [] []) [1,2,4,9,14,15,16,17] [(2,KS.auto)] []=some ⟨41,74,QcK,[],.run,none,QcI s load days t kind ration (d+1) (if stock - Int.tdiv (t.uses.getD kind.toNat default * ration+999) 1000 > 0 then stock - Int.tdiv (t.uses.getD kind.toNat default * ration+999) 1000 else 0) (w),Qb9 s load days t kind ration (d+1) (if stock - Int.tdiv (t.uses.getD kind.toNat default * ration+999) 1000 > 0 then stock - Int.tdiv (t.uses.getD kind.toNat default * ration+999) 1000 else 0) (w),
 [wq (d+1)=d+1,wq (stock - Int.tdiv (t.uses.getD kind.toNat default * ration+999) 1000)=stock - Int.tdiv (t.uses.getD kind.toNat default * ration+999) 1000,ltq stock (Int.tdiv (t.uses.getD kind.toNat default * ration+999) 1000)=false]++QnC B s load days t kind ration d stock w dJ0⟩:=by kernel_rfl
theorem Qym (B:Lo) (s:Qaa) (load:List Int) (days:Int) (t:Qat) (kind ration:Int) (d stock w:Int) (dJ0:Nat->Value):Qbb (Qak Tryz.prog (Qa1 Tryz.prog) J0 B 9 1 (Qa4 41 74 (([1,2,4,9,14,15,16,17]:List Nat).zip (QcI s load days t kind ration d stock w)) dJ0 QcK) (Qa3 (Qb9 s load days t kind ration d stock w)) (2+(Qb9 s load days t kind ration d stock w).length)
 [(2,hvF)] 0 [] []) []=some (.tuple #[.int .i64 w,.int .i64 stock],
 [ltq d days=false]):=by kernel_rfl
theorem Qzj (B:Lo) (s:Qaa) (load:List Int) (days:Int) (t:Qat) (kind ration:Int) (d i stock w:Int) (dJ0:Nat->Value):landM (Qak Tryz.prog (Qa1 Tryz.prog) J0 B 11 1 (Qa4 41 74 (([1,2,4,9,14,15,16,17,18]:List Nat).zip (QfH s load days t kind ration d i stock w)) dJ0 QfI) (Qa3 (QcY s load days t kind ration d i stock w)) (2+(QcY s load days t kind ration d i stock w).length)
 [(3,hvT),(9,Qaj.tidx i.toNat #[.int .i64 (load.getD i.toNat default)]),(11,Qaj.tidx (Int.toNat (load.getD i.toNat default)) #[slT (List.length (t.goods.getD (Int.toNat (load.getD i.toNat default)) default)) (Qac Qar (t.goods.getD (Int.toNat (load.getD i.toNat default)) default))]),(14,Qaj.tidx kind.toNat #[.int .i64 (List.getD (t.goods.getD (Int.toNat (load.getD i.toNat default)) default) kind.toNat default)]),(16,hvI (stock+List.getD (t.goods.getD (Int.toNat (load.getD i.toNat default)) default) kind.toNat default)),(19,hvI (i+1))] 0 [] []) [1,2,4,9,14,15,16,17,18] [(2,KS.auto)] []=some ⟨41,74,QfI,[],.run,none,QfH s load days t kind ration (d) (i+1) (stock+List.getD (t.goods.getD (Int.toNat (load.getD i.toNat default)) default) kind.toNat default) (w),QcY s load days t kind ration (d) (i+1) (stock+List.getD (t.goods.getD (Int.toNat (load.getD i.toNat default)) default) kind.toNat default) (w),
 [wq (i+1)=i+1,wq (stock+List.getD (t.goods.getD (Int.toNat (load.getD i.toNat default)) default) kind.toNat default)=stock+List.getD (t.goods.getD (Int.toNat (load.getD i.toNat default)) default) kind.toNat default,kind=(↑kind.toNat:Int)/\Int.toNat kind < List.length (t.goods.getD (Int.toNat (load.getD i.toNat default)) default)/\Array.extract (Qac Qar (t.goods.getD (Int.toNat (load.getD i.toNat default)) default)) (Int.toNat kind * TypeInfo.size Tryz.t3) (Int.toNat kind * TypeInfo.size Tryz.t3+TypeInfo.size Tryz.t3)=#[.int .i64 (List.getD (t.goods.getD (Int.toNat (load.getD i.toNat default)) default) kind.toNat default)],load.getD i.toNat default=(↑(Int.toNat (load.getD i.toNat default)):Int)/\Int.toNat (load.getD i.toNat default) < List.length t.goods/\Array.extract (Qac Qaz t.goods) (Int.toNat (load.getD i.toNat default) * TypeInfo.size Tryz.t22) (Int.toNat (load.getD i.toNat default) * TypeInfo.size Tryz.t22+TypeInfo.size Tryz.t22)=#[slT (List.length (t.goods.getD (Int.toNat (load.getD i.toNat default)) default)) (Qac Qar (t.goods.getD (Int.toNat (load.getD i.toNat default)) default))],i=(↑i.toNat:Int)/\Int.toNat i < List.length load/\Array.extract (Qac Qar load) (Int.toNat i * TypeInfo.size Tryz.t3) (Int.toNat i * TypeInfo.size Tryz.t3+TypeInfo.size Tryz.t3)=#[.int .i64 (load.getD i.toNat default)],ltq i (↑load.length:Int)=true]⟩:=by kernel_rfl
def Qns (B:Lo) (s:Qaa) (load:List Int) (days:Int) (t:Qat) (kind ration:Int) (d i stock w:Int) (dJ0:Nat->Value):List Prop:=[ltq i (↑load.length:Int)=false]++([]:List Prop)
def QrV (s:Qaa) (load:List Int) (days:Int) (t:Qat) (kind ration:Int) (d i stock w:Int) (dJ0:Nat->Value):Qay:=[(3,hvF)]
def Qob (B:Lo) (s:Qaa) (load:List Int) (days:Int) (t:Qat) (kind ration:Int) (d i stock w:Int) (dJ0:Nat->Value):List Prop:=[ltq stock (Int.tdiv (t.uses.getD kind.toNat default * ration+999) 1000)=true]++Qns B s load days t kind ration d i stock w dJ0
def Qs1 (s:Qaa) (load:List Int) (days:Int) (t:Qat) (kind ration:Int) (d i stock w:Int) (dJ0:Nat->Value):Qay:=QrV s load days t kind ration d i stock w dJ0++[(6,hvT)]
theorem Qzx (B:Lo) (s:Qaa) (load:List Int) (days:Int) (t:Qat) (kind ration:Int) (d i stock w:Int) (dJ0:Nat->Value):landM (Qak Tryz.prog (Qa1 Tryz.prog) J0 B 14 1 (Qa4 41 74 (([1,2,4,9,14,15,16,17,18]:List Nat).zip (QfH s load days t kind ration d i stock w)) dJ0 QfI) (Qa3 (QcY s load days t kind ration d i stock w)) (2+(QcY s load days t kind ration d i stock w).length)
 (Qs1 s load days t kind ration d i stock w dJ0++[(9,hvT),(15,hvI (stock - Int.tdiv (t.uses.getD kind.toNat default * ration+999) 1000)),(19,hvI (d+1))]) 0 [] []) [1,2,4,9,14,15,16,17] [(2,KS.auto)] []=some ⟨41,74,QcK,[],.run,none,QcI s load days t kind ration (d+1) (if stock - Int.tdiv (t.uses.getD kind.toNat default * ration+999) 1000 > 0 then stock - Int.tdiv (t.uses.getD kind.toNat default * ration+999) 1000 else 0) (d),Qb9 s load days t kind ration (d+1) (if stock - Int.tdiv (t.uses.getD kind.toNat default * ration+999) 1000 > 0 then stock - Int.tdiv (t.uses.getD kind.toNat default * ration+999) 1000 else 0) (d),
 [wq (d+1)=d+1,wq (stock - Int.tdiv (t.uses.getD kind.toNat default * ration+999) 1000)=stock - Int.tdiv (t.uses.getD kind.toNat default * ration+999) 1000,ltq w 0=true]++Qob B s load days t kind ration d i stock w dJ0⟩:=by kernel_rfl
theorem Q0f (B:Lo) (s:Qaa) (load:List Int) (days:Int) (t:Qat) (kind ration:Int) (d i stock w:Int) (dJ0:Nat->Value):landM (Qak Tryz.prog (Qa1 Tryz.prog) J0 B 14 1 (Qa4 41 74 (([1,2,4,9,14,15,16,17,18]:List Nat).zip (QfH s load days t kind ration d i stock w)) dJ0 QfI) (Qa3 (QcY s load days t kind ration d i stock w)) (2+(QcY s load days t kind ration d i stock w).length)
 (Qs1 s load days t kind ration d i stock w dJ0++[(9,hvF),(13,hvI (stock - Int.tdiv (t.uses.getD kind.toNat default * ration+999) 1000)),(17,hvI (d+1))]) 0 [] []) [1,2,4,9,14,15,16,17] [(2,KS.auto)] []=some ⟨41,74,QcK,[],.run,none,QcI s load days t kind ration (d+1) (if stock - Int.tdiv (t.uses.getD kind.toNat default * ration+999) 1000 > 0 then stock - Int.tdiv (t.uses.getD kind.toNat default * ration+999) 1000 else 0) (w),Qb9 s load days t kind ration (d+1) (if stock - Int.tdiv (t.uses.getD kind.toNat default * ration+999) 1000 > 0 then stock - Int.tdiv (t.uses.getD kind.toNat default * ration+999) 1000 else 0) (w),
 [wq (d+1)=d+1,wq (stock - Int.tdiv (t.uses.getD kind.toNat default * ration+999) 1000)=stock - Int.tdiv (t.uses.getD kind.toNat default * ration+999) 1000,ltq w 0=false]++Qob B s load days t kind ration d i stock w dJ0⟩:=by kernel_rfl
theorem Q0p (B:Lo) (s:Qaa) (load:List Int) (days:Int) (t:Qat) (kind ration:Int) (d i stock w:Int) (dJ0:Nat->Value):landM (Qak Tryz.prog (Qa1 Tryz.prog) J0 B 14 1 (Qa4 41 74 (([1,2,4,9,14,15,16,17,18]:List Nat).zip (QfH s load days t kind ration d i stock w)) dJ0 QfI) (Qa3 (QcY s load days t kind ration d i stock w)) (2+(QcY s load days t kind ration d i stock w).length)
 (QrV s load days t kind ration d i stock w dJ0++[(6,hvF),(13,hvI (stock - Int.tdiv (t.uses.getD kind.toNat default * ration+999) 1000)),(17,hvI (d+1))]) 0 [] []) [1,2,4,9,14,15,16,17] [(2,KS.auto)] []=some ⟨41,74,QcK,[],.run,none,QcI s load days t kind ration (d+1) (if stock - Int.tdiv (t.uses.getD kind.toNat default * ration+999) 1000 > 0 then stock - Int.tdiv (t.uses.getD kind.toNat default * ration+999) 1000 else 0) (w),Qb9 s load days t kind ration (d+1) (if stock - Int.tdiv (t.uses.getD kind.toNat default * ration+999) 1000 > 0 then stock - Int.tdiv (t.uses.getD kind.toNat default * ration+999) 1000 else 0) (w),
 [wq (d+1)=d+1,wq (stock - Int.tdiv (t.uses.getD kind.toNat default * ration+999) 1000)=stock - Int.tdiv (t.uses.getD kind.toNat default * ration+999) 1000,ltq stock (Int.tdiv (t.uses.getD kind.toNat default * ration+999) 1000)=false]++Qns B s load days t kind ration d i stock w dJ0⟩:=by kernel_rfl
theorem Qy8 (B:Lo) (s:Qaa) (load:List Int) (days:Int) (t:Qat) (kind ration:Int):landM (Qak Tryz.prog (Qa1 Tryz.prog) J0 B 11 1 (Qai Tryz.prog 41 74 (([.agg (Qah s).toArray,slI load,.int .i64 days,.agg (QaI t).toArray,.int .i64 kind,.int .i64 ration]).map (Qaq 0 4))) H00 1
 [(7,Qaj.tidx kind.toNat #[.int .i64 (s.stock.getD kind.toNat default)]),(14,Qaj.tidx kind.toNat #[.int .i64 (t.uses.getD kind.toNat default)]),(17,hvI (t.uses.getD kind.toNat default * ration)),(18,hvI (t.uses.getD kind.toNat default * ration+999)),(19,hvI (Int.tdiv (t.uses.getD kind.toNat default * ration+999) 1000))] 0 [] []) [1,2,4,9,14,15,16,17] [(2,KS.auto)] []=some ⟨41,74,QcK,[],.run,none,QcI s load days t kind ration (0) (s.stock.getD kind.toNat default) (-1),Qb9 s load days t kind ration (0) (s.stock.getD kind.toNat default) (-1),
 [IntKind.wrap .i64 (Int.tdiv (t.uses.getD kind.toNat default * ration+999) 1000)=Int.tdiv (t.uses.getD kind.toNat default * ration+999) 1000,wq (t.uses.getD kind.toNat default * ration+999)=t.uses.getD kind.toNat default * ration+999,wq (t.uses.getD kind.toNat default * ration)=t.uses.getD kind.toNat default * ration,kind=(↑kind.toNat:Int)/\Int.toNat kind < List.length t.uses/\Array.extract (Qac Qar t.uses) (Int.toNat kind * TypeInfo.size Tryz.t3) (Int.toNat kind * TypeInfo.size Tryz.t3+TypeInfo.size Tryz.t3)=#[.int .i64 (t.uses.getD kind.toNat default)],kind=(↑kind.toNat:Int)/\Int.toNat kind < List.length s.stock/\Array.extract (Qac Qar s.stock) (Int.toNat kind * TypeInfo.size Tryz.t3) (Int.toNat kind * TypeInfo.size Tryz.t3+TypeInfo.size Tryz.t3)=#[.int .i64 (s.stock.getD kind.toNat default)]]⟩:=by kernel_rfl
set_option maxHeartbeats 4000000 in
theorem Qzg (s:Qaa) (load:List Int) (days:Int) (t:Qat) (kind ration:Int) (hs:Qa8 s=true) (hl:load.length<=10) (hx:∀x∈load,0<=x/\x < s.lots.length) (ht:Qc5 s days t=true) (hd:0<=days/\days<=300) (hk:0<=kind/\kind < s.stock.length) (hr:0<=ration/\ration<=1001) {B:Lo} (hJ:∀w,B.has w->J0 w) {c0:CF}:∀m:Nat,(∀(d stock w:Int),(days - d).toNat * 20=m->∀(d0:0<=d) (s0:0<=stock/\stock<=100000+1000000 * d) (w0: -1<=w/\w<=300),Q0y B c0 s load days t kind ration d stock w->EndsT Tryz.prog B c0 (Qms (Qe0 (Qfs t kind ration) (QfS t kind load) (Qbs t) (upI d days) (w,stock))))/\(∀(d i stock w:Int),(days - d).toNat * 20 - 15+(load.length - i.toNat)=m->∀(d0:0<=d) (d1:d < days) (i0:0<=i) (i1:i<=load.length) (s0:0<=stock/\stock<=100000+1000000 * d+100000 * i) (w0: -1<=w/\w<=300),QyW B c0 s load days t kind ration d i stock w->EndsT Tryz.prog B c0 (Qms (Q0U (Qfs t kind ration) (QfS t kind load) (Qbs t) days d w (stock+QfS t kind (load.drop i.toNat))))):=by
 intro m0
 induction m0 using Nat.strongRecOn with
 | _ m0 ih0=>
   refine ⟨?_, ?_⟩
   ·intro d stock w hm0 d0 s0 w0 ⟨dJ0,hdJ0,hg0⟩
    have ht':=ht;simp only [Qc5,QlU,Bool.and_eq_true,decide_eq_true_iff,List.all_eq_true,QaW] at ht'
    have hgp:=Qa9 hs
    have hst:=Qav hs
    have hrows:=QdF hs ht'.2.2
    have hus:=(Qbt ht'.1)
    have hgg:∀x∈t.gaps,0<=x/\x<=60:=fun x h=> by have:=ht'.2.1.2.1 x h;omega
    have hgl:t.gaps.length<=300:=ht'.2.1.1
    have hu1:=hus.2 kind hk.1 (by omega)
    have hu2:=hst.2.2.2 _ (QaB (l:=s.use) hk.1 (by omega))
    have hs1:=hst.2.1 _ (QaB (l:=s.stock) hk.1 hk.2)
    have hu3:0<=t.uses.getD kind.toNat default * ration:=Int.mul_nonneg (by omega) (by omega)
    have hu4:t.uses.getD kind.toNat default * ration<=1000 * 1001:=Int.mul_le_mul (by omega) (by omega) (by omega) (by omega)
    have hu5:(t.uses.getD kind.toNat default * ration+999).tdiv 1000=(t.uses.getD kind.toNat default * ration+999) / 1000:=Int.tdiv_eq_ediv_of_nonneg (by omega)
    have hU:Qfs t kind ration=(t.uses.getD kind.toNat default * ration+999).tdiv 1000:=rfl
    by_cases q0:(d:Int) < (days)
    ·
     have hp0:Qa7 (QmZ B s load days t kind ration d stock w dJ0):=by
      exact ⟨(Qbl q0),trivial⟩
     cases q1:Qbs t d with
     | true=>
       have s2:=QfT (use:=Qfs t kind ration) (br:=QfS t kind load) (comes:=Qbs t) (days:=days) (d:=d) (w:=w) (s:=stock) (by omega)
       have hc:(if Qbs t d=true then QfS t kind load else 0)=QfS t kind load:=if_pos ‹Qbs t d=true›
       exact ((ih0 _ (by omega)).2 (d) (0) (stock) (w) rfl (by with_reducible assumption) (by with_reducible assumption) (by omega) (by omega) (by omega) (by with_reducible assumption)
        (hg0.landM okF hJ Qab (Qyq B s load days t kind ration d stock w dJ0)
        ⟨⟨trivial,(by have t_:=Q0M (t) (d) (by with_reducible assumption) (by with_reducible assumption);rw [q1] at t_;exact t_)⟩,hp0⟩ (by kernel_rfl) (by kernel_rfl))).cast (by (rw [s2,hc];rfl))
     | false=>
       have hp1:Qa7 (QnC B s load days t kind ration d stock w dJ0):=by
        have s2:=QfT (use:=Qfs t kind ration) (br:=QfS t kind load) (comes:=Qbs t) (days:=days) (d:=d) (w:=w) (s:=stock) (by omega)
        have hc:(if Qbs t d=true then QfS t kind load else 0)=0:=if_neg (by rw [‹Qbs t d=false›];decide)
        exact ⟨⟨trivial,(by have t_:=Q0M (t) (d) (by with_reducible assumption) (by with_reducible assumption);rw [q1] at t_;exact t_)⟩,hp0⟩
       by_cases q2:(stock:Int) < (Int.tdiv (t.uses.getD kind.toNat default * ration+999) 1000)
       ·
        have hp2:Qa7 (Qn1 B s load days t kind ration d stock w dJ0):=by
         exact ⟨(Qbl q2),hp1⟩
        by_cases q3:(w:Int) < (0)
        ·
         have s2:=QfT (use:=Qfs t kind ration) (br:=QfS t kind load) (comes:=Qbs t) (days:=days) (d:=d) (w:=w) (s:=stock) (by omega)
         have hc:(if Qbs t d=true then QfS t kind load else 0)=0:=if_neg (by rw [‹Qbs t d=false›];decide)
         exact ((ih0 _ (by omega)).1 (d+1) (if stock - Int.tdiv (t.uses.getD kind.toNat default * ration+999) 1000 > 0 then stock - Int.tdiv (t.uses.getD kind.toNat default * ration+999) 1000 else 0) (d) rfl (by omega) (by omega) (by omega)
          (hg0.landM okF hJ Qab (QyA B s load days t kind ration d stock w dJ0)
          ⟨(QaJ (by omega) (by omega)),⟨(QaJ (by omega) (by omega)),⟨(Qbl q3),hp2⟩⟩⟩ (by kernel_rfl) (by kernel_rfl))).cast (by (rw [s2,hc];exact congrArg Qms (kD (by split <;> omega) (by split <;> omega))))
        ·
         have s2:=QfT (use:=Qfs t kind ration) (br:=QfS t kind load) (comes:=Qbs t) (days:=days) (d:=d) (w:=w) (s:=stock) (by omega)
         have hc:(if Qbs t d=true then QfS t kind load else 0)=0:=if_neg (by rw [‹Qbs t d=false›];decide)
         exact ((ih0 _ (by omega)).1 (d+1) (if stock - Int.tdiv (t.uses.getD kind.toNat default * ration+999) 1000 > 0 then stock - Int.tdiv (t.uses.getD kind.toNat default * ration+999) 1000 else 0) (w) rfl (by omega) (by omega) (by with_reducible assumption)
          (hg0.landM okF hJ Qab (QyY B s load days t kind ration d stock w dJ0)
          ⟨(QaJ (by omega) (by omega)),⟨(QaJ (by omega) (by omega)),⟨(Qbq (Int.not_lt.1 q3)),hp2⟩⟩⟩ (by kernel_rfl) (by kernel_rfl))).cast (by (rw [s2,hc];exact congrArg Qms (kD (by split <;> omega) (by split <;> omega))))
       ·
        have s2:=QfT (use:=Qfs t kind ration) (br:=QfS t kind load) (comes:=Qbs t) (days:=days) (d:=d) (w:=w) (s:=stock) (by omega)
        have hc:(if Qbs t d=true then QfS t kind load else 0)=0:=if_neg (by rw [‹Qbs t d=false›];decide)
        exact ((ih0 _ (by omega)).1 (d+1) (if stock - Int.tdiv (t.uses.getD kind.toNat default * ration+999) 1000 > 0 then stock - Int.tdiv (t.uses.getD kind.toNat default * ration+999) 1000 else 0) (w) rfl (by omega) (by omega) (by with_reducible assumption)
         (hg0.landM okF hJ Qab (QzG B s load days t kind ration d stock w dJ0)
         ⟨(QaJ (by omega) (by omega)),⟨(QaJ (by omega) (by omega)),⟨(Qbq (Int.not_lt.1 q2)),hp1⟩⟩⟩ (by kernel_rfl) (by kernel_rfl))).cast (by (rw [s2,hc];exact congrArg Qms (kD (by split <;> omega) (by split <;> omega))))
    ·
     have s2:=QzV (use:=Qfs t kind ration) (br:=QfS t kind load) (comes:=Qbs t) (days:=days) (d:=d) (w:=w) (s:=stock) (by omega)
     exact (GoE.endsT okF hJ Qab hg0 (Qym B s load days t kind ration d stock w dJ0)
      ⟨(Qbq (Int.not_lt.1 q0)),trivial⟩).cast (by (rw [s2];rfl))
   ·intro d i stock w hm0 d0 d1 i0 i1 s0 w0 ⟨dJ0,hdJ0,hg0⟩
    have ht':=ht;simp only [Qc5,QlU,Bool.and_eq_true,decide_eq_true_iff,List.all_eq_true,QaW] at ht'
    have hgp:=Qa9 hs
    have hst:=Qav hs
    have hrows:=QdF hs ht'.2.2
    have hus:=(Qbt ht'.1)
    have hgg:∀x∈t.gaps,0<=x/\x<=60:=fun x h=> by have:=ht'.2.1.2.1 x h;omega
    have hgl:t.gaps.length<=300:=ht'.2.1.1
    have hu1:=hus.2 kind hk.1 (by omega)
    have hu2:=hst.2.2.2 _ (QaB (l:=s.use) hk.1 (by omega))
    have hs1:=hst.2.1 _ (QaB (l:=s.stock) hk.1 hk.2)
    have hu3:0<=t.uses.getD kind.toNat default * ration:=Int.mul_nonneg (by omega) (by omega)
    have hu4:t.uses.getD kind.toNat default * ration<=1000 * 1001:=Int.mul_le_mul (by omega) (by omega) (by omega) (by omega)
    have hu5:(t.uses.getD kind.toNat default * ration+999).tdiv 1000=(t.uses.getD kind.toNat default * ration+999) / 1000:=Int.tdiv_eq_ediv_of_nonneg (by omega)
    have hU:Qfs t kind ration=(t.uses.getD kind.toNat default * ration+999).tdiv 1000:=rfl
    by_cases q0:(i:Int) < ((↑load.length:Int))
    ·
     have s2:=Qw9 (t:=t) (kind:=kind) (l:=load) i0 q0
     have g1:=hx _ (QaB i0 q0)
     have g2:=hrows.2 _ (QaB (l:=t.goods) (i:=load.getD i.toNat default) g1.1 (by omega))
     have g3:=g2.2 _ (QaB (l:=t.goods.getD (load.getD i.toNat default).toNat default) (i:=kind) hk.1 (by omega))
     exact ((ih0 _ (by omega)).2 (d) (i+1) (stock+List.getD (t.goods.getD (Int.toNat (load.getD i.toNat default)) default) kind.toNat default) (w) rfl (by with_reducible assumption) (by with_reducible assumption) (by omega) (by omega) (by omega) (by with_reducible assumption)
      (hg0.landM okF hJ Qab (Qzj B s load days t kind ration d i stock w dJ0)
      ⟨(QaJ (by omega) (by omega)),⟨(QaJ (by omega) (by omega)),⟨⟨by first | omega | (split <;> omega),by first | omega | (split <;> omega),(Qaf (z:=1) (fun _=> rfl) (by omega))⟩,⟨⟨by first | omega | (split <;> omega),by first | omega | (split <;> omega),(Qaf (z:=1) (fun _=> rfl) (by omega))⟩,⟨⟨by first | omega | (split <;> omega),by first | omega | (split <;> omega),(Qaf (z:=1) (fun _=> rfl) (by omega))⟩,⟨(Qbl q0),trivial⟩⟩⟩⟩⟩⟩ (by kernel_rfl) (by kernel_rfl))).cast (by (rw [s2,<-Int.add_assoc];done))
    ·
     have hp3:Qa7 (Qns B s load days t kind ration d i stock w dJ0):=by
      exact ⟨(Qbq (Int.not_lt.1 q0)),trivial⟩
     by_cases q1:(stock:Int) < (Int.tdiv (t.uses.getD kind.toNat default * ration+999) 1000)
     ·
      have hp4:Qa7 (Qob B s load days t kind ration d i stock w dJ0):=by
       exact ⟨(Qbl q1),hp3⟩
      by_cases q2:(w:Int) < (0)
      ·
       have s2:=Qnu (t:=t) (kind:=kind) (l:=load) (i:=i) (by omega)
       exact ((ih0 _ (by omega)).1 (d+1) (if stock - Int.tdiv (t.uses.getD kind.toNat default * ration+999) 1000 > 0 then stock - Int.tdiv (t.uses.getD kind.toNat default * ration+999) 1000 else 0) (d) rfl (by omega) (by omega) (by omega)
        (hg0.landM okF hJ Qab (Qzx B s load days t kind ration d i stock w dJ0)
        ⟨(QaJ (by omega) (by omega)),⟨(QaJ (by omega) (by omega)),⟨(Qbl q2),hp4⟩⟩⟩ (by kernel_rfl) (by kernel_rfl))).cast (by (rw [s2];exact congrArg Qms (kD (by split <;> omega) (by split <;> omega))))
      ·
       have s2:=Qnu (t:=t) (kind:=kind) (l:=load) (i:=i) (by omega)
       exact ((ih0 _ (by omega)).1 (d+1) (if stock - Int.tdiv (t.uses.getD kind.toNat default * ration+999) 1000 > 0 then stock - Int.tdiv (t.uses.getD kind.toNat default * ration+999) 1000 else 0) (w) rfl (by omega) (by omega) (by with_reducible assumption)
        (hg0.landM okF hJ Qab (Q0f B s load days t kind ration d i stock w dJ0)
        ⟨(QaJ (by omega) (by omega)),⟨(QaJ (by omega) (by omega)),⟨(Qbq (Int.not_lt.1 q2)),hp4⟩⟩⟩ (by kernel_rfl) (by kernel_rfl))).cast (by (rw [s2];exact congrArg Qms (kD (by split <;> omega) (by split <;> omega))))
     ·
      have s2:=Qnu (t:=t) (kind:=kind) (l:=load) (i:=i) (by omega)
      exact ((ih0 _ (by omega)).1 (d+1) (if stock - Int.tdiv (t.uses.getD kind.toNat default * ration+999) 1000 > 0 then stock - Int.tdiv (t.uses.getD kind.toNat default * ration+999) 1000 else 0) (w) rfl (by omega) (by omega) (by with_reducible assumption)
       (hg0.landM okF hJ Qab (Q0p B s load days t kind ration d i stock w dJ0)
       ⟨(QaJ (by omega) (by omega)),⟨(QaJ (by omega) (by omega)),⟨(Qbq (Int.not_lt.1 q1)),hp3⟩⟩⟩ (by kernel_rfl) (by kernel_rfl))).cast (by (rw [s2];exact congrArg Qms (kD (by split <;> omega) (by split <;> omega))))
set_option maxHeartbeats 4000000 in
theorem Q1o (s:Qaa) (load:List Int) (days:Int) (t:Qat) (kind ration:Int) (hs:Qa8 s=true) (hl:load.length<=10) (hx:∀x∈load,0<=x/\x < s.lots.length) (ht:Qc5 s days t=true) (hd:0<=days/\days<=300) (hk:0<=kind/\kind < s.stock.length) (hr:0<=ration/\ration<=1001) {B:Lo} (hJ:∀w,B.has w->J0 w):EndsT Tryz.prog B (Qai Tryz.prog 41 74 (([.agg (Qah s).toArray,slI load,.int .i64 days,.agg (QaI t).toArray,.int .i64 kind,.int .i64 ration]).map (Qaq 0 4))) (Qms (Qe0 (Qfs t kind ration) (QfS t kind load) (Qbs t) (upI 0 days) (-1,s.stock.getD kind.toNat default))):=by
 have ht':=ht;simp only [Qc5,QlU,Bool.and_eq_true,decide_eq_true_iff,List.all_eq_true,QaW] at ht'
 have hgp:=Qa9 hs
 have hst:=Qav hs
 have hrows:=QdF hs ht'.2.2
 have hus:=(Qbt ht'.1)
 have hgg:∀x∈t.gaps,0<=x/\x<=60:=fun x h=> by have:=ht'.2.1.2.1 x h;omega
 have hgl:t.gaps.length<=300:=ht'.2.1.1
 have hu1:=hus.2 kind hk.1 (by omega)
 have hu2:=hst.2.2.2 _ (QaB (l:=s.use) hk.1 (by omega))
 have hs1:=hst.2.1 _ (QaB (l:=s.stock) hk.1 hk.2)
 have hu3:0<=t.uses.getD kind.toNat default * ration:=Int.mul_nonneg (by omega) (by omega)
 have hu4:t.uses.getD kind.toNat default * ration<=1000 * 1001:=Int.mul_le_mul (by omega) (by omega) (by omega) (by omega)
 have hu5:(t.uses.getD kind.toNat default * ration+999).tdiv 1000=(t.uses.getD kind.toNat default * ration+999) / 1000:=Int.tdiv_eq_ediv_of_nonneg (by omega)
 have hU:Qfs t kind ration=(t.uses.getD kind.toNat default * ration+999).tdiv 1000:=rfl
 exact ((Qzg s load days t kind ration hs hl hx ht hd hk hr hJ _).1 (0) (s.stock.getD kind.toNat default) (-1) rfl (by omega) (by omega) (by omega)
  (GoE.start.landM okF hJ Qab (Qy8 B s load days t kind ration)
  ⟨(Qgz (by omega) (by omega)),⟨(QaJ (by omega) (by omega)),⟨(QaJ (by omega) (by omega)),⟨⟨by omega,by omega,(Qaf (z:=1) (fun _=> rfl) (by omega))⟩,⟨⟨by omega,by omega,(Qaf (z:=1) (fun _=> rfl) (by omega))⟩,trivial⟩⟩⟩⟩⟩ (by kernel_rfl) (by kernel_rfl))).cast (by rfl)
theorem Q3P (s:Qaa) (load:List Int) (days:Int) (t:Qat) (kind ration:Int) (hs:Qa8 s=true) (hl:load.length<=10) (hx:∀x∈load,0<=x/\x < s.lots.length) (ht:Qc5 s days t=true) (hd:0<=days/\days<=300) (hk:0<=kind/\kind < s.stock.length) (hr:0<=ration/\ration<=1001):Qas Tryz.prog J0 41 #[.agg (Qah s).toArray,slI load,.int .i64 days,.agg (QaI t).toArray,.int .i64 kind,.int .i64 ration] (Qms (Qe0 (Qfs t kind ration) (QfS t kind load) (Qbs t) (upI 0 days) (-1,s.stock.getD kind.toNat default))):=
 QaE (ts:=[.agg (Qah s).toArray,slI load,.int .i64 days,.agg (QaI t).toArray,.int .i64 kind,.int .i64 ration]) Qb6 (c0:=Qai Tryz.prog 41 74 (([.agg (Qah s).toArray,slI load,.int .i64 days,.agg (QaI t).toArray,.int .i64 kind,.int .i64 ration]).map (Qaq 0 4))) (by kernel_rfl) (by kernel_rfl) fun B hJ=> Q1o s load days t kind ration hs hl hx ht hd hk hr hJ
end
end Go.Proofs.YtiabgkiccaodmaaGreat

namespace Go.Proofs.YtiabgkiccaodmaaGreat
open Go Go.CE Go.RowKit
theorem QtN {a b c:Int} (h1:a<=b) (h2:b<=c):upI a c=upI a b++upI b c:=by
 obtain ⟨n,hn⟩:∃n:Nat,b=a+n:=⟨(b - a).toNat,by omega⟩
 subst hn
 induction n generalizing a with
 | zero=> rw [Qht (a:=a) (b:=a+((0:Nat):Int)) (by omega),show a+((0:Nat):Int)=a by omega];rfl
 | succ n ih=>
   rw [Qel (a:=a) (b:=c) (by omega),Qel (a:=a) (b:=a+((n+1:Nat):Int)) (by omega),show a+((n+1:Nat):Int)=(a+1)+(n:Int) by omega,ih (by omega) (by omega)]
   rfl
theorem Qg0 {a b x:Int} (h:x∈upI a b):a<=x/\x < b:=by
 unfold upI at h
 obtain ⟨k,hk,rfl⟩:=List.mem_map.1 h
 have:=List.mem_range.1 hk
 omega
theorem Qvn {s x n:Int} (hs:0<=s) (hx:0<=x) (hn:0<=n):QjF (Qoi s x) n=(QjF s n || decide (x=n)):=by
 rw [Qnb,Qnb]
 unfold Qoi orN Qsb
 rw [Int.toNat_natCast,Int.toNat_natCast,Nat.testBit_or,Nat.testBit_two_pow]
 congr 1
 exact decide_eq_decide.2 (by omega)
theorem Q2Q {s n:Int}:0<=Qoi s n:=Int.natCast_nonneg _
theorem Qox {n:Int} (hn:0<=n):∀(l:List Int) (s:Int),(∀x∈l,0<=x)->0<=s->QjF (QcM l s) n=(QjF s n || l.contains n)
 | [],s,_,_=> by simp [QcM]
 | x::l,s,h,hs=> by
   rw [QcM,Qox hn l (Qoi s x) (fun y hy=> h y (by simp [hy])) Q2Q,Qvn hs (h x (by simp)) hn,List.contains_cons,Bool.or_assoc]
   congr 1
   congr 1
   by_cases e:x=n
   ·subst e;simp
   ·rw [decide_eq_false e];symm;exact beq_eq_false_iff_ne.2 (Ne.symm e)
theorem Qx3 {n:Int}:QjF 0 n=false:=by rw [Qnb];simp
theorem Qyn {s n:Int} (h0:0<=s) (hn:Qcf s<=n):QjF s n=false:=by
 rw [Qnb]
 refine Nat.testBit_lt_two_pow ?_
 unfold Qcf at hn
 by_cases hs:s=0
 ·subst hs;exact Nat.two_pow_pos _
 ·rw [if_neg hs] at hn
  have hb:s.toNat≠0:=by omega
  have:s.toNat < 2 ^ (s.toNat.log2+1):=Nat.lt_log2_self
  exact Nat.lt_of_lt_of_le this (Nat.pow_le_pow_right (by decide) (by omega))
theorem Qhm {things:Int}:∀{l:List Int} {least:Int},Qd4 things l least=true->∀x∈l,least<=x/\x < things
 | [],_,_,x,hx=> by simp at hx
 | n::l,least,h,x,hx=> by
   simp only [Qd4,Bool.and_eq_true,QaW] at h
   rcases List.mem_cons.1 hx with rfl | hx
   ·omega
   ·have:=Qhm h.2 x hx;omega
theorem Qrx {things:Int}:∀(m:Nat) (l:List Int) (least:Int),(things - least).toNat=m->Qd4 things l least=true->(upI least things).filter (fun n=> l.contains n)=l:=by
 intro m
 induction m with
 | zero=>
   intro l least hm h
   rw [Qht (by omega)]
   cases l with
   | nil=> rfl
   | cons x l=> have:=Qhm h x (by simp);omega
 | succ m ih=>
   intro l least hm h
   cases l with
   | nil=> simp
   | cons x l=>
     have hx:=Qhm h x (by simp)
     rw [Qel (by omega)]
     by_cases e:least=x
     ·subst e
      rw [List.filter_cons_of_pos (by simp)]
      simp only [Qd4,Bool.and_eq_true] at h
      congr 1
      refine (List.filter_congr fun n hn=> ?_).trans (ih l (least+1) (by omega) h.2)
      have:=(Qg0 hn).1
      rw [List.contains_cons,beq_eq_false_iff_ne.2 (by omega),Bool.false_or]
     ·have hne:(x::l).contains least=false:=by
       cases hc:(x::l).contains least with
       | false=> rfl
       | true=>
         have hm2:least∈x::l:=List.contains_iff_mem.1 hc
         simp only [Qd4,Bool.and_eq_true,QaW] at h
         rcases List.mem_cons.1 hm2 with rfl | hm2
         ·exact absurd rfl e
         ·have:=Qhm h.2 least hm2;omega
      rw [List.filter_cons_of_neg (by rw [hne];decide)]
      refine ih (x::l) (least+1) (by omega) ?_
      simp only [Qd4,Bool.and_eq_true,QaW] at h ⊢
      exact ⟨by omega,h.2⟩
theorem Qo5 {α:Type} [Inhabited α] {xs:List α} {load:List Int} {things:Nat} (ht:things<=61) (h:Qd4 things load 0=true):Qax (QcM load 0) xs 0=load.map fun x=> xs.getD x.toNat default:=by
 have hin:=Qjg h (Int.le_refl 0)
 have hlt:=Qi6 ht load 0 hin (Int.le_refl 0) (Int.pow_pos (by decide))
 have hle:=Qkk hlt.1 hlt.2
 have h0:0<=Qcf (QcM load 0):=by unfold Qcf;split <;> omega
 have e1:(upI 0 (Qcf (QcM load 0))).filter (QjF (QcM load 0))=(upI 0 things).filter (QjF (QcM load 0)):=by
  rw [QtN (a:=0) (b:=Qcf (QcM load 0)) (c:=things) h0 hle,List.filter_append]
  have:(upI (Qcf (QcM load 0)) things).filter (QjF (QcM load 0))=[]:=by
   rw [List.filter_eq_nil_iff]
   intro n hn
   rw [Qyn hlt.1 (Qg0 hn).1];decide
  rw [this,List.append_nil]
 have e2:(upI 0 things).filter (QjF (QcM load 0))=load:=by
  refine (List.filter_congr fun n hn=> ?_).trans (Qrx _ load 0 rfl h)
  rw [Qox (Qg0 hn).1 load 0 (fun x hx=> (hin x hx).1) (Int.le_refl 0),Qx3,Bool.false_or]
 unfold Qax
 rw [e1,e2]
theorem Q1i {s:Qaa} {load:List Int} (hs:Qa8 s=true):(Qd4 s.lots.length load 0 && decide (QyQ s load<=s.hold))=QbV s load:=by
 have hm:=Qa2 hs
 unfold QbV Qrf QyQ
 cases h:Qd4 s.lots.length load 0 with
 | false=> rfl
 | true=> rw [Qo5 (by omega) h,List.map_map];rfl
theorem Qu6 {s:Qaa} {t:Qat} {load:List Int} {k:Int} (hs:Qa8 s=true) (h:QbV s load=true):Qcs (QcM load 0) t.goods k=QfS t k load:=by
 have hm:=Qa2 hs
 simp only [QbV,Bool.and_eq_true] at h
 unfold Qcs QfS
 rw [Qo5 (by omega) h.1,List.map_map];rfl
theorem QoC {days:Int}:∀(l:List Int) (day:Int) (bs:List Bool) (d:Int),(∀g∈l,0<=g)->0<=day->bs.length=days.toNat->0<=d->d < days->(QfP days l day bs).getD d.toNat default=(bs.getD d.toNat default || QeD d l day)
 | [],day,bs,d,_,_,_,_,_=> by simp [QfP,QeD]
 | g::l,day,bs,d,h,h0,hb,d0,d1=> by
   have hg:=h g (by simp)
   simp only [QfP,QeD]
   rw [QoC l (day+g) _ d (fun x hx=> h x (by simp [hx])) (by omega) (by cases decide (day+g < days) <;> simp [hb]) d0 d1,<-Bool.or_assoc]
   congr 1
   have hk:d.toNat < bs.length:=by omega
   by_cases e:day+g < days
   ·rw [decide_eq_true e,cond_true]
    simp only [List.getD_eq_getElem?_getD,List.getElem?_set]
    by_cases e2:day+g=d
    ·rw [if_pos (by omega),decide_eq_true e2,if_pos (by omega)];simp
    ·rw [if_neg (by omega),decide_eq_false e2,Bool.or_false]
   ·rw [decide_eq_false e,cond_false,decide_eq_false (by omega),Bool.or_false]
theorem Qmz {days d:Int} {gaps:List Int} (h:∀g∈gaps,0<=g) (d0:0<=d) (d1:d < days):(Qb1 days gaps).getD d.toNat default=QeD d gaps 0:=by
 unfold Qb1
 rw [QoC gaps 0 _ d h (Int.le_refl 0) (by simp) d0 d1]
 have hk:d.toNat < days.toNat:=by omega
 simp [List.getD_eq_getElem?_getD,hk]
theorem Qwl {use br:Int} {comes:Int->Bool}:∀(cs:List Bool) (d left w:Int),0<=d->(∀j:Nat,j < cs.length->comes (d+j)=cs.getD j default)->Qe0 use br comes (upI d (d+cs.length)) (w,left)=(if w < 0/\0<=QaL use br cs d left then QaL use br cs d left else w,Qi4 use br cs left)
 | [],d,left,w,h0,_=> by
   rw [Qht (by simp)]
   simp [Qe0,QaL,Qi4]
 | c::cs,d,left,w,h0,h=> by
   have hc:comes d=c:=by have:=h 0 (by simp);simpa using this
   rw [Qel (by simp;omega),show d+((c::cs).length:Int)=(d+1)+cs.length by simp;omega]
   simp only [Qe0]
   rw [hc]
   have eL:(left+if c=true then br else 0)=left+bif c then br else 0:=by cases c <;> rfl
   have f1:QaL use br (c::cs) d left=bif decide ((left+bif c then br else 0) < use) then d else QaL use br cs (d+1) (QhW use (left+bif c then br else 0)):=rfl
   have f2:Qi4 use br (c::cs) left=Qi4 use br cs (QhW use (left+bif c then br else 0)):=rfl
   rw [eL,f1,f2]
   generalize (left+bif c then br else 0:Int)=L at *
   have hs:(if 0 < L - use then L - use else 0)=QhW use L:=by unfold QhW;split <;> split <;> omega
   rw [hs,Qwl cs (d+1) (QhW use L) _ (by omega) (fun j hj=> by
    have:=h (j+1) (by simp;omega)
    rw [show d+((j+1:Nat):Int)=d+1+(j:Int) by omega] at this
    rw [this];simp)]
   have hor:=Qgb (use:=use) (br:=br) cs (d+1) (QhW use L) (by omega)
   by_cases e:L < use
   ·rw [decide_eq_true e,cond_true]
    by_cases hw:w < 0
    ·rw [if_pos (show L < use/\w < 0 from ⟨e,hw⟩),if_neg (by omega),if_pos (by omega)]
    ·rw [if_neg (show ¬(L < use/\w < 0) by omega),if_neg (by omega),if_neg (by omega)]
   ·rw [decide_eq_false e,cond_false,if_neg (show ¬(L < use/\w < 0) by omega)]
theorem Qv2 {s:Qaa} {load days k:Int} {t:Qat} (h0:0<=k) (h1:k < s.stock.length):(QaD s load days t).getD k.toNat default=Qyi s load days t k:=by
 have hk:k.toNat < (upI 0 (s.stock.length:Int)).length:=by rw [Qf6];omega
 have e:=Qn5 h0 h1
 rw [List.getD_eq_getElem?_getD,List.getElem?_eq_getElem hk] at e
 unfold QaD
 rw [List.getD_eq_getElem?_getD,List.getElem?_map,List.getElem?_eq_getElem hk]
 simp only [Option.map_some,Option.getD_some] at e ⊢
 rw [e]
theorem Qyb {s:Qaa} {load days:Int} {t:Qat}:(QaD s load days t).length=s.stock.length:=by simp [QaD,Qf6]
end Go.Proofs.YtiabgkiccaodmaaGreat
