/- The reference's truths at the ends. -/
import Derived.Test.YtiabgkiccaodmaaGreatZRA13
import Derived.Test.YtiabgkiccaodmaaGreatZRA12
set_option linter.all false
namespace Go.Proofs.YtiabgkiccaodmaaGreat
open Go Go.CE Go.RowKit
noncomputable section
set_option maxRecDepth 100000
theorem map_cons {α β:Type} [Inhabited α] {f:α->β} {l:List α} {i:Int} (h0:0<=i) (h:i < l.length):(l.drop i.toNat).map f=f (l.getD i.toNat default)::(l.drop (i+1).toNat).map f:=by
 rw [drop_cons h0 h];rfl
theorem map_nil {α β:Type} {f:α->β} {l:List α} {i:Int} (h:l.length<=i):(l.drop i.toNat).map f=[]:=by
 rw [QjT h];rfl
def Qof {α β:Type} (f:α->β) (l:List α) (i:Int) (out:List β):Prop:=out++(l.drop i.toNat).map f=l.map f
theorem Q4c {α β:Type} {f:α->β} {l:List α}:Qof f l 0 []:=rfl
theorem QfZ {α β:Type} [Inhabited α] {f:α->β} {l:List α} {i:Int} {out:List β} (h0:0<=i) (h:i < l.length) (hg:Qof f l i out):Qof f l (i+1) (out++[f (l.getD i.toNat default)]):=by
 unfold Qof at hg ⊢
 rw [map_cons h0 h] at hg
 rw [List.append_assoc];exact hg
theorem Qr5 {α β:Type} [Inhabited α] {f:α->β} {l:List α} {i:Int} (h0:i=0) (h:i < l.length):Qof f l (i+1) [f (l.getD i.toNat default)]:=by
 subst h0
 exact QfZ (f:=f) (l:=l) (i:=0) (out:=[]) (Int.le_refl _) h Q4c
theorem Qga {α β:Type} {f:α->β} {l:List α} {i:Int} {out:List β} (h:l.length<=i) (hg:Qof f l i out):out=l.map f:=by
 unfold Qof at hg
 rw [map_nil h,List.append_nil] at hg;exact hg
theorem Q12 {a g:Int} {n:Nat} (h:a=n * g):a+g=((n+1:Nat):Int) * g:=by
 rw [Int.natCast_add,Int.add_mul];omega
theorem QeM {α:Type} {n:Nat} {x:α} {l:List α} (h:n=l.length):n+1=(l++[x]).length:=by
 rw [List.length_append,<-h];rfl
theorem Q1A {x:Int} {gs:List Int} {m:Nat} (h:gs=List.replicate m x):gs++[x]=List.replicate (m+1) x:=by
 subst h;exact List.replicate_succ'.symm
theorem Q1S {a days g:Int} {n:Nat} (hg:1<=g) (h:a=n * g) (h1:days<=a) (h2:a < days+g) (h0:0<=days):n=((days+g - 1).tdiv g).toNat:=by
 rw [Int.tdiv_eq_ediv_of_nonneg (by omega)]
 have e:(days+g - 1) / g=n:=by
  have a1:(n:Int)<=(days+g - 1) / g:=Int.le_ediv_of_mul_le (by omega) (by omega)
  have a2:(days+g - 1) / g < (n:Int)+1:=Int.ediv_lt_of_lt_mul (by omega) (by rw [Int.add_mul];omega)
  omega
 rw [e];rfl
theorem Qy2 {a days g:Int} {n:Nat} {gs:List Int} (gr:gs=List.replicate n g) (h:a=n * g) (hg:1<=g) (h1:days<=a) (h2:a < days+g) (h0:0<=days):gs=List.replicate ((days+g - 1).tdiv g).toNat g:=by
 rw [gr,Q1S hg h h1 h2 h0]
structure RW where
 n:Nat
 xs:List Int
deriving Inhabited
def Qbn (r:RW):List Value:=[slT r.n (Qac Qar r.xs)]
theorem QoZ {g days:Int} (hg:1<=g) (hd:days<=0) (h0:0<=days):([]:List Int)=List.replicate ((days+g - 1).tdiv g).toNat g:=by
 rw [Int.tdiv_eq_ediv_of_nonneg (by omega),show days+g - 1=g - 1 by omega,Int.ediv_eq_zero_of_lt (by omega) (by omega)];rfl
def QuG (f:Span->Int) (l:Qad):RW:=⟨l.goods.length,l.goods.map f⟩
theorem Q0a {f:Span->Int} {l:Qad} {w:Nat} {ls:List Int} (wm:w=ls.length) (hl:ls=l.goods.map f):(⟨w,ls⟩:RW)=QuG f l:=by
 subst wm hl;simp [QuG]
theorem QyX {f:Span->Int} (lots:List Qad):Qac Qbn (lots.map (QuG f))=Qac Qaz (lots.map fun l=> (l.goods.map f:Row)):=by
 have e:∀l:Qad,Qbn (QuG f l)=Qaz (l.goods.map f:Row):=fun l=> by
  show [slT l.goods.length (Qac Qar (l.goods.map f))]=[slT (l.goods.map f).length (Qac Qar (l.goods.map f))]
  rw [List.length_map]
 have h:(lots.map (QuG f)).flatMap Qbn=(lots.map fun l=> (l.goods.map f:Row)).flatMap Qaz:=by
  induction lots with
  | nil=> rfl
  | cons l ls ih=> rw [List.map_cons,List.map_cons,List.flatMap_cons,List.flatMap_cons,ih,e]
 unfold Qac
 rw [h]
theorem Qig {f g:Span->Int} {s:Qaa} {days:Int} {out gs:List Int} {zs:List RW} {n m z:Nat} (hm:n=out.length) (ho:out=s.use.map g) (gm:m=gs.length) (gr:gs=List.replicate ((days+g ⟨s.glo,s.ghi⟩ - 1).tdiv (g ⟨s.glo,s.ghi⟩)).toNat (g ⟨s.glo,s.ghi⟩)) (zm:z=zs.length) (hz:zs=s.lots.map (QuG f)):
 Value.agg #[slT n (Qac Qar out),slT m (Qac Qar gs),slT z (Qac Qbn zs)]=.agg (QaI (Qae f g s days)).toArray:=by
 subst hm gm zm
 rw [hz,QyX,List.length_map,ho,gr]
 show Value.agg #[_,_,_]=Value.agg #[slI _,slI _,slR _]
 rw [show (s.lots.length)=(s.lots.map fun l=> (l.goods.map f:Row)).length by rw [List.length_map]]
 rfl
theorem Qgx {s:Qaa} (hs:Qa8 s=true) {i:Int} (h0:0<=i) (h:i < s.lots.length):(s.lots.getD i.toNat default).goods.length=s.stock.length:=(Qc6 ((Qa2 hs).2 _ (QaB (l:=s.lots) h0 h))).1
def Qne (s:Qaa) (days:Int) (i:Int):List Value:=[.int .i64 days,.bool true,pA 2 0,pA 3 0,pA 4 0,.int .i64 i]
def Qh5 (s:Qaa) (days:Int) (i:Int):List Obj:=[Obj.cells #[Qa0 1 (slT s.stock.length (Qac Qar s.stock)),Qa0 1 (slT s.use.length (Qac Qa6 s.use)),.int .i64 s.glo,.int .i64 s.ghi,Qa0 1 (slT s.lots.length (Qac Qam s.lots)),.int .i64 s.hold] 62,Obj.cells #[.slice none 0 0,.slice none 0 0,.slice none 0 0] 65,Obj.cells #[.slice none 0 0,.slice none 0 0,.slice none 0 0] 65]
def Qna:List Item:=([.code [1,1,0,1,0,0],.inLoop [1,1,0,1,0,0],.inBlock 0,.code [1,1,1]]).map (it (Qal Tryz.prog 47))
def Qy7 (B:Lo) (c0:CF) (s:Qaa) (days:Int) (i:Int):Prop:=∃dJ:Nat->Value,(∀t,QaS (dJ t))/\GoE Tryz.prog B c0 H00 1 (Qa4 47 107 (([1,2,3,6,7,8]:List Nat).zip (Qne s days i)) dJ Qna) (Qa3 (Qh5 s days i)) (2+(Qh5 s days i).length) []
def Qib (s:Qaa) (days:Int) (i:Int) (out:List Int) (n:Nat):List Value:=[.int .i64 days,.bool true,pA 2 0,pA 3 0,pA 4 0,.int .i64 i]
def QeP (s:Qaa) (days:Int) (i:Int) (out:List Int) (n:Nat):List Obj:=[Obj.cells #[Qa0 1 (slT s.stock.length (Qac Qar s.stock)),Qa0 1 (slT s.use.length (Qac Qa6 s.use)),.int .i64 s.glo,.int .i64 s.ghi,Qa0 1 (slT s.lots.length (Qac Qam s.lots)),.int .i64 s.hold] 62,Obj.cells #[.slice none 0 0,.slice none 0 0,.slice none 0 0] 65,.cells #[.slice (some ⟨5,0,none⟩) n 1,.slice none 0 0,.slice none 0 0] 65 (0,0),.cells (Qac Qar out) 3 (0,0)]
def Qh6:List Item:=([.code [1,1,0,1,0,0],.inLoop [1,1,0,1,0,0],.inBlock 0,.code [1,1,1]]).map (it (Qal Tryz.prog 47))
def QyI (B:Lo) (c0:CF) (s:Qaa) (days:Int) (i:Int) (out:List Int) (n:Nat):Prop:=∃dJ:Nat->Value,(∀t,QaS (dJ t))/\GoE Tryz.prog B c0 H00 1 (Qa4 47 107 (([1,2,3,6,7,8]:List Nat).zip (Qib s days i out n)) dJ Qh6) (Qa3 (QeP s days i out n)) (2+(QeP s days i out n).length) []
def QjN (s:Qaa) (days:Int) (a:Int) (out:List Int) (n:Nat):List Value:=[.int .i64 days,.bool true,pA 2 0,pA 3 0,pA 4 0,.int .i64 s.ghi,.int .i64 a]
def QfA (s:Qaa) (days:Int) (a:Int) (out:List Int) (n:Nat):List Obj:=[Obj.cells #[Qa0 1 (slT s.stock.length (Qac Qar s.stock)),Qa0 1 (slT s.use.length (Qac Qa6 s.use)),.int .i64 s.glo,.int .i64 s.ghi,Qa0 1 (slT s.lots.length (Qac Qam s.lots)),.int .i64 s.hold] 62,Obj.cells #[.slice none 0 0,.slice none 0 0,.slice none 0 0] 65,.cells #[.slice (some ⟨5,0,none⟩) n 1,.slice none 0 0,.slice none 0 0] 65 (0,0),.cells (Qac Qar out) 3 (0,0)]
def QjK:List Item:=([.code [1,1,1,1,1,0,1,0,0],.inLoop [1,1,1,1,1,0,1,0,0],.inBlock 2,.code [1,1,1,1,1,1]]).map (it (Qal Tryz.prog 47))
def QyM (B:Lo) (c0:CF) (s:Qaa) (days:Int) (a:Int) (out:List Int) (n:Nat):Prop:=∃dJ:Nat->Value,(∀t,QaS (dJ t))/\GoE Tryz.prog B c0 H00 1 (Qa4 47 107 (([1,2,3,6,7,10,11]:List Nat).zip (QjN s days a out n)) dJ QjK) (Qa3 (QfA s days a out n)) (2+(QfA s days a out n).length) []
def Qia (s:Qaa) (days:Int) (a:Int) (out gs:List Int) (n gl:Nat):List Value:=[.int .i64 days,.bool true,pA 2 0,pA 3 0,pA 4 0,.int .i64 s.ghi,.int .i64 a]
def QeQ (s:Qaa) (days:Int) (a:Int) (out gs:List Int) (n gl:Nat):List Obj:=[Obj.cells #[Qa0 1 (slT s.stock.length (Qac Qar s.stock)),Qa0 1 (slT s.use.length (Qac Qa6 s.use)),.int .i64 s.glo,.int .i64 s.ghi,Qa0 1 (slT s.lots.length (Qac Qam s.lots)),.int .i64 s.hold] 62,Obj.cells #[.slice none 0 0,.slice none 0 0,.slice none 0 0] 65,.cells #[.slice (some ⟨5,0,none⟩) n 1,.slice (some ⟨6,0,none⟩) gl 1,.slice none 0 0] 65 (0,0),.cells (Qac Qar out) 3 (0,0),.cells (Qac Qar gs) 3 (0,0)]
def Qh7:List Item:=([.code [1,1,1,1,1,0,1,0,0],.inLoop [1,1,1,1,1,0,1,0,0],.inBlock 2,.code [1,1,1,1,1,1]]).map (it (Qal Tryz.prog 47))
def Qys (B:Lo) (c0:CF) (s:Qaa) (days:Int) (a:Int) (out gs:List Int) (n gl:Nat):Prop:=∃dJ:Nat->Value,(∀t,QaS (dJ t))/\GoE Tryz.prog B c0 H00 1 (Qa4 47 107 (([1,2,3,6,7,10,11]:List Nat).zip (Qia s days a out gs n gl)) dJ Qh7) (Qa3 (QeQ s days a out gs n gl)) (2+(QeQ s days a out gs n gl).length) []
def QjI (s:Qaa) (days:Int) (i:Int) (out gs:List Int) (n gl:Nat):List Value:=[.bool true,pA 2 0,pA 3 0,pA 4 0,.int .i64 i]
def QfE (s:Qaa) (days:Int) (i:Int) (out gs:List Int) (n gl:Nat):List Obj:=[Obj.cells #[Qa0 1 (slT s.stock.length (Qac Qar s.stock)),Qa0 1 (slT s.use.length (Qac Qa6 s.use)),.int .i64 s.glo,.int .i64 s.ghi,Qa0 1 (slT s.lots.length (Qac Qam s.lots)),.int .i64 s.hold] 62,Obj.cells #[.slice none 0 0,.slice none 0 0,.slice none 0 0] 65,.cells #[.slice (some ⟨5,0,none⟩) n 1,.slice (some ⟨6,0,none⟩) gl 1,.slice none 0 0] 65 (0,0),.cells (Qac Qar out) 3 (0,0),.cells (Qac Qar gs) 3 (0,0)]
def QjQ:List Item:=([.code [1,1,1,1,1,1,0,1,0,0],.inLoop [1,1,1,1,1,1,0,1,0,0],.inBlock 4,.code [1,1,1,1,1,1,1]]).map (it (Qal Tryz.prog 47))
def QyS (B:Lo) (c0:CF) (s:Qaa) (days:Int) (i:Int) (out gs:List Int) (n gl:Nat):Prop:=∃dJ:Nat->Value,(∀t,QaS (dJ t))/\GoE Tryz.prog B c0 H00 1 (Qa4 47 107 (([2,3,6,7,12]:List Nat).zip (QjI s days i out gs n gl)) dJ QjQ) (Qa3 (QfE s days i out gs n gl)) (2+(QfE s days i out gs n gl).length) []
def Qio (s:Qaa) (days:Int) (i:Int) (out gs:List Int) (zs:List RW) (n gl z:Nat):List Value:=[.bool true,pA 2 0,pA 3 0,pA 4 0,.int .i64 i]
def QeT (s:Qaa) (days:Int) (i:Int) (out gs:List Int) (zs:List RW) (n gl z:Nat):List Obj:=[Obj.cells #[Qa0 1 (slT s.stock.length (Qac Qar s.stock)),Qa0 1 (slT s.use.length (Qac Qa6 s.use)),.int .i64 s.glo,.int .i64 s.ghi,Qa0 1 (slT s.lots.length (Qac Qam s.lots)),.int .i64 s.hold] 62,Obj.cells #[.slice none 0 0,.slice none 0 0,.slice none 0 0] 65,.cells #[.slice (some ⟨5,0,none⟩) n 1,.slice (some ⟨6,0,none⟩) gl 1,.slice (some ⟨7,0,none⟩) z 1] 65 (0,0),.cells (Qac Qar out) 3 (0,0),.cells (Qac Qar gs) 3 (0,0),.cells (Qac (Qa5 1 Qbn) zs) 22 (0,0)]
def Qih:List Item:=([.code [1,1,1,1,1,1,0,1,0,0],.inLoop [1,1,1,1,1,1,0,1,0,0],.inBlock 4,.code [1,1,1,1,1,1,1]]).map (it (Qal Tryz.prog 47))
def Qzf (B:Lo) (c0:CF) (s:Qaa) (days:Int) (i:Int) (out gs:List Int) (zs:List RW) (n gl z:Nat):Prop:=∃dJ:Nat->Value,(∀t,QaS (dJ t))/\GoE Tryz.prog B c0 H00 1 (Qa4 47 107 (([2,3,6,7,12]:List Nat).zip (Qio s days i out gs zs n gl z)) dJ Qih) (Qa3 (QeT s days i out gs zs n gl z)) (2+(QeT s days i out gs zs n gl z).length) []
def QjP (s:Qaa) (days:Int) (i:Int) (out:List Int) (n:Nat):List Value:=[.bool true,pA 2 0,pA 3 0,pA 4 0,.int .i64 i]
def Qf3 (s:Qaa) (days:Int) (i:Int) (out:List Int) (n:Nat):List Obj:=[Obj.cells #[Qa0 1 (slT s.stock.length (Qac Qar s.stock)),Qa0 1 (slT s.use.length (Qac Qa6 s.use)),.int .i64 s.glo,.int .i64 s.ghi,Qa0 1 (slT s.lots.length (Qac Qam s.lots)),.int .i64 s.hold] 62,Obj.cells #[.slice none 0 0,.slice none 0 0,.slice none 0 0] 65,.cells #[.slice (some ⟨5,0,none⟩) n 1,.slice none 0 0,.slice none 0 0] 65 (0,0),.cells (Qac Qar out) 3 (0,0)]
def QjO:List Item:=([.code [1,1,1,1,1,1,0,1,0,0],.inLoop [1,1,1,1,1,1,0,1,0,0],.inBlock 4,.code [1,1,1,1,1,1,1]]).map (it (Qal Tryz.prog 47))
def Qz7 (B:Lo) (c0:CF) (s:Qaa) (days:Int) (i:Int) (out:List Int) (n:Nat):Prop:=∃dJ:Nat->Value,(∀t,QaS (dJ t))/\GoE Tryz.prog B c0 H00 1 (Qa4 47 107 (([2,3,6,7,12]:List Nat).zip (QjP s days i out n)) dJ QjO) (Qa3 (Qf3 s days i out n)) (2+(Qf3 s days i out n).length) []
def QhY (s:Qaa) (days:Int) (i:Int) (out:List Int) (zs:List RW) (n z:Nat):List Value:=[.bool true,pA 2 0,pA 3 0,pA 4 0,.int .i64 i]
def QeK (s:Qaa) (days:Int) (i:Int) (out:List Int) (zs:List RW) (n z:Nat):List Obj:=[Obj.cells #[Qa0 1 (slT s.stock.length (Qac Qar s.stock)),Qa0 1 (slT s.use.length (Qac Qa6 s.use)),.int .i64 s.glo,.int .i64 s.ghi,Qa0 1 (slT s.lots.length (Qac Qam s.lots)),.int .i64 s.hold] 62,Obj.cells #[.slice none 0 0,.slice none 0 0,.slice none 0 0] 65,.cells #[.slice (some ⟨5,0,none⟩) n 1,.slice none 0 0,.slice (some ⟨6,0,none⟩) z 1] 65 (0,0),.cells (Qac Qar out) 3 (0,0),.cells (Qac (Qa5 1 Qbn) zs) 22 (0,0)]
def QhR:List Item:=([.code [1,1,1,1,1,1,0,1,0,0],.inLoop [1,1,1,1,1,1,0,1,0,0],.inBlock 4,.code [1,1,1,1,1,1,1]]).map (it (Qal Tryz.prog 47))
def QzO (B:Lo) (c0:CF) (s:Qaa) (days:Int) (i:Int) (out:List Int) (zs:List RW) (n z:Nat):Prop:=∃dJ:Nat->Value,(∀t,QaS (dJ t))/\GoE Tryz.prog B c0 H00 1 (Qa4 47 107 (([2,3,6,7,12]:List Nat).zip (QhY s days i out zs n z)) dJ QhR) (Qa3 (QeK s days i out zs n z)) (2+(QeK s days i out zs n z).length) []
def Qnh (s:Qaa) (days:Int) (i k:Int) (out gs:List Int) (n gl:Nat):List Value:=[.bool true,pA 2 0,pA 3 0,pA 4 0,.int .i64 i,.slice none 0 0,.int .i64 k]
def QhD (s:Qaa) (days:Int) (i k:Int) (out gs:List Int) (n gl:Nat):List Obj:=[Obj.cells #[Qa0 1 (slT s.stock.length (Qac Qar s.stock)),Qa0 1 (slT s.use.length (Qac Qa6 s.use)),.int .i64 s.glo,.int .i64 s.ghi,Qa0 1 (slT s.lots.length (Qac Qam s.lots)),.int .i64 s.hold] 62,Obj.cells #[.slice none 0 0,.slice none 0 0,.slice none 0 0] 65,.cells #[.slice (some ⟨5,0,none⟩) n 1,.slice (some ⟨6,0,none⟩) gl 1,.slice none 0 0] 65 (0,0),.cells (Qac Qar out) 3 (0,0),.cells (Qac Qar gs) 3 (0,0)]
def Qnj:List Item:=([.code [1,1,1,1,1,1,0,1,0,0,1,0,0,1,0,1,0,0],.inLoop [1,1,1,1,1,1,0,1,0,0,1,0,0,1,0,1,0,0],.inBlock 6,.code [1,1,1,1,1,1,0,1,0,0,1,0,0,1,1],.inBlock 5,.code [1,1,1,1,1,1,0,1,0,0,1,1],.inLoop [1,1,1,1,1,1,0,1,0,0],.inBlock 4,.code [1,1,1,1,1,1,1]]).map (it (Qal Tryz.prog 47))
def Qzs (B:Lo) (c0:CF) (s:Qaa) (days:Int) (i k:Int) (out gs:List Int) (n gl:Nat):Prop:=∃dJ:Nat->Value,(∀t,QaS (dJ t))/\GoE Tryz.prog B c0 H00 1 (Qa4 47 107 (([2,3,6,7,12,13,14]:List Nat).zip (Qnh s days i k out gs n gl)) dJ Qnj) (Qa3 (QhD s days i k out gs n gl)) (2+(QhD s days i k out gs n gl).length) []
def QhE (s:Qaa) (days:Int) (i k:Int) (out gs ls:List Int) (n gl w:Nat):List Value:=[.bool true,pA 2 0,pA 3 0,pA 4 0,.int .i64 i,.slice (some ⟨7,0,none⟩) w 1,.int .i64 k]
def QeJ (s:Qaa) (days:Int) (i k:Int) (out gs ls:List Int) (n gl w:Nat):List Obj:=[Obj.cells #[Qa0 1 (slT s.stock.length (Qac Qar s.stock)),Qa0 1 (slT s.use.length (Qac Qa6 s.use)),.int .i64 s.glo,.int .i64 s.ghi,Qa0 1 (slT s.lots.length (Qac Qam s.lots)),.int .i64 s.hold] 62,Obj.cells #[.slice none 0 0,.slice none 0 0,.slice none 0 0] 65,.cells #[.slice (some ⟨5,0,none⟩) n 1,.slice (some ⟨6,0,none⟩) gl 1,.slice none 0 0] 65 (0,0),.cells (Qac Qar out) 3 (0,0),.cells (Qac Qar gs) 3 (0,0),.cells (Qac Qar ls) 3 (0,0)]
def Qik:List Item:=([.code [1,1,1,1,1,1,0,1,0,0,1,0,0,1,0,1,0,0],.inLoop [1,1,1,1,1,1,0,1,0,0,1,0,0,1,0,1,0,0],.inBlock 6,.code [1,1,1,1,1,1,0,1,0,0,1,0,0,1,1],.inBlock 5,.code [1,1,1,1,1,1,0,1,0,0,1,1],.inLoop [1,1,1,1,1,1,0,1,0,0],.inBlock 4,.code [1,1,1,1,1,1,1]]).map (it (Qal Tryz.prog 47))
def Q0w (B:Lo) (c0:CF) (s:Qaa) (days:Int) (i k:Int) (out gs ls:List Int) (n gl w:Nat):Prop:=∃dJ:Nat->Value,(∀t,QaS (dJ t))/\GoE Tryz.prog B c0 H00 1 (Qa4 47 107 (([2,3,6,7,12,13,14]:List Nat).zip (QhE s days i k out gs ls n gl w)) dJ Qik) (Qa3 (QeJ s days i k out gs ls n gl w)) (2+(QeJ s days i k out gs ls n gl w).length) []
def Qlf (s:Qaa) (days:Int) (i k:Int) (out gs:List Int) (zs:List RW) (n gl z:Nat):List Value:=[.bool true,pA 2 0,pA 3 0,pA 4 0,.int .i64 i,.slice none 0 0,.int .i64 k]
def Qg5 (s:Qaa) (days:Int) (i k:Int) (out gs:List Int) (zs:List RW) (n gl z:Nat):List Obj:=[Obj.cells #[Qa0 1 (slT s.stock.length (Qac Qar s.stock)),Qa0 1 (slT s.use.length (Qac Qa6 s.use)),.int .i64 s.glo,.int .i64 s.ghi,Qa0 1 (slT s.lots.length (Qac Qam s.lots)),.int .i64 s.hold] 62,Obj.cells #[.slice none 0 0,.slice none 0 0,.slice none 0 0] 65,.cells #[.slice (some ⟨5,0,none⟩) n 1,.slice (some ⟨6,0,none⟩) gl 1,.slice (some ⟨7,0,none⟩) z 1] 65 (0,0),.cells (Qac Qar out) 3 (0,0),.cells (Qac Qar gs) 3 (0,0),.cells (Qac (Qa5 1 Qbn) zs) 22 (0,0)]
def QkF:List Item:=([.code [1,1,1,1,1,1,0,1,0,0,1,0,0,1,0,1,0,0],.inLoop [1,1,1,1,1,1,0,1,0,0,1,0,0,1,0,1,0,0],.inBlock 6,.code [1,1,1,1,1,1,0,1,0,0,1,0,0,1,1],.inBlock 5,.code [1,1,1,1,1,1,0,1,0,0,1,1],.inLoop [1,1,1,1,1,1,0,1,0,0],.inBlock 4,.code [1,1,1,1,1,1,1]]).map (it (Qal Tryz.prog 47))
def QvU (B:Lo) (c0:CF) (s:Qaa) (days:Int) (i k:Int) (out gs:List Int) (zs:List RW) (n gl z:Nat):Prop:=∃dJ:Nat->Value,(∀t,QaS (dJ t))/\GoE Tryz.prog B c0 H00 1 (Qa4 47 107 (([2,3,6,7,12,13,14]:List Nat).zip (Qlf s days i k out gs zs n gl z)) dJ QkF) (Qa3 (Qg5 s days i k out gs zs n gl z)) (2+(Qg5 s days i k out gs zs n gl z).length) []
def Qgr (s:Qaa) (days:Int) (i k:Int) (out gs ls:List Int) (zs:List RW) (n gl z w:Nat):List Value:=[.bool true,pA 2 0,pA 3 0,pA 4 0,.int .i64 i,.slice (some ⟨8,0,none⟩) w 1,.int .i64 k]
def Qed (s:Qaa) (days:Int) (i k:Int) (out gs ls:List Int) (zs:List RW) (n gl z w:Nat):List Obj:=[Obj.cells #[Qa0 1 (slT s.stock.length (Qac Qar s.stock)),Qa0 1 (slT s.use.length (Qac Qa6 s.use)),.int .i64 s.glo,.int .i64 s.ghi,Qa0 1 (slT s.lots.length (Qac Qam s.lots)),.int .i64 s.hold] 62,Obj.cells #[.slice none 0 0,.slice none 0 0,.slice none 0 0] 65,.cells #[.slice (some ⟨5,0,none⟩) n 1,.slice (some ⟨6,0,none⟩) gl 1,.slice (some ⟨7,0,none⟩) z 1] 65 (0,0),.cells (Qac Qar out) 3 (0,0),.cells (Qac Qar gs) 3 (0,0),.cells (Qac (Qa5 1 Qbn) zs) 22 (0,0),.cells (Qac Qar ls) 3 (0,0)]
def Qgy:List Item:=([.code [1,1,1,1,1,1,0,1,0,0,1,0,0,1,0,1,0,0],.inLoop [1,1,1,1,1,1,0,1,0,0,1,0,0,1,0,1,0,0],.inBlock 6,.code [1,1,1,1,1,1,0,1,0,0,1,0,0,1,1],.inBlock 5,.code [1,1,1,1,1,1,0,1,0,0,1,1],.inLoop [1,1,1,1,1,1,0,1,0,0],.inBlock 4,.code [1,1,1,1,1,1,1]]).map (it (Qal Tryz.prog 47))
def Qvv (B:Lo) (c0:CF) (s:Qaa) (days:Int) (i k:Int) (out gs ls:List Int) (zs:List RW) (n gl z w:Nat):Prop:=∃dJ:Nat->Value,(∀t,QaS (dJ t))/\GoE Tryz.prog B c0 H00 1 (Qa4 47 107 (([2,3,6,7,12,13,14]:List Nat).zip (Qgr s days i k out gs ls zs n gl z w)) dJ Qgy) (Qa3 (Qed s days i k out gs ls zs n gl z w)) (2+(Qed s days i k out gs ls zs n gl z w).length) []
def Qk1 (s:Qaa) (days:Int) (i k:Int) (out:List Int) (n:Nat):List Value:=[.bool true,pA 2 0,pA 3 0,pA 4 0,.int .i64 i,.slice none 0 0,.int .i64 k]
def Qgp (s:Qaa) (days:Int) (i k:Int) (out:List Int) (n:Nat):List Obj:=[Obj.cells #[Qa0 1 (slT s.stock.length (Qac Qar s.stock)),Qa0 1 (slT s.use.length (Qac Qa6 s.use)),.int .i64 s.glo,.int .i64 s.ghi,Qa0 1 (slT s.lots.length (Qac Qam s.lots)),.int .i64 s.hold] 62,Obj.cells #[.slice none 0 0,.slice none 0 0,.slice none 0 0] 65,.cells #[.slice (some ⟨5,0,none⟩) n 1,.slice none 0 0,.slice none 0 0] 65 (0,0),.cells (Qac Qar out) 3 (0,0)]
def QkP:List Item:=([.code [1,1,1,1,1,1,0,1,0,0,1,0,0,1,0,1,0,0],.inLoop [1,1,1,1,1,1,0,1,0,0,1,0,0,1,0,1,0,0],.inBlock 6,.code [1,1,1,1,1,1,0,1,0,0,1,0,0,1,1],.inBlock 5,.code [1,1,1,1,1,1,0,1,0,0,1,1],.inLoop [1,1,1,1,1,1,0,1,0,0],.inBlock 4,.code [1,1,1,1,1,1,1]]).map (it (Qal Tryz.prog 47))
def Qyf (B:Lo) (c0:CF) (s:Qaa) (days:Int) (i k:Int) (out:List Int) (n:Nat):Prop:=∃dJ:Nat->Value,(∀t,QaS (dJ t))/\GoE Tryz.prog B c0 H00 1 (Qa4 47 107 (([2,3,6,7,12,13,14]:List Nat).zip (Qk1 s days i k out n)) dJ QkP) (Qa3 (Qgp s days i k out n)) (2+(Qgp s days i k out n).length) []
def Qgl (s:Qaa) (days:Int) (i k:Int) (out ls:List Int) (n w:Nat):List Value:=[.bool true,pA 2 0,pA 3 0,pA 4 0,.int .i64 i,.slice (some ⟨6,0,none⟩) w 1,.int .i64 k]
def QdZ (s:Qaa) (days:Int) (i k:Int) (out ls:List Int) (n w:Nat):List Obj:=[Obj.cells #[Qa0 1 (slT s.stock.length (Qac Qar s.stock)),Qa0 1 (slT s.use.length (Qac Qa6 s.use)),.int .i64 s.glo,.int .i64 s.ghi,Qa0 1 (slT s.lots.length (Qac Qam s.lots)),.int .i64 s.hold] 62,Obj.cells #[.slice none 0 0,.slice none 0 0,.slice none 0 0] 65,.cells #[.slice (some ⟨5,0,none⟩) n 1,.slice none 0 0,.slice none 0 0] 65 (0,0),.cells (Qac Qar out) 3 (0,0),.cells (Qac Qar ls) 3 (0,0)]
def QgC:List Item:=([.code [1,1,1,1,1,1,0,1,0,0,1,0,0,1,0,1,0,0],.inLoop [1,1,1,1,1,1,0,1,0,0,1,0,0,1,0,1,0,0],.inBlock 6,.code [1,1,1,1,1,1,0,1,0,0,1,0,0,1,1],.inBlock 5,.code [1,1,1,1,1,1,0,1,0,0,1,1],.inLoop [1,1,1,1,1,1,0,1,0,0],.inBlock 4,.code [1,1,1,1,1,1,1]]).map (it (Qal Tryz.prog 47))
def QvK (B:Lo) (c0:CF) (s:Qaa) (days:Int) (i k:Int) (out ls:List Int) (n w:Nat):Prop:=∃dJ:Nat->Value,(∀t,QaS (dJ t))/\GoE Tryz.prog B c0 H00 1 (Qa4 47 107 (([2,3,6,7,12,13,14]:List Nat).zip (Qgl s days i k out ls n w)) dJ QgC) (Qa3 (QdZ s days i k out ls n w)) (2+(QdZ s days i k out ls n w).length) []
def QjW (s:Qaa) (days:Int) (i k:Int) (out:List Int) (zs:List RW) (n z:Nat):List Value:=[.bool true,pA 2 0,pA 3 0,pA 4 0,.int .i64 i,.slice none 0 0,.int .i64 k]
def Qgd (s:Qaa) (days:Int) (i k:Int) (out:List Int) (zs:List RW) (n z:Nat):List Obj:=[Obj.cells #[Qa0 1 (slT s.stock.length (Qac Qar s.stock)),Qa0 1 (slT s.use.length (Qac Qa6 s.use)),.int .i64 s.glo,.int .i64 s.ghi,Qa0 1 (slT s.lots.length (Qac Qam s.lots)),.int .i64 s.hold] 62,Obj.cells #[.slice none 0 0,.slice none 0 0,.slice none 0 0] 65,.cells #[.slice (some ⟨5,0,none⟩) n 1,.slice none 0 0,.slice (some ⟨6,0,none⟩) z 1] 65 (0,0),.cells (Qac Qar out) 3 (0,0),.cells (Qac (Qa5 1 Qbn) zs) 22 (0,0)]
def Qlp:List Item:=([.code [1,1,1,1,1,1,0,1,0,0,1,0,0,1,0,1,0,0],.inLoop [1,1,1,1,1,1,0,1,0,0,1,0,0,1,0,1,0,0],.inBlock 6,.code [1,1,1,1,1,1,0,1,0,0,1,0,0,1,1],.inBlock 5,.code [1,1,1,1,1,1,0,1,0,0,1,1],.inLoop [1,1,1,1,1,1,0,1,0,0],.inBlock 4,.code [1,1,1,1,1,1,1]]).map (it (Qal Tryz.prog 47))
def QxE (B:Lo) (c0:CF) (s:Qaa) (days:Int) (i k:Int) (out:List Int) (zs:List RW) (n z:Nat):Prop:=∃dJ:Nat->Value,(∀t,QaS (dJ t))/\GoE Tryz.prog B c0 H00 1 (Qa4 47 107 (([2,3,6,7,12,13,14]:List Nat).zip (QjW s days i k out zs n z)) dJ Qlp) (Qa3 (Qgd s days i k out zs n z)) (2+(Qgd s days i k out zs n z).length) []
def QgE (s:Qaa) (days:Int) (i k:Int) (out ls:List Int) (zs:List RW) (n z w:Nat):List Value:=[.bool true,pA 2 0,pA 3 0,pA 4 0,.int .i64 i,.slice (some ⟨7,0,none⟩) w 1,.int .i64 k]
def Qeb (s:Qaa) (days:Int) (i k:Int) (out ls:List Int) (zs:List RW) (n z w:Nat):List Obj:=[Obj.cells #[Qa0 1 (slT s.stock.length (Qac Qar s.stock)),Qa0 1 (slT s.use.length (Qac Qa6 s.use)),.int .i64 s.glo,.int .i64 s.ghi,Qa0 1 (slT s.lots.length (Qac Qam s.lots)),.int .i64 s.hold] 62,Obj.cells #[.slice none 0 0,.slice none 0 0,.slice none 0 0] 65,.cells #[.slice (some ⟨5,0,none⟩) n 1,.slice none 0 0,.slice (some ⟨6,0,none⟩) z 1] 65 (0,0),.cells (Qac Qar out) 3 (0,0),.cells (Qac (Qa5 1 Qbn) zs) 22 (0,0),.cells (Qac Qar ls) 3 (0,0)]
def Qg3:List Item:=([.code [1,1,1,1,1,1,0,1,0,0,1,0,0,1,0,1,0,0],.inLoop [1,1,1,1,1,1,0,1,0,0,1,0,0,1,0,1,0,0],.inBlock 6,.code [1,1,1,1,1,1,0,1,0,0,1,0,0,1,1],.inBlock 5,.code [1,1,1,1,1,1,0,1,0,0,1,1],.inLoop [1,1,1,1,1,1,0,1,0,0],.inBlock 4,.code [1,1,1,1,1,1,1]]).map (it (Qal Tryz.prog 47))
def Qvl (B:Lo) (c0:CF) (s:Qaa) (days:Int) (i k:Int) (out ls:List Int) (zs:List RW) (n z w:Nat):Prop:=∃dJ:Nat->Value,(∀t,QaS (dJ t))/\GoE Tryz.prog B c0 H00 1 (Qa4 47 107 (([2,3,6,7,12,13,14]:List Nat).zip (QgE s days i k out ls zs n z w)) dJ Qg3) (Qa3 (Qeb s days i k out ls zs n z w)) (2+(Qeb s days i k out ls zs n z w).length) []
theorem QzH (B:Lo) (s:Qaa) (days:Int) (i:Int) (dJ0:Nat->Value):landM (Qak Tryz.prog (Qa1 Tryz.prog) J0 B 18 1 (Qa4 47 107 (([1,2,3,6,7,8]:List Nat).zip (Qne s days i)) dJ0 Qna) (Qa3 (Qh5 s days i)) (2+(Qh5 s days i).length)
 [(4,hvT),(8,Qaj.tidx i.toNat #[.int .i64 (Span.lo (s.use.getD i.toNat default)),.int .i64 (Span.hi (s.use.getD i.toNat default))]),(16,Qaj.tidx i.toNat #[.int .i64 (Span.lo (s.use.getD i.toNat default)),.int .i64 (Span.hi (s.use.getD i.toNat default))]),(28,hvI (i+1))] 0 [] []) [1,2,3,6,7,8] [(2,KS.auto),(3,KS.auto),(4,KS.auto),(6,KS.cells [] (Qac Qar [Span.hi (s.use.getD i.toNat default)]))] []=some ⟨47,107,Qh6,[],.run,none,Qib s days (i+1) ([Span.hi (s.use.getD i.toNat default)]) (1),QeP s days (i+1) ([Span.hi (s.use.getD i.toNat default)]) (1),
 [QaQ 1 [] (#[.int .i64 (Span.hi (s.use.getD i.toNat default))]) (Qac Qar [Span.hi (s.use.getD i.toNat default)]),wq (i+1)=i+1,i=(↑i.toNat:Int)/\Int.toNat i < List.length s.use/\Array.extract (Qac Qa6 s.use) (Int.toNat i * TypeInfo.size Tryz.t25) (Int.toNat i * TypeInfo.size Tryz.t25+TypeInfo.size Tryz.t25)=#[.int .i64 (Span.lo (s.use.getD i.toNat default)),.int .i64 (Span.hi (s.use.getD i.toNat default))],i=(↑i.toNat:Int)/\Int.toNat i < List.length s.use/\Array.extract (Qac Qa6 s.use) (Int.toNat i * TypeInfo.size Tryz.t25) (Int.toNat i * TypeInfo.size Tryz.t25+TypeInfo.size Tryz.t25)=#[.int .i64 (Span.lo (s.use.getD i.toNat default)),.int .i64 (Span.hi (s.use.getD i.toNat default))],ltq i (↑s.use.length:Int)=true]⟩:=by kernel_rfl
theorem Q0b (B:Lo) (s:Qaa) (days:Int) (i:Int) (out:List Int) (n:Nat) (dJ0:Nat->Value):landM (Qak Tryz.prog (Qa1 Tryz.prog) J0 B 18 1 (Qa4 47 107 (([1,2,3,6,7,8]:List Nat).zip (Qib s days i out n)) dJ0 Qh6) (Qa3 (QeP s days i out n)) (2+(QeP s days i out n).length)
 [(4,hvT),(8,Qaj.tidx i.toNat #[.int .i64 (Span.lo (s.use.getD i.toNat default)),.int .i64 (Span.hi (s.use.getD i.toNat default))]),(16,Qaj.tidx i.toNat #[.int .i64 (Span.lo (s.use.getD i.toNat default)),.int .i64 (Span.hi (s.use.getD i.toNat default))]),(24,Qaj.old (Hint.app (Qac Qar (out++[Span.hi (s.use.getD i.toNat default)])))),(28,hvI (i+1))] 0 [] []) [1,2,3,6,7,8] [(2,KS.auto),(3,KS.auto),(4,KS.auto),(7,KS.cells [] (Qac Qar (out++[Span.hi (s.use.getD i.toNat default)])))] []=some ⟨47,107,Qh6,[],.run,none,Qib s days (i+1) (out++[Span.hi (s.use.getD i.toNat default)]) (n+1),QeP s days (i+1) (out++[Span.hi (s.use.getD i.toNat default)]) (n+1),
 [QaQ 1 [] (Qac Qar (out++[Span.hi (s.use.getD i.toNat default)])) (Qac Qar (out++[Span.hi (s.use.getD i.toNat default)])),wq (i+1)=i+1,Array.size (Qac Qar out)=n * (0+1)/\n+1<=maxLen/\(n+1) * 8<=140737488355328/\Qac Qar out++#[.int .i64 (Span.hi (s.use.getD i.toNat default))]=Qac Qar (out++[Span.hi (s.use.getD i.toNat default)]),i=(↑i.toNat:Int)/\Int.toNat i < List.length s.use/\Array.extract (Qac Qa6 s.use) (Int.toNat i * TypeInfo.size Tryz.t25) (Int.toNat i * TypeInfo.size Tryz.t25+TypeInfo.size Tryz.t25)=#[.int .i64 (Span.lo (s.use.getD i.toNat default)),.int .i64 (Span.hi (s.use.getD i.toNat default))],i=(↑i.toNat:Int)/\Int.toNat i < List.length s.use/\Array.extract (Qac Qa6 s.use) (Int.toNat i * TypeInfo.size Tryz.t25) (Int.toNat i * TypeInfo.size Tryz.t25+TypeInfo.size Tryz.t25)=#[.int .i64 (Span.lo (s.use.getD i.toNat default)),.int .i64 (Span.hi (s.use.getD i.toNat default))],ltq i (↑s.use.length:Int)=true]⟩:=by kernel_rfl
theorem Q0k (B:Lo) (s:Qaa) (days:Int) (i:Int) (out:List Int) (n:Nat) (dJ0:Nat->Value):landM (Qak Tryz.prog (Qa1 Tryz.prog) J0 B 17 1 (Qa4 47 107 (([1,2,3,6,7,8]:List Nat).zip (Qib s days i out n)) dJ0 Qh6) (Qa3 (QeP s days i out n)) (2+(QeP s days i out n).length)
 [(4,hvF)] 0 [] []) [1,2,3,6,7,10,11] [(2,KS.auto),(3,KS.auto),(4,KS.auto),(5,KS.cells [] (Qac Qar out))] []=some ⟨47,107,QjK,[],.run,none,QjN s days (0) (out) (n),QfA s days (0) (out) (n),
 [QaQ 1 [] (Qac Qar out) (Qac Qar out),ltq i (↑s.use.length:Int)=false]⟩:=by kernel_rfl
theorem Q0t (B:Lo) (s:Qaa) (days:Int) (a:Int) (out:List Int) (n:Nat) (dJ0:Nat->Value):landM (Qak Tryz.prog (Qa1 Tryz.prog) J0 B 11 1 (Qa4 47 107 (([1,2,3,6,7,10,11]:List Nat).zip (QjN s days a out n)) dJ0 QjK) (Qa3 (QfA s days a out n)) (2+(QfA s days a out n).length)
 [(2,hvT),(12,hvI (a+s.ghi))] 0 [] []) [1,2,3,6,7,10,11] [(2,KS.auto),(3,KS.auto),(4,KS.auto),(5,KS.cells [] (Qac Qar out)),(7,KS.cells [] (Qac Qar [s.ghi]))] []=some ⟨47,107,Qh7,[],.run,none,Qia s days (a+s.ghi) (out) ([s.ghi]) (n) (1),QeQ s days (a+s.ghi) (out) ([s.ghi]) (n) (1),
 [QaQ 1 [] (Qac Qar out) (Qac Qar out),QaQ 1 [] (#[.int .i64 s.ghi]) (Qac Qar [s.ghi]),wq (a+s.ghi)=a+s.ghi,ltq a days=true]⟩:=by kernel_rfl
theorem QzM (B:Lo) (s:Qaa) (days:Int) (a:Int) (out:List Int) (n:Nat) (dJ0:Nat->Value):landM (Qak Tryz.prog (Qa1 Tryz.prog) J0 B 10 1 (Qa4 47 107 (([1,2,3,6,7,10,11]:List Nat).zip (QjN s days a out n)) dJ0 QjK) (Qa3 (QfA s days a out n)) (2+(QfA s days a out n).length)
 [(2,hvF)] 0 [] []) [2,3,6,7,12] [(2,KS.auto),(3,KS.auto),(4,KS.auto),(5,KS.cells [] (Qac Qar out))] []=some ⟨47,107,QjO,[],.run,none,QjP s days (0) (out) (n),Qf3 s days (0) (out) (n),
 [QaQ 1 [] (Qac Qar out) (Qac Qar out),ltq a days=false]⟩:=by kernel_rfl
theorem Qz8 (B:Lo) (s:Qaa) (days:Int) (a:Int) (out gs:List Int) (n gl:Nat) (dJ0:Nat->Value):landM (Qak Tryz.prog (Qa1 Tryz.prog) J0 B 11 1 (Qa4 47 107 (([1,2,3,6,7,10,11]:List Nat).zip (Qia s days a out gs n gl)) dJ0 Qh7) (Qa3 (QeQ s days a out gs n gl)) (2+(QeQ s days a out gs n gl).length)
 [(2,hvT),(7,Qaj.old (Hint.app (Qac Qar (gs++[s.ghi])))),(12,hvI (a+s.ghi))] 0 [] []) [1,2,3,6,7,10,11] [(2,KS.auto),(3,KS.auto),(4,KS.auto),(5,KS.cells [] (Qac Qar out)),(8,KS.cells [] (Qac Qar (gs++[s.ghi])))] []=some ⟨47,107,Qh7,[],.run,none,Qia s days (a+s.ghi) (out) (gs++[s.ghi]) (n) (gl+1),QeQ s days (a+s.ghi) (out) (gs++[s.ghi]) (n) (gl+1),
 [QaQ 1 [] (Qac Qar out) (Qac Qar out),QaQ 1 [] (Qac Qar (gs++[s.ghi])) (Qac Qar (gs++[s.ghi])),wq (a+s.ghi)=a+s.ghi,Array.size (Qac Qar gs)=gl * (0+1)/\gl+1<=maxLen/\(gl+1) * 8<=140737488355328/\Qac Qar gs++#[.int .i64 s.ghi]=Qac Qar (gs++[s.ghi]),ltq a days=true]⟩:=by kernel_rfl
theorem Q0r (B:Lo) (s:Qaa) (days:Int) (a:Int) (out gs:List Int) (n gl:Nat) (dJ0:Nat->Value):landM (Qak Tryz.prog (Qa1 Tryz.prog) J0 B 10 1 (Qa4 47 107 (([1,2,3,6,7,10,11]:List Nat).zip (Qia s days a out gs n gl)) dJ0 Qh7) (Qa3 (QeQ s days a out gs n gl)) (2+(QeQ s days a out gs n gl).length)
 [(2,hvF)] 0 [] []) [2,3,6,7,12] [(2,KS.auto),(3,KS.auto),(4,KS.auto),(5,KS.cells [] (Qac Qar out)),(6,KS.cells [] (Qac Qar gs))] []=some ⟨47,107,QjQ,[],.run,none,QjI s days (0) (out) (gs) (n) (gl),QfE s days (0) (out) (gs) (n) (gl),
 [QaQ 1 [] (Qac Qar out) (Qac Qar out),QaQ 1 [] (Qac Qar gs) (Qac Qar gs),ltq a days=false]⟩:=by kernel_rfl
theorem QyN (B:Lo) (s:Qaa) (days:Int) (i:Int) (out gs:List Int) (n gl:Nat) (dJ0:Nat->Value):landM (Qak Tryz.prog (Qa1 Tryz.prog) J0 B 14 1 (Qa4 47 107 (([2,3,6,7,12]:List Nat).zip (QjI s days i out gs n gl)) dJ0 QjQ) (Qa3 (QfE s days i out gs n gl)) (2+(QfE s days i out gs n gl).length)
 [(4,hvT)] 0 [] []) [2,3,6,7,12,13,14] [(2,KS.auto),(3,KS.auto),(4,KS.auto),(5,KS.cells [] (Qac Qar out)),(6,KS.cells [] (Qac Qar gs))] []=some ⟨47,107,Qnj,[],.run,none,Qnh s days (i) (0) (out) (gs) (n) (gl),QhD s days (i) (0) (out) (gs) (n) (gl),
 [QaQ 1 [] (Qac Qar out) (Qac Qar out),QaQ 1 [] (Qac Qar gs) (Qac Qar gs),ltq i (↑s.lots.length:Int)=true]⟩:=by kernel_rfl
theorem QzL (B:Lo) (s:Qaa) (days:Int) (i:Int) (out gs:List Int) (n gl:Nat) (dJ0:Nat->Value):Qbb (Qak Tryz.prog (Qa1 Tryz.prog) J0 B 9 1 (Qa4 47 107 (([2,3,6,7,12]:List Nat).zip (QjI s days i out gs n gl)) dJ0 QjQ) (Qa3 (QfE s days i out gs n gl)) (2+(QfE s days i out gs n gl).length)
 [(4,hvF)] 0 [] []) [{k:=5,rs:=[],cs:=Qac Qar out},{k:=6,rs:=[],cs:=Qac Qar gs}]=some (.agg #[slT n (Fz.cs {k:=5,rs:=[],cs:=Qac Qar out}),slT gl (Fz.cs {k:=6,rs:=[],cs:=Qac Qar gs}),slT 0 #[]],
 [Qb8 (Fz.rs {k:=5,rs:=[],cs:=Qac Qar out}) (Qac Qar out) (Fz.cs {k:=5,rs:=[],cs:=Qac Qar out}),Qb8 (Fz.rs {k:=6,rs:=[],cs:=Qac Qar gs}) (Qac Qar gs) (Fz.cs {k:=6,rs:=[],cs:=Qac Qar gs}),ltq i (↑s.lots.length:Int)=false]):=by kernel_rfl
theorem Qz6 (B:Lo) (s:Qaa) (days:Int) (i:Int) (out gs:List Int) (zs:List RW) (n gl z:Nat) (dJ0:Nat->Value):landM (Qak Tryz.prog (Qa1 Tryz.prog) J0 B 14 1 (Qa4 47 107 (([2,3,6,7,12]:List Nat).zip (Qio s days i out gs zs n gl z)) dJ0 Qih) (Qa3 (QeT s days i out gs zs n gl z)) (2+(QeT s days i out gs zs n gl z).length)
 [(4,hvT)] 0 [] []) [2,3,6,7,12,13,14] [(2,KS.auto),(3,KS.auto),(4,KS.auto),(5,KS.cells [] (Qac Qar out)),(6,KS.cells [] (Qac Qar gs)),(7,KS.rows [(1,1)] [] (Qac (Qa5 1 Qbn) zs))] []=some ⟨47,107,QkF,[],.run,none,Qlf s days (i) (0) (out) (gs) (zs) (n) (gl) (z),Qg5 s days (i) (0) (out) (gs) (zs) (n) (gl) (z),
 [QaQ 1 [] (Qac Qar out) (Qac Qar out),QaQ 1 [] (Qac Qar gs) (Qac Qar gs),QaY 1 [(1,1)] [] (Qac (Qa5 1 Qbn) zs) (Qac (Qa5 1 Qbn) zs),ltq i (↑s.lots.length:Int)=true]⟩:=by kernel_rfl
theorem QwA (B:Lo) (s:Qaa) (days:Int) (i:Int) (out gs:List Int) (zs:List RW) (n gl z:Nat) (dJ0:Nat->Value):Qbb (Qak Tryz.prog (Qa1 Tryz.prog) J0 B 9 1 (Qa4 47 107 (([2,3,6,7,12]:List Nat).zip (Qio s days i out gs zs n gl z)) dJ0 Qih) (Qa3 (QeT s days i out gs zs n gl z)) (2+(QeT s days i out gs zs n gl z).length)
 [(4,hvF)] 0 [] []) [{k:=5,rs:=[],cs:=Qac Qar out},{k:=6,rs:=[],cs:=Qac Qar gs},{k:=7,rs:=[1],cs:=Qac Qbn zs}]=some (.agg #[slT n (Fz.cs {k:=5,rs:=[],cs:=Qac Qar out}),slT gl (Fz.cs {k:=6,rs:=[],cs:=Qac Qar gs}),slT z (Fz.cs {k:=7,rs:=[1],cs:=Qac Qbn zs})],
 [Qb8 (Fz.rs {k:=5,rs:=[],cs:=Qac Qar out}) (Qac Qar out) (Fz.cs {k:=5,rs:=[],cs:=Qac Qar out}),Qb8 (Fz.rs {k:=6,rs:=[],cs:=Qac Qar gs}) (Qac Qar gs) (Fz.cs {k:=6,rs:=[],cs:=Qac Qar gs}),Qb8 (Fz.rs {k:=7,rs:=[1],cs:=Qac Qbn zs}) (Qac (Qa5 1 Qbn) zs) (Fz.cs {k:=7,rs:=[1],cs:=Qac Qbn zs}),ltq i (↑s.lots.length:Int)=false]):=by kernel_rfl
theorem QuR (B:Lo) (s:Qaa) (days:Int) (i:Int) (out:List Int) (n:Nat) (dJ0:Nat->Value):landM (Qak Tryz.prog (Qa1 Tryz.prog) J0 B 14 1 (Qa4 47 107 (([2,3,6,7,12]:List Nat).zip (QjP s days i out n)) dJ0 QjO) (Qa3 (Qf3 s days i out n)) (2+(Qf3 s days i out n).length)
 [(4,hvT)] 0 [] []) [2,3,6,7,12,13,14] [(2,KS.auto),(3,KS.auto),(4,KS.auto),(5,KS.cells [] (Qac Qar out))] []=some ⟨47,107,QkP,[],.run,none,Qk1 s days (i) (0) (out) (n),Qgp s days (i) (0) (out) (n),
 [QaQ 1 [] (Qac Qar out) (Qac Qar out),ltq i (↑s.lots.length:Int)=true]⟩:=by kernel_rfl
theorem Qw1 (B:Lo) (s:Qaa) (days:Int) (i:Int) (out:List Int) (n:Nat) (dJ0:Nat->Value):Qbb (Qak Tryz.prog (Qa1 Tryz.prog) J0 B 9 1 (Qa4 47 107 (([2,3,6,7,12]:List Nat).zip (QjP s days i out n)) dJ0 QjO) (Qa3 (Qf3 s days i out n)) (2+(Qf3 s days i out n).length)
 [(4,hvF)] 0 [] []) [{k:=5,rs:=[],cs:=Qac Qar out}]=some (.agg #[slT n (Fz.cs {k:=5,rs:=[],cs:=Qac Qar out}),slT 0 #[],slT 0 #[]],
 [Qb8 (Fz.rs {k:=5,rs:=[],cs:=Qac Qar out}) (Qac Qar out) (Fz.cs {k:=5,rs:=[],cs:=Qac Qar out}),ltq i (↑s.lots.length:Int)=false]):=by kernel_rfl
theorem QwF (B:Lo) (s:Qaa) (days:Int) (i:Int) (out:List Int) (zs:List RW) (n z:Nat) (dJ0:Nat->Value):landM (Qak Tryz.prog (Qa1 Tryz.prog) J0 B 14 1 (Qa4 47 107 (([2,3,6,7,12]:List Nat).zip (QhY s days i out zs n z)) dJ0 QhR) (Qa3 (QeK s days i out zs n z)) (2+(QeK s days i out zs n z).length)
 [(4,hvT)] 0 [] []) [2,3,6,7,12,13,14] [(2,KS.auto),(3,KS.auto),(4,KS.auto),(5,KS.cells [] (Qac Qar out)),(6,KS.rows [(1,1)] [] (Qac (Qa5 1 Qbn) zs))] []=some ⟨47,107,Qlp,[],.run,none,QjW s days (i) (0) (out) (zs) (n) (z),Qgd s days (i) (0) (out) (zs) (n) (z),
 [QaQ 1 [] (Qac Qar out) (Qac Qar out),QaY 1 [(1,1)] [] (Qac (Qa5 1 Qbn) zs) (Qac (Qa5 1 Qbn) zs),ltq i (↑s.lots.length:Int)=true]⟩:=by kernel_rfl
theorem QvM (B:Lo) (s:Qaa) (days:Int) (i:Int) (out:List Int) (zs:List RW) (n z:Nat) (dJ0:Nat->Value):Qbb (Qak Tryz.prog (Qa1 Tryz.prog) J0 B 9 1 (Qa4 47 107 (([2,3,6,7,12]:List Nat).zip (QhY s days i out zs n z)) dJ0 QhR) (Qa3 (QeK s days i out zs n z)) (2+(QeK s days i out zs n z).length)
 [(4,hvF)] 0 [] []) [{k:=5,rs:=[],cs:=Qac Qar out},{k:=6,rs:=[1],cs:=Qac Qbn zs}]=some (.agg #[slT n (Fz.cs {k:=5,rs:=[],cs:=Qac Qar out}),slT 0 #[],slT z (Fz.cs {k:=6,rs:=[1],cs:=Qac Qbn zs})],
 [Qb8 (Fz.rs {k:=5,rs:=[],cs:=Qac Qar out}) (Qac Qar out) (Fz.cs {k:=5,rs:=[],cs:=Qac Qar out}),Qb8 (Fz.rs {k:=6,rs:=[1],cs:=Qac Qbn zs}) (Qac (Qa5 1 Qbn) zs) (Fz.cs {k:=6,rs:=[1],cs:=Qac Qbn zs}),ltq i (↑s.lots.length:Int)=false]):=by kernel_rfl
theorem QuU (B:Lo) (s:Qaa) (days:Int) (i k:Int) (out gs:List Int) (n gl:Nat) (dJ0:Nat->Value):landM (Qak Tryz.prog (Qa1 Tryz.prog) J0 B 18 1 (Qa4 47 107 (([2,3,6,7,12,13,14]:List Nat).zip (Qnh s days i k out gs n gl)) dJ0 Qnj) (Qa3 (QhD s days i k out gs n gl)) (2+(QhD s days i k out gs n gl).length)
 [(4,hvT),(8,Qaj.tidx i.toNat #[slT (List.length (Qad.goods (s.lots.getD i.toNat default))) (Qac Qa6 (Qad.goods (s.lots.getD i.toNat default))),.int .i64 (Qad.weight (s.lots.getD i.toNat default)),.int .i64 (Qad.cost (s.lots.getD i.toNat default))]),(12,Qaj.tidx k.toNat #[.int .i64 (Span.lo (List.getD (Qad.goods (s.lots.getD i.toNat default)) k.toNat default)),.int .i64 (Span.hi (List.getD (Qad.goods (s.lots.getD i.toNat default)) k.toNat default))]),(20,Qaj.tidx i.toNat #[slT (List.length (Qad.goods (s.lots.getD i.toNat default))) (Qac Qa6 (Qad.goods (s.lots.getD i.toNat default))),.int .i64 (Qad.weight (s.lots.getD i.toNat default)),.int .i64 (Qad.cost (s.lots.getD i.toNat default))]),(24,Qaj.tidx k.toNat #[.int .i64 (Span.lo (List.getD (Qad.goods (s.lots.getD i.toNat default)) k.toNat default)),.int .i64 (Span.hi (List.getD (Qad.goods (s.lots.getD i.toNat default)) k.toNat default))]),(34,hvI (k+1))] 0 [] []) [2,3,6,7,12,13,14] [(2,KS.auto),(3,KS.auto),(4,KS.auto),(5,KS.cells [] (Qac Qar out)),(6,KS.cells [] (Qac Qar gs)),(8,KS.cells [] (Qac Qar [Span.lo (List.getD (Qad.goods (s.lots.getD i.toNat default)) k.toNat default)]))] []=some ⟨47,107,Qik,[],.run,none,QhE s days (i) (k+1) (out) (gs) ([Span.lo (List.getD (Qad.goods (s.lots.getD i.toNat default)) k.toNat default)]) (n) (gl) (1),QeJ s days (i) (k+1) (out) (gs) ([Span.lo (List.getD (Qad.goods (s.lots.getD i.toNat default)) k.toNat default)]) (n) (gl) (1),
 [QaQ 1 [] (Qac Qar out) (Qac Qar out),QaQ 1 [] (Qac Qar gs) (Qac Qar gs),QaQ 1 [] (#[.int .i64 (Span.lo (List.getD (Qad.goods (s.lots.getD i.toNat default)) k.toNat default))]) (Qac Qar [Span.lo (List.getD (Qad.goods (s.lots.getD i.toNat default)) k.toNat default)]),wq (k+1)=k+1,k=(↑k.toNat:Int)/\Int.toNat k < List.length (Qad.goods (s.lots.getD i.toNat default))/\Array.extract (Qac Qa6 (Qad.goods (s.lots.getD i.toNat default))) (Int.toNat k * TypeInfo.size Tryz.t25) (Int.toNat k * TypeInfo.size Tryz.t25+TypeInfo.size Tryz.t25)=#[.int .i64 (Span.lo (List.getD (Qad.goods (s.lots.getD i.toNat default)) k.toNat default)),.int .i64 (Span.hi (List.getD (Qad.goods (s.lots.getD i.toNat default)) k.toNat default))],i=(↑i.toNat:Int)/\Int.toNat i < List.length s.lots/\Array.extract (Qac Qam s.lots) (Int.toNat i * TypeInfo.size Tryz.t118) (Int.toNat i * TypeInfo.size Tryz.t118+TypeInfo.size Tryz.t118)=#[slT (List.length (Qad.goods (s.lots.getD i.toNat default))) (Qac Qa6 (Qad.goods (s.lots.getD i.toNat default))),.int .i64 (Qad.weight (s.lots.getD i.toNat default)),.int .i64 (Qad.cost (s.lots.getD i.toNat default))],k=(↑k.toNat:Int)/\Int.toNat k < List.length (Qad.goods (s.lots.getD i.toNat default))/\Array.extract (Qac Qa6 (Qad.goods (s.lots.getD i.toNat default))) (Int.toNat k * TypeInfo.size Tryz.t25) (Int.toNat k * TypeInfo.size Tryz.t25+TypeInfo.size Tryz.t25)=#[.int .i64 (Span.lo (List.getD (Qad.goods (s.lots.getD i.toNat default)) k.toNat default)),.int .i64 (Span.hi (List.getD (Qad.goods (s.lots.getD i.toNat default)) k.toNat default))],i=(↑i.toNat:Int)/\Int.toNat i < List.length s.lots/\Array.extract (Qac Qam s.lots) (Int.toNat i * TypeInfo.size Tryz.t118) (Int.toNat i * TypeInfo.size Tryz.t118+TypeInfo.size Tryz.t118)=#[slT (List.length (Qad.goods (s.lots.getD i.toNat default))) (Qac Qa6 (Qad.goods (s.lots.getD i.toNat default))),.int .i64 (Qad.weight (s.lots.getD i.toNat default)),.int .i64 (Qad.cost (s.lots.getD i.toNat default))],ltq k (↑s.stock.length:Int)=true]⟩:=by kernel_rfl
theorem QxN (B:Lo) (s:Qaa) (days:Int) (i k:Int) (out gs ls:List Int) (n gl w:Nat) (dJ0:Nat->Value):landM (Qak Tryz.prog (Qa1 Tryz.prog) J0 B 18 1 (Qa4 47 107 (([2,3,6,7,12,13,14]:List Nat).zip (QhE s days i k out gs ls n gl w)) dJ0 Qik) (Qa3 (QeJ s days i k out gs ls n gl w)) (2+(QeJ s days i k out gs ls n gl w).length)
 [(4,hvT),(8,Qaj.tidx i.toNat #[slT (List.length (Qad.goods (s.lots.getD i.toNat default))) (Qac Qa6 (Qad.goods (s.lots.getD i.toNat default))),.int .i64 (Qad.weight (s.lots.getD i.toNat default)),.int .i64 (Qad.cost (s.lots.getD i.toNat default))]),(12,Qaj.tidx k.toNat #[.int .i64 (Span.lo (List.getD (Qad.goods (s.lots.getD i.toNat default)) k.toNat default)),.int .i64 (Span.hi (List.getD (Qad.goods (s.lots.getD i.toNat default)) k.toNat default))]),(20,Qaj.tidx i.toNat #[slT (List.length (Qad.goods (s.lots.getD i.toNat default))) (Qac Qa6 (Qad.goods (s.lots.getD i.toNat default))),.int .i64 (Qad.weight (s.lots.getD i.toNat default)),.int .i64 (Qad.cost (s.lots.getD i.toNat default))]),(24,Qaj.tidx k.toNat #[.int .i64 (Span.lo (List.getD (Qad.goods (s.lots.getD i.toNat default)) k.toNat default)),.int .i64 (Span.hi (List.getD (Qad.goods (s.lots.getD i.toNat default)) k.toNat default))]),(31,Qaj.old (Hint.app (Qac Qar (ls++[Span.lo (List.getD (Qad.goods (s.lots.getD i.toNat default)) k.toNat default)])))),(34,hvI (k+1))] 0 [] []) [2,3,6,7,12,13,14] [(2,KS.auto),(3,KS.auto),(4,KS.auto),(5,KS.cells [] (Qac Qar out)),(6,KS.cells [] (Qac Qar gs)),(9,KS.cells [] (Qac Qar (ls++[Span.lo (List.getD (Qad.goods (s.lots.getD i.toNat default)) k.toNat default)])))] []=some ⟨47,107,Qik,[],.run,none,QhE s days (i) (k+1) (out) (gs) (ls++[Span.lo (List.getD (Qad.goods (s.lots.getD i.toNat default)) k.toNat default)]) (n) (gl) (w+1),QeJ s days (i) (k+1) (out) (gs) (ls++[Span.lo (List.getD (Qad.goods (s.lots.getD i.toNat default)) k.toNat default)]) (n) (gl) (w+1),
 [QaQ 1 [] (Qac Qar out) (Qac Qar out),QaQ 1 [] (Qac Qar gs) (Qac Qar gs),QaQ 1 [] (Qac Qar (ls++[Span.lo (List.getD (Qad.goods (s.lots.getD i.toNat default)) k.toNat default)])) (Qac Qar (ls++[Span.lo (List.getD (Qad.goods (s.lots.getD i.toNat default)) k.toNat default)])),wq (k+1)=k+1,Array.size (Qac Qar ls)=w * (0+1)/\w+1<=maxLen/\(w+1) * 8<=140737488355328/\Qac Qar ls++#[.int .i64 (Span.lo (List.getD (Qad.goods (s.lots.getD i.toNat default)) k.toNat default))]=Qac Qar (ls++[Span.lo (List.getD (Qad.goods (s.lots.getD i.toNat default)) k.toNat default)]),k=(↑k.toNat:Int)/\Int.toNat k < List.length (Qad.goods (s.lots.getD i.toNat default))/\Array.extract (Qac Qa6 (Qad.goods (s.lots.getD i.toNat default))) (Int.toNat k * TypeInfo.size Tryz.t25) (Int.toNat k * TypeInfo.size Tryz.t25+TypeInfo.size Tryz.t25)=#[.int .i64 (Span.lo (List.getD (Qad.goods (s.lots.getD i.toNat default)) k.toNat default)),.int .i64 (Span.hi (List.getD (Qad.goods (s.lots.getD i.toNat default)) k.toNat default))],i=(↑i.toNat:Int)/\Int.toNat i < List.length s.lots/\Array.extract (Qac Qam s.lots) (Int.toNat i * TypeInfo.size Tryz.t118) (Int.toNat i * TypeInfo.size Tryz.t118+TypeInfo.size Tryz.t118)=#[slT (List.length (Qad.goods (s.lots.getD i.toNat default))) (Qac Qa6 (Qad.goods (s.lots.getD i.toNat default))),.int .i64 (Qad.weight (s.lots.getD i.toNat default)),.int .i64 (Qad.cost (s.lots.getD i.toNat default))],k=(↑k.toNat:Int)/\Int.toNat k < List.length (Qad.goods (s.lots.getD i.toNat default))/\Array.extract (Qac Qa6 (Qad.goods (s.lots.getD i.toNat default))) (Int.toNat k * TypeInfo.size Tryz.t25) (Int.toNat k * TypeInfo.size Tryz.t25+TypeInfo.size Tryz.t25)=#[.int .i64 (Span.lo (List.getD (Qad.goods (s.lots.getD i.toNat default)) k.toNat default)),.int .i64 (Span.hi (List.getD (Qad.goods (s.lots.getD i.toNat default)) k.toNat default))],i=(↑i.toNat:Int)/\Int.toNat i < List.length s.lots/\Array.extract (Qac Qam s.lots) (Int.toNat i * TypeInfo.size Tryz.t118) (Int.toNat i * TypeInfo.size Tryz.t118+TypeInfo.size Tryz.t118)=#[slT (List.length (Qad.goods (s.lots.getD i.toNat default))) (Qac Qa6 (Qad.goods (s.lots.getD i.toNat default))),.int .i64 (Qad.weight (s.lots.getD i.toNat default)),.int .i64 (Qad.cost (s.lots.getD i.toNat default))],ltq k (↑s.stock.length:Int)=true]⟩:=by kernel_rfl
theorem QxU (B:Lo) (s:Qaa) (days:Int) (i k:Int) (out gs ls:List Int) (n gl w:Nat) (dJ0:Nat->Value):landM (Qak Tryz.prog (Qa1 Tryz.prog) J0 B 9 1 (Qa4 47 107 (([2,3,6,7,12,13,14]:List Nat).zip (QhE s days i k out gs ls n gl w)) dJ0 Qik) (Qa3 (QeJ s days i k out gs ls n gl w)) (2+(QeJ s days i k out gs ls n gl w).length)
 [(4,hvF),(13,hvI (i+1))] 0 [] []) [2,3,6,7,12] [(2,KS.auto),(3,KS.auto),(4,KS.auto),(5,KS.cells [] (Qac Qar out)),(6,KS.cells [] (Qac Qar gs)),(9,KS.rows [] [7] (Qac (Qa5 1 Qbn) [{n:=w,xs:=ls}]))] [{k:=7,rs:=[],cs:=Qac Qar ls}]=some ⟨47,107,Qih,[],.run,none,Qio s days (i+1) (out) (gs) ([{n:=w,xs:=ls}]) (n) (gl) (1),QeT s days (i+1) (out) (gs) ([{n:=w,xs:=ls}]) (n) (gl) (1),
 [QaQ 1 [] (Qac Qar out) (Qac Qar out),QaQ 1 [] (Qac Qar gs) (Qac Qar gs),QaY 1 [] [(7,Fz.cs {k:=7,rs:=[],cs:=Qac Qar ls})] #[.slice (some {block:=7,off:=0}) w 1] (Qac (Qa5 1 Qbn) [{n:=w,xs:=ls}]),Qb8 (Fz.rs {k:=7,rs:=[],cs:=Qac Qar ls}) (Qac Qar ls) (Fz.cs {k:=7,rs:=[],cs:=Qac Qar ls}),wq (i+1)=i+1,ltq k (↑s.stock.length:Int)=false]⟩:=by kernel_rfl
theorem QvE (B:Lo) (s:Qaa) (days:Int) (i k:Int) (out gs:List Int) (zs:List RW) (n gl z:Nat) (dJ0:Nat->Value):landM (Qak Tryz.prog (Qa1 Tryz.prog) J0 B 18 1 (Qa4 47 107 (([2,3,6,7,12,13,14]:List Nat).zip (Qlf s days i k out gs zs n gl z)) dJ0 QkF) (Qa3 (Qg5 s days i k out gs zs n gl z)) (2+(Qg5 s days i k out gs zs n gl z).length)
 [(4,hvT),(8,Qaj.tidx i.toNat #[slT (List.length (Qad.goods (s.lots.getD i.toNat default))) (Qac Qa6 (Qad.goods (s.lots.getD i.toNat default))),.int .i64 (Qad.weight (s.lots.getD i.toNat default)),.int .i64 (Qad.cost (s.lots.getD i.toNat default))]),(12,Qaj.tidx k.toNat #[.int .i64 (Span.lo (List.getD (Qad.goods (s.lots.getD i.toNat default)) k.toNat default)),.int .i64 (Span.hi (List.getD (Qad.goods (s.lots.getD i.toNat default)) k.toNat default))]),(20,Qaj.tidx i.toNat #[slT (List.length (Qad.goods (s.lots.getD i.toNat default))) (Qac Qa6 (Qad.goods (s.lots.getD i.toNat default))),.int .i64 (Qad.weight (s.lots.getD i.toNat default)),.int .i64 (Qad.cost (s.lots.getD i.toNat default))]),(24,Qaj.tidx k.toNat #[.int .i64 (Span.lo (List.getD (Qad.goods (s.lots.getD i.toNat default)) k.toNat default)),.int .i64 (Span.hi (List.getD (Qad.goods (s.lots.getD i.toNat default)) k.toNat default))]),(34,hvI (k+1))] 0 [] []) [2,3,6,7,12,13,14] [(2,KS.auto),(3,KS.auto),(4,KS.auto),(5,KS.cells [] (Qac Qar out)),(6,KS.cells [] (Qac Qar gs)),(7,KS.rows [(1,1)] [] (Qac (Qa5 1 Qbn) zs)),(9,KS.cells [] (Qac Qar [Span.lo (List.getD (Qad.goods (s.lots.getD i.toNat default)) k.toNat default)]))] []=some ⟨47,107,Qgy,[],.run,none,Qgr s days (i) (k+1) (out) (gs) ([Span.lo (List.getD (Qad.goods (s.lots.getD i.toNat default)) k.toNat default)]) (zs) (n) (gl) (z) (1),Qed s days (i) (k+1) (out) (gs) ([Span.lo (List.getD (Qad.goods (s.lots.getD i.toNat default)) k.toNat default)]) (zs) (n) (gl) (z) (1),
 [QaQ 1 [] (Qac Qar out) (Qac Qar out),QaQ 1 [] (Qac Qar gs) (Qac Qar gs),QaY 1 [(1,1)] [] (Qac (Qa5 1 Qbn) zs) (Qac (Qa5 1 Qbn) zs),QaQ 1 [] (#[.int .i64 (Span.lo (List.getD (Qad.goods (s.lots.getD i.toNat default)) k.toNat default))]) (Qac Qar [Span.lo (List.getD (Qad.goods (s.lots.getD i.toNat default)) k.toNat default)]),wq (k+1)=k+1,k=(↑k.toNat:Int)/\Int.toNat k < List.length (Qad.goods (s.lots.getD i.toNat default))/\Array.extract (Qac Qa6 (Qad.goods (s.lots.getD i.toNat default))) (Int.toNat k * TypeInfo.size Tryz.t25) (Int.toNat k * TypeInfo.size Tryz.t25+TypeInfo.size Tryz.t25)=#[.int .i64 (Span.lo (List.getD (Qad.goods (s.lots.getD i.toNat default)) k.toNat default)),.int .i64 (Span.hi (List.getD (Qad.goods (s.lots.getD i.toNat default)) k.toNat default))],i=(↑i.toNat:Int)/\Int.toNat i < List.length s.lots/\Array.extract (Qac Qam s.lots) (Int.toNat i * TypeInfo.size Tryz.t118) (Int.toNat i * TypeInfo.size Tryz.t118+TypeInfo.size Tryz.t118)=#[slT (List.length (Qad.goods (s.lots.getD i.toNat default))) (Qac Qa6 (Qad.goods (s.lots.getD i.toNat default))),.int .i64 (Qad.weight (s.lots.getD i.toNat default)),.int .i64 (Qad.cost (s.lots.getD i.toNat default))],k=(↑k.toNat:Int)/\Int.toNat k < List.length (Qad.goods (s.lots.getD i.toNat default))/\Array.extract (Qac Qa6 (Qad.goods (s.lots.getD i.toNat default))) (Int.toNat k * TypeInfo.size Tryz.t25) (Int.toNat k * TypeInfo.size Tryz.t25+TypeInfo.size Tryz.t25)=#[.int .i64 (Span.lo (List.getD (Qad.goods (s.lots.getD i.toNat default)) k.toNat default)),.int .i64 (Span.hi (List.getD (Qad.goods (s.lots.getD i.toNat default)) k.toNat default))],i=(↑i.toNat:Int)/\Int.toNat i < List.length s.lots/\Array.extract (Qac Qam s.lots) (Int.toNat i * TypeInfo.size Tryz.t118) (Int.toNat i * TypeInfo.size Tryz.t118+TypeInfo.size Tryz.t118)=#[slT (List.length (Qad.goods (s.lots.getD i.toNat default))) (Qac Qa6 (Qad.goods (s.lots.getD i.toNat default))),.int .i64 (Qad.weight (s.lots.getD i.toNat default)),.int .i64 (Qad.cost (s.lots.getD i.toNat default))],ltq k (↑s.stock.length:Int)=true]⟩:=by kernel_rfl
theorem QxP (B:Lo) (s:Qaa) (days:Int) (i k:Int) (out gs ls:List Int) (zs:List RW) (n gl z w:Nat) (dJ0:Nat->Value):landM (Qak Tryz.prog (Qa1 Tryz.prog) J0 B 18 1 (Qa4 47 107 (([2,3,6,7,12,13,14]:List Nat).zip (Qgr s days i k out gs ls zs n gl z w)) dJ0 Qgy) (Qa3 (Qed s days i k out gs ls zs n gl z w)) (2+(Qed s days i k out gs ls zs n gl z w).length)
 [(4,hvT),(8,Qaj.tidx i.toNat #[slT (List.length (Qad.goods (s.lots.getD i.toNat default))) (Qac Qa6 (Qad.goods (s.lots.getD i.toNat default))),.int .i64 (Qad.weight (s.lots.getD i.toNat default)),.int .i64 (Qad.cost (s.lots.getD i.toNat default))]),(12,Qaj.tidx k.toNat #[.int .i64 (Span.lo (List.getD (Qad.goods (s.lots.getD i.toNat default)) k.toNat default)),.int .i64 (Span.hi (List.getD (Qad.goods (s.lots.getD i.toNat default)) k.toNat default))]),(20,Qaj.tidx i.toNat #[slT (List.length (Qad.goods (s.lots.getD i.toNat default))) (Qac Qa6 (Qad.goods (s.lots.getD i.toNat default))),.int .i64 (Qad.weight (s.lots.getD i.toNat default)),.int .i64 (Qad.cost (s.lots.getD i.toNat default))]),(24,Qaj.tidx k.toNat #[.int .i64 (Span.lo (List.getD (Qad.goods (s.lots.getD i.toNat default)) k.toNat default)),.int .i64 (Span.hi (List.getD (Qad.goods (s.lots.getD i.toNat default)) k.toNat default))]),(31,Qaj.old (Hint.app (Qac Qar (ls++[Span.lo (List.getD (Qad.goods (s.lots.getD i.toNat default)) k.toNat default)])))),(34,hvI (k+1))] 0 [] []) [2,3,6,7,12,13,14] [(2,KS.auto),(3,KS.auto),(4,KS.auto),(5,KS.cells [] (Qac Qar out)),(6,KS.cells [] (Qac Qar gs)),(7,KS.rows [(1,1)] [] (Qac (Qa5 1 Qbn) zs)),(10,KS.cells [] (Qac Qar (ls++[Span.lo (List.getD (Qad.goods (s.lots.getD i.toNat default)) k.toNat default)])))] []=some ⟨47,107,Qgy,[],.run,none,Qgr s days (i) (k+1) (out) (gs) (ls++[Span.lo (List.getD (Qad.goods (s.lots.getD i.toNat default)) k.toNat default)]) (zs) (n) (gl) (z) (w+1),Qed s days (i) (k+1) (out) (gs) (ls++[Span.lo (List.getD (Qad.goods (s.lots.getD i.toNat default)) k.toNat default)]) (zs) (n) (gl) (z) (w+1),
 [QaQ 1 [] (Qac Qar out) (Qac Qar out),QaQ 1 [] (Qac Qar gs) (Qac Qar gs),QaY 1 [(1,1)] [] (Qac (Qa5 1 Qbn) zs) (Qac (Qa5 1 Qbn) zs),QaQ 1 [] (Qac Qar (ls++[Span.lo (List.getD (Qad.goods (s.lots.getD i.toNat default)) k.toNat default)])) (Qac Qar (ls++[Span.lo (List.getD (Qad.goods (s.lots.getD i.toNat default)) k.toNat default)])),wq (k+1)=k+1,Array.size (Qac Qar ls)=w * (0+1)/\w+1<=maxLen/\(w+1) * 8<=140737488355328/\Qac Qar ls++#[.int .i64 (Span.lo (List.getD (Qad.goods (s.lots.getD i.toNat default)) k.toNat default))]=Qac Qar (ls++[Span.lo (List.getD (Qad.goods (s.lots.getD i.toNat default)) k.toNat default)]),k=(↑k.toNat:Int)/\Int.toNat k < List.length (Qad.goods (s.lots.getD i.toNat default))/\Array.extract (Qac Qa6 (Qad.goods (s.lots.getD i.toNat default))) (Int.toNat k * TypeInfo.size Tryz.t25) (Int.toNat k * TypeInfo.size Tryz.t25+TypeInfo.size Tryz.t25)=#[.int .i64 (Span.lo (List.getD (Qad.goods (s.lots.getD i.toNat default)) k.toNat default)),.int .i64 (Span.hi (List.getD (Qad.goods (s.lots.getD i.toNat default)) k.toNat default))],i=(↑i.toNat:Int)/\Int.toNat i < List.length s.lots/\Array.extract (Qac Qam s.lots) (Int.toNat i * TypeInfo.size Tryz.t118) (Int.toNat i * TypeInfo.size Tryz.t118+TypeInfo.size Tryz.t118)=#[slT (List.length (Qad.goods (s.lots.getD i.toNat default))) (Qac Qa6 (Qad.goods (s.lots.getD i.toNat default))),.int .i64 (Qad.weight (s.lots.getD i.toNat default)),.int .i64 (Qad.cost (s.lots.getD i.toNat default))],k=(↑k.toNat:Int)/\Int.toNat k < List.length (Qad.goods (s.lots.getD i.toNat default))/\Array.extract (Qac Qa6 (Qad.goods (s.lots.getD i.toNat default))) (Int.toNat k * TypeInfo.size Tryz.t25) (Int.toNat k * TypeInfo.size Tryz.t25+TypeInfo.size Tryz.t25)=#[.int .i64 (Span.lo (List.getD (Qad.goods (s.lots.getD i.toNat default)) k.toNat default)),.int .i64 (Span.hi (List.getD (Qad.goods (s.lots.getD i.toNat default)) k.toNat default))],i=(↑i.toNat:Int)/\Int.toNat i < List.length s.lots/\Array.extract (Qac Qam s.lots) (Int.toNat i * TypeInfo.size Tryz.t118) (Int.toNat i * TypeInfo.size Tryz.t118+TypeInfo.size Tryz.t118)=#[slT (List.length (Qad.goods (s.lots.getD i.toNat default))) (Qac Qa6 (Qad.goods (s.lots.getD i.toNat default))),.int .i64 (Qad.weight (s.lots.getD i.toNat default)),.int .i64 (Qad.cost (s.lots.getD i.toNat default))],ltq k (↑s.stock.length:Int)=true]⟩:=by kernel_rfl
theorem QwC (B:Lo) (s:Qaa) (days:Int) (i k:Int) (out gs ls:List Int) (zs:List RW) (n gl z w:Nat) (dJ0:Nat->Value):landM (Qak Tryz.prog (Qa1 Tryz.prog) J0 B 9 1 (Qa4 47 107 (([2,3,6,7,12,13,14]:List Nat).zip (Qgr s days i k out gs ls zs n gl z w)) dJ0 Qgy) (Qa3 (Qed s days i k out gs ls zs n gl z w)) (2+(Qed s days i k out gs ls zs n gl z w).length)
 [(4,hvF),(9,Qaj.old (Hint.app (Qac (Qa5 1 Qbn) zs++#[.slice (some {block:=8,off:=0}) w 1]))),(13,hvI (i+1))] 0 [] []) [2,3,6,7,12] [(2,KS.auto),(3,KS.auto),(4,KS.auto),(5,KS.cells [] (Qac Qar out)),(6,KS.cells [] (Qac Qar gs)),(10,KS.rows [(1,1)] [8] (Qac (Qa5 1 Qbn) (zs++[{n:=w,xs:=ls}])))] [{k:=8,rs:=[],cs:=Qac Qar ls}]=some ⟨47,107,Qih,[],.run,none,Qio s days (i+1) (out) (gs) (zs++[{n:=w,xs:=ls}]) (n) (gl) (z+1),QeT s days (i+1) (out) (gs) (zs++[{n:=w,xs:=ls}]) (n) (gl) (z+1),
 [QaQ 1 [] (Qac Qar out) (Qac Qar out),QaQ 1 [] (Qac Qar gs) (Qac Qar gs),QaY 1 [(1,1)] [(8,Fz.cs {k:=8,rs:=[],cs:=Qac Qar ls})] (Qac (Qa5 1 Qbn) zs++#[.slice (some {block:=8,off:=0}) w 1]) (Qac (Qa5 1 Qbn) (zs++[{n:=w,xs:=ls}])),Qb8 (Fz.rs {k:=8,rs:=[],cs:=Qac Qar ls}) (Qac Qar ls) (Fz.cs {k:=8,rs:=[],cs:=Qac Qar ls}),wq (i+1)=i+1,Array.size (Qac (Qa5 1 Qbn) zs)=z * (0+1)/\z+1<=maxLen/\(z+1) * 24<=140737488355328/\Qac (Qa5 1 Qbn) zs++#[.slice (some {block:=8,off:=0}) w 1]=Qac (Qa5 1 Qbn) zs++#[.slice (some {block:=8,off:=0}) w 1],ltq k (↑s.stock.length:Int)=false]⟩:=by kernel_rfl
theorem QuM (B:Lo) (s:Qaa) (days:Int) (i k:Int) (out:List Int) (n:Nat) (dJ0:Nat->Value):landM (Qak Tryz.prog (Qa1 Tryz.prog) J0 B 18 1 (Qa4 47 107 (([2,3,6,7,12,13,14]:List Nat).zip (Qk1 s days i k out n)) dJ0 QkP) (Qa3 (Qgp s days i k out n)) (2+(Qgp s days i k out n).length)
 [(4,hvT),(8,Qaj.tidx i.toNat #[slT (List.length (Qad.goods (s.lots.getD i.toNat default))) (Qac Qa6 (Qad.goods (s.lots.getD i.toNat default))),.int .i64 (Qad.weight (s.lots.getD i.toNat default)),.int .i64 (Qad.cost (s.lots.getD i.toNat default))]),(12,Qaj.tidx k.toNat #[.int .i64 (Span.lo (List.getD (Qad.goods (s.lots.getD i.toNat default)) k.toNat default)),.int .i64 (Span.hi (List.getD (Qad.goods (s.lots.getD i.toNat default)) k.toNat default))]),(20,Qaj.tidx i.toNat #[slT (List.length (Qad.goods (s.lots.getD i.toNat default))) (Qac Qa6 (Qad.goods (s.lots.getD i.toNat default))),.int .i64 (Qad.weight (s.lots.getD i.toNat default)),.int .i64 (Qad.cost (s.lots.getD i.toNat default))]),(24,Qaj.tidx k.toNat #[.int .i64 (Span.lo (List.getD (Qad.goods (s.lots.getD i.toNat default)) k.toNat default)),.int .i64 (Span.hi (List.getD (Qad.goods (s.lots.getD i.toNat default)) k.toNat default))]),(34,hvI (k+1))] 0 [] []) [2,3,6,7,12,13,14] [(2,KS.auto),(3,KS.auto),(4,KS.auto),(5,KS.cells [] (Qac Qar out)),(7,KS.cells [] (Qac Qar [Span.lo (List.getD (Qad.goods (s.lots.getD i.toNat default)) k.toNat default)]))] []=some ⟨47,107,QgC,[],.run,none,Qgl s days (i) (k+1) (out) ([Span.lo (List.getD (Qad.goods (s.lots.getD i.toNat default)) k.toNat default)]) (n) (1),QdZ s days (i) (k+1) (out) ([Span.lo (List.getD (Qad.goods (s.lots.getD i.toNat default)) k.toNat default)]) (n) (1),
 [QaQ 1 [] (Qac Qar out) (Qac Qar out),QaQ 1 [] (#[.int .i64 (Span.lo (List.getD (Qad.goods (s.lots.getD i.toNat default)) k.toNat default))]) (Qac Qar [Span.lo (List.getD (Qad.goods (s.lots.getD i.toNat default)) k.toNat default)]),wq (k+1)=k+1,k=(↑k.toNat:Int)/\Int.toNat k < List.length (Qad.goods (s.lots.getD i.toNat default))/\Array.extract (Qac Qa6 (Qad.goods (s.lots.getD i.toNat default))) (Int.toNat k * TypeInfo.size Tryz.t25) (Int.toNat k * TypeInfo.size Tryz.t25+TypeInfo.size Tryz.t25)=#[.int .i64 (Span.lo (List.getD (Qad.goods (s.lots.getD i.toNat default)) k.toNat default)),.int .i64 (Span.hi (List.getD (Qad.goods (s.lots.getD i.toNat default)) k.toNat default))],i=(↑i.toNat:Int)/\Int.toNat i < List.length s.lots/\Array.extract (Qac Qam s.lots) (Int.toNat i * TypeInfo.size Tryz.t118) (Int.toNat i * TypeInfo.size Tryz.t118+TypeInfo.size Tryz.t118)=#[slT (List.length (Qad.goods (s.lots.getD i.toNat default))) (Qac Qa6 (Qad.goods (s.lots.getD i.toNat default))),.int .i64 (Qad.weight (s.lots.getD i.toNat default)),.int .i64 (Qad.cost (s.lots.getD i.toNat default))],k=(↑k.toNat:Int)/\Int.toNat k < List.length (Qad.goods (s.lots.getD i.toNat default))/\Array.extract (Qac Qa6 (Qad.goods (s.lots.getD i.toNat default))) (Int.toNat k * TypeInfo.size Tryz.t25) (Int.toNat k * TypeInfo.size Tryz.t25+TypeInfo.size Tryz.t25)=#[.int .i64 (Span.lo (List.getD (Qad.goods (s.lots.getD i.toNat default)) k.toNat default)),.int .i64 (Span.hi (List.getD (Qad.goods (s.lots.getD i.toNat default)) k.toNat default))],i=(↑i.toNat:Int)/\Int.toNat i < List.length s.lots/\Array.extract (Qac Qam s.lots) (Int.toNat i * TypeInfo.size Tryz.t118) (Int.toNat i * TypeInfo.size Tryz.t118+TypeInfo.size Tryz.t118)=#[slT (List.length (Qad.goods (s.lots.getD i.toNat default))) (Qac Qa6 (Qad.goods (s.lots.getD i.toNat default))),.int .i64 (Qad.weight (s.lots.getD i.toNat default)),.int .i64 (Qad.cost (s.lots.getD i.toNat default))],ltq k (↑s.stock.length:Int)=true]⟩:=by kernel_rfl
theorem QwR (B:Lo) (s:Qaa) (days:Int) (i k:Int) (out ls:List Int) (n w:Nat) (dJ0:Nat->Value):landM (Qak Tryz.prog (Qa1 Tryz.prog) J0 B 18 1 (Qa4 47 107 (([2,3,6,7,12,13,14]:List Nat).zip (Qgl s days i k out ls n w)) dJ0 QgC) (Qa3 (QdZ s days i k out ls n w)) (2+(QdZ s days i k out ls n w).length)
 [(4,hvT),(8,Qaj.tidx i.toNat #[slT (List.length (Qad.goods (s.lots.getD i.toNat default))) (Qac Qa6 (Qad.goods (s.lots.getD i.toNat default))),.int .i64 (Qad.weight (s.lots.getD i.toNat default)),.int .i64 (Qad.cost (s.lots.getD i.toNat default))]),(12,Qaj.tidx k.toNat #[.int .i64 (Span.lo (List.getD (Qad.goods (s.lots.getD i.toNat default)) k.toNat default)),.int .i64 (Span.hi (List.getD (Qad.goods (s.lots.getD i.toNat default)) k.toNat default))]),(20,Qaj.tidx i.toNat #[slT (List.length (Qad.goods (s.lots.getD i.toNat default))) (Qac Qa6 (Qad.goods (s.lots.getD i.toNat default))),.int .i64 (Qad.weight (s.lots.getD i.toNat default)),.int .i64 (Qad.cost (s.lots.getD i.toNat default))]),(24,Qaj.tidx k.toNat #[.int .i64 (Span.lo (List.getD (Qad.goods (s.lots.getD i.toNat default)) k.toNat default)),.int .i64 (Span.hi (List.getD (Qad.goods (s.lots.getD i.toNat default)) k.toNat default))]),(31,Qaj.old (Hint.app (Qac Qar (ls++[Span.lo (List.getD (Qad.goods (s.lots.getD i.toNat default)) k.toNat default)])))),(34,hvI (k+1))] 0 [] []) [2,3,6,7,12,13,14] [(2,KS.auto),(3,KS.auto),(4,KS.auto),(5,KS.cells [] (Qac Qar out)),(8,KS.cells [] (Qac Qar (ls++[Span.lo (List.getD (Qad.goods (s.lots.getD i.toNat default)) k.toNat default)])))] []=some ⟨47,107,QgC,[],.run,none,Qgl s days (i) (k+1) (out) (ls++[Span.lo (List.getD (Qad.goods (s.lots.getD i.toNat default)) k.toNat default)]) (n) (w+1),QdZ s days (i) (k+1) (out) (ls++[Span.lo (List.getD (Qad.goods (s.lots.getD i.toNat default)) k.toNat default)]) (n) (w+1),
 [QaQ 1 [] (Qac Qar out) (Qac Qar out),QaQ 1 [] (Qac Qar (ls++[Span.lo (List.getD (Qad.goods (s.lots.getD i.toNat default)) k.toNat default)])) (Qac Qar (ls++[Span.lo (List.getD (Qad.goods (s.lots.getD i.toNat default)) k.toNat default)])),wq (k+1)=k+1,Array.size (Qac Qar ls)=w * (0+1)/\w+1<=maxLen/\(w+1) * 8<=140737488355328/\Qac Qar ls++#[.int .i64 (Span.lo (List.getD (Qad.goods (s.lots.getD i.toNat default)) k.toNat default))]=Qac Qar (ls++[Span.lo (List.getD (Qad.goods (s.lots.getD i.toNat default)) k.toNat default)]),k=(↑k.toNat:Int)/\Int.toNat k < List.length (Qad.goods (s.lots.getD i.toNat default))/\Array.extract (Qac Qa6 (Qad.goods (s.lots.getD i.toNat default))) (Int.toNat k * TypeInfo.size Tryz.t25) (Int.toNat k * TypeInfo.size Tryz.t25+TypeInfo.size Tryz.t25)=#[.int .i64 (Span.lo (List.getD (Qad.goods (s.lots.getD i.toNat default)) k.toNat default)),.int .i64 (Span.hi (List.getD (Qad.goods (s.lots.getD i.toNat default)) k.toNat default))],i=(↑i.toNat:Int)/\Int.toNat i < List.length s.lots/\Array.extract (Qac Qam s.lots) (Int.toNat i * TypeInfo.size Tryz.t118) (Int.toNat i * TypeInfo.size Tryz.t118+TypeInfo.size Tryz.t118)=#[slT (List.length (Qad.goods (s.lots.getD i.toNat default))) (Qac Qa6 (Qad.goods (s.lots.getD i.toNat default))),.int .i64 (Qad.weight (s.lots.getD i.toNat default)),.int .i64 (Qad.cost (s.lots.getD i.toNat default))],k=(↑k.toNat:Int)/\Int.toNat k < List.length (Qad.goods (s.lots.getD i.toNat default))/\Array.extract (Qac Qa6 (Qad.goods (s.lots.getD i.toNat default))) (Int.toNat k * TypeInfo.size Tryz.t25) (Int.toNat k * TypeInfo.size Tryz.t25+TypeInfo.size Tryz.t25)=#[.int .i64 (Span.lo (List.getD (Qad.goods (s.lots.getD i.toNat default)) k.toNat default)),.int .i64 (Span.hi (List.getD (Qad.goods (s.lots.getD i.toNat default)) k.toNat default))],i=(↑i.toNat:Int)/\Int.toNat i < List.length s.lots/\Array.extract (Qac Qam s.lots) (Int.toNat i * TypeInfo.size Tryz.t118) (Int.toNat i * TypeInfo.size Tryz.t118+TypeInfo.size Tryz.t118)=#[slT (List.length (Qad.goods (s.lots.getD i.toNat default))) (Qac Qa6 (Qad.goods (s.lots.getD i.toNat default))),.int .i64 (Qad.weight (s.lots.getD i.toNat default)),.int .i64 (Qad.cost (s.lots.getD i.toNat default))],ltq k (↑s.stock.length:Int)=true]⟩:=by kernel_rfl
theorem QwY (B:Lo) (s:Qaa) (days:Int) (i k:Int) (out ls:List Int) (n w:Nat) (dJ0:Nat->Value):landM (Qak Tryz.prog (Qa1 Tryz.prog) J0 B 9 1 (Qa4 47 107 (([2,3,6,7,12,13,14]:List Nat).zip (Qgl s days i k out ls n w)) dJ0 QgC) (Qa3 (QdZ s days i k out ls n w)) (2+(QdZ s days i k out ls n w).length)
 [(4,hvF),(13,hvI (i+1))] 0 [] []) [2,3,6,7,12] [(2,KS.auto),(3,KS.auto),(4,KS.auto),(5,KS.cells [] (Qac Qar out)),(8,KS.rows [] [6] (Qac (Qa5 1 Qbn) [{n:=w,xs:=ls}]))] [{k:=6,rs:=[],cs:=Qac Qar ls}]=some ⟨47,107,QhR,[],.run,none,QhY s days (i+1) (out) ([{n:=w,xs:=ls}]) (n) (1),QeK s days (i+1) (out) ([{n:=w,xs:=ls}]) (n) (1),
 [QaQ 1 [] (Qac Qar out) (Qac Qar out),QaY 1 [] [(6,Fz.cs {k:=6,rs:=[],cs:=Qac Qar ls})] #[.slice (some {block:=6,off:=0}) w 1] (Qac (Qa5 1 Qbn) [{n:=w,xs:=ls}]),Qb8 (Fz.rs {k:=6,rs:=[],cs:=Qac Qar ls}) (Qac Qar ls) (Fz.cs {k:=6,rs:=[],cs:=Qac Qar ls}),wq (i+1)=i+1,ltq k (↑s.stock.length:Int)=false]⟩:=by kernel_rfl
theorem Qxa (B:Lo) (s:Qaa) (days:Int) (i k:Int) (out:List Int) (zs:List RW) (n z:Nat) (dJ0:Nat->Value):landM (Qak Tryz.prog (Qa1 Tryz.prog) J0 B 18 1 (Qa4 47 107 (([2,3,6,7,12,13,14]:List Nat).zip (QjW s days i k out zs n z)) dJ0 Qlp) (Qa3 (Qgd s days i k out zs n z)) (2+(Qgd s days i k out zs n z).length)
 [(4,hvT),(8,Qaj.tidx i.toNat #[slT (List.length (Qad.goods (s.lots.getD i.toNat default))) (Qac Qa6 (Qad.goods (s.lots.getD i.toNat default))),.int .i64 (Qad.weight (s.lots.getD i.toNat default)),.int .i64 (Qad.cost (s.lots.getD i.toNat default))]),(12,Qaj.tidx k.toNat #[.int .i64 (Span.lo (List.getD (Qad.goods (s.lots.getD i.toNat default)) k.toNat default)),.int .i64 (Span.hi (List.getD (Qad.goods (s.lots.getD i.toNat default)) k.toNat default))]),(20,Qaj.tidx i.toNat #[slT (List.length (Qad.goods (s.lots.getD i.toNat default))) (Qac Qa6 (Qad.goods (s.lots.getD i.toNat default))),.int .i64 (Qad.weight (s.lots.getD i.toNat default)),.int .i64 (Qad.cost (s.lots.getD i.toNat default))]),(24,Qaj.tidx k.toNat #[.int .i64 (Span.lo (List.getD (Qad.goods (s.lots.getD i.toNat default)) k.toNat default)),.int .i64 (Span.hi (List.getD (Qad.goods (s.lots.getD i.toNat default)) k.toNat default))]),(34,hvI (k+1))] 0 [] []) [2,3,6,7,12,13,14] [(2,KS.auto),(3,KS.auto),(4,KS.auto),(5,KS.cells [] (Qac Qar out)),(6,KS.rows [(1,1)] [] (Qac (Qa5 1 Qbn) zs)),(8,KS.cells [] (Qac Qar [Span.lo (List.getD (Qad.goods (s.lots.getD i.toNat default)) k.toNat default)]))] []=some ⟨47,107,Qg3,[],.run,none,QgE s days (i) (k+1) (out) ([Span.lo (List.getD (Qad.goods (s.lots.getD i.toNat default)) k.toNat default)]) (zs) (n) (z) (1),Qeb s days (i) (k+1) (out) ([Span.lo (List.getD (Qad.goods (s.lots.getD i.toNat default)) k.toNat default)]) (zs) (n) (z) (1),
 [QaQ 1 [] (Qac Qar out) (Qac Qar out),QaY 1 [(1,1)] [] (Qac (Qa5 1 Qbn) zs) (Qac (Qa5 1 Qbn) zs),QaQ 1 [] (#[.int .i64 (Span.lo (List.getD (Qad.goods (s.lots.getD i.toNat default)) k.toNat default))]) (Qac Qar [Span.lo (List.getD (Qad.goods (s.lots.getD i.toNat default)) k.toNat default)]),wq (k+1)=k+1,k=(↑k.toNat:Int)/\Int.toNat k < List.length (Qad.goods (s.lots.getD i.toNat default))/\Array.extract (Qac Qa6 (Qad.goods (s.lots.getD i.toNat default))) (Int.toNat k * TypeInfo.size Tryz.t25) (Int.toNat k * TypeInfo.size Tryz.t25+TypeInfo.size Tryz.t25)=#[.int .i64 (Span.lo (List.getD (Qad.goods (s.lots.getD i.toNat default)) k.toNat default)),.int .i64 (Span.hi (List.getD (Qad.goods (s.lots.getD i.toNat default)) k.toNat default))],i=(↑i.toNat:Int)/\Int.toNat i < List.length s.lots/\Array.extract (Qac Qam s.lots) (Int.toNat i * TypeInfo.size Tryz.t118) (Int.toNat i * TypeInfo.size Tryz.t118+TypeInfo.size Tryz.t118)=#[slT (List.length (Qad.goods (s.lots.getD i.toNat default))) (Qac Qa6 (Qad.goods (s.lots.getD i.toNat default))),.int .i64 (Qad.weight (s.lots.getD i.toNat default)),.int .i64 (Qad.cost (s.lots.getD i.toNat default))],k=(↑k.toNat:Int)/\Int.toNat k < List.length (Qad.goods (s.lots.getD i.toNat default))/\Array.extract (Qac Qa6 (Qad.goods (s.lots.getD i.toNat default))) (Int.toNat k * TypeInfo.size Tryz.t25) (Int.toNat k * TypeInfo.size Tryz.t25+TypeInfo.size Tryz.t25)=#[.int .i64 (Span.lo (List.getD (Qad.goods (s.lots.getD i.toNat default)) k.toNat default)),.int .i64 (Span.hi (List.getD (Qad.goods (s.lots.getD i.toNat default)) k.toNat default))],i=(↑i.toNat:Int)/\Int.toNat i < List.length s.lots/\Array.extract (Qac Qam s.lots) (Int.toNat i * TypeInfo.size Tryz.t118) (Int.toNat i * TypeInfo.size Tryz.t118+TypeInfo.size Tryz.t118)=#[slT (List.length (Qad.goods (s.lots.getD i.toNat default))) (Qac Qa6 (Qad.goods (s.lots.getD i.toNat default))),.int .i64 (Qad.weight (s.lots.getD i.toNat default)),.int .i64 (Qad.cost (s.lots.getD i.toNat default))],ltq k (↑s.stock.length:Int)=true]⟩:=by kernel_rfl
theorem QvD (B:Lo) (s:Qaa) (days:Int) (i k:Int) (out ls:List Int) (zs:List RW) (n z w:Nat) (dJ0:Nat->Value):landM (Qak Tryz.prog (Qa1 Tryz.prog) J0 B 18 1 (Qa4 47 107 (([2,3,6,7,12,13,14]:List Nat).zip (QgE s days i k out ls zs n z w)) dJ0 Qg3) (Qa3 (Qeb s days i k out ls zs n z w)) (2+(Qeb s days i k out ls zs n z w).length)
 [(4,hvT),(8,Qaj.tidx i.toNat #[slT (List.length (Qad.goods (s.lots.getD i.toNat default))) (Qac Qa6 (Qad.goods (s.lots.getD i.toNat default))),.int .i64 (Qad.weight (s.lots.getD i.toNat default)),.int .i64 (Qad.cost (s.lots.getD i.toNat default))]),(12,Qaj.tidx k.toNat #[.int .i64 (Span.lo (List.getD (Qad.goods (s.lots.getD i.toNat default)) k.toNat default)),.int .i64 (Span.hi (List.getD (Qad.goods (s.lots.getD i.toNat default)) k.toNat default))]),(20,Qaj.tidx i.toNat #[slT (List.length (Qad.goods (s.lots.getD i.toNat default))) (Qac Qa6 (Qad.goods (s.lots.getD i.toNat default))),.int .i64 (Qad.weight (s.lots.getD i.toNat default)),.int .i64 (Qad.cost (s.lots.getD i.toNat default))]),(24,Qaj.tidx k.toNat #[.int .i64 (Span.lo (List.getD (Qad.goods (s.lots.getD i.toNat default)) k.toNat default)),.int .i64 (Span.hi (List.getD (Qad.goods (s.lots.getD i.toNat default)) k.toNat default))]),(31,Qaj.old (Hint.app (Qac Qar (ls++[Span.lo (List.getD (Qad.goods (s.lots.getD i.toNat default)) k.toNat default)])))),(34,hvI (k+1))] 0 [] []) [2,3,6,7,12,13,14] [(2,KS.auto),(3,KS.auto),(4,KS.auto),(5,KS.cells [] (Qac Qar out)),(6,KS.rows [(1,1)] [] (Qac (Qa5 1 Qbn) zs)),(9,KS.cells [] (Qac Qar (ls++[Span.lo (List.getD (Qad.goods (s.lots.getD i.toNat default)) k.toNat default)])))] []=some ⟨47,107,Qg3,[],.run,none,QgE s days (i) (k+1) (out) (ls++[Span.lo (List.getD (Qad.goods (s.lots.getD i.toNat default)) k.toNat default)]) (zs) (n) (z) (w+1),Qeb s days (i) (k+1) (out) (ls++[Span.lo (List.getD (Qad.goods (s.lots.getD i.toNat default)) k.toNat default)]) (zs) (n) (z) (w+1),
 [QaQ 1 [] (Qac Qar out) (Qac Qar out),QaY 1 [(1,1)] [] (Qac (Qa5 1 Qbn) zs) (Qac (Qa5 1 Qbn) zs),QaQ 1 [] (Qac Qar (ls++[Span.lo (List.getD (Qad.goods (s.lots.getD i.toNat default)) k.toNat default)])) (Qac Qar (ls++[Span.lo (List.getD (Qad.goods (s.lots.getD i.toNat default)) k.toNat default)])),wq (k+1)=k+1,Array.size (Qac Qar ls)=w * (0+1)/\w+1<=maxLen/\(w+1) * 8<=140737488355328/\Qac Qar ls++#[.int .i64 (Span.lo (List.getD (Qad.goods (s.lots.getD i.toNat default)) k.toNat default))]=Qac Qar (ls++[Span.lo (List.getD (Qad.goods (s.lots.getD i.toNat default)) k.toNat default)]),k=(↑k.toNat:Int)/\Int.toNat k < List.length (Qad.goods (s.lots.getD i.toNat default))/\Array.extract (Qac Qa6 (Qad.goods (s.lots.getD i.toNat default))) (Int.toNat k * TypeInfo.size Tryz.t25) (Int.toNat k * TypeInfo.size Tryz.t25+TypeInfo.size Tryz.t25)=#[.int .i64 (Span.lo (List.getD (Qad.goods (s.lots.getD i.toNat default)) k.toNat default)),.int .i64 (Span.hi (List.getD (Qad.goods (s.lots.getD i.toNat default)) k.toNat default))],i=(↑i.toNat:Int)/\Int.toNat i < List.length s.lots/\Array.extract (Qac Qam s.lots) (Int.toNat i * TypeInfo.size Tryz.t118) (Int.toNat i * TypeInfo.size Tryz.t118+TypeInfo.size Tryz.t118)=#[slT (List.length (Qad.goods (s.lots.getD i.toNat default))) (Qac Qa6 (Qad.goods (s.lots.getD i.toNat default))),.int .i64 (Qad.weight (s.lots.getD i.toNat default)),.int .i64 (Qad.cost (s.lots.getD i.toNat default))],k=(↑k.toNat:Int)/\Int.toNat k < List.length (Qad.goods (s.lots.getD i.toNat default))/\Array.extract (Qac Qa6 (Qad.goods (s.lots.getD i.toNat default))) (Int.toNat k * TypeInfo.size Tryz.t25) (Int.toNat k * TypeInfo.size Tryz.t25+TypeInfo.size Tryz.t25)=#[.int .i64 (Span.lo (List.getD (Qad.goods (s.lots.getD i.toNat default)) k.toNat default)),.int .i64 (Span.hi (List.getD (Qad.goods (s.lots.getD i.toNat default)) k.toNat default))],i=(↑i.toNat:Int)/\Int.toNat i < List.length s.lots/\Array.extract (Qac Qam s.lots) (Int.toNat i * TypeInfo.size Tryz.t118) (Int.toNat i * TypeInfo.size Tryz.t118+TypeInfo.size Tryz.t118)=#[slT (List.length (Qad.goods (s.lots.getD i.toNat default))) (Qac Qa6 (Qad.goods (s.lots.getD i.toNat default))),.int .i64 (Qad.weight (s.lots.getD i.toNat default)),.int .i64 (Qad.cost (s.lots.getD i.toNat default))],ltq k (↑s.stock.length:Int)=true]⟩:=by kernel_rfl
theorem QwE (B:Lo) (s:Qaa) (days:Int) (i k:Int) (out ls:List Int) (zs:List RW) (n z w:Nat) (dJ0:Nat->Value):landM (Qak Tryz.prog (Qa1 Tryz.prog) J0 B 9 1 (Qa4 47 107 (([2,3,6,7,12,13,14]:List Nat).zip (QgE s days i k out ls zs n z w)) dJ0 Qg3) (Qa3 (Qeb s days i k out ls zs n z w)) (2+(Qeb s days i k out ls zs n z w).length)
 [(4,hvF),(9,Qaj.old (Hint.app (Qac (Qa5 1 Qbn) zs++#[.slice (some {block:=7,off:=0}) w 1]))),(13,hvI (i+1))] 0 [] []) [2,3,6,7,12] [(2,KS.auto),(3,KS.auto),(4,KS.auto),(5,KS.cells [] (Qac Qar out)),(9,KS.rows [(1,1)] [7] (Qac (Qa5 1 Qbn) (zs++[{n:=w,xs:=ls}])))] [{k:=7,rs:=[],cs:=Qac Qar ls}]=some ⟨47,107,QhR,[],.run,none,QhY s days (i+1) (out) (zs++[{n:=w,xs:=ls}]) (n) (z+1),QeK s days (i+1) (out) (zs++[{n:=w,xs:=ls}]) (n) (z+1),
 [QaQ 1 [] (Qac Qar out) (Qac Qar out),QaY 1 [(1,1)] [(7,Fz.cs {k:=7,rs:=[],cs:=Qac Qar ls})] (Qac (Qa5 1 Qbn) zs++#[.slice (some {block:=7,off:=0}) w 1]) (Qac (Qa5 1 Qbn) (zs++[{n:=w,xs:=ls}])),Qb8 (Fz.rs {k:=7,rs:=[],cs:=Qac Qar ls}) (Qac Qar ls) (Fz.cs {k:=7,rs:=[],cs:=Qac Qar ls}),wq (i+1)=i+1,Array.size (Qac (Qa5 1 Qbn) zs)=z * (0+1)/\z+1<=maxLen/\(z+1) * 24<=140737488355328/\Qac (Qa5 1 Qbn) zs++#[.slice (some {block:=7,off:=0}) w 1]=Qac (Qa5 1 Qbn) zs++#[.slice (some {block:=7,off:=0}) w 1],ltq k (↑s.stock.length:Int)=false]⟩:=by kernel_rfl
theorem Qv8 (B:Lo) (s:Qaa) (days:Int):landM (Qak Tryz.prog (Qa1 Tryz.prog) J0 B 9 1 (Qai Tryz.prog 47 107 (([.agg (Qah s).toArray,.int .i64 days,.bool true]).map (Qaq 0 4))) H00 1
 [] 0 [] []) [1,2,3,6,7,8] [(1,KS.auto),(2,KS.auto),(3,KS.auto)] []=some ⟨47,107,Qna,[],.run,none,Qne s days (0),Qh5 s days (0),
 []⟩:=by kernel_rfl
set_option maxHeartbeats 4000000 in
theorem Qy1 (s:Qaa) (days:Int) (hs:Qa8 s=true) (hd:0<=days/\days<=300) {B:Lo} (hJ:∀w,B.has w->J0 w) {c0:CF}:∀m:Nat,(∀(i:Int),10000+(s.use.length - i.toNat)=m->∀(h0:i=0),Qy7 B c0 s days i->EndsT Tryz.prog B c0 (.agg (QaI (Qae Span.lo Span.hi s days)).toArray))/\(∀(i:Int) (out:List Int) (n:Nat),9000+(s.use.length - i.toNat)=m->∀(h0:0<=i) (hm:n=out.length) (hx:(n:Int)<=i) (ho:Qof Span.hi s.use i out),QyI B c0 s days i out n->EndsT Tryz.prog B c0 (.agg (QaI (Qae Span.lo Span.hi s days)).toArray))/\(∀(a:Int) (out:List Int) (n:Nat),8000+(days - a).toNat=m->∀(a0:a=0) (hm:n=out.length) (hx:(n:Int)<=4) (ho:out=s.use.map Span.hi),QyM B c0 s days a out n->EndsT Tryz.prog B c0 (.agg (QaI (Qae Span.lo Span.hi s days)).toArray))/\(∀(a:Int) (out gs:List Int) (n gl:Nat),7000+(days - a).toNat=m->∀(a0:0<=a) (hm:n=out.length) (hx:(n:Int)<=4) (ho:out=s.use.map Span.hi) (gm:gl=gs.length) (ga:a=gl * s.ghi) (gb:a < days+s.ghi) (gx:(gl:Int)<=a) (gr:gs=List.replicate gl s.ghi),Qys B c0 s days a out gs n gl->EndsT Tryz.prog B c0 (.agg (QaI (Qae Span.lo Span.hi s days)).toArray))/\(∀(i:Int) (out gs:List Int) (n gl:Nat),6000=m->∀(i0:i=0) (hm:n=out.length) (hx:(n:Int)<=4) (ho:out=s.use.map Span.hi) (gm:gl=gs.length) (gx:(gl:Int)<=1000) (gr:gs=List.replicate ((days+s.ghi - 1).tdiv s.ghi).toNat s.ghi),QyS B c0 s days i out gs n gl->EndsT Tryz.prog B c0 (.agg (QaI (Qae Span.lo Span.hi s days)).toArray))/\(∀(i:Int) (out gs:List Int) (zs:List RW) (n gl z:Nat),100 * (s.lots.length - i.toNat)=m->∀(i0:0<=i) (zm:z=zs.length) (zx:(z:Int)<=i) (hz:Qof (QuG Span.lo) s.lots i zs) (hm:n=out.length) (hx:(n:Int)<=4) (ho:out=s.use.map Span.hi) (gm:gl=gs.length) (gx:(gl:Int)<=1000) (gr:gs=List.replicate ((days+s.ghi - 1).tdiv s.ghi).toNat s.ghi),Qzf B c0 s days i out gs zs n gl z->EndsT Tryz.prog B c0 (.agg (QaI (Qae Span.lo Span.hi s days)).toArray))/\(∀(i:Int) (out:List Int) (n:Nat),6000=m->∀(i0:i=0) (hm:n=out.length) (hx:(n:Int)<=4) (ho:out=s.use.map Span.hi) (dz:days<=0),Qz7 B c0 s days i out n->EndsT Tryz.prog B c0 (.agg (QaI (Qae Span.lo Span.hi s days)).toArray))/\(∀(i:Int) (out:List Int) (zs:List RW) (n z:Nat),100 * (s.lots.length - i.toNat)=m->∀(i0:0<=i) (zm:z=zs.length) (zx:(z:Int)<=i) (hz:Qof (QuG Span.lo) s.lots i zs) (hm:n=out.length) (hx:(n:Int)<=4) (ho:out=s.use.map Span.hi) (dz:days<=0),QzO B c0 s days i out zs n z->EndsT Tryz.prog B c0 (.agg (QaI (Qae Span.lo Span.hi s days)).toArray))/\(∀(i k:Int) (out gs:List Int) (n gl:Nat),1000+(s.stock.length - k.toNat)+10=m->∀(i0:i=0) (i1:i < s.lots.length) (k0:k=0) (hm:n=out.length) (hx:(n:Int)<=4) (ho:out=s.use.map Span.hi) (gm:gl=gs.length) (gx:(gl:Int)<=1000) (gr:gs=List.replicate ((days+s.ghi - 1).tdiv s.ghi).toNat s.ghi),Qzs B c0 s days i k out gs n gl->EndsT Tryz.prog B c0 (.agg (QaI (Qae Span.lo Span.hi s days)).toArray))/\(∀(i k:Int) (out gs ls:List Int) (n gl w:Nat),1000+(s.stock.length - k.toNat)=m->∀(i0:i=0) (i1:i < s.lots.length) (k0:0<=k) (wm:w=ls.length) (wx:(w:Int)<=k) (hl:Qof Span.lo (s.lots.getD i.toNat default).goods k ls) (hm:n=out.length) (hx:(n:Int)<=4) (ho:out=s.use.map Span.hi) (gm:gl=gs.length) (gx:(gl:Int)<=1000) (gr:gs=List.replicate ((days+s.ghi - 1).tdiv s.ghi).toNat s.ghi),Q0w B c0 s days i k out gs ls n gl w->EndsT Tryz.prog B c0 (.agg (QaI (Qae Span.lo Span.hi s days)).toArray))/\(∀(i k:Int) (out gs:List Int) (zs:List RW) (n gl z:Nat),100 * (s.lots.length - i.toNat) - 50+(s.stock.length - k.toNat)+10=m->∀(i0:0<=i) (i1:i < s.lots.length) (k0:k=0) (zm:z=zs.length) (zx:(z:Int)<=i) (hz:Qof (QuG Span.lo) s.lots i zs) (hm:n=out.length) (hx:(n:Int)<=4) (ho:out=s.use.map Span.hi) (gm:gl=gs.length) (gx:(gl:Int)<=1000) (gr:gs=List.replicate ((days+s.ghi - 1).tdiv s.ghi).toNat s.ghi),QvU B c0 s days i k out gs zs n gl z->EndsT Tryz.prog B c0 (.agg (QaI (Qae Span.lo Span.hi s days)).toArray))/\(∀(i k:Int) (out gs ls:List Int) (zs:List RW) (n gl z w:Nat),100 * (s.lots.length - i.toNat) - 50+(s.stock.length - k.toNat)=m->∀(i0:0<=i) (i1:i < s.lots.length) (k0:0<=k) (wm:w=ls.length) (wx:(w:Int)<=k) (hl:Qof Span.lo (s.lots.getD i.toNat default).goods k ls) (zm:z=zs.length) (zx:(z:Int)<=i) (hz:Qof (QuG Span.lo) s.lots i zs) (hm:n=out.length) (hx:(n:Int)<=4) (ho:out=s.use.map Span.hi) (gm:gl=gs.length) (gx:(gl:Int)<=1000) (gr:gs=List.replicate ((days+s.ghi - 1).tdiv s.ghi).toNat s.ghi),Qvv B c0 s days i k out gs ls zs n gl z w->EndsT Tryz.prog B c0 (.agg (QaI (Qae Span.lo Span.hi s days)).toArray))/\(∀(i k:Int) (out:List Int) (n:Nat),1000+(s.stock.length - k.toNat)+10=m->∀(i0:i=0) (i1:i < s.lots.length) (k0:k=0) (hm:n=out.length) (hx:(n:Int)<=4) (ho:out=s.use.map Span.hi) (dz:days<=0),Qyf B c0 s days i k out n->EndsT Tryz.prog B c0 (.agg (QaI (Qae Span.lo Span.hi s days)).toArray))/\(∀(i k:Int) (out ls:List Int) (n w:Nat),1000+(s.stock.length - k.toNat)=m->∀(i0:i=0) (i1:i < s.lots.length) (k0:0<=k) (wm:w=ls.length) (wx:(w:Int)<=k) (hl:Qof Span.lo (s.lots.getD i.toNat default).goods k ls) (hm:n=out.length) (hx:(n:Int)<=4) (ho:out=s.use.map Span.hi) (dz:days<=0),QvK B c0 s days i k out ls n w->EndsT Tryz.prog B c0 (.agg (QaI (Qae Span.lo Span.hi s days)).toArray))/\(∀(i k:Int) (out:List Int) (zs:List RW) (n z:Nat),100 * (s.lots.length - i.toNat) - 50+(s.stock.length - k.toNat)+10=m->∀(i0:0<=i) (i1:i < s.lots.length) (k0:k=0) (zm:z=zs.length) (zx:(z:Int)<=i) (hz:Qof (QuG Span.lo) s.lots i zs) (hm:n=out.length) (hx:(n:Int)<=4) (ho:out=s.use.map Span.hi) (dz:days<=0),QxE B c0 s days i k out zs n z->EndsT Tryz.prog B c0 (.agg (QaI (Qae Span.lo Span.hi s days)).toArray))/\(∀(i k:Int) (out ls:List Int) (zs:List RW) (n z w:Nat),100 * (s.lots.length - i.toNat) - 50+(s.stock.length - k.toNat)=m->∀(i0:0<=i) (i1:i < s.lots.length) (k0:0<=k) (wm:w=ls.length) (wx:(w:Int)<=k) (hl:Qof Span.lo (s.lots.getD i.toNat default).goods k ls) (zm:z=zs.length) (zx:(z:Int)<=i) (hz:Qof (QuG Span.lo) s.lots i zs) (hm:n=out.length) (hx:(n:Int)<=4) (ho:out=s.use.map Span.hi) (dz:days<=0),Qvl B c0 s days i k out ls zs n z w->EndsT Tryz.prog B c0 (.agg (QaI (Qae Span.lo Span.hi s days)).toArray)):=by
 intro m0
 induction m0 using Nat.strongRecOn with
 | _ m0 ih0=>
   refine ⟨?_, ?_, ?_, ?_, ?_, ?_, ?_, ?_, ?_, ?_, ?_, ?_, ?_, ?_, ?_, ?_⟩
   ·intro i hm0 h0 ⟨dJ0,hdJ0,hg0⟩
    have hgp:=Qa9 hs
    have hst:=Qav hs
    have hlo:=Qa2 hs
    by_cases q0:(i:Int) < ((↑s.use.length:Int))
    ·
     exact ((ih0 _ (by omega)).2.1 (i+1) ([Span.hi (s.use.getD i.toNat default)]) (1) rfl (by omega) (by rfl) (by omega) (by exact Qr5 h0 q0)
      (hg0.landM okF hJ Qab (QzH B s days i dJ0)
      ⟨(Qeq (by kernel_rfl)),⟨(QaJ (by omega) (by omega)),⟨⟨by omega,by omega,(Qaf (z:=2) (fun _=> rfl) (by omega))⟩,⟨⟨by omega,by omega,(Qaf (z:=2) (fun _=> rfl) (by omega))⟩,⟨(Qbl q0),trivial⟩⟩⟩⟩⟩ (by kernel_rfl) (by kernel_rfl))).cast (by rfl)
    ·
     exfalso
     (have hst:=Qav hs;omega)
   ·intro i out n hm0 h0 hm hx ho ⟨dJ0,hdJ0,hg0⟩
    have hgp:=Qa9 hs
    have hst:=Qav hs
    have hlo:=Qa2 hs
    by_cases q0:(i:Int) < ((↑s.use.length:Int))
    ·
     exact ((ih0 _ (by omega)).2.1 (i+1) (out++[Span.hi (s.use.getD i.toNat default)]) (n+1) rfl (by omega) (by exact QeM hm) (by omega) (by exact QfZ h0 q0 ho)
      (hg0.landM okF hJ Qab (Q0b B s days i out n dJ0)
      ⟨(Qao (Qaw (fun x=> List.all_eq_true.1 (by rfl)))),⟨(QaJ (by omega) (by omega)),⟨⟨(by (rw [Qbp (z:=1) (fun _=> rfl)];first | omega | (simp;omega) | (simp_all;done))),(by unfold maxLen;omega),by omega,by first | exact QdY | exact Qev rfl⟩,⟨⟨by omega,by omega,(Qaf (z:=2) (fun _=> rfl) (by omega))⟩,⟨⟨by omega,by omega,(Qaf (z:=2) (fun _=> rfl) (by omega))⟩,⟨(Qbl q0),trivial⟩⟩⟩⟩⟩⟩ (by kernel_rfl) (by kernel_rfl))).cast (by rfl)
    ·
     exact ((ih0 _ (by omega)).2.2.1 (0) (out) (n) rfl (by rfl) (by with_reducible assumption) (by (rw [hm,Qga (by omega) ho,List.length_map];omega)) (by exact Qga (by omega) ho)
      (hg0.landM okF hJ Qab (Q0k B s days i out n dJ0)
      ⟨(Qao (Qaw (fun x=> List.all_eq_true.1 (by rfl)))),⟨(Qbq (Int.not_lt.1 q0)),trivial⟩⟩ (by kernel_rfl) (by kernel_rfl))).cast (by rfl)
   ·intro a out n hm0 a0 hm hx ho ⟨dJ0,hdJ0,hg0⟩
    have hgp:=Qa9 hs
    have hst:=Qav hs
    have hlo:=Qa2 hs
    have hgp:=Qa9 hs
    have hst:=Qav hs
    by_cases q0:(a:Int) < (days)
    ·
     exact ((ih0 _ (by omega)).2.2.2.1 (a+s.ghi) (out) ([s.ghi]) (n) (1) rfl (by omega) (by with_reducible assumption) (by with_reducible assumption) (by with_reducible assumption) (by rfl) (by omega) (by omega) (by omega) (by rfl)
      (hg0.landM okF hJ Qab (Q0t B s days a out n dJ0)
      ⟨(Qao (Qaw (fun x=> List.all_eq_true.1 (by rfl)))),⟨(Qeq (by kernel_rfl)),⟨(QaJ (by omega) (by omega)),⟨(Qbl q0),trivial⟩⟩⟩⟩ (by kernel_rfl) (by kernel_rfl))).cast (by rfl)
    ·
     exact ((ih0 _ (by omega)).2.2.2.2.2.2.1 (0) (out) (n) rfl (by omega) (by with_reducible assumption) (by with_reducible assumption) (by with_reducible assumption) (by omega)
      (hg0.landM okF hJ Qab (QzM B s days a out n dJ0)
      ⟨(Qao (Qaw (fun x=> List.all_eq_true.1 (by rfl)))),⟨(Qbq (Int.not_lt.1 q0)),trivial⟩⟩ (by kernel_rfl) (by kernel_rfl))).cast (by rfl)
   ·intro a out gs n gl hm0 a0 hm hx ho gm ga gb gx gr ⟨dJ0,hdJ0,hg0⟩
    have hgp:=Qa9 hs
    have hst:=Qav hs
    have hlo:=Qa2 hs
    have hgp:=Qa9 hs
    by_cases q0:(a:Int) < (days)
    ·
     exact ((ih0 _ (by omega)).2.2.2.1 (a+s.ghi) (out) (gs++[s.ghi]) (n) (gl+1) rfl (by omega) (by with_reducible assumption) (by with_reducible assumption) (by with_reducible assumption) (by exact QeM gm) (by exact Q12 ga) (by omega) (by omega) (by exact Q1A gr)
      (hg0.landM okF hJ Qab (Qz8 B s days a out gs n gl dJ0)
      ⟨(Qao (Qaw (fun x=> List.all_eq_true.1 (by rfl)))),⟨(Qao (Qaw (fun x=> List.all_eq_true.1 (by rfl)))),⟨(QaJ (by omega) (by omega)),⟨⟨(by (rw [Qbp (z:=1) (fun _=> rfl)];first | omega | (simp;omega) | (simp_all;done))),(by unfold maxLen;omega),by omega,by first | exact QdY | exact Qev rfl⟩,⟨(Qbl q0),trivial⟩⟩⟩⟩⟩ (by kernel_rfl) (by kernel_rfl))).cast (by rfl)
    ·
     exact ((ih0 _ (by omega)).2.2.2.2.1 (0) (out) (gs) (n) (gl) rfl (by omega) (by with_reducible assumption) (by with_reducible assumption) (by with_reducible assumption) (by with_reducible assumption) (by omega) (by exact Qy2 gr ga (by omega) (by omega) (by omega) (by omega))
      (hg0.landM okF hJ Qab (Q0r B s days a out gs n gl dJ0)
      ⟨(Qao (Qaw (fun x=> List.all_eq_true.1 (by rfl)))),⟨(Qao (Qaw (fun x=> List.all_eq_true.1 (by rfl)))),⟨(Qbq (Int.not_lt.1 q0)),trivial⟩⟩⟩ (by kernel_rfl) (by kernel_rfl))).cast (by rfl)
   ·intro i out gs n gl hm0 i0 hm hx ho gm gx gr ⟨dJ0,hdJ0,hg0⟩
    have hgp:=Qa9 hs
    have hst:=Qav hs
    have hlo:=Qa2 hs
    have hlo:=Qa2 hs
    have hgp:=Qa9 hs
    by_cases q0:(i:Int) < ((↑s.lots.length:Int))
    ·
     exact ((ih0 _ (by omega)).2.2.2.2.2.2.2.2.1 (i) (0) (out) (gs) (n) (gl) rfl (by with_reducible assumption) (by with_reducible assumption) (by rfl) (by with_reducible assumption) (by with_reducible assumption) (by with_reducible assumption) (by with_reducible assumption) (by with_reducible assumption) (by with_reducible assumption)
      (hg0.landM okF hJ Qab (QyN B s days i out gs n gl dJ0)
      ⟨(Qao (Qaw (fun x=> List.all_eq_true.1 (by rfl)))),⟨(Qao (Qaw (fun x=> List.all_eq_true.1 (by rfl)))),⟨(Qbl q0),trivial⟩⟩⟩ (by kernel_rfl) (by kernel_rfl))).cast (by rfl)
    ·
     exact (GoE.endsT okF hJ Qab hg0 (QzL B s days i out gs n gl dJ0)
      ⟨(Qbe (fun x=> List.all_eq_true.1 (by rfl))),⟨(Qbe (fun x=> List.all_eq_true.1 (by rfl))),⟨(Qbq (Int.not_lt.1 q0)),trivial⟩⟩⟩).cast (by exact Qig (f:=Span.lo) (g:=Span.hi) (s:=s) (days:=days) (z:=0) (zs:=[]) hm ho gm gr rfl (by rw [show s.lots=[] from List.eq_nil_of_length_eq_zero (by omega)];rfl))
   ·intro i out gs zs n gl z hm0 i0 zm zx hz hm hx ho gm gx gr ⟨dJ0,hdJ0,hg0⟩
    have hgp:=Qa9 hs
    have hst:=Qav hs
    have hlo:=Qa2 hs
    have hgp:=Qa9 hs
    by_cases q0:(i:Int) < ((↑s.lots.length:Int))
    ·
     exact ((ih0 _ (by omega)).2.2.2.2.2.2.2.2.2.2.1 (i) (0) (out) (gs) (zs) (n) (gl) (z) rfl (by with_reducible assumption) (by with_reducible assumption) (by rfl) (by with_reducible assumption) (by with_reducible assumption) (by with_reducible assumption) (by with_reducible assumption) (by with_reducible assumption) (by with_reducible assumption) (by with_reducible assumption) (by with_reducible assumption) (by with_reducible assumption)
      (hg0.landM okF hJ Qab (Qz6 B s days i out gs zs n gl z dJ0)
      ⟨(Qao (Qaw (fun x=> List.all_eq_true.1 (by rfl)))),⟨(Qao (Qaw (fun x=> List.all_eq_true.1 (by rfl)))),⟨(by exact (QaN (QaV (fun _=> rfl)) (List.Mem.head _))),⟨(Qbl q0),trivial⟩⟩⟩⟩ (by kernel_rfl) (by kernel_rfl))).cast (by rfl)
    ·
     exact (GoE.endsT okF hJ Qab hg0 (QwA B s days i out gs zs n gl z dJ0)
      ⟨(Qbe (fun x=> List.all_eq_true.1 (by rfl))),⟨(Qbe (fun x=> List.all_eq_true.1 (by rfl))),⟨(Qdo (QaV (fun _=> rfl)) (List.Mem.head _)),⟨(Qbq (Int.not_lt.1 q0)),trivial⟩⟩⟩⟩).cast (by exact Qig (f:=Span.lo) (g:=Span.hi) (s:=s) (days:=days) hm ho gm gr zm (Qga (by omega) hz))
   ·intro i out n hm0 i0 hm hx ho dz ⟨dJ0,hdJ0,hg0⟩
    have hgp:=Qa9 hs
    have hst:=Qav hs
    have hlo:=Qa2 hs
    have hlo:=Qa2 hs
    have hgp:=Qa9 hs
    by_cases q0:(i:Int) < ((↑s.lots.length:Int))
    ·
     exact ((ih0 _ (by omega)).2.2.2.2.2.2.2.2.2.2.2.2.1 (i) (0) (out) (n) rfl (by with_reducible assumption) (by with_reducible assumption) (by rfl) (by with_reducible assumption) (by with_reducible assumption) (by with_reducible assumption) (by with_reducible assumption)
      (hg0.landM okF hJ Qab (QuR B s days i out n dJ0)
      ⟨(Qao (Qaw (fun x=> List.all_eq_true.1 (by rfl)))),⟨(Qbl q0),trivial⟩⟩ (by kernel_rfl) (by kernel_rfl))).cast (by rfl)
    ·
     exact (GoE.endsT okF hJ Qab hg0 (Qw1 B s days i out n dJ0)
      ⟨(Qbe (fun x=> List.all_eq_true.1 (by rfl))),⟨(Qbq (Int.not_lt.1 q0)),trivial⟩⟩).cast (by exact Qig (f:=Span.lo) (g:=Span.hi) (s:=s) (days:=days) (m:=0) (gs:=[]) (z:=0) (zs:=[]) hm ho rfl (QoZ (g:=s.ghi) (days:=days) (by omega) (by omega) (by omega)) rfl (by rw [show s.lots=[] from List.eq_nil_of_length_eq_zero (by omega)];rfl))
   ·intro i out zs n z hm0 i0 zm zx hz hm hx ho dz ⟨dJ0,hdJ0,hg0⟩
    have hgp:=Qa9 hs
    have hst:=Qav hs
    have hlo:=Qa2 hs
    have hgp:=Qa9 hs
    by_cases q0:(i:Int) < ((↑s.lots.length:Int))
    ·
     exact ((ih0 _ (by omega)).2.2.2.2.2.2.2.2.2.2.2.2.2.2.1 (i) (0) (out) (zs) (n) (z) rfl (by with_reducible assumption) (by with_reducible assumption) (by rfl) (by with_reducible assumption) (by with_reducible assumption) (by with_reducible assumption) (by with_reducible assumption) (by with_reducible assumption) (by with_reducible assumption) (by with_reducible assumption)
      (hg0.landM okF hJ Qab (QwF B s days i out zs n z dJ0)
      ⟨(Qao (Qaw (fun x=> List.all_eq_true.1 (by rfl)))),⟨(by exact (QaN (QaV (fun _=> rfl)) (List.Mem.head _))),⟨(Qbl q0),trivial⟩⟩⟩ (by kernel_rfl) (by kernel_rfl))).cast (by rfl)
    ·
     exact (GoE.endsT okF hJ Qab hg0 (QvM B s days i out zs n z dJ0)
      ⟨(Qbe (fun x=> List.all_eq_true.1 (by rfl))),⟨(Qdo (QaV (fun _=> rfl)) (List.Mem.head _)),⟨(Qbq (Int.not_lt.1 q0)),trivial⟩⟩⟩).cast (by exact Qig (f:=Span.lo) (g:=Span.hi) (s:=s) (days:=days) (m:=0) (gs:=[]) hm ho rfl (QoZ (g:=s.ghi) (days:=days) (by omega) (by omega) (by omega)) zm (Qga (by omega) hz))
   ·intro i k out gs n gl hm0 i0 i1 k0 hm hx ho gm gx gr ⟨dJ0,hdJ0,hg0⟩
    have hgp:=Qa9 hs
    have hst:=Qav hs
    have hlo:=Qa2 hs
    have hst:=Qav hs
    have hlo:=Qa2 hs
    have hll:=Qgx hs (i:=i) (by omega) i1
    by_cases q0:(k:Int) < ((↑s.stock.length:Int))
    ·
     exact ((ih0 _ (by omega)).2.2.2.2.2.2.2.2.2.1 (i) (k+1) (out) (gs) ([Span.lo (List.getD (Qad.goods (s.lots.getD i.toNat default)) k.toNat default)]) (n) (gl) (1) rfl (by with_reducible assumption) (by with_reducible assumption) (by omega) (by rfl) (by omega) (by exact Qr5 k0 (by omega)) (by with_reducible assumption) (by with_reducible assumption) (by with_reducible assumption) (by with_reducible assumption) (by with_reducible assumption) (by with_reducible assumption)
      (hg0.landM okF hJ Qab (QuU B s days i k out gs n gl dJ0)
      ⟨(Qao (Qaw (fun x=> List.all_eq_true.1 (by rfl)))),⟨(Qao (Qaw (fun x=> List.all_eq_true.1 (by rfl)))),⟨(Qeq (by kernel_rfl)),⟨(QaJ (by omega) (by omega)),⟨⟨by omega,by omega,(Qaf (z:=2) (fun _=> rfl) (by omega))⟩,⟨⟨by omega,by omega,(Qaf (z:=3) (fun _=> rfl) (by omega))⟩,⟨⟨by omega,by omega,(Qaf (z:=2) (fun _=> rfl) (by omega))⟩,⟨⟨by omega,by omega,(Qaf (z:=3) (fun _=> rfl) (by omega))⟩,⟨(Qbl q0),trivial⟩⟩⟩⟩⟩⟩⟩⟩⟩ (by kernel_rfl) (by kernel_rfl))).cast (by rfl)
    ·
     exfalso
     (have hst:=Qav hs;omega)
   ·intro i k out gs ls n gl w hm0 i0 i1 k0 wm wx hl hm hx ho gm gx gr ⟨dJ0,hdJ0,hg0⟩
    have hgp:=Qa9 hs
    have hst:=Qav hs
    have hlo:=Qa2 hs
    have hst:=Qav hs
    have hlo:=Qa2 hs
    have hll:=Qgx hs (i:=i) (by omega) i1
    by_cases q0:(k:Int) < ((↑s.stock.length:Int))
    ·
     exact ((ih0 _ (by omega)).2.2.2.2.2.2.2.2.2.1 (i) (k+1) (out) (gs) (ls++[Span.lo (List.getD (Qad.goods (s.lots.getD i.toNat default)) k.toNat default)]) (n) (gl) (w+1) rfl (by with_reducible assumption) (by with_reducible assumption) (by omega) (by exact QeM wm) (by omega) (by exact QfZ k0 (by omega) hl) (by with_reducible assumption) (by with_reducible assumption) (by with_reducible assumption) (by with_reducible assumption) (by with_reducible assumption) (by with_reducible assumption)
      (hg0.landM okF hJ Qab (QxN B s days i k out gs ls n gl w dJ0)
      ⟨(Qao (Qaw (fun x=> List.all_eq_true.1 (by rfl)))),⟨(Qao (Qaw (fun x=> List.all_eq_true.1 (by rfl)))),⟨(Qao (Qaw (fun x=> List.all_eq_true.1 (by rfl)))),⟨(QaJ (by omega) (by omega)),⟨⟨(by (rw [Qbp (z:=1) (fun _=> rfl)];first | omega | (simp;omega) | (simp_all;done))),(by unfold maxLen;omega),by omega,by first | exact QdY | exact Qev rfl⟩,⟨⟨by omega,by omega,(Qaf (z:=2) (fun _=> rfl) (by omega))⟩,⟨⟨by omega,by omega,(Qaf (z:=3) (fun _=> rfl) (by omega))⟩,⟨⟨by omega,by omega,(Qaf (z:=2) (fun _=> rfl) (by omega))⟩,⟨⟨by omega,by omega,(Qaf (z:=3) (fun _=> rfl) (by omega))⟩,⟨(Qbl q0),trivial⟩⟩⟩⟩⟩⟩⟩⟩⟩⟩ (by kernel_rfl) (by kernel_rfl))).cast (by rfl)
    ·
     exact ((ih0 _ (by omega)).2.2.2.2.2.1 (i+1) (out) (gs) ([{n:=w,xs:=ls}]) (n) (gl) (1) rfl (by omega) (by rfl) (by omega) (by (rw [Q0a (l:=s.lots.getD i.toNat default) wm (Qga (by omega) hl)];exact Qr5 i0 i1)) (by with_reducible assumption) (by with_reducible assumption) (by with_reducible assumption) (by with_reducible assumption) (by with_reducible assumption) (by with_reducible assumption)
      (hg0.landM okF hJ Qab (QxU B s days i k out gs ls n gl w dJ0)
      (by exact ⟨(Qao (Qaw (fun x=> List.all_eq_true.1 (by rfl)))),⟨(Qao (Qaw (fun x=> List.all_eq_true.1 (by rfl)))),⟨(by exact (QgK (by exact ⟨(.own (List.Mem.head _)),trivial⟩))),⟨(Qbe (fun x=> List.all_eq_true.1 (by rfl))),⟨(QaJ (by omega) (by omega)),⟨(Qbq (Int.not_lt.1 q0)),trivial⟩⟩⟩⟩⟩⟩) (by kernel_rfl) (by kernel_rfl))).cast (by rfl)
   ·intro i k out gs zs n gl z hm0 i0 i1 k0 zm zx hz hm hx ho gm gx gr ⟨dJ0,hdJ0,hg0⟩
    have hgp:=Qa9 hs
    have hst:=Qav hs
    have hlo:=Qa2 hs
    have hst:=Qav hs
    have hlo:=Qa2 hs
    have hll:=Qgx hs (i:=i) (by omega) i1
    by_cases q0:(k:Int) < ((↑s.stock.length:Int))
    ·
     exact ((ih0 _ (by omega)).2.2.2.2.2.2.2.2.2.2.2.1 (i) (k+1) (out) (gs) ([Span.lo (List.getD (Qad.goods (s.lots.getD i.toNat default)) k.toNat default)]) (zs) (n) (gl) (z) (1) rfl (by with_reducible assumption) (by with_reducible assumption) (by omega) (by rfl) (by omega) (by exact Qr5 k0 (by omega)) (by with_reducible assumption) (by with_reducible assumption) (by with_reducible assumption) (by with_reducible assumption) (by with_reducible assumption) (by with_reducible assumption) (by with_reducible assumption) (by with_reducible assumption) (by with_reducible assumption)
      (hg0.landM okF hJ Qab (QvE B s days i k out gs zs n gl z dJ0)
      ⟨(Qao (Qaw (fun x=> List.all_eq_true.1 (by rfl)))),⟨(Qao (Qaw (fun x=> List.all_eq_true.1 (by rfl)))),⟨(by exact (QaN (QaV (fun _=> rfl)) (List.Mem.head _))),⟨(Qeq (by kernel_rfl)),⟨(QaJ (by omega) (by omega)),⟨⟨by omega,by omega,(Qaf (z:=2) (fun _=> rfl) (by omega))⟩,⟨⟨by omega,by omega,(Qaf (z:=3) (fun _=> rfl) (by omega))⟩,⟨⟨by omega,by omega,(Qaf (z:=2) (fun _=> rfl) (by omega))⟩,⟨⟨by omega,by omega,(Qaf (z:=3) (fun _=> rfl) (by omega))⟩,⟨(Qbl q0),trivial⟩⟩⟩⟩⟩⟩⟩⟩⟩⟩ (by kernel_rfl) (by kernel_rfl))).cast (by rfl)
    ·
     exfalso
     (have hst:=Qav hs;omega)
   ·intro i k out gs ls zs n gl z w hm0 i0 i1 k0 wm wx hl zm zx hz hm hx ho gm gx gr ⟨dJ0,hdJ0,hg0⟩
    have hgp:=Qa9 hs
    have hst:=Qav hs
    have hlo:=Qa2 hs
    have hst:=Qav hs
    have hlo:=Qa2 hs
    have hll:=Qgx hs (i:=i) (by omega) i1
    by_cases q0:(k:Int) < ((↑s.stock.length:Int))
    ·
     exact ((ih0 _ (by omega)).2.2.2.2.2.2.2.2.2.2.2.1 (i) (k+1) (out) (gs) (ls++[Span.lo (List.getD (Qad.goods (s.lots.getD i.toNat default)) k.toNat default)]) (zs) (n) (gl) (z) (w+1) rfl (by with_reducible assumption) (by with_reducible assumption) (by omega) (by exact QeM wm) (by omega) (by exact QfZ k0 (by omega) hl) (by with_reducible assumption) (by with_reducible assumption) (by with_reducible assumption) (by with_reducible assumption) (by with_reducible assumption) (by with_reducible assumption) (by with_reducible assumption) (by with_reducible assumption) (by with_reducible assumption)
      (hg0.landM okF hJ Qab (QxP B s days i k out gs ls zs n gl z w dJ0)
      ⟨(Qao (Qaw (fun x=> List.all_eq_true.1 (by rfl)))),⟨(Qao (Qaw (fun x=> List.all_eq_true.1 (by rfl)))),⟨(by exact (QaN (QaV (fun _=> rfl)) (List.Mem.head _))),⟨(Qao (Qaw (fun x=> List.all_eq_true.1 (by rfl)))),⟨(QaJ (by omega) (by omega)),⟨⟨(by (rw [Qbp (z:=1) (fun _=> rfl)];first | omega | (simp;omega) | (simp_all;done))),(by unfold maxLen;omega),by omega,by first | exact QdY | exact Qev rfl⟩,⟨⟨by omega,by omega,(Qaf (z:=2) (fun _=> rfl) (by omega))⟩,⟨⟨by omega,by omega,(Qaf (z:=3) (fun _=> rfl) (by omega))⟩,⟨⟨by omega,by omega,(Qaf (z:=2) (fun _=> rfl) (by omega))⟩,⟨⟨by omega,by omega,(Qaf (z:=3) (fun _=> rfl) (by omega))⟩,⟨(Qbl q0),trivial⟩⟩⟩⟩⟩⟩⟩⟩⟩⟩⟩ (by kernel_rfl) (by kernel_rfl))).cast (by rfl)
    ·
     exact ((ih0 _ (by omega)).2.2.2.2.2.1 (i+1) (out) (gs) (zs++[{n:=w,xs:=ls}]) (n) (gl) (z+1) rfl (by omega) (by exact QeM zm) (by omega) (by (rw [Q0a (l:=s.lots.getD i.toNat default) wm (Qga (by omega) hl)];exact QfZ i0 i1 hz)) (by with_reducible assumption) (by with_reducible assumption) (by with_reducible assumption) (by with_reducible assumption) (by with_reducible assumption) (by with_reducible assumption)
      (hg0.landM okF hJ Qab (QwC B s days i k out gs ls zs n gl z w dJ0)
      (by exact ⟨(Qao (Qaw (fun x=> List.all_eq_true.1 (by rfl)))),⟨(Qao (Qaw (fun x=> List.all_eq_true.1 (by rfl)))),⟨(by exact (QfD (QaN (QaV (fun _=> rfl)) (List.Mem.head _)) (by exact ⟨(.own (List.Mem.head _)),trivial⟩))),⟨(Qbe (fun x=> List.all_eq_true.1 (by rfl))),⟨(QaJ (by omega) (by omega)),⟨⟨(by (rw [Qbp (z:=1) (fun _=> rfl)];first | omega | (simp;omega) | (simp_all;done))),(by unfold maxLen;omega),by omega,rfl⟩,⟨(Qbq (Int.not_lt.1 q0)),trivial⟩⟩⟩⟩⟩⟩⟩) (by kernel_rfl) (by kernel_rfl))).cast (by rfl)
   ·intro i k out n hm0 i0 i1 k0 hm hx ho dz ⟨dJ0,hdJ0,hg0⟩
    have hgp:=Qa9 hs
    have hst:=Qav hs
    have hlo:=Qa2 hs
    have hst:=Qav hs
    have hlo:=Qa2 hs
    have hll:=Qgx hs (i:=i) (by omega) i1
    by_cases q0:(k:Int) < ((↑s.stock.length:Int))
    ·
     exact ((ih0 _ (by omega)).2.2.2.2.2.2.2.2.2.2.2.2.2.1 (i) (k+1) (out) ([Span.lo (List.getD (Qad.goods (s.lots.getD i.toNat default)) k.toNat default)]) (n) (1) rfl (by with_reducible assumption) (by with_reducible assumption) (by omega) (by rfl) (by omega) (by exact Qr5 k0 (by omega)) (by with_reducible assumption) (by with_reducible assumption) (by with_reducible assumption) (by with_reducible assumption)
      (hg0.landM okF hJ Qab (QuM B s days i k out n dJ0)
      ⟨(Qao (Qaw (fun x=> List.all_eq_true.1 (by rfl)))),⟨(Qeq (by kernel_rfl)),⟨(QaJ (by omega) (by omega)),⟨⟨by omega,by omega,(Qaf (z:=2) (fun _=> rfl) (by omega))⟩,⟨⟨by omega,by omega,(Qaf (z:=3) (fun _=> rfl) (by omega))⟩,⟨⟨by omega,by omega,(Qaf (z:=2) (fun _=> rfl) (by omega))⟩,⟨⟨by omega,by omega,(Qaf (z:=3) (fun _=> rfl) (by omega))⟩,⟨(Qbl q0),trivial⟩⟩⟩⟩⟩⟩⟩⟩ (by kernel_rfl) (by kernel_rfl))).cast (by rfl)
    ·
     exfalso
     (have hst:=Qav hs;omega)
   ·intro i k out ls n w hm0 i0 i1 k0 wm wx hl hm hx ho dz ⟨dJ0,hdJ0,hg0⟩
    have hgp:=Qa9 hs
    have hst:=Qav hs
    have hlo:=Qa2 hs
    have hst:=Qav hs
    have hlo:=Qa2 hs
    have hll:=Qgx hs (i:=i) (by omega) i1
    by_cases q0:(k:Int) < ((↑s.stock.length:Int))
    ·
     exact ((ih0 _ (by omega)).2.2.2.2.2.2.2.2.2.2.2.2.2.1 (i) (k+1) (out) (ls++[Span.lo (List.getD (Qad.goods (s.lots.getD i.toNat default)) k.toNat default)]) (n) (w+1) rfl (by with_reducible assumption) (by with_reducible assumption) (by omega) (by exact QeM wm) (by omega) (by exact QfZ k0 (by omega) hl) (by with_reducible assumption) (by with_reducible assumption) (by with_reducible assumption) (by with_reducible assumption)
      (hg0.landM okF hJ Qab (QwR B s days i k out ls n w dJ0)
      ⟨(Qao (Qaw (fun x=> List.all_eq_true.1 (by rfl)))),⟨(Qao (Qaw (fun x=> List.all_eq_true.1 (by rfl)))),⟨(QaJ (by omega) (by omega)),⟨⟨(by (rw [Qbp (z:=1) (fun _=> rfl)];first | omega | (simp;omega) | (simp_all;done))),(by unfold maxLen;omega),by omega,by first | exact QdY | exact Qev rfl⟩,⟨⟨by omega,by omega,(Qaf (z:=2) (fun _=> rfl) (by omega))⟩,⟨⟨by omega,by omega,(Qaf (z:=3) (fun _=> rfl) (by omega))⟩,⟨⟨by omega,by omega,(Qaf (z:=2) (fun _=> rfl) (by omega))⟩,⟨⟨by omega,by omega,(Qaf (z:=3) (fun _=> rfl) (by omega))⟩,⟨(Qbl q0),trivial⟩⟩⟩⟩⟩⟩⟩⟩⟩ (by kernel_rfl) (by kernel_rfl))).cast (by rfl)
    ·
     exact ((ih0 _ (by omega)).2.2.2.2.2.2.2.1 (i+1) (out) ([{n:=w,xs:=ls}]) (n) (1) rfl (by omega) (by rfl) (by omega) (by (rw [Q0a (l:=s.lots.getD i.toNat default) wm (Qga (by omega) hl)];exact Qr5 i0 i1)) (by with_reducible assumption) (by with_reducible assumption) (by with_reducible assumption) (by with_reducible assumption)
      (hg0.landM okF hJ Qab (QwY B s days i k out ls n w dJ0)
      (by exact ⟨(Qao (Qaw (fun x=> List.all_eq_true.1 (by rfl)))),⟨(by exact (QgK (by exact ⟨(.own (List.Mem.head _)),trivial⟩))),⟨(Qbe (fun x=> List.all_eq_true.1 (by rfl))),⟨(QaJ (by omega) (by omega)),⟨(Qbq (Int.not_lt.1 q0)),trivial⟩⟩⟩⟩⟩) (by kernel_rfl) (by kernel_rfl))).cast (by rfl)
   ·intro i k out zs n z hm0 i0 i1 k0 zm zx hz hm hx ho dz ⟨dJ0,hdJ0,hg0⟩
    have hgp:=Qa9 hs
    have hst:=Qav hs
    have hlo:=Qa2 hs
    have hst:=Qav hs
    have hlo:=Qa2 hs
    have hll:=Qgx hs (i:=i) (by omega) i1
    by_cases q0:(k:Int) < ((↑s.stock.length:Int))
    ·
     exact ((ih0 _ (by omega)).2.2.2.2.2.2.2.2.2.2.2.2.2.2.2 (i) (k+1) (out) ([Span.lo (List.getD (Qad.goods (s.lots.getD i.toNat default)) k.toNat default)]) (zs) (n) (z) (1) rfl (by with_reducible assumption) (by with_reducible assumption) (by omega) (by rfl) (by omega) (by exact Qr5 k0 (by omega)) (by with_reducible assumption) (by with_reducible assumption) (by with_reducible assumption) (by with_reducible assumption) (by with_reducible assumption) (by with_reducible assumption) (by with_reducible assumption)
      (hg0.landM okF hJ Qab (Qxa B s days i k out zs n z dJ0)
      ⟨(Qao (Qaw (fun x=> List.all_eq_true.1 (by rfl)))),⟨(by exact (QaN (QaV (fun _=> rfl)) (List.Mem.head _))),⟨(Qeq (by kernel_rfl)),⟨(QaJ (by omega) (by omega)),⟨⟨by omega,by omega,(Qaf (z:=2) (fun _=> rfl) (by omega))⟩,⟨⟨by omega,by omega,(Qaf (z:=3) (fun _=> rfl) (by omega))⟩,⟨⟨by omega,by omega,(Qaf (z:=2) (fun _=> rfl) (by omega))⟩,⟨⟨by omega,by omega,(Qaf (z:=3) (fun _=> rfl) (by omega))⟩,⟨(Qbl q0),trivial⟩⟩⟩⟩⟩⟩⟩⟩⟩ (by kernel_rfl) (by kernel_rfl))).cast (by rfl)
    ·
     exfalso
     (have hst:=Qav hs;omega)
   ·intro i k out ls zs n z w hm0 i0 i1 k0 wm wx hl zm zx hz hm hx ho dz ⟨dJ0,hdJ0,hg0⟩
    have hgp:=Qa9 hs
    have hst:=Qav hs
    have hlo:=Qa2 hs
    have hst:=Qav hs
    have hlo:=Qa2 hs
    have hll:=Qgx hs (i:=i) (by omega) i1
    by_cases q0:(k:Int) < ((↑s.stock.length:Int))
    ·
     exact ((ih0 _ (by omega)).2.2.2.2.2.2.2.2.2.2.2.2.2.2.2 (i) (k+1) (out) (ls++[Span.lo (List.getD (Qad.goods (s.lots.getD i.toNat default)) k.toNat default)]) (zs) (n) (z) (w+1) rfl (by with_reducible assumption) (by with_reducible assumption) (by omega) (by exact QeM wm) (by omega) (by exact QfZ k0 (by omega) hl) (by with_reducible assumption) (by with_reducible assumption) (by with_reducible assumption) (by with_reducible assumption) (by with_reducible assumption) (by with_reducible assumption) (by with_reducible assumption)
      (hg0.landM okF hJ Qab (QvD B s days i k out ls zs n z w dJ0)
      ⟨(Qao (Qaw (fun x=> List.all_eq_true.1 (by rfl)))),⟨(by exact (QaN (QaV (fun _=> rfl)) (List.Mem.head _))),⟨(Qao (Qaw (fun x=> List.all_eq_true.1 (by rfl)))),⟨(QaJ (by omega) (by omega)),⟨⟨(by (rw [Qbp (z:=1) (fun _=> rfl)];first | omega | (simp;omega) | (simp_all;done))),(by unfold maxLen;omega),by omega,by first | exact QdY | exact Qev rfl⟩,⟨⟨by omega,by omega,(Qaf (z:=2) (fun _=> rfl) (by omega))⟩,⟨⟨by omega,by omega,(Qaf (z:=3) (fun _=> rfl) (by omega))⟩,⟨⟨by omega,by omega,(Qaf (z:=2) (fun _=> rfl) (by omega))⟩,⟨⟨by omega,by omega,(Qaf (z:=3) (fun _=> rfl) (by omega))⟩,⟨(Qbl q0),trivial⟩⟩⟩⟩⟩⟩⟩⟩⟩⟩ (by kernel_rfl) (by kernel_rfl))).cast (by rfl)
    ·
     exact ((ih0 _ (by omega)).2.2.2.2.2.2.2.1 (i+1) (out) (zs++[{n:=w,xs:=ls}]) (n) (z+1) rfl (by omega) (by exact QeM zm) (by omega) (by (rw [Q0a (l:=s.lots.getD i.toNat default) wm (Qga (by omega) hl)];exact QfZ i0 i1 hz)) (by with_reducible assumption) (by with_reducible assumption) (by with_reducible assumption) (by with_reducible assumption)
      (hg0.landM okF hJ Qab (QwE B s days i k out ls zs n z w dJ0)
      (by exact ⟨(Qao (Qaw (fun x=> List.all_eq_true.1 (by rfl)))),⟨(by exact (QfD (QaN (QaV (fun _=> rfl)) (List.Mem.head _)) (by exact ⟨(.own (List.Mem.head _)),trivial⟩))),⟨(Qbe (fun x=> List.all_eq_true.1 (by rfl))),⟨(QaJ (by omega) (by omega)),⟨⟨(by (rw [Qbp (z:=1) (fun _=> rfl)];first | omega | (simp;omega) | (simp_all;done))),(by unfold maxLen;omega),by omega,rfl⟩,⟨(Qbq (Int.not_lt.1 q0)),trivial⟩⟩⟩⟩⟩⟩) (by kernel_rfl) (by kernel_rfl))).cast (by rfl)
set_option maxHeartbeats 4000000 in
theorem Q1q (s:Qaa) (days:Int) (hs:Qa8 s=true) (hd:0<=days/\days<=300) {B:Lo} (hJ:∀w,B.has w->J0 w):EndsT Tryz.prog B (Qai Tryz.prog 47 107 (([.agg (Qah s).toArray,.int .i64 days,.bool true]).map (Qaq 0 4))) (.agg (QaI (Qae Span.lo Span.hi s days)).toArray):=by
 have hgp:=Qa9 hs
 have hst:=Qav hs
 have hlo:=Qa2 hs
 exact ((Qy1 s days hs hd hJ _).1 (0) rfl (by omega)
  (GoE.start.landM okF hJ Qab (Qv8 B s days)
  trivial (by kernel_rfl) (by kernel_rfl))).cast (by rfl)
theorem Q3S (s:Qaa) (days:Int) (hs:Qa8 s=true) (hd:0<=days/\days<=300):Qas Tryz.prog J0 47 #[.agg (Qah s).toArray,.int .i64 days,.bool true] (.agg (QaI (Qae Span.lo Span.hi s days)).toArray):=
 QaE (ts:=[.agg (Qah s).toArray,.int .i64 days,.bool true]) Qb6 (c0:=Qai Tryz.prog 47 107 (([.agg (Qah s).toArray,.int .i64 days,.bool true]).map (Qaq 0 4))) (by kernel_rfl) (by kernel_rfl) fun B hJ=> Q1q s days hs hd hJ
end
end Go.Proofs.YtiabgkiccaodmaaGreat

namespace Go.Proofs.YtiabgkiccaodmaaGreat
open Go Go.CE Go.RowKit
set_option maxRecDepth 100000
theorem getD_map {α β:Type} [Inhabited α] [Inhabited β] {f:α->β} {l:List α} {k:Nat} (h:k < l.length):(l.map f).getD k default=f (l.getD k default):=by
 simp [List.getD_eq_getElem?_getD,h]
theorem QqF {a b x:Int}:x∈upI a b<->a<=x/\x < b:=by
 refine ⟨Qg0,fun h=> ?_⟩
 unfold upI
 exact List.mem_map.2 ⟨(x - a).toNat,List.mem_range.2 (by omega),by omega⟩
def QuX (f:Span->Int):Prop:=∀x:Span,x.lo<=x.hi->x.lo<=f x/\f x<=x.hi
theorem QcZ:QuX Span.lo:=fun _ h=> ⟨Int.le_refl _,h⟩
theorem Qda:QuX Span.hi:=fun _ h=> ⟨h,Int.le_refl _⟩
theorem QlR {ss:List Span} {f:Span->Int} (hf:QuX f) (h:∀x∈ss,x.lo<=x.hi):Qf4 (ss.map f) ss=true:=by
 unfold Qf4 Q4l
 rw [List.length_map,decide_eq_true rfl,Bool.true_and,List.all_eq_true]
 intro k hk
 have hk:=QqF.1 hk
 rw [getD_map (by omega),QaW]
 exact hf _ (h _ (QaB (l:=ss) hk.1 hk.2))
theorem QrJ {x:Int}:∀n:Nat,QeE (List.replicate n x)=n * x
 | 0=> by simp [QeE]
 | n+1=> by
   rw [List.replicate_succ];show x+QeE (List.replicate n x)=_
   rw [QrJ n,Int.natCast_add,Int.add_mul];omega
theorem Q1n {d g:Int} (hd:0<=d) (hg:1<=g):d<=((d+g - 1).tdiv g).toNat * g:=by
 rw [Int.tdiv_eq_ediv_of_nonneg (by omega)]
 have h0:0<=(d+g - 1) / g:=Int.ediv_nonneg (by omega) (by omega)
 rw [Int.toNat_of_nonneg h0]
 have h1:=Int.lt_ediv_add_one_mul_self (d+g - 1) (show 0 < g by omega)
 rw [Int.add_mul] at h1
 omega
theorem Qcg {f g:Span->Int} {s:Qaa} {days:Int} (hf:QuX f) (hg:QuX g) (hs:Qa8 s=true) (hd:0<=days/\days<=300):Qc5 s days (Qae f g s days)=true:=by
 have hgp:=Qa9 hs
 have hst:=Qav hs
 have hlo:=Qa2 hs
 have hgg:=hg ⟨s.glo,s.ghi⟩ hgp.2.1
 have hqf:=Qe5 (g:=g ⟨s.glo,s.ghi⟩) hd (by simp only at hgg;omega)
 simp only at hgg
 have h1:Qf4 (Qae f g s days).uses s.use=true:=QlR hg fun x hx=> (hst.2.2.2 x hx).2.1
 have h2:QlU s days (Qae f g s days).gaps=true:=by
  have e:(Qae f g s days).gaps=List.replicate ((days+g ⟨s.glo,s.ghi⟩ - 1).tdiv (g ⟨s.glo,s.ghi⟩)).toNat (g ⟨s.glo,s.ghi⟩):=rfl
  rw [e]
  unfold QlU
  rw [List.length_replicate,decide_eq_true (by omega),Bool.true_and,Bool.and_eq_true,List.all_eq_true]
  refine ⟨fun x hx=> ?_,decide_eq_true ?_⟩
  ·rw [(List.mem_replicate.1 hx).2,QaW];exact hgg
  ·rw [QrJ];exact Q1n hd.1 (by omega)
 have h3:QmG s (Qae f g s days).goods=true:=by
  have e:(Qae f g s days).goods=s.lots.map fun (l:Qad)=> (l.goods.map f:Row):=rfl
  rw [e]
  unfold QmG Q4g
  rw [List.length_map,decide_eq_true rfl,Bool.true_and,List.all_eq_true]
  intro k hk
  have hk:=QqF.1 hk
  have hm:=QaB (l:=s.lots) hk.1 hk.2
  have e:(s.lots.map fun (l:Qad)=> (l.goods.map f:Row)).getD k.toNat default=(s.lots.getD k.toNat default).goods.map f:=getD_map (f:=fun (l:Qad)=> (l.goods.map f:Row)) (by omega)
  rw [e]
  exact QlR hf fun x hx=> ((Qc6 (hlo.2 _ hm)).2.1 x hx).2.1
 unfold Qc5
 rw [h1,h2,h3];rfl
structure Wnt where
 may:Int
 must:Int
deriving Inhabited
noncomputable def QfU (s:Qaa) (days:Int):Array Value:=#[slT (List.length (Qat.uses (Qae Span.lo Span.hi s days))) (Qac Qar (Qat.uses (Qae Span.lo Span.hi s days))),slT (List.length (Qat.gaps (Qae Span.lo Span.hi s days))) (Qac Qar (Qat.gaps (Qae Span.lo Span.hi s days))),slT (List.length (Qat.goods (Qae Span.lo Span.hi s days))) (Qac Qaz (Qat.goods (Qae Span.lo Span.hi s days)))]
theorem Qp2 (B:Lo) (s:Qaa) (load days:Int):Qbb (Qak Tryz.prog (Qa1 Tryz.prog) J0 B 6 1 (Qai Tryz.prog 128 7 (([.agg (QaO s load days).toArray]).map (Qaq 0 4))) H00 1
 [(4,Qaj.pure (.agg (QfU s days)) []),(5,Qaj.pure (slT (List.length (QaD s load days (Qae Span.lo Span.hi s days))) (Qac Qcv (QaD s load days (Qae Span.lo Span.hi s days)))) [])] 0 [] []) []=some (slT (List.length (QaD s load days (Qae Span.lo Span.hi s days))) (Qac Qcv (QaD s load days (Qae Span.lo Span.hi s days))),
 [Qa7 []/\Qas Tryz.prog J0 84 #[.agg #[slT s.stock.length (Qac Qar s.stock),slT s.use.length (Qac Qa6 s.use),.int .i64 s.glo,.int .i64 s.ghi,slT s.lots.length (Qac Qam s.lots),.int .i64 s.hold,.int .i64 load,.int .i64 days],.agg (QfU s days)] (slT (List.length (QaD s load days (Qae Span.lo Span.hi s days))) (Qac Qcv (QaD s load days (Qae Span.lo Span.hi s days)))),Qa7 []/\Qas Tryz.prog J0 150 #[.agg #[slT s.stock.length (Qac Qar s.stock),slT s.use.length (Qac Qa6 s.use),.int .i64 s.glo,.int .i64 s.ghi,slT s.lots.length (Qac Qam s.lots),.int .i64 s.hold,.int .i64 load,.int .i64 days],Value.func (Fn.func 104) #[] #[],Value.func (Fn.func 103) #[] #[]] (.agg (QfU s days))]):=by kernel_rfl
set_option maxHeartbeats 4000000 in
theorem Qrm (s:Qaa) (load days:Int) (hs:Qa8 s=true) (hd:0<=days/\days<=300) (h0:0<=load) (h1:load < 64) (hx:Qcf load<=s.lots.length) {B:Lo} (hJ:∀w,B.has w->J0 w):EndsT Tryz.prog B (Qai Tryz.prog 128 7 (([.agg (QaO s load days).toArray]).map (Qaq 0 4))) (slG (QaD s load days (Qae Span.lo Span.hi s days))):=by
 have ht1:=Qcg QcZ Qda hs hd
 have ht2:=Qcg Qda QcZ hs hd
 exact (GoE.endsT okF hJ Qab GoE.start (Qp2 B s load days)
  ⟨⟨trivial,Q33 (s) (load) (days) (Qae Span.lo Span.hi s days) (by with_reducible assumption) (by with_reducible assumption) (by with_reducible assumption) (by with_reducible assumption) (by with_reducible assumption) (by with_reducible assumption)⟩,⟨⟨trivial,Q2a (s) (load) (days) (by with_reducible assumption) (by with_reducible assumption)⟩,trivial⟩⟩).cast (by rfl)
theorem QuZ (s:Qaa) (load days:Int) (hs:Qa8 s=true) (hd:0<=days/\days<=300) (h0:0<=load) (h1:load < 64) (hx:Qcf load<=s.lots.length):Qas Tryz.prog J0 128 #[.agg (QaO s load days).toArray] (slG (QaD s load days (Qae Span.lo Span.hi s days))):=
 QaE (ts:=[.agg (QaO s load days).toArray]) Qb6 (c0:=Qai Tryz.prog 128 7 (([.agg (QaO s load days).toArray]).map (Qaq 0 4))) (by kernel_rfl) (by kernel_rfl) fun B hJ=> Qrm s load days hs hd h0 h1 hx hJ
end Go.Proofs.YtiabgkiccaodmaaGreat

namespace Go.Proofs.YtiabgkiccaodmaaGreat
open Go Go.CE Go.RowKit
set_option maxRecDepth 100000
theorem Q3s {a b:Wnt}:a=b<->a.may=b.may/\a.must=b.must:=by
 cases a;cases b;simp
instance:DecidableEq Wnt:=fun a b=> decidable_of_iff _ Q3s.symm
end Go.Proofs.YtiabgkiccaodmaaGreat

