/- The reference's truths at the ends. -/
import Derived.Test.YtiabgkiccaodmaaGreatZRA13
import Derived.Test.YtiabgkiccaodmaaGreatZRA12
set_option linter.all false
namespace Go.Proofs.YtiabgkiccaodmaaGreat
open Go Go.CE Go.RowKit
noncomputable section
set_option maxRecDepth 100000
theorem map_cons {α β:Type} [Inhabited α] {f:α->β} {l:List α} {i:Int} (h0:0<=i) (h:i < l.length):(l.drop i.toNat).map f=f (l.getD i.toNat default)::(l.drop (i+1).toNat).map f:=by
 rw [drop_cons h0 h];rfl
theorem map_nil {α β:Type} {f:α->β} {l:List α} {i:Int} (h:l.length<=i):(l.drop i.toNat).map f=[]:=by
 rw [QjF h];rfl
def Qoh {α β:Type} (f:α->β) (l:List α) (i:Int) (out:List β):Prop:=out++(l.drop i.toNat).map f=l.map f
theorem Q4b {α β:Type} {f:α->β} {l:List α}:Qoh f l 0 []:=rfl
theorem Qgt {α β:Type} [Inhabited α] {f:α->β} {l:List α} {i:Int} {out:List β} (h0:0<=i) (h:i < l.length) (hg:Qoh f l i out):Qoh f l (i+1) (out++[f (l.getD i.toNat default)]):=by
 unfold Qoh at hg ⊢
 rw [map_cons h0 h] at hg
 rw [List.append_assoc];exact hg
theorem QrA {α β:Type} [Inhabited α] {f:α->β} {l:List α} {i:Int} (h0:i=0) (h:i < l.length):Qoh f l (i+1) [f (l.getD i.toNat default)]:=by
 subst h0
 exact Qgt (f:=f) (l:=l) (i:=0) (out:=[]) (Int.le_refl _) h Q4b
theorem Qgv {α β:Type} {f:α->β} {l:List α} {i:Int} {out:List β} (h:l.length<=i) (hg:Qoh f l i out):out=l.map f:=by
 unfold Qoh at hg
 rw [map_nil h,List.append_nil] at hg;exact hg
theorem Q0T {a g:Int} {n:Nat} (h:a=n * g):a+g=((n+1:Nat):Int) * g:=by
 rw [Int.natCast_add,Int.add_mul];omega
theorem QeQ {α:Type} {n:Nat} {x:α} {l:List α} (h:n=l.length):n+1=(l++[x]).length:=by
 rw [List.length_append,<-h];rfl
theorem Q0V {x:Int} {gs:List Int} {m:Nat} (h:gs=List.replicate m x):gs++[x]=List.replicate (m+1) x:=by
 subst h;exact List.replicate_succ'.symm
theorem Q1W {a days g:Int} {n:Nat} (hg:1<=g) (h:a=n * g) (h1:days<=a) (h2:a < days+g) (h0:0<=days):n=((days+g - 1).tdiv g).toNat:=by
 rw [Int.tdiv_eq_ediv_of_nonneg (by omega)]
 have e:(days+g - 1) / g=n:=by
  have a1:(n:Int)<=(days+g - 1) / g:=Int.le_ediv_of_mul_le (by omega) (by omega)
  have a2:(days+g - 1) / g < (n:Int)+1:=Int.ediv_lt_of_lt_mul (by omega) (by rw [Int.add_mul];omega)
  omega
 rw [e];rfl
theorem Qzp {a days g:Int} {n:Nat} {gs:List Int} (gr:gs=List.replicate n g) (h:a=n * g) (hg:1<=g) (h1:days<=a) (h2:a < days+g) (h0:0<=days):gs=List.replicate ((days+g - 1).tdiv g).toNat g:=by
 rw [gr,Q1W hg h h1 h2 h0]
structure RW where
 n:Nat
 xs:List Int
deriving Inhabited
def Qbo (r:RW):List Value:=[slT r.n (Qac Qar r.xs)]
theorem Qpx {g days:Int} (hg:1<=g) (hd:days<=0) (h0:0<=days):([]:List Int)=List.replicate ((days+g - 1).tdiv g).toNat g:=by
 rw [Int.tdiv_eq_ediv_of_nonneg (by omega),show days+g - 1=g - 1 by omega,Int.ediv_eq_zero_of_lt (by omega) (by omega)];rfl
def QuG (f:Span->Int) (l:Qad):RW:=⟨l.goods.length,l.goods.map f⟩
theorem QzM {f:Span->Int} {l:Qad} {w:Nat} {ls:List Int} (wm:w=ls.length) (hl:ls=l.goods.map f):(⟨w,ls⟩:RW)=QuG f l:=by
 subst wm hl;simp [QuG]
theorem Qze {f:Span->Int} (lots:List Qad):Qac Qbo (lots.map (QuG f))=Qac Qaz (lots.map fun l=> (l.goods.map f:Row)):=by
 have e:∀l:Qad,Qbo (QuG f l)=Qaz (l.goods.map f:Row):=fun l=> by
  show [slT l.goods.length (Qac Qar (l.goods.map f))]=[slT (l.goods.map f).length (Qac Qar (l.goods.map f))]
  rw [List.length_map]
 have h:(lots.map (QuG f)).flatMap Qbo=(lots.map fun l=> (l.goods.map f:Row)).flatMap Qaz:=by
  induction lots with
  | nil=> rfl
  | cons l ls ih=> rw [List.map_cons,List.map_cons,List.flatMap_cons,List.flatMap_cons,ih,e]
 unfold Qac
 rw [h]
theorem Qir {f g:Span->Int} {s:Qaa} {days:Int} {out gs:List Int} {zs:List RW} {n m z:Nat} (hm:n=out.length) (ho:out=s.use.map g) (gm:m=gs.length) (gr:gs=List.replicate ((days+g ⟨s.glo,s.ghi⟩ - 1).tdiv (g ⟨s.glo,s.ghi⟩)).toNat (g ⟨s.glo,s.ghi⟩)) (zm:z=zs.length) (hz:zs=s.lots.map (QuG f)):
 Value.agg #[slT n (Qac Qar out),slT m (Qac Qar gs),slT z (Qac Qbo zs)]=.agg (QaH (Qae f g s days)).toArray:=by
 subst hm gm zm
 rw [hz,Qze,List.length_map,ho,gr]
 show Value.agg #[_,_,_]=Value.agg #[slI _,slI _,slR _]
 rw [show (s.lots.length)=(s.lots.map fun l=> (l.goods.map f:Row)).length by rw [List.length_map]]
 rfl
theorem QgA {s:Qaa} (hs:Qa8 s=true) {i:Int} (h0:0<=i) (h:i < s.lots.length):(s.lots.getD i.toNat default).goods.length=s.stock.length:=(QcA ((Qa2 hs).2 _ (QaB (l:=s.lots) h0 h))).1
def QnN (s:Qaa) (days:Int) (i:Int):List Value:=[.int .i64 days,.bool true,pA 2 0,pA 3 0,pA 4 0,.int .i64 i]
def QhM (s:Qaa) (days:Int) (i:Int):List Obj:=[Obj.cells #[Qa0 1 (slT s.stock.length (Qac Qar s.stock)),Qa0 1 (slT s.use.length (Qac Qa6 s.use)),.int .i64 s.glo,.int .i64 s.ghi,Qa0 1 (slT s.lots.length (Qac Qam s.lots)),.int .i64 s.hold] 62,Obj.cells #[.slice none 0 0,.slice none 0 0,.slice none 0 0] 65,Obj.cells #[.slice none 0 0,.slice none 0 0,.slice none 0 0] 65]
def Qne:List Item:=([.code [1,1,0,1,0,0],.inLoop [1,1,0,1,0,0],.inBlock 0,.code [1,1,1]]).map (it (Qal Tryz.prog 47))
def Qz3 (B:Lo) (c0:CF) (s:Qaa) (days:Int) (i:Int):Prop:=∃dJ:Nat->Value,(∀t,QaS (dJ t))/\GoE Tryz.prog B c0 H00 1 (Qa4 47 107 (([1,2,3,6,7,8]:List Nat).zip (QnN s days i)) dJ Qne) (Qa3 (QhM s days i)) (2+(QhM s days i).length) []
def Qiy (s:Qaa) (days:Int) (i:Int) (out:List Int) (n:Nat):List Value:=[.int .i64 days,.bool true,pA 2 0,pA 3 0,pA 4 0,.int .i64 i]
def QeP (s:Qaa) (days:Int) (i:Int) (out:List Int) (n:Nat):List Obj:=[Obj.cells #[Qa0 1 (slT s.stock.length (Qac Qar s.stock)),Qa0 1 (slT s.use.length (Qac Qa6 s.use)),.int .i64 s.glo,.int .i64 s.ghi,Qa0 1 (slT s.lots.length (Qac Qam s.lots)),.int .i64 s.hold] 62,Obj.cells #[.slice none 0 0,.slice none 0 0,.slice none 0 0] 65,.cells #[.slice (some ⟨5,0,none⟩) n 1,.slice none 0 0,.slice none 0 0] 65 (0,0),.cells (Qac Qar out) 3 (0,0)]
def QhP:List Item:=([.code [1,1,0,1,0,0],.inLoop [1,1,0,1,0,0],.inBlock 0,.code [1,1,1]]).map (it (Qal Tryz.prog 47))
def Qz8 (B:Lo) (c0:CF) (s:Qaa) (days:Int) (i:Int) (out:List Int) (n:Nat):Prop:=∃dJ:Nat->Value,(∀t,QaS (dJ t))/\GoE Tryz.prog B c0 H00 1 (Qa4 47 107 (([1,2,3,6,7,8]:List Nat).zip (Qiy s days i out n)) dJ QhP) (Qa3 (QeP s days i out n)) (2+(QeP s days i out n).length) []
def QjT (s:Qaa) (days:Int) (a:Int) (out:List Int) (n:Nat):List Value:=[.int .i64 days,.bool true,pA 2 0,pA 3 0,pA 4 0,.int .i64 s.ghi,.int .i64 a]
def QfG (s:Qaa) (days:Int) (a:Int) (out:List Int) (n:Nat):List Obj:=[Obj.cells #[Qa0 1 (slT s.stock.length (Qac Qar s.stock)),Qa0 1 (slT s.use.length (Qac Qa6 s.use)),.int .i64 s.glo,.int .i64 s.ghi,Qa0 1 (slT s.lots.length (Qac Qam s.lots)),.int .i64 s.hold] 62,Obj.cells #[.slice none 0 0,.slice none 0 0,.slice none 0 0] 65,.cells #[.slice (some ⟨5,0,none⟩) n 1,.slice none 0 0,.slice none 0 0] 65 (0,0),.cells (Qac Qar out) 3 (0,0)]
def QjK:List Item:=([.code [1,1,1,1,1,0,1,0,0],.inLoop [1,1,1,1,1,0,1,0,0],.inBlock 2,.code [1,1,1,1,1,1]]).map (it (Qal Tryz.prog 47))
def QzX (B:Lo) (c0:CF) (s:Qaa) (days:Int) (a:Int) (out:List Int) (n:Nat):Prop:=∃dJ:Nat->Value,(∀t,QaS (dJ t))/\GoE Tryz.prog B c0 H00 1 (Qa4 47 107 (([1,2,3,6,7,10,11]:List Nat).zip (QjT s days a out n)) dJ QjK) (Qa3 (QfG s days a out n)) (2+(QfG s days a out n).length) []
def Qim (s:Qaa) (days:Int) (a:Int) (out gs:List Int) (n gl:Nat):List Value:=[.int .i64 days,.bool true,pA 2 0,pA 3 0,pA 4 0,.int .i64 s.ghi,.int .i64 a]
def QeM (s:Qaa) (days:Int) (a:Int) (out gs:List Int) (n gl:Nat):List Obj:=[Obj.cells #[Qa0 1 (slT s.stock.length (Qac Qar s.stock)),Qa0 1 (slT s.use.length (Qac Qa6 s.use)),.int .i64 s.glo,.int .i64 s.ghi,Qa0 1 (slT s.lots.length (Qac Qam s.lots)),.int .i64 s.hold] 62,Obj.cells #[.slice none 0 0,.slice none 0 0,.slice none 0 0] 65,.cells #[.slice (some ⟨5,0,none⟩) n 1,.slice (some ⟨6,0,none⟩) gl 1,.slice none 0 0] 65 (0,0),.cells (Qac Qar out) 3 (0,0),.cells (Qac Qar gs) 3 (0,0)]
def Qiq:List Item:=([.code [1,1,1,1,1,0,1,0,0],.inLoop [1,1,1,1,1,0,1,0,0],.inBlock 2,.code [1,1,1,1,1,1]]).map (it (Qal Tryz.prog 47))
def Q0c (B:Lo) (c0:CF) (s:Qaa) (days:Int) (a:Int) (out gs:List Int) (n gl:Nat):Prop:=∃dJ:Nat->Value,(∀t,QaS (dJ t))/\GoE Tryz.prog B c0 H00 1 (Qa4 47 107 (([1,2,3,6,7,10,11]:List Nat).zip (Qim s days a out gs n gl)) dJ Qiq) (Qa3 (QeM s days a out gs n gl)) (2+(QeM s days a out gs n gl).length) []
def QjP (s:Qaa) (days:Int) (i:Int) (out gs:List Int) (n gl:Nat):List Value:=[.bool true,pA 2 0,pA 3 0,pA 4 0,.int .i64 i]
def QfL (s:Qaa) (days:Int) (i:Int) (out gs:List Int) (n gl:Nat):List Obj:=[Obj.cells #[Qa0 1 (slT s.stock.length (Qac Qar s.stock)),Qa0 1 (slT s.use.length (Qac Qa6 s.use)),.int .i64 s.glo,.int .i64 s.ghi,Qa0 1 (slT s.lots.length (Qac Qam s.lots)),.int .i64 s.hold] 62,Obj.cells #[.slice none 0 0,.slice none 0 0,.slice none 0 0] 65,.cells #[.slice (some ⟨5,0,none⟩) n 1,.slice (some ⟨6,0,none⟩) gl 1,.slice none 0 0] 65 (0,0),.cells (Qac Qar out) 3 (0,0),.cells (Qac Qar gs) 3 (0,0)]
def QjN:List Item:=([.code [1,1,1,1,1,1,0,1,0,0],.inLoop [1,1,1,1,1,1,0,1,0,0],.inBlock 4,.code [1,1,1,1,1,1,1]]).map (it (Qal Tryz.prog 47))
def Qzk (B:Lo) (c0:CF) (s:Qaa) (days:Int) (i:Int) (out gs:List Int) (n gl:Nat):Prop:=∃dJ:Nat->Value,(∀t,QaS (dJ t))/\GoE Tryz.prog B c0 H00 1 (Qa4 47 107 (([2,3,6,7,12]:List Nat).zip (QjP s days i out gs n gl)) dJ QjN) (Qa3 (QfL s days i out gs n gl)) (2+(QfL s days i out gs n gl).length) []
def Qit (s:Qaa) (days:Int) (i:Int) (out gs:List Int) (zs:List RW) (n gl z:Nat):List Value:=[.bool true,pA 2 0,pA 3 0,pA 4 0,.int .i64 i]
def QeI (s:Qaa) (days:Int) (i:Int) (out gs:List Int) (zs:List RW) (n gl z:Nat):List Obj:=[Obj.cells #[Qa0 1 (slT s.stock.length (Qac Qar s.stock)),Qa0 1 (slT s.use.length (Qac Qa6 s.use)),.int .i64 s.glo,.int .i64 s.ghi,Qa0 1 (slT s.lots.length (Qac Qam s.lots)),.int .i64 s.hold] 62,Obj.cells #[.slice none 0 0,.slice none 0 0,.slice none 0 0] 65,.cells #[.slice (some ⟨5,0,none⟩) n 1,.slice (some ⟨6,0,none⟩) gl 1,.slice (some ⟨7,0,none⟩) z 1] 65 (0,0),.cells (Qac Qar out) 3 (0,0),.cells (Qac Qar gs) 3 (0,0),.cells (Qac (Qa5 1 Qbo) zs) 22 (0,0)]
def Qid:List Item:=([.code [1,1,1,1,1,1,0,1,0,0],.inLoop [1,1,1,1,1,1,0,1,0,0],.inBlock 4,.code [1,1,1,1,1,1,1]]).map (it (Qal Tryz.prog 47))
def QyR (B:Lo) (c0:CF) (s:Qaa) (days:Int) (i:Int) (out gs:List Int) (zs:List RW) (n gl z:Nat):Prop:=∃dJ:Nat->Value,(∀t,QaS (dJ t))/\GoE Tryz.prog B c0 H00 1 (Qa4 47 107 (([2,3,6,7,12]:List Nat).zip (Qit s days i out gs zs n gl z)) dJ Qid) (Qa3 (QeI s days i out gs zs n gl z)) (2+(QeI s days i out gs zs n gl z).length) []
def QjS (s:Qaa) (days:Int) (i:Int) (out:List Int) (n:Nat):List Value:=[.bool true,pA 2 0,pA 3 0,pA 4 0,.int .i64 i]
def QfF (s:Qaa) (days:Int) (i:Int) (out:List Int) (n:Nat):List Obj:=[Obj.cells #[Qa0 1 (slT s.stock.length (Qac Qar s.stock)),Qa0 1 (slT s.use.length (Qac Qa6 s.use)),.int .i64 s.glo,.int .i64 s.ghi,Qa0 1 (slT s.lots.length (Qac Qam s.lots)),.int .i64 s.hold] 62,Obj.cells #[.slice none 0 0,.slice none 0 0,.slice none 0 0] 65,.cells #[.slice (some ⟨5,0,none⟩) n 1,.slice none 0 0,.slice none 0 0] 65 (0,0),.cells (Qac Qar out) 3 (0,0)]
def QjQ:List Item:=([.code [1,1,1,1,1,1,0,1,0,0],.inLoop [1,1,1,1,1,1,0,1,0,0],.inBlock 4,.code [1,1,1,1,1,1,1]]).map (it (Qal Tryz.prog 47))
def QyV (B:Lo) (c0:CF) (s:Qaa) (days:Int) (i:Int) (out:List Int) (n:Nat):Prop:=∃dJ:Nat->Value,(∀t,QaS (dJ t))/\GoE Tryz.prog B c0 H00 1 (Qa4 47 107 (([2,3,6,7,12]:List Nat).zip (QjS s days i out n)) dJ QjQ) (Qa3 (QfF s days i out n)) (2+(QfF s days i out n).length) []
def QhK (s:Qaa) (days:Int) (i:Int) (out:List Int) (zs:List RW) (n z:Nat):List Value:=[.bool true,pA 2 0,pA 3 0,pA 4 0,.int .i64 i]
def QeT (s:Qaa) (days:Int) (i:Int) (out:List Int) (zs:List RW) (n z:Nat):List Obj:=[Obj.cells #[Qa0 1 (slT s.stock.length (Qac Qar s.stock)),Qa0 1 (slT s.use.length (Qac Qa6 s.use)),.int .i64 s.glo,.int .i64 s.ghi,Qa0 1 (slT s.lots.length (Qac Qam s.lots)),.int .i64 s.hold] 62,Obj.cells #[.slice none 0 0,.slice none 0 0,.slice none 0 0] 65,.cells #[.slice (some ⟨5,0,none⟩) n 1,.slice none 0 0,.slice (some ⟨6,0,none⟩) z 1] 65 (0,0),.cells (Qac Qar out) 3 (0,0),.cells (Qac (Qa5 1 Qbo) zs) 22 (0,0)]
def QhW:List Item:=([.code [1,1,1,1,1,1,0,1,0,0],.inLoop [1,1,1,1,1,1,0,1,0,0],.inBlock 4,.code [1,1,1,1,1,1,1]]).map (it (Qal Tryz.prog 47))
def Qyr (B:Lo) (c0:CF) (s:Qaa) (days:Int) (i:Int) (out:List Int) (zs:List RW) (n z:Nat):Prop:=∃dJ:Nat->Value,(∀t,QaS (dJ t))/\GoE Tryz.prog B c0 H00 1 (Qa4 47 107 (([2,3,6,7,12]:List Nat).zip (QhK s days i out zs n z)) dJ QhW) (Qa3 (QeT s days i out zs n z)) (2+(QeT s days i out zs n z).length) []
def QnS (s:Qaa) (days:Int) (i k:Int) (out gs:List Int) (n gl:Nat):List Value:=[.bool true,pA 2 0,pA 3 0,pA 4 0,.int .i64 i,.slice none 0 0,.int .i64 k]
def QhZ (s:Qaa) (days:Int) (i k:Int) (out gs:List Int) (n gl:Nat):List Obj:=[Obj.cells #[Qa0 1 (slT s.stock.length (Qac Qar s.stock)),Qa0 1 (slT s.use.length (Qac Qa6 s.use)),.int .i64 s.glo,.int .i64 s.ghi,Qa0 1 (slT s.lots.length (Qac Qam s.lots)),.int .i64 s.hold] 62,Obj.cells #[.slice none 0 0,.slice none 0 0,.slice none 0 0] 65,.cells #[.slice (some ⟨5,0,none⟩) n 1,.slice (some ⟨6,0,none⟩) gl 1,.slice none 0 0] 65 (0,0),.cells (Qac Qar out) 3 (0,0),.cells (Qac Qar gs) 3 (0,0)]
def Qnv:List Item:=([.code [1,1,1,1,1,1,0,1,0,0,1,0,0,1,0,1,0,0],.inLoop [1,1,1,1,1,1,0,1,0,0,1,0,0,1,0,1,0,0],.inBlock 6,.code [1,1,1,1,1,1,0,1,0,0,1,0,0,1,1],.inBlock 5,.code [1,1,1,1,1,1,0,1,0,0,1,1],.inLoop [1,1,1,1,1,1,0,1,0,0],.inBlock 4,.code [1,1,1,1,1,1,1]]).map (it (Qal Tryz.prog 47))
def Qzz (B:Lo) (c0:CF) (s:Qaa) (days:Int) (i k:Int) (out gs:List Int) (n gl:Nat):Prop:=∃dJ:Nat->Value,(∀t,QaS (dJ t))/\GoE Tryz.prog B c0 H00 1 (Qa4 47 107 (([2,3,6,7,12,13,14]:List Nat).zip (QnS s days i k out gs n gl)) dJ Qnv) (Qa3 (QhZ s days i k out gs n gl)) (2+(QhZ s days i k out gs n gl).length) []
def Qh5 (s:Qaa) (days:Int) (i k:Int) (out gs ls:List Int) (n gl w:Nat):List Value:=[.bool true,pA 2 0,pA 3 0,pA 4 0,.int .i64 i,.slice (some ⟨7,0,none⟩) w 1,.int .i64 k]
def QeL (s:Qaa) (days:Int) (i k:Int) (out gs ls:List Int) (n gl w:Nat):List Obj:=[Obj.cells #[Qa0 1 (slT s.stock.length (Qac Qar s.stock)),Qa0 1 (slT s.use.length (Qac Qa6 s.use)),.int .i64 s.glo,.int .i64 s.ghi,Qa0 1 (slT s.lots.length (Qac Qam s.lots)),.int .i64 s.hold] 62,Obj.cells #[.slice none 0 0,.slice none 0 0,.slice none 0 0] 65,.cells #[.slice (some ⟨5,0,none⟩) n 1,.slice (some ⟨6,0,none⟩) gl 1,.slice none 0 0] 65 (0,0),.cells (Qac Qar out) 3 (0,0),.cells (Qac Qar gs) 3 (0,0),.cells (Qac Qar ls) 3 (0,0)]
def Qif:List Item:=([.code [1,1,1,1,1,1,0,1,0,0,1,0,0,1,0,1,0,0],.inLoop [1,1,1,1,1,1,0,1,0,0,1,0,0,1,0,1,0,0],.inBlock 6,.code [1,1,1,1,1,1,0,1,0,0,1,0,0,1,1],.inBlock 5,.code [1,1,1,1,1,1,0,1,0,0,1,1],.inLoop [1,1,1,1,1,1,0,1,0,0],.inBlock 4,.code [1,1,1,1,1,1,1]]).map (it (Qal Tryz.prog 47))
def Qy8 (B:Lo) (c0:CF) (s:Qaa) (days:Int) (i k:Int) (out gs ls:List Int) (n gl w:Nat):Prop:=∃dJ:Nat->Value,(∀t,QaS (dJ t))/\GoE Tryz.prog B c0 H00 1 (Qa4 47 107 (([2,3,6,7,12,13,14]:List Nat).zip (Qh5 s days i k out gs ls n gl w)) dJ Qif) (Qa3 (QeL s days i k out gs ls n gl w)) (2+(QeL s days i k out gs ls n gl w).length) []
def Qk5 (s:Qaa) (days:Int) (i k:Int) (out gs:List Int) (zs:List RW) (n gl z:Nat):List Value:=[.bool true,pA 2 0,pA 3 0,pA 4 0,.int .i64 i,.slice none 0 0,.int .i64 k]
def Qgk (s:Qaa) (days:Int) (i k:Int) (out gs:List Int) (zs:List RW) (n gl z:Nat):List Obj:=[Obj.cells #[Qa0 1 (slT s.stock.length (Qac Qar s.stock)),Qa0 1 (slT s.use.length (Qac Qa6 s.use)),.int .i64 s.glo,.int .i64 s.ghi,Qa0 1 (slT s.lots.length (Qac Qam s.lots)),.int .i64 s.hold] 62,Obj.cells #[.slice none 0 0,.slice none 0 0,.slice none 0 0] 65,.cells #[.slice (some ⟨5,0,none⟩) n 1,.slice (some ⟨6,0,none⟩) gl 1,.slice (some ⟨7,0,none⟩) z 1] 65 (0,0),.cells (Qac Qar out) 3 (0,0),.cells (Qac Qar gs) 3 (0,0),.cells (Qac (Qa5 1 Qbo) zs) 22 (0,0)]
def QlA:List Item:=([.code [1,1,1,1,1,1,0,1,0,0,1,0,0,1,0,1,0,0],.inLoop [1,1,1,1,1,1,0,1,0,0,1,0,0,1,0,1,0,0],.inBlock 6,.code [1,1,1,1,1,1,0,1,0,0,1,0,0,1,1],.inBlock 5,.code [1,1,1,1,1,1,0,1,0,0,1,1],.inLoop [1,1,1,1,1,1,0,1,0,0],.inBlock 4,.code [1,1,1,1,1,1,1]]).map (it (Qal Tryz.prog 47))
def Qx7 (B:Lo) (c0:CF) (s:Qaa) (days:Int) (i k:Int) (out gs:List Int) (zs:List RW) (n gl z:Nat):Prop:=∃dJ:Nat->Value,(∀t,QaS (dJ t))/\GoE Tryz.prog B c0 H00 1 (Qa4 47 107 (([2,3,6,7,12,13,14]:List Nat).zip (Qk5 s days i k out gs zs n gl z)) dJ QlA) (Qa3 (Qgk s days i k out gs zs n gl z)) (2+(Qgk s days i k out gs zs n gl z).length) []
def QgE (s:Qaa) (days:Int) (i k:Int) (out gs ls:List Int) (zs:List RW) (n gl z w:Nat):List Value:=[.bool true,pA 2 0,pA 3 0,pA 4 0,.int .i64 i,.slice (some ⟨8,0,none⟩) w 1,.int .i64 k]
def QdY (s:Qaa) (days:Int) (i k:Int) (out gs ls:List Int) (zs:List RW) (n gl z w:Nat):List Obj:=[Obj.cells #[Qa0 1 (slT s.stock.length (Qac Qar s.stock)),Qa0 1 (slT s.use.length (Qac Qa6 s.use)),.int .i64 s.glo,.int .i64 s.ghi,Qa0 1 (slT s.lots.length (Qac Qam s.lots)),.int .i64 s.hold] 62,Obj.cells #[.slice none 0 0,.slice none 0 0,.slice none 0 0] 65,.cells #[.slice (some ⟨5,0,none⟩) n 1,.slice (some ⟨6,0,none⟩) gl 1,.slice (some ⟨7,0,none⟩) z 1] 65 (0,0),.cells (Qac Qar out) 3 (0,0),.cells (Qac Qar gs) 3 (0,0),.cells (Qac (Qa5 1 Qbo) zs) 22 (0,0),.cells (Qac Qar ls) 3 (0,0)]
def QgD:List Item:=([.code [1,1,1,1,1,1,0,1,0,0,1,0,0,1,0,1,0,0],.inLoop [1,1,1,1,1,1,0,1,0,0,1,0,0,1,0,1,0,0],.inBlock 6,.code [1,1,1,1,1,1,0,1,0,0,1,0,0,1,1],.inBlock 5,.code [1,1,1,1,1,1,0,1,0,0,1,1],.inLoop [1,1,1,1,1,1,0,1,0,0],.inBlock 4,.code [1,1,1,1,1,1,1]]).map (it (Qal Tryz.prog 47))
def QvD (B:Lo) (c0:CF) (s:Qaa) (days:Int) (i k:Int) (out gs ls:List Int) (zs:List RW) (n gl z w:Nat):Prop:=∃dJ:Nat->Value,(∀t,QaS (dJ t))/\GoE Tryz.prog B c0 H00 1 (Qa4 47 107 (([2,3,6,7,12,13,14]:List Nat).zip (QgE s days i k out gs ls zs n gl z w)) dJ QgD) (Qa3 (QdY s days i k out gs ls zs n gl z w)) (2+(QdY s days i k out gs ls zs n gl z w).length) []
def QlL (s:Qaa) (days:Int) (i k:Int) (out:List Int) (n:Nat):List Value:=[.bool true,pA 2 0,pA 3 0,pA 4 0,.int .i64 i,.slice none 0 0,.int .i64 k]
def QfV (s:Qaa) (days:Int) (i k:Int) (out:List Int) (n:Nat):List Obj:=[Obj.cells #[Qa0 1 (slT s.stock.length (Qac Qar s.stock)),Qa0 1 (slT s.use.length (Qac Qa6 s.use)),.int .i64 s.glo,.int .i64 s.ghi,Qa0 1 (slT s.lots.length (Qac Qam s.lots)),.int .i64 s.hold] 62,Obj.cells #[.slice none 0 0,.slice none 0 0,.slice none 0 0] 65,.cells #[.slice (some ⟨5,0,none⟩) n 1,.slice none 0 0,.slice none 0 0] 65 (0,0),.cells (Qac Qar out) 3 (0,0)]
def QlZ:List Item:=([.code [1,1,1,1,1,1,0,1,0,0,1,0,0,1,0,1,0,0],.inLoop [1,1,1,1,1,1,0,1,0,0,1,0,0,1,0,1,0,0],.inBlock 6,.code [1,1,1,1,1,1,0,1,0,0,1,0,0,1,1],.inBlock 5,.code [1,1,1,1,1,1,0,1,0,0,1,1],.inLoop [1,1,1,1,1,1,0,1,0,0],.inBlock 4,.code [1,1,1,1,1,1,1]]).map (it (Qal Tryz.prog 47))
def Qvp (B:Lo) (c0:CF) (s:Qaa) (days:Int) (i k:Int) (out:List Int) (n:Nat):Prop:=∃dJ:Nat->Value,(∀t,QaS (dJ t))/\GoE Tryz.prog B c0 H00 1 (Qa4 47 107 (([2,3,6,7,12,13,14]:List Nat).zip (QlL s days i k out n)) dJ QlZ) (Qa3 (QfV s days i k out n)) (2+(QfV s days i k out n).length) []
def Qgp (s:Qaa) (days:Int) (i k:Int) (out ls:List Int) (n w:Nat):List Value:=[.bool true,pA 2 0,pA 3 0,pA 4 0,.int .i64 i,.slice (some ⟨6,0,none⟩) w 1,.int .i64 k]
def Qeb (s:Qaa) (days:Int) (i k:Int) (out ls:List Int) (n w:Nat):List Obj:=[Obj.cells #[Qa0 1 (slT s.stock.length (Qac Qar s.stock)),Qa0 1 (slT s.use.length (Qac Qa6 s.use)),.int .i64 s.glo,.int .i64 s.ghi,Qa0 1 (slT s.lots.length (Qac Qam s.lots)),.int .i64 s.hold] 62,Obj.cells #[.slice none 0 0,.slice none 0 0,.slice none 0 0] 65,.cells #[.slice (some ⟨5,0,none⟩) n 1,.slice none 0 0,.slice none 0 0] 65 (0,0),.cells (Qac Qar out) 3 (0,0),.cells (Qac Qar ls) 3 (0,0)]
def Qg4:List Item:=([.code [1,1,1,1,1,1,0,1,0,0,1,0,0,1,0,1,0,0],.inLoop [1,1,1,1,1,1,0,1,0,0,1,0,0,1,0,1,0,0],.inBlock 6,.code [1,1,1,1,1,1,0,1,0,0,1,0,0,1,1],.inBlock 5,.code [1,1,1,1,1,1,0,1,0,0,1,1],.inLoop [1,1,1,1,1,1,0,1,0,0],.inBlock 4,.code [1,1,1,1,1,1,1]]).map (it (Qal Tryz.prog 47))
def Qxm (B:Lo) (c0:CF) (s:Qaa) (days:Int) (i k:Int) (out ls:List Int) (n w:Nat):Prop:=∃dJ:Nat->Value,(∀t,QaS (dJ t))/\GoE Tryz.prog B c0 H00 1 (Qa4 47 107 (([2,3,6,7,12,13,14]:List Nat).zip (Qgp s days i k out ls n w)) dJ Qg4) (Qa3 (Qeb s days i k out ls n w)) (2+(Qeb s days i k out ls n w).length) []
def QlV (s:Qaa) (days:Int) (i k:Int) (out:List Int) (zs:List RW) (n z:Nat):List Value:=[.bool true,pA 2 0,pA 3 0,pA 4 0,.int .i64 i,.slice none 0 0,.int .i64 k]
def Qgm (s:Qaa) (days:Int) (i k:Int) (out:List Int) (zs:List RW) (n z:Nat):List Obj:=[Obj.cells #[Qa0 1 (slT s.stock.length (Qac Qar s.stock)),Qa0 1 (slT s.use.length (Qac Qa6 s.use)),.int .i64 s.glo,.int .i64 s.ghi,Qa0 1 (slT s.lots.length (Qac Qam s.lots)),.int .i64 s.hold] 62,Obj.cells #[.slice none 0 0,.slice none 0 0,.slice none 0 0] 65,.cells #[.slice (some ⟨5,0,none⟩) n 1,.slice none 0 0,.slice (some ⟨6,0,none⟩) z 1] 65 (0,0),.cells (Qac Qar out) 3 (0,0),.cells (Qac (Qa5 1 Qbo) zs) 22 (0,0)]
def QlE:List Item:=([.code [1,1,1,1,1,1,0,1,0,0,1,0,0,1,0,1,0,0],.inLoop [1,1,1,1,1,1,0,1,0,0,1,0,0,1,0,1,0,0],.inBlock 6,.code [1,1,1,1,1,1,0,1,0,0,1,0,0,1,1],.inBlock 5,.code [1,1,1,1,1,1,0,1,0,0,1,1],.inLoop [1,1,1,1,1,1,0,1,0,0],.inBlock 4,.code [1,1,1,1,1,1,1]]).map (it (Qal Tryz.prog 47))
def QwB (B:Lo) (c0:CF) (s:Qaa) (days:Int) (i k:Int) (out:List Int) (zs:List RW) (n z:Nat):Prop:=∃dJ:Nat->Value,(∀t,QaS (dJ t))/\GoE Tryz.prog B c0 H00 1 (Qa4 47 107 (([2,3,6,7,12,13,14]:List Nat).zip (QlV s days i k out zs n z)) dJ QlE) (Qa3 (Qgm s days i k out zs n z)) (2+(Qgm s days i k out zs n z).length) []
def Qgs (s:Qaa) (days:Int) (i k:Int) (out ls:List Int) (zs:List RW) (n z w:Nat):List Value:=[.bool true,pA 2 0,pA 3 0,pA 4 0,.int .i64 i,.slice (some ⟨7,0,none⟩) w 1,.int .i64 k]
def Qeh (s:Qaa) (days:Int) (i k:Int) (out ls:List Int) (zs:List RW) (n z w:Nat):List Obj:=[Obj.cells #[Qa0 1 (slT s.stock.length (Qac Qar s.stock)),Qa0 1 (slT s.use.length (Qac Qa6 s.use)),.int .i64 s.glo,.int .i64 s.ghi,Qa0 1 (slT s.lots.length (Qac Qam s.lots)),.int .i64 s.hold] 62,Obj.cells #[.slice none 0 0,.slice none 0 0,.slice none 0 0] 65,.cells #[.slice (some ⟨5,0,none⟩) n 1,.slice none 0 0,.slice (some ⟨6,0,none⟩) z 1] 65 (0,0),.cells (Qac Qar out) 3 (0,0),.cells (Qac (Qa5 1 Qbo) zs) 22 (0,0),.cells (Qac Qar ls) 3 (0,0)]
def QgF:List Item:=([.code [1,1,1,1,1,1,0,1,0,0,1,0,0,1,0,1,0,0],.inLoop [1,1,1,1,1,1,0,1,0,0,1,0,0,1,0,1,0,0],.inBlock 6,.code [1,1,1,1,1,1,0,1,0,0,1,0,0,1,1],.inBlock 5,.code [1,1,1,1,1,1,0,1,0,0,1,1],.inLoop [1,1,1,1,1,1,0,1,0,0],.inBlock 4,.code [1,1,1,1,1,1,1]]).map (it (Qal Tryz.prog 47))
def Qw2 (B:Lo) (c0:CF) (s:Qaa) (days:Int) (i k:Int) (out ls:List Int) (zs:List RW) (n z w:Nat):Prop:=∃dJ:Nat->Value,(∀t,QaS (dJ t))/\GoE Tryz.prog B c0 H00 1 (Qa4 47 107 (([2,3,6,7,12,13,14]:List Nat).zip (Qgs s days i k out ls zs n z w)) dJ QgF) (Qa3 (Qeh s days i k out ls zs n z w)) (2+(Qeh s days i k out ls zs n z w).length) []
theorem Qzq (B:Lo) (s:Qaa) (days:Int) (i:Int) (dJ0:Nat->Value):landM (Qak Tryz.prog (Qa1 Tryz.prog) J0 B 18 1 (Qa4 47 107 (([1,2,3,6,7,8]:List Nat).zip (QnN s days i)) dJ0 Qne) (Qa3 (QhM s days i)) (2+(QhM s days i).length)
 [(4,hvT),(8,Qaj.tidx i.toNat #[.int .i64 (Span.lo (s.use.getD i.toNat default)),.int .i64 (Span.hi (s.use.getD i.toNat default))]),(16,Qaj.tidx i.toNat #[.int .i64 (Span.lo (s.use.getD i.toNat default)),.int .i64 (Span.hi (s.use.getD i.toNat default))]),(28,hvI (i+1))] 0 [] []) [1,2,3,6,7,8] [(2,KS.auto),(3,KS.auto),(4,KS.auto),(6,KS.cells [] (Qac Qar [Span.hi (s.use.getD i.toNat default)]))] []=some ⟨47,107,QhP,[],.run,none,Qiy s days (i+1) ([Span.hi (s.use.getD i.toNat default)]) (1),QeP s days (i+1) ([Span.hi (s.use.getD i.toNat default)]) (1),
 [QaQ 1 [] (#[.int .i64 (Span.hi (s.use.getD i.toNat default))]) (Qac Qar [Span.hi (s.use.getD i.toNat default)]),wq (i+1)=i+1,i=(↑i.toNat:Int)/\Int.toNat i < List.length s.use/\Array.extract (Qac Qa6 s.use) (Int.toNat i * TypeInfo.size Tryz.t25) (Int.toNat i * TypeInfo.size Tryz.t25+TypeInfo.size Tryz.t25)=#[.int .i64 (Span.lo (s.use.getD i.toNat default)),.int .i64 (Span.hi (s.use.getD i.toNat default))],i=(↑i.toNat:Int)/\Int.toNat i < List.length s.use/\Array.extract (Qac Qa6 s.use) (Int.toNat i * TypeInfo.size Tryz.t25) (Int.toNat i * TypeInfo.size Tryz.t25+TypeInfo.size Tryz.t25)=#[.int .i64 (Span.lo (s.use.getD i.toNat default)),.int .i64 (Span.hi (s.use.getD i.toNat default))],ltq i (↑s.use.length:Int)=true]⟩:=by kernel_rfl
theorem Qzb (B:Lo) (s:Qaa) (days:Int) (i:Int) (out:List Int) (n:Nat) (dJ0:Nat->Value):landM (Qak Tryz.prog (Qa1 Tryz.prog) J0 B 18 1 (Qa4 47 107 (([1,2,3,6,7,8]:List Nat).zip (Qiy s days i out n)) dJ0 QhP) (Qa3 (QeP s days i out n)) (2+(QeP s days i out n).length)
 [(4,hvT),(8,Qaj.tidx i.toNat #[.int .i64 (Span.lo (s.use.getD i.toNat default)),.int .i64 (Span.hi (s.use.getD i.toNat default))]),(16,Qaj.tidx i.toNat #[.int .i64 (Span.lo (s.use.getD i.toNat default)),.int .i64 (Span.hi (s.use.getD i.toNat default))]),(24,Qaj.old (Hint.app (Qac Qar (out++[Span.hi (s.use.getD i.toNat default)])))),(28,hvI (i+1))] 0 [] []) [1,2,3,6,7,8] [(2,KS.auto),(3,KS.auto),(4,KS.auto),(7,KS.cells [] (Qac Qar (out++[Span.hi (s.use.getD i.toNat default)])))] []=some ⟨47,107,QhP,[],.run,none,Qiy s days (i+1) (out++[Span.hi (s.use.getD i.toNat default)]) (n+1),QeP s days (i+1) (out++[Span.hi (s.use.getD i.toNat default)]) (n+1),
 [QaQ 1 [] (Qac Qar (out++[Span.hi (s.use.getD i.toNat default)])) (Qac Qar (out++[Span.hi (s.use.getD i.toNat default)])),wq (i+1)=i+1,Array.size (Qac Qar out)=n * (0+1)/\n+1<=maxLen/\(n+1) * 8<=140737488355328/\Qac Qar out++#[.int .i64 (Span.hi (s.use.getD i.toNat default))]=Qac Qar (out++[Span.hi (s.use.getD i.toNat default)]),i=(↑i.toNat:Int)/\Int.toNat i < List.length s.use/\Array.extract (Qac Qa6 s.use) (Int.toNat i * TypeInfo.size Tryz.t25) (Int.toNat i * TypeInfo.size Tryz.t25+TypeInfo.size Tryz.t25)=#[.int .i64 (Span.lo (s.use.getD i.toNat default)),.int .i64 (Span.hi (s.use.getD i.toNat default))],i=(↑i.toNat:Int)/\Int.toNat i < List.length s.use/\Array.extract (Qac Qa6 s.use) (Int.toNat i * TypeInfo.size Tryz.t25) (Int.toNat i * TypeInfo.size Tryz.t25+TypeInfo.size Tryz.t25)=#[.int .i64 (Span.lo (s.use.getD i.toNat default)),.int .i64 (Span.hi (s.use.getD i.toNat default))],ltq i (↑s.use.length:Int)=true]⟩:=by kernel_rfl
theorem Qza (B:Lo) (s:Qaa) (days:Int) (i:Int) (out:List Int) (n:Nat) (dJ0:Nat->Value):landM (Qak Tryz.prog (Qa1 Tryz.prog) J0 B 17 1 (Qa4 47 107 (([1,2,3,6,7,8]:List Nat).zip (Qiy s days i out n)) dJ0 QhP) (Qa3 (QeP s days i out n)) (2+(QeP s days i out n).length)
 [(4,hvF)] 0 [] []) [1,2,3,6,7,10,11] [(2,KS.auto),(3,KS.auto),(4,KS.auto),(5,KS.cells [] (Qac Qar out))] []=some ⟨47,107,QjK,[],.run,none,QjT s days (0) (out) (n),QfG s days (0) (out) (n),
 [QaQ 1 [] (Qac Qar out) (Qac Qar out),ltq i (↑s.use.length:Int)=false]⟩:=by kernel_rfl
theorem Q0b (B:Lo) (s:Qaa) (days:Int) (a:Int) (out:List Int) (n:Nat) (dJ0:Nat->Value):landM (Qak Tryz.prog (Qa1 Tryz.prog) J0 B 11 1 (Qa4 47 107 (([1,2,3,6,7,10,11]:List Nat).zip (QjT s days a out n)) dJ0 QjK) (Qa3 (QfG s days a out n)) (2+(QfG s days a out n).length)
 [(2,hvT),(12,hvI (a+s.ghi))] 0 [] []) [1,2,3,6,7,10,11] [(2,KS.auto),(3,KS.auto),(4,KS.auto),(5,KS.cells [] (Qac Qar out)),(7,KS.cells [] (Qac Qar [s.ghi]))] []=some ⟨47,107,Qiq,[],.run,none,Qim s days (a+s.ghi) (out) ([s.ghi]) (n) (1),QeM s days (a+s.ghi) (out) ([s.ghi]) (n) (1),
 [QaQ 1 [] (Qac Qar out) (Qac Qar out),QaQ 1 [] (#[.int .i64 s.ghi]) (Qac Qar [s.ghi]),wq (a+s.ghi)=a+s.ghi,ltq a days=true]⟩:=by kernel_rfl
theorem Qy1 (B:Lo) (s:Qaa) (days:Int) (a:Int) (out:List Int) (n:Nat) (dJ0:Nat->Value):landM (Qak Tryz.prog (Qa1 Tryz.prog) J0 B 10 1 (Qa4 47 107 (([1,2,3,6,7,10,11]:List Nat).zip (QjT s days a out n)) dJ0 QjK) (Qa3 (QfG s days a out n)) (2+(QfG s days a out n).length)
 [(2,hvF)] 0 [] []) [2,3,6,7,12] [(2,KS.auto),(3,KS.auto),(4,KS.auto),(5,KS.cells [] (Qac Qar out))] []=some ⟨47,107,QjQ,[],.run,none,QjS s days (0) (out) (n),QfF s days (0) (out) (n),
 [QaQ 1 [] (Qac Qar out) (Qac Qar out),ltq a days=false]⟩:=by kernel_rfl
theorem Qym (B:Lo) (s:Qaa) (days:Int) (a:Int) (out gs:List Int) (n gl:Nat) (dJ0:Nat->Value):landM (Qak Tryz.prog (Qa1 Tryz.prog) J0 B 11 1 (Qa4 47 107 (([1,2,3,6,7,10,11]:List Nat).zip (Qim s days a out gs n gl)) dJ0 Qiq) (Qa3 (QeM s days a out gs n gl)) (2+(QeM s days a out gs n gl).length)
 [(2,hvT),(7,Qaj.old (Hint.app (Qac Qar (gs++[s.ghi])))),(12,hvI (a+s.ghi))] 0 [] []) [1,2,3,6,7,10,11] [(2,KS.auto),(3,KS.auto),(4,KS.auto),(5,KS.cells [] (Qac Qar out)),(8,KS.cells [] (Qac Qar (gs++[s.ghi])))] []=some ⟨47,107,Qiq,[],.run,none,Qim s days (a+s.ghi) (out) (gs++[s.ghi]) (n) (gl+1),QeM s days (a+s.ghi) (out) (gs++[s.ghi]) (n) (gl+1),
 [QaQ 1 [] (Qac Qar out) (Qac Qar out),QaQ 1 [] (Qac Qar (gs++[s.ghi])) (Qac Qar (gs++[s.ghi])),wq (a+s.ghi)=a+s.ghi,Array.size (Qac Qar gs)=gl * (0+1)/\gl+1<=maxLen/\(gl+1) * 8<=140737488355328/\Qac Qar gs++#[.int .i64 s.ghi]=Qac Qar (gs++[s.ghi]),ltq a days=true]⟩:=by kernel_rfl
theorem Qy4 (B:Lo) (s:Qaa) (days:Int) (a:Int) (out gs:List Int) (n gl:Nat) (dJ0:Nat->Value):landM (Qak Tryz.prog (Qa1 Tryz.prog) J0 B 10 1 (Qa4 47 107 (([1,2,3,6,7,10,11]:List Nat).zip (Qim s days a out gs n gl)) dJ0 Qiq) (Qa3 (QeM s days a out gs n gl)) (2+(QeM s days a out gs n gl).length)
 [(2,hvF)] 0 [] []) [2,3,6,7,12] [(2,KS.auto),(3,KS.auto),(4,KS.auto),(5,KS.cells [] (Qac Qar out)),(6,KS.cells [] (Qac Qar gs))] []=some ⟨47,107,QjN,[],.run,none,QjP s days (0) (out) (gs) (n) (gl),QfL s days (0) (out) (gs) (n) (gl),
 [QaQ 1 [] (Qac Qar out) (Qac Qar out),QaQ 1 [] (Qac Qar gs) (Qac Qar gs),ltq a days=false]⟩:=by kernel_rfl
theorem QzP (B:Lo) (s:Qaa) (days:Int) (i:Int) (out gs:List Int) (n gl:Nat) (dJ0:Nat->Value):landM (Qak Tryz.prog (Qa1 Tryz.prog) J0 B 14 1 (Qa4 47 107 (([2,3,6,7,12]:List Nat).zip (QjP s days i out gs n gl)) dJ0 QjN) (Qa3 (QfL s days i out gs n gl)) (2+(QfL s days i out gs n gl).length)
 [(4,hvT)] 0 [] []) [2,3,6,7,12,13,14] [(2,KS.auto),(3,KS.auto),(4,KS.auto),(5,KS.cells [] (Qac Qar out)),(6,KS.cells [] (Qac Qar gs))] []=some ⟨47,107,Qnv,[],.run,none,QnS s days (i) (0) (out) (gs) (n) (gl),QhZ s days (i) (0) (out) (gs) (n) (gl),
 [QaQ 1 [] (Qac Qar out) (Qac Qar out),QaQ 1 [] (Qac Qar gs) (Qac Qar gs),ltq i (↑s.lots.length:Int)=true]⟩:=by kernel_rfl
theorem Q0y (B:Lo) (s:Qaa) (days:Int) (i:Int) (out gs:List Int) (n gl:Nat) (dJ0:Nat->Value):Qbd (Qak Tryz.prog (Qa1 Tryz.prog) J0 B 9 1 (Qa4 47 107 (([2,3,6,7,12]:List Nat).zip (QjP s days i out gs n gl)) dJ0 QjN) (Qa3 (QfL s days i out gs n gl)) (2+(QfL s days i out gs n gl).length)
 [(4,hvF)] 0 [] []) [{k:=5,rs:=[],cs:=Qac Qar out},{k:=6,rs:=[],cs:=Qac Qar gs}]=some (.agg #[slT n (Fz.cs {k:=5,rs:=[],cs:=Qac Qar out}),slT gl (Fz.cs {k:=6,rs:=[],cs:=Qac Qar gs}),slT 0 #[]],
 [Qb7 (Fz.rs {k:=5,rs:=[],cs:=Qac Qar out}) (Qac Qar out) (Fz.cs {k:=5,rs:=[],cs:=Qac Qar out}),Qb7 (Fz.rs {k:=6,rs:=[],cs:=Qac Qar gs}) (Qac Qar gs) (Fz.cs {k:=6,rs:=[],cs:=Qac Qar gs}),ltq i (↑s.lots.length:Int)=false]):=by kernel_rfl
theorem QyO (B:Lo) (s:Qaa) (days:Int) (i:Int) (out gs:List Int) (zs:List RW) (n gl z:Nat) (dJ0:Nat->Value):landM (Qak Tryz.prog (Qa1 Tryz.prog) J0 B 14 1 (Qa4 47 107 (([2,3,6,7,12]:List Nat).zip (Qit s days i out gs zs n gl z)) dJ0 Qid) (Qa3 (QeI s days i out gs zs n gl z)) (2+(QeI s days i out gs zs n gl z).length)
 [(4,hvT)] 0 [] []) [2,3,6,7,12,13,14] [(2,KS.auto),(3,KS.auto),(4,KS.auto),(5,KS.cells [] (Qac Qar out)),(6,KS.cells [] (Qac Qar gs)),(7,KS.rows [(1,1)] [] (Qac (Qa5 1 Qbo) zs))] []=some ⟨47,107,QlA,[],.run,none,Qk5 s days (i) (0) (out) (gs) (zs) (n) (gl) (z),Qgk s days (i) (0) (out) (gs) (zs) (n) (gl) (z),
 [QaQ 1 [] (Qac Qar out) (Qac Qar out),QaQ 1 [] (Qac Qar gs) (Qac Qar gs),QaX 1 [(1,1)] [] (Qac (Qa5 1 Qbo) zs) (Qac (Qa5 1 Qbo) zs),ltq i (↑s.lots.length:Int)=true]⟩:=by kernel_rfl
theorem QvY (B:Lo) (s:Qaa) (days:Int) (i:Int) (out gs:List Int) (zs:List RW) (n gl z:Nat) (dJ0:Nat->Value):Qbd (Qak Tryz.prog (Qa1 Tryz.prog) J0 B 9 1 (Qa4 47 107 (([2,3,6,7,12]:List Nat).zip (Qit s days i out gs zs n gl z)) dJ0 Qid) (Qa3 (QeI s days i out gs zs n gl z)) (2+(QeI s days i out gs zs n gl z).length)
 [(4,hvF)] 0 [] []) [{k:=5,rs:=[],cs:=Qac Qar out},{k:=6,rs:=[],cs:=Qac Qar gs},{k:=7,rs:=[1],cs:=Qac Qbo zs}]=some (.agg #[slT n (Fz.cs {k:=5,rs:=[],cs:=Qac Qar out}),slT gl (Fz.cs {k:=6,rs:=[],cs:=Qac Qar gs}),slT z (Fz.cs {k:=7,rs:=[1],cs:=Qac Qbo zs})],
 [Qb7 (Fz.rs {k:=5,rs:=[],cs:=Qac Qar out}) (Qac Qar out) (Fz.cs {k:=5,rs:=[],cs:=Qac Qar out}),Qb7 (Fz.rs {k:=6,rs:=[],cs:=Qac Qar gs}) (Qac Qar gs) (Fz.cs {k:=6,rs:=[],cs:=Qac Qar gs}),Qb7 (Fz.rs {k:=7,rs:=[1],cs:=Qac Qbo zs}) (Qac (Qa5 1 Qbo) zs) (Fz.cs {k:=7,rs:=[1],cs:=Qac Qbo zs}),ltq i (↑s.lots.length:Int)=false]):=by kernel_rfl
theorem QvJ (B:Lo) (s:Qaa) (days:Int) (i:Int) (out:List Int) (n:Nat) (dJ0:Nat->Value):landM (Qak Tryz.prog (Qa1 Tryz.prog) J0 B 14 1 (Qa4 47 107 (([2,3,6,7,12]:List Nat).zip (QjS s days i out n)) dJ0 QjQ) (Qa3 (QfF s days i out n)) (2+(QfF s days i out n).length)
 [(4,hvT)] 0 [] []) [2,3,6,7,12,13,14] [(2,KS.auto),(3,KS.auto),(4,KS.auto),(5,KS.cells [] (Qac Qar out))] []=some ⟨47,107,QlZ,[],.run,none,QlL s days (i) (0) (out) (n),QfV s days (i) (0) (out) (n),
 [QaQ 1 [] (Qac Qar out) (Qac Qar out),ltq i (↑s.lots.length:Int)=true]⟩:=by kernel_rfl
theorem Qx8 (B:Lo) (s:Qaa) (days:Int) (i:Int) (out:List Int) (n:Nat) (dJ0:Nat->Value):Qbd (Qak Tryz.prog (Qa1 Tryz.prog) J0 B 9 1 (Qa4 47 107 (([2,3,6,7,12]:List Nat).zip (QjS s days i out n)) dJ0 QjQ) (Qa3 (QfF s days i out n)) (2+(QfF s days i out n).length)
 [(4,hvF)] 0 [] []) [{k:=5,rs:=[],cs:=Qac Qar out}]=some (.agg #[slT n (Fz.cs {k:=5,rs:=[],cs:=Qac Qar out}),slT 0 #[],slT 0 #[]],
 [Qb7 (Fz.rs {k:=5,rs:=[],cs:=Qac Qar out}) (Qac Qar out) (Fz.cs {k:=5,rs:=[],cs:=Qac Qar out}),ltq i (↑s.lots.length:Int)=false]):=by kernel_rfl
theorem Qw9 (B:Lo) (s:Qaa) (days:Int) (i:Int) (out:List Int) (zs:List RW) (n z:Nat) (dJ0:Nat->Value):landM (Qak Tryz.prog (Qa1 Tryz.prog) J0 B 14 1 (Qa4 47 107 (([2,3,6,7,12]:List Nat).zip (QhK s days i out zs n z)) dJ0 QhW) (Qa3 (QeT s days i out zs n z)) (2+(QeT s days i out zs n z).length)
 [(4,hvT)] 0 [] []) [2,3,6,7,12,13,14] [(2,KS.auto),(3,KS.auto),(4,KS.auto),(5,KS.cells [] (Qac Qar out)),(6,KS.rows [(1,1)] [] (Qac (Qa5 1 Qbo) zs))] []=some ⟨47,107,QlE,[],.run,none,QlV s days (i) (0) (out) (zs) (n) (z),Qgm s days (i) (0) (out) (zs) (n) (z),
 [QaQ 1 [] (Qac Qar out) (Qac Qar out),QaX 1 [(1,1)] [] (Qac (Qa5 1 Qbo) zs) (Qac (Qa5 1 Qbo) zs),ltq i (↑s.lots.length:Int)=true]⟩:=by kernel_rfl
theorem Qwn (B:Lo) (s:Qaa) (days:Int) (i:Int) (out:List Int) (zs:List RW) (n z:Nat) (dJ0:Nat->Value):Qbd (Qak Tryz.prog (Qa1 Tryz.prog) J0 B 9 1 (Qa4 47 107 (([2,3,6,7,12]:List Nat).zip (QhK s days i out zs n z)) dJ0 QhW) (Qa3 (QeT s days i out zs n z)) (2+(QeT s days i out zs n z).length)
 [(4,hvF)] 0 [] []) [{k:=5,rs:=[],cs:=Qac Qar out},{k:=6,rs:=[1],cs:=Qac Qbo zs}]=some (.agg #[slT n (Fz.cs {k:=5,rs:=[],cs:=Qac Qar out}),slT 0 #[],slT z (Fz.cs {k:=6,rs:=[1],cs:=Qac Qbo zs})],
 [Qb7 (Fz.rs {k:=5,rs:=[],cs:=Qac Qar out}) (Qac Qar out) (Fz.cs {k:=5,rs:=[],cs:=Qac Qar out}),Qb7 (Fz.rs {k:=6,rs:=[1],cs:=Qac Qbo zs}) (Qac (Qa5 1 Qbo) zs) (Fz.cs {k:=6,rs:=[1],cs:=Qac Qbo zs}),ltq i (↑s.lots.length:Int)=false]):=by kernel_rfl
theorem Qxw (B:Lo) (s:Qaa) (days:Int) (i k:Int) (out gs:List Int) (n gl:Nat) (dJ0:Nat->Value):landM (Qak Tryz.prog (Qa1 Tryz.prog) J0 B 18 1 (Qa4 47 107 (([2,3,6,7,12,13,14]:List Nat).zip (QnS s days i k out gs n gl)) dJ0 Qnv) (Qa3 (QhZ s days i k out gs n gl)) (2+(QhZ s days i k out gs n gl).length)
 [(4,hvT),(8,Qaj.tidx i.toNat #[slT (List.length (Qad.goods (s.lots.getD i.toNat default))) (Qac Qa6 (Qad.goods (s.lots.getD i.toNat default))),.int .i64 (Qad.weight (s.lots.getD i.toNat default)),.int .i64 (Qad.cost (s.lots.getD i.toNat default))]),(12,Qaj.tidx k.toNat #[.int .i64 (Span.lo (List.getD (Qad.goods (s.lots.getD i.toNat default)) k.toNat default)),.int .i64 (Span.hi (List.getD (Qad.goods (s.lots.getD i.toNat default)) k.toNat default))]),(20,Qaj.tidx i.toNat #[slT (List.length (Qad.goods (s.lots.getD i.toNat default))) (Qac Qa6 (Qad.goods (s.lots.getD i.toNat default))),.int .i64 (Qad.weight (s.lots.getD i.toNat default)),.int .i64 (Qad.cost (s.lots.getD i.toNat default))]),(24,Qaj.tidx k.toNat #[.int .i64 (Span.lo (List.getD (Qad.goods (s.lots.getD i.toNat default)) k.toNat default)),.int .i64 (Span.hi (List.getD (Qad.goods (s.lots.getD i.toNat default)) k.toNat default))]),(34,hvI (k+1))] 0 [] []) [2,3,6,7,12,13,14] [(2,KS.auto),(3,KS.auto),(4,KS.auto),(5,KS.cells [] (Qac Qar out)),(6,KS.cells [] (Qac Qar gs)),(8,KS.cells [] (Qac Qar [Span.lo (List.getD (Qad.goods (s.lots.getD i.toNat default)) k.toNat default)]))] []=some ⟨47,107,Qif,[],.run,none,Qh5 s days (i) (k+1) (out) (gs) ([Span.lo (List.getD (Qad.goods (s.lots.getD i.toNat default)) k.toNat default)]) (n) (gl) (1),QeL s days (i) (k+1) (out) (gs) ([Span.lo (List.getD (Qad.goods (s.lots.getD i.toNat default)) k.toNat default)]) (n) (gl) (1),
 [QaQ 1 [] (Qac Qar out) (Qac Qar out),QaQ 1 [] (Qac Qar gs) (Qac Qar gs),QaQ 1 [] (#[.int .i64 (Span.lo (List.getD (Qad.goods (s.lots.getD i.toNat default)) k.toNat default))]) (Qac Qar [Span.lo (List.getD (Qad.goods (s.lots.getD i.toNat default)) k.toNat default)]),wq (k+1)=k+1,k=(↑k.toNat:Int)/\Int.toNat k < List.length (Qad.goods (s.lots.getD i.toNat default))/\Array.extract (Qac Qa6 (Qad.goods (s.lots.getD i.toNat default))) (Int.toNat k * TypeInfo.size Tryz.t25) (Int.toNat k * TypeInfo.size Tryz.t25+TypeInfo.size Tryz.t25)=#[.int .i64 (Span.lo (List.getD (Qad.goods (s.lots.getD i.toNat default)) k.toNat default)),.int .i64 (Span.hi (List.getD (Qad.goods (s.lots.getD i.toNat default)) k.toNat default))],i=(↑i.toNat:Int)/\Int.toNat i < List.length s.lots/\Array.extract (Qac Qam s.lots) (Int.toNat i * TypeInfo.size Tryz.t118) (Int.toNat i * TypeInfo.size Tryz.t118+TypeInfo.size Tryz.t118)=#[slT (List.length (Qad.goods (s.lots.getD i.toNat default))) (Qac Qa6 (Qad.goods (s.lots.getD i.toNat default))),.int .i64 (Qad.weight (s.lots.getD i.toNat default)),.int .i64 (Qad.cost (s.lots.getD i.toNat default))],k=(↑k.toNat:Int)/\Int.toNat k < List.length (Qad.goods (s.lots.getD i.toNat default))/\Array.extract (Qac Qa6 (Qad.goods (s.lots.getD i.toNat default))) (Int.toNat k * TypeInfo.size Tryz.t25) (Int.toNat k * TypeInfo.size Tryz.t25+TypeInfo.size Tryz.t25)=#[.int .i64 (Span.lo (List.getD (Qad.goods (s.lots.getD i.toNat default)) k.toNat default)),.int .i64 (Span.hi (List.getD (Qad.goods (s.lots.getD i.toNat default)) k.toNat default))],i=(↑i.toNat:Int)/\Int.toNat i < List.length s.lots/\Array.extract (Qac Qam s.lots) (Int.toNat i * TypeInfo.size Tryz.t118) (Int.toNat i * TypeInfo.size Tryz.t118+TypeInfo.size Tryz.t118)=#[slT (List.length (Qad.goods (s.lots.getD i.toNat default))) (Qac Qa6 (Qad.goods (s.lots.getD i.toNat default))),.int .i64 (Qad.weight (s.lots.getD i.toNat default)),.int .i64 (Qad.cost (s.lots.getD i.toNat default))],ltq k (↑s.stock.length:Int)=true]⟩:=by kernel_rfl
theorem Qxv (B:Lo) (s:Qaa) (days:Int) (i k:Int) (out gs ls:List Int) (n gl w:Nat) (dJ0:Nat->Value):landM (Qak Tryz.prog (Qa1 Tryz.prog) J0 B 18 1 (Qa4 47 107 (([2,3,6,7,12,13,14]:List Nat).zip (Qh5 s days i k out gs ls n gl w)) dJ0 Qif) (Qa3 (QeL s days i k out gs ls n gl w)) (2+(QeL s days i k out gs ls n gl w).length)
 [(4,hvT),(8,Qaj.tidx i.toNat #[slT (List.length (Qad.goods (s.lots.getD i.toNat default))) (Qac Qa6 (Qad.goods (s.lots.getD i.toNat default))),.int .i64 (Qad.weight (s.lots.getD i.toNat default)),.int .i64 (Qad.cost (s.lots.getD i.toNat default))]),(12,Qaj.tidx k.toNat #[.int .i64 (Span.lo (List.getD (Qad.goods (s.lots.getD i.toNat default)) k.toNat default)),.int .i64 (Span.hi (List.getD (Qad.goods (s.lots.getD i.toNat default)) k.toNat default))]),(20,Qaj.tidx i.toNat #[slT (List.length (Qad.goods (s.lots.getD i.toNat default))) (Qac Qa6 (Qad.goods (s.lots.getD i.toNat default))),.int .i64 (Qad.weight (s.lots.getD i.toNat default)),.int .i64 (Qad.cost (s.lots.getD i.toNat default))]),(24,Qaj.tidx k.toNat #[.int .i64 (Span.lo (List.getD (Qad.goods (s.lots.getD i.toNat default)) k.toNat default)),.int .i64 (Span.hi (List.getD (Qad.goods (s.lots.getD i.toNat default)) k.toNat default))]),(31,Qaj.old (Hint.app (Qac Qar (ls++[Span.lo (List.getD (Qad.goods (s.lots.getD i.toNat default)) k.toNat default)])))),(34,hvI (k+1))] 0 [] []) [2,3,6,7,12,13,14] [(2,KS.auto),(3,KS.auto),(4,KS.auto),(5,KS.cells [] (Qac Qar out)),(6,KS.cells [] (Qac Qar gs)),(9,KS.cells [] (Qac Qar (ls++[Span.lo (List.getD (Qad.goods (s.lots.getD i.toNat default)) k.toNat default)])))] []=some ⟨47,107,Qif,[],.run,none,Qh5 s days (i) (k+1) (out) (gs) (ls++[Span.lo (List.getD (Qad.goods (s.lots.getD i.toNat default)) k.toNat default)]) (n) (gl) (w+1),QeL s days (i) (k+1) (out) (gs) (ls++[Span.lo (List.getD (Qad.goods (s.lots.getD i.toNat default)) k.toNat default)]) (n) (gl) (w+1),
 [QaQ 1 [] (Qac Qar out) (Qac Qar out),QaQ 1 [] (Qac Qar gs) (Qac Qar gs),QaQ 1 [] (Qac Qar (ls++[Span.lo (List.getD (Qad.goods (s.lots.getD i.toNat default)) k.toNat default)])) (Qac Qar (ls++[Span.lo (List.getD (Qad.goods (s.lots.getD i.toNat default)) k.toNat default)])),wq (k+1)=k+1,Array.size (Qac Qar ls)=w * (0+1)/\w+1<=maxLen/\(w+1) * 8<=140737488355328/\Qac Qar ls++#[.int .i64 (Span.lo (List.getD (Qad.goods (s.lots.getD i.toNat default)) k.toNat default))]=Qac Qar (ls++[Span.lo (List.getD (Qad.goods (s.lots.getD i.toNat default)) k.toNat default)]),k=(↑k.toNat:Int)/\Int.toNat k < List.length (Qad.goods (s.lots.getD i.toNat default))/\Array.extract (Qac Qa6 (Qad.goods (s.lots.getD i.toNat default))) (Int.toNat k * TypeInfo.size Tryz.t25) (Int.toNat k * TypeInfo.size Tryz.t25+TypeInfo.size Tryz.t25)=#[.int .i64 (Span.lo (List.getD (Qad.goods (s.lots.getD i.toNat default)) k.toNat default)),.int .i64 (Span.hi (List.getD (Qad.goods (s.lots.getD i.toNat default)) k.toNat default))],i=(↑i.toNat:Int)/\Int.toNat i < List.length s.lots/\Array.extract (Qac Qam s.lots) (Int.toNat i * TypeInfo.size Tryz.t118) (Int.toNat i * TypeInfo.size Tryz.t118+TypeInfo.size Tryz.t118)=#[slT (List.length (Qad.goods (s.lots.getD i.toNat default))) (Qac Qa6 (Qad.goods (s.lots.getD i.toNat default))),.int .i64 (Qad.weight (s.lots.getD i.toNat default)),.int .i64 (Qad.cost (s.lots.getD i.toNat default))],k=(↑k.toNat:Int)/\Int.toNat k < List.length (Qad.goods (s.lots.getD i.toNat default))/\Array.extract (Qac Qa6 (Qad.goods (s.lots.getD i.toNat default))) (Int.toNat k * TypeInfo.size Tryz.t25) (Int.toNat k * TypeInfo.size Tryz.t25+TypeInfo.size Tryz.t25)=#[.int .i64 (Span.lo (List.getD (Qad.goods (s.lots.getD i.toNat default)) k.toNat default)),.int .i64 (Span.hi (List.getD (Qad.goods (s.lots.getD i.toNat default)) k.toNat default))],i=(↑i.toNat:Int)/\Int.toNat i < List.length s.lots/\Array.extract (Qac Qam s.lots) (Int.toNat i * TypeInfo.size Tryz.t118) (Int.toNat i * TypeInfo.size Tryz.t118+TypeInfo.size Tryz.t118)=#[slT (List.length (Qad.goods (s.lots.getD i.toNat default))) (Qac Qa6 (Qad.goods (s.lots.getD i.toNat default))),.int .i64 (Qad.weight (s.lots.getD i.toNat default)),.int .i64 (Qad.cost (s.lots.getD i.toNat default))],ltq k (↑s.stock.length:Int)=true]⟩:=by kernel_rfl
theorem Qyc (B:Lo) (s:Qaa) (days:Int) (i k:Int) (out gs ls:List Int) (n gl w:Nat) (dJ0:Nat->Value):landM (Qak Tryz.prog (Qa1 Tryz.prog) J0 B 9 1 (Qa4 47 107 (([2,3,6,7,12,13,14]:List Nat).zip (Qh5 s days i k out gs ls n gl w)) dJ0 Qif) (Qa3 (QeL s days i k out gs ls n gl w)) (2+(QeL s days i k out gs ls n gl w).length)
 [(4,hvF),(13,hvI (i+1))] 0 [] []) [2,3,6,7,12] [(2,KS.auto),(3,KS.auto),(4,KS.auto),(5,KS.cells [] (Qac Qar out)),(6,KS.cells [] (Qac Qar gs)),(9,KS.rows [] [7] (Qac (Qa5 1 Qbo) [{n:=w,xs:=ls}]))] [{k:=7,rs:=[],cs:=Qac Qar ls}]=some ⟨47,107,Qid,[],.run,none,Qit s days (i+1) (out) (gs) ([{n:=w,xs:=ls}]) (n) (gl) (1),QeI s days (i+1) (out) (gs) ([{n:=w,xs:=ls}]) (n) (gl) (1),
 [QaQ 1 [] (Qac Qar out) (Qac Qar out),QaQ 1 [] (Qac Qar gs) (Qac Qar gs),QaX 1 [] [(7,Fz.cs {k:=7,rs:=[],cs:=Qac Qar ls})] #[.slice (some {block:=7,off:=0}) w 1] (Qac (Qa5 1 Qbo) [{n:=w,xs:=ls}]),Qb7 (Fz.rs {k:=7,rs:=[],cs:=Qac Qar ls}) (Qac Qar ls) (Fz.cs {k:=7,rs:=[],cs:=Qac Qar ls}),wq (i+1)=i+1,ltq k (↑s.stock.length:Int)=false]⟩:=by kernel_rfl
theorem QwH (B:Lo) (s:Qaa) (days:Int) (i k:Int) (out gs:List Int) (zs:List RW) (n gl z:Nat) (dJ0:Nat->Value):landM (Qak Tryz.prog (Qa1 Tryz.prog) J0 B 18 1 (Qa4 47 107 (([2,3,6,7,12,13,14]:List Nat).zip (Qk5 s days i k out gs zs n gl z)) dJ0 QlA) (Qa3 (Qgk s days i k out gs zs n gl z)) (2+(Qgk s days i k out gs zs n gl z).length)
 [(4,hvT),(8,Qaj.tidx i.toNat #[slT (List.length (Qad.goods (s.lots.getD i.toNat default))) (Qac Qa6 (Qad.goods (s.lots.getD i.toNat default))),.int .i64 (Qad.weight (s.lots.getD i.toNat default)),.int .i64 (Qad.cost (s.lots.getD i.toNat default))]),(12,Qaj.tidx k.toNat #[.int .i64 (Span.lo (List.getD (Qad.goods (s.lots.getD i.toNat default)) k.toNat default)),.int .i64 (Span.hi (List.getD (Qad.goods (s.lots.getD i.toNat default)) k.toNat default))]),(20,Qaj.tidx i.toNat #[slT (List.length (Qad.goods (s.lots.getD i.toNat default))) (Qac Qa6 (Qad.goods (s.lots.getD i.toNat default))),.int .i64 (Qad.weight (s.lots.getD i.toNat default)),.int .i64 (Qad.cost (s.lots.getD i.toNat default))]),(24,Qaj.tidx k.toNat #[.int .i64 (Span.lo (List.getD (Qad.goods (s.lots.getD i.toNat default)) k.toNat default)),.int .i64 (Span.hi (List.getD (Qad.goods (s.lots.getD i.toNat default)) k.toNat default))]),(34,hvI (k+1))] 0 [] []) [2,3,6,7,12,13,14] [(2,KS.auto),(3,KS.auto),(4,KS.auto),(5,KS.cells [] (Qac Qar out)),(6,KS.cells [] (Qac Qar gs)),(7,KS.rows [(1,1)] [] (Qac (Qa5 1 Qbo) zs)),(9,KS.cells [] (Qac Qar [Span.lo (List.getD (Qad.goods (s.lots.getD i.toNat default)) k.toNat default)]))] []=some ⟨47,107,QgD,[],.run,none,QgE s days (i) (k+1) (out) (gs) ([Span.lo (List.getD (Qad.goods (s.lots.getD i.toNat default)) k.toNat default)]) (zs) (n) (gl) (z) (1),QdY s days (i) (k+1) (out) (gs) ([Span.lo (List.getD (Qad.goods (s.lots.getD i.toNat default)) k.toNat default)]) (zs) (n) (gl) (z) (1),
 [QaQ 1 [] (Qac Qar out) (Qac Qar out),QaQ 1 [] (Qac Qar gs) (Qac Qar gs),QaX 1 [(1,1)] [] (Qac (Qa5 1 Qbo) zs) (Qac (Qa5 1 Qbo) zs),QaQ 1 [] (#[.int .i64 (Span.lo (List.getD (Qad.goods (s.lots.getD i.toNat default)) k.toNat default))]) (Qac Qar [Span.lo (List.getD (Qad.goods (s.lots.getD i.toNat default)) k.toNat default)]),wq (k+1)=k+1,k=(↑k.toNat:Int)/\Int.toNat k < List.length (Qad.goods (s.lots.getD i.toNat default))/\Array.extract (Qac Qa6 (Qad.goods (s.lots.getD i.toNat default))) (Int.toNat k * TypeInfo.size Tryz.t25) (Int.toNat k * TypeInfo.size Tryz.t25+TypeInfo.size Tryz.t25)=#[.int .i64 (Span.lo (List.getD (Qad.goods (s.lots.getD i.toNat default)) k.toNat default)),.int .i64 (Span.hi (List.getD (Qad.goods (s.lots.getD i.toNat default)) k.toNat default))],i=(↑i.toNat:Int)/\Int.toNat i < List.length s.lots/\Array.extract (Qac Qam s.lots) (Int.toNat i * TypeInfo.size Tryz.t118) (Int.toNat i * TypeInfo.size Tryz.t118+TypeInfo.size Tryz.t118)=#[slT (List.length (Qad.goods (s.lots.getD i.toNat default))) (Qac Qa6 (Qad.goods (s.lots.getD i.toNat default))),.int .i64 (Qad.weight (s.lots.getD i.toNat default)),.int .i64 (Qad.cost (s.lots.getD i.toNat default))],k=(↑k.toNat:Int)/\Int.toNat k < List.length (Qad.goods (s.lots.getD i.toNat default))/\Array.extract (Qac Qa6 (Qad.goods (s.lots.getD i.toNat default))) (Int.toNat k * TypeInfo.size Tryz.t25) (Int.toNat k * TypeInfo.size Tryz.t25+TypeInfo.size Tryz.t25)=#[.int .i64 (Span.lo (List.getD (Qad.goods (s.lots.getD i.toNat default)) k.toNat default)),.int .i64 (Span.hi (List.getD (Qad.goods (s.lots.getD i.toNat default)) k.toNat default))],i=(↑i.toNat:Int)/\Int.toNat i < List.length s.lots/\Array.extract (Qac Qam s.lots) (Int.toNat i * TypeInfo.size Tryz.t118) (Int.toNat i * TypeInfo.size Tryz.t118+TypeInfo.size Tryz.t118)=#[slT (List.length (Qad.goods (s.lots.getD i.toNat default))) (Qac Qa6 (Qad.goods (s.lots.getD i.toNat default))),.int .i64 (Qad.weight (s.lots.getD i.toNat default)),.int .i64 (Qad.cost (s.lots.getD i.toNat default))],ltq k (↑s.stock.length:Int)=true]⟩:=by kernel_rfl
theorem Qx3 (B:Lo) (s:Qaa) (days:Int) (i k:Int) (out gs ls:List Int) (zs:List RW) (n gl z w:Nat) (dJ0:Nat->Value):landM (Qak Tryz.prog (Qa1 Tryz.prog) J0 B 18 1 (Qa4 47 107 (([2,3,6,7,12,13,14]:List Nat).zip (QgE s days i k out gs ls zs n gl z w)) dJ0 QgD) (Qa3 (QdY s days i k out gs ls zs n gl z w)) (2+(QdY s days i k out gs ls zs n gl z w).length)
 [(4,hvT),(8,Qaj.tidx i.toNat #[slT (List.length (Qad.goods (s.lots.getD i.toNat default))) (Qac Qa6 (Qad.goods (s.lots.getD i.toNat default))),.int .i64 (Qad.weight (s.lots.getD i.toNat default)),.int .i64 (Qad.cost (s.lots.getD i.toNat default))]),(12,Qaj.tidx k.toNat #[.int .i64 (Span.lo (List.getD (Qad.goods (s.lots.getD i.toNat default)) k.toNat default)),.int .i64 (Span.hi (List.getD (Qad.goods (s.lots.getD i.toNat default)) k.toNat default))]),(20,Qaj.tidx i.toNat #[slT (List.length (Qad.goods (s.lots.getD i.toNat default))) (Qac Qa6 (Qad.goods (s.lots.getD i.toNat default))),.int .i64 (Qad.weight (s.lots.getD i.toNat default)),.int .i64 (Qad.cost (s.lots.getD i.toNat default))]),(24,Qaj.tidx k.toNat #[.int .i64 (Span.lo (List.getD (Qad.goods (s.lots.getD i.toNat default)) k.toNat default)),.int .i64 (Span.hi (List.getD (Qad.goods (s.lots.getD i.toNat default)) k.toNat default))]),(31,Qaj.old (Hint.app (Qac Qar (ls++[Span.lo (List.getD (Qad.goods (s.lots.getD i.toNat default)) k.toNat default)])))),(34,hvI (k+1))] 0 [] []) [2,3,6,7,12,13,14] [(2,KS.auto),(3,KS.auto),(4,KS.auto),(5,KS.cells [] (Qac Qar out)),(6,KS.cells [] (Qac Qar gs)),(7,KS.rows [(1,1)] [] (Qac (Qa5 1 Qbo) zs)),(10,KS.cells [] (Qac Qar (ls++[Span.lo (List.getD (Qad.goods (s.lots.getD i.toNat default)) k.toNat default)])))] []=some ⟨47,107,QgD,[],.run,none,QgE s days (i) (k+1) (out) (gs) (ls++[Span.lo (List.getD (Qad.goods (s.lots.getD i.toNat default)) k.toNat default)]) (zs) (n) (gl) (z) (w+1),QdY s days (i) (k+1) (out) (gs) (ls++[Span.lo (List.getD (Qad.goods (s.lots.getD i.toNat default)) k.toNat default)]) (zs) (n) (gl) (z) (w+1),
 [QaQ 1 [] (Qac Qar out) (Qac Qar out),QaQ 1 [] (Qac Qar gs) (Qac Qar gs),QaX 1 [(1,1)] [] (Qac (Qa5 1 Qbo) zs) (Qac (Qa5 1 Qbo) zs),QaQ 1 [] (Qac Qar (ls++[Span.lo (List.getD (Qad.goods (s.lots.getD i.toNat default)) k.toNat default)])) (Qac Qar (ls++[Span.lo (List.getD (Qad.goods (s.lots.getD i.toNat default)) k.toNat default)])),wq (k+1)=k+1,Array.size (Qac Qar ls)=w * (0+1)/\w+1<=maxLen/\(w+1) * 8<=140737488355328/\Qac Qar ls++#[.int .i64 (Span.lo (List.getD (Qad.goods (s.lots.getD i.toNat default)) k.toNat default))]=Qac Qar (ls++[Span.lo (List.getD (Qad.goods (s.lots.getD i.toNat default)) k.toNat default)]),k=(↑k.toNat:Int)/\Int.toNat k < List.length (Qad.goods (s.lots.getD i.toNat default))/\Array.extract (Qac Qa6 (Qad.goods (s.lots.getD i.toNat default))) (Int.toNat k * TypeInfo.size Tryz.t25) (Int.toNat k * TypeInfo.size Tryz.t25+TypeInfo.size Tryz.t25)=#[.int .i64 (Span.lo (List.getD (Qad.goods (s.lots.getD i.toNat default)) k.toNat default)),.int .i64 (Span.hi (List.getD (Qad.goods (s.lots.getD i.toNat default)) k.toNat default))],i=(↑i.toNat:Int)/\Int.toNat i < List.length s.lots/\Array.extract (Qac Qam s.lots) (Int.toNat i * TypeInfo.size Tryz.t118) (Int.toNat i * TypeInfo.size Tryz.t118+TypeInfo.size Tryz.t118)=#[slT (List.length (Qad.goods (s.lots.getD i.toNat default))) (Qac Qa6 (Qad.goods (s.lots.getD i.toNat default))),.int .i64 (Qad.weight (s.lots.getD i.toNat default)),.int .i64 (Qad.cost (s.lots.getD i.toNat default))],k=(↑k.toNat:Int)/\Int.toNat k < List.length (Qad.goods (s.lots.getD i.toNat default))/\Array.extract (Qac Qa6 (Qad.goods (s.lots.getD i.toNat default))) (Int.toNat k * TypeInfo.size Tryz.t25) (Int.toNat k * TypeInfo.size Tryz.t25+TypeInfo.size Tryz.t25)=#[.int .i64 (Span.lo (List.getD (Qad.goods (s.lots.getD i.toNat default)) k.toNat default)),.int .i64 (Span.hi (List.getD (Qad.goods (s.lots.getD i.toNat default)) k.toNat default))],i=(↑i.toNat:Int)/\Int.toNat i < List.length s.lots/\Array.extract (Qac Qam s.lots) (Int.toNat i * TypeInfo.size Tryz.t118) (Int.toNat i * TypeInfo.size Tryz.t118+TypeInfo.size Tryz.t118)=#[slT (List.length (Qad.goods (s.lots.getD i.toNat default))) (Qac Qa6 (Qad.goods (s.lots.getD i.toNat default))),.int .i64 (Qad.weight (s.lots.getD i.toNat default)),.int .i64 (Qad.cost (s.lots.getD i.toNat default))],ltq k (↑s.stock.length:Int)=true]⟩:=by kernel_rfl
theorem QwV (B:Lo) (s:Qaa) (days:Int) (i k:Int) (out gs ls:List Int) (zs:List RW) (n gl z w:Nat) (dJ0:Nat->Value):landM (Qak Tryz.prog (Qa1 Tryz.prog) J0 B 9 1 (Qa4 47 107 (([2,3,6,7,12,13,14]:List Nat).zip (QgE s days i k out gs ls zs n gl z w)) dJ0 QgD) (Qa3 (QdY s days i k out gs ls zs n gl z w)) (2+(QdY s days i k out gs ls zs n gl z w).length)
 [(4,hvF),(9,Qaj.old (Hint.app (Qac (Qa5 1 Qbo) zs++#[.slice (some {block:=8,off:=0}) w 1]))),(13,hvI (i+1))] 0 [] []) [2,3,6,7,12] [(2,KS.auto),(3,KS.auto),(4,KS.auto),(5,KS.cells [] (Qac Qar out)),(6,KS.cells [] (Qac Qar gs)),(10,KS.rows [(1,1)] [8] (Qac (Qa5 1 Qbo) (zs++[{n:=w,xs:=ls}])))] [{k:=8,rs:=[],cs:=Qac Qar ls}]=some ⟨47,107,Qid,[],.run,none,Qit s days (i+1) (out) (gs) (zs++[{n:=w,xs:=ls}]) (n) (gl) (z+1),QeI s days (i+1) (out) (gs) (zs++[{n:=w,xs:=ls}]) (n) (gl) (z+1),
 [QaQ 1 [] (Qac Qar out) (Qac Qar out),QaQ 1 [] (Qac Qar gs) (Qac Qar gs),QaX 1 [(1,1)] [(8,Fz.cs {k:=8,rs:=[],cs:=Qac Qar ls})] (Qac (Qa5 1 Qbo) zs++#[.slice (some {block:=8,off:=0}) w 1]) (Qac (Qa5 1 Qbo) (zs++[{n:=w,xs:=ls}])),Qb7 (Fz.rs {k:=8,rs:=[],cs:=Qac Qar ls}) (Qac Qar ls) (Fz.cs {k:=8,rs:=[],cs:=Qac Qar ls}),wq (i+1)=i+1,Array.size (Qac (Qa5 1 Qbo) zs)=z * (0+1)/\z+1<=maxLen/\(z+1) * 24<=140737488355328/\Qac (Qa5 1 Qbo) zs++#[.slice (some {block:=8,off:=0}) w 1]=Qac (Qa5 1 Qbo) zs++#[.slice (some {block:=8,off:=0}) w 1],ltq k (↑s.stock.length:Int)=false]⟩:=by kernel_rfl
theorem Qvf (B:Lo) (s:Qaa) (days:Int) (i k:Int) (out:List Int) (n:Nat) (dJ0:Nat->Value):landM (Qak Tryz.prog (Qa1 Tryz.prog) J0 B 18 1 (Qa4 47 107 (([2,3,6,7,12,13,14]:List Nat).zip (QlL s days i k out n)) dJ0 QlZ) (Qa3 (QfV s days i k out n)) (2+(QfV s days i k out n).length)
 [(4,hvT),(8,Qaj.tidx i.toNat #[slT (List.length (Qad.goods (s.lots.getD i.toNat default))) (Qac Qa6 (Qad.goods (s.lots.getD i.toNat default))),.int .i64 (Qad.weight (s.lots.getD i.toNat default)),.int .i64 (Qad.cost (s.lots.getD i.toNat default))]),(12,Qaj.tidx k.toNat #[.int .i64 (Span.lo (List.getD (Qad.goods (s.lots.getD i.toNat default)) k.toNat default)),.int .i64 (Span.hi (List.getD (Qad.goods (s.lots.getD i.toNat default)) k.toNat default))]),(20,Qaj.tidx i.toNat #[slT (List.length (Qad.goods (s.lots.getD i.toNat default))) (Qac Qa6 (Qad.goods (s.lots.getD i.toNat default))),.int .i64 (Qad.weight (s.lots.getD i.toNat default)),.int .i64 (Qad.cost (s.lots.getD i.toNat default))]),(24,Qaj.tidx k.toNat #[.int .i64 (Span.lo (List.getD (Qad.goods (s.lots.getD i.toNat default)) k.toNat default)),.int .i64 (Span.hi (List.getD (Qad.goods (s.lots.getD i.toNat default)) k.toNat default))]),(34,hvI (k+1))] 0 [] []) [2,3,6,7,12,13,14] [(2,KS.auto),(3,KS.auto),(4,KS.auto),(5,KS.cells [] (Qac Qar out)),(7,KS.cells [] (Qac Qar [Span.lo (List.getD (Qad.goods (s.lots.getD i.toNat default)) k.toNat default)]))] []=some ⟨47,107,Qg4,[],.run,none,Qgp s days (i) (k+1) (out) ([Span.lo (List.getD (Qad.goods (s.lots.getD i.toNat default)) k.toNat default)]) (n) (1),Qeb s days (i) (k+1) (out) ([Span.lo (List.getD (Qad.goods (s.lots.getD i.toNat default)) k.toNat default)]) (n) (1),
 [QaQ 1 [] (Qac Qar out) (Qac Qar out),QaQ 1 [] (#[.int .i64 (Span.lo (List.getD (Qad.goods (s.lots.getD i.toNat default)) k.toNat default))]) (Qac Qar [Span.lo (List.getD (Qad.goods (s.lots.getD i.toNat default)) k.toNat default)]),wq (k+1)=k+1,k=(↑k.toNat:Int)/\Int.toNat k < List.length (Qad.goods (s.lots.getD i.toNat default))/\Array.extract (Qac Qa6 (Qad.goods (s.lots.getD i.toNat default))) (Int.toNat k * TypeInfo.size Tryz.t25) (Int.toNat k * TypeInfo.size Tryz.t25+TypeInfo.size Tryz.t25)=#[.int .i64 (Span.lo (List.getD (Qad.goods (s.lots.getD i.toNat default)) k.toNat default)),.int .i64 (Span.hi (List.getD (Qad.goods (s.lots.getD i.toNat default)) k.toNat default))],i=(↑i.toNat:Int)/\Int.toNat i < List.length s.lots/\Array.extract (Qac Qam s.lots) (Int.toNat i * TypeInfo.size Tryz.t118) (Int.toNat i * TypeInfo.size Tryz.t118+TypeInfo.size Tryz.t118)=#[slT (List.length (Qad.goods (s.lots.getD i.toNat default))) (Qac Qa6 (Qad.goods (s.lots.getD i.toNat default))),.int .i64 (Qad.weight (s.lots.getD i.toNat default)),.int .i64 (Qad.cost (s.lots.getD i.toNat default))],k=(↑k.toNat:Int)/\Int.toNat k < List.length (Qad.goods (s.lots.getD i.toNat default))/\Array.extract (Qac Qa6 (Qad.goods (s.lots.getD i.toNat default))) (Int.toNat k * TypeInfo.size Tryz.t25) (Int.toNat k * TypeInfo.size Tryz.t25+TypeInfo.size Tryz.t25)=#[.int .i64 (Span.lo (List.getD (Qad.goods (s.lots.getD i.toNat default)) k.toNat default)),.int .i64 (Span.hi (List.getD (Qad.goods (s.lots.getD i.toNat default)) k.toNat default))],i=(↑i.toNat:Int)/\Int.toNat i < List.length s.lots/\Array.extract (Qac Qam s.lots) (Int.toNat i * TypeInfo.size Tryz.t118) (Int.toNat i * TypeInfo.size Tryz.t118+TypeInfo.size Tryz.t118)=#[slT (List.length (Qad.goods (s.lots.getD i.toNat default))) (Qac Qa6 (Qad.goods (s.lots.getD i.toNat default))),.int .i64 (Qad.weight (s.lots.getD i.toNat default)),.int .i64 (Qad.cost (s.lots.getD i.toNat default))],ltq k (↑s.stock.length:Int)=true]⟩:=by kernel_rfl
theorem Qxr (B:Lo) (s:Qaa) (days:Int) (i k:Int) (out ls:List Int) (n w:Nat) (dJ0:Nat->Value):landM (Qak Tryz.prog (Qa1 Tryz.prog) J0 B 18 1 (Qa4 47 107 (([2,3,6,7,12,13,14]:List Nat).zip (Qgp s days i k out ls n w)) dJ0 Qg4) (Qa3 (Qeb s days i k out ls n w)) (2+(Qeb s days i k out ls n w).length)
 [(4,hvT),(8,Qaj.tidx i.toNat #[slT (List.length (Qad.goods (s.lots.getD i.toNat default))) (Qac Qa6 (Qad.goods (s.lots.getD i.toNat default))),.int .i64 (Qad.weight (s.lots.getD i.toNat default)),.int .i64 (Qad.cost (s.lots.getD i.toNat default))]),(12,Qaj.tidx k.toNat #[.int .i64 (Span.lo (List.getD (Qad.goods (s.lots.getD i.toNat default)) k.toNat default)),.int .i64 (Span.hi (List.getD (Qad.goods (s.lots.getD i.toNat default)) k.toNat default))]),(20,Qaj.tidx i.toNat #[slT (List.length (Qad.goods (s.lots.getD i.toNat default))) (Qac Qa6 (Qad.goods (s.lots.getD i.toNat default))),.int .i64 (Qad.weight (s.lots.getD i.toNat default)),.int .i64 (Qad.cost (s.lots.getD i.toNat default))]),(24,Qaj.tidx k.toNat #[.int .i64 (Span.lo (List.getD (Qad.goods (s.lots.getD i.toNat default)) k.toNat default)),.int .i64 (Span.hi (List.getD (Qad.goods (s.lots.getD i.toNat default)) k.toNat default))]),(31,Qaj.old (Hint.app (Qac Qar (ls++[Span.lo (List.getD (Qad.goods (s.lots.getD i.toNat default)) k.toNat default)])))),(34,hvI (k+1))] 0 [] []) [2,3,6,7,12,13,14] [(2,KS.auto),(3,KS.auto),(4,KS.auto),(5,KS.cells [] (Qac Qar out)),(8,KS.cells [] (Qac Qar (ls++[Span.lo (List.getD (Qad.goods (s.lots.getD i.toNat default)) k.toNat default)])))] []=some ⟨47,107,Qg4,[],.run,none,Qgp s days (i) (k+1) (out) (ls++[Span.lo (List.getD (Qad.goods (s.lots.getD i.toNat default)) k.toNat default)]) (n) (w+1),Qeb s days (i) (k+1) (out) (ls++[Span.lo (List.getD (Qad.goods (s.lots.getD i.toNat default)) k.toNat default)]) (n) (w+1),
 [QaQ 1 [] (Qac Qar out) (Qac Qar out),QaQ 1 [] (Qac Qar (ls++[Span.lo (List.getD (Qad.goods (s.lots.getD i.toNat default)) k.toNat default)])) (Qac Qar (ls++[Span.lo (List.getD (Qad.goods (s.lots.getD i.toNat default)) k.toNat default)])),wq (k+1)=k+1,Array.size (Qac Qar ls)=w * (0+1)/\w+1<=maxLen/\(w+1) * 8<=140737488355328/\Qac Qar ls++#[.int .i64 (Span.lo (List.getD (Qad.goods (s.lots.getD i.toNat default)) k.toNat default))]=Qac Qar (ls++[Span.lo (List.getD (Qad.goods (s.lots.getD i.toNat default)) k.toNat default)]),k=(↑k.toNat:Int)/\Int.toNat k < List.length (Qad.goods (s.lots.getD i.toNat default))/\Array.extract (Qac Qa6 (Qad.goods (s.lots.getD i.toNat default))) (Int.toNat k * TypeInfo.size Tryz.t25) (Int.toNat k * TypeInfo.size Tryz.t25+TypeInfo.size Tryz.t25)=#[.int .i64 (Span.lo (List.getD (Qad.goods (s.lots.getD i.toNat default)) k.toNat default)),.int .i64 (Span.hi (List.getD (Qad.goods (s.lots.getD i.toNat default)) k.toNat default))],i=(↑i.toNat:Int)/\Int.toNat i < List.length s.lots/\Array.extract (Qac Qam s.lots) (Int.toNat i * TypeInfo.size Tryz.t118) (Int.toNat i * TypeInfo.size Tryz.t118+TypeInfo.size Tryz.t118)=#[slT (List.length (Qad.goods (s.lots.getD i.toNat default))) (Qac Qa6 (Qad.goods (s.lots.getD i.toNat default))),.int .i64 (Qad.weight (s.lots.getD i.toNat default)),.int .i64 (Qad.cost (s.lots.getD i.toNat default))],k=(↑k.toNat:Int)/\Int.toNat k < List.length (Qad.goods (s.lots.getD i.toNat default))/\Array.extract (Qac Qa6 (Qad.goods (s.lots.getD i.toNat default))) (Int.toNat k * TypeInfo.size Tryz.t25) (Int.toNat k * TypeInfo.size Tryz.t25+TypeInfo.size Tryz.t25)=#[.int .i64 (Span.lo (List.getD (Qad.goods (s.lots.getD i.toNat default)) k.toNat default)),.int .i64 (Span.hi (List.getD (Qad.goods (s.lots.getD i.toNat default)) k.toNat default))],i=(↑i.toNat:Int)/\Int.toNat i < List.length s.lots/\Array.extract (Qac Qam s.lots) (Int.toNat i * TypeInfo.size Tryz.t118) (Int.toNat i * TypeInfo.size Tryz.t118+TypeInfo.size Tryz.t118)=#[slT (List.length (Qad.goods (s.lots.getD i.toNat default))) (Qac Qa6 (Qad.goods (s.lots.getD i.toNat default))),.int .i64 (Qad.weight (s.lots.getD i.toNat default)),.int .i64 (Qad.cost (s.lots.getD i.toNat default))],ltq k (↑s.stock.length:Int)=true]⟩:=by kernel_rfl
theorem QwK (B:Lo) (s:Qaa) (days:Int) (i k:Int) (out ls:List Int) (n w:Nat) (dJ0:Nat->Value):landM (Qak Tryz.prog (Qa1 Tryz.prog) J0 B 9 1 (Qa4 47 107 (([2,3,6,7,12,13,14]:List Nat).zip (Qgp s days i k out ls n w)) dJ0 Qg4) (Qa3 (Qeb s days i k out ls n w)) (2+(Qeb s days i k out ls n w).length)
 [(4,hvF),(13,hvI (i+1))] 0 [] []) [2,3,6,7,12] [(2,KS.auto),(3,KS.auto),(4,KS.auto),(5,KS.cells [] (Qac Qar out)),(8,KS.rows [] [6] (Qac (Qa5 1 Qbo) [{n:=w,xs:=ls}]))] [{k:=6,rs:=[],cs:=Qac Qar ls}]=some ⟨47,107,QhW,[],.run,none,QhK s days (i+1) (out) ([{n:=w,xs:=ls}]) (n) (1),QeT s days (i+1) (out) ([{n:=w,xs:=ls}]) (n) (1),
 [QaQ 1 [] (Qac Qar out) (Qac Qar out),QaX 1 [] [(6,Fz.cs {k:=6,rs:=[],cs:=Qac Qar ls})] #[.slice (some {block:=6,off:=0}) w 1] (Qac (Qa5 1 Qbo) [{n:=w,xs:=ls}]),Qb7 (Fz.rs {k:=6,rs:=[],cs:=Qac Qar ls}) (Qac Qar ls) (Fz.cs {k:=6,rs:=[],cs:=Qac Qar ls}),wq (i+1)=i+1,ltq k (↑s.stock.length:Int)=false]⟩:=by kernel_rfl
theorem QxS (B:Lo) (s:Qaa) (days:Int) (i k:Int) (out:List Int) (zs:List RW) (n z:Nat) (dJ0:Nat->Value):landM (Qak Tryz.prog (Qa1 Tryz.prog) J0 B 18 1 (Qa4 47 107 (([2,3,6,7,12,13,14]:List Nat).zip (QlV s days i k out zs n z)) dJ0 QlE) (Qa3 (Qgm s days i k out zs n z)) (2+(Qgm s days i k out zs n z).length)
 [(4,hvT),(8,Qaj.tidx i.toNat #[slT (List.length (Qad.goods (s.lots.getD i.toNat default))) (Qac Qa6 (Qad.goods (s.lots.getD i.toNat default))),.int .i64 (Qad.weight (s.lots.getD i.toNat default)),.int .i64 (Qad.cost (s.lots.getD i.toNat default))]),(12,Qaj.tidx k.toNat #[.int .i64 (Span.lo (List.getD (Qad.goods (s.lots.getD i.toNat default)) k.toNat default)),.int .i64 (Span.hi (List.getD (Qad.goods (s.lots.getD i.toNat default)) k.toNat default))]),(20,Qaj.tidx i.toNat #[slT (List.length (Qad.goods (s.lots.getD i.toNat default))) (Qac Qa6 (Qad.goods (s.lots.getD i.toNat default))),.int .i64 (Qad.weight (s.lots.getD i.toNat default)),.int .i64 (Qad.cost (s.lots.getD i.toNat default))]),(24,Qaj.tidx k.toNat #[.int .i64 (Span.lo (List.getD (Qad.goods (s.lots.getD i.toNat default)) k.toNat default)),.int .i64 (Span.hi (List.getD (Qad.goods (s.lots.getD i.toNat default)) k.toNat default))]),(34,hvI (k+1))] 0 [] []) [2,3,6,7,12,13,14] [(2,KS.auto),(3,KS.auto),(4,KS.auto),(5,KS.cells [] (Qac Qar out)),(6,KS.rows [(1,1)] [] (Qac (Qa5 1 Qbo) zs)),(8,KS.cells [] (Qac Qar [Span.lo (List.getD (Qad.goods (s.lots.getD i.toNat default)) k.toNat default)]))] []=some ⟨47,107,QgF,[],.run,none,Qgs s days (i) (k+1) (out) ([Span.lo (List.getD (Qad.goods (s.lots.getD i.toNat default)) k.toNat default)]) (zs) (n) (z) (1),Qeh s days (i) (k+1) (out) ([Span.lo (List.getD (Qad.goods (s.lots.getD i.toNat default)) k.toNat default)]) (zs) (n) (z) (1),
 [QaQ 1 [] (Qac Qar out) (Qac Qar out),QaX 1 [(1,1)] [] (Qac (Qa5 1 Qbo) zs) (Qac (Qa5 1 Qbo) zs),QaQ 1 [] (#[.int .i64 (Span.lo (List.getD (Qad.goods (s.lots.getD i.toNat default)) k.toNat default))]) (Qac Qar [Span.lo (List.getD (Qad.goods (s.lots.getD i.toNat default)) k.toNat default)]),wq (k+1)=k+1,k=(↑k.toNat:Int)/\Int.toNat k < List.length (Qad.goods (s.lots.getD i.toNat default))/\Array.extract (Qac Qa6 (Qad.goods (s.lots.getD i.toNat default))) (Int.toNat k * TypeInfo.size Tryz.t25) (Int.toNat k * TypeInfo.size Tryz.t25+TypeInfo.size Tryz.t25)=#[.int .i64 (Span.lo (List.getD (Qad.goods (s.lots.getD i.toNat default)) k.toNat default)),.int .i64 (Span.hi (List.getD (Qad.goods (s.lots.getD i.toNat default)) k.toNat default))],i=(↑i.toNat:Int)/\Int.toNat i < List.length s.lots/\Array.extract (Qac Qam s.lots) (Int.toNat i * TypeInfo.size Tryz.t118) (Int.toNat i * TypeInfo.size Tryz.t118+TypeInfo.size Tryz.t118)=#[slT (List.length (Qad.goods (s.lots.getD i.toNat default))) (Qac Qa6 (Qad.goods (s.lots.getD i.toNat default))),.int .i64 (Qad.weight (s.lots.getD i.toNat default)),.int .i64 (Qad.cost (s.lots.getD i.toNat default))],k=(↑k.toNat:Int)/\Int.toNat k < List.length (Qad.goods (s.lots.getD i.toNat default))/\Array.extract (Qac Qa6 (Qad.goods (s.lots.getD i.toNat default))) (Int.toNat k * TypeInfo.size Tryz.t25) (Int.toNat k * TypeInfo.size Tryz.t25+TypeInfo.size Tryz.t25)=#[.int .i64 (Span.lo (List.getD (Qad.goods (s.lots.getD i.toNat default)) k.toNat default)),.int .i64 (Span.hi (List.getD (Qad.goods (s.lots.getD i.toNat default)) k.toNat default))],i=(↑i.toNat:Int)/\Int.toNat i < List.length s.lots/\Array.extract (Qac Qam s.lots) (Int.toNat i * TypeInfo.size Tryz.t118) (Int.toNat i * TypeInfo.size Tryz.t118+TypeInfo.size Tryz.t118)=#[slT (List.length (Qad.goods (s.lots.getD i.toNat default))) (Qac Qa6 (Qad.goods (s.lots.getD i.toNat default))),.int .i64 (Qad.weight (s.lots.getD i.toNat default)),.int .i64 (Qad.cost (s.lots.getD i.toNat default))],ltq k (↑s.stock.length:Int)=true]⟩:=by kernel_rfl
theorem Qvb (B:Lo) (s:Qaa) (days:Int) (i k:Int) (out ls:List Int) (zs:List RW) (n z w:Nat) (dJ0:Nat->Value):landM (Qak Tryz.prog (Qa1 Tryz.prog) J0 B 18 1 (Qa4 47 107 (([2,3,6,7,12,13,14]:List Nat).zip (Qgs s days i k out ls zs n z w)) dJ0 QgF) (Qa3 (Qeh s days i k out ls zs n z w)) (2+(Qeh s days i k out ls zs n z w).length)
 [(4,hvT),(8,Qaj.tidx i.toNat #[slT (List.length (Qad.goods (s.lots.getD i.toNat default))) (Qac Qa6 (Qad.goods (s.lots.getD i.toNat default))),.int .i64 (Qad.weight (s.lots.getD i.toNat default)),.int .i64 (Qad.cost (s.lots.getD i.toNat default))]),(12,Qaj.tidx k.toNat #[.int .i64 (Span.lo (List.getD (Qad.goods (s.lots.getD i.toNat default)) k.toNat default)),.int .i64 (Span.hi (List.getD (Qad.goods (s.lots.getD i.toNat default)) k.toNat default))]),(20,Qaj.tidx i.toNat #[slT (List.length (Qad.goods (s.lots.getD i.toNat default))) (Qac Qa6 (Qad.goods (s.lots.getD i.toNat default))),.int .i64 (Qad.weight (s.lots.getD i.toNat default)),.int .i64 (Qad.cost (s.lots.getD i.toNat default))]),(24,Qaj.tidx k.toNat #[.int .i64 (Span.lo (List.getD (Qad.goods (s.lots.getD i.toNat default)) k.toNat default)),.int .i64 (Span.hi (List.getD (Qad.goods (s.lots.getD i.toNat default)) k.toNat default))]),(31,Qaj.old (Hint.app (Qac Qar (ls++[Span.lo (List.getD (Qad.goods (s.lots.getD i.toNat default)) k.toNat default)])))),(34,hvI (k+1))] 0 [] []) [2,3,6,7,12,13,14] [(2,KS.auto),(3,KS.auto),(4,KS.auto),(5,KS.cells [] (Qac Qar out)),(6,KS.rows [(1,1)] [] (Qac (Qa5 1 Qbo) zs)),(9,KS.cells [] (Qac Qar (ls++[Span.lo (List.getD (Qad.goods (s.lots.getD i.toNat default)) k.toNat default)])))] []=some ⟨47,107,QgF,[],.run,none,Qgs s days (i) (k+1) (out) (ls++[Span.lo (List.getD (Qad.goods (s.lots.getD i.toNat default)) k.toNat default)]) (zs) (n) (z) (w+1),Qeh s days (i) (k+1) (out) (ls++[Span.lo (List.getD (Qad.goods (s.lots.getD i.toNat default)) k.toNat default)]) (zs) (n) (z) (w+1),
 [QaQ 1 [] (Qac Qar out) (Qac Qar out),QaX 1 [(1,1)] [] (Qac (Qa5 1 Qbo) zs) (Qac (Qa5 1 Qbo) zs),QaQ 1 [] (Qac Qar (ls++[Span.lo (List.getD (Qad.goods (s.lots.getD i.toNat default)) k.toNat default)])) (Qac Qar (ls++[Span.lo (List.getD (Qad.goods (s.lots.getD i.toNat default)) k.toNat default)])),wq (k+1)=k+1,Array.size (Qac Qar ls)=w * (0+1)/\w+1<=maxLen/\(w+1) * 8<=140737488355328/\Qac Qar ls++#[.int .i64 (Span.lo (List.getD (Qad.goods (s.lots.getD i.toNat default)) k.toNat default))]=Qac Qar (ls++[Span.lo (List.getD (Qad.goods (s.lots.getD i.toNat default)) k.toNat default)]),k=(↑k.toNat:Int)/\Int.toNat k < List.length (Qad.goods (s.lots.getD i.toNat default))/\Array.extract (Qac Qa6 (Qad.goods (s.lots.getD i.toNat default))) (Int.toNat k * TypeInfo.size Tryz.t25) (Int.toNat k * TypeInfo.size Tryz.t25+TypeInfo.size Tryz.t25)=#[.int .i64 (Span.lo (List.getD (Qad.goods (s.lots.getD i.toNat default)) k.toNat default)),.int .i64 (Span.hi (List.getD (Qad.goods (s.lots.getD i.toNat default)) k.toNat default))],i=(↑i.toNat:Int)/\Int.toNat i < List.length s.lots/\Array.extract (Qac Qam s.lots) (Int.toNat i * TypeInfo.size Tryz.t118) (Int.toNat i * TypeInfo.size Tryz.t118+TypeInfo.size Tryz.t118)=#[slT (List.length (Qad.goods (s.lots.getD i.toNat default))) (Qac Qa6 (Qad.goods (s.lots.getD i.toNat default))),.int .i64 (Qad.weight (s.lots.getD i.toNat default)),.int .i64 (Qad.cost (s.lots.getD i.toNat default))],k=(↑k.toNat:Int)/\Int.toNat k < List.length (Qad.goods (s.lots.getD i.toNat default))/\Array.extract (Qac Qa6 (Qad.goods (s.lots.getD i.toNat default))) (Int.toNat k * TypeInfo.size Tryz.t25) (Int.toNat k * TypeInfo.size Tryz.t25+TypeInfo.size Tryz.t25)=#[.int .i64 (Span.lo (List.getD (Qad.goods (s.lots.getD i.toNat default)) k.toNat default)),.int .i64 (Span.hi (List.getD (Qad.goods (s.lots.getD i.toNat default)) k.toNat default))],i=(↑i.toNat:Int)/\Int.toNat i < List.length s.lots/\Array.extract (Qac Qam s.lots) (Int.toNat i * TypeInfo.size Tryz.t118) (Int.toNat i * TypeInfo.size Tryz.t118+TypeInfo.size Tryz.t118)=#[slT (List.length (Qad.goods (s.lots.getD i.toNat default))) (Qac Qa6 (Qad.goods (s.lots.getD i.toNat default))),.int .i64 (Qad.weight (s.lots.getD i.toNat default)),.int .i64 (Qad.cost (s.lots.getD i.toNat default))],ltq k (↑s.stock.length:Int)=true]⟩:=by kernel_rfl
theorem QuH (B:Lo) (s:Qaa) (days:Int) (i k:Int) (out ls:List Int) (zs:List RW) (n z w:Nat) (dJ0:Nat->Value):landM (Qak Tryz.prog (Qa1 Tryz.prog) J0 B 9 1 (Qa4 47 107 (([2,3,6,7,12,13,14]:List Nat).zip (Qgs s days i k out ls zs n z w)) dJ0 QgF) (Qa3 (Qeh s days i k out ls zs n z w)) (2+(Qeh s days i k out ls zs n z w).length)
 [(4,hvF),(9,Qaj.old (Hint.app (Qac (Qa5 1 Qbo) zs++#[.slice (some {block:=7,off:=0}) w 1]))),(13,hvI (i+1))] 0 [] []) [2,3,6,7,12] [(2,KS.auto),(3,KS.auto),(4,KS.auto),(5,KS.cells [] (Qac Qar out)),(9,KS.rows [(1,1)] [7] (Qac (Qa5 1 Qbo) (zs++[{n:=w,xs:=ls}])))] [{k:=7,rs:=[],cs:=Qac Qar ls}]=some ⟨47,107,QhW,[],.run,none,QhK s days (i+1) (out) (zs++[{n:=w,xs:=ls}]) (n) (z+1),QeT s days (i+1) (out) (zs++[{n:=w,xs:=ls}]) (n) (z+1),
 [QaQ 1 [] (Qac Qar out) (Qac Qar out),QaX 1 [(1,1)] [(7,Fz.cs {k:=7,rs:=[],cs:=Qac Qar ls})] (Qac (Qa5 1 Qbo) zs++#[.slice (some {block:=7,off:=0}) w 1]) (Qac (Qa5 1 Qbo) (zs++[{n:=w,xs:=ls}])),Qb7 (Fz.rs {k:=7,rs:=[],cs:=Qac Qar ls}) (Qac Qar ls) (Fz.cs {k:=7,rs:=[],cs:=Qac Qar ls}),wq (i+1)=i+1,Array.size (Qac (Qa5 1 Qbo) zs)=z * (0+1)/\z+1<=maxLen/\(z+1) * 24<=140737488355328/\Qac (Qa5 1 Qbo) zs++#[.slice (some {block:=7,off:=0}) w 1]=Qac (Qa5 1 Qbo) zs++#[.slice (some {block:=7,off:=0}) w 1],ltq k (↑s.stock.length:Int)=false]⟩:=by kernel_rfl
theorem QvT (B:Lo) (s:Qaa) (days:Int):landM (Qak Tryz.prog (Qa1 Tryz.prog) J0 B 9 1 (Qai Tryz.prog 47 107 (([.agg (Qah s).toArray,.int .i64 days,.bool true]).map (Qaq 0 4))) H00 1
 [] 0 [] []) [1,2,3,6,7,8] [(1,KS.auto),(2,KS.auto),(3,KS.auto)] []=some ⟨47,107,Qne,[],.run,none,QnN s days (0),QhM s days (0),
 []⟩:=by kernel_rfl
set_option maxHeartbeats 4000000 in
theorem QyB (s:Qaa) (days:Int) (hs:Qa8 s=true) (hd:0<=days/\days<=300) {B:Lo} (hJ:∀w,B.has w->J0 w) {c0:CF}:∀m:Nat,(∀(i:Int),10000+(s.use.length - i.toNat)=m->∀(h0:i=0),Qz3 B c0 s days i->EndsT Tryz.prog B c0 (.agg (QaH (Qae Span.lo Span.hi s days)).toArray))/\(∀(i:Int) (out:List Int) (n:Nat),9000+(s.use.length - i.toNat)=m->∀(h0:0<=i) (hm:n=out.length) (hx:(n:Int)<=i) (ho:Qoh Span.hi s.use i out),Qz8 B c0 s days i out n->EndsT Tryz.prog B c0 (.agg (QaH (Qae Span.lo Span.hi s days)).toArray))/\(∀(a:Int) (out:List Int) (n:Nat),8000+(days - a).toNat=m->∀(a0:a=0) (hm:n=out.length) (hx:(n:Int)<=4) (ho:out=s.use.map Span.hi),QzX B c0 s days a out n->EndsT Tryz.prog B c0 (.agg (QaH (Qae Span.lo Span.hi s days)).toArray))/\(∀(a:Int) (out gs:List Int) (n gl:Nat),7000+(days - a).toNat=m->∀(a0:0<=a) (hm:n=out.length) (hx:(n:Int)<=4) (ho:out=s.use.map Span.hi) (gm:gl=gs.length) (ga:a=gl * s.ghi) (gb:a < days+s.ghi) (gx:(gl:Int)<=a) (gr:gs=List.replicate gl s.ghi),Q0c B c0 s days a out gs n gl->EndsT Tryz.prog B c0 (.agg (QaH (Qae Span.lo Span.hi s days)).toArray))/\(∀(i:Int) (out gs:List Int) (n gl:Nat),6000=m->∀(i0:i=0) (hm:n=out.length) (hx:(n:Int)<=4) (ho:out=s.use.map Span.hi) (gm:gl=gs.length) (gx:(gl:Int)<=1000) (gr:gs=List.replicate ((days+s.ghi - 1).tdiv s.ghi).toNat s.ghi),Qzk B c0 s days i out gs n gl->EndsT Tryz.prog B c0 (.agg (QaH (Qae Span.lo Span.hi s days)).toArray))/\(∀(i:Int) (out gs:List Int) (zs:List RW) (n gl z:Nat),100 * (s.lots.length - i.toNat)=m->∀(i0:0<=i) (zm:z=zs.length) (zx:(z:Int)<=i) (hz:Qoh (QuG Span.lo) s.lots i zs) (hm:n=out.length) (hx:(n:Int)<=4) (ho:out=s.use.map Span.hi) (gm:gl=gs.length) (gx:(gl:Int)<=1000) (gr:gs=List.replicate ((days+s.ghi - 1).tdiv s.ghi).toNat s.ghi),QyR B c0 s days i out gs zs n gl z->EndsT Tryz.prog B c0 (.agg (QaH (Qae Span.lo Span.hi s days)).toArray))/\(∀(i:Int) (out:List Int) (n:Nat),6000=m->∀(i0:i=0) (hm:n=out.length) (hx:(n:Int)<=4) (ho:out=s.use.map Span.hi) (dz:days<=0),QyV B c0 s days i out n->EndsT Tryz.prog B c0 (.agg (QaH (Qae Span.lo Span.hi s days)).toArray))/\(∀(i:Int) (out:List Int) (zs:List RW) (n z:Nat),100 * (s.lots.length - i.toNat)=m->∀(i0:0<=i) (zm:z=zs.length) (zx:(z:Int)<=i) (hz:Qoh (QuG Span.lo) s.lots i zs) (hm:n=out.length) (hx:(n:Int)<=4) (ho:out=s.use.map Span.hi) (dz:days<=0),Qyr B c0 s days i out zs n z->EndsT Tryz.prog B c0 (.agg (QaH (Qae Span.lo Span.hi s days)).toArray))/\(∀(i k:Int) (out gs:List Int) (n gl:Nat),1000+(s.stock.length - k.toNat)+10=m->∀(i0:i=0) (i1:i < s.lots.length) (k0:k=0) (hm:n=out.length) (hx:(n:Int)<=4) (ho:out=s.use.map Span.hi) (gm:gl=gs.length) (gx:(gl:Int)<=1000) (gr:gs=List.replicate ((days+s.ghi - 1).tdiv s.ghi).toNat s.ghi),Qzz B c0 s days i k out gs n gl->EndsT Tryz.prog B c0 (.agg (QaH (Qae Span.lo Span.hi s days)).toArray))/\(∀(i k:Int) (out gs ls:List Int) (n gl w:Nat),1000+(s.stock.length - k.toNat)=m->∀(i0:i=0) (i1:i < s.lots.length) (k0:0<=k) (wm:w=ls.length) (wx:(w:Int)<=k) (hl:Qoh Span.lo (s.lots.getD i.toNat default).goods k ls) (hm:n=out.length) (hx:(n:Int)<=4) (ho:out=s.use.map Span.hi) (gm:gl=gs.length) (gx:(gl:Int)<=1000) (gr:gs=List.replicate ((days+s.ghi - 1).tdiv s.ghi).toNat s.ghi),Qy8 B c0 s days i k out gs ls n gl w->EndsT Tryz.prog B c0 (.agg (QaH (Qae Span.lo Span.hi s days)).toArray))/\(∀(i k:Int) (out gs:List Int) (zs:List RW) (n gl z:Nat),100 * (s.lots.length - i.toNat) - 50+(s.stock.length - k.toNat)+10=m->∀(i0:0<=i) (i1:i < s.lots.length) (k0:k=0) (zm:z=zs.length) (zx:(z:Int)<=i) (hz:Qoh (QuG Span.lo) s.lots i zs) (hm:n=out.length) (hx:(n:Int)<=4) (ho:out=s.use.map Span.hi) (gm:gl=gs.length) (gx:(gl:Int)<=1000) (gr:gs=List.replicate ((days+s.ghi - 1).tdiv s.ghi).toNat s.ghi),Qx7 B c0 s days i k out gs zs n gl z->EndsT Tryz.prog B c0 (.agg (QaH (Qae Span.lo Span.hi s days)).toArray))/\(∀(i k:Int) (out gs ls:List Int) (zs:List RW) (n gl z w:Nat),100 * (s.lots.length - i.toNat) - 50+(s.stock.length - k.toNat)=m->∀(i0:0<=i) (i1:i < s.lots.length) (k0:0<=k) (wm:w=ls.length) (wx:(w:Int)<=k) (hl:Qoh Span.lo (s.lots.getD i.toNat default).goods k ls) (zm:z=zs.length) (zx:(z:Int)<=i) (hz:Qoh (QuG Span.lo) s.lots i zs) (hm:n=out.length) (hx:(n:Int)<=4) (ho:out=s.use.map Span.hi) (gm:gl=gs.length) (gx:(gl:Int)<=1000) (gr:gs=List.replicate ((days+s.ghi - 1).tdiv s.ghi).toNat s.ghi),QvD B c0 s days i k out gs ls zs n gl z w->EndsT Tryz.prog B c0 (.agg (QaH (Qae Span.lo Span.hi s days)).toArray))/\(∀(i k:Int) (out:List Int) (n:Nat),1000+(s.stock.length - k.toNat)+10=m->∀(i0:i=0) (i1:i < s.lots.length) (k0:k=0) (hm:n=out.length) (hx:(n:Int)<=4) (ho:out=s.use.map Span.hi) (dz:days<=0),Qvp B c0 s days i k out n->EndsT Tryz.prog B c0 (.agg (QaH (Qae Span.lo Span.hi s days)).toArray))/\(∀(i k:Int) (out ls:List Int) (n w:Nat),1000+(s.stock.length - k.toNat)=m->∀(i0:i=0) (i1:i < s.lots.length) (k0:0<=k) (wm:w=ls.length) (wx:(w:Int)<=k) (hl:Qoh Span.lo (s.lots.getD i.toNat default).goods k ls) (hm:n=out.length) (hx:(n:Int)<=4) (ho:out=s.use.map Span.hi) (dz:days<=0),Qxm B c0 s days i k out ls n w->EndsT Tryz.prog B c0 (.agg (QaH (Qae Span.lo Span.hi s days)).toArray))/\(∀(i k:Int) (out:List Int) (zs:List RW) (n z:Nat),100 * (s.lots.length - i.toNat) - 50+(s.stock.length - k.toNat)+10=m->∀(i0:0<=i) (i1:i < s.lots.length) (k0:k=0) (zm:z=zs.length) (zx:(z:Int)<=i) (hz:Qoh (QuG Span.lo) s.lots i zs) (hm:n=out.length) (hx:(n:Int)<=4) (ho:out=s.use.map Span.hi) (dz:days<=0),QwB B c0 s days i k out zs n z->EndsT Tryz.prog B c0 (.agg (QaH (Qae Span.lo Span.hi s days)).toArray))/\(∀(i k:Int) (out ls:List Int) (zs:List RW) (n z w:Nat),100 * (s.lots.length - i.toNat) - 50+(s.stock.length - k.toNat)=m->∀(i0:0<=i) (i1:i < s.lots.length) (k0:0<=k) (wm:w=ls.length) (wx:(w:Int)<=k) (hl:Qoh Span.lo (s.lots.getD i.toNat default).goods k ls) (zm:z=zs.length) (zx:(z:Int)<=i) (hz:Qoh (QuG Span.lo) s.lots i zs) (hm:n=out.length) (hx:(n:Int)<=4) (ho:out=s.use.map Span.hi) (dz:days<=0),Qw2 B c0 s days i k out ls zs n z w->EndsT Tryz.prog B c0 (.agg (QaH (Qae Span.lo Span.hi s days)).toArray)):=by
 intro m0
 induction m0 using Nat.strongRecOn with
 | _ m0 ih0=>
   refine ⟨?_, ?_, ?_, ?_, ?_, ?_, ?_, ?_, ?_, ?_, ?_, ?_, ?_, ?_, ?_, ?_⟩
   ·intro i hm0 h0 ⟨dJ0,hdJ0,hg0⟩
    have hgp:=Qa9 hs
    have hst:=Qav hs
    have hlo:=Qa2 hs
    by_cases q0:(i:Int) < ((↑s.use.length:Int))
    ·
     exact ((ih0 _ (by omega)).2.1 (i+1) ([Span.hi (s.use.getD i.toNat default)]) (1) rfl (by omega) (by rfl) (by omega) (by exact QrA h0 q0)
      (hg0.landM okF hJ Qab (Qzq B s days i dJ0)
      ⟨(Qer (by kernel_rfl)),⟨(QaJ (by omega) (by omega)),⟨⟨by omega,by omega,(Qaf (z:=2) (fun _=> rfl) (by omega))⟩,⟨⟨by omega,by omega,(Qaf (z:=2) (fun _=> rfl) (by omega))⟩,⟨(Qbl q0),trivial⟩⟩⟩⟩⟩ (by kernel_rfl) (by kernel_rfl))).cast (by rfl)
    ·
     exfalso
     (have hst:=Qav hs;omega)
   ·intro i out n hm0 h0 hm hx ho ⟨dJ0,hdJ0,hg0⟩
    have hgp:=Qa9 hs
    have hst:=Qav hs
    have hlo:=Qa2 hs
    by_cases q0:(i:Int) < ((↑s.use.length:Int))
    ·
     exact ((ih0 _ (by omega)).2.1 (i+1) (out++[Span.hi (s.use.getD i.toNat default)]) (n+1) rfl (by omega) (by exact QeQ hm) (by omega) (by exact Qgt h0 q0 ho)
      (hg0.landM okF hJ Qab (Qzb B s days i out n dJ0)
      ⟨(Qao (Qaw (fun x=> List.all_eq_true.1 (by rfl)))),⟨(QaJ (by omega) (by omega)),⟨⟨(by (rw [Qbn (z:=1) (fun _=> rfl)];first | omega | (simp;omega) | (simp_all;done))),(by unfold maxLen;omega),by omega,by first | exact Qea | exact Qev rfl⟩,⟨⟨by omega,by omega,(Qaf (z:=2) (fun _=> rfl) (by omega))⟩,⟨⟨by omega,by omega,(Qaf (z:=2) (fun _=> rfl) (by omega))⟩,⟨(Qbl q0),trivial⟩⟩⟩⟩⟩⟩ (by kernel_rfl) (by kernel_rfl))).cast (by rfl)
    ·
     exact ((ih0 _ (by omega)).2.2.1 (0) (out) (n) rfl (by rfl) (by with_reducible assumption) (by (rw [hm,Qgv (by omega) ho,List.length_map];omega)) (by exact Qgv (by omega) ho)
      (hg0.landM okF hJ Qab (Qza B s days i out n dJ0)
      ⟨(Qao (Qaw (fun x=> List.all_eq_true.1 (by rfl)))),⟨(Qbq (Int.not_lt.1 q0)),trivial⟩⟩ (by kernel_rfl) (by kernel_rfl))).cast (by rfl)
   ·intro a out n hm0 a0 hm hx ho ⟨dJ0,hdJ0,hg0⟩
    have hgp:=Qa9 hs
    have hst:=Qav hs
    have hlo:=Qa2 hs
    have hgp:=Qa9 hs
    have hst:=Qav hs
    by_cases q0:(a:Int) < (days)
    ·
     exact ((ih0 _ (by omega)).2.2.2.1 (a+s.ghi) (out) ([s.ghi]) (n) (1) rfl (by omega) (by with_reducible assumption) (by with_reducible assumption) (by with_reducible assumption) (by rfl) (by omega) (by omega) (by omega) (by rfl)
      (hg0.landM okF hJ Qab (Q0b B s days a out n dJ0)
      ⟨(Qao (Qaw (fun x=> List.all_eq_true.1 (by rfl)))),⟨(Qer (by kernel_rfl)),⟨(QaJ (by omega) (by omega)),⟨(Qbl q0),trivial⟩⟩⟩⟩ (by kernel_rfl) (by kernel_rfl))).cast (by rfl)
    ·
     exact ((ih0 _ (by omega)).2.2.2.2.2.2.1 (0) (out) (n) rfl (by omega) (by with_reducible assumption) (by with_reducible assumption) (by with_reducible assumption) (by omega)
      (hg0.landM okF hJ Qab (Qy1 B s days a out n dJ0)
      ⟨(Qao (Qaw (fun x=> List.all_eq_true.1 (by rfl)))),⟨(Qbq (Int.not_lt.1 q0)),trivial⟩⟩ (by kernel_rfl) (by kernel_rfl))).cast (by rfl)
   ·intro a out gs n gl hm0 a0 hm hx ho gm ga gb gx gr ⟨dJ0,hdJ0,hg0⟩
    have hgp:=Qa9 hs
    have hst:=Qav hs
    have hlo:=Qa2 hs
    have hgp:=Qa9 hs
    by_cases q0:(a:Int) < (days)
    ·
     exact ((ih0 _ (by omega)).2.2.2.1 (a+s.ghi) (out) (gs++[s.ghi]) (n) (gl+1) rfl (by omega) (by with_reducible assumption) (by with_reducible assumption) (by with_reducible assumption) (by exact QeQ gm) (by exact Q0T ga) (by omega) (by omega) (by exact Q0V gr)
      (hg0.landM okF hJ Qab (Qym B s days a out gs n gl dJ0)
      ⟨(Qao (Qaw (fun x=> List.all_eq_true.1 (by rfl)))),⟨(Qao (Qaw (fun x=> List.all_eq_true.1 (by rfl)))),⟨(QaJ (by omega) (by omega)),⟨⟨(by (rw [Qbn (z:=1) (fun _=> rfl)];first | omega | (simp;omega) | (simp_all;done))),(by unfold maxLen;omega),by omega,by first | exact Qea | exact Qev rfl⟩,⟨(Qbl q0),trivial⟩⟩⟩⟩⟩ (by kernel_rfl) (by kernel_rfl))).cast (by rfl)
    ·
     exact ((ih0 _ (by omega)).2.2.2.2.1 (0) (out) (gs) (n) (gl) rfl (by omega) (by with_reducible assumption) (by with_reducible assumption) (by with_reducible assumption) (by with_reducible assumption) (by omega) (by exact Qzp gr ga (by omega) (by omega) (by omega) (by omega))
      (hg0.landM okF hJ Qab (Qy4 B s days a out gs n gl dJ0)
      ⟨(Qao (Qaw (fun x=> List.all_eq_true.1 (by rfl)))),⟨(Qao (Qaw (fun x=> List.all_eq_true.1 (by rfl)))),⟨(Qbq (Int.not_lt.1 q0)),trivial⟩⟩⟩ (by kernel_rfl) (by kernel_rfl))).cast (by rfl)
   ·intro i out gs n gl hm0 i0 hm hx ho gm gx gr ⟨dJ0,hdJ0,hg0⟩
    have hgp:=Qa9 hs
    have hst:=Qav hs
    have hlo:=Qa2 hs
    have hlo:=Qa2 hs
    have hgp:=Qa9 hs
    by_cases q0:(i:Int) < ((↑s.lots.length:Int))
    ·
     exact ((ih0 _ (by omega)).2.2.2.2.2.2.2.2.1 (i) (0) (out) (gs) (n) (gl) rfl (by with_reducible assumption) (by with_reducible assumption) (by rfl) (by with_reducible assumption) (by with_reducible assumption) (by with_reducible assumption) (by with_reducible assumption) (by with_reducible assumption) (by with_reducible assumption)
      (hg0.landM okF hJ Qab (QzP B s days i out gs n gl dJ0)
      ⟨(Qao (Qaw (fun x=> List.all_eq_true.1 (by rfl)))),⟨(Qao (Qaw (fun x=> List.all_eq_true.1 (by rfl)))),⟨(Qbl q0),trivial⟩⟩⟩ (by kernel_rfl) (by kernel_rfl))).cast (by rfl)
    ·
     exact (GoE.endsT okF hJ Qab hg0 (Q0y B s days i out gs n gl dJ0)
      ⟨(Qbe (fun x=> List.all_eq_true.1 (by rfl))),⟨(Qbe (fun x=> List.all_eq_true.1 (by rfl))),⟨(Qbq (Int.not_lt.1 q0)),trivial⟩⟩⟩).cast (by exact Qir (f:=Span.lo) (g:=Span.hi) (s:=s) (days:=days) (z:=0) (zs:=[]) hm ho gm gr rfl (by rw [show s.lots=[] from List.eq_nil_of_length_eq_zero (by omega)];rfl))
   ·intro i out gs zs n gl z hm0 i0 zm zx hz hm hx ho gm gx gr ⟨dJ0,hdJ0,hg0⟩
    have hgp:=Qa9 hs
    have hst:=Qav hs
    have hlo:=Qa2 hs
    have hgp:=Qa9 hs
    by_cases q0:(i:Int) < ((↑s.lots.length:Int))
    ·
     exact ((ih0 _ (by omega)).2.2.2.2.2.2.2.2.2.2.1 (i) (0) (out) (gs) (zs) (n) (gl) (z) rfl (by with_reducible assumption) (by with_reducible assumption) (by rfl) (by with_reducible assumption) (by with_reducible assumption) (by with_reducible assumption) (by with_reducible assumption) (by with_reducible assumption) (by with_reducible assumption) (by with_reducible assumption) (by with_reducible assumption) (by with_reducible assumption)
      (hg0.landM okF hJ Qab (QyO B s days i out gs zs n gl z dJ0)
      ⟨(Qao (Qaw (fun x=> List.all_eq_true.1 (by rfl)))),⟨(Qao (Qaw (fun x=> List.all_eq_true.1 (by rfl)))),⟨(by exact (QaN (QaT (fun _=> rfl)) (List.Mem.head _))),⟨(Qbl q0),trivial⟩⟩⟩⟩ (by kernel_rfl) (by kernel_rfl))).cast (by rfl)
    ·
     exact (GoE.endsT okF hJ Qab hg0 (QvY B s days i out gs zs n gl z dJ0)
      ⟨(Qbe (fun x=> List.all_eq_true.1 (by rfl))),⟨(Qbe (fun x=> List.all_eq_true.1 (by rfl))),⟨(Qdm (QaT (fun _=> rfl)) (List.Mem.head _)),⟨(Qbq (Int.not_lt.1 q0)),trivial⟩⟩⟩⟩).cast (by exact Qir (f:=Span.lo) (g:=Span.hi) (s:=s) (days:=days) hm ho gm gr zm (Qgv (by omega) hz))
   ·intro i out n hm0 i0 hm hx ho dz ⟨dJ0,hdJ0,hg0⟩
    have hgp:=Qa9 hs
    have hst:=Qav hs
    have hlo:=Qa2 hs
    have hlo:=Qa2 hs
    have hgp:=Qa9 hs
    by_cases q0:(i:Int) < ((↑s.lots.length:Int))
    ·
     exact ((ih0 _ (by omega)).2.2.2.2.2.2.2.2.2.2.2.2.1 (i) (0) (out) (n) rfl (by with_reducible assumption) (by with_reducible assumption) (by rfl) (by with_reducible assumption) (by with_reducible assumption) (by with_reducible assumption) (by with_reducible assumption)
      (hg0.landM okF hJ Qab (QvJ B s days i out n dJ0)
      ⟨(Qao (Qaw (fun x=> List.all_eq_true.1 (by rfl)))),⟨(Qbl q0),trivial⟩⟩ (by kernel_rfl) (by kernel_rfl))).cast (by rfl)
    ·
     exact (GoE.endsT okF hJ Qab hg0 (Qx8 B s days i out n dJ0)
      ⟨(Qbe (fun x=> List.all_eq_true.1 (by rfl))),⟨(Qbq (Int.not_lt.1 q0)),trivial⟩⟩).cast (by exact Qir (f:=Span.lo) (g:=Span.hi) (s:=s) (days:=days) (m:=0) (gs:=[]) (z:=0) (zs:=[]) hm ho rfl (Qpx (g:=s.ghi) (days:=days) (by omega) (by omega) (by omega)) rfl (by rw [show s.lots=[] from List.eq_nil_of_length_eq_zero (by omega)];rfl))
   ·intro i out zs n z hm0 i0 zm zx hz hm hx ho dz ⟨dJ0,hdJ0,hg0⟩
    have hgp:=Qa9 hs
    have hst:=Qav hs
    have hlo:=Qa2 hs
    have hgp:=Qa9 hs
    by_cases q0:(i:Int) < ((↑s.lots.length:Int))
    ·
     exact ((ih0 _ (by omega)).2.2.2.2.2.2.2.2.2.2.2.2.2.2.1 (i) (0) (out) (zs) (n) (z) rfl (by with_reducible assumption) (by with_reducible assumption) (by rfl) (by with_reducible assumption) (by with_reducible assumption) (by with_reducible assumption) (by with_reducible assumption) (by with_reducible assumption) (by with_reducible assumption) (by with_reducible assumption)
      (hg0.landM okF hJ Qab (Qw9 B s days i out zs n z dJ0)
      ⟨(Qao (Qaw (fun x=> List.all_eq_true.1 (by rfl)))),⟨(by exact (QaN (QaT (fun _=> rfl)) (List.Mem.head _))),⟨(Qbl q0),trivial⟩⟩⟩ (by kernel_rfl) (by kernel_rfl))).cast (by rfl)
    ·
     exact (GoE.endsT okF hJ Qab hg0 (Qwn B s days i out zs n z dJ0)
      ⟨(Qbe (fun x=> List.all_eq_true.1 (by rfl))),⟨(Qdm (QaT (fun _=> rfl)) (List.Mem.head _)),⟨(Qbq (Int.not_lt.1 q0)),trivial⟩⟩⟩).cast (by exact Qir (f:=Span.lo) (g:=Span.hi) (s:=s) (days:=days) (m:=0) (gs:=[]) hm ho rfl (Qpx (g:=s.ghi) (days:=days) (by omega) (by omega) (by omega)) zm (Qgv (by omega) hz))
   ·intro i k out gs n gl hm0 i0 i1 k0 hm hx ho gm gx gr ⟨dJ0,hdJ0,hg0⟩
    have hgp:=Qa9 hs
    have hst:=Qav hs
    have hlo:=Qa2 hs
    have hst:=Qav hs
    have hlo:=Qa2 hs
    have hll:=QgA hs (i:=i) (by omega) i1
    by_cases q0:(k:Int) < ((↑s.stock.length:Int))
    ·
     exact ((ih0 _ (by omega)).2.2.2.2.2.2.2.2.2.1 (i) (k+1) (out) (gs) ([Span.lo (List.getD (Qad.goods (s.lots.getD i.toNat default)) k.toNat default)]) (n) (gl) (1) rfl (by with_reducible assumption) (by with_reducible assumption) (by omega) (by rfl) (by omega) (by exact QrA k0 (by omega)) (by with_reducible assumption) (by with_reducible assumption) (by with_reducible assumption) (by with_reducible assumption) (by with_reducible assumption) (by with_reducible assumption)
      (hg0.landM okF hJ Qab (Qxw B s days i k out gs n gl dJ0)
      ⟨(Qao (Qaw (fun x=> List.all_eq_true.1 (by rfl)))),⟨(Qao (Qaw (fun x=> List.all_eq_true.1 (by rfl)))),⟨(Qer (by kernel_rfl)),⟨(QaJ (by omega) (by omega)),⟨⟨by omega,by omega,(Qaf (z:=2) (fun _=> rfl) (by omega))⟩,⟨⟨by omega,by omega,(Qaf (z:=3) (fun _=> rfl) (by omega))⟩,⟨⟨by omega,by omega,(Qaf (z:=2) (fun _=> rfl) (by omega))⟩,⟨⟨by omega,by omega,(Qaf (z:=3) (fun _=> rfl) (by omega))⟩,⟨(Qbl q0),trivial⟩⟩⟩⟩⟩⟩⟩⟩⟩ (by kernel_rfl) (by kernel_rfl))).cast (by rfl)
    ·
     exfalso
     (have hst:=Qav hs;omega)
   ·intro i k out gs ls n gl w hm0 i0 i1 k0 wm wx hl hm hx ho gm gx gr ⟨dJ0,hdJ0,hg0⟩
    have hgp:=Qa9 hs
    have hst:=Qav hs
    have hlo:=Qa2 hs
    have hst:=Qav hs
    have hlo:=Qa2 hs
    have hll:=QgA hs (i:=i) (by omega) i1
    by_cases q0:(k:Int) < ((↑s.stock.length:Int))
    ·
     exact ((ih0 _ (by omega)).2.2.2.2.2.2.2.2.2.1 (i) (k+1) (out) (gs) (ls++[Span.lo (List.getD (Qad.goods (s.lots.getD i.toNat default)) k.toNat default)]) (n) (gl) (w+1) rfl (by with_reducible assumption) (by with_reducible assumption) (by omega) (by exact QeQ wm) (by omega) (by exact Qgt k0 (by omega) hl) (by with_reducible assumption) (by with_reducible assumption) (by with_reducible assumption) (by with_reducible assumption) (by with_reducible assumption) (by with_reducible assumption)
      (hg0.landM okF hJ Qab (Qxv B s days i k out gs ls n gl w dJ0)
      ⟨(Qao (Qaw (fun x=> List.all_eq_true.1 (by rfl)))),⟨(Qao (Qaw (fun x=> List.all_eq_true.1 (by rfl)))),⟨(Qao (Qaw (fun x=> List.all_eq_true.1 (by rfl)))),⟨(QaJ (by omega) (by omega)),⟨⟨(by (rw [Qbn (z:=1) (fun _=> rfl)];first | omega | (simp;omega) | (simp_all;done))),(by unfold maxLen;omega),by omega,by first | exact Qea | exact Qev rfl⟩,⟨⟨by omega,by omega,(Qaf (z:=2) (fun _=> rfl) (by omega))⟩,⟨⟨by omega,by omega,(Qaf (z:=3) (fun _=> rfl) (by omega))⟩,⟨⟨by omega,by omega,(Qaf (z:=2) (fun _=> rfl) (by omega))⟩,⟨⟨by omega,by omega,(Qaf (z:=3) (fun _=> rfl) (by omega))⟩,⟨(Qbl q0),trivial⟩⟩⟩⟩⟩⟩⟩⟩⟩⟩ (by kernel_rfl) (by kernel_rfl))).cast (by rfl)
    ·
     exact ((ih0 _ (by omega)).2.2.2.2.2.1 (i+1) (out) (gs) ([{n:=w,xs:=ls}]) (n) (gl) (1) rfl (by omega) (by rfl) (by omega) (by (rw [QzM (l:=s.lots.getD i.toNat default) wm (Qgv (by omega) hl)];exact QrA i0 i1)) (by with_reducible assumption) (by with_reducible assumption) (by with_reducible assumption) (by with_reducible assumption) (by with_reducible assumption) (by with_reducible assumption)
      (hg0.landM okF hJ Qab (Qyc B s days i k out gs ls n gl w dJ0)
      (by exact ⟨(Qao (Qaw (fun x=> List.all_eq_true.1 (by rfl)))),⟨(Qao (Qaw (fun x=> List.all_eq_true.1 (by rfl)))),⟨(by exact (QgT (by exact ⟨(.own (List.Mem.head _)),trivial⟩))),⟨(Qbe (fun x=> List.all_eq_true.1 (by rfl))),⟨(QaJ (by omega) (by omega)),⟨(Qbq (Int.not_lt.1 q0)),trivial⟩⟩⟩⟩⟩⟩) (by kernel_rfl) (by kernel_rfl))).cast (by rfl)
   ·intro i k out gs zs n gl z hm0 i0 i1 k0 zm zx hz hm hx ho gm gx gr ⟨dJ0,hdJ0,hg0⟩
    have hgp:=Qa9 hs
    have hst:=Qav hs
    have hlo:=Qa2 hs
    have hst:=Qav hs
    have hlo:=Qa2 hs
    have hll:=QgA hs (i:=i) (by omega) i1
    by_cases q0:(k:Int) < ((↑s.stock.length:Int))
    ·
     exact ((ih0 _ (by omega)).2.2.2.2.2.2.2.2.2.2.2.1 (i) (k+1) (out) (gs) ([Span.lo (List.getD (Qad.goods (s.lots.getD i.toNat default)) k.toNat default)]) (zs) (n) (gl) (z) (1) rfl (by with_reducible assumption) (by with_reducible assumption) (by omega) (by rfl) (by omega) (by exact QrA k0 (by omega)) (by with_reducible assumption) (by with_reducible assumption) (by with_reducible assumption) (by with_reducible assumption) (by with_reducible assumption) (by with_reducible assumption) (by with_reducible assumption) (by with_reducible assumption) (by with_reducible assumption)
      (hg0.landM okF hJ Qab (QwH B s days i k out gs zs n gl z dJ0)
      ⟨(Qao (Qaw (fun x=> List.all_eq_true.1 (by rfl)))),⟨(Qao (Qaw (fun x=> List.all_eq_true.1 (by rfl)))),⟨(by exact (QaN (QaT (fun _=> rfl)) (List.Mem.head _))),⟨(Qer (by kernel_rfl)),⟨(QaJ (by omega) (by omega)),⟨⟨by omega,by omega,(Qaf (z:=2) (fun _=> rfl) (by omega))⟩,⟨⟨by omega,by omega,(Qaf (z:=3) (fun _=> rfl) (by omega))⟩,⟨⟨by omega,by omega,(Qaf (z:=2) (fun _=> rfl) (by omega))⟩,⟨⟨by omega,by omega,(Qaf (z:=3) (fun _=> rfl) (by omega))⟩,⟨(Qbl q0),trivial⟩⟩⟩⟩⟩⟩⟩⟩⟩⟩ (by kernel_rfl) (by kernel_rfl))).cast (by rfl)
    ·
     exfalso
     (have hst:=Qav hs;omega)
   ·intro i k out gs ls zs n gl z w hm0 i0 i1 k0 wm wx hl zm zx hz hm hx ho gm gx gr ⟨dJ0,hdJ0,hg0⟩
    have hgp:=Qa9 hs
    have hst:=Qav hs
    have hlo:=Qa2 hs
    have hst:=Qav hs
    have hlo:=Qa2 hs
    have hll:=QgA hs (i:=i) (by omega) i1
    by_cases q0:(k:Int) < ((↑s.stock.length:Int))
    ·
     exact ((ih0 _ (by omega)).2.2.2.2.2.2.2.2.2.2.2.1 (i) (k+1) (out) (gs) (ls++[Span.lo (List.getD (Qad.goods (s.lots.getD i.toNat default)) k.toNat default)]) (zs) (n) (gl) (z) (w+1) rfl (by with_reducible assumption) (by with_reducible assumption) (by omega) (by exact QeQ wm) (by omega) (by exact Qgt k0 (by omega) hl) (by with_reducible assumption) (by with_reducible assumption) (by with_reducible assumption) (by with_reducible assumption) (by with_reducible assumption) (by with_reducible assumption) (by with_reducible assumption) (by with_reducible assumption) (by with_reducible assumption)
      (hg0.landM okF hJ Qab (Qx3 B s days i k out gs ls zs n gl z w dJ0)
      ⟨(Qao (Qaw (fun x=> List.all_eq_true.1 (by rfl)))),⟨(Qao (Qaw (fun x=> List.all_eq_true.1 (by rfl)))),⟨(by exact (QaN (QaT (fun _=> rfl)) (List.Mem.head _))),⟨(Qao (Qaw (fun x=> List.all_eq_true.1 (by rfl)))),⟨(QaJ (by omega) (by omega)),⟨⟨(by (rw [Qbn (z:=1) (fun _=> rfl)];first | omega | (simp;omega) | (simp_all;done))),(by unfold maxLen;omega),by omega,by first | exact Qea | exact Qev rfl⟩,⟨⟨by omega,by omega,(Qaf (z:=2) (fun _=> rfl) (by omega))⟩,⟨⟨by omega,by omega,(Qaf (z:=3) (fun _=> rfl) (by omega))⟩,⟨⟨by omega,by omega,(Qaf (z:=2) (fun _=> rfl) (by omega))⟩,⟨⟨by omega,by omega,(Qaf (z:=3) (fun _=> rfl) (by omega))⟩,⟨(Qbl q0),trivial⟩⟩⟩⟩⟩⟩⟩⟩⟩⟩⟩ (by kernel_rfl) (by kernel_rfl))).cast (by rfl)
    ·
     exact ((ih0 _ (by omega)).2.2.2.2.2.1 (i+1) (out) (gs) (zs++[{n:=w,xs:=ls}]) (n) (gl) (z+1) rfl (by omega) (by exact QeQ zm) (by omega) (by (rw [QzM (l:=s.lots.getD i.toNat default) wm (Qgv (by omega) hl)];exact Qgt i0 i1 hz)) (by with_reducible assumption) (by with_reducible assumption) (by with_reducible assumption) (by with_reducible assumption) (by with_reducible assumption) (by with_reducible assumption)
      (hg0.landM okF hJ Qab (QwV B s days i k out gs ls zs n gl z w dJ0)
      (by exact ⟨(Qao (Qaw (fun x=> List.all_eq_true.1 (by rfl)))),⟨(Qao (Qaw (fun x=> List.all_eq_true.1 (by rfl)))),⟨(by exact (Qf5 (QaN (QaT (fun _=> rfl)) (List.Mem.head _)) (by exact ⟨(.own (List.Mem.head _)),trivial⟩))),⟨(Qbe (fun x=> List.all_eq_true.1 (by rfl))),⟨(QaJ (by omega) (by omega)),⟨⟨(by (rw [Qbn (z:=1) (fun _=> rfl)];first | omega | (simp;omega) | (simp_all;done))),(by unfold maxLen;omega),by omega,rfl⟩,⟨(Qbq (Int.not_lt.1 q0)),trivial⟩⟩⟩⟩⟩⟩⟩) (by kernel_rfl) (by kernel_rfl))).cast (by rfl)
   ·intro i k out n hm0 i0 i1 k0 hm hx ho dz ⟨dJ0,hdJ0,hg0⟩
    have hgp:=Qa9 hs
    have hst:=Qav hs
    have hlo:=Qa2 hs
    have hst:=Qav hs
    have hlo:=Qa2 hs
    have hll:=QgA hs (i:=i) (by omega) i1
    by_cases q0:(k:Int) < ((↑s.stock.length:Int))
    ·
     exact ((ih0 _ (by omega)).2.2.2.2.2.2.2.2.2.2.2.2.2.1 (i) (k+1) (out) ([Span.lo (List.getD (Qad.goods (s.lots.getD i.toNat default)) k.toNat default)]) (n) (1) rfl (by with_reducible assumption) (by with_reducible assumption) (by omega) (by rfl) (by omega) (by exact QrA k0 (by omega)) (by with_reducible assumption) (by with_reducible assumption) (by with_reducible assumption) (by with_reducible assumption)
      (hg0.landM okF hJ Qab (Qvf B s days i k out n dJ0)
      ⟨(Qao (Qaw (fun x=> List.all_eq_true.1 (by rfl)))),⟨(Qer (by kernel_rfl)),⟨(QaJ (by omega) (by omega)),⟨⟨by omega,by omega,(Qaf (z:=2) (fun _=> rfl) (by omega))⟩,⟨⟨by omega,by omega,(Qaf (z:=3) (fun _=> rfl) (by omega))⟩,⟨⟨by omega,by omega,(Qaf (z:=2) (fun _=> rfl) (by omega))⟩,⟨⟨by omega,by omega,(Qaf (z:=3) (fun _=> rfl) (by omega))⟩,⟨(Qbl q0),trivial⟩⟩⟩⟩⟩⟩⟩⟩ (by kernel_rfl) (by kernel_rfl))).cast (by rfl)
    ·
     exfalso
     (have hst:=Qav hs;omega)
   ·intro i k out ls n w hm0 i0 i1 k0 wm wx hl hm hx ho dz ⟨dJ0,hdJ0,hg0⟩
    have hgp:=Qa9 hs
    have hst:=Qav hs
    have hlo:=Qa2 hs
    have hst:=Qav hs
    have hlo:=Qa2 hs
    have hll:=QgA hs (i:=i) (by omega) i1
    by_cases q0:(k:Int) < ((↑s.stock.length:Int))
    ·
     exact ((ih0 _ (by omega)).2.2.2.2.2.2.2.2.2.2.2.2.2.1 (i) (k+1) (out) (ls++[Span.lo (List.getD (Qad.goods (s.lots.getD i.toNat default)) k.toNat default)]) (n) (w+1) rfl (by with_reducible assumption) (by with_reducible assumption) (by omega) (by exact QeQ wm) (by omega) (by exact Qgt k0 (by omega) hl) (by with_reducible assumption) (by with_reducible assumption) (by with_reducible assumption) (by with_reducible assumption)
      (hg0.landM okF hJ Qab (Qxr B s days i k out ls n w dJ0)
      ⟨(Qao (Qaw (fun x=> List.all_eq_true.1 (by rfl)))),⟨(Qao (Qaw (fun x=> List.all_eq_true.1 (by rfl)))),⟨(QaJ (by omega) (by omega)),⟨⟨(by (rw [Qbn (z:=1) (fun _=> rfl)];first | omega | (simp;omega) | (simp_all;done))),(by unfold maxLen;omega),by omega,by first | exact Qea | exact Qev rfl⟩,⟨⟨by omega,by omega,(Qaf (z:=2) (fun _=> rfl) (by omega))⟩,⟨⟨by omega,by omega,(Qaf (z:=3) (fun _=> rfl) (by omega))⟩,⟨⟨by omega,by omega,(Qaf (z:=2) (fun _=> rfl) (by omega))⟩,⟨⟨by omega,by omega,(Qaf (z:=3) (fun _=> rfl) (by omega))⟩,⟨(Qbl q0),trivial⟩⟩⟩⟩⟩⟩⟩⟩⟩ (by kernel_rfl) (by kernel_rfl))).cast (by rfl)
    ·
     exact ((ih0 _ (by omega)).2.2.2.2.2.2.2.1 (i+1) (out) ([{n:=w,xs:=ls}]) (n) (1) rfl (by omega) (by rfl) (by omega) (by (rw [QzM (l:=s.lots.getD i.toNat default) wm (Qgv (by omega) hl)];exact QrA i0 i1)) (by with_reducible assumption) (by with_reducible assumption) (by with_reducible assumption) (by with_reducible assumption)
      (hg0.landM okF hJ Qab (QwK B s days i k out ls n w dJ0)
      (by exact ⟨(Qao (Qaw (fun x=> List.all_eq_true.1 (by rfl)))),⟨(by exact (QgT (by exact ⟨(.own (List.Mem.head _)),trivial⟩))),⟨(Qbe (fun x=> List.all_eq_true.1 (by rfl))),⟨(QaJ (by omega) (by omega)),⟨(Qbq (Int.not_lt.1 q0)),trivial⟩⟩⟩⟩⟩) (by kernel_rfl) (by kernel_rfl))).cast (by rfl)
   ·intro i k out zs n z hm0 i0 i1 k0 zm zx hz hm hx ho dz ⟨dJ0,hdJ0,hg0⟩
    have hgp:=Qa9 hs
    have hst:=Qav hs
    have hlo:=Qa2 hs
    have hst:=Qav hs
    have hlo:=Qa2 hs
    have hll:=QgA hs (i:=i) (by omega) i1
    by_cases q0:(k:Int) < ((↑s.stock.length:Int))
    ·
     exact ((ih0 _ (by omega)).2.2.2.2.2.2.2.2.2.2.2.2.2.2.2 (i) (k+1) (out) ([Span.lo (List.getD (Qad.goods (s.lots.getD i.toNat default)) k.toNat default)]) (zs) (n) (z) (1) rfl (by with_reducible assumption) (by with_reducible assumption) (by omega) (by rfl) (by omega) (by exact QrA k0 (by omega)) (by with_reducible assumption) (by with_reducible assumption) (by with_reducible assumption) (by with_reducible assumption) (by with_reducible assumption) (by with_reducible assumption) (by with_reducible assumption)
      (hg0.landM okF hJ Qab (QxS B s days i k out zs n z dJ0)
      ⟨(Qao (Qaw (fun x=> List.all_eq_true.1 (by rfl)))),⟨(by exact (QaN (QaT (fun _=> rfl)) (List.Mem.head _))),⟨(Qer (by kernel_rfl)),⟨(QaJ (by omega) (by omega)),⟨⟨by omega,by omega,(Qaf (z:=2) (fun _=> rfl) (by omega))⟩,⟨⟨by omega,by omega,(Qaf (z:=3) (fun _=> rfl) (by omega))⟩,⟨⟨by omega,by omega,(Qaf (z:=2) (fun _=> rfl) (by omega))⟩,⟨⟨by omega,by omega,(Qaf (z:=3) (fun _=> rfl) (by omega))⟩,⟨(Qbl q0),trivial⟩⟩⟩⟩⟩⟩⟩⟩⟩ (by kernel_rfl) (by kernel_rfl))).cast (by rfl)
    ·
     exfalso
     (have hst:=Qav hs;omega)
   ·intro i k out ls zs n z w hm0 i0 i1 k0 wm wx hl zm zx hz hm hx ho dz ⟨dJ0,hdJ0,hg0⟩
    have hgp:=Qa9 hs
    have hst:=Qav hs
    have hlo:=Qa2 hs
    have hst:=Qav hs
    have hlo:=Qa2 hs
    have hll:=QgA hs (i:=i) (by omega) i1
    by_cases q0:(k:Int) < ((↑s.stock.length:Int))
    ·
     exact ((ih0 _ (by omega)).2.2.2.2.2.2.2.2.2.2.2.2.2.2.2 (i) (k+1) (out) (ls++[Span.lo (List.getD (Qad.goods (s.lots.getD i.toNat default)) k.toNat default)]) (zs) (n) (z) (w+1) rfl (by with_reducible assumption) (by with_reducible assumption) (by omega) (by exact QeQ wm) (by omega) (by exact Qgt k0 (by omega) hl) (by with_reducible assumption) (by with_reducible assumption) (by with_reducible assumption) (by with_reducible assumption) (by with_reducible assumption) (by with_reducible assumption) (by with_reducible assumption)
      (hg0.landM okF hJ Qab (Qvb B s days i k out ls zs n z w dJ0)
      ⟨(Qao (Qaw (fun x=> List.all_eq_true.1 (by rfl)))),⟨(by exact (QaN (QaT (fun _=> rfl)) (List.Mem.head _))),⟨(Qao (Qaw (fun x=> List.all_eq_true.1 (by rfl)))),⟨(QaJ (by omega) (by omega)),⟨⟨(by (rw [Qbn (z:=1) (fun _=> rfl)];first | omega | (simp;omega) | (simp_all;done))),(by unfold maxLen;omega),by omega,by first | exact Qea | exact Qev rfl⟩,⟨⟨by omega,by omega,(Qaf (z:=2) (fun _=> rfl) (by omega))⟩,⟨⟨by omega,by omega,(Qaf (z:=3) (fun _=> rfl) (by omega))⟩,⟨⟨by omega,by omega,(Qaf (z:=2) (fun _=> rfl) (by omega))⟩,⟨⟨by omega,by omega,(Qaf (z:=3) (fun _=> rfl) (by omega))⟩,⟨(Qbl q0),trivial⟩⟩⟩⟩⟩⟩⟩⟩⟩⟩ (by kernel_rfl) (by kernel_rfl))).cast (by rfl)
    ·
     exact ((ih0 _ (by omega)).2.2.2.2.2.2.2.1 (i+1) (out) (zs++[{n:=w,xs:=ls}]) (n) (z+1) rfl (by omega) (by exact QeQ zm) (by omega) (by (rw [QzM (l:=s.lots.getD i.toNat default) wm (Qgv (by omega) hl)];exact Qgt i0 i1 hz)) (by with_reducible assumption) (by with_reducible assumption) (by with_reducible assumption) (by with_reducible assumption)
      (hg0.landM okF hJ Qab (QuH B s days i k out ls zs n z w dJ0)
      (by exact ⟨(Qao (Qaw (fun x=> List.all_eq_true.1 (by rfl)))),⟨(by exact (Qf5 (QaN (QaT (fun _=> rfl)) (List.Mem.head _)) (by exact ⟨(.own (List.Mem.head _)),trivial⟩))),⟨(Qbe (fun x=> List.all_eq_true.1 (by rfl))),⟨(QaJ (by omega) (by omega)),⟨⟨(by (rw [Qbn (z:=1) (fun _=> rfl)];first | omega | (simp;omega) | (simp_all;done))),(by unfold maxLen;omega),by omega,rfl⟩,⟨(Qbq (Int.not_lt.1 q0)),trivial⟩⟩⟩⟩⟩⟩) (by kernel_rfl) (by kernel_rfl))).cast (by rfl)
set_option maxHeartbeats 4000000 in
theorem Q1p (s:Qaa) (days:Int) (hs:Qa8 s=true) (hd:0<=days/\days<=300) {B:Lo} (hJ:∀w,B.has w->J0 w):EndsT Tryz.prog B (Qai Tryz.prog 47 107 (([.agg (Qah s).toArray,.int .i64 days,.bool true]).map (Qaq 0 4))) (.agg (QaH (Qae Span.lo Span.hi s days)).toArray):=by
 have hgp:=Qa9 hs
 have hst:=Qav hs
 have hlo:=Qa2 hs
 exact ((QyB s days hs hd hJ _).1 (0) rfl (by omega)
  (GoE.start.landM okF hJ Qab (QvT B s days)
  trivial (by kernel_rfl) (by kernel_rfl))).cast (by rfl)
theorem Q3I (s:Qaa) (days:Int) (hs:Qa8 s=true) (hd:0<=days/\days<=300):Qas Tryz.prog J0 47 #[.agg (Qah s).toArray,.int .i64 days,.bool true] (.agg (QaH (Qae Span.lo Span.hi s days)).toArray):=
 QaE (ts:=[.agg (Qah s).toArray,.int .i64 days,.bool true]) Qb8 (c0:=Qai Tryz.prog 47 107 (([.agg (Qah s).toArray,.int .i64 days,.bool true]).map (Qaq 0 4))) (by kernel_rfl) (by kernel_rfl) fun B hJ=> Q1p s days hs hd hJ
end
end Go.Proofs.YtiabgkiccaodmaaGreat

namespace Go.Proofs.YtiabgkiccaodmaaGreat
open Go Go.CE Go.RowKit
set_option maxRecDepth 100000
theorem getD_map {α β:Type} [Inhabited α] [Inhabited β] {f:α->β} {l:List α} {k:Nat} (h:k < l.length):(l.map f).getD k default=f (l.getD k default):=by
 simp [List.getD_eq_getElem?_getD,h]
theorem QqG {a b x:Int}:x∈upI a b<->a<=x/\x < b:=by
 refine ⟨Qge,fun h=> ?_⟩
 unfold upI
 exact List.mem_map.2 ⟨(x - a).toNat,List.mem_range.2 (by omega),by omega⟩
def Qxb (f:Span->Int):Prop:=∀x:Span,x.lo<=x.hi->x.lo<=f x/\f x<=x.hi
theorem QcZ:Qxb Span.lo:=fun _ h=> ⟨Int.le_refl _,h⟩
theorem Qda:Qxb Span.hi:=fun _ h=> ⟨h,Int.le_refl _⟩
theorem QlK {ss:List Span} {f:Span->Int} (hf:Qxb f) (h:∀x∈ss,x.lo<=x.hi):Qf4 (ss.map f) ss=true:=by
 unfold Qf4 Q4s
 rw [List.length_map,decide_eq_true rfl,Bool.true_and,List.all_eq_true]
 intro k hk
 have hk:=QqG.1 hk
 rw [getD_map (by omega),QaW]
 exact hf _ (h _ (QaB (l:=ss) hk.1 hk.2))
theorem Qsb {x:Int}:∀n:Nat,QeE (List.replicate n x)=n * x
 | 0=> by simp [QeE]
 | n+1=> by
   rw [List.replicate_succ];show x+QeE (List.replicate n x)=_
   rw [Qsb n,Int.natCast_add,Int.add_mul];omega
theorem Q2e {d g:Int} (hd:0<=d) (hg:1<=g):d<=((d+g - 1).tdiv g).toNat * g:=by
 rw [Int.tdiv_eq_ediv_of_nonneg (by omega)]
 have h0:0<=(d+g - 1) / g:=Int.ediv_nonneg (by omega) (by omega)
 rw [Int.toNat_of_nonneg h0]
 have h1:=Int.lt_ediv_add_one_mul_self (d+g - 1) (show 0 < g by omega)
 rw [Int.add_mul] at h1
 omega
theorem Qcj {f g:Span->Int} {s:Qaa} {days:Int} (hf:Qxb f) (hg:Qxb g) (hs:Qa8 s=true) (hd:0<=days/\days<=300):QcC s days (Qae f g s days)=true:=by
 have hgp:=Qa9 hs
 have hst:=Qav hs
 have hlo:=Qa2 hs
 have hgg:=hg ⟨s.glo,s.ghi⟩ hgp.2.1
 have hqf:=Qe1 (g:=g ⟨s.glo,s.ghi⟩) hd (by simp only at hgg;omega)
 simp only at hgg
 have h1:Qf4 (Qae f g s days).uses s.use=true:=QlK hg fun x hx=> (hst.2.2.2 x hx).2.1
 have h2:QlW s days (Qae f g s days).gaps=true:=by
  have e:(Qae f g s days).gaps=List.replicate ((days+g ⟨s.glo,s.ghi⟩ - 1).tdiv (g ⟨s.glo,s.ghi⟩)).toNat (g ⟨s.glo,s.ghi⟩):=rfl
  rw [e]
  unfold QlW
  rw [List.length_replicate,decide_eq_true (by omega),Bool.true_and,Bool.and_eq_true,List.all_eq_true]
  refine ⟨fun x hx=> ?_,decide_eq_true ?_⟩
  ·rw [(List.mem_replicate.1 hx).2,QaW];exact hgg
  ·rw [Qsb];exact Q2e hd.1 (by omega)
 have h3:QmD s (Qae f g s days).goods=true:=by
  have e:(Qae f g s days).goods=s.lots.map fun (l:Qad)=> (l.goods.map f:Row):=rfl
  rw [e]
  unfold QmD Q4r
  rw [List.length_map,decide_eq_true rfl,Bool.true_and,List.all_eq_true]
  intro k hk
  have hk:=QqG.1 hk
  have hm:=QaB (l:=s.lots) hk.1 hk.2
  have e:(s.lots.map fun (l:Qad)=> (l.goods.map f:Row)).getD k.toNat default=(s.lots.getD k.toNat default).goods.map f:=getD_map (f:=fun (l:Qad)=> (l.goods.map f:Row)) (by omega)
  rw [e]
  exact QlK hf fun x hx=> ((QcA (hlo.2 _ hm)).2.1 x hx).2.1
 unfold QcC
 rw [h1,h2,h3];rfl
structure Wnt where
 may:Int
 must:Int
deriving Inhabited
noncomputable def Qgh (s:Qaa) (days:Int):Array Value:=#[slT (List.length (Qat.uses (Qae Span.lo Span.hi s days))) (Qac Qar (Qat.uses (Qae Span.lo Span.hi s days))),slT (List.length (Qat.gaps (Qae Span.lo Span.hi s days))) (Qac Qar (Qat.gaps (Qae Span.lo Span.hi s days))),slT (List.length (Qat.goods (Qae Span.lo Span.hi s days))) (Qac Qaz (Qat.goods (Qae Span.lo Span.hi s days)))]
theorem Qo3 (B:Lo) (s:Qaa) (load days:Int):Qbd (Qak Tryz.prog (Qa1 Tryz.prog) J0 B 6 1 (Qai Tryz.prog 128 7 (([.agg (QaO s load days).toArray]).map (Qaq 0 4))) H00 1
 [(4,Qaj.pure (.agg (Qgh s days)) []),(5,Qaj.pure (slT (List.length (QaD s load days (Qae Span.lo Span.hi s days))) (Qac Qcv (QaD s load days (Qae Span.lo Span.hi s days)))) [])] 0 [] []) []=some (slT (List.length (QaD s load days (Qae Span.lo Span.hi s days))) (Qac Qcv (QaD s load days (Qae Span.lo Span.hi s days))),
 [Qa7 []/\Qas Tryz.prog J0 84 #[.agg #[slT s.stock.length (Qac Qar s.stock),slT s.use.length (Qac Qa6 s.use),.int .i64 s.glo,.int .i64 s.ghi,slT s.lots.length (Qac Qam s.lots),.int .i64 s.hold,.int .i64 load,.int .i64 days],.agg (Qgh s days)] (slT (List.length (QaD s load days (Qae Span.lo Span.hi s days))) (Qac Qcv (QaD s load days (Qae Span.lo Span.hi s days)))),Qa7 []/\Qas Tryz.prog J0 150 #[.agg #[slT s.stock.length (Qac Qar s.stock),slT s.use.length (Qac Qa6 s.use),.int .i64 s.glo,.int .i64 s.ghi,slT s.lots.length (Qac Qam s.lots),.int .i64 s.hold,.int .i64 load,.int .i64 days],Value.func (Fn.func 104) #[] #[],Value.func (Fn.func 103) #[] #[]] (.agg (Qgh s days))]):=by kernel_rfl
set_option maxHeartbeats 4000000 in
theorem QrF (s:Qaa) (load days:Int) (hs:Qa8 s=true) (hd:0<=days/\days<=300) (h0:0<=load) (h1:load < 64) (hx:Qcf load<=s.lots.length) {B:Lo} (hJ:∀w,B.has w->J0 w):EndsT Tryz.prog B (Qai Tryz.prog 128 7 (([.agg (QaO s load days).toArray]).map (Qaq 0 4))) (slG (QaD s load days (Qae Span.lo Span.hi s days))):=by
 have ht1:=Qcj QcZ Qda hs hd
 have ht2:=Qcj Qda QcZ hs hd
 exact (GoE.endsT okF hJ Qab GoE.start (Qo3 B s load days)
  ⟨⟨trivial,Q24 (s) (load) (days) (Qae Span.lo Span.hi s days) (by with_reducible assumption) (by with_reducible assumption) (by with_reducible assumption) (by with_reducible assumption) (by with_reducible assumption) (by with_reducible assumption)⟩,⟨⟨trivial,Q1S (s) (load) (days) (by with_reducible assumption) (by with_reducible assumption)⟩,trivial⟩⟩).cast (by rfl)
theorem QwC (s:Qaa) (load days:Int) (hs:Qa8 s=true) (hd:0<=days/\days<=300) (h0:0<=load) (h1:load < 64) (hx:Qcf load<=s.lots.length):Qas Tryz.prog J0 128 #[.agg (QaO s load days).toArray] (slG (QaD s load days (Qae Span.lo Span.hi s days))):=
 QaE (ts:=[.agg (QaO s load days).toArray]) Qb8 (c0:=Qai Tryz.prog 128 7 (([.agg (QaO s load days).toArray]).map (Qaq 0 4))) (by kernel_rfl) (by kernel_rfl) fun B hJ=> QrF s load days hs hd h0 h1 hx hJ
end Go.Proofs.YtiabgkiccaodmaaGreat

namespace Go.Proofs.YtiabgkiccaodmaaGreat
open Go Go.CE Go.RowKit
set_option maxRecDepth 100000
theorem Q2w {a b:Wnt}:a=b<->a.may=b.may/\a.must=b.must:=by
 cases a;cases b;simp
instance:DecidableEq Wnt:=fun a b=> decidable_of_iff _ Q2w.symm
end Go.Proofs.YtiabgkiccaodmaaGreat

