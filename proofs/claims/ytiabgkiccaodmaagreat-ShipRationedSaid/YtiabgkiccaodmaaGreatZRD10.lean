/- The first day on which goods are wanting. -/
import Derived.Test.YtiabgkiccaodmaaGreatZRD09
set_option linter.all false
namespace Go.Proofs.YtiabgkiccaodmaaGreat
open Go Go.CE Go.RowKit
noncomputable section
set_option maxRecDepth 100000
structure Gd where
 stock:Int
 use:Int
 br:Int
 ships:List Bool
deriving Inhabited
def QbU (g:Gd):List Value:=[.int .i64 g.stock,.int .i64 g.use,.int .i64 g.br,slB g.ships]
abbrev Qjh (use left:Int):Int:=left - if use < left then use else left
def QaK (use br:Int):List Bool->Int->Int->Int
 | [],_,_=> -1
 | c::cs,day,left=> bif decide ((left+bif c then br else 0) < use) then day else QaK use br cs (day+1) (Qjh use (left+bif c then br else 0))
def QiW (use br:Int):List Bool->Int->Int
 | [],left=> left
 | c::cs,left=> QiW use br cs (Qjh use (left+bif c then br else 0))
def gdB (g:Gd):Prop:=0<=g.stock/\g.stock<=1000000000/\0<=g.use/\g.use<=1000000000/\0<=g.br/\g.br<=1000000000/\g.ships.length<=1000
theorem Qdc {use br:Int} {l:List Bool} {i left:Int} (h0:0<=i) (h:i < l.length):QaK use br (l.drop i.toNat) i left=bif decide ((left+bif l.getD i.toNat default then br else 0) < use) then i else QaK use br (l.drop (i+1).toNat) (i+1) (Qjh use (left+bif l.getD i.toNat default then br else 0)):=by
 obtain ⟨k,rfl⟩:∃k:Nat,i=k:=⟨i.toNat,by omega⟩
 have hk:k < l.length:=by omega
 have e1:((k:Int)).toNat=k:=by omega
 have e2:((k:Int)+1).toNat=k+1:=by omega
 rw [e1,e2,List.drop_eq_getElem_cons hk];simp [QaK,List.getD_eq_getElem?_getD,hk]
theorem Qv7 {use br:Int} {l:List Bool} {i left:Int} (h:l.length<=i):QaK use br (l.drop i.toNat) i left= -1:=by
 rw [List.drop_eq_nil_of_le (by omega)];rfl
theorem QdA {use br:Int} {l:List Bool} {i left:Int} (h0:0<=i) (h:i < l.length):QiW use br (l.drop i.toNat) left=QiW use br (l.drop (i+1).toNat) (Qjh use (left+bif l.getD i.toNat default then br else 0)):=by
 obtain ⟨k,rfl⟩:∃k:Nat,i=k:=⟨i.toNat,by omega⟩
 have hk:k < l.length:=by omega
 have e1:((k:Int)).toNat=k:=by omega
 have e2:((k:Int)+1).toNat=k+1:=by omega
 rw [e1,e2,List.drop_eq_getElem_cons hk];simp [QiW,List.getD_eq_getElem?_getD,hk]
theorem Q08 {use br:Int} {l:List Bool} {i left:Int} (h:l.length<=i):QiW use br (l.drop i.toNat) left=left:=by
 rw [List.drop_eq_nil_of_le (by omega)];rfl
theorem QfY {use br:Int}:∀(l:List Bool) (day left:Int),0<=day->QaK use br l day left= -1\/0<=QaK use br l day left
 | [],_,_,_=> .inl rfl
 | c::cs,day,left,h=> by
   simp only [QaK];cases decide ((left+bif c then br else 0) < use) with
   | true=> exact .inr h
   | false=> exact QfY cs _ _ (by omega)
def QaV (g:Gd):Qau:=[(2,Obj.cells #[.int .i64 0] 3),(1,Obj.cells #[.int .i64 g.stock,.int .i64 g.use,.int .i64 g.br,Qa0 0 (slT g.ships.length (Qac Qel g.ships))] 129),(0,Obj.coro none)]
def QbR (g:Gd):CF:=⟨126,ofList 38 [.agg #[.int .i64 g.stock,.int .i64 g.use,.int .i64 g.br,Qa0 0 (slT g.ships.length (Qac Qel g.ships))],Value.func (Fn.func 149) #[] #[]],[Item.code (Qaq YP 126)],[],.run,none⟩
def Qbs (g:Gd) (i left:Int):List Value:=[Value.func (Fn.func 149) #[] #[],pA 4 0,.int .i64 left,Qa0 0 (slT g.ships.length (Qac Qel g.ships)),.int .i64 (↑g.ships.length:Int),.int .i64 i]
def Qbu (g:Gd) (i left:Int):List Obj:=[]
def QaM (g:Gd) (i left:Int):List Obj:=[Obj.cells #[.int .i64 g.stock,.int .i64 g.use,.int .i64 g.br,Qa0 0 (slT g.ships.length (Qac Qel g.ships))] 129]
def Qbt:List Item:=([.code [1,1,0,1,0,0],.inLoop [1,1,0,1,0,0],.inBlock 0,.code [1,1,1]]).map (it (Qaq YP 126))
def QhF (B:Lo) (g:Gd) (i left:Int) (dJ0:Nat->Value):List Prop:=[ltq i (↑g.ships.length:Int)=true]++([]:List Prop)
def QkD (g:Gd) (i left:Int) (dJ0:Nat->Value):Qas:=[(0,hvT)]
def QhK (B:Lo) (g:Gd) (i left:Int) (dJ0:Nat->Value):List Prop:=[wq (left+g.br)=left+g.br,i=(↑i.toNat:Int)/\Int.toNat i < List.length g.ships/\Array.extract (Qac Qel g.ships) (Int.toNat i * TypeInfo.size Tryz.t4) (Int.toNat i * TypeInfo.size Tryz.t4+TypeInfo.size Tryz.t4)=#[.bool true]]++QhF B g i left dJ0
def QkG (g:Gd) (i left:Int) (dJ0:Nat->Value):Qas:=QkD g i left dJ0++[(2,Qai.tidx i.toNat #[.bool true]),(10,hvI (left+g.br))]
def QeK (g:Gd) (i left:Int) (dJ0:Nat->Value):Qau:=[(3,Obj.coro none),(4,Obj.cells #[.int .i64 g.stock,.int .i64 g.use,.int .i64 g.br,Qa0 0 (slT g.ships.length (Qac Qel g.ships))] 129),(2,Obj.cells #[.int .i64 0] 3),(1,Obj.cells #[.int .i64 g.stock,.int .i64 g.use,.int .i64 g.br,Qa0 0 (slT g.ships.length (Qac Qel g.ships))] 129),(0,Obj.coro none)]
def Qf3 (g:Gd) (i left:Int) (dJ0:Nat->Value):CF:=⟨149,ofList 4 [.int .i64 i],[Item.code (Qaq YP 149)],[],.run,none⟩
theorem Qro (B:Lo) (g:Gd) (i left:Int) (dJ0:Nat->Value):CE.finK 5 (Qal YP (Qa1 YP) J0 B 2 5 (Qf3 g i left dJ0) (QeK g i left dJ0) 5
 [] 0 [] []) [] [] []=some (OO.pan (Value.iface 183 (.int .i64 i)),[],[],
 []):=by kernel_rfl
theorem Qrt (B:Lo) (g:Gd) (i left:Int) (dJ0:Nat->Value):CE.finK 3 (Qal YP (Qa1 YP) J0 B 20 3 (Qco (none) 126 38 (([1,2,5,11,12,13]:List Nat).zip (Qbs g i left)) dJ0 Qbt) (QbC (QaV g) 3 (([]:List Nat).zip (Qbu g i left)) (QaM g i left)) (3+1+(QaM g i left).length)
 (QkG g i left dJ0++[(15,hvT),(18,Qai.call (List.range 5) (OO.pan (Value.iface 183 (.int .i64 i))) ([]++(5,Qb2)::QaP 6 []) 6 [])]) 0 [] []) [] [] []=some (OO.pan (Value.iface 183 (.int .i64 i)),[],[],
 [FJ YP B (Qf3 g i left dJ0) (QeK g i left dJ0) 5 (OO.pan (Value.iface 183 (.int .i64 i))) (([]++((5,Qb2)::QaP (5+1) []))++QeK g i left dJ0) 6 (List.range 5) [],ltq (left+g.br) g.use=true]++QhK B g i left dJ0):=by kernel_rfl
theorem Qqn (B:Lo) (g:Gd) (i left:Int) (dJ0:Nat->Value):CE.landA 3 (Qal YP (Qa1 YP) J0 B 23 3 (Qco (none) 126 38 (([1,2,5,11,12,13]:List Nat).zip (Qbs g i left)) dJ0 Qbt) (QbC (QaV g) 3 (([]:List Nat).zip (Qbu g i left)) (QaM g i left)) (3+1+(QaM g i left).length)
 (QkG g i left dJ0++[(15,hvF),(21,hvI (left+g.br - if g.use < left+g.br then g.use else left+g.br)),(23,hvI (i+1))]) 0 [] []) [1,2,5,11,12,13] [] [(4,KS.auto)] []=some ⟨126,38,Qbt,[],.run,none,Qbs g (i+1) (left+g.br - if g.use < left+g.br then g.use else left+g.br),([]:List Nat).zip (Qbu g (i+1) (left+g.br - if g.use < left+g.br then g.use else left+g.br)),QaM g (i+1) (left+g.br - if g.use < left+g.br then g.use else left+g.br),
 [wq (i+1)=i+1,wq (left+g.br - if g.use < left+g.br then g.use else left+g.br)=left+g.br - if g.use < left+g.br then g.use else left+g.br,ltq (left+g.br) g.use=false]++QhK B g i left dJ0⟩:=by kernel_rfl
def QgZ (B:Lo) (g:Gd) (i left:Int) (dJ0:Nat->Value):List Prop:=[i=(↑i.toNat:Int)/\Int.toNat i < List.length g.ships/\Array.extract (Qac Qel g.ships) (Int.toNat i * TypeInfo.size Tryz.t4) (Int.toNat i * TypeInfo.size Tryz.t4+TypeInfo.size Tryz.t4)=#[.bool false]]++QhF B g i left dJ0
def QkC (g:Gd) (i left:Int) (dJ0:Nat->Value):Qas:=QkD g i left dJ0++[(2,Qai.tidx i.toNat #[.bool false])]
def Qe7 (g:Gd) (i left:Int) (dJ0:Nat->Value):Qau:=[(3,Obj.coro none),(4,Obj.cells #[.int .i64 g.stock,.int .i64 g.use,.int .i64 g.br,Qa0 0 (slT g.ships.length (Qac Qel g.ships))] 129),(2,Obj.cells #[.int .i64 0] 3),(1,Obj.cells #[.int .i64 g.stock,.int .i64 g.use,.int .i64 g.br,Qa0 0 (slT g.ships.length (Qac Qel g.ships))] 129),(0,Obj.coro none)]
def QfG (g:Gd) (i left:Int) (dJ0:Nat->Value):CF:=⟨149,ofList 4 [.int .i64 i],[Item.code (Qaq YP 149)],[],.run,none⟩
theorem QrU (B:Lo) (g:Gd) (i left:Int) (dJ0:Nat->Value):CE.finK 5 (Qal YP (Qa1 YP) J0 B 2 5 (QfG g i left dJ0) (Qe7 g i left dJ0) 5
 [] 0 [] []) [] [] []=some (OO.pan (Value.iface 183 (.int .i64 i)),[],[],
 []):=by kernel_rfl
theorem Qr9 (B:Lo) (g:Gd) (i left:Int) (dJ0:Nat->Value):CE.finK 3 (Qal YP (Qa1 YP) J0 B 20 3 (Qco (none) 126 38 (([1,2,5,11,12,13]:List Nat).zip (Qbs g i left)) dJ0 Qbt) (QbC (QaV g) 3 (([]:List Nat).zip (Qbu g i left)) (QaM g i left)) (3+1+(QaM g i left).length)
 (QkC g i left dJ0++[(10,hvT),(13,Qai.call (List.range 5) (OO.pan (Value.iface 183 (.int .i64 i))) ([]++(5,Qb2)::QaP 6 []) 6 [])]) 0 [] []) [] [] []=some (OO.pan (Value.iface 183 (.int .i64 i)),[],[],
 [FJ YP B (QfG g i left dJ0) (Qe7 g i left dJ0) 5 (OO.pan (Value.iface 183 (.int .i64 i))) (([]++((5,Qb2)::QaP (5+1) []))++Qe7 g i left dJ0) 6 (List.range 5) [],ltq left g.use=true]++QgZ B g i left dJ0):=by kernel_rfl
theorem Qsa (B:Lo) (g:Gd) (i left:Int) (dJ0:Nat->Value):CE.landA 3 (Qal YP (Qa1 YP) J0 B 23 3 (Qco (none) 126 38 (([1,2,5,11,12,13]:List Nat).zip (Qbs g i left)) dJ0 Qbt) (QbC (QaV g) 3 (([]:List Nat).zip (Qbu g i left)) (QaM g i left)) (3+1+(QaM g i left).length)
 (QkC g i left dJ0++[(10,hvF),(16,hvI (left - if g.use < left then g.use else left)),(18,hvI (i+1))]) 0 [] []) [1,2,5,11,12,13] [] [(4,KS.auto)] []=some ⟨126,38,Qbt,[],.run,none,Qbs g (i+1) (left - if g.use < left then g.use else left),([]:List Nat).zip (Qbu g (i+1) (left - if g.use < left then g.use else left)),QaM g (i+1) (left - if g.use < left then g.use else left),
 [wq (i+1)=i+1,wq (left - if g.use < left then g.use else left)=left - if g.use < left then g.use else left,ltq left g.use=false]++QgZ B g i left dJ0⟩:=by kernel_rfl
theorem Qs3 (B:Lo) (g:Gd) (i left:Int) (dJ0:Nat->Value):CE.finK 3 (Qal YP (Qa1 YP) J0 B 9 3 (Qco (none) 126 38 (([1,2,5,11,12,13]:List Nat).zip (Qbs g i left)) dJ0 Qbt) (QbC (QaV g) 3 (([]:List Nat).zip (Qbu g i left)) (QaM g i left)) (3+1+(QaM g i left).length)
 [(0,hvF)] 0 [] []) [] [] []=some (OO.ret (.int .i64 left),[],[],
 [ltq i (↑g.ships.length:Int)=false]):=by kernel_rfl
set_option maxHeartbeats 4000000 in
theorem Qhe (g:Gd) (hg:gdB g) {B:Lo} (hJ:∀w,B.has w->J0 w):∀m:Nat,(∀(i left:Int),∀(r:Bool),(decide (0<=QaK g.use g.br (g.ships.drop i.toNat) i left))=r->(g.ships.length - i.toNat)=m->∀(h0:0<=i) (h1:0<=left) (h2:left<=1000000000 * (i+1)),(∃dJ0:Nat->Value,(∀t,Qbd (dJ0 t))/\GoE YP B (QbR g) (QaV g) 3 (Qco (none) 126 38 (([1,2,5,11,12,13]:List Nat).zip (Qbs g i left)) dJ0 Qbt) (QbC (QaV g) 3 (([]:List Nat).zip (Qbu g i left)) (QaM g i left)) (3+1+(QaM g i left).length) ([]:List Nat))->FinK YP B (QbR g) (QaV g) 3 (bif r then .pan (.iface 183 (.int .i64 (QaK g.use g.br (g.ships.drop i.toNat) i left))) else .ret (.int .i64 (QiW g.use g.br (g.ships.drop i.toNat) left))) (([]:List Nat).zip ([])) ([]) ([]:List Nat)):=by
 intro m0;induction m0 using Nat.strongRecOn with
 | _ m0 ih0=>
   intro i left r1 hr1 hm0 h0 h1 h2 ⟨dJ0,hdJ0,hg0⟩;by_cases q0:(i:Int) < ((↑g.ships.length:Int))
   ·have hp0:Qa3 (QhF B g i left dJ0):=by
     exact ⟨(Qbe q0),trivial⟩
    cases q1:g.ships.getD i.toNat default with
    | true=>
      have hp1:Qa3 (QhK B g i left dJ0):=by
       unfold gdB at hg;have s1:=Qdc (use:=g.use) (br:=g.br) (l:=g.ships) (left:=left) h0 q0;have s2:=QdA (use:=g.use) (br:=g.br) (l:=g.ships) (left:=left) h0 q0;simp only [q1,cond_true,cond_false,Int.add_zero] at s1 s2;exact ⟨(QaQ (by omega) (by omega)),⟨⟨by first | omega | (split <;> omega),by first | omega | (split <;> omega),((Qag (z:=1) (fun _=> rfl) (by omega))).trans (by simp_all [Qel])⟩,hp0⟩⟩
      by_cases q2:(left+g.br:Int) < g.use
      ·have rj2:FJ YP B (Qf3 g i left dJ0) (QeK g i left dJ0) 5 (OO.pan (Value.iface 183 (.int .i64 i))) (([]++((5,Qb2)::QaP (5+1) []))++QeK g i left dJ0) 6 (List.range 5) []:=by
        unfold gdB at hg;have s1:=Qdc (use:=g.use) (br:=g.br) (l:=g.ships) (left:=left) h0 q0;have s2:=QdA (use:=g.use) (br:=g.br) (l:=g.ships) (left:=left) h0 q0;simp only [q1,cond_true,cond_false,Int.add_zero] at s1 s2;rw [decide_eq_true q2,cond_true] at s1;exact FinK.fjB (GoE.finK okF hJ Qab (Qap (by kernel_rfl)) (Qak (by kernel_rfl)) ((GoE.refl (P:=YP) (B:=B) (c0:=Qf3 g i left dJ0) (Qap (by kernel_rfl))).widen (Wf:=((([]):List (Nat×KS)).map (·.1))) (by simp) (Qak (by kernel_rfl))) (Qro B g i left dJ0)
         trivial) (ex:=[]) (by kernel_rfl) (Qb4 _)
       unfold gdB at hg;have s1:=Qdc (use:=g.use) (br:=g.br) (l:=g.ships) (left:=left) h0 q0;have s2:=QdA (use:=g.use) (br:=g.br) (l:=g.ships) (left:=left) h0 q0;simp only [q1,cond_true,cond_false,Int.add_zero] at s1 s2;rw [decide_eq_true q2,cond_true] at s1;exact (GoE.finK okF hJ Qab (Qap (by kernel_rfl)) (Qak (by kernel_rfl)) hg0 (Qrt B g i left dJ0)
        ⟨rj2,⟨(Qbe q2),hp1⟩⟩).cast (by (subst hr1;rw [s1];simp [h0];done)) (by rfl) (by rfl)
      ·unfold gdB at hg;have s1:=Qdc (use:=g.use) (br:=g.br) (l:=g.ships) (left:=left) h0 q0;have s2:=QdA (use:=g.use) (br:=g.br) (l:=g.ships) (left:=left) h0 q0;simp only [q1,cond_true,cond_false,Int.add_zero] at s1 s2;rw [decide_eq_false q2,cond_false] at s1;exact ((ih0 _ (by omega)) (i+1) (left+g.br - if g.use < left+g.br then g.use else left+g.br) r1 (by rw [<-hr1,s1]) rfl (by omega) (by omega) (by omega)
        (GoE.landA okF hJ Qab (Qap (by kernel_rfl)) (Qak (by kernel_rfl)) hg0 (Qqn B g i left dJ0)
        ⟨(QaQ (by omega) (by omega)),⟨(QaQ (by omega) (by omega)),⟨(Qbj (Int.not_lt.1 q2)),hp1⟩⟩⟩ (by kernel_rfl) (by kernel_rfl) (fun l hl=> by cases hl <;> decide))).cast (by (rw [s1,s2];done)) (by rfl) (by rfl)
    | false=>
      have hp2:Qa3 (QgZ B g i left dJ0):=by
       unfold gdB at hg;have s1:=Qdc (use:=g.use) (br:=g.br) (l:=g.ships) (left:=left) h0 q0;have s2:=QdA (use:=g.use) (br:=g.br) (l:=g.ships) (left:=left) h0 q0;simp only [q1,cond_true,cond_false,Int.add_zero] at s1 s2;exact ⟨⟨by first | omega | (split <;> omega),by first | omega | (split <;> omega),((Qag (z:=1) (fun _=> rfl) (by omega))).trans (by simp_all [Qel])⟩,hp0⟩
      by_cases q2:(left:Int) < g.use
      ·have rj2:FJ YP B (QfG g i left dJ0) (Qe7 g i left dJ0) 5 (OO.pan (Value.iface 183 (.int .i64 i))) (([]++((5,Qb2)::QaP (5+1) []))++Qe7 g i left dJ0) 6 (List.range 5) []:=by
        unfold gdB at hg;have s1:=Qdc (use:=g.use) (br:=g.br) (l:=g.ships) (left:=left) h0 q0;have s2:=QdA (use:=g.use) (br:=g.br) (l:=g.ships) (left:=left) h0 q0;simp only [q1,cond_true,cond_false,Int.add_zero] at s1 s2;rw [decide_eq_true q2,cond_true] at s1;exact FinK.fjB (GoE.finK okF hJ Qab (Qap (by kernel_rfl)) (Qak (by kernel_rfl)) ((GoE.refl (P:=YP) (B:=B) (c0:=QfG g i left dJ0) (Qap (by kernel_rfl))).widen (Wf:=((([]):List (Nat×KS)).map (·.1))) (by simp) (Qak (by kernel_rfl))) (QrU B g i left dJ0)
         trivial) (ex:=[]) (by kernel_rfl) (Qb4 _)
       unfold gdB at hg;have s1:=Qdc (use:=g.use) (br:=g.br) (l:=g.ships) (left:=left) h0 q0;have s2:=QdA (use:=g.use) (br:=g.br) (l:=g.ships) (left:=left) h0 q0;simp only [q1,cond_true,cond_false,Int.add_zero] at s1 s2;rw [decide_eq_true q2,cond_true] at s1;exact (GoE.finK okF hJ Qab (Qap (by kernel_rfl)) (Qak (by kernel_rfl)) hg0 (Qr9 B g i left dJ0)
        ⟨rj2,⟨(Qbe q2),hp2⟩⟩).cast (by (subst hr1;rw [s1];simp [h0];done)) (by rfl) (by rfl)
      ·unfold gdB at hg;have s1:=Qdc (use:=g.use) (br:=g.br) (l:=g.ships) (left:=left) h0 q0;have s2:=QdA (use:=g.use) (br:=g.br) (l:=g.ships) (left:=left) h0 q0;simp only [q1,cond_true,cond_false,Int.add_zero] at s1 s2;rw [decide_eq_false q2,cond_false] at s1;exact ((ih0 _ (by omega)) (i+1) (left - if g.use < left then g.use else left) r1 (by rw [<-hr1,s1]) rfl (by omega) (by omega) (by omega)
        (GoE.landA okF hJ Qab (Qap (by kernel_rfl)) (Qak (by kernel_rfl)) hg0 (Qsa B g i left dJ0)
        ⟨(QaQ (by omega) (by omega)),⟨(QaQ (by omega) (by omega)),⟨(Qbj (Int.not_lt.1 q2)),hp2⟩⟩⟩ (by kernel_rfl) (by kernel_rfl) (fun l hl=> by cases hl <;> decide))).cast (by (rw [s1,s2];done)) (by rfl) (by rfl)
   ·unfold gdB at hg;have s1:=Qv7 (use:=g.use) (br:=g.br) (l:=g.ships) (i:=i) (left:=left) (by omega);have s2:=Q08 (use:=g.use) (br:=g.br) (l:=g.ships) (i:=i) (left:=left) (by omega);exact (GoE.finK okF hJ Qab (Qap (by kernel_rfl)) (Qak (by kernel_rfl)) hg0 (Qs3 B g i left dJ0)
     ⟨(Qbj (Int.not_lt.1 q0)),trivial⟩).cast (by (subst hr1;rw [s1,s2];rfl)) (by rfl) (by rfl)

theorem QsB (B:Lo) (g:Gd):CE.landA 3 (Qal YP (Qa1 YP) J0 B 9 3 (QbR g) (QaV g) 3
 [] 0 [] []) [1,2,5,11,12,13] [] [(3,KS.auto)] []=some ⟨126,38,Qbt,[],.run,none,Qbs g (0) g.stock,([]:List Nat).zip (Qbu g (0) g.stock),QaM g (0) g.stock,
 []⟩:=by kernel_rfl
def QbS (g:Gd):Qau:=[(2,Obj.cells #[.int .i64 0] 3),(1,Obj.cells #[.int .i64 g.stock,.int .i64 g.use,.int .i64 g.br,Qa0 0 (slT g.ships.length (Qac Qel g.ships))] 129),(0,Obj.coro none)]
def Qc0 (g:Gd):CF:=⟨125,ofList 6 [.agg #[.int .i64 g.stock,.int .i64 g.use,.int .i64 g.br,Qa0 0 (slT g.ships.length (Qac Qel g.ships))],pA 1 0,pA 2 0,Value.func (Fn.func 148) #[] #[pA 2 0],.tuple #[],.tuple #[]],[Item.code (Code.seq (Code.region 2 #[{dst:=some 4,op:=Op.load 129 (Operand.tmp 1),type:=129,pos:= "goods.go:41",after:=#[],guard:=none},{dst:=some 5,op:=Op.call {callee:=Callee.value (Operand.func 126),args:=#[Operand.tmp 4,Operand.func 149],argTypes:=#[129,159]},type:=3,pos:= "goods.go:41",after:=#[{on:=0,ground:=Ground.data}],guard:=none}] false) (Code.seq (Code.region 3 #[{dst:=none,op:=Op.store 3 (Operand.tmp 2) (Operand.const (.int .i64 (-1))),type:=0,pos:= "goods.go:42",after:=#[],guard:=none}] false) Code.ret))],[],.run,none⟩
theorem Qrb (B:Lo) (g:Gd):CE.landU 3 (Qal YP (Qa1 YP) J0 B 2 3 (Qc0 g) (QbS g) 3
 [(1,Qai.call (List.range 3) (OO.pan (Value.iface 183 (.int .i64 (QaK g.use g.br (List.drop (Int.toNat 0) g.ships) 0 g.stock)))) ([]++(3,Qb2)::QaP 4 []) 4 [])] 0 [] []) [2] [] [] []=some (125,6,none,OO.pan (Value.iface 183 (.int .i64 (QaK g.use g.br (List.drop (Int.toNat 0) g.ships) 0 g.stock))),[pA 2 0],[],[],
 [FJ YP B (QbR g) (QaV g) 3 (OO.pan (Value.iface 183 (.int .i64 (QaK g.use g.br (List.drop (Int.toNat 0) g.ships) 0 g.stock)))) (([]++((3,Qb2)::QaP (3+1) []))++QaV g) 4 (List.range 3) []]):=by kernel_rfl
theorem Qq0 (B:Lo) (g:Gd):QaU (Q1w YP (Qa1 YP) J0 B 3 1 (Qaj YP 125 6 (([.agg (QbU g).toArray]).map (Qao 0 4))) H00 1
 (OO.pan (Value.iface 183 (.int .i64 (QaK g.use g.br (List.drop (Int.toNat 0) g.ships) 0 g.stock)))) (([2]:List Nat).zip [pA 2 0]) ([]++(3,Qb2)::QaP 4 []) 4 [] (.int .i64 (QaK g.use g.br (List.drop (Int.toNat 0) g.ships) 0 g.stock)) [2]) []=some (.int .i64 (QaK g.use g.br (List.drop (Int.toNat 0) g.ships) 0 g.stock),
 [UJ YP B (Qc0 g) (QbS g) 3 (OO.pan (Value.iface 183 (.int .i64 (QaK g.use g.br (List.drop (Int.toNat 0) g.ships) 0 g.stock)))) (([2]:List Nat).zip [pA 2 0]) (([]++((3,Qb2)::QaP (3+1) []))++QbS g) 4 (List.range 3) [],∀d:Nat->Value,Qze YP 125 ([(3,Obj.coro none),(2,Obj.cells #[.int .i64 (QaK g.use g.br (List.drop (Int.toNat 0) g.ships) 0 g.stock)] 3),(1,Obj.cells #[.int .i64 g.stock,.int .i64 g.use,.int .i64 g.br,Qa0 0 (slT g.ships.length (Qac Qel g.ships))] 129),(0,Obj.coro none)]) (mkT 6 (([2]:List Nat).zip [pA 2 0]) d)=some (.int .i64 (QaK g.use g.br (List.drop (Int.toNat 0) g.ships) 0 g.stock),[2])]):=by kernel_rfl
theorem QoY (B:Lo) (g:Gd):CE.landA 3 (Qal YP (Qa1 YP) J0 B 9 3 (QbR g) (QaV g) 3
 [] 0 [] []) [1,2,5,11,12,13] [] [(3,KS.auto)] []=some ⟨126,38,Qbt,[],.run,none,Qbs g (0) g.stock,([]:List Nat).zip (Qbu g (0) g.stock),QaM g (0) g.stock,
 []⟩:=by kernel_rfl
theorem Qpf (B:Lo) (g:Gd):CE.landU 3 (Qal YP (Qa1 YP) J0 B 5 3 (Qc0 g) (QbS g) 3
 [(1,Qai.call (List.range 3) (OO.ret (.int .i64 (QiW g.use g.br (List.drop (Int.toNat 0) g.ships) g.stock))) ([]++(3,Qb2)::QaP 4 []) 4 [])] 0 [] []) [2] [(2,KS.auto)] [] []=some (125,6,none,OO.ret (.tuple #[]),[pA 2 0],[(2,Obj.cells #[.int .i64 (-1)] 3)],[],
 [FJ YP B (QbR g) (QaV g) 3 (OO.ret (.int .i64 (QiW g.use g.br (List.drop (Int.toNat 0) g.ships) g.stock))) (([]++((3,Qb2)::QaP (3+1) []))++QaV g) 4 (List.range 3) []]):=by kernel_rfl
theorem QoP (B:Lo) (g:Gd):QaU (Q1w YP (Qa1 YP) J0 B 3 1 (Qaj YP 125 6 (([.agg (QbU g).toArray]).map (Qao 0 4))) H00 1
 (OO.ret (.tuple #[])) (([2]:List Nat).zip [pA 2 0]) ([(2,Obj.cells #[.int .i64 (-1)] 3)]++(3,Qb2)::QaP 4 []) 4 [2] (.int .i64 (-1)) [2]) []=some (.int .i64 (-1),
 [UJ YP B (Qc0 g) (QbS g) 3 (OO.ret (.tuple #[])) (([2]:List Nat).zip [pA 2 0]) (([(2,Obj.cells #[.int .i64 (-1)] 3)]++((3,Qb2)::QaP (3+1) []))++QbS g) 4 (List.range 3) [2],∀d:Nat->Value,Qze YP 125 ([(2,Obj.cells #[.int .i64 (-1)] 3),(3,Obj.coro none),(2,Obj.cells #[.int .i64 0] 3),(1,Obj.cells #[.int .i64 g.stock,.int .i64 g.use,.int .i64 g.br,Qa0 0 (slT g.ships.length (Qac Qel g.ships))] 129),(0,Obj.coro none)]) (mkT 6 (([2]:List Nat).zip [pA 2 0]) d)=some (.int .i64 (-1),[2])]):=by kernel_rfl
set_option maxHeartbeats 4000000 in
theorem QsS (g:Gd) (hg:gdB g) {B:Lo} (hJ:∀w,B.has w->J0 w):EndsT YP B (Qaj YP 125 6 (([.agg (QbU g).toArray]).map (Qao 0 4))) (.int .i64 (QaK g.use g.br g.ships 0 g.stock)):=by
 cases q0:decide (0<=QaK g.use g.br (List.drop (Int.toNat 0) g.ships) 0 g.stock) with
 | true=>
   have rj1:FJ YP B (QbR g) (QaV g) 3 (OO.pan (Value.iface 183 (.int .i64 (QaK g.use g.br (List.drop (Int.toNat 0) g.ships) 0 g.stock)))) (([]++((3,Qb2)::QaP (3+1) []))++QaV g) 4 (List.range 3) []:=by
    unfold gdB at hg;exact FinK.fjB ((Qhe g hg hJ _) (0) g.stock true q0 rfl (by omega) (by omega) (by omega)
     (GoE.landA okF hJ Qab (Qap (by kernel_rfl)) (Qak (by kernel_rfl)) ((GoE.refl (P:=YP) (B:=B) (c0:=QbR g) (Qap (by kernel_rfl))).widen (Wf:=((([]):List (Nat×KS)).map (·.1))) (by simp) (Qak (by kernel_rfl))) (QsB B g)
     trivial (by kernel_rfl) (by kernel_rfl) (fun l hl=> by cases hl <;> decide))) (ex:=[]) (by kernel_rfl) (Qb4 _)
   have rj0:UJ YP B (Qc0 g) (QbS g) 3 (OO.pan (Value.iface 183 (.int .i64 (QaK g.use g.br (List.drop (Int.toNat 0) g.ships) 0 g.stock)))) (([2]:List Nat).zip [pA 2 0]) (([]++((3,Qb2)::QaP (3+1) []))++QbS g) 4 (List.range 3) []:=by
    unfold gdB at hg;exact FinU.ujB (GoE.landU okF hJ Qab (Qap (by kernel_rfl)) (Qak (by kernel_rfl)) ((GoE.refl (P:=YP) (B:=B) (c0:=Qc0 g) (Qap (by kernel_rfl))).widen (Wf:=((([]):List (Nat×KS)).map (·.1))) (by simp) (Qak (by kernel_rfl))) (Qrb B g)
     (by exact ⟨rj1,trivial⟩) (by kernel_rfl) rfl) (ex:=[]) (by kernel_rfl) (Qb4 _)
   unfold gdB at hg;exact (GoE.endsD okF hJ Qab GoE.start (Qq0 B g)
    (by exact ⟨rj0,⟨(fun d=> by kernel_rfl),trivial⟩⟩)).cast (by rfl)
 | false=>
   have rj1:FJ YP B (QbR g) (QaV g) 3 (OO.ret (.int .i64 (QiW g.use g.br (List.drop (Int.toNat 0) g.ships) g.stock))) (([]++((3,Qb2)::QaP (3+1) []))++QaV g) 4 (List.range 3) []:=by
    unfold gdB at hg;exact FinK.fjB ((Qhe g hg hJ _) (0) g.stock false q0 rfl (by omega) (by omega) (by omega)
     (GoE.landA okF hJ Qab (Qap (by kernel_rfl)) (Qak (by kernel_rfl)) ((GoE.refl (P:=YP) (B:=B) (c0:=QbR g) (Qap (by kernel_rfl))).widen (Wf:=((([]):List (Nat×KS)).map (·.1))) (by simp) (Qak (by kernel_rfl))) (QoY B g)
     trivial (by kernel_rfl) (by kernel_rfl) (fun l hl=> by cases hl <;> decide))) (ex:=[]) (by kernel_rfl) (Qb4 _)
   have rj0:UJ YP B (Qc0 g) (QbS g) 3 (OO.ret (.tuple #[])) (([2]:List Nat).zip [pA 2 0]) (([(2,Obj.cells #[.int .i64 (-1)] 3)]++((3,Qb2)::QaP (3+1) []))++QbS g) 4 (List.range 3) [2]:=by
    unfold gdB at hg;exact FinU.ujB (GoE.landU okF hJ Qab (Qap (by kernel_rfl)) (Qak (by kernel_rfl)) ((GoE.refl (P:=YP) (B:=B) (c0:=Qc0 g) (Qap (by kernel_rfl))).widen (Wf:=((([(2,KS.auto)]):List (Nat×KS)).map (·.1))) (by simp) (Qak (by kernel_rfl))) (Qpf B g)
     (by exact ⟨rj1,trivial⟩) (by kernel_rfl) rfl) (ex:=[]) (by kernel_rfl) (Qb4 _)
   unfold gdB at hg;exact (GoE.endsD okF hJ Qab GoE.start (QoP B g)
    (by exact ⟨rj0,⟨(fun d=> by kernel_rfl),trivial⟩⟩)).cast (by (rcases QfY (use:=g.use) (br:=g.br) g.ships 0 g.stock (by omega) with h | h <;> simp_all;done))
theorem Qsm (g:Gd) (hg:gdB g):Qam YP J0 125 #[.agg (QbU g).toArray] (.int .i64 (QaK g.use g.br g.ships 0 g.stock)):=
 QaG (ts:=[.agg (QbU g).toArray]) Qb1 (c0:=Qaj YP 125 6 (([.agg (QbU g).toArray]).map (Qao 0 4))) (by kernel_rfl) (by kernel_rfl) fun B hJ=> QsS g hg hJ
def Qir (B:Lo) (g:Gd):List Prop:=[Qa3 []/\Qam YP J0 125 #[.agg #[.int .i64 g.stock,.int .i64 g.use,.int .i64 g.br,slT g.ships.length (Qac Qel g.ships)]] (.int .i64 (QaK g.use g.br g.ships 0 g.stock))]++([]:List Prop)
def Qmi (g:Gd):Qas:=[(3,Qai.pure (.int .i64 (QaK g.use g.br g.ships 0 g.stock)) [])]
theorem Qt3 (B:Lo) (g:Gd):QaU (Qal YP (Qa1 YP) J0 B 6 1 (Qaj YP 133 6 (([.agg (QbU g).toArray]).map (Qao 0 4))) H00 1
 (Qmi g++[(4,hvT)]) 0 [] []) []=some (.bool true,
 [eqq (QaK g.use g.br g.ships 0 g.stock) (-1)=true]++Qir B g):=by kernel_rfl
theorem QtT (B:Lo) (g:Gd):QaU (Qal YP (Qa1 YP) J0 B 6 1 (Qaj YP 133 6 (([.agg (QbU g).toArray]).map (Qao 0 4))) H00 1
 (Qmi g++[(4,hvF)]) 0 [] []) []=some (.bool false,
 [eqq (QaK g.use g.br g.ships 0 g.stock) (-1)=false]++Qir B g):=by kernel_rfl
set_option maxHeartbeats 4000000 in
theorem Qwc (g:Gd) (hg:gdB g) {B:Lo} (hJ:∀w,B.has w->J0 w):EndsT YP B (Qaj YP 133 6 (([.agg (QbU g).toArray]).map (Qao 0 4))) (.bool (decide (QaK g.use g.br g.ships 0 g.stock= -1))):=by
 have hp0:Qa3 (Qir B g):=by
  exact ⟨⟨trivial,Qsm (g) (by with_reducible assumption)⟩,trivial⟩
 by_cases q0:(QaK g.use g.br g.ships 0 g.stock:Int)=(-1)
 ·exact (GoE.endsT okF hJ Qab GoE.start (Qt3 B g)
   ⟨(Qmk q0),hp0⟩).cast (by (simp [*];done))
 ·exact (GoE.endsT okF hJ Qab GoE.start (QtT B g)
   ⟨(Qlu q0),hp0⟩).cast (by (simp [*];done))
theorem Q3K (g:Gd) (hg:gdB g):Qam YP J0 133 #[.agg (QbU g).toArray] (.bool (decide (QaK g.use g.br g.ships 0 g.stock= -1))):=
 QaG (ts:=[.agg (QbU g).toArray]) Qb1 (c0:=Qaj YP 133 6 (([.agg (QbU g).toArray]).map (Qao 0 4))) (by kernel_rfl) (by kernel_rfl) fun B hJ=> Qwc g hg hJ

end
end Go.Proofs.YtiabgkiccaodmaaGreat

namespace Go.Proofs.YtiabgkiccaodmaaGreat
open Go Go.CE Go.RowKit
set_option maxRecDepth 100000
def QpV (s n:Int):Int:=((orN s ((QuL n:Nat):Int):Nat):Int)
def Qlg (s n:Int):Bool:=decide (((Q2v ((QsN s n:Nat):Int) 1:Nat):Int)=1)
theorem Qpq {s n:Int}:Qlg s n=s.toNat.testBit n.toNat:=by
 unfold Qlg Q2v QsN;rw [Int.toNat_natCast,show (1:Int).toNat=1 from rfl,Nat.and_one_is_mod,Nat.shiftRight_eq_div_pow,Nat.testBit_eq_decide_div_mod_eq];exact decide_eq_decide.2 (by omega)
def QbL:List Int->Int->Int
 | [],s=> s
 | n::l,s=> QbL l (QpV s n)
theorem Qyn {s n:Int} {k:Nat} (h0:0<=s) (h:s < 2 ^ k) (hn:n.toNat < k):QpV s n < 2 ^ k:=by
 obtain ⟨b,rfl⟩:∃b:Nat,s=b:=⟨s.toNat,by omega⟩
 have e:(2:Int) ^ k=((2 ^ k:Nat):Int):=by rw [Int.natCast_pow];rfl
 rw [e] at h ⊢;have h':b < 2 ^ k:=by exact_mod_cast h
 have:b ||| 2 ^ n.toNat < 2 ^ k:=Nat.or_lt_two_pow h' (Nat.pow_lt_pow_right (by decide) hn)
 unfold QpV orN QuL;rw [Int.toNat_natCast,Int.toNat_natCast];exact_mod_cast this
theorem QxW {l:List Int} {i s:Int} (h0:0<=i) (h:i < l.length):QbL (l.drop i.toNat) s=QbL (l.drop (i+1).toNat) (QpV s (l.getD i.toNat default)):=by
 obtain ⟨k,rfl⟩:∃k:Nat,i=k:=⟨i.toNat,by omega⟩
 have hk:k < l.length:=by omega
 have e1:((k:Int)).toNat=k:=by omega
 have e2:((k:Int)+1).toNat=k+1:=by omega
 rw [e1,e2,List.drop_eq_getElem_cons hk];simp [QbL,List.getD_eq_getElem?_getD,hk]
theorem Q1Q {l:List Int} {i s:Int} (h:l.length<=i):QbL (l.drop i.toNat) s=s:=by
 rw [List.drop_eq_nil_of_le (by omega)];rfl
theorem Q3h (B:Lo) (s n:Int):QaU (Qal YP (Qa1 YP) J0 B 6 1 (Qaj YP 146 9 (([.int .i64 s,.int .i64 n]).map (Qao 0 4))) H00 1
 [(3,Qai.bin (.int .i64 (↑(QuL n):Int))),(4,Qai.bin (.int .i64 (↑(orN s (↑(QuL n):Int)):Int)))] 0 [] []) []=some (.int .i64 (↑(orN s (↑(QuL n):Int)):Int),
 [QlY YP BinOp.or 120 (Qch {len:=16000,tr:=Tri.set 14 (Tri.set 14 Tri.lf 7 (.int .i64 (↑(QuL n):Int))) 5 (.int .i64 s)} 5) (Qch {len:=16000,tr:=Tri.set 14 (Tri.set 14 Tri.lf 7 (.int .i64 (↑(QuL n):Int))) 5 (.int .i64 s)} 7) (.int .i64 (↑(orN s (↑(QuL n):Int)):Int)),QlY YP BinOp.shl 120 (.int .i64 1) (Qch {len:=16000,tr:=Tri.set 14 Tri.lf 6 (.int .i64 n)} 6) (.int .i64 (↑(QuL n):Int))]):=by kernel_rfl
set_option maxHeartbeats 4000000 in
theorem Q4x (s n:Int) (hn:0<=n/\n<=61) (hs:0<=s/\s<=4611686018427387904) {B:Lo} (hJ:∀w,B.has w->J0 w):EndsT YP B (Qaj YP 146 9 (([.int .i64 s,.int .i64 n]).map (Qao 0 4))) (.int .i64 (QpV s n)):=by
 have e1:=Q5r (n:=n) (by omega);exact (GoE.endsT okF hJ Qab GoE.start (Q3h B s n)
  ⟨(Q5O (by omega) (by omega) (by omega) (by omega)),⟨(Q2H (by omega) (by omega)),trivial⟩⟩).cast (by rfl)
theorem Q73 (s n:Int) (hn:0<=n/\n<=61) (hs:0<=s/\s<=4611686018427387904):Qam YP J0 146 #[.int .i64 s,.int .i64 n] (.int .i64 (QpV s n)):=
 QaG (ts:=[.int .i64 s,.int .i64 n]) Qb1 (c0:=Qaj YP 146 9 (([.int .i64 s,.int .i64 n]).map (Qao 0 4))) (by kernel_rfl) (by kernel_rfl) fun B hJ=> Q4x s n hn hs hJ
noncomputable def Qua (B:Lo) (s n:Int):List Prop:=[QlY YP BinOp.and 120 (Qch {len:=16000,tr:=Tri.set 14 Tri.lf 7 (.int .i64 (↑(QsN s n):Int))} 7) (.int .i64 1) (.int .i64 (↑(Q2v (↑(QsN s n):Int) 1):Int)),QlY YP BinOp.shr 120 (Qch {len:=16000,tr:=Tri.set 14 (Tri.set 14 Tri.lf 6 (.int .i64 n)) 5 (.int .i64 s)} 5) (Qch {len:=16000,tr:=Tri.set 14 (Tri.set 14 Tri.lf 6 (.int .i64 n)) 5 (.int .i64 s)} 6) (.int .i64 (↑(QsN s n):Int))]++([]:List Prop)
noncomputable def QyO (s n:Int):Qas:=[(3,Qai.bin (.int .i64 (↑(QsN s n):Int))),(4,Qai.bin (.int .i64 (↑(Q2v (↑(QsN s n):Int) 1):Int)))]
theorem Q54 (B:Lo) (s n:Int):QaU (Qal YP (Qa1 YP) J0 B 6 1 (Qaj YP 159 10 (([.int .i64 s,.int .i64 n]).map (Qao 0 4))) H00 1
 (QyO s n++[(5,hvT)]) 0 [] []) []=some (.bool true,
 [eqq (↑(Q2v (↑(QsN s n):Int) 1):Int) 1=true]++Qua B s n):=by kernel_rfl
theorem Q4q (B:Lo) (s n:Int):QaU (Qal YP (Qa1 YP) J0 B 6 1 (Qaj YP 159 10 (([.int .i64 s,.int .i64 n]).map (Qao 0 4))) H00 1
 (QyO s n++[(5,hvF)]) 0 [] []) []=some (.bool false,
 [eqq (↑(Q2v (↑(QsN s n):Int) 1):Int) 1=false]++Qua B s n):=by kernel_rfl
set_option maxHeartbeats 4000000 in
theorem Q6D (s n:Int) (hn:0<=n/\n<=61) (hs:0<=s/\s<=4611686018427387904) {B:Lo} (hJ:∀w,B.has w->J0 w):EndsT YP B (Qaj YP 159 10 (([.int .i64 s,.int .i64 n]).map (Qao 0 4))) (.bool (Qlg s n)):=by
 have e1:QsN s n<=s.toNat:=Q5q;have hp0:Qa3 (Qua B s n):=by
  exact ⟨(Q4o (by omega) (by omega) (by omega) (by omega)),⟨(Q4O (by omega) (by omega) (by omega)),trivial⟩⟩
 by_cases q0:((↑(Q2v (↑(QsN s n):Int) 1):Int):Int)=(1)
 ·exact (GoE.endsT okF hJ Qab GoE.start (Q54 B s n)
   ⟨(Qmk q0),hp0⟩).cast (by (simp [Qlg, *];done))
 ·exact (GoE.endsT okF hJ Qab GoE.start (Q4q B s n)
   ⟨(Qlu q0),hp0⟩).cast (by (simp [Qlg, *];done))
theorem Q3R (s n:Int) (hn:0<=n/\n<=61) (hs:0<=s/\s<=4611686018427387904):Qam YP J0 159 #[.int .i64 s,.int .i64 n] (.bool (Qlg s n)):=
 QaG (ts:=[.int .i64 s,.int .i64 n]) Qb1 (c0:=Qaj YP 159 10 (([.int .i64 s,.int .i64 n]).map (Qao 0 4))) (by kernel_rfl) (by kernel_rfl) fun B hJ=> Q6D s n hn hs hJ
def Qrv (xs:List Int) (i s:Int):List Value:=[.int .i64 s,Qa0 1 (slT xs.length (Qac Qat xs)),.int .i64 (↑xs.length:Int),.int .i64 i]
def QkE (xs:List Int) (i s:Int):List Obj:=[]
noncomputable def QrS:List Item:=([.code [1,1,0,1,0,0],.inLoop [1,1,0,1,0,0],.inBlock 0,.code [1,1,1]]).map (it (Qaq YP 116))
def Q63 (B:Lo) (c0:CF) (xs:List Int) (i s:Int):Prop:=∃dJ:Nat->Value,(∀t,Qbd (dJ t))/\GoE YP B c0 H00 1 (Qa8 116 17 (([3,6,7,8]:List Nat).zip (Qrv xs i s)) dJ QrS) (Qa6 (QkE xs i s)) (2+(QkE xs i s).length) []
theorem Q5V (B:Lo) (xs:List Int) (i s:Int) (dJ0:Nat->Value):landM (Qal YP (Qa1 YP) J0 B 13 1 (Qa8 116 17 (([3,6,7,8]:List Nat).zip (Qrv xs i s)) dJ0 QrS) (Qa6 (QkE xs i s)) (2+(QkE xs i s).length)
 [(0,hvT),(1,Qai.tidx i.toNat #[.int .i64 (xs.getD i.toNat default)]),(6,Qai.pure (.int .i64 (QpV s (xs.getD i.toNat default))) []),(8,hvI (i+1))] 0 [] []) [3,6,7,8] [] []=some ⟨116,17,QrS,[],.run,none,Qrv xs (i+1) (QpV s (xs.getD i.toNat default)),QkE xs (i+1) (QpV s (xs.getD i.toNat default)),
 [wq (i+1)=i+1,Qa3 []/\Qam YP J0 146 #[.int .i64 s,.int .i64 (xs.getD i.toNat default)] (.int .i64 (QpV s (xs.getD i.toNat default))),i=(↑i.toNat:Int)/\Int.toNat i < List.length xs/\Array.extract (Qac Qat xs) (Int.toNat i * TypeInfo.size Tryz.t3) (Int.toNat i * TypeInfo.size Tryz.t3+TypeInfo.size Tryz.t3)=#[.int .i64 (xs.getD i.toNat default)],ltq i (↑xs.length:Int)=true]⟩:=by kernel_rfl
theorem Q60 (B:Lo) (xs:List Int) (i s:Int) (dJ0:Nat->Value):QaU (Qal YP (Qa1 YP) J0 B 9 1 (Qa8 116 17 (([3,6,7,8]:List Nat).zip (Qrv xs i s)) dJ0 QrS) (Qa6 (QkE xs i s)) (2+(QkE xs i s).length)
 [(0,hvF)] 0 [] []) []=some (.int .i64 s,
 [ltq i (↑xs.length:Int)=false]):=by kernel_rfl
theorem Q5W (B:Lo) (xs:List Int):landM (Qal YP (Qa1 YP) J0 B 9 1 (Qaj YP 116 17 (([slI xs]).map (Qao 0 4))) H00 1
 [] 0 [] []) [3,6,7,8] [] []=some ⟨116,17,QrS,[],.run,none,Qrv xs (0) (0),QkE xs (0) (0),
 []⟩:=by kernel_rfl
set_option maxHeartbeats 4000000 in
theorem Q6U (xs:List Int) (hx:∀x∈xs,0<=x/\x<=61) (hfacts:xs.length<=9223372036854775807) {B:Lo} (hJ:∀w,B.has w->J0 w) {c0:CF}:∀m:Nat,(∀(i s:Int),(xs.length - i.toNat)=m->∀(h0:0<=i) (h1:0<=s) (h2:s < 4611686018427387904),Q63 B c0 xs i s->EndsT YP B c0 (.int .i64 (QbL (xs.drop i.toNat) s))):=by
 intro m0;induction m0 using Nat.strongRecOn with
 | _ m0 ih0=>
   intro i s hm0 h0 h1 h2 ⟨dJ0,hdJ0,hg0⟩;by_cases q0:(i:Int) < ((↑xs.length:Int))
   ·have s2:=QxW (l:=xs) (s:=s) h0 q0;have hm:=hx (xs.getD i.toNat default) (by rw [List.getD_eq_getElem?_getD,List.getElem?_eq_getElem (by omega)];exact List.getElem_mem _);have hw:=Qyn (s:=s) (n:=xs.getD i.toNat default) (k:=62) h1 (by omega) (by omega);have hw0:0<=QpV s (xs.getD i.toNat default):=Int.natCast_nonneg _;exact ((ih0 _ (by omega)) (i+1) (QpV s (xs.getD i.toNat default)) rfl (by omega) (by with_reducible assumption) (by omega)
     (hg0.landM okF hJ Qab (Q5V B xs i s dJ0)
     ⟨(QaQ (by omega) (by omega)),⟨⟨trivial,Q73 (s) (xs.getD i.toNat default) (by with_reducible assumption) (by omega)⟩,⟨⟨by omega,by omega,(Qag (z:=1) (fun _=> rfl) (by omega))⟩,⟨(Qbe q0),trivial⟩⟩⟩⟩ (by kernel_rfl) (by kernel_rfl))).cast (by (rw [s2];done))
   ·have s2:=Q1Q (l:=xs) (i:=i) (s:=s) (by omega);have hw0:0<=QpV s (xs.getD i.toNat default):=Int.natCast_nonneg _;exact (GoE.endsT okF hJ Qab hg0 (Q60 B xs i s dJ0)
     ⟨(Qbj (Int.not_lt.1 q0)),trivial⟩).cast (by (rw [s2];done))
set_option maxHeartbeats 4000000 in
theorem Q71 (xs:List Int) (hx:∀x∈xs,0<=x/\x<=61) (hfacts:xs.length<=9223372036854775807) {B:Lo} (hJ:∀w,B.has w->J0 w):EndsT YP B (Qaj YP 116 17 (([slI xs]).map (Qao 0 4))) (.int .i64 (QbL xs 0)):=by
 exact ((Q6U xs hx hfacts hJ _) (0) (0) rfl (by omega) (by omega) (by omega)
  (GoE.start.landM okF hJ Qab (Q5W B xs)
  trivial (by kernel_rfl) (by kernel_rfl))).cast (by rfl)
theorem pOf (xs:List Int) (hx:∀x∈xs,0<=x/\x<=61):Qam YP J0 116 #[slI xs] (.int .i64 (QbL xs 0)):=
 Qct (ts:=[slI xs]) (xs.length<=9223372036854775807) (fun _ _ ht=> ht.ln (i:=0) rfl) Qb1 (c0:=Qaj YP 116 17 (([slI xs]).map (Qao 0 4))) (by kernel_rfl) (by kernel_rfl) fun hfacts B hJ=> Q71 xs hx hfacts hJ
end Go.Proofs.YtiabgkiccaodmaaGreat

namespace Go.Proofs.YtiabgkiccaodmaaGreat
open Go Go.CE Go.RowKit
noncomputable section
set_option maxRecDepth 100000
def Qcz (s:Int):Int:=if s=0 then 0 else ((s.toNat.log2+1:Nat):Int)
theorem Q41:(List.range 64).all (fun x=> QrZ (Qnn YP (Qa1 YP) Qb9 10000 158 #[.int .u64 (x:Nat)] (QfE 0 []) ([]:List (Array Value×TypeId)).length) (.int .i64 (Qcz (x:Nat))) [])=true:=by decide+kernel
theorem Q6Y (s:Int) (h0:0<=s) (h1:s < 64):Qam YP J0 158 #[.int .u64 s] (.int .i64 (Qcz s)):=by
 obtain ⟨k,rfl⟩:∃k:Nat,s=k:=⟨s.toNat,by omega⟩
 exact Qqq okF Qab (fuel:=10000) (by kernel_rfl) (by kernel_rfl) (by kernel_rfl) (List.all_eq_true.1 Q41 k (List.mem_range.2 (by omega)))
theorem Q2P:(List.range 64).all (fun x=> decide (0<=Qcz (x:Nat)) && decide (Qcz (x:Nat)<=6))=true:=by decide+kernel
theorem QfM {s:Int} (h0:0<=s) (h1:s < 64):0<=Qcz s/\Qcz s<=6:=by
 obtain ⟨k,rfl⟩:∃k:Nat,s=k:=⟨s.toNat,by omega⟩
 have:=List.all_eq_true.1 Q2P k (List.mem_range.2 (by omega));simpa using this
def Qa2 {α:Type} [Inhabited α] (s:Int) (xs:List α) (n:Int):List α:=((upI n (Qcz s)).filter (Qlg s)).map fun k=> xs.getD k.toNat default
theorem Qf2 {α:Type} [Inhabited α] {s n:Int} {xs:List α} (h:n < Qcz s) (hb:Qlg s n=true):Qa2 s xs n=[xs.getD n.toNat default]++Qa2 s xs (n+1):=by
 unfold Qa2;rw [QdW h,List.filter_cons_of_pos hb];rfl
theorem Qjs {α:Type} [Inhabited α] {s n:Int} {xs:List α} (h:n < Qcz s) (hb:Qlg s n=false):Qa2 s xs n=Qa2 s xs (n+1):=by
 unfold Qa2;rw [QdW h,List.filter_cons_of_neg (by rw [hb];decide)]
theorem Qjp {α:Type} [Inhabited α] {s n:Int} {xs:List α} (h:Qcz s<=n):Qa2 s xs n=[]:=by
 unfold Qa2;rw [QgG h];rfl
theorem Q2C {α:Type} {acc:List α} (h:acc≠[]):acc.isEmpty=false:=by
 cases acc with
 | nil=> exact absurd rfl h
 | cons x l=> rfl
theorem Q69 {α:Type} {l:List α} (h:(!([]++l).isEmpty)=false):l=[]:=by
 cases l with
 | nil=> rfl
 | cons x l=> cases h
structure Qae where
 goods:List Span
 weight:Int
 cost:Int
deriving Inhabited
def Qan (l:Qae):List Value:=[Qqh l.goods,.int .i64 l.weight,.int .i64 l.cost]
abbrev Row:=List Int
def Qaw (l:Row):List Value:=[slI l]

def Qh5 (s:Int) (xs:List (Qae)):Qau:=[(2,Obj.cells #[.slice none 0 0] 60),(1,Obj.cells #[Qa0 0 (slT xs.length (Qac Qan xs))] 60),(0,Obj.coro none)]
def Qjt (s:Int) (xs:List (Qae)):CF:=⟨147,ofList 4 [.int .i64 s],[Item.code (Qaq YP 147)],[],.run,none⟩
def QeJ (s:Int) (xs:List (Qae)):Array Value:=#[.int .i64 s,Qa0 0 (slT xs.length (Qac Qan xs)),.tuple #[],pA 1 0,.slice none 0 0,pA 2 0,.tuple #[],.int .i64 s,Value.func (Fn.func 157) #[] #[Qa0 3 (ptT 0 #[.int .i64 s])],.tuple #[],.tuple #[],.tuple #[],.tuple #[],.tuple #[],.tuple #[],.tuple #[],.tuple #[],.tuple #[]]
def Qfm (xs:List (Qae)) (n:Int):Array Value:=#[Qa0 0 (slT (List.length (Qae.goods (xs.getD n.toNat default))) (Qac Qa9 (Qae.goods (xs.getD n.toNat default)))),.int .i64 (Qae.weight (xs.getD n.toNat default)),.int .i64 (Qae.cost (xs.getD n.toNat default))]
def Qjc (xs:List (Qae)) (n:Int):Array Value:=#[slT (List.length (Qae.goods (xs.getD n.toNat default))) (Qac Qa9 (Qae.goods (xs.getD n.toNat default))),.int .i64 (Qae.weight (xs.getD n.toNat default)),.int .i64 (Qae.cost (xs.getD n.toNat default))]
theorem Q1b (B:Lo) (s:Int) (xs:List (Qae)):CE.finK 3 (Qal YP (Qa1 YP) J0 B 6 3 (Qjt s xs) (Qh5 s xs) 3
 [] 0 [] []) [] [] [{k:=3,rs:=[],cs:=#[.int .i64 s]}]=some (OO.ret (Value.func (Fn.func 157) #[] #[Qa0 3 (ptT 0 #[.int .i64 s])]),[],[],
 [Qb6 (Fz.rs {k:=3,rs:=[],cs:=#[.int .i64 s]}) #[.int .i64 s] (Fz.cs {k:=3,rs:=[],cs:=#[.int .i64 s]})]):=by kernel_rfl
def QlF (B:Lo) (s:Int) (xs:List (Qae)):List Prop:=[FJ YP B (Qjt s xs) (Qh5 s xs) 3 (OO.ret (Value.func (Fn.func 157) #[] #[Qa0 3 (ptT 0 #[.int .i64 s])])) (([]++((3,Qb2)::QaP (3+1) []))++Qh5 s xs) 4 (List.range 3) []]++([]:List Prop)
def QrE (s:Int) (xs:List (Qae)):Qas:=[(4,Qai.call (List.range 3) (OO.ret (Value.func (Fn.func 157) #[] #[Qa0 3 (ptT 0 #[.int .i64 s])])) ([]++(3,Qb2)::QaP 4 []) 4 [])]
def Qbr (s:Int) (xs:List (Qae)):Qau:=[(5,Obj.loop {state:=LoopState.ready,pending:=none,fn:=139,tmps:=#[.int .i64 s,Qa0 0 (slT xs.length (Qac Qan xs)),.tuple #[],pA 1 0,.slice none 0 0,pA 2 0,.tuple #[],.int .i64 s,Value.func (Fn.func 157) #[] #[Qa0 3 (ptT 0 #[.int .i64 s])],.tuple #[],.tuple #[],.tuple #[],.tuple #[],.tuple #[],.tuple #[],.tuple #[],.tuple #[],.tuple #[]],params:=#[9],assign:=nav (Qaq YP 139) [1,1,0,1,0,0],body:=nav (Qaq YP 139) [1,1,0,1,0,1],defers:=4}),(4,Obj.deferred (some [])),(3,Obj.coro none),(2,Obj.cells #[.slice none 0 0] 60),(1,Obj.cells #[Qa0 0 (slT xs.length (Qac Qan xs))] 60),(0,Obj.coro none)]
def QcC (s:Int) (xs:List (Qae)):CF:=⟨157,ofList 20 [Value.func (Fn.yield 5) #[] #[],Qa0 3 (ptT 0 #[.int .i64 s])],[Item.code (Qaq YP 157)],[],.run,none⟩
def QcQ (s:Int) (xs:List (Qae)) (n:Int):List Value:=[Value.func (Fn.yield 5) #[] #[],Qa0 3 (ptT 0 #[.int .i64 s]),.int .i64 (Qcz s),.int .i64 n]
def Qdh (s:Int) (xs:List (Qae)) (n:Int):List Obj:=[Obj.loop {state:=LoopState.ready,pending:=none,fn:=139,tmps:=#[.int .i64 s,Qa0 0 (slT xs.length (Qac Qan xs)),.tuple #[],pA 1 0,.slice none 0 0,pA 2 0,.tuple #[],.int .i64 s,Value.func (Fn.func 157) #[] #[Qa0 3 (ptT 0 #[.int .i64 s])],.tuple #[],.tuple #[],.tuple #[],.tuple #[],.tuple #[],.tuple #[],.tuple #[],.tuple #[],.tuple #[]],params:=#[9],assign:=nav (Qaq YP 139) [1,1,0,1,0,0],body:=nav (Qaq YP 139) [1,1,0,1,0,1],defers:=4},.cells #[.slice none 0 0] 60 (0,0)]
def QbD (s:Int) (xs:List (Qae)) (n:Int):List Obj:=[]
def Qda:List Item:=([.code [1,0,0],.inLoop [1,0,0],.inBlock 0]).map (it (Qaq YP 157))
def QcX (s:Int) (xs:List (Qae)) (n:Int) (acc:List Qae) (acc_n:Nat):List Value:=[Value.func (Fn.yield 5) #[] #[],Qa0 3 (ptT 0 #[.int .i64 s]),.int .i64 (Qcz s),.int .i64 n]
def QcT (s:Int) (xs:List (Qae)) (n:Int) (acc:List Qae) (acc_n:Nat):List Obj:=[Obj.loop {state:=LoopState.ready,pending:=none,fn:=139,tmps:=#[.int .i64 s,Qa0 0 (slT xs.length (Qac Qan xs)),.tuple #[],pA 1 0,.slice none 0 0,pA 2 0,.tuple #[],.int .i64 s,Value.func (Fn.func 157) #[] #[Qa0 3 (ptT 0 #[.int .i64 s])],.tuple #[],.tuple #[],.tuple #[],.tuple #[],.tuple #[],.tuple #[],.tuple #[],.tuple #[],.tuple #[]],params:=#[9],assign:=nav (Qaq YP 139) [1,1,0,1,0,0],body:=nav (Qaq YP 139) [1,1,0,1,0,1],defers:=4},.cells #[.slice (some ⟨7,0,none⟩) acc_n 3] 60 (0,0)]
def QbG (s:Int) (xs:List (Qae)) (n:Int) (acc:List Qae) (acc_n:Nat):List Obj:=[Obj.cells (Qac (QaB 0 Qan) acc) 118 (0,0)]
def QcW:List Item:=([.code [1,0,0],.inLoop [1,0,0],.inBlock 0]).map (it (Qaq YP 157))
def Qni (B:Lo) (s:Int) (xs:List (Qae)) (n:Int) (dJ0:Nat->Value):List Prop:=[ltq n (Qcz s)=true]++([]:List Prop)
def Qqo (s:Int) (xs:List (Qae)) (n:Int) (dJ0:Nat->Value):Qas:=[(0,hvT)]
def Qho (s:Int) (xs:List (Qae)) (n:Int) (dJ0:Nat->Value):Qau:=[(5,Obj.loop {state:=LoopState.ready,pending:=none,fn:=139,tmps:=#[.int .i64 s,Qa0 0 (slT xs.length (Qac Qan xs)),.tuple #[],pA 1 0,.slice none 0 0,pA 2 0,.tuple #[],.int .i64 s,Value.func (Fn.func 157) #[] #[Qa0 3 (ptT 0 #[.int .i64 s])],.tuple #[],.tuple #[],.tuple #[],.tuple #[],.tuple #[],.tuple #[],.tuple #[],.tuple #[],.tuple #[]],params:=#[9],assign:=nav (Qaq YP 139) [1,1,0,1,0,0],body:=nav (Qaq YP 139) [1,1,0,1,0,1],defers:=4}),(2,Obj.cells #[.slice none 0 0] 60),(6,Obj.coro none),(5,Obj.loop {state:=LoopState.ready,pending:=none,fn:=139,tmps:=#[.int .i64 s,Qa0 0 (slT xs.length (Qac Qan xs)),.tuple #[],pA 1 0,.slice none 0 0,pA 2 0,.tuple #[],.int .i64 s,Value.func (Fn.func 157) #[] #[Qa0 3 (ptT 0 #[.int .i64 s])],.tuple #[],.tuple #[],.tuple #[],.tuple #[],.tuple #[],.tuple #[],.tuple #[],.tuple #[],.tuple #[]],params:=#[9],assign:=nav (Qaq YP 139) [1,1,0,1,0,0],body:=nav (Qaq YP 139) [1,1,0,1,0,1],defers:=4}),(4,Obj.deferred (some [])),(3,Obj.coro none),(2,Obj.cells #[.slice none 0 0] 60),(1,Obj.cells #[Qa0 0 (slT xs.length (Qac Qan xs))] 60),(0,Obj.coro none)]
def QiU (s:Int) (xs:List (Qae)) (n:Int) (dJ0:Nat->Value):CF:=⟨139,ofList 18 [.int .i64 s,Qa0 0 (slT xs.length (Qac Qan xs)),.tuple #[],pA 1 0,.slice none 0 0,pA 2 0,.tuple #[],.int .i64 s,Value.func (Fn.func 157) #[] #[Qa0 3 (ptT 0 #[.int .i64 s])],.int .i64 n,.tuple #[],.tuple #[],.tuple #[],.tuple #[],.tuple #[],.tuple #[],.tuple #[],.tuple #[]],[Item.code (nav (Qaq YP 139) [1,1,0,1,0,0]),Item.beginRound,Item.code (nav (Qaq YP 139) [1,1,0,1,0,1])],[],.run,some 5⟩
theorem Qzm (B:Lo) (s:Int) (xs:List (Qae)) (n:Int) (dJ0:Nat->Value):CE.finK 7 (Qal YP (Qa1 YP) J0 B 6 7 (QiU s xs n dJ0) (Qho s xs n dJ0) 7
 [(4,Qai.tidx n.toNat (Qjc xs n))] 0 [] []) [(5,KS.auto),(2,KS.auto)] [(8,KS.auto)] []=some (OO.ret (.bool true),[(5,Obj.loop {state:=LoopState.ready,pending:=none,fn:=139,tmps:=#[.int .i64 s,Qa0 0 (slT xs.length (Qac Qan xs)),.tuple #[],pA 1 0,.slice none 0 0,pA 2 0,.tuple #[],.int .i64 s,Value.func (Fn.func 157) #[] #[Qa0 3 (ptT 0 #[.int .i64 s])],.tuple #[],.tuple #[],.tuple #[],.tuple #[],.tuple #[],.tuple #[],.tuple #[],.tuple #[],.tuple #[]],params:=#[9],assign:=nav (Qaq YP 139) [1,1,0,1,0,0],body:=nav (Qaq YP 139) [1,1,0,1,0,1],defers:=4}),(2,Obj.cells #[.slice (some {block:=8,off:=0}) 1 3] 60)],[Obj.cells #[Qa0 0 (slT (List.length (Qae.goods (xs.getD n.toNat default))) (Qac Qa9 (Qae.goods (xs.getD n.toNat default)))),.int .i64 (Qae.weight (xs.getD n.toNat default)),.int .i64 (Qae.cost (xs.getD n.toNat default))] 118],
 [n=(↑n.toNat:Int)/\Int.toNat n < List.length xs/\Array.extract (Qac Qan xs) (Int.toNat n * TypeInfo.size Tryz.t118) (Int.toNat n * TypeInfo.size Tryz.t118+TypeInfo.size Tryz.t118)=(Qjc xs n)]):=by kernel_rfl
theorem Q1u (B:Lo) (s:Int) (xs:List (Qae)) (n:Int) (dJ0:Nat->Value):CE.landA 6 (Qal YP (Qa1 YP) J0 B 16 6 (Qco (none) 157 20 (([0,1,6,7]:List Nat).zip (QcQ s xs n)) dJ0 Qda) (QbC (Qbr s xs) 6 (([5,2]:List Nat).zip (Qdh s xs n)) (QbD s xs n)) (6+1+(QbD s xs n).length)
 (Qqo s xs n dJ0++[(5,Qai.pure (.bool true) []),(9,Qai.call (List.range 7) (OO.ret (.bool true)) ([(5,Obj.loop {state:=LoopState.ready,pending:=none,fn:=139,tmps:=(QeJ s xs),params:=#[9],assign:=nav (Qaq YP 139) [1,1,0,1,0,0],body:=nav (Qaq YP 139) [1,1,0,1,0,1],defers:=4}),(2,Obj.cells #[.slice (some {block:=8,off:=0}) 1 3] 60)]++(7,Qb2)::QaP 8 [Obj.cells (Qfm xs n) 118]) 9 [5,2]),(12,hvI (n+1))]) 0 [] []) [0,1,6,7] [(5,KS.auto),(2,KS.auto)] [(8,KS.rows [(0,0)] [] (Qac (QaB 0 Qan) [xs.getD n.toNat default]))] []=some ⟨157,20,QcW,[],.run,none,QcX s xs (n+1) ([xs.getD n.toNat default]) (1),([5,2]:List Nat).zip (QcT s xs (n+1) ([xs.getD n.toNat default]) (1)),QbG s xs (n+1) ([xs.getD n.toNat default]) (1),
 [Qbg 6 [(0,0)] [] (Qfm xs n) (Qac (QaB 0 Qan) [xs.getD n.toNat default]),wq (n+1)=n+1,FJ YP B (QiU s xs n dJ0) (Qho s xs n dJ0) 7 (OO.ret (.bool true)) (([(5,Obj.loop {state:=LoopState.ready,pending:=none,fn:=139,tmps:=(QeJ s xs),params:=#[9],assign:=nav (Qaq YP 139) [1,1,0,1,0,0],body:=nav (Qaq YP 139) [1,1,0,1,0,1],defers:=4}),(2,Obj.cells #[.slice (some {block:=8,off:=0}) 1 3] 60)]++((7,Qb2)::QaP (7+1) [Obj.cells (Qfm xs n) 118]))++Qho s xs n dJ0) 9 (List.range 7) [5,2],Qa3 []/\Qam YP J0 159 #[.int .i64 s,.int .i64 n] (.bool true)]++Qni B s xs n dJ0⟩:=by kernel_rfl
theorem Q0Q (B:Lo) (s:Int) (xs:List (Qae)) (n:Int) (dJ0:Nat->Value):CE.landA 6 (Qal YP (Qa1 YP) J0 B 16 6 (Qco (none) 157 20 (([0,1,6,7]:List Nat).zip (QcQ s xs n)) dJ0 Qda) (QbC (Qbr s xs) 6 (([5,2]:List Nat).zip (Qdh s xs n)) (QbD s xs n)) (6+1+(QbD s xs n).length)
 (Qqo s xs n dJ0++[(5,Qai.pure (.bool false) []),(12,hvI (n+1))]) 0 [] []) [0,1,6,7] [(5,KS.auto),(2,KS.auto)] [] []=some ⟨157,20,Qda,[],.run,none,QcQ s xs (n+1),([5,2]:List Nat).zip (Qdh s xs (n+1)),QbD s xs (n+1),
 [wq (n+1)=n+1,Qa3 []/\Qam YP J0 159 #[.int .i64 s,.int .i64 n] (.bool false)]++Qni B s xs n dJ0⟩:=by kernel_rfl
theorem Qyz (B:Lo) (s:Int) (xs:List (Qae)) (n:Int) (dJ0:Nat->Value):CE.finK 6 (Qal YP (Qa1 YP) J0 B 7 6 (Qco (none) 157 20 (([0,1,6,7]:List Nat).zip (QcQ s xs n)) dJ0 Qda) (QbC (Qbr s xs) 6 (([5,2]:List Nat).zip (Qdh s xs n)) (QbD s xs n)) (6+1+(QbD s xs n).length)
 [(0,hvF)] 0 [] []) [(5,KS.auto),(2,KS.auto)] [] []=some (OO.ret (.tuple #[]),[(5,Obj.loop {state:=LoopState.ready,pending:=none,fn:=139,tmps:=#[.int .i64 s,Qa0 0 (slT xs.length (Qac Qan xs)),.tuple #[],pA 1 0,.slice none 0 0,pA 2 0,.tuple #[],.int .i64 s,Value.func (Fn.func 157) #[] #[Qa0 3 (ptT 0 #[.int .i64 s])],.tuple #[],.tuple #[],.tuple #[],.tuple #[],.tuple #[],.tuple #[],.tuple #[],.tuple #[],.tuple #[]],params:=#[9],assign:=nav (Qaq YP 139) [1,1,0,1,0,0],body:=nav (Qaq YP 139) [1,1,0,1,0,1],defers:=4}),(2,Obj.cells #[.slice none 0 0] 60)],[],
 [ltq n (Qcz s)=false]):=by kernel_rfl
def Qnb (B:Lo) (s:Int) (xs:List (Qae)) (n:Int) (acc:List Qae) (acc_n:Nat) (dJ0:Nat->Value):List Prop:=[ltq n (Qcz s)=true]++([]:List Prop)
def Qr8 (s:Int) (xs:List (Qae)) (n:Int) (acc:List Qae) (acc_n:Nat) (dJ0:Nat->Value):Qas:=[(0,hvT)]
def Qh8 (s:Int) (xs:List (Qae)) (n:Int) (acc:List Qae) (acc_n:Nat) (dJ0:Nat->Value):Qau:=[(5,Obj.loop {state:=LoopState.ready,pending:=none,fn:=139,tmps:=#[.int .i64 s,Qa0 0 (slT xs.length (Qac Qan xs)),.tuple #[],pA 1 0,.slice none 0 0,pA 2 0,.tuple #[],.int .i64 s,Value.func (Fn.func 157) #[] #[Qa0 3 (ptT 0 #[.int .i64 s])],.tuple #[],.tuple #[],.tuple #[],.tuple #[],.tuple #[],.tuple #[],.tuple #[],.tuple #[],.tuple #[]],params:=#[9],assign:=nav (Qaq YP 139) [1,1,0,1,0,0],body:=nav (Qaq YP 139) [1,1,0,1,0,1],defers:=4}),(2,Obj.cells #[.slice (some {block:=7,off:=0}) acc_n 3] 60),(6,Obj.coro none),(7,Obj.cells (Qac (QaB 0 Qan) acc) 118),(5,Obj.loop {state:=LoopState.ready,pending:=none,fn:=139,tmps:=#[.int .i64 s,Qa0 0 (slT xs.length (Qac Qan xs)),.tuple #[],pA 1 0,.slice none 0 0,pA 2 0,.tuple #[],.int .i64 s,Value.func (Fn.func 157) #[] #[Qa0 3 (ptT 0 #[.int .i64 s])],.tuple #[],.tuple #[],.tuple #[],.tuple #[],.tuple #[],.tuple #[],.tuple #[],.tuple #[],.tuple #[]],params:=#[9],assign:=nav (Qaq YP 139) [1,1,0,1,0,0],body:=nav (Qaq YP 139) [1,1,0,1,0,1],defers:=4}),(4,Obj.deferred (some [])),(3,Obj.coro none),(2,Obj.cells #[.slice none 0 0] 60),(1,Obj.cells #[Qa0 0 (slT xs.length (Qac Qan xs))] 60),(0,Obj.coro none)]
def Qjb (s:Int) (xs:List (Qae)) (n:Int) (acc:List Qae) (acc_n:Nat) (dJ0:Nat->Value):CF:=⟨139,ofList 18 [.int .i64 s,Qa0 0 (slT xs.length (Qac Qan xs)),.tuple #[],pA 1 0,.slice none 0 0,pA 2 0,.tuple #[],.int .i64 s,Value.func (Fn.func 157) #[] #[Qa0 3 (ptT 0 #[.int .i64 s])],.int .i64 n,.tuple #[],.tuple #[],.tuple #[],.tuple #[],.tuple #[],.tuple #[],.tuple #[],.tuple #[]],[Item.code (nav (Qaq YP 139) [1,1,0,1,0,0]),Item.beginRound,Item.code (nav (Qaq YP 139) [1,1,0,1,0,1])],[],.run,some 5⟩
theorem Qza (B:Lo) (s:Int) (xs:List (Qae)) (n:Int) (acc:List Qae) (acc_n:Nat) (dJ0:Nat->Value):CE.finK 8 (Qal YP (Qa1 YP) J0 B 6 8 (Qjb s xs n acc acc_n dJ0) (Qh8 s xs n acc acc_n dJ0) 8
 [(4,Qai.tidx n.toNat (Qjc xs n)),(7,Qai.old (Hint.app (Qac (QaB 0 Qan) acc++(Qfm xs n))))] 0 [] []) [(7,KS.dead),(5,KS.auto),(2,KS.auto)] [(9,KS.rows [(0,0)] [] (Qac (QaB 0 Qan) (acc++[xs.getD n.toNat default])))] []=some (OO.ret (.bool true),[(7,Obj.pending #[] 0),(5,Obj.loop {state:=LoopState.ready,pending:=none,fn:=139,tmps:=#[.int .i64 s,Qa0 0 (slT xs.length (Qac Qan xs)),.tuple #[],pA 1 0,.slice none 0 0,pA 2 0,.tuple #[],.int .i64 s,Value.func (Fn.func 157) #[] #[Qa0 3 (ptT 0 #[.int .i64 s])],.tuple #[],.tuple #[],.tuple #[],.tuple #[],.tuple #[],.tuple #[],.tuple #[],.tuple #[],.tuple #[]],params:=#[9],assign:=nav (Qaq YP 139) [1,1,0,1,0,0],body:=nav (Qaq YP 139) [1,1,0,1,0,1],defers:=4}),(2,Obj.cells #[.slice (some {block:=9,off:=0}) (acc_n+1) 3] 60)],[Obj.cells (Qac (QaB 0 Qan) (acc++[xs.getD n.toNat default])) 118],
 [Qbg 8 [(0,0)] [] (Qac (QaB 0 Qan) acc++(Qfm xs n)) (Qac (QaB 0 Qan) (acc++[xs.getD n.toNat default])),Array.size (Qac (QaB 0 Qan) acc)=acc_n * (2+1)/\acc_n+1<=maxLen/\(acc_n+1) * 40<=140737488355328/\Qac (QaB 0 Qan) acc++(Qfm xs n)=Qac (QaB 0 Qan) acc++(Qfm xs n),n=(↑n.toNat:Int)/\Int.toNat n < List.length xs/\Array.extract (Qac Qan xs) (Int.toNat n * TypeInfo.size Tryz.t118) (Int.toNat n * TypeInfo.size Tryz.t118+TypeInfo.size Tryz.t118)=(Qjc xs n)]):=by kernel_rfl
theorem Q0R (B:Lo) (s:Int) (xs:List (Qae)) (n:Int) (acc:List Qae) (acc_n:Nat) (dJ0:Nat->Value):CE.landA 6 (Qal YP (Qa1 YP) J0 B 16 6 (Qco (none) 157 20 (([0,1,6,7]:List Nat).zip (QcX s xs n acc acc_n)) dJ0 QcW) (QbC (Qbr s xs) 6 (([5,2]:List Nat).zip (QcT s xs n acc acc_n)) (QbG s xs n acc acc_n)) (6+1+(QbG s xs n acc acc_n).length)
 (Qr8 s xs n acc acc_n dJ0++[(5,Qai.pure (.bool true) []),(9,Qai.call (List.range 8) (OO.ret (.bool true)) ([(7,Obj.pending #[] 0),(5,Obj.loop {state:=LoopState.ready,pending:=none,fn:=139,tmps:=(QeJ s xs),params:=#[9],assign:=nav (Qaq YP 139) [1,1,0,1,0,0],body:=nav (Qaq YP 139) [1,1,0,1,0,1],defers:=4}),(2,Obj.cells #[.slice (some {block:=9,off:=0}) (acc_n+1) 3] 60)]++(8,Qb2)::QaP 9 [Obj.cells (Qac (QaB 0 Qan) (acc++[xs.getD n.toNat default])) 118]) 10 [7,5,2]),(12,hvI (n+1))]) 0 [] []) [0,1,6,7] [(5,KS.auto),(2,KS.auto)] [(9,KS.rows [(0,0)] [] (Qac (QaB 0 Qan) (acc++[xs.getD n.toNat default])))] []=some ⟨157,20,QcW,[],.run,none,QcX s xs (n+1) (acc++[xs.getD n.toNat default]) (acc_n+1),([5,2]:List Nat).zip (QcT s xs (n+1) (acc++[xs.getD n.toNat default]) (acc_n+1)),QbG s xs (n+1) (acc++[xs.getD n.toNat default]) (acc_n+1),
 [Qbg 6 [(0,0)] [] (Qac (QaB 0 Qan) (acc++[xs.getD n.toNat default])) (Qac (QaB 0 Qan) (acc++[xs.getD n.toNat default])),wq (n+1)=n+1,FJ YP B (Qjb s xs n acc acc_n dJ0) (Qh8 s xs n acc acc_n dJ0) 8 (OO.ret (.bool true)) (([(7,Obj.pending #[] 0),(5,Obj.loop {state:=LoopState.ready,pending:=none,fn:=139,tmps:=(QeJ s xs),params:=#[9],assign:=nav (Qaq YP 139) [1,1,0,1,0,0],body:=nav (Qaq YP 139) [1,1,0,1,0,1],defers:=4}),(2,Obj.cells #[.slice (some {block:=9,off:=0}) (acc_n+1) 3] 60)]++((8,Qb2)::QaP (8+1) [Obj.cells (Qac (QaB 0 Qan) (acc++[xs.getD n.toNat default])) 118]))++Qh8 s xs n acc acc_n dJ0) 10 (List.range 8) [7,5,2],Qa3 []/\Qam YP J0 159 #[.int .i64 s,.int .i64 n] (.bool true)]++Qnb B s xs n acc acc_n dJ0⟩:=by kernel_rfl
theorem Qzv (B:Lo) (s:Int) (xs:List (Qae)) (n:Int) (acc:List Qae) (acc_n:Nat) (dJ0:Nat->Value):CE.landA 6 (Qal YP (Qa1 YP) J0 B 16 6 (Qco (none) 157 20 (([0,1,6,7]:List Nat).zip (QcX s xs n acc acc_n)) dJ0 QcW) (QbC (Qbr s xs) 6 (([5,2]:List Nat).zip (QcT s xs n acc acc_n)) (QbG s xs n acc acc_n)) (6+1+(QbG s xs n acc acc_n).length)
 (Qr8 s xs n acc acc_n dJ0++[(5,Qai.pure (.bool false) []),(12,hvI (n+1))]) 0 [] []) [0,1,6,7] [(5,KS.auto),(2,KS.auto)] [(7,KS.rows [(0,0)] [] (Qac (QaB 0 Qan) acc))] []=some ⟨157,20,QcW,[],.run,none,QcX s xs (n+1) (acc) (acc_n),([5,2]:List Nat).zip (QcT s xs (n+1) (acc) (acc_n)),QbG s xs (n+1) (acc) (acc_n),
 [Qbg 6 [(0,0)] [] (Qac (QaB 0 Qan) acc) (Qac (QaB 0 Qan) acc),wq (n+1)=n+1,Qa3 []/\Qam YP J0 159 #[.int .i64 s,.int .i64 n] (.bool false)]++Qnb B s xs n acc acc_n dJ0⟩:=by kernel_rfl
theorem Qyc (B:Lo) (s:Int) (xs:List (Qae)) (n:Int) (acc:List Qae) (acc_n:Nat) (dJ0:Nat->Value):CE.finK 6 (Qal YP (Qa1 YP) J0 B 7 6 (Qco (none) 157 20 (([0,1,6,7]:List Nat).zip (QcX s xs n acc acc_n)) dJ0 QcW) (QbC (Qbr s xs) 6 (([5,2]:List Nat).zip (QcT s xs n acc acc_n)) (QbG s xs n acc acc_n)) (6+1+(QbG s xs n acc acc_n).length)
 [(0,hvF)] 0 [] []) [(5,KS.auto),(2,KS.auto)] [(7,KS.rows [(0,0)] [] (Qac (QaB 0 Qan) acc))] []=some (OO.ret (.tuple #[]),[(5,Obj.loop {state:=LoopState.ready,pending:=none,fn:=139,tmps:=#[.int .i64 s,Qa0 0 (slT xs.length (Qac Qan xs)),.tuple #[],pA 1 0,.slice none 0 0,pA 2 0,.tuple #[],.int .i64 s,Value.func (Fn.func 157) #[] #[Qa0 3 (ptT 0 #[.int .i64 s])],.tuple #[],.tuple #[],.tuple #[],.tuple #[],.tuple #[],.tuple #[],.tuple #[],.tuple #[],.tuple #[]],params:=#[9],assign:=nav (Qaq YP 139) [1,1,0,1,0,0],body:=nav (Qaq YP 139) [1,1,0,1,0,1],defers:=4}),(2,Obj.cells #[.slice (some {block:=7,off:=0}) acc_n 3] 60)],[Obj.cells (Qac (QaB 0 Qan) acc) 118],
 [Qbg 6 [(0,0)] [] (Qac (QaB 0 Qan) acc) (Qac (QaB 0 Qan) acc),ltq n (Qcz s)=false]):=by kernel_rfl
set_option maxHeartbeats 4000000 in
theorem Qk7 (s:Int) (xs:List (Qae)) (h0:0<=s) (h1:s < 64) (hx:Qcz s<=xs.length) {B:Lo} (hJ:∀w,B.has w->J0 w):∀m:Nat,(∀(n:Int),∀(r:Bool),(!(([]:List Qae)++Qa2 s xs n).isEmpty)=r->(Qcz s - n).toNat=m->∀(hn:0<=n),(∃dJ0:Nat->Value,(∀t,Qbd (dJ0 t))/\GoE YP B (QcC s xs) (Qbr s xs) 6 (Qco (none) 157 20 (([0,1,6,7]:List Nat).zip (QcQ s xs n)) dJ0 Qda) (QbC (Qbr s xs) 6 (([5,2]:List Nat).zip (Qdh s xs n)) (QbD s xs n)) (6+1+(QbD s xs n).length) ([5,2]:List Nat))->FinK YP B (QcC s xs) (Qbr s xs) 6 (.ret (.tuple #[])) (([5,2]:List Nat).zip ([Obj.loop {state:=LoopState.ready,pending:=none,fn:=139,tmps:=#[.int .i64 s,Qa0 0 (slT xs.length (Qac Qan xs)),.tuple #[],pA 1 0,.slice none 0 0,pA 2 0,.tuple #[],.int .i64 s,Value.func (Fn.func 157) #[] #[Qa0 3 (ptT 0 #[.int .i64 s])],.tuple #[],.tuple #[],.tuple #[],.tuple #[],.tuple #[],.tuple #[],.tuple #[],.tuple #[],.tuple #[]],params:=#[9],assign:=nav (Qaq YP 139) [1,1,0,1,0,0],body:=nav (Qaq YP 139) [1,1,0,1,0,1],defers:=4},.cells #[bif r then .slice (some ⟨7,0,none⟩) (([]:List Qae)++Qa2 s xs n).length 3 else .slice none 0 0] 60 (0,0)])) (bif r then [Go.Obj.cells (Qac (QaB 0 Qan) (([]:List Qae)++Qa2 s xs n)) 118 (0,0)] else []) ([5,2]:List Nat))/\(∀(n:Int) (acc:List Qae) (acc_n:Nat),∀(r:Bool),(!(acc++Qa2 s xs n).isEmpty)=r->(Qcz s - n).toNat=m->∀(hn:0<=n) (hacc:acc_n=acc.length) (haccb:acc≠[]/\(acc_n:Int)<=n),(∃dJ0:Nat->Value,(∀t,Qbd (dJ0 t))/\GoE YP B (QcC s xs) (Qbr s xs) 6 (Qco (none) 157 20 (([0,1,6,7]:List Nat).zip (QcX s xs n acc acc_n)) dJ0 QcW) (QbC (Qbr s xs) 6 (([5,2]:List Nat).zip (QcT s xs n acc acc_n)) (QbG s xs n acc acc_n)) (6+1+(QbG s xs n acc acc_n).length) ([5,2]:List Nat))->FinK YP B (QcC s xs) (Qbr s xs) 6 (.ret (.tuple #[])) (([5,2]:List Nat).zip ([Obj.loop {state:=LoopState.ready,pending:=none,fn:=139,tmps:=#[.int .i64 s,Qa0 0 (slT xs.length (Qac Qan xs)),.tuple #[],pA 1 0,.slice none 0 0,pA 2 0,.tuple #[],.int .i64 s,Value.func (Fn.func 157) #[] #[Qa0 3 (ptT 0 #[.int .i64 s])],.tuple #[],.tuple #[],.tuple #[],.tuple #[],.tuple #[],.tuple #[],.tuple #[],.tuple #[],.tuple #[]],params:=#[9],assign:=nav (Qaq YP 139) [1,1,0,1,0,0],body:=nav (Qaq YP 139) [1,1,0,1,0,1],defers:=4},.cells #[bif r then .slice (some ⟨7,0,none⟩) (acc++Qa2 s xs n).length 3 else .slice none 0 0] 60 (0,0)])) (bif r then [Go.Obj.cells (Qac (QaB 0 Qan) (acc++Qa2 s xs n)) 118 (0,0)] else []) ([5,2]:List Nat)):=by
 intro m0;induction m0 using Nat.strongRecOn with
 | _ m0 ih0=>
   refine ⟨?_, ?_⟩
   ·intro n r1 hr1 hm0 hn ⟨dJ0,hdJ0,hg0⟩;have hl:=QfM h0 h1;by_cases q0:(n:Int) < (Qcz s)
    ·have hp1:Qa3 (Qni B s xs n dJ0):=by
      exact ⟨(Qbe q0),trivial⟩
     cases q1:Qlg s n with
     | true=>
       have rj2:FJ YP B (QiU s xs n dJ0) (Qho s xs n dJ0) 7 (OO.ret (.bool true)) (([(5,Obj.loop {state:=LoopState.ready,pending:=none,fn:=139,tmps:=#[.int .i64 s,Qa0 0 (slT xs.length (Qac Qan xs)),.tuple #[],pA 1 0,.slice none 0 0,pA 2 0,.tuple #[],.int .i64 s,Value.func (Fn.func 157) #[] #[Qa0 3 (ptT 0 #[.int .i64 s])],.tuple #[],.tuple #[],.tuple #[],.tuple #[],.tuple #[],.tuple #[],.tuple #[],.tuple #[],.tuple #[]],params:=#[9],assign:=nav (Qaq YP 139) [1,1,0,1,0,0],body:=nav (Qaq YP 139) [1,1,0,1,0,1],defers:=4}),(2,Obj.cells #[.slice (some {block:=8,off:=0}) 1 3] 60)]++((7,Qb2)::QaP (7+1) [Obj.cells #[Qa0 0 (slT (List.length (Qae.goods (xs.getD n.toNat default))) (Qac Qa9 (Qae.goods (xs.getD n.toNat default)))),.int .i64 (Qae.weight (xs.getD n.toNat default)),.int .i64 (Qae.cost (xs.getD n.toNat default))] 118]))++Qho s xs n dJ0) 9 (List.range 7) [5,2]:=by
        have s2:=Qf2 (s:=s) (xs:=xs) q0 q1;exact FinK.fjB (GoE.finK okF hJ Qab (Qap (by kernel_rfl)) (Qak (by kernel_rfl)) ((GoE.refl (P:=YP) (B:=B) (c0:=QiU s xs n dJ0) (Qap (by kernel_rfl))).widen (Wf:=((([(5,KS.auto),(2,KS.auto)]):List (Nat×KS)).map (·.1))) (by simp) (Qak (by kernel_rfl))) (Qzm B s xs n dJ0)
         ⟨⟨by omega,by omega,(Qag (z:=3) (fun _=> rfl) (by omega))⟩,trivial⟩) (ex:=[]) (by kernel_rfl) (Qb4 _)
       have s2:=Qf2 (s:=s) (xs:=xs) q0 q1;exact ((ih0 _ (by omega)).2 (n+1) ([xs.getD n.toNat default]) (1) r1 (by (rw [<-hr1,s2];simp;done)) rfl (by omega) (by (simp_all;done)) (by (refine ⟨by simp, ?_⟩;omega))
        (GoE.landA okF hJ Qab (Qap (by kernel_rfl)) (Qak (by kernel_rfl)) hg0 (Q1u B s xs n dJ0)
        ⟨(by exact (QhT (by exact ⟨(.reg (List.Mem.head _) rfl),⟨(.simple rfl),⟨(.simple rfl),trivial⟩⟩⟩))),⟨(QaQ (by omega) (by omega)),⟨rj2,⟨⟨trivial,(by have t_:=Q3R (s) (n) (by omega) (by omega);rw [q1] at t_;exact t_)⟩,hp1⟩⟩⟩⟩ (by kernel_rfl) (by kernel_rfl) (fun l hl=> by cases hl <;> decide))).cast (by rfl) (by (rw [s2];rfl)) (by (rw [s2];rfl))
     | false=>
       have s2:=Qjs (s:=s) (xs:=xs) q0 q1;exact ((ih0 _ (by omega)).1 (n+1) r1 (by (rw [<-hr1,s2];done)) rfl (by omega)
        (GoE.landA okF hJ Qab (Qap (by kernel_rfl)) (Qak (by kernel_rfl)) hg0 (Q0Q B s xs n dJ0)
        ⟨(QaQ (by omega) (by omega)),⟨⟨trivial,(by have t_:=Q3R (s) (n) (by omega) (by omega);rw [q1] at t_;exact t_)⟩,hp1⟩⟩ (by kernel_rfl) (by kernel_rfl) (fun l hl=> by cases hl <;> decide))).cast (by rfl) (by (rw [s2];done)) (by (rw [s2];done))
    ·have s2:=Qjp (s:=s) (xs:=xs) (n:=n) (by omega);exact (GoE.finK okF hJ Qab (Qap (by kernel_rfl)) (Qak (by kernel_rfl)) hg0 (Qyz B s xs n dJ0)
      ⟨(Qbj (Int.not_lt.1 q0)),trivial⟩).cast (by rfl) (by (subst hr1;rw [s2];rfl)) (by (subst hr1;rw [s2];rfl))
   ·intro n acc acc_n r1 hr1 hm0 hn hacc haccb ⟨dJ0,hdJ0,hg0⟩;have hl:=QfM h0 h1;by_cases q0:(n:Int) < (Qcz s)
    ·have hp2:Qa3 (Qnb B s xs n acc acc_n dJ0):=by
      exact ⟨(Qbe q0),trivial⟩
     cases q1:Qlg s n with
     | true=>
       have rj2:FJ YP B (Qjb s xs n acc acc_n dJ0) (Qh8 s xs n acc acc_n dJ0) 8 (OO.ret (.bool true)) (([(7,Obj.pending #[] 0),(5,Obj.loop {state:=LoopState.ready,pending:=none,fn:=139,tmps:=#[.int .i64 s,Qa0 0 (slT xs.length (Qac Qan xs)),.tuple #[],pA 1 0,.slice none 0 0,pA 2 0,.tuple #[],.int .i64 s,Value.func (Fn.func 157) #[] #[Qa0 3 (ptT 0 #[.int .i64 s])],.tuple #[],.tuple #[],.tuple #[],.tuple #[],.tuple #[],.tuple #[],.tuple #[],.tuple #[],.tuple #[]],params:=#[9],assign:=nav (Qaq YP 139) [1,1,0,1,0,0],body:=nav (Qaq YP 139) [1,1,0,1,0,1],defers:=4}),(2,Obj.cells #[.slice (some {block:=9,off:=0}) (acc_n+1) 3] 60)]++((8,Qb2)::QaP (8+1) [Obj.cells (Qac (QaB 0 Qan) (acc++[xs.getD n.toNat default])) 118]))++Qh8 s xs n acc acc_n dJ0) 10 (List.range 8) [7,5,2]:=by
        have s2:=Qf2 (s:=s) (xs:=xs) q0 q1;exact FinK.fjB (GoE.finK okF hJ Qab (Qap (by kernel_rfl)) (Qak (by kernel_rfl)) ((GoE.refl (P:=YP) (B:=B) (c0:=Qjb s xs n acc acc_n dJ0) (Qap (by kernel_rfl))).widen (Wf:=((([(7,KS.dead),(5,KS.auto),(2,KS.auto)]):List (Nat×KS)).map (·.1))) (by simp) (Qak (by kernel_rfl))) (Qza B s xs n acc acc_n dJ0)
         ⟨(by exact (Qgy (QaY (Qbc (fun _=> rfl)) (List.Mem.head _)) (by exact ⟨(.reg (List.Mem.head _) rfl),⟨(.simple rfl),⟨(.simple rfl),trivial⟩⟩⟩))),⟨⟨(by (rw [Qb7 (z:=3) (fun _=> rfl)];first | omega | (simp;omega) | (simp_all;done))),(by unfold maxLen;omega),by omega,rfl⟩,⟨⟨by omega,by omega,(Qag (z:=3) (fun _=> rfl) (by omega))⟩,trivial⟩⟩⟩) (ex:=[7]) (by kernel_rfl) ⟨trivial,⟨trivial,⟨trivial,⟨(Qfb (t:=118) (fl:=(0,0)) (Qbc (fun _=> rfl)) (by decide)),⟨trivial,⟨trivial,⟨trivial,⟨trivial,⟨trivial,⟨trivial,trivial⟩⟩⟩⟩⟩⟩⟩⟩⟩⟩
       have s2:=Qf2 (s:=s) (xs:=xs) q0 q1;exact ((ih0 _ (by omega)).2 (n+1) (acc++[xs.getD n.toNat default]) (acc_n+1) r1 (by (rw [<-hr1,s2];simp;done)) rfl (by omega) (by (simp_all;done)) (by (simp_all;done))
        (GoE.landA okF hJ Qab (Qap (by kernel_rfl)) (Qak (by kernel_rfl)) hg0 (Q0R B s xs n acc acc_n dJ0)
        ⟨(by exact (QaY (Qbc (fun _=> rfl)) (List.Mem.head _))),⟨(QaQ (by omega) (by omega)),⟨rj2,⟨⟨trivial,(by have t_:=Q3R (s) (n) (by omega) (by omega);rw [q1] at t_;exact t_)⟩,hp2⟩⟩⟩⟩ (by kernel_rfl) (by kernel_rfl) (fun l hl=> by cases hl <;> decide))).cast (by rfl) (by (rw [s2,<-List.append_assoc];done)) (by (rw [s2,<-List.append_assoc];done))
     | false=>
       have s2:=Qjs (s:=s) (xs:=xs) q0 q1;exact ((ih0 _ (by omega)).2 (n+1) (acc) (acc_n) r1 (by (rw [<-hr1,s2];done)) rfl (by omega) (by with_reducible assumption) (by exact ⟨haccb.1,by omega⟩)
        (GoE.landA okF hJ Qab (Qap (by kernel_rfl)) (Qak (by kernel_rfl)) hg0 (Qzv B s xs n acc acc_n dJ0)
        ⟨(by exact (QaY (Qbc (fun _=> rfl)) (List.Mem.head _))),⟨(QaQ (by omega) (by omega)),⟨⟨trivial,(by have t_:=Q3R (s) (n) (by omega) (by omega);rw [q1] at t_;exact t_)⟩,hp2⟩⟩⟩ (by kernel_rfl) (by kernel_rfl) (fun l hl=> by cases hl <;> decide))).cast (by rfl) (by (rw [s2];done)) (by (rw [s2];done))
    ·have s2:=Qjp (s:=s) (xs:=xs) (n:=n) (by omega);exact (GoE.finK okF hJ Qab (Qap (by kernel_rfl)) (Qak (by kernel_rfl)) hg0 (Qyc B s xs n acc acc_n dJ0)
      ⟨(by exact (QaY (Qbc (fun _=> rfl)) (List.Mem.head _))),⟨(Qbj (Int.not_lt.1 q0)),trivial⟩⟩).cast (by rfl) (by (subst hr1;simp only [Q2C haccb.1,s2,List.append_nil,hacc,Bool.not_false,cond_true];rfl)) (by (subst hr1;simp only [Q2C haccb.1,s2,List.append_nil,hacc,Bool.not_false,cond_true];done))

theorem Q1j (B:Lo) (s:Int) (xs:List (Qae)):CE.landA 6 (Qal YP (Qa1 YP) J0 B 4 6 (QcC s xs) (Qbr s xs) 6
 [(1,Qai.old (Hint.val (Value.int IntKind.u64 s))),(2,Qai.pure (.int .i64 (Qcz s)) [])] 0 [] []) [0,1,6,7] [(5,KS.auto),(2,KS.auto)] [] []=some ⟨157,20,Qda,[],.run,none,QcQ s xs (0),([5,2]:List Nat).zip (Qdh s xs (0)),QbD s xs (0),
 [Qa3 []/\Qam YP J0 158 #[Value.int IntKind.u64 s] (.int .i64 (Qcz s)),IntKind.wrap IntKind.u64 s=s]⟩:=by kernel_rfl
theorem Qvz (B:Lo) (s:Int) (xs:List (Qae)):QaU (Qal YP (Qa1 YP) J0 B 16 1 (Qaj YP 139 18 (([.int .i64 s,slT xs.length (Qac Qan xs)]).map (Qao 0 4))) H00 1
 (QrE s xs++[(5,Qai.call (List.range 6) (OO.ret (.tuple #[])) ([(5,Obj.loop {state:=LoopState.ready,pending:=none,fn:=139,tmps:=(QeJ s xs),params:=#[9],assign:=nav (Qaq YP 139) [1,1,0,1,0,0],body:=nav (Qaq YP 139) [1,1,0,1,0,1],defers:=4}),(2,Obj.cells #[.slice (some {block:=7,off:=0}) (List.length ([]++Qa2 s xs 0)) 3] 60)]++(6,Qb2)::QaP 7 [Obj.cells (Qac (QaB 0 Qan) ([]++Qa2 s xs 0)) 118]) 8 [5,2])]) 0 [] []) [{k:=7,rs:=[0],cs:=Qac Qan ([]++Qa2 s xs 0)}]=some (slT (List.length ([]++Qa2 s xs 0)) (Fz.cs {k:=7,rs:=[0],cs:=Qac Qan ([]++Qa2 s xs 0)}),
 [Qb6 (Fz.rs {k:=7,rs:=[0],cs:=Qac Qan ([]++Qa2 s xs 0)}) (Qac (QaB 0 Qan) ([]++Qa2 s xs 0)) (Fz.cs {k:=7,rs:=[0],cs:=Qac Qan ([]++Qa2 s xs 0)}),FJ YP B (QcC s xs) (Qbr s xs) 6 (OO.ret (.tuple #[])) (([(5,Obj.loop {state:=LoopState.ready,pending:=none,fn:=139,tmps:=(QeJ s xs),params:=#[9],assign:=nav (Qaq YP 139) [1,1,0,1,0,0],body:=nav (Qaq YP 139) [1,1,0,1,0,1],defers:=4}),(2,Obj.cells #[.slice (some {block:=7,off:=0}) (List.length ([]++Qa2 s xs 0)) 3] 60)]++((6,Qb2)::QaP (6+1) [Obj.cells (Qac (QaB 0 Qan) ([]++Qa2 s xs 0)) 118]))++Qbr s xs) 8 (List.range 6) [5,2]]++QlF B s xs):=by kernel_rfl
theorem QwW (B:Lo) (s:Int) (xs:List (Qae)):CE.landA 6 (Qal YP (Qa1 YP) J0 B 4 6 (QcC s xs) (Qbr s xs) 6
 [(1,Qai.old (Hint.val (Value.int IntKind.u64 s))),(2,Qai.pure (.int .i64 (Qcz s)) [])] 0 [] []) [0,1,6,7] [(5,KS.auto),(2,KS.auto)] [] []=some ⟨157,20,Qda,[],.run,none,QcQ s xs (0),([5,2]:List Nat).zip (Qdh s xs (0)),QbD s xs (0),
 [Qa3 []/\Qam YP J0 158 #[Value.int IntKind.u64 s] (.int .i64 (Qcz s)),IntKind.wrap IntKind.u64 s=s]⟩:=by kernel_rfl
theorem QvO (B:Lo) (s:Int) (xs:List (Qae)):QaU (Qal YP (Qa1 YP) J0 B 16 1 (Qaj YP 139 18 (([.int .i64 s,slT xs.length (Qac Qan xs)]).map (Qao 0 4))) H00 1
 (QrE s xs++[(5,Qai.call (List.range 6) (OO.ret (.tuple #[])) ([(5,Obj.loop {state:=LoopState.ready,pending:=none,fn:=139,tmps:=(QeJ s xs),params:=#[9],assign:=nav (Qaq YP 139) [1,1,0,1,0,0],body:=nav (Qaq YP 139) [1,1,0,1,0,1],defers:=4}),(2,Obj.cells #[.slice none 0 0] 60)]++(6,Qb2)::QaP 7 []) 7 [5,2])]) 0 [] []) []=some (slT 0 #[],
 [FJ YP B (QcC s xs) (Qbr s xs) 6 (OO.ret (.tuple #[])) (([(5,Obj.loop {state:=LoopState.ready,pending:=none,fn:=139,tmps:=(QeJ s xs),params:=#[9],assign:=nav (Qaq YP 139) [1,1,0,1,0,0],body:=nav (Qaq YP 139) [1,1,0,1,0,1],defers:=4}),(2,Obj.cells #[.slice none 0 0] 60)]++((6,Qb2)::QaP (6+1) []))++Qbr s xs) 7 (List.range 6) [5,2]]++QlF B s xs):=by kernel_rfl
set_option maxHeartbeats 4000000 in
theorem Q1A (s:Int) (xs:List (Qae)) (h0:0<=s) (h1:s < 64) (hx:Qcz s<=xs.length) {B:Lo} (hJ:∀w,B.has w->J0 w):EndsT YP B (Qaj YP 139 18 (([.int .i64 s,slT xs.length (Qac Qan xs)]).map (Qao 0 4))) (slT (Qa2 s xs 0).length (Qac Qan (Qa2 s xs 0))):=by
 have hl:=QfM h0 h1;have rj0:FJ YP B (Qjt s xs) (Qh5 s xs) 3 (OO.ret (Value.func (Fn.func 157) #[] #[Qa0 3 (ptT 0 #[.int .i64 s])])) (([]++((3,Qb2)::QaP (3+1) []))++Qh5 s xs) 4 (List.range 3) []:=by
  exact FinK.fjB (GoE.finK okF hJ Qab (Qap (by kernel_rfl)) (Qak (by kernel_rfl)) ((GoE.refl (P:=YP) (B:=B) (c0:=Qjt s xs) (Qap (by kernel_rfl))).widen (Wf:=((([]):List (Nat×KS)).map (·.1))) (by simp) (Qak (by kernel_rfl))) (Q1b B s xs)
   ⟨(QgO (by kernel_rfl)),trivial⟩) (ex:=[]) (by kernel_rfl) (Qb4 _)
 have hp0:Qa3 (QlF B s xs):=by
  exact ⟨rj0,trivial⟩
 cases q0: !List.isEmpty ([]++Qa2 s xs 0) with
 | true=>
   have rj1:FJ YP B (QcC s xs) (Qbr s xs) 6 (OO.ret (.tuple #[])) (([(5,Obj.loop {state:=LoopState.ready,pending:=none,fn:=139,tmps:=#[.int .i64 s,Qa0 0 (slT xs.length (Qac Qan xs)),.tuple #[],pA 1 0,.slice none 0 0,pA 2 0,.tuple #[],.int .i64 s,Value.func (Fn.func 157) #[] #[Qa0 3 (ptT 0 #[.int .i64 s])],.tuple #[],.tuple #[],.tuple #[],.tuple #[],.tuple #[],.tuple #[],.tuple #[],.tuple #[],.tuple #[]],params:=#[9],assign:=nav (Qaq YP 139) [1,1,0,1,0,0],body:=nav (Qaq YP 139) [1,1,0,1,0,1],defers:=4}),(2,Obj.cells #[.slice (some {block:=7,off:=0}) (List.length ([]++Qa2 s xs 0)) 3] 60)]++((6,Qb2)::QaP (6+1) [Obj.cells (Qac (QaB 0 Qan) ([]++Qa2 s xs 0)) 118]))++Qbr s xs) 8 (List.range 6) [5,2]:=by
    exact FinK.fjB ((Qk7 s xs h0 h1 hx hJ _).1 (0) true q0 rfl (by omega)
     (GoE.landA okF hJ Qab (Qap (by kernel_rfl)) (Qak (by kernel_rfl)) ((GoE.refl (P:=YP) (B:=B) (c0:=QcC s xs) (Qap (by kernel_rfl))).widen (Wf:=((([(5,KS.auto),(2,KS.auto)]):List (Nat×KS)).map (·.1))) (by simp) (Qak (by kernel_rfl))) (Q1j B s xs)
     ⟨⟨trivial,Q6Y (s) (by with_reducible assumption) (by with_reducible assumption)⟩,⟨(IntWalk.u64_in _ ⟨by omega,by omega⟩),trivial⟩⟩ (by kernel_rfl) (by kernel_rfl) (fun l hl=> by cases hl <;> decide))) (ex:=[]) (by kernel_rfl) (Qb4 _)
   exact (GoE.endsT okF hJ Qab GoE.start (Qvz B s xs)
    ⟨(Qdf (Qbc (fun _=> rfl)) (List.Mem.head _)),⟨rj1,hp0⟩⟩).cast (by rfl)
 | false=>
   have rj1:FJ YP B (QcC s xs) (Qbr s xs) 6 (OO.ret (.tuple #[])) (([(5,Obj.loop {state:=LoopState.ready,pending:=none,fn:=139,tmps:=#[.int .i64 s,Qa0 0 (slT xs.length (Qac Qan xs)),.tuple #[],pA 1 0,.slice none 0 0,pA 2 0,.tuple #[],.int .i64 s,Value.func (Fn.func 157) #[] #[Qa0 3 (ptT 0 #[.int .i64 s])],.tuple #[],.tuple #[],.tuple #[],.tuple #[],.tuple #[],.tuple #[],.tuple #[],.tuple #[],.tuple #[]],params:=#[9],assign:=nav (Qaq YP 139) [1,1,0,1,0,0],body:=nav (Qaq YP 139) [1,1,0,1,0,1],defers:=4}),(2,Obj.cells #[.slice none 0 0] 60)]++((6,Qb2)::QaP (6+1) []))++Qbr s xs) 7 (List.range 6) [5,2]:=by
    exact FinK.fjB ((Qk7 s xs h0 h1 hx hJ _).1 (0) false q0 rfl (by omega)
     (GoE.landA okF hJ Qab (Qap (by kernel_rfl)) (Qak (by kernel_rfl)) ((GoE.refl (P:=YP) (B:=B) (c0:=QcC s xs) (Qap (by kernel_rfl))).widen (Wf:=((([(5,KS.auto),(2,KS.auto)]):List (Nat×KS)).map (·.1))) (by simp) (Qak (by kernel_rfl))) (QwW B s xs)
     ⟨⟨trivial,Q6Y (s) (by with_reducible assumption) (by with_reducible assumption)⟩,⟨(IntWalk.u64_in _ ⟨by omega,by omega⟩),trivial⟩⟩ (by kernel_rfl) (by kernel_rfl) (fun l hl=> by cases hl <;> decide))) (ex:=[]) (by kernel_rfl) (Qb4 _)
   exact (GoE.endsT okF hJ Qab GoE.start (QvO B s xs)
    ⟨rj1,hp0⟩).cast (by (rw [Q69 q0];rfl))
theorem Q6x (s:Int) (xs:List (Qae)) (h0:0<=s) (h1:s < 64) (hx:Qcz s<=xs.length):Qam YP J0 139 #[.int .i64 s,slT xs.length (Qac Qan xs)] (slT (Qa2 s xs 0).length (Qac Qan (Qa2 s xs 0))):=
 QaG (ts:=[.int .i64 s,slT xs.length (Qac Qan xs)]) Qb1 (c0:=Qaj YP 139 18 (([.int .i64 s,slT xs.length (Qac Qan xs)]).map (Qao 0 4))) (by kernel_rfl) (by kernel_rfl) fun B hJ=> Q1A s xs h0 h1 hx hJ
def Qh7 (s:Int) (xs:List (Row)):Qau:=[(2,Obj.cells #[.slice none 0 0] 63),(1,Obj.cells #[Qa0 0 (slT xs.length (Qac Qaw xs))] 63),(0,Obj.coro none)]
def Qjm (s:Int) (xs:List (Row)):CF:=⟨147,ofList 4 [.int .i64 s],[Item.code (Qaq YP 147)],[],.run,none⟩
def QeG (s:Int) (xs:List (Row)):Array Value:=#[.int .i64 s,Qa0 0 (slT xs.length (Qac Qaw xs)),.tuple #[],pA 1 0,.slice none 0 0,pA 2 0,.tuple #[],.int .i64 s,Value.func (Fn.func 157) #[] #[Qa0 3 (ptT 0 #[.int .i64 s])],.tuple #[],.tuple #[],.tuple #[],.tuple #[],.tuple #[],.tuple #[],.tuple #[],.tuple #[],.tuple #[]]
def Qfu (xs:List (Row)) (n:Int):Array Value:=#[Qa0 0 (slT (List.length (xs.getD n.toNat default)) (Qac Qat (xs.getD n.toNat default)))]
def QiE (xs:List (Row)) (n:Int):Array Value:=#[slT (List.length (xs.getD n.toNat default)) (Qac Qat (xs.getD n.toNat default))]
theorem Q09 (B:Lo) (s:Int) (xs:List (Row)):CE.finK 3 (Qal YP (Qa1 YP) J0 B 6 3 (Qjm s xs) (Qh7 s xs) 3
 [] 0 [] []) [] [] [{k:=3,rs:=[],cs:=#[.int .i64 s]}]=some (OO.ret (Value.func (Fn.func 157) #[] #[Qa0 3 (ptT 0 #[.int .i64 s])]),[],[],
 [Qb6 (Fz.rs {k:=3,rs:=[],cs:=#[.int .i64 s]}) #[.int .i64 s] (Fz.cs {k:=3,rs:=[],cs:=#[.int .i64 s]})]):=by kernel_rfl
def Qm3 (B:Lo) (s:Int) (xs:List (Row)):List Prop:=[FJ YP B (Qjm s xs) (Qh7 s xs) 3 (OO.ret (Value.func (Fn.func 157) #[] #[Qa0 3 (ptT 0 #[.int .i64 s])])) (([]++((3,Qb2)::QaP (3+1) []))++Qh7 s xs) 4 (List.range 3) []]++([]:List Prop)
def Qqf (s:Int) (xs:List (Row)):Qas:=[(4,Qai.call (List.range 3) (OO.ret (Value.func (Fn.func 157) #[] #[Qa0 3 (ptT 0 #[.int .i64 s])])) ([]++(3,Qb2)::QaP 4 []) 4 [])]
def Qbp (s:Int) (xs:List (Row)):Qau:=[(5,Obj.loop {state:=LoopState.ready,pending:=none,fn:=121,tmps:=#[.int .i64 s,Qa0 0 (slT xs.length (Qac Qaw xs)),.tuple #[],pA 1 0,.slice none 0 0,pA 2 0,.tuple #[],.int .i64 s,Value.func (Fn.func 157) #[] #[Qa0 3 (ptT 0 #[.int .i64 s])],.tuple #[],.tuple #[],.tuple #[],.tuple #[],.tuple #[],.tuple #[],.tuple #[],.tuple #[],.tuple #[]],params:=#[9],assign:=nav (Qaq YP 121) [1,1,0,1,0,0],body:=nav (Qaq YP 121) [1,1,0,1,0,1],defers:=4}),(4,Obj.deferred (some [])),(3,Obj.coro none),(2,Obj.cells #[.slice none 0 0] 63),(1,Obj.cells #[Qa0 0 (slT xs.length (Qac Qaw xs))] 63),(0,Obj.coro none)]
def QcB (s:Int) (xs:List (Row)):CF:=⟨157,ofList 20 [Value.func (Fn.yield 5) #[] #[],Qa0 3 (ptT 0 #[.int .i64 s])],[Item.code (Qaq YP 157)],[],.run,none⟩
def QcS (s:Int) (xs:List (Row)) (n:Int):List Value:=[Value.func (Fn.yield 5) #[] #[],Qa0 3 (ptT 0 #[.int .i64 s]),.int .i64 (Qcz s),.int .i64 n]
def QcZ (s:Int) (xs:List (Row)) (n:Int):List Obj:=[Obj.loop {state:=LoopState.ready,pending:=none,fn:=121,tmps:=#[.int .i64 s,Qa0 0 (slT xs.length (Qac Qaw xs)),.tuple #[],pA 1 0,.slice none 0 0,pA 2 0,.tuple #[],.int .i64 s,Value.func (Fn.func 157) #[] #[Qa0 3 (ptT 0 #[.int .i64 s])],.tuple #[],.tuple #[],.tuple #[],.tuple #[],.tuple #[],.tuple #[],.tuple #[],.tuple #[],.tuple #[]],params:=#[9],assign:=nav (Qaq YP 121) [1,1,0,1,0,0],body:=nav (Qaq YP 121) [1,1,0,1,0,1],defers:=4},.cells #[.slice none 0 0] 63 (0,0)]
def QbF (s:Int) (xs:List (Row)) (n:Int):List Obj:=[]
def Qde:List Item:=([.code [1,0,0],.inLoop [1,0,0],.inBlock 0]).map (it (Qaq YP 157))
def QcY (s:Int) (xs:List (Row)) (n:Int) (acc:List Row) (acc_n:Nat):List Value:=[Value.func (Fn.yield 5) #[] #[],Qa0 3 (ptT 0 #[.int .i64 s]),.int .i64 (Qcz s),.int .i64 n]
def QcR (s:Int) (xs:List (Row)) (n:Int) (acc:List Row) (acc_n:Nat):List Obj:=[Obj.loop {state:=LoopState.ready,pending:=none,fn:=121,tmps:=#[.int .i64 s,Qa0 0 (slT xs.length (Qac Qaw xs)),.tuple #[],pA 1 0,.slice none 0 0,pA 2 0,.tuple #[],.int .i64 s,Value.func (Fn.func 157) #[] #[Qa0 3 (ptT 0 #[.int .i64 s])],.tuple #[],.tuple #[],.tuple #[],.tuple #[],.tuple #[],.tuple #[],.tuple #[],.tuple #[],.tuple #[]],params:=#[9],assign:=nav (Qaq YP 121) [1,1,0,1,0,0],body:=nav (Qaq YP 121) [1,1,0,1,0,1],defers:=4},.cells #[.slice (some ⟨7,0,none⟩) acc_n 1] 63 (0,0)]
def QbH (s:Int) (xs:List (Row)) (n:Int) (acc:List Row) (acc_n:Nat):List Obj:=[Obj.cells (Qac (QaB 0 Qaw) acc) 22 (0,0)]
def QcU:List Item:=([.code [1,0,0],.inLoop [1,0,0],.inBlock 0]).map (it (Qaq YP 157))
def QmD (B:Lo) (s:Int) (xs:List (Row)) (n:Int) (dJ0:Nat->Value):List Prop:=[ltq n (Qcz s)=true]++([]:List Prop)
def QqB (s:Int) (xs:List (Row)) (n:Int) (dJ0:Nat->Value):Qas:=[(0,hvT)]
def QhH (s:Int) (xs:List (Row)) (n:Int) (dJ0:Nat->Value):Qau:=[(5,Obj.loop {state:=LoopState.ready,pending:=none,fn:=121,tmps:=#[.int .i64 s,Qa0 0 (slT xs.length (Qac Qaw xs)),.tuple #[],pA 1 0,.slice none 0 0,pA 2 0,.tuple #[],.int .i64 s,Value.func (Fn.func 157) #[] #[Qa0 3 (ptT 0 #[.int .i64 s])],.tuple #[],.tuple #[],.tuple #[],.tuple #[],.tuple #[],.tuple #[],.tuple #[],.tuple #[],.tuple #[]],params:=#[9],assign:=nav (Qaq YP 121) [1,1,0,1,0,0],body:=nav (Qaq YP 121) [1,1,0,1,0,1],defers:=4}),(2,Obj.cells #[.slice none 0 0] 63),(6,Obj.coro none),(5,Obj.loop {state:=LoopState.ready,pending:=none,fn:=121,tmps:=#[.int .i64 s,Qa0 0 (slT xs.length (Qac Qaw xs)),.tuple #[],pA 1 0,.slice none 0 0,pA 2 0,.tuple #[],.int .i64 s,Value.func (Fn.func 157) #[] #[Qa0 3 (ptT 0 #[.int .i64 s])],.tuple #[],.tuple #[],.tuple #[],.tuple #[],.tuple #[],.tuple #[],.tuple #[],.tuple #[],.tuple #[]],params:=#[9],assign:=nav (Qaq YP 121) [1,1,0,1,0,0],body:=nav (Qaq YP 121) [1,1,0,1,0,1],defers:=4}),(4,Obj.deferred (some [])),(3,Obj.coro none),(2,Obj.cells #[.slice none 0 0] 63),(1,Obj.cells #[Qa0 0 (slT xs.length (Qac Qaw xs))] 63),(0,Obj.coro none)]
def QiQ (s:Int) (xs:List (Row)) (n:Int) (dJ0:Nat->Value):CF:=⟨121,ofList 18 [.int .i64 s,Qa0 0 (slT xs.length (Qac Qaw xs)),.tuple #[],pA 1 0,.slice none 0 0,pA 2 0,.tuple #[],.int .i64 s,Value.func (Fn.func 157) #[] #[Qa0 3 (ptT 0 #[.int .i64 s])],.int .i64 n,.tuple #[],.tuple #[],.tuple #[],.tuple #[],.tuple #[],.tuple #[],.tuple #[],.tuple #[]],[Item.code (nav (Qaq YP 121) [1,1,0,1,0,0]),Item.beginRound,Item.code (nav (Qaq YP 121) [1,1,0,1,0,1])],[],.run,some 5⟩
theorem Q0t (B:Lo) (s:Int) (xs:List (Row)) (n:Int) (dJ0:Nat->Value):CE.finK 7 (Qal YP (Qa1 YP) J0 B 6 7 (QiQ s xs n dJ0) (QhH s xs n dJ0) 7
 [(4,Qai.tidx n.toNat (QiE xs n))] 0 [] []) [(5,KS.auto),(2,KS.auto)] [(8,KS.auto)] []=some (OO.ret (.bool true),[(5,Obj.loop {state:=LoopState.ready,pending:=none,fn:=121,tmps:=#[.int .i64 s,Qa0 0 (slT xs.length (Qac Qaw xs)),.tuple #[],pA 1 0,.slice none 0 0,pA 2 0,.tuple #[],.int .i64 s,Value.func (Fn.func 157) #[] #[Qa0 3 (ptT 0 #[.int .i64 s])],.tuple #[],.tuple #[],.tuple #[],.tuple #[],.tuple #[],.tuple #[],.tuple #[],.tuple #[],.tuple #[]],params:=#[9],assign:=nav (Qaq YP 121) [1,1,0,1,0,0],body:=nav (Qaq YP 121) [1,1,0,1,0,1],defers:=4}),(2,Obj.cells #[.slice (some {block:=8,off:=0}) 1 1] 63)],[Obj.cells #[Qa0 0 (slT (List.length (xs.getD n.toNat default)) (Qac Qat (xs.getD n.toNat default)))] 22],
 [n=(↑n.toNat:Int)/\Int.toNat n < List.length xs/\Array.extract (Qac Qaw xs) (Int.toNat n * TypeInfo.size Tryz.t22) (Int.toNat n * TypeInfo.size Tryz.t22+TypeInfo.size Tryz.t22)=(QiE xs n)]):=by kernel_rfl
theorem QzH (B:Lo) (s:Int) (xs:List (Row)) (n:Int) (dJ0:Nat->Value):CE.landA 6 (Qal YP (Qa1 YP) J0 B 16 6 (Qco (none) 157 20 (([0,1,6,7]:List Nat).zip (QcS s xs n)) dJ0 Qde) (QbC (Qbp s xs) 6 (([5,2]:List Nat).zip (QcZ s xs n)) (QbF s xs n)) (6+1+(QbF s xs n).length)
 (QqB s xs n dJ0++[(5,Qai.pure (.bool true) []),(9,Qai.call (List.range 7) (OO.ret (.bool true)) ([(5,Obj.loop {state:=LoopState.ready,pending:=none,fn:=121,tmps:=(QeG s xs),params:=#[9],assign:=nav (Qaq YP 121) [1,1,0,1,0,0],body:=nav (Qaq YP 121) [1,1,0,1,0,1],defers:=4}),(2,Obj.cells #[.slice (some {block:=8,off:=0}) 1 1] 63)]++(7,Qb2)::QaP 8 [Obj.cells (Qfu xs n) 22]) 9 [5,2]),(12,hvI (n+1))]) 0 [] []) [0,1,6,7] [(5,KS.auto),(2,KS.auto)] [(8,KS.rows [(0,0)] [] (Qac (QaB 0 Qaw) [xs.getD n.toNat default]))] []=some ⟨157,20,QcU,[],.run,none,QcY s xs (n+1) ([xs.getD n.toNat default]) (1),([5,2]:List Nat).zip (QcR s xs (n+1) ([xs.getD n.toNat default]) (1)),QbH s xs (n+1) ([xs.getD n.toNat default]) (1),
 [Qbg 6 [(0,0)] [] (Qfu xs n) (Qac (QaB 0 Qaw) [xs.getD n.toNat default]),wq (n+1)=n+1,FJ YP B (QiQ s xs n dJ0) (QhH s xs n dJ0) 7 (OO.ret (.bool true)) (([(5,Obj.loop {state:=LoopState.ready,pending:=none,fn:=121,tmps:=(QeG s xs),params:=#[9],assign:=nav (Qaq YP 121) [1,1,0,1,0,0],body:=nav (Qaq YP 121) [1,1,0,1,0,1],defers:=4}),(2,Obj.cells #[.slice (some {block:=8,off:=0}) 1 1] 63)]++((7,Qb2)::QaP (7+1) [Obj.cells (Qfu xs n) 22]))++QhH s xs n dJ0) 9 (List.range 7) [5,2],Qa3 []/\Qam YP J0 159 #[.int .i64 s,.int .i64 n] (.bool true)]++QmD B s xs n dJ0⟩:=by kernel_rfl
theorem Qzj (B:Lo) (s:Int) (xs:List (Row)) (n:Int) (dJ0:Nat->Value):CE.landA 6 (Qal YP (Qa1 YP) J0 B 16 6 (Qco (none) 157 20 (([0,1,6,7]:List Nat).zip (QcS s xs n)) dJ0 Qde) (QbC (Qbp s xs) 6 (([5,2]:List Nat).zip (QcZ s xs n)) (QbF s xs n)) (6+1+(QbF s xs n).length)
 (QqB s xs n dJ0++[(5,Qai.pure (.bool false) []),(12,hvI (n+1))]) 0 [] []) [0,1,6,7] [(5,KS.auto),(2,KS.auto)] [] []=some ⟨157,20,Qde,[],.run,none,QcS s xs (n+1),([5,2]:List Nat).zip (QcZ s xs (n+1)),QbF s xs (n+1),
 [wq (n+1)=n+1,Qa3 []/\Qam YP J0 159 #[.int .i64 s,.int .i64 n] (.bool false)]++QmD B s xs n dJ0⟩:=by kernel_rfl
theorem Q0S (B:Lo) (s:Int) (xs:List (Row)) (n:Int) (dJ0:Nat->Value):CE.finK 6 (Qal YP (Qa1 YP) J0 B 7 6 (Qco (none) 157 20 (([0,1,6,7]:List Nat).zip (QcS s xs n)) dJ0 Qde) (QbC (Qbp s xs) 6 (([5,2]:List Nat).zip (QcZ s xs n)) (QbF s xs n)) (6+1+(QbF s xs n).length)
 [(0,hvF)] 0 [] []) [(5,KS.auto),(2,KS.auto)] [] []=some (OO.ret (.tuple #[]),[(5,Obj.loop {state:=LoopState.ready,pending:=none,fn:=121,tmps:=#[.int .i64 s,Qa0 0 (slT xs.length (Qac Qaw xs)),.tuple #[],pA 1 0,.slice none 0 0,pA 2 0,.tuple #[],.int .i64 s,Value.func (Fn.func 157) #[] #[Qa0 3 (ptT 0 #[.int .i64 s])],.tuple #[],.tuple #[],.tuple #[],.tuple #[],.tuple #[],.tuple #[],.tuple #[],.tuple #[],.tuple #[]],params:=#[9],assign:=nav (Qaq YP 121) [1,1,0,1,0,0],body:=nav (Qaq YP 121) [1,1,0,1,0,1],defers:=4}),(2,Obj.cells #[.slice none 0 0] 63)],[],
 [ltq n (Qcz s)=false]):=by kernel_rfl
def QlK (B:Lo) (s:Int) (xs:List (Row)) (n:Int) (acc:List Row) (acc_n:Nat) (dJ0:Nat->Value):List Prop:=[ltq n (Qcz s)=true]++([]:List Prop)
def QrH (s:Int) (xs:List (Row)) (n:Int) (acc:List Row) (acc_n:Nat) (dJ0:Nat->Value):Qas:=[(0,hvT)]
def Qhy (s:Int) (xs:List (Row)) (n:Int) (acc:List Row) (acc_n:Nat) (dJ0:Nat->Value):Qau:=[(5,Obj.loop {state:=LoopState.ready,pending:=none,fn:=121,tmps:=#[.int .i64 s,Qa0 0 (slT xs.length (Qac Qaw xs)),.tuple #[],pA 1 0,.slice none 0 0,pA 2 0,.tuple #[],.int .i64 s,Value.func (Fn.func 157) #[] #[Qa0 3 (ptT 0 #[.int .i64 s])],.tuple #[],.tuple #[],.tuple #[],.tuple #[],.tuple #[],.tuple #[],.tuple #[],.tuple #[],.tuple #[]],params:=#[9],assign:=nav (Qaq YP 121) [1,1,0,1,0,0],body:=nav (Qaq YP 121) [1,1,0,1,0,1],defers:=4}),(2,Obj.cells #[.slice (some {block:=7,off:=0}) acc_n 1] 63),(6,Obj.coro none),(7,Obj.cells (Qac (QaB 0 Qaw) acc) 22),(5,Obj.loop {state:=LoopState.ready,pending:=none,fn:=121,tmps:=#[.int .i64 s,Qa0 0 (slT xs.length (Qac Qaw xs)),.tuple #[],pA 1 0,.slice none 0 0,pA 2 0,.tuple #[],.int .i64 s,Value.func (Fn.func 157) #[] #[Qa0 3 (ptT 0 #[.int .i64 s])],.tuple #[],.tuple #[],.tuple #[],.tuple #[],.tuple #[],.tuple #[],.tuple #[],.tuple #[],.tuple #[]],params:=#[9],assign:=nav (Qaq YP 121) [1,1,0,1,0,0],body:=nav (Qaq YP 121) [1,1,0,1,0,1],defers:=4}),(4,Obj.deferred (some [])),(3,Obj.coro none),(2,Obj.cells #[.slice none 0 0] 63),(1,Obj.cells #[Qa0 0 (slT xs.length (Qac Qaw xs))] 63),(0,Obj.coro none)]
def Qjw (s:Int) (xs:List (Row)) (n:Int) (acc:List Row) (acc_n:Nat) (dJ0:Nat->Value):CF:=⟨121,ofList 18 [.int .i64 s,Qa0 0 (slT xs.length (Qac Qaw xs)),.tuple #[],pA 1 0,.slice none 0 0,pA 2 0,.tuple #[],.int .i64 s,Value.func (Fn.func 157) #[] #[Qa0 3 (ptT 0 #[.int .i64 s])],.int .i64 n,.tuple #[],.tuple #[],.tuple #[],.tuple #[],.tuple #[],.tuple #[],.tuple #[],.tuple #[]],[Item.code (nav (Qaq YP 121) [1,1,0,1,0,0]),Item.beginRound,Item.code (nav (Qaq YP 121) [1,1,0,1,0,1])],[],.run,some 5⟩
theorem Qz0 (B:Lo) (s:Int) (xs:List (Row)) (n:Int) (acc:List Row) (acc_n:Nat) (dJ0:Nat->Value):CE.finK 8 (Qal YP (Qa1 YP) J0 B 6 8 (Qjw s xs n acc acc_n dJ0) (Qhy s xs n acc acc_n dJ0) 8
 [(4,Qai.tidx n.toNat (QiE xs n)),(7,Qai.old (Hint.app (Qac (QaB 0 Qaw) acc++(Qfu xs n))))] 0 [] []) [(7,KS.dead),(5,KS.auto),(2,KS.auto)] [(9,KS.rows [(0,0)] [] (Qac (QaB 0 Qaw) (acc++[xs.getD n.toNat default])))] []=some (OO.ret (.bool true),[(7,Obj.pending #[] 0),(5,Obj.loop {state:=LoopState.ready,pending:=none,fn:=121,tmps:=#[.int .i64 s,Qa0 0 (slT xs.length (Qac Qaw xs)),.tuple #[],pA 1 0,.slice none 0 0,pA 2 0,.tuple #[],.int .i64 s,Value.func (Fn.func 157) #[] #[Qa0 3 (ptT 0 #[.int .i64 s])],.tuple #[],.tuple #[],.tuple #[],.tuple #[],.tuple #[],.tuple #[],.tuple #[],.tuple #[],.tuple #[]],params:=#[9],assign:=nav (Qaq YP 121) [1,1,0,1,0,0],body:=nav (Qaq YP 121) [1,1,0,1,0,1],defers:=4}),(2,Obj.cells #[.slice (some {block:=9,off:=0}) (acc_n+1) 1] 63)],[Obj.cells (Qac (QaB 0 Qaw) (acc++[xs.getD n.toNat default])) 22],
 [Qbg 8 [(0,0)] [] (Qac (QaB 0 Qaw) acc++(Qfu xs n)) (Qac (QaB 0 Qaw) (acc++[xs.getD n.toNat default])),Array.size (Qac (QaB 0 Qaw) acc)=acc_n * (0+1)/\acc_n+1<=maxLen/\(acc_n+1) * 24<=140737488355328/\Qac (QaB 0 Qaw) acc++(Qfu xs n)=Qac (QaB 0 Qaw) acc++(Qfu xs n),n=(↑n.toNat:Int)/\Int.toNat n < List.length xs/\Array.extract (Qac Qaw xs) (Int.toNat n * TypeInfo.size Tryz.t22) (Int.toNat n * TypeInfo.size Tryz.t22+TypeInfo.size Tryz.t22)=(QiE xs n)]):=by kernel_rfl
theorem Qy2 (B:Lo) (s:Int) (xs:List (Row)) (n:Int) (acc:List Row) (acc_n:Nat) (dJ0:Nat->Value):CE.landA 6 (Qal YP (Qa1 YP) J0 B 16 6 (Qco (none) 157 20 (([0,1,6,7]:List Nat).zip (QcY s xs n acc acc_n)) dJ0 QcU) (QbC (Qbp s xs) 6 (([5,2]:List Nat).zip (QcR s xs n acc acc_n)) (QbH s xs n acc acc_n)) (6+1+(QbH s xs n acc acc_n).length)
 (QrH s xs n acc acc_n dJ0++[(5,Qai.pure (.bool true) []),(9,Qai.call (List.range 8) (OO.ret (.bool true)) ([(7,Obj.pending #[] 0),(5,Obj.loop {state:=LoopState.ready,pending:=none,fn:=121,tmps:=(QeG s xs),params:=#[9],assign:=nav (Qaq YP 121) [1,1,0,1,0,0],body:=nav (Qaq YP 121) [1,1,0,1,0,1],defers:=4}),(2,Obj.cells #[.slice (some {block:=9,off:=0}) (acc_n+1) 1] 63)]++(8,Qb2)::QaP 9 [Obj.cells (Qac (QaB 0 Qaw) (acc++[xs.getD n.toNat default])) 22]) 10 [7,5,2]),(12,hvI (n+1))]) 0 [] []) [0,1,6,7] [(5,KS.auto),(2,KS.auto)] [(9,KS.rows [(0,0)] [] (Qac (QaB 0 Qaw) (acc++[xs.getD n.toNat default])))] []=some ⟨157,20,QcU,[],.run,none,QcY s xs (n+1) (acc++[xs.getD n.toNat default]) (acc_n+1),([5,2]:List Nat).zip (QcR s xs (n+1) (acc++[xs.getD n.toNat default]) (acc_n+1)),QbH s xs (n+1) (acc++[xs.getD n.toNat default]) (acc_n+1),
 [Qbg 6 [(0,0)] [] (Qac (QaB 0 Qaw) (acc++[xs.getD n.toNat default])) (Qac (QaB 0 Qaw) (acc++[xs.getD n.toNat default])),wq (n+1)=n+1,FJ YP B (Qjw s xs n acc acc_n dJ0) (Qhy s xs n acc acc_n dJ0) 8 (OO.ret (.bool true)) (([(7,Obj.pending #[] 0),(5,Obj.loop {state:=LoopState.ready,pending:=none,fn:=121,tmps:=(QeG s xs),params:=#[9],assign:=nav (Qaq YP 121) [1,1,0,1,0,0],body:=nav (Qaq YP 121) [1,1,0,1,0,1],defers:=4}),(2,Obj.cells #[.slice (some {block:=9,off:=0}) (acc_n+1) 1] 63)]++((8,Qb2)::QaP (8+1) [Obj.cells (Qac (QaB 0 Qaw) (acc++[xs.getD n.toNat default])) 22]))++Qhy s xs n acc acc_n dJ0) 10 (List.range 8) [7,5,2],Qa3 []/\Qam YP J0 159 #[.int .i64 s,.int .i64 n] (.bool true)]++QlK B s xs n acc acc_n dJ0⟩:=by kernel_rfl
theorem Qyt (B:Lo) (s:Int) (xs:List (Row)) (n:Int) (acc:List Row) (acc_n:Nat) (dJ0:Nat->Value):CE.landA 6 (Qal YP (Qa1 YP) J0 B 16 6 (Qco (none) 157 20 (([0,1,6,7]:List Nat).zip (QcY s xs n acc acc_n)) dJ0 QcU) (QbC (Qbp s xs) 6 (([5,2]:List Nat).zip (QcR s xs n acc acc_n)) (QbH s xs n acc acc_n)) (6+1+(QbH s xs n acc acc_n).length)
 (QrH s xs n acc acc_n dJ0++[(5,Qai.pure (.bool false) []),(12,hvI (n+1))]) 0 [] []) [0,1,6,7] [(5,KS.auto),(2,KS.auto)] [(7,KS.rows [(0,0)] [] (Qac (QaB 0 Qaw) acc))] []=some ⟨157,20,QcU,[],.run,none,QcY s xs (n+1) (acc) (acc_n),([5,2]:List Nat).zip (QcR s xs (n+1) (acc) (acc_n)),QbH s xs (n+1) (acc) (acc_n),
 [Qbg 6 [(0,0)] [] (Qac (QaB 0 Qaw) acc) (Qac (QaB 0 Qaw) acc),wq (n+1)=n+1,Qa3 []/\Qam YP J0 159 #[.int .i64 s,.int .i64 n] (.bool false)]++QlK B s xs n acc acc_n dJ0⟩:=by kernel_rfl
theorem QxD (B:Lo) (s:Int) (xs:List (Row)) (n:Int) (acc:List Row) (acc_n:Nat) (dJ0:Nat->Value):CE.finK 6 (Qal YP (Qa1 YP) J0 B 7 6 (Qco (none) 157 20 (([0,1,6,7]:List Nat).zip (QcY s xs n acc acc_n)) dJ0 QcU) (QbC (Qbp s xs) 6 (([5,2]:List Nat).zip (QcR s xs n acc acc_n)) (QbH s xs n acc acc_n)) (6+1+(QbH s xs n acc acc_n).length)
 [(0,hvF)] 0 [] []) [(5,KS.auto),(2,KS.auto)] [(7,KS.rows [(0,0)] [] (Qac (QaB 0 Qaw) acc))] []=some (OO.ret (.tuple #[]),[(5,Obj.loop {state:=LoopState.ready,pending:=none,fn:=121,tmps:=#[.int .i64 s,Qa0 0 (slT xs.length (Qac Qaw xs)),.tuple #[],pA 1 0,.slice none 0 0,pA 2 0,.tuple #[],.int .i64 s,Value.func (Fn.func 157) #[] #[Qa0 3 (ptT 0 #[.int .i64 s])],.tuple #[],.tuple #[],.tuple #[],.tuple #[],.tuple #[],.tuple #[],.tuple #[],.tuple #[],.tuple #[]],params:=#[9],assign:=nav (Qaq YP 121) [1,1,0,1,0,0],body:=nav (Qaq YP 121) [1,1,0,1,0,1],defers:=4}),(2,Obj.cells #[.slice (some {block:=7,off:=0}) acc_n 1] 63)],[Obj.cells (Qac (QaB 0 Qaw) acc) 22],
 [Qbg 6 [(0,0)] [] (Qac (QaB 0 Qaw) acc) (Qac (QaB 0 Qaw) acc),ltq n (Qcz s)=false]):=by kernel_rfl
set_option maxHeartbeats 4000000 in
theorem QkQ (s:Int) (xs:List (Row)) (h0:0<=s) (h1:s < 64) (hx:Qcz s<=xs.length) {B:Lo} (hJ:∀w,B.has w->J0 w):∀m:Nat,(∀(n:Int),∀(r:Bool),(!(([]:List Row)++Qa2 s xs n).isEmpty)=r->(Qcz s - n).toNat=m->∀(hn:0<=n),(∃dJ0:Nat->Value,(∀t,Qbd (dJ0 t))/\GoE YP B (QcB s xs) (Qbp s xs) 6 (Qco (none) 157 20 (([0,1,6,7]:List Nat).zip (QcS s xs n)) dJ0 Qde) (QbC (Qbp s xs) 6 (([5,2]:List Nat).zip (QcZ s xs n)) (QbF s xs n)) (6+1+(QbF s xs n).length) ([5,2]:List Nat))->FinK YP B (QcB s xs) (Qbp s xs) 6 (.ret (.tuple #[])) (([5,2]:List Nat).zip ([Obj.loop {state:=LoopState.ready,pending:=none,fn:=121,tmps:=#[.int .i64 s,Qa0 0 (slT xs.length (Qac Qaw xs)),.tuple #[],pA 1 0,.slice none 0 0,pA 2 0,.tuple #[],.int .i64 s,Value.func (Fn.func 157) #[] #[Qa0 3 (ptT 0 #[.int .i64 s])],.tuple #[],.tuple #[],.tuple #[],.tuple #[],.tuple #[],.tuple #[],.tuple #[],.tuple #[],.tuple #[]],params:=#[9],assign:=nav (Qaq YP 121) [1,1,0,1,0,0],body:=nav (Qaq YP 121) [1,1,0,1,0,1],defers:=4},.cells #[bif r then .slice (some ⟨7,0,none⟩) (([]:List Row)++Qa2 s xs n).length 1 else .slice none 0 0] 63 (0,0)])) (bif r then [Go.Obj.cells (Qac (QaB 0 Qaw) (([]:List Row)++Qa2 s xs n)) 22 (0,0)] else []) ([5,2]:List Nat))/\(∀(n:Int) (acc:List Row) (acc_n:Nat),∀(r:Bool),(!(acc++Qa2 s xs n).isEmpty)=r->(Qcz s - n).toNat=m->∀(hn:0<=n) (hacc:acc_n=acc.length) (haccb:acc≠[]/\(acc_n:Int)<=n),(∃dJ0:Nat->Value,(∀t,Qbd (dJ0 t))/\GoE YP B (QcB s xs) (Qbp s xs) 6 (Qco (none) 157 20 (([0,1,6,7]:List Nat).zip (QcY s xs n acc acc_n)) dJ0 QcU) (QbC (Qbp s xs) 6 (([5,2]:List Nat).zip (QcR s xs n acc acc_n)) (QbH s xs n acc acc_n)) (6+1+(QbH s xs n acc acc_n).length) ([5,2]:List Nat))->FinK YP B (QcB s xs) (Qbp s xs) 6 (.ret (.tuple #[])) (([5,2]:List Nat).zip ([Obj.loop {state:=LoopState.ready,pending:=none,fn:=121,tmps:=#[.int .i64 s,Qa0 0 (slT xs.length (Qac Qaw xs)),.tuple #[],pA 1 0,.slice none 0 0,pA 2 0,.tuple #[],.int .i64 s,Value.func (Fn.func 157) #[] #[Qa0 3 (ptT 0 #[.int .i64 s])],.tuple #[],.tuple #[],.tuple #[],.tuple #[],.tuple #[],.tuple #[],.tuple #[],.tuple #[],.tuple #[]],params:=#[9],assign:=nav (Qaq YP 121) [1,1,0,1,0,0],body:=nav (Qaq YP 121) [1,1,0,1,0,1],defers:=4},.cells #[bif r then .slice (some ⟨7,0,none⟩) (acc++Qa2 s xs n).length 1 else .slice none 0 0] 63 (0,0)])) (bif r then [Go.Obj.cells (Qac (QaB 0 Qaw) (acc++Qa2 s xs n)) 22 (0,0)] else []) ([5,2]:List Nat)):=by
 intro m0;induction m0 using Nat.strongRecOn with
 | _ m0 ih0=>
   refine ⟨?_, ?_⟩
   ·intro n r1 hr1 hm0 hn ⟨dJ0,hdJ0,hg0⟩;have hl:=QfM h0 h1;by_cases q0:(n:Int) < (Qcz s)
    ·have hp1:Qa3 (QmD B s xs n dJ0):=by
      exact ⟨(Qbe q0),trivial⟩
     cases q1:Qlg s n with
     | true=>
       have rj2:FJ YP B (QiQ s xs n dJ0) (QhH s xs n dJ0) 7 (OO.ret (.bool true)) (([(5,Obj.loop {state:=LoopState.ready,pending:=none,fn:=121,tmps:=#[.int .i64 s,Qa0 0 (slT xs.length (Qac Qaw xs)),.tuple #[],pA 1 0,.slice none 0 0,pA 2 0,.tuple #[],.int .i64 s,Value.func (Fn.func 157) #[] #[Qa0 3 (ptT 0 #[.int .i64 s])],.tuple #[],.tuple #[],.tuple #[],.tuple #[],.tuple #[],.tuple #[],.tuple #[],.tuple #[],.tuple #[]],params:=#[9],assign:=nav (Qaq YP 121) [1,1,0,1,0,0],body:=nav (Qaq YP 121) [1,1,0,1,0,1],defers:=4}),(2,Obj.cells #[.slice (some {block:=8,off:=0}) 1 1] 63)]++((7,Qb2)::QaP (7+1) [Obj.cells #[Qa0 0 (slT (List.length (xs.getD n.toNat default)) (Qac Qat (xs.getD n.toNat default)))] 22]))++QhH s xs n dJ0) 9 (List.range 7) [5,2]:=by
        have s2:=Qf2 (s:=s) (xs:=xs) q0 q1;exact FinK.fjB (GoE.finK okF hJ Qab (Qap (by kernel_rfl)) (Qak (by kernel_rfl)) ((GoE.refl (P:=YP) (B:=B) (c0:=QiQ s xs n dJ0) (Qap (by kernel_rfl))).widen (Wf:=((([(5,KS.auto),(2,KS.auto)]):List (Nat×KS)).map (·.1))) (by simp) (Qak (by kernel_rfl))) (Q0t B s xs n dJ0)
         ⟨⟨by omega,by omega,(Qag (z:=1) (fun _=> rfl) (by omega))⟩,trivial⟩) (ex:=[]) (by kernel_rfl) (Qb4 _)
       have s2:=Qf2 (s:=s) (xs:=xs) q0 q1;exact ((ih0 _ (by omega)).2 (n+1) ([xs.getD n.toNat default]) (1) r1 (by (rw [<-hr1,s2];simp;done)) rfl (by omega) (by (simp_all;done)) (by (refine ⟨by simp, ?_⟩;omega))
        (GoE.landA okF hJ Qab (Qap (by kernel_rfl)) (Qak (by kernel_rfl)) hg0 (QzH B s xs n dJ0)
        ⟨(by exact (QhT (by exact ⟨(.reg (List.Mem.head _) rfl),trivial⟩))),⟨(QaQ (by omega) (by omega)),⟨rj2,⟨⟨trivial,(by have t_:=Q3R (s) (n) (by omega) (by omega);rw [q1] at t_;exact t_)⟩,hp1⟩⟩⟩⟩ (by kernel_rfl) (by kernel_rfl) (fun l hl=> by cases hl <;> decide))).cast (by rfl) (by (rw [s2];rfl)) (by (rw [s2];rfl))
     | false=>
       have s2:=Qjs (s:=s) (xs:=xs) q0 q1;exact ((ih0 _ (by omega)).1 (n+1) r1 (by (rw [<-hr1,s2];done)) rfl (by omega)
        (GoE.landA okF hJ Qab (Qap (by kernel_rfl)) (Qak (by kernel_rfl)) hg0 (Qzj B s xs n dJ0)
        ⟨(QaQ (by omega) (by omega)),⟨⟨trivial,(by have t_:=Q3R (s) (n) (by omega) (by omega);rw [q1] at t_;exact t_)⟩,hp1⟩⟩ (by kernel_rfl) (by kernel_rfl) (fun l hl=> by cases hl <;> decide))).cast (by rfl) (by (rw [s2];done)) (by (rw [s2];done))
    ·have s2:=Qjp (s:=s) (xs:=xs) (n:=n) (by omega);exact (GoE.finK okF hJ Qab (Qap (by kernel_rfl)) (Qak (by kernel_rfl)) hg0 (Q0S B s xs n dJ0)
      ⟨(Qbj (Int.not_lt.1 q0)),trivial⟩).cast (by rfl) (by (subst hr1;rw [s2];rfl)) (by (subst hr1;rw [s2];rfl))
   ·intro n acc acc_n r1 hr1 hm0 hn hacc haccb ⟨dJ0,hdJ0,hg0⟩;have hl:=QfM h0 h1;by_cases q0:(n:Int) < (Qcz s)
    ·have hp2:Qa3 (QlK B s xs n acc acc_n dJ0):=by
      exact ⟨(Qbe q0),trivial⟩
     cases q1:Qlg s n with
     | true=>
       have rj2:FJ YP B (Qjw s xs n acc acc_n dJ0) (Qhy s xs n acc acc_n dJ0) 8 (OO.ret (.bool true)) (([(7,Obj.pending #[] 0),(5,Obj.loop {state:=LoopState.ready,pending:=none,fn:=121,tmps:=#[.int .i64 s,Qa0 0 (slT xs.length (Qac Qaw xs)),.tuple #[],pA 1 0,.slice none 0 0,pA 2 0,.tuple #[],.int .i64 s,Value.func (Fn.func 157) #[] #[Qa0 3 (ptT 0 #[.int .i64 s])],.tuple #[],.tuple #[],.tuple #[],.tuple #[],.tuple #[],.tuple #[],.tuple #[],.tuple #[],.tuple #[]],params:=#[9],assign:=nav (Qaq YP 121) [1,1,0,1,0,0],body:=nav (Qaq YP 121) [1,1,0,1,0,1],defers:=4}),(2,Obj.cells #[.slice (some {block:=9,off:=0}) (acc_n+1) 1] 63)]++((8,Qb2)::QaP (8+1) [Obj.cells (Qac (QaB 0 Qaw) (acc++[xs.getD n.toNat default])) 22]))++Qhy s xs n acc acc_n dJ0) 10 (List.range 8) [7,5,2]:=by
        have s2:=Qf2 (s:=s) (xs:=xs) q0 q1;exact FinK.fjB (GoE.finK okF hJ Qab (Qap (by kernel_rfl)) (Qak (by kernel_rfl)) ((GoE.refl (P:=YP) (B:=B) (c0:=Qjw s xs n acc acc_n dJ0) (Qap (by kernel_rfl))).widen (Wf:=((([(7,KS.dead),(5,KS.auto),(2,KS.auto)]):List (Nat×KS)).map (·.1))) (by simp) (Qak (by kernel_rfl))) (Qz0 B s xs n acc acc_n dJ0)
         ⟨(by exact (Qgy (QaY (Qbc (fun _=> rfl)) (List.Mem.head _)) (by exact ⟨(.reg (List.Mem.head _) rfl),trivial⟩))),⟨⟨(by (rw [Qb7 (z:=1) (fun _=> rfl)];first | omega | (simp;omega) | (simp_all;done))),(by unfold maxLen;omega),by omega,rfl⟩,⟨⟨by omega,by omega,(Qag (z:=1) (fun _=> rfl) (by omega))⟩,trivial⟩⟩⟩) (ex:=[7]) (by kernel_rfl) ⟨trivial,⟨trivial,⟨trivial,⟨(Qfb (t:=22) (fl:=(0,0)) (Qbc (fun _=> rfl)) (by decide)),⟨trivial,⟨trivial,⟨trivial,⟨trivial,⟨trivial,⟨trivial,trivial⟩⟩⟩⟩⟩⟩⟩⟩⟩⟩
       have s2:=Qf2 (s:=s) (xs:=xs) q0 q1;exact ((ih0 _ (by omega)).2 (n+1) (acc++[xs.getD n.toNat default]) (acc_n+1) r1 (by (rw [<-hr1,s2];simp;done)) rfl (by omega) (by (simp_all;done)) (by (simp_all;done))
        (GoE.landA okF hJ Qab (Qap (by kernel_rfl)) (Qak (by kernel_rfl)) hg0 (Qy2 B s xs n acc acc_n dJ0)
        ⟨(by exact (QaY (Qbc (fun _=> rfl)) (List.Mem.head _))),⟨(QaQ (by omega) (by omega)),⟨rj2,⟨⟨trivial,(by have t_:=Q3R (s) (n) (by omega) (by omega);rw [q1] at t_;exact t_)⟩,hp2⟩⟩⟩⟩ (by kernel_rfl) (by kernel_rfl) (fun l hl=> by cases hl <;> decide))).cast (by rfl) (by (rw [s2,<-List.append_assoc];done)) (by (rw [s2,<-List.append_assoc];done))
     | false=>
       have s2:=Qjs (s:=s) (xs:=xs) q0 q1;exact ((ih0 _ (by omega)).2 (n+1) (acc) (acc_n) r1 (by (rw [<-hr1,s2];done)) rfl (by omega) (by with_reducible assumption) (by exact ⟨haccb.1,by omega⟩)
        (GoE.landA okF hJ Qab (Qap (by kernel_rfl)) (Qak (by kernel_rfl)) hg0 (Qyt B s xs n acc acc_n dJ0)
        ⟨(by exact (QaY (Qbc (fun _=> rfl)) (List.Mem.head _))),⟨(QaQ (by omega) (by omega)),⟨⟨trivial,(by have t_:=Q3R (s) (n) (by omega) (by omega);rw [q1] at t_;exact t_)⟩,hp2⟩⟩⟩ (by kernel_rfl) (by kernel_rfl) (fun l hl=> by cases hl <;> decide))).cast (by rfl) (by (rw [s2];done)) (by (rw [s2];done))
    ·have s2:=Qjp (s:=s) (xs:=xs) (n:=n) (by omega);exact (GoE.finK okF hJ Qab (Qap (by kernel_rfl)) (Qak (by kernel_rfl)) hg0 (QxD B s xs n acc acc_n dJ0)
      ⟨(by exact (QaY (Qbc (fun _=> rfl)) (List.Mem.head _))),⟨(Qbj (Int.not_lt.1 q0)),trivial⟩⟩).cast (by rfl) (by (subst hr1;simp only [Q2C haccb.1,s2,List.append_nil,hacc,Bool.not_false,cond_true];rfl)) (by (subst hr1;simp only [Q2C haccb.1,s2,List.append_nil,hacc,Bool.not_false,cond_true];done))

theorem Q1f (B:Lo) (s:Int) (xs:List (Row)):CE.landA 6 (Qal YP (Qa1 YP) J0 B 4 6 (QcB s xs) (Qbp s xs) 6
 [(1,Qai.old (Hint.val (Value.int IntKind.u64 s))),(2,Qai.pure (.int .i64 (Qcz s)) [])] 0 [] []) [0,1,6,7] [(5,KS.auto),(2,KS.auto)] [] []=some ⟨157,20,Qde,[],.run,none,QcS s xs (0),([5,2]:List Nat).zip (QcZ s xs (0)),QbF s xs (0),
 [Qa3 []/\Qam YP J0 158 #[Value.int IntKind.u64 s] (.int .i64 (Qcz s)),IntKind.wrap IntKind.u64 s=s]⟩:=by kernel_rfl
theorem Qvu (B:Lo) (s:Int) (xs:List (Row)):QaU (Qal YP (Qa1 YP) J0 B 16 1 (Qaj YP 121 18 (([.int .i64 s,slT xs.length (Qac Qaw xs)]).map (Qao 0 4))) H00 1
 (Qqf s xs++[(5,Qai.call (List.range 6) (OO.ret (.tuple #[])) ([(5,Obj.loop {state:=LoopState.ready,pending:=none,fn:=121,tmps:=(QeG s xs),params:=#[9],assign:=nav (Qaq YP 121) [1,1,0,1,0,0],body:=nav (Qaq YP 121) [1,1,0,1,0,1],defers:=4}),(2,Obj.cells #[.slice (some {block:=7,off:=0}) (List.length ([]++Qa2 s xs 0)) 1] 63)]++(6,Qb2)::QaP 7 [Obj.cells (Qac (QaB 0 Qaw) ([]++Qa2 s xs 0)) 22]) 8 [5,2])]) 0 [] []) [{k:=7,rs:=[0],cs:=Qac Qaw ([]++Qa2 s xs 0)}]=some (slT (List.length ([]++Qa2 s xs 0)) (Fz.cs {k:=7,rs:=[0],cs:=Qac Qaw ([]++Qa2 s xs 0)}),
 [Qb6 (Fz.rs {k:=7,rs:=[0],cs:=Qac Qaw ([]++Qa2 s xs 0)}) (Qac (QaB 0 Qaw) ([]++Qa2 s xs 0)) (Fz.cs {k:=7,rs:=[0],cs:=Qac Qaw ([]++Qa2 s xs 0)}),FJ YP B (QcB s xs) (Qbp s xs) 6 (OO.ret (.tuple #[])) (([(5,Obj.loop {state:=LoopState.ready,pending:=none,fn:=121,tmps:=(QeG s xs),params:=#[9],assign:=nav (Qaq YP 121) [1,1,0,1,0,0],body:=nav (Qaq YP 121) [1,1,0,1,0,1],defers:=4}),(2,Obj.cells #[.slice (some {block:=7,off:=0}) (List.length ([]++Qa2 s xs 0)) 1] 63)]++((6,Qb2)::QaP (6+1) [Obj.cells (Qac (QaB 0 Qaw) ([]++Qa2 s xs 0)) 22]))++Qbp s xs) 8 (List.range 6) [5,2]]++Qm3 B s xs):=by kernel_rfl
theorem Qwj (B:Lo) (s:Int) (xs:List (Row)):CE.landA 6 (Qal YP (Qa1 YP) J0 B 4 6 (QcB s xs) (Qbp s xs) 6
 [(1,Qai.old (Hint.val (Value.int IntKind.u64 s))),(2,Qai.pure (.int .i64 (Qcz s)) [])] 0 [] []) [0,1,6,7] [(5,KS.auto),(2,KS.auto)] [] []=some ⟨157,20,Qde,[],.run,none,QcS s xs (0),([5,2]:List Nat).zip (QcZ s xs (0)),QbF s xs (0),
 [Qa3 []/\Qam YP J0 158 #[Value.int IntKind.u64 s] (.int .i64 (Qcz s)),IntKind.wrap IntKind.u64 s=s]⟩:=by kernel_rfl
theorem Qwm (B:Lo) (s:Int) (xs:List (Row)):QaU (Qal YP (Qa1 YP) J0 B 16 1 (Qaj YP 121 18 (([.int .i64 s,slT xs.length (Qac Qaw xs)]).map (Qao 0 4))) H00 1
 (Qqf s xs++[(5,Qai.call (List.range 6) (OO.ret (.tuple #[])) ([(5,Obj.loop {state:=LoopState.ready,pending:=none,fn:=121,tmps:=(QeG s xs),params:=#[9],assign:=nav (Qaq YP 121) [1,1,0,1,0,0],body:=nav (Qaq YP 121) [1,1,0,1,0,1],defers:=4}),(2,Obj.cells #[.slice none 0 0] 63)]++(6,Qb2)::QaP 7 []) 7 [5,2])]) 0 [] []) []=some (slT 0 #[],
 [FJ YP B (QcB s xs) (Qbp s xs) 6 (OO.ret (.tuple #[])) (([(5,Obj.loop {state:=LoopState.ready,pending:=none,fn:=121,tmps:=(QeG s xs),params:=#[9],assign:=nav (Qaq YP 121) [1,1,0,1,0,0],body:=nav (Qaq YP 121) [1,1,0,1,0,1],defers:=4}),(2,Obj.cells #[.slice none 0 0] 63)]++((6,Qb2)::QaP (6+1) []))++Qbp s xs) 7 (List.range 6) [5,2]]++Qm3 B s xs):=by kernel_rfl
set_option maxHeartbeats 4000000 in
theorem Q3z (s:Int) (xs:List (Row)) (h0:0<=s) (h1:s < 64) (hx:Qcz s<=xs.length) {B:Lo} (hJ:∀w,B.has w->J0 w):EndsT YP B (Qaj YP 121 18 (([.int .i64 s,slT xs.length (Qac Qaw xs)]).map (Qao 0 4))) (slT (Qa2 s xs 0).length (Qac Qaw (Qa2 s xs 0))):=by
 have hl:=QfM h0 h1;have rj0:FJ YP B (Qjm s xs) (Qh7 s xs) 3 (OO.ret (Value.func (Fn.func 157) #[] #[Qa0 3 (ptT 0 #[.int .i64 s])])) (([]++((3,Qb2)::QaP (3+1) []))++Qh7 s xs) 4 (List.range 3) []:=by
  exact FinK.fjB (GoE.finK okF hJ Qab (Qap (by kernel_rfl)) (Qak (by kernel_rfl)) ((GoE.refl (P:=YP) (B:=B) (c0:=Qjm s xs) (Qap (by kernel_rfl))).widen (Wf:=((([]):List (Nat×KS)).map (·.1))) (by simp) (Qak (by kernel_rfl))) (Q09 B s xs)
   ⟨(QgO (by kernel_rfl)),trivial⟩) (ex:=[]) (by kernel_rfl) (Qb4 _)
 have hp0:Qa3 (Qm3 B s xs):=by
  exact ⟨rj0,trivial⟩
 cases q0: !List.isEmpty ([]++Qa2 s xs 0) with
 | true=>
   have rj1:FJ YP B (QcB s xs) (Qbp s xs) 6 (OO.ret (.tuple #[])) (([(5,Obj.loop {state:=LoopState.ready,pending:=none,fn:=121,tmps:=#[.int .i64 s,Qa0 0 (slT xs.length (Qac Qaw xs)),.tuple #[],pA 1 0,.slice none 0 0,pA 2 0,.tuple #[],.int .i64 s,Value.func (Fn.func 157) #[] #[Qa0 3 (ptT 0 #[.int .i64 s])],.tuple #[],.tuple #[],.tuple #[],.tuple #[],.tuple #[],.tuple #[],.tuple #[],.tuple #[],.tuple #[]],params:=#[9],assign:=nav (Qaq YP 121) [1,1,0,1,0,0],body:=nav (Qaq YP 121) [1,1,0,1,0,1],defers:=4}),(2,Obj.cells #[.slice (some {block:=7,off:=0}) (List.length ([]++Qa2 s xs 0)) 1] 63)]++((6,Qb2)::QaP (6+1) [Obj.cells (Qac (QaB 0 Qaw) ([]++Qa2 s xs 0)) 22]))++Qbp s xs) 8 (List.range 6) [5,2]:=by
    exact FinK.fjB ((QkQ s xs h0 h1 hx hJ _).1 (0) true q0 rfl (by omega)
     (GoE.landA okF hJ Qab (Qap (by kernel_rfl)) (Qak (by kernel_rfl)) ((GoE.refl (P:=YP) (B:=B) (c0:=QcB s xs) (Qap (by kernel_rfl))).widen (Wf:=((([(5,KS.auto),(2,KS.auto)]):List (Nat×KS)).map (·.1))) (by simp) (Qak (by kernel_rfl))) (Q1f B s xs)
     ⟨⟨trivial,Q6Y (s) (by with_reducible assumption) (by with_reducible assumption)⟩,⟨(IntWalk.u64_in _ ⟨by omega,by omega⟩),trivial⟩⟩ (by kernel_rfl) (by kernel_rfl) (fun l hl=> by cases hl <;> decide))) (ex:=[]) (by kernel_rfl) (Qb4 _)
   exact (GoE.endsT okF hJ Qab GoE.start (Qvu B s xs)
    ⟨(Qdf (Qbc (fun _=> rfl)) (List.Mem.head _)),⟨rj1,hp0⟩⟩).cast (by rfl)
 | false=>
   have rj1:FJ YP B (QcB s xs) (Qbp s xs) 6 (OO.ret (.tuple #[])) (([(5,Obj.loop {state:=LoopState.ready,pending:=none,fn:=121,tmps:=#[.int .i64 s,Qa0 0 (slT xs.length (Qac Qaw xs)),.tuple #[],pA 1 0,.slice none 0 0,pA 2 0,.tuple #[],.int .i64 s,Value.func (Fn.func 157) #[] #[Qa0 3 (ptT 0 #[.int .i64 s])],.tuple #[],.tuple #[],.tuple #[],.tuple #[],.tuple #[],.tuple #[],.tuple #[],.tuple #[],.tuple #[]],params:=#[9],assign:=nav (Qaq YP 121) [1,1,0,1,0,0],body:=nav (Qaq YP 121) [1,1,0,1,0,1],defers:=4}),(2,Obj.cells #[.slice none 0 0] 63)]++((6,Qb2)::QaP (6+1) []))++Qbp s xs) 7 (List.range 6) [5,2]:=by
    exact FinK.fjB ((QkQ s xs h0 h1 hx hJ _).1 (0) false q0 rfl (by omega)
     (GoE.landA okF hJ Qab (Qap (by kernel_rfl)) (Qak (by kernel_rfl)) ((GoE.refl (P:=YP) (B:=B) (c0:=QcB s xs) (Qap (by kernel_rfl))).widen (Wf:=((([(5,KS.auto),(2,KS.auto)]):List (Nat×KS)).map (·.1))) (by simp) (Qak (by kernel_rfl))) (Qwj B s xs)
     ⟨⟨trivial,Q6Y (s) (by with_reducible assumption) (by with_reducible assumption)⟩,⟨(IntWalk.u64_in _ ⟨by omega,by omega⟩),trivial⟩⟩ (by kernel_rfl) (by kernel_rfl) (fun l hl=> by cases hl <;> decide))) (ex:=[]) (by kernel_rfl) (Qb4 _)
   exact (GoE.endsT okF hJ Qab GoE.start (Qwm B s xs)
    ⟨rj1,hp0⟩).cast (by (rw [Q69 q0];rfl))
theorem Q5S (s:Int) (xs:List (Row)) (h0:0<=s) (h1:s < 64) (hx:Qcz s<=xs.length):Qam YP J0 121 #[.int .i64 s,slT xs.length (Qac Qaw xs)] (slT (Qa2 s xs 0).length (Qac Qaw (Qa2 s xs 0))):=
 QaG (ts:=[.int .i64 s,slT xs.length (Qac Qaw xs)]) Qb1 (c0:=Qaj YP 121 18 (([.int .i64 s,slT xs.length (Qac Qaw xs)]).map (Qao 0 4))) (by kernel_rfl) (by kernel_rfl) fun B hJ=> Q3z s xs h0 h1 hx hJ
end
end Go.Proofs.YtiabgkiccaodmaaGreat

