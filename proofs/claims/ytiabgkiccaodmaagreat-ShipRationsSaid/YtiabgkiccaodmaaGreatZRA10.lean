/- The first day on which goods are wanting. -/
import Derived.Test.YtiabgkiccaodmaaGreatZRA09
set_option linter.all false
namespace Go.Proofs.YtiabgkiccaodmaaGreat
open Go Go.CE Go.RowKit
noncomputable section
set_option maxRecDepth 100000
structure Gd where
 stock:Int
 use:Int
 br:Int
 ships:List Bool
deriving Inhabited
def Qcv (g:Gd):List Value:=[.int .i64 g.stock,.int .i64 g.use,.int .i64 g.br,slB g.ships]
abbrev QhW (use left:Int):Int:=left - if use < left then use else left
def QaL (use br:Int):List Bool->Int->Int->Int
 | [],_,_=> -1
 | c::cs,day,left=> bif decide ((left+bif c then br else 0) < use) then day else QaL use br cs (day+1) (QhW use (left+bif c then br else 0))
def Qi4 (use br:Int):List Bool->Int->Int
 | [],left=> left
 | c::cs,left=> Qi4 use br cs (QhW use (left+bif c then br else 0))
def gdB (g:Gd):Prop:=0<=g.stock/\g.stock<=1000000000/\0<=g.use/\g.use<=1000000000/\0<=g.br/\g.br<=1000000000/\g.ships.length<=1000
theorem Qcx {use br:Int} {l:List Bool} {i left:Int} (h0:0<=i) (h:i < l.length):QaL use br (l.drop i.toNat) i left=bif decide ((left+bif l.getD i.toNat default then br else 0) < use) then i else QaL use br (l.drop (i+1).toNat) (i+1) (QhW use (left+bif l.getD i.toNat default then br else 0)):=by
 obtain ⟨k,rfl⟩:∃k:Nat,i=k:=⟨i.toNat,by omega⟩
 have hk:k < l.length:=by omega
 have e1:((k:Int)).toNat=k:=by omega
 have e2:((k:Int)+1).toNat=k+1:=by omega
 rw [e1,e2,List.drop_eq_getElem_cons hk]
 simp [QaL,List.getD_eq_getElem?_getD,hk]
theorem Qte {use br:Int} {l:List Bool} {i left:Int} (h:l.length<=i):QaL use br (l.drop i.toNat) i left= -1:=by
 rw [List.drop_eq_nil_of_le (by omega)];rfl
theorem Qdk {use br:Int} {l:List Bool} {i left:Int} (h0:0<=i) (h:i < l.length):Qi4 use br (l.drop i.toNat) left=Qi4 use br (l.drop (i+1).toNat) (QhW use (left+bif l.getD i.toNat default then br else 0)):=by
 obtain ⟨k,rfl⟩:∃k:Nat,i=k:=⟨i.toNat,by omega⟩
 have hk:k < l.length:=by omega
 have e1:((k:Int)).toNat=k:=by omega
 have e2:((k:Int)+1).toNat=k+1:=by omega
 rw [e1,e2,List.drop_eq_getElem_cons hk]
 simp [Qi4,List.getD_eq_getElem?_getD,hk]
theorem Qxj {use br:Int} {l:List Bool} {i left:Int} (h:l.length<=i):Qi4 use br (l.drop i.toNat) left=left:=by
 rw [List.drop_eq_nil_of_le (by omega)];rfl
theorem Qgb {use br:Int}:∀(l:List Bool) (day left:Int),0<=day->QaL use br l day left= -1\/0<=QaL use br l day left
 | [],_,_,_=> .inl rfl
 | c::cs,day,left,h=> by
   simp only [QaL]
   cases decide ((left+bif c then br else 0) < use) with
   | true=> exact .inr h
   | false=> exact Qgb cs _ _ (by omega)
def QaM (g:Gd):Qap:=[(2,Obj.cells #[.int .i64 0] 3),(1,Obj.cells #[.int .i64 g.stock,.int .i64 g.use,.int .i64 g.br,Qa0 0 (slT g.ships.length (Qac QdM g.ships))] 129),(0,Obj.coro none)]
def QbA (g:Gd):CF:=⟨126,ofList 38 [.agg #[.int .i64 g.stock,.int .i64 g.use,.int .i64 g.br,Qa0 0 (slT g.ships.length (Qac QdM g.ships))],Value.func (Fn.func 149) #[] #[]],[Item.code (Qal Tryz.prog 126)],[],.run,none⟩
def Qbh (g:Gd) (i left:Int):List Value:=[Value.func (Fn.func 149) #[] #[],pA 4 0,.int .i64 left,Qa0 0 (slT g.ships.length (Qac QdM g.ships)),.int .i64 (↑g.ships.length:Int),.int .i64 i]
def Qbf (g:Gd) (i left:Int):List Obj:=[]
def QaF (g:Gd) (i left:Int):List Obj:=[Obj.cells #[.int .i64 g.stock,.int .i64 g.use,.int .i64 g.br,Qa0 0 (slT g.ships.length (Qac QdM g.ships))] 129]
def Qbg:List Item:=([.code [1,1,0,1,0,0],.inLoop [1,1,0,1,0,0],.inBlock 0,.code [1,1,1]]).map (it (Qal Tryz.prog 126))
def Qgc (B:Lo) (g:Gd) (i left:Int) (dJ0:Nat->Value):List Prop:=[ltq i (↑g.ships.length:Int)=true]++([]:List Prop)
def QjC (g:Gd) (i left:Int) (dJ0:Nat->Value):Qay:=[(0,hvT)]
def Qg9 (B:Lo) (g:Gd) (i left:Int) (dJ0:Nat->Value):List Prop:=[wq (left+g.br)=left+g.br,i=(↑i.toNat:Int)/\Int.toNat i < List.length g.ships/\Array.extract (Qac QdM g.ships) (Int.toNat i * TypeInfo.size Tryz.t4) (Int.toNat i * TypeInfo.size Tryz.t4+TypeInfo.size Tryz.t4)=#[.bool true]]++Qgc B g i left dJ0
def Qjo (g:Gd) (i left:Int) (dJ0:Nat->Value):Qay:=QjC g i left dJ0++[(2,Qaj.tidx i.toNat #[.bool true]),(10,hvI (left+g.br))]
def QdQ (g:Gd) (i left:Int) (dJ0:Nat->Value):Qap:=[(3,Obj.coro none),(4,Obj.cells #[.int .i64 g.stock,.int .i64 g.use,.int .i64 g.br,Qa0 0 (slT g.ships.length (Qac QdM g.ships))] 129),(2,Obj.cells #[.int .i64 0] 3),(1,Obj.cells #[.int .i64 g.stock,.int .i64 g.use,.int .i64 g.br,Qa0 0 (slT g.ships.length (Qac QdM g.ships))] 129),(0,Obj.coro none)]
def QeO (g:Gd) (i left:Int) (dJ0:Nat->Value):CF:=⟨149,ofList 4 [.int .i64 i],[Item.code (Qal Tryz.prog 149)],[],.run,none⟩
theorem Qqa (B:Lo) (g:Gd) (i left:Int) (dJ0:Nat->Value):CE.finK 5 (Qak Tryz.prog (Qa1 Tryz.prog) J0 B 2 5 (QeO g i left dJ0) (QdQ g i left dJ0) 5
 [] 0 [] []) [] [] []=some (OO.pan (Value.iface 183 (.int .i64 i)),[],[],
 []):=by kernel_rfl
theorem Qp3 (B:Lo) (g:Gd) (i left:Int) (dJ0:Nat->Value):CE.finK 3 (Qak Tryz.prog (Qa1 Tryz.prog) J0 B 20 3 (Qcw (none) 126 38 (([1,2,5,11,12,13]:List Nat).zip (Qbh g i left)) dJ0 Qbg) (QbE (QaM g) 3 (([]:List Nat).zip (Qbf g i left)) (QaF g i left)) (3+1+(QaF g i left).length)
 (Qjo g i left dJ0++[(15,hvT),(18,Qaj.call (List.range 5) (OO.pan (Value.iface 183 (.int .i64 i))) ([]++(5,Qby)::QaK 6 []) 6 [])]) 0 [] []) [] [] []=some (OO.pan (Value.iface 183 (.int .i64 i)),[],[],
 [FJ Tryz.prog B (QeO g i left dJ0) (QdQ g i left dJ0) 5 (OO.pan (Value.iface 183 (.int .i64 i))) (([]++((5,Qby)::QaK (5+1) []))++QdQ g i left dJ0) 6 (List.range 5) [],ltq (left+g.br) g.use=true]++Qg9 B g i left dJ0):=by kernel_rfl
theorem QoO (B:Lo) (g:Gd) (i left:Int) (dJ0:Nat->Value):CE.landA 3 (Qak Tryz.prog (Qa1 Tryz.prog) J0 B 23 3 (Qcw (none) 126 38 (([1,2,5,11,12,13]:List Nat).zip (Qbh g i left)) dJ0 Qbg) (QbE (QaM g) 3 (([]:List Nat).zip (Qbf g i left)) (QaF g i left)) (3+1+(QaF g i left).length)
 (Qjo g i left dJ0++[(15,hvF),(21,hvI (left+g.br - if g.use < left+g.br then g.use else left+g.br)),(23,hvI (i+1))]) 0 [] []) [1,2,5,11,12,13] [] [(4,KS.auto)] []=some ⟨126,38,Qbg,[],.run,none,Qbh g (i+1) (left+g.br - if g.use < left+g.br then g.use else left+g.br),([]:List Nat).zip (Qbf g (i+1) (left+g.br - if g.use < left+g.br then g.use else left+g.br)),QaF g (i+1) (left+g.br - if g.use < left+g.br then g.use else left+g.br),
 [wq (i+1)=i+1,wq (left+g.br - if g.use < left+g.br then g.use else left+g.br)=left+g.br - if g.use < left+g.br then g.use else left+g.br,ltq (left+g.br) g.use=false]++Qg9 B g i left dJ0⟩:=by kernel_rfl
def Qgh (B:Lo) (g:Gd) (i left:Int) (dJ0:Nat->Value):List Prop:=[i=(↑i.toNat:Int)/\Int.toNat i < List.length g.ships/\Array.extract (Qac QdM g.ships) (Int.toNat i * TypeInfo.size Tryz.t4) (Int.toNat i * TypeInfo.size Tryz.t4+TypeInfo.size Tryz.t4)=#[.bool false]]++Qgc B g i left dJ0
def Qj6 (g:Gd) (i left:Int) (dJ0:Nat->Value):Qay:=QjC g i left dJ0++[(2,Qaj.tidx i.toNat #[.bool false])]
def Qee (g:Gd) (i left:Int) (dJ0:Nat->Value):Qap:=[(3,Obj.coro none),(4,Obj.cells #[.int .i64 g.stock,.int .i64 g.use,.int .i64 g.br,Qa0 0 (slT g.ships.length (Qac QdM g.ships))] 129),(2,Obj.cells #[.int .i64 0] 3),(1,Obj.cells #[.int .i64 g.stock,.int .i64 g.use,.int .i64 g.br,Qa0 0 (slT g.ships.length (Qac QdM g.ships))] 129),(0,Obj.coro none)]
def QeH (g:Gd) (i left:Int) (dJ0:Nat->Value):CF:=⟨149,ofList 4 [.int .i64 i],[Item.code (Qal Tryz.prog 149)],[],.run,none⟩
theorem Qoo (B:Lo) (g:Gd) (i left:Int) (dJ0:Nat->Value):CE.finK 5 (Qak Tryz.prog (Qa1 Tryz.prog) J0 B 2 5 (QeH g i left dJ0) (Qee g i left dJ0) 5
 [] 0 [] []) [] [] []=some (OO.pan (Value.iface 183 (.int .i64 i)),[],[],
 []):=by kernel_rfl
theorem QoM (B:Lo) (g:Gd) (i left:Int) (dJ0:Nat->Value):CE.finK 3 (Qak Tryz.prog (Qa1 Tryz.prog) J0 B 20 3 (Qcw (none) 126 38 (([1,2,5,11,12,13]:List Nat).zip (Qbh g i left)) dJ0 Qbg) (QbE (QaM g) 3 (([]:List Nat).zip (Qbf g i left)) (QaF g i left)) (3+1+(QaF g i left).length)
 (Qj6 g i left dJ0++[(10,hvT),(13,Qaj.call (List.range 5) (OO.pan (Value.iface 183 (.int .i64 i))) ([]++(5,Qby)::QaK 6 []) 6 [])]) 0 [] []) [] [] []=some (OO.pan (Value.iface 183 (.int .i64 i)),[],[],
 [FJ Tryz.prog B (QeH g i left dJ0) (Qee g i left dJ0) 5 (OO.pan (Value.iface 183 (.int .i64 i))) (([]++((5,Qby)::QaK (5+1) []))++Qee g i left dJ0) 6 (List.range 5) [],ltq left g.use=true]++Qgh B g i left dJ0):=by kernel_rfl
theorem Qp4 (B:Lo) (g:Gd) (i left:Int) (dJ0:Nat->Value):CE.landA 3 (Qak Tryz.prog (Qa1 Tryz.prog) J0 B 23 3 (Qcw (none) 126 38 (([1,2,5,11,12,13]:List Nat).zip (Qbh g i left)) dJ0 Qbg) (QbE (QaM g) 3 (([]:List Nat).zip (Qbf g i left)) (QaF g i left)) (3+1+(QaF g i left).length)
 (Qj6 g i left dJ0++[(10,hvF),(16,hvI (left - if g.use < left then g.use else left)),(18,hvI (i+1))]) 0 [] []) [1,2,5,11,12,13] [] [(4,KS.auto)] []=some ⟨126,38,Qbg,[],.run,none,Qbh g (i+1) (left - if g.use < left then g.use else left),([]:List Nat).zip (Qbf g (i+1) (left - if g.use < left then g.use else left)),QaF g (i+1) (left - if g.use < left then g.use else left),
 [wq (i+1)=i+1,wq (left - if g.use < left then g.use else left)=left - if g.use < left then g.use else left,ltq left g.use=false]++Qgh B g i left dJ0⟩:=by kernel_rfl
theorem QpW (B:Lo) (g:Gd) (i left:Int) (dJ0:Nat->Value):CE.finK 3 (Qak Tryz.prog (Qa1 Tryz.prog) J0 B 9 3 (Qcw (none) 126 38 (([1,2,5,11,12,13]:List Nat).zip (Qbh g i left)) dJ0 Qbg) (QbE (QaM g) 3 (([]:List Nat).zip (Qbf g i left)) (QaF g i left)) (3+1+(QaF g i left).length)
 [(0,hvF)] 0 [] []) [] [] []=some (OO.ret (.int .i64 left),[],[],
 [ltq i (↑g.ships.length:Int)=false]):=by kernel_rfl
set_option maxHeartbeats 4000000 in
theorem Qgt (g:Gd) (hg:gdB g) {B:Lo} (hJ:∀w,B.has w->J0 w):∀m:Nat,(∀(i left:Int),∀(r:Bool),(decide (0<=QaL g.use g.br (g.ships.drop i.toNat) i left))=r->(g.ships.length - i.toNat)=m->∀(h0:0<=i) (h1:0<=left) (h2:left<=1000000000 * (i+1)),(∃dJ0:Nat->Value,(∀t,QaS (dJ0 t))/\GoE Tryz.prog B (QbA g) (QaM g) 3 (Qcw (none) 126 38 (([1,2,5,11,12,13]:List Nat).zip (Qbh g i left)) dJ0 Qbg) (QbE (QaM g) 3 (([]:List Nat).zip (Qbf g i left)) (QaF g i left)) (3+1+(QaF g i left).length) ([]:List Nat))->FinK Tryz.prog B (QbA g) (QaM g) 3 (bif r then .pan (.iface 183 (.int .i64 (QaL g.use g.br (g.ships.drop i.toNat) i left))) else .ret (.int .i64 (Qi4 g.use g.br (g.ships.drop i.toNat) left))) (([]:List Nat).zip ([])) ([]) ([]:List Nat)):=by
 intro m0
 induction m0 using Nat.strongRecOn with
 | _ m0 ih0=>
   intro i left r1 hr1 hm0 h0 h1 h2 ⟨dJ0,hdJ0,hg0⟩
   by_cases q0:(i:Int) < ((↑g.ships.length:Int))
   ·
    have hp0:Qa7 (Qgc B g i left dJ0):=by
     exact ⟨(Qbl q0),trivial⟩
    cases q1:g.ships.getD i.toNat default with
    | true=>
      have hp1:Qa7 (Qg9 B g i left dJ0):=by
       unfold gdB at hg
       have s1:=Qcx (use:=g.use) (br:=g.br) (l:=g.ships) (left:=left) h0 q0
       have s2:=Qdk (use:=g.use) (br:=g.br) (l:=g.ships) (left:=left) h0 q0
       simp only [q1,cond_true,cond_false,Int.add_zero] at s1 s2
       exact ⟨(QaJ (by omega) (by omega)),⟨⟨by first | omega | (split <;> omega),by first | omega | (split <;> omega),((Qaf (z:=1) (fun _=> rfl) (by omega))).trans (by simp_all [QdM])⟩,hp0⟩⟩
      by_cases q2:(left+g.br:Int) < g.use
      ·
       have rj2:FJ Tryz.prog B (QeO g i left dJ0) (QdQ g i left dJ0) 5 (OO.pan (Value.iface 183 (.int .i64 i))) (([]++((5,Qby)::QaK (5+1) []))++QdQ g i left dJ0) 6 (List.range 5) []:=by
        unfold gdB at hg
        have s1:=Qcx (use:=g.use) (br:=g.br) (l:=g.ships) (left:=left) h0 q0
        have s2:=Qdk (use:=g.use) (br:=g.br) (l:=g.ships) (left:=left) h0 q0
        simp only [q1,cond_true,cond_false,Int.add_zero] at s1 s2
        rw [decide_eq_true q2,cond_true] at s1
        exact FinK.fjB (GoE.finK okF hJ Qab (Qan (by kernel_rfl)) (Qag (by kernel_rfl)) ((GoE.refl (P:=Tryz.prog) (B:=B) (c0:=QeO g i left dJ0) (Qan (by kernel_rfl))).widen (Wf:=((([]):List (Nat×KS)).map (·.1))) (by simp) (Qag (by kernel_rfl))) (Qqa B g i left dJ0)
         trivial) (ex:=[]) (by kernel_rfl) (Qb0 _)
       unfold gdB at hg
       have s1:=Qcx (use:=g.use) (br:=g.br) (l:=g.ships) (left:=left) h0 q0
       have s2:=Qdk (use:=g.use) (br:=g.br) (l:=g.ships) (left:=left) h0 q0
       simp only [q1,cond_true,cond_false,Int.add_zero] at s1 s2
       rw [decide_eq_true q2,cond_true] at s1
       exact (GoE.finK okF hJ Qab (Qan (by kernel_rfl)) (Qag (by kernel_rfl)) hg0 (Qp3 B g i left dJ0)
        ⟨rj2,⟨(Qbl q2),hp1⟩⟩).cast (by (subst hr1;rw [s1];simp [h0];done)) (by rfl) (by rfl)
      ·
       unfold gdB at hg
       have s1:=Qcx (use:=g.use) (br:=g.br) (l:=g.ships) (left:=left) h0 q0
       have s2:=Qdk (use:=g.use) (br:=g.br) (l:=g.ships) (left:=left) h0 q0
       simp only [q1,cond_true,cond_false,Int.add_zero] at s1 s2
       rw [decide_eq_false q2,cond_false] at s1
       exact ((ih0 _ (by omega)) (i+1) (left+g.br - if g.use < left+g.br then g.use else left+g.br) r1 (by rw [<-hr1,s1]) rfl (by omega) (by omega) (by omega)
        (GoE.landA okF hJ Qab (Qan (by kernel_rfl)) (Qag (by kernel_rfl)) hg0 (QoO B g i left dJ0)
        ⟨(QaJ (by omega) (by omega)),⟨(QaJ (by omega) (by omega)),⟨(Qbq (Int.not_lt.1 q2)),hp1⟩⟩⟩ (by kernel_rfl) (by kernel_rfl) (fun l hl=> by cases hl <;> decide))).cast (by (rw [s1,s2];done)) (by rfl) (by rfl)
    | false=>
      have hp2:Qa7 (Qgh B g i left dJ0):=by
       unfold gdB at hg
       have s1:=Qcx (use:=g.use) (br:=g.br) (l:=g.ships) (left:=left) h0 q0
       have s2:=Qdk (use:=g.use) (br:=g.br) (l:=g.ships) (left:=left) h0 q0
       simp only [q1,cond_true,cond_false,Int.add_zero] at s1 s2
       exact ⟨⟨by first | omega | (split <;> omega),by first | omega | (split <;> omega),((Qaf (z:=1) (fun _=> rfl) (by omega))).trans (by simp_all [QdM])⟩,hp0⟩
      by_cases q2:(left:Int) < g.use
      ·
       have rj2:FJ Tryz.prog B (QeH g i left dJ0) (Qee g i left dJ0) 5 (OO.pan (Value.iface 183 (.int .i64 i))) (([]++((5,Qby)::QaK (5+1) []))++Qee g i left dJ0) 6 (List.range 5) []:=by
        unfold gdB at hg
        have s1:=Qcx (use:=g.use) (br:=g.br) (l:=g.ships) (left:=left) h0 q0
        have s2:=Qdk (use:=g.use) (br:=g.br) (l:=g.ships) (left:=left) h0 q0
        simp only [q1,cond_true,cond_false,Int.add_zero] at s1 s2
        rw [decide_eq_true q2,cond_true] at s1
        exact FinK.fjB (GoE.finK okF hJ Qab (Qan (by kernel_rfl)) (Qag (by kernel_rfl)) ((GoE.refl (P:=Tryz.prog) (B:=B) (c0:=QeH g i left dJ0) (Qan (by kernel_rfl))).widen (Wf:=((([]):List (Nat×KS)).map (·.1))) (by simp) (Qag (by kernel_rfl))) (Qoo B g i left dJ0)
         trivial) (ex:=[]) (by kernel_rfl) (Qb0 _)
       unfold gdB at hg
       have s1:=Qcx (use:=g.use) (br:=g.br) (l:=g.ships) (left:=left) h0 q0
       have s2:=Qdk (use:=g.use) (br:=g.br) (l:=g.ships) (left:=left) h0 q0
       simp only [q1,cond_true,cond_false,Int.add_zero] at s1 s2
       rw [decide_eq_true q2,cond_true] at s1
       exact (GoE.finK okF hJ Qab (Qan (by kernel_rfl)) (Qag (by kernel_rfl)) hg0 (QoM B g i left dJ0)
        ⟨rj2,⟨(Qbl q2),hp2⟩⟩).cast (by (subst hr1;rw [s1];simp [h0];done)) (by rfl) (by rfl)
      ·
       unfold gdB at hg
       have s1:=Qcx (use:=g.use) (br:=g.br) (l:=g.ships) (left:=left) h0 q0
       have s2:=Qdk (use:=g.use) (br:=g.br) (l:=g.ships) (left:=left) h0 q0
       simp only [q1,cond_true,cond_false,Int.add_zero] at s1 s2
       rw [decide_eq_false q2,cond_false] at s1
       exact ((ih0 _ (by omega)) (i+1) (left - if g.use < left then g.use else left) r1 (by rw [<-hr1,s1]) rfl (by omega) (by omega) (by omega)
        (GoE.landA okF hJ Qab (Qan (by kernel_rfl)) (Qag (by kernel_rfl)) hg0 (Qp4 B g i left dJ0)
        ⟨(QaJ (by omega) (by omega)),⟨(QaJ (by omega) (by omega)),⟨(Qbq (Int.not_lt.1 q2)),hp2⟩⟩⟩ (by kernel_rfl) (by kernel_rfl) (fun l hl=> by cases hl <;> decide))).cast (by (rw [s1,s2];done)) (by rfl) (by rfl)
   ·
    unfold gdB at hg
    have s1:=Qte (use:=g.use) (br:=g.br) (l:=g.ships) (i:=i) (left:=left) (by omega)
    have s2:=Qxj (use:=g.use) (br:=g.br) (l:=g.ships) (i:=i) (left:=left) (by omega)
    exact (GoE.finK okF hJ Qab (Qan (by kernel_rfl)) (Qag (by kernel_rfl)) hg0 (QpW B g i left dJ0)
     ⟨(Qbq (Int.not_lt.1 q0)),trivial⟩).cast (by (subst hr1;rw [s1,s2];rfl)) (by rfl) (by rfl)

theorem Qqd (B:Lo) (g:Gd):CE.landA 3 (Qak Tryz.prog (Qa1 Tryz.prog) J0 B 9 3 (QbA g) (QaM g) 3
 [] 0 [] []) [1,2,5,11,12,13] [] [(3,KS.auto)] []=some ⟨126,38,Qbg,[],.run,none,Qbh g (0) g.stock,([]:List Nat).zip (Qbf g (0) g.stock),QaF g (0) g.stock,
 []⟩:=by kernel_rfl
def QbC (g:Gd):Qap:=[(2,Obj.cells #[.int .i64 0] 3),(1,Obj.cells #[.int .i64 g.stock,.int .i64 g.use,.int .i64 g.br,Qa0 0 (slT g.ships.length (Qac QdM g.ships))] 129),(0,Obj.coro none)]
def QbX (g:Gd):CF:=⟨125,ofList 6 [.agg #[.int .i64 g.stock,.int .i64 g.use,.int .i64 g.br,Qa0 0 (slT g.ships.length (Qac QdM g.ships))],pA 1 0,pA 2 0,Value.func (Fn.func 148) #[] #[pA 2 0],.tuple #[],.tuple #[]],[Item.code (Code.seq (Code.region 2 #[{dst:=some 4,op:=Op.load 129 (Operand.tmp 1),type:=129,pos:= "goods.go:41",after:=#[],guard:=none},{dst:=some 5,op:=Op.call {callee:=Callee.value (Operand.func 126),args:=#[Operand.tmp 4,Operand.func 149],argTypes:=#[129,159]},type:=3,pos:= "goods.go:41",after:=#[{on:=0,ground:=Ground.data}],guard:=none}] false) (Code.seq (Code.region 3 #[{dst:=none,op:=Op.store 3 (Operand.tmp 2) (Operand.const (.int .i64 (-1))),type:=0,pos:= "goods.go:42",after:=#[],guard:=none}] false) Code.ret))],[],.run,none⟩
theorem Qoy (B:Lo) (g:Gd):CE.landU 3 (Qak Tryz.prog (Qa1 Tryz.prog) J0 B 2 3 (QbX g) (QbC g) 3
 [(1,Qaj.call (List.range 3) (OO.pan (Value.iface 183 (.int .i64 (QaL g.use g.br (List.drop (Int.toNat 0) g.ships) 0 g.stock)))) ([]++(3,Qby)::QaK 4 []) 4 [])] 0 [] []) [2] [] [] []=some (125,6,none,OO.pan (Value.iface 183 (.int .i64 (QaL g.use g.br (List.drop (Int.toNat 0) g.ships) 0 g.stock))),[pA 2 0],[],[],
 [FJ Tryz.prog B (QbA g) (QaM g) 3 (OO.pan (Value.iface 183 (.int .i64 (QaL g.use g.br (List.drop (Int.toNat 0) g.ships) 0 g.stock)))) (([]++((3,Qby)::QaK (3+1) []))++QaM g) 4 (List.range 3) []]):=by kernel_rfl
theorem Qpm (B:Lo) (g:Gd):Qbb (Qx0 Tryz.prog (Qa1 Tryz.prog) J0 B 3 1 (Qai Tryz.prog 125 6 (([.agg (Qcv g).toArray]).map (Qaq 0 4))) H00 1
 (OO.pan (Value.iface 183 (.int .i64 (QaL g.use g.br (List.drop (Int.toNat 0) g.ships) 0 g.stock)))) (([2]:List Nat).zip [pA 2 0]) ([]++(3,Qby)::QaK 4 []) 4 [] (.int .i64 (QaL g.use g.br (List.drop (Int.toNat 0) g.ships) 0 g.stock)) [2]) []=some (.int .i64 (QaL g.use g.br (List.drop (Int.toNat 0) g.ships) 0 g.stock),
 [UJ Tryz.prog B (QbX g) (QbC g) 3 (OO.pan (Value.iface 183 (.int .i64 (QaL g.use g.br (List.drop (Int.toNat 0) g.ships) 0 g.stock)))) (([2]:List Nat).zip [pA 2 0]) (([]++((3,Qby)::QaK (3+1) []))++QbC g) 4 (List.range 3) [],∀d:Nat->Value,Qvk Tryz.prog 125 ([(3,Obj.coro none),(2,Obj.cells #[.int .i64 (QaL g.use g.br (List.drop (Int.toNat 0) g.ships) 0 g.stock)] 3),(1,Obj.cells #[.int .i64 g.stock,.int .i64 g.use,.int .i64 g.br,Qa0 0 (slT g.ships.length (Qac QdM g.ships))] 129),(0,Obj.coro none)]) (mkT 6 (([2]:List Nat).zip [pA 2 0]) d)=some (.int .i64 (QaL g.use g.br (List.drop (Int.toNat 0) g.ships) 0 g.stock),[2])]):=by kernel_rfl
theorem Qn4 (B:Lo) (g:Gd):CE.landA 3 (Qak Tryz.prog (Qa1 Tryz.prog) J0 B 9 3 (QbA g) (QaM g) 3
 [] 0 [] []) [1,2,5,11,12,13] [] [(3,KS.auto)] []=some ⟨126,38,Qbg,[],.run,none,Qbh g (0) g.stock,([]:List Nat).zip (Qbf g (0) g.stock),QaF g (0) g.stock,
 []⟩:=by kernel_rfl
theorem Qn6 (B:Lo) (g:Gd):CE.landU 3 (Qak Tryz.prog (Qa1 Tryz.prog) J0 B 5 3 (QbX g) (QbC g) 3
 [(1,Qaj.call (List.range 3) (OO.ret (.int .i64 (Qi4 g.use g.br (List.drop (Int.toNat 0) g.ships) g.stock))) ([]++(3,Qby)::QaK 4 []) 4 [])] 0 [] []) [2] [(2,KS.auto)] [] []=some (125,6,none,OO.ret (.tuple #[]),[pA 2 0],[(2,Obj.cells #[.int .i64 (-1)] 3)],[],
 [FJ Tryz.prog B (QbA g) (QaM g) 3 (OO.ret (.int .i64 (Qi4 g.use g.br (List.drop (Int.toNat 0) g.ships) g.stock))) (([]++((3,Qby)::QaK (3+1) []))++QaM g) 4 (List.range 3) []]):=by kernel_rfl
theorem Qno (B:Lo) (g:Gd):Qbb (Qx0 Tryz.prog (Qa1 Tryz.prog) J0 B 3 1 (Qai Tryz.prog 125 6 (([.agg (Qcv g).toArray]).map (Qaq 0 4))) H00 1
 (OO.ret (.tuple #[])) (([2]:List Nat).zip [pA 2 0]) ([(2,Obj.cells #[.int .i64 (-1)] 3)]++(3,Qby)::QaK 4 []) 4 [2] (.int .i64 (-1)) [2]) []=some (.int .i64 (-1),
 [UJ Tryz.prog B (QbX g) (QbC g) 3 (OO.ret (.tuple #[])) (([2]:List Nat).zip [pA 2 0]) (([(2,Obj.cells #[.int .i64 (-1)] 3)]++((3,Qby)::QaK (3+1) []))++QbC g) 4 (List.range 3) [2],∀d:Nat->Value,Qvk Tryz.prog 125 ([(2,Obj.cells #[.int .i64 (-1)] 3),(3,Obj.coro none),(2,Obj.cells #[.int .i64 0] 3),(1,Obj.cells #[.int .i64 g.stock,.int .i64 g.use,.int .i64 g.br,Qa0 0 (slT g.ships.length (Qac QdM g.ships))] 129),(0,Obj.coro none)]) (mkT 6 (([2]:List Nat).zip [pA 2 0]) d)=some (.int .i64 (-1),[2])]):=by kernel_rfl
set_option maxHeartbeats 4000000 in
theorem QqO (g:Gd) (hg:gdB g) {B:Lo} (hJ:∀w,B.has w->J0 w):EndsT Tryz.prog B (Qai Tryz.prog 125 6 (([.agg (Qcv g).toArray]).map (Qaq 0 4))) (.int .i64 (QaL g.use g.br g.ships 0 g.stock)):=by
 cases q0:decide (0<=QaL g.use g.br (List.drop (Int.toNat 0) g.ships) 0 g.stock) with
 | true=>
   have rj1:FJ Tryz.prog B (QbA g) (QaM g) 3 (OO.pan (Value.iface 183 (.int .i64 (QaL g.use g.br (List.drop (Int.toNat 0) g.ships) 0 g.stock)))) (([]++((3,Qby)::QaK (3+1) []))++QaM g) 4 (List.range 3) []:=by
    unfold gdB at hg
    exact FinK.fjB ((Qgt g hg hJ _) (0) g.stock true q0 rfl (by omega) (by omega) (by omega)
     (GoE.landA okF hJ Qab (Qan (by kernel_rfl)) (Qag (by kernel_rfl)) ((GoE.refl (P:=Tryz.prog) (B:=B) (c0:=QbA g) (Qan (by kernel_rfl))).widen (Wf:=((([]):List (Nat×KS)).map (·.1))) (by simp) (Qag (by kernel_rfl))) (Qqd B g)
     trivial (by kernel_rfl) (by kernel_rfl) (fun l hl=> by cases hl <;> decide))) (ex:=[]) (by kernel_rfl) (Qb0 _)
   have rj0:UJ Tryz.prog B (QbX g) (QbC g) 3 (OO.pan (Value.iface 183 (.int .i64 (QaL g.use g.br (List.drop (Int.toNat 0) g.ships) 0 g.stock)))) (([2]:List Nat).zip [pA 2 0]) (([]++((3,Qby)::QaK (3+1) []))++QbC g) 4 (List.range 3) []:=by
    unfold gdB at hg
    exact FinU.ujB (GoE.landU okF hJ Qab (Qan (by kernel_rfl)) (Qag (by kernel_rfl)) ((GoE.refl (P:=Tryz.prog) (B:=B) (c0:=QbX g) (Qan (by kernel_rfl))).widen (Wf:=((([]):List (Nat×KS)).map (·.1))) (by simp) (Qag (by kernel_rfl))) (Qoy B g)
     (by exact ⟨rj1,trivial⟩) (by kernel_rfl) rfl) (ex:=[]) (by kernel_rfl) (Qb0 _)
   unfold gdB at hg
   exact (GoE.endsD okF hJ Qab GoE.start (Qpm B g)
    (by exact ⟨rj0,⟨(fun d=> by kernel_rfl),trivial⟩⟩)).cast (by rfl)
 | false=>
   have rj1:FJ Tryz.prog B (QbA g) (QaM g) 3 (OO.ret (.int .i64 (Qi4 g.use g.br (List.drop (Int.toNat 0) g.ships) g.stock))) (([]++((3,Qby)::QaK (3+1) []))++QaM g) 4 (List.range 3) []:=by
    unfold gdB at hg
    exact FinK.fjB ((Qgt g hg hJ _) (0) g.stock false q0 rfl (by omega) (by omega) (by omega)
     (GoE.landA okF hJ Qab (Qan (by kernel_rfl)) (Qag (by kernel_rfl)) ((GoE.refl (P:=Tryz.prog) (B:=B) (c0:=QbA g) (Qan (by kernel_rfl))).widen (Wf:=((([]):List (Nat×KS)).map (·.1))) (by simp) (Qag (by kernel_rfl))) (Qn4 B g)
     trivial (by kernel_rfl) (by kernel_rfl) (fun l hl=> by cases hl <;> decide))) (ex:=[]) (by kernel_rfl) (Qb0 _)
   have rj0:UJ Tryz.prog B (QbX g) (QbC g) 3 (OO.ret (.tuple #[])) (([2]:List Nat).zip [pA 2 0]) (([(2,Obj.cells #[.int .i64 (-1)] 3)]++((3,Qby)::QaK (3+1) []))++QbC g) 4 (List.range 3) [2]:=by
    unfold gdB at hg
    exact FinU.ujB (GoE.landU okF hJ Qab (Qan (by kernel_rfl)) (Qag (by kernel_rfl)) ((GoE.refl (P:=Tryz.prog) (B:=B) (c0:=QbX g) (Qan (by kernel_rfl))).widen (Wf:=((([(2,KS.auto)]):List (Nat×KS)).map (·.1))) (by simp) (Qag (by kernel_rfl))) (Qn6 B g)
     (by exact ⟨rj1,trivial⟩) (by kernel_rfl) rfl) (ex:=[]) (by kernel_rfl) (Qb0 _)
   unfold gdB at hg
   exact (GoE.endsD okF hJ Qab GoE.start (Qno B g)
    (by exact ⟨rj0,⟨(fun d=> by kernel_rfl),trivial⟩⟩)).cast (by (rcases Qgb (use:=g.use) (br:=g.br) g.ships 0 g.stock (by omega) with h | h <;> simp_all;done))
theorem Qve (g:Gd) (hg:gdB g):Qas Tryz.prog J0 125 #[.agg (Qcv g).toArray] (.int .i64 (QaL g.use g.br g.ships 0 g.stock)):=
 QaE (ts:=[.agg (Qcv g).toArray]) Qb6 (c0:=Qai Tryz.prog 125 6 (([.agg (Qcv g).toArray]).map (Qaq 0 4))) (by kernel_rfl) (by kernel_rfl) fun B hJ=> QqO g hg hJ
def Qh4 (B:Lo) (g:Gd):List Prop:=[Qa7 []/\Qas Tryz.prog J0 125 #[.agg #[.int .i64 g.stock,.int .i64 g.use,.int .i64 g.br,slT g.ships.length (Qac QdM g.ships)]] (.int .i64 (QaL g.use g.br g.ships 0 g.stock))]++([]:List Prop)
def Qlb (g:Gd):Qay:=[(3,Qaj.pure (.int .i64 (QaL g.use g.br g.ships 0 g.stock)) [])]
theorem QrD (B:Lo) (g:Gd):Qbb (Qak Tryz.prog (Qa1 Tryz.prog) J0 B 6 1 (Qai Tryz.prog 133 6 (([.agg (Qcv g).toArray]).map (Qaq 0 4))) H00 1
 (Qlb g++[(4,hvT)]) 0 [] []) []=some (.bool true,
 [eqq (QaL g.use g.br g.ships 0 g.stock) (-1)=true]++Qh4 B g):=by kernel_rfl
theorem Qr8 (B:Lo) (g:Gd):Qbb (Qak Tryz.prog (Qa1 Tryz.prog) J0 B 6 1 (Qai Tryz.prog 133 6 (([.agg (Qcv g).toArray]).map (Qaq 0 4))) H00 1
 (Qlb g++[(4,hvF)]) 0 [] []) []=some (.bool false,
 [eqq (QaL g.use g.br g.ships 0 g.stock) (-1)=false]++Qh4 B g):=by kernel_rfl
set_option maxHeartbeats 4000000 in
theorem Quo (g:Gd) (hg:gdB g) {B:Lo} (hJ:∀w,B.has w->J0 w):EndsT Tryz.prog B (Qai Tryz.prog 133 6 (([.agg (Qcv g).toArray]).map (Qaq 0 4))) (.bool (decide (QaL g.use g.br g.ships 0 g.stock= -1))):=by
 have hp0:Qa7 (Qh4 B g):=by
  exact ⟨⟨trivial,Qve (g) (by with_reducible assumption)⟩,trivial⟩
 by_cases q0:(QaL g.use g.br g.ships 0 g.stock:Int)=(-1)
 ·
  exact (GoE.endsT okF hJ Qab GoE.start (QrD B g)
   ⟨(Qnl q0),hp0⟩).cast (by (simp [*];done))
 ·
  exact (GoE.endsT okF hJ Qab GoE.start (Qr8 B g)
   ⟨(Qnq q0),hp0⟩).cast (by (simp [*];done))
theorem QyK (g:Gd) (hg:gdB g):Qas Tryz.prog J0 133 #[.agg (Qcv g).toArray] (.bool (decide (QaL g.use g.br g.ships 0 g.stock= -1))):=
 QaE (ts:=[.agg (Qcv g).toArray]) Qb6 (c0:=Qai Tryz.prog 133 6 (([.agg (Qcv g).toArray]).map (Qaq 0 4))) (by kernel_rfl) (by kernel_rfl) fun B hJ=> Quo g hg hJ

end
end Go.Proofs.YtiabgkiccaodmaaGreat

namespace Go.Proofs.YtiabgkiccaodmaaGreat
open Go Go.CE Go.RowKit
set_option maxRecDepth 100000
def Qoi (s n:Int):Int:=((orN s ((Qsb n:Nat):Int):Nat):Int)
def QjF (s n:Int):Bool:=decide (((Qzh ((Qq3 s n:Nat):Int) 1:Nat):Int)=1)
theorem Qnb {s n:Int}:QjF s n=s.toNat.testBit n.toNat:=by
 unfold QjF Qzh Qq3
 rw [Int.toNat_natCast,show (1:Int).toNat=1 from rfl,Nat.and_one_is_mod,Nat.shiftRight_eq_div_pow,Nat.testBit_eq_decide_div_mod_eq]
 exact decide_eq_decide.2 (by omega)
def QcM:List Int->Int->Int
 | [],s=> s
 | n::l,s=> QcM l (Qoi s n)
theorem Qvj {s n:Int} {k:Nat} (h0:0<=s) (h:s < 2 ^ k) (hn:n.toNat < k):Qoi s n < 2 ^ k:=by
 obtain ⟨b,rfl⟩:∃b:Nat,s=b:=⟨s.toNat,by omega⟩
 have e:(2:Int) ^ k=((2 ^ k:Nat):Int):=by rw [Int.natCast_pow];rfl
 rw [e] at h ⊢
 have h':b < 2 ^ k:=by exact_mod_cast h
 have:b ||| 2 ^ n.toNat < 2 ^ k:=Nat.or_lt_two_pow h' (Nat.pow_lt_pow_right (by decide) hn)
 unfold Qoi orN Qsb
 rw [Int.toNat_natCast,Int.toNat_natCast]
 exact_mod_cast this
theorem QvG {l:List Int} {i s:Int} (h0:0<=i) (h:i < l.length):QcM (l.drop i.toNat) s=QcM (l.drop (i+1).toNat) (Qoi s (l.getD i.toNat default)):=by
 obtain ⟨k,rfl⟩:∃k:Nat,i=k:=⟨i.toNat,by omega⟩
 have hk:k < l.length:=by omega
 have e1:((k:Int)).toNat=k:=by omega
 have e2:((k:Int)+1).toNat=k+1:=by omega
 rw [e1,e2,List.drop_eq_getElem_cons hk]
 simp [QcM,List.getD_eq_getElem?_getD,hk]
theorem QyU {l:List Int} {i s:Int} (h:l.length<=i):QcM (l.drop i.toNat) s=s:=by
 rw [List.drop_eq_nil_of_le (by omega)];rfl
theorem QyL (B:Lo) (s n:Int):Qbb (Qak Tryz.prog (Qa1 Tryz.prog) J0 B 6 1 (Qai Tryz.prog 146 9 (([.int .i64 s,.int .i64 n]).map (Qaq 0 4))) H00 1
 [(3,Qaj.bin (.int .i64 (↑(Qsb n):Int))),(4,Qaj.bin (.int .i64 (↑(orN s (↑(Qsb n):Int)):Int)))] 0 [] []) []=some (.int .i64 (↑(orN s (↑(Qsb n):Int)):Int),
 [QkT Tryz.prog BinOp.or 120 (Qce {len:=16000,tr:=Tri.set 14 (Tri.set 14 Tri.lf 7 (.int .i64 (↑(Qsb n):Int))) 5 (.int .i64 s)} 5) (Qce {len:=16000,tr:=Tri.set 14 (Tri.set 14 Tri.lf 7 (.int .i64 (↑(Qsb n):Int))) 5 (.int .i64 s)} 7) (.int .i64 (↑(orN s (↑(Qsb n):Int)):Int)),QkT Tryz.prog BinOp.shl 120 (.int .i64 1) (Qce {len:=16000,tr:=Tri.set 14 Tri.lf 6 (.int .i64 n)} 6) (.int .i64 (↑(Qsb n):Int))]):=by kernel_rfl
set_option maxHeartbeats 4000000 in
theorem Q16 (s n:Int) (hn:0<=n/\n<=61) (hs:0<=s/\s<=4611686018427387904) {B:Lo} (hJ:∀w,B.has w->J0 w):EndsT Tryz.prog B (Qai Tryz.prog 146 9 (([.int .i64 s,.int .i64 n]).map (Qaq 0 4))) (.int .i64 (Qoi s n)):=by
 have e1:=Q2k (n:=n) (by omega)
 exact (GoE.endsT okF hJ Qab GoE.start (QyL B s n)
  ⟨(Q3q (by omega) (by omega) (by omega) (by omega)),⟨(QzF (by omega) (by omega)),trivial⟩⟩).cast (by rfl)
theorem Q3O (s n:Int) (hn:0<=n/\n<=61) (hs:0<=s/\s<=4611686018427387904):Qas Tryz.prog J0 146 #[.int .i64 s,.int .i64 n] (.int .i64 (Qoi s n)):=
 QaE (ts:=[.int .i64 s,.int .i64 n]) Qb6 (c0:=Qai Tryz.prog 146 9 (([.int .i64 s,.int .i64 n]).map (Qaq 0 4))) (by kernel_rfl) (by kernel_rfl) fun B hJ=> Q16 s n hn hs hJ
noncomputable def QqC (B:Lo) (s n:Int):List Prop:=[QkT Tryz.prog BinOp.and 120 (Qce {len:=16000,tr:=Tri.set 14 Tri.lf 7 (.int .i64 (↑(Qq3 s n):Int))} 7) (.int .i64 1) (.int .i64 (↑(Qzh (↑(Qq3 s n):Int) 1):Int)),QkT Tryz.prog BinOp.shr 120 (Qce {len:=16000,tr:=Tri.set 14 (Tri.set 14 Tri.lf 6 (.int .i64 n)) 5 (.int .i64 s)} 5) (Qce {len:=16000,tr:=Tri.set 14 (Tri.set 14 Tri.lf 6 (.int .i64 n)) 5 (.int .i64 s)} 6) (.int .i64 (↑(Qq3 s n):Int))]++([]:List Prop)
noncomputable def QvP (s n:Int):Qay:=[(3,Qaj.bin (.int .i64 (↑(Qq3 s n):Int))),(4,Qaj.bin (.int .i64 (↑(Qzh (↑(Qq3 s n):Int) 1):Int)))]
theorem Q1x (B:Lo) (s n:Int):Qbb (Qak Tryz.prog (Qa1 Tryz.prog) J0 B 6 1 (Qai Tryz.prog 159 10 (([.int .i64 s,.int .i64 n]).map (Qaq 0 4))) H00 1
 (QvP s n++[(5,hvT)]) 0 [] []) []=some (.bool true,
 [eqq (↑(Qzh (↑(Qq3 s n):Int) 1):Int) 1=true]++QqC B s n):=by kernel_rfl
theorem Q0V (B:Lo) (s n:Int):Qbb (Qak Tryz.prog (Qa1 Tryz.prog) J0 B 6 1 (Qai Tryz.prog 159 10 (([.int .i64 s,.int .i64 n]).map (Qaq 0 4))) H00 1
 (QvP s n++[(5,hvF)]) 0 [] []) []=some (.bool false,
 [eqq (↑(Qzh (↑(Qq3 s n):Int) 1):Int) 1=false]++QqC B s n):=by kernel_rfl
set_option maxHeartbeats 4000000 in
theorem Q2H (s n:Int) (hn:0<=n/\n<=61) (hs:0<=s/\s<=4611686018427387904) {B:Lo} (hJ:∀w,B.has w->J0 w):EndsT Tryz.prog B (Qai Tryz.prog 159 10 (([.int .i64 s,.int .i64 n]).map (Qaq 0 4))) (.bool (QjF s n)):=by
 have e1:Qq3 s n<=s.toNat:=Q1g
 have hp0:Qa7 (QqC B s n):=by
  exact ⟨(Q1m (by omega) (by omega) (by omega) (by omega)),⟨(Q1w (by omega) (by omega) (by omega)),trivial⟩⟩
 by_cases q0:((↑(Qzh (↑(Qq3 s n):Int) 1):Int):Int)=(1)
 ·
  exact (GoE.endsT okF hJ Qab GoE.start (Q1x B s n)
   ⟨(Qnl q0),hp0⟩).cast (by (simp [QjF, *];done))
 ·
  exact (GoE.endsT okF hJ Qab GoE.start (Q0V B s n)
   ⟨(Qnq q0),hp0⟩).cast (by (simp [QjF, *];done))
theorem Q0I (s n:Int) (hn:0<=n/\n<=61) (hs:0<=s/\s<=4611686018427387904):Qas Tryz.prog J0 159 #[.int .i64 s,.int .i64 n] (.bool (QjF s n)):=
 QaE (ts:=[.int .i64 s,.int .i64 n]) Qb6 (c0:=Qai Tryz.prog 159 10 (([.int .i64 s,.int .i64 n]).map (Qaq 0 4))) (by kernel_rfl) (by kernel_rfl) fun B hJ=> Q2H s n hn hs hJ
def Qo4 (xs:List Int) (i s:Int):List Value:=[.int .i64 s,Qa0 1 (slT xs.length (Qac Qar xs)),.int .i64 (↑xs.length:Int),.int .i64 i]
def QjA (xs:List Int) (i s:Int):List Obj:=[]
noncomputable def QoJ:List Item:=([.code [1,1,0,1,0,0],.inLoop [1,1,0,1,0,0],.inBlock 0,.code [1,1,1]]).map (it (Qal Tryz.prog 116))
def Q2O (B:Lo) (c0:CF) (xs:List Int) (i s:Int):Prop:=∃dJ:Nat->Value,(∀t,QaS (dJ t))/\GoE Tryz.prog B c0 H00 1 (Qa4 116 17 (([3,6,7,8]:List Nat).zip (Qo4 xs i s)) dJ QoJ) (Qa3 (QjA xs i s)) (2+(QjA xs i s).length) []
theorem Q2Y (B:Lo) (xs:List Int) (i s:Int) (dJ0:Nat->Value):landM (Qak Tryz.prog (Qa1 Tryz.prog) J0 B 13 1 (Qa4 116 17 (([3,6,7,8]:List Nat).zip (Qo4 xs i s)) dJ0 QoJ) (Qa3 (QjA xs i s)) (2+(QjA xs i s).length)
 [(0,hvT),(1,Qaj.tidx i.toNat #[.int .i64 (xs.getD i.toNat default)]),(6,Qaj.pure (.int .i64 (Qoi s (xs.getD i.toNat default))) []),(8,hvI (i+1))] 0 [] []) [3,6,7,8] [] []=some ⟨116,17,QoJ,[],.run,none,Qo4 xs (i+1) (Qoi s (xs.getD i.toNat default)),QjA xs (i+1) (Qoi s (xs.getD i.toNat default)),
 [wq (i+1)=i+1,Qa7 []/\Qas Tryz.prog J0 146 #[.int .i64 s,.int .i64 (xs.getD i.toNat default)] (.int .i64 (Qoi s (xs.getD i.toNat default))),i=(↑i.toNat:Int)/\Int.toNat i < List.length xs/\Array.extract (Qac Qar xs) (Int.toNat i * TypeInfo.size Tryz.t3) (Int.toNat i * TypeInfo.size Tryz.t3+TypeInfo.size Tryz.t3)=#[.int .i64 (xs.getD i.toNat default)],ltq i (↑xs.length:Int)=true]⟩:=by kernel_rfl
theorem Q3v (B:Lo) (xs:List Int) (i s:Int) (dJ0:Nat->Value):Qbb (Qak Tryz.prog (Qa1 Tryz.prog) J0 B 9 1 (Qa4 116 17 (([3,6,7,8]:List Nat).zip (Qo4 xs i s)) dJ0 QoJ) (Qa3 (QjA xs i s)) (2+(QjA xs i s).length)
 [(0,hvF)] 0 [] []) []=some (.int .i64 s,
 [ltq i (↑xs.length:Int)=false]):=by kernel_rfl
theorem Q2Z (B:Lo) (xs:List Int):landM (Qak Tryz.prog (Qa1 Tryz.prog) J0 B 9 1 (Qai Tryz.prog 116 17 (([slI xs]).map (Qaq 0 4))) H00 1
 [] 0 [] []) [3,6,7,8] [] []=some ⟨116,17,QoJ,[],.run,none,Qo4 xs (0) (0),QjA xs (0) (0),
 []⟩:=by kernel_rfl
set_option maxHeartbeats 4000000 in
theorem Q3h (xs:List Int) (hx:∀x∈xs,0<=x/\x<=61) (hfacts:xs.length<=9223372036854775807) {B:Lo} (hJ:∀w,B.has w->J0 w) {c0:CF}:∀m:Nat,(∀(i s:Int),(xs.length - i.toNat)=m->∀(h0:0<=i) (h1:0<=s) (h2:s < 4611686018427387904),Q2O B c0 xs i s->EndsT Tryz.prog B c0 (.int .i64 (QcM (xs.drop i.toNat) s))):=by
 intro m0
 induction m0 using Nat.strongRecOn with
 | _ m0 ih0=>
   intro i s hm0 h0 h1 h2 ⟨dJ0,hdJ0,hg0⟩
   by_cases q0:(i:Int) < ((↑xs.length:Int))
   ·
    have s2:=QvG (l:=xs) (s:=s) h0 q0
    have hm:=hx (xs.getD i.toNat default) (by rw [List.getD_eq_getElem?_getD,List.getElem?_eq_getElem (by omega)];exact List.getElem_mem _)
    have hw:=Qvj (s:=s) (n:=xs.getD i.toNat default) (k:=62) h1 (by omega) (by omega)
    have hw0:0<=Qoi s (xs.getD i.toNat default):=Int.natCast_nonneg _
    exact ((ih0 _ (by omega)) (i+1) (Qoi s (xs.getD i.toNat default)) rfl (by omega) (by with_reducible assumption) (by omega)
     (hg0.landM okF hJ Qab (Q2Y B xs i s dJ0)
     ⟨(QaJ (by omega) (by omega)),⟨⟨trivial,Q3O (s) (xs.getD i.toNat default) (by with_reducible assumption) (by omega)⟩,⟨⟨by omega,by omega,(Qaf (z:=1) (fun _=> rfl) (by omega))⟩,⟨(Qbl q0),trivial⟩⟩⟩⟩ (by kernel_rfl) (by kernel_rfl))).cast (by (rw [s2];done))
   ·
    have s2:=QyU (l:=xs) (i:=i) (s:=s) (by omega)
    have hw0:0<=Qoi s (xs.getD i.toNat default):=Int.natCast_nonneg _
    exact (GoE.endsT okF hJ Qab hg0 (Q3v B xs i s dJ0)
     ⟨(Qbq (Int.not_lt.1 q0)),trivial⟩).cast (by (rw [s2];done))
set_option maxHeartbeats 4000000 in
theorem Q3Q (xs:List Int) (hx:∀x∈xs,0<=x/\x<=61) (hfacts:xs.length<=9223372036854775807) {B:Lo} (hJ:∀w,B.has w->J0 w):EndsT Tryz.prog B (Qai Tryz.prog 116 17 (([slI xs]).map (Qaq 0 4))) (.int .i64 (QcM xs 0)):=by
 exact ((Q3h xs hx hfacts hJ _) (0) (0) rfl (by omega) (by omega) (by omega)
  (GoE.start.landM okF hJ Qab (Q2Z B xs)
  trivial (by kernel_rfl) (by kernel_rfl))).cast (by rfl)
theorem pOf (xs:List Int) (hx:∀x∈xs,0<=x/\x<=61):Qas Tryz.prog J0 116 #[slI xs] (.int .i64 (QcM xs 0)):=
 Qc2 (ts:=[slI xs]) (xs.length<=9223372036854775807) (fun _ _ ht=> ht.ln (i:=0) rfl) Qb6 (c0:=Qai Tryz.prog 116 17 (([slI xs]).map (Qaq 0 4))) (by kernel_rfl) (by kernel_rfl) fun hfacts B hJ=> Q3Q xs hx hfacts hJ
end Go.Proofs.YtiabgkiccaodmaaGreat

namespace Go.Proofs.YtiabgkiccaodmaaGreat
open Go Go.CE Go.RowKit
noncomputable section
set_option maxRecDepth 100000
def Qcf (s:Int):Int:=if s=0 then 0 else ((s.toNat.log2+1:Nat):Int)
theorem Q2e:(List.range 64).all (fun x=> Qpb (QlV Tryz.prog (Qa1 Tryz.prog) Qb4 10000 158 #[.int .u64 (x:Nat)] (QeL 0 []) ([]:List (Array Value×TypeId)).length) (.int .i64 (Qcf (x:Nat))) [])=true:=by decide+kernel
theorem Q37 (s:Int) (h0:0<=s) (h1:s < 64):Qas Tryz.prog J0 158 #[.int .u64 s] (.int .i64 (Qcf s)):=by
 obtain ⟨k,rfl⟩:∃k:Nat,s=k:=⟨s.toNat,by omega⟩
 exact QoF okF Qab (fuel:=10000) (by kernel_rfl) (by kernel_rfl) (by kernel_rfl) (List.all_eq_true.1 Q2e k (List.mem_range.2 (by omega)))
theorem Qz9:(List.range 64).all (fun x=> decide (0<=Qcf (x:Nat)) && decide (Qcf (x:Nat)<=6))=true:=by decide+kernel
theorem QeY {s:Int} (h0:0<=s) (h1:s < 64):0<=Qcf s/\Qcf s<=6:=by
 obtain ⟨k,rfl⟩:∃k:Nat,s=k:=⟨s.toNat,by omega⟩
 have:=List.all_eq_true.1 Qz9 k (List.mem_range.2 (by omega))
 simpa using this
def Qax {α:Type} [Inhabited α] (s:Int) (xs:List α) (n:Int):List α:=((upI n (Qcf s)).filter (QjF s)).map fun k=> xs.getD k.toNat default
theorem QeG {α:Type} [Inhabited α] {s n:Int} {xs:List α} (h:n < Qcf s) (hb:QjF s n=true):Qax s xs n=[xs.getD n.toNat default]++Qax s xs (n+1):=by
 unfold Qax;rw [Qel h,List.filter_cons_of_pos hb];rfl
theorem QhU {α:Type} [Inhabited α] {s n:Int} {xs:List α} (h:n < Qcf s) (hb:QjF s n=false):Qax s xs n=Qax s xs (n+1):=by
 unfold Qax;rw [Qel h,List.filter_cons_of_neg (by rw [hb];decide)]
theorem QhA {α:Type} [Inhabited α] {s n:Int} {xs:List α} (h:Qcf s<=n):Qax s xs n=[]:=by
 unfold Qax;rw [Qht h];rfl
theorem QzY {α:Type} {acc:List α} (h:acc≠[]):acc.isEmpty=false:=by
 cases acc with
 | nil=> exact absurd rfl h
 | cons x l=> rfl
theorem Q2N {α:Type} {l:List α} (h:(!([]++l).isEmpty)=false):l=[]:=by
 cases l with
 | nil=> rfl
 | cons x l=> cases h
structure Qad where
 goods:List Span
 weight:Int
 cost:Int
deriving Inhabited
def Qam (l:Qad):List Value:=[Qqq l.goods,.int .i64 l.weight,.int .i64 l.cost]
abbrev Row:=List Int
def Qaz (l:Row):List Value:=[slI l]

def QgD (s:Int) (xs:List (Qad)):Qap:=[(2,Obj.cells #[.slice none 0 0] 60),(1,Obj.cells #[Qa0 0 (slT xs.length (Qac Qam xs))] 60),(0,Obj.coro none)]
def QhZ (s:Int) (xs:List (Qad)):CF:=⟨147,ofList 4 [.int .i64 s],[Item.code (Qal Tryz.prog 147)],[],.run,none⟩
def QdW (s:Int) (xs:List (Qad)):Array Value:=#[.int .i64 s,Qa0 0 (slT xs.length (Qac Qam xs)),.tuple #[],pA 1 0,.slice none 0 0,pA 2 0,.tuple #[],.int .i64 s,Value.func (Fn.func 157) #[] #[Qa0 3 (ptT 0 #[.int .i64 s])],.tuple #[],.tuple #[],.tuple #[],.tuple #[],.tuple #[],.tuple #[],.tuple #[],.tuple #[],.tuple #[]]
def Qe6 (xs:List (Qad)) (n:Int):Array Value:=#[Qa0 0 (slT (List.length (Qad.goods (xs.getD n.toNat default))) (Qac Qa6 (Qad.goods (xs.getD n.toNat default)))),.int .i64 (Qad.weight (xs.getD n.toNat default)),.int .i64 (Qad.cost (xs.getD n.toNat default))]
def Qh8 (xs:List (Qad)) (n:Int):Array Value:=#[slT (List.length (Qad.goods (xs.getD n.toNat default))) (Qac Qa6 (Qad.goods (xs.getD n.toNat default))),.int .i64 (Qad.weight (xs.getD n.toNat default)),.int .i64 (Qad.cost (xs.getD n.toNat default))]
theorem Qvz (B:Lo) (s:Int) (xs:List (Qad)):CE.finK 3 (Qak Tryz.prog (Qa1 Tryz.prog) J0 B 6 3 (QhZ s xs) (QgD s xs) 3
 [] 0 [] []) [] [] [{k:=3,rs:=[],cs:=#[.int .i64 s]}]=some (OO.ret (Value.func (Fn.func 157) #[] #[Qa0 3 (ptT 0 #[.int .i64 s])]),[],[],
 [Qb8 (Fz.rs {k:=3,rs:=[],cs:=#[.int .i64 s]}) #[.int .i64 s] (Fz.cs {k:=3,rs:=[],cs:=#[.int .i64 s]})]):=by kernel_rfl
def Qkp (B:Lo) (s:Int) (xs:List (Qad)):List Prop:=[FJ Tryz.prog B (QhZ s xs) (QgD s xs) 3 (OO.ret (Value.func (Fn.func 157) #[] #[Qa0 3 (ptT 0 #[.int .i64 s])])) (([]++((3,Qby)::QaK (3+1) []))++QgD s xs) 4 (List.range 3) []]++([]:List Prop)
def Qqm (s:Int) (xs:List (Qad)):Qay:=[(4,Qaj.call (List.range 3) (OO.ret (Value.func (Fn.func 157) #[] #[Qa0 3 (ptT 0 #[.int .i64 s])])) ([]++(3,Qby)::QaK 4 []) 4 [])]
def Qbc (s:Int) (xs:List (Qad)):Qap:=[(5,Obj.loop {state:=LoopState.ready,pending:=none,fn:=139,tmps:=#[.int .i64 s,Qa0 0 (slT xs.length (Qac Qam xs)),.tuple #[],pA 1 0,.slice none 0 0,pA 2 0,.tuple #[],.int .i64 s,Value.func (Fn.func 157) #[] #[Qa0 3 (ptT 0 #[.int .i64 s])],.tuple #[],.tuple #[],.tuple #[],.tuple #[],.tuple #[],.tuple #[],.tuple #[],.tuple #[],.tuple #[]],params:=#[9],assign:=nav (Qal Tryz.prog 139) [1,1,0,1,0,0],body:=nav (Qal Tryz.prog 139) [1,1,0,1,0,1],defers:=4}),(4,Obj.deferred (some [])),(3,Obj.coro none),(2,Obj.cells #[.slice none 0 0] 60),(1,Obj.cells #[Qa0 0 (slT xs.length (Qac Qam xs))] 60),(0,Obj.coro none)]
def Qcj (s:Int) (xs:List (Qad)):CF:=⟨157,ofList 20 [Value.func (Fn.yield 5) #[] #[],Qa0 3 (ptT 0 #[.int .i64 s])],[Item.code (Qal Tryz.prog 157)],[],.run,none⟩
def Qc0 (s:Int) (xs:List (Qad)) (n:Int):List Value:=[Value.func (Fn.yield 5) #[] #[],Qa0 3 (ptT 0 #[.int .i64 s]),.int .i64 (Qcf s),.int .i64 n]
def QcH (s:Int) (xs:List (Qad)) (n:Int):List Obj:=[Obj.loop {state:=LoopState.ready,pending:=none,fn:=139,tmps:=#[.int .i64 s,Qa0 0 (slT xs.length (Qac Qam xs)),.tuple #[],pA 1 0,.slice none 0 0,pA 2 0,.tuple #[],.int .i64 s,Value.func (Fn.func 157) #[] #[Qa0 3 (ptT 0 #[.int .i64 s])],.tuple #[],.tuple #[],.tuple #[],.tuple #[],.tuple #[],.tuple #[],.tuple #[],.tuple #[],.tuple #[]],params:=#[9],assign:=nav (Qal Tryz.prog 139) [1,1,0,1,0,0],body:=nav (Qal Tryz.prog 139) [1,1,0,1,0,1],defers:=4},.cells #[.slice none 0 0] 60 (0,0)]
def Qbu (s:Int) (xs:List (Qad)) (n:Int):List Obj:=[]
def Qcz:List Item:=([.code [1,0,0],.inLoop [1,0,0],.inBlock 0]).map (it (Qal Tryz.prog 157))
def Qc4 (s:Int) (xs:List (Qad)) (n:Int) (acc:List Qad) (acc_n:Nat):List Value:=[Value.func (Fn.yield 5) #[] #[],Qa0 3 (ptT 0 #[.int .i64 s]),.int .i64 (Qcf s),.int .i64 n]
def QcA (s:Int) (xs:List (Qad)) (n:Int) (acc:List Qad) (acc_n:Nat):List Obj:=[Obj.loop {state:=LoopState.ready,pending:=none,fn:=139,tmps:=#[.int .i64 s,Qa0 0 (slT xs.length (Qac Qam xs)),.tuple #[],pA 1 0,.slice none 0 0,pA 2 0,.tuple #[],.int .i64 s,Value.func (Fn.func 157) #[] #[Qa0 3 (ptT 0 #[.int .i64 s])],.tuple #[],.tuple #[],.tuple #[],.tuple #[],.tuple #[],.tuple #[],.tuple #[],.tuple #[],.tuple #[]],params:=#[9],assign:=nav (Qal Tryz.prog 139) [1,1,0,1,0,0],body:=nav (Qal Tryz.prog 139) [1,1,0,1,0,1],defers:=4},.cells #[.slice (some ⟨7,0,none⟩) acc_n 3] 60 (0,0)]
def Qbv (s:Int) (xs:List (Qad)) (n:Int) (acc:List Qad) (acc_n:Nat):List Obj:=[Obj.cells (Qac (Qa5 0 Qam) acc) 118 (0,0)]
def QcC:List Item:=([.code [1,0,0],.inLoop [1,0,0],.inBlock 0]).map (it (Qal Tryz.prog 157))
def QlG (B:Lo) (s:Int) (xs:List (Qad)) (n:Int) (dJ0:Nat->Value):List Prop:=[ltq n (Qcf s)=true]++([]:List Prop)
def Qqn (s:Int) (xs:List (Qad)) (n:Int) (dJ0:Nat->Value):Qay:=[(0,hvT)]
def Qgn (s:Int) (xs:List (Qad)) (n:Int) (dJ0:Nat->Value):Qap:=[(5,Obj.loop {state:=LoopState.ready,pending:=none,fn:=139,tmps:=#[.int .i64 s,Qa0 0 (slT xs.length (Qac Qam xs)),.tuple #[],pA 1 0,.slice none 0 0,pA 2 0,.tuple #[],.int .i64 s,Value.func (Fn.func 157) #[] #[Qa0 3 (ptT 0 #[.int .i64 s])],.tuple #[],.tuple #[],.tuple #[],.tuple #[],.tuple #[],.tuple #[],.tuple #[],.tuple #[],.tuple #[]],params:=#[9],assign:=nav (Qal Tryz.prog 139) [1,1,0,1,0,0],body:=nav (Qal Tryz.prog 139) [1,1,0,1,0,1],defers:=4}),(2,Obj.cells #[.slice none 0 0] 60),(6,Obj.coro none),(5,Obj.loop {state:=LoopState.ready,pending:=none,fn:=139,tmps:=#[.int .i64 s,Qa0 0 (slT xs.length (Qac Qam xs)),.tuple #[],pA 1 0,.slice none 0 0,pA 2 0,.tuple #[],.int .i64 s,Value.func (Fn.func 157) #[] #[Qa0 3 (ptT 0 #[.int .i64 s])],.tuple #[],.tuple #[],.tuple #[],.tuple #[],.tuple #[],.tuple #[],.tuple #[],.tuple #[],.tuple #[]],params:=#[9],assign:=nav (Qal Tryz.prog 139) [1,1,0,1,0,0],body:=nav (Qal Tryz.prog 139) [1,1,0,1,0,1],defers:=4}),(4,Obj.deferred (some [])),(3,Obj.coro none),(2,Obj.cells #[.slice none 0 0] 60),(1,Obj.cells #[Qa0 0 (slT xs.length (Qac Qam xs))] 60),(0,Obj.coro none)]
def Qie (s:Int) (xs:List (Qad)) (n:Int) (dJ0:Nat->Value):CF:=⟨139,ofList 18 [.int .i64 s,Qa0 0 (slT xs.length (Qac Qam xs)),.tuple #[],pA 1 0,.slice none 0 0,pA 2 0,.tuple #[],.int .i64 s,Value.func (Fn.func 157) #[] #[Qa0 3 (ptT 0 #[.int .i64 s])],.int .i64 n,.tuple #[],.tuple #[],.tuple #[],.tuple #[],.tuple #[],.tuple #[],.tuple #[],.tuple #[]],[Item.code (nav (Qal Tryz.prog 139) [1,1,0,1,0,0]),Item.beginRound,Item.code (nav (Qal Tryz.prog 139) [1,1,0,1,0,1])],[],.run,some 5⟩
theorem QuN (B:Lo) (s:Int) (xs:List (Qad)) (n:Int) (dJ0:Nat->Value):CE.finK 7 (Qak Tryz.prog (Qa1 Tryz.prog) J0 B 6 7 (Qie s xs n dJ0) (Qgn s xs n dJ0) 7
 [(4,Qaj.tidx n.toNat (Qh8 xs n))] 0 [] []) [(5,KS.auto),(2,KS.auto)] [(8,KS.auto)] []=some (OO.ret (.bool true),[(5,Obj.loop {state:=LoopState.ready,pending:=none,fn:=139,tmps:=#[.int .i64 s,Qa0 0 (slT xs.length (Qac Qam xs)),.tuple #[],pA 1 0,.slice none 0 0,pA 2 0,.tuple #[],.int .i64 s,Value.func (Fn.func 157) #[] #[Qa0 3 (ptT 0 #[.int .i64 s])],.tuple #[],.tuple #[],.tuple #[],.tuple #[],.tuple #[],.tuple #[],.tuple #[],.tuple #[],.tuple #[]],params:=#[9],assign:=nav (Qal Tryz.prog 139) [1,1,0,1,0,0],body:=nav (Qal Tryz.prog 139) [1,1,0,1,0,1],defers:=4}),(2,Obj.cells #[.slice (some {block:=8,off:=0}) 1 3] 60)],[Obj.cells #[Qa0 0 (slT (List.length (Qad.goods (xs.getD n.toNat default))) (Qac Qa6 (Qad.goods (xs.getD n.toNat default)))),.int .i64 (Qad.weight (xs.getD n.toNat default)),.int .i64 (Qad.cost (xs.getD n.toNat default))] 118],
 [n=(↑n.toNat:Int)/\Int.toNat n < List.length xs/\Array.extract (Qac Qam xs) (Int.toNat n * TypeInfo.size Tryz.t118) (Int.toNat n * TypeInfo.size Tryz.t118+TypeInfo.size Tryz.t118)=(Qh8 xs n)]):=by kernel_rfl
theorem Qws (B:Lo) (s:Int) (xs:List (Qad)) (n:Int) (dJ0:Nat->Value):CE.landA 6 (Qak Tryz.prog (Qa1 Tryz.prog) J0 B 16 6 (Qcw (none) 157 20 (([0,1,6,7]:List Nat).zip (Qc0 s xs n)) dJ0 Qcz) (QbE (Qbc s xs) 6 (([5,2]:List Nat).zip (QcH s xs n)) (Qbu s xs n)) (6+1+(Qbu s xs n).length)
 (Qqn s xs n dJ0++[(5,Qaj.pure (.bool true) []),(9,Qaj.call (List.range 7) (OO.ret (.bool true)) ([(5,Obj.loop {state:=LoopState.ready,pending:=none,fn:=139,tmps:=(QdW s xs),params:=#[9],assign:=nav (Qal Tryz.prog 139) [1,1,0,1,0,0],body:=nav (Qal Tryz.prog 139) [1,1,0,1,0,1],defers:=4}),(2,Obj.cells #[.slice (some {block:=8,off:=0}) 1 3] 60)]++(7,Qby)::QaK 8 [Obj.cells (Qe6 xs n) 118]) 9 [5,2]),(12,hvI (n+1))]) 0 [] []) [0,1,6,7] [(5,KS.auto),(2,KS.auto)] [(8,KS.rows [(0,0)] [] (Qac (Qa5 0 Qam) [xs.getD n.toNat default]))] []=some ⟨157,20,QcC,[],.run,none,Qc4 s xs (n+1) ([xs.getD n.toNat default]) (1),([5,2]:List Nat).zip (QcA s xs (n+1) ([xs.getD n.toNat default]) (1)),Qbv s xs (n+1) ([xs.getD n.toNat default]) (1),
 [QaY 6 [(0,0)] [] (Qe6 xs n) (Qac (Qa5 0 Qam) [xs.getD n.toNat default]),wq (n+1)=n+1,FJ Tryz.prog B (Qie s xs n dJ0) (Qgn s xs n dJ0) 7 (OO.ret (.bool true)) (([(5,Obj.loop {state:=LoopState.ready,pending:=none,fn:=139,tmps:=(QdW s xs),params:=#[9],assign:=nav (Qal Tryz.prog 139) [1,1,0,1,0,0],body:=nav (Qal Tryz.prog 139) [1,1,0,1,0,1],defers:=4}),(2,Obj.cells #[.slice (some {block:=8,off:=0}) 1 3] 60)]++((7,Qby)::QaK (7+1) [Obj.cells (Qe6 xs n) 118]))++Qgn s xs n dJ0) 9 (List.range 7) [5,2],Qa7 []/\Qas Tryz.prog J0 159 #[.int .i64 s,.int .i64 n] (.bool true)]++QlG B s xs n dJ0⟩:=by kernel_rfl
theorem Qwz (B:Lo) (s:Int) (xs:List (Qad)) (n:Int) (dJ0:Nat->Value):CE.landA 6 (Qak Tryz.prog (Qa1 Tryz.prog) J0 B 16 6 (Qcw (none) 157 20 (([0,1,6,7]:List Nat).zip (Qc0 s xs n)) dJ0 Qcz) (QbE (Qbc s xs) 6 (([5,2]:List Nat).zip (QcH s xs n)) (Qbu s xs n)) (6+1+(Qbu s xs n).length)
 (Qqn s xs n dJ0++[(5,Qaj.pure (.bool false) []),(12,hvI (n+1))]) 0 [] []) [0,1,6,7] [(5,KS.auto),(2,KS.auto)] [] []=some ⟨157,20,Qcz,[],.run,none,Qc0 s xs (n+1),([5,2]:List Nat).zip (QcH s xs (n+1)),Qbu s xs (n+1),
 [wq (n+1)=n+1,Qa7 []/\Qas Tryz.prog J0 159 #[.int .i64 s,.int .i64 n] (.bool false)]++QlG B s xs n dJ0⟩:=by kernel_rfl
theorem Qwj (B:Lo) (s:Int) (xs:List (Qad)) (n:Int) (dJ0:Nat->Value):CE.finK 6 (Qak Tryz.prog (Qa1 Tryz.prog) J0 B 7 6 (Qcw (none) 157 20 (([0,1,6,7]:List Nat).zip (Qc0 s xs n)) dJ0 Qcz) (QbE (Qbc s xs) 6 (([5,2]:List Nat).zip (QcH s xs n)) (Qbu s xs n)) (6+1+(Qbu s xs n).length)
 [(0,hvF)] 0 [] []) [(5,KS.auto),(2,KS.auto)] [] []=some (OO.ret (.tuple #[]),[(5,Obj.loop {state:=LoopState.ready,pending:=none,fn:=139,tmps:=#[.int .i64 s,Qa0 0 (slT xs.length (Qac Qam xs)),.tuple #[],pA 1 0,.slice none 0 0,pA 2 0,.tuple #[],.int .i64 s,Value.func (Fn.func 157) #[] #[Qa0 3 (ptT 0 #[.int .i64 s])],.tuple #[],.tuple #[],.tuple #[],.tuple #[],.tuple #[],.tuple #[],.tuple #[],.tuple #[],.tuple #[]],params:=#[9],assign:=nav (Qal Tryz.prog 139) [1,1,0,1,0,0],body:=nav (Qal Tryz.prog 139) [1,1,0,1,0,1],defers:=4}),(2,Obj.cells #[.slice none 0 0] 60)],[],
 [ltq n (Qcf s)=false]):=by kernel_rfl
def QlM (B:Lo) (s:Int) (xs:List (Qad)) (n:Int) (acc:List Qad) (acc_n:Nat) (dJ0:Nat->Value):List Prop:=[ltq n (Qcf s)=true]++([]:List Prop)
def Qp6 (s:Int) (xs:List (Qad)) (n:Int) (acc:List Qad) (acc_n:Nat) (dJ0:Nat->Value):Qay:=[(0,hvT)]
def Qgk (s:Int) (xs:List (Qad)) (n:Int) (acc:List Qad) (acc_n:Nat) (dJ0:Nat->Value):Qap:=[(5,Obj.loop {state:=LoopState.ready,pending:=none,fn:=139,tmps:=#[.int .i64 s,Qa0 0 (slT xs.length (Qac Qam xs)),.tuple #[],pA 1 0,.slice none 0 0,pA 2 0,.tuple #[],.int .i64 s,Value.func (Fn.func 157) #[] #[Qa0 3 (ptT 0 #[.int .i64 s])],.tuple #[],.tuple #[],.tuple #[],.tuple #[],.tuple #[],.tuple #[],.tuple #[],.tuple #[],.tuple #[]],params:=#[9],assign:=nav (Qal Tryz.prog 139) [1,1,0,1,0,0],body:=nav (Qal Tryz.prog 139) [1,1,0,1,0,1],defers:=4}),(2,Obj.cells #[.slice (some {block:=7,off:=0}) acc_n 3] 60),(6,Obj.coro none),(7,Obj.cells (Qac (Qa5 0 Qam) acc) 118),(5,Obj.loop {state:=LoopState.ready,pending:=none,fn:=139,tmps:=#[.int .i64 s,Qa0 0 (slT xs.length (Qac Qam xs)),.tuple #[],pA 1 0,.slice none 0 0,pA 2 0,.tuple #[],.int .i64 s,Value.func (Fn.func 157) #[] #[Qa0 3 (ptT 0 #[.int .i64 s])],.tuple #[],.tuple #[],.tuple #[],.tuple #[],.tuple #[],.tuple #[],.tuple #[],.tuple #[],.tuple #[]],params:=#[9],assign:=nav (Qal Tryz.prog 139) [1,1,0,1,0,0],body:=nav (Qal Tryz.prog 139) [1,1,0,1,0,1],defers:=4}),(4,Obj.deferred (some [])),(3,Obj.coro none),(2,Obj.cells #[.slice none 0 0] 60),(1,Obj.cells #[Qa0 0 (slT xs.length (Qac Qam xs))] 60),(0,Obj.coro none)]
def Qiq (s:Int) (xs:List (Qad)) (n:Int) (acc:List Qad) (acc_n:Nat) (dJ0:Nat->Value):CF:=⟨139,ofList 18 [.int .i64 s,Qa0 0 (slT xs.length (Qac Qam xs)),.tuple #[],pA 1 0,.slice none 0 0,pA 2 0,.tuple #[],.int .i64 s,Value.func (Fn.func 157) #[] #[Qa0 3 (ptT 0 #[.int .i64 s])],.int .i64 n,.tuple #[],.tuple #[],.tuple #[],.tuple #[],.tuple #[],.tuple #[],.tuple #[],.tuple #[]],[Item.code (nav (Qal Tryz.prog 139) [1,1,0,1,0,0]),Item.beginRound,Item.code (nav (Qal Tryz.prog 139) [1,1,0,1,0,1])],[],.run,some 5⟩
theorem QvJ (B:Lo) (s:Int) (xs:List (Qad)) (n:Int) (acc:List Qad) (acc_n:Nat) (dJ0:Nat->Value):CE.finK 8 (Qak Tryz.prog (Qa1 Tryz.prog) J0 B 6 8 (Qiq s xs n acc acc_n dJ0) (Qgk s xs n acc acc_n dJ0) 8
 [(4,Qaj.tidx n.toNat (Qh8 xs n)),(7,Qaj.old (Hint.app (Qac (Qa5 0 Qam) acc++(Qe6 xs n))))] 0 [] []) [(7,KS.dead),(5,KS.auto),(2,KS.auto)] [(9,KS.rows [(0,0)] [] (Qac (Qa5 0 Qam) (acc++[xs.getD n.toNat default])))] []=some (OO.ret (.bool true),[(7,Obj.pending #[] 0),(5,Obj.loop {state:=LoopState.ready,pending:=none,fn:=139,tmps:=#[.int .i64 s,Qa0 0 (slT xs.length (Qac Qam xs)),.tuple #[],pA 1 0,.slice none 0 0,pA 2 0,.tuple #[],.int .i64 s,Value.func (Fn.func 157) #[] #[Qa0 3 (ptT 0 #[.int .i64 s])],.tuple #[],.tuple #[],.tuple #[],.tuple #[],.tuple #[],.tuple #[],.tuple #[],.tuple #[],.tuple #[]],params:=#[9],assign:=nav (Qal Tryz.prog 139) [1,1,0,1,0,0],body:=nav (Qal Tryz.prog 139) [1,1,0,1,0,1],defers:=4}),(2,Obj.cells #[.slice (some {block:=9,off:=0}) (acc_n+1) 3] 60)],[Obj.cells (Qac (Qa5 0 Qam) (acc++[xs.getD n.toNat default])) 118],
 [QaY 8 [(0,0)] [] (Qac (Qa5 0 Qam) acc++(Qe6 xs n)) (Qac (Qa5 0 Qam) (acc++[xs.getD n.toNat default])),Array.size (Qac (Qa5 0 Qam) acc)=acc_n * (2+1)/\acc_n+1<=maxLen/\(acc_n+1) * 40<=140737488355328/\Qac (Qa5 0 Qam) acc++(Qe6 xs n)=Qac (Qa5 0 Qam) acc++(Qe6 xs n),n=(↑n.toNat:Int)/\Int.toNat n < List.length xs/\Array.extract (Qac Qam xs) (Int.toNat n * TypeInfo.size Tryz.t118) (Int.toNat n * TypeInfo.size Tryz.t118+TypeInfo.size Tryz.t118)=(Qh8 xs n)]):=by kernel_rfl
theorem QxW (B:Lo) (s:Int) (xs:List (Qad)) (n:Int) (acc:List Qad) (acc_n:Nat) (dJ0:Nat->Value):CE.landA 6 (Qak Tryz.prog (Qa1 Tryz.prog) J0 B 16 6 (Qcw (none) 157 20 (([0,1,6,7]:List Nat).zip (Qc4 s xs n acc acc_n)) dJ0 QcC) (QbE (Qbc s xs) 6 (([5,2]:List Nat).zip (QcA s xs n acc acc_n)) (Qbv s xs n acc acc_n)) (6+1+(Qbv s xs n acc acc_n).length)
 (Qp6 s xs n acc acc_n dJ0++[(5,Qaj.pure (.bool true) []),(9,Qaj.call (List.range 8) (OO.ret (.bool true)) ([(7,Obj.pending #[] 0),(5,Obj.loop {state:=LoopState.ready,pending:=none,fn:=139,tmps:=(QdW s xs),params:=#[9],assign:=nav (Qal Tryz.prog 139) [1,1,0,1,0,0],body:=nav (Qal Tryz.prog 139) [1,1,0,1,0,1],defers:=4}),(2,Obj.cells #[.slice (some {block:=9,off:=0}) (acc_n+1) 3] 60)]++(8,Qby)::QaK 9 [Obj.cells (Qac (Qa5 0 Qam) (acc++[xs.getD n.toNat default])) 118]) 10 [7,5,2]),(12,hvI (n+1))]) 0 [] []) [0,1,6,7] [(5,KS.auto),(2,KS.auto)] [(9,KS.rows [(0,0)] [] (Qac (Qa5 0 Qam) (acc++[xs.getD n.toNat default])))] []=some ⟨157,20,QcC,[],.run,none,Qc4 s xs (n+1) (acc++[xs.getD n.toNat default]) (acc_n+1),([5,2]:List Nat).zip (QcA s xs (n+1) (acc++[xs.getD n.toNat default]) (acc_n+1)),Qbv s xs (n+1) (acc++[xs.getD n.toNat default]) (acc_n+1),
 [QaY 6 [(0,0)] [] (Qac (Qa5 0 Qam) (acc++[xs.getD n.toNat default])) (Qac (Qa5 0 Qam) (acc++[xs.getD n.toNat default])),wq (n+1)=n+1,FJ Tryz.prog B (Qiq s xs n acc acc_n dJ0) (Qgk s xs n acc acc_n dJ0) 8 (OO.ret (.bool true)) (([(7,Obj.pending #[] 0),(5,Obj.loop {state:=LoopState.ready,pending:=none,fn:=139,tmps:=(QdW s xs),params:=#[9],assign:=nav (Qal Tryz.prog 139) [1,1,0,1,0,0],body:=nav (Qal Tryz.prog 139) [1,1,0,1,0,1],defers:=4}),(2,Obj.cells #[.slice (some {block:=9,off:=0}) (acc_n+1) 3] 60)]++((8,Qby)::QaK (8+1) [Obj.cells (Qac (Qa5 0 Qam) (acc++[xs.getD n.toNat default])) 118]))++Qgk s xs n acc acc_n dJ0) 10 (List.range 8) [7,5,2],Qa7 []/\Qas Tryz.prog J0 159 #[.int .i64 s,.int .i64 n] (.bool true)]++QlM B s xs n acc acc_n dJ0⟩:=by kernel_rfl
theorem Qvd (B:Lo) (s:Int) (xs:List (Qad)) (n:Int) (acc:List Qad) (acc_n:Nat) (dJ0:Nat->Value):CE.landA 6 (Qak Tryz.prog (Qa1 Tryz.prog) J0 B 16 6 (Qcw (none) 157 20 (([0,1,6,7]:List Nat).zip (Qc4 s xs n acc acc_n)) dJ0 QcC) (QbE (Qbc s xs) 6 (([5,2]:List Nat).zip (QcA s xs n acc acc_n)) (Qbv s xs n acc acc_n)) (6+1+(Qbv s xs n acc acc_n).length)
 (Qp6 s xs n acc acc_n dJ0++[(5,Qaj.pure (.bool false) []),(12,hvI (n+1))]) 0 [] []) [0,1,6,7] [(5,KS.auto),(2,KS.auto)] [(7,KS.rows [(0,0)] [] (Qac (Qa5 0 Qam) acc))] []=some ⟨157,20,QcC,[],.run,none,Qc4 s xs (n+1) (acc) (acc_n),([5,2]:List Nat).zip (QcA s xs (n+1) (acc) (acc_n)),Qbv s xs (n+1) (acc) (acc_n),
 [QaY 6 [(0,0)] [] (Qac (Qa5 0 Qam) acc) (Qac (Qa5 0 Qam) acc),wq (n+1)=n+1,Qa7 []/\Qas Tryz.prog J0 159 #[.int .i64 s,.int .i64 n] (.bool false)]++QlM B s xs n acc acc_n dJ0⟩:=by kernel_rfl
theorem Qw6 (B:Lo) (s:Int) (xs:List (Qad)) (n:Int) (acc:List Qad) (acc_n:Nat) (dJ0:Nat->Value):CE.finK 6 (Qak Tryz.prog (Qa1 Tryz.prog) J0 B 7 6 (Qcw (none) 157 20 (([0,1,6,7]:List Nat).zip (Qc4 s xs n acc acc_n)) dJ0 QcC) (QbE (Qbc s xs) 6 (([5,2]:List Nat).zip (QcA s xs n acc acc_n)) (Qbv s xs n acc acc_n)) (6+1+(Qbv s xs n acc acc_n).length)
 [(0,hvF)] 0 [] []) [(5,KS.auto),(2,KS.auto)] [(7,KS.rows [(0,0)] [] (Qac (Qa5 0 Qam) acc))] []=some (OO.ret (.tuple #[]),[(5,Obj.loop {state:=LoopState.ready,pending:=none,fn:=139,tmps:=#[.int .i64 s,Qa0 0 (slT xs.length (Qac Qam xs)),.tuple #[],pA 1 0,.slice none 0 0,pA 2 0,.tuple #[],.int .i64 s,Value.func (Fn.func 157) #[] #[Qa0 3 (ptT 0 #[.int .i64 s])],.tuple #[],.tuple #[],.tuple #[],.tuple #[],.tuple #[],.tuple #[],.tuple #[],.tuple #[],.tuple #[]],params:=#[9],assign:=nav (Qal Tryz.prog 139) [1,1,0,1,0,0],body:=nav (Qal Tryz.prog 139) [1,1,0,1,0,1],defers:=4}),(2,Obj.cells #[.slice (some {block:=7,off:=0}) acc_n 3] 60)],[Obj.cells (Qac (Qa5 0 Qam) acc) 118],
 [QaY 6 [(0,0)] [] (Qac (Qa5 0 Qam) acc) (Qac (Qa5 0 Qam) acc),ltq n (Qcf s)=false]):=by kernel_rfl
set_option maxHeartbeats 4000000 in
theorem Qju (s:Int) (xs:List (Qad)) (h0:0<=s) (h1:s < 64) (hx:Qcf s<=xs.length) {B:Lo} (hJ:∀w,B.has w->J0 w):∀m:Nat,(∀(n:Int),∀(r:Bool),(!(([]:List Qad)++Qax s xs n).isEmpty)=r->(Qcf s - n).toNat=m->∀(hn:0<=n),(∃dJ0:Nat->Value,(∀t,QaS (dJ0 t))/\GoE Tryz.prog B (Qcj s xs) (Qbc s xs) 6 (Qcw (none) 157 20 (([0,1,6,7]:List Nat).zip (Qc0 s xs n)) dJ0 Qcz) (QbE (Qbc s xs) 6 (([5,2]:List Nat).zip (QcH s xs n)) (Qbu s xs n)) (6+1+(Qbu s xs n).length) ([5,2]:List Nat))->FinK Tryz.prog B (Qcj s xs) (Qbc s xs) 6 (.ret (.tuple #[])) (([5,2]:List Nat).zip ([Obj.loop {state:=LoopState.ready,pending:=none,fn:=139,tmps:=#[.int .i64 s,Qa0 0 (slT xs.length (Qac Qam xs)),.tuple #[],pA 1 0,.slice none 0 0,pA 2 0,.tuple #[],.int .i64 s,Value.func (Fn.func 157) #[] #[Qa0 3 (ptT 0 #[.int .i64 s])],.tuple #[],.tuple #[],.tuple #[],.tuple #[],.tuple #[],.tuple #[],.tuple #[],.tuple #[],.tuple #[]],params:=#[9],assign:=nav (Qal Tryz.prog 139) [1,1,0,1,0,0],body:=nav (Qal Tryz.prog 139) [1,1,0,1,0,1],defers:=4},.cells #[bif r then .slice (some ⟨7,0,none⟩) (([]:List Qad)++Qax s xs n).length 3 else .slice none 0 0] 60 (0,0)])) (bif r then [Go.Obj.cells (Qac (Qa5 0 Qam) (([]:List Qad)++Qax s xs n)) 118 (0,0)] else []) ([5,2]:List Nat))/\(∀(n:Int) (acc:List Qad) (acc_n:Nat),∀(r:Bool),(!(acc++Qax s xs n).isEmpty)=r->(Qcf s - n).toNat=m->∀(hn:0<=n) (hacc:acc_n=acc.length) (haccb:acc≠[]/\(acc_n:Int)<=n),(∃dJ0:Nat->Value,(∀t,QaS (dJ0 t))/\GoE Tryz.prog B (Qcj s xs) (Qbc s xs) 6 (Qcw (none) 157 20 (([0,1,6,7]:List Nat).zip (Qc4 s xs n acc acc_n)) dJ0 QcC) (QbE (Qbc s xs) 6 (([5,2]:List Nat).zip (QcA s xs n acc acc_n)) (Qbv s xs n acc acc_n)) (6+1+(Qbv s xs n acc acc_n).length) ([5,2]:List Nat))->FinK Tryz.prog B (Qcj s xs) (Qbc s xs) 6 (.ret (.tuple #[])) (([5,2]:List Nat).zip ([Obj.loop {state:=LoopState.ready,pending:=none,fn:=139,tmps:=#[.int .i64 s,Qa0 0 (slT xs.length (Qac Qam xs)),.tuple #[],pA 1 0,.slice none 0 0,pA 2 0,.tuple #[],.int .i64 s,Value.func (Fn.func 157) #[] #[Qa0 3 (ptT 0 #[.int .i64 s])],.tuple #[],.tuple #[],.tuple #[],.tuple #[],.tuple #[],.tuple #[],.tuple #[],.tuple #[],.tuple #[]],params:=#[9],assign:=nav (Qal Tryz.prog 139) [1,1,0,1,0,0],body:=nav (Qal Tryz.prog 139) [1,1,0,1,0,1],defers:=4},.cells #[bif r then .slice (some ⟨7,0,none⟩) (acc++Qax s xs n).length 3 else .slice none 0 0] 60 (0,0)])) (bif r then [Go.Obj.cells (Qac (Qa5 0 Qam) (acc++Qax s xs n)) 118 (0,0)] else []) ([5,2]:List Nat)):=by
 intro m0
 induction m0 using Nat.strongRecOn with
 | _ m0 ih0=>
   refine ⟨?_, ?_⟩
   ·intro n r1 hr1 hm0 hn ⟨dJ0,hdJ0,hg0⟩
    have hl:=QeY h0 h1
    by_cases q0:(n:Int) < (Qcf s)
    ·
     have hp1:Qa7 (QlG B s xs n dJ0):=by
      exact ⟨(Qbl q0),trivial⟩
     cases q1:QjF s n with
     | true=>
       have rj2:FJ Tryz.prog B (Qie s xs n dJ0) (Qgn s xs n dJ0) 7 (OO.ret (.bool true)) (([(5,Obj.loop {state:=LoopState.ready,pending:=none,fn:=139,tmps:=#[.int .i64 s,Qa0 0 (slT xs.length (Qac Qam xs)),.tuple #[],pA 1 0,.slice none 0 0,pA 2 0,.tuple #[],.int .i64 s,Value.func (Fn.func 157) #[] #[Qa0 3 (ptT 0 #[.int .i64 s])],.tuple #[],.tuple #[],.tuple #[],.tuple #[],.tuple #[],.tuple #[],.tuple #[],.tuple #[],.tuple #[]],params:=#[9],assign:=nav (Qal Tryz.prog 139) [1,1,0,1,0,0],body:=nav (Qal Tryz.prog 139) [1,1,0,1,0,1],defers:=4}),(2,Obj.cells #[.slice (some {block:=8,off:=0}) 1 3] 60)]++((7,Qby)::QaK (7+1) [Obj.cells #[Qa0 0 (slT (List.length (Qad.goods (xs.getD n.toNat default))) (Qac Qa6 (Qad.goods (xs.getD n.toNat default)))),.int .i64 (Qad.weight (xs.getD n.toNat default)),.int .i64 (Qad.cost (xs.getD n.toNat default))] 118]))++Qgn s xs n dJ0) 9 (List.range 7) [5,2]:=by
        have s2:=QeG (s:=s) (xs:=xs) q0 q1
        exact FinK.fjB (GoE.finK okF hJ Qab (Qan (by kernel_rfl)) (Qag (by kernel_rfl)) ((GoE.refl (P:=Tryz.prog) (B:=B) (c0:=Qie s xs n dJ0) (Qan (by kernel_rfl))).widen (Wf:=((([(5,KS.auto),(2,KS.auto)]):List (Nat×KS)).map (·.1))) (by simp) (Qag (by kernel_rfl))) (QuN B s xs n dJ0)
         ⟨⟨by omega,by omega,(Qaf (z:=3) (fun _=> rfl) (by omega))⟩,trivial⟩) (ex:=[]) (by kernel_rfl) (Qb0 _)
       have s2:=QeG (s:=s) (xs:=xs) q0 q1
       exact ((ih0 _ (by omega)).2 (n+1) ([xs.getD n.toNat default]) (1) r1 (by (rw [<-hr1,s2];simp;done)) rfl (by omega) (by (simp_all;done)) (by (refine ⟨by simp, ?_⟩;omega))
        (GoE.landA okF hJ Qab (Qan (by kernel_rfl)) (Qag (by kernel_rfl)) hg0 (Qws B s xs n dJ0)
        ⟨(by exact (QgK (by exact ⟨(.reg (List.Mem.head _) rfl),⟨(.simple rfl),⟨(.simple rfl),trivial⟩⟩⟩))),⟨(QaJ (by omega) (by omega)),⟨rj2,⟨⟨trivial,(by have t_:=Q0I (s) (n) (by omega) (by omega);rw [q1] at t_;exact t_)⟩,hp1⟩⟩⟩⟩ (by kernel_rfl) (by kernel_rfl) (fun l hl=> by cases hl <;> decide))).cast (by rfl) (by (rw [s2];rfl)) (by (rw [s2];rfl))
     | false=>
       have s2:=QhU (s:=s) (xs:=xs) q0 q1
       exact ((ih0 _ (by omega)).1 (n+1) r1 (by (rw [<-hr1,s2];done)) rfl (by omega)
        (GoE.landA okF hJ Qab (Qan (by kernel_rfl)) (Qag (by kernel_rfl)) hg0 (Qwz B s xs n dJ0)
        ⟨(QaJ (by omega) (by omega)),⟨⟨trivial,(by have t_:=Q0I (s) (n) (by omega) (by omega);rw [q1] at t_;exact t_)⟩,hp1⟩⟩ (by kernel_rfl) (by kernel_rfl) (fun l hl=> by cases hl <;> decide))).cast (by rfl) (by (rw [s2];done)) (by (rw [s2];done))
    ·
     have s2:=QhA (s:=s) (xs:=xs) (n:=n) (by omega)
     exact (GoE.finK okF hJ Qab (Qan (by kernel_rfl)) (Qag (by kernel_rfl)) hg0 (Qwj B s xs n dJ0)
      ⟨(Qbq (Int.not_lt.1 q0)),trivial⟩).cast (by rfl) (by (subst hr1;rw [s2];rfl)) (by (subst hr1;rw [s2];rfl))
   ·intro n acc acc_n r1 hr1 hm0 hn hacc haccb ⟨dJ0,hdJ0,hg0⟩
    have hl:=QeY h0 h1
    by_cases q0:(n:Int) < (Qcf s)
    ·
     have hp2:Qa7 (QlM B s xs n acc acc_n dJ0):=by
      exact ⟨(Qbl q0),trivial⟩
     cases q1:QjF s n with
     | true=>
       have rj2:FJ Tryz.prog B (Qiq s xs n acc acc_n dJ0) (Qgk s xs n acc acc_n dJ0) 8 (OO.ret (.bool true)) (([(7,Obj.pending #[] 0),(5,Obj.loop {state:=LoopState.ready,pending:=none,fn:=139,tmps:=#[.int .i64 s,Qa0 0 (slT xs.length (Qac Qam xs)),.tuple #[],pA 1 0,.slice none 0 0,pA 2 0,.tuple #[],.int .i64 s,Value.func (Fn.func 157) #[] #[Qa0 3 (ptT 0 #[.int .i64 s])],.tuple #[],.tuple #[],.tuple #[],.tuple #[],.tuple #[],.tuple #[],.tuple #[],.tuple #[],.tuple #[]],params:=#[9],assign:=nav (Qal Tryz.prog 139) [1,1,0,1,0,0],body:=nav (Qal Tryz.prog 139) [1,1,0,1,0,1],defers:=4}),(2,Obj.cells #[.slice (some {block:=9,off:=0}) (acc_n+1) 3] 60)]++((8,Qby)::QaK (8+1) [Obj.cells (Qac (Qa5 0 Qam) (acc++[xs.getD n.toNat default])) 118]))++Qgk s xs n acc acc_n dJ0) 10 (List.range 8) [7,5,2]:=by
        have s2:=QeG (s:=s) (xs:=xs) q0 q1
        exact FinK.fjB (GoE.finK okF hJ Qab (Qan (by kernel_rfl)) (Qag (by kernel_rfl)) ((GoE.refl (P:=Tryz.prog) (B:=B) (c0:=Qiq s xs n acc acc_n dJ0) (Qan (by kernel_rfl))).widen (Wf:=((([(7,KS.dead),(5,KS.auto),(2,KS.auto)]):List (Nat×KS)).map (·.1))) (by simp) (Qag (by kernel_rfl))) (QvJ B s xs n acc acc_n dJ0)
         ⟨(by exact (QfD (QaN (QaV (fun _=> rfl)) (List.Mem.head _)) (by exact ⟨(.reg (List.Mem.head _) rfl),⟨(.simple rfl),⟨(.simple rfl),trivial⟩⟩⟩))),⟨⟨(by (rw [Qbp (z:=3) (fun _=> rfl)];first | omega | (simp;omega) | (simp_all;done))),(by unfold maxLen;omega),by omega,rfl⟩,⟨⟨by omega,by omega,(Qaf (z:=3) (fun _=> rfl) (by omega))⟩,trivial⟩⟩⟩) (ex:=[7]) (by kernel_rfl) ⟨trivial,⟨trivial,⟨trivial,⟨(Qfl (t:=118) (fl:=(0,0)) (QaV (fun _=> rfl)) (by decide)),⟨trivial,⟨trivial,⟨trivial,⟨trivial,⟨trivial,⟨trivial,trivial⟩⟩⟩⟩⟩⟩⟩⟩⟩⟩
       have s2:=QeG (s:=s) (xs:=xs) q0 q1
       exact ((ih0 _ (by omega)).2 (n+1) (acc++[xs.getD n.toNat default]) (acc_n+1) r1 (by (rw [<-hr1,s2];simp;done)) rfl (by omega) (by (simp_all;done)) (by (simp_all;done))
        (GoE.landA okF hJ Qab (Qan (by kernel_rfl)) (Qag (by kernel_rfl)) hg0 (QxW B s xs n acc acc_n dJ0)
        ⟨(by exact (QaN (QaV (fun _=> rfl)) (List.Mem.head _))),⟨(QaJ (by omega) (by omega)),⟨rj2,⟨⟨trivial,(by have t_:=Q0I (s) (n) (by omega) (by omega);rw [q1] at t_;exact t_)⟩,hp2⟩⟩⟩⟩ (by kernel_rfl) (by kernel_rfl) (fun l hl=> by cases hl <;> decide))).cast (by rfl) (by (rw [s2,<-List.append_assoc];done)) (by (rw [s2,<-List.append_assoc];done))
     | false=>
       have s2:=QhU (s:=s) (xs:=xs) q0 q1
       exact ((ih0 _ (by omega)).2 (n+1) (acc) (acc_n) r1 (by (rw [<-hr1,s2];done)) rfl (by omega) (by with_reducible assumption) (by exact ⟨haccb.1,by omega⟩)
        (GoE.landA okF hJ Qab (Qan (by kernel_rfl)) (Qag (by kernel_rfl)) hg0 (Qvd B s xs n acc acc_n dJ0)
        ⟨(by exact (QaN (QaV (fun _=> rfl)) (List.Mem.head _))),⟨(QaJ (by omega) (by omega)),⟨⟨trivial,(by have t_:=Q0I (s) (n) (by omega) (by omega);rw [q1] at t_;exact t_)⟩,hp2⟩⟩⟩ (by kernel_rfl) (by kernel_rfl) (fun l hl=> by cases hl <;> decide))).cast (by rfl) (by (rw [s2];done)) (by (rw [s2];done))
    ·
     have s2:=QhA (s:=s) (xs:=xs) (n:=n) (by omega)
     exact (GoE.finK okF hJ Qab (Qan (by kernel_rfl)) (Qag (by kernel_rfl)) hg0 (Qw6 B s xs n acc acc_n dJ0)
      ⟨(by exact (QaN (QaV (fun _=> rfl)) (List.Mem.head _))),⟨(Qbq (Int.not_lt.1 q0)),trivial⟩⟩).cast (by rfl) (by (subst hr1;simp only [QzY haccb.1,s2,List.append_nil,hacc,Bool.not_false,cond_true];rfl)) (by (subst hr1;simp only [QzY haccb.1,s2,List.append_nil,hacc,Bool.not_false,cond_true];done))

theorem Qvc (B:Lo) (s:Int) (xs:List (Qad)):CE.landA 6 (Qak Tryz.prog (Qa1 Tryz.prog) J0 B 4 6 (Qcj s xs) (Qbc s xs) 6
 [(1,Qaj.old (Hint.val (Value.int IntKind.u64 s))),(2,Qaj.pure (.int .i64 (Qcf s)) [])] 0 [] []) [0,1,6,7] [(5,KS.auto),(2,KS.auto)] [] []=some ⟨157,20,Qcz,[],.run,none,Qc0 s xs (0),([5,2]:List Nat).zip (QcH s xs (0)),Qbu s xs (0),
 [Qa7 []/\Qas Tryz.prog J0 158 #[Value.int IntKind.u64 s] (.int .i64 (Qcf s)),IntKind.wrap IntKind.u64 s=s]⟩:=by kernel_rfl
theorem Qtk (B:Lo) (s:Int) (xs:List (Qad)):Qbb (Qak Tryz.prog (Qa1 Tryz.prog) J0 B 16 1 (Qai Tryz.prog 139 18 (([.int .i64 s,slT xs.length (Qac Qam xs)]).map (Qaq 0 4))) H00 1
 (Qqm s xs++[(5,Qaj.call (List.range 6) (OO.ret (.tuple #[])) ([(5,Obj.loop {state:=LoopState.ready,pending:=none,fn:=139,tmps:=(QdW s xs),params:=#[9],assign:=nav (Qal Tryz.prog 139) [1,1,0,1,0,0],body:=nav (Qal Tryz.prog 139) [1,1,0,1,0,1],defers:=4}),(2,Obj.cells #[.slice (some {block:=7,off:=0}) (List.length ([]++Qax s xs 0)) 3] 60)]++(6,Qby)::QaK 7 [Obj.cells (Qac (Qa5 0 Qam) ([]++Qax s xs 0)) 118]) 8 [5,2])]) 0 [] []) [{k:=7,rs:=[0],cs:=Qac Qam ([]++Qax s xs 0)}]=some (slT (List.length ([]++Qax s xs 0)) (Fz.cs {k:=7,rs:=[0],cs:=Qac Qam ([]++Qax s xs 0)}),
 [Qb8 (Fz.rs {k:=7,rs:=[0],cs:=Qac Qam ([]++Qax s xs 0)}) (Qac (Qa5 0 Qam) ([]++Qax s xs 0)) (Fz.cs {k:=7,rs:=[0],cs:=Qac Qam ([]++Qax s xs 0)}),FJ Tryz.prog B (Qcj s xs) (Qbc s xs) 6 (OO.ret (.tuple #[])) (([(5,Obj.loop {state:=LoopState.ready,pending:=none,fn:=139,tmps:=(QdW s xs),params:=#[9],assign:=nav (Qal Tryz.prog 139) [1,1,0,1,0,0],body:=nav (Qal Tryz.prog 139) [1,1,0,1,0,1],defers:=4}),(2,Obj.cells #[.slice (some {block:=7,off:=0}) (List.length ([]++Qax s xs 0)) 3] 60)]++((6,Qby)::QaK (6+1) [Obj.cells (Qac (Qa5 0 Qam) ([]++Qax s xs 0)) 118]))++Qbc s xs) 8 (List.range 6) [5,2]]++Qkp B s xs):=by kernel_rfl
theorem Quq (B:Lo) (s:Int) (xs:List (Qad)):CE.landA 6 (Qak Tryz.prog (Qa1 Tryz.prog) J0 B 4 6 (Qcj s xs) (Qbc s xs) 6
 [(1,Qaj.old (Hint.val (Value.int IntKind.u64 s))),(2,Qaj.pure (.int .i64 (Qcf s)) [])] 0 [] []) [0,1,6,7] [(5,KS.auto),(2,KS.auto)] [] []=some ⟨157,20,Qcz,[],.run,none,Qc0 s xs (0),([5,2]:List Nat).zip (QcH s xs (0)),Qbu s xs (0),
 [Qa7 []/\Qas Tryz.prog J0 158 #[Value.int IntKind.u64 s] (.int .i64 (Qcf s)),IntKind.wrap IntKind.u64 s=s]⟩:=by kernel_rfl
theorem QtP (B:Lo) (s:Int) (xs:List (Qad)):Qbb (Qak Tryz.prog (Qa1 Tryz.prog) J0 B 16 1 (Qai Tryz.prog 139 18 (([.int .i64 s,slT xs.length (Qac Qam xs)]).map (Qaq 0 4))) H00 1
 (Qqm s xs++[(5,Qaj.call (List.range 6) (OO.ret (.tuple #[])) ([(5,Obj.loop {state:=LoopState.ready,pending:=none,fn:=139,tmps:=(QdW s xs),params:=#[9],assign:=nav (Qal Tryz.prog 139) [1,1,0,1,0,0],body:=nav (Qal Tryz.prog 139) [1,1,0,1,0,1],defers:=4}),(2,Obj.cells #[.slice none 0 0] 60)]++(6,Qby)::QaK 7 []) 7 [5,2])]) 0 [] []) []=some (slT 0 #[],
 [FJ Tryz.prog B (Qcj s xs) (Qbc s xs) 6 (OO.ret (.tuple #[])) (([(5,Obj.loop {state:=LoopState.ready,pending:=none,fn:=139,tmps:=(QdW s xs),params:=#[9],assign:=nav (Qal Tryz.prog 139) [1,1,0,1,0,0],body:=nav (Qal Tryz.prog 139) [1,1,0,1,0,1],defers:=4}),(2,Obj.cells #[.slice none 0 0] 60)]++((6,Qby)::QaK (6+1) []))++Qbc s xs) 7 (List.range 6) [5,2]]++Qkp B s xs):=by kernel_rfl
set_option maxHeartbeats 4000000 in
theorem QzD (s:Int) (xs:List (Qad)) (h0:0<=s) (h1:s < 64) (hx:Qcf s<=xs.length) {B:Lo} (hJ:∀w,B.has w->J0 w):EndsT Tryz.prog B (Qai Tryz.prog 139 18 (([.int .i64 s,slT xs.length (Qac Qam xs)]).map (Qaq 0 4))) (slT (Qax s xs 0).length (Qac Qam (Qax s xs 0))):=by
 have hl:=QeY h0 h1
 have rj0:FJ Tryz.prog B (QhZ s xs) (QgD s xs) 3 (OO.ret (Value.func (Fn.func 157) #[] #[Qa0 3 (ptT 0 #[.int .i64 s])])) (([]++((3,Qby)::QaK (3+1) []))++QgD s xs) 4 (List.range 3) []:=by
  exact FinK.fjB (GoE.finK okF hJ Qab (Qan (by kernel_rfl)) (Qag (by kernel_rfl)) ((GoE.refl (P:=Tryz.prog) (B:=B) (c0:=QhZ s xs) (Qan (by kernel_rfl))).widen (Wf:=((([]):List (Nat×KS)).map (·.1))) (by simp) (Qag (by kernel_rfl))) (Qvz B s xs)
   ⟨(QfC (by kernel_rfl)),trivial⟩) (ex:=[]) (by kernel_rfl) (Qb0 _)
 have hp0:Qa7 (Qkp B s xs):=by
  exact ⟨rj0,trivial⟩
 cases q0: !List.isEmpty ([]++Qax s xs 0) with
 | true=>
   have rj1:FJ Tryz.prog B (Qcj s xs) (Qbc s xs) 6 (OO.ret (.tuple #[])) (([(5,Obj.loop {state:=LoopState.ready,pending:=none,fn:=139,tmps:=#[.int .i64 s,Qa0 0 (slT xs.length (Qac Qam xs)),.tuple #[],pA 1 0,.slice none 0 0,pA 2 0,.tuple #[],.int .i64 s,Value.func (Fn.func 157) #[] #[Qa0 3 (ptT 0 #[.int .i64 s])],.tuple #[],.tuple #[],.tuple #[],.tuple #[],.tuple #[],.tuple #[],.tuple #[],.tuple #[],.tuple #[]],params:=#[9],assign:=nav (Qal Tryz.prog 139) [1,1,0,1,0,0],body:=nav (Qal Tryz.prog 139) [1,1,0,1,0,1],defers:=4}),(2,Obj.cells #[.slice (some {block:=7,off:=0}) (List.length ([]++Qax s xs 0)) 3] 60)]++((6,Qby)::QaK (6+1) [Obj.cells (Qac (Qa5 0 Qam) ([]++Qax s xs 0)) 118]))++Qbc s xs) 8 (List.range 6) [5,2]:=by
    exact FinK.fjB ((Qju s xs h0 h1 hx hJ _).1 (0) true q0 rfl (by omega)
     (GoE.landA okF hJ Qab (Qan (by kernel_rfl)) (Qag (by kernel_rfl)) ((GoE.refl (P:=Tryz.prog) (B:=B) (c0:=Qcj s xs) (Qan (by kernel_rfl))).widen (Wf:=((([(5,KS.auto),(2,KS.auto)]):List (Nat×KS)).map (·.1))) (by simp) (Qag (by kernel_rfl))) (Qvc B s xs)
     ⟨⟨trivial,Q37 (s) (by with_reducible assumption) (by with_reducible assumption)⟩,⟨(IntWalk.u64_in _ ⟨by omega,by omega⟩),trivial⟩⟩ (by kernel_rfl) (by kernel_rfl) (fun l hl=> by cases hl <;> decide))) (ex:=[]) (by kernel_rfl) (Qb0 _)
   exact (GoE.endsT okF hJ Qab GoE.start (Qtk B s xs)
    ⟨(Qdo (QaV (fun _=> rfl)) (List.Mem.head _)),⟨rj1,hp0⟩⟩).cast (by rfl)
 | false=>
   have rj1:FJ Tryz.prog B (Qcj s xs) (Qbc s xs) 6 (OO.ret (.tuple #[])) (([(5,Obj.loop {state:=LoopState.ready,pending:=none,fn:=139,tmps:=#[.int .i64 s,Qa0 0 (slT xs.length (Qac Qam xs)),.tuple #[],pA 1 0,.slice none 0 0,pA 2 0,.tuple #[],.int .i64 s,Value.func (Fn.func 157) #[] #[Qa0 3 (ptT 0 #[.int .i64 s])],.tuple #[],.tuple #[],.tuple #[],.tuple #[],.tuple #[],.tuple #[],.tuple #[],.tuple #[],.tuple #[]],params:=#[9],assign:=nav (Qal Tryz.prog 139) [1,1,0,1,0,0],body:=nav (Qal Tryz.prog 139) [1,1,0,1,0,1],defers:=4}),(2,Obj.cells #[.slice none 0 0] 60)]++((6,Qby)::QaK (6+1) []))++Qbc s xs) 7 (List.range 6) [5,2]:=by
    exact FinK.fjB ((Qju s xs h0 h1 hx hJ _).1 (0) false q0 rfl (by omega)
     (GoE.landA okF hJ Qab (Qan (by kernel_rfl)) (Qag (by kernel_rfl)) ((GoE.refl (P:=Tryz.prog) (B:=B) (c0:=Qcj s xs) (Qan (by kernel_rfl))).widen (Wf:=((([(5,KS.auto),(2,KS.auto)]):List (Nat×KS)).map (·.1))) (by simp) (Qag (by kernel_rfl))) (Quq B s xs)
     ⟨⟨trivial,Q37 (s) (by with_reducible assumption) (by with_reducible assumption)⟩,⟨(IntWalk.u64_in _ ⟨by omega,by omega⟩),trivial⟩⟩ (by kernel_rfl) (by kernel_rfl) (fun l hl=> by cases hl <;> decide))) (ex:=[]) (by kernel_rfl) (Qb0 _)
   exact (GoE.endsT okF hJ Qab GoE.start (QtP B s xs)
    ⟨rj1,hp0⟩).cast (by (rw [Q2N q0];rfl))
theorem Q2L (s:Int) (xs:List (Qad)) (h0:0<=s) (h1:s < 64) (hx:Qcf s<=xs.length):Qas Tryz.prog J0 139 #[.int .i64 s,slT xs.length (Qac Qam xs)] (slT (Qax s xs 0).length (Qac Qam (Qax s xs 0))):=
 QaE (ts:=[.int .i64 s,slT xs.length (Qac Qam xs)]) Qb6 (c0:=Qai Tryz.prog 139 18 (([.int .i64 s,slT xs.length (Qac Qam xs)]).map (Qaq 0 4))) (by kernel_rfl) (by kernel_rfl) fun B hJ=> QzD s xs h0 h1 hx hJ
def Qgw (s:Int) (xs:List (Row)):Qap:=[(2,Obj.cells #[.slice none 0 0] 63),(1,Obj.cells #[Qa0 0 (slT xs.length (Qac Qaz xs))] 63),(0,Obj.coro none)]
def Qip (s:Int) (xs:List (Row)):CF:=⟨147,ofList 4 [.int .i64 s],[Item.code (Qal Tryz.prog 147)],[],.run,none⟩
def Qea (s:Int) (xs:List (Row)):Array Value:=#[.int .i64 s,Qa0 0 (slT xs.length (Qac Qaz xs)),.tuple #[],pA 1 0,.slice none 0 0,pA 2 0,.tuple #[],.int .i64 s,Value.func (Fn.func 157) #[] #[Qa0 3 (ptT 0 #[.int .i64 s])],.tuple #[],.tuple #[],.tuple #[],.tuple #[],.tuple #[],.tuple #[],.tuple #[],.tuple #[],.tuple #[]]
def QeA (xs:List (Row)) (n:Int):Array Value:=#[Qa0 0 (slT (List.length (xs.getD n.toNat default)) (Qac Qar (xs.getD n.toNat default)))]
def Qij (xs:List (Row)) (n:Int):Array Value:=#[slT (List.length (xs.getD n.toNat default)) (Qac Qar (xs.getD n.toNat default))]
theorem Qx9 (B:Lo) (s:Int) (xs:List (Row)):CE.finK 3 (Qak Tryz.prog (Qa1 Tryz.prog) J0 B 6 3 (Qip s xs) (Qgw s xs) 3
 [] 0 [] []) [] [] [{k:=3,rs:=[],cs:=#[.int .i64 s]}]=some (OO.ret (Value.func (Fn.func 157) #[] #[Qa0 3 (ptT 0 #[.int .i64 s])]),[],[],
 [Qb8 (Fz.rs {k:=3,rs:=[],cs:=#[.int .i64 s]}) #[.int .i64 s] (Fz.cs {k:=3,rs:=[],cs:=#[.int .i64 s]})]):=by kernel_rfl
def QkH (B:Lo) (s:Int) (xs:List (Row)):List Prop:=[FJ Tryz.prog B (Qip s xs) (Qgw s xs) 3 (OO.ret (Value.func (Fn.func 157) #[] #[Qa0 3 (ptT 0 #[.int .i64 s])])) (([]++((3,Qby)::QaK (3+1) []))++Qgw s xs) 4 (List.range 3) []]++([]:List Prop)
def Qp0 (s:Int) (xs:List (Row)):Qay:=[(4,Qaj.call (List.range 3) (OO.ret (Value.func (Fn.func 157) #[] #[Qa0 3 (ptT 0 #[.int .i64 s])])) ([]++(3,Qby)::QaK 4 []) 4 [])]
def Qbd (s:Int) (xs:List (Row)):Qap:=[(5,Obj.loop {state:=LoopState.ready,pending:=none,fn:=121,tmps:=#[.int .i64 s,Qa0 0 (slT xs.length (Qac Qaz xs)),.tuple #[],pA 1 0,.slice none 0 0,pA 2 0,.tuple #[],.int .i64 s,Value.func (Fn.func 157) #[] #[Qa0 3 (ptT 0 #[.int .i64 s])],.tuple #[],.tuple #[],.tuple #[],.tuple #[],.tuple #[],.tuple #[],.tuple #[],.tuple #[],.tuple #[]],params:=#[9],assign:=nav (Qal Tryz.prog 121) [1,1,0,1,0,0],body:=nav (Qal Tryz.prog 121) [1,1,0,1,0,1],defers:=4}),(4,Obj.deferred (some [])),(3,Obj.coro none),(2,Obj.cells #[.slice none 0 0] 63),(1,Obj.cells #[Qa0 0 (slT xs.length (Qac Qaz xs))] 63),(0,Obj.coro none)]
def Qch (s:Int) (xs:List (Row)):CF:=⟨157,ofList 20 [Value.func (Fn.yield 5) #[] #[],Qa0 3 (ptT 0 #[.int .i64 s])],[Item.code (Qal Tryz.prog 157)],[],.run,none⟩
def Qc8 (s:Int) (xs:List (Row)) (n:Int):List Value:=[Value.func (Fn.yield 5) #[] #[],Qa0 3 (ptT 0 #[.int .i64 s]),.int .i64 (Qcf s),.int .i64 n]
def Qc1 (s:Int) (xs:List (Row)) (n:Int):List Obj:=[Obj.loop {state:=LoopState.ready,pending:=none,fn:=121,tmps:=#[.int .i64 s,Qa0 0 (slT xs.length (Qac Qaz xs)),.tuple #[],pA 1 0,.slice none 0 0,pA 2 0,.tuple #[],.int .i64 s,Value.func (Fn.func 157) #[] #[Qa0 3 (ptT 0 #[.int .i64 s])],.tuple #[],.tuple #[],.tuple #[],.tuple #[],.tuple #[],.tuple #[],.tuple #[],.tuple #[],.tuple #[]],params:=#[9],assign:=nav (Qal Tryz.prog 121) [1,1,0,1,0,0],body:=nav (Qal Tryz.prog 121) [1,1,0,1,0,1],defers:=4},.cells #[.slice none 0 0] 63 (0,0)]
def Qbw (s:Int) (xs:List (Row)) (n:Int):List Obj:=[]
def QcB:List Item:=([.code [1,0,0],.inLoop [1,0,0],.inBlock 0]).map (it (Qal Tryz.prog 157))
def QcF (s:Int) (xs:List (Row)) (n:Int) (acc:List Row) (acc_n:Nat):List Value:=[Value.func (Fn.yield 5) #[] #[],Qa0 3 (ptT 0 #[.int .i64 s]),.int .i64 (Qcf s),.int .i64 n]
def QcE (s:Int) (xs:List (Row)) (n:Int) (acc:List Row) (acc_n:Nat):List Obj:=[Obj.loop {state:=LoopState.ready,pending:=none,fn:=121,tmps:=#[.int .i64 s,Qa0 0 (slT xs.length (Qac Qaz xs)),.tuple #[],pA 1 0,.slice none 0 0,pA 2 0,.tuple #[],.int .i64 s,Value.func (Fn.func 157) #[] #[Qa0 3 (ptT 0 #[.int .i64 s])],.tuple #[],.tuple #[],.tuple #[],.tuple #[],.tuple #[],.tuple #[],.tuple #[],.tuple #[],.tuple #[]],params:=#[9],assign:=nav (Qal Tryz.prog 121) [1,1,0,1,0,0],body:=nav (Qal Tryz.prog 121) [1,1,0,1,0,1],defers:=4},.cells #[.slice (some ⟨7,0,none⟩) acc_n 1] 63 (0,0)]
def Qbx (s:Int) (xs:List (Row)) (n:Int) (acc:List Row) (acc_n:Nat):List Obj:=[Obj.cells (Qac (Qa5 0 Qaz) acc) 22 (0,0)]
def QcG:List Item:=([.code [1,0,0],.inLoop [1,0,0],.inBlock 0]).map (it (Qal Tryz.prog 157))
def Qlo (B:Lo) (s:Int) (xs:List (Row)) (n:Int) (dJ0:Nat->Value):List Prop:=[ltq n (Qcf s)=true]++([]:List Prop)
def Qok (s:Int) (xs:List (Row)) (n:Int) (dJ0:Nat->Value):Qay:=[(0,hvT)]
def Qgj (s:Int) (xs:List (Row)) (n:Int) (dJ0:Nat->Value):Qap:=[(5,Obj.loop {state:=LoopState.ready,pending:=none,fn:=121,tmps:=#[.int .i64 s,Qa0 0 (slT xs.length (Qac Qaz xs)),.tuple #[],pA 1 0,.slice none 0 0,pA 2 0,.tuple #[],.int .i64 s,Value.func (Fn.func 157) #[] #[Qa0 3 (ptT 0 #[.int .i64 s])],.tuple #[],.tuple #[],.tuple #[],.tuple #[],.tuple #[],.tuple #[],.tuple #[],.tuple #[],.tuple #[]],params:=#[9],assign:=nav (Qal Tryz.prog 121) [1,1,0,1,0,0],body:=nav (Qal Tryz.prog 121) [1,1,0,1,0,1],defers:=4}),(2,Obj.cells #[.slice none 0 0] 63),(6,Obj.coro none),(5,Obj.loop {state:=LoopState.ready,pending:=none,fn:=121,tmps:=#[.int .i64 s,Qa0 0 (slT xs.length (Qac Qaz xs)),.tuple #[],pA 1 0,.slice none 0 0,pA 2 0,.tuple #[],.int .i64 s,Value.func (Fn.func 157) #[] #[Qa0 3 (ptT 0 #[.int .i64 s])],.tuple #[],.tuple #[],.tuple #[],.tuple #[],.tuple #[],.tuple #[],.tuple #[],.tuple #[],.tuple #[]],params:=#[9],assign:=nav (Qal Tryz.prog 121) [1,1,0,1,0,0],body:=nav (Qal Tryz.prog 121) [1,1,0,1,0,1],defers:=4}),(4,Obj.deferred (some [])),(3,Obj.coro none),(2,Obj.cells #[.slice none 0 0] 63),(1,Obj.cells #[Qa0 0 (slT xs.length (Qac Qaz xs))] 63),(0,Obj.coro none)]
def QhL (s:Int) (xs:List (Row)) (n:Int) (dJ0:Nat->Value):CF:=⟨121,ofList 18 [.int .i64 s,Qa0 0 (slT xs.length (Qac Qaz xs)),.tuple #[],pA 1 0,.slice none 0 0,pA 2 0,.tuple #[],.int .i64 s,Value.func (Fn.func 157) #[] #[Qa0 3 (ptT 0 #[.int .i64 s])],.int .i64 n,.tuple #[],.tuple #[],.tuple #[],.tuple #[],.tuple #[],.tuple #[],.tuple #[],.tuple #[]],[Item.code (nav (Qal Tryz.prog 121) [1,1,0,1,0,0]),Item.beginRound,Item.code (nav (Qal Tryz.prog 121) [1,1,0,1,0,1])],[],.run,some 5⟩
theorem QwL (B:Lo) (s:Int) (xs:List (Row)) (n:Int) (dJ0:Nat->Value):CE.finK 7 (Qak Tryz.prog (Qa1 Tryz.prog) J0 B 6 7 (QhL s xs n dJ0) (Qgj s xs n dJ0) 7
 [(4,Qaj.tidx n.toNat (Qij xs n))] 0 [] []) [(5,KS.auto),(2,KS.auto)] [(8,KS.auto)] []=some (OO.ret (.bool true),[(5,Obj.loop {state:=LoopState.ready,pending:=none,fn:=121,tmps:=#[.int .i64 s,Qa0 0 (slT xs.length (Qac Qaz xs)),.tuple #[],pA 1 0,.slice none 0 0,pA 2 0,.tuple #[],.int .i64 s,Value.func (Fn.func 157) #[] #[Qa0 3 (ptT 0 #[.int .i64 s])],.tuple #[],.tuple #[],.tuple #[],.tuple #[],.tuple #[],.tuple #[],.tuple #[],.tuple #[],.tuple #[]],params:=#[9],assign:=nav (Qal Tryz.prog 121) [1,1,0,1,0,0],body:=nav (Qal Tryz.prog 121) [1,1,0,1,0,1],defers:=4}),(2,Obj.cells #[.slice (some {block:=8,off:=0}) 1 1] 63)],[Obj.cells #[Qa0 0 (slT (List.length (xs.getD n.toNat default)) (Qac Qar (xs.getD n.toNat default)))] 22],
 [n=(↑n.toNat:Int)/\Int.toNat n < List.length xs/\Array.extract (Qac Qaz xs) (Int.toNat n * TypeInfo.size Tryz.t22) (Int.toNat n * TypeInfo.size Tryz.t22+TypeInfo.size Tryz.t22)=(Qij xs n)]):=by kernel_rfl
theorem Qvr (B:Lo) (s:Int) (xs:List (Row)) (n:Int) (dJ0:Nat->Value):CE.landA 6 (Qak Tryz.prog (Qa1 Tryz.prog) J0 B 16 6 (Qcw (none) 157 20 (([0,1,6,7]:List Nat).zip (Qc8 s xs n)) dJ0 QcB) (QbE (Qbd s xs) 6 (([5,2]:List Nat).zip (Qc1 s xs n)) (Qbw s xs n)) (6+1+(Qbw s xs n).length)
 (Qok s xs n dJ0++[(5,Qaj.pure (.bool true) []),(9,Qaj.call (List.range 7) (OO.ret (.bool true)) ([(5,Obj.loop {state:=LoopState.ready,pending:=none,fn:=121,tmps:=(Qea s xs),params:=#[9],assign:=nav (Qal Tryz.prog 121) [1,1,0,1,0,0],body:=nav (Qal Tryz.prog 121) [1,1,0,1,0,1],defers:=4}),(2,Obj.cells #[.slice (some {block:=8,off:=0}) 1 1] 63)]++(7,Qby)::QaK 8 [Obj.cells (QeA xs n) 22]) 9 [5,2]),(12,hvI (n+1))]) 0 [] []) [0,1,6,7] [(5,KS.auto),(2,KS.auto)] [(8,KS.rows [(0,0)] [] (Qac (Qa5 0 Qaz) [xs.getD n.toNat default]))] []=some ⟨157,20,QcG,[],.run,none,QcF s xs (n+1) ([xs.getD n.toNat default]) (1),([5,2]:List Nat).zip (QcE s xs (n+1) ([xs.getD n.toNat default]) (1)),Qbx s xs (n+1) ([xs.getD n.toNat default]) (1),
 [QaY 6 [(0,0)] [] (QeA xs n) (Qac (Qa5 0 Qaz) [xs.getD n.toNat default]),wq (n+1)=n+1,FJ Tryz.prog B (QhL s xs n dJ0) (Qgj s xs n dJ0) 7 (OO.ret (.bool true)) (([(5,Obj.loop {state:=LoopState.ready,pending:=none,fn:=121,tmps:=(Qea s xs),params:=#[9],assign:=nav (Qal Tryz.prog 121) [1,1,0,1,0,0],body:=nav (Qal Tryz.prog 121) [1,1,0,1,0,1],defers:=4}),(2,Obj.cells #[.slice (some {block:=8,off:=0}) 1 1] 63)]++((7,Qby)::QaK (7+1) [Obj.cells (QeA xs n) 22]))++Qgj s xs n dJ0) 9 (List.range 7) [5,2],Qa7 []/\Qas Tryz.prog J0 159 #[.int .i64 s,.int .i64 n] (.bool true)]++Qlo B s xs n dJ0⟩:=by kernel_rfl
theorem QwW (B:Lo) (s:Int) (xs:List (Row)) (n:Int) (dJ0:Nat->Value):CE.landA 6 (Qak Tryz.prog (Qa1 Tryz.prog) J0 B 16 6 (Qcw (none) 157 20 (([0,1,6,7]:List Nat).zip (Qc8 s xs n)) dJ0 QcB) (QbE (Qbd s xs) 6 (([5,2]:List Nat).zip (Qc1 s xs n)) (Qbw s xs n)) (6+1+(Qbw s xs n).length)
 (Qok s xs n dJ0++[(5,Qaj.pure (.bool false) []),(12,hvI (n+1))]) 0 [] []) [0,1,6,7] [(5,KS.auto),(2,KS.auto)] [] []=some ⟨157,20,QcB,[],.run,none,Qc8 s xs (n+1),([5,2]:List Nat).zip (Qc1 s xs (n+1)),Qbw s xs (n+1),
 [wq (n+1)=n+1,Qa7 []/\Qas Tryz.prog J0 159 #[.int .i64 s,.int .i64 n] (.bool false)]++Qlo B s xs n dJ0⟩:=by kernel_rfl
theorem QwT (B:Lo) (s:Int) (xs:List (Row)) (n:Int) (dJ0:Nat->Value):CE.finK 6 (Qak Tryz.prog (Qa1 Tryz.prog) J0 B 7 6 (Qcw (none) 157 20 (([0,1,6,7]:List Nat).zip (Qc8 s xs n)) dJ0 QcB) (QbE (Qbd s xs) 6 (([5,2]:List Nat).zip (Qc1 s xs n)) (Qbw s xs n)) (6+1+(Qbw s xs n).length)
 [(0,hvF)] 0 [] []) [(5,KS.auto),(2,KS.auto)] [] []=some (OO.ret (.tuple #[]),[(5,Obj.loop {state:=LoopState.ready,pending:=none,fn:=121,tmps:=#[.int .i64 s,Qa0 0 (slT xs.length (Qac Qaz xs)),.tuple #[],pA 1 0,.slice none 0 0,pA 2 0,.tuple #[],.int .i64 s,Value.func (Fn.func 157) #[] #[Qa0 3 (ptT 0 #[.int .i64 s])],.tuple #[],.tuple #[],.tuple #[],.tuple #[],.tuple #[],.tuple #[],.tuple #[],.tuple #[],.tuple #[]],params:=#[9],assign:=nav (Qal Tryz.prog 121) [1,1,0,1,0,0],body:=nav (Qal Tryz.prog 121) [1,1,0,1,0,1],defers:=4}),(2,Obj.cells #[.slice none 0 0] 63)],[],
 [ltq n (Qcf s)=false]):=by kernel_rfl
def QjX (B:Lo) (s:Int) (xs:List (Row)) (n:Int) (acc:List Row) (acc_n:Nat) (dJ0:Nat->Value):List Prop:=[ltq n (Qcf s)=true]++([]:List Prop)
def QpN (s:Int) (xs:List (Row)) (n:Int) (acc:List Row) (acc_n:Nat) (dJ0:Nat->Value):Qay:=[(0,hvT)]
def QgB (s:Int) (xs:List (Row)) (n:Int) (acc:List Row) (acc_n:Nat) (dJ0:Nat->Value):Qap:=[(5,Obj.loop {state:=LoopState.ready,pending:=none,fn:=121,tmps:=#[.int .i64 s,Qa0 0 (slT xs.length (Qac Qaz xs)),.tuple #[],pA 1 0,.slice none 0 0,pA 2 0,.tuple #[],.int .i64 s,Value.func (Fn.func 157) #[] #[Qa0 3 (ptT 0 #[.int .i64 s])],.tuple #[],.tuple #[],.tuple #[],.tuple #[],.tuple #[],.tuple #[],.tuple #[],.tuple #[],.tuple #[]],params:=#[9],assign:=nav (Qal Tryz.prog 121) [1,1,0,1,0,0],body:=nav (Qal Tryz.prog 121) [1,1,0,1,0,1],defers:=4}),(2,Obj.cells #[.slice (some {block:=7,off:=0}) acc_n 1] 63),(6,Obj.coro none),(7,Obj.cells (Qac (Qa5 0 Qaz) acc) 22),(5,Obj.loop {state:=LoopState.ready,pending:=none,fn:=121,tmps:=#[.int .i64 s,Qa0 0 (slT xs.length (Qac Qaz xs)),.tuple #[],pA 1 0,.slice none 0 0,pA 2 0,.tuple #[],.int .i64 s,Value.func (Fn.func 157) #[] #[Qa0 3 (ptT 0 #[.int .i64 s])],.tuple #[],.tuple #[],.tuple #[],.tuple #[],.tuple #[],.tuple #[],.tuple #[],.tuple #[],.tuple #[]],params:=#[9],assign:=nav (Qal Tryz.prog 121) [1,1,0,1,0,0],body:=nav (Qal Tryz.prog 121) [1,1,0,1,0,1],defers:=4}),(4,Obj.deferred (some [])),(3,Obj.coro none),(2,Obj.cells #[.slice none 0 0] 63),(1,Obj.cells #[Qa0 0 (slT xs.length (Qac Qaz xs))] 63),(0,Obj.coro none)]
def QhX (s:Int) (xs:List (Row)) (n:Int) (acc:List Row) (acc_n:Nat) (dJ0:Nat->Value):CF:=⟨121,ofList 18 [.int .i64 s,Qa0 0 (slT xs.length (Qac Qaz xs)),.tuple #[],pA 1 0,.slice none 0 0,pA 2 0,.tuple #[],.int .i64 s,Value.func (Fn.func 157) #[] #[Qa0 3 (ptT 0 #[.int .i64 s])],.int .i64 n,.tuple #[],.tuple #[],.tuple #[],.tuple #[],.tuple #[],.tuple #[],.tuple #[],.tuple #[]],[Item.code (nav (Qal Tryz.prog 121) [1,1,0,1,0,0]),Item.beginRound,Item.code (nav (Qal Tryz.prog 121) [1,1,0,1,0,1])],[],.run,some 5⟩
theorem Qva (B:Lo) (s:Int) (xs:List (Row)) (n:Int) (acc:List Row) (acc_n:Nat) (dJ0:Nat->Value):CE.finK 8 (Qak Tryz.prog (Qa1 Tryz.prog) J0 B 6 8 (QhX s xs n acc acc_n dJ0) (QgB s xs n acc acc_n dJ0) 8
 [(4,Qaj.tidx n.toNat (Qij xs n)),(7,Qaj.old (Hint.app (Qac (Qa5 0 Qaz) acc++(QeA xs n))))] 0 [] []) [(7,KS.dead),(5,KS.auto),(2,KS.auto)] [(9,KS.rows [(0,0)] [] (Qac (Qa5 0 Qaz) (acc++[xs.getD n.toNat default])))] []=some (OO.ret (.bool true),[(7,Obj.pending #[] 0),(5,Obj.loop {state:=LoopState.ready,pending:=none,fn:=121,tmps:=#[.int .i64 s,Qa0 0 (slT xs.length (Qac Qaz xs)),.tuple #[],pA 1 0,.slice none 0 0,pA 2 0,.tuple #[],.int .i64 s,Value.func (Fn.func 157) #[] #[Qa0 3 (ptT 0 #[.int .i64 s])],.tuple #[],.tuple #[],.tuple #[],.tuple #[],.tuple #[],.tuple #[],.tuple #[],.tuple #[],.tuple #[]],params:=#[9],assign:=nav (Qal Tryz.prog 121) [1,1,0,1,0,0],body:=nav (Qal Tryz.prog 121) [1,1,0,1,0,1],defers:=4}),(2,Obj.cells #[.slice (some {block:=9,off:=0}) (acc_n+1) 1] 63)],[Obj.cells (Qac (Qa5 0 Qaz) (acc++[xs.getD n.toNat default])) 22],
 [QaY 8 [(0,0)] [] (Qac (Qa5 0 Qaz) acc++(QeA xs n)) (Qac (Qa5 0 Qaz) (acc++[xs.getD n.toNat default])),Array.size (Qac (Qa5 0 Qaz) acc)=acc_n * (0+1)/\acc_n+1<=maxLen/\(acc_n+1) * 24<=140737488355328/\Qac (Qa5 0 Qaz) acc++(QeA xs n)=Qac (Qa5 0 Qaz) acc++(QeA xs n),n=(↑n.toNat:Int)/\Int.toNat n < List.length xs/\Array.extract (Qac Qaz xs) (Int.toNat n * TypeInfo.size Tryz.t22) (Int.toNat n * TypeInfo.size Tryz.t22+TypeInfo.size Tryz.t22)=(Qij xs n)]):=by kernel_rfl
theorem Qvy (B:Lo) (s:Int) (xs:List (Row)) (n:Int) (acc:List Row) (acc_n:Nat) (dJ0:Nat->Value):CE.landA 6 (Qak Tryz.prog (Qa1 Tryz.prog) J0 B 16 6 (Qcw (none) 157 20 (([0,1,6,7]:List Nat).zip (QcF s xs n acc acc_n)) dJ0 QcG) (QbE (Qbd s xs) 6 (([5,2]:List Nat).zip (QcE s xs n acc acc_n)) (Qbx s xs n acc acc_n)) (6+1+(Qbx s xs n acc acc_n).length)
 (QpN s xs n acc acc_n dJ0++[(5,Qaj.pure (.bool true) []),(9,Qaj.call (List.range 8) (OO.ret (.bool true)) ([(7,Obj.pending #[] 0),(5,Obj.loop {state:=LoopState.ready,pending:=none,fn:=121,tmps:=(Qea s xs),params:=#[9],assign:=nav (Qal Tryz.prog 121) [1,1,0,1,0,0],body:=nav (Qal Tryz.prog 121) [1,1,0,1,0,1],defers:=4}),(2,Obj.cells #[.slice (some {block:=9,off:=0}) (acc_n+1) 1] 63)]++(8,Qby)::QaK 9 [Obj.cells (Qac (Qa5 0 Qaz) (acc++[xs.getD n.toNat default])) 22]) 10 [7,5,2]),(12,hvI (n+1))]) 0 [] []) [0,1,6,7] [(5,KS.auto),(2,KS.auto)] [(9,KS.rows [(0,0)] [] (Qac (Qa5 0 Qaz) (acc++[xs.getD n.toNat default])))] []=some ⟨157,20,QcG,[],.run,none,QcF s xs (n+1) (acc++[xs.getD n.toNat default]) (acc_n+1),([5,2]:List Nat).zip (QcE s xs (n+1) (acc++[xs.getD n.toNat default]) (acc_n+1)),Qbx s xs (n+1) (acc++[xs.getD n.toNat default]) (acc_n+1),
 [QaY 6 [(0,0)] [] (Qac (Qa5 0 Qaz) (acc++[xs.getD n.toNat default])) (Qac (Qa5 0 Qaz) (acc++[xs.getD n.toNat default])),wq (n+1)=n+1,FJ Tryz.prog B (QhX s xs n acc acc_n dJ0) (QgB s xs n acc acc_n dJ0) 8 (OO.ret (.bool true)) (([(7,Obj.pending #[] 0),(5,Obj.loop {state:=LoopState.ready,pending:=none,fn:=121,tmps:=(Qea s xs),params:=#[9],assign:=nav (Qal Tryz.prog 121) [1,1,0,1,0,0],body:=nav (Qal Tryz.prog 121) [1,1,0,1,0,1],defers:=4}),(2,Obj.cells #[.slice (some {block:=9,off:=0}) (acc_n+1) 1] 63)]++((8,Qby)::QaK (8+1) [Obj.cells (Qac (Qa5 0 Qaz) (acc++[xs.getD n.toNat default])) 22]))++QgB s xs n acc acc_n dJ0) 10 (List.range 8) [7,5,2],Qa7 []/\Qas Tryz.prog J0 159 #[.int .i64 s,.int .i64 n] (.bool true)]++QjX B s xs n acc acc_n dJ0⟩:=by kernel_rfl
theorem QvI (B:Lo) (s:Int) (xs:List (Row)) (n:Int) (acc:List Row) (acc_n:Nat) (dJ0:Nat->Value):CE.landA 6 (Qak Tryz.prog (Qa1 Tryz.prog) J0 B 16 6 (Qcw (none) 157 20 (([0,1,6,7]:List Nat).zip (QcF s xs n acc acc_n)) dJ0 QcG) (QbE (Qbd s xs) 6 (([5,2]:List Nat).zip (QcE s xs n acc acc_n)) (Qbx s xs n acc acc_n)) (6+1+(Qbx s xs n acc acc_n).length)
 (QpN s xs n acc acc_n dJ0++[(5,Qaj.pure (.bool false) []),(12,hvI (n+1))]) 0 [] []) [0,1,6,7] [(5,KS.auto),(2,KS.auto)] [(7,KS.rows [(0,0)] [] (Qac (Qa5 0 Qaz) acc))] []=some ⟨157,20,QcG,[],.run,none,QcF s xs (n+1) (acc) (acc_n),([5,2]:List Nat).zip (QcE s xs (n+1) (acc) (acc_n)),Qbx s xs (n+1) (acc) (acc_n),
 [QaY 6 [(0,0)] [] (Qac (Qa5 0 Qaz) acc) (Qac (Qa5 0 Qaz) acc),wq (n+1)=n+1,Qa7 []/\Qas Tryz.prog J0 159 #[.int .i64 s,.int .i64 n] (.bool false)]++QjX B s xs n acc acc_n dJ0⟩:=by kernel_rfl
theorem QuJ (B:Lo) (s:Int) (xs:List (Row)) (n:Int) (acc:List Row) (acc_n:Nat) (dJ0:Nat->Value):CE.finK 6 (Qak Tryz.prog (Qa1 Tryz.prog) J0 B 7 6 (Qcw (none) 157 20 (([0,1,6,7]:List Nat).zip (QcF s xs n acc acc_n)) dJ0 QcG) (QbE (Qbd s xs) 6 (([5,2]:List Nat).zip (QcE s xs n acc acc_n)) (Qbx s xs n acc acc_n)) (6+1+(Qbx s xs n acc acc_n).length)
 [(0,hvF)] 0 [] []) [(5,KS.auto),(2,KS.auto)] [(7,KS.rows [(0,0)] [] (Qac (Qa5 0 Qaz) acc))] []=some (OO.ret (.tuple #[]),[(5,Obj.loop {state:=LoopState.ready,pending:=none,fn:=121,tmps:=#[.int .i64 s,Qa0 0 (slT xs.length (Qac Qaz xs)),.tuple #[],pA 1 0,.slice none 0 0,pA 2 0,.tuple #[],.int .i64 s,Value.func (Fn.func 157) #[] #[Qa0 3 (ptT 0 #[.int .i64 s])],.tuple #[],.tuple #[],.tuple #[],.tuple #[],.tuple #[],.tuple #[],.tuple #[],.tuple #[],.tuple #[]],params:=#[9],assign:=nav (Qal Tryz.prog 121) [1,1,0,1,0,0],body:=nav (Qal Tryz.prog 121) [1,1,0,1,0,1],defers:=4}),(2,Obj.cells #[.slice (some {block:=7,off:=0}) acc_n 1] 63)],[Obj.cells (Qac (Qa5 0 Qaz) acc) 22],
 [QaY 6 [(0,0)] [] (Qac (Qa5 0 Qaz) acc) (Qac (Qa5 0 Qaz) acc),ltq n (Qcf s)=false]):=by kernel_rfl
set_option maxHeartbeats 4000000 in
theorem Qj2 (s:Int) (xs:List (Row)) (h0:0<=s) (h1:s < 64) (hx:Qcf s<=xs.length) {B:Lo} (hJ:∀w,B.has w->J0 w):∀m:Nat,(∀(n:Int),∀(r:Bool),(!(([]:List Row)++Qax s xs n).isEmpty)=r->(Qcf s - n).toNat=m->∀(hn:0<=n),(∃dJ0:Nat->Value,(∀t,QaS (dJ0 t))/\GoE Tryz.prog B (Qch s xs) (Qbd s xs) 6 (Qcw (none) 157 20 (([0,1,6,7]:List Nat).zip (Qc8 s xs n)) dJ0 QcB) (QbE (Qbd s xs) 6 (([5,2]:List Nat).zip (Qc1 s xs n)) (Qbw s xs n)) (6+1+(Qbw s xs n).length) ([5,2]:List Nat))->FinK Tryz.prog B (Qch s xs) (Qbd s xs) 6 (.ret (.tuple #[])) (([5,2]:List Nat).zip ([Obj.loop {state:=LoopState.ready,pending:=none,fn:=121,tmps:=#[.int .i64 s,Qa0 0 (slT xs.length (Qac Qaz xs)),.tuple #[],pA 1 0,.slice none 0 0,pA 2 0,.tuple #[],.int .i64 s,Value.func (Fn.func 157) #[] #[Qa0 3 (ptT 0 #[.int .i64 s])],.tuple #[],.tuple #[],.tuple #[],.tuple #[],.tuple #[],.tuple #[],.tuple #[],.tuple #[],.tuple #[]],params:=#[9],assign:=nav (Qal Tryz.prog 121) [1,1,0,1,0,0],body:=nav (Qal Tryz.prog 121) [1,1,0,1,0,1],defers:=4},.cells #[bif r then .slice (some ⟨7,0,none⟩) (([]:List Row)++Qax s xs n).length 1 else .slice none 0 0] 63 (0,0)])) (bif r then [Go.Obj.cells (Qac (Qa5 0 Qaz) (([]:List Row)++Qax s xs n)) 22 (0,0)] else []) ([5,2]:List Nat))/\(∀(n:Int) (acc:List Row) (acc_n:Nat),∀(r:Bool),(!(acc++Qax s xs n).isEmpty)=r->(Qcf s - n).toNat=m->∀(hn:0<=n) (hacc:acc_n=acc.length) (haccb:acc≠[]/\(acc_n:Int)<=n),(∃dJ0:Nat->Value,(∀t,QaS (dJ0 t))/\GoE Tryz.prog B (Qch s xs) (Qbd s xs) 6 (Qcw (none) 157 20 (([0,1,6,7]:List Nat).zip (QcF s xs n acc acc_n)) dJ0 QcG) (QbE (Qbd s xs) 6 (([5,2]:List Nat).zip (QcE s xs n acc acc_n)) (Qbx s xs n acc acc_n)) (6+1+(Qbx s xs n acc acc_n).length) ([5,2]:List Nat))->FinK Tryz.prog B (Qch s xs) (Qbd s xs) 6 (.ret (.tuple #[])) (([5,2]:List Nat).zip ([Obj.loop {state:=LoopState.ready,pending:=none,fn:=121,tmps:=#[.int .i64 s,Qa0 0 (slT xs.length (Qac Qaz xs)),.tuple #[],pA 1 0,.slice none 0 0,pA 2 0,.tuple #[],.int .i64 s,Value.func (Fn.func 157) #[] #[Qa0 3 (ptT 0 #[.int .i64 s])],.tuple #[],.tuple #[],.tuple #[],.tuple #[],.tuple #[],.tuple #[],.tuple #[],.tuple #[],.tuple #[]],params:=#[9],assign:=nav (Qal Tryz.prog 121) [1,1,0,1,0,0],body:=nav (Qal Tryz.prog 121) [1,1,0,1,0,1],defers:=4},.cells #[bif r then .slice (some ⟨7,0,none⟩) (acc++Qax s xs n).length 1 else .slice none 0 0] 63 (0,0)])) (bif r then [Go.Obj.cells (Qac (Qa5 0 Qaz) (acc++Qax s xs n)) 22 (0,0)] else []) ([5,2]:List Nat)):=by
 intro m0
 induction m0 using Nat.strongRecOn with
 | _ m0 ih0=>
   refine ⟨?_, ?_⟩
   ·intro n r1 hr1 hm0 hn ⟨dJ0,hdJ0,hg0⟩
    have hl:=QeY h0 h1
    by_cases q0:(n:Int) < (Qcf s)
    ·
     have hp1:Qa7 (Qlo B s xs n dJ0):=by
      exact ⟨(Qbl q0),trivial⟩
     cases q1:QjF s n with
     | true=>
       have rj2:FJ Tryz.prog B (QhL s xs n dJ0) (Qgj s xs n dJ0) 7 (OO.ret (.bool true)) (([(5,Obj.loop {state:=LoopState.ready,pending:=none,fn:=121,tmps:=#[.int .i64 s,Qa0 0 (slT xs.length (Qac Qaz xs)),.tuple #[],pA 1 0,.slice none 0 0,pA 2 0,.tuple #[],.int .i64 s,Value.func (Fn.func 157) #[] #[Qa0 3 (ptT 0 #[.int .i64 s])],.tuple #[],.tuple #[],.tuple #[],.tuple #[],.tuple #[],.tuple #[],.tuple #[],.tuple #[],.tuple #[]],params:=#[9],assign:=nav (Qal Tryz.prog 121) [1,1,0,1,0,0],body:=nav (Qal Tryz.prog 121) [1,1,0,1,0,1],defers:=4}),(2,Obj.cells #[.slice (some {block:=8,off:=0}) 1 1] 63)]++((7,Qby)::QaK (7+1) [Obj.cells #[Qa0 0 (slT (List.length (xs.getD n.toNat default)) (Qac Qar (xs.getD n.toNat default)))] 22]))++Qgj s xs n dJ0) 9 (List.range 7) [5,2]:=by
        have s2:=QeG (s:=s) (xs:=xs) q0 q1
        exact FinK.fjB (GoE.finK okF hJ Qab (Qan (by kernel_rfl)) (Qag (by kernel_rfl)) ((GoE.refl (P:=Tryz.prog) (B:=B) (c0:=QhL s xs n dJ0) (Qan (by kernel_rfl))).widen (Wf:=((([(5,KS.auto),(2,KS.auto)]):List (Nat×KS)).map (·.1))) (by simp) (Qag (by kernel_rfl))) (QwL B s xs n dJ0)
         ⟨⟨by omega,by omega,(Qaf (z:=1) (fun _=> rfl) (by omega))⟩,trivial⟩) (ex:=[]) (by kernel_rfl) (Qb0 _)
       have s2:=QeG (s:=s) (xs:=xs) q0 q1
       exact ((ih0 _ (by omega)).2 (n+1) ([xs.getD n.toNat default]) (1) r1 (by (rw [<-hr1,s2];simp;done)) rfl (by omega) (by (simp_all;done)) (by (refine ⟨by simp, ?_⟩;omega))
        (GoE.landA okF hJ Qab (Qan (by kernel_rfl)) (Qag (by kernel_rfl)) hg0 (Qvr B s xs n dJ0)
        ⟨(by exact (QgK (by exact ⟨(.reg (List.Mem.head _) rfl),trivial⟩))),⟨(QaJ (by omega) (by omega)),⟨rj2,⟨⟨trivial,(by have t_:=Q0I (s) (n) (by omega) (by omega);rw [q1] at t_;exact t_)⟩,hp1⟩⟩⟩⟩ (by kernel_rfl) (by kernel_rfl) (fun l hl=> by cases hl <;> decide))).cast (by rfl) (by (rw [s2];rfl)) (by (rw [s2];rfl))
     | false=>
       have s2:=QhU (s:=s) (xs:=xs) q0 q1
       exact ((ih0 _ (by omega)).1 (n+1) r1 (by (rw [<-hr1,s2];done)) rfl (by omega)
        (GoE.landA okF hJ Qab (Qan (by kernel_rfl)) (Qag (by kernel_rfl)) hg0 (QwW B s xs n dJ0)
        ⟨(QaJ (by omega) (by omega)),⟨⟨trivial,(by have t_:=Q0I (s) (n) (by omega) (by omega);rw [q1] at t_;exact t_)⟩,hp1⟩⟩ (by kernel_rfl) (by kernel_rfl) (fun l hl=> by cases hl <;> decide))).cast (by rfl) (by (rw [s2];done)) (by (rw [s2];done))
    ·
     have s2:=QhA (s:=s) (xs:=xs) (n:=n) (by omega)
     exact (GoE.finK okF hJ Qab (Qan (by kernel_rfl)) (Qag (by kernel_rfl)) hg0 (QwT B s xs n dJ0)
      ⟨(Qbq (Int.not_lt.1 q0)),trivial⟩).cast (by rfl) (by (subst hr1;rw [s2];rfl)) (by (subst hr1;rw [s2];rfl))
   ·intro n acc acc_n r1 hr1 hm0 hn hacc haccb ⟨dJ0,hdJ0,hg0⟩
    have hl:=QeY h0 h1
    by_cases q0:(n:Int) < (Qcf s)
    ·
     have hp2:Qa7 (QjX B s xs n acc acc_n dJ0):=by
      exact ⟨(Qbl q0),trivial⟩
     cases q1:QjF s n with
     | true=>
       have rj2:FJ Tryz.prog B (QhX s xs n acc acc_n dJ0) (QgB s xs n acc acc_n dJ0) 8 (OO.ret (.bool true)) (([(7,Obj.pending #[] 0),(5,Obj.loop {state:=LoopState.ready,pending:=none,fn:=121,tmps:=#[.int .i64 s,Qa0 0 (slT xs.length (Qac Qaz xs)),.tuple #[],pA 1 0,.slice none 0 0,pA 2 0,.tuple #[],.int .i64 s,Value.func (Fn.func 157) #[] #[Qa0 3 (ptT 0 #[.int .i64 s])],.tuple #[],.tuple #[],.tuple #[],.tuple #[],.tuple #[],.tuple #[],.tuple #[],.tuple #[],.tuple #[]],params:=#[9],assign:=nav (Qal Tryz.prog 121) [1,1,0,1,0,0],body:=nav (Qal Tryz.prog 121) [1,1,0,1,0,1],defers:=4}),(2,Obj.cells #[.slice (some {block:=9,off:=0}) (acc_n+1) 1] 63)]++((8,Qby)::QaK (8+1) [Obj.cells (Qac (Qa5 0 Qaz) (acc++[xs.getD n.toNat default])) 22]))++QgB s xs n acc acc_n dJ0) 10 (List.range 8) [7,5,2]:=by
        have s2:=QeG (s:=s) (xs:=xs) q0 q1
        exact FinK.fjB (GoE.finK okF hJ Qab (Qan (by kernel_rfl)) (Qag (by kernel_rfl)) ((GoE.refl (P:=Tryz.prog) (B:=B) (c0:=QhX s xs n acc acc_n dJ0) (Qan (by kernel_rfl))).widen (Wf:=((([(7,KS.dead),(5,KS.auto),(2,KS.auto)]):List (Nat×KS)).map (·.1))) (by simp) (Qag (by kernel_rfl))) (Qva B s xs n acc acc_n dJ0)
         ⟨(by exact (QfD (QaN (QaV (fun _=> rfl)) (List.Mem.head _)) (by exact ⟨(.reg (List.Mem.head _) rfl),trivial⟩))),⟨⟨(by (rw [Qbp (z:=1) (fun _=> rfl)];first | omega | (simp;omega) | (simp_all;done))),(by unfold maxLen;omega),by omega,rfl⟩,⟨⟨by omega,by omega,(Qaf (z:=1) (fun _=> rfl) (by omega))⟩,trivial⟩⟩⟩) (ex:=[7]) (by kernel_rfl) ⟨trivial,⟨trivial,⟨trivial,⟨(Qfl (t:=22) (fl:=(0,0)) (QaV (fun _=> rfl)) (by decide)),⟨trivial,⟨trivial,⟨trivial,⟨trivial,⟨trivial,⟨trivial,trivial⟩⟩⟩⟩⟩⟩⟩⟩⟩⟩
       have s2:=QeG (s:=s) (xs:=xs) q0 q1
       exact ((ih0 _ (by omega)).2 (n+1) (acc++[xs.getD n.toNat default]) (acc_n+1) r1 (by (rw [<-hr1,s2];simp;done)) rfl (by omega) (by (simp_all;done)) (by (simp_all;done))
        (GoE.landA okF hJ Qab (Qan (by kernel_rfl)) (Qag (by kernel_rfl)) hg0 (Qvy B s xs n acc acc_n dJ0)
        ⟨(by exact (QaN (QaV (fun _=> rfl)) (List.Mem.head _))),⟨(QaJ (by omega) (by omega)),⟨rj2,⟨⟨trivial,(by have t_:=Q0I (s) (n) (by omega) (by omega);rw [q1] at t_;exact t_)⟩,hp2⟩⟩⟩⟩ (by kernel_rfl) (by kernel_rfl) (fun l hl=> by cases hl <;> decide))).cast (by rfl) (by (rw [s2,<-List.append_assoc];done)) (by (rw [s2,<-List.append_assoc];done))
     | false=>
       have s2:=QhU (s:=s) (xs:=xs) q0 q1
       exact ((ih0 _ (by omega)).2 (n+1) (acc) (acc_n) r1 (by (rw [<-hr1,s2];done)) rfl (by omega) (by with_reducible assumption) (by exact ⟨haccb.1,by omega⟩)
        (GoE.landA okF hJ Qab (Qan (by kernel_rfl)) (Qag (by kernel_rfl)) hg0 (QvI B s xs n acc acc_n dJ0)
        ⟨(by exact (QaN (QaV (fun _=> rfl)) (List.Mem.head _))),⟨(QaJ (by omega) (by omega)),⟨⟨trivial,(by have t_:=Q0I (s) (n) (by omega) (by omega);rw [q1] at t_;exact t_)⟩,hp2⟩⟩⟩ (by kernel_rfl) (by kernel_rfl) (fun l hl=> by cases hl <;> decide))).cast (by rfl) (by (rw [s2];done)) (by (rw [s2];done))
    ·
     have s2:=QhA (s:=s) (xs:=xs) (n:=n) (by omega)
     exact (GoE.finK okF hJ Qab (Qan (by kernel_rfl)) (Qag (by kernel_rfl)) hg0 (QuJ B s xs n acc acc_n dJ0)
      ⟨(by exact (QaN (QaV (fun _=> rfl)) (List.Mem.head _))),⟨(Qbq (Int.not_lt.1 q0)),trivial⟩⟩).cast (by rfl) (by (subst hr1;simp only [QzY haccb.1,s2,List.append_nil,hacc,Bool.not_false,cond_true];rfl)) (by (subst hr1;simp only [QzY haccb.1,s2,List.append_nil,hacc,Bool.not_false,cond_true];done))

theorem QvO (B:Lo) (s:Int) (xs:List (Row)):CE.landA 6 (Qak Tryz.prog (Qa1 Tryz.prog) J0 B 4 6 (Qch s xs) (Qbd s xs) 6
 [(1,Qaj.old (Hint.val (Value.int IntKind.u64 s))),(2,Qaj.pure (.int .i64 (Qcf s)) [])] 0 [] []) [0,1,6,7] [(5,KS.auto),(2,KS.auto)] [] []=some ⟨157,20,QcB,[],.run,none,Qc8 s xs (0),([5,2]:List Nat).zip (Qc1 s xs (0)),Qbw s xs (0),
 [Qa7 []/\Qas Tryz.prog J0 158 #[Value.int IntKind.u64 s] (.int .i64 (Qcf s)),IntKind.wrap IntKind.u64 s=s]⟩:=by kernel_rfl
theorem Qu1 (B:Lo) (s:Int) (xs:List (Row)):Qbb (Qak Tryz.prog (Qa1 Tryz.prog) J0 B 16 1 (Qai Tryz.prog 121 18 (([.int .i64 s,slT xs.length (Qac Qaz xs)]).map (Qaq 0 4))) H00 1
 (Qp0 s xs++[(5,Qaj.call (List.range 6) (OO.ret (.tuple #[])) ([(5,Obj.loop {state:=LoopState.ready,pending:=none,fn:=121,tmps:=(Qea s xs),params:=#[9],assign:=nav (Qal Tryz.prog 121) [1,1,0,1,0,0],body:=nav (Qal Tryz.prog 121) [1,1,0,1,0,1],defers:=4}),(2,Obj.cells #[.slice (some {block:=7,off:=0}) (List.length ([]++Qax s xs 0)) 1] 63)]++(6,Qby)::QaK 7 [Obj.cells (Qac (Qa5 0 Qaz) ([]++Qax s xs 0)) 22]) 8 [5,2])]) 0 [] []) [{k:=7,rs:=[0],cs:=Qac Qaz ([]++Qax s xs 0)}]=some (slT (List.length ([]++Qax s xs 0)) (Fz.cs {k:=7,rs:=[0],cs:=Qac Qaz ([]++Qax s xs 0)}),
 [Qb8 (Fz.rs {k:=7,rs:=[0],cs:=Qac Qaz ([]++Qax s xs 0)}) (Qac (Qa5 0 Qaz) ([]++Qax s xs 0)) (Fz.cs {k:=7,rs:=[0],cs:=Qac Qaz ([]++Qax s xs 0)}),FJ Tryz.prog B (Qch s xs) (Qbd s xs) 6 (OO.ret (.tuple #[])) (([(5,Obj.loop {state:=LoopState.ready,pending:=none,fn:=121,tmps:=(Qea s xs),params:=#[9],assign:=nav (Qal Tryz.prog 121) [1,1,0,1,0,0],body:=nav (Qal Tryz.prog 121) [1,1,0,1,0,1],defers:=4}),(2,Obj.cells #[.slice (some {block:=7,off:=0}) (List.length ([]++Qax s xs 0)) 1] 63)]++((6,Qby)::QaK (6+1) [Obj.cells (Qac (Qa5 0 Qaz) ([]++Qax s xs 0)) 22]))++Qbd s xs) 8 (List.range 6) [5,2]]++QkH B s xs):=by kernel_rfl
theorem Qtx (B:Lo) (s:Int) (xs:List (Row)):CE.landA 6 (Qak Tryz.prog (Qa1 Tryz.prog) J0 B 4 6 (Qch s xs) (Qbd s xs) 6
 [(1,Qaj.old (Hint.val (Value.int IntKind.u64 s))),(2,Qaj.pure (.int .i64 (Qcf s)) [])] 0 [] []) [0,1,6,7] [(5,KS.auto),(2,KS.auto)] [] []=some ⟨157,20,QcB,[],.run,none,Qc8 s xs (0),([5,2]:List Nat).zip (Qc1 s xs (0)),Qbw s xs (0),
 [Qa7 []/\Qas Tryz.prog J0 158 #[Value.int IntKind.u64 s] (.int .i64 (Qcf s)),IntKind.wrap IntKind.u64 s=s]⟩:=by kernel_rfl
theorem QtD (B:Lo) (s:Int) (xs:List (Row)):Qbb (Qak Tryz.prog (Qa1 Tryz.prog) J0 B 16 1 (Qai Tryz.prog 121 18 (([.int .i64 s,slT xs.length (Qac Qaz xs)]).map (Qaq 0 4))) H00 1
 (Qp0 s xs++[(5,Qaj.call (List.range 6) (OO.ret (.tuple #[])) ([(5,Obj.loop {state:=LoopState.ready,pending:=none,fn:=121,tmps:=(Qea s xs),params:=#[9],assign:=nav (Qal Tryz.prog 121) [1,1,0,1,0,0],body:=nav (Qal Tryz.prog 121) [1,1,0,1,0,1],defers:=4}),(2,Obj.cells #[.slice none 0 0] 63)]++(6,Qby)::QaK 7 []) 7 [5,2])]) 0 [] []) []=some (slT 0 #[],
 [FJ Tryz.prog B (Qch s xs) (Qbd s xs) 6 (OO.ret (.tuple #[])) (([(5,Obj.loop {state:=LoopState.ready,pending:=none,fn:=121,tmps:=(Qea s xs),params:=#[9],assign:=nav (Qal Tryz.prog 121) [1,1,0,1,0,0],body:=nav (Qal Tryz.prog 121) [1,1,0,1,0,1],defers:=4}),(2,Obj.cells #[.slice none 0 0] 63)]++((6,Qby)::QaK (6+1) []))++Qbd s xs) 7 (List.range 6) [5,2]]++QkH B s xs):=by kernel_rfl
set_option maxHeartbeats 4000000 in
theorem Qzd (s:Int) (xs:List (Row)) (h0:0<=s) (h1:s < 64) (hx:Qcf s<=xs.length) {B:Lo} (hJ:∀w,B.has w->J0 w):EndsT Tryz.prog B (Qai Tryz.prog 121 18 (([.int .i64 s,slT xs.length (Qac Qaz xs)]).map (Qaq 0 4))) (slT (Qax s xs 0).length (Qac Qaz (Qax s xs 0))):=by
 have hl:=QeY h0 h1
 have rj0:FJ Tryz.prog B (Qip s xs) (Qgw s xs) 3 (OO.ret (Value.func (Fn.func 157) #[] #[Qa0 3 (ptT 0 #[.int .i64 s])])) (([]++((3,Qby)::QaK (3+1) []))++Qgw s xs) 4 (List.range 3) []:=by
  exact FinK.fjB (GoE.finK okF hJ Qab (Qan (by kernel_rfl)) (Qag (by kernel_rfl)) ((GoE.refl (P:=Tryz.prog) (B:=B) (c0:=Qip s xs) (Qan (by kernel_rfl))).widen (Wf:=((([]):List (Nat×KS)).map (·.1))) (by simp) (Qag (by kernel_rfl))) (Qx9 B s xs)
   ⟨(QfC (by kernel_rfl)),trivial⟩) (ex:=[]) (by kernel_rfl) (Qb0 _)
 have hp0:Qa7 (QkH B s xs):=by
  exact ⟨rj0,trivial⟩
 cases q0: !List.isEmpty ([]++Qax s xs 0) with
 | true=>
   have rj1:FJ Tryz.prog B (Qch s xs) (Qbd s xs) 6 (OO.ret (.tuple #[])) (([(5,Obj.loop {state:=LoopState.ready,pending:=none,fn:=121,tmps:=#[.int .i64 s,Qa0 0 (slT xs.length (Qac Qaz xs)),.tuple #[],pA 1 0,.slice none 0 0,pA 2 0,.tuple #[],.int .i64 s,Value.func (Fn.func 157) #[] #[Qa0 3 (ptT 0 #[.int .i64 s])],.tuple #[],.tuple #[],.tuple #[],.tuple #[],.tuple #[],.tuple #[],.tuple #[],.tuple #[],.tuple #[]],params:=#[9],assign:=nav (Qal Tryz.prog 121) [1,1,0,1,0,0],body:=nav (Qal Tryz.prog 121) [1,1,0,1,0,1],defers:=4}),(2,Obj.cells #[.slice (some {block:=7,off:=0}) (List.length ([]++Qax s xs 0)) 1] 63)]++((6,Qby)::QaK (6+1) [Obj.cells (Qac (Qa5 0 Qaz) ([]++Qax s xs 0)) 22]))++Qbd s xs) 8 (List.range 6) [5,2]:=by
    exact FinK.fjB ((Qj2 s xs h0 h1 hx hJ _).1 (0) true q0 rfl (by omega)
     (GoE.landA okF hJ Qab (Qan (by kernel_rfl)) (Qag (by kernel_rfl)) ((GoE.refl (P:=Tryz.prog) (B:=B) (c0:=Qch s xs) (Qan (by kernel_rfl))).widen (Wf:=((([(5,KS.auto),(2,KS.auto)]):List (Nat×KS)).map (·.1))) (by simp) (Qag (by kernel_rfl))) (QvO B s xs)
     ⟨⟨trivial,Q37 (s) (by with_reducible assumption) (by with_reducible assumption)⟩,⟨(IntWalk.u64_in _ ⟨by omega,by omega⟩),trivial⟩⟩ (by kernel_rfl) (by kernel_rfl) (fun l hl=> by cases hl <;> decide))) (ex:=[]) (by kernel_rfl) (Qb0 _)
   exact (GoE.endsT okF hJ Qab GoE.start (Qu1 B s xs)
    ⟨(Qdo (QaV (fun _=> rfl)) (List.Mem.head _)),⟨rj1,hp0⟩⟩).cast (by rfl)
 | false=>
   have rj1:FJ Tryz.prog B (Qch s xs) (Qbd s xs) 6 (OO.ret (.tuple #[])) (([(5,Obj.loop {state:=LoopState.ready,pending:=none,fn:=121,tmps:=#[.int .i64 s,Qa0 0 (slT xs.length (Qac Qaz xs)),.tuple #[],pA 1 0,.slice none 0 0,pA 2 0,.tuple #[],.int .i64 s,Value.func (Fn.func 157) #[] #[Qa0 3 (ptT 0 #[.int .i64 s])],.tuple #[],.tuple #[],.tuple #[],.tuple #[],.tuple #[],.tuple #[],.tuple #[],.tuple #[],.tuple #[]],params:=#[9],assign:=nav (Qal Tryz.prog 121) [1,1,0,1,0,0],body:=nav (Qal Tryz.prog 121) [1,1,0,1,0,1],defers:=4}),(2,Obj.cells #[.slice none 0 0] 63)]++((6,Qby)::QaK (6+1) []))++Qbd s xs) 7 (List.range 6) [5,2]:=by
    exact FinK.fjB ((Qj2 s xs h0 h1 hx hJ _).1 (0) false q0 rfl (by omega)
     (GoE.landA okF hJ Qab (Qan (by kernel_rfl)) (Qag (by kernel_rfl)) ((GoE.refl (P:=Tryz.prog) (B:=B) (c0:=Qch s xs) (Qan (by kernel_rfl))).widen (Wf:=((([(5,KS.auto),(2,KS.auto)]):List (Nat×KS)).map (·.1))) (by simp) (Qag (by kernel_rfl))) (Qtx B s xs)
     ⟨⟨trivial,Q37 (s) (by with_reducible assumption) (by with_reducible assumption)⟩,⟨(IntWalk.u64_in _ ⟨by omega,by omega⟩),trivial⟩⟩ (by kernel_rfl) (by kernel_rfl) (fun l hl=> by cases hl <;> decide))) (ex:=[]) (by kernel_rfl) (Qb0 _)
   exact (GoE.endsT okF hJ Qab GoE.start (QtD B s xs)
    ⟨rj1,hp0⟩).cast (by (rw [Q2N q0];rfl))
theorem Q3t (s:Int) (xs:List (Row)) (h0:0<=s) (h1:s < 64) (hx:Qcf s<=xs.length):Qas Tryz.prog J0 121 #[.int .i64 s,slT xs.length (Qac Qaz xs)] (slT (Qax s xs 0).length (Qac Qaz (Qax s xs 0))):=
 QaE (ts:=[.int .i64 s,slT xs.length (Qac Qaz xs)]) Qb6 (c0:=Qai Tryz.prog 121 18 (([.int .i64 s,slT xs.length (Qac Qaz xs)]).map (Qaq 0 4))) (by kernel_rfl) (by kernel_rfl) fun B hJ=> Qzd s xs h0 h1 hx hJ
end
end Go.Proofs.YtiabgkiccaodmaaGreat

