/- The first day on which goods are wanting. -/
import Derived.Test.YtiabgkiccaodmaaGreatZRA09
set_option linter.all false
namespace Go.Proofs.YtiabgkiccaodmaaGreat
open Go Go.CE Go.RowKit
noncomputable section
set_option maxRecDepth 100000
structure Gd where
 stock:Int
 use:Int
 br:Int
 ships:List Bool
deriving Inhabited
def Qcv (g:Gd):List Value:=[.int .i64 g.stock,.int .i64 g.use,.int .i64 g.br,slB g.ships]
abbrev Qio (use left:Int):Int:=left - if use < left then use else left
def QaL (use br:Int):List Bool->Int->Int->Int
 | [],_,_=> -1
 | c::cs,day,left=> bif decide ((left+bif c then br else 0) < use) then day else QaL use br cs (day+1) (Qio use (left+bif c then br else 0))
def Qi5 (use br:Int):List Bool->Int->Int
 | [],left=> left
 | c::cs,left=> Qi5 use br cs (Qio use (left+bif c then br else 0))
def gdB (g:Gd):Prop:=0<=g.stock/\g.stock<=1000000000/\0<=g.use/\g.use<=1000000000/\0<=g.br/\g.br<=1000000000/\g.ships.length<=1000
theorem Qcz {use br:Int} {l:List Bool} {i left:Int} (h0:0<=i) (h:i < l.length):QaL use br (l.drop i.toNat) i left=bif decide ((left+bif l.getD i.toNat default then br else 0) < use) then i else QaL use br (l.drop (i+1).toNat) (i+1) (Qio use (left+bif l.getD i.toNat default then br else 0)):=by
 obtain ⟨k,rfl⟩:∃k:Nat,i=k:=⟨i.toNat,by omega⟩
 have hk:k < l.length:=by omega
 have e1:((k:Int)).toNat=k:=by omega
 have e2:((k:Int)+1).toNat=k+1:=by omega
 rw [e1,e2,List.drop_eq_getElem_cons hk]
 simp [QaL,List.getD_eq_getElem?_getD,hk]
theorem Qt8 {use br:Int} {l:List Bool} {i left:Int} (h:l.length<=i):QaL use br (l.drop i.toNat) i left= -1:=by
 rw [List.drop_eq_nil_of_le (by omega)];rfl
theorem Qdi {use br:Int} {l:List Bool} {i left:Int} (h0:0<=i) (h:i < l.length):Qi5 use br (l.drop i.toNat) left=Qi5 use br (l.drop (i+1).toNat) (Qio use (left+bif l.getD i.toNat default then br else 0)):=by
 obtain ⟨k,rfl⟩:∃k:Nat,i=k:=⟨i.toNat,by omega⟩
 have hk:k < l.length:=by omega
 have e1:((k:Int)).toNat=k:=by omega
 have e2:((k:Int)+1).toNat=k+1:=by omega
 rw [e1,e2,List.drop_eq_getElem_cons hk]
 simp [Qi5,List.getD_eq_getElem?_getD,hk]
theorem Qxa {use br:Int} {l:List Bool} {i left:Int} (h:l.length<=i):Qi5 use br (l.drop i.toNat) left=left:=by
 rw [List.drop_eq_nil_of_le (by omega)];rfl
theorem QfZ {use br:Int}:∀(l:List Bool) (day left:Int),0<=day->QaL use br l day left= -1\/0<=QaL use br l day left
 | [],_,_,_=> .inl rfl
 | c::cs,day,left,h=> by
   simp only [QaL]
   cases decide ((left+bif c then br else 0) < use) with
   | true=> exact .inr h
   | false=> exact QfZ cs _ _ (by omega)
def QaM (g:Gd):Qap:=[(2,Obj.cells #[.int .i64 0] 3),(1,Obj.cells #[.int .i64 g.stock,.int .i64 g.use,.int .i64 g.br,Qa0 0 (slT g.ships.length (Qac QdL g.ships))] 129),(0,Obj.coro none)]
def QbA (g:Gd):CF:=⟨126,ofList 38 [.agg #[.int .i64 g.stock,.int .i64 g.use,.int .i64 g.br,Qa0 0 (slT g.ships.length (Qac QdL g.ships))],Value.func (Fn.func 149) #[] #[]],[Item.code (Qal Tryz.prog 126)],[],.run,none⟩
def Qbf (g:Gd) (i left:Int):List Value:=[Value.func (Fn.func 149) #[] #[],pA 4 0,.int .i64 left,Qa0 0 (slT g.ships.length (Qac QdL g.ships)),.int .i64 (↑g.ships.length:Int),.int .i64 i]
def Qbg (g:Gd) (i left:Int):List Obj:=[]
def QaF (g:Gd) (i left:Int):List Obj:=[Obj.cells #[.int .i64 g.stock,.int .i64 g.use,.int .i64 g.br,Qa0 0 (slT g.ships.length (Qac QdL g.ships))] 129]
def Qbh:List Item:=([.code [1,1,0,1,0,0],.inLoop [1,1,0,1,0,0],.inBlock 0,.code [1,1,1]]).map (it (Qal Tryz.prog 126))
def Qgf (B:Lo) (g:Gd) (i left:Int) (dJ0:Nat->Value):List Prop:=[ltq i (↑g.ships.length:Int)=true]++([]:List Prop)
def Qj5 (g:Gd) (i left:Int) (dJ0:Nat->Value):Qay:=[(0,hvT)]
def Qga (B:Lo) (g:Gd) (i left:Int) (dJ0:Nat->Value):List Prop:=[wq (left+g.br)=left+g.br,i=(↑i.toNat:Int)/\Int.toNat i < List.length g.ships/\Array.extract (Qac QdL g.ships) (Int.toNat i * TypeInfo.size Tryz.t4) (Int.toNat i * TypeInfo.size Tryz.t4+TypeInfo.size Tryz.t4)=#[.bool true]]++Qgf B g i left dJ0
def Qj7 (g:Gd) (i left:Int) (dJ0:Nat->Value):Qay:=Qj5 g i left dJ0++[(2,Qaj.tidx i.toNat #[.bool true]),(10,hvI (left+g.br))]
def QdX (g:Gd) (i left:Int) (dJ0:Nat->Value):Qap:=[(3,Obj.coro none),(4,Obj.cells #[.int .i64 g.stock,.int .i64 g.use,.int .i64 g.br,Qa0 0 (slT g.ships.length (Qac QdL g.ships))] 129),(2,Obj.cells #[.int .i64 0] 3),(1,Obj.cells #[.int .i64 g.stock,.int .i64 g.use,.int .i64 g.br,Qa0 0 (slT g.ships.length (Qac QdL g.ships))] 129),(0,Obj.coro none)]
def QeR (g:Gd) (i left:Int) (dJ0:Nat->Value):CF:=⟨149,ofList 4 [.int .i64 i],[Item.code (Qal Tryz.prog 149)],[],.run,none⟩
theorem QoM (B:Lo) (g:Gd) (i left:Int) (dJ0:Nat->Value):CE.finK 5 (Qak Tryz.prog (Qa1 Tryz.prog) J0 B 2 5 (QeR g i left dJ0) (QdX g i left dJ0) 5
 [] 0 [] []) [] [] []=some (OO.pan (Value.iface 183 (.int .i64 i)),[],[],
 []):=by kernel_rfl
theorem Qqh (B:Lo) (g:Gd) (i left:Int) (dJ0:Nat->Value):CE.finK 3 (Qak Tryz.prog (Qa1 Tryz.prog) J0 B 20 3 (Qcw (none) 126 38 (([1,2,5,11,12,13]:List Nat).zip (Qbf g i left)) dJ0 Qbh) (QbG (QaM g) 3 (([]:List Nat).zip (Qbg g i left)) (QaF g i left)) (3+1+(QaF g i left).length)
 (Qj7 g i left dJ0++[(15,hvT),(18,Qaj.call (List.range 5) (OO.pan (Value.iface 183 (.int .i64 i))) ([]++(5,Qbu)::QaK 6 []) 6 [])]) 0 [] []) [] [] []=some (OO.pan (Value.iface 183 (.int .i64 i)),[],[],
 [FJ Tryz.prog B (QeR g i left dJ0) (QdX g i left dJ0) 5 (OO.pan (Value.iface 183 (.int .i64 i))) (([]++((5,Qbu)::QaK (5+1) []))++QdX g i left dJ0) 6 (List.range 5) [],ltq (left+g.br) g.use=true]++Qga B g i left dJ0):=by kernel_rfl
theorem QpU (B:Lo) (g:Gd) (i left:Int) (dJ0:Nat->Value):CE.landA 3 (Qak Tryz.prog (Qa1 Tryz.prog) J0 B 23 3 (Qcw (none) 126 38 (([1,2,5,11,12,13]:List Nat).zip (Qbf g i left)) dJ0 Qbh) (QbG (QaM g) 3 (([]:List Nat).zip (Qbg g i left)) (QaF g i left)) (3+1+(QaF g i left).length)
 (Qj7 g i left dJ0++[(15,hvF),(21,hvI (left+g.br - if g.use < left+g.br then g.use else left+g.br)),(23,hvI (i+1))]) 0 [] []) [1,2,5,11,12,13] [] [(4,KS.auto)] []=some ⟨126,38,Qbh,[],.run,none,Qbf g (i+1) (left+g.br - if g.use < left+g.br then g.use else left+g.br),([]:List Nat).zip (Qbg g (i+1) (left+g.br - if g.use < left+g.br then g.use else left+g.br)),QaF g (i+1) (left+g.br - if g.use < left+g.br then g.use else left+g.br),
 [wq (i+1)=i+1,wq (left+g.br - if g.use < left+g.br then g.use else left+g.br)=left+g.br - if g.use < left+g.br then g.use else left+g.br,ltq (left+g.br) g.use=false]++Qga B g i left dJ0⟩:=by kernel_rfl
def Qgc (B:Lo) (g:Gd) (i left:Int) (dJ0:Nat->Value):List Prop:=[i=(↑i.toNat:Int)/\Int.toNat i < List.length g.ships/\Array.extract (Qac QdL g.ships) (Int.toNat i * TypeInfo.size Tryz.t4) (Int.toNat i * TypeInfo.size Tryz.t4+TypeInfo.size Tryz.t4)=#[.bool false]]++Qgf B g i left dJ0
def Qjt (g:Gd) (i left:Int) (dJ0:Nat->Value):Qay:=Qj5 g i left dJ0++[(2,Qaj.tidx i.toNat #[.bool false])]
def Qeg (g:Gd) (i left:Int) (dJ0:Nat->Value):Qap:=[(3,Obj.coro none),(4,Obj.cells #[.int .i64 g.stock,.int .i64 g.use,.int .i64 g.br,Qa0 0 (slT g.ships.length (Qac QdL g.ships))] 129),(2,Obj.cells #[.int .i64 0] 3),(1,Obj.cells #[.int .i64 g.stock,.int .i64 g.use,.int .i64 g.br,Qa0 0 (slT g.ships.length (Qac QdL g.ships))] 129),(0,Obj.coro none)]
def QeN (g:Gd) (i left:Int) (dJ0:Nat->Value):CF:=⟨149,ofList 4 [.int .i64 i],[Item.code (Qal Tryz.prog 149)],[],.run,none⟩
theorem QpM (B:Lo) (g:Gd) (i left:Int) (dJ0:Nat->Value):CE.finK 5 (Qak Tryz.prog (Qa1 Tryz.prog) J0 B 2 5 (QeN g i left dJ0) (Qeg g i left dJ0) 5
 [] 0 [] []) [] [] []=some (OO.pan (Value.iface 183 (.int .i64 i)),[],[],
 []):=by kernel_rfl
theorem Qp9 (B:Lo) (g:Gd) (i left:Int) (dJ0:Nat->Value):CE.finK 3 (Qak Tryz.prog (Qa1 Tryz.prog) J0 B 20 3 (Qcw (none) 126 38 (([1,2,5,11,12,13]:List Nat).zip (Qbf g i left)) dJ0 Qbh) (QbG (QaM g) 3 (([]:List Nat).zip (Qbg g i left)) (QaF g i left)) (3+1+(QaF g i left).length)
 (Qjt g i left dJ0++[(10,hvT),(13,Qaj.call (List.range 5) (OO.pan (Value.iface 183 (.int .i64 i))) ([]++(5,Qbu)::QaK 6 []) 6 [])]) 0 [] []) [] [] []=some (OO.pan (Value.iface 183 (.int .i64 i)),[],[],
 [FJ Tryz.prog B (QeN g i left dJ0) (Qeg g i left dJ0) 5 (OO.pan (Value.iface 183 (.int .i64 i))) (([]++((5,Qbu)::QaK (5+1) []))++Qeg g i left dJ0) 6 (List.range 5) [],ltq left g.use=true]++Qgc B g i left dJ0):=by kernel_rfl
theorem Qo6 (B:Lo) (g:Gd) (i left:Int) (dJ0:Nat->Value):CE.landA 3 (Qak Tryz.prog (Qa1 Tryz.prog) J0 B 23 3 (Qcw (none) 126 38 (([1,2,5,11,12,13]:List Nat).zip (Qbf g i left)) dJ0 Qbh) (QbG (QaM g) 3 (([]:List Nat).zip (Qbg g i left)) (QaF g i left)) (3+1+(QaF g i left).length)
 (Qjt g i left dJ0++[(10,hvF),(16,hvI (left - if g.use < left then g.use else left)),(18,hvI (i+1))]) 0 [] []) [1,2,5,11,12,13] [] [(4,KS.auto)] []=some ⟨126,38,Qbh,[],.run,none,Qbf g (i+1) (left - if g.use < left then g.use else left),([]:List Nat).zip (Qbg g (i+1) (left - if g.use < left then g.use else left)),QaF g (i+1) (left - if g.use < left then g.use else left),
 [wq (i+1)=i+1,wq (left - if g.use < left then g.use else left)=left - if g.use < left then g.use else left,ltq left g.use=false]++Qgc B g i left dJ0⟩:=by kernel_rfl
theorem QoD (B:Lo) (g:Gd) (i left:Int) (dJ0:Nat->Value):CE.finK 3 (Qak Tryz.prog (Qa1 Tryz.prog) J0 B 9 3 (Qcw (none) 126 38 (([1,2,5,11,12,13]:List Nat).zip (Qbf g i left)) dJ0 Qbh) (QbG (QaM g) 3 (([]:List Nat).zip (Qbg g i left)) (QaF g i left)) (3+1+(QaF g i left).length)
 [(0,hvF)] 0 [] []) [] [] []=some (OO.ret (.int .i64 left),[],[],
 [ltq i (↑g.ships.length:Int)=false]):=by kernel_rfl
set_option maxHeartbeats 4000000 in
theorem QfX (g:Gd) (hg:gdB g) {B:Lo} (hJ:∀w,B.has w->J0 w):∀m:Nat,(∀(i left:Int),∀(r:Bool),(decide (0<=QaL g.use g.br (g.ships.drop i.toNat) i left))=r->(g.ships.length - i.toNat)=m->∀(h0:0<=i) (h1:0<=left) (h2:left<=1000000000 * (i+1)),(∃dJ0:Nat->Value,(∀t,QaS (dJ0 t))/\GoE Tryz.prog B (QbA g) (QaM g) 3 (Qcw (none) 126 38 (([1,2,5,11,12,13]:List Nat).zip (Qbf g i left)) dJ0 Qbh) (QbG (QaM g) 3 (([]:List Nat).zip (Qbg g i left)) (QaF g i left)) (3+1+(QaF g i left).length) ([]:List Nat))->FinK Tryz.prog B (QbA g) (QaM g) 3 (bif r then .pan (.iface 183 (.int .i64 (QaL g.use g.br (g.ships.drop i.toNat) i left))) else .ret (.int .i64 (Qi5 g.use g.br (g.ships.drop i.toNat) left))) (([]:List Nat).zip ([])) ([]) ([]:List Nat)):=by
 intro m0
 induction m0 using Nat.strongRecOn with
 | _ m0 ih0=>
   intro i left r1 hr1 hm0 h0 h1 h2 ⟨dJ0,hdJ0,hg0⟩
   by_cases q0:(i:Int) < ((↑g.ships.length:Int))
   ·
    have hp0:Qa7 (Qgf B g i left dJ0):=by
     exact ⟨(Qbl q0),trivial⟩
    cases q1:g.ships.getD i.toNat default with
    | true=>
      have hp1:Qa7 (Qga B g i left dJ0):=by
       unfold gdB at hg
       have s1:=Qcz (use:=g.use) (br:=g.br) (l:=g.ships) (left:=left) h0 q0
       have s2:=Qdi (use:=g.use) (br:=g.br) (l:=g.ships) (left:=left) h0 q0
       simp only [q1,cond_true,cond_false,Int.add_zero] at s1 s2
       exact ⟨(QaJ (by omega) (by omega)),⟨⟨by first | omega | (split <;> omega),by first | omega | (split <;> omega),((Qaf (z:=1) (fun _=> rfl) (by omega))).trans (by simp_all [QdL])⟩,hp0⟩⟩
      by_cases q2:(left+g.br:Int) < g.use
      ·
       have rj2:FJ Tryz.prog B (QeR g i left dJ0) (QdX g i left dJ0) 5 (OO.pan (Value.iface 183 (.int .i64 i))) (([]++((5,Qbu)::QaK (5+1) []))++QdX g i left dJ0) 6 (List.range 5) []:=by
        unfold gdB at hg
        have s1:=Qcz (use:=g.use) (br:=g.br) (l:=g.ships) (left:=left) h0 q0
        have s2:=Qdi (use:=g.use) (br:=g.br) (l:=g.ships) (left:=left) h0 q0
        simp only [q1,cond_true,cond_false,Int.add_zero] at s1 s2
        rw [decide_eq_true q2,cond_true] at s1
        exact FinK.fjB (GoE.finK okF hJ Qab (Qan (by kernel_rfl)) (Qag (by kernel_rfl)) ((GoE.refl (P:=Tryz.prog) (B:=B) (c0:=QeR g i left dJ0) (Qan (by kernel_rfl))).widen (Wf:=((([]):List (Nat×KS)).map (·.1))) (by simp) (Qag (by kernel_rfl))) (QoM B g i left dJ0)
         trivial) (ex:=[]) (by kernel_rfl) (Qb3 _)
       unfold gdB at hg
       have s1:=Qcz (use:=g.use) (br:=g.br) (l:=g.ships) (left:=left) h0 q0
       have s2:=Qdi (use:=g.use) (br:=g.br) (l:=g.ships) (left:=left) h0 q0
       simp only [q1,cond_true,cond_false,Int.add_zero] at s1 s2
       rw [decide_eq_true q2,cond_true] at s1
       exact (GoE.finK okF hJ Qab (Qan (by kernel_rfl)) (Qag (by kernel_rfl)) hg0 (Qqh B g i left dJ0)
        ⟨rj2,⟨(Qbl q2),hp1⟩⟩).cast (by (subst hr1;rw [s1];simp [h0];done)) (by rfl) (by rfl)
      ·
       unfold gdB at hg
       have s1:=Qcz (use:=g.use) (br:=g.br) (l:=g.ships) (left:=left) h0 q0
       have s2:=Qdi (use:=g.use) (br:=g.br) (l:=g.ships) (left:=left) h0 q0
       simp only [q1,cond_true,cond_false,Int.add_zero] at s1 s2
       rw [decide_eq_false q2,cond_false] at s1
       exact ((ih0 _ (by omega)) (i+1) (left+g.br - if g.use < left+g.br then g.use else left+g.br) r1 (by rw [<-hr1,s1]) rfl (by omega) (by omega) (by omega)
        (GoE.landA okF hJ Qab (Qan (by kernel_rfl)) (Qag (by kernel_rfl)) hg0 (QpU B g i left dJ0)
        ⟨(QaJ (by omega) (by omega)),⟨(QaJ (by omega) (by omega)),⟨(Qbq (Int.not_lt.1 q2)),hp1⟩⟩⟩ (by kernel_rfl) (by kernel_rfl) (fun l hl=> by cases hl <;> decide))).cast (by (rw [s1,s2];done)) (by rfl) (by rfl)
    | false=>
      have hp2:Qa7 (Qgc B g i left dJ0):=by
       unfold gdB at hg
       have s1:=Qcz (use:=g.use) (br:=g.br) (l:=g.ships) (left:=left) h0 q0
       have s2:=Qdi (use:=g.use) (br:=g.br) (l:=g.ships) (left:=left) h0 q0
       simp only [q1,cond_true,cond_false,Int.add_zero] at s1 s2
       exact ⟨⟨by first | omega | (split <;> omega),by first | omega | (split <;> omega),((Qaf (z:=1) (fun _=> rfl) (by omega))).trans (by simp_all [QdL])⟩,hp0⟩
      by_cases q2:(left:Int) < g.use
      ·
       have rj2:FJ Tryz.prog B (QeN g i left dJ0) (Qeg g i left dJ0) 5 (OO.pan (Value.iface 183 (.int .i64 i))) (([]++((5,Qbu)::QaK (5+1) []))++Qeg g i left dJ0) 6 (List.range 5) []:=by
        unfold gdB at hg
        have s1:=Qcz (use:=g.use) (br:=g.br) (l:=g.ships) (left:=left) h0 q0
        have s2:=Qdi (use:=g.use) (br:=g.br) (l:=g.ships) (left:=left) h0 q0
        simp only [q1,cond_true,cond_false,Int.add_zero] at s1 s2
        rw [decide_eq_true q2,cond_true] at s1
        exact FinK.fjB (GoE.finK okF hJ Qab (Qan (by kernel_rfl)) (Qag (by kernel_rfl)) ((GoE.refl (P:=Tryz.prog) (B:=B) (c0:=QeN g i left dJ0) (Qan (by kernel_rfl))).widen (Wf:=((([]):List (Nat×KS)).map (·.1))) (by simp) (Qag (by kernel_rfl))) (QpM B g i left dJ0)
         trivial) (ex:=[]) (by kernel_rfl) (Qb3 _)
       unfold gdB at hg
       have s1:=Qcz (use:=g.use) (br:=g.br) (l:=g.ships) (left:=left) h0 q0
       have s2:=Qdi (use:=g.use) (br:=g.br) (l:=g.ships) (left:=left) h0 q0
       simp only [q1,cond_true,cond_false,Int.add_zero] at s1 s2
       rw [decide_eq_true q2,cond_true] at s1
       exact (GoE.finK okF hJ Qab (Qan (by kernel_rfl)) (Qag (by kernel_rfl)) hg0 (Qp9 B g i left dJ0)
        ⟨rj2,⟨(Qbl q2),hp2⟩⟩).cast (by (subst hr1;rw [s1];simp [h0];done)) (by rfl) (by rfl)
      ·
       unfold gdB at hg
       have s1:=Qcz (use:=g.use) (br:=g.br) (l:=g.ships) (left:=left) h0 q0
       have s2:=Qdi (use:=g.use) (br:=g.br) (l:=g.ships) (left:=left) h0 q0
       simp only [q1,cond_true,cond_false,Int.add_zero] at s1 s2
       rw [decide_eq_false q2,cond_false] at s1
       exact ((ih0 _ (by omega)) (i+1) (left - if g.use < left then g.use else left) r1 (by rw [<-hr1,s1]) rfl (by omega) (by omega) (by omega)
        (GoE.landA okF hJ Qab (Qan (by kernel_rfl)) (Qag (by kernel_rfl)) hg0 (Qo6 B g i left dJ0)
        ⟨(QaJ (by omega) (by omega)),⟨(QaJ (by omega) (by omega)),⟨(Qbq (Int.not_lt.1 q2)),hp2⟩⟩⟩ (by kernel_rfl) (by kernel_rfl) (fun l hl=> by cases hl <;> decide))).cast (by (rw [s1,s2];done)) (by rfl) (by rfl)
   ·
    unfold gdB at hg
    have s1:=Qt8 (use:=g.use) (br:=g.br) (l:=g.ships) (i:=i) (left:=left) (by omega)
    have s2:=Qxa (use:=g.use) (br:=g.br) (l:=g.ships) (i:=i) (left:=left) (by omega)
    exact (GoE.finK okF hJ Qab (Qan (by kernel_rfl)) (Qag (by kernel_rfl)) hg0 (QoD B g i left dJ0)
     ⟨(Qbq (Int.not_lt.1 q0)),trivial⟩).cast (by (subst hr1;rw [s1,s2];rfl)) (by rfl) (by rfl)

theorem QoP (B:Lo) (g:Gd):CE.landA 3 (Qak Tryz.prog (Qa1 Tryz.prog) J0 B 9 3 (QbA g) (QaM g) 3
 [] 0 [] []) [1,2,5,11,12,13] [] [(3,KS.auto)] []=some ⟨126,38,Qbh,[],.run,none,Qbf g (0) g.stock,([]:List Nat).zip (Qbg g (0) g.stock),QaF g (0) g.stock,
 []⟩:=by kernel_rfl
def QbB (g:Gd):Qap:=[(2,Obj.cells #[.int .i64 0] 3),(1,Obj.cells #[.int .i64 g.stock,.int .i64 g.use,.int .i64 g.br,Qa0 0 (slT g.ships.length (Qac QdL g.ships))] 129),(0,Obj.coro none)]
def QbX (g:Gd):CF:=⟨125,ofList 6 [.agg #[.int .i64 g.stock,.int .i64 g.use,.int .i64 g.br,Qa0 0 (slT g.ships.length (Qac QdL g.ships))],pA 1 0,pA 2 0,Value.func (Fn.func 148) #[] #[pA 2 0],.tuple #[],.tuple #[]],[Item.code (Code.seq (Code.region 2 #[{dst:=some 4,op:=Op.load 129 (Operand.tmp 1),type:=129,pos:= "goods.go:41",after:=#[],guard:=none},{dst:=some 5,op:=Op.call {callee:=Callee.value (Operand.func 126),args:=#[Operand.tmp 4,Operand.func 149],argTypes:=#[129,159]},type:=3,pos:= "goods.go:41",after:=#[{on:=0,ground:=Ground.data}],guard:=none}] false) (Code.seq (Code.region 3 #[{dst:=none,op:=Op.store 3 (Operand.tmp 2) (Operand.const (.int .i64 (-1))),type:=0,pos:= "goods.go:42",after:=#[],guard:=none}] false) Code.ret))],[],.run,none⟩
theorem Qpr (B:Lo) (g:Gd):CE.landU 3 (Qak Tryz.prog (Qa1 Tryz.prog) J0 B 2 3 (QbX g) (QbB g) 3
 [(1,Qaj.call (List.range 3) (OO.pan (Value.iface 183 (.int .i64 (QaL g.use g.br (List.drop (Int.toNat 0) g.ships) 0 g.stock)))) ([]++(3,Qbu)::QaK 4 []) 4 [])] 0 [] []) [2] [] [] []=some (125,6,none,OO.pan (Value.iface 183 (.int .i64 (QaL g.use g.br (List.drop (Int.toNat 0) g.ships) 0 g.stock))),[pA 2 0],[],[],
 [FJ Tryz.prog B (QbA g) (QaM g) 3 (OO.pan (Value.iface 183 (.int .i64 (QaL g.use g.br (List.drop (Int.toNat 0) g.ships) 0 g.stock)))) (([]++((3,Qbu)::QaK (3+1) []))++QaM g) 4 (List.range 3) []]):=by kernel_rfl
theorem Qou (B:Lo) (g:Gd):Qbd (Qvk Tryz.prog (Qa1 Tryz.prog) J0 B 3 1 (Qai Tryz.prog 125 6 (([.agg (Qcv g).toArray]).map (Qaq 0 4))) H00 1
 (OO.pan (Value.iface 183 (.int .i64 (QaL g.use g.br (List.drop (Int.toNat 0) g.ships) 0 g.stock)))) (([2]:List Nat).zip [pA 2 0]) ([]++(3,Qbu)::QaK 4 []) 4 [] (.int .i64 (QaL g.use g.br (List.drop (Int.toNat 0) g.ships) 0 g.stock)) [2]) []=some (.int .i64 (QaL g.use g.br (List.drop (Int.toNat 0) g.ships) 0 g.stock),
 [UJ Tryz.prog B (QbX g) (QbB g) 3 (OO.pan (Value.iface 183 (.int .i64 (QaL g.use g.br (List.drop (Int.toNat 0) g.ships) 0 g.stock)))) (([2]:List Nat).zip [pA 2 0]) (([]++((3,Qbu)::QaK (3+1) []))++QbB g) 4 (List.range 3) [],∀d:Nat->Value,QxD Tryz.prog 125 ([(3,Obj.coro none),(2,Obj.cells #[.int .i64 (QaL g.use g.br (List.drop (Int.toNat 0) g.ships) 0 g.stock)] 3),(1,Obj.cells #[.int .i64 g.stock,.int .i64 g.use,.int .i64 g.br,Qa0 0 (slT g.ships.length (Qac QdL g.ships))] 129),(0,Obj.coro none)]) (mkT 6 (([2]:List Nat).zip [pA 2 0]) d)=some (.int .i64 (QaL g.use g.br (List.drop (Int.toNat 0) g.ships) 0 g.stock),[2])]):=by kernel_rfl
theorem QnF (B:Lo) (g:Gd):CE.landA 3 (Qak Tryz.prog (Qa1 Tryz.prog) J0 B 9 3 (QbA g) (QaM g) 3
 [] 0 [] []) [1,2,5,11,12,13] [] [(3,KS.auto)] []=some ⟨126,38,Qbh,[],.run,none,Qbf g (0) g.stock,([]:List Nat).zip (Qbg g (0) g.stock),QaF g (0) g.stock,
 []⟩:=by kernel_rfl
theorem Qod (B:Lo) (g:Gd):CE.landU 3 (Qak Tryz.prog (Qa1 Tryz.prog) J0 B 5 3 (QbX g) (QbB g) 3
 [(1,Qaj.call (List.range 3) (OO.ret (.int .i64 (Qi5 g.use g.br (List.drop (Int.toNat 0) g.ships) g.stock))) ([]++(3,Qbu)::QaK 4 []) 4 [])] 0 [] []) [2] [(2,KS.auto)] [] []=some (125,6,none,OO.ret (.tuple #[]),[pA 2 0],[(2,Obj.cells #[.int .i64 (-1)] 3)],[],
 [FJ Tryz.prog B (QbA g) (QaM g) 3 (OO.ret (.int .i64 (Qi5 g.use g.br (List.drop (Int.toNat 0) g.ships) g.stock))) (([]++((3,Qbu)::QaK (3+1) []))++QaM g) 4 (List.range 3) []]):=by kernel_rfl
theorem Qnl (B:Lo) (g:Gd):Qbd (Qvk Tryz.prog (Qa1 Tryz.prog) J0 B 3 1 (Qai Tryz.prog 125 6 (([.agg (Qcv g).toArray]).map (Qaq 0 4))) H00 1
 (OO.ret (.tuple #[])) (([2]:List Nat).zip [pA 2 0]) ([(2,Obj.cells #[.int .i64 (-1)] 3)]++(3,Qbu)::QaK 4 []) 4 [2] (.int .i64 (-1)) [2]) []=some (.int .i64 (-1),
 [UJ Tryz.prog B (QbX g) (QbB g) 3 (OO.ret (.tuple #[])) (([2]:List Nat).zip [pA 2 0]) (([(2,Obj.cells #[.int .i64 (-1)] 3)]++((3,Qbu)::QaK (3+1) []))++QbB g) 4 (List.range 3) [2],∀d:Nat->Value,QxD Tryz.prog 125 ([(2,Obj.cells #[.int .i64 (-1)] 3),(3,Obj.coro none),(2,Obj.cells #[.int .i64 0] 3),(1,Obj.cells #[.int .i64 g.stock,.int .i64 g.use,.int .i64 g.br,Qa0 0 (slT g.ships.length (Qac QdL g.ships))] 129),(0,Obj.coro none)]) (mkT 6 (([2]:List Nat).zip [pA 2 0]) d)=some (.int .i64 (-1),[2])]):=by kernel_rfl
set_option maxHeartbeats 4000000 in
theorem Qr6 (g:Gd) (hg:gdB g) {B:Lo} (hJ:∀w,B.has w->J0 w):EndsT Tryz.prog B (Qai Tryz.prog 125 6 (([.agg (Qcv g).toArray]).map (Qaq 0 4))) (.int .i64 (QaL g.use g.br g.ships 0 g.stock)):=by
 cases q0:decide (0<=QaL g.use g.br (List.drop (Int.toNat 0) g.ships) 0 g.stock) with
 | true=>
   have rj1:FJ Tryz.prog B (QbA g) (QaM g) 3 (OO.pan (Value.iface 183 (.int .i64 (QaL g.use g.br (List.drop (Int.toNat 0) g.ships) 0 g.stock)))) (([]++((3,Qbu)::QaK (3+1) []))++QaM g) 4 (List.range 3) []:=by
    unfold gdB at hg
    exact FinK.fjB ((QfX g hg hJ _) (0) g.stock true q0 rfl (by omega) (by omega) (by omega)
     (GoE.landA okF hJ Qab (Qan (by kernel_rfl)) (Qag (by kernel_rfl)) ((GoE.refl (P:=Tryz.prog) (B:=B) (c0:=QbA g) (Qan (by kernel_rfl))).widen (Wf:=((([]):List (Nat×KS)).map (·.1))) (by simp) (Qag (by kernel_rfl))) (QoP B g)
     trivial (by kernel_rfl) (by kernel_rfl) (fun l hl=> by cases hl <;> decide))) (ex:=[]) (by kernel_rfl) (Qb3 _)
   have rj0:UJ Tryz.prog B (QbX g) (QbB g) 3 (OO.pan (Value.iface 183 (.int .i64 (QaL g.use g.br (List.drop (Int.toNat 0) g.ships) 0 g.stock)))) (([2]:List Nat).zip [pA 2 0]) (([]++((3,Qbu)::QaK (3+1) []))++QbB g) 4 (List.range 3) []:=by
    unfold gdB at hg
    exact FinU.ujB (GoE.landU okF hJ Qab (Qan (by kernel_rfl)) (Qag (by kernel_rfl)) ((GoE.refl (P:=Tryz.prog) (B:=B) (c0:=QbX g) (Qan (by kernel_rfl))).widen (Wf:=((([]):List (Nat×KS)).map (·.1))) (by simp) (Qag (by kernel_rfl))) (Qpr B g)
     (by exact ⟨rj1,trivial⟩) (by kernel_rfl) rfl) (ex:=[]) (by kernel_rfl) (Qb3 _)
   unfold gdB at hg
   exact (GoE.endsD okF hJ Qab GoE.start (Qou B g)
    (by exact ⟨rj0,⟨(fun d=> by kernel_rfl),trivial⟩⟩)).cast (by rfl)
 | false=>
   have rj1:FJ Tryz.prog B (QbA g) (QaM g) 3 (OO.ret (.int .i64 (Qi5 g.use g.br (List.drop (Int.toNat 0) g.ships) g.stock))) (([]++((3,Qbu)::QaK (3+1) []))++QaM g) 4 (List.range 3) []:=by
    unfold gdB at hg
    exact FinK.fjB ((QfX g hg hJ _) (0) g.stock false q0 rfl (by omega) (by omega) (by omega)
     (GoE.landA okF hJ Qab (Qan (by kernel_rfl)) (Qag (by kernel_rfl)) ((GoE.refl (P:=Tryz.prog) (B:=B) (c0:=QbA g) (Qan (by kernel_rfl))).widen (Wf:=((([]):List (Nat×KS)).map (·.1))) (by simp) (Qag (by kernel_rfl))) (QnF B g)
     trivial (by kernel_rfl) (by kernel_rfl) (fun l hl=> by cases hl <;> decide))) (ex:=[]) (by kernel_rfl) (Qb3 _)
   have rj0:UJ Tryz.prog B (QbX g) (QbB g) 3 (OO.ret (.tuple #[])) (([2]:List Nat).zip [pA 2 0]) (([(2,Obj.cells #[.int .i64 (-1)] 3)]++((3,Qbu)::QaK (3+1) []))++QbB g) 4 (List.range 3) [2]:=by
    unfold gdB at hg
    exact FinU.ujB (GoE.landU okF hJ Qab (Qan (by kernel_rfl)) (Qag (by kernel_rfl)) ((GoE.refl (P:=Tryz.prog) (B:=B) (c0:=QbX g) (Qan (by kernel_rfl))).widen (Wf:=((([(2,KS.auto)]):List (Nat×KS)).map (·.1))) (by simp) (Qag (by kernel_rfl))) (Qod B g)
     (by exact ⟨rj1,trivial⟩) (by kernel_rfl) rfl) (ex:=[]) (by kernel_rfl) (Qb3 _)
   unfold gdB at hg
   exact (GoE.endsD okF hJ Qab GoE.start (Qnl B g)
    (by exact ⟨rj0,⟨(fun d=> by kernel_rfl),trivial⟩⟩)).cast (by (rcases QfZ (use:=g.use) (br:=g.br) g.ships 0 g.stock (by omega) with h | h <;> simp_all;done))
theorem QwJ (g:Gd) (hg:gdB g):Qas Tryz.prog J0 125 #[.agg (Qcv g).toArray] (.int .i64 (QaL g.use g.br g.ships 0 g.stock)):=
 QaE (ts:=[.agg (Qcv g).toArray]) Qb8 (c0:=Qai Tryz.prog 125 6 (([.agg (Qcv g).toArray]).map (Qaq 0 4))) (by kernel_rfl) (by kernel_rfl) fun B hJ=> Qr6 g hg hJ
def Qhj (B:Lo) (g:Gd):List Prop:=[Qa7 []/\Qas Tryz.prog J0 125 #[.agg #[.int .i64 g.stock,.int .i64 g.use,.int .i64 g.br,slT g.ships.length (Qac QdL g.ships)]] (.int .i64 (QaL g.use g.br g.ships 0 g.stock))]++([]:List Prop)
def QlF (g:Gd):Qay:=[(3,Qaj.pure (.int .i64 (QaL g.use g.br g.ships 0 g.stock)) [])]
theorem Qq6 (B:Lo) (g:Gd):Qbd (Qak Tryz.prog (Qa1 Tryz.prog) J0 B 6 1 (Qai Tryz.prog 133 6 (([.agg (Qcv g).toArray]).map (Qaq 0 4))) H00 1
 (QlF g++[(4,hvT)]) 0 [] []) []=some (.bool true,
 [eqq (QaL g.use g.br g.ships 0 g.stock) (-1)=true]++Qhj B g):=by kernel_rfl
theorem QqF (B:Lo) (g:Gd):Qbd (Qak Tryz.prog (Qa1 Tryz.prog) J0 B 6 1 (Qai Tryz.prog 133 6 (([.agg (Qcv g).toArray]).map (Qaq 0 4))) H00 1
 (QlF g++[(4,hvF)]) 0 [] []) []=some (.bool false,
 [eqq (QaL g.use g.br g.ships 0 g.stock) (-1)=false]++Qhj B g):=by kernel_rfl
set_option maxHeartbeats 4000000 in
theorem QtX (g:Gd) (hg:gdB g) {B:Lo} (hJ:∀w,B.has w->J0 w):EndsT Tryz.prog B (Qai Tryz.prog 133 6 (([.agg (Qcv g).toArray]).map (Qaq 0 4))) (.bool (decide (QaL g.use g.br g.ships 0 g.stock= -1))):=by
 have hp0:Qa7 (Qhj B g):=by
  exact ⟨⟨trivial,QwJ (g) (by with_reducible assumption)⟩,trivial⟩
 by_cases q0:(QaL g.use g.br g.ships 0 g.stock:Int)=(-1)
 ·
  exact (GoE.endsT okF hJ Qab GoE.start (Qq6 B g)
   ⟨(Qn3 q0),hp0⟩).cast (by (simp [*];done))
 ·
  exact (GoE.endsT okF hJ Qab GoE.start (QqF B g)
   ⟨(QnT q0),hp0⟩).cast (by (simp [*];done))
theorem QzE (g:Gd) (hg:gdB g):Qas Tryz.prog J0 133 #[.agg (Qcv g).toArray] (.bool (decide (QaL g.use g.br g.ships 0 g.stock= -1))):=
 QaE (ts:=[.agg (Qcv g).toArray]) Qb8 (c0:=Qai Tryz.prog 133 6 (([.agg (Qcv g).toArray]).map (Qaq 0 4))) (by kernel_rfl) (by kernel_rfl) fun B hJ=> QtX g hg hJ

end
end Go.Proofs.YtiabgkiccaodmaaGreat

namespace Go.Proofs.YtiabgkiccaodmaaGreat
open Go Go.CE Go.RowKit
set_option maxRecDepth 100000
def Qog (s n:Int):Int:=((orN s ((Qs4 n:Nat):Int):Nat):Int)
def QjG (s n:Int):Bool:=decide (((Qzt ((Qq9 s n:Nat):Int) 1:Nat):Int)=1)
theorem Qn7 {s n:Int}:QjG s n=s.toNat.testBit n.toNat:=by
 unfold QjG Qzt Qq9
 rw [Int.toNat_natCast,show (1:Int).toNat=1 from rfl,Nat.and_one_is_mod,Nat.shiftRight_eq_div_pow,Nat.testBit_eq_decide_div_mod_eq]
 exact decide_eq_decide.2 (by omega)
def QcM:List Int->Int->Int
 | [],s=> s
 | n::l,s=> QcM l (Qog s n)
theorem QxF {s n:Int} {k:Nat} (h0:0<=s) (h:s < 2 ^ k) (hn:n.toNat < k):Qog s n < 2 ^ k:=by
 obtain ⟨b,rfl⟩:∃b:Nat,s=b:=⟨s.toNat,by omega⟩
 have e:(2:Int) ^ k=((2 ^ k:Nat):Int):=by rw [Int.natCast_pow];rfl
 rw [e] at h ⊢
 have h':b < 2 ^ k:=by exact_mod_cast h
 have:b ||| 2 ^ n.toNat < 2 ^ k:=Nat.or_lt_two_pow h' (Nat.pow_lt_pow_right (by decide) hn)
 unfold Qog orN Qs4
 rw [Int.toNat_natCast,Int.toNat_natCast]
 exact_mod_cast this
theorem Qvw {l:List Int} {i s:Int} (h0:0<=i) (h:i < l.length):QcM (l.drop i.toNat) s=QcM (l.drop (i+1).toNat) (Qog s (l.getD i.toNat default)):=by
 obtain ⟨k,rfl⟩:∃k:Nat,i=k:=⟨i.toNat,by omega⟩
 have hk:k < l.length:=by omega
 have e1:((k:Int)).toNat=k:=by omega
 have e2:((k:Int)+1).toNat=k+1:=by omega
 rw [e1,e2,List.drop_eq_getElem_cons hk]
 simp [QcM,List.getD_eq_getElem?_getD,hk]
theorem QyT {l:List Int} {i s:Int} (h:l.length<=i):QcM (l.drop i.toNat) s=s:=by
 rw [List.drop_eq_nil_of_le (by omega)];rfl
theorem Qyt (B:Lo) (s n:Int):Qbd (Qak Tryz.prog (Qa1 Tryz.prog) J0 B 6 1 (Qai Tryz.prog 146 9 (([.int .i64 s,.int .i64 n]).map (Qaq 0 4))) H00 1
 [(3,Qaj.bin (.int .i64 (↑(Qs4 n):Int))),(4,Qaj.bin (.int .i64 (↑(orN s (↑(Qs4 n):Int)):Int)))] 0 [] []) []=some (.int .i64 (↑(orN s (↑(Qs4 n):Int)):Int),
 [Qki Tryz.prog BinOp.or 120 (Qce {len:=16000,tr:=Tri.set 14 (Tri.set 14 Tri.lf 7 (.int .i64 (↑(Qs4 n):Int))) 5 (.int .i64 s)} 5) (Qce {len:=16000,tr:=Tri.set 14 (Tri.set 14 Tri.lf 7 (.int .i64 (↑(Qs4 n):Int))) 5 (.int .i64 s)} 7) (.int .i64 (↑(orN s (↑(Qs4 n):Int)):Int)),Qki Tryz.prog BinOp.shl 120 (.int .i64 1) (Qce {len:=16000,tr:=Tri.set 14 Tri.lf 6 (.int .i64 n)} 6) (.int .i64 (↑(Qs4 n):Int))]):=by kernel_rfl
set_option maxHeartbeats 4000000 in
theorem Q1z (s n:Int) (hn:0<=n/\n<=61) (hs:0<=s/\s<=4611686018427387904) {B:Lo} (hJ:∀w,B.has w->J0 w):EndsT Tryz.prog B (Qai Tryz.prog 146 9 (([.int .i64 s,.int .i64 n]).map (Qaq 0 4))) (.int .i64 (Qog s n)):=by
 have e1:=Q12 (n:=n) (by omega)
 exact (GoE.endsT okF hJ Qab GoE.start (Qyt B s n)
  ⟨(Q2Q (by omega) (by omega) (by omega) (by omega)),⟨(QyW (by omega) (by omega)),trivial⟩⟩).cast (by rfl)
theorem Q3S (s n:Int) (hn:0<=n/\n<=61) (hs:0<=s/\s<=4611686018427387904):Qas Tryz.prog J0 146 #[.int .i64 s,.int .i64 n] (.int .i64 (Qog s n)):=
 QaE (ts:=[.int .i64 s,.int .i64 n]) Qb8 (c0:=Qai Tryz.prog 146 9 (([.int .i64 s,.int .i64 n]).map (Qaq 0 4))) (by kernel_rfl) (by kernel_rfl) fun B hJ=> Q1z s n hn hs hJ
noncomputable def Qq5 (B:Lo) (s n:Int):List Prop:=[Qki Tryz.prog BinOp.and 120 (Qce {len:=16000,tr:=Tri.set 14 Tri.lf 7 (.int .i64 (↑(Qq9 s n):Int))} 7) (.int .i64 1) (.int .i64 (↑(Qzt (↑(Qq9 s n):Int) 1):Int)),Qki Tryz.prog BinOp.shr 120 (Qce {len:=16000,tr:=Tri.set 14 (Tri.set 14 Tri.lf 6 (.int .i64 n)) 5 (.int .i64 s)} 5) (Qce {len:=16000,tr:=Tri.set 14 (Tri.set 14 Tri.lf 6 (.int .i64 n)) 5 (.int .i64 s)} 6) (.int .i64 (↑(Qq9 s n):Int))]++([]:List Prop)
noncomputable def Qwj (s n:Int):Qay:=[(3,Qaj.bin (.int .i64 (↑(Qq9 s n):Int))),(4,Qaj.bin (.int .i64 (↑(Qzt (↑(Qq9 s n):Int) 1):Int)))]
theorem Q2l (B:Lo) (s n:Int):Qbd (Qak Tryz.prog (Qa1 Tryz.prog) J0 B 6 1 (Qai Tryz.prog 159 10 (([.int .i64 s,.int .i64 n]).map (Qaq 0 4))) H00 1
 (Qwj s n++[(5,hvT)]) 0 [] []) []=some (.bool true,
 [eqq (↑(Qzt (↑(Qq9 s n):Int) 1):Int) 1=true]++Qq5 B s n):=by kernel_rfl
theorem Q0O (B:Lo) (s n:Int):Qbd (Qak Tryz.prog (Qa1 Tryz.prog) J0 B 6 1 (Qai Tryz.prog 159 10 (([.int .i64 s,.int .i64 n]).map (Qaq 0 4))) H00 1
 (Qwj s n++[(5,hvF)]) 0 [] []) []=some (.bool false,
 [eqq (↑(Qzt (↑(Qq9 s n):Int) 1):Int) 1=false]++Qq5 B s n):=by kernel_rfl
set_option maxHeartbeats 4000000 in
theorem Q3w (s n:Int) (hn:0<=n/\n<=61) (hs:0<=s/\s<=4611686018427387904) {B:Lo} (hJ:∀w,B.has w->J0 w):EndsT Tryz.prog B (Qai Tryz.prog 159 10 (([.int .i64 s,.int .i64 n]).map (Qaq 0 4))) (.bool (QjG s n)):=by
 have e1:Qq9 s n<=s.toNat:=Q1q
 have hp0:Qa7 (Qq5 B s n):=by
  exact ⟨(Q15 (by omega) (by omega) (by omega) (by omega)),⟨(Q1H (by omega) (by omega) (by omega)),trivial⟩⟩
 by_cases q0:((↑(Qzt (↑(Qq9 s n):Int) 1):Int):Int)=(1)
 ·
  exact (GoE.endsT okF hJ Qab GoE.start (Q2l B s n)
   ⟨(Qn3 q0),hp0⟩).cast (by (simp [QjG, *];done))
 ·
  exact (GoE.endsT okF hJ Qab GoE.start (Q0O B s n)
   ⟨(QnT q0),hp0⟩).cast (by (simp [QjG, *];done))
theorem Q0I (s n:Int) (hn:0<=n/\n<=61) (hs:0<=s/\s<=4611686018427387904):Qas Tryz.prog J0 159 #[.int .i64 s,.int .i64 n] (.bool (QjG s n)):=
 QaE (ts:=[.int .i64 s,.int .i64 n]) Qb8 (c0:=Qai Tryz.prog 159 10 (([.int .i64 s,.int .i64 n]).map (Qaq 0 4))) (by kernel_rfl) (by kernel_rfl) fun B hJ=> Q3w s n hn hs hJ
def Qo5 (xs:List Int) (i s:Int):List Value:=[.int .i64 s,Qa0 1 (slT xs.length (Qac Qar xs)),.int .i64 (↑xs.length:Int),.int .i64 i]
def Qjx (xs:List Int) (i s:Int):List Obj:=[]
noncomputable def Qqg:List Item:=([.code [1,1,0,1,0,0],.inLoop [1,1,0,1,0,0],.inBlock 0,.code [1,1,1]]).map (it (Qal Tryz.prog 116))
def Q33 (B:Lo) (c0:CF) (xs:List Int) (i s:Int):Prop:=∃dJ:Nat->Value,(∀t,QaS (dJ t))/\GoE Tryz.prog B c0 H00 1 (Qa4 116 17 (([3,6,7,8]:List Nat).zip (Qo5 xs i s)) dJ Qqg) (Qa3 (Qjx xs i s)) (2+(Qjx xs i s).length) []
theorem Q2E (B:Lo) (xs:List Int) (i s:Int) (dJ0:Nat->Value):landM (Qak Tryz.prog (Qa1 Tryz.prog) J0 B 13 1 (Qa4 116 17 (([3,6,7,8]:List Nat).zip (Qo5 xs i s)) dJ0 Qqg) (Qa3 (Qjx xs i s)) (2+(Qjx xs i s).length)
 [(0,hvT),(1,Qaj.tidx i.toNat #[.int .i64 (xs.getD i.toNat default)]),(6,Qaj.pure (.int .i64 (Qog s (xs.getD i.toNat default))) []),(8,hvI (i+1))] 0 [] []) [3,6,7,8] [] []=some ⟨116,17,Qqg,[],.run,none,Qo5 xs (i+1) (Qog s (xs.getD i.toNat default)),Qjx xs (i+1) (Qog s (xs.getD i.toNat default)),
 [wq (i+1)=i+1,Qa7 []/\Qas Tryz.prog J0 146 #[.int .i64 s,.int .i64 (xs.getD i.toNat default)] (.int .i64 (Qog s (xs.getD i.toNat default))),i=(↑i.toNat:Int)/\Int.toNat i < List.length xs/\Array.extract (Qac Qar xs) (Int.toNat i * TypeInfo.size Tryz.t3) (Int.toNat i * TypeInfo.size Tryz.t3+TypeInfo.size Tryz.t3)=#[.int .i64 (xs.getD i.toNat default)],ltq i (↑xs.length:Int)=true]⟩:=by kernel_rfl
theorem Q2y (B:Lo) (xs:List Int) (i s:Int) (dJ0:Nat->Value):Qbd (Qak Tryz.prog (Qa1 Tryz.prog) J0 B 9 1 (Qa4 116 17 (([3,6,7,8]:List Nat).zip (Qo5 xs i s)) dJ0 Qqg) (Qa3 (Qjx xs i s)) (2+(Qjx xs i s).length)
 [(0,hvF)] 0 [] []) []=some (.int .i64 s,
 [ltq i (↑xs.length:Int)=false]):=by kernel_rfl
theorem Q3a (B:Lo) (xs:List Int):landM (Qak Tryz.prog (Qa1 Tryz.prog) J0 B 9 1 (Qai Tryz.prog 116 17 (([slI xs]).map (Qaq 0 4))) H00 1
 [] 0 [] []) [3,6,7,8] [] []=some ⟨116,17,Qqg,[],.run,none,Qo5 xs (0) (0),Qjx xs (0) (0),
 []⟩:=by kernel_rfl
set_option maxHeartbeats 4000000 in
theorem Q2x (xs:List Int) (hx:∀x∈xs,0<=x/\x<=61) (hfacts:xs.length<=9223372036854775807) {B:Lo} (hJ:∀w,B.has w->J0 w) {c0:CF}:∀m:Nat,(∀(i s:Int),(xs.length - i.toNat)=m->∀(h0:0<=i) (h1:0<=s) (h2:s < 4611686018427387904),Q33 B c0 xs i s->EndsT Tryz.prog B c0 (.int .i64 (QcM (xs.drop i.toNat) s))):=by
 intro m0
 induction m0 using Nat.strongRecOn with
 | _ m0 ih0=>
   intro i s hm0 h0 h1 h2 ⟨dJ0,hdJ0,hg0⟩
   by_cases q0:(i:Int) < ((↑xs.length:Int))
   ·
    have s2:=Qvw (l:=xs) (s:=s) h0 q0
    have hm:=hx (xs.getD i.toNat default) (by rw [List.getD_eq_getElem?_getD,List.getElem?_eq_getElem (by omega)];exact List.getElem_mem _)
    have hw:=QxF (s:=s) (n:=xs.getD i.toNat default) (k:=62) h1 (by omega) (by omega)
    have hw0:0<=Qog s (xs.getD i.toNat default):=Int.natCast_nonneg _
    exact ((ih0 _ (by omega)) (i+1) (Qog s (xs.getD i.toNat default)) rfl (by omega) (by with_reducible assumption) (by omega)
     (hg0.landM okF hJ Qab (Q2E B xs i s dJ0)
     ⟨(QaJ (by omega) (by omega)),⟨⟨trivial,Q3S (s) (xs.getD i.toNat default) (by with_reducible assumption) (by omega)⟩,⟨⟨by omega,by omega,(Qaf (z:=1) (fun _=> rfl) (by omega))⟩,⟨(Qbl q0),trivial⟩⟩⟩⟩ (by kernel_rfl) (by kernel_rfl))).cast (by (rw [s2];done))
   ·
    have s2:=QyT (l:=xs) (i:=i) (s:=s) (by omega)
    have hw0:0<=Qog s (xs.getD i.toNat default):=Int.natCast_nonneg _
    exact (GoE.endsT okF hJ Qab hg0 (Q2y B xs i s dJ0)
     ⟨(Qbq (Int.not_lt.1 q0)),trivial⟩).cast (by (rw [s2];done))
set_option maxHeartbeats 4000000 in
theorem Q3T (xs:List Int) (hx:∀x∈xs,0<=x/\x<=61) (hfacts:xs.length<=9223372036854775807) {B:Lo} (hJ:∀w,B.has w->J0 w):EndsT Tryz.prog B (Qai Tryz.prog 116 17 (([slI xs]).map (Qaq 0 4))) (.int .i64 (QcM xs 0)):=by
 exact ((Q2x xs hx hfacts hJ _) (0) (0) rfl (by omega) (by omega) (by omega)
  (GoE.start.landM okF hJ Qab (Q3a B xs)
  trivial (by kernel_rfl) (by kernel_rfl))).cast (by rfl)
theorem pOf (xs:List Int) (hx:∀x∈xs,0<=x/\x<=61):Qas Tryz.prog J0 116 #[slI xs] (.int .i64 (QcM xs 0)):=
 QcH (ts:=[slI xs]) (xs.length<=9223372036854775807) (fun _ _ ht=> ht.ln (i:=0) rfl) Qb8 (c0:=Qai Tryz.prog 116 17 (([slI xs]).map (Qaq 0 4))) (by kernel_rfl) (by kernel_rfl) fun hfacts B hJ=> Q3T xs hx hfacts hJ
end Go.Proofs.YtiabgkiccaodmaaGreat

namespace Go.Proofs.YtiabgkiccaodmaaGreat
open Go Go.CE Go.RowKit
noncomputable section
set_option maxRecDepth 100000
def Qcf (s:Int):Int:=if s=0 then 0 else ((s.toNat.log2+1:Nat):Int)
theorem Q1e:(List.range 64).all (fun x=> QoL (QkE Tryz.prog (Qa1 Tryz.prog) Qb5 10000 158 #[.int .u64 (x:Nat)] (QeO 0 []) ([]:List (Array Value×TypeId)).length) (.int .i64 (Qcf (x:Nat))) [])=true:=by decide+kernel
theorem Q36 (s:Int) (h0:0<=s) (h1:s < 64):Qas Tryz.prog J0 158 #[.int .u64 s] (.int .i64 (Qcf s)):=by
 obtain ⟨k,rfl⟩:∃k:Nat,s=k:=⟨s.toNat,by omega⟩
 exact Qqs okF Qab (fuel:=10000) (by kernel_rfl) (by kernel_rfl) (by kernel_rfl) (List.all_eq_true.1 Q1e k (List.mem_range.2 (by omega)))
theorem Qyl:(List.range 64).all (fun x=> decide (0<=Qcf (x:Nat)) && decide (Qcf (x:Nat)<=6))=true:=by decide+kernel
theorem QeX {s:Int} (h0:0<=s) (h1:s < 64):0<=Qcf s/\Qcf s<=6:=by
 obtain ⟨k,rfl⟩:∃k:Nat,s=k:=⟨s.toNat,by omega⟩
 have:=List.all_eq_true.1 Qyl k (List.mem_range.2 (by omega))
 simpa using this
def Qax {α:Type} [Inhabited α] (s:Int) (xs:List α) (n:Int):List α:=((upI n (Qcf s)).filter (QjG s)).map fun k=> xs.getD k.toNat default
theorem QeF {α:Type} [Inhabited α] {s n:Int} {xs:List α} (h:n < Qcf s) (hb:QjG s n=true):Qax s xs n=[xs.getD n.toNat default]++Qax s xs (n+1):=by
 unfold Qax;rw [Qem h,List.filter_cons_of_pos hb];rfl
theorem Qii {α:Type} [Inhabited α] {s n:Int} {xs:List α} (h:n < Qcf s) (hb:QjG s n=false):Qax s xs n=Qax s xs (n+1):=by
 unfold Qax;rw [Qem h,List.filter_cons_of_neg (by rw [hb];decide)]
theorem Qis {α:Type} [Inhabited α] {s n:Int} {xs:List α} (h:Qcf s<=n):Qax s xs n=[]:=by
 unfold Qax;rw [Qh1 h];rfl
theorem QzS {α:Type} {acc:List α} (h:acc≠[]):acc.isEmpty=false:=by
 cases acc with
 | nil=> exact absurd rfl h
 | cons x l=> rfl
theorem Q3u {α:Type} {l:List α} (h:(!([]++l).isEmpty)=false):l=[]:=by
 cases l with
 | nil=> rfl
 | cons x l=> cases h
structure Qad where
 goods:List Span
 weight:Int
 cost:Int
deriving Inhabited
def Qam (l:Qad):List Value:=[Qpc l.goods,.int .i64 l.weight,.int .i64 l.cost]
abbrev Row:=List Int
def Qaz (l:Row):List Value:=[slI l]

def QfT (s:Int) (xs:List (Qad)):Qap:=[(2,Obj.cells #[.slice none 0 0] 60),(1,Obj.cells #[Qa0 0 (slT xs.length (Qac Qam xs))] 60),(0,Obj.coro none)]
def QhJ (s:Int) (xs:List (Qad)):CF:=⟨147,ofList 4 [.int .i64 s],[Item.code (Qal Tryz.prog 147)],[],.run,none⟩
def QdZ (s:Int) (xs:List (Qad)):Array Value:=#[.int .i64 s,Qa0 0 (slT xs.length (Qac Qam xs)),.tuple #[],pA 1 0,.slice none 0 0,pA 2 0,.tuple #[],.int .i64 s,Value.func (Fn.func 157) #[] #[Qa0 3 (ptT 0 #[.int .i64 s])],.tuple #[],.tuple #[],.tuple #[],.tuple #[],.tuple #[],.tuple #[],.tuple #[],.tuple #[],.tuple #[]]
def Qe3 (xs:List (Qad)) (n:Int):Array Value:=#[Qa0 0 (slT (List.length (Qad.goods (xs.getD n.toNat default))) (Qac Qa6 (Qad.goods (xs.getD n.toNat default)))),.int .i64 (Qad.weight (xs.getD n.toNat default)),.int .i64 (Qad.cost (xs.getD n.toNat default))]
def Qia (xs:List (Qad)) (n:Int):Array Value:=#[slT (List.length (Qad.goods (xs.getD n.toNat default))) (Qac Qa6 (Qad.goods (xs.getD n.toNat default))),.int .i64 (Qad.weight (xs.getD n.toNat default)),.int .i64 (Qad.cost (xs.getD n.toNat default))]
theorem QxX (B:Lo) (s:Int) (xs:List (Qad)):CE.finK 3 (Qak Tryz.prog (Qa1 Tryz.prog) J0 B 6 3 (QhJ s xs) (QfT s xs) 3
 [] 0 [] []) [] [] [{k:=3,rs:=[],cs:=#[.int .i64 s]}]=some (OO.ret (Value.func (Fn.func 157) #[] #[Qa0 3 (ptT 0 #[.int .i64 s])]),[],[],
 [Qb7 (Fz.rs {k:=3,rs:=[],cs:=#[.int .i64 s]}) #[.int .i64 s] (Fz.cs {k:=3,rs:=[],cs:=#[.int .i64 s]})]):=by kernel_rfl
def Qkr (B:Lo) (s:Int) (xs:List (Qad)):List Prop:=[FJ Tryz.prog B (QhJ s xs) (QfT s xs) 3 (OO.ret (Value.func (Fn.func 157) #[] #[Qa0 3 (ptT 0 #[.int .i64 s])])) (([]++((3,Qbu)::QaK (3+1) []))++QfT s xs) 4 (List.range 3) []]++([]:List Prop)
def Qqp (s:Int) (xs:List (Qad)):Qay:=[(4,Qaj.call (List.range 3) (OO.ret (Value.func (Fn.func 157) #[] #[Qa0 3 (ptT 0 #[.int .i64 s])])) ([]++(3,Qbu)::QaK 4 []) 4 [])]
def Qbb (s:Int) (xs:List (Qad)):Qap:=[(5,Obj.loop {state:=LoopState.ready,pending:=none,fn:=139,tmps:=#[.int .i64 s,Qa0 0 (slT xs.length (Qac Qam xs)),.tuple #[],pA 1 0,.slice none 0 0,pA 2 0,.tuple #[],.int .i64 s,Value.func (Fn.func 157) #[] #[Qa0 3 (ptT 0 #[.int .i64 s])],.tuple #[],.tuple #[],.tuple #[],.tuple #[],.tuple #[],.tuple #[],.tuple #[],.tuple #[],.tuple #[]],params:=#[9],assign:=nav (Qal Tryz.prog 139) [1,1,0,1,0,0],body:=nav (Qal Tryz.prog 139) [1,1,0,1,0,1],defers:=4}),(4,Obj.deferred (some [])),(3,Obj.coro none),(2,Obj.cells #[.slice none 0 0] 60),(1,Obj.cells #[Qa0 0 (slT xs.length (Qac Qam xs))] 60),(0,Obj.coro none)]
def Qci (s:Int) (xs:List (Qad)):CF:=⟨157,ofList 20 [Value.func (Fn.yield 5) #[] #[],Qa0 3 (ptT 0 #[.int .i64 s])],[Item.code (Qal Tryz.prog 157)],[],.run,none⟩
def QcF (s:Int) (xs:List (Qad)) (n:Int):List Value:=[Value.func (Fn.yield 5) #[] #[],Qa0 3 (ptT 0 #[.int .i64 s]),.int .i64 (Qcf s),.int .i64 n]
def Qc3 (s:Int) (xs:List (Qad)) (n:Int):List Obj:=[Obj.loop {state:=LoopState.ready,pending:=none,fn:=139,tmps:=#[.int .i64 s,Qa0 0 (slT xs.length (Qac Qam xs)),.tuple #[],pA 1 0,.slice none 0 0,pA 2 0,.tuple #[],.int .i64 s,Value.func (Fn.func 157) #[] #[Qa0 3 (ptT 0 #[.int .i64 s])],.tuple #[],.tuple #[],.tuple #[],.tuple #[],.tuple #[],.tuple #[],.tuple #[],.tuple #[],.tuple #[]],params:=#[9],assign:=nav (Qal Tryz.prog 139) [1,1,0,1,0,0],body:=nav (Qal Tryz.prog 139) [1,1,0,1,0,1],defers:=4},.cells #[.slice none 0 0] 60 (0,0)]
def Qby (s:Int) (xs:List (Qad)) (n:Int):List Obj:=[]
def QcB:List Item:=([.code [1,0,0],.inLoop [1,0,0],.inBlock 0]).map (it (Qal Tryz.prog 157))
def Qc1 (s:Int) (xs:List (Qad)) (n:Int) (acc:List Qad) (acc_n:Nat):List Value:=[Value.func (Fn.yield 5) #[] #[],Qa0 3 (ptT 0 #[.int .i64 s]),.int .i64 (Qcf s),.int .i64 n]
def QcD (s:Int) (xs:List (Qad)) (n:Int) (acc:List Qad) (acc_n:Nat):List Obj:=[Obj.loop {state:=LoopState.ready,pending:=none,fn:=139,tmps:=#[.int .i64 s,Qa0 0 (slT xs.length (Qac Qam xs)),.tuple #[],pA 1 0,.slice none 0 0,pA 2 0,.tuple #[],.int .i64 s,Value.func (Fn.func 157) #[] #[Qa0 3 (ptT 0 #[.int .i64 s])],.tuple #[],.tuple #[],.tuple #[],.tuple #[],.tuple #[],.tuple #[],.tuple #[],.tuple #[],.tuple #[]],params:=#[9],assign:=nav (Qal Tryz.prog 139) [1,1,0,1,0,0],body:=nav (Qal Tryz.prog 139) [1,1,0,1,0,1],defers:=4},.cells #[.slice (some ⟨7,0,none⟩) acc_n 3] 60 (0,0)]
def Qbv (s:Int) (xs:List (Qad)) (n:Int) (acc:List Qad) (acc_n:Nat):List Obj:=[Obj.cells (Qac (Qa5 0 Qam) acc) 118 (0,0)]
def Qcy:List Item:=([.code [1,0,0],.inLoop [1,0,0],.inBlock 0]).map (it (Qal Tryz.prog 157))
def Qlx (B:Lo) (s:Int) (xs:List (Qad)) (n:Int) (dJ0:Nat->Value):List Prop:=[ltq n (Qcf s)=true]++([]:List Prop)
def Qpe (s:Int) (xs:List (Qad)) (n:Int) (dJ0:Nat->Value):Qay:=[(0,hvT)]
def Qgr (s:Int) (xs:List (Qad)) (n:Int) (dJ0:Nat->Value):Qap:=[(5,Obj.loop {state:=LoopState.ready,pending:=none,fn:=139,tmps:=#[.int .i64 s,Qa0 0 (slT xs.length (Qac Qam xs)),.tuple #[],pA 1 0,.slice none 0 0,pA 2 0,.tuple #[],.int .i64 s,Value.func (Fn.func 157) #[] #[Qa0 3 (ptT 0 #[.int .i64 s])],.tuple #[],.tuple #[],.tuple #[],.tuple #[],.tuple #[],.tuple #[],.tuple #[],.tuple #[],.tuple #[]],params:=#[9],assign:=nav (Qal Tryz.prog 139) [1,1,0,1,0,0],body:=nav (Qal Tryz.prog 139) [1,1,0,1,0,1],defers:=4}),(2,Obj.cells #[.slice none 0 0] 60),(6,Obj.coro none),(5,Obj.loop {state:=LoopState.ready,pending:=none,fn:=139,tmps:=#[.int .i64 s,Qa0 0 (slT xs.length (Qac Qam xs)),.tuple #[],pA 1 0,.slice none 0 0,pA 2 0,.tuple #[],.int .i64 s,Value.func (Fn.func 157) #[] #[Qa0 3 (ptT 0 #[.int .i64 s])],.tuple #[],.tuple #[],.tuple #[],.tuple #[],.tuple #[],.tuple #[],.tuple #[],.tuple #[],.tuple #[]],params:=#[9],assign:=nav (Qal Tryz.prog 139) [1,1,0,1,0,0],body:=nav (Qal Tryz.prog 139) [1,1,0,1,0,1],defers:=4}),(4,Obj.deferred (some [])),(3,Obj.coro none),(2,Obj.cells #[.slice none 0 0] 60),(1,Obj.cells #[Qa0 0 (slT xs.length (Qac Qam xs))] 60),(0,Obj.coro none)]
def Qij (s:Int) (xs:List (Qad)) (n:Int) (dJ0:Nat->Value):CF:=⟨139,ofList 18 [.int .i64 s,Qa0 0 (slT xs.length (Qac Qam xs)),.tuple #[],pA 1 0,.slice none 0 0,pA 2 0,.tuple #[],.int .i64 s,Value.func (Fn.func 157) #[] #[Qa0 3 (ptT 0 #[.int .i64 s])],.int .i64 n,.tuple #[],.tuple #[],.tuple #[],.tuple #[],.tuple #[],.tuple #[],.tuple #[],.tuple #[]],[Item.code (nav (Qal Tryz.prog 139) [1,1,0,1,0,0]),Item.beginRound,Item.code (nav (Qal Tryz.prog 139) [1,1,0,1,0,1])],[],.run,some 5⟩
theorem Qwf (B:Lo) (s:Int) (xs:List (Qad)) (n:Int) (dJ0:Nat->Value):CE.finK 7 (Qak Tryz.prog (Qa1 Tryz.prog) J0 B 6 7 (Qij s xs n dJ0) (Qgr s xs n dJ0) 7
 [(4,Qaj.tidx n.toNat (Qia xs n))] 0 [] []) [(5,KS.auto),(2,KS.auto)] [(8,KS.auto)] []=some (OO.ret (.bool true),[(5,Obj.loop {state:=LoopState.ready,pending:=none,fn:=139,tmps:=#[.int .i64 s,Qa0 0 (slT xs.length (Qac Qam xs)),.tuple #[],pA 1 0,.slice none 0 0,pA 2 0,.tuple #[],.int .i64 s,Value.func (Fn.func 157) #[] #[Qa0 3 (ptT 0 #[.int .i64 s])],.tuple #[],.tuple #[],.tuple #[],.tuple #[],.tuple #[],.tuple #[],.tuple #[],.tuple #[],.tuple #[]],params:=#[9],assign:=nav (Qal Tryz.prog 139) [1,1,0,1,0,0],body:=nav (Qal Tryz.prog 139) [1,1,0,1,0,1],defers:=4}),(2,Obj.cells #[.slice (some {block:=8,off:=0}) 1 3] 60)],[Obj.cells #[Qa0 0 (slT (List.length (Qad.goods (xs.getD n.toNat default))) (Qac Qa6 (Qad.goods (xs.getD n.toNat default)))),.int .i64 (Qad.weight (xs.getD n.toNat default)),.int .i64 (Qad.cost (xs.getD n.toNat default))] 118],
 [n=(↑n.toNat:Int)/\Int.toNat n < List.length xs/\Array.extract (Qac Qam xs) (Int.toNat n * TypeInfo.size Tryz.t118) (Int.toNat n * TypeInfo.size Tryz.t118+TypeInfo.size Tryz.t118)=(Qia xs n)]):=by kernel_rfl
theorem Qwp (B:Lo) (s:Int) (xs:List (Qad)) (n:Int) (dJ0:Nat->Value):CE.landA 6 (Qak Tryz.prog (Qa1 Tryz.prog) J0 B 16 6 (Qcw (none) 157 20 (([0,1,6,7]:List Nat).zip (QcF s xs n)) dJ0 QcB) (QbG (Qbb s xs) 6 (([5,2]:List Nat).zip (Qc3 s xs n)) (Qby s xs n)) (6+1+(Qby s xs n).length)
 (Qpe s xs n dJ0++[(5,Qaj.pure (.bool true) []),(9,Qaj.call (List.range 7) (OO.ret (.bool true)) ([(5,Obj.loop {state:=LoopState.ready,pending:=none,fn:=139,tmps:=(QdZ s xs),params:=#[9],assign:=nav (Qal Tryz.prog 139) [1,1,0,1,0,0],body:=nav (Qal Tryz.prog 139) [1,1,0,1,0,1],defers:=4}),(2,Obj.cells #[.slice (some {block:=8,off:=0}) 1 3] 60)]++(7,Qbu)::QaK 8 [Obj.cells (Qe3 xs n) 118]) 9 [5,2]),(12,hvI (n+1))]) 0 [] []) [0,1,6,7] [(5,KS.auto),(2,KS.auto)] [(8,KS.rows [(0,0)] [] (Qac (Qa5 0 Qam) [xs.getD n.toNat default]))] []=some ⟨157,20,Qcy,[],.run,none,Qc1 s xs (n+1) ([xs.getD n.toNat default]) (1),([5,2]:List Nat).zip (QcD s xs (n+1) ([xs.getD n.toNat default]) (1)),Qbv s xs (n+1) ([xs.getD n.toNat default]) (1),
 [QaX 6 [(0,0)] [] (Qe3 xs n) (Qac (Qa5 0 Qam) [xs.getD n.toNat default]),wq (n+1)=n+1,FJ Tryz.prog B (Qij s xs n dJ0) (Qgr s xs n dJ0) 7 (OO.ret (.bool true)) (([(5,Obj.loop {state:=LoopState.ready,pending:=none,fn:=139,tmps:=(QdZ s xs),params:=#[9],assign:=nav (Qal Tryz.prog 139) [1,1,0,1,0,0],body:=nav (Qal Tryz.prog 139) [1,1,0,1,0,1],defers:=4}),(2,Obj.cells #[.slice (some {block:=8,off:=0}) 1 3] 60)]++((7,Qbu)::QaK (7+1) [Obj.cells (Qe3 xs n) 118]))++Qgr s xs n dJ0) 9 (List.range 7) [5,2],Qa7 []/\Qas Tryz.prog J0 159 #[.int .i64 s,.int .i64 n] (.bool true)]++Qlx B s xs n dJ0⟩:=by kernel_rfl
theorem QxM (B:Lo) (s:Int) (xs:List (Qad)) (n:Int) (dJ0:Nat->Value):CE.landA 6 (Qak Tryz.prog (Qa1 Tryz.prog) J0 B 16 6 (Qcw (none) 157 20 (([0,1,6,7]:List Nat).zip (QcF s xs n)) dJ0 QcB) (QbG (Qbb s xs) 6 (([5,2]:List Nat).zip (Qc3 s xs n)) (Qby s xs n)) (6+1+(Qby s xs n).length)
 (Qpe s xs n dJ0++[(5,Qaj.pure (.bool false) []),(12,hvI (n+1))]) 0 [] []) [0,1,6,7] [(5,KS.auto),(2,KS.auto)] [] []=some ⟨157,20,QcB,[],.run,none,QcF s xs (n+1),([5,2]:List Nat).zip (Qc3 s xs (n+1)),Qby s xs (n+1),
 [wq (n+1)=n+1,Qa7 []/\Qas Tryz.prog J0 159 #[.int .i64 s,.int .i64 n] (.bool false)]++Qlx B s xs n dJ0⟩:=by kernel_rfl
theorem QwL (B:Lo) (s:Int) (xs:List (Qad)) (n:Int) (dJ0:Nat->Value):CE.finK 6 (Qak Tryz.prog (Qa1 Tryz.prog) J0 B 7 6 (Qcw (none) 157 20 (([0,1,6,7]:List Nat).zip (QcF s xs n)) dJ0 QcB) (QbG (Qbb s xs) 6 (([5,2]:List Nat).zip (Qc3 s xs n)) (Qby s xs n)) (6+1+(Qby s xs n).length)
 [(0,hvF)] 0 [] []) [(5,KS.auto),(2,KS.auto)] [] []=some (OO.ret (.tuple #[]),[(5,Obj.loop {state:=LoopState.ready,pending:=none,fn:=139,tmps:=#[.int .i64 s,Qa0 0 (slT xs.length (Qac Qam xs)),.tuple #[],pA 1 0,.slice none 0 0,pA 2 0,.tuple #[],.int .i64 s,Value.func (Fn.func 157) #[] #[Qa0 3 (ptT 0 #[.int .i64 s])],.tuple #[],.tuple #[],.tuple #[],.tuple #[],.tuple #[],.tuple #[],.tuple #[],.tuple #[],.tuple #[]],params:=#[9],assign:=nav (Qal Tryz.prog 139) [1,1,0,1,0,0],body:=nav (Qal Tryz.prog 139) [1,1,0,1,0,1],defers:=4}),(2,Obj.cells #[.slice none 0 0] 60)],[],
 [ltq n (Qcf s)=false]):=by kernel_rfl
def Ql9 (B:Lo) (s:Int) (xs:List (Qad)) (n:Int) (acc:List Qad) (acc_n:Nat) (dJ0:Nat->Value):List Prop:=[ltq n (Qcf s)=true]++([]:List Prop)
def QpB (s:Int) (xs:List (Qad)) (n:Int) (acc:List Qad) (acc_n:Nat) (dJ0:Nat->Value):Qay:=[(0,hvT)]
def QfW (s:Int) (xs:List (Qad)) (n:Int) (acc:List Qad) (acc_n:Nat) (dJ0:Nat->Value):Qap:=[(5,Obj.loop {state:=LoopState.ready,pending:=none,fn:=139,tmps:=#[.int .i64 s,Qa0 0 (slT xs.length (Qac Qam xs)),.tuple #[],pA 1 0,.slice none 0 0,pA 2 0,.tuple #[],.int .i64 s,Value.func (Fn.func 157) #[] #[Qa0 3 (ptT 0 #[.int .i64 s])],.tuple #[],.tuple #[],.tuple #[],.tuple #[],.tuple #[],.tuple #[],.tuple #[],.tuple #[],.tuple #[]],params:=#[9],assign:=nav (Qal Tryz.prog 139) [1,1,0,1,0,0],body:=nav (Qal Tryz.prog 139) [1,1,0,1,0,1],defers:=4}),(2,Obj.cells #[.slice (some {block:=7,off:=0}) acc_n 3] 60),(6,Obj.coro none),(7,Obj.cells (Qac (Qa5 0 Qam) acc) 118),(5,Obj.loop {state:=LoopState.ready,pending:=none,fn:=139,tmps:=#[.int .i64 s,Qa0 0 (slT xs.length (Qac Qam xs)),.tuple #[],pA 1 0,.slice none 0 0,pA 2 0,.tuple #[],.int .i64 s,Value.func (Fn.func 157) #[] #[Qa0 3 (ptT 0 #[.int .i64 s])],.tuple #[],.tuple #[],.tuple #[],.tuple #[],.tuple #[],.tuple #[],.tuple #[],.tuple #[],.tuple #[]],params:=#[9],assign:=nav (Qal Tryz.prog 139) [1,1,0,1,0,0],body:=nav (Qal Tryz.prog 139) [1,1,0,1,0,1],defers:=4}),(4,Obj.deferred (some [])),(3,Obj.coro none),(2,Obj.cells #[.slice none 0 0] 60),(1,Obj.cells #[Qa0 0 (slT xs.length (Qac Qam xs))] 60),(0,Obj.coro none)]
def QhT (s:Int) (xs:List (Qad)) (n:Int) (acc:List Qad) (acc_n:Nat) (dJ0:Nat->Value):CF:=⟨139,ofList 18 [.int .i64 s,Qa0 0 (slT xs.length (Qac Qam xs)),.tuple #[],pA 1 0,.slice none 0 0,pA 2 0,.tuple #[],.int .i64 s,Value.func (Fn.func 157) #[] #[Qa0 3 (ptT 0 #[.int .i64 s])],.int .i64 n,.tuple #[],.tuple #[],.tuple #[],.tuple #[],.tuple #[],.tuple #[],.tuple #[],.tuple #[]],[Item.code (nav (Qal Tryz.prog 139) [1,1,0,1,0,0]),Item.beginRound,Item.code (nav (Qal Tryz.prog 139) [1,1,0,1,0,1])],[],.run,some 5⟩
theorem Qwc (B:Lo) (s:Int) (xs:List (Qad)) (n:Int) (acc:List Qad) (acc_n:Nat) (dJ0:Nat->Value):CE.finK 8 (Qak Tryz.prog (Qa1 Tryz.prog) J0 B 6 8 (QhT s xs n acc acc_n dJ0) (QfW s xs n acc acc_n dJ0) 8
 [(4,Qaj.tidx n.toNat (Qia xs n)),(7,Qaj.old (Hint.app (Qac (Qa5 0 Qam) acc++(Qe3 xs n))))] 0 [] []) [(7,KS.dead),(5,KS.auto),(2,KS.auto)] [(9,KS.rows [(0,0)] [] (Qac (Qa5 0 Qam) (acc++[xs.getD n.toNat default])))] []=some (OO.ret (.bool true),[(7,Obj.pending #[] 0),(5,Obj.loop {state:=LoopState.ready,pending:=none,fn:=139,tmps:=#[.int .i64 s,Qa0 0 (slT xs.length (Qac Qam xs)),.tuple #[],pA 1 0,.slice none 0 0,pA 2 0,.tuple #[],.int .i64 s,Value.func (Fn.func 157) #[] #[Qa0 3 (ptT 0 #[.int .i64 s])],.tuple #[],.tuple #[],.tuple #[],.tuple #[],.tuple #[],.tuple #[],.tuple #[],.tuple #[],.tuple #[]],params:=#[9],assign:=nav (Qal Tryz.prog 139) [1,1,0,1,0,0],body:=nav (Qal Tryz.prog 139) [1,1,0,1,0,1],defers:=4}),(2,Obj.cells #[.slice (some {block:=9,off:=0}) (acc_n+1) 3] 60)],[Obj.cells (Qac (Qa5 0 Qam) (acc++[xs.getD n.toNat default])) 118],
 [QaX 8 [(0,0)] [] (Qac (Qa5 0 Qam) acc++(Qe3 xs n)) (Qac (Qa5 0 Qam) (acc++[xs.getD n.toNat default])),Array.size (Qac (Qa5 0 Qam) acc)=acc_n * (2+1)/\acc_n+1<=maxLen/\(acc_n+1) * 40<=140737488355328/\Qac (Qa5 0 Qam) acc++(Qe3 xs n)=Qac (Qa5 0 Qam) acc++(Qe3 xs n),n=(↑n.toNat:Int)/\Int.toNat n < List.length xs/\Array.extract (Qac Qam xs) (Int.toNat n * TypeInfo.size Tryz.t118) (Int.toNat n * TypeInfo.size Tryz.t118+TypeInfo.size Tryz.t118)=(Qia xs n)]):=by kernel_rfl
theorem QvU (B:Lo) (s:Int) (xs:List (Qad)) (n:Int) (acc:List Qad) (acc_n:Nat) (dJ0:Nat->Value):CE.landA 6 (Qak Tryz.prog (Qa1 Tryz.prog) J0 B 16 6 (Qcw (none) 157 20 (([0,1,6,7]:List Nat).zip (Qc1 s xs n acc acc_n)) dJ0 Qcy) (QbG (Qbb s xs) 6 (([5,2]:List Nat).zip (QcD s xs n acc acc_n)) (Qbv s xs n acc acc_n)) (6+1+(Qbv s xs n acc acc_n).length)
 (QpB s xs n acc acc_n dJ0++[(5,Qaj.pure (.bool true) []),(9,Qaj.call (List.range 8) (OO.ret (.bool true)) ([(7,Obj.pending #[] 0),(5,Obj.loop {state:=LoopState.ready,pending:=none,fn:=139,tmps:=(QdZ s xs),params:=#[9],assign:=nav (Qal Tryz.prog 139) [1,1,0,1,0,0],body:=nav (Qal Tryz.prog 139) [1,1,0,1,0,1],defers:=4}),(2,Obj.cells #[.slice (some {block:=9,off:=0}) (acc_n+1) 3] 60)]++(8,Qbu)::QaK 9 [Obj.cells (Qac (Qa5 0 Qam) (acc++[xs.getD n.toNat default])) 118]) 10 [7,5,2]),(12,hvI (n+1))]) 0 [] []) [0,1,6,7] [(5,KS.auto),(2,KS.auto)] [(9,KS.rows [(0,0)] [] (Qac (Qa5 0 Qam) (acc++[xs.getD n.toNat default])))] []=some ⟨157,20,Qcy,[],.run,none,Qc1 s xs (n+1) (acc++[xs.getD n.toNat default]) (acc_n+1),([5,2]:List Nat).zip (QcD s xs (n+1) (acc++[xs.getD n.toNat default]) (acc_n+1)),Qbv s xs (n+1) (acc++[xs.getD n.toNat default]) (acc_n+1),
 [QaX 6 [(0,0)] [] (Qac (Qa5 0 Qam) (acc++[xs.getD n.toNat default])) (Qac (Qa5 0 Qam) (acc++[xs.getD n.toNat default])),wq (n+1)=n+1,FJ Tryz.prog B (QhT s xs n acc acc_n dJ0) (QfW s xs n acc acc_n dJ0) 8 (OO.ret (.bool true)) (([(7,Obj.pending #[] 0),(5,Obj.loop {state:=LoopState.ready,pending:=none,fn:=139,tmps:=(QdZ s xs),params:=#[9],assign:=nav (Qal Tryz.prog 139) [1,1,0,1,0,0],body:=nav (Qal Tryz.prog 139) [1,1,0,1,0,1],defers:=4}),(2,Obj.cells #[.slice (some {block:=9,off:=0}) (acc_n+1) 3] 60)]++((8,Qbu)::QaK (8+1) [Obj.cells (Qac (Qa5 0 Qam) (acc++[xs.getD n.toNat default])) 118]))++QfW s xs n acc acc_n dJ0) 10 (List.range 8) [7,5,2],Qa7 []/\Qas Tryz.prog J0 159 #[.int .i64 s,.int .i64 n] (.bool true)]++Ql9 B s xs n acc acc_n dJ0⟩:=by kernel_rfl
theorem Qva (B:Lo) (s:Int) (xs:List (Qad)) (n:Int) (acc:List Qad) (acc_n:Nat) (dJ0:Nat->Value):CE.landA 6 (Qak Tryz.prog (Qa1 Tryz.prog) J0 B 16 6 (Qcw (none) 157 20 (([0,1,6,7]:List Nat).zip (Qc1 s xs n acc acc_n)) dJ0 Qcy) (QbG (Qbb s xs) 6 (([5,2]:List Nat).zip (QcD s xs n acc acc_n)) (Qbv s xs n acc acc_n)) (6+1+(Qbv s xs n acc acc_n).length)
 (QpB s xs n acc acc_n dJ0++[(5,Qaj.pure (.bool false) []),(12,hvI (n+1))]) 0 [] []) [0,1,6,7] [(5,KS.auto),(2,KS.auto)] [(7,KS.rows [(0,0)] [] (Qac (Qa5 0 Qam) acc))] []=some ⟨157,20,Qcy,[],.run,none,Qc1 s xs (n+1) (acc) (acc_n),([5,2]:List Nat).zip (QcD s xs (n+1) (acc) (acc_n)),Qbv s xs (n+1) (acc) (acc_n),
 [QaX 6 [(0,0)] [] (Qac (Qa5 0 Qam) acc) (Qac (Qa5 0 Qam) acc),wq (n+1)=n+1,Qa7 []/\Qas Tryz.prog J0 159 #[.int .i64 s,.int .i64 n] (.bool false)]++Ql9 B s xs n acc acc_n dJ0⟩:=by kernel_rfl
theorem Qx5 (B:Lo) (s:Int) (xs:List (Qad)) (n:Int) (acc:List Qad) (acc_n:Nat) (dJ0:Nat->Value):CE.finK 6 (Qak Tryz.prog (Qa1 Tryz.prog) J0 B 7 6 (Qcw (none) 157 20 (([0,1,6,7]:List Nat).zip (Qc1 s xs n acc acc_n)) dJ0 Qcy) (QbG (Qbb s xs) 6 (([5,2]:List Nat).zip (QcD s xs n acc acc_n)) (Qbv s xs n acc acc_n)) (6+1+(Qbv s xs n acc acc_n).length)
 [(0,hvF)] 0 [] []) [(5,KS.auto),(2,KS.auto)] [(7,KS.rows [(0,0)] [] (Qac (Qa5 0 Qam) acc))] []=some (OO.ret (.tuple #[]),[(5,Obj.loop {state:=LoopState.ready,pending:=none,fn:=139,tmps:=#[.int .i64 s,Qa0 0 (slT xs.length (Qac Qam xs)),.tuple #[],pA 1 0,.slice none 0 0,pA 2 0,.tuple #[],.int .i64 s,Value.func (Fn.func 157) #[] #[Qa0 3 (ptT 0 #[.int .i64 s])],.tuple #[],.tuple #[],.tuple #[],.tuple #[],.tuple #[],.tuple #[],.tuple #[],.tuple #[],.tuple #[]],params:=#[9],assign:=nav (Qal Tryz.prog 139) [1,1,0,1,0,0],body:=nav (Qal Tryz.prog 139) [1,1,0,1,0,1],defers:=4}),(2,Obj.cells #[.slice (some {block:=7,off:=0}) acc_n 3] 60)],[Obj.cells (Qac (Qa5 0 Qam) acc) 118],
 [QaX 6 [(0,0)] [] (Qac (Qa5 0 Qam) acc) (Qac (Qa5 0 Qam) acc),ltq n (Qcf s)=false]):=by kernel_rfl
set_option maxHeartbeats 4000000 in
theorem Qjp (s:Int) (xs:List (Qad)) (h0:0<=s) (h1:s < 64) (hx:Qcf s<=xs.length) {B:Lo} (hJ:∀w,B.has w->J0 w):∀m:Nat,(∀(n:Int),∀(r:Bool),(!(([]:List Qad)++Qax s xs n).isEmpty)=r->(Qcf s - n).toNat=m->∀(hn:0<=n),(∃dJ0:Nat->Value,(∀t,QaS (dJ0 t))/\GoE Tryz.prog B (Qci s xs) (Qbb s xs) 6 (Qcw (none) 157 20 (([0,1,6,7]:List Nat).zip (QcF s xs n)) dJ0 QcB) (QbG (Qbb s xs) 6 (([5,2]:List Nat).zip (Qc3 s xs n)) (Qby s xs n)) (6+1+(Qby s xs n).length) ([5,2]:List Nat))->FinK Tryz.prog B (Qci s xs) (Qbb s xs) 6 (.ret (.tuple #[])) (([5,2]:List Nat).zip ([Obj.loop {state:=LoopState.ready,pending:=none,fn:=139,tmps:=#[.int .i64 s,Qa0 0 (slT xs.length (Qac Qam xs)),.tuple #[],pA 1 0,.slice none 0 0,pA 2 0,.tuple #[],.int .i64 s,Value.func (Fn.func 157) #[] #[Qa0 3 (ptT 0 #[.int .i64 s])],.tuple #[],.tuple #[],.tuple #[],.tuple #[],.tuple #[],.tuple #[],.tuple #[],.tuple #[],.tuple #[]],params:=#[9],assign:=nav (Qal Tryz.prog 139) [1,1,0,1,0,0],body:=nav (Qal Tryz.prog 139) [1,1,0,1,0,1],defers:=4},.cells #[bif r then .slice (some ⟨7,0,none⟩) (([]:List Qad)++Qax s xs n).length 3 else .slice none 0 0] 60 (0,0)])) (bif r then [Go.Obj.cells (Qac (Qa5 0 Qam) (([]:List Qad)++Qax s xs n)) 118 (0,0)] else []) ([5,2]:List Nat))/\(∀(n:Int) (acc:List Qad) (acc_n:Nat),∀(r:Bool),(!(acc++Qax s xs n).isEmpty)=r->(Qcf s - n).toNat=m->∀(hn:0<=n) (hacc:acc_n=acc.length) (haccb:acc≠[]/\(acc_n:Int)<=n),(∃dJ0:Nat->Value,(∀t,QaS (dJ0 t))/\GoE Tryz.prog B (Qci s xs) (Qbb s xs) 6 (Qcw (none) 157 20 (([0,1,6,7]:List Nat).zip (Qc1 s xs n acc acc_n)) dJ0 Qcy) (QbG (Qbb s xs) 6 (([5,2]:List Nat).zip (QcD s xs n acc acc_n)) (Qbv s xs n acc acc_n)) (6+1+(Qbv s xs n acc acc_n).length) ([5,2]:List Nat))->FinK Tryz.prog B (Qci s xs) (Qbb s xs) 6 (.ret (.tuple #[])) (([5,2]:List Nat).zip ([Obj.loop {state:=LoopState.ready,pending:=none,fn:=139,tmps:=#[.int .i64 s,Qa0 0 (slT xs.length (Qac Qam xs)),.tuple #[],pA 1 0,.slice none 0 0,pA 2 0,.tuple #[],.int .i64 s,Value.func (Fn.func 157) #[] #[Qa0 3 (ptT 0 #[.int .i64 s])],.tuple #[],.tuple #[],.tuple #[],.tuple #[],.tuple #[],.tuple #[],.tuple #[],.tuple #[],.tuple #[]],params:=#[9],assign:=nav (Qal Tryz.prog 139) [1,1,0,1,0,0],body:=nav (Qal Tryz.prog 139) [1,1,0,1,0,1],defers:=4},.cells #[bif r then .slice (some ⟨7,0,none⟩) (acc++Qax s xs n).length 3 else .slice none 0 0] 60 (0,0)])) (bif r then [Go.Obj.cells (Qac (Qa5 0 Qam) (acc++Qax s xs n)) 118 (0,0)] else []) ([5,2]:List Nat)):=by
 intro m0
 induction m0 using Nat.strongRecOn with
 | _ m0 ih0=>
   refine ⟨?_, ?_⟩
   ·intro n r1 hr1 hm0 hn ⟨dJ0,hdJ0,hg0⟩
    have hl:=QeX h0 h1
    by_cases q0:(n:Int) < (Qcf s)
    ·
     have hp1:Qa7 (Qlx B s xs n dJ0):=by
      exact ⟨(Qbl q0),trivial⟩
     cases q1:QjG s n with
     | true=>
       have rj2:FJ Tryz.prog B (Qij s xs n dJ0) (Qgr s xs n dJ0) 7 (OO.ret (.bool true)) (([(5,Obj.loop {state:=LoopState.ready,pending:=none,fn:=139,tmps:=#[.int .i64 s,Qa0 0 (slT xs.length (Qac Qam xs)),.tuple #[],pA 1 0,.slice none 0 0,pA 2 0,.tuple #[],.int .i64 s,Value.func (Fn.func 157) #[] #[Qa0 3 (ptT 0 #[.int .i64 s])],.tuple #[],.tuple #[],.tuple #[],.tuple #[],.tuple #[],.tuple #[],.tuple #[],.tuple #[],.tuple #[]],params:=#[9],assign:=nav (Qal Tryz.prog 139) [1,1,0,1,0,0],body:=nav (Qal Tryz.prog 139) [1,1,0,1,0,1],defers:=4}),(2,Obj.cells #[.slice (some {block:=8,off:=0}) 1 3] 60)]++((7,Qbu)::QaK (7+1) [Obj.cells #[Qa0 0 (slT (List.length (Qad.goods (xs.getD n.toNat default))) (Qac Qa6 (Qad.goods (xs.getD n.toNat default)))),.int .i64 (Qad.weight (xs.getD n.toNat default)),.int .i64 (Qad.cost (xs.getD n.toNat default))] 118]))++Qgr s xs n dJ0) 9 (List.range 7) [5,2]:=by
        have s2:=QeF (s:=s) (xs:=xs) q0 q1
        exact FinK.fjB (GoE.finK okF hJ Qab (Qan (by kernel_rfl)) (Qag (by kernel_rfl)) ((GoE.refl (P:=Tryz.prog) (B:=B) (c0:=Qij s xs n dJ0) (Qan (by kernel_rfl))).widen (Wf:=((([(5,KS.auto),(2,KS.auto)]):List (Nat×KS)).map (·.1))) (by simp) (Qag (by kernel_rfl))) (Qwf B s xs n dJ0)
         ⟨⟨by omega,by omega,(Qaf (z:=3) (fun _=> rfl) (by omega))⟩,trivial⟩) (ex:=[]) (by kernel_rfl) (Qb3 _)
       have s2:=QeF (s:=s) (xs:=xs) q0 q1
       exact ((ih0 _ (by omega)).2 (n+1) ([xs.getD n.toNat default]) (1) r1 (by (rw [<-hr1,s2];simp;done)) rfl (by omega) (by (simp_all;done)) (by (refine ⟨by simp, ?_⟩;omega))
        (GoE.landA okF hJ Qab (Qan (by kernel_rfl)) (Qag (by kernel_rfl)) hg0 (Qwp B s xs n dJ0)
        ⟨(by exact (QgT (by exact ⟨(.reg (List.Mem.head _) rfl),⟨(.simple rfl),⟨(.simple rfl),trivial⟩⟩⟩))),⟨(QaJ (by omega) (by omega)),⟨rj2,⟨⟨trivial,(by have t_:=Q0I (s) (n) (by omega) (by omega);rw [q1] at t_;exact t_)⟩,hp1⟩⟩⟩⟩ (by kernel_rfl) (by kernel_rfl) (fun l hl=> by cases hl <;> decide))).cast (by rfl) (by (rw [s2];rfl)) (by (rw [s2];rfl))
     | false=>
       have s2:=Qii (s:=s) (xs:=xs) q0 q1
       exact ((ih0 _ (by omega)).1 (n+1) r1 (by (rw [<-hr1,s2];done)) rfl (by omega)
        (GoE.landA okF hJ Qab (Qan (by kernel_rfl)) (Qag (by kernel_rfl)) hg0 (QxM B s xs n dJ0)
        ⟨(QaJ (by omega) (by omega)),⟨⟨trivial,(by have t_:=Q0I (s) (n) (by omega) (by omega);rw [q1] at t_;exact t_)⟩,hp1⟩⟩ (by kernel_rfl) (by kernel_rfl) (fun l hl=> by cases hl <;> decide))).cast (by rfl) (by (rw [s2];done)) (by (rw [s2];done))
    ·
     have s2:=Qis (s:=s) (xs:=xs) (n:=n) (by omega)
     exact (GoE.finK okF hJ Qab (Qan (by kernel_rfl)) (Qag (by kernel_rfl)) hg0 (QwL B s xs n dJ0)
      ⟨(Qbq (Int.not_lt.1 q0)),trivial⟩).cast (by rfl) (by (subst hr1;rw [s2];rfl)) (by (subst hr1;rw [s2];rfl))
   ·intro n acc acc_n r1 hr1 hm0 hn hacc haccb ⟨dJ0,hdJ0,hg0⟩
    have hl:=QeX h0 h1
    by_cases q0:(n:Int) < (Qcf s)
    ·
     have hp2:Qa7 (Ql9 B s xs n acc acc_n dJ0):=by
      exact ⟨(Qbl q0),trivial⟩
     cases q1:QjG s n with
     | true=>
       have rj2:FJ Tryz.prog B (QhT s xs n acc acc_n dJ0) (QfW s xs n acc acc_n dJ0) 8 (OO.ret (.bool true)) (([(7,Obj.pending #[] 0),(5,Obj.loop {state:=LoopState.ready,pending:=none,fn:=139,tmps:=#[.int .i64 s,Qa0 0 (slT xs.length (Qac Qam xs)),.tuple #[],pA 1 0,.slice none 0 0,pA 2 0,.tuple #[],.int .i64 s,Value.func (Fn.func 157) #[] #[Qa0 3 (ptT 0 #[.int .i64 s])],.tuple #[],.tuple #[],.tuple #[],.tuple #[],.tuple #[],.tuple #[],.tuple #[],.tuple #[],.tuple #[]],params:=#[9],assign:=nav (Qal Tryz.prog 139) [1,1,0,1,0,0],body:=nav (Qal Tryz.prog 139) [1,1,0,1,0,1],defers:=4}),(2,Obj.cells #[.slice (some {block:=9,off:=0}) (acc_n+1) 3] 60)]++((8,Qbu)::QaK (8+1) [Obj.cells (Qac (Qa5 0 Qam) (acc++[xs.getD n.toNat default])) 118]))++QfW s xs n acc acc_n dJ0) 10 (List.range 8) [7,5,2]:=by
        have s2:=QeF (s:=s) (xs:=xs) q0 q1
        exact FinK.fjB (GoE.finK okF hJ Qab (Qan (by kernel_rfl)) (Qag (by kernel_rfl)) ((GoE.refl (P:=Tryz.prog) (B:=B) (c0:=QhT s xs n acc acc_n dJ0) (Qan (by kernel_rfl))).widen (Wf:=((([(7,KS.dead),(5,KS.auto),(2,KS.auto)]):List (Nat×KS)).map (·.1))) (by simp) (Qag (by kernel_rfl))) (Qwc B s xs n acc acc_n dJ0)
         ⟨(by exact (Qf5 (QaN (QaT (fun _=> rfl)) (List.Mem.head _)) (by exact ⟨(.reg (List.Mem.head _) rfl),⟨(.simple rfl),⟨(.simple rfl),trivial⟩⟩⟩))),⟨⟨(by (rw [Qbn (z:=3) (fun _=> rfl)];first | omega | (simp;omega) | (simp_all;done))),(by unfold maxLen;omega),by omega,rfl⟩,⟨⟨by omega,by omega,(Qaf (z:=3) (fun _=> rfl) (by omega))⟩,trivial⟩⟩⟩) (ex:=[7]) (by kernel_rfl) ⟨trivial,⟨trivial,⟨trivial,⟨(Qfn (t:=118) (fl:=(0,0)) (QaT (fun _=> rfl)) (by decide)),⟨trivial,⟨trivial,⟨trivial,⟨trivial,⟨trivial,⟨trivial,trivial⟩⟩⟩⟩⟩⟩⟩⟩⟩⟩
       have s2:=QeF (s:=s) (xs:=xs) q0 q1
       exact ((ih0 _ (by omega)).2 (n+1) (acc++[xs.getD n.toNat default]) (acc_n+1) r1 (by (rw [<-hr1,s2];simp;done)) rfl (by omega) (by (simp_all;done)) (by (simp_all;done))
        (GoE.landA okF hJ Qab (Qan (by kernel_rfl)) (Qag (by kernel_rfl)) hg0 (QvU B s xs n acc acc_n dJ0)
        ⟨(by exact (QaN (QaT (fun _=> rfl)) (List.Mem.head _))),⟨(QaJ (by omega) (by omega)),⟨rj2,⟨⟨trivial,(by have t_:=Q0I (s) (n) (by omega) (by omega);rw [q1] at t_;exact t_)⟩,hp2⟩⟩⟩⟩ (by kernel_rfl) (by kernel_rfl) (fun l hl=> by cases hl <;> decide))).cast (by rfl) (by (rw [s2,<-List.append_assoc];done)) (by (rw [s2,<-List.append_assoc];done))
     | false=>
       have s2:=Qii (s:=s) (xs:=xs) q0 q1
       exact ((ih0 _ (by omega)).2 (n+1) (acc) (acc_n) r1 (by (rw [<-hr1,s2];done)) rfl (by omega) (by with_reducible assumption) (by exact ⟨haccb.1,by omega⟩)
        (GoE.landA okF hJ Qab (Qan (by kernel_rfl)) (Qag (by kernel_rfl)) hg0 (Qva B s xs n acc acc_n dJ0)
        ⟨(by exact (QaN (QaT (fun _=> rfl)) (List.Mem.head _))),⟨(QaJ (by omega) (by omega)),⟨⟨trivial,(by have t_:=Q0I (s) (n) (by omega) (by omega);rw [q1] at t_;exact t_)⟩,hp2⟩⟩⟩ (by kernel_rfl) (by kernel_rfl) (fun l hl=> by cases hl <;> decide))).cast (by rfl) (by (rw [s2];done)) (by (rw [s2];done))
    ·
     have s2:=Qis (s:=s) (xs:=xs) (n:=n) (by omega)
     exact (GoE.finK okF hJ Qab (Qan (by kernel_rfl)) (Qag (by kernel_rfl)) hg0 (Qx5 B s xs n acc acc_n dJ0)
      ⟨(by exact (QaN (QaT (fun _=> rfl)) (List.Mem.head _))),⟨(Qbq (Int.not_lt.1 q0)),trivial⟩⟩).cast (by rfl) (by (subst hr1;simp only [QzS haccb.1,s2,List.append_nil,hacc,Bool.not_false,cond_true];rfl)) (by (subst hr1;simp only [QzS haccb.1,s2,List.append_nil,hacc,Bool.not_false,cond_true];done))

theorem QuR (B:Lo) (s:Int) (xs:List (Qad)):CE.landA 6 (Qak Tryz.prog (Qa1 Tryz.prog) J0 B 4 6 (Qci s xs) (Qbb s xs) 6
 [(1,Qaj.old (Hint.val (Value.int IntKind.u64 s))),(2,Qaj.pure (.int .i64 (Qcf s)) [])] 0 [] []) [0,1,6,7] [(5,KS.auto),(2,KS.auto)] [] []=some ⟨157,20,QcB,[],.run,none,QcF s xs (0),([5,2]:List Nat).zip (Qc3 s xs (0)),Qby s xs (0),
 [Qa7 []/\Qas Tryz.prog J0 158 #[Value.int IntKind.u64 s] (.int .i64 (Qcf s)),IntKind.wrap IntKind.u64 s=s]⟩:=by kernel_rfl
theorem Qti (B:Lo) (s:Int) (xs:List (Qad)):Qbd (Qak Tryz.prog (Qa1 Tryz.prog) J0 B 16 1 (Qai Tryz.prog 139 18 (([.int .i64 s,slT xs.length (Qac Qam xs)]).map (Qaq 0 4))) H00 1
 (Qqp s xs++[(5,Qaj.call (List.range 6) (OO.ret (.tuple #[])) ([(5,Obj.loop {state:=LoopState.ready,pending:=none,fn:=139,tmps:=(QdZ s xs),params:=#[9],assign:=nav (Qal Tryz.prog 139) [1,1,0,1,0,0],body:=nav (Qal Tryz.prog 139) [1,1,0,1,0,1],defers:=4}),(2,Obj.cells #[.slice (some {block:=7,off:=0}) (List.length ([]++Qax s xs 0)) 3] 60)]++(6,Qbu)::QaK 7 [Obj.cells (Qac (Qa5 0 Qam) ([]++Qax s xs 0)) 118]) 8 [5,2])]) 0 [] []) [{k:=7,rs:=[0],cs:=Qac Qam ([]++Qax s xs 0)}]=some (slT (List.length ([]++Qax s xs 0)) (Fz.cs {k:=7,rs:=[0],cs:=Qac Qam ([]++Qax s xs 0)}),
 [Qb7 (Fz.rs {k:=7,rs:=[0],cs:=Qac Qam ([]++Qax s xs 0)}) (Qac (Qa5 0 Qam) ([]++Qax s xs 0)) (Fz.cs {k:=7,rs:=[0],cs:=Qac Qam ([]++Qax s xs 0)}),FJ Tryz.prog B (Qci s xs) (Qbb s xs) 6 (OO.ret (.tuple #[])) (([(5,Obj.loop {state:=LoopState.ready,pending:=none,fn:=139,tmps:=(QdZ s xs),params:=#[9],assign:=nav (Qal Tryz.prog 139) [1,1,0,1,0,0],body:=nav (Qal Tryz.prog 139) [1,1,0,1,0,1],defers:=4}),(2,Obj.cells #[.slice (some {block:=7,off:=0}) (List.length ([]++Qax s xs 0)) 3] 60)]++((6,Qbu)::QaK (6+1) [Obj.cells (Qac (Qa5 0 Qam) ([]++Qax s xs 0)) 118]))++Qbb s xs) 8 (List.range 6) [5,2]]++Qkr B s xs):=by kernel_rfl
theorem Quq (B:Lo) (s:Int) (xs:List (Qad)):CE.landA 6 (Qak Tryz.prog (Qa1 Tryz.prog) J0 B 4 6 (Qci s xs) (Qbb s xs) 6
 [(1,Qaj.old (Hint.val (Value.int IntKind.u64 s))),(2,Qaj.pure (.int .i64 (Qcf s)) [])] 0 [] []) [0,1,6,7] [(5,KS.auto),(2,KS.auto)] [] []=some ⟨157,20,QcB,[],.run,none,QcF s xs (0),([5,2]:List Nat).zip (Qc3 s xs (0)),Qby s xs (0),
 [Qa7 []/\Qas Tryz.prog J0 158 #[Value.int IntKind.u64 s] (.int .i64 (Qcf s)),IntKind.wrap IntKind.u64 s=s]⟩:=by kernel_rfl
theorem QsO (B:Lo) (s:Int) (xs:List (Qad)):Qbd (Qak Tryz.prog (Qa1 Tryz.prog) J0 B 16 1 (Qai Tryz.prog 139 18 (([.int .i64 s,slT xs.length (Qac Qam xs)]).map (Qaq 0 4))) H00 1
 (Qqp s xs++[(5,Qaj.call (List.range 6) (OO.ret (.tuple #[])) ([(5,Obj.loop {state:=LoopState.ready,pending:=none,fn:=139,tmps:=(QdZ s xs),params:=#[9],assign:=nav (Qal Tryz.prog 139) [1,1,0,1,0,0],body:=nav (Qal Tryz.prog 139) [1,1,0,1,0,1],defers:=4}),(2,Obj.cells #[.slice none 0 0] 60)]++(6,Qbu)::QaK 7 []) 7 [5,2])]) 0 [] []) []=some (slT 0 #[],
 [FJ Tryz.prog B (Qci s xs) (Qbb s xs) 6 (OO.ret (.tuple #[])) (([(5,Obj.loop {state:=LoopState.ready,pending:=none,fn:=139,tmps:=(QdZ s xs),params:=#[9],assign:=nav (Qal Tryz.prog 139) [1,1,0,1,0,0],body:=nav (Qal Tryz.prog 139) [1,1,0,1,0,1],defers:=4}),(2,Obj.cells #[.slice none 0 0] 60)]++((6,Qbu)::QaK (6+1) []))++Qbb s xs) 7 (List.range 6) [5,2]]++Qkr B s xs):=by kernel_rfl
set_option maxHeartbeats 4000000 in
theorem Q0m (s:Int) (xs:List (Qad)) (h0:0<=s) (h1:s < 64) (hx:Qcf s<=xs.length) {B:Lo} (hJ:∀w,B.has w->J0 w):EndsT Tryz.prog B (Qai Tryz.prog 139 18 (([.int .i64 s,slT xs.length (Qac Qam xs)]).map (Qaq 0 4))) (slT (Qax s xs 0).length (Qac Qam (Qax s xs 0))):=by
 have hl:=QeX h0 h1
 have rj0:FJ Tryz.prog B (QhJ s xs) (QfT s xs) 3 (OO.ret (Value.func (Fn.func 157) #[] #[Qa0 3 (ptT 0 #[.int .i64 s])])) (([]++((3,Qbu)::QaK (3+1) []))++QfT s xs) 4 (List.range 3) []:=by
  exact FinK.fjB (GoE.finK okF hJ Qab (Qan (by kernel_rfl)) (Qag (by kernel_rfl)) ((GoE.refl (P:=Tryz.prog) (B:=B) (c0:=QhJ s xs) (Qan (by kernel_rfl))).widen (Wf:=((([]):List (Nat×KS)).map (·.1))) (by simp) (Qag (by kernel_rfl))) (QxX B s xs)
   ⟨(Qf9 (by kernel_rfl)),trivial⟩) (ex:=[]) (by kernel_rfl) (Qb3 _)
 have hp0:Qa7 (Qkr B s xs):=by
  exact ⟨rj0,trivial⟩
 cases q0: !List.isEmpty ([]++Qax s xs 0) with
 | true=>
   have rj1:FJ Tryz.prog B (Qci s xs) (Qbb s xs) 6 (OO.ret (.tuple #[])) (([(5,Obj.loop {state:=LoopState.ready,pending:=none,fn:=139,tmps:=#[.int .i64 s,Qa0 0 (slT xs.length (Qac Qam xs)),.tuple #[],pA 1 0,.slice none 0 0,pA 2 0,.tuple #[],.int .i64 s,Value.func (Fn.func 157) #[] #[Qa0 3 (ptT 0 #[.int .i64 s])],.tuple #[],.tuple #[],.tuple #[],.tuple #[],.tuple #[],.tuple #[],.tuple #[],.tuple #[],.tuple #[]],params:=#[9],assign:=nav (Qal Tryz.prog 139) [1,1,0,1,0,0],body:=nav (Qal Tryz.prog 139) [1,1,0,1,0,1],defers:=4}),(2,Obj.cells #[.slice (some {block:=7,off:=0}) (List.length ([]++Qax s xs 0)) 3] 60)]++((6,Qbu)::QaK (6+1) [Obj.cells (Qac (Qa5 0 Qam) ([]++Qax s xs 0)) 118]))++Qbb s xs) 8 (List.range 6) [5,2]:=by
    exact FinK.fjB ((Qjp s xs h0 h1 hx hJ _).1 (0) true q0 rfl (by omega)
     (GoE.landA okF hJ Qab (Qan (by kernel_rfl)) (Qag (by kernel_rfl)) ((GoE.refl (P:=Tryz.prog) (B:=B) (c0:=Qci s xs) (Qan (by kernel_rfl))).widen (Wf:=((([(5,KS.auto),(2,KS.auto)]):List (Nat×KS)).map (·.1))) (by simp) (Qag (by kernel_rfl))) (QuR B s xs)
     ⟨⟨trivial,Q36 (s) (by with_reducible assumption) (by with_reducible assumption)⟩,⟨(IntWalk.u64_in _ ⟨by omega,by omega⟩),trivial⟩⟩ (by kernel_rfl) (by kernel_rfl) (fun l hl=> by cases hl <;> decide))) (ex:=[]) (by kernel_rfl) (Qb3 _)
   exact (GoE.endsT okF hJ Qab GoE.start (Qti B s xs)
    ⟨(Qdm (QaT (fun _=> rfl)) (List.Mem.head _)),⟨rj1,hp0⟩⟩).cast (by rfl)
 | false=>
   have rj1:FJ Tryz.prog B (Qci s xs) (Qbb s xs) 6 (OO.ret (.tuple #[])) (([(5,Obj.loop {state:=LoopState.ready,pending:=none,fn:=139,tmps:=#[.int .i64 s,Qa0 0 (slT xs.length (Qac Qam xs)),.tuple #[],pA 1 0,.slice none 0 0,pA 2 0,.tuple #[],.int .i64 s,Value.func (Fn.func 157) #[] #[Qa0 3 (ptT 0 #[.int .i64 s])],.tuple #[],.tuple #[],.tuple #[],.tuple #[],.tuple #[],.tuple #[],.tuple #[],.tuple #[],.tuple #[]],params:=#[9],assign:=nav (Qal Tryz.prog 139) [1,1,0,1,0,0],body:=nav (Qal Tryz.prog 139) [1,1,0,1,0,1],defers:=4}),(2,Obj.cells #[.slice none 0 0] 60)]++((6,Qbu)::QaK (6+1) []))++Qbb s xs) 7 (List.range 6) [5,2]:=by
    exact FinK.fjB ((Qjp s xs h0 h1 hx hJ _).1 (0) false q0 rfl (by omega)
     (GoE.landA okF hJ Qab (Qan (by kernel_rfl)) (Qag (by kernel_rfl)) ((GoE.refl (P:=Tryz.prog) (B:=B) (c0:=Qci s xs) (Qan (by kernel_rfl))).widen (Wf:=((([(5,KS.auto),(2,KS.auto)]):List (Nat×KS)).map (·.1))) (by simp) (Qag (by kernel_rfl))) (Quq B s xs)
     ⟨⟨trivial,Q36 (s) (by with_reducible assumption) (by with_reducible assumption)⟩,⟨(IntWalk.u64_in _ ⟨by omega,by omega⟩),trivial⟩⟩ (by kernel_rfl) (by kernel_rfl) (fun l hl=> by cases hl <;> decide))) (ex:=[]) (by kernel_rfl) (Qb3 _)
   exact (GoE.endsT okF hJ Qab GoE.start (QsO B s xs)
    ⟨rj1,hp0⟩).cast (by (rw [Q3u q0];rfl))
theorem Q3j (s:Int) (xs:List (Qad)) (h0:0<=s) (h1:s < 64) (hx:Qcf s<=xs.length):Qas Tryz.prog J0 139 #[.int .i64 s,slT xs.length (Qac Qam xs)] (slT (Qax s xs 0).length (Qac Qam (Qax s xs 0))):=
 QaE (ts:=[.int .i64 s,slT xs.length (Qac Qam xs)]) Qb8 (c0:=Qai Tryz.prog 139 18 (([.int .i64 s,slT xs.length (Qac Qam xs)]).map (Qaq 0 4))) (by kernel_rfl) (by kernel_rfl) fun B hJ=> Q0m s xs h0 h1 hx hJ
def Qgo (s:Int) (xs:List (Row)):Qap:=[(2,Obj.cells #[.slice none 0 0] 63),(1,Obj.cells #[Qa0 0 (slT xs.length (Qac Qaz xs))] 63),(0,Obj.coro none)]
def QhN (s:Int) (xs:List (Row)):CF:=⟨147,ofList 4 [.int .i64 s],[Item.code (Qal Tryz.prog 147)],[],.run,none⟩
def QdQ (s:Int) (xs:List (Row)):Array Value:=#[.int .i64 s,Qa0 0 (slT xs.length (Qac Qaz xs)),.tuple #[],pA 1 0,.slice none 0 0,pA 2 0,.tuple #[],.int .i64 s,Value.func (Fn.func 157) #[] #[Qa0 3 (ptT 0 #[.int .i64 s])],.tuple #[],.tuple #[],.tuple #[],.tuple #[],.tuple #[],.tuple #[],.tuple #[],.tuple #[],.tuple #[]]
def QeB (xs:List (Row)) (n:Int):Array Value:=#[Qa0 0 (slT (List.length (xs.getD n.toNat default)) (Qac Qar (xs.getD n.toNat default)))]
def Qix (xs:List (Row)) (n:Int):Array Value:=#[slT (List.length (xs.getD n.toNat default)) (Qac Qar (xs.getD n.toNat default))]
theorem Qvj (B:Lo) (s:Int) (xs:List (Row)):CE.finK 3 (Qak Tryz.prog (Qa1 Tryz.prog) J0 B 6 3 (QhN s xs) (Qgo s xs) 3
 [] 0 [] []) [] [] [{k:=3,rs:=[],cs:=#[.int .i64 s]}]=some (OO.ret (Value.func (Fn.func 157) #[] #[Qa0 3 (ptT 0 #[.int .i64 s])]),[],[],
 [Qb7 (Fz.rs {k:=3,rs:=[],cs:=#[.int .i64 s]}) #[.int .i64 s] (Fz.cs {k:=3,rs:=[],cs:=#[.int .i64 s]})]):=by kernel_rfl
def QkJ (B:Lo) (s:Int) (xs:List (Row)):List Prop:=[FJ Tryz.prog B (QhN s xs) (Qgo s xs) 3 (OO.ret (Value.func (Fn.func 157) #[] #[Qa0 3 (ptT 0 #[.int .i64 s])])) (([]++((3,Qbu)::QaK (3+1) []))++Qgo s xs) 4 (List.range 3) []]++([]:List Prop)
def QoO (s:Int) (xs:List (Row)):Qay:=[(4,Qaj.call (List.range 3) (OO.ret (Value.func (Fn.func 157) #[] #[Qa0 3 (ptT 0 #[.int .i64 s])])) ([]++(3,Qbu)::QaK 4 []) 4 [])]
def Qbc (s:Int) (xs:List (Row)):Qap:=[(5,Obj.loop {state:=LoopState.ready,pending:=none,fn:=121,tmps:=#[.int .i64 s,Qa0 0 (slT xs.length (Qac Qaz xs)),.tuple #[],pA 1 0,.slice none 0 0,pA 2 0,.tuple #[],.int .i64 s,Value.func (Fn.func 157) #[] #[Qa0 3 (ptT 0 #[.int .i64 s])],.tuple #[],.tuple #[],.tuple #[],.tuple #[],.tuple #[],.tuple #[],.tuple #[],.tuple #[],.tuple #[]],params:=#[9],assign:=nav (Qal Tryz.prog 121) [1,1,0,1,0,0],body:=nav (Qal Tryz.prog 121) [1,1,0,1,0,1],defers:=4}),(4,Obj.deferred (some [])),(3,Obj.coro none),(2,Obj.cells #[.slice none 0 0] 63),(1,Obj.cells #[Qa0 0 (slT xs.length (Qac Qaz xs))] 63),(0,Obj.coro none)]
def Qch (s:Int) (xs:List (Row)):CF:=⟨157,ofList 20 [Value.func (Fn.yield 5) #[] #[],Qa0 3 (ptT 0 #[.int .i64 s])],[Item.code (Qal Tryz.prog 157)],[],.run,none⟩
def Qc5 (s:Int) (xs:List (Row)) (n:Int):List Value:=[Value.func (Fn.yield 5) #[] #[],Qa0 3 (ptT 0 #[.int .i64 s]),.int .i64 (Qcf s),.int .i64 n]
def Qc6 (s:Int) (xs:List (Row)) (n:Int):List Obj:=[Obj.loop {state:=LoopState.ready,pending:=none,fn:=121,tmps:=#[.int .i64 s,Qa0 0 (slT xs.length (Qac Qaz xs)),.tuple #[],pA 1 0,.slice none 0 0,pA 2 0,.tuple #[],.int .i64 s,Value.func (Fn.func 157) #[] #[Qa0 3 (ptT 0 #[.int .i64 s])],.tuple #[],.tuple #[],.tuple #[],.tuple #[],.tuple #[],.tuple #[],.tuple #[],.tuple #[],.tuple #[]],params:=#[9],assign:=nav (Qal Tryz.prog 121) [1,1,0,1,0,0],body:=nav (Qal Tryz.prog 121) [1,1,0,1,0,1],defers:=4},.cells #[.slice none 0 0] 63 (0,0)]
def Qbx (s:Int) (xs:List (Row)) (n:Int):List Obj:=[]
def Qc9:List Item:=([.code [1,0,0],.inLoop [1,0,0],.inBlock 0]).map (it (Qal Tryz.prog 157))
def Qc2 (s:Int) (xs:List (Row)) (n:Int) (acc:List Row) (acc_n:Nat):List Value:=[Value.func (Fn.yield 5) #[] #[],Qa0 3 (ptT 0 #[.int .i64 s]),.int .i64 (Qcf s),.int .i64 n]
def Qcx (s:Int) (xs:List (Row)) (n:Int) (acc:List Row) (acc_n:Nat):List Obj:=[Obj.loop {state:=LoopState.ready,pending:=none,fn:=121,tmps:=#[.int .i64 s,Qa0 0 (slT xs.length (Qac Qaz xs)),.tuple #[],pA 1 0,.slice none 0 0,pA 2 0,.tuple #[],.int .i64 s,Value.func (Fn.func 157) #[] #[Qa0 3 (ptT 0 #[.int .i64 s])],.tuple #[],.tuple #[],.tuple #[],.tuple #[],.tuple #[],.tuple #[],.tuple #[],.tuple #[],.tuple #[]],params:=#[9],assign:=nav (Qal Tryz.prog 121) [1,1,0,1,0,0],body:=nav (Qal Tryz.prog 121) [1,1,0,1,0,1],defers:=4},.cells #[.slice (some ⟨7,0,none⟩) acc_n 1] 63 (0,0)]
def Qbw (s:Int) (xs:List (Row)) (n:Int) (acc:List Row) (acc_n:Nat):List Obj:=[Obj.cells (Qac (Qa5 0 Qaz) acc) 22 (0,0)]
def Qc7:List Item:=([.code [1,0,0],.inLoop [1,0,0],.inBlock 0]).map (it (Qal Tryz.prog 157))
def Qk7 (B:Lo) (s:Int) (xs:List (Row)) (n:Int) (dJ0:Nat->Value):List Prop:=[ltq n (Qcf s)=true]++([]:List Prop)
def QpJ (s:Int) (xs:List (Row)) (n:Int) (dJ0:Nat->Value):Qay:=[(0,hvT)]
def Qgd (s:Int) (xs:List (Row)) (n:Int) (dJ0:Nat->Value):Qap:=[(5,Obj.loop {state:=LoopState.ready,pending:=none,fn:=121,tmps:=#[.int .i64 s,Qa0 0 (slT xs.length (Qac Qaz xs)),.tuple #[],pA 1 0,.slice none 0 0,pA 2 0,.tuple #[],.int .i64 s,Value.func (Fn.func 157) #[] #[Qa0 3 (ptT 0 #[.int .i64 s])],.tuple #[],.tuple #[],.tuple #[],.tuple #[],.tuple #[],.tuple #[],.tuple #[],.tuple #[],.tuple #[]],params:=#[9],assign:=nav (Qal Tryz.prog 121) [1,1,0,1,0,0],body:=nav (Qal Tryz.prog 121) [1,1,0,1,0,1],defers:=4}),(2,Obj.cells #[.slice none 0 0] 63),(6,Obj.coro none),(5,Obj.loop {state:=LoopState.ready,pending:=none,fn:=121,tmps:=#[.int .i64 s,Qa0 0 (slT xs.length (Qac Qaz xs)),.tuple #[],pA 1 0,.slice none 0 0,pA 2 0,.tuple #[],.int .i64 s,Value.func (Fn.func 157) #[] #[Qa0 3 (ptT 0 #[.int .i64 s])],.tuple #[],.tuple #[],.tuple #[],.tuple #[],.tuple #[],.tuple #[],.tuple #[],.tuple #[],.tuple #[]],params:=#[9],assign:=nav (Qal Tryz.prog 121) [1,1,0,1,0,0],body:=nav (Qal Tryz.prog 121) [1,1,0,1,0,1],defers:=4}),(4,Obj.deferred (some [])),(3,Obj.coro none),(2,Obj.cells #[.slice none 0 0] 63),(1,Obj.cells #[Qa0 0 (slT xs.length (Qac Qaz xs))] 63),(0,Obj.coro none)]
def QhD (s:Int) (xs:List (Row)) (n:Int) (dJ0:Nat->Value):CF:=⟨121,ofList 18 [.int .i64 s,Qa0 0 (slT xs.length (Qac Qaz xs)),.tuple #[],pA 1 0,.slice none 0 0,pA 2 0,.tuple #[],.int .i64 s,Value.func (Fn.func 157) #[] #[Qa0 3 (ptT 0 #[.int .i64 s])],.int .i64 n,.tuple #[],.tuple #[],.tuple #[],.tuple #[],.tuple #[],.tuple #[],.tuple #[],.tuple #[]],[Item.code (nav (Qal Tryz.prog 121) [1,1,0,1,0,0]),Item.beginRound,Item.code (nav (Qal Tryz.prog 121) [1,1,0,1,0,1])],[],.run,some 5⟩
theorem Qw1 (B:Lo) (s:Int) (xs:List (Row)) (n:Int) (dJ0:Nat->Value):CE.finK 7 (Qak Tryz.prog (Qa1 Tryz.prog) J0 B 6 7 (QhD s xs n dJ0) (Qgd s xs n dJ0) 7
 [(4,Qaj.tidx n.toNat (Qix xs n))] 0 [] []) [(5,KS.auto),(2,KS.auto)] [(8,KS.auto)] []=some (OO.ret (.bool true),[(5,Obj.loop {state:=LoopState.ready,pending:=none,fn:=121,tmps:=#[.int .i64 s,Qa0 0 (slT xs.length (Qac Qaz xs)),.tuple #[],pA 1 0,.slice none 0 0,pA 2 0,.tuple #[],.int .i64 s,Value.func (Fn.func 157) #[] #[Qa0 3 (ptT 0 #[.int .i64 s])],.tuple #[],.tuple #[],.tuple #[],.tuple #[],.tuple #[],.tuple #[],.tuple #[],.tuple #[],.tuple #[]],params:=#[9],assign:=nav (Qal Tryz.prog 121) [1,1,0,1,0,0],body:=nav (Qal Tryz.prog 121) [1,1,0,1,0,1],defers:=4}),(2,Obj.cells #[.slice (some {block:=8,off:=0}) 1 1] 63)],[Obj.cells #[Qa0 0 (slT (List.length (xs.getD n.toNat default)) (Qac Qar (xs.getD n.toNat default)))] 22],
 [n=(↑n.toNat:Int)/\Int.toNat n < List.length xs/\Array.extract (Qac Qaz xs) (Int.toNat n * TypeInfo.size Tryz.t22) (Int.toNat n * TypeInfo.size Tryz.t22+TypeInfo.size Tryz.t22)=(Qix xs n)]):=by kernel_rfl
theorem QwA (B:Lo) (s:Int) (xs:List (Row)) (n:Int) (dJ0:Nat->Value):CE.landA 6 (Qak Tryz.prog (Qa1 Tryz.prog) J0 B 16 6 (Qcw (none) 157 20 (([0,1,6,7]:List Nat).zip (Qc5 s xs n)) dJ0 Qc9) (QbG (Qbc s xs) 6 (([5,2]:List Nat).zip (Qc6 s xs n)) (Qbx s xs n)) (6+1+(Qbx s xs n).length)
 (QpJ s xs n dJ0++[(5,Qaj.pure (.bool true) []),(9,Qaj.call (List.range 7) (OO.ret (.bool true)) ([(5,Obj.loop {state:=LoopState.ready,pending:=none,fn:=121,tmps:=(QdQ s xs),params:=#[9],assign:=nav (Qal Tryz.prog 121) [1,1,0,1,0,0],body:=nav (Qal Tryz.prog 121) [1,1,0,1,0,1],defers:=4}),(2,Obj.cells #[.slice (some {block:=8,off:=0}) 1 1] 63)]++(7,Qbu)::QaK 8 [Obj.cells (QeB xs n) 22]) 9 [5,2]),(12,hvI (n+1))]) 0 [] []) [0,1,6,7] [(5,KS.auto),(2,KS.auto)] [(8,KS.rows [(0,0)] [] (Qac (Qa5 0 Qaz) [xs.getD n.toNat default]))] []=some ⟨157,20,Qc7,[],.run,none,Qc2 s xs (n+1) ([xs.getD n.toNat default]) (1),([5,2]:List Nat).zip (Qcx s xs (n+1) ([xs.getD n.toNat default]) (1)),Qbw s xs (n+1) ([xs.getD n.toNat default]) (1),
 [QaX 6 [(0,0)] [] (QeB xs n) (Qac (Qa5 0 Qaz) [xs.getD n.toNat default]),wq (n+1)=n+1,FJ Tryz.prog B (QhD s xs n dJ0) (Qgd s xs n dJ0) 7 (OO.ret (.bool true)) (([(5,Obj.loop {state:=LoopState.ready,pending:=none,fn:=121,tmps:=(QdQ s xs),params:=#[9],assign:=nav (Qal Tryz.prog 121) [1,1,0,1,0,0],body:=nav (Qal Tryz.prog 121) [1,1,0,1,0,1],defers:=4}),(2,Obj.cells #[.slice (some {block:=8,off:=0}) 1 1] 63)]++((7,Qbu)::QaK (7+1) [Obj.cells (QeB xs n) 22]))++Qgd s xs n dJ0) 9 (List.range 7) [5,2],Qa7 []/\Qas Tryz.prog J0 159 #[.int .i64 s,.int .i64 n] (.bool true)]++Qk7 B s xs n dJ0⟩:=by kernel_rfl
theorem QxV (B:Lo) (s:Int) (xs:List (Row)) (n:Int) (dJ0:Nat->Value):CE.landA 6 (Qak Tryz.prog (Qa1 Tryz.prog) J0 B 16 6 (Qcw (none) 157 20 (([0,1,6,7]:List Nat).zip (Qc5 s xs n)) dJ0 Qc9) (QbG (Qbc s xs) 6 (([5,2]:List Nat).zip (Qc6 s xs n)) (Qbx s xs n)) (6+1+(Qbx s xs n).length)
 (QpJ s xs n dJ0++[(5,Qaj.pure (.bool false) []),(12,hvI (n+1))]) 0 [] []) [0,1,6,7] [(5,KS.auto),(2,KS.auto)] [] []=some ⟨157,20,Qc9,[],.run,none,Qc5 s xs (n+1),([5,2]:List Nat).zip (Qc6 s xs (n+1)),Qbx s xs (n+1),
 [wq (n+1)=n+1,Qa7 []/\Qas Tryz.prog J0 159 #[.int .i64 s,.int .i64 n] (.bool false)]++Qk7 B s xs n dJ0⟩:=by kernel_rfl
theorem QvW (B:Lo) (s:Int) (xs:List (Row)) (n:Int) (dJ0:Nat->Value):CE.finK 6 (Qak Tryz.prog (Qa1 Tryz.prog) J0 B 7 6 (Qcw (none) 157 20 (([0,1,6,7]:List Nat).zip (Qc5 s xs n)) dJ0 Qc9) (QbG (Qbc s xs) 6 (([5,2]:List Nat).zip (Qc6 s xs n)) (Qbx s xs n)) (6+1+(Qbx s xs n).length)
 [(0,hvF)] 0 [] []) [(5,KS.auto),(2,KS.auto)] [] []=some (OO.ret (.tuple #[]),[(5,Obj.loop {state:=LoopState.ready,pending:=none,fn:=121,tmps:=#[.int .i64 s,Qa0 0 (slT xs.length (Qac Qaz xs)),.tuple #[],pA 1 0,.slice none 0 0,pA 2 0,.tuple #[],.int .i64 s,Value.func (Fn.func 157) #[] #[Qa0 3 (ptT 0 #[.int .i64 s])],.tuple #[],.tuple #[],.tuple #[],.tuple #[],.tuple #[],.tuple #[],.tuple #[],.tuple #[],.tuple #[]],params:=#[9],assign:=nav (Qal Tryz.prog 121) [1,1,0,1,0,0],body:=nav (Qal Tryz.prog 121) [1,1,0,1,0,1],defers:=4}),(2,Obj.cells #[.slice none 0 0] 63)],[],
 [ltq n (Qcf s)=false]):=by kernel_rfl
def Qk1 (B:Lo) (s:Int) (xs:List (Row)) (n:Int) (acc:List Row) (acc_n:Nat) (dJ0:Nat->Value):List Prop:=[ltq n (Qcf s)=true]++([]:List Prop)
def Qph (s:Int) (xs:List (Row)) (n:Int) (acc:List Row) (acc_n:Nat) (dJ0:Nat->Value):Qay:=[(0,hvT)]
def Qgw (s:Int) (xs:List (Row)) (n:Int) (acc:List Row) (acc_n:Nat) (dJ0:Nat->Value):Qap:=[(5,Obj.loop {state:=LoopState.ready,pending:=none,fn:=121,tmps:=#[.int .i64 s,Qa0 0 (slT xs.length (Qac Qaz xs)),.tuple #[],pA 1 0,.slice none 0 0,pA 2 0,.tuple #[],.int .i64 s,Value.func (Fn.func 157) #[] #[Qa0 3 (ptT 0 #[.int .i64 s])],.tuple #[],.tuple #[],.tuple #[],.tuple #[],.tuple #[],.tuple #[],.tuple #[],.tuple #[],.tuple #[]],params:=#[9],assign:=nav (Qal Tryz.prog 121) [1,1,0,1,0,0],body:=nav (Qal Tryz.prog 121) [1,1,0,1,0,1],defers:=4}),(2,Obj.cells #[.slice (some {block:=7,off:=0}) acc_n 1] 63),(6,Obj.coro none),(7,Obj.cells (Qac (Qa5 0 Qaz) acc) 22),(5,Obj.loop {state:=LoopState.ready,pending:=none,fn:=121,tmps:=#[.int .i64 s,Qa0 0 (slT xs.length (Qac Qaz xs)),.tuple #[],pA 1 0,.slice none 0 0,pA 2 0,.tuple #[],.int .i64 s,Value.func (Fn.func 157) #[] #[Qa0 3 (ptT 0 #[.int .i64 s])],.tuple #[],.tuple #[],.tuple #[],.tuple #[],.tuple #[],.tuple #[],.tuple #[],.tuple #[],.tuple #[]],params:=#[9],assign:=nav (Qal Tryz.prog 121) [1,1,0,1,0,0],body:=nav (Qal Tryz.prog 121) [1,1,0,1,0,1],defers:=4}),(4,Obj.deferred (some [])),(3,Obj.coro none),(2,Obj.cells #[.slice none 0 0] 63),(1,Obj.cells #[Qa0 0 (slT xs.length (Qac Qaz xs))] 63),(0,Obj.coro none)]
def Qiu (s:Int) (xs:List (Row)) (n:Int) (acc:List Row) (acc_n:Nat) (dJ0:Nat->Value):CF:=⟨121,ofList 18 [.int .i64 s,Qa0 0 (slT xs.length (Qac Qaz xs)),.tuple #[],pA 1 0,.slice none 0 0,pA 2 0,.tuple #[],.int .i64 s,Value.func (Fn.func 157) #[] #[Qa0 3 (ptT 0 #[.int .i64 s])],.int .i64 n,.tuple #[],.tuple #[],.tuple #[],.tuple #[],.tuple #[],.tuple #[],.tuple #[],.tuple #[]],[Item.code (nav (Qal Tryz.prog 121) [1,1,0,1,0,0]),Item.beginRound,Item.code (nav (Qal Tryz.prog 121) [1,1,0,1,0,1])],[],.run,some 5⟩
theorem QvH (B:Lo) (s:Int) (xs:List (Row)) (n:Int) (acc:List Row) (acc_n:Nat) (dJ0:Nat->Value):CE.finK 8 (Qak Tryz.prog (Qa1 Tryz.prog) J0 B 6 8 (Qiu s xs n acc acc_n dJ0) (Qgw s xs n acc acc_n dJ0) 8
 [(4,Qaj.tidx n.toNat (Qix xs n)),(7,Qaj.old (Hint.app (Qac (Qa5 0 Qaz) acc++(QeB xs n))))] 0 [] []) [(7,KS.dead),(5,KS.auto),(2,KS.auto)] [(9,KS.rows [(0,0)] [] (Qac (Qa5 0 Qaz) (acc++[xs.getD n.toNat default])))] []=some (OO.ret (.bool true),[(7,Obj.pending #[] 0),(5,Obj.loop {state:=LoopState.ready,pending:=none,fn:=121,tmps:=#[.int .i64 s,Qa0 0 (slT xs.length (Qac Qaz xs)),.tuple #[],pA 1 0,.slice none 0 0,pA 2 0,.tuple #[],.int .i64 s,Value.func (Fn.func 157) #[] #[Qa0 3 (ptT 0 #[.int .i64 s])],.tuple #[],.tuple #[],.tuple #[],.tuple #[],.tuple #[],.tuple #[],.tuple #[],.tuple #[],.tuple #[]],params:=#[9],assign:=nav (Qal Tryz.prog 121) [1,1,0,1,0,0],body:=nav (Qal Tryz.prog 121) [1,1,0,1,0,1],defers:=4}),(2,Obj.cells #[.slice (some {block:=9,off:=0}) (acc_n+1) 1] 63)],[Obj.cells (Qac (Qa5 0 Qaz) (acc++[xs.getD n.toNat default])) 22],
 [QaX 8 [(0,0)] [] (Qac (Qa5 0 Qaz) acc++(QeB xs n)) (Qac (Qa5 0 Qaz) (acc++[xs.getD n.toNat default])),Array.size (Qac (Qa5 0 Qaz) acc)=acc_n * (0+1)/\acc_n+1<=maxLen/\(acc_n+1) * 24<=140737488355328/\Qac (Qa5 0 Qaz) acc++(QeB xs n)=Qac (Qa5 0 Qaz) acc++(QeB xs n),n=(↑n.toNat:Int)/\Int.toNat n < List.length xs/\Array.extract (Qac Qaz xs) (Int.toNat n * TypeInfo.size Tryz.t22) (Int.toNat n * TypeInfo.size Tryz.t22+TypeInfo.size Tryz.t22)=(Qix xs n)]):=by kernel_rfl
theorem Qw6 (B:Lo) (s:Int) (xs:List (Row)) (n:Int) (acc:List Row) (acc_n:Nat) (dJ0:Nat->Value):CE.landA 6 (Qak Tryz.prog (Qa1 Tryz.prog) J0 B 16 6 (Qcw (none) 157 20 (([0,1,6,7]:List Nat).zip (Qc2 s xs n acc acc_n)) dJ0 Qc7) (QbG (Qbc s xs) 6 (([5,2]:List Nat).zip (Qcx s xs n acc acc_n)) (Qbw s xs n acc acc_n)) (6+1+(Qbw s xs n acc acc_n).length)
 (Qph s xs n acc acc_n dJ0++[(5,Qaj.pure (.bool true) []),(9,Qaj.call (List.range 8) (OO.ret (.bool true)) ([(7,Obj.pending #[] 0),(5,Obj.loop {state:=LoopState.ready,pending:=none,fn:=121,tmps:=(QdQ s xs),params:=#[9],assign:=nav (Qal Tryz.prog 121) [1,1,0,1,0,0],body:=nav (Qal Tryz.prog 121) [1,1,0,1,0,1],defers:=4}),(2,Obj.cells #[.slice (some {block:=9,off:=0}) (acc_n+1) 1] 63)]++(8,Qbu)::QaK 9 [Obj.cells (Qac (Qa5 0 Qaz) (acc++[xs.getD n.toNat default])) 22]) 10 [7,5,2]),(12,hvI (n+1))]) 0 [] []) [0,1,6,7] [(5,KS.auto),(2,KS.auto)] [(9,KS.rows [(0,0)] [] (Qac (Qa5 0 Qaz) (acc++[xs.getD n.toNat default])))] []=some ⟨157,20,Qc7,[],.run,none,Qc2 s xs (n+1) (acc++[xs.getD n.toNat default]) (acc_n+1),([5,2]:List Nat).zip (Qcx s xs (n+1) (acc++[xs.getD n.toNat default]) (acc_n+1)),Qbw s xs (n+1) (acc++[xs.getD n.toNat default]) (acc_n+1),
 [QaX 6 [(0,0)] [] (Qac (Qa5 0 Qaz) (acc++[xs.getD n.toNat default])) (Qac (Qa5 0 Qaz) (acc++[xs.getD n.toNat default])),wq (n+1)=n+1,FJ Tryz.prog B (Qiu s xs n acc acc_n dJ0) (Qgw s xs n acc acc_n dJ0) 8 (OO.ret (.bool true)) (([(7,Obj.pending #[] 0),(5,Obj.loop {state:=LoopState.ready,pending:=none,fn:=121,tmps:=(QdQ s xs),params:=#[9],assign:=nav (Qal Tryz.prog 121) [1,1,0,1,0,0],body:=nav (Qal Tryz.prog 121) [1,1,0,1,0,1],defers:=4}),(2,Obj.cells #[.slice (some {block:=9,off:=0}) (acc_n+1) 1] 63)]++((8,Qbu)::QaK (8+1) [Obj.cells (Qac (Qa5 0 Qaz) (acc++[xs.getD n.toNat default])) 22]))++Qgw s xs n acc acc_n dJ0) 10 (List.range 8) [7,5,2],Qa7 []/\Qas Tryz.prog J0 159 #[.int .i64 s,.int .i64 n] (.bool true)]++Qk1 B s xs n acc acc_n dJ0⟩:=by kernel_rfl
theorem QvS (B:Lo) (s:Int) (xs:List (Row)) (n:Int) (acc:List Row) (acc_n:Nat) (dJ0:Nat->Value):CE.landA 6 (Qak Tryz.prog (Qa1 Tryz.prog) J0 B 16 6 (Qcw (none) 157 20 (([0,1,6,7]:List Nat).zip (Qc2 s xs n acc acc_n)) dJ0 Qc7) (QbG (Qbc s xs) 6 (([5,2]:List Nat).zip (Qcx s xs n acc acc_n)) (Qbw s xs n acc acc_n)) (6+1+(Qbw s xs n acc acc_n).length)
 (Qph s xs n acc acc_n dJ0++[(5,Qaj.pure (.bool false) []),(12,hvI (n+1))]) 0 [] []) [0,1,6,7] [(5,KS.auto),(2,KS.auto)] [(7,KS.rows [(0,0)] [] (Qac (Qa5 0 Qaz) acc))] []=some ⟨157,20,Qc7,[],.run,none,Qc2 s xs (n+1) (acc) (acc_n),([5,2]:List Nat).zip (Qcx s xs (n+1) (acc) (acc_n)),Qbw s xs (n+1) (acc) (acc_n),
 [QaX 6 [(0,0)] [] (Qac (Qa5 0 Qaz) acc) (Qac (Qa5 0 Qaz) acc),wq (n+1)=n+1,Qa7 []/\Qas Tryz.prog J0 159 #[.int .i64 s,.int .i64 n] (.bool false)]++Qk1 B s xs n acc acc_n dJ0⟩:=by kernel_rfl
theorem QxQ (B:Lo) (s:Int) (xs:List (Row)) (n:Int) (acc:List Row) (acc_n:Nat) (dJ0:Nat->Value):CE.finK 6 (Qak Tryz.prog (Qa1 Tryz.prog) J0 B 7 6 (Qcw (none) 157 20 (([0,1,6,7]:List Nat).zip (Qc2 s xs n acc acc_n)) dJ0 Qc7) (QbG (Qbc s xs) 6 (([5,2]:List Nat).zip (Qcx s xs n acc acc_n)) (Qbw s xs n acc acc_n)) (6+1+(Qbw s xs n acc acc_n).length)
 [(0,hvF)] 0 [] []) [(5,KS.auto),(2,KS.auto)] [(7,KS.rows [(0,0)] [] (Qac (Qa5 0 Qaz) acc))] []=some (OO.ret (.tuple #[]),[(5,Obj.loop {state:=LoopState.ready,pending:=none,fn:=121,tmps:=#[.int .i64 s,Qa0 0 (slT xs.length (Qac Qaz xs)),.tuple #[],pA 1 0,.slice none 0 0,pA 2 0,.tuple #[],.int .i64 s,Value.func (Fn.func 157) #[] #[Qa0 3 (ptT 0 #[.int .i64 s])],.tuple #[],.tuple #[],.tuple #[],.tuple #[],.tuple #[],.tuple #[],.tuple #[],.tuple #[],.tuple #[]],params:=#[9],assign:=nav (Qal Tryz.prog 121) [1,1,0,1,0,0],body:=nav (Qal Tryz.prog 121) [1,1,0,1,0,1],defers:=4}),(2,Obj.cells #[.slice (some {block:=7,off:=0}) acc_n 1] 63)],[Obj.cells (Qac (Qa5 0 Qaz) acc) 22],
 [QaX 6 [(0,0)] [] (Qac (Qa5 0 Qaz) acc) (Qac (Qa5 0 Qaz) acc),ltq n (Qcf s)=false]):=by kernel_rfl
set_option maxHeartbeats 4000000 in
theorem Qj1 (s:Int) (xs:List (Row)) (h0:0<=s) (h1:s < 64) (hx:Qcf s<=xs.length) {B:Lo} (hJ:∀w,B.has w->J0 w):∀m:Nat,(∀(n:Int),∀(r:Bool),(!(([]:List Row)++Qax s xs n).isEmpty)=r->(Qcf s - n).toNat=m->∀(hn:0<=n),(∃dJ0:Nat->Value,(∀t,QaS (dJ0 t))/\GoE Tryz.prog B (Qch s xs) (Qbc s xs) 6 (Qcw (none) 157 20 (([0,1,6,7]:List Nat).zip (Qc5 s xs n)) dJ0 Qc9) (QbG (Qbc s xs) 6 (([5,2]:List Nat).zip (Qc6 s xs n)) (Qbx s xs n)) (6+1+(Qbx s xs n).length) ([5,2]:List Nat))->FinK Tryz.prog B (Qch s xs) (Qbc s xs) 6 (.ret (.tuple #[])) (([5,2]:List Nat).zip ([Obj.loop {state:=LoopState.ready,pending:=none,fn:=121,tmps:=#[.int .i64 s,Qa0 0 (slT xs.length (Qac Qaz xs)),.tuple #[],pA 1 0,.slice none 0 0,pA 2 0,.tuple #[],.int .i64 s,Value.func (Fn.func 157) #[] #[Qa0 3 (ptT 0 #[.int .i64 s])],.tuple #[],.tuple #[],.tuple #[],.tuple #[],.tuple #[],.tuple #[],.tuple #[],.tuple #[],.tuple #[]],params:=#[9],assign:=nav (Qal Tryz.prog 121) [1,1,0,1,0,0],body:=nav (Qal Tryz.prog 121) [1,1,0,1,0,1],defers:=4},.cells #[bif r then .slice (some ⟨7,0,none⟩) (([]:List Row)++Qax s xs n).length 1 else .slice none 0 0] 63 (0,0)])) (bif r then [Go.Obj.cells (Qac (Qa5 0 Qaz) (([]:List Row)++Qax s xs n)) 22 (0,0)] else []) ([5,2]:List Nat))/\(∀(n:Int) (acc:List Row) (acc_n:Nat),∀(r:Bool),(!(acc++Qax s xs n).isEmpty)=r->(Qcf s - n).toNat=m->∀(hn:0<=n) (hacc:acc_n=acc.length) (haccb:acc≠[]/\(acc_n:Int)<=n),(∃dJ0:Nat->Value,(∀t,QaS (dJ0 t))/\GoE Tryz.prog B (Qch s xs) (Qbc s xs) 6 (Qcw (none) 157 20 (([0,1,6,7]:List Nat).zip (Qc2 s xs n acc acc_n)) dJ0 Qc7) (QbG (Qbc s xs) 6 (([5,2]:List Nat).zip (Qcx s xs n acc acc_n)) (Qbw s xs n acc acc_n)) (6+1+(Qbw s xs n acc acc_n).length) ([5,2]:List Nat))->FinK Tryz.prog B (Qch s xs) (Qbc s xs) 6 (.ret (.tuple #[])) (([5,2]:List Nat).zip ([Obj.loop {state:=LoopState.ready,pending:=none,fn:=121,tmps:=#[.int .i64 s,Qa0 0 (slT xs.length (Qac Qaz xs)),.tuple #[],pA 1 0,.slice none 0 0,pA 2 0,.tuple #[],.int .i64 s,Value.func (Fn.func 157) #[] #[Qa0 3 (ptT 0 #[.int .i64 s])],.tuple #[],.tuple #[],.tuple #[],.tuple #[],.tuple #[],.tuple #[],.tuple #[],.tuple #[],.tuple #[]],params:=#[9],assign:=nav (Qal Tryz.prog 121) [1,1,0,1,0,0],body:=nav (Qal Tryz.prog 121) [1,1,0,1,0,1],defers:=4},.cells #[bif r then .slice (some ⟨7,0,none⟩) (acc++Qax s xs n).length 1 else .slice none 0 0] 63 (0,0)])) (bif r then [Go.Obj.cells (Qac (Qa5 0 Qaz) (acc++Qax s xs n)) 22 (0,0)] else []) ([5,2]:List Nat)):=by
 intro m0
 induction m0 using Nat.strongRecOn with
 | _ m0 ih0=>
   refine ⟨?_, ?_⟩
   ·intro n r1 hr1 hm0 hn ⟨dJ0,hdJ0,hg0⟩
    have hl:=QeX h0 h1
    by_cases q0:(n:Int) < (Qcf s)
    ·
     have hp1:Qa7 (Qk7 B s xs n dJ0):=by
      exact ⟨(Qbl q0),trivial⟩
     cases q1:QjG s n with
     | true=>
       have rj2:FJ Tryz.prog B (QhD s xs n dJ0) (Qgd s xs n dJ0) 7 (OO.ret (.bool true)) (([(5,Obj.loop {state:=LoopState.ready,pending:=none,fn:=121,tmps:=#[.int .i64 s,Qa0 0 (slT xs.length (Qac Qaz xs)),.tuple #[],pA 1 0,.slice none 0 0,pA 2 0,.tuple #[],.int .i64 s,Value.func (Fn.func 157) #[] #[Qa0 3 (ptT 0 #[.int .i64 s])],.tuple #[],.tuple #[],.tuple #[],.tuple #[],.tuple #[],.tuple #[],.tuple #[],.tuple #[],.tuple #[]],params:=#[9],assign:=nav (Qal Tryz.prog 121) [1,1,0,1,0,0],body:=nav (Qal Tryz.prog 121) [1,1,0,1,0,1],defers:=4}),(2,Obj.cells #[.slice (some {block:=8,off:=0}) 1 1] 63)]++((7,Qbu)::QaK (7+1) [Obj.cells #[Qa0 0 (slT (List.length (xs.getD n.toNat default)) (Qac Qar (xs.getD n.toNat default)))] 22]))++Qgd s xs n dJ0) 9 (List.range 7) [5,2]:=by
        have s2:=QeF (s:=s) (xs:=xs) q0 q1
        exact FinK.fjB (GoE.finK okF hJ Qab (Qan (by kernel_rfl)) (Qag (by kernel_rfl)) ((GoE.refl (P:=Tryz.prog) (B:=B) (c0:=QhD s xs n dJ0) (Qan (by kernel_rfl))).widen (Wf:=((([(5,KS.auto),(2,KS.auto)]):List (Nat×KS)).map (·.1))) (by simp) (Qag (by kernel_rfl))) (Qw1 B s xs n dJ0)
         ⟨⟨by omega,by omega,(Qaf (z:=1) (fun _=> rfl) (by omega))⟩,trivial⟩) (ex:=[]) (by kernel_rfl) (Qb3 _)
       have s2:=QeF (s:=s) (xs:=xs) q0 q1
       exact ((ih0 _ (by omega)).2 (n+1) ([xs.getD n.toNat default]) (1) r1 (by (rw [<-hr1,s2];simp;done)) rfl (by omega) (by (simp_all;done)) (by (refine ⟨by simp, ?_⟩;omega))
        (GoE.landA okF hJ Qab (Qan (by kernel_rfl)) (Qag (by kernel_rfl)) hg0 (QwA B s xs n dJ0)
        ⟨(by exact (QgT (by exact ⟨(.reg (List.Mem.head _) rfl),trivial⟩))),⟨(QaJ (by omega) (by omega)),⟨rj2,⟨⟨trivial,(by have t_:=Q0I (s) (n) (by omega) (by omega);rw [q1] at t_;exact t_)⟩,hp1⟩⟩⟩⟩ (by kernel_rfl) (by kernel_rfl) (fun l hl=> by cases hl <;> decide))).cast (by rfl) (by (rw [s2];rfl)) (by (rw [s2];rfl))
     | false=>
       have s2:=Qii (s:=s) (xs:=xs) q0 q1
       exact ((ih0 _ (by omega)).1 (n+1) r1 (by (rw [<-hr1,s2];done)) rfl (by omega)
        (GoE.landA okF hJ Qab (Qan (by kernel_rfl)) (Qag (by kernel_rfl)) hg0 (QxV B s xs n dJ0)
        ⟨(QaJ (by omega) (by omega)),⟨⟨trivial,(by have t_:=Q0I (s) (n) (by omega) (by omega);rw [q1] at t_;exact t_)⟩,hp1⟩⟩ (by kernel_rfl) (by kernel_rfl) (fun l hl=> by cases hl <;> decide))).cast (by rfl) (by (rw [s2];done)) (by (rw [s2];done))
    ·
     have s2:=Qis (s:=s) (xs:=xs) (n:=n) (by omega)
     exact (GoE.finK okF hJ Qab (Qan (by kernel_rfl)) (Qag (by kernel_rfl)) hg0 (QvW B s xs n dJ0)
      ⟨(Qbq (Int.not_lt.1 q0)),trivial⟩).cast (by rfl) (by (subst hr1;rw [s2];rfl)) (by (subst hr1;rw [s2];rfl))
   ·intro n acc acc_n r1 hr1 hm0 hn hacc haccb ⟨dJ0,hdJ0,hg0⟩
    have hl:=QeX h0 h1
    by_cases q0:(n:Int) < (Qcf s)
    ·
     have hp2:Qa7 (Qk1 B s xs n acc acc_n dJ0):=by
      exact ⟨(Qbl q0),trivial⟩
     cases q1:QjG s n with
     | true=>
       have rj2:FJ Tryz.prog B (Qiu s xs n acc acc_n dJ0) (Qgw s xs n acc acc_n dJ0) 8 (OO.ret (.bool true)) (([(7,Obj.pending #[] 0),(5,Obj.loop {state:=LoopState.ready,pending:=none,fn:=121,tmps:=#[.int .i64 s,Qa0 0 (slT xs.length (Qac Qaz xs)),.tuple #[],pA 1 0,.slice none 0 0,pA 2 0,.tuple #[],.int .i64 s,Value.func (Fn.func 157) #[] #[Qa0 3 (ptT 0 #[.int .i64 s])],.tuple #[],.tuple #[],.tuple #[],.tuple #[],.tuple #[],.tuple #[],.tuple #[],.tuple #[],.tuple #[]],params:=#[9],assign:=nav (Qal Tryz.prog 121) [1,1,0,1,0,0],body:=nav (Qal Tryz.prog 121) [1,1,0,1,0,1],defers:=4}),(2,Obj.cells #[.slice (some {block:=9,off:=0}) (acc_n+1) 1] 63)]++((8,Qbu)::QaK (8+1) [Obj.cells (Qac (Qa5 0 Qaz) (acc++[xs.getD n.toNat default])) 22]))++Qgw s xs n acc acc_n dJ0) 10 (List.range 8) [7,5,2]:=by
        have s2:=QeF (s:=s) (xs:=xs) q0 q1
        exact FinK.fjB (GoE.finK okF hJ Qab (Qan (by kernel_rfl)) (Qag (by kernel_rfl)) ((GoE.refl (P:=Tryz.prog) (B:=B) (c0:=Qiu s xs n acc acc_n dJ0) (Qan (by kernel_rfl))).widen (Wf:=((([(7,KS.dead),(5,KS.auto),(2,KS.auto)]):List (Nat×KS)).map (·.1))) (by simp) (Qag (by kernel_rfl))) (QvH B s xs n acc acc_n dJ0)
         ⟨(by exact (Qf5 (QaN (QaT (fun _=> rfl)) (List.Mem.head _)) (by exact ⟨(.reg (List.Mem.head _) rfl),trivial⟩))),⟨⟨(by (rw [Qbn (z:=1) (fun _=> rfl)];first | omega | (simp;omega) | (simp_all;done))),(by unfold maxLen;omega),by omega,rfl⟩,⟨⟨by omega,by omega,(Qaf (z:=1) (fun _=> rfl) (by omega))⟩,trivial⟩⟩⟩) (ex:=[7]) (by kernel_rfl) ⟨trivial,⟨trivial,⟨trivial,⟨(Qfn (t:=22) (fl:=(0,0)) (QaT (fun _=> rfl)) (by decide)),⟨trivial,⟨trivial,⟨trivial,⟨trivial,⟨trivial,⟨trivial,trivial⟩⟩⟩⟩⟩⟩⟩⟩⟩⟩
       have s2:=QeF (s:=s) (xs:=xs) q0 q1
       exact ((ih0 _ (by omega)).2 (n+1) (acc++[xs.getD n.toNat default]) (acc_n+1) r1 (by (rw [<-hr1,s2];simp;done)) rfl (by omega) (by (simp_all;done)) (by (simp_all;done))
        (GoE.landA okF hJ Qab (Qan (by kernel_rfl)) (Qag (by kernel_rfl)) hg0 (Qw6 B s xs n acc acc_n dJ0)
        ⟨(by exact (QaN (QaT (fun _=> rfl)) (List.Mem.head _))),⟨(QaJ (by omega) (by omega)),⟨rj2,⟨⟨trivial,(by have t_:=Q0I (s) (n) (by omega) (by omega);rw [q1] at t_;exact t_)⟩,hp2⟩⟩⟩⟩ (by kernel_rfl) (by kernel_rfl) (fun l hl=> by cases hl <;> decide))).cast (by rfl) (by (rw [s2,<-List.append_assoc];done)) (by (rw [s2,<-List.append_assoc];done))
     | false=>
       have s2:=Qii (s:=s) (xs:=xs) q0 q1
       exact ((ih0 _ (by omega)).2 (n+1) (acc) (acc_n) r1 (by (rw [<-hr1,s2];done)) rfl (by omega) (by with_reducible assumption) (by exact ⟨haccb.1,by omega⟩)
        (GoE.landA okF hJ Qab (Qan (by kernel_rfl)) (Qag (by kernel_rfl)) hg0 (QvS B s xs n acc acc_n dJ0)
        ⟨(by exact (QaN (QaT (fun _=> rfl)) (List.Mem.head _))),⟨(QaJ (by omega) (by omega)),⟨⟨trivial,(by have t_:=Q0I (s) (n) (by omega) (by omega);rw [q1] at t_;exact t_)⟩,hp2⟩⟩⟩ (by kernel_rfl) (by kernel_rfl) (fun l hl=> by cases hl <;> decide))).cast (by rfl) (by (rw [s2];done)) (by (rw [s2];done))
    ·
     have s2:=Qis (s:=s) (xs:=xs) (n:=n) (by omega)
     exact (GoE.finK okF hJ Qab (Qan (by kernel_rfl)) (Qag (by kernel_rfl)) hg0 (QxQ B s xs n acc acc_n dJ0)
      ⟨(by exact (QaN (QaT (fun _=> rfl)) (List.Mem.head _))),⟨(Qbq (Int.not_lt.1 q0)),trivial⟩⟩).cast (by rfl) (by (subst hr1;simp only [QzS haccb.1,s2,List.append_nil,hacc,Bool.not_false,cond_true];rfl)) (by (subst hr1;simp only [QzS haccb.1,s2,List.append_nil,hacc,Bool.not_false,cond_true];done))

theorem QxT (B:Lo) (s:Int) (xs:List (Row)):CE.landA 6 (Qak Tryz.prog (Qa1 Tryz.prog) J0 B 4 6 (Qch s xs) (Qbc s xs) 6
 [(1,Qaj.old (Hint.val (Value.int IntKind.u64 s))),(2,Qaj.pure (.int .i64 (Qcf s)) [])] 0 [] []) [0,1,6,7] [(5,KS.auto),(2,KS.auto)] [] []=some ⟨157,20,Qc9,[],.run,none,Qc5 s xs (0),([5,2]:List Nat).zip (Qc6 s xs (0)),Qbx s xs (0),
 [Qa7 []/\Qas Tryz.prog J0 158 #[Value.int IntKind.u64 s] (.int .i64 (Qcf s)),IntKind.wrap IntKind.u64 s=s]⟩:=by kernel_rfl
theorem Qu2 (B:Lo) (s:Int) (xs:List (Row)):Qbd (Qak Tryz.prog (Qa1 Tryz.prog) J0 B 16 1 (Qai Tryz.prog 121 18 (([.int .i64 s,slT xs.length (Qac Qaz xs)]).map (Qaq 0 4))) H00 1
 (QoO s xs++[(5,Qaj.call (List.range 6) (OO.ret (.tuple #[])) ([(5,Obj.loop {state:=LoopState.ready,pending:=none,fn:=121,tmps:=(QdQ s xs),params:=#[9],assign:=nav (Qal Tryz.prog 121) [1,1,0,1,0,0],body:=nav (Qal Tryz.prog 121) [1,1,0,1,0,1],defers:=4}),(2,Obj.cells #[.slice (some {block:=7,off:=0}) (List.length ([]++Qax s xs 0)) 1] 63)]++(6,Qbu)::QaK 7 [Obj.cells (Qac (Qa5 0 Qaz) ([]++Qax s xs 0)) 22]) 8 [5,2])]) 0 [] []) [{k:=7,rs:=[0],cs:=Qac Qaz ([]++Qax s xs 0)}]=some (slT (List.length ([]++Qax s xs 0)) (Fz.cs {k:=7,rs:=[0],cs:=Qac Qaz ([]++Qax s xs 0)}),
 [Qb7 (Fz.rs {k:=7,rs:=[0],cs:=Qac Qaz ([]++Qax s xs 0)}) (Qac (Qa5 0 Qaz) ([]++Qax s xs 0)) (Fz.cs {k:=7,rs:=[0],cs:=Qac Qaz ([]++Qax s xs 0)}),FJ Tryz.prog B (Qch s xs) (Qbc s xs) 6 (OO.ret (.tuple #[])) (([(5,Obj.loop {state:=LoopState.ready,pending:=none,fn:=121,tmps:=(QdQ s xs),params:=#[9],assign:=nav (Qal Tryz.prog 121) [1,1,0,1,0,0],body:=nav (Qal Tryz.prog 121) [1,1,0,1,0,1],defers:=4}),(2,Obj.cells #[.slice (some {block:=7,off:=0}) (List.length ([]++Qax s xs 0)) 1] 63)]++((6,Qbu)::QaK (6+1) [Obj.cells (Qac (Qa5 0 Qaz) ([]++Qax s xs 0)) 22]))++Qbc s xs) 8 (List.range 6) [5,2]]++QkJ B s xs):=by kernel_rfl
theorem Qtj (B:Lo) (s:Int) (xs:List (Row)):CE.landA 6 (Qak Tryz.prog (Qa1 Tryz.prog) J0 B 4 6 (Qch s xs) (Qbc s xs) 6
 [(1,Qaj.old (Hint.val (Value.int IntKind.u64 s))),(2,Qaj.pure (.int .i64 (Qcf s)) [])] 0 [] []) [0,1,6,7] [(5,KS.auto),(2,KS.auto)] [] []=some ⟨157,20,Qc9,[],.run,none,Qc5 s xs (0),([5,2]:List Nat).zip (Qc6 s xs (0)),Qbx s xs (0),
 [Qa7 []/\Qas Tryz.prog J0 158 #[Value.int IntKind.u64 s] (.int .i64 (Qcf s)),IntKind.wrap IntKind.u64 s=s]⟩:=by kernel_rfl
theorem Quc (B:Lo) (s:Int) (xs:List (Row)):Qbd (Qak Tryz.prog (Qa1 Tryz.prog) J0 B 16 1 (Qai Tryz.prog 121 18 (([.int .i64 s,slT xs.length (Qac Qaz xs)]).map (Qaq 0 4))) H00 1
 (QoO s xs++[(5,Qaj.call (List.range 6) (OO.ret (.tuple #[])) ([(5,Obj.loop {state:=LoopState.ready,pending:=none,fn:=121,tmps:=(QdQ s xs),params:=#[9],assign:=nav (Qal Tryz.prog 121) [1,1,0,1,0,0],body:=nav (Qal Tryz.prog 121) [1,1,0,1,0,1],defers:=4}),(2,Obj.cells #[.slice none 0 0] 63)]++(6,Qbu)::QaK 7 []) 7 [5,2])]) 0 [] []) []=some (slT 0 #[],
 [FJ Tryz.prog B (Qch s xs) (Qbc s xs) 6 (OO.ret (.tuple #[])) (([(5,Obj.loop {state:=LoopState.ready,pending:=none,fn:=121,tmps:=(QdQ s xs),params:=#[9],assign:=nav (Qal Tryz.prog 121) [1,1,0,1,0,0],body:=nav (Qal Tryz.prog 121) [1,1,0,1,0,1],defers:=4}),(2,Obj.cells #[.slice none 0 0] 63)]++((6,Qbu)::QaK (6+1) []))++Qbc s xs) 7 (List.range 6) [5,2]]++QkJ B s xs):=by kernel_rfl
set_option maxHeartbeats 4000000 in
theorem Q0j (s:Int) (xs:List (Row)) (h0:0<=s) (h1:s < 64) (hx:Qcf s<=xs.length) {B:Lo} (hJ:∀w,B.has w->J0 w):EndsT Tryz.prog B (Qai Tryz.prog 121 18 (([.int .i64 s,slT xs.length (Qac Qaz xs)]).map (Qaq 0 4))) (slT (Qax s xs 0).length (Qac Qaz (Qax s xs 0))):=by
 have hl:=QeX h0 h1
 have rj0:FJ Tryz.prog B (QhN s xs) (Qgo s xs) 3 (OO.ret (Value.func (Fn.func 157) #[] #[Qa0 3 (ptT 0 #[.int .i64 s])])) (([]++((3,Qbu)::QaK (3+1) []))++Qgo s xs) 4 (List.range 3) []:=by
  exact FinK.fjB (GoE.finK okF hJ Qab (Qan (by kernel_rfl)) (Qag (by kernel_rfl)) ((GoE.refl (P:=Tryz.prog) (B:=B) (c0:=QhN s xs) (Qan (by kernel_rfl))).widen (Wf:=((([]):List (Nat×KS)).map (·.1))) (by simp) (Qag (by kernel_rfl))) (Qvj B s xs)
   ⟨(Qf9 (by kernel_rfl)),trivial⟩) (ex:=[]) (by kernel_rfl) (Qb3 _)
 have hp0:Qa7 (QkJ B s xs):=by
  exact ⟨rj0,trivial⟩
 cases q0: !List.isEmpty ([]++Qax s xs 0) with
 | true=>
   have rj1:FJ Tryz.prog B (Qch s xs) (Qbc s xs) 6 (OO.ret (.tuple #[])) (([(5,Obj.loop {state:=LoopState.ready,pending:=none,fn:=121,tmps:=#[.int .i64 s,Qa0 0 (slT xs.length (Qac Qaz xs)),.tuple #[],pA 1 0,.slice none 0 0,pA 2 0,.tuple #[],.int .i64 s,Value.func (Fn.func 157) #[] #[Qa0 3 (ptT 0 #[.int .i64 s])],.tuple #[],.tuple #[],.tuple #[],.tuple #[],.tuple #[],.tuple #[],.tuple #[],.tuple #[],.tuple #[]],params:=#[9],assign:=nav (Qal Tryz.prog 121) [1,1,0,1,0,0],body:=nav (Qal Tryz.prog 121) [1,1,0,1,0,1],defers:=4}),(2,Obj.cells #[.slice (some {block:=7,off:=0}) (List.length ([]++Qax s xs 0)) 1] 63)]++((6,Qbu)::QaK (6+1) [Obj.cells (Qac (Qa5 0 Qaz) ([]++Qax s xs 0)) 22]))++Qbc s xs) 8 (List.range 6) [5,2]:=by
    exact FinK.fjB ((Qj1 s xs h0 h1 hx hJ _).1 (0) true q0 rfl (by omega)
     (GoE.landA okF hJ Qab (Qan (by kernel_rfl)) (Qag (by kernel_rfl)) ((GoE.refl (P:=Tryz.prog) (B:=B) (c0:=Qch s xs) (Qan (by kernel_rfl))).widen (Wf:=((([(5,KS.auto),(2,KS.auto)]):List (Nat×KS)).map (·.1))) (by simp) (Qag (by kernel_rfl))) (QxT B s xs)
     ⟨⟨trivial,Q36 (s) (by with_reducible assumption) (by with_reducible assumption)⟩,⟨(IntWalk.u64_in _ ⟨by omega,by omega⟩),trivial⟩⟩ (by kernel_rfl) (by kernel_rfl) (fun l hl=> by cases hl <;> decide))) (ex:=[]) (by kernel_rfl) (Qb3 _)
   exact (GoE.endsT okF hJ Qab GoE.start (Qu2 B s xs)
    ⟨(Qdm (QaT (fun _=> rfl)) (List.Mem.head _)),⟨rj1,hp0⟩⟩).cast (by rfl)
 | false=>
   have rj1:FJ Tryz.prog B (Qch s xs) (Qbc s xs) 6 (OO.ret (.tuple #[])) (([(5,Obj.loop {state:=LoopState.ready,pending:=none,fn:=121,tmps:=#[.int .i64 s,Qa0 0 (slT xs.length (Qac Qaz xs)),.tuple #[],pA 1 0,.slice none 0 0,pA 2 0,.tuple #[],.int .i64 s,Value.func (Fn.func 157) #[] #[Qa0 3 (ptT 0 #[.int .i64 s])],.tuple #[],.tuple #[],.tuple #[],.tuple #[],.tuple #[],.tuple #[],.tuple #[],.tuple #[],.tuple #[]],params:=#[9],assign:=nav (Qal Tryz.prog 121) [1,1,0,1,0,0],body:=nav (Qal Tryz.prog 121) [1,1,0,1,0,1],defers:=4}),(2,Obj.cells #[.slice none 0 0] 63)]++((6,Qbu)::QaK (6+1) []))++Qbc s xs) 7 (List.range 6) [5,2]:=by
    exact FinK.fjB ((Qj1 s xs h0 h1 hx hJ _).1 (0) false q0 rfl (by omega)
     (GoE.landA okF hJ Qab (Qan (by kernel_rfl)) (Qag (by kernel_rfl)) ((GoE.refl (P:=Tryz.prog) (B:=B) (c0:=Qch s xs) (Qan (by kernel_rfl))).widen (Wf:=((([(5,KS.auto),(2,KS.auto)]):List (Nat×KS)).map (·.1))) (by simp) (Qag (by kernel_rfl))) (Qtj B s xs)
     ⟨⟨trivial,Q36 (s) (by with_reducible assumption) (by with_reducible assumption)⟩,⟨(IntWalk.u64_in _ ⟨by omega,by omega⟩),trivial⟩⟩ (by kernel_rfl) (by kernel_rfl) (fun l hl=> by cases hl <;> decide))) (ex:=[]) (by kernel_rfl) (Qb3 _)
   exact (GoE.endsT okF hJ Qab GoE.start (Quc B s xs)
    ⟨rj1,hp0⟩).cast (by (rw [Q3u q0];rfl))
theorem Q2U (s:Int) (xs:List (Row)) (h0:0<=s) (h1:s < 64) (hx:Qcf s<=xs.length):Qas Tryz.prog J0 121 #[.int .i64 s,slT xs.length (Qac Qaz xs)] (slT (Qax s xs 0).length (Qac Qaz (Qax s xs 0))):=
 QaE (ts:=[.int .i64 s,slT xs.length (Qac Qaz xs)]) Qb8 (c0:=Qai Tryz.prog 121 18 (([.int .i64 s,slT xs.length (Qac Qaz xs)]).map (Qaq 0 4))) (by kernel_rfl) (by kernel_rfl) fun B hJ=> Q0j s xs h0 h1 hx hJ
end
end Go.Proofs.YtiabgkiccaodmaaGreat

