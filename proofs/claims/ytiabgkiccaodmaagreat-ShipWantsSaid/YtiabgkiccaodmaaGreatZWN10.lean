/- The first day on which goods are wanting. -/
import Derived.Test.YtiabgkiccaodmaaGreatZWN09
set_option linter.all false
namespace Go.Proofs.YtiabgkiccaodmaaGreat
open Go Go.CE Go.RowKit
noncomputable section
set_option maxRecDepth 100000
structure Gd where
 stock:Int
 use:Int
 br:Int
 ships:List Bool
deriving Inhabited
def Qco (g:Gd):List Value:=[.int .i64 g.stock,.int .i64 g.use,.int .i64 g.br,slB g.ships]
abbrev Qno (use left:Int):Int:=left - if use < left then use else left
def Qbm (use br:Int):List Bool->Int->Int->Int
 | [],_,_=> -1
 | c::cs,day,left=> bif decide ((left+bif c then br else 0) < use) then day else Qbm use br cs (day+1) (Qno use (left+bif c then br else 0))
def QiL (use br:Int):List Bool->Int->Int
 | [],left=> left
 | c::cs,left=> QiL use br cs (Qno use (left+bif c then br else 0))
def gdB (g:Gd):Prop:=0<=g.stock/\g.stock<=1000000000/\0<=g.use/\g.use<=1000000000/\0<=g.br/\g.br<=1000000000/\g.ships.length<=1000
theorem QcD {use br:Int} {l:List Bool} {i left:Int} (h0:0<=i) (h:i < l.length):Qbm use br (l.drop i.toNat) i left=bif decide ((left+bif l.getD i.toNat default then br else 0) < use) then i else Qbm use br (l.drop (i+1).toNat) (i+1) (Qno use (left+bif l.getD i.toNat default then br else 0)):=by
 obtain ⟨k,rfl⟩:∃k:Nat,i=k:=⟨i.toNat,by omega⟩
 have hk:k < l.length:=by omega
 have e1:((k:Int)).toNat=k:=by omega
 have e2:((k:Int)+1).toNat=k+1:=by omega
 rw [e1,e2,List.drop_eq_getElem_cons hk]
 simp [Qbm,List.getD_eq_getElem?_getD,hk]
theorem Qub {use br:Int} {l:List Bool} {i left:Int} (h:l.length<=i):Qbm use br (l.drop i.toNat) i left= -1:=by
 rw [List.drop_eq_nil_of_le (by omega)];rfl
theorem Qds {use br:Int} {l:List Bool} {i left:Int} (h0:0<=i) (h:i < l.length):QiL use br (l.drop i.toNat) left=QiL use br (l.drop (i+1).toNat) (Qno use (left+bif l.getD i.toNat default then br else 0)):=by
 obtain ⟨k,rfl⟩:∃k:Nat,i=k:=⟨i.toNat,by omega⟩
 have hk:k < l.length:=by omega
 have e1:((k:Int)).toNat=k:=by omega
 have e2:((k:Int)+1).toNat=k+1:=by omega
 rw [e1,e2,List.drop_eq_getElem_cons hk]
 simp [QiL,List.getD_eq_getElem?_getD,hk]
theorem QyA {use br:Int} {l:List Bool} {i left:Int} (h:l.length<=i):QiL use br (l.drop i.toNat) left=left:=by
 rw [List.drop_eq_nil_of_le (by omega)];rfl
theorem Qjh {use br:Int}:∀(l:List Bool) (day left:Int),0<=day->Qbm use br l day left= -1\/0<=Qbm use br l day left
 | [],_,_,_=> .inl rfl
 | c::cs,day,left,h=> by
   simp only [Qbm]
   cases decide ((left+bif c then br else 0) < use) with
   | true=> exact .inr h
   | false=> exact Qjh cs _ _ (by omega)
def QaT (g:Gd):Qaw:=[(2,Obj.cells #[.int .i64 0] 3),(1,Obj.cells #[.int .i64 g.stock,.int .i64 g.use,.int .i64 g.br,Qay 0 (slT g.ships.length (Qab Qgm g.ships))] 129),(0,Obj.coro none)]
def QbC (g:Gd):CF:=⟨126,ofList 38 [.agg #[.int .i64 g.stock,.int .i64 g.use,.int .i64 g.br,Qay 0 (slT g.ships.length (Qab Qgm g.ships))],Value.func (Fn.func 149) #[] #[]],[Item.code (Qaq Tryz.prog 126)],[],.run,none⟩
def Qbj (g:Gd) (i left:Int):List Value:=[Value.func (Fn.func 149) #[] #[],pA 4 0,.int .i64 left,Qay 0 (slT g.ships.length (Qab Qgm g.ships)),.int .i64 (↑g.ships.length:Int),.int .i64 i]
def Qbk (g:Gd) (i left:Int):List Obj:=[]
def QaN (g:Gd) (i left:Int):List Obj:=[Obj.cells #[.int .i64 g.stock,.int .i64 g.use,.int .i64 g.br,Qay 0 (slT g.ships.length (Qab Qgm g.ships))] 129]
def Qbi:List Item:=([.code [1,1,0,1,0,0],.inLoop [1,1,0,1,0,0],.inBlock 0,.code [1,1,1]]).map (it (Qaq Tryz.prog 126))
def QgL (B:Lo) (g:Gd) (i left:Int) (dJ0:Nat->Value):List Prop:=[ltq i (↑g.ships.length:Int)=true]++([]:List Prop)
def QjU (g:Gd) (i left:Int) (dJ0:Nat->Value):Qa7:=[(0,hvT)]
def QgJ (B:Lo) (g:Gd) (i left:Int) (dJ0:Nat->Value):List Prop:=[wq (left+g.br)=left+g.br,i=(↑i.toNat:Int)/\Int.toNat i < List.length g.ships/\Array.extract (Qab Qgm g.ships) (Int.toNat i * TypeInfo.size Tryz.t4) (Int.toNat i * TypeInfo.size Tryz.t4+TypeInfo.size Tryz.t4)=#[.bool true]]++QgL B g i left dJ0
def QjT (g:Gd) (i left:Int) (dJ0:Nat->Value):Qa7:=QjU g i left dJ0++[(2,Qah.tidx i.toNat #[.bool true]),(10,hvI (left+g.br))]
def Qej (g:Gd) (i left:Int) (dJ0:Nat->Value):Qaw:=[(3,Obj.coro none),(4,Obj.cells #[.int .i64 g.stock,.int .i64 g.use,.int .i64 g.br,Qay 0 (slT g.ships.length (Qab Qgm g.ships))] 129),(2,Obj.cells #[.int .i64 0] 3),(1,Obj.cells #[.int .i64 g.stock,.int .i64 g.use,.int .i64 g.br,Qay 0 (slT g.ships.length (Qab Qgm g.ships))] 129),(0,Obj.coro none)]
def QeW (g:Gd) (i left:Int) (dJ0:Nat->Value):CF:=⟨149,ofList 4 [.int .i64 i],[Item.code (Qaq Tryz.prog 149)],[],.run,none⟩
theorem Qq6 (B:Lo) (g:Gd) (i left:Int) (dJ0:Nat->Value):CE.finK 5 (Qan Tryz.prog (Qa6 Tryz.prog) J0 B 2 5 (QeW g i left dJ0) (Qej g i left dJ0) 5
 [] 0 [] []) [] [] []=some (OO.pan (Value.iface 183 (.int .i64 i)),[],[],
 []):=by kernel_rfl
theorem QpD (B:Lo) (g:Gd) (i left:Int) (dJ0:Nat->Value):CE.finK 3 (Qan Tryz.prog (Qa6 Tryz.prog) J0 B 20 3 (Qcs (none) 126 38 (([1,2,5,11,12,13]:List Nat).zip (Qbj g i left)) dJ0 Qbi) (Qb9 (QaT g) 3 (([]:List Nat).zip (Qbk g i left)) (QaN g i left)) (3+1+(QaN g i left).length)
 (QjT g i left dJ0++[(15,hvT),(18,Qah.call (List.range 5) (OO.pan (Value.iface 183 (.int .i64 i))) ([]++(5,Qb1)::QaS 6 []) 6 [])]) 0 [] []) [] [] []=some (OO.pan (Value.iface 183 (.int .i64 i)),[],[],
 [FJ Tryz.prog B (QeW g i left dJ0) (Qej g i left dJ0) 5 (OO.pan (Value.iface 183 (.int .i64 i))) (([]++((5,Qb1)::QaS (5+1) []))++Qej g i left dJ0) 6 (List.range 5) [],ltq (left+g.br) g.use=true]++QgJ B g i left dJ0):=by kernel_rfl
theorem Qrb (B:Lo) (g:Gd) (i left:Int) (dJ0:Nat->Value):CE.landA 3 (Qan Tryz.prog (Qa6 Tryz.prog) J0 B 23 3 (Qcs (none) 126 38 (([1,2,5,11,12,13]:List Nat).zip (Qbj g i left)) dJ0 Qbi) (Qb9 (QaT g) 3 (([]:List Nat).zip (Qbk g i left)) (QaN g i left)) (3+1+(QaN g i left).length)
 (QjT g i left dJ0++[(15,hvF),(21,hvI (left+g.br - if g.use < left+g.br then g.use else left+g.br)),(23,hvI (i+1))]) 0 [] []) [1,2,5,11,12,13] [] [(4,KS.auto)] []=some ⟨126,38,Qbi,[],.run,none,Qbj g (i+1) (left+g.br - if g.use < left+g.br then g.use else left+g.br),([]:List Nat).zip (Qbk g (i+1) (left+g.br - if g.use < left+g.br then g.use else left+g.br)),QaN g (i+1) (left+g.br - if g.use < left+g.br then g.use else left+g.br),
 [wq (i+1)=i+1,wq (left+g.br - if g.use < left+g.br then g.use else left+g.br)=left+g.br - if g.use < left+g.br then g.use else left+g.br,ltq (left+g.br) g.use=false]++QgJ B g i left dJ0⟩:=by kernel_rfl
def Qg3 (B:Lo) (g:Gd) (i left:Int) (dJ0:Nat->Value):List Prop:=[i=(↑i.toNat:Int)/\Int.toNat i < List.length g.ships/\Array.extract (Qab Qgm g.ships) (Int.toNat i * TypeInfo.size Tryz.t4) (Int.toNat i * TypeInfo.size Tryz.t4+TypeInfo.size Tryz.t4)=#[.bool false]]++QgL B g i left dJ0
def QjZ (g:Gd) (i left:Int) (dJ0:Nat->Value):Qa7:=QjU g i left dJ0++[(2,Qah.tidx i.toNat #[.bool false])]
def Qes (g:Gd) (i left:Int) (dJ0:Nat->Value):Qaw:=[(3,Obj.coro none),(4,Obj.cells #[.int .i64 g.stock,.int .i64 g.use,.int .i64 g.br,Qay 0 (slT g.ships.length (Qab Qgm g.ships))] 129),(2,Obj.cells #[.int .i64 0] 3),(1,Obj.cells #[.int .i64 g.stock,.int .i64 g.use,.int .i64 g.br,Qay 0 (slT g.ships.length (Qab Qgm g.ships))] 129),(0,Obj.coro none)]
def Qfl (g:Gd) (i left:Int) (dJ0:Nat->Value):CF:=⟨149,ofList 4 [.int .i64 i],[Item.code (Qaq Tryz.prog 149)],[],.run,none⟩
theorem QpC (B:Lo) (g:Gd) (i left:Int) (dJ0:Nat->Value):CE.finK 5 (Qan Tryz.prog (Qa6 Tryz.prog) J0 B 2 5 (Qfl g i left dJ0) (Qes g i left dJ0) 5
 [] 0 [] []) [] [] []=some (OO.pan (Value.iface 183 (.int .i64 i)),[],[],
 []):=by kernel_rfl
theorem QqI (B:Lo) (g:Gd) (i left:Int) (dJ0:Nat->Value):CE.finK 3 (Qan Tryz.prog (Qa6 Tryz.prog) J0 B 20 3 (Qcs (none) 126 38 (([1,2,5,11,12,13]:List Nat).zip (Qbj g i left)) dJ0 Qbi) (Qb9 (QaT g) 3 (([]:List Nat).zip (Qbk g i left)) (QaN g i left)) (3+1+(QaN g i left).length)
 (QjZ g i left dJ0++[(10,hvT),(13,Qah.call (List.range 5) (OO.pan (Value.iface 183 (.int .i64 i))) ([]++(5,Qb1)::QaS 6 []) 6 [])]) 0 [] []) [] [] []=some (OO.pan (Value.iface 183 (.int .i64 i)),[],[],
 [FJ Tryz.prog B (Qfl g i left dJ0) (Qes g i left dJ0) 5 (OO.pan (Value.iface 183 (.int .i64 i))) (([]++((5,Qb1)::QaS (5+1) []))++Qes g i left dJ0) 6 (List.range 5) [],ltq left g.use=true]++Qg3 B g i left dJ0):=by kernel_rfl
theorem Qrq (B:Lo) (g:Gd) (i left:Int) (dJ0:Nat->Value):CE.landA 3 (Qan Tryz.prog (Qa6 Tryz.prog) J0 B 23 3 (Qcs (none) 126 38 (([1,2,5,11,12,13]:List Nat).zip (Qbj g i left)) dJ0 Qbi) (Qb9 (QaT g) 3 (([]:List Nat).zip (Qbk g i left)) (QaN g i left)) (3+1+(QaN g i left).length)
 (QjZ g i left dJ0++[(10,hvF),(16,hvI (left - if g.use < left then g.use else left)),(18,hvI (i+1))]) 0 [] []) [1,2,5,11,12,13] [] [(4,KS.auto)] []=some ⟨126,38,Qbi,[],.run,none,Qbj g (i+1) (left - if g.use < left then g.use else left),([]:List Nat).zip (Qbk g (i+1) (left - if g.use < left then g.use else left)),QaN g (i+1) (left - if g.use < left then g.use else left),
 [wq (i+1)=i+1,wq (left - if g.use < left then g.use else left)=left - if g.use < left then g.use else left,ltq left g.use=false]++Qg3 B g i left dJ0⟩:=by kernel_rfl
theorem QqJ (B:Lo) (g:Gd) (i left:Int) (dJ0:Nat->Value):CE.finK 3 (Qan Tryz.prog (Qa6 Tryz.prog) J0 B 9 3 (Qcs (none) 126 38 (([1,2,5,11,12,13]:List Nat).zip (Qbj g i left)) dJ0 Qbi) (Qb9 (QaT g) 3 (([]:List Nat).zip (Qbk g i left)) (QaN g i left)) (3+1+(QaN g i left).length)
 [(0,hvF)] 0 [] []) [] [] []=some (OO.ret (.int .i64 left),[],[],
 [ltq i (↑g.ships.length:Int)=false]):=by kernel_rfl
set_option maxHeartbeats 4000000 in
theorem Qg1 (g:Gd) (hg:gdB g) {B:Lo} (hJ:∀w,B.has w->J0 w):∀m:Nat,(∀(i left:Int),∀(r:Bool),(decide (0<=Qbm g.use g.br (g.ships.drop i.toNat) i left))=r->(g.ships.length - i.toNat)=m->∀(h0:0<=i) (h1:0<=left) (h2:left<=1000000000 * (i+1)),(∃dJ0:Nat->Value,(∀t,QaP (dJ0 t))/\GoE Tryz.prog B (QbC g) (QaT g) 3 (Qcs (none) 126 38 (([1,2,5,11,12,13]:List Nat).zip (Qbj g i left)) dJ0 Qbi) (Qb9 (QaT g) 3 (([]:List Nat).zip (Qbk g i left)) (QaN g i left)) (3+1+(QaN g i left).length) ([]:List Nat))->FinK Tryz.prog B (QbC g) (QaT g) 3 (bif r then .pan (.iface 183 (.int .i64 (Qbm g.use g.br (g.ships.drop i.toNat) i left))) else .ret (.int .i64 (QiL g.use g.br (g.ships.drop i.toNat) left))) (([]:List Nat).zip ([])) ([]) ([]:List Nat)):=by
 intro m0
 induction m0 using Nat.strongRecOn with
 | _ m0 ih0=>
   intro i left r1 hr1 hm0 h0 h1 h2 ⟨dJ0,hdJ0,hg0⟩
   by_cases q0:(i:Int) < ((↑g.ships.length:Int))
   ·
    have hp0:QaB (QgL B g i left dJ0):=by
     exact ⟨(QaW q0),trivial⟩
    cases q1:g.ships.getD i.toNat default with
    | true=>
      have hp1:QaB (QgJ B g i left dJ0):=by
       unfold gdB at hg
       have s1:=QcD (use:=g.use) (br:=g.br) (l:=g.ships) (left:=left) h0 q0
       have s2:=Qds (use:=g.use) (br:=g.br) (l:=g.ships) (left:=left) h0 q0
       simp only [q1,cond_true,cond_false,Int.add_zero] at s1 s2
       exact ⟨(QaM (by omega) (by omega)),⟨⟨by first | omega | (split <;> omega),by first | omega | (split <;> omega),((Qae (z:=1) (fun _=> rfl) (by omega))).trans (by simp_all [Qgm])⟩,hp0⟩⟩
      by_cases q2:(left+g.br:Int) < g.use
      ·
       have rj2:FJ Tryz.prog B (QeW g i left dJ0) (Qej g i left dJ0) 5 (OO.pan (Value.iface 183 (.int .i64 i))) (([]++((5,Qb1)::QaS (5+1) []))++Qej g i left dJ0) 6 (List.range 5) []:=by
        unfold gdB at hg
        have s1:=QcD (use:=g.use) (br:=g.br) (l:=g.ships) (left:=left) h0 q0
        have s2:=Qds (use:=g.use) (br:=g.br) (l:=g.ships) (left:=left) h0 q0
        simp only [q1,cond_true,cond_false,Int.add_zero] at s1 s2
        rw [decide_eq_true q2,cond_true] at s1
        exact FinK.fjB (GoE.finK okF hJ Qac (Qat (by kernel_rfl)) (Qam (by kernel_rfl)) ((GoE.refl (P:=Tryz.prog) (B:=B) (c0:=QeW g i left dJ0) (Qat (by kernel_rfl))).widen (Wf:=((([]):List (Nat×KS)).map (·.1))) (by simp) (Qam (by kernel_rfl))) (Qq6 B g i left dJ0)
         trivial) (ex:=[]) (by kernel_rfl) (QbB _)
       unfold gdB at hg
       have s1:=QcD (use:=g.use) (br:=g.br) (l:=g.ships) (left:=left) h0 q0
       have s2:=Qds (use:=g.use) (br:=g.br) (l:=g.ships) (left:=left) h0 q0
       simp only [q1,cond_true,cond_false,Int.add_zero] at s1 s2
       rw [decide_eq_true q2,cond_true] at s1
       exact (GoE.finK okF hJ Qac (Qat (by kernel_rfl)) (Qam (by kernel_rfl)) hg0 (QpD B g i left dJ0)
        ⟨rj2,⟨(QaW q2),hp1⟩⟩).cast (by (subst hr1;rw [s1];simp [h0];done)) (by rfl) (by rfl)
      ·
       unfold gdB at hg
       have s1:=QcD (use:=g.use) (br:=g.br) (l:=g.ships) (left:=left) h0 q0
       have s2:=Qds (use:=g.use) (br:=g.br) (l:=g.ships) (left:=left) h0 q0
       simp only [q1,cond_true,cond_false,Int.add_zero] at s1 s2
       rw [decide_eq_false q2,cond_false] at s1
       exact ((ih0 _ (by omega)) (i+1) (left+g.br - if g.use < left+g.br then g.use else left+g.br) r1 (by rw [<-hr1,s1]) rfl (by omega) (by omega) (by omega)
        (GoE.landA okF hJ Qac (Qat (by kernel_rfl)) (Qam (by kernel_rfl)) hg0 (Qrb B g i left dJ0)
        ⟨(QaM (by omega) (by omega)),⟨(QaM (by omega) (by omega)),⟨(Qbb (Int.not_lt.1 q2)),hp1⟩⟩⟩ (by kernel_rfl) (by kernel_rfl) (fun l hl=> by cases hl <;> decide))).cast (by (rw [s1,s2];done)) (by rfl) (by rfl)
    | false=>
      have hp2:QaB (Qg3 B g i left dJ0):=by
       unfold gdB at hg
       have s1:=QcD (use:=g.use) (br:=g.br) (l:=g.ships) (left:=left) h0 q0
       have s2:=Qds (use:=g.use) (br:=g.br) (l:=g.ships) (left:=left) h0 q0
       simp only [q1,cond_true,cond_false,Int.add_zero] at s1 s2
       exact ⟨⟨by first | omega | (split <;> omega),by first | omega | (split <;> omega),((Qae (z:=1) (fun _=> rfl) (by omega))).trans (by simp_all [Qgm])⟩,hp0⟩
      by_cases q2:(left:Int) < g.use
      ·
       have rj2:FJ Tryz.prog B (Qfl g i left dJ0) (Qes g i left dJ0) 5 (OO.pan (Value.iface 183 (.int .i64 i))) (([]++((5,Qb1)::QaS (5+1) []))++Qes g i left dJ0) 6 (List.range 5) []:=by
        unfold gdB at hg
        have s1:=QcD (use:=g.use) (br:=g.br) (l:=g.ships) (left:=left) h0 q0
        have s2:=Qds (use:=g.use) (br:=g.br) (l:=g.ships) (left:=left) h0 q0
        simp only [q1,cond_true,cond_false,Int.add_zero] at s1 s2
        rw [decide_eq_true q2,cond_true] at s1
        exact FinK.fjB (GoE.finK okF hJ Qac (Qat (by kernel_rfl)) (Qam (by kernel_rfl)) ((GoE.refl (P:=Tryz.prog) (B:=B) (c0:=Qfl g i left dJ0) (Qat (by kernel_rfl))).widen (Wf:=((([]):List (Nat×KS)).map (·.1))) (by simp) (Qam (by kernel_rfl))) (QpC B g i left dJ0)
         trivial) (ex:=[]) (by kernel_rfl) (QbB _)
       unfold gdB at hg
       have s1:=QcD (use:=g.use) (br:=g.br) (l:=g.ships) (left:=left) h0 q0
       have s2:=Qds (use:=g.use) (br:=g.br) (l:=g.ships) (left:=left) h0 q0
       simp only [q1,cond_true,cond_false,Int.add_zero] at s1 s2
       rw [decide_eq_true q2,cond_true] at s1
       exact (GoE.finK okF hJ Qac (Qat (by kernel_rfl)) (Qam (by kernel_rfl)) hg0 (QqI B g i left dJ0)
        ⟨rj2,⟨(QaW q2),hp2⟩⟩).cast (by (subst hr1;rw [s1];simp [h0];done)) (by rfl) (by rfl)
      ·
       unfold gdB at hg
       have s1:=QcD (use:=g.use) (br:=g.br) (l:=g.ships) (left:=left) h0 q0
       have s2:=Qds (use:=g.use) (br:=g.br) (l:=g.ships) (left:=left) h0 q0
       simp only [q1,cond_true,cond_false,Int.add_zero] at s1 s2
       rw [decide_eq_false q2,cond_false] at s1
       exact ((ih0 _ (by omega)) (i+1) (left - if g.use < left then g.use else left) r1 (by rw [<-hr1,s1]) rfl (by omega) (by omega) (by omega)
        (GoE.landA okF hJ Qac (Qat (by kernel_rfl)) (Qam (by kernel_rfl)) hg0 (Qrq B g i left dJ0)
        ⟨(QaM (by omega) (by omega)),⟨(QaM (by omega) (by omega)),⟨(Qbb (Int.not_lt.1 q2)),hp2⟩⟩⟩ (by kernel_rfl) (by kernel_rfl) (fun l hl=> by cases hl <;> decide))).cast (by (rw [s1,s2];done)) (by rfl) (by rfl)
   ·
    unfold gdB at hg
    have s1:=Qub (use:=g.use) (br:=g.br) (l:=g.ships) (i:=i) (left:=left) (by omega)
    have s2:=QyA (use:=g.use) (br:=g.br) (l:=g.ships) (i:=i) (left:=left) (by omega)
    exact (GoE.finK okF hJ Qac (Qat (by kernel_rfl)) (Qam (by kernel_rfl)) hg0 (QqJ B g i left dJ0)
     ⟨(Qbb (Int.not_lt.1 q0)),trivial⟩).cast (by (subst hr1;rw [s1,s2];rfl)) (by rfl) (by rfl)

theorem QpH (B:Lo) (g:Gd):CE.landA 3 (Qan Tryz.prog (Qa6 Tryz.prog) J0 B 9 3 (QbC g) (QaT g) 3
 [] 0 [] []) [1,2,5,11,12,13] [] [(3,KS.auto)] []=some ⟨126,38,Qbi,[],.run,none,Qbj g (0) g.stock,([]:List Nat).zip (Qbk g (0) g.stock),QaN g (0) g.stock,
 []⟩:=by kernel_rfl
def QbE (g:Gd):Qaw:=[(2,Obj.cells #[.int .i64 0] 3),(1,Obj.cells #[.int .i64 g.stock,.int .i64 g.use,.int .i64 g.br,Qay 0 (slT g.ships.length (Qab Qgm g.ships))] 129),(0,Obj.coro none)]
def Qcl (g:Gd):CF:=⟨125,ofList 6 [.agg #[.int .i64 g.stock,.int .i64 g.use,.int .i64 g.br,Qay 0 (slT g.ships.length (Qab Qgm g.ships))],pA 1 0,pA 2 0,Value.func (Fn.func 148) #[] #[pA 2 0],.tuple #[],.tuple #[]],[Item.code (Code.seq (Code.region 2 #[{dst:=some 4,op:=Op.load 129 (Operand.tmp 1),type:=129,pos:= "goods.go:41",after:=#[],guard:=none},{dst:=some 5,op:=Op.call {callee:=Callee.value (Operand.func 126),args:=#[Operand.tmp 4,Operand.func 149],argTypes:=#[129,159]},type:=3,pos:= "goods.go:41",after:=#[{on:=0,ground:=Ground.data}],guard:=none}] false) (Code.seq (Code.region 3 #[{dst:=none,op:=Op.store 3 (Operand.tmp 2) (Operand.const (.int .i64 (-1))),type:=0,pos:= "goods.go:42",after:=#[],guard:=none}] false) Code.ret))],[],.run,none⟩
theorem Qp5 (B:Lo) (g:Gd):CE.landU 3 (Qan Tryz.prog (Qa6 Tryz.prog) J0 B 2 3 (Qcl g) (QbE g) 3
 [(1,Qah.call (List.range 3) (OO.pan (Value.iface 183 (.int .i64 (Qbm g.use g.br (List.drop (Int.toNat 0) g.ships) 0 g.stock)))) ([]++(3,Qb1)::QaS 4 []) 4 [])] 0 [] []) [2] [] [] []=some (125,6,none,OO.pan (Value.iface 183 (.int .i64 (Qbm g.use g.br (List.drop (Int.toNat 0) g.ships) 0 g.stock))),[pA 2 0],[],[],
 [FJ Tryz.prog B (QbC g) (QaT g) 3 (OO.pan (Value.iface 183 (.int .i64 (Qbm g.use g.br (List.drop (Int.toNat 0) g.ships) 0 g.stock)))) (([]++((3,Qb1)::QaS (3+1) []))++QaT g) 4 (List.range 3) []]):=by kernel_rfl
theorem Qqf (B:Lo) (g:Gd):Qbe (QwP Tryz.prog (Qa6 Tryz.prog) J0 B 3 1 (Qal Tryz.prog 125 6 (([.agg (Qco g).toArray]).map (Qav 0 4))) H00 1
 (OO.pan (Value.iface 183 (.int .i64 (Qbm g.use g.br (List.drop (Int.toNat 0) g.ships) 0 g.stock)))) (([2]:List Nat).zip [pA 2 0]) ([]++(3,Qb1)::QaS 4 []) 4 [] (.int .i64 (Qbm g.use g.br (List.drop (Int.toNat 0) g.ships) 0 g.stock)) [2]) []=some (.int .i64 (Qbm g.use g.br (List.drop (Int.toNat 0) g.ships) 0 g.stock),
 [UJ Tryz.prog B (Qcl g) (QbE g) 3 (OO.pan (Value.iface 183 (.int .i64 (Qbm g.use g.br (List.drop (Int.toNat 0) g.ships) 0 g.stock)))) (([2]:List Nat).zip [pA 2 0]) (([]++((3,Qb1)::QaS (3+1) []))++QbE g) 4 (List.range 3) [],∀d:Nat->Value,Qwx Tryz.prog 125 ([(3,Obj.coro none),(2,Obj.cells #[.int .i64 (Qbm g.use g.br (List.drop (Int.toNat 0) g.ships) 0 g.stock)] 3),(1,Obj.cells #[.int .i64 g.stock,.int .i64 g.use,.int .i64 g.br,Qay 0 (slT g.ships.length (Qab Qgm g.ships))] 129),(0,Obj.coro none)]) (mkT 6 (([2]:List Nat).zip [pA 2 0]) d)=some (.int .i64 (Qbm g.use g.br (List.drop (Int.toNat 0) g.ships) 0 g.stock),[2])]):=by kernel_rfl
theorem Qpf (B:Lo) (g:Gd):CE.landA 3 (Qan Tryz.prog (Qa6 Tryz.prog) J0 B 9 3 (QbC g) (QaT g) 3
 [] 0 [] []) [1,2,5,11,12,13] [] [(3,KS.auto)] []=some ⟨126,38,Qbi,[],.run,none,Qbj g (0) g.stock,([]:List Nat).zip (Qbk g (0) g.stock),QaN g (0) g.stock,
 []⟩:=by kernel_rfl
theorem Qol (B:Lo) (g:Gd):CE.landU 3 (Qan Tryz.prog (Qa6 Tryz.prog) J0 B 5 3 (Qcl g) (QbE g) 3
 [(1,Qah.call (List.range 3) (OO.ret (.int .i64 (QiL g.use g.br (List.drop (Int.toNat 0) g.ships) g.stock))) ([]++(3,Qb1)::QaS 4 []) 4 [])] 0 [] []) [2] [(2,KS.auto)] [] []=some (125,6,none,OO.ret (.tuple #[]),[pA 2 0],[(2,Obj.cells #[.int .i64 (-1)] 3)],[],
 [FJ Tryz.prog B (QbC g) (QaT g) 3 (OO.ret (.int .i64 (QiL g.use g.br (List.drop (Int.toNat 0) g.ships) g.stock))) (([]++((3,Qb1)::QaS (3+1) []))++QaT g) 4 (List.range 3) []]):=by kernel_rfl
theorem Qod (B:Lo) (g:Gd):Qbe (QwP Tryz.prog (Qa6 Tryz.prog) J0 B 3 1 (Qal Tryz.prog 125 6 (([.agg (Qco g).toArray]).map (Qav 0 4))) H00 1
 (OO.ret (.tuple #[])) (([2]:List Nat).zip [pA 2 0]) ([(2,Obj.cells #[.int .i64 (-1)] 3)]++(3,Qb1)::QaS 4 []) 4 [2] (.int .i64 (-1)) [2]) []=some (.int .i64 (-1),
 [UJ Tryz.prog B (Qcl g) (QbE g) 3 (OO.ret (.tuple #[])) (([2]:List Nat).zip [pA 2 0]) (([(2,Obj.cells #[.int .i64 (-1)] 3)]++((3,Qb1)::QaS (3+1) []))++QbE g) 4 (List.range 3) [2],∀d:Nat->Value,Qwx Tryz.prog 125 ([(2,Obj.cells #[.int .i64 (-1)] 3),(3,Obj.coro none),(2,Obj.cells #[.int .i64 0] 3),(1,Obj.cells #[.int .i64 g.stock,.int .i64 g.use,.int .i64 g.br,Qay 0 (slT g.ships.length (Qab Qgm g.ships))] 129),(0,Obj.coro none)]) (mkT 6 (([2]:List Nat).zip [pA 2 0]) d)=some (.int .i64 (-1),[2])]):=by kernel_rfl
set_option maxHeartbeats 4000000 in
theorem QrI (g:Gd) (hg:gdB g) {B:Lo} (hJ:∀w,B.has w->J0 w):EndsT Tryz.prog B (Qal Tryz.prog 125 6 (([.agg (Qco g).toArray]).map (Qav 0 4))) (.int .i64 (Qbm g.use g.br g.ships 0 g.stock)):=by
 cases q0:decide (0<=Qbm g.use g.br (List.drop (Int.toNat 0) g.ships) 0 g.stock) with
 | true=>
   have rj1:FJ Tryz.prog B (QbC g) (QaT g) 3 (OO.pan (Value.iface 183 (.int .i64 (Qbm g.use g.br (List.drop (Int.toNat 0) g.ships) 0 g.stock)))) (([]++((3,Qb1)::QaS (3+1) []))++QaT g) 4 (List.range 3) []:=by
    unfold gdB at hg
    exact FinK.fjB ((Qg1 g hg hJ _) (0) g.stock true q0 rfl (by omega) (by omega) (by omega)
     (GoE.landA okF hJ Qac (Qat (by kernel_rfl)) (Qam (by kernel_rfl)) ((GoE.refl (P:=Tryz.prog) (B:=B) (c0:=QbC g) (Qat (by kernel_rfl))).widen (Wf:=((([]):List (Nat×KS)).map (·.1))) (by simp) (Qam (by kernel_rfl))) (QpH B g)
     trivial (by kernel_rfl) (by kernel_rfl) (fun l hl=> by cases hl <;> decide))) (ex:=[]) (by kernel_rfl) (QbB _)
   have rj0:UJ Tryz.prog B (Qcl g) (QbE g) 3 (OO.pan (Value.iface 183 (.int .i64 (Qbm g.use g.br (List.drop (Int.toNat 0) g.ships) 0 g.stock)))) (([2]:List Nat).zip [pA 2 0]) (([]++((3,Qb1)::QaS (3+1) []))++QbE g) 4 (List.range 3) []:=by
    unfold gdB at hg
    exact FinU.ujB (GoE.landU okF hJ Qac (Qat (by kernel_rfl)) (Qam (by kernel_rfl)) ((GoE.refl (P:=Tryz.prog) (B:=B) (c0:=Qcl g) (Qat (by kernel_rfl))).widen (Wf:=((([]):List (Nat×KS)).map (·.1))) (by simp) (Qam (by kernel_rfl))) (Qp5 B g)
     (by exact ⟨rj1,trivial⟩) (by kernel_rfl) rfl) (ex:=[]) (by kernel_rfl) (QbB _)
   unfold gdB at hg
   exact (GoE.endsD okF hJ Qac GoE.start (Qqf B g)
    (by exact ⟨rj0,⟨(fun d=> by kernel_rfl),trivial⟩⟩)).cast (by rfl)
 | false=>
   have rj1:FJ Tryz.prog B (QbC g) (QaT g) 3 (OO.ret (.int .i64 (QiL g.use g.br (List.drop (Int.toNat 0) g.ships) g.stock))) (([]++((3,Qb1)::QaS (3+1) []))++QaT g) 4 (List.range 3) []:=by
    unfold gdB at hg
    exact FinK.fjB ((Qg1 g hg hJ _) (0) g.stock false q0 rfl (by omega) (by omega) (by omega)
     (GoE.landA okF hJ Qac (Qat (by kernel_rfl)) (Qam (by kernel_rfl)) ((GoE.refl (P:=Tryz.prog) (B:=B) (c0:=QbC g) (Qat (by kernel_rfl))).widen (Wf:=((([]):List (Nat×KS)).map (·.1))) (by simp) (Qam (by kernel_rfl))) (Qpf B g)
     trivial (by kernel_rfl) (by kernel_rfl) (fun l hl=> by cases hl <;> decide))) (ex:=[]) (by kernel_rfl) (QbB _)
   have rj0:UJ Tryz.prog B (Qcl g) (QbE g) 3 (OO.ret (.tuple #[])) (([2]:List Nat).zip [pA 2 0]) (([(2,Obj.cells #[.int .i64 (-1)] 3)]++((3,Qb1)::QaS (3+1) []))++QbE g) 4 (List.range 3) [2]:=by
    unfold gdB at hg
    exact FinU.ujB (GoE.landU okF hJ Qac (Qat (by kernel_rfl)) (Qam (by kernel_rfl)) ((GoE.refl (P:=Tryz.prog) (B:=B) (c0:=Qcl g) (Qat (by kernel_rfl))).widen (Wf:=((([(2,KS.auto)]):List (Nat×KS)).map (·.1))) (by simp) (Qam (by kernel_rfl))) (Qol B g)
     (by exact ⟨rj1,trivial⟩) (by kernel_rfl) rfl) (ex:=[]) (by kernel_rfl) (QbB _)
   unfold gdB at hg
   exact (GoE.endsD okF hJ Qac GoE.start (Qod B g)
    (by exact ⟨rj0,⟨(fun d=> by kernel_rfl),trivial⟩⟩)).cast (by (rcases Qjh (use:=g.use) (br:=g.br) g.ships 0 g.stock (by omega) with h | h <;> simp_all;done))
theorem Qvt (g:Gd) (hg:gdB g):Qau Tryz.prog J0 125 #[.agg (Qco g).toArray] (.int .i64 (Qbm g.use g.br g.ships 0 g.stock)):=
 QaF (ts:=[.agg (Qco g).toArray]) Qbw (c0:=Qal Tryz.prog 125 6 (([.agg (Qco g).toArray]).map (Qav 0 4))) (by kernel_rfl) (by kernel_rfl) fun B hJ=> QrI g hg hJ

end
end Go.Proofs.YtiabgkiccaodmaaGreat

namespace Go.Proofs.YtiabgkiccaodmaaGreat
open Go Go.CE Go.RowKit
set_option maxRecDepth 100000
def Qpl (s n:Int):Int:=((orN s ((QsF n:Nat):Int):Nat):Int)
def Qk0 (s n:Int):Bool:=decide (((Q1R ((Qsq s n:Nat):Int) 1:Nat):Int)=1)
theorem QoB {s n:Int}:Qk0 s n=s.toNat.testBit n.toNat:=by
 unfold Qk0 Q1R Qsq
 rw [Int.toNat_natCast,show (1:Int).toNat=1 from rfl,Nat.and_one_is_mod,Nat.shiftRight_eq_div_pow,Nat.testBit_eq_decide_div_mod_eq]
 exact decide_eq_decide.2 (by omega)
def Qbp:List Int->Int->Int
 | [],s=> s
 | n::l,s=> Qbp l (Qpl s n)
theorem Qv3 {s n:Int} {k:Nat} (h0:0<=s) (h:s < 2 ^ k) (hn:n.toNat < k):Qpl s n < 2 ^ k:=by
 obtain ⟨b,rfl⟩:∃b:Nat,s=b:=⟨s.toNat,by omega⟩
 have e:(2:Int) ^ k=((2 ^ k:Nat):Int):=by rw [Int.natCast_pow];rfl
 rw [e] at h ⊢
 have h':b < 2 ^ k:=by exact_mod_cast h
 have:b ||| 2 ^ n.toNat < 2 ^ k:=Nat.or_lt_two_pow h' (Nat.pow_lt_pow_right (by decide) hn)
 unfold Qpl orN QsF
 rw [Int.toNat_natCast,Int.toNat_natCast]
 exact_mod_cast this
theorem Qyl {l:List Int} {i s:Int} (h0:0<=i) (h:i < l.length):Qbp (l.drop i.toNat) s=Qbp (l.drop (i+1).toNat) (Qpl s (l.getD i.toNat default)):=by
 obtain ⟨k,rfl⟩:∃k:Nat,i=k:=⟨i.toNat,by omega⟩
 have hk:k < l.length:=by omega
 have e1:((k:Int)).toNat=k:=by omega
 have e2:((k:Int)+1).toNat=k+1:=by omega
 rw [e1,e2,List.drop_eq_getElem_cons hk]
 simp [Qbp,List.getD_eq_getElem?_getD,hk]
theorem Q0s {l:List Int} {i s:Int} (h:l.length<=i):Qbp (l.drop i.toNat) s=s:=by
 rw [List.drop_eq_nil_of_le (by omega)];rfl
theorem QzK (B:Lo) (s n:Int):Qbe (Qan Tryz.prog (Qa6 Tryz.prog) J0 B 6 1 (Qal Tryz.prog 146 9 (([.int .i64 s,.int .i64 n]).map (Qav 0 4))) H00 1
 [(3,Qah.bin (.int .i64 (↑(QsF n):Int))),(4,Qah.bin (.int .i64 (↑(orN s (↑(QsF n):Int)):Int)))] 0 [] []) []=some (.int .i64 (↑(orN s (↑(QsF n):Int)):Int),
 [Qlk Tryz.prog BinOp.or 120 (Qca {len:=16000,tr:=Tri.set 14 (Tri.set 14 Tri.lf 7 (.int .i64 (↑(QsF n):Int))) 5 (.int .i64 s)} 5) (Qca {len:=16000,tr:=Tri.set 14 (Tri.set 14 Tri.lf 7 (.int .i64 (↑(QsF n):Int))) 5 (.int .i64 s)} 7) (.int .i64 (↑(orN s (↑(QsF n):Int)):Int)),Qlk Tryz.prog BinOp.shl 120 (.int .i64 1) (Qca {len:=16000,tr:=Tri.set 14 Tri.lf 6 (.int .i64 n)} 6) (.int .i64 (↑(QsF n):Int))]):=by kernel_rfl
set_option maxHeartbeats 4000000 in
theorem Q2N (s n:Int) (hn:0<=n/\n<=61) (hs:0<=s/\s<=4611686018427387904) {B:Lo} (hJ:∀w,B.has w->J0 w):EndsT Tryz.prog B (Qal Tryz.prog 146 9 (([.int .i64 s,.int .i64 n]).map (Qav 0 4))) (.int .i64 (Qpl s n)):=by
 have e1:=Q2X (n:=n) (by omega)
 exact (GoE.endsT okF hJ Qac GoE.start (QzK B s n)
  ⟨(Q40 (by omega) (by omega) (by omega) (by omega)),⟨(Q0J (by omega) (by omega)),trivial⟩⟩).cast (by rfl)
theorem Q57 (s n:Int) (hn:0<=n/\n<=61) (hs:0<=s/\s<=4611686018427387904):Qau Tryz.prog J0 146 #[.int .i64 s,.int .i64 n] (.int .i64 (Qpl s n)):=
 QaF (ts:=[.int .i64 s,.int .i64 n]) Qbw (c0:=Qal Tryz.prog 146 9 (([.int .i64 s,.int .i64 n]).map (Qav 0 4))) (by kernel_rfl) (by kernel_rfl) fun B hJ=> Q2N s n hn hs hJ
noncomputable def QrP (B:Lo) (s n:Int):List Prop:=[Qlk Tryz.prog BinOp.and 120 (Qca {len:=16000,tr:=Tri.set 14 Tri.lf 7 (.int .i64 (↑(Qsq s n):Int))} 7) (.int .i64 1) (.int .i64 (↑(Q1R (↑(Qsq s n):Int) 1):Int)),Qlk Tryz.prog BinOp.shr 120 (Qca {len:=16000,tr:=Tri.set 14 (Tri.set 14 Tri.lf 6 (.int .i64 n)) 5 (.int .i64 s)} 5) (Qca {len:=16000,tr:=Tri.set 14 (Tri.set 14 Tri.lf 6 (.int .i64 n)) 5 (.int .i64 s)} 6) (.int .i64 (↑(Qsq s n):Int))]++([]:List Prop)
noncomputable def QwL (s n:Int):Qa7:=[(3,Qah.bin (.int .i64 (↑(Qsq s n):Int))),(4,Qah.bin (.int .i64 (↑(Q1R (↑(Qsq s n):Int) 1):Int)))]
theorem Q3d (B:Lo) (s n:Int):Qbe (Qan Tryz.prog (Qa6 Tryz.prog) J0 B 6 1 (Qal Tryz.prog 159 10 (([.int .i64 s,.int .i64 n]).map (Qav 0 4))) H00 1
 (QwL s n++[(5,hvT)]) 0 [] []) []=some (.bool true,
 [eqq (↑(Q1R (↑(Qsq s n):Int) 1):Int) 1=true]++QrP B s n):=by kernel_rfl
theorem Q2K (B:Lo) (s n:Int):Qbe (Qan Tryz.prog (Qa6 Tryz.prog) J0 B 6 1 (Qal Tryz.prog 159 10 (([.int .i64 s,.int .i64 n]).map (Qav 0 4))) H00 1
 (QwL s n++[(5,hvF)]) 0 [] []) []=some (.bool false,
 [eqq (↑(Q1R (↑(Qsq s n):Int) 1):Int) 1=false]++QrP B s n):=by kernel_rfl
set_option maxHeartbeats 4000000 in
theorem Q4V (s n:Int) (hn:0<=n/\n<=61) (hs:0<=s/\s<=4611686018427387904) {B:Lo} (hJ:∀w,B.has w->J0 w):EndsT Tryz.prog B (Qal Tryz.prog 159 10 (([.int .i64 s,.int .i64 n]).map (Qav 0 4))) (.bool (Qk0 s n)):=by
 have e1:Qsq s n<=s.toNat:=Q2H
 have hp0:QaB (QrP B s n):=by
  exact ⟨(Q3h (by omega) (by omega) (by omega) (by omega)),⟨(Q2B (by omega) (by omega) (by omega)),trivial⟩⟩
 by_cases q0:((↑(Q1R (↑(Qsq s n):Int) 1):Int):Int)=(1)
 ·
  exact (GoE.endsT okF hJ Qac GoE.start (Q3d B s n)
   ⟨(Quc q0),hp0⟩).cast (by (simp [Qk0, *];done))
 ·
  exact (GoE.endsT okF hJ Qac GoE.start (Q2K B s n)
   ⟨(QtU q0),hp0⟩).cast (by (simp [Qk0, *];done))
theorem Q2k (s n:Int) (hn:0<=n/\n<=61) (hs:0<=s/\s<=4611686018427387904):Qau Tryz.prog J0 159 #[.int .i64 s,.int .i64 n] (.bool (Qk0 s n)):=
 QaF (ts:=[.int .i64 s,.int .i64 n]) Qbw (c0:=Qal Tryz.prog 159 10 (([.int .i64 s,.int .i64 n]).map (Qav 0 4))) (by kernel_rfl) (by kernel_rfl) fun B hJ=> Q4V s n hn hs hJ
def Qpn (xs:List Int) (i s:Int):List Value:=[.int .i64 s,Qay 1 (slT xs.length (Qab Qag xs)),.int .i64 (↑xs.length:Int),.int .i64 i]
def Qkm (xs:List Int) (i s:Int):List Obj:=[]
noncomputable def QqF:List Item:=([.code [1,1,0,1,0,0],.inLoop [1,1,0,1,0,0],.inBlock 0,.code [1,1,1]]).map (it (Qaq Tryz.prog 116))
def Q4r (B:Lo) (c0:CF) (xs:List Int) (i s:Int):Prop:=∃dJ:Nat->Value,(∀t,QaP (dJ t))/\GoE Tryz.prog B c0 H00 1 (Qa2 116 17 (([3,6,7,8]:List Nat).zip (Qpn xs i s)) dJ QqF) (Qaz (Qkm xs i s)) (2+(Qkm xs i s).length) []
theorem Q3Y (B:Lo) (xs:List Int) (i s:Int) (dJ0:Nat->Value):landM (Qan Tryz.prog (Qa6 Tryz.prog) J0 B 13 1 (Qa2 116 17 (([3,6,7,8]:List Nat).zip (Qpn xs i s)) dJ0 QqF) (Qaz (Qkm xs i s)) (2+(Qkm xs i s).length)
 [(0,hvT),(1,Qah.tidx i.toNat #[.int .i64 (xs.getD i.toNat default)]),(6,Qah.pure (.int .i64 (Qpl s (xs.getD i.toNat default))) []),(8,hvI (i+1))] 0 [] []) [3,6,7,8] [] []=some ⟨116,17,QqF,[],.run,none,Qpn xs (i+1) (Qpl s (xs.getD i.toNat default)),Qkm xs (i+1) (Qpl s (xs.getD i.toNat default)),
 [wq (i+1)=i+1,QaB []/\Qau Tryz.prog J0 146 #[.int .i64 s,.int .i64 (xs.getD i.toNat default)] (.int .i64 (Qpl s (xs.getD i.toNat default))),i=(↑i.toNat:Int)/\Int.toNat i < List.length xs/\Array.extract (Qab Qag xs) (Int.toNat i * TypeInfo.size Tryz.t3) (Int.toNat i * TypeInfo.size Tryz.t3+TypeInfo.size Tryz.t3)=#[.int .i64 (xs.getD i.toNat default)],ltq i (↑xs.length:Int)=true]⟩:=by kernel_rfl
theorem Q3R (B:Lo) (xs:List Int) (i s:Int) (dJ0:Nat->Value):Qbe (Qan Tryz.prog (Qa6 Tryz.prog) J0 B 9 1 (Qa2 116 17 (([3,6,7,8]:List Nat).zip (Qpn xs i s)) dJ0 QqF) (Qaz (Qkm xs i s)) (2+(Qkm xs i s).length)
 [(0,hvF)] 0 [] []) []=some (.int .i64 s,
 [ltq i (↑xs.length:Int)=false]):=by kernel_rfl
theorem Q45 (B:Lo) (xs:List Int):landM (Qan Tryz.prog (Qa6 Tryz.prog) J0 B 9 1 (Qal Tryz.prog 116 17 (([slI xs]).map (Qav 0 4))) H00 1
 [] 0 [] []) [3,6,7,8] [] []=some ⟨116,17,QqF,[],.run,none,Qpn xs (0) (0),Qkm xs (0) (0),
 []⟩:=by kernel_rfl
set_option maxHeartbeats 4000000 in
theorem Q4e (xs:List Int) (hx:∀x∈xs,0<=x/\x<=61) (hfacts:xs.length<=9223372036854775807) {B:Lo} (hJ:∀w,B.has w->J0 w) {c0:CF}:∀m:Nat,(∀(i s:Int),(xs.length - i.toNat)=m->∀(h0:0<=i) (h1:0<=s) (h2:s < 4611686018427387904),Q4r B c0 xs i s->EndsT Tryz.prog B c0 (.int .i64 (Qbp (xs.drop i.toNat) s))):=by
 intro m0
 induction m0 using Nat.strongRecOn with
 | _ m0 ih0=>
   intro i s hm0 h0 h1 h2 ⟨dJ0,hdJ0,hg0⟩
   by_cases q0:(i:Int) < ((↑xs.length:Int))
   ·
    have s2:=Qyl (l:=xs) (s:=s) h0 q0
    have hm:=hx (xs.getD i.toNat default) (by rw [List.getD_eq_getElem?_getD,List.getElem?_eq_getElem (by omega)];exact List.getElem_mem _)
    have hw:=Qv3 (s:=s) (n:=xs.getD i.toNat default) (k:=62) h1 (by omega) (by omega)
    have hw0:0<=Qpl s (xs.getD i.toNat default):=Int.natCast_nonneg _
    exact ((ih0 _ (by omega)) (i+1) (Qpl s (xs.getD i.toNat default)) rfl (by omega) (by with_reducible assumption) (by omega)
     (hg0.landM okF hJ Qac (Q3Y B xs i s dJ0)
     ⟨(QaM (by omega) (by omega)),⟨⟨trivial,Q57 (s) (xs.getD i.toNat default) (by with_reducible assumption) (by omega)⟩,⟨⟨by omega,by omega,(Qae (z:=1) (fun _=> rfl) (by omega))⟩,⟨(QaW q0),trivial⟩⟩⟩⟩ (by kernel_rfl) (by kernel_rfl))).cast (by (rw [s2];done))
   ·
    have s2:=Q0s (l:=xs) (i:=i) (s:=s) (by omega)
    have hw0:0<=Qpl s (xs.getD i.toNat default):=Int.natCast_nonneg _
    exact (GoE.endsT okF hJ Qac hg0 (Q3R B xs i s dJ0)
     ⟨(Qbb (Int.not_lt.1 q0)),trivial⟩).cast (by (rw [s2];done))
set_option maxHeartbeats 4000000 in
theorem Q5k (xs:List Int) (hx:∀x∈xs,0<=x/\x<=61) (hfacts:xs.length<=9223372036854775807) {B:Lo} (hJ:∀w,B.has w->J0 w):EndsT Tryz.prog B (Qal Tryz.prog 116 17 (([slI xs]).map (Qav 0 4))) (.int .i64 (Qbp xs 0)):=by
 exact ((Q4e xs hx hfacts hJ _) (0) (0) rfl (by omega) (by omega) (by omega)
  (GoE.start.landM okF hJ Qac (Q45 B xs)
  trivial (by kernel_rfl) (by kernel_rfl))).cast (by rfl)
theorem pOf (xs:List Int) (hx:∀x∈xs,0<=x/\x<=61):Qau Tryz.prog J0 116 #[slI xs] (.int .i64 (Qbp xs 0)):=
 QcY (ts:=[slI xs]) (xs.length<=9223372036854775807) (fun _ _ ht=> ht.ln (i:=0) rfl) Qbw (c0:=Qal Tryz.prog 116 17 (([slI xs]).map (Qav 0 4))) (by kernel_rfl) (by kernel_rfl) fun hfacts B hJ=> Q5k xs hx hfacts hJ
end Go.Proofs.YtiabgkiccaodmaaGreat

namespace Go.Proofs.YtiabgkiccaodmaaGreat
open Go Go.CE Go.RowKit
noncomputable section
set_option maxRecDepth 100000
def Qcv (s:Int):Int:=if s=0 then 0 else ((s.toNat.log2+1:Nat):Int)
theorem Q21:(List.range 64).all (fun x=> QpT (QlQ Tryz.prog (Qa6 Tryz.prog) Qbu 10000 158 #[.int .u64 (x:Nat)] (Qfn 0 []) ([]:List (Array Value×TypeId)).length) (.int .i64 (Qcv (x:Nat))) [])=true:=by decide+kernel
theorem Q5j (s:Int) (h0:0<=s) (h1:s < 64):Qau Tryz.prog J0 158 #[.int .u64 s] (.int .i64 (Qcv s)):=by
 obtain ⟨k,rfl⟩:∃k:Nat,s=k:=⟨s.toNat,by omega⟩
 exact Qqi okF Qac (fuel:=10000) (by kernel_rfl) (by kernel_rfl) (by kernel_rfl) (List.all_eq_true.1 Q21 k (List.mem_range.2 (by omega)))
theorem Q0z:(List.range 64).all (fun x=> decide (0<=Qcv (x:Nat)) && decide (Qcv (x:Nat)<=6))=true:=by decide+kernel
theorem Qfs {s:Int} (h0:0<=s) (h1:s < 64):0<=Qcv s/\Qcv s<=6:=by
 obtain ⟨k,rfl⟩:∃k:Nat,s=k:=⟨s.toNat,by omega⟩
 have:=List.all_eq_true.1 Q0z k (List.mem_range.2 (by omega))
 simpa using this
def Qa5 {α:Type} [Inhabited α] (s:Int) (xs:List α) (n:Int):List α:=((upI n (Qcv s)).filter (Qk0 s)).map fun k=> xs.getD k.toNat default
theorem Qfe {α:Type} [Inhabited α] {s n:Int} {xs:List α} (h:n < Qcv s) (hb:Qk0 s n=true):Qa5 s xs n=[xs.getD n.toNat default]++Qa5 s xs (n+1):=by
 unfold Qa5;rw [Qgd h,List.filter_cons_of_pos hb];rfl
theorem Qiy {α:Type} [Inhabited α] {s n:Int} {xs:List α} (h:n < Qcv s) (hb:Qk0 s n=false):Qa5 s xs n=Qa5 s xs (n+1):=by
 unfold Qa5;rw [Qgd h,List.filter_cons_of_neg (by rw [hb];decide)]
theorem QiG {α:Type} [Inhabited α] {s n:Int} {xs:List α} (h:Qcv s<=n):Qa5 s xs n=[]:=by
 unfold Qa5;rw [QlJ h];rfl
theorem Q1c {α:Type} {acc:List α} (h:acc≠[]):acc.isEmpty=false:=by
 cases acc with
 | nil=> exact absurd rfl h
 | cons x l=> rfl
theorem Q4G {α:Type} {l:List α} (h:(!([]++l).isEmpty)=false):l=[]:=by
 cases l with
 | nil=> rfl
 | cons x l=> cases h
structure Qad where
 goods:List Span
 weight:Int
 cost:Int
deriving Inhabited
def Qao (l:Qad):List Value:=[Qp9 l.goods,.int .i64 l.weight,.int .i64 l.cost]
abbrev Row:=List Int
def Qax (l:Row):List Value:=[slI l]

def Qhf (s:Int) (xs:List (Qad)):Qaw:=[(2,Obj.cells #[.slice none 0 0] 60),(1,Obj.cells #[Qay 0 (slT xs.length (Qab Qao xs))] 60),(0,Obj.coro none)]
def Qje (s:Int) (xs:List (Qad)):CF:=⟨147,ofList 4 [.int .i64 s],[Item.code (Qaq Tryz.prog 147)],[],.run,none⟩
def Qeu (s:Int) (xs:List (Qad)):Array Value:=#[.int .i64 s,Qay 0 (slT xs.length (Qab Qao xs)),.tuple #[],pA 1 0,.slice none 0 0,pA 2 0,.tuple #[],.int .i64 s,Value.func (Fn.func 157) #[] #[Qay 3 (ptT 0 #[.int .i64 s])],.tuple #[],.tuple #[],.tuple #[],.tuple #[],.tuple #[],.tuple #[],.tuple #[],.tuple #[],.tuple #[]]
def QeL (xs:List (Qad)) (n:Int):Array Value:=#[Qay 0 (slT (List.length (Qad.goods (xs.getD n.toNat default))) (Qab Qa3 (Qad.goods (xs.getD n.toNat default)))),.int .i64 (Qad.weight (xs.getD n.toNat default)),.int .i64 (Qad.cost (xs.getD n.toNat default))]
def QiA (xs:List (Qad)) (n:Int):Array Value:=#[slT (List.length (Qad.goods (xs.getD n.toNat default))) (Qab Qa3 (Qad.goods (xs.getD n.toNat default))),.int .i64 (Qad.weight (xs.getD n.toNat default)),.int .i64 (Qad.cost (xs.getD n.toNat default))]
theorem QwN (B:Lo) (s:Int) (xs:List (Qad)):CE.finK 3 (Qan Tryz.prog (Qa6 Tryz.prog) J0 B 6 3 (Qje s xs) (Qhf s xs) 3
 [] 0 [] []) [] [] [{k:=3,rs:=[],cs:=#[.int .i64 s]}]=some (OO.ret (Value.func (Fn.func 157) #[] #[Qay 3 (ptT 0 #[.int .i64 s])]),[],[],
 [QaY (Fz.rs {k:=3,rs:=[],cs:=#[.int .i64 s]}) #[.int .i64 s] (Fz.cs {k:=3,rs:=[],cs:=#[.int .i64 s]})]):=by kernel_rfl
def QmS (B:Lo) (s:Int) (xs:List (Qad)):List Prop:=[FJ Tryz.prog B (Qje s xs) (Qhf s xs) 3 (OO.ret (Value.func (Fn.func 157) #[] #[Qay 3 (ptT 0 #[.int .i64 s])])) (([]++((3,Qb1)::QaS (3+1) []))++Qhf s xs) 4 (List.range 3) []]++([]:List Prop)
def Qre (s:Int) (xs:List (Qad)):Qa7:=[(4,Qah.call (List.range 3) (OO.ret (Value.func (Fn.func 157) #[] #[Qay 3 (ptT 0 #[.int .i64 s])])) ([]++(3,Qb1)::QaS 4 []) 4 [])]
def Qbh (s:Int) (xs:List (Qad)):Qaw:=[(5,Obj.loop {state:=LoopState.ready,pending:=none,fn:=139,tmps:=#[.int .i64 s,Qay 0 (slT xs.length (Qab Qao xs)),.tuple #[],pA 1 0,.slice none 0 0,pA 2 0,.tuple #[],.int .i64 s,Value.func (Fn.func 157) #[] #[Qay 3 (ptT 0 #[.int .i64 s])],.tuple #[],.tuple #[],.tuple #[],.tuple #[],.tuple #[],.tuple #[],.tuple #[],.tuple #[],.tuple #[]],params:=#[9],assign:=nav (Qaq Tryz.prog 139) [1,1,0,1,0,0],body:=nav (Qaq Tryz.prog 139) [1,1,0,1,0,1],defers:=4}),(4,Obj.deferred (some [])),(3,Obj.coro none),(2,Obj.cells #[.slice none 0 0] 60),(1,Obj.cells #[Qay 0 (slT xs.length (Qab Qao xs))] 60),(0,Obj.coro none)]
def Qcu (s:Int) (xs:List (Qad)):CF:=⟨157,ofList 20 [Value.func (Fn.yield 5) #[] #[],Qay 3 (ptT 0 #[.int .i64 s])],[Item.code (Qaq Tryz.prog 157)],[],.run,none⟩
def QcK (s:Int) (xs:List (Qad)) (n:Int):List Value:=[Value.func (Fn.yield 5) #[] #[],Qay 3 (ptT 0 #[.int .i64 s]),.int .i64 (Qcv s),.int .i64 n]
def Qc8 (s:Int) (xs:List (Qad)) (n:Int):List Obj:=[Obj.loop {state:=LoopState.ready,pending:=none,fn:=139,tmps:=#[.int .i64 s,Qay 0 (slT xs.length (Qab Qao xs)),.tuple #[],pA 1 0,.slice none 0 0,pA 2 0,.tuple #[],.int .i64 s,Value.func (Fn.func 157) #[] #[Qay 3 (ptT 0 #[.int .i64 s])],.tuple #[],.tuple #[],.tuple #[],.tuple #[],.tuple #[],.tuple #[],.tuple #[],.tuple #[],.tuple #[]],params:=#[9],assign:=nav (Qaq Tryz.prog 139) [1,1,0,1,0,0],body:=nav (Qaq Tryz.prog 139) [1,1,0,1,0,1],defers:=4},.cells #[.slice none 0 0] 60 (0,0)]
def Qbx (s:Int) (xs:List (Qad)) (n:Int):List Obj:=[]
def Qc6:List Item:=([.code [1,0,0],.inLoop [1,0,0],.inBlock 0]).map (it (Qaq Tryz.prog 157))
def QcL (s:Int) (xs:List (Qad)) (n:Int) (acc:List Qad) (acc_n:Nat):List Value:=[Value.func (Fn.yield 5) #[] #[],Qay 3 (ptT 0 #[.int .i64 s]),.int .i64 (Qcv s),.int .i64 n]
def QcF (s:Int) (xs:List (Qad)) (n:Int) (acc:List Qad) (acc_n:Nat):List Obj:=[Obj.loop {state:=LoopState.ready,pending:=none,fn:=139,tmps:=#[.int .i64 s,Qay 0 (slT xs.length (Qab Qao xs)),.tuple #[],pA 1 0,.slice none 0 0,pA 2 0,.tuple #[],.int .i64 s,Value.func (Fn.func 157) #[] #[Qay 3 (ptT 0 #[.int .i64 s])],.tuple #[],.tuple #[],.tuple #[],.tuple #[],.tuple #[],.tuple #[],.tuple #[],.tuple #[],.tuple #[]],params:=#[9],assign:=nav (Qaq Tryz.prog 139) [1,1,0,1,0,0],body:=nav (Qaq Tryz.prog 139) [1,1,0,1,0,1],defers:=4},.cells #[.slice (some ⟨7,0,none⟩) acc_n 3] 60 (0,0)]
def Qbz (s:Int) (xs:List (Qad)) (n:Int) (acc:List Qad) (acc_n:Nat):List Obj:=[Obj.cells (Qab (Qa1 0 Qao) acc) 118 (0,0)]
def QcH:List Item:=([.code [1,0,0],.inLoop [1,0,0],.inBlock 0]).map (it (Qaq Tryz.prog 157))
def QlZ (B:Lo) (s:Int) (xs:List (Qad)) (n:Int) (dJ0:Nat->Value):List Prop:=[ltq n (Qcv s)=true]++([]:List Prop)
def QpI (s:Int) (xs:List (Qad)) (n:Int) (dJ0:Nat->Value):Qa7:=[(0,hvT)]
def QgD (s:Int) (xs:List (Qad)) (n:Int) (dJ0:Nat->Value):Qaw:=[(5,Obj.loop {state:=LoopState.ready,pending:=none,fn:=139,tmps:=#[.int .i64 s,Qay 0 (slT xs.length (Qab Qao xs)),.tuple #[],pA 1 0,.slice none 0 0,pA 2 0,.tuple #[],.int .i64 s,Value.func (Fn.func 157) #[] #[Qay 3 (ptT 0 #[.int .i64 s])],.tuple #[],.tuple #[],.tuple #[],.tuple #[],.tuple #[],.tuple #[],.tuple #[],.tuple #[],.tuple #[]],params:=#[9],assign:=nav (Qaq Tryz.prog 139) [1,1,0,1,0,0],body:=nav (Qaq Tryz.prog 139) [1,1,0,1,0,1],defers:=4}),(2,Obj.cells #[.slice none 0 0] 60),(6,Obj.coro none),(5,Obj.loop {state:=LoopState.ready,pending:=none,fn:=139,tmps:=#[.int .i64 s,Qay 0 (slT xs.length (Qab Qao xs)),.tuple #[],pA 1 0,.slice none 0 0,pA 2 0,.tuple #[],.int .i64 s,Value.func (Fn.func 157) #[] #[Qay 3 (ptT 0 #[.int .i64 s])],.tuple #[],.tuple #[],.tuple #[],.tuple #[],.tuple #[],.tuple #[],.tuple #[],.tuple #[],.tuple #[]],params:=#[9],assign:=nav (Qaq Tryz.prog 139) [1,1,0,1,0,0],body:=nav (Qaq Tryz.prog 139) [1,1,0,1,0,1],defers:=4}),(4,Obj.deferred (some [])),(3,Obj.coro none),(2,Obj.cells #[.slice none 0 0] 60),(1,Obj.cells #[Qay 0 (slT xs.length (Qab Qao xs))] 60),(0,Obj.coro none)]
def Qi7 (s:Int) (xs:List (Qad)) (n:Int) (dJ0:Nat->Value):CF:=⟨139,ofList 18 [.int .i64 s,Qay 0 (slT xs.length (Qab Qao xs)),.tuple #[],pA 1 0,.slice none 0 0,pA 2 0,.tuple #[],.int .i64 s,Value.func (Fn.func 157) #[] #[Qay 3 (ptT 0 #[.int .i64 s])],.int .i64 n,.tuple #[],.tuple #[],.tuple #[],.tuple #[],.tuple #[],.tuple #[],.tuple #[],.tuple #[]],[Item.code (nav (Qaq Tryz.prog 139) [1,1,0,1,0,0]),Item.beginRound,Item.code (nav (Qaq Tryz.prog 139) [1,1,0,1,0,1])],[],.run,some 5⟩
theorem Qya (B:Lo) (s:Int) (xs:List (Qad)) (n:Int) (dJ0:Nat->Value):CE.finK 7 (Qan Tryz.prog (Qa6 Tryz.prog) J0 B 6 7 (Qi7 s xs n dJ0) (QgD s xs n dJ0) 7
 [(4,Qah.tidx n.toNat (QiA xs n))] 0 [] []) [(5,KS.auto),(2,KS.auto)] [(8,KS.auto)] []=some (OO.ret (.bool true),[(5,Obj.loop {state:=LoopState.ready,pending:=none,fn:=139,tmps:=#[.int .i64 s,Qay 0 (slT xs.length (Qab Qao xs)),.tuple #[],pA 1 0,.slice none 0 0,pA 2 0,.tuple #[],.int .i64 s,Value.func (Fn.func 157) #[] #[Qay 3 (ptT 0 #[.int .i64 s])],.tuple #[],.tuple #[],.tuple #[],.tuple #[],.tuple #[],.tuple #[],.tuple #[],.tuple #[],.tuple #[]],params:=#[9],assign:=nav (Qaq Tryz.prog 139) [1,1,0,1,0,0],body:=nav (Qaq Tryz.prog 139) [1,1,0,1,0,1],defers:=4}),(2,Obj.cells #[.slice (some {block:=8,off:=0}) 1 3] 60)],[Obj.cells #[Qay 0 (slT (List.length (Qad.goods (xs.getD n.toNat default))) (Qab Qa3 (Qad.goods (xs.getD n.toNat default)))),.int .i64 (Qad.weight (xs.getD n.toNat default)),.int .i64 (Qad.cost (xs.getD n.toNat default))] 118],
 [n=(↑n.toNat:Int)/\Int.toNat n < List.length xs/\Array.extract (Qab Qao xs) (Int.toNat n * TypeInfo.size Tryz.t118) (Int.toNat n * TypeInfo.size Tryz.t118+TypeInfo.size Tryz.t118)=(QiA xs n)]):=by kernel_rfl
theorem Qwq (B:Lo) (s:Int) (xs:List (Qad)) (n:Int) (dJ0:Nat->Value):CE.landA 6 (Qan Tryz.prog (Qa6 Tryz.prog) J0 B 16 6 (Qcs (none) 157 20 (([0,1,6,7]:List Nat).zip (QcK s xs n)) dJ0 Qc6) (Qb9 (Qbh s xs) 6 (([5,2]:List Nat).zip (Qc8 s xs n)) (Qbx s xs n)) (6+1+(Qbx s xs n).length)
 (QpI s xs n dJ0++[(5,Qah.pure (.bool true) []),(9,Qah.call (List.range 7) (OO.ret (.bool true)) ([(5,Obj.loop {state:=LoopState.ready,pending:=none,fn:=139,tmps:=(Qeu s xs),params:=#[9],assign:=nav (Qaq Tryz.prog 139) [1,1,0,1,0,0],body:=nav (Qaq Tryz.prog 139) [1,1,0,1,0,1],defers:=4}),(2,Obj.cells #[.slice (some {block:=8,off:=0}) 1 3] 60)]++(7,Qb1)::QaS 8 [Obj.cells (QeL xs n) 118]) 9 [5,2]),(12,hvI (n+1))]) 0 [] []) [0,1,6,7] [(5,KS.auto),(2,KS.auto)] [(8,KS.rows [(0,0)] [] (Qab (Qa1 0 Qao) [xs.getD n.toNat default]))] []=some ⟨157,20,QcH,[],.run,none,QcL s xs (n+1) ([xs.getD n.toNat default]) (1),([5,2]:List Nat).zip (QcF s xs (n+1) ([xs.getD n.toNat default]) (1)),Qbz s xs (n+1) ([xs.getD n.toNat default]) (1),
 [QaQ 6 [(0,0)] [] (QeL xs n) (Qab (Qa1 0 Qao) [xs.getD n.toNat default]),wq (n+1)=n+1,FJ Tryz.prog B (Qi7 s xs n dJ0) (QgD s xs n dJ0) 7 (OO.ret (.bool true)) (([(5,Obj.loop {state:=LoopState.ready,pending:=none,fn:=139,tmps:=(Qeu s xs),params:=#[9],assign:=nav (Qaq Tryz.prog 139) [1,1,0,1,0,0],body:=nav (Qaq Tryz.prog 139) [1,1,0,1,0,1],defers:=4}),(2,Obj.cells #[.slice (some {block:=8,off:=0}) 1 3] 60)]++((7,Qb1)::QaS (7+1) [Obj.cells (QeL xs n) 118]))++QgD s xs n dJ0) 9 (List.range 7) [5,2],QaB []/\Qau Tryz.prog J0 159 #[.int .i64 s,.int .i64 n] (.bool true)]++QlZ B s xs n dJ0⟩:=by kernel_rfl
theorem Qwk (B:Lo) (s:Int) (xs:List (Qad)) (n:Int) (dJ0:Nat->Value):CE.landA 6 (Qan Tryz.prog (Qa6 Tryz.prog) J0 B 16 6 (Qcs (none) 157 20 (([0,1,6,7]:List Nat).zip (QcK s xs n)) dJ0 Qc6) (Qb9 (Qbh s xs) 6 (([5,2]:List Nat).zip (Qc8 s xs n)) (Qbx s xs n)) (6+1+(Qbx s xs n).length)
 (QpI s xs n dJ0++[(5,Qah.pure (.bool false) []),(12,hvI (n+1))]) 0 [] []) [0,1,6,7] [(5,KS.auto),(2,KS.auto)] [] []=some ⟨157,20,Qc6,[],.run,none,QcK s xs (n+1),([5,2]:List Nat).zip (Qc8 s xs (n+1)),Qbx s xs (n+1),
 [wq (n+1)=n+1,QaB []/\Qau Tryz.prog J0 159 #[.int .i64 s,.int .i64 n] (.bool false)]++QlZ B s xs n dJ0⟩:=by kernel_rfl
theorem Qv4 (B:Lo) (s:Int) (xs:List (Qad)) (n:Int) (dJ0:Nat->Value):CE.finK 6 (Qan Tryz.prog (Qa6 Tryz.prog) J0 B 7 6 (Qcs (none) 157 20 (([0,1,6,7]:List Nat).zip (QcK s xs n)) dJ0 Qc6) (Qb9 (Qbh s xs) 6 (([5,2]:List Nat).zip (Qc8 s xs n)) (Qbx s xs n)) (6+1+(Qbx s xs n).length)
 [(0,hvF)] 0 [] []) [(5,KS.auto),(2,KS.auto)] [] []=some (OO.ret (.tuple #[]),[(5,Obj.loop {state:=LoopState.ready,pending:=none,fn:=139,tmps:=#[.int .i64 s,Qay 0 (slT xs.length (Qab Qao xs)),.tuple #[],pA 1 0,.slice none 0 0,pA 2 0,.tuple #[],.int .i64 s,Value.func (Fn.func 157) #[] #[Qay 3 (ptT 0 #[.int .i64 s])],.tuple #[],.tuple #[],.tuple #[],.tuple #[],.tuple #[],.tuple #[],.tuple #[],.tuple #[],.tuple #[]],params:=#[9],assign:=nav (Qaq Tryz.prog 139) [1,1,0,1,0,0],body:=nav (Qaq Tryz.prog 139) [1,1,0,1,0,1],defers:=4}),(2,Obj.cells #[.slice none 0 0] 60)],[],
 [ltq n (Qcv s)=false]):=by kernel_rfl
def Qmw (B:Lo) (s:Int) (xs:List (Qad)) (n:Int) (acc:List Qad) (acc_n:Nat) (dJ0:Nat->Value):List Prop:=[ltq n (Qcv s)=true]++([]:List Prop)
def QqO (s:Int) (xs:List (Qad)) (n:Int) (acc:List Qad) (acc_n:Nat) (dJ0:Nat->Value):Qa7:=[(0,hvT)]
def Qhl (s:Int) (xs:List (Qad)) (n:Int) (acc:List Qad) (acc_n:Nat) (dJ0:Nat->Value):Qaw:=[(5,Obj.loop {state:=LoopState.ready,pending:=none,fn:=139,tmps:=#[.int .i64 s,Qay 0 (slT xs.length (Qab Qao xs)),.tuple #[],pA 1 0,.slice none 0 0,pA 2 0,.tuple #[],.int .i64 s,Value.func (Fn.func 157) #[] #[Qay 3 (ptT 0 #[.int .i64 s])],.tuple #[],.tuple #[],.tuple #[],.tuple #[],.tuple #[],.tuple #[],.tuple #[],.tuple #[],.tuple #[]],params:=#[9],assign:=nav (Qaq Tryz.prog 139) [1,1,0,1,0,0],body:=nav (Qaq Tryz.prog 139) [1,1,0,1,0,1],defers:=4}),(2,Obj.cells #[.slice (some {block:=7,off:=0}) acc_n 3] 60),(6,Obj.coro none),(7,Obj.cells (Qab (Qa1 0 Qao) acc) 118),(5,Obj.loop {state:=LoopState.ready,pending:=none,fn:=139,tmps:=#[.int .i64 s,Qay 0 (slT xs.length (Qab Qao xs)),.tuple #[],pA 1 0,.slice none 0 0,pA 2 0,.tuple #[],.int .i64 s,Value.func (Fn.func 157) #[] #[Qay 3 (ptT 0 #[.int .i64 s])],.tuple #[],.tuple #[],.tuple #[],.tuple #[],.tuple #[],.tuple #[],.tuple #[],.tuple #[],.tuple #[]],params:=#[9],assign:=nav (Qaq Tryz.prog 139) [1,1,0,1,0,0],body:=nav (Qaq Tryz.prog 139) [1,1,0,1,0,1],defers:=4}),(4,Obj.deferred (some [])),(3,Obj.coro none),(2,Obj.cells #[.slice none 0 0] 60),(1,Obj.cells #[Qay 0 (slT xs.length (Qab Qao xs))] 60),(0,Obj.coro none)]
def Qih (s:Int) (xs:List (Qad)) (n:Int) (acc:List Qad) (acc_n:Nat) (dJ0:Nat->Value):CF:=⟨139,ofList 18 [.int .i64 s,Qay 0 (slT xs.length (Qab Qao xs)),.tuple #[],pA 1 0,.slice none 0 0,pA 2 0,.tuple #[],.int .i64 s,Value.func (Fn.func 157) #[] #[Qay 3 (ptT 0 #[.int .i64 s])],.int .i64 n,.tuple #[],.tuple #[],.tuple #[],.tuple #[],.tuple #[],.tuple #[],.tuple #[],.tuple #[]],[Item.code (nav (Qaq Tryz.prog 139) [1,1,0,1,0,0]),Item.beginRound,Item.code (nav (Qaq Tryz.prog 139) [1,1,0,1,0,1])],[],.run,some 5⟩
theorem Qxf (B:Lo) (s:Int) (xs:List (Qad)) (n:Int) (acc:List Qad) (acc_n:Nat) (dJ0:Nat->Value):CE.finK 8 (Qan Tryz.prog (Qa6 Tryz.prog) J0 B 6 8 (Qih s xs n acc acc_n dJ0) (Qhl s xs n acc acc_n dJ0) 8
 [(4,Qah.tidx n.toNat (QiA xs n)),(7,Qah.old (Hint.app (Qab (Qa1 0 Qao) acc++(QeL xs n))))] 0 [] []) [(7,KS.dead),(5,KS.auto),(2,KS.auto)] [(9,KS.rows [(0,0)] [] (Qab (Qa1 0 Qao) (acc++[xs.getD n.toNat default])))] []=some (OO.ret (.bool true),[(7,Obj.pending #[] 0),(5,Obj.loop {state:=LoopState.ready,pending:=none,fn:=139,tmps:=#[.int .i64 s,Qay 0 (slT xs.length (Qab Qao xs)),.tuple #[],pA 1 0,.slice none 0 0,pA 2 0,.tuple #[],.int .i64 s,Value.func (Fn.func 157) #[] #[Qay 3 (ptT 0 #[.int .i64 s])],.tuple #[],.tuple #[],.tuple #[],.tuple #[],.tuple #[],.tuple #[],.tuple #[],.tuple #[],.tuple #[]],params:=#[9],assign:=nav (Qaq Tryz.prog 139) [1,1,0,1,0,0],body:=nav (Qaq Tryz.prog 139) [1,1,0,1,0,1],defers:=4}),(2,Obj.cells #[.slice (some {block:=9,off:=0}) (acc_n+1) 3] 60)],[Obj.cells (Qab (Qa1 0 Qao) (acc++[xs.getD n.toNat default])) 118],
 [QaQ 8 [(0,0)] [] (Qab (Qa1 0 Qao) acc++(QeL xs n)) (Qab (Qa1 0 Qao) (acc++[xs.getD n.toNat default])),Array.size (Qab (Qa1 0 Qao) acc)=acc_n * (2+1)/\acc_n+1<=maxLen/\(acc_n+1) * 40<=140737488355328/\Qab (Qa1 0 Qao) acc++(QeL xs n)=Qab (Qa1 0 Qao) acc++(QeL xs n),n=(↑n.toNat:Int)/\Int.toNat n < List.length xs/\Array.extract (Qab Qao xs) (Int.toNat n * TypeInfo.size Tryz.t118) (Int.toNat n * TypeInfo.size Tryz.t118+TypeInfo.size Tryz.t118)=(QiA xs n)]):=by kernel_rfl
theorem Qv8 (B:Lo) (s:Int) (xs:List (Qad)) (n:Int) (acc:List Qad) (acc_n:Nat) (dJ0:Nat->Value):CE.landA 6 (Qan Tryz.prog (Qa6 Tryz.prog) J0 B 16 6 (Qcs (none) 157 20 (([0,1,6,7]:List Nat).zip (QcL s xs n acc acc_n)) dJ0 QcH) (Qb9 (Qbh s xs) 6 (([5,2]:List Nat).zip (QcF s xs n acc acc_n)) (Qbz s xs n acc acc_n)) (6+1+(Qbz s xs n acc acc_n).length)
 (QqO s xs n acc acc_n dJ0++[(5,Qah.pure (.bool true) []),(9,Qah.call (List.range 8) (OO.ret (.bool true)) ([(7,Obj.pending #[] 0),(5,Obj.loop {state:=LoopState.ready,pending:=none,fn:=139,tmps:=(Qeu s xs),params:=#[9],assign:=nav (Qaq Tryz.prog 139) [1,1,0,1,0,0],body:=nav (Qaq Tryz.prog 139) [1,1,0,1,0,1],defers:=4}),(2,Obj.cells #[.slice (some {block:=9,off:=0}) (acc_n+1) 3] 60)]++(8,Qb1)::QaS 9 [Obj.cells (Qab (Qa1 0 Qao) (acc++[xs.getD n.toNat default])) 118]) 10 [7,5,2]),(12,hvI (n+1))]) 0 [] []) [0,1,6,7] [(5,KS.auto),(2,KS.auto)] [(9,KS.rows [(0,0)] [] (Qab (Qa1 0 Qao) (acc++[xs.getD n.toNat default])))] []=some ⟨157,20,QcH,[],.run,none,QcL s xs (n+1) (acc++[xs.getD n.toNat default]) (acc_n+1),([5,2]:List Nat).zip (QcF s xs (n+1) (acc++[xs.getD n.toNat default]) (acc_n+1)),Qbz s xs (n+1) (acc++[xs.getD n.toNat default]) (acc_n+1),
 [QaQ 6 [(0,0)] [] (Qab (Qa1 0 Qao) (acc++[xs.getD n.toNat default])) (Qab (Qa1 0 Qao) (acc++[xs.getD n.toNat default])),wq (n+1)=n+1,FJ Tryz.prog B (Qih s xs n acc acc_n dJ0) (Qhl s xs n acc acc_n dJ0) 8 (OO.ret (.bool true)) (([(7,Obj.pending #[] 0),(5,Obj.loop {state:=LoopState.ready,pending:=none,fn:=139,tmps:=(Qeu s xs),params:=#[9],assign:=nav (Qaq Tryz.prog 139) [1,1,0,1,0,0],body:=nav (Qaq Tryz.prog 139) [1,1,0,1,0,1],defers:=4}),(2,Obj.cells #[.slice (some {block:=9,off:=0}) (acc_n+1) 3] 60)]++((8,Qb1)::QaS (8+1) [Obj.cells (Qab (Qa1 0 Qao) (acc++[xs.getD n.toNat default])) 118]))++Qhl s xs n acc acc_n dJ0) 10 (List.range 8) [7,5,2],QaB []/\Qau Tryz.prog J0 159 #[.int .i64 s,.int .i64 n] (.bool true)]++Qmw B s xs n acc acc_n dJ0⟩:=by kernel_rfl
theorem Qxo (B:Lo) (s:Int) (xs:List (Qad)) (n:Int) (acc:List Qad) (acc_n:Nat) (dJ0:Nat->Value):CE.landA 6 (Qan Tryz.prog (Qa6 Tryz.prog) J0 B 16 6 (Qcs (none) 157 20 (([0,1,6,7]:List Nat).zip (QcL s xs n acc acc_n)) dJ0 QcH) (Qb9 (Qbh s xs) 6 (([5,2]:List Nat).zip (QcF s xs n acc acc_n)) (Qbz s xs n acc acc_n)) (6+1+(Qbz s xs n acc acc_n).length)
 (QqO s xs n acc acc_n dJ0++[(5,Qah.pure (.bool false) []),(12,hvI (n+1))]) 0 [] []) [0,1,6,7] [(5,KS.auto),(2,KS.auto)] [(7,KS.rows [(0,0)] [] (Qab (Qa1 0 Qao) acc))] []=some ⟨157,20,QcH,[],.run,none,QcL s xs (n+1) (acc) (acc_n),([5,2]:List Nat).zip (QcF s xs (n+1) (acc) (acc_n)),Qbz s xs (n+1) (acc) (acc_n),
 [QaQ 6 [(0,0)] [] (Qab (Qa1 0 Qao) acc) (Qab (Qa1 0 Qao) acc),wq (n+1)=n+1,QaB []/\Qau Tryz.prog J0 159 #[.int .i64 s,.int .i64 n] (.bool false)]++Qmw B s xs n acc acc_n dJ0⟩:=by kernel_rfl
theorem Qzo (B:Lo) (s:Int) (xs:List (Qad)) (n:Int) (acc:List Qad) (acc_n:Nat) (dJ0:Nat->Value):CE.finK 6 (Qan Tryz.prog (Qa6 Tryz.prog) J0 B 7 6 (Qcs (none) 157 20 (([0,1,6,7]:List Nat).zip (QcL s xs n acc acc_n)) dJ0 QcH) (Qb9 (Qbh s xs) 6 (([5,2]:List Nat).zip (QcF s xs n acc acc_n)) (Qbz s xs n acc acc_n)) (6+1+(Qbz s xs n acc acc_n).length)
 [(0,hvF)] 0 [] []) [(5,KS.auto),(2,KS.auto)] [(7,KS.rows [(0,0)] [] (Qab (Qa1 0 Qao) acc))] []=some (OO.ret (.tuple #[]),[(5,Obj.loop {state:=LoopState.ready,pending:=none,fn:=139,tmps:=#[.int .i64 s,Qay 0 (slT xs.length (Qab Qao xs)),.tuple #[],pA 1 0,.slice none 0 0,pA 2 0,.tuple #[],.int .i64 s,Value.func (Fn.func 157) #[] #[Qay 3 (ptT 0 #[.int .i64 s])],.tuple #[],.tuple #[],.tuple #[],.tuple #[],.tuple #[],.tuple #[],.tuple #[],.tuple #[],.tuple #[]],params:=#[9],assign:=nav (Qaq Tryz.prog 139) [1,1,0,1,0,0],body:=nav (Qaq Tryz.prog 139) [1,1,0,1,0,1],defers:=4}),(2,Obj.cells #[.slice (some {block:=7,off:=0}) acc_n 3] 60)],[Obj.cells (Qab (Qa1 0 Qao) acc) 118],
 [QaQ 6 [(0,0)] [] (Qab (Qa1 0 Qao) acc) (Qab (Qa1 0 Qao) acc),ltq n (Qcv s)=false]):=by kernel_rfl
set_option maxHeartbeats 4000000 in
theorem Qki (s:Int) (xs:List (Qad)) (h0:0<=s) (h1:s < 64) (hx:Qcv s<=xs.length) {B:Lo} (hJ:∀w,B.has w->J0 w):∀m:Nat,(∀(n:Int),∀(r:Bool),(!(([]:List Qad)++Qa5 s xs n).isEmpty)=r->(Qcv s - n).toNat=m->∀(hn:0<=n),(∃dJ0:Nat->Value,(∀t,QaP (dJ0 t))/\GoE Tryz.prog B (Qcu s xs) (Qbh s xs) 6 (Qcs (none) 157 20 (([0,1,6,7]:List Nat).zip (QcK s xs n)) dJ0 Qc6) (Qb9 (Qbh s xs) 6 (([5,2]:List Nat).zip (Qc8 s xs n)) (Qbx s xs n)) (6+1+(Qbx s xs n).length) ([5,2]:List Nat))->FinK Tryz.prog B (Qcu s xs) (Qbh s xs) 6 (.ret (.tuple #[])) (([5,2]:List Nat).zip ([Obj.loop {state:=LoopState.ready,pending:=none,fn:=139,tmps:=#[.int .i64 s,Qay 0 (slT xs.length (Qab Qao xs)),.tuple #[],pA 1 0,.slice none 0 0,pA 2 0,.tuple #[],.int .i64 s,Value.func (Fn.func 157) #[] #[Qay 3 (ptT 0 #[.int .i64 s])],.tuple #[],.tuple #[],.tuple #[],.tuple #[],.tuple #[],.tuple #[],.tuple #[],.tuple #[],.tuple #[]],params:=#[9],assign:=nav (Qaq Tryz.prog 139) [1,1,0,1,0,0],body:=nav (Qaq Tryz.prog 139) [1,1,0,1,0,1],defers:=4},.cells #[bif r then .slice (some ⟨7,0,none⟩) (([]:List Qad)++Qa5 s xs n).length 3 else .slice none 0 0] 60 (0,0)])) (bif r then [Go.Obj.cells (Qab (Qa1 0 Qao) (([]:List Qad)++Qa5 s xs n)) 118 (0,0)] else []) ([5,2]:List Nat))/\(∀(n:Int) (acc:List Qad) (acc_n:Nat),∀(r:Bool),(!(acc++Qa5 s xs n).isEmpty)=r->(Qcv s - n).toNat=m->∀(hn:0<=n) (hacc:acc_n=acc.length) (haccb:acc≠[]/\(acc_n:Int)<=n),(∃dJ0:Nat->Value,(∀t,QaP (dJ0 t))/\GoE Tryz.prog B (Qcu s xs) (Qbh s xs) 6 (Qcs (none) 157 20 (([0,1,6,7]:List Nat).zip (QcL s xs n acc acc_n)) dJ0 QcH) (Qb9 (Qbh s xs) 6 (([5,2]:List Nat).zip (QcF s xs n acc acc_n)) (Qbz s xs n acc acc_n)) (6+1+(Qbz s xs n acc acc_n).length) ([5,2]:List Nat))->FinK Tryz.prog B (Qcu s xs) (Qbh s xs) 6 (.ret (.tuple #[])) (([5,2]:List Nat).zip ([Obj.loop {state:=LoopState.ready,pending:=none,fn:=139,tmps:=#[.int .i64 s,Qay 0 (slT xs.length (Qab Qao xs)),.tuple #[],pA 1 0,.slice none 0 0,pA 2 0,.tuple #[],.int .i64 s,Value.func (Fn.func 157) #[] #[Qay 3 (ptT 0 #[.int .i64 s])],.tuple #[],.tuple #[],.tuple #[],.tuple #[],.tuple #[],.tuple #[],.tuple #[],.tuple #[],.tuple #[]],params:=#[9],assign:=nav (Qaq Tryz.prog 139) [1,1,0,1,0,0],body:=nav (Qaq Tryz.prog 139) [1,1,0,1,0,1],defers:=4},.cells #[bif r then .slice (some ⟨7,0,none⟩) (acc++Qa5 s xs n).length 3 else .slice none 0 0] 60 (0,0)])) (bif r then [Go.Obj.cells (Qab (Qa1 0 Qao) (acc++Qa5 s xs n)) 118 (0,0)] else []) ([5,2]:List Nat)):=by
 intro m0
 induction m0 using Nat.strongRecOn with
 | _ m0 ih0=>
   refine ⟨?_, ?_⟩
   ·intro n r1 hr1 hm0 hn ⟨dJ0,hdJ0,hg0⟩
    have hl:=Qfs h0 h1
    by_cases q0:(n:Int) < (Qcv s)
    ·
     have hp1:QaB (QlZ B s xs n dJ0):=by
      exact ⟨(QaW q0),trivial⟩
     cases q1:Qk0 s n with
     | true=>
       have rj2:FJ Tryz.prog B (Qi7 s xs n dJ0) (QgD s xs n dJ0) 7 (OO.ret (.bool true)) (([(5,Obj.loop {state:=LoopState.ready,pending:=none,fn:=139,tmps:=#[.int .i64 s,Qay 0 (slT xs.length (Qab Qao xs)),.tuple #[],pA 1 0,.slice none 0 0,pA 2 0,.tuple #[],.int .i64 s,Value.func (Fn.func 157) #[] #[Qay 3 (ptT 0 #[.int .i64 s])],.tuple #[],.tuple #[],.tuple #[],.tuple #[],.tuple #[],.tuple #[],.tuple #[],.tuple #[],.tuple #[]],params:=#[9],assign:=nav (Qaq Tryz.prog 139) [1,1,0,1,0,0],body:=nav (Qaq Tryz.prog 139) [1,1,0,1,0,1],defers:=4}),(2,Obj.cells #[.slice (some {block:=8,off:=0}) 1 3] 60)]++((7,Qb1)::QaS (7+1) [Obj.cells #[Qay 0 (slT (List.length (Qad.goods (xs.getD n.toNat default))) (Qab Qa3 (Qad.goods (xs.getD n.toNat default)))),.int .i64 (Qad.weight (xs.getD n.toNat default)),.int .i64 (Qad.cost (xs.getD n.toNat default))] 118]))++QgD s xs n dJ0) 9 (List.range 7) [5,2]:=by
        have s2:=Qfe (s:=s) (xs:=xs) q0 q1
        exact FinK.fjB (GoE.finK okF hJ Qac (Qat (by kernel_rfl)) (Qam (by kernel_rfl)) ((GoE.refl (P:=Tryz.prog) (B:=B) (c0:=Qi7 s xs n dJ0) (Qat (by kernel_rfl))).widen (Wf:=((([(5,KS.auto),(2,KS.auto)]):List (Nat×KS)).map (·.1))) (by simp) (Qam (by kernel_rfl))) (Qya B s xs n dJ0)
         ⟨⟨by omega,by omega,(Qae (z:=3) (fun _=> rfl) (by omega))⟩,trivial⟩) (ex:=[]) (by kernel_rfl) (QbB _)
       have s2:=Qfe (s:=s) (xs:=xs) q0 q1
       exact ((ih0 _ (by omega)).2 (n+1) ([xs.getD n.toNat default]) (1) r1 (by (rw [<-hr1,s2];simp;done)) rfl (by omega) (by (simp_all;done)) (by (refine ⟨by simp, ?_⟩;omega))
        (GoE.landA okF hJ Qac (Qat (by kernel_rfl)) (Qam (by kernel_rfl)) hg0 (Qwq B s xs n dJ0)
        ⟨(by exact (QeH (by exact ⟨(.reg (List.Mem.head _) rfl),⟨(.simple rfl),⟨(.simple rfl),trivial⟩⟩⟩))),⟨(QaM (by omega) (by omega)),⟨rj2,⟨⟨trivial,(by have t_:=Q2k (s) (n) (by omega) (by omega);rw [q1] at t_;exact t_)⟩,hp1⟩⟩⟩⟩ (by kernel_rfl) (by kernel_rfl) (fun l hl=> by cases hl <;> decide))).cast (by rfl) (by (rw [s2];rfl)) (by (rw [s2];rfl))
     | false=>
       have s2:=Qiy (s:=s) (xs:=xs) q0 q1
       exact ((ih0 _ (by omega)).1 (n+1) r1 (by (rw [<-hr1,s2];done)) rfl (by omega)
        (GoE.landA okF hJ Qac (Qat (by kernel_rfl)) (Qam (by kernel_rfl)) hg0 (Qwk B s xs n dJ0)
        ⟨(QaM (by omega) (by omega)),⟨⟨trivial,(by have t_:=Q2k (s) (n) (by omega) (by omega);rw [q1] at t_;exact t_)⟩,hp1⟩⟩ (by kernel_rfl) (by kernel_rfl) (fun l hl=> by cases hl <;> decide))).cast (by rfl) (by (rw [s2];done)) (by (rw [s2];done))
    ·
     have s2:=QiG (s:=s) (xs:=xs) (n:=n) (by omega)
     exact (GoE.finK okF hJ Qac (Qat (by kernel_rfl)) (Qam (by kernel_rfl)) hg0 (Qv4 B s xs n dJ0)
      ⟨(Qbb (Int.not_lt.1 q0)),trivial⟩).cast (by rfl) (by (subst hr1;rw [s2];rfl)) (by (subst hr1;rw [s2];rfl))
   ·intro n acc acc_n r1 hr1 hm0 hn hacc haccb ⟨dJ0,hdJ0,hg0⟩
    have hl:=Qfs h0 h1
    by_cases q0:(n:Int) < (Qcv s)
    ·
     have hp2:QaB (Qmw B s xs n acc acc_n dJ0):=by
      exact ⟨(QaW q0),trivial⟩
     cases q1:Qk0 s n with
     | true=>
       have rj2:FJ Tryz.prog B (Qih s xs n acc acc_n dJ0) (Qhl s xs n acc acc_n dJ0) 8 (OO.ret (.bool true)) (([(7,Obj.pending #[] 0),(5,Obj.loop {state:=LoopState.ready,pending:=none,fn:=139,tmps:=#[.int .i64 s,Qay 0 (slT xs.length (Qab Qao xs)),.tuple #[],pA 1 0,.slice none 0 0,pA 2 0,.tuple #[],.int .i64 s,Value.func (Fn.func 157) #[] #[Qay 3 (ptT 0 #[.int .i64 s])],.tuple #[],.tuple #[],.tuple #[],.tuple #[],.tuple #[],.tuple #[],.tuple #[],.tuple #[],.tuple #[]],params:=#[9],assign:=nav (Qaq Tryz.prog 139) [1,1,0,1,0,0],body:=nav (Qaq Tryz.prog 139) [1,1,0,1,0,1],defers:=4}),(2,Obj.cells #[.slice (some {block:=9,off:=0}) (acc_n+1) 3] 60)]++((8,Qb1)::QaS (8+1) [Obj.cells (Qab (Qa1 0 Qao) (acc++[xs.getD n.toNat default])) 118]))++Qhl s xs n acc acc_n dJ0) 10 (List.range 8) [7,5,2]:=by
        have s2:=Qfe (s:=s) (xs:=xs) q0 q1
        exact FinK.fjB (GoE.finK okF hJ Qac (Qat (by kernel_rfl)) (Qam (by kernel_rfl)) ((GoE.refl (P:=Tryz.prog) (B:=B) (c0:=Qih s xs n acc acc_n dJ0) (Qat (by kernel_rfl))).widen (Wf:=((([(7,KS.dead),(5,KS.auto),(2,KS.auto)]):List (Nat×KS)).map (·.1))) (by simp) (Qam (by kernel_rfl))) (Qxf B s xs n acc acc_n dJ0)
         ⟨(by exact (QdQ (QaC (QaK (fun _=> rfl)) (List.Mem.head _)) (by exact ⟨(.reg (List.Mem.head _) rfl),⟨(.simple rfl),⟨(.simple rfl),trivial⟩⟩⟩))),⟨⟨(by (rw [QaU (z:=3) (fun _=> rfl)];first | omega | (simp;omega) | (simp_all;done))),(by unfold maxLen;omega),by omega,rfl⟩,⟨⟨by omega,by omega,(Qae (z:=3) (fun _=> rfl) (by omega))⟩,trivial⟩⟩⟩) (ex:=[7]) (by kernel_rfl) ⟨trivial,⟨trivial,⟨trivial,⟨(QeG (t:=118) (fl:=(0,0)) (QaK (fun _=> rfl)) (by decide)),⟨trivial,⟨trivial,⟨trivial,⟨trivial,⟨trivial,⟨trivial,trivial⟩⟩⟩⟩⟩⟩⟩⟩⟩⟩
       have s2:=Qfe (s:=s) (xs:=xs) q0 q1
       exact ((ih0 _ (by omega)).2 (n+1) (acc++[xs.getD n.toNat default]) (acc_n+1) r1 (by (rw [<-hr1,s2];simp;done)) rfl (by omega) (by (simp_all;done)) (by (simp_all;done))
        (GoE.landA okF hJ Qac (Qat (by kernel_rfl)) (Qam (by kernel_rfl)) hg0 (Qv8 B s xs n acc acc_n dJ0)
        ⟨(by exact (QaC (QaK (fun _=> rfl)) (List.Mem.head _))),⟨(QaM (by omega) (by omega)),⟨rj2,⟨⟨trivial,(by have t_:=Q2k (s) (n) (by omega) (by omega);rw [q1] at t_;exact t_)⟩,hp2⟩⟩⟩⟩ (by kernel_rfl) (by kernel_rfl) (fun l hl=> by cases hl <;> decide))).cast (by rfl) (by (rw [s2,<-List.append_assoc];done)) (by (rw [s2,<-List.append_assoc];done))
     | false=>
       have s2:=Qiy (s:=s) (xs:=xs) q0 q1
       exact ((ih0 _ (by omega)).2 (n+1) (acc) (acc_n) r1 (by (rw [<-hr1,s2];done)) rfl (by omega) (by with_reducible assumption) (by exact ⟨haccb.1,by omega⟩)
        (GoE.landA okF hJ Qac (Qat (by kernel_rfl)) (Qam (by kernel_rfl)) hg0 (Qxo B s xs n acc acc_n dJ0)
        ⟨(by exact (QaC (QaK (fun _=> rfl)) (List.Mem.head _))),⟨(QaM (by omega) (by omega)),⟨⟨trivial,(by have t_:=Q2k (s) (n) (by omega) (by omega);rw [q1] at t_;exact t_)⟩,hp2⟩⟩⟩ (by kernel_rfl) (by kernel_rfl) (fun l hl=> by cases hl <;> decide))).cast (by rfl) (by (rw [s2];done)) (by (rw [s2];done))
    ·
     have s2:=QiG (s:=s) (xs:=xs) (n:=n) (by omega)
     exact (GoE.finK okF hJ Qac (Qat (by kernel_rfl)) (Qam (by kernel_rfl)) hg0 (Qzo B s xs n acc acc_n dJ0)
      ⟨(by exact (QaC (QaK (fun _=> rfl)) (List.Mem.head _))),⟨(Qbb (Int.not_lt.1 q0)),trivial⟩⟩).cast (by rfl) (by (subst hr1;simp only [Q1c haccb.1,s2,List.append_nil,hacc,Bool.not_false,cond_true];rfl)) (by (subst hr1;simp only [Q1c haccb.1,s2,List.append_nil,hacc,Bool.not_false,cond_true];done))

theorem Qxn (B:Lo) (s:Int) (xs:List (Qad)):CE.landA 6 (Qan Tryz.prog (Qa6 Tryz.prog) J0 B 4 6 (Qcu s xs) (Qbh s xs) 6
 [(1,Qah.old (Hint.val (Value.int IntKind.u64 s))),(2,Qah.pure (.int .i64 (Qcv s)) [])] 0 [] []) [0,1,6,7] [(5,KS.auto),(2,KS.auto)] [] []=some ⟨157,20,Qc6,[],.run,none,QcK s xs (0),([5,2]:List Nat).zip (Qc8 s xs (0)),Qbx s xs (0),
 [QaB []/\Qau Tryz.prog J0 158 #[Value.int IntKind.u64 s] (.int .i64 (Qcv s)),IntKind.wrap IntKind.u64 s=s]⟩:=by kernel_rfl
theorem QtA (B:Lo) (s:Int) (xs:List (Qad)):Qbe (Qan Tryz.prog (Qa6 Tryz.prog) J0 B 16 1 (Qal Tryz.prog 139 18 (([.int .i64 s,slT xs.length (Qab Qao xs)]).map (Qav 0 4))) H00 1
 (Qre s xs++[(5,Qah.call (List.range 6) (OO.ret (.tuple #[])) ([(5,Obj.loop {state:=LoopState.ready,pending:=none,fn:=139,tmps:=(Qeu s xs),params:=#[9],assign:=nav (Qaq Tryz.prog 139) [1,1,0,1,0,0],body:=nav (Qaq Tryz.prog 139) [1,1,0,1,0,1],defers:=4}),(2,Obj.cells #[.slice (some {block:=7,off:=0}) (List.length ([]++Qa5 s xs 0)) 3] 60)]++(6,Qb1)::QaS 7 [Obj.cells (Qab (Qa1 0 Qao) ([]++Qa5 s xs 0)) 118]) 8 [5,2])]) 0 [] []) [{k:=7,rs:=[0],cs:=Qab Qao ([]++Qa5 s xs 0)}]=some (slT (List.length ([]++Qa5 s xs 0)) (Fz.cs {k:=7,rs:=[0],cs:=Qab Qao ([]++Qa5 s xs 0)}),
 [QaY (Fz.rs {k:=7,rs:=[0],cs:=Qab Qao ([]++Qa5 s xs 0)}) (Qab (Qa1 0 Qao) ([]++Qa5 s xs 0)) (Fz.cs {k:=7,rs:=[0],cs:=Qab Qao ([]++Qa5 s xs 0)}),FJ Tryz.prog B (Qcu s xs) (Qbh s xs) 6 (OO.ret (.tuple #[])) (([(5,Obj.loop {state:=LoopState.ready,pending:=none,fn:=139,tmps:=(Qeu s xs),params:=#[9],assign:=nav (Qaq Tryz.prog 139) [1,1,0,1,0,0],body:=nav (Qaq Tryz.prog 139) [1,1,0,1,0,1],defers:=4}),(2,Obj.cells #[.slice (some {block:=7,off:=0}) (List.length ([]++Qa5 s xs 0)) 3] 60)]++((6,Qb1)::QaS (6+1) [Obj.cells (Qab (Qa1 0 Qao) ([]++Qa5 s xs 0)) 118]))++Qbh s xs) 8 (List.range 6) [5,2]]++QmS B s xs):=by kernel_rfl
theorem QtJ (B:Lo) (s:Int) (xs:List (Qad)):CE.landA 6 (Qan Tryz.prog (Qa6 Tryz.prog) J0 B 4 6 (Qcu s xs) (Qbh s xs) 6
 [(1,Qah.old (Hint.val (Value.int IntKind.u64 s))),(2,Qah.pure (.int .i64 (Qcv s)) [])] 0 [] []) [0,1,6,7] [(5,KS.auto),(2,KS.auto)] [] []=some ⟨157,20,Qc6,[],.run,none,QcK s xs (0),([5,2]:List Nat).zip (Qc8 s xs (0)),Qbx s xs (0),
 [QaB []/\Qau Tryz.prog J0 158 #[Value.int IntKind.u64 s] (.int .i64 (Qcv s)),IntKind.wrap IntKind.u64 s=s]⟩:=by kernel_rfl
theorem Quu (B:Lo) (s:Int) (xs:List (Qad)):Qbe (Qan Tryz.prog (Qa6 Tryz.prog) J0 B 16 1 (Qal Tryz.prog 139 18 (([.int .i64 s,slT xs.length (Qab Qao xs)]).map (Qav 0 4))) H00 1
 (Qre s xs++[(5,Qah.call (List.range 6) (OO.ret (.tuple #[])) ([(5,Obj.loop {state:=LoopState.ready,pending:=none,fn:=139,tmps:=(Qeu s xs),params:=#[9],assign:=nav (Qaq Tryz.prog 139) [1,1,0,1,0,0],body:=nav (Qaq Tryz.prog 139) [1,1,0,1,0,1],defers:=4}),(2,Obj.cells #[.slice none 0 0] 60)]++(6,Qb1)::QaS 7 []) 7 [5,2])]) 0 [] []) []=some (slT 0 #[],
 [FJ Tryz.prog B (Qcu s xs) (Qbh s xs) 6 (OO.ret (.tuple #[])) (([(5,Obj.loop {state:=LoopState.ready,pending:=none,fn:=139,tmps:=(Qeu s xs),params:=#[9],assign:=nav (Qaq Tryz.prog 139) [1,1,0,1,0,0],body:=nav (Qaq Tryz.prog 139) [1,1,0,1,0,1],defers:=4}),(2,Obj.cells #[.slice none 0 0] 60)]++((6,Qb1)::QaS (6+1) []))++Qbh s xs) 7 (List.range 6) [5,2]]++QmS B s xs):=by kernel_rfl
set_option maxHeartbeats 4000000 in
theorem Q1B (s:Int) (xs:List (Qad)) (h0:0<=s) (h1:s < 64) (hx:Qcv s<=xs.length) {B:Lo} (hJ:∀w,B.has w->J0 w):EndsT Tryz.prog B (Qal Tryz.prog 139 18 (([.int .i64 s,slT xs.length (Qab Qao xs)]).map (Qav 0 4))) (slT (Qa5 s xs 0).length (Qab Qao (Qa5 s xs 0))):=by
 have hl:=Qfs h0 h1
 have rj0:FJ Tryz.prog B (Qje s xs) (Qhf s xs) 3 (OO.ret (Value.func (Fn.func 157) #[] #[Qay 3 (ptT 0 #[.int .i64 s])])) (([]++((3,Qb1)::QaS (3+1) []))++Qhf s xs) 4 (List.range 3) []:=by
  exact FinK.fjB (GoE.finK okF hJ Qac (Qat (by kernel_rfl)) (Qam (by kernel_rfl)) ((GoE.refl (P:=Tryz.prog) (B:=B) (c0:=Qje s xs) (Qat (by kernel_rfl))).widen (Wf:=((([]):List (Nat×KS)).map (·.1))) (by simp) (Qam (by kernel_rfl))) (QwN B s xs)
   ⟨(QfT (by kernel_rfl)),trivial⟩) (ex:=[]) (by kernel_rfl) (QbB _)
 have hp0:QaB (QmS B s xs):=by
  exact ⟨rj0,trivial⟩
 cases q0: !List.isEmpty ([]++Qa5 s xs 0) with
 | true=>
   have rj1:FJ Tryz.prog B (Qcu s xs) (Qbh s xs) 6 (OO.ret (.tuple #[])) (([(5,Obj.loop {state:=LoopState.ready,pending:=none,fn:=139,tmps:=#[.int .i64 s,Qay 0 (slT xs.length (Qab Qao xs)),.tuple #[],pA 1 0,.slice none 0 0,pA 2 0,.tuple #[],.int .i64 s,Value.func (Fn.func 157) #[] #[Qay 3 (ptT 0 #[.int .i64 s])],.tuple #[],.tuple #[],.tuple #[],.tuple #[],.tuple #[],.tuple #[],.tuple #[],.tuple #[],.tuple #[]],params:=#[9],assign:=nav (Qaq Tryz.prog 139) [1,1,0,1,0,0],body:=nav (Qaq Tryz.prog 139) [1,1,0,1,0,1],defers:=4}),(2,Obj.cells #[.slice (some {block:=7,off:=0}) (List.length ([]++Qa5 s xs 0)) 3] 60)]++((6,Qb1)::QaS (6+1) [Obj.cells (Qab (Qa1 0 Qao) ([]++Qa5 s xs 0)) 118]))++Qbh s xs) 8 (List.range 6) [5,2]:=by
    exact FinK.fjB ((Qki s xs h0 h1 hx hJ _).1 (0) true q0 rfl (by omega)
     (GoE.landA okF hJ Qac (Qat (by kernel_rfl)) (Qam (by kernel_rfl)) ((GoE.refl (P:=Tryz.prog) (B:=B) (c0:=Qcu s xs) (Qat (by kernel_rfl))).widen (Wf:=((([(5,KS.auto),(2,KS.auto)]):List (Nat×KS)).map (·.1))) (by simp) (Qam (by kernel_rfl))) (Qxn B s xs)
     ⟨⟨trivial,Q5j (s) (by with_reducible assumption) (by with_reducible assumption)⟩,⟨(IntWalk.u64_in _ ⟨by omega,by omega⟩),trivial⟩⟩ (by kernel_rfl) (by kernel_rfl) (fun l hl=> by cases hl <;> decide))) (ex:=[]) (by kernel_rfl) (QbB _)
   exact (GoE.endsT okF hJ Qac GoE.start (QtA B s xs)
    ⟨(QbV (QaK (fun _=> rfl)) (List.Mem.head _)),⟨rj1,hp0⟩⟩).cast (by rfl)
 | false=>
   have rj1:FJ Tryz.prog B (Qcu s xs) (Qbh s xs) 6 (OO.ret (.tuple #[])) (([(5,Obj.loop {state:=LoopState.ready,pending:=none,fn:=139,tmps:=#[.int .i64 s,Qay 0 (slT xs.length (Qab Qao xs)),.tuple #[],pA 1 0,.slice none 0 0,pA 2 0,.tuple #[],.int .i64 s,Value.func (Fn.func 157) #[] #[Qay 3 (ptT 0 #[.int .i64 s])],.tuple #[],.tuple #[],.tuple #[],.tuple #[],.tuple #[],.tuple #[],.tuple #[],.tuple #[],.tuple #[]],params:=#[9],assign:=nav (Qaq Tryz.prog 139) [1,1,0,1,0,0],body:=nav (Qaq Tryz.prog 139) [1,1,0,1,0,1],defers:=4}),(2,Obj.cells #[.slice none 0 0] 60)]++((6,Qb1)::QaS (6+1) []))++Qbh s xs) 7 (List.range 6) [5,2]:=by
    exact FinK.fjB ((Qki s xs h0 h1 hx hJ _).1 (0) false q0 rfl (by omega)
     (GoE.landA okF hJ Qac (Qat (by kernel_rfl)) (Qam (by kernel_rfl)) ((GoE.refl (P:=Tryz.prog) (B:=B) (c0:=Qcu s xs) (Qat (by kernel_rfl))).widen (Wf:=((([(5,KS.auto),(2,KS.auto)]):List (Nat×KS)).map (·.1))) (by simp) (Qam (by kernel_rfl))) (QtJ B s xs)
     ⟨⟨trivial,Q5j (s) (by with_reducible assumption) (by with_reducible assumption)⟩,⟨(IntWalk.u64_in _ ⟨by omega,by omega⟩),trivial⟩⟩ (by kernel_rfl) (by kernel_rfl) (fun l hl=> by cases hl <;> decide))) (ex:=[]) (by kernel_rfl) (QbB _)
   exact (GoE.endsT okF hJ Qac GoE.start (Quu B s xs)
    ⟨rj1,hp0⟩).cast (by (rw [Q4G q0];rfl))
theorem Q4p (s:Int) (xs:List (Qad)) (h0:0<=s) (h1:s < 64) (hx:Qcv s<=xs.length):Qau Tryz.prog J0 139 #[.int .i64 s,slT xs.length (Qab Qao xs)] (slT (Qa5 s xs 0).length (Qab Qao (Qa5 s xs 0))):=
 QaF (ts:=[.int .i64 s,slT xs.length (Qab Qao xs)]) Qbw (c0:=Qal Tryz.prog 139 18 (([.int .i64 s,slT xs.length (Qab Qao xs)]).map (Qav 0 4))) (by kernel_rfl) (by kernel_rfl) fun B hJ=> Q1B s xs h0 h1 hx hJ
def QgB (s:Int) (xs:List (Row)):Qaw:=[(2,Obj.cells #[.slice none 0 0] 63),(1,Obj.cells #[Qay 0 (slT xs.length (Qab Qax xs))] 63),(0,Obj.coro none)]
def QiN (s:Int) (xs:List (Row)):CF:=⟨147,ofList 4 [.int .i64 s],[Item.code (Qaq Tryz.prog 147)],[],.run,none⟩
def Qeg (s:Int) (xs:List (Row)):Array Value:=#[.int .i64 s,Qay 0 (slT xs.length (Qab Qax xs)),.tuple #[],pA 1 0,.slice none 0 0,pA 2 0,.tuple #[],.int .i64 s,Value.func (Fn.func 157) #[] #[Qay 3 (ptT 0 #[.int .i64 s])],.tuple #[],.tuple #[],.tuple #[],.tuple #[],.tuple #[],.tuple #[],.tuple #[],.tuple #[],.tuple #[]]
def QeO (xs:List (Row)) (n:Int):Array Value:=#[Qay 0 (slT (List.length (xs.getD n.toNat default)) (Qab Qag (xs.getD n.toNat default)))]
def Qii (xs:List (Row)) (n:Int):Array Value:=#[slT (List.length (xs.getD n.toNat default)) (Qab Qag (xs.getD n.toNat default))]
theorem Qxz (B:Lo) (s:Int) (xs:List (Row)):CE.finK 3 (Qan Tryz.prog (Qa6 Tryz.prog) J0 B 6 3 (QiN s xs) (QgB s xs) 3
 [] 0 [] []) [] [] [{k:=3,rs:=[],cs:=#[.int .i64 s]}]=some (OO.ret (Value.func (Fn.func 157) #[] #[Qay 3 (ptT 0 #[.int .i64 s])]),[],[],
 [QaY (Fz.rs {k:=3,rs:=[],cs:=#[.int .i64 s]}) #[.int .i64 s] (Fz.cs {k:=3,rs:=[],cs:=#[.int .i64 s]})]):=by kernel_rfl
def Qmq (B:Lo) (s:Int) (xs:List (Row)):List Prop:=[FJ Tryz.prog B (QiN s xs) (QgB s xs) 3 (OO.ret (Value.func (Fn.func 157) #[] #[Qay 3 (ptT 0 #[.int .i64 s])])) (([]++((3,Qb1)::QaS (3+1) []))++QgB s xs) 4 (List.range 3) []]++([]:List Prop)
def Qrd (s:Int) (xs:List (Row)):Qa7:=[(4,Qah.call (List.range 3) (OO.ret (Value.func (Fn.func 157) #[] #[Qay 3 (ptT 0 #[.int .i64 s])])) ([]++(3,Qb1)::QaS 4 []) 4 [])]
def Qbg (s:Int) (xs:List (Row)):Qaw:=[(5,Obj.loop {state:=LoopState.ready,pending:=none,fn:=121,tmps:=#[.int .i64 s,Qay 0 (slT xs.length (Qab Qax xs)),.tuple #[],pA 1 0,.slice none 0 0,pA 2 0,.tuple #[],.int .i64 s,Value.func (Fn.func 157) #[] #[Qay 3 (ptT 0 #[.int .i64 s])],.tuple #[],.tuple #[],.tuple #[],.tuple #[],.tuple #[],.tuple #[],.tuple #[],.tuple #[],.tuple #[]],params:=#[9],assign:=nav (Qaq Tryz.prog 121) [1,1,0,1,0,0],body:=nav (Qaq Tryz.prog 121) [1,1,0,1,0,1],defers:=4}),(4,Obj.deferred (some [])),(3,Obj.coro none),(2,Obj.cells #[.slice none 0 0] 63),(1,Obj.cells #[Qay 0 (slT xs.length (Qab Qax xs))] 63),(0,Obj.coro none)]
def Qcr (s:Int) (xs:List (Row)):CF:=⟨157,ofList 20 [Value.func (Fn.yield 5) #[] #[],Qay 3 (ptT 0 #[.int .i64 s])],[Item.code (Qaq Tryz.prog 157)],[],.run,none⟩
def QcN (s:Int) (xs:List (Row)) (n:Int):List Value:=[Value.func (Fn.yield 5) #[] #[],Qay 3 (ptT 0 #[.int .i64 s]),.int .i64 (Qcv s),.int .i64 n]
def QcE (s:Int) (xs:List (Row)) (n:Int):List Obj:=[Obj.loop {state:=LoopState.ready,pending:=none,fn:=121,tmps:=#[.int .i64 s,Qay 0 (slT xs.length (Qab Qax xs)),.tuple #[],pA 1 0,.slice none 0 0,pA 2 0,.tuple #[],.int .i64 s,Value.func (Fn.func 157) #[] #[Qay 3 (ptT 0 #[.int .i64 s])],.tuple #[],.tuple #[],.tuple #[],.tuple #[],.tuple #[],.tuple #[],.tuple #[],.tuple #[],.tuple #[]],params:=#[9],assign:=nav (Qaq Tryz.prog 121) [1,1,0,1,0,0],body:=nav (Qaq Tryz.prog 121) [1,1,0,1,0,1],defers:=4},.cells #[.slice none 0 0] 63 (0,0)]
def Qby (s:Int) (xs:List (Row)) (n:Int):List Obj:=[]
def QcJ:List Item:=([.code [1,0,0],.inLoop [1,0,0],.inBlock 0]).map (it (Qaq Tryz.prog 157))
def QcA (s:Int) (xs:List (Row)) (n:Int) (acc:List Row) (acc_n:Nat):List Value:=[Value.func (Fn.yield 5) #[] #[],Qay 3 (ptT 0 #[.int .i64 s]),.int .i64 (Qcv s),.int .i64 n]
def QcI (s:Int) (xs:List (Row)) (n:Int) (acc:List Row) (acc_n:Nat):List Obj:=[Obj.loop {state:=LoopState.ready,pending:=none,fn:=121,tmps:=#[.int .i64 s,Qay 0 (slT xs.length (Qab Qax xs)),.tuple #[],pA 1 0,.slice none 0 0,pA 2 0,.tuple #[],.int .i64 s,Value.func (Fn.func 157) #[] #[Qay 3 (ptT 0 #[.int .i64 s])],.tuple #[],.tuple #[],.tuple #[],.tuple #[],.tuple #[],.tuple #[],.tuple #[],.tuple #[],.tuple #[]],params:=#[9],assign:=nav (Qaq Tryz.prog 121) [1,1,0,1,0,0],body:=nav (Qaq Tryz.prog 121) [1,1,0,1,0,1],defers:=4},.cells #[.slice (some ⟨7,0,none⟩) acc_n 1] 63 (0,0)]
def Qb0 (s:Int) (xs:List (Row)) (n:Int) (acc:List Row) (acc_n:Nat):List Obj:=[Obj.cells (Qab (Qa1 0 Qax) acc) 22 (0,0)]
def QcB:List Item:=([.code [1,0,0],.inLoop [1,0,0],.inBlock 0]).map (it (Qaq Tryz.prog 157))
def Qll (B:Lo) (s:Int) (xs:List (Row)) (n:Int) (dJ0:Nat->Value):List Prop:=[ltq n (Qcv s)=true]++([]:List Prop)
def QpX (s:Int) (xs:List (Row)) (n:Int) (dJ0:Nat->Value):Qa7:=[(0,hvT)]
def QgQ (s:Int) (xs:List (Row)) (n:Int) (dJ0:Nat->Value):Qaw:=[(5,Obj.loop {state:=LoopState.ready,pending:=none,fn:=121,tmps:=#[.int .i64 s,Qay 0 (slT xs.length (Qab Qax xs)),.tuple #[],pA 1 0,.slice none 0 0,pA 2 0,.tuple #[],.int .i64 s,Value.func (Fn.func 157) #[] #[Qay 3 (ptT 0 #[.int .i64 s])],.tuple #[],.tuple #[],.tuple #[],.tuple #[],.tuple #[],.tuple #[],.tuple #[],.tuple #[],.tuple #[]],params:=#[9],assign:=nav (Qaq Tryz.prog 121) [1,1,0,1,0,0],body:=nav (Qaq Tryz.prog 121) [1,1,0,1,0,1],defers:=4}),(2,Obj.cells #[.slice none 0 0] 63),(6,Obj.coro none),(5,Obj.loop {state:=LoopState.ready,pending:=none,fn:=121,tmps:=#[.int .i64 s,Qay 0 (slT xs.length (Qab Qax xs)),.tuple #[],pA 1 0,.slice none 0 0,pA 2 0,.tuple #[],.int .i64 s,Value.func (Fn.func 157) #[] #[Qay 3 (ptT 0 #[.int .i64 s])],.tuple #[],.tuple #[],.tuple #[],.tuple #[],.tuple #[],.tuple #[],.tuple #[],.tuple #[],.tuple #[]],params:=#[9],assign:=nav (Qaq Tryz.prog 121) [1,1,0,1,0,0],body:=nav (Qaq Tryz.prog 121) [1,1,0,1,0,1],defers:=4}),(4,Obj.deferred (some [])),(3,Obj.coro none),(2,Obj.cells #[.slice none 0 0] 63),(1,Obj.cells #[Qay 0 (slT xs.length (Qab Qax xs))] 63),(0,Obj.coro none)]
def Qiq (s:Int) (xs:List (Row)) (n:Int) (dJ0:Nat->Value):CF:=⟨121,ofList 18 [.int .i64 s,Qay 0 (slT xs.length (Qab Qax xs)),.tuple #[],pA 1 0,.slice none 0 0,pA 2 0,.tuple #[],.int .i64 s,Value.func (Fn.func 157) #[] #[Qay 3 (ptT 0 #[.int .i64 s])],.int .i64 n,.tuple #[],.tuple #[],.tuple #[],.tuple #[],.tuple #[],.tuple #[],.tuple #[],.tuple #[]],[Item.code (nav (Qaq Tryz.prog 121) [1,1,0,1,0,0]),Item.beginRound,Item.code (nav (Qaq Tryz.prog 121) [1,1,0,1,0,1])],[],.run,some 5⟩
theorem QxQ (B:Lo) (s:Int) (xs:List (Row)) (n:Int) (dJ0:Nat->Value):CE.finK 7 (Qan Tryz.prog (Qa6 Tryz.prog) J0 B 6 7 (Qiq s xs n dJ0) (QgQ s xs n dJ0) 7
 [(4,Qah.tidx n.toNat (Qii xs n))] 0 [] []) [(5,KS.auto),(2,KS.auto)] [(8,KS.auto)] []=some (OO.ret (.bool true),[(5,Obj.loop {state:=LoopState.ready,pending:=none,fn:=121,tmps:=#[.int .i64 s,Qay 0 (slT xs.length (Qab Qax xs)),.tuple #[],pA 1 0,.slice none 0 0,pA 2 0,.tuple #[],.int .i64 s,Value.func (Fn.func 157) #[] #[Qay 3 (ptT 0 #[.int .i64 s])],.tuple #[],.tuple #[],.tuple #[],.tuple #[],.tuple #[],.tuple #[],.tuple #[],.tuple #[],.tuple #[]],params:=#[9],assign:=nav (Qaq Tryz.prog 121) [1,1,0,1,0,0],body:=nav (Qaq Tryz.prog 121) [1,1,0,1,0,1],defers:=4}),(2,Obj.cells #[.slice (some {block:=8,off:=0}) 1 1] 63)],[Obj.cells #[Qay 0 (slT (List.length (xs.getD n.toNat default)) (Qab Qag (xs.getD n.toNat default)))] 22],
 [n=(↑n.toNat:Int)/\Int.toNat n < List.length xs/\Array.extract (Qab Qax xs) (Int.toNat n * TypeInfo.size Tryz.t22) (Int.toNat n * TypeInfo.size Tryz.t22+TypeInfo.size Tryz.t22)=(Qii xs n)]):=by kernel_rfl
theorem QxZ (B:Lo) (s:Int) (xs:List (Row)) (n:Int) (dJ0:Nat->Value):CE.landA 6 (Qan Tryz.prog (Qa6 Tryz.prog) J0 B 16 6 (Qcs (none) 157 20 (([0,1,6,7]:List Nat).zip (QcN s xs n)) dJ0 QcJ) (Qb9 (Qbg s xs) 6 (([5,2]:List Nat).zip (QcE s xs n)) (Qby s xs n)) (6+1+(Qby s xs n).length)
 (QpX s xs n dJ0++[(5,Qah.pure (.bool true) []),(9,Qah.call (List.range 7) (OO.ret (.bool true)) ([(5,Obj.loop {state:=LoopState.ready,pending:=none,fn:=121,tmps:=(Qeg s xs),params:=#[9],assign:=nav (Qaq Tryz.prog 121) [1,1,0,1,0,0],body:=nav (Qaq Tryz.prog 121) [1,1,0,1,0,1],defers:=4}),(2,Obj.cells #[.slice (some {block:=8,off:=0}) 1 1] 63)]++(7,Qb1)::QaS 8 [Obj.cells (QeO xs n) 22]) 9 [5,2]),(12,hvI (n+1))]) 0 [] []) [0,1,6,7] [(5,KS.auto),(2,KS.auto)] [(8,KS.rows [(0,0)] [] (Qab (Qa1 0 Qax) [xs.getD n.toNat default]))] []=some ⟨157,20,QcB,[],.run,none,QcA s xs (n+1) ([xs.getD n.toNat default]) (1),([5,2]:List Nat).zip (QcI s xs (n+1) ([xs.getD n.toNat default]) (1)),Qb0 s xs (n+1) ([xs.getD n.toNat default]) (1),
 [QaQ 6 [(0,0)] [] (QeO xs n) (Qab (Qa1 0 Qax) [xs.getD n.toNat default]),wq (n+1)=n+1,FJ Tryz.prog B (Qiq s xs n dJ0) (QgQ s xs n dJ0) 7 (OO.ret (.bool true)) (([(5,Obj.loop {state:=LoopState.ready,pending:=none,fn:=121,tmps:=(Qeg s xs),params:=#[9],assign:=nav (Qaq Tryz.prog 121) [1,1,0,1,0,0],body:=nav (Qaq Tryz.prog 121) [1,1,0,1,0,1],defers:=4}),(2,Obj.cells #[.slice (some {block:=8,off:=0}) 1 1] 63)]++((7,Qb1)::QaS (7+1) [Obj.cells (QeO xs n) 22]))++QgQ s xs n dJ0) 9 (List.range 7) [5,2],QaB []/\Qau Tryz.prog J0 159 #[.int .i64 s,.int .i64 n] (.bool true)]++Qll B s xs n dJ0⟩:=by kernel_rfl
theorem Qzn (B:Lo) (s:Int) (xs:List (Row)) (n:Int) (dJ0:Nat->Value):CE.landA 6 (Qan Tryz.prog (Qa6 Tryz.prog) J0 B 16 6 (Qcs (none) 157 20 (([0,1,6,7]:List Nat).zip (QcN s xs n)) dJ0 QcJ) (Qb9 (Qbg s xs) 6 (([5,2]:List Nat).zip (QcE s xs n)) (Qby s xs n)) (6+1+(Qby s xs n).length)
 (QpX s xs n dJ0++[(5,Qah.pure (.bool false) []),(12,hvI (n+1))]) 0 [] []) [0,1,6,7] [(5,KS.auto),(2,KS.auto)] [] []=some ⟨157,20,QcJ,[],.run,none,QcN s xs (n+1),([5,2]:List Nat).zip (QcE s xs (n+1)),Qby s xs (n+1),
 [wq (n+1)=n+1,QaB []/\Qau Tryz.prog J0 159 #[.int .i64 s,.int .i64 n] (.bool false)]++Qll B s xs n dJ0⟩:=by kernel_rfl
theorem Qxt (B:Lo) (s:Int) (xs:List (Row)) (n:Int) (dJ0:Nat->Value):CE.finK 6 (Qan Tryz.prog (Qa6 Tryz.prog) J0 B 7 6 (Qcs (none) 157 20 (([0,1,6,7]:List Nat).zip (QcN s xs n)) dJ0 QcJ) (Qb9 (Qbg s xs) 6 (([5,2]:List Nat).zip (QcE s xs n)) (Qby s xs n)) (6+1+(Qby s xs n).length)
 [(0,hvF)] 0 [] []) [(5,KS.auto),(2,KS.auto)] [] []=some (OO.ret (.tuple #[]),[(5,Obj.loop {state:=LoopState.ready,pending:=none,fn:=121,tmps:=#[.int .i64 s,Qay 0 (slT xs.length (Qab Qax xs)),.tuple #[],pA 1 0,.slice none 0 0,pA 2 0,.tuple #[],.int .i64 s,Value.func (Fn.func 157) #[] #[Qay 3 (ptT 0 #[.int .i64 s])],.tuple #[],.tuple #[],.tuple #[],.tuple #[],.tuple #[],.tuple #[],.tuple #[],.tuple #[],.tuple #[]],params:=#[9],assign:=nav (Qaq Tryz.prog 121) [1,1,0,1,0,0],body:=nav (Qaq Tryz.prog 121) [1,1,0,1,0,1],defers:=4}),(2,Obj.cells #[.slice none 0 0] 63)],[],
 [ltq n (Qcv s)=false]):=by kernel_rfl
def QkR (B:Lo) (s:Int) (xs:List (Row)) (n:Int) (acc:List Row) (acc_n:Nat) (dJ0:Nat->Value):List Prop:=[ltq n (Qcv s)=true]++([]:List Prop)
def Qqz (s:Int) (xs:List (Row)) (n:Int) (acc:List Row) (acc_n:Nat) (dJ0:Nat->Value):Qa7:=[(0,hvT)]
def QgH (s:Int) (xs:List (Row)) (n:Int) (acc:List Row) (acc_n:Nat) (dJ0:Nat->Value):Qaw:=[(5,Obj.loop {state:=LoopState.ready,pending:=none,fn:=121,tmps:=#[.int .i64 s,Qay 0 (slT xs.length (Qab Qax xs)),.tuple #[],pA 1 0,.slice none 0 0,pA 2 0,.tuple #[],.int .i64 s,Value.func (Fn.func 157) #[] #[Qay 3 (ptT 0 #[.int .i64 s])],.tuple #[],.tuple #[],.tuple #[],.tuple #[],.tuple #[],.tuple #[],.tuple #[],.tuple #[],.tuple #[]],params:=#[9],assign:=nav (Qaq Tryz.prog 121) [1,1,0,1,0,0],body:=nav (Qaq Tryz.prog 121) [1,1,0,1,0,1],defers:=4}),(2,Obj.cells #[.slice (some {block:=7,off:=0}) acc_n 1] 63),(6,Obj.coro none),(7,Obj.cells (Qab (Qa1 0 Qax) acc) 22),(5,Obj.loop {state:=LoopState.ready,pending:=none,fn:=121,tmps:=#[.int .i64 s,Qay 0 (slT xs.length (Qab Qax xs)),.tuple #[],pA 1 0,.slice none 0 0,pA 2 0,.tuple #[],.int .i64 s,Value.func (Fn.func 157) #[] #[Qay 3 (ptT 0 #[.int .i64 s])],.tuple #[],.tuple #[],.tuple #[],.tuple #[],.tuple #[],.tuple #[],.tuple #[],.tuple #[],.tuple #[]],params:=#[9],assign:=nav (Qaq Tryz.prog 121) [1,1,0,1,0,0],body:=nav (Qaq Tryz.prog 121) [1,1,0,1,0,1],defers:=4}),(4,Obj.deferred (some [])),(3,Obj.coro none),(2,Obj.cells #[.slice none 0 0] 63),(1,Obj.cells #[Qay 0 (slT xs.length (Qab Qax xs))] 63),(0,Obj.coro none)]
def Qil (s:Int) (xs:List (Row)) (n:Int) (acc:List Row) (acc_n:Nat) (dJ0:Nat->Value):CF:=⟨121,ofList 18 [.int .i64 s,Qay 0 (slT xs.length (Qab Qax xs)),.tuple #[],pA 1 0,.slice none 0 0,pA 2 0,.tuple #[],.int .i64 s,Value.func (Fn.func 157) #[] #[Qay 3 (ptT 0 #[.int .i64 s])],.int .i64 n,.tuple #[],.tuple #[],.tuple #[],.tuple #[],.tuple #[],.tuple #[],.tuple #[],.tuple #[]],[Item.code (nav (Qaq Tryz.prog 121) [1,1,0,1,0,0]),Item.beginRound,Item.code (nav (Qaq Tryz.prog 121) [1,1,0,1,0,1])],[],.run,some 5⟩
theorem QxM (B:Lo) (s:Int) (xs:List (Row)) (n:Int) (acc:List Row) (acc_n:Nat) (dJ0:Nat->Value):CE.finK 8 (Qan Tryz.prog (Qa6 Tryz.prog) J0 B 6 8 (Qil s xs n acc acc_n dJ0) (QgH s xs n acc acc_n dJ0) 8
 [(4,Qah.tidx n.toNat (Qii xs n)),(7,Qah.old (Hint.app (Qab (Qa1 0 Qax) acc++(QeO xs n))))] 0 [] []) [(7,KS.dead),(5,KS.auto),(2,KS.auto)] [(9,KS.rows [(0,0)] [] (Qab (Qa1 0 Qax) (acc++[xs.getD n.toNat default])))] []=some (OO.ret (.bool true),[(7,Obj.pending #[] 0),(5,Obj.loop {state:=LoopState.ready,pending:=none,fn:=121,tmps:=#[.int .i64 s,Qay 0 (slT xs.length (Qab Qax xs)),.tuple #[],pA 1 0,.slice none 0 0,pA 2 0,.tuple #[],.int .i64 s,Value.func (Fn.func 157) #[] #[Qay 3 (ptT 0 #[.int .i64 s])],.tuple #[],.tuple #[],.tuple #[],.tuple #[],.tuple #[],.tuple #[],.tuple #[],.tuple #[],.tuple #[]],params:=#[9],assign:=nav (Qaq Tryz.prog 121) [1,1,0,1,0,0],body:=nav (Qaq Tryz.prog 121) [1,1,0,1,0,1],defers:=4}),(2,Obj.cells #[.slice (some {block:=9,off:=0}) (acc_n+1) 1] 63)],[Obj.cells (Qab (Qa1 0 Qax) (acc++[xs.getD n.toNat default])) 22],
 [QaQ 8 [(0,0)] [] (Qab (Qa1 0 Qax) acc++(QeO xs n)) (Qab (Qa1 0 Qax) (acc++[xs.getD n.toNat default])),Array.size (Qab (Qa1 0 Qax) acc)=acc_n * (0+1)/\acc_n+1<=maxLen/\(acc_n+1) * 24<=140737488355328/\Qab (Qa1 0 Qax) acc++(QeO xs n)=Qab (Qa1 0 Qax) acc++(QeO xs n),n=(↑n.toNat:Int)/\Int.toNat n < List.length xs/\Array.extract (Qab Qax xs) (Int.toNat n * TypeInfo.size Tryz.t22) (Int.toNat n * TypeInfo.size Tryz.t22+TypeInfo.size Tryz.t22)=(Qii xs n)]):=by kernel_rfl
theorem Qyc (B:Lo) (s:Int) (xs:List (Row)) (n:Int) (acc:List Row) (acc_n:Nat) (dJ0:Nat->Value):CE.landA 6 (Qan Tryz.prog (Qa6 Tryz.prog) J0 B 16 6 (Qcs (none) 157 20 (([0,1,6,7]:List Nat).zip (QcA s xs n acc acc_n)) dJ0 QcB) (Qb9 (Qbg s xs) 6 (([5,2]:List Nat).zip (QcI s xs n acc acc_n)) (Qb0 s xs n acc acc_n)) (6+1+(Qb0 s xs n acc acc_n).length)
 (Qqz s xs n acc acc_n dJ0++[(5,Qah.pure (.bool true) []),(9,Qah.call (List.range 8) (OO.ret (.bool true)) ([(7,Obj.pending #[] 0),(5,Obj.loop {state:=LoopState.ready,pending:=none,fn:=121,tmps:=(Qeg s xs),params:=#[9],assign:=nav (Qaq Tryz.prog 121) [1,1,0,1,0,0],body:=nav (Qaq Tryz.prog 121) [1,1,0,1,0,1],defers:=4}),(2,Obj.cells #[.slice (some {block:=9,off:=0}) (acc_n+1) 1] 63)]++(8,Qb1)::QaS 9 [Obj.cells (Qab (Qa1 0 Qax) (acc++[xs.getD n.toNat default])) 22]) 10 [7,5,2]),(12,hvI (n+1))]) 0 [] []) [0,1,6,7] [(5,KS.auto),(2,KS.auto)] [(9,KS.rows [(0,0)] [] (Qab (Qa1 0 Qax) (acc++[xs.getD n.toNat default])))] []=some ⟨157,20,QcB,[],.run,none,QcA s xs (n+1) (acc++[xs.getD n.toNat default]) (acc_n+1),([5,2]:List Nat).zip (QcI s xs (n+1) (acc++[xs.getD n.toNat default]) (acc_n+1)),Qb0 s xs (n+1) (acc++[xs.getD n.toNat default]) (acc_n+1),
 [QaQ 6 [(0,0)] [] (Qab (Qa1 0 Qax) (acc++[xs.getD n.toNat default])) (Qab (Qa1 0 Qax) (acc++[xs.getD n.toNat default])),wq (n+1)=n+1,FJ Tryz.prog B (Qil s xs n acc acc_n dJ0) (QgH s xs n acc acc_n dJ0) 8 (OO.ret (.bool true)) (([(7,Obj.pending #[] 0),(5,Obj.loop {state:=LoopState.ready,pending:=none,fn:=121,tmps:=(Qeg s xs),params:=#[9],assign:=nav (Qaq Tryz.prog 121) [1,1,0,1,0,0],body:=nav (Qaq Tryz.prog 121) [1,1,0,1,0,1],defers:=4}),(2,Obj.cells #[.slice (some {block:=9,off:=0}) (acc_n+1) 1] 63)]++((8,Qb1)::QaS (8+1) [Obj.cells (Qab (Qa1 0 Qax) (acc++[xs.getD n.toNat default])) 22]))++QgH s xs n acc acc_n dJ0) 10 (List.range 8) [7,5,2],QaB []/\Qau Tryz.prog J0 159 #[.int .i64 s,.int .i64 n] (.bool true)]++QkR B s xs n acc acc_n dJ0⟩:=by kernel_rfl
theorem QvC (B:Lo) (s:Int) (xs:List (Row)) (n:Int) (acc:List Row) (acc_n:Nat) (dJ0:Nat->Value):CE.landA 6 (Qan Tryz.prog (Qa6 Tryz.prog) J0 B 16 6 (Qcs (none) 157 20 (([0,1,6,7]:List Nat).zip (QcA s xs n acc acc_n)) dJ0 QcB) (Qb9 (Qbg s xs) 6 (([5,2]:List Nat).zip (QcI s xs n acc acc_n)) (Qb0 s xs n acc acc_n)) (6+1+(Qb0 s xs n acc acc_n).length)
 (Qqz s xs n acc acc_n dJ0++[(5,Qah.pure (.bool false) []),(12,hvI (n+1))]) 0 [] []) [0,1,6,7] [(5,KS.auto),(2,KS.auto)] [(7,KS.rows [(0,0)] [] (Qab (Qa1 0 Qax) acc))] []=some ⟨157,20,QcB,[],.run,none,QcA s xs (n+1) (acc) (acc_n),([5,2]:List Nat).zip (QcI s xs (n+1) (acc) (acc_n)),Qb0 s xs (n+1) (acc) (acc_n),
 [QaQ 6 [(0,0)] [] (Qab (Qa1 0 Qax) acc) (Qab (Qa1 0 Qax) acc),wq (n+1)=n+1,QaB []/\Qau Tryz.prog J0 159 #[.int .i64 s,.int .i64 n] (.bool false)]++QkR B s xs n acc acc_n dJ0⟩:=by kernel_rfl
theorem QxR (B:Lo) (s:Int) (xs:List (Row)) (n:Int) (acc:List Row) (acc_n:Nat) (dJ0:Nat->Value):CE.finK 6 (Qan Tryz.prog (Qa6 Tryz.prog) J0 B 7 6 (Qcs (none) 157 20 (([0,1,6,7]:List Nat).zip (QcA s xs n acc acc_n)) dJ0 QcB) (Qb9 (Qbg s xs) 6 (([5,2]:List Nat).zip (QcI s xs n acc acc_n)) (Qb0 s xs n acc acc_n)) (6+1+(Qb0 s xs n acc acc_n).length)
 [(0,hvF)] 0 [] []) [(5,KS.auto),(2,KS.auto)] [(7,KS.rows [(0,0)] [] (Qab (Qa1 0 Qax) acc))] []=some (OO.ret (.tuple #[]),[(5,Obj.loop {state:=LoopState.ready,pending:=none,fn:=121,tmps:=#[.int .i64 s,Qay 0 (slT xs.length (Qab Qax xs)),.tuple #[],pA 1 0,.slice none 0 0,pA 2 0,.tuple #[],.int .i64 s,Value.func (Fn.func 157) #[] #[Qay 3 (ptT 0 #[.int .i64 s])],.tuple #[],.tuple #[],.tuple #[],.tuple #[],.tuple #[],.tuple #[],.tuple #[],.tuple #[],.tuple #[]],params:=#[9],assign:=nav (Qaq Tryz.prog 121) [1,1,0,1,0,0],body:=nav (Qaq Tryz.prog 121) [1,1,0,1,0,1],defers:=4}),(2,Obj.cells #[.slice (some {block:=7,off:=0}) acc_n 1] 63)],[Obj.cells (Qab (Qa1 0 Qax) acc) 22],
 [QaQ 6 [(0,0)] [] (Qab (Qa1 0 Qax) acc) (Qab (Qa1 0 Qax) acc),ltq n (Qcv s)=false]):=by kernel_rfl
set_option maxHeartbeats 4000000 in
theorem QjX (s:Int) (xs:List (Row)) (h0:0<=s) (h1:s < 64) (hx:Qcv s<=xs.length) {B:Lo} (hJ:∀w,B.has w->J0 w):∀m:Nat,(∀(n:Int),∀(r:Bool),(!(([]:List Row)++Qa5 s xs n).isEmpty)=r->(Qcv s - n).toNat=m->∀(hn:0<=n),(∃dJ0:Nat->Value,(∀t,QaP (dJ0 t))/\GoE Tryz.prog B (Qcr s xs) (Qbg s xs) 6 (Qcs (none) 157 20 (([0,1,6,7]:List Nat).zip (QcN s xs n)) dJ0 QcJ) (Qb9 (Qbg s xs) 6 (([5,2]:List Nat).zip (QcE s xs n)) (Qby s xs n)) (6+1+(Qby s xs n).length) ([5,2]:List Nat))->FinK Tryz.prog B (Qcr s xs) (Qbg s xs) 6 (.ret (.tuple #[])) (([5,2]:List Nat).zip ([Obj.loop {state:=LoopState.ready,pending:=none,fn:=121,tmps:=#[.int .i64 s,Qay 0 (slT xs.length (Qab Qax xs)),.tuple #[],pA 1 0,.slice none 0 0,pA 2 0,.tuple #[],.int .i64 s,Value.func (Fn.func 157) #[] #[Qay 3 (ptT 0 #[.int .i64 s])],.tuple #[],.tuple #[],.tuple #[],.tuple #[],.tuple #[],.tuple #[],.tuple #[],.tuple #[],.tuple #[]],params:=#[9],assign:=nav (Qaq Tryz.prog 121) [1,1,0,1,0,0],body:=nav (Qaq Tryz.prog 121) [1,1,0,1,0,1],defers:=4},.cells #[bif r then .slice (some ⟨7,0,none⟩) (([]:List Row)++Qa5 s xs n).length 1 else .slice none 0 0] 63 (0,0)])) (bif r then [Go.Obj.cells (Qab (Qa1 0 Qax) (([]:List Row)++Qa5 s xs n)) 22 (0,0)] else []) ([5,2]:List Nat))/\(∀(n:Int) (acc:List Row) (acc_n:Nat),∀(r:Bool),(!(acc++Qa5 s xs n).isEmpty)=r->(Qcv s - n).toNat=m->∀(hn:0<=n) (hacc:acc_n=acc.length) (haccb:acc≠[]/\(acc_n:Int)<=n),(∃dJ0:Nat->Value,(∀t,QaP (dJ0 t))/\GoE Tryz.prog B (Qcr s xs) (Qbg s xs) 6 (Qcs (none) 157 20 (([0,1,6,7]:List Nat).zip (QcA s xs n acc acc_n)) dJ0 QcB) (Qb9 (Qbg s xs) 6 (([5,2]:List Nat).zip (QcI s xs n acc acc_n)) (Qb0 s xs n acc acc_n)) (6+1+(Qb0 s xs n acc acc_n).length) ([5,2]:List Nat))->FinK Tryz.prog B (Qcr s xs) (Qbg s xs) 6 (.ret (.tuple #[])) (([5,2]:List Nat).zip ([Obj.loop {state:=LoopState.ready,pending:=none,fn:=121,tmps:=#[.int .i64 s,Qay 0 (slT xs.length (Qab Qax xs)),.tuple #[],pA 1 0,.slice none 0 0,pA 2 0,.tuple #[],.int .i64 s,Value.func (Fn.func 157) #[] #[Qay 3 (ptT 0 #[.int .i64 s])],.tuple #[],.tuple #[],.tuple #[],.tuple #[],.tuple #[],.tuple #[],.tuple #[],.tuple #[],.tuple #[]],params:=#[9],assign:=nav (Qaq Tryz.prog 121) [1,1,0,1,0,0],body:=nav (Qaq Tryz.prog 121) [1,1,0,1,0,1],defers:=4},.cells #[bif r then .slice (some ⟨7,0,none⟩) (acc++Qa5 s xs n).length 1 else .slice none 0 0] 63 (0,0)])) (bif r then [Go.Obj.cells (Qab (Qa1 0 Qax) (acc++Qa5 s xs n)) 22 (0,0)] else []) ([5,2]:List Nat)):=by
 intro m0
 induction m0 using Nat.strongRecOn with
 | _ m0 ih0=>
   refine ⟨?_, ?_⟩
   ·intro n r1 hr1 hm0 hn ⟨dJ0,hdJ0,hg0⟩
    have hl:=Qfs h0 h1
    by_cases q0:(n:Int) < (Qcv s)
    ·
     have hp1:QaB (Qll B s xs n dJ0):=by
      exact ⟨(QaW q0),trivial⟩
     cases q1:Qk0 s n with
     | true=>
       have rj2:FJ Tryz.prog B (Qiq s xs n dJ0) (QgQ s xs n dJ0) 7 (OO.ret (.bool true)) (([(5,Obj.loop {state:=LoopState.ready,pending:=none,fn:=121,tmps:=#[.int .i64 s,Qay 0 (slT xs.length (Qab Qax xs)),.tuple #[],pA 1 0,.slice none 0 0,pA 2 0,.tuple #[],.int .i64 s,Value.func (Fn.func 157) #[] #[Qay 3 (ptT 0 #[.int .i64 s])],.tuple #[],.tuple #[],.tuple #[],.tuple #[],.tuple #[],.tuple #[],.tuple #[],.tuple #[],.tuple #[]],params:=#[9],assign:=nav (Qaq Tryz.prog 121) [1,1,0,1,0,0],body:=nav (Qaq Tryz.prog 121) [1,1,0,1,0,1],defers:=4}),(2,Obj.cells #[.slice (some {block:=8,off:=0}) 1 1] 63)]++((7,Qb1)::QaS (7+1) [Obj.cells #[Qay 0 (slT (List.length (xs.getD n.toNat default)) (Qab Qag (xs.getD n.toNat default)))] 22]))++QgQ s xs n dJ0) 9 (List.range 7) [5,2]:=by
        have s2:=Qfe (s:=s) (xs:=xs) q0 q1
        exact FinK.fjB (GoE.finK okF hJ Qac (Qat (by kernel_rfl)) (Qam (by kernel_rfl)) ((GoE.refl (P:=Tryz.prog) (B:=B) (c0:=Qiq s xs n dJ0) (Qat (by kernel_rfl))).widen (Wf:=((([(5,KS.auto),(2,KS.auto)]):List (Nat×KS)).map (·.1))) (by simp) (Qam (by kernel_rfl))) (QxQ B s xs n dJ0)
         ⟨⟨by omega,by omega,(Qae (z:=1) (fun _=> rfl) (by omega))⟩,trivial⟩) (ex:=[]) (by kernel_rfl) (QbB _)
       have s2:=Qfe (s:=s) (xs:=xs) q0 q1
       exact ((ih0 _ (by omega)).2 (n+1) ([xs.getD n.toNat default]) (1) r1 (by (rw [<-hr1,s2];simp;done)) rfl (by omega) (by (simp_all;done)) (by (refine ⟨by simp, ?_⟩;omega))
        (GoE.landA okF hJ Qac (Qat (by kernel_rfl)) (Qam (by kernel_rfl)) hg0 (QxZ B s xs n dJ0)
        ⟨(by exact (QeH (by exact ⟨(.reg (List.Mem.head _) rfl),trivial⟩))),⟨(QaM (by omega) (by omega)),⟨rj2,⟨⟨trivial,(by have t_:=Q2k (s) (n) (by omega) (by omega);rw [q1] at t_;exact t_)⟩,hp1⟩⟩⟩⟩ (by kernel_rfl) (by kernel_rfl) (fun l hl=> by cases hl <;> decide))).cast (by rfl) (by (rw [s2];rfl)) (by (rw [s2];rfl))
     | false=>
       have s2:=Qiy (s:=s) (xs:=xs) q0 q1
       exact ((ih0 _ (by omega)).1 (n+1) r1 (by (rw [<-hr1,s2];done)) rfl (by omega)
        (GoE.landA okF hJ Qac (Qat (by kernel_rfl)) (Qam (by kernel_rfl)) hg0 (Qzn B s xs n dJ0)
        ⟨(QaM (by omega) (by omega)),⟨⟨trivial,(by have t_:=Q2k (s) (n) (by omega) (by omega);rw [q1] at t_;exact t_)⟩,hp1⟩⟩ (by kernel_rfl) (by kernel_rfl) (fun l hl=> by cases hl <;> decide))).cast (by rfl) (by (rw [s2];done)) (by (rw [s2];done))
    ·
     have s2:=QiG (s:=s) (xs:=xs) (n:=n) (by omega)
     exact (GoE.finK okF hJ Qac (Qat (by kernel_rfl)) (Qam (by kernel_rfl)) hg0 (Qxt B s xs n dJ0)
      ⟨(Qbb (Int.not_lt.1 q0)),trivial⟩).cast (by rfl) (by (subst hr1;rw [s2];rfl)) (by (subst hr1;rw [s2];rfl))
   ·intro n acc acc_n r1 hr1 hm0 hn hacc haccb ⟨dJ0,hdJ0,hg0⟩
    have hl:=Qfs h0 h1
    by_cases q0:(n:Int) < (Qcv s)
    ·
     have hp2:QaB (QkR B s xs n acc acc_n dJ0):=by
      exact ⟨(QaW q0),trivial⟩
     cases q1:Qk0 s n with
     | true=>
       have rj2:FJ Tryz.prog B (Qil s xs n acc acc_n dJ0) (QgH s xs n acc acc_n dJ0) 8 (OO.ret (.bool true)) (([(7,Obj.pending #[] 0),(5,Obj.loop {state:=LoopState.ready,pending:=none,fn:=121,tmps:=#[.int .i64 s,Qay 0 (slT xs.length (Qab Qax xs)),.tuple #[],pA 1 0,.slice none 0 0,pA 2 0,.tuple #[],.int .i64 s,Value.func (Fn.func 157) #[] #[Qay 3 (ptT 0 #[.int .i64 s])],.tuple #[],.tuple #[],.tuple #[],.tuple #[],.tuple #[],.tuple #[],.tuple #[],.tuple #[],.tuple #[]],params:=#[9],assign:=nav (Qaq Tryz.prog 121) [1,1,0,1,0,0],body:=nav (Qaq Tryz.prog 121) [1,1,0,1,0,1],defers:=4}),(2,Obj.cells #[.slice (some {block:=9,off:=0}) (acc_n+1) 1] 63)]++((8,Qb1)::QaS (8+1) [Obj.cells (Qab (Qa1 0 Qax) (acc++[xs.getD n.toNat default])) 22]))++QgH s xs n acc acc_n dJ0) 10 (List.range 8) [7,5,2]:=by
        have s2:=Qfe (s:=s) (xs:=xs) q0 q1
        exact FinK.fjB (GoE.finK okF hJ Qac (Qat (by kernel_rfl)) (Qam (by kernel_rfl)) ((GoE.refl (P:=Tryz.prog) (B:=B) (c0:=Qil s xs n acc acc_n dJ0) (Qat (by kernel_rfl))).widen (Wf:=((([(7,KS.dead),(5,KS.auto),(2,KS.auto)]):List (Nat×KS)).map (·.1))) (by simp) (Qam (by kernel_rfl))) (QxM B s xs n acc acc_n dJ0)
         ⟨(by exact (QdQ (QaC (QaK (fun _=> rfl)) (List.Mem.head _)) (by exact ⟨(.reg (List.Mem.head _) rfl),trivial⟩))),⟨⟨(by (rw [QaU (z:=1) (fun _=> rfl)];first | omega | (simp;omega) | (simp_all;done))),(by unfold maxLen;omega),by omega,rfl⟩,⟨⟨by omega,by omega,(Qae (z:=1) (fun _=> rfl) (by omega))⟩,trivial⟩⟩⟩) (ex:=[7]) (by kernel_rfl) ⟨trivial,⟨trivial,⟨trivial,⟨(QeG (t:=22) (fl:=(0,0)) (QaK (fun _=> rfl)) (by decide)),⟨trivial,⟨trivial,⟨trivial,⟨trivial,⟨trivial,⟨trivial,trivial⟩⟩⟩⟩⟩⟩⟩⟩⟩⟩
       have s2:=Qfe (s:=s) (xs:=xs) q0 q1
       exact ((ih0 _ (by omega)).2 (n+1) (acc++[xs.getD n.toNat default]) (acc_n+1) r1 (by (rw [<-hr1,s2];simp;done)) rfl (by omega) (by (simp_all;done)) (by (simp_all;done))
        (GoE.landA okF hJ Qac (Qat (by kernel_rfl)) (Qam (by kernel_rfl)) hg0 (Qyc B s xs n acc acc_n dJ0)
        ⟨(by exact (QaC (QaK (fun _=> rfl)) (List.Mem.head _))),⟨(QaM (by omega) (by omega)),⟨rj2,⟨⟨trivial,(by have t_:=Q2k (s) (n) (by omega) (by omega);rw [q1] at t_;exact t_)⟩,hp2⟩⟩⟩⟩ (by kernel_rfl) (by kernel_rfl) (fun l hl=> by cases hl <;> decide))).cast (by rfl) (by (rw [s2,<-List.append_assoc];done)) (by (rw [s2,<-List.append_assoc];done))
     | false=>
       have s2:=Qiy (s:=s) (xs:=xs) q0 q1
       exact ((ih0 _ (by omega)).2 (n+1) (acc) (acc_n) r1 (by (rw [<-hr1,s2];done)) rfl (by omega) (by with_reducible assumption) (by exact ⟨haccb.1,by omega⟩)
        (GoE.landA okF hJ Qac (Qat (by kernel_rfl)) (Qam (by kernel_rfl)) hg0 (QvC B s xs n acc acc_n dJ0)
        ⟨(by exact (QaC (QaK (fun _=> rfl)) (List.Mem.head _))),⟨(QaM (by omega) (by omega)),⟨⟨trivial,(by have t_:=Q2k (s) (n) (by omega) (by omega);rw [q1] at t_;exact t_)⟩,hp2⟩⟩⟩ (by kernel_rfl) (by kernel_rfl) (fun l hl=> by cases hl <;> decide))).cast (by rfl) (by (rw [s2];done)) (by (rw [s2];done))
    ·
     have s2:=QiG (s:=s) (xs:=xs) (n:=n) (by omega)
     exact (GoE.finK okF hJ Qac (Qat (by kernel_rfl)) (Qam (by kernel_rfl)) hg0 (QxR B s xs n acc acc_n dJ0)
      ⟨(by exact (QaC (QaK (fun _=> rfl)) (List.Mem.head _))),⟨(Qbb (Int.not_lt.1 q0)),trivial⟩⟩).cast (by rfl) (by (subst hr1;simp only [Q1c haccb.1,s2,List.append_nil,hacc,Bool.not_false,cond_true];rfl)) (by (subst hr1;simp only [Q1c haccb.1,s2,List.append_nil,hacc,Bool.not_false,cond_true];done))

theorem Qv2 (B:Lo) (s:Int) (xs:List (Row)):CE.landA 6 (Qan Tryz.prog (Qa6 Tryz.prog) J0 B 4 6 (Qcr s xs) (Qbg s xs) 6
 [(1,Qah.old (Hint.val (Value.int IntKind.u64 s))),(2,Qah.pure (.int .i64 (Qcv s)) [])] 0 [] []) [0,1,6,7] [(5,KS.auto),(2,KS.auto)] [] []=some ⟨157,20,QcJ,[],.run,none,QcN s xs (0),([5,2]:List Nat).zip (QcE s xs (0)),Qby s xs (0),
 [QaB []/\Qau Tryz.prog J0 158 #[Value.int IntKind.u64 s] (.int .i64 (Qcv s)),IntKind.wrap IntKind.u64 s=s]⟩:=by kernel_rfl
theorem Qu7 (B:Lo) (s:Int) (xs:List (Row)):Qbe (Qan Tryz.prog (Qa6 Tryz.prog) J0 B 16 1 (Qal Tryz.prog 121 18 (([.int .i64 s,slT xs.length (Qab Qax xs)]).map (Qav 0 4))) H00 1
 (Qrd s xs++[(5,Qah.call (List.range 6) (OO.ret (.tuple #[])) ([(5,Obj.loop {state:=LoopState.ready,pending:=none,fn:=121,tmps:=(Qeg s xs),params:=#[9],assign:=nav (Qaq Tryz.prog 121) [1,1,0,1,0,0],body:=nav (Qaq Tryz.prog 121) [1,1,0,1,0,1],defers:=4}),(2,Obj.cells #[.slice (some {block:=7,off:=0}) (List.length ([]++Qa5 s xs 0)) 1] 63)]++(6,Qb1)::QaS 7 [Obj.cells (Qab (Qa1 0 Qax) ([]++Qa5 s xs 0)) 22]) 8 [5,2])]) 0 [] []) [{k:=7,rs:=[0],cs:=Qab Qax ([]++Qa5 s xs 0)}]=some (slT (List.length ([]++Qa5 s xs 0)) (Fz.cs {k:=7,rs:=[0],cs:=Qab Qax ([]++Qa5 s xs 0)}),
 [QaY (Fz.rs {k:=7,rs:=[0],cs:=Qab Qax ([]++Qa5 s xs 0)}) (Qab (Qa1 0 Qax) ([]++Qa5 s xs 0)) (Fz.cs {k:=7,rs:=[0],cs:=Qab Qax ([]++Qa5 s xs 0)}),FJ Tryz.prog B (Qcr s xs) (Qbg s xs) 6 (OO.ret (.tuple #[])) (([(5,Obj.loop {state:=LoopState.ready,pending:=none,fn:=121,tmps:=(Qeg s xs),params:=#[9],assign:=nav (Qaq Tryz.prog 121) [1,1,0,1,0,0],body:=nav (Qaq Tryz.prog 121) [1,1,0,1,0,1],defers:=4}),(2,Obj.cells #[.slice (some {block:=7,off:=0}) (List.length ([]++Qa5 s xs 0)) 1] 63)]++((6,Qb1)::QaS (6+1) [Obj.cells (Qab (Qa1 0 Qax) ([]++Qa5 s xs 0)) 22]))++Qbg s xs) 8 (List.range 6) [5,2]]++Qmq B s xs):=by kernel_rfl
theorem QuV (B:Lo) (s:Int) (xs:List (Row)):CE.landA 6 (Qan Tryz.prog (Qa6 Tryz.prog) J0 B 4 6 (Qcr s xs) (Qbg s xs) 6
 [(1,Qah.old (Hint.val (Value.int IntKind.u64 s))),(2,Qah.pure (.int .i64 (Qcv s)) [])] 0 [] []) [0,1,6,7] [(5,KS.auto),(2,KS.auto)] [] []=some ⟨157,20,QcJ,[],.run,none,QcN s xs (0),([5,2]:List Nat).zip (QcE s xs (0)),Qby s xs (0),
 [QaB []/\Qau Tryz.prog J0 158 #[Value.int IntKind.u64 s] (.int .i64 (Qcv s)),IntKind.wrap IntKind.u64 s=s]⟩:=by kernel_rfl
theorem Qui (B:Lo) (s:Int) (xs:List (Row)):Qbe (Qan Tryz.prog (Qa6 Tryz.prog) J0 B 16 1 (Qal Tryz.prog 121 18 (([.int .i64 s,slT xs.length (Qab Qax xs)]).map (Qav 0 4))) H00 1
 (Qrd s xs++[(5,Qah.call (List.range 6) (OO.ret (.tuple #[])) ([(5,Obj.loop {state:=LoopState.ready,pending:=none,fn:=121,tmps:=(Qeg s xs),params:=#[9],assign:=nav (Qaq Tryz.prog 121) [1,1,0,1,0,0],body:=nav (Qaq Tryz.prog 121) [1,1,0,1,0,1],defers:=4}),(2,Obj.cells #[.slice none 0 0] 63)]++(6,Qb1)::QaS 7 []) 7 [5,2])]) 0 [] []) []=some (slT 0 #[],
 [FJ Tryz.prog B (Qcr s xs) (Qbg s xs) 6 (OO.ret (.tuple #[])) (([(5,Obj.loop {state:=LoopState.ready,pending:=none,fn:=121,tmps:=(Qeg s xs),params:=#[9],assign:=nav (Qaq Tryz.prog 121) [1,1,0,1,0,0],body:=nav (Qaq Tryz.prog 121) [1,1,0,1,0,1],defers:=4}),(2,Obj.cells #[.slice none 0 0] 63)]++((6,Qb1)::QaS (6+1) []))++Qbg s xs) 7 (List.range 6) [5,2]]++Qmq B s xs):=by kernel_rfl
set_option maxHeartbeats 4000000 in
theorem Q1o (s:Int) (xs:List (Row)) (h0:0<=s) (h1:s < 64) (hx:Qcv s<=xs.length) {B:Lo} (hJ:∀w,B.has w->J0 w):EndsT Tryz.prog B (Qal Tryz.prog 121 18 (([.int .i64 s,slT xs.length (Qab Qax xs)]).map (Qav 0 4))) (slT (Qa5 s xs 0).length (Qab Qax (Qa5 s xs 0))):=by
 have hl:=Qfs h0 h1
 have rj0:FJ Tryz.prog B (QiN s xs) (QgB s xs) 3 (OO.ret (Value.func (Fn.func 157) #[] #[Qay 3 (ptT 0 #[.int .i64 s])])) (([]++((3,Qb1)::QaS (3+1) []))++QgB s xs) 4 (List.range 3) []:=by
  exact FinK.fjB (GoE.finK okF hJ Qac (Qat (by kernel_rfl)) (Qam (by kernel_rfl)) ((GoE.refl (P:=Tryz.prog) (B:=B) (c0:=QiN s xs) (Qat (by kernel_rfl))).widen (Wf:=((([]):List (Nat×KS)).map (·.1))) (by simp) (Qam (by kernel_rfl))) (Qxz B s xs)
   ⟨(QfT (by kernel_rfl)),trivial⟩) (ex:=[]) (by kernel_rfl) (QbB _)
 have hp0:QaB (Qmq B s xs):=by
  exact ⟨rj0,trivial⟩
 cases q0: !List.isEmpty ([]++Qa5 s xs 0) with
 | true=>
   have rj1:FJ Tryz.prog B (Qcr s xs) (Qbg s xs) 6 (OO.ret (.tuple #[])) (([(5,Obj.loop {state:=LoopState.ready,pending:=none,fn:=121,tmps:=#[.int .i64 s,Qay 0 (slT xs.length (Qab Qax xs)),.tuple #[],pA 1 0,.slice none 0 0,pA 2 0,.tuple #[],.int .i64 s,Value.func (Fn.func 157) #[] #[Qay 3 (ptT 0 #[.int .i64 s])],.tuple #[],.tuple #[],.tuple #[],.tuple #[],.tuple #[],.tuple #[],.tuple #[],.tuple #[],.tuple #[]],params:=#[9],assign:=nav (Qaq Tryz.prog 121) [1,1,0,1,0,0],body:=nav (Qaq Tryz.prog 121) [1,1,0,1,0,1],defers:=4}),(2,Obj.cells #[.slice (some {block:=7,off:=0}) (List.length ([]++Qa5 s xs 0)) 1] 63)]++((6,Qb1)::QaS (6+1) [Obj.cells (Qab (Qa1 0 Qax) ([]++Qa5 s xs 0)) 22]))++Qbg s xs) 8 (List.range 6) [5,2]:=by
    exact FinK.fjB ((QjX s xs h0 h1 hx hJ _).1 (0) true q0 rfl (by omega)
     (GoE.landA okF hJ Qac (Qat (by kernel_rfl)) (Qam (by kernel_rfl)) ((GoE.refl (P:=Tryz.prog) (B:=B) (c0:=Qcr s xs) (Qat (by kernel_rfl))).widen (Wf:=((([(5,KS.auto),(2,KS.auto)]):List (Nat×KS)).map (·.1))) (by simp) (Qam (by kernel_rfl))) (Qv2 B s xs)
     ⟨⟨trivial,Q5j (s) (by with_reducible assumption) (by with_reducible assumption)⟩,⟨(IntWalk.u64_in _ ⟨by omega,by omega⟩),trivial⟩⟩ (by kernel_rfl) (by kernel_rfl) (fun l hl=> by cases hl <;> decide))) (ex:=[]) (by kernel_rfl) (QbB _)
   exact (GoE.endsT okF hJ Qac GoE.start (Qu7 B s xs)
    ⟨(QbV (QaK (fun _=> rfl)) (List.Mem.head _)),⟨rj1,hp0⟩⟩).cast (by rfl)
 | false=>
   have rj1:FJ Tryz.prog B (Qcr s xs) (Qbg s xs) 6 (OO.ret (.tuple #[])) (([(5,Obj.loop {state:=LoopState.ready,pending:=none,fn:=121,tmps:=#[.int .i64 s,Qay 0 (slT xs.length (Qab Qax xs)),.tuple #[],pA 1 0,.slice none 0 0,pA 2 0,.tuple #[],.int .i64 s,Value.func (Fn.func 157) #[] #[Qay 3 (ptT 0 #[.int .i64 s])],.tuple #[],.tuple #[],.tuple #[],.tuple #[],.tuple #[],.tuple #[],.tuple #[],.tuple #[],.tuple #[]],params:=#[9],assign:=nav (Qaq Tryz.prog 121) [1,1,0,1,0,0],body:=nav (Qaq Tryz.prog 121) [1,1,0,1,0,1],defers:=4}),(2,Obj.cells #[.slice none 0 0] 63)]++((6,Qb1)::QaS (6+1) []))++Qbg s xs) 7 (List.range 6) [5,2]:=by
    exact FinK.fjB ((QjX s xs h0 h1 hx hJ _).1 (0) false q0 rfl (by omega)
     (GoE.landA okF hJ Qac (Qat (by kernel_rfl)) (Qam (by kernel_rfl)) ((GoE.refl (P:=Tryz.prog) (B:=B) (c0:=Qcr s xs) (Qat (by kernel_rfl))).widen (Wf:=((([(5,KS.auto),(2,KS.auto)]):List (Nat×KS)).map (·.1))) (by simp) (Qam (by kernel_rfl))) (QuV B s xs)
     ⟨⟨trivial,Q5j (s) (by with_reducible assumption) (by with_reducible assumption)⟩,⟨(IntWalk.u64_in _ ⟨by omega,by omega⟩),trivial⟩⟩ (by kernel_rfl) (by kernel_rfl) (fun l hl=> by cases hl <;> decide))) (ex:=[]) (by kernel_rfl) (QbB _)
   exact (GoE.endsT okF hJ Qac GoE.start (Qui B s xs)
    ⟨rj1,hp0⟩).cast (by (rw [Q4G q0];rfl))
theorem Q4y (s:Int) (xs:List (Row)) (h0:0<=s) (h1:s < 64) (hx:Qcv s<=xs.length):Qau Tryz.prog J0 121 #[.int .i64 s,slT xs.length (Qab Qax xs)] (slT (Qa5 s xs 0).length (Qab Qax (Qa5 s xs 0))):=
 QaF (ts:=[.int .i64 s,slT xs.length (Qab Qax xs)]) Qbw (c0:=Qal Tryz.prog 121 18 (([.int .i64 s,slT xs.length (Qab Qax xs)]).map (Qav 0 4))) (by kernel_rfl) (by kernel_rfl) fun B hJ=> Q1o s xs h0 h1 hx hJ
end
end Go.Proofs.YtiabgkiccaodmaaGreat

