/- The first day on which goods are wanting. -/
import Derived.Test.YtiabgkiccaodmaaGreatZSH09
set_option linter.all false
namespace Go.Proofs.YtiabgkiccaodmaaGreat
open Go Go.CE Go.RowKit
noncomputable section
set_option maxRecDepth 100000
structure Gd where
 stock:Int
 use:Int
 br:Int
 ships:List Bool
deriving Inhabited
def QbL (g:Gd):List Value:=[.int .i64 g.stock,.int .i64 g.use,.int .i64 g.br,slB g.ships]
abbrev Qn5 (use left:Int):Int:=left - if use < left then use else left
def Qbx (use br:Int):List Bool->Int->Int->Int
 | [],_,_=> -1
 | c::cs,day,left=> bif decide ((left+bif c then br else 0) < use) then day else Qbx use br cs (day+1) (Qn5 use (left+bif c then br else 0))
def Qds (use br:Int):List Bool->Int->Int
 | [],left=> left
 | c::cs,left=> Qds use br cs (Qn5 use (left+bif c then br else 0))
def gdB (g:Gd):Prop:=0<=g.stock/\g.stock<=1000000000/\0<=g.use/\g.use<=1000000000/\0<=g.br/\g.br<=1000000000/\g.ships.length<=1000
theorem QcN {use br:Int} {l:List Bool} {i left:Int} (h0:0<=i) (h:i < l.length):Qbx use br (l.drop i.toNat) i left=bif decide ((left+bif l.getD i.toNat default then br else 0) < use) then i else Qbx use br (l.drop (i+1).toNat) (i+1) (Qn5 use (left+bif l.getD i.toNat default then br else 0)):=by
 obtain ⟨k,rfl⟩:∃k:Nat,i=k:=⟨i.toNat,by omega⟩
 have hk:k < l.length:=by omega
 have e1:((k:Int)).toNat=k:=by omega
 have e2:((k:Int)+1).toNat=k+1:=by omega
 rw [e1,e2,List.drop_eq_getElem_cons hk];simp [Qbx,List.getD_eq_getElem?_getD,hk]
theorem Qw3 {use br:Int} {l:List Bool} {i left:Int} (h:l.length<=i):Qbx use br (l.drop i.toNat) i left= -1:=by
 rw [List.drop_eq_nil_of_le (by omega)];rfl
theorem Qbz {use br:Int} {l:List Bool} {i left:Int} (h0:0<=i) (h:i < l.length):Qds use br (l.drop i.toNat) left=Qds use br (l.drop (i+1).toNat) (Qn5 use (left+bif l.getD i.toNat default then br else 0)):=by
 obtain ⟨k,rfl⟩:∃k:Nat,i=k:=⟨i.toNat,by omega⟩
 have hk:k < l.length:=by omega
 have e1:((k:Int)).toNat=k:=by omega
 have e2:((k:Int)+1).toNat=k+1:=by omega
 rw [e1,e2,List.drop_eq_getElem_cons hk];simp [Qds,List.getD_eq_getElem?_getD,hk]
theorem QrK {use br:Int} {l:List Bool} {i left:Int} (h:l.length<=i):Qds use br (l.drop i.toNat) left=left:=by
 rw [List.drop_eq_nil_of_le (by omega)];rfl
theorem Qjn {use br:Int}:∀(l:List Bool) (day left:Int),0<=day->Qbx use br l day left= -1\/0<=Qbx use br l day left
 | [],_,_,_=> .inl rfl
 | c::cs,day,left,h=> by
   simp only [Qbx];cases decide ((left+bif c then br else 0) < use) with
   | true=> exact .inr h
   | false=> exact Qjn cs _ _ (by omega)
def Qbd (g:Gd):Qax:=[(2,Obj.cells #[.int .i64 0] 3),(1,Obj.cells #[.int .i64 g.stock,.int .i64 g.use,.int .i64 g.br,Qa4 0 (slT g.ships.length (Qac QeI g.ships))] 129),(0,Obj.coro none)]
def QbR (g:Gd):CF:=⟨126,ofList 38 [.agg #[.int .i64 g.stock,.int .i64 g.use,.int .i64 g.br,Qa4 0 (slT g.ships.length (Qac QeI g.ships))],Value.func (Fn.func 149) #[] #[]],[Item.code (Qar YP 126)],[],.run,none⟩
def Qbt (g:Gd) (i left:Int):List Value:=[Value.func (Fn.func 149) #[] #[],pA 4 0,.int .i64 left,Qa4 0 (slT g.ships.length (Qac QeI g.ships)),.int .i64 (↑g.ships.length:Int),.int .i64 i]
def Qbu (g:Gd) (i left:Int):List Obj:=[]
def QaO (g:Gd) (i left:Int):List Obj:=[Obj.cells #[.int .i64 g.stock,.int .i64 g.use,.int .i64 g.br,Qa4 0 (slT g.ships.length (Qac QeI g.ships))] 129]
def Qbs:List Item:=([.code [1,1,0,1,0,0],.inLoop [1,1,0,1,0,0],.inBlock 0,.code [1,1,1]]).map (it (Qar YP 126))
def Qhe (B:Lo) (g:Gd) (i left:Int) (dJ0:Nat->Value):List Prop:=[ltq i (↑g.ships.length:Int)=true]++([]:List Prop)
def Qkv (g:Gd) (i left:Int) (dJ0:Nat->Value):Qaz:=[(0,hvT)]
def Qhf (B:Lo) (g:Gd) (i left:Int) (dJ0:Nat->Value):List Prop:=[wq (left+g.br)=left+g.br,i=(↑i.toNat:Int)/\Int.toNat i < List.length g.ships/\Array.extract (Qac QeI g.ships) (Int.toNat i * TypeInfo.size Tryz.t4) (Int.toNat i * TypeInfo.size Tryz.t4+TypeInfo.size Tryz.t4)=#[.bool true]]++Qhe B g i left dJ0
def Qk9 (g:Gd) (i left:Int) (dJ0:Nat->Value):Qaz:=Qkv g i left dJ0++[(2,Qaf.tidx i.toNat #[.bool true]),(10,hvI (left+g.br))]
def Qe9 (g:Gd) (i left:Int) (dJ0:Nat->Value):Qax:=[(3,Obj.coro none),(4,Obj.cells #[.int .i64 g.stock,.int .i64 g.use,.int .i64 g.br,Qa4 0 (slT g.ships.length (Qac QeI g.ships))] 129),(2,Obj.cells #[.int .i64 0] 3),(1,Obj.cells #[.int .i64 g.stock,.int .i64 g.use,.int .i64 g.br,Qa4 0 (slT g.ships.length (Qac QeI g.ships))] 129),(0,Obj.coro none)]
def Qf4 (g:Gd) (i left:Int) (dJ0:Nat->Value):CF:=⟨149,ofList 4 [.int .i64 i],[Item.code (Qar YP 149)],[],.run,none⟩
theorem Qqo (B:Lo) (g:Gd) (i left:Int) (dJ0:Nat->Value):CE.finK 5 (Qam YP (Qa1 YP) J0 B 2 5 (Qf4 g i left dJ0) (Qe9 g i left dJ0) 5
 [] 0 [] []) [] [] []=some (OO.pan (Value.iface 183 (.int .i64 i)),[],[],
 []):=by kernel_rfl
theorem QrY (B:Lo) (g:Gd) (i left:Int) (dJ0:Nat->Value):CE.finK 3 (Qam YP (Qa1 YP) J0 B 20 3 (Qco (none) 126 38 (([1,2,5,11,12,13]:List Nat).zip (Qbt g i left)) dJ0 Qbs) (Qb5 (Qbd g) 3 (([]:List Nat).zip (Qbu g i left)) (QaO g i left)) (3+1+(QaO g i left).length)
 (Qk9 g i left dJ0++[(15,hvT),(18,Qaf.call (List.range 5) (OO.pan (Value.iface 183 (.int .i64 i))) ([]++(5,Qb0)::QaR 6 []) 6 [])]) 0 [] []) [] [] []=some (OO.pan (Value.iface 183 (.int .i64 i)),[],[],
 [FJ YP B (Qf4 g i left dJ0) (Qe9 g i left dJ0) 5 (OO.pan (Value.iface 183 (.int .i64 i))) (([]++((5,Qb0)::QaR (5+1) []))++Qe9 g i left dJ0) 6 (List.range 5) [],ltq (left+g.br) g.use=true]++Qhf B g i left dJ0):=by kernel_rfl
theorem Qsg (B:Lo) (g:Gd) (i left:Int) (dJ0:Nat->Value):CE.landA 3 (Qam YP (Qa1 YP) J0 B 23 3 (Qco (none) 126 38 (([1,2,5,11,12,13]:List Nat).zip (Qbt g i left)) dJ0 Qbs) (Qb5 (Qbd g) 3 (([]:List Nat).zip (Qbu g i left)) (QaO g i left)) (3+1+(QaO g i left).length)
 (Qk9 g i left dJ0++[(15,hvF),(21,hvI (left+g.br - if g.use < left+g.br then g.use else left+g.br)),(23,hvI (i+1))]) 0 [] []) [1,2,5,11,12,13] [] [(4,KS.auto)] []=some ⟨126,38,Qbs,[],.run,none,Qbt g (i+1) (left+g.br - if g.use < left+g.br then g.use else left+g.br),([]:List Nat).zip (Qbu g (i+1) (left+g.br - if g.use < left+g.br then g.use else left+g.br)),QaO g (i+1) (left+g.br - if g.use < left+g.br then g.use else left+g.br),
 [wq (i+1)=i+1,wq (left+g.br - if g.use < left+g.br then g.use else left+g.br)=left+g.br - if g.use < left+g.br then g.use else left+g.br,ltq (left+g.br) g.use=false]++Qhf B g i left dJ0⟩:=by kernel_rfl
def QgG (B:Lo) (g:Gd) (i left:Int) (dJ0:Nat->Value):List Prop:=[i=(↑i.toNat:Int)/\Int.toNat i < List.length g.ships/\Array.extract (Qac QeI g.ships) (Int.toNat i * TypeInfo.size Tryz.t4) (Int.toNat i * TypeInfo.size Tryz.t4+TypeInfo.size Tryz.t4)=#[.bool false]]++Qhe B g i left dJ0
def QkC (g:Gd) (i left:Int) (dJ0:Nat->Value):Qaz:=Qkv g i left dJ0++[(2,Qaf.tidx i.toNat #[.bool false])]
def Qe1 (g:Gd) (i left:Int) (dJ0:Nat->Value):Qax:=[(3,Obj.coro none),(4,Obj.cells #[.int .i64 g.stock,.int .i64 g.use,.int .i64 g.br,Qa4 0 (slT g.ships.length (Qac QeI g.ships))] 129),(2,Obj.cells #[.int .i64 0] 3),(1,Obj.cells #[.int .i64 g.stock,.int .i64 g.use,.int .i64 g.br,Qa4 0 (slT g.ships.length (Qac QeI g.ships))] 129),(0,Obj.coro none)]
def Qfy (g:Gd) (i left:Int) (dJ0:Nat->Value):CF:=⟨149,ofList 4 [.int .i64 i],[Item.code (Qar YP 149)],[],.run,none⟩
theorem Qq1 (B:Lo) (g:Gd) (i left:Int) (dJ0:Nat->Value):CE.finK 5 (Qam YP (Qa1 YP) J0 B 2 5 (Qfy g i left dJ0) (Qe1 g i left dJ0) 5
 [] 0 [] []) [] [] []=some (OO.pan (Value.iface 183 (.int .i64 i)),[],[],
 []):=by kernel_rfl
theorem Qqt (B:Lo) (g:Gd) (i left:Int) (dJ0:Nat->Value):CE.finK 3 (Qam YP (Qa1 YP) J0 B 20 3 (Qco (none) 126 38 (([1,2,5,11,12,13]:List Nat).zip (Qbt g i left)) dJ0 Qbs) (Qb5 (Qbd g) 3 (([]:List Nat).zip (Qbu g i left)) (QaO g i left)) (3+1+(QaO g i left).length)
 (QkC g i left dJ0++[(10,hvT),(13,Qaf.call (List.range 5) (OO.pan (Value.iface 183 (.int .i64 i))) ([]++(5,Qb0)::QaR 6 []) 6 [])]) 0 [] []) [] [] []=some (OO.pan (Value.iface 183 (.int .i64 i)),[],[],
 [FJ YP B (Qfy g i left dJ0) (Qe1 g i left dJ0) 5 (OO.pan (Value.iface 183 (.int .i64 i))) (([]++((5,Qb0)::QaR (5+1) []))++Qe1 g i left dJ0) 6 (List.range 5) [],ltq left g.use=true]++QgG B g i left dJ0):=by kernel_rfl
theorem QpY (B:Lo) (g:Gd) (i left:Int) (dJ0:Nat->Value):CE.landA 3 (Qam YP (Qa1 YP) J0 B 23 3 (Qco (none) 126 38 (([1,2,5,11,12,13]:List Nat).zip (Qbt g i left)) dJ0 Qbs) (Qb5 (Qbd g) 3 (([]:List Nat).zip (Qbu g i left)) (QaO g i left)) (3+1+(QaO g i left).length)
 (QkC g i left dJ0++[(10,hvF),(16,hvI (left - if g.use < left then g.use else left)),(18,hvI (i+1))]) 0 [] []) [1,2,5,11,12,13] [] [(4,KS.auto)] []=some ⟨126,38,Qbs,[],.run,none,Qbt g (i+1) (left - if g.use < left then g.use else left),([]:List Nat).zip (Qbu g (i+1) (left - if g.use < left then g.use else left)),QaO g (i+1) (left - if g.use < left then g.use else left),
 [wq (i+1)=i+1,wq (left - if g.use < left then g.use else left)=left - if g.use < left then g.use else left,ltq left g.use=false]++QgG B g i left dJ0⟩:=by kernel_rfl
theorem QpU (B:Lo) (g:Gd) (i left:Int) (dJ0:Nat->Value):CE.finK 3 (Qam YP (Qa1 YP) J0 B 9 3 (Qco (none) 126 38 (([1,2,5,11,12,13]:List Nat).zip (Qbt g i left)) dJ0 Qbs) (Qb5 (Qbd g) 3 (([]:List Nat).zip (Qbu g i left)) (QaO g i left)) (3+1+(QaO g i left).length)
 [(0,hvF)] 0 [] []) [] [] []=some (OO.ret (.int .i64 left),[],[],
 [ltq i (↑g.ships.length:Int)=false]):=by kernel_rfl
set_option maxHeartbeats 4000000 in
theorem Qh0 (g:Gd) (hg:gdB g) {B:Lo} (hJ:∀w,B.has w->J0 w):∀m:Nat,(∀(i left:Int),∀(r:Bool),(decide (0<=Qbx g.use g.br (g.ships.drop i.toNat) i left))=r->(g.ships.length - i.toNat)=m->∀(h0:0<=i) (h1:0<=left) (h2:left<=1000000000 * (i+1)),(∃dJ0:Nat->Value,(∀t,Qbc (dJ0 t))/\GoE YP B (QbR g) (Qbd g) 3 (Qco (none) 126 38 (([1,2,5,11,12,13]:List Nat).zip (Qbt g i left)) dJ0 Qbs) (Qb5 (Qbd g) 3 (([]:List Nat).zip (Qbu g i left)) (QaO g i left)) (3+1+(QaO g i left).length) ([]:List Nat))->FinK YP B (QbR g) (Qbd g) 3 (bif r then .pan (.iface 183 (.int .i64 (Qbx g.use g.br (g.ships.drop i.toNat) i left))) else .ret (.int .i64 (Qds g.use g.br (g.ships.drop i.toNat) left))) (([]:List Nat).zip ([])) ([]) ([]:List Nat)):=by
 intro m0;induction m0 using Nat.strongRecOn with
 | _ m0 ih0=>
   intro i left r1 hr1 hm0 h0 h1 h2 ⟨dJ0,hdJ0,hg0⟩;by_cases q0:(i:Int) < ((↑g.ships.length:Int))
   ·have hp0:QaA (Qhe B g i left dJ0):=by
     exact ⟨(QaW q0),trivial⟩
    cases q1:g.ships.getD i.toNat default with
    | true=>
      have hp1:QaA (Qhf B g i left dJ0):=by
       unfold gdB at hg;have s1:=QcN (use:=g.use) (br:=g.br) (l:=g.ships) (left:=left) h0 q0;have s2:=Qbz (use:=g.use) (br:=g.br) (l:=g.ships) (left:=left) h0 q0;simp only [q1,cond_true,cond_false,Int.add_zero] at s1 s2;exact ⟨(QaL (by omega) (by omega)),⟨⟨by first | omega | (split <;> omega),by first | omega | (split <;> omega),((Qae (z:=1) (fun _=> rfl) (by omega))).trans (by simp_all [QeI])⟩,hp0⟩⟩
      by_cases q2:(left+g.br:Int) < g.use
      ·have rj2:FJ YP B (Qf4 g i left dJ0) (Qe9 g i left dJ0) 5 (OO.pan (Value.iface 183 (.int .i64 i))) (([]++((5,Qb0)::QaR (5+1) []))++Qe9 g i left dJ0) 6 (List.range 5) []:=by
        unfold gdB at hg;have s1:=QcN (use:=g.use) (br:=g.br) (l:=g.ships) (left:=left) h0 q0;have s2:=Qbz (use:=g.use) (br:=g.br) (l:=g.ships) (left:=left) h0 q0;simp only [q1,cond_true,cond_false,Int.add_zero] at s1 s2;rw [decide_eq_true q2,cond_true] at s1;exact FinK.fjB (GoE.finK okF hJ Qab (Qau (by kernel_rfl)) (Qak (by kernel_rfl)) ((GoE.refl (P:=YP) (B:=B) (c0:=Qf4 g i left dJ0) (Qau (by kernel_rfl))).widen (Wf:=((([]):List (Nat×KS)).map (·.1))) (by simp) (Qak (by kernel_rfl))) (Qqo B g i left dJ0)
         trivial) (ex:=[]) (by kernel_rfl) (Qb1 _)
       unfold gdB at hg;have s1:=QcN (use:=g.use) (br:=g.br) (l:=g.ships) (left:=left) h0 q0;have s2:=Qbz (use:=g.use) (br:=g.br) (l:=g.ships) (left:=left) h0 q0;simp only [q1,cond_true,cond_false,Int.add_zero] at s1 s2;rw [decide_eq_true q2,cond_true] at s1;exact (GoE.finK okF hJ Qab (Qau (by kernel_rfl)) (Qak (by kernel_rfl)) hg0 (QrY B g i left dJ0)
        ⟨rj2,⟨(QaW q2),hp1⟩⟩).cast (by (subst hr1;rw [s1];simp [h0];done)) (by rfl) (by rfl)
      ·unfold gdB at hg;have s1:=QcN (use:=g.use) (br:=g.br) (l:=g.ships) (left:=left) h0 q0;have s2:=Qbz (use:=g.use) (br:=g.br) (l:=g.ships) (left:=left) h0 q0;simp only [q1,cond_true,cond_false,Int.add_zero] at s1 s2;rw [decide_eq_false q2,cond_false] at s1;exact ((ih0 _ (by omega)) (i+1) (left+g.br - if g.use < left+g.br then g.use else left+g.br) r1 (by rw [<-hr1,s1]) rfl (by omega) (by omega) (by omega)
        (GoE.landA okF hJ Qab (Qau (by kernel_rfl)) (Qak (by kernel_rfl)) hg0 (Qsg B g i left dJ0)
        ⟨(QaL (by omega) (by omega)),⟨(QaL (by omega) (by omega)),⟨(Qbh (Int.not_lt.1 q2)),hp1⟩⟩⟩ (by kernel_rfl) (by kernel_rfl) (fun l hl=> by cases hl <;> decide))).cast (by (rw [s1,s2];done)) (by rfl) (by rfl)
    | false=>
      have hp2:QaA (QgG B g i left dJ0):=by
       unfold gdB at hg;have s1:=QcN (use:=g.use) (br:=g.br) (l:=g.ships) (left:=left) h0 q0;have s2:=Qbz (use:=g.use) (br:=g.br) (l:=g.ships) (left:=left) h0 q0;simp only [q1,cond_true,cond_false,Int.add_zero] at s1 s2;exact ⟨⟨by first | omega | (split <;> omega),by first | omega | (split <;> omega),((Qae (z:=1) (fun _=> rfl) (by omega))).trans (by simp_all [QeI])⟩,hp0⟩
      by_cases q2:(left:Int) < g.use
      ·have rj2:FJ YP B (Qfy g i left dJ0) (Qe1 g i left dJ0) 5 (OO.pan (Value.iface 183 (.int .i64 i))) (([]++((5,Qb0)::QaR (5+1) []))++Qe1 g i left dJ0) 6 (List.range 5) []:=by
        unfold gdB at hg;have s1:=QcN (use:=g.use) (br:=g.br) (l:=g.ships) (left:=left) h0 q0;have s2:=Qbz (use:=g.use) (br:=g.br) (l:=g.ships) (left:=left) h0 q0;simp only [q1,cond_true,cond_false,Int.add_zero] at s1 s2;rw [decide_eq_true q2,cond_true] at s1;exact FinK.fjB (GoE.finK okF hJ Qab (Qau (by kernel_rfl)) (Qak (by kernel_rfl)) ((GoE.refl (P:=YP) (B:=B) (c0:=Qfy g i left dJ0) (Qau (by kernel_rfl))).widen (Wf:=((([]):List (Nat×KS)).map (·.1))) (by simp) (Qak (by kernel_rfl))) (Qq1 B g i left dJ0)
         trivial) (ex:=[]) (by kernel_rfl) (Qb1 _)
       unfold gdB at hg;have s1:=QcN (use:=g.use) (br:=g.br) (l:=g.ships) (left:=left) h0 q0;have s2:=Qbz (use:=g.use) (br:=g.br) (l:=g.ships) (left:=left) h0 q0;simp only [q1,cond_true,cond_false,Int.add_zero] at s1 s2;rw [decide_eq_true q2,cond_true] at s1;exact (GoE.finK okF hJ Qab (Qau (by kernel_rfl)) (Qak (by kernel_rfl)) hg0 (Qqt B g i left dJ0)
        ⟨rj2,⟨(QaW q2),hp2⟩⟩).cast (by (subst hr1;rw [s1];simp [h0];done)) (by rfl) (by rfl)
      ·unfold gdB at hg;have s1:=QcN (use:=g.use) (br:=g.br) (l:=g.ships) (left:=left) h0 q0;have s2:=Qbz (use:=g.use) (br:=g.br) (l:=g.ships) (left:=left) h0 q0;simp only [q1,cond_true,cond_false,Int.add_zero] at s1 s2;rw [decide_eq_false q2,cond_false] at s1;exact ((ih0 _ (by omega)) (i+1) (left - if g.use < left then g.use else left) r1 (by rw [<-hr1,s1]) rfl (by omega) (by omega) (by omega)
        (GoE.landA okF hJ Qab (Qau (by kernel_rfl)) (Qak (by kernel_rfl)) hg0 (QpY B g i left dJ0)
        ⟨(QaL (by omega) (by omega)),⟨(QaL (by omega) (by omega)),⟨(Qbh (Int.not_lt.1 q2)),hp2⟩⟩⟩ (by kernel_rfl) (by kernel_rfl) (fun l hl=> by cases hl <;> decide))).cast (by (rw [s1,s2];done)) (by rfl) (by rfl)
   ·unfold gdB at hg;have s1:=Qw3 (use:=g.use) (br:=g.br) (l:=g.ships) (i:=i) (left:=left) (by omega);have s2:=QrK (use:=g.use) (br:=g.br) (l:=g.ships) (i:=i) (left:=left) (by omega);exact (GoE.finK okF hJ Qab (Qau (by kernel_rfl)) (Qak (by kernel_rfl)) hg0 (QpU B g i left dJ0)
     ⟨(Qbh (Int.not_lt.1 q0)),trivial⟩).cast (by (subst hr1;rw [s1,s2];rfl)) (by rfl) (by rfl)

theorem QrW (B:Lo) (g:Gd):CE.landA 3 (Qam YP (Qa1 YP) J0 B 9 3 (QbR g) (Qbd g) 3
 [] 0 [] []) [1,2,5,11,12,13] [] [(3,KS.auto)] []=some ⟨126,38,Qbs,[],.run,none,Qbt g (0) g.stock,([]:List Nat).zip (Qbu g (0) g.stock),QaO g (0) g.stock,
 []⟩:=by kernel_rfl
def QbQ (g:Gd):Qax:=[(2,Obj.cells #[.int .i64 0] 3),(1,Obj.cells #[.int .i64 g.stock,.int .i64 g.use,.int .i64 g.br,Qa4 0 (slT g.ships.length (Qac QeI g.ships))] 129),(0,Obj.coro none)]
def Qcz (g:Gd):CF:=⟨125,ofList 6 [.agg #[.int .i64 g.stock,.int .i64 g.use,.int .i64 g.br,Qa4 0 (slT g.ships.length (Qac QeI g.ships))],pA 1 0,pA 2 0,Value.func (Fn.func 148) #[] #[pA 2 0],.tuple #[],.tuple #[]],[Item.code (Code.seq (Code.region 2 #[{dst:=some 4,op:=Op.load 129 (Operand.tmp 1),type:=129,pos:= "goods.go:41",after:=#[],guard:=none},{dst:=some 5,op:=Op.call {callee:=Callee.value (Operand.func 126),args:=#[Operand.tmp 4,Operand.func 149],argTypes:=#[129,159]},type:=3,pos:= "goods.go:41",after:=#[{on:=0,ground:=Ground.data}],guard:=none}] false) (Code.seq (Code.region 3 #[{dst:=none,op:=Op.store 3 (Operand.tmp 2) (Operand.const (.int .i64 (-1))),type:=0,pos:= "goods.go:42",after:=#[],guard:=none}] false) Code.ret))],[],.run,none⟩
theorem QqK (B:Lo) (g:Gd):CE.landU 3 (Qam YP (Qa1 YP) J0 B 2 3 (Qcz g) (QbQ g) 3
 [(1,Qaf.call (List.range 3) (OO.pan (Value.iface 183 (.int .i64 (Qbx g.use g.br (List.drop (Int.toNat 0) g.ships) 0 g.stock)))) ([]++(3,Qb0)::QaR 4 []) 4 [])] 0 [] []) [2] [] [] []=some (125,6,none,OO.pan (Value.iface 183 (.int .i64 (Qbx g.use g.br (List.drop (Int.toNat 0) g.ships) 0 g.stock))),[pA 2 0],[],[],
 [FJ YP B (QbR g) (Qbd g) 3 (OO.pan (Value.iface 183 (.int .i64 (Qbx g.use g.br (List.drop (Int.toNat 0) g.ships) 0 g.stock)))) (([]++((3,Qb0)::QaR (3+1) []))++Qbd g) 4 (List.range 3) []]):=by kernel_rfl
theorem QqO (B:Lo) (g:Gd):QaY (Qzw YP (Qa1 YP) J0 B 3 1 (Qaj YP 125 6 (([.agg (QbL g).toArray]).map (Qat 0 4))) H00 1
 (OO.pan (Value.iface 183 (.int .i64 (Qbx g.use g.br (List.drop (Int.toNat 0) g.ships) 0 g.stock)))) (([2]:List Nat).zip [pA 2 0]) ([]++(3,Qb0)::QaR 4 []) 4 [] (.int .i64 (Qbx g.use g.br (List.drop (Int.toNat 0) g.ships) 0 g.stock)) [2]) []=some (.int .i64 (Qbx g.use g.br (List.drop (Int.toNat 0) g.ships) 0 g.stock),
 [UJ YP B (Qcz g) (QbQ g) 3 (OO.pan (Value.iface 183 (.int .i64 (Qbx g.use g.br (List.drop (Int.toNat 0) g.ships) 0 g.stock)))) (([2]:List Nat).zip [pA 2 0]) (([]++((3,Qb0)::QaR (3+1) []))++QbQ g) 4 (List.range 3) [],∀d:Nat->Value,Qxk YP 125 ([(3,Obj.coro none),(2,Obj.cells #[.int .i64 (Qbx g.use g.br (List.drop (Int.toNat 0) g.ships) 0 g.stock)] 3),(1,Obj.cells #[.int .i64 g.stock,.int .i64 g.use,.int .i64 g.br,Qa4 0 (slT g.ships.length (Qac QeI g.ships))] 129),(0,Obj.coro none)]) (mkT 6 (([2]:List Nat).zip [pA 2 0]) d)=some (.int .i64 (Qbx g.use g.br (List.drop (Int.toNat 0) g.ships) 0 g.stock),[2])]):=by kernel_rfl
theorem Qo0 (B:Lo) (g:Gd):CE.landA 3 (Qam YP (Qa1 YP) J0 B 9 3 (QbR g) (Qbd g) 3
 [] 0 [] []) [1,2,5,11,12,13] [] [(3,KS.auto)] []=some ⟨126,38,Qbs,[],.run,none,Qbt g (0) g.stock,([]:List Nat).zip (Qbu g (0) g.stock),QaO g (0) g.stock,
 []⟩:=by kernel_rfl
theorem QoC (B:Lo) (g:Gd):CE.landU 3 (Qam YP (Qa1 YP) J0 B 5 3 (Qcz g) (QbQ g) 3
 [(1,Qaf.call (List.range 3) (OO.ret (.int .i64 (Qds g.use g.br (List.drop (Int.toNat 0) g.ships) g.stock))) ([]++(3,Qb0)::QaR 4 []) 4 [])] 0 [] []) [2] [(2,KS.auto)] [] []=some (125,6,none,OO.ret (.tuple #[]),[pA 2 0],[(2,Obj.cells #[.int .i64 (-1)] 3)],[],
 [FJ YP B (QbR g) (Qbd g) 3 (OO.ret (.int .i64 (Qds g.use g.br (List.drop (Int.toNat 0) g.ships) g.stock))) (([]++((3,Qb0)::QaR (3+1) []))++Qbd g) 4 (List.range 3) []]):=by kernel_rfl
theorem Qpn (B:Lo) (g:Gd):QaY (Qzw YP (Qa1 YP) J0 B 3 1 (Qaj YP 125 6 (([.agg (QbL g).toArray]).map (Qat 0 4))) H00 1
 (OO.ret (.tuple #[])) (([2]:List Nat).zip [pA 2 0]) ([(2,Obj.cells #[.int .i64 (-1)] 3)]++(3,Qb0)::QaR 4 []) 4 [2] (.int .i64 (-1)) [2]) []=some (.int .i64 (-1),
 [UJ YP B (Qcz g) (QbQ g) 3 (OO.ret (.tuple #[])) (([2]:List Nat).zip [pA 2 0]) (([(2,Obj.cells #[.int .i64 (-1)] 3)]++((3,Qb0)::QaR (3+1) []))++QbQ g) 4 (List.range 3) [2],∀d:Nat->Value,Qxk YP 125 ([(2,Obj.cells #[.int .i64 (-1)] 3),(3,Obj.coro none),(2,Obj.cells #[.int .i64 0] 3),(1,Obj.cells #[.int .i64 g.stock,.int .i64 g.use,.int .i64 g.br,Qa4 0 (slT g.ships.length (Qac QeI g.ships))] 129),(0,Obj.coro none)]) (mkT 6 (([2]:List Nat).zip [pA 2 0]) d)=some (.int .i64 (-1),[2])]):=by kernel_rfl
set_option maxHeartbeats 4000000 in
theorem QsA (g:Gd) (hg:gdB g) {B:Lo} (hJ:∀w,B.has w->J0 w):EndsT YP B (Qaj YP 125 6 (([.agg (QbL g).toArray]).map (Qat 0 4))) (.int .i64 (Qbx g.use g.br g.ships 0 g.stock)):=by
 cases q0:decide (0<=Qbx g.use g.br (List.drop (Int.toNat 0) g.ships) 0 g.stock) with
 | true=>
   have rj1:FJ YP B (QbR g) (Qbd g) 3 (OO.pan (Value.iface 183 (.int .i64 (Qbx g.use g.br (List.drop (Int.toNat 0) g.ships) 0 g.stock)))) (([]++((3,Qb0)::QaR (3+1) []))++Qbd g) 4 (List.range 3) []:=by
    unfold gdB at hg;exact FinK.fjB ((Qh0 g hg hJ _) (0) g.stock true q0 rfl (by omega) (by omega) (by omega)
     (GoE.landA okF hJ Qab (Qau (by kernel_rfl)) (Qak (by kernel_rfl)) ((GoE.refl (P:=YP) (B:=B) (c0:=QbR g) (Qau (by kernel_rfl))).widen (Wf:=((([]):List (Nat×KS)).map (·.1))) (by simp) (Qak (by kernel_rfl))) (QrW B g)
     trivial (by kernel_rfl) (by kernel_rfl) (fun l hl=> by cases hl <;> decide))) (ex:=[]) (by kernel_rfl) (Qb1 _)
   have rj0:UJ YP B (Qcz g) (QbQ g) 3 (OO.pan (Value.iface 183 (.int .i64 (Qbx g.use g.br (List.drop (Int.toNat 0) g.ships) 0 g.stock)))) (([2]:List Nat).zip [pA 2 0]) (([]++((3,Qb0)::QaR (3+1) []))++QbQ g) 4 (List.range 3) []:=by
    unfold gdB at hg;exact FinU.ujB (GoE.landU okF hJ Qab (Qau (by kernel_rfl)) (Qak (by kernel_rfl)) ((GoE.refl (P:=YP) (B:=B) (c0:=Qcz g) (Qau (by kernel_rfl))).widen (Wf:=((([]):List (Nat×KS)).map (·.1))) (by simp) (Qak (by kernel_rfl))) (QqK B g)
     (by exact ⟨rj1,trivial⟩) (by kernel_rfl) rfl) (ex:=[]) (by kernel_rfl) (Qb1 _)
   unfold gdB at hg;exact (GoE.endsD okF hJ Qab GoE.start (QqO B g)
    (by exact ⟨rj0,⟨(fun d=> by kernel_rfl),trivial⟩⟩)).cast (by rfl)
 | false=>
   have rj1:FJ YP B (QbR g) (Qbd g) 3 (OO.ret (.int .i64 (Qds g.use g.br (List.drop (Int.toNat 0) g.ships) g.stock))) (([]++((3,Qb0)::QaR (3+1) []))++Qbd g) 4 (List.range 3) []:=by
    unfold gdB at hg;exact FinK.fjB ((Qh0 g hg hJ _) (0) g.stock false q0 rfl (by omega) (by omega) (by omega)
     (GoE.landA okF hJ Qab (Qau (by kernel_rfl)) (Qak (by kernel_rfl)) ((GoE.refl (P:=YP) (B:=B) (c0:=QbR g) (Qau (by kernel_rfl))).widen (Wf:=((([]):List (Nat×KS)).map (·.1))) (by simp) (Qak (by kernel_rfl))) (Qo0 B g)
     trivial (by kernel_rfl) (by kernel_rfl) (fun l hl=> by cases hl <;> decide))) (ex:=[]) (by kernel_rfl) (Qb1 _)
   have rj0:UJ YP B (Qcz g) (QbQ g) 3 (OO.ret (.tuple #[])) (([2]:List Nat).zip [pA 2 0]) (([(2,Obj.cells #[.int .i64 (-1)] 3)]++((3,Qb0)::QaR (3+1) []))++QbQ g) 4 (List.range 3) [2]:=by
    unfold gdB at hg;exact FinU.ujB (GoE.landU okF hJ Qab (Qau (by kernel_rfl)) (Qak (by kernel_rfl)) ((GoE.refl (P:=YP) (B:=B) (c0:=Qcz g) (Qau (by kernel_rfl))).widen (Wf:=((([(2,KS.auto)]):List (Nat×KS)).map (·.1))) (by simp) (Qak (by kernel_rfl))) (QoC B g)
     (by exact ⟨rj1,trivial⟩) (by kernel_rfl) rfl) (ex:=[]) (by kernel_rfl) (Qb1 _)
   unfold gdB at hg;exact (GoE.endsD okF hJ Qab GoE.start (Qpn B g)
    (by exact ⟨rj0,⟨(fun d=> by kernel_rfl),trivial⟩⟩)).cast (by (rcases Qjn (use:=g.use) (br:=g.br) g.ships 0 g.stock (by omega) with h | h <;> simp_all;done))
theorem Qyd (g:Gd) (hg:gdB g):Qaq YP J0 125 #[.agg (QbL g).toArray] (.int .i64 (Qbx g.use g.br g.ships 0 g.stock)):=
 QaE (ts:=[.agg (QbL g).toArray]) Qbw (c0:=Qaj YP 125 6 (([.agg (QbL g).toArray]).map (Qat 0 4))) (by kernel_rfl) (by kernel_rfl) fun B hJ=> QsA g hg hJ
def Qdd (g:Gd):Qax:=[(1,Obj.cells #[.int .i64 g.stock,.int .i64 g.use,.int .i64 g.br,Qa4 0 (slT g.ships.length (Qac QeI g.ships))] 129),(0,Obj.coro none)]
def Qh3 (g:Gd):CF:=⟨126,ofList 38 [.agg #[.int .i64 g.stock,.int .i64 g.use,.int .i64 g.br,Qa4 0 (slT g.ships.length (Qac QeI g.ships))],Value.func (Fn.func 127) #[] #[]],[Item.code (Qar YP 126)],[],.run,none⟩
def Qcc (g:Gd) (i left:Int):List Value:=[Value.func (Fn.func 127) #[] #[],pA 3 0,.int .i64 left,Qa4 0 (slT g.ships.length (Qac QeI g.ships)),.int .i64 (↑g.ships.length:Int),.int .i64 i]
def QbU (g:Gd) (i left:Int):List Obj:=[]
def Qbm (g:Gd) (i left:Int):List Obj:=[Obj.cells #[.int .i64 g.stock,.int .i64 g.use,.int .i64 g.br,Qa4 0 (slT g.ships.length (Qac QeI g.ships))] 129]
def QbW:List Item:=([.code [1,1,0,1,0,0],.inLoop [1,1,0,1,0,0],.inBlock 0,.code [1,1,1]]).map (it (Qar YP 126))
def QoG (B:Lo) (g:Gd) (i left:Int) (dJ0:Nat->Value):List Prop:=[ltq i (↑g.ships.length:Int)=true]++([]:List Prop)
def Qug (g:Gd) (i left:Int) (dJ0:Nat->Value):Qaz:=[(0,hvT)]
def Qpf (B:Lo) (g:Gd) (i left:Int) (dJ0:Nat->Value):List Prop:=[wq (left+g.br)=left+g.br,i=(↑i.toNat:Int)/\Int.toNat i < List.length g.ships/\Array.extract (Qac QeI g.ships) (Int.toNat i * TypeInfo.size Tryz.t4) (Int.toNat i * TypeInfo.size Tryz.t4+TypeInfo.size Tryz.t4)=#[.bool true]]++QoG B g i left dJ0
def QtN (g:Gd) (i left:Int) (dJ0:Nat->Value):Qaz:=Qug g i left dJ0++[(2,Qaf.tidx i.toNat #[.bool true]),(10,hvI (left+g.br))]
def Qjl (g:Gd) (i left:Int) (dJ0:Nat->Value):Qax:=[(2,Obj.coro none),(3,Obj.cells #[.int .i64 g.stock,.int .i64 g.use,.int .i64 g.br,Qa4 0 (slT g.ships.length (Qac QeI g.ships))] 129),(1,Obj.cells #[.int .i64 g.stock,.int .i64 g.use,.int .i64 g.br,Qa4 0 (slT g.ships.length (Qac QeI g.ships))] 129),(0,Obj.coro none)]
def Qlf (g:Gd) (i left:Int) (dJ0:Nat->Value):CF:=⟨127,ofList 2 [.int .i64 i],[Item.code (Qar YP 127)],[],.run,none⟩
theorem Q3n (B:Lo) (g:Gd) (i left:Int) (dJ0:Nat->Value):CE.finK 4 (Qam YP (Qa1 YP) J0 B 3 4 (Qlf g i left dJ0) (Qjl g i left dJ0) 4
 [] 0 [] []) [] [] []=some (OO.ret (.tuple #[]),[],[],
 []):=by kernel_rfl
theorem Q2k (B:Lo) (g:Gd) (i left:Int) (dJ0:Nat->Value):CE.landA 2 (Qam YP (Qa1 YP) J0 B 23 2 (Qco (none) 126 38 (([1,2,5,11,12,13]:List Nat).zip (Qcc g i left)) dJ0 QbW) (Qb5 (Qdd g) 2 (([]:List Nat).zip (QbU g i left)) (Qbm g i left)) (2+1+(Qbm g i left).length)
 (QtN g i left dJ0++[(15,hvT),(18,Qaf.call (List.range 4) (OO.ret (.tuple #[])) ([]++(4,Qb0)::QaR 5 []) 5 []),(24,hvI (left+g.br - if g.use < left+g.br then g.use else left+g.br)),(26,hvI (i+1))]) 0 [] []) [1,2,5,11,12,13] [] [(3,KS.auto)] []=some ⟨126,38,QbW,[],.run,none,Qcc g (i+1) (left+g.br - if g.use < left+g.br then g.use else left+g.br),([]:List Nat).zip (QbU g (i+1) (left+g.br - if g.use < left+g.br then g.use else left+g.br)),Qbm g (i+1) (left+g.br - if g.use < left+g.br then g.use else left+g.br),
 [wq (i+1)=i+1,wq (left+g.br - if g.use < left+g.br then g.use else left+g.br)=left+g.br - if g.use < left+g.br then g.use else left+g.br,FJ YP B (Qlf g i left dJ0) (Qjl g i left dJ0) 4 (OO.ret (.tuple #[])) (([]++((4,Qb0)::QaR (4+1) []))++Qjl g i left dJ0) 5 (List.range 4) [],ltq (left+g.br) g.use=true]++Qpf B g i left dJ0⟩:=by kernel_rfl
theorem Q1m (B:Lo) (g:Gd) (i left:Int) (dJ0:Nat->Value):CE.landA 2 (Qam YP (Qa1 YP) J0 B 23 2 (Qco (none) 126 38 (([1,2,5,11,12,13]:List Nat).zip (Qcc g i left)) dJ0 QbW) (Qb5 (Qdd g) 2 (([]:List Nat).zip (QbU g i left)) (Qbm g i left)) (2+1+(Qbm g i left).length)
 (QtN g i left dJ0++[(15,hvF),(21,hvI (left+g.br - if g.use < left+g.br then g.use else left+g.br)),(23,hvI (i+1))]) 0 [] []) [1,2,5,11,12,13] [] [(3,KS.auto)] []=some ⟨126,38,QbW,[],.run,none,Qcc g (i+1) (left+g.br - if g.use < left+g.br then g.use else left+g.br),([]:List Nat).zip (QbU g (i+1) (left+g.br - if g.use < left+g.br then g.use else left+g.br)),Qbm g (i+1) (left+g.br - if g.use < left+g.br then g.use else left+g.br),
 [wq (i+1)=i+1,wq (left+g.br - if g.use < left+g.br then g.use else left+g.br)=left+g.br - if g.use < left+g.br then g.use else left+g.br,ltq (left+g.br) g.use=false]++Qpf B g i left dJ0⟩:=by kernel_rfl
def Qp2 (B:Lo) (g:Gd) (i left:Int) (dJ0:Nat->Value):List Prop:=[i=(↑i.toNat:Int)/\Int.toNat i < List.length g.ships/\Array.extract (Qac QeI g.ships) (Int.toNat i * TypeInfo.size Tryz.t4) (Int.toNat i * TypeInfo.size Tryz.t4+TypeInfo.size Tryz.t4)=#[.bool false]]++QoG B g i left dJ0
def Qud (g:Gd) (i left:Int) (dJ0:Nat->Value):Qaz:=Qug g i left dJ0++[(2,Qaf.tidx i.toNat #[.bool false])]
def QiZ (g:Gd) (i left:Int) (dJ0:Nat->Value):Qax:=[(2,Obj.coro none),(3,Obj.cells #[.int .i64 g.stock,.int .i64 g.use,.int .i64 g.br,Qa4 0 (slT g.ships.length (Qac QeI g.ships))] 129),(1,Obj.cells #[.int .i64 g.stock,.int .i64 g.use,.int .i64 g.br,Qa4 0 (slT g.ships.length (Qac QeI g.ships))] 129),(0,Obj.coro none)]
def QkX (g:Gd) (i left:Int) (dJ0:Nat->Value):CF:=⟨127,ofList 2 [.int .i64 i],[Item.code (Qar YP 127)],[],.run,none⟩
theorem Q0T (B:Lo) (g:Gd) (i left:Int) (dJ0:Nat->Value):CE.finK 4 (Qam YP (Qa1 YP) J0 B 3 4 (QkX g i left dJ0) (QiZ g i left dJ0) 4
 [] 0 [] []) [] [] []=some (OO.ret (.tuple #[]),[],[],
 []):=by kernel_rfl
theorem Q2u (B:Lo) (g:Gd) (i left:Int) (dJ0:Nat->Value):CE.landA 2 (Qam YP (Qa1 YP) J0 B 23 2 (Qco (none) 126 38 (([1,2,5,11,12,13]:List Nat).zip (Qcc g i left)) dJ0 QbW) (Qb5 (Qdd g) 2 (([]:List Nat).zip (QbU g i left)) (Qbm g i left)) (2+1+(Qbm g i left).length)
 (Qud g i left dJ0++[(10,hvT),(13,Qaf.call (List.range 4) (OO.ret (.tuple #[])) ([]++(4,Qb0)::QaR 5 []) 5 []),(19,hvI (left - if g.use < left then g.use else left)),(21,hvI (i+1))]) 0 [] []) [1,2,5,11,12,13] [] [(3,KS.auto)] []=some ⟨126,38,QbW,[],.run,none,Qcc g (i+1) (left - if g.use < left then g.use else left),([]:List Nat).zip (QbU g (i+1) (left - if g.use < left then g.use else left)),Qbm g (i+1) (left - if g.use < left then g.use else left),
 [wq (i+1)=i+1,wq (left - if g.use < left then g.use else left)=left - if g.use < left then g.use else left,FJ YP B (QkX g i left dJ0) (QiZ g i left dJ0) 4 (OO.ret (.tuple #[])) (([]++((4,Qb0)::QaR (4+1) []))++QiZ g i left dJ0) 5 (List.range 4) [],ltq left g.use=true]++Qp2 B g i left dJ0⟩:=by kernel_rfl
theorem Q18 (B:Lo) (g:Gd) (i left:Int) (dJ0:Nat->Value):CE.landA 2 (Qam YP (Qa1 YP) J0 B 23 2 (Qco (none) 126 38 (([1,2,5,11,12,13]:List Nat).zip (Qcc g i left)) dJ0 QbW) (Qb5 (Qdd g) 2 (([]:List Nat).zip (QbU g i left)) (Qbm g i left)) (2+1+(Qbm g i left).length)
 (Qud g i left dJ0++[(10,hvF),(16,hvI (left - if g.use < left then g.use else left)),(18,hvI (i+1))]) 0 [] []) [1,2,5,11,12,13] [] [(3,KS.auto)] []=some ⟨126,38,QbW,[],.run,none,Qcc g (i+1) (left - if g.use < left then g.use else left),([]:List Nat).zip (QbU g (i+1) (left - if g.use < left then g.use else left)),Qbm g (i+1) (left - if g.use < left then g.use else left),
 [wq (i+1)=i+1,wq (left - if g.use < left then g.use else left)=left - if g.use < left then g.use else left,ltq left g.use=false]++Qp2 B g i left dJ0⟩:=by kernel_rfl
theorem Q0I (B:Lo) (g:Gd) (i left:Int) (dJ0:Nat->Value):CE.finK 2 (Qam YP (Qa1 YP) J0 B 9 2 (Qco (none) 126 38 (([1,2,5,11,12,13]:List Nat).zip (Qcc g i left)) dJ0 QbW) (Qb5 (Qdd g) 2 (([]:List Nat).zip (QbU g i left)) (Qbm g i left)) (2+1+(Qbm g i left).length)
 [(0,hvF)] 0 [] []) [] [] []=some (OO.ret (.int .i64 left),[],[],
 [ltq i (↑g.ships.length:Int)=false]):=by kernel_rfl
set_option maxHeartbeats 4000000 in
theorem Qtu (g:Gd) (hg:gdB g) {B:Lo} (hJ:∀w,B.has w->J0 w):∀m:Nat,(∀(i left:Int),(g.ships.length - i.toNat)=m->∀(h0:0<=i) (h1:0<=left) (h2:left<=1000000000 * (i+1)),(∃dJ0:Nat->Value,(∀t,Qbc (dJ0 t))/\GoE YP B (Qh3 g) (Qdd g) 2 (Qco (none) 126 38 (([1,2,5,11,12,13]:List Nat).zip (Qcc g i left)) dJ0 QbW) (Qb5 (Qdd g) 2 (([]:List Nat).zip (QbU g i left)) (Qbm g i left)) (2+1+(Qbm g i left).length) ([]:List Nat))->FinK YP B (Qh3 g) (Qdd g) 2 (.ret (.int .i64 (Qds g.use g.br (g.ships.drop i.toNat) left))) (([]:List Nat).zip ([])) ([]) ([]:List Nat)):=by
 intro m0;induction m0 using Nat.strongRecOn with
 | _ m0 ih0=>
   intro i left hm0 h0 h1 h2 ⟨dJ0,hdJ0,hg0⟩;by_cases q0:(i:Int) < ((↑g.ships.length:Int))
   ·have hp0:QaA (QoG B g i left dJ0):=by
     exact ⟨(QaW q0),trivial⟩
    cases q1:g.ships.getD i.toNat default with
    | true=>
      have hp1:QaA (Qpf B g i left dJ0):=by
       unfold gdB at hg;have s2:=Qbz (use:=g.use) (br:=g.br) (l:=g.ships) (left:=left) h0 q0;simp only [q1,cond_true,cond_false,Int.add_zero] at s2;exact ⟨(QaL (by omega) (by omega)),⟨⟨by first | omega | (split <;> omega),by first | omega | (split <;> omega),((Qae (z:=1) (fun _=> rfl) (by omega))).trans (by simp_all [QeI])⟩,hp0⟩⟩
      by_cases q2:(left+g.br:Int) < g.use
      ·have rj1:FJ YP B (Qlf g i left dJ0) (Qjl g i left dJ0) 4 (OO.ret (.tuple #[])) (([]++((4,Qb0)::QaR (4+1) []))++Qjl g i left dJ0) 5 (List.range 4) []:=by
        unfold gdB at hg;have s2:=Qbz (use:=g.use) (br:=g.br) (l:=g.ships) (left:=left) h0 q0;simp only [q1,cond_true,cond_false,Int.add_zero] at s2;exact FinK.fjB (GoE.finK okF hJ Qab (Qau (by kernel_rfl)) (Qak (by kernel_rfl)) ((GoE.refl (P:=YP) (B:=B) (c0:=Qlf g i left dJ0) (Qau (by kernel_rfl))).widen (Wf:=((([]):List (Nat×KS)).map (·.1))) (by simp) (Qak (by kernel_rfl))) (Q3n B g i left dJ0)
         trivial) (ex:=[]) (by kernel_rfl) (Qb1 _)
       unfold gdB at hg;have s2:=Qbz (use:=g.use) (br:=g.br) (l:=g.ships) (left:=left) h0 q0;simp only [q1,cond_true,cond_false,Int.add_zero] at s2;exact ((ih0 _ (by omega)) (i+1) (left+g.br - if g.use < left+g.br then g.use else left+g.br) rfl (by omega) (by omega) (by omega)
        (GoE.landA okF hJ Qab (Qau (by kernel_rfl)) (Qak (by kernel_rfl)) hg0 (Q2k B g i left dJ0)
        ⟨(QaL (by omega) (by omega)),⟨(QaL (by omega) (by omega)),⟨rj1,⟨(QaW q2),hp1⟩⟩⟩⟩ (by kernel_rfl) (by kernel_rfl) (fun l hl=> by cases hl <;> decide))).cast (by (rw [s2];done)) (by rfl) (by rfl)
      ·unfold gdB at hg;have s2:=Qbz (use:=g.use) (br:=g.br) (l:=g.ships) (left:=left) h0 q0;simp only [q1,cond_true,cond_false,Int.add_zero] at s2;exact ((ih0 _ (by omega)) (i+1) (left+g.br - if g.use < left+g.br then g.use else left+g.br) rfl (by omega) (by omega) (by omega)
        (GoE.landA okF hJ Qab (Qau (by kernel_rfl)) (Qak (by kernel_rfl)) hg0 (Q1m B g i left dJ0)
        ⟨(QaL (by omega) (by omega)),⟨(QaL (by omega) (by omega)),⟨(Qbh (Int.not_lt.1 q2)),hp1⟩⟩⟩ (by kernel_rfl) (by kernel_rfl) (fun l hl=> by cases hl <;> decide))).cast (by (rw [s2];done)) (by rfl) (by rfl)
    | false=>
      have hp2:QaA (Qp2 B g i left dJ0):=by
       unfold gdB at hg;have s2:=Qbz (use:=g.use) (br:=g.br) (l:=g.ships) (left:=left) h0 q0;simp only [q1,cond_true,cond_false,Int.add_zero] at s2;exact ⟨⟨by first | omega | (split <;> omega),by first | omega | (split <;> omega),((Qae (z:=1) (fun _=> rfl) (by omega))).trans (by simp_all [QeI])⟩,hp0⟩
      by_cases q2:(left:Int) < g.use
      ·have rj1:FJ YP B (QkX g i left dJ0) (QiZ g i left dJ0) 4 (OO.ret (.tuple #[])) (([]++((4,Qb0)::QaR (4+1) []))++QiZ g i left dJ0) 5 (List.range 4) []:=by
        unfold gdB at hg;have s2:=Qbz (use:=g.use) (br:=g.br) (l:=g.ships) (left:=left) h0 q0;simp only [q1,cond_true,cond_false,Int.add_zero] at s2;exact FinK.fjB (GoE.finK okF hJ Qab (Qau (by kernel_rfl)) (Qak (by kernel_rfl)) ((GoE.refl (P:=YP) (B:=B) (c0:=QkX g i left dJ0) (Qau (by kernel_rfl))).widen (Wf:=((([]):List (Nat×KS)).map (·.1))) (by simp) (Qak (by kernel_rfl))) (Q0T B g i left dJ0)
         trivial) (ex:=[]) (by kernel_rfl) (Qb1 _)
       unfold gdB at hg;have s2:=Qbz (use:=g.use) (br:=g.br) (l:=g.ships) (left:=left) h0 q0;simp only [q1,cond_true,cond_false,Int.add_zero] at s2;exact ((ih0 _ (by omega)) (i+1) (left - if g.use < left then g.use else left) rfl (by omega) (by omega) (by omega)
        (GoE.landA okF hJ Qab (Qau (by kernel_rfl)) (Qak (by kernel_rfl)) hg0 (Q2u B g i left dJ0)
        ⟨(QaL (by omega) (by omega)),⟨(QaL (by omega) (by omega)),⟨rj1,⟨(QaW q2),hp2⟩⟩⟩⟩ (by kernel_rfl) (by kernel_rfl) (fun l hl=> by cases hl <;> decide))).cast (by (rw [s2];done)) (by rfl) (by rfl)
      ·unfold gdB at hg;have s2:=Qbz (use:=g.use) (br:=g.br) (l:=g.ships) (left:=left) h0 q0;simp only [q1,cond_true,cond_false,Int.add_zero] at s2;exact ((ih0 _ (by omega)) (i+1) (left - if g.use < left then g.use else left) rfl (by omega) (by omega) (by omega)
        (GoE.landA okF hJ Qab (Qau (by kernel_rfl)) (Qak (by kernel_rfl)) hg0 (Q18 B g i left dJ0)
        ⟨(QaL (by omega) (by omega)),⟨(QaL (by omega) (by omega)),⟨(Qbh (Int.not_lt.1 q2)),hp2⟩⟩⟩ (by kernel_rfl) (by kernel_rfl) (fun l hl=> by cases hl <;> decide))).cast (by (rw [s2];done)) (by rfl) (by rfl)
   ·unfold gdB at hg;have s2:=QrK (use:=g.use) (br:=g.br) (l:=g.ships) (i:=i) (left:=left) (by omega);exact (GoE.finK okF hJ Qab (Qau (by kernel_rfl)) (Qak (by kernel_rfl)) hg0 (Q0I B g i left dJ0)
     ⟨(Qbh (Int.not_lt.1 q0)),trivial⟩).cast (by (rw [s2];done)) (by rfl) (by rfl)

theorem Q1z (B:Lo) (g:Gd):CE.landA 2 (Qam YP (Qa1 YP) J0 B 9 2 (Qh3 g) (Qdd g) 2
 [] 0 [] []) [1,2,5,11,12,13] [] [(2,KS.auto)] []=some ⟨126,38,QbW,[],.run,none,Qcc g (0) g.stock,([]:List Nat).zip (QbU g (0) g.stock),Qbm g (0) g.stock,
 []⟩:=by kernel_rfl
theorem Q10 (B:Lo) (g:Gd):QaY (Qam YP (Qa1 YP) J0 B 6 1 (Qaj YP 87 5 (([.agg (QbL g).toArray]).map (Qat 0 4))) H00 1
 [(3,Qaf.call (List.range 2) (OO.ret (.int .i64 (Qds g.use g.br (List.drop (Int.toNat 0) g.ships) g.stock))) ([]++(2,Qb0)::QaR 3 []) 3 [])] 0 [] []) []=some (.int .i64 (Qds g.use g.br (List.drop (Int.toNat 0) g.ships) g.stock),
 [FJ YP B (Qh3 g) (Qdd g) 2 (OO.ret (.int .i64 (Qds g.use g.br (List.drop (Int.toNat 0) g.ships) g.stock))) (([]++((2,Qb0)::QaR (2+1) []))++Qdd g) 3 (List.range 2) []]):=by kernel_rfl
set_option maxHeartbeats 4000000 in
theorem Q4N (g:Gd) (hg:gdB g) {B:Lo} (hJ:∀w,B.has w->J0 w):EndsT YP B (Qaj YP 87 5 (([.agg (QbL g).toArray]).map (Qat 0 4))) (.int .i64 (Qds g.use g.br g.ships g.stock)):=by
 have rj0:FJ YP B (Qh3 g) (Qdd g) 2 (OO.ret (.int .i64 (Qds g.use g.br (List.drop (Int.toNat 0) g.ships) g.stock))) (([]++((2,Qb0)::QaR (2+1) []))++Qdd g) 3 (List.range 2) []:=by
  unfold gdB at hg;exact FinK.fjB ((Qtu g hg hJ _) (0) g.stock rfl (by omega) (by omega) (by omega)
   (GoE.landA okF hJ Qab (Qau (by kernel_rfl)) (Qak (by kernel_rfl)) ((GoE.refl (P:=YP) (B:=B) (c0:=Qh3 g) (Qau (by kernel_rfl))).widen (Wf:=((([]):List (Nat×KS)).map (·.1))) (by simp) (Qak (by kernel_rfl))) (Q1z B g)
   trivial (by kernel_rfl) (by kernel_rfl) (fun l hl=> by cases hl <;> decide))) (ex:=[]) (by kernel_rfl) (Qb1 _)
 unfold gdB at hg;exact (GoE.endsT okF hJ Qab GoE.start (Q10 B g)
  ⟨rj0,trivial⟩).cast (by rfl)
theorem Q6L (g:Gd) (hg:gdB g):Qaq YP J0 87 #[.agg (QbL g).toArray] (.int .i64 (Qds g.use g.br g.ships g.stock)):=
 QaE (ts:=[.agg (QbL g).toArray]) Qbw (c0:=Qaj YP 87 5 (([.agg (QbL g).toArray]).map (Qat 0 4))) (by kernel_rfl) (by kernel_rfl) fun B hJ=> Q4N g hg hJ
end
end Go.Proofs.YtiabgkiccaodmaaGreat

namespace Go.Proofs.YtiabgkiccaodmaaGreat
open Go Go.CE Go.RowKit
set_option maxRecDepth 100000
def QpI (s n:Int):Int:=((orN s ((Quw n:Nat):Int):Nat):Int)
def Qle (s n:Int):Bool:=decide (((Q2w ((Qtl s n:Nat):Int) 1:Nat):Int)=1)
theorem Qox {s n:Int}:Qle s n=s.toNat.testBit n.toNat:=by
 unfold Qle Q2w Qtl;rw [Int.toNat_natCast,show (1:Int).toNat=1 from rfl,Nat.and_one_is_mod,Nat.shiftRight_eq_div_pow,Nat.testBit_eq_decide_div_mod_eq];exact decide_eq_decide.2 (by omega)
def QaG:List Int->Int->Int
 | [],s=> s
 | n::l,s=> QaG l (QpI s n)
theorem Qyh {s n:Int} {k:Nat} (h0:0<=s) (h:s < 2 ^ k) (hn:n.toNat < k):QpI s n < 2 ^ k:=by
 obtain ⟨b,rfl⟩:∃b:Nat,s=b:=⟨s.toNat,by omega⟩
 have e:(2:Int) ^ k=((2 ^ k:Nat):Int):=by rw [Int.natCast_pow];rfl
 rw [e] at h ⊢;have h':b < 2 ^ k:=by exact_mod_cast h
 have:b ||| 2 ^ n.toNat < 2 ^ k:=Nat.or_lt_two_pow h' (Nat.pow_lt_pow_right (by decide) hn)
 unfold QpI orN Quw;rw [Int.toNat_natCast,Int.toNat_natCast];exact_mod_cast this
theorem Qxp {l:List Int} {i s:Int} (h0:0<=i) (h:i < l.length):QaG (l.drop i.toNat) s=QaG (l.drop (i+1).toNat) (QpI s (l.getD i.toNat default)):=by
 obtain ⟨k,rfl⟩:∃k:Nat,i=k:=⟨i.toNat,by omega⟩
 have hk:k < l.length:=by omega
 have e1:((k:Int)).toNat=k:=by omega
 have e2:((k:Int)+1).toNat=k+1:=by omega
 rw [e1,e2,List.drop_eq_getElem_cons hk];simp [QaG,List.getD_eq_getElem?_getD,hk]
theorem Q2W {l:List Int} {i s:Int} (h:l.length<=i):QaG (l.drop i.toNat) s=s:=by
 rw [List.drop_eq_nil_of_le (by omega)];rfl
theorem Q2A (B:Lo) (s n:Int):QaY (Qam YP (Qa1 YP) J0 B 6 1 (Qaj YP 146 9 (([.int .i64 s,.int .i64 n]).map (Qat 0 4))) H00 1
 [(3,Qaf.bin (.int .i64 (↑(Quw n):Int))),(4,Qaf.bin (.int .i64 (↑(orN s (↑(Quw n):Int)):Int)))] 0 [] []) []=some (.int .i64 (↑(orN s (↑(Quw n):Int)):Int),
 [Qm1 YP BinOp.or 120 (Qcd {len:=16000,tr:=Tri.set 14 (Tri.set 14 Tri.lf 7 (.int .i64 (↑(Quw n):Int))) 5 (.int .i64 s)} 5) (Qcd {len:=16000,tr:=Tri.set 14 (Tri.set 14 Tri.lf 7 (.int .i64 (↑(Quw n):Int))) 5 (.int .i64 s)} 7) (.int .i64 (↑(orN s (↑(Quw n):Int)):Int)),Qm1 YP BinOp.shl 120 (.int .i64 1) (Qcd {len:=16000,tr:=Tri.set 14 Tri.lf 6 (.int .i64 n)} 6) (.int .i64 (↑(Quw n):Int))]):=by kernel_rfl
set_option maxHeartbeats 4000000 in
theorem Q4g (s n:Int) (hn:0<=n/\n<=61) (hs:0<=s/\s<=4611686018427387904) {B:Lo} (hJ:∀w,B.has w->J0 w):EndsT YP B (Qaj YP 146 9 (([.int .i64 s,.int .i64 n]).map (Qat 0 4))) (.int .i64 (QpI s n)):=by
 have e1:=Q4Z (n:=n) (by omega);exact (GoE.endsT okF hJ Qab GoE.start (Q2A B s n)
  ⟨(Q60 (by omega) (by omega) (by omega) (by omega)),⟨(Q1w (by omega) (by omega)),trivial⟩⟩).cast (by rfl)
theorem Q6D (s n:Int) (hn:0<=n/\n<=61) (hs:0<=s/\s<=4611686018427387904):Qaq YP J0 146 #[.int .i64 s,.int .i64 n] (.int .i64 (QpI s n)):=
 QaE (ts:=[.int .i64 s,.int .i64 n]) Qbw (c0:=Qaj YP 146 9 (([.int .i64 s,.int .i64 n]).map (Qat 0 4))) (by kernel_rfl) (by kernel_rfl) fun B hJ=> Q4g s n hn hs hJ
noncomputable def QsQ (B:Lo) (s n:Int):List Prop:=[Qm1 YP BinOp.and 120 (Qcd {len:=16000,tr:=Tri.set 14 Tri.lf 7 (.int .i64 (↑(Qtl s n):Int))} 7) (.int .i64 1) (.int .i64 (↑(Q2w (↑(Qtl s n):Int) 1):Int)),Qm1 YP BinOp.shr 120 (Qcd {len:=16000,tr:=Tri.set 14 (Tri.set 14 Tri.lf 6 (.int .i64 n)) 5 (.int .i64 s)} 5) (Qcd {len:=16000,tr:=Tri.set 14 (Tri.set 14 Tri.lf 6 (.int .i64 n)) 5 (.int .i64 s)} 6) (.int .i64 (↑(Qtl s n):Int))]++([]:List Prop)
noncomputable def Qz6 (s n:Int):Qaz:=[(3,Qaf.bin (.int .i64 (↑(Qtl s n):Int))),(4,Qaf.bin (.int .i64 (↑(Q2w (↑(Qtl s n):Int) 1):Int)))]
theorem Q3M (B:Lo) (s n:Int):QaY (Qam YP (Qa1 YP) J0 B 6 1 (Qaj YP 159 10 (([.int .i64 s,.int .i64 n]).map (Qat 0 4))) H00 1
 (Qz6 s n++[(5,hvT)]) 0 [] []) []=some (.bool true,
 [eqq (↑(Q2w (↑(Qtl s n):Int) 1):Int) 1=true]++QsQ B s n):=by kernel_rfl
theorem Q3Z (B:Lo) (s n:Int):QaY (Qam YP (Qa1 YP) J0 B 6 1 (Qaj YP 159 10 (([.int .i64 s,.int .i64 n]).map (Qat 0 4))) H00 1
 (Qz6 s n++[(5,hvF)]) 0 [] []) []=some (.bool false,
 [eqq (↑(Q2w (↑(Qtl s n):Int) 1):Int) 1=false]++QsQ B s n):=by kernel_rfl
set_option maxHeartbeats 4000000 in
theorem Q6v (s n:Int) (hn:0<=n/\n<=61) (hs:0<=s/\s<=4611686018427387904) {B:Lo} (hJ:∀w,B.has w->J0 w):EndsT YP B (Qaj YP 159 10 (([.int .i64 s,.int .i64 n]).map (Qat 0 4))) (.bool (Qle s n)):=by
 have e1:Qtl s n<=s.toNat:=Q4G;have hp0:QaA (QsQ B s n):=by
  exact ⟨(Q3U (by omega) (by omega) (by omega) (by omega)),⟨(Q47 (by omega) (by omega) (by omega)),trivial⟩⟩
 by_cases q0:((↑(Q2w (↑(Qtl s n):Int) 1):Int):Int)=(1)
 ·exact (GoE.endsT okF hJ Qab GoE.start (Q3M B s n)
   ⟨(QuQ q0),hp0⟩).cast (by (simp [Qle, *];done))
 ·exact (GoE.endsT okF hJ Qab GoE.start (Q3Z B s n)
   ⟨(Qw8 q0),hp0⟩).cast (by (simp [Qle, *];done))
theorem Q30 (s n:Int) (hn:0<=n/\n<=61) (hs:0<=s/\s<=4611686018427387904):Qaq YP J0 159 #[.int .i64 s,.int .i64 n] (.bool (Qle s n)):=
 QaE (ts:=[.int .i64 s,.int .i64 n]) Qbw (c0:=Qaj YP 159 10 (([.int .i64 s,.int .i64 n]).map (Qat 0 4))) (by kernel_rfl) (by kernel_rfl) fun B hJ=> Q6v s n hn hs hJ
def QrN (xs:List Int) (i s:Int):List Value:=[.int .i64 s,Qa4 1 (slT xs.length (Qac Qal xs)),.int .i64 (↑xs.length:Int),.int .i64 i]
def Qk2 (xs:List Int) (i s:Int):List Obj:=[]
noncomputable def Qsj:List Item:=([.code [1,1,0,1,0,0],.inLoop [1,1,0,1,0,0],.inBlock 0,.code [1,1,1]]).map (it (Qar YP 116))
def Q6l (B:Lo) (c0:CF) (xs:List Int) (i s:Int):Prop:=∃dJ:Nat->Value,(∀t,Qbc (dJ t))/\GoE YP B c0 H00 1 (Qa9 116 17 (([3,6,7,8]:List Nat).zip (QrN xs i s)) dJ Qsj) (Qa5 (Qk2 xs i s)) (2+(Qk2 xs i s).length) []
theorem Q6c (B:Lo) (xs:List Int) (i s:Int) (dJ0:Nat->Value):landM (Qam YP (Qa1 YP) J0 B 13 1 (Qa9 116 17 (([3,6,7,8]:List Nat).zip (QrN xs i s)) dJ0 Qsj) (Qa5 (Qk2 xs i s)) (2+(Qk2 xs i s).length)
 [(0,hvT),(1,Qaf.tidx i.toNat #[.int .i64 (xs.getD i.toNat default)]),(6,Qaf.pure (.int .i64 (QpI s (xs.getD i.toNat default))) []),(8,hvI (i+1))] 0 [] []) [3,6,7,8] [] []=some ⟨116,17,Qsj,[],.run,none,QrN xs (i+1) (QpI s (xs.getD i.toNat default)),Qk2 xs (i+1) (QpI s (xs.getD i.toNat default)),
 [wq (i+1)=i+1,QaA []/\Qaq YP J0 146 #[.int .i64 s,.int .i64 (xs.getD i.toNat default)] (.int .i64 (QpI s (xs.getD i.toNat default))),i=(↑i.toNat:Int)/\Int.toNat i < List.length xs/\Array.extract (Qac Qal xs) (Int.toNat i * TypeInfo.size Tryz.t3) (Int.toNat i * TypeInfo.size Tryz.t3+TypeInfo.size Tryz.t3)=#[.int .i64 (xs.getD i.toNat default)],ltq i (↑xs.length:Int)=true]⟩:=by kernel_rfl
theorem Q5H (B:Lo) (xs:List Int) (i s:Int) (dJ0:Nat->Value):QaY (Qam YP (Qa1 YP) J0 B 9 1 (Qa9 116 17 (([3,6,7,8]:List Nat).zip (QrN xs i s)) dJ0 Qsj) (Qa5 (Qk2 xs i s)) (2+(Qk2 xs i s).length)
 [(0,hvF)] 0 [] []) []=some (.int .i64 s,
 [ltq i (↑xs.length:Int)=false]):=by kernel_rfl
theorem Q5L (B:Lo) (xs:List Int):landM (Qam YP (Qa1 YP) J0 B 9 1 (Qaj YP 116 17 (([slI xs]).map (Qat 0 4))) H00 1
 [] 0 [] []) [3,6,7,8] [] []=some ⟨116,17,Qsj,[],.run,none,QrN xs (0) (0),Qk2 xs (0) (0),
 []⟩:=by kernel_rfl
set_option maxHeartbeats 4000000 in
theorem Q5M (xs:List Int) (hx:∀x∈xs,0<=x/\x<=61) (hfacts:xs.length<=9223372036854775807) {B:Lo} (hJ:∀w,B.has w->J0 w) {c0:CF}:∀m:Nat,(∀(i s:Int),(xs.length - i.toNat)=m->∀(h0:0<=i) (h1:0<=s) (h2:s < 4611686018427387904),Q6l B c0 xs i s->EndsT YP B c0 (.int .i64 (QaG (xs.drop i.toNat) s))):=by
 intro m0;induction m0 using Nat.strongRecOn with
 | _ m0 ih0=>
   intro i s hm0 h0 h1 h2 ⟨dJ0,hdJ0,hg0⟩;by_cases q0:(i:Int) < ((↑xs.length:Int))
   ·have s2:=Qxp (l:=xs) (s:=s) h0 q0;have hm:=hx (xs.getD i.toNat default) (by rw [List.getD_eq_getElem?_getD,List.getElem?_eq_getElem (by omega)];exact List.getElem_mem _);have hw:=Qyh (s:=s) (n:=xs.getD i.toNat default) (k:=62) h1 (by omega) (by omega);have hw0:0<=QpI s (xs.getD i.toNat default):=Int.natCast_nonneg _;exact ((ih0 _ (by omega)) (i+1) (QpI s (xs.getD i.toNat default)) rfl (by omega) (by with_reducible assumption) (by omega)
     (hg0.landM okF hJ Qab (Q6c B xs i s dJ0)
     ⟨(QaL (by omega) (by omega)),⟨⟨trivial,Q6D (s) (xs.getD i.toNat default) (by with_reducible assumption) (by omega)⟩,⟨⟨by omega,by omega,(Qae (z:=1) (fun _=> rfl) (by omega))⟩,⟨(QaW q0),trivial⟩⟩⟩⟩ (by kernel_rfl) (by kernel_rfl))).cast (by (rw [s2];done))
   ·have s2:=Q2W (l:=xs) (i:=i) (s:=s) (by omega);have hw0:0<=QpI s (xs.getD i.toNat default):=Int.natCast_nonneg _;exact (GoE.endsT okF hJ Qab hg0 (Q5H B xs i s dJ0)
     ⟨(Qbh (Int.not_lt.1 q0)),trivial⟩).cast (by (rw [s2];done))
set_option maxHeartbeats 4000000 in
theorem Q6S (xs:List Int) (hx:∀x∈xs,0<=x/\x<=61) (hfacts:xs.length<=9223372036854775807) {B:Lo} (hJ:∀w,B.has w->J0 w):EndsT YP B (Qaj YP 116 17 (([slI xs]).map (Qat 0 4))) (.int .i64 (QaG xs 0)):=by
 exact ((Q5M xs hx hfacts hJ _) (0) (0) rfl (by omega) (by omega) (by omega)
  (GoE.start.landM okF hJ Qab (Q5L B xs)
  trivial (by kernel_rfl) (by kernel_rfl))).cast (by rfl)
theorem pOf (xs:List Int) (hx:∀x∈xs,0<=x/\x<=61):Qaq YP J0 116 #[slI xs] (.int .i64 (QaG xs 0)):=
 Qcw (ts:=[slI xs]) (xs.length<=9223372036854775807) (fun _ _ ht=> ht.ln (i:=0) rfl) Qbw (c0:=Qaj YP 116 17 (([slI xs]).map (Qat 0 4))) (by kernel_rfl) (by kernel_rfl) fun hfacts B hJ=> Q6S xs hx hfacts hJ
end Go.Proofs.YtiabgkiccaodmaaGreat

