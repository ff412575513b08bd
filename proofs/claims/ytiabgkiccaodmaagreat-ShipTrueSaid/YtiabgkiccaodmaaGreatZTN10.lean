/- The first day on which goods are wanting. -/
import Derived.Test.YtiabgkiccaodmaaGreatZTN09
set_option linter.all false
namespace Go.Proofs.YtiabgkiccaodmaaGreat
open Go Go.CE Go.RowKit
noncomputable section
set_option maxRecDepth 100000
structure Gd where
 stock:Int
 use:Int
 br:Int
 ships:List Bool
deriving Inhabited
def QbB (g:Gd):List Value:=[.int .i64 g.stock,.int .i64 g.use,.int .i64 g.br,slB g.ships]
abbrev Que (use left:Int):Int:=left - if use < left then use else left
def Qbd (use br:Int):List Bool->Int->Int->Int
 | [],_,_=> -1
 | c::cs,day,left=> bif decide ((left+bif c then br else 0) < use) then day else Qbd use br cs (day+1) (Que use (left+bif c then br else 0))
def QdO (use br:Int):List Bool->Int->Int
 | [],left=> left
 | c::cs,left=> QdO use br cs (Que use (left+bif c then br else 0))
def gdB (g:Gd):Prop:=0<=g.stock/\g.stock<=1000000000/\0<=g.use/\g.use<=1000000000/\0<=g.br/\g.br<=1000000000/\g.ships.length<=1000
theorem QcR {use br:Int} {l:List Bool} {i left:Int} (h0:0<=i) (h:i < l.length):Qbd use br (l.drop i.toNat) i left=bif decide ((left+bif l.getD i.toNat default then br else 0) < use) then i else Qbd use br (l.drop (i+1).toNat) (i+1) (Que use (left+bif l.getD i.toNat default then br else 0)):=by
 obtain ⟨k,rfl⟩:∃k:Nat,i=k:=⟨i.toNat,by omega⟩
 have hk:k < l.length:=by omega
 have e1:((k:Int)).toNat=k:=by omega
 have e2:((k:Int)+1).toNat=k+1:=by omega
 rw [e1,e2,List.drop_eq_getElem_cons hk]
 simp [Qbd,List.getD_eq_getElem?_getD,hk]
theorem QuZ {use br:Int} {l:List Bool} {i left:Int} (h:l.length<=i):Qbd use br (l.drop i.toNat) i left= -1:=by
 rw [List.drop_eq_nil_of_le (by omega)];rfl
theorem Qbo {use br:Int} {l:List Bool} {i left:Int} (h0:0<=i) (h:i < l.length):QdO use br (l.drop i.toNat) left=QdO use br (l.drop (i+1).toNat) (Que use (left+bif l.getD i.toNat default then br else 0)):=by
 obtain ⟨k,rfl⟩:∃k:Nat,i=k:=⟨i.toNat,by omega⟩
 have hk:k < l.length:=by omega
 have e1:((k:Int)).toNat=k:=by omega
 have e2:((k:Int)+1).toNat=k+1:=by omega
 rw [e1,e2,List.drop_eq_getElem_cons hk]
 simp [QdO,List.getD_eq_getElem?_getD,hk]
theorem Qo5 {use br:Int} {l:List Bool} {i left:Int} (h:l.length<=i):QdO use br (l.drop i.toNat) left=left:=by
 rw [List.drop_eq_nil_of_le (by omega)];rfl
theorem QqB {use br:Int}:∀(l:List Bool) (day left:Int),0<=day->Qbd use br l day left= -1\/0<=Qbd use br l day left
 | [],_,_,_=> .inl rfl
 | c::cs,day,left,h=> by
   simp only [Qbd]
   cases decide ((left+bif c then br else 0) < use) with
   | true=> exact .inr h
   | false=> exact QqB cs _ _ (by omega)
def QaM (g:Gd):Qar:=[(2,Obj.cells #[.int .i64 0] 3),(1,Obj.cells #[.int .i64 g.stock,.int .i64 g.use,.int .i64 g.br,Qay 0 (slT g.ships.length (Qac Qe5 g.ships))] 129),(0,Obj.coro none)]
def QbF (g:Gd):CF:=⟨126,ofList 38 [.agg #[.int .i64 g.stock,.int .i64 g.use,.int .i64 g.br,Qay 0 (slT g.ships.length (Qac Qe5 g.ships))],Value.func (Fn.func 149) #[] #[]],[Item.code (Qan Tryz.prog 126)],[],.run,none⟩
def Qbe (g:Gd) (i left:Int):List Value:=[Value.func (Fn.func 149) #[] #[],pA 4 0,.int .i64 left,Qay 0 (slT g.ships.length (Qac Qe5 g.ships)),.int .i64 (↑g.ships.length:Int),.int .i64 i]
def Qbg (g:Gd) (i left:Int):List Obj:=[]
def QaC (g:Gd) (i left:Int):List Obj:=[Obj.cells #[.int .i64 g.stock,.int .i64 g.use,.int .i64 g.br,Qay 0 (slT g.ships.length (Qac Qe5 g.ships))] 129]
def Qbf:List Item:=([.code [1,1,0,1,0,0],.inLoop [1,1,0,1,0,0],.inBlock 0,.code [1,1,1]]).map (it (Qan Tryz.prog 126))
def Qgv (B:Lo) (g:Gd) (i left:Int) (dJ0:Nat->Value):List Prop:=[ltq i (↑g.ships.length:Int)=true]++([]:List Prop)
def Qj7 (g:Gd) (i left:Int) (dJ0:Nat->Value):Qap:=[(0,hvT)]
def Qgy (B:Lo) (g:Gd) (i left:Int) (dJ0:Nat->Value):List Prop:=[wq (left+g.br)=left+g.br,i=(↑i.toNat:Int)/\Int.toNat i < List.length g.ships/\Array.extract (Qac Qe5 g.ships) (Int.toNat i * TypeInfo.size Tryz.t4) (Int.toNat i * TypeInfo.size Tryz.t4+TypeInfo.size Tryz.t4)=#[.bool true]]++Qgv B g i left dJ0
def Qjr (g:Gd) (i left:Int) (dJ0:Nat->Value):Qap:=Qj7 g i left dJ0++[(2,Qai.tidx i.toNat #[.bool true]),(10,hvI (left+g.br))]
def Qeo (g:Gd) (i left:Int) (dJ0:Nat->Value):Qar:=[(3,Obj.coro none),(4,Obj.cells #[.int .i64 g.stock,.int .i64 g.use,.int .i64 g.br,Qay 0 (slT g.ships.length (Qac Qe5 g.ships))] 129),(2,Obj.cells #[.int .i64 0] 3),(1,Obj.cells #[.int .i64 g.stock,.int .i64 g.use,.int .i64 g.br,Qay 0 (slT g.ships.length (Qac Qe5 g.ships))] 129),(0,Obj.coro none)]
def Qfg (g:Gd) (i left:Int) (dJ0:Nat->Value):CF:=⟨149,ofList 4 [.int .i64 i],[Item.code (Qan Tryz.prog 149)],[],.run,none⟩
theorem QpF (B:Lo) (g:Gd) (i left:Int) (dJ0:Nat->Value):CE.finK 5 (Qak Tryz.prog (Qaw Tryz.prog) J0 B 2 5 (Qfg g i left dJ0) (Qeo g i left dJ0) 5
 [] 0 [] []) [] [] []=some (OO.pan (Value.iface 183 (.int .i64 i)),[],[],
 []):=by kernel_rfl
theorem Qpa (B:Lo) (g:Gd) (i left:Int) (dJ0:Nat->Value):CE.finK 3 (Qak Tryz.prog (Qaw Tryz.prog) J0 B 20 3 (QbX (none) 126 38 (([1,2,5,11,12,13]:List Nat).zip (Qbe g i left)) dJ0 Qbf) (Qbx (QaM g) 3 (([]:List Nat).zip (Qbg g i left)) (QaC g i left)) (3+1+(QaC g i left).length)
 (Qjr g i left dJ0++[(15,hvT),(18,Qai.call (List.range 5) (OO.pan (Value.iface 183 (.int .i64 i))) ([]++(5,Qbq)::QaG 6 []) 6 [])]) 0 [] []) [] [] []=some (OO.pan (Value.iface 183 (.int .i64 i)),[],[],
 [FJ Tryz.prog B (Qfg g i left dJ0) (Qeo g i left dJ0) 5 (OO.pan (Value.iface 183 (.int .i64 i))) (([]++((5,Qbq)::QaG (5+1) []))++Qeo g i left dJ0) 6 (List.range 5) [],ltq (left+g.br) g.use=true]++Qgy B g i left dJ0):=by kernel_rfl
theorem QoG (B:Lo) (g:Gd) (i left:Int) (dJ0:Nat->Value):CE.landA 3 (Qak Tryz.prog (Qaw Tryz.prog) J0 B 23 3 (QbX (none) 126 38 (([1,2,5,11,12,13]:List Nat).zip (Qbe g i left)) dJ0 Qbf) (Qbx (QaM g) 3 (([]:List Nat).zip (Qbg g i left)) (QaC g i left)) (3+1+(QaC g i left).length)
 (Qjr g i left dJ0++[(15,hvF),(21,hvI (left+g.br - if g.use < left+g.br then g.use else left+g.br)),(23,hvI (i+1))]) 0 [] []) [1,2,5,11,12,13] [] [(4,KS.auto)] []=some ⟨126,38,Qbf,[],.run,none,Qbe g (i+1) (left+g.br - if g.use < left+g.br then g.use else left+g.br),([]:List Nat).zip (Qbg g (i+1) (left+g.br - if g.use < left+g.br then g.use else left+g.br)),QaC g (i+1) (left+g.br - if g.use < left+g.br then g.use else left+g.br),
 [wq (i+1)=i+1,wq (left+g.br - if g.use < left+g.br then g.use else left+g.br)=left+g.br - if g.use < left+g.br then g.use else left+g.br,ltq (left+g.br) g.use=false]++Qgy B g i left dJ0⟩:=by kernel_rfl
def QgK (B:Lo) (g:Gd) (i left:Int) (dJ0:Nat->Value):List Prop:=[i=(↑i.toNat:Int)/\Int.toNat i < List.length g.ships/\Array.extract (Qac Qe5 g.ships) (Int.toNat i * TypeInfo.size Tryz.t4) (Int.toNat i * TypeInfo.size Tryz.t4+TypeInfo.size Tryz.t4)=#[.bool false]]++Qgv B g i left dJ0
def Qj1 (g:Gd) (i left:Int) (dJ0:Nat->Value):Qap:=Qj7 g i left dJ0++[(2,Qai.tidx i.toNat #[.bool false])]
def Qen (g:Gd) (i left:Int) (dJ0:Nat->Value):Qar:=[(3,Obj.coro none),(4,Obj.cells #[.int .i64 g.stock,.int .i64 g.use,.int .i64 g.br,Qay 0 (slT g.ships.length (Qac Qe5 g.ships))] 129),(2,Obj.cells #[.int .i64 0] 3),(1,Obj.cells #[.int .i64 g.stock,.int .i64 g.use,.int .i64 g.br,Qay 0 (slT g.ships.length (Qac Qe5 g.ships))] 129),(0,Obj.coro none)]
def Qfi (g:Gd) (i left:Int) (dJ0:Nat->Value):CF:=⟨149,ofList 4 [.int .i64 i],[Item.code (Qan Tryz.prog 149)],[],.run,none⟩
theorem QoX (B:Lo) (g:Gd) (i left:Int) (dJ0:Nat->Value):CE.finK 5 (Qak Tryz.prog (Qaw Tryz.prog) J0 B 2 5 (Qfi g i left dJ0) (Qen g i left dJ0) 5
 [] 0 [] []) [] [] []=some (OO.pan (Value.iface 183 (.int .i64 i)),[],[],
 []):=by kernel_rfl
theorem QoL (B:Lo) (g:Gd) (i left:Int) (dJ0:Nat->Value):CE.finK 3 (Qak Tryz.prog (Qaw Tryz.prog) J0 B 20 3 (QbX (none) 126 38 (([1,2,5,11,12,13]:List Nat).zip (Qbe g i left)) dJ0 Qbf) (Qbx (QaM g) 3 (([]:List Nat).zip (Qbg g i left)) (QaC g i left)) (3+1+(QaC g i left).length)
 (Qj1 g i left dJ0++[(10,hvT),(13,Qai.call (List.range 5) (OO.pan (Value.iface 183 (.int .i64 i))) ([]++(5,Qbq)::QaG 6 []) 6 [])]) 0 [] []) [] [] []=some (OO.pan (Value.iface 183 (.int .i64 i)),[],[],
 [FJ Tryz.prog B (Qfi g i left dJ0) (Qen g i left dJ0) 5 (OO.pan (Value.iface 183 (.int .i64 i))) (([]++((5,Qbq)::QaG (5+1) []))++Qen g i left dJ0) 6 (List.range 5) [],ltq left g.use=true]++QgK B g i left dJ0):=by kernel_rfl
theorem Qqq (B:Lo) (g:Gd) (i left:Int) (dJ0:Nat->Value):CE.landA 3 (Qak Tryz.prog (Qaw Tryz.prog) J0 B 23 3 (QbX (none) 126 38 (([1,2,5,11,12,13]:List Nat).zip (Qbe g i left)) dJ0 Qbf) (Qbx (QaM g) 3 (([]:List Nat).zip (Qbg g i left)) (QaC g i left)) (3+1+(QaC g i left).length)
 (Qj1 g i left dJ0++[(10,hvF),(16,hvI (left - if g.use < left then g.use else left)),(18,hvI (i+1))]) 0 [] []) [1,2,5,11,12,13] [] [(4,KS.auto)] []=some ⟨126,38,Qbf,[],.run,none,Qbe g (i+1) (left - if g.use < left then g.use else left),([]:List Nat).zip (Qbg g (i+1) (left - if g.use < left then g.use else left)),QaC g (i+1) (left - if g.use < left then g.use else left),
 [wq (i+1)=i+1,wq (left - if g.use < left then g.use else left)=left - if g.use < left then g.use else left,ltq left g.use=false]++QgK B g i left dJ0⟩:=by kernel_rfl
theorem QoS (B:Lo) (g:Gd) (i left:Int) (dJ0:Nat->Value):CE.finK 3 (Qak Tryz.prog (Qaw Tryz.prog) J0 B 9 3 (QbX (none) 126 38 (([1,2,5,11,12,13]:List Nat).zip (Qbe g i left)) dJ0 Qbf) (Qbx (QaM g) 3 (([]:List Nat).zip (Qbg g i left)) (QaC g i left)) (3+1+(QaC g i left).length)
 [(0,hvF)] 0 [] []) [] [] []=some (OO.ret (.int .i64 left),[],[],
 [ltq i (↑g.ships.length:Int)=false]):=by kernel_rfl
set_option maxHeartbeats 4000000 in
theorem Qgr (g:Gd) (hg:gdB g) {B:Lo} (hJ:∀w,B.has w->J0 w):∀m:Nat,(∀(i left:Int),∀(r:Bool),(decide (0<=Qbd g.use g.br (g.ships.drop i.toNat) i left))=r->(g.ships.length - i.toNat)=m->∀(h0:0<=i) (h1:0<=left) (h2:left<=1000000000 * (i+1)),(∃dJ0:Nat->Value,(∀t,Qbb (dJ0 t))/\GoE Tryz.prog B (QbF g) (QaM g) 3 (QbX (none) 126 38 (([1,2,5,11,12,13]:List Nat).zip (Qbe g i left)) dJ0 Qbf) (Qbx (QaM g) 3 (([]:List Nat).zip (Qbg g i left)) (QaC g i left)) (3+1+(QaC g i left).length) ([]:List Nat))->FinK Tryz.prog B (QbF g) (QaM g) 3 (bif r then .pan (.iface 183 (.int .i64 (Qbd g.use g.br (g.ships.drop i.toNat) i left))) else .ret (.int .i64 (QdO g.use g.br (g.ships.drop i.toNat) left))) (([]:List Nat).zip ([])) ([]) ([]:List Nat)):=by
 intro m0
 induction m0 using Nat.strongRecOn with
 | _ m0 ih0=>
   intro i left r1 hr1 hm0 h0 h1 h2 ⟨dJ0,hdJ0,hg0⟩
   by_cases q0:(i:Int) < ((↑g.ships.length:Int))
   ·
    have hp0:Qaz (Qgv B g i left dJ0):=by
     exact ⟨(Qbn q0),trivial⟩
    cases q1:g.ships.getD i.toNat default with
    | true=>
      have hp1:Qaz (Qgy B g i left dJ0):=by
       unfold gdB at hg
       have s1:=QcR (use:=g.use) (br:=g.br) (l:=g.ships) (left:=left) h0 q0
       have s2:=Qbo (use:=g.use) (br:=g.br) (l:=g.ships) (left:=left) h0 q0
       simp only [q1,cond_true,cond_false,Int.add_zero] at s1 s2
       exact ⟨(QaV (by omega) (by omega)),⟨⟨by first | omega | (split <;> omega),by first | omega | (split <;> omega),((Qaj (z:=1) (fun _=> rfl) (by omega))).trans (by simp_all [Qe5])⟩,hp0⟩⟩
      by_cases q2:(left+g.br:Int) < g.use
      ·
       have rj2:FJ Tryz.prog B (Qfg g i left dJ0) (Qeo g i left dJ0) 5 (OO.pan (Value.iface 183 (.int .i64 i))) (([]++((5,Qbq)::QaG (5+1) []))++Qeo g i left dJ0) 6 (List.range 5) []:=by
        unfold gdB at hg
        have s1:=QcR (use:=g.use) (br:=g.br) (l:=g.ships) (left:=left) h0 q0
        have s2:=Qbo (use:=g.use) (br:=g.br) (l:=g.ships) (left:=left) h0 q0
        simp only [q1,cond_true,cond_false,Int.add_zero] at s1 s2
        rw [decide_eq_true q2,cond_true] at s1
        exact FinK.fjB (GoE.finK okF hJ Qab (Qal (by kernel_rfl)) (Qaf (by kernel_rfl)) ((GoE.refl (P:=Tryz.prog) (B:=B) (c0:=Qfg g i left dJ0) (Qal (by kernel_rfl))).widen (Wf:=((([]):List (Nat×KS)).map (·.1))) (by simp) (Qaf (by kernel_rfl))) (QpF B g i left dJ0)
         trivial) (ex:=[]) (by kernel_rfl) (Qbu _)
       unfold gdB at hg
       have s1:=QcR (use:=g.use) (br:=g.br) (l:=g.ships) (left:=left) h0 q0
       have s2:=Qbo (use:=g.use) (br:=g.br) (l:=g.ships) (left:=left) h0 q0
       simp only [q1,cond_true,cond_false,Int.add_zero] at s1 s2
       rw [decide_eq_true q2,cond_true] at s1
       exact (GoE.finK okF hJ Qab (Qal (by kernel_rfl)) (Qaf (by kernel_rfl)) hg0 (Qpa B g i left dJ0)
        ⟨rj2,⟨(Qbn q2),hp1⟩⟩).cast (by (subst hr1;rw [s1];simp [h0];done)) (by rfl) (by rfl)
      ·
       unfold gdB at hg
       have s1:=QcR (use:=g.use) (br:=g.br) (l:=g.ships) (left:=left) h0 q0
       have s2:=Qbo (use:=g.use) (br:=g.br) (l:=g.ships) (left:=left) h0 q0
       simp only [q1,cond_true,cond_false,Int.add_zero] at s1 s2
       rw [decide_eq_false q2,cond_false] at s1
       exact ((ih0 _ (by omega)) (i+1) (left+g.br - if g.use < left+g.br then g.use else left+g.br) r1 (by rw [<-hr1,s1]) rfl (by omega) (by omega) (by omega)
        (GoE.landA okF hJ Qab (Qal (by kernel_rfl)) (Qaf (by kernel_rfl)) hg0 (QoG B g i left dJ0)
        ⟨(QaV (by omega) (by omega)),⟨(QaV (by omega) (by omega)),⟨(Qbk (Int.not_lt.1 q2)),hp1⟩⟩⟩ (by kernel_rfl) (by kernel_rfl) (fun l hl=> by cases hl <;> decide))).cast (by (rw [s1,s2];done)) (by rfl) (by rfl)
    | false=>
      have hp2:Qaz (QgK B g i left dJ0):=by
       unfold gdB at hg
       have s1:=QcR (use:=g.use) (br:=g.br) (l:=g.ships) (left:=left) h0 q0
       have s2:=Qbo (use:=g.use) (br:=g.br) (l:=g.ships) (left:=left) h0 q0
       simp only [q1,cond_true,cond_false,Int.add_zero] at s1 s2
       exact ⟨⟨by first | omega | (split <;> omega),by first | omega | (split <;> omega),((Qaj (z:=1) (fun _=> rfl) (by omega))).trans (by simp_all [Qe5])⟩,hp0⟩
      by_cases q2:(left:Int) < g.use
      ·
       have rj2:FJ Tryz.prog B (Qfi g i left dJ0) (Qen g i left dJ0) 5 (OO.pan (Value.iface 183 (.int .i64 i))) (([]++((5,Qbq)::QaG (5+1) []))++Qen g i left dJ0) 6 (List.range 5) []:=by
        unfold gdB at hg
        have s1:=QcR (use:=g.use) (br:=g.br) (l:=g.ships) (left:=left) h0 q0
        have s2:=Qbo (use:=g.use) (br:=g.br) (l:=g.ships) (left:=left) h0 q0
        simp only [q1,cond_true,cond_false,Int.add_zero] at s1 s2
        rw [decide_eq_true q2,cond_true] at s1
        exact FinK.fjB (GoE.finK okF hJ Qab (Qal (by kernel_rfl)) (Qaf (by kernel_rfl)) ((GoE.refl (P:=Tryz.prog) (B:=B) (c0:=Qfi g i left dJ0) (Qal (by kernel_rfl))).widen (Wf:=((([]):List (Nat×KS)).map (·.1))) (by simp) (Qaf (by kernel_rfl))) (QoX B g i left dJ0)
         trivial) (ex:=[]) (by kernel_rfl) (Qbu _)
       unfold gdB at hg
       have s1:=QcR (use:=g.use) (br:=g.br) (l:=g.ships) (left:=left) h0 q0
       have s2:=Qbo (use:=g.use) (br:=g.br) (l:=g.ships) (left:=left) h0 q0
       simp only [q1,cond_true,cond_false,Int.add_zero] at s1 s2
       rw [decide_eq_true q2,cond_true] at s1
       exact (GoE.finK okF hJ Qab (Qal (by kernel_rfl)) (Qaf (by kernel_rfl)) hg0 (QoL B g i left dJ0)
        ⟨rj2,⟨(Qbn q2),hp2⟩⟩).cast (by (subst hr1;rw [s1];simp [h0];done)) (by rfl) (by rfl)
      ·
       unfold gdB at hg
       have s1:=QcR (use:=g.use) (br:=g.br) (l:=g.ships) (left:=left) h0 q0
       have s2:=Qbo (use:=g.use) (br:=g.br) (l:=g.ships) (left:=left) h0 q0
       simp only [q1,cond_true,cond_false,Int.add_zero] at s1 s2
       rw [decide_eq_false q2,cond_false] at s1
       exact ((ih0 _ (by omega)) (i+1) (left - if g.use < left then g.use else left) r1 (by rw [<-hr1,s1]) rfl (by omega) (by omega) (by omega)
        (GoE.landA okF hJ Qab (Qal (by kernel_rfl)) (Qaf (by kernel_rfl)) hg0 (Qqq B g i left dJ0)
        ⟨(QaV (by omega) (by omega)),⟨(QaV (by omega) (by omega)),⟨(Qbk (Int.not_lt.1 q2)),hp2⟩⟩⟩ (by kernel_rfl) (by kernel_rfl) (fun l hl=> by cases hl <;> decide))).cast (by (rw [s1,s2];done)) (by rfl) (by rfl)
   ·
    unfold gdB at hg
    have s1:=QuZ (use:=g.use) (br:=g.br) (l:=g.ships) (i:=i) (left:=left) (by omega)
    have s2:=Qo5 (use:=g.use) (br:=g.br) (l:=g.ships) (i:=i) (left:=left) (by omega)
    exact (GoE.finK okF hJ Qab (Qal (by kernel_rfl)) (Qaf (by kernel_rfl)) hg0 (QoS B g i left dJ0)
     ⟨(Qbk (Int.not_lt.1 q0)),trivial⟩).cast (by (subst hr1;rw [s1,s2];rfl)) (by rfl) (by rfl)

theorem Qre (B:Lo) (g:Gd):CE.landA 3 (Qak Tryz.prog (Qaw Tryz.prog) J0 B 9 3 (QbF g) (QaM g) 3
 [] 0 [] []) [1,2,5,11,12,13] [] [(3,KS.auto)] []=some ⟨126,38,Qbf,[],.run,none,Qbe g (0) g.stock,([]:List Nat).zip (Qbg g (0) g.stock),QaC g (0) g.stock,
 []⟩:=by kernel_rfl
def QbG (g:Gd):Qar:=[(2,Obj.cells #[.int .i64 0] 3),(1,Obj.cells #[.int .i64 g.stock,.int .i64 g.use,.int .i64 g.br,Qay 0 (slT g.ships.length (Qac Qe5 g.ships))] 129),(0,Obj.coro none)]
def Qcr (g:Gd):CF:=⟨125,ofList 6 [.agg #[.int .i64 g.stock,.int .i64 g.use,.int .i64 g.br,Qay 0 (slT g.ships.length (Qac Qe5 g.ships))],pA 1 0,pA 2 0,Value.func (Fn.func 148) #[] #[pA 2 0],.tuple #[],.tuple #[]],[Item.code (Code.seq (Code.region 2 #[{dst:=some 4,op:=Op.load 129 (Operand.tmp 1),type:=129,pos:= "goods.go:41",after:=#[],guard:=none},{dst:=some 5,op:=Op.call {callee:=Callee.value (Operand.func 126),args:=#[Operand.tmp 4,Operand.func 149],argTypes:=#[129,159]},type:=3,pos:= "goods.go:41",after:=#[{on:=0,ground:=Ground.data}],guard:=none}] false) (Code.seq (Code.region 3 #[{dst:=none,op:=Op.store 3 (Operand.tmp 2) (Operand.const (.int .i64 (-1))),type:=0,pos:= "goods.go:42",after:=#[],guard:=none}] false) Code.ret))],[],.run,none⟩
theorem Qq1 (B:Lo) (g:Gd):CE.landU 3 (Qak Tryz.prog (Qaw Tryz.prog) J0 B 2 3 (Qcr g) (QbG g) 3
 [(1,Qai.call (List.range 3) (OO.pan (Value.iface 183 (.int .i64 (Qbd g.use g.br (List.drop (Int.toNat 0) g.ships) 0 g.stock)))) ([]++(3,Qbq)::QaG 4 []) 4 [])] 0 [] []) [2] [] [] []=some (125,6,none,OO.pan (Value.iface 183 (.int .i64 (Qbd g.use g.br (List.drop (Int.toNat 0) g.ships) 0 g.stock))),[pA 2 0],[],[],
 [FJ Tryz.prog B (QbF g) (QaM g) 3 (OO.pan (Value.iface 183 (.int .i64 (Qbd g.use g.br (List.drop (Int.toNat 0) g.ships) 0 g.stock)))) (([]++((3,Qbq)::QaG (3+1) []))++QaM g) 4 (List.range 3) []]):=by kernel_rfl
theorem Qpw (B:Lo) (g:Gd):QaK (Qzw Tryz.prog (Qaw Tryz.prog) J0 B 3 1 (Qae Tryz.prog 125 6 (([.agg (QbB g).toArray]).map (Qam 0 4))) H00 1
 (OO.pan (Value.iface 183 (.int .i64 (Qbd g.use g.br (List.drop (Int.toNat 0) g.ships) 0 g.stock)))) (([2]:List Nat).zip [pA 2 0]) ([]++(3,Qbq)::QaG 4 []) 4 [] (.int .i64 (Qbd g.use g.br (List.drop (Int.toNat 0) g.ships) 0 g.stock)) [2]) []=some (.int .i64 (Qbd g.use g.br (List.drop (Int.toNat 0) g.ships) 0 g.stock),
 [UJ Tryz.prog B (Qcr g) (QbG g) 3 (OO.pan (Value.iface 183 (.int .i64 (Qbd g.use g.br (List.drop (Int.toNat 0) g.ships) 0 g.stock)))) (([2]:List Nat).zip [pA 2 0]) (([]++((3,Qbq)::QaG (3+1) []))++QbG g) 4 (List.range 3) [],∀d:Nat->Value,Qyo Tryz.prog 125 ([(3,Obj.coro none),(2,Obj.cells #[.int .i64 (Qbd g.use g.br (List.drop (Int.toNat 0) g.ships) 0 g.stock)] 3),(1,Obj.cells #[.int .i64 g.stock,.int .i64 g.use,.int .i64 g.br,Qay 0 (slT g.ships.length (Qac Qe5 g.ships))] 129),(0,Obj.coro none)]) (mkT 6 (([2]:List Nat).zip [pA 2 0]) d)=some (.int .i64 (Qbd g.use g.br (List.drop (Int.toNat 0) g.ships) 0 g.stock),[2])]):=by kernel_rfl
theorem Qof (B:Lo) (g:Gd):CE.landA 3 (Qak Tryz.prog (Qaw Tryz.prog) J0 B 9 3 (QbF g) (QaM g) 3
 [] 0 [] []) [1,2,5,11,12,13] [] [(3,KS.auto)] []=some ⟨126,38,Qbf,[],.run,none,Qbe g (0) g.stock,([]:List Nat).zip (Qbg g (0) g.stock),QaC g (0) g.stock,
 []⟩:=by kernel_rfl
theorem Qnz (B:Lo) (g:Gd):CE.landU 3 (Qak Tryz.prog (Qaw Tryz.prog) J0 B 5 3 (Qcr g) (QbG g) 3
 [(1,Qai.call (List.range 3) (OO.ret (.int .i64 (QdO g.use g.br (List.drop (Int.toNat 0) g.ships) g.stock))) ([]++(3,Qbq)::QaG 4 []) 4 [])] 0 [] []) [2] [(2,KS.auto)] [] []=some (125,6,none,OO.ret (.tuple #[]),[pA 2 0],[(2,Obj.cells #[.int .i64 (-1)] 3)],[],
 [FJ Tryz.prog B (QbF g) (QaM g) 3 (OO.ret (.int .i64 (QdO g.use g.br (List.drop (Int.toNat 0) g.ships) g.stock))) (([]++((3,Qbq)::QaG (3+1) []))++QaM g) 4 (List.range 3) []]):=by kernel_rfl
theorem Qnu (B:Lo) (g:Gd):QaK (Qzw Tryz.prog (Qaw Tryz.prog) J0 B 3 1 (Qae Tryz.prog 125 6 (([.agg (QbB g).toArray]).map (Qam 0 4))) H00 1
 (OO.ret (.tuple #[])) (([2]:List Nat).zip [pA 2 0]) ([(2,Obj.cells #[.int .i64 (-1)] 3)]++(3,Qbq)::QaG 4 []) 4 [2] (.int .i64 (-1)) [2]) []=some (.int .i64 (-1),
 [UJ Tryz.prog B (Qcr g) (QbG g) 3 (OO.ret (.tuple #[])) (([2]:List Nat).zip [pA 2 0]) (([(2,Obj.cells #[.int .i64 (-1)] 3)]++((3,Qbq)::QaG (3+1) []))++QbG g) 4 (List.range 3) [2],∀d:Nat->Value,Qyo Tryz.prog 125 ([(2,Obj.cells #[.int .i64 (-1)] 3),(3,Obj.coro none),(2,Obj.cells #[.int .i64 0] 3),(1,Obj.cells #[.int .i64 g.stock,.int .i64 g.use,.int .i64 g.br,Qay 0 (slT g.ships.length (Qac Qe5 g.ships))] 129),(0,Obj.coro none)]) (mkT 6 (([2]:List Nat).zip [pA 2 0]) d)=some (.int .i64 (-1),[2])]):=by kernel_rfl
set_option maxHeartbeats 4000000 in
theorem Qsv (g:Gd) (hg:gdB g) {B:Lo} (hJ:∀w,B.has w->J0 w):EndsT Tryz.prog B (Qae Tryz.prog 125 6 (([.agg (QbB g).toArray]).map (Qam 0 4))) (.int .i64 (Qbd g.use g.br g.ships 0 g.stock)):=by
 cases q0:decide (0<=Qbd g.use g.br (List.drop (Int.toNat 0) g.ships) 0 g.stock) with
 | true=>
   have rj1:FJ Tryz.prog B (QbF g) (QaM g) 3 (OO.pan (Value.iface 183 (.int .i64 (Qbd g.use g.br (List.drop (Int.toNat 0) g.ships) 0 g.stock)))) (([]++((3,Qbq)::QaG (3+1) []))++QaM g) 4 (List.range 3) []:=by
    unfold gdB at hg
    exact FinK.fjB ((Qgr g hg hJ _) (0) g.stock true q0 rfl (by omega) (by omega) (by omega)
     (GoE.landA okF hJ Qab (Qal (by kernel_rfl)) (Qaf (by kernel_rfl)) ((GoE.refl (P:=Tryz.prog) (B:=B) (c0:=QbF g) (Qal (by kernel_rfl))).widen (Wf:=((([]):List (Nat×KS)).map (·.1))) (by simp) (Qaf (by kernel_rfl))) (Qre B g)
     trivial (by kernel_rfl) (by kernel_rfl) (fun l hl=> by cases hl <;> decide))) (ex:=[]) (by kernel_rfl) (Qbu _)
   have rj0:UJ Tryz.prog B (Qcr g) (QbG g) 3 (OO.pan (Value.iface 183 (.int .i64 (Qbd g.use g.br (List.drop (Int.toNat 0) g.ships) 0 g.stock)))) (([2]:List Nat).zip [pA 2 0]) (([]++((3,Qbq)::QaG (3+1) []))++QbG g) 4 (List.range 3) []:=by
    unfold gdB at hg
    exact FinU.ujB (GoE.landU okF hJ Qab (Qal (by kernel_rfl)) (Qaf (by kernel_rfl)) ((GoE.refl (P:=Tryz.prog) (B:=B) (c0:=Qcr g) (Qal (by kernel_rfl))).widen (Wf:=((([]):List (Nat×KS)).map (·.1))) (by simp) (Qaf (by kernel_rfl))) (Qq1 B g)
     (by exact ⟨rj1,trivial⟩) (by kernel_rfl) rfl) (ex:=[]) (by kernel_rfl) (Qbu _)
   unfold gdB at hg
   exact (GoE.endsD okF hJ Qab GoE.start (Qpw B g)
    (by exact ⟨rj0,⟨(fun d=> by kernel_rfl),trivial⟩⟩)).cast (by rfl)
 | false=>
   have rj1:FJ Tryz.prog B (QbF g) (QaM g) 3 (OO.ret (.int .i64 (QdO g.use g.br (List.drop (Int.toNat 0) g.ships) g.stock))) (([]++((3,Qbq)::QaG (3+1) []))++QaM g) 4 (List.range 3) []:=by
    unfold gdB at hg
    exact FinK.fjB ((Qgr g hg hJ _) (0) g.stock false q0 rfl (by omega) (by omega) (by omega)
     (GoE.landA okF hJ Qab (Qal (by kernel_rfl)) (Qaf (by kernel_rfl)) ((GoE.refl (P:=Tryz.prog) (B:=B) (c0:=QbF g) (Qal (by kernel_rfl))).widen (Wf:=((([]):List (Nat×KS)).map (·.1))) (by simp) (Qaf (by kernel_rfl))) (Qof B g)
     trivial (by kernel_rfl) (by kernel_rfl) (fun l hl=> by cases hl <;> decide))) (ex:=[]) (by kernel_rfl) (Qbu _)
   have rj0:UJ Tryz.prog B (Qcr g) (QbG g) 3 (OO.ret (.tuple #[])) (([2]:List Nat).zip [pA 2 0]) (([(2,Obj.cells #[.int .i64 (-1)] 3)]++((3,Qbq)::QaG (3+1) []))++QbG g) 4 (List.range 3) [2]:=by
    unfold gdB at hg
    exact FinU.ujB (GoE.landU okF hJ Qab (Qal (by kernel_rfl)) (Qaf (by kernel_rfl)) ((GoE.refl (P:=Tryz.prog) (B:=B) (c0:=Qcr g) (Qal (by kernel_rfl))).widen (Wf:=((([(2,KS.auto)]):List (Nat×KS)).map (·.1))) (by simp) (Qaf (by kernel_rfl))) (Qnz B g)
     (by exact ⟨rj1,trivial⟩) (by kernel_rfl) rfl) (ex:=[]) (by kernel_rfl) (Qbu _)
   unfold gdB at hg
   exact (GoE.endsD okF hJ Qab GoE.start (Qnu B g)
    (by exact ⟨rj0,⟨(fun d=> by kernel_rfl),trivial⟩⟩)).cast (by (rcases QqB (use:=g.use) (br:=g.br) g.ships 0 g.stock (by omega) with h | h <;> simp_all;done))
theorem Qxz (g:Gd) (hg:gdB g):Qao Tryz.prog J0 125 #[.agg (QbB g).toArray] (.int .i64 (Qbd g.use g.br g.ships 0 g.stock)):=
 Qa8 (ts:=[.agg (QbB g).toArray]) Qbr (c0:=Qae Tryz.prog 125 6 (([.agg (QbB g).toArray]).map (Qam 0 4))) (by kernel_rfl) (by kernel_rfl) fun B hJ=> Qsv g hg hJ
def QcW (g:Gd):Qar:=[(1,Obj.cells #[.int .i64 g.stock,.int .i64 g.use,.int .i64 g.br,Qay 0 (slT g.ships.length (Qac Qe5 g.ships))] 129),(0,Obj.coro none)]
def QgX (g:Gd):CF:=⟨126,ofList 38 [.agg #[.int .i64 g.stock,.int .i64 g.use,.int .i64 g.br,Qay 0 (slT g.ships.length (Qac Qe5 g.ships))],Value.func (Fn.func 127) #[] #[]],[Item.code (Qan Tryz.prog 126)],[],.run,none⟩
def QbO (g:Gd) (i left:Int):List Value:=[Value.func (Fn.func 127) #[] #[],pA 3 0,.int .i64 left,Qay 0 (slT g.ships.length (Qac Qe5 g.ships)),.int .i64 (↑g.ships.length:Int),.int .i64 i]
def QbQ (g:Gd) (i left:Int):List Obj:=[]
def QaW (g:Gd) (i left:Int):List Obj:=[Obj.cells #[.int .i64 g.stock,.int .i64 g.use,.int .i64 g.br,Qay 0 (slT g.ships.length (Qac Qe5 g.ships))] 129]
def QbL:List Item:=([.code [1,1,0,1,0,0],.inLoop [1,1,0,1,0,0],.inBlock 0,.code [1,1,1]]).map (it (Qan Tryz.prog 126))
def Qoc (B:Lo) (g:Gd) (i left:Int) (dJ0:Nat->Value):List Prop:=[ltq i (↑g.ships.length:Int)=true]++([]:List Prop)
def QsQ (g:Gd) (i left:Int) (dJ0:Nat->Value):Qap:=[(0,hvT)]
def Qnh (B:Lo) (g:Gd) (i left:Int) (dJ0:Nat->Value):List Prop:=[wq (left+g.br)=left+g.br,i=(↑i.toNat:Int)/\Int.toNat i < List.length g.ships/\Array.extract (Qac Qe5 g.ships) (Int.toNat i * TypeInfo.size Tryz.t4) (Int.toNat i * TypeInfo.size Tryz.t4+TypeInfo.size Tryz.t4)=#[.bool true]]++Qoc B g i left dJ0
def Qtn (g:Gd) (i left:Int) (dJ0:Nat->Value):Qap:=QsQ g i left dJ0++[(2,Qai.tidx i.toNat #[.bool true]),(10,hvI (left+g.br))]
def QhR (g:Gd) (i left:Int) (dJ0:Nat->Value):Qar:=[(2,Obj.coro none),(3,Obj.cells #[.int .i64 g.stock,.int .i64 g.use,.int .i64 g.br,Qay 0 (slT g.ships.length (Qac Qe5 g.ships))] 129),(1,Obj.cells #[.int .i64 g.stock,.int .i64 g.use,.int .i64 g.br,Qay 0 (slT g.ships.length (Qac Qe5 g.ships))] 129),(0,Obj.coro none)]
def QjK (g:Gd) (i left:Int) (dJ0:Nat->Value):CF:=⟨127,ofList 2 [.int .i64 i],[Item.code (Qan Tryz.prog 127)],[],.run,none⟩
theorem QzI (B:Lo) (g:Gd) (i left:Int) (dJ0:Nat->Value):CE.finK 4 (Qak Tryz.prog (Qaw Tryz.prog) J0 B 3 4 (QjK g i left dJ0) (QhR g i left dJ0) 4
 [] 0 [] []) [] [] []=some (OO.ret (.tuple #[]),[],[],
 []):=by kernel_rfl
theorem QzD (B:Lo) (g:Gd) (i left:Int) (dJ0:Nat->Value):CE.landA 2 (Qak Tryz.prog (Qaw Tryz.prog) J0 B 23 2 (QbX (none) 126 38 (([1,2,5,11,12,13]:List Nat).zip (QbO g i left)) dJ0 QbL) (Qbx (QcW g) 2 (([]:List Nat).zip (QbQ g i left)) (QaW g i left)) (2+1+(QaW g i left).length)
 (Qtn g i left dJ0++[(15,hvT),(18,Qai.call (List.range 4) (OO.ret (.tuple #[])) ([]++(4,Qbq)::QaG 5 []) 5 []),(24,hvI (left+g.br - if g.use < left+g.br then g.use else left+g.br)),(26,hvI (i+1))]) 0 [] []) [1,2,5,11,12,13] [] [(3,KS.auto)] []=some ⟨126,38,QbL,[],.run,none,QbO g (i+1) (left+g.br - if g.use < left+g.br then g.use else left+g.br),([]:List Nat).zip (QbQ g (i+1) (left+g.br - if g.use < left+g.br then g.use else left+g.br)),QaW g (i+1) (left+g.br - if g.use < left+g.br then g.use else left+g.br),
 [wq (i+1)=i+1,wq (left+g.br - if g.use < left+g.br then g.use else left+g.br)=left+g.br - if g.use < left+g.br then g.use else left+g.br,FJ Tryz.prog B (QjK g i left dJ0) (QhR g i left dJ0) 4 (OO.ret (.tuple #[])) (([]++((4,Qbq)::QaG (4+1) []))++QhR g i left dJ0) 5 (List.range 4) [],ltq (left+g.br) g.use=true]++Qnh B g i left dJ0⟩:=by kernel_rfl
theorem Q0Q (B:Lo) (g:Gd) (i left:Int) (dJ0:Nat->Value):CE.landA 2 (Qak Tryz.prog (Qaw Tryz.prog) J0 B 23 2 (QbX (none) 126 38 (([1,2,5,11,12,13]:List Nat).zip (QbO g i left)) dJ0 QbL) (Qbx (QcW g) 2 (([]:List Nat).zip (QbQ g i left)) (QaW g i left)) (2+1+(QaW g i left).length)
 (Qtn g i left dJ0++[(15,hvF),(21,hvI (left+g.br - if g.use < left+g.br then g.use else left+g.br)),(23,hvI (i+1))]) 0 [] []) [1,2,5,11,12,13] [] [(3,KS.auto)] []=some ⟨126,38,QbL,[],.run,none,QbO g (i+1) (left+g.br - if g.use < left+g.br then g.use else left+g.br),([]:List Nat).zip (QbQ g (i+1) (left+g.br - if g.use < left+g.br then g.use else left+g.br)),QaW g (i+1) (left+g.br - if g.use < left+g.br then g.use else left+g.br),
 [wq (i+1)=i+1,wq (left+g.br - if g.use < left+g.br then g.use else left+g.br)=left+g.br - if g.use < left+g.br then g.use else left+g.br,ltq (left+g.br) g.use=false]++Qnh B g i left dJ0⟩:=by kernel_rfl
def QnI (B:Lo) (g:Gd) (i left:Int) (dJ0:Nat->Value):List Prop:=[i=(↑i.toNat:Int)/\Int.toNat i < List.length g.ships/\Array.extract (Qac Qe5 g.ships) (Int.toNat i * TypeInfo.size Tryz.t4) (Int.toNat i * TypeInfo.size Tryz.t4+TypeInfo.size Tryz.t4)=#[.bool false]]++Qoc B g i left dJ0
def Qt8 (g:Gd) (i left:Int) (dJ0:Nat->Value):Qap:=QsQ g i left dJ0++[(2,Qai.tidx i.toNat #[.bool false])]
def QhJ (g:Gd) (i left:Int) (dJ0:Nat->Value):Qar:=[(2,Obj.coro none),(3,Obj.cells #[.int .i64 g.stock,.int .i64 g.use,.int .i64 g.br,Qay 0 (slT g.ships.length (Qac Qe5 g.ships))] 129),(1,Obj.cells #[.int .i64 g.stock,.int .i64 g.use,.int .i64 g.br,Qay 0 (slT g.ships.length (Qac Qe5 g.ships))] 129),(0,Obj.coro none)]
def QjO (g:Gd) (i left:Int) (dJ0:Nat->Value):CF:=⟨127,ofList 2 [.int .i64 i],[Item.code (Qan Tryz.prog 127)],[],.run,none⟩
theorem Q0V (B:Lo) (g:Gd) (i left:Int) (dJ0:Nat->Value):CE.finK 4 (Qak Tryz.prog (Qaw Tryz.prog) J0 B 3 4 (QjO g i left dJ0) (QhJ g i left dJ0) 4
 [] 0 [] []) [] [] []=some (OO.ret (.tuple #[]),[],[],
 []):=by kernel_rfl
theorem Q0K (B:Lo) (g:Gd) (i left:Int) (dJ0:Nat->Value):CE.landA 2 (Qak Tryz.prog (Qaw Tryz.prog) J0 B 23 2 (QbX (none) 126 38 (([1,2,5,11,12,13]:List Nat).zip (QbO g i left)) dJ0 QbL) (Qbx (QcW g) 2 (([]:List Nat).zip (QbQ g i left)) (QaW g i left)) (2+1+(QaW g i left).length)
 (Qt8 g i left dJ0++[(10,hvT),(13,Qai.call (List.range 4) (OO.ret (.tuple #[])) ([]++(4,Qbq)::QaG 5 []) 5 []),(19,hvI (left - if g.use < left then g.use else left)),(21,hvI (i+1))]) 0 [] []) [1,2,5,11,12,13] [] [(3,KS.auto)] []=some ⟨126,38,QbL,[],.run,none,QbO g (i+1) (left - if g.use < left then g.use else left),([]:List Nat).zip (QbQ g (i+1) (left - if g.use < left then g.use else left)),QaW g (i+1) (left - if g.use < left then g.use else left),
 [wq (i+1)=i+1,wq (left - if g.use < left then g.use else left)=left - if g.use < left then g.use else left,FJ Tryz.prog B (QjO g i left dJ0) (QhJ g i left dJ0) 4 (OO.ret (.tuple #[])) (([]++((4,Qbq)::QaG (4+1) []))++QhJ g i left dJ0) 5 (List.range 4) [],ltq left g.use=true]++QnI B g i left dJ0⟩:=by kernel_rfl
theorem Q0i (B:Lo) (g:Gd) (i left:Int) (dJ0:Nat->Value):CE.landA 2 (Qak Tryz.prog (Qaw Tryz.prog) J0 B 23 2 (QbX (none) 126 38 (([1,2,5,11,12,13]:List Nat).zip (QbO g i left)) dJ0 QbL) (Qbx (QcW g) 2 (([]:List Nat).zip (QbQ g i left)) (QaW g i left)) (2+1+(QaW g i left).length)
 (Qt8 g i left dJ0++[(10,hvF),(16,hvI (left - if g.use < left then g.use else left)),(18,hvI (i+1))]) 0 [] []) [1,2,5,11,12,13] [] [(3,KS.auto)] []=some ⟨126,38,QbL,[],.run,none,QbO g (i+1) (left - if g.use < left then g.use else left),([]:List Nat).zip (QbQ g (i+1) (left - if g.use < left then g.use else left)),QaW g (i+1) (left - if g.use < left then g.use else left),
 [wq (i+1)=i+1,wq (left - if g.use < left then g.use else left)=left - if g.use < left then g.use else left,ltq left g.use=false]++QnI B g i left dJ0⟩:=by kernel_rfl
theorem Q0g (B:Lo) (g:Gd) (i left:Int) (dJ0:Nat->Value):CE.finK 2 (Qak Tryz.prog (Qaw Tryz.prog) J0 B 9 2 (QbX (none) 126 38 (([1,2,5,11,12,13]:List Nat).zip (QbO g i left)) dJ0 QbL) (Qbx (QcW g) 2 (([]:List Nat).zip (QbQ g i left)) (QaW g i left)) (2+1+(QaW g i left).length)
 [(0,hvF)] 0 [] []) [] [] []=some (OO.ret (.int .i64 left),[],[],
 [ltq i (↑g.ships.length:Int)=false]):=by kernel_rfl
set_option maxHeartbeats 4000000 in
theorem Qr1 (g:Gd) (hg:gdB g) {B:Lo} (hJ:∀w,B.has w->J0 w):∀m:Nat,(∀(i left:Int),(g.ships.length - i.toNat)=m->∀(h0:0<=i) (h1:0<=left) (h2:left<=1000000000 * (i+1)),(∃dJ0:Nat->Value,(∀t,Qbb (dJ0 t))/\GoE Tryz.prog B (QgX g) (QcW g) 2 (QbX (none) 126 38 (([1,2,5,11,12,13]:List Nat).zip (QbO g i left)) dJ0 QbL) (Qbx (QcW g) 2 (([]:List Nat).zip (QbQ g i left)) (QaW g i left)) (2+1+(QaW g i left).length) ([]:List Nat))->FinK Tryz.prog B (QgX g) (QcW g) 2 (.ret (.int .i64 (QdO g.use g.br (g.ships.drop i.toNat) left))) (([]:List Nat).zip ([])) ([]) ([]:List Nat)):=by
 intro m0
 induction m0 using Nat.strongRecOn with
 | _ m0 ih0=>
   intro i left hm0 h0 h1 h2 ⟨dJ0,hdJ0,hg0⟩
   by_cases q0:(i:Int) < ((↑g.ships.length:Int))
   ·
    have hp0:Qaz (Qoc B g i left dJ0):=by
     exact ⟨(Qbn q0),trivial⟩
    cases q1:g.ships.getD i.toNat default with
    | true=>
      have hp1:Qaz (Qnh B g i left dJ0):=by
       unfold gdB at hg
       have s2:=Qbo (use:=g.use) (br:=g.br) (l:=g.ships) (left:=left) h0 q0
       simp only [q1,cond_true,cond_false,Int.add_zero] at s2
       exact ⟨(QaV (by omega) (by omega)),⟨⟨by first | omega | (split <;> omega),by first | omega | (split <;> omega),((Qaj (z:=1) (fun _=> rfl) (by omega))).trans (by simp_all [Qe5])⟩,hp0⟩⟩
      by_cases q2:(left+g.br:Int) < g.use
      ·
       have rj1:FJ Tryz.prog B (QjK g i left dJ0) (QhR g i left dJ0) 4 (OO.ret (.tuple #[])) (([]++((4,Qbq)::QaG (4+1) []))++QhR g i left dJ0) 5 (List.range 4) []:=by
        unfold gdB at hg
        have s2:=Qbo (use:=g.use) (br:=g.br) (l:=g.ships) (left:=left) h0 q0
        simp only [q1,cond_true,cond_false,Int.add_zero] at s2
        exact FinK.fjB (GoE.finK okF hJ Qab (Qal (by kernel_rfl)) (Qaf (by kernel_rfl)) ((GoE.refl (P:=Tryz.prog) (B:=B) (c0:=QjK g i left dJ0) (Qal (by kernel_rfl))).widen (Wf:=((([]):List (Nat×KS)).map (·.1))) (by simp) (Qaf (by kernel_rfl))) (QzI B g i left dJ0)
         trivial) (ex:=[]) (by kernel_rfl) (Qbu _)
       unfold gdB at hg
       have s2:=Qbo (use:=g.use) (br:=g.br) (l:=g.ships) (left:=left) h0 q0
       simp only [q1,cond_true,cond_false,Int.add_zero] at s2
       exact ((ih0 _ (by omega)) (i+1) (left+g.br - if g.use < left+g.br then g.use else left+g.br) rfl (by omega) (by omega) (by omega)
        (GoE.landA okF hJ Qab (Qal (by kernel_rfl)) (Qaf (by kernel_rfl)) hg0 (QzD B g i left dJ0)
        ⟨(QaV (by omega) (by omega)),⟨(QaV (by omega) (by omega)),⟨rj1,⟨(Qbn q2),hp1⟩⟩⟩⟩ (by kernel_rfl) (by kernel_rfl) (fun l hl=> by cases hl <;> decide))).cast (by (rw [s2];done)) (by rfl) (by rfl)
      ·
       unfold gdB at hg
       have s2:=Qbo (use:=g.use) (br:=g.br) (l:=g.ships) (left:=left) h0 q0
       simp only [q1,cond_true,cond_false,Int.add_zero] at s2
       exact ((ih0 _ (by omega)) (i+1) (left+g.br - if g.use < left+g.br then g.use else left+g.br) rfl (by omega) (by omega) (by omega)
        (GoE.landA okF hJ Qab (Qal (by kernel_rfl)) (Qaf (by kernel_rfl)) hg0 (Q0Q B g i left dJ0)
        ⟨(QaV (by omega) (by omega)),⟨(QaV (by omega) (by omega)),⟨(Qbk (Int.not_lt.1 q2)),hp1⟩⟩⟩ (by kernel_rfl) (by kernel_rfl) (fun l hl=> by cases hl <;> decide))).cast (by (rw [s2];done)) (by rfl) (by rfl)
    | false=>
      have hp2:Qaz (QnI B g i left dJ0):=by
       unfold gdB at hg
       have s2:=Qbo (use:=g.use) (br:=g.br) (l:=g.ships) (left:=left) h0 q0
       simp only [q1,cond_true,cond_false,Int.add_zero] at s2
       exact ⟨⟨by first | omega | (split <;> omega),by first | omega | (split <;> omega),((Qaj (z:=1) (fun _=> rfl) (by omega))).trans (by simp_all [Qe5])⟩,hp0⟩
      by_cases q2:(left:Int) < g.use
      ·
       have rj1:FJ Tryz.prog B (QjO g i left dJ0) (QhJ g i left dJ0) 4 (OO.ret (.tuple #[])) (([]++((4,Qbq)::QaG (4+1) []))++QhJ g i left dJ0) 5 (List.range 4) []:=by
        unfold gdB at hg
        have s2:=Qbo (use:=g.use) (br:=g.br) (l:=g.ships) (left:=left) h0 q0
        simp only [q1,cond_true,cond_false,Int.add_zero] at s2
        exact FinK.fjB (GoE.finK okF hJ Qab (Qal (by kernel_rfl)) (Qaf (by kernel_rfl)) ((GoE.refl (P:=Tryz.prog) (B:=B) (c0:=QjO g i left dJ0) (Qal (by kernel_rfl))).widen (Wf:=((([]):List (Nat×KS)).map (·.1))) (by simp) (Qaf (by kernel_rfl))) (Q0V B g i left dJ0)
         trivial) (ex:=[]) (by kernel_rfl) (Qbu _)
       unfold gdB at hg
       have s2:=Qbo (use:=g.use) (br:=g.br) (l:=g.ships) (left:=left) h0 q0
       simp only [q1,cond_true,cond_false,Int.add_zero] at s2
       exact ((ih0 _ (by omega)) (i+1) (left - if g.use < left then g.use else left) rfl (by omega) (by omega) (by omega)
        (GoE.landA okF hJ Qab (Qal (by kernel_rfl)) (Qaf (by kernel_rfl)) hg0 (Q0K B g i left dJ0)
        ⟨(QaV (by omega) (by omega)),⟨(QaV (by omega) (by omega)),⟨rj1,⟨(Qbn q2),hp2⟩⟩⟩⟩ (by kernel_rfl) (by kernel_rfl) (fun l hl=> by cases hl <;> decide))).cast (by (rw [s2];done)) (by rfl) (by rfl)
      ·
       unfold gdB at hg
       have s2:=Qbo (use:=g.use) (br:=g.br) (l:=g.ships) (left:=left) h0 q0
       simp only [q1,cond_true,cond_false,Int.add_zero] at s2
       exact ((ih0 _ (by omega)) (i+1) (left - if g.use < left then g.use else left) rfl (by omega) (by omega) (by omega)
        (GoE.landA okF hJ Qab (Qal (by kernel_rfl)) (Qaf (by kernel_rfl)) hg0 (Q0i B g i left dJ0)
        ⟨(QaV (by omega) (by omega)),⟨(QaV (by omega) (by omega)),⟨(Qbk (Int.not_lt.1 q2)),hp2⟩⟩⟩ (by kernel_rfl) (by kernel_rfl) (fun l hl=> by cases hl <;> decide))).cast (by (rw [s2];done)) (by rfl) (by rfl)
   ·
    unfold gdB at hg
    have s2:=Qo5 (use:=g.use) (br:=g.br) (l:=g.ships) (i:=i) (left:=left) (by omega)
    exact (GoE.finK okF hJ Qab (Qal (by kernel_rfl)) (Qaf (by kernel_rfl)) hg0 (Q0g B g i left dJ0)
     ⟨(Qbk (Int.not_lt.1 q0)),trivial⟩).cast (by (rw [s2];done)) (by rfl) (by rfl)

theorem Q0Y (B:Lo) (g:Gd):CE.landA 2 (Qak Tryz.prog (Qaw Tryz.prog) J0 B 9 2 (QgX g) (QcW g) 2
 [] 0 [] []) [1,2,5,11,12,13] [] [(2,KS.auto)] []=some ⟨126,38,QbL,[],.run,none,QbO g (0) g.stock,([]:List Nat).zip (QbQ g (0) g.stock),QaW g (0) g.stock,
 []⟩:=by kernel_rfl
theorem Q1z (B:Lo) (g:Gd):QaK (Qak Tryz.prog (Qaw Tryz.prog) J0 B 6 1 (Qae Tryz.prog 87 5 (([.agg (QbB g).toArray]).map (Qam 0 4))) H00 1
 [(3,Qai.call (List.range 2) (OO.ret (.int .i64 (QdO g.use g.br (List.drop (Int.toNat 0) g.ships) g.stock))) ([]++(2,Qbq)::QaG 3 []) 3 [])] 0 [] []) []=some (.int .i64 (QdO g.use g.br (List.drop (Int.toNat 0) g.ships) g.stock),
 [FJ Tryz.prog B (QgX g) (QcW g) 2 (OO.ret (.int .i64 (QdO g.use g.br (List.drop (Int.toNat 0) g.ships) g.stock))) (([]++((2,Qbq)::QaG (2+1) []))++QcW g) 3 (List.range 2) []]):=by kernel_rfl
set_option maxHeartbeats 4000000 in
theorem Q2x (g:Gd) (hg:gdB g) {B:Lo} (hJ:∀w,B.has w->J0 w):EndsT Tryz.prog B (Qae Tryz.prog 87 5 (([.agg (QbB g).toArray]).map (Qam 0 4))) (.int .i64 (QdO g.use g.br g.ships g.stock)):=by
 have rj0:FJ Tryz.prog B (QgX g) (QcW g) 2 (OO.ret (.int .i64 (QdO g.use g.br (List.drop (Int.toNat 0) g.ships) g.stock))) (([]++((2,Qbq)::QaG (2+1) []))++QcW g) 3 (List.range 2) []:=by
  unfold gdB at hg
  exact FinK.fjB ((Qr1 g hg hJ _) (0) g.stock rfl (by omega) (by omega) (by omega)
   (GoE.landA okF hJ Qab (Qal (by kernel_rfl)) (Qaf (by kernel_rfl)) ((GoE.refl (P:=Tryz.prog) (B:=B) (c0:=QgX g) (Qal (by kernel_rfl))).widen (Wf:=((([]):List (Nat×KS)).map (·.1))) (by simp) (Qaf (by kernel_rfl))) (Q0Y B g)
   trivial (by kernel_rfl) (by kernel_rfl) (fun l hl=> by cases hl <;> decide))) (ex:=[]) (by kernel_rfl) (Qbu _)
 unfold gdB at hg
 exact (GoE.endsT okF hJ Qab GoE.start (Q1z B g)
  ⟨rj0,trivial⟩).cast (by rfl)
theorem Q4N (g:Gd) (hg:gdB g):Qao Tryz.prog J0 87 #[.agg (QbB g).toArray] (.int .i64 (QdO g.use g.br g.ships g.stock)):=
 Qa8 (ts:=[.agg (QbB g).toArray]) Qbr (c0:=Qae Tryz.prog 87 5 (([.agg (QbB g).toArray]).map (Qam 0 4))) (by kernel_rfl) (by kernel_rfl) fun B hJ=> Q2x g hg hJ
end
end Go.Proofs.YtiabgkiccaodmaaGreat

namespace Go.Proofs.YtiabgkiccaodmaaGreat
open Go Go.CE Go.RowKit
set_option maxRecDepth 100000
def Qo4 (s n:Int):Int:=((orN s ((QsK n:Nat):Int):Nat):Int)
def QjP (s n:Int):Bool:=decide (((QzV ((Qrt s n:Nat):Int) 1:Nat):Int)=1)
theorem QnC {s n:Int}:QjP s n=s.toNat.testBit n.toNat:=by
 unfold QjP QzV Qrt
 rw [Int.toNat_natCast,show (1:Int).toNat=1 from rfl,Nat.and_one_is_mod,Nat.shiftRight_eq_div_pow,Nat.testBit_eq_decide_div_mod_eq]
 exact decide_eq_decide.2 (by omega)
def QaF:List Int->Int->Int
 | [],s=> s
 | n::l,s=> QaF l (Qo4 s n)
theorem Qy0 {s n:Int} {k:Nat} (h0:0<=s) (h:s < 2 ^ k) (hn:n.toNat < k):Qo4 s n < 2 ^ k:=by
 obtain ⟨b,rfl⟩:∃b:Nat,s=b:=⟨s.toNat,by omega⟩
 have e:(2:Int) ^ k=((2 ^ k:Nat):Int):=by rw [Int.natCast_pow];rfl
 rw [e] at h ⊢
 have h':b < 2 ^ k:=by exact_mod_cast h
 have:b ||| 2 ^ n.toNat < 2 ^ k:=Nat.or_lt_two_pow h' (Nat.pow_lt_pow_right (by decide) hn)
 unfold Qo4 orN QsK
 rw [Int.toNat_natCast,Int.toNat_natCast]
 exact_mod_cast this
theorem Qx3 {l:List Int} {i s:Int} (h0:0<=i) (h:i < l.length):QaF (l.drop i.toNat) s=QaF (l.drop (i+1).toNat) (Qo4 s (l.getD i.toNat default)):=by
 obtain ⟨k,rfl⟩:∃k:Nat,i=k:=⟨i.toNat,by omega⟩
 have hk:k < l.length:=by omega
 have e1:((k:Int)).toNat=k:=by omega
 have e2:((k:Int)+1).toNat=k+1:=by omega
 rw [e1,e2,List.drop_eq_getElem_cons hk]
 simp [QaF,List.getD_eq_getElem?_getD,hk]
theorem QzL {l:List Int} {i s:Int} (h:l.length<=i):QaF (l.drop i.toNat) s=s:=by
 rw [List.drop_eq_nil_of_le (by omega)];rfl
theorem Q1f (B:Lo) (s n:Int):QaK (Qak Tryz.prog (Qaw Tryz.prog) J0 B 6 1 (Qae Tryz.prog 146 9 (([.int .i64 s,.int .i64 n]).map (Qam 0 4))) H00 1
 [(3,Qai.bin (.int .i64 (↑(QsK n):Int))),(4,Qai.bin (.int .i64 (↑(orN s (↑(QsK n):Int)):Int)))] 0 [] []) []=some (.int .i64 (↑(orN s (↑(QsK n):Int)):Int),
 [QkX Tryz.prog BinOp.or 120 (QbR {len:=16000,tr:=Tri.set 14 (Tri.set 14 Tri.lf 7 (.int .i64 (↑(QsK n):Int))) 5 (.int .i64 s)} 5) (QbR {len:=16000,tr:=Tri.set 14 (Tri.set 14 Tri.lf 7 (.int .i64 (↑(QsK n):Int))) 5 (.int .i64 s)} 7) (.int .i64 (↑(orN s (↑(QsK n):Int)):Int)),QkX Tryz.prog BinOp.shl 120 (.int .i64 1) (QbR {len:=16000,tr:=Tri.set 14 Tri.lf 6 (.int .i64 n)} 6) (.int .i64 (↑(QsK n):Int))]):=by kernel_rfl
set_option maxHeartbeats 4000000 in
theorem Q2a (s n:Int) (hn:0<=n/\n<=61) (hs:0<=s/\s<=4611686018427387904) {B:Lo} (hJ:∀w,B.has w->J0 w):EndsT Tryz.prog B (Qae Tryz.prog 146 9 (([.int .i64 s,.int .i64 n]).map (Qam 0 4))) (.int .i64 (Qo4 s n)):=by
 have e1:=Q2K (n:=n) (by omega)
 exact (GoE.endsT okF hJ Qab GoE.start (Q1f B s n)
  ⟨(Q3v (by omega) (by omega) (by omega) (by omega)),⟨(QzP (by omega) (by omega)),trivial⟩⟩).cast (by rfl)
theorem Q4S (s n:Int) (hn:0<=n/\n<=61) (hs:0<=s/\s<=4611686018427387904):Qao Tryz.prog J0 146 #[.int .i64 s,.int .i64 n] (.int .i64 (Qo4 s n)):=
 Qa8 (ts:=[.int .i64 s,.int .i64 n]) Qbr (c0:=Qae Tryz.prog 146 9 (([.int .i64 s,.int .i64 n]).map (Qam 0 4))) (by kernel_rfl) (by kernel_rfl) fun B hJ=> Q2a s n hn hs hJ
noncomputable def Qsc (B:Lo) (s n:Int):List Prop:=[QkX Tryz.prog BinOp.and 120 (QbR {len:=16000,tr:=Tri.set 14 Tri.lf 7 (.int .i64 (↑(Qrt s n):Int))} 7) (.int .i64 1) (.int .i64 (↑(QzV (↑(Qrt s n):Int) 1):Int)),QkX Tryz.prog BinOp.shr 120 (QbR {len:=16000,tr:=Tri.set 14 (Tri.set 14 Tri.lf 6 (.int .i64 n)) 5 (.int .i64 s)} 5) (QbR {len:=16000,tr:=Tri.set 14 (Tri.set 14 Tri.lf 6 (.int .i64 n)) 5 (.int .i64 s)} 6) (.int .i64 (↑(Qrt s n):Int))]++([]:List Prop)
noncomputable def QwT (s n:Int):Qap:=[(3,Qai.bin (.int .i64 (↑(Qrt s n):Int))),(4,Qai.bin (.int .i64 (↑(QzV (↑(Qrt s n):Int) 1):Int)))]
theorem Q2j (B:Lo) (s n:Int):QaK (Qak Tryz.prog (Qaw Tryz.prog) J0 B 6 1 (Qae Tryz.prog 159 10 (([.int .i64 s,.int .i64 n]).map (Qam 0 4))) H00 1
 (QwT s n++[(5,hvT)]) 0 [] []) []=some (.bool true,
 [eqq (↑(QzV (↑(Qrt s n):Int) 1):Int) 1=true]++Qsc B s n):=by kernel_rfl
theorem Q2y (B:Lo) (s n:Int):QaK (Qak Tryz.prog (Qaw Tryz.prog) J0 B 6 1 (Qae Tryz.prog 159 10 (([.int .i64 s,.int .i64 n]).map (Qam 0 4))) H00 1
 (QwT s n++[(5,hvF)]) 0 [] []) []=some (.bool false,
 [eqq (↑(QzV (↑(Qrt s n):Int) 1):Int) 1=false]++Qsc B s n):=by kernel_rfl
set_option maxHeartbeats 4000000 in
theorem Q4q (s n:Int) (hn:0<=n/\n<=61) (hs:0<=s/\s<=4611686018427387904) {B:Lo} (hJ:∀w,B.has w->J0 w):EndsT Tryz.prog B (Qae Tryz.prog 159 10 (([.int .i64 s,.int .i64 n]).map (Qam 0 4))) (.bool (QjP s n)):=by
 have e1:Qrt s n<=s.toNat:=Q2D
 have hp0:Qaz (Qsc B s n):=by
  exact ⟨(Q26 (by omega) (by omega) (by omega) (by omega)),⟨(Q23 (by omega) (by omega) (by omega)),trivial⟩⟩
 by_cases q0:((↑(QzV (↑(Qrt s n):Int) 1):Int):Int)=(1)
 ·
  exact (GoE.endsT okF hJ Qab GoE.start (Q2j B s n)
   ⟨(Qw8 q0),hp0⟩).cast (by (simp [QjP, *];done))
 ·
  exact (GoE.endsT okF hJ Qab GoE.start (Q2y B s n)
   ⟨(Qzy q0),hp0⟩).cast (by (simp [QjP, *];done))
theorem Q1L (s n:Int) (hn:0<=n/\n<=61) (hs:0<=s/\s<=4611686018427387904):Qao Tryz.prog J0 159 #[.int .i64 s,.int .i64 n] (.bool (QjP s n)):=
 Qa8 (ts:=[.int .i64 s,.int .i64 n]) Qbr (c0:=Qae Tryz.prog 159 10 (([.int .i64 s,.int .i64 n]).map (Qam 0 4))) (by kernel_rfl) (by kernel_rfl) fun B hJ=> Q4q s n hn hs hJ
def QqL (xs:List Int) (i s:Int):List Value:=[.int .i64 s,Qay 1 (slT xs.length (Qac Qa1 xs)),.int .i64 (↑xs.length:Int),.int .i64 i]
def Qjv (xs:List Int) (i s:Int):List Obj:=[]
noncomputable def Qqh:List Item:=([.code [1,1,0,1,0,0],.inLoop [1,1,0,1,0,0],.inBlock 0,.code [1,1,1]]).map (it (Qan Tryz.prog 116))
def Q3M (B:Lo) (c0:CF) (xs:List Int) (i s:Int):Prop:=∃dJ:Nat->Value,(∀t,Qbb (dJ t))/\GoE Tryz.prog B c0 H00 1 (Qa4 116 17 (([3,6,7,8]:List Nat).zip (QqL xs i s)) dJ Qqh) (Qa3 (Qjv xs i s)) (2+(Qjv xs i s).length) []
theorem Q30 (B:Lo) (xs:List Int) (i s:Int) (dJ0:Nat->Value):landM (Qak Tryz.prog (Qaw Tryz.prog) J0 B 13 1 (Qa4 116 17 (([3,6,7,8]:List Nat).zip (QqL xs i s)) dJ0 Qqh) (Qa3 (Qjv xs i s)) (2+(Qjv xs i s).length)
 [(0,hvT),(1,Qai.tidx i.toNat #[.int .i64 (xs.getD i.toNat default)]),(6,Qai.pure (.int .i64 (Qo4 s (xs.getD i.toNat default))) []),(8,hvI (i+1))] 0 [] []) [3,6,7,8] [] []=some ⟨116,17,Qqh,[],.run,none,QqL xs (i+1) (Qo4 s (xs.getD i.toNat default)),Qjv xs (i+1) (Qo4 s (xs.getD i.toNat default)),
 [wq (i+1)=i+1,Qaz []/\Qao Tryz.prog J0 146 #[.int .i64 s,.int .i64 (xs.getD i.toNat default)] (.int .i64 (Qo4 s (xs.getD i.toNat default))),i=(↑i.toNat:Int)/\Int.toNat i < List.length xs/\Array.extract (Qac Qa1 xs) (Int.toNat i * TypeInfo.size Tryz.t3) (Int.toNat i * TypeInfo.size Tryz.t3+TypeInfo.size Tryz.t3)=#[.int .i64 (xs.getD i.toNat default)],ltq i (↑xs.length:Int)=true]⟩:=by kernel_rfl
theorem Q39 (B:Lo) (xs:List Int) (i s:Int) (dJ0:Nat->Value):QaK (Qak Tryz.prog (Qaw Tryz.prog) J0 B 9 1 (Qa4 116 17 (([3,6,7,8]:List Nat).zip (QqL xs i s)) dJ0 Qqh) (Qa3 (Qjv xs i s)) (2+(Qjv xs i s).length)
 [(0,hvF)] 0 [] []) []=some (.int .i64 s,
 [ltq i (↑xs.length:Int)=false]):=by kernel_rfl
theorem Q3F (B:Lo) (xs:List Int):landM (Qak Tryz.prog (Qaw Tryz.prog) J0 B 9 1 (Qae Tryz.prog 116 17 (([slI xs]).map (Qam 0 4))) H00 1
 [] 0 [] []) [3,6,7,8] [] []=some ⟨116,17,Qqh,[],.run,none,QqL xs (0) (0),Qjv xs (0) (0),
 []⟩:=by kernel_rfl
set_option maxHeartbeats 4000000 in
theorem Q41 (xs:List Int) (hx:∀x∈xs,0<=x/\x<=61) (hfacts:xs.length<=9223372036854775807) {B:Lo} (hJ:∀w,B.has w->J0 w) {c0:CF}:∀m:Nat,(∀(i s:Int),(xs.length - i.toNat)=m->∀(h0:0<=i) (h1:0<=s) (h2:s < 4611686018427387904),Q3M B c0 xs i s->EndsT Tryz.prog B c0 (.int .i64 (QaF (xs.drop i.toNat) s))):=by
 intro m0
 induction m0 using Nat.strongRecOn with
 | _ m0 ih0=>
   intro i s hm0 h0 h1 h2 ⟨dJ0,hdJ0,hg0⟩
   by_cases q0:(i:Int) < ((↑xs.length:Int))
   ·
    have s2:=Qx3 (l:=xs) (s:=s) h0 q0
    have hm:=hx (xs.getD i.toNat default) (by rw [List.getD_eq_getElem?_getD,List.getElem?_eq_getElem (by omega)];exact List.getElem_mem _)
    have hw:=Qy0 (s:=s) (n:=xs.getD i.toNat default) (k:=62) h1 (by omega) (by omega)
    have hw0:0<=Qo4 s (xs.getD i.toNat default):=Int.natCast_nonneg _
    exact ((ih0 _ (by omega)) (i+1) (Qo4 s (xs.getD i.toNat default)) rfl (by omega) (by with_reducible assumption) (by omega)
     (hg0.landM okF hJ Qab (Q30 B xs i s dJ0)
     ⟨(QaV (by omega) (by omega)),⟨⟨trivial,Q4S (s) (xs.getD i.toNat default) (by with_reducible assumption) (by omega)⟩,⟨⟨by omega,by omega,(Qaj (z:=1) (fun _=> rfl) (by omega))⟩,⟨(Qbn q0),trivial⟩⟩⟩⟩ (by kernel_rfl) (by kernel_rfl))).cast (by (rw [s2];done))
   ·
    have s2:=QzL (l:=xs) (i:=i) (s:=s) (by omega)
    have hw0:0<=Qo4 s (xs.getD i.toNat default):=Int.natCast_nonneg _
    exact (GoE.endsT okF hJ Qab hg0 (Q39 B xs i s dJ0)
     ⟨(Qbk (Int.not_lt.1 q0)),trivial⟩).cast (by (rw [s2];done))
set_option maxHeartbeats 4000000 in
theorem Q5a (xs:List Int) (hx:∀x∈xs,0<=x/\x<=61) (hfacts:xs.length<=9223372036854775807) {B:Lo} (hJ:∀w,B.has w->J0 w):EndsT Tryz.prog B (Qae Tryz.prog 116 17 (([slI xs]).map (Qam 0 4))) (.int .i64 (QaF xs 0)):=by
 exact ((Q41 xs hx hfacts hJ _) (0) (0) rfl (by omega) (by omega) (by omega)
  (GoE.start.landM okF hJ Qab (Q3F B xs)
  trivial (by kernel_rfl) (by kernel_rfl))).cast (by rfl)
theorem pOf (xs:List Int) (hx:∀x∈xs,0<=x/\x<=61):Qao Tryz.prog J0 116 #[slI xs] (.int .i64 (QaF xs 0)):=
 QbW (ts:=[slI xs]) (xs.length<=9223372036854775807) (fun _ _ ht=> ht.ln (i:=0) rfl) Qbr (c0:=Qae Tryz.prog 116 17 (([slI xs]).map (Qam 0 4))) (by kernel_rfl) (by kernel_rfl) fun hfacts B hJ=> Q5a xs hx hfacts hJ
end Go.Proofs.YtiabgkiccaodmaaGreat

