/- Play. -/
import Derived.Test.YtiabgkiccaodmaaGreatZSH12
set_option linter.all false
namespace Go.Proofs.YtiabgkiccaodmaaGreat
open Go Go.CE Go.RowKit
noncomputable section
set_option maxRecDepth 100000
def Qay (g:Gd):Int:=Qbx g.use g.br g.ships 0 g.stock
def QeG (g:Gd):Int:=Qds g.use g.br g.ships g.stock
theorem Qd8 {s:Qaa} {load:List Int} (hs:Qa3 s=true) (h:Qck s load=true):(∀x∈load,0<=x/\x<=61)/\0<=QaG load 0/\QaG load 0 < 64/\QcF (QaG load 0)<=s.lots.length:=by
 have hm:=Qav hs;simp only [Qck,YB] at h;have g1:=QjT h.1 (Int.le_refl 0);have g3:=Qkd (k:=s.lots.length) (by omega) load 0 g1 (Int.le_refl 0) (Int.pow_pos (by decide));refine ⟨fun x hx=> by have:=g1 x hx;omega,g3.1, ?_,QlD g3.1 g3.2⟩;refine Int.lt_of_lt_of_le g3.2 ?_;have h1:(2:Nat) ^ s.lots.length<=2 ^ 6:=Nat.pow_le_pow_right (by decide) (by omega);have e:(2:Int) ^ s.lots.length=((2 ^ s.lots.length:Nat):Int):=by rw [Int.natCast_pow];rfl
 rw [e];omega
def QgW (xs:List Gd) (i:Int) (ys:List Int):List Value:=[Value.func (Fn.func 125) #[] #[],.slice (some {block:=2,off:=0}) xs.length 1,Qa4 1 (slT xs.length (Qac QbL xs)),.int .i64 (↑xs.length:Int),.int .i64 i]
def QeH (xs:List Gd) (i:Int) (ys:List Int):List Obj:=[.cells (Qac Qal ys) 3 (0,0)]
def Qhz:List Item:=([.code [1,1,0,1,0,0],.inLoop [1,1,0,1,0,0],.inBlock 0,.code [1,1,1]]).map (it (Qar YP 86))
def QzH (B:Lo) (c0:CF) (xs:List Gd) (i:Int) (ys:List Int):Prop:=∃dJ:Nat->Value,(∀t,Qbc (dJ t))/\GoE YP B c0 H00 1 (Qa9 86 26 (([1,5,11,12,13]:List Nat).zip (QgW xs i ys)) dJ Qhz) (Qa5 (QeH xs i ys)) (2+(QeH xs i ys).length) []
def Qm4 (xs:List Gd) (i:Int):Array Value:=#[.int .i64 (Gd.stock (xs.getD i.toNat default)),.int .i64 (Gd.use (xs.getD i.toNat default)),.int .i64 (Gd.br (xs.getD i.toNat default)),slT (List.length (Gd.ships (xs.getD i.toNat default))) (Qac QeI (Gd.ships (xs.getD i.toNat default)))]
theorem Q0b (B:Lo) (xs:List Gd) (i:Int) (ys:List Int) (dJ0:Nat->Value):landM (Qam YP (Qa1 YP) J0 B 13 1 (Qa9 86 26 (([1,5,11,12,13]:List Nat).zip (QgW xs i ys)) dJ0 Qhz) (Qa5 (QeH xs i ys)) (2+(QeH xs i ys).length)
 [(0,hvT),(2,Qaf.tidx i.toNat (Qm4 xs i)),(11,Qaf.pure (.int .i64 (Qbx (Gd.use (xs.getD i.toNat default)) (Gd.br (xs.getD i.toNat default)) (Gd.ships (xs.getD i.toNat default)) 0 (Gd.stock (xs.getD i.toNat default)))) []),(12,Qaf.old (Hint.idx i.toNat)),(13,Qaf.old (Hint.st (Qac Qal (List.set ys i.toNat (Qbx (Gd.use (xs.getD i.toNat default)) (Gd.br (xs.getD i.toNat default)) (Gd.ships (xs.getD i.toNat default)) 0 (Gd.stock (xs.getD i.toNat default))))))),(14,hvI (i+1))] 0 [] []) [1,5,11,12,13] [(2,KS.cells [] (Qac Qal (List.set ys i.toNat (Qbx (Gd.use (xs.getD i.toNat default)) (Gd.br (xs.getD i.toNat default)) (Gd.ships (xs.getD i.toNat default)) 0 (Gd.stock (xs.getD i.toNat default))))))] []=some ⟨86,26,Qhz,[],.run,none,QgW xs (i+1) (List.set ys i.toNat (Qbx (Gd.use (xs.getD i.toNat default)) (Gd.br (xs.getD i.toNat default)) (Gd.ships (xs.getD i.toNat default)) 0 (Gd.stock (xs.getD i.toNat default)))),QeH xs (i+1) (List.set ys i.toNat (Qbx (Gd.use (xs.getD i.toNat default)) (Gd.br (xs.getD i.toNat default)) (Gd.ships (xs.getD i.toNat default)) 0 (Gd.stock (xs.getD i.toNat default)))),
 [QaF 1 [] (Qac Qal (List.set ys i.toNat (Qbx (Gd.use (xs.getD i.toNat default)) (Gd.br (xs.getD i.toNat default)) (Gd.ships (xs.getD i.toNat default)) 0 (Gd.stock (xs.getD i.toNat default))))) (Qac Qal (List.set ys i.toNat (Qbx (Gd.use (xs.getD i.toNat default)) (Gd.br (xs.getD i.toNat default)) (Gd.ships (xs.getD i.toNat default)) 0 (Gd.stock (xs.getD i.toNat default))))),wq (i+1)=i+1,0+Int.toNat i * 1+TypeInfo.size Tryz.t3<=Array.size (Qac Qal ys)/\splice (Qac Qal ys) (0+Int.toNat i * 1) (Value.cells (Qcd {len:=16000,tr:=Tri.set 14 (Tri.set 14 Tri.lf 22 (.int .i64 (Qbx (Gd.use (xs.getD i.toNat default)) (Gd.br (xs.getD i.toNat default)) (Gd.ships (xs.getD i.toNat default)) 0 (Gd.stock (xs.getD i.toNat default))))) 23 (.pointer (some {block:=2,off:=0+Int.toNat i * 1}))} 22))=Qac Qal (List.set ys i.toNat (Qbx (Gd.use (xs.getD i.toNat default)) (Gd.br (xs.getD i.toNat default)) (Gd.ships (xs.getD i.toNat default)) 0 (Gd.stock (xs.getD i.toNat default)))),i=(↑i.toNat:Int)/\Int.toNat i < List.length xs,QaA []/\Qaq YP J0 125 #[.agg (Qm4 xs i)] (.int .i64 (Qbx (Gd.use (xs.getD i.toNat default)) (Gd.br (xs.getD i.toNat default)) (Gd.ships (xs.getD i.toNat default)) 0 (Gd.stock (xs.getD i.toNat default)))),i=(↑i.toNat:Int)/\Int.toNat i < List.length xs/\Array.extract (Qac QbL xs) (Int.toNat i * TypeInfo.size Tryz.t129) (Int.toNat i * TypeInfo.size Tryz.t129+TypeInfo.size Tryz.t129)=(Qm4 xs i),ltq i (↑xs.length:Int)=true]⟩:=by kernel_rfl
theorem QyW (B:Lo) (xs:List Gd) (i:Int) (ys:List Int) (dJ0:Nat->Value):QaY (Qam YP (Qa1 YP) J0 B 9 1 (Qa9 86 26 (([1,5,11,12,13]:List Nat).zip (QgW xs i ys)) dJ0 Qhz) (Qa5 (QeH xs i ys)) (2+(QeH xs i ys).length)
 [(0,hvF)] 0 [] []) [{k:=2,rs:=[],cs:=Qac Qal ys}]=some (slT xs.length (Fz.cs {k:=2,rs:=[],cs:=Qac Qal ys}),
 [Qbj (Fz.rs {k:=2,rs:=[],cs:=Qac Qal ys}) (Qac Qal ys) (Fz.cs {k:=2,rs:=[],cs:=Qac Qal ys}),ltq i (↑xs.length:Int)=false]):=by kernel_rfl
theorem Q0e (B:Lo) (xs:List Gd):landM (Qam YP (Qa1 YP) J0 B 9 1 (Qaj YP 86 26 (([slG xs,.func (.func 125) #[] #[]]).map (Qat 0 4))) H00 1
 [(3,Qaf.old (Hint.mk xs.length (Qac (QbD [.int .i64 0]) (List.replicate xs.length ()))))] 0 [] []) [1,5,11,12,13] [(1,KS.rows [] [] (Qac Qal (List.replicate xs.length 0)))] []=some ⟨86,26,Qhz,[],.run,none,QgW xs (0) (List.replicate xs.length 0),QeH xs (0) (List.replicate xs.length 0),
 [QaX 1 [] [] (Qac (QbD [.int .i64 0]) (List.replicate xs.length ())) (Qac Qal (List.replicate xs.length 0)),QfK YP 22 (Qcd {len:=16000,tr:=Tri.set 14 Tri.lf 9 (.int .i64 (↑xs.length:Int))} 9) (Qcd {len:=16000,tr:=Tri.set 14 Tri.lf 9 (.int .i64 (↑xs.length:Int))} 9)=some (3,Qac (QbD [.int .i64 0]) (List.replicate xs.length ()),List.length xs,TypeInfo.size Tryz.t3)]⟩:=by kernel_rfl
set_option maxHeartbeats 4000000 in
theorem QyF (xs:List Gd) (hn:xs.length<=1000000) (hg:∀g∈xs,gdB g) {B:Lo} (hJ:∀w,B.has w->J0 w) {c0:CF}:∀m:Nat,(∀(i:Int) (ys:List Int),(xs.length - i.toNat)=m->∀(h0:0<=i) (hy:ys=Qg1 Qay 0 xs i),QzH B c0 xs i ys->EndsT YP B c0 (slI (xs.map Qay))):=by
 intro m0;induction m0 using Nat.strongRecOn with
 | _ m0 ih0=>
   intro i ys hm0 h0 hy ⟨dJ0,hdJ0,hg0⟩;have hyl:ys.length=xs.length:=by rw [hy];exact Qdz
   by_cases q0:(i:Int) < ((↑xs.length:Int))
   ·have hgi:=hg _ (QaH h0 q0);exact ((ih0 _ (by omega)) (i+1) (List.set ys i.toNat (Qbx (Gd.use (xs.getD i.toNat default)) (Gd.br (xs.getD i.toNat default)) (Gd.ships (xs.getD i.toNat default)) 0 (Gd.stock (xs.getD i.toNat default)))) rfl (by omega) (by (subst hy;exact Qd0 (f:=Qay) h0 q0))
     (hg0.landM okF hJ Qab (Q0b B xs i ys dJ0)
     ⟨(Qan (Qas (fun x=> List.all_eq_true.1 (by rfl)))),⟨(QaL (by omega) (by omega)),⟨(by exact Qf0 (z:=1) (fun _=> rfl) (by omega) rfl rfl),⟨⟨by omega,by omega⟩,⟨⟨trivial,Qyd (xs.getD i.toNat default) (by with_reducible assumption)⟩,⟨⟨by omega,by omega,(Qae (z:=4) (fun _=> rfl) (by omega))⟩,⟨(QaW q0),trivial⟩⟩⟩⟩⟩⟩⟩ (by kernel_rfl) (by kernel_rfl))).cast (by rfl)
   ·exact (GoE.endsT okF hJ Qab hg0 (QyW B xs i ys dJ0)
     ⟨(QaD (fun x=> List.all_eq_true.1 (by rfl))),⟨(Qbh (Int.not_lt.1 q0)),trivial⟩⟩).cast (by exact Qfn (hy.trans (Qdp (by omega))) (by simp))
set_option maxHeartbeats 4000000 in
theorem Q3m (xs:List Gd) (hn:xs.length<=1000000) (hg:∀g∈xs,gdB g) {B:Lo} (hJ:∀w,B.has w->J0 w):EndsT YP B (Qaj YP 86 26 (([slG xs,.func (.func 125) #[] #[]]).map (Qat 0 4))) (slI (xs.map Qay)):=by
 exact ((QyF xs hn hg hJ _) (0) (List.replicate xs.length 0) rfl (by omega) (by exact QfE)
  (GoE.start.landM okF hJ Qab (Q0e B xs)
  ⟨(by exact (QbJ (by exact ⟨(.simple rfl),trivial⟩) _)),⟨(QfS (bytes:=8) (by kernel_rfl) (by omega) (by omega) (by omega)),trivial⟩⟩ (by kernel_rfl) (by kernel_rfl))).cast (by rfl)
theorem Q59 (xs:List Gd) (hn:xs.length<=1000000) (hg:∀g∈xs,gdB g):Qaq YP J0 86 #[slG xs,.func (.func 125) #[] #[]] (slI (xs.map Qay)):=
 QaE (ts:=[slG xs,.func (.func 125) #[] #[]]) Qbw (c0:=Qaj YP 86 26 (([slG xs,.func (.func 125) #[] #[]]).map (Qat 0 4))) (by kernel_rfl) (by kernel_rfl) fun B hJ=> Q3m xs hn hg hJ
def QgP (xs:List Gd) (i:Int) (ys:List Int):List Value:=[Value.func (Fn.func 87) #[] #[],.slice (some {block:=2,off:=0}) xs.length 1,Qa4 1 (slT xs.length (Qac QbL xs)),.int .i64 (↑xs.length:Int),.int .i64 i]
def Qez (xs:List Gd) (i:Int) (ys:List Int):List Obj:=[.cells (Qac Qal ys) 3 (0,0)]
def QgK:List Item:=([.code [1,1,0,1,0,0],.inLoop [1,1,0,1,0,0],.inBlock 0,.code [1,1,1]]).map (it (Qar YP 86))
def QyA (B:Lo) (c0:CF) (xs:List Gd) (i:Int) (ys:List Int):Prop:=∃dJ:Nat->Value,(∀t,Qbc (dJ t))/\GoE YP B c0 H00 1 (Qa9 86 26 (([1,5,11,12,13]:List Nat).zip (QgP xs i ys)) dJ QgK) (Qa5 (Qez xs i ys)) (2+(Qez xs i ys).length) []
def QmG (xs:List Gd) (i:Int):Array Value:=#[.int .i64 (Gd.stock (xs.getD i.toNat default)),.int .i64 (Gd.use (xs.getD i.toNat default)),.int .i64 (Gd.br (xs.getD i.toNat default)),slT (List.length (Gd.ships (xs.getD i.toNat default))) (Qac QeI (Gd.ships (xs.getD i.toNat default)))]
theorem Q0u (B:Lo) (xs:List Gd) (i:Int) (ys:List Int) (dJ0:Nat->Value):landM (Qam YP (Qa1 YP) J0 B 13 1 (Qa9 86 26 (([1,5,11,12,13]:List Nat).zip (QgP xs i ys)) dJ0 QgK) (Qa5 (Qez xs i ys)) (2+(Qez xs i ys).length)
 [(0,hvT),(2,Qaf.tidx i.toNat (QmG xs i)),(11,Qaf.pure (.int .i64 (Qds (Gd.use (xs.getD i.toNat default)) (Gd.br (xs.getD i.toNat default)) (Gd.ships (xs.getD i.toNat default)) (Gd.stock (xs.getD i.toNat default)))) []),(12,Qaf.old (Hint.idx i.toNat)),(13,Qaf.old (Hint.st (Qac Qal (List.set ys i.toNat (Qds (Gd.use (xs.getD i.toNat default)) (Gd.br (xs.getD i.toNat default)) (Gd.ships (xs.getD i.toNat default)) (Gd.stock (xs.getD i.toNat default))))))),(14,hvI (i+1))] 0 [] []) [1,5,11,12,13] [(2,KS.cells [] (Qac Qal (List.set ys i.toNat (Qds (Gd.use (xs.getD i.toNat default)) (Gd.br (xs.getD i.toNat default)) (Gd.ships (xs.getD i.toNat default)) (Gd.stock (xs.getD i.toNat default))))))] []=some ⟨86,26,QgK,[],.run,none,QgP xs (i+1) (List.set ys i.toNat (Qds (Gd.use (xs.getD i.toNat default)) (Gd.br (xs.getD i.toNat default)) (Gd.ships (xs.getD i.toNat default)) (Gd.stock (xs.getD i.toNat default)))),Qez xs (i+1) (List.set ys i.toNat (Qds (Gd.use (xs.getD i.toNat default)) (Gd.br (xs.getD i.toNat default)) (Gd.ships (xs.getD i.toNat default)) (Gd.stock (xs.getD i.toNat default)))),
 [QaF 1 [] (Qac Qal (List.set ys i.toNat (Qds (Gd.use (xs.getD i.toNat default)) (Gd.br (xs.getD i.toNat default)) (Gd.ships (xs.getD i.toNat default)) (Gd.stock (xs.getD i.toNat default))))) (Qac Qal (List.set ys i.toNat (Qds (Gd.use (xs.getD i.toNat default)) (Gd.br (xs.getD i.toNat default)) (Gd.ships (xs.getD i.toNat default)) (Gd.stock (xs.getD i.toNat default))))),wq (i+1)=i+1,0+Int.toNat i * 1+TypeInfo.size Tryz.t3<=Array.size (Qac Qal ys)/\splice (Qac Qal ys) (0+Int.toNat i * 1) (Value.cells (Qcd {len:=16000,tr:=Tri.set 14 (Tri.set 14 Tri.lf 22 (.int .i64 (Qds (Gd.use (xs.getD i.toNat default)) (Gd.br (xs.getD i.toNat default)) (Gd.ships (xs.getD i.toNat default)) (Gd.stock (xs.getD i.toNat default))))) 23 (.pointer (some {block:=2,off:=0+Int.toNat i * 1}))} 22))=Qac Qal (List.set ys i.toNat (Qds (Gd.use (xs.getD i.toNat default)) (Gd.br (xs.getD i.toNat default)) (Gd.ships (xs.getD i.toNat default)) (Gd.stock (xs.getD i.toNat default)))),i=(↑i.toNat:Int)/\Int.toNat i < List.length xs,QaA []/\Qaq YP J0 87 #[.agg (QmG xs i)] (.int .i64 (Qds (Gd.use (xs.getD i.toNat default)) (Gd.br (xs.getD i.toNat default)) (Gd.ships (xs.getD i.toNat default)) (Gd.stock (xs.getD i.toNat default)))),i=(↑i.toNat:Int)/\Int.toNat i < List.length xs/\Array.extract (Qac QbL xs) (Int.toNat i * TypeInfo.size Tryz.t129) (Int.toNat i * TypeInfo.size Tryz.t129+TypeInfo.size Tryz.t129)=(QmG xs i),ltq i (↑xs.length:Int)=true]⟩:=by kernel_rfl
theorem QwP (B:Lo) (xs:List Gd) (i:Int) (ys:List Int) (dJ0:Nat->Value):QaY (Qam YP (Qa1 YP) J0 B 9 1 (Qa9 86 26 (([1,5,11,12,13]:List Nat).zip (QgP xs i ys)) dJ0 QgK) (Qa5 (Qez xs i ys)) (2+(Qez xs i ys).length)
 [(0,hvF)] 0 [] []) [{k:=2,rs:=[],cs:=Qac Qal ys}]=some (slT xs.length (Fz.cs {k:=2,rs:=[],cs:=Qac Qal ys}),
 [Qbj (Fz.rs {k:=2,rs:=[],cs:=Qac Qal ys}) (Qac Qal ys) (Fz.cs {k:=2,rs:=[],cs:=Qac Qal ys}),ltq i (↑xs.length:Int)=false]):=by kernel_rfl
theorem Qzz (B:Lo) (xs:List Gd):landM (Qam YP (Qa1 YP) J0 B 9 1 (Qaj YP 86 26 (([slG xs,.func (.func 87) #[] #[]]).map (Qat 0 4))) H00 1
 [(3,Qaf.old (Hint.mk xs.length (Qac (QbD [.int .i64 0]) (List.replicate xs.length ()))))] 0 [] []) [1,5,11,12,13] [(1,KS.rows [] [] (Qac Qal (List.replicate xs.length 0)))] []=some ⟨86,26,QgK,[],.run,none,QgP xs (0) (List.replicate xs.length 0),Qez xs (0) (List.replicate xs.length 0),
 [QaX 1 [] [] (Qac (QbD [.int .i64 0]) (List.replicate xs.length ())) (Qac Qal (List.replicate xs.length 0)),QfK YP 22 (Qcd {len:=16000,tr:=Tri.set 14 Tri.lf 9 (.int .i64 (↑xs.length:Int))} 9) (Qcd {len:=16000,tr:=Tri.set 14 Tri.lf 9 (.int .i64 (↑xs.length:Int))} 9)=some (3,Qac (QbD [.int .i64 0]) (List.replicate xs.length ()),List.length xs,TypeInfo.size Tryz.t3)]⟩:=by kernel_rfl
set_option maxHeartbeats 4000000 in
theorem QzU (xs:List Gd) (hn:xs.length<=1000000) (hg:∀g∈xs,gdB g) {B:Lo} (hJ:∀w,B.has w->J0 w) {c0:CF}:∀m:Nat,(∀(i:Int) (ys:List Int),(xs.length - i.toNat)=m->∀(h0:0<=i) (hy:ys=Qg1 QeG 0 xs i),QyA B c0 xs i ys->EndsT YP B c0 (slI (xs.map QeG))):=by
 intro m0;induction m0 using Nat.strongRecOn with
 | _ m0 ih0=>
   intro i ys hm0 h0 hy ⟨dJ0,hdJ0,hg0⟩;have hyl:ys.length=xs.length:=by rw [hy];exact Qdz
   by_cases q0:(i:Int) < ((↑xs.length:Int))
   ·have hgi:=hg _ (QaH h0 q0);exact ((ih0 _ (by omega)) (i+1) (List.set ys i.toNat (Qds (Gd.use (xs.getD i.toNat default)) (Gd.br (xs.getD i.toNat default)) (Gd.ships (xs.getD i.toNat default)) (Gd.stock (xs.getD i.toNat default)))) rfl (by omega) (by (subst hy;exact Qd0 (f:=QeG) h0 q0))
     (hg0.landM okF hJ Qab (Q0u B xs i ys dJ0)
     ⟨(Qan (Qas (fun x=> List.all_eq_true.1 (by rfl)))),⟨(QaL (by omega) (by omega)),⟨(by exact Qf0 (z:=1) (fun _=> rfl) (by omega) rfl rfl),⟨⟨by omega,by omega⟩,⟨⟨trivial,Q6L (xs.getD i.toNat default) (by with_reducible assumption)⟩,⟨⟨by omega,by omega,(Qae (z:=4) (fun _=> rfl) (by omega))⟩,⟨(QaW q0),trivial⟩⟩⟩⟩⟩⟩⟩ (by kernel_rfl) (by kernel_rfl))).cast (by rfl)
   ·exact (GoE.endsT okF hJ Qab hg0 (QwP B xs i ys dJ0)
     ⟨(QaD (fun x=> List.all_eq_true.1 (by rfl))),⟨(Qbh (Int.not_lt.1 q0)),trivial⟩⟩).cast (by exact Qfn (hy.trans (Qdp (by omega))) (by simp))
set_option maxHeartbeats 4000000 in
theorem Q2N (xs:List Gd) (hn:xs.length<=1000000) (hg:∀g∈xs,gdB g) {B:Lo} (hJ:∀w,B.has w->J0 w):EndsT YP B (Qaj YP 86 26 (([slG xs,.func (.func 87) #[] #[]]).map (Qat 0 4))) (slI (xs.map QeG)):=by
 exact ((QzU xs hn hg hJ _) (0) (List.replicate xs.length 0) rfl (by omega) (by exact QfE)
  (GoE.start.landM okF hJ Qab (Qzz B xs)
  ⟨(by exact (QbJ (by exact ⟨(.simple rfl),trivial⟩) _)),⟨(QfS (bytes:=8) (by kernel_rfl) (by omega) (by omega) (by omega)),trivial⟩⟩ (by kernel_rfl) (by kernel_rfl))).cast (by rfl)
theorem Q5s (xs:List Gd) (hn:xs.length<=1000000) (hg:∀g∈xs,gdB g):Qaq YP J0 86 #[slG xs,.func (.func 87) #[] #[]] (slI (xs.map QeG)):=
 QaE (ts:=[slG xs,.func (.func 87) #[] #[]]) Qbw (c0:=Qaj YP 86 26 (([slG xs,.func (.func 87) #[] #[]]).map (Qat 0 4))) (by kernel_rfl) (by kernel_rfl) fun B hJ=> Q2N xs hn hg hJ
theorem Qo6 (B:Lo) (xs:List Gd):QaY (Qam YP (Qa1 YP) J0 B 6 1 (Qaj YP 85 5 (([slG xs]).map (Qat 0 4))) H00 1
 [(2,Qaf.pure (slT (List.length (List.map Qay xs)) (Qac Qal (List.map Qay xs))) [])] 0 [] []) []=some (slT (List.length (List.map Qay xs)) (Qac Qal (List.map Qay xs)),
 [QaA []/\Qaq YP J0 86 #[slT xs.length (Qac QbL xs),Value.func (Fn.func 125) #[] #[]] (slT (List.length (List.map Qay xs)) (Qac Qal (List.map Qay xs)))]):=by kernel_rfl
set_option maxHeartbeats 4000000 in
theorem Qro (xs:List Gd) (hn:xs.length<=1000000) (hg:∀g∈xs,gdB g) {B:Lo} (hJ:∀w,B.has w->J0 w):EndsT YP B (Qaj YP 85 5 (([slG xs]).map (Qat 0 4))) (slI (xs.map Qay)):=by
 exact (GoE.endsT okF hJ Qab GoE.start (Qo6 B xs)
  ⟨⟨trivial,Q59 (xs) (by with_reducible assumption) (by with_reducible assumption)⟩,trivial⟩).cast (by rfl)
theorem QjZ (xs:List Gd) (hn:xs.length<=1000000) (hg:∀g∈xs,gdB g):Qaq YP J0 85 #[slG xs] (slI (xs.map Qay)):=
 QaE (ts:=[slG xs]) Qbw (c0:=Qaj YP 85 5 (([slG xs]).map (Qat 0 4))) (by kernel_rfl) (by kernel_rfl) fun B hJ=> Qro xs hn hg hJ
def QpA (s:Qaa) (load:List Int) (days:Int):Array Value:=#[slT s.stock.length (Qac Qal s.stock),slT s.use.length (Qac Qa7 s.use),.int .i64 s.glo,.int .i64 s.ghi,slT s.lots.length (Qac Qap s.lots),.int .i64 s.hold,.int .i64 (QaG load 0),.int .i64 days]
def Qgr (s:Qaa):Array Value:=#[slT s.stock.length (Qac Qal s.stock),slT s.use.length (Qac Qa7 s.use),.int .i64 s.glo,.int .i64 s.ghi,slT s.lots.length (Qac Qap s.lots),.int .i64 s.hold]
def Qou (t:Qao):Array Value:=#[slT t.uses.length (Qac Qal t.uses),slT t.gaps.length (Qac Qal t.gaps),slT t.goods.length (Qac Qa0 t.goods)]
def QoS (B:Lo) (s:Qaa) (load:List Int) (days:Int) (t:Qao):List Prop:=[QaA []/\Qaq YP J0 79 #[.agg (Qgr s)] (.bool true)]++([]:List Prop)
def Quy (s:Qaa) (load:List Int) (days:Int) (t:Qao):Qaz:=[(6,Qaf.pure (.bool true) [])]
def QoZ (B:Lo) (s:Qaa) (load:List Int) (days:Int) (t:Qao):List Prop:=[QaA []/\Qaq YP J0 80 #[.agg (Qgr s),slT load.length (Qac Qal load)] (.bool true)]++QoS B s load days t
def QtJ (s:Qaa) (load:List Int) (days:Int) (t:Qao):Qaz:=Quy s load days t++[(11,Qaf.pure (.bool true) [])]
def QoX (B:Lo) (s:Qaa) (load:List Int) (days:Int) (t:Qao):List Prop:=[QaA []/\Qaq YP J0 81 #[.int .i64 days] (.bool true)]++QoZ B s load days t
def Quh (s:Qaa) (load:List Int) (days:Int) (t:Qao):Qaz:=QtJ s load days t++[(16,Qaf.pure (.bool true) [])]
theorem Q2m (B:Lo) (s:Qaa) (load:List Int) (days:Int) (t:Qao):QaY (Qam YP (Qa1 YP) J0 B 13 1 (Qaj YP 38 43 (([.agg (Qah s).toArray,slI load,.int .i64 days,.agg (QaC t).toArray]).map (Qat 0 4))) H00 1
 (Quh s load days t++[(23,Qaf.pure (.bool true) []),(29,Qaf.pure (.agg (QpA s load days)) []),(31,Qaf.pure (slT (List.length (Qbb s (QaG load 0) days t)) (Qac QbL (Qbb s (QaG load 0) days t))) []),(34,Qaf.pure (slT (List.length (List.map Qay (Qbb s (QaG load 0) days t))) (Qac Qal (List.map Qay (Qbb s (QaG load 0) days t)))) []),(36,Qaf.pure (slT (List.length (List.map QeG (Qbb s (QaG load 0) days t))) (Qac Qal (List.map QeG (Qbb s (QaG load 0) days t)))) [])]) 0 [] []) []=some (.tuple #[slT (List.length (List.map Qay (Qbb s (QaG load 0) days t))) (Qac Qal (List.map Qay (Qbb s (QaG load 0) days t))),slT (List.length (List.map QeG (Qbb s (QaG load 0) days t))) (Qac Qal (List.map QeG (Qbb s (QaG load 0) days t))),.int .i64 0],
 [QaA []/\Qaq YP J0 86 #[slT (List.length (Qbb s (QaG load 0) days t)) (Qac QbL (Qbb s (QaG load 0) days t)),Value.func (Fn.func 87) #[] #[]] (slT (List.length (List.map QeG (Qbb s (QaG load 0) days t))) (Qac Qal (List.map QeG (Qbb s (QaG load 0) days t)))),QaA []/\Qaq YP J0 85 #[slT (List.length (Qbb s (QaG load 0) days t)) (Qac QbL (Qbb s (QaG load 0) days t))] (slT (List.length (List.map Qay (Qbb s (QaG load 0) days t))) (Qac Qal (List.map Qay (Qbb s (QaG load 0) days t)))),QaA []/\Qaq YP J0 84 #[.agg (QpA s load days),.agg (Qou t)] (slT (List.length (Qbb s (QaG load 0) days t)) (Qac QbL (Qbb s (QaG load 0) days t))),QaA []/\Qaq YP J0 83 #[.agg (Qgr s),slT load.length (Qac Qal load),.int .i64 days] (.agg (QpA s load days)),QaA []/\Qaq YP J0 82 #[.agg (Qgr s),.int .i64 days,.agg (Qou t)] (.bool true)]++QoX B s load days t):=by kernel_rfl
theorem Q2l (B:Lo) (s:Qaa) (load:List Int) (days:Int) (t:Qao):QaY (Qam YP (Qa1 YP) J0 B 10 1 (Qaj YP 38 43 (([.agg (Qah s).toArray,slI load,.int .i64 days,.agg (QaC t).toArray]).map (Qat 0 4))) H00 1
 (Quh s load days t++[(23,Qaf.pure (.bool false) [])]) 0 [] []) []=some (.tuple #[slT 0 #[],slT 0 #[],.int .i64 2],
 [QaA []/\Qaq YP J0 82 #[.agg (Qgr s),.int .i64 days,.agg (Qou t)] (.bool false)]++QoX B s load days t):=by kernel_rfl
theorem Q2t (B:Lo) (s:Qaa) (load:List Int) (days:Int) (t:Qao):QaY (Qam YP (Qa1 YP) J0 B 10 1 (Qaj YP 38 43 (([.agg (Qah s).toArray,slI load,.int .i64 days,.agg (QaC t).toArray]).map (Qat 0 4))) H00 1
 (QtJ s load days t++[(16,Qaf.pure (.bool false) [])]) 0 [] []) []=some (.tuple #[slT 0 #[],slT 0 #[],.int .i64 2],
 [QaA []/\Qaq YP J0 81 #[.int .i64 days] (.bool false)]++QoZ B s load days t):=by kernel_rfl
theorem Q1S (B:Lo) (s:Qaa) (load:List Int) (days:Int) (t:Qao):QaY (Qam YP (Qa1 YP) J0 B 10 1 (Qaj YP 38 43 (([.agg (Qah s).toArray,slI load,.int .i64 days,.agg (QaC t).toArray]).map (Qat 0 4))) H00 1
 (Quy s load days t++[(11,Qaf.pure (.bool false) [])]) 0 [] []) []=some (.tuple #[slT 0 #[],slT 0 #[],.int .i64 2],
 [QaA []/\Qaq YP J0 80 #[.agg (Qgr s),slT load.length (Qac Qal load)] (.bool false)]++QoS B s load days t):=by kernel_rfl
theorem Q2O (B:Lo) (s:Qaa) (load:List Int) (days:Int) (t:Qao):QaY (Qam YP (Qa1 YP) J0 B 10 1 (Qaj YP 38 43 (([.agg (Qah s).toArray,slI load,.int .i64 days,.agg (QaC t).toArray]).map (Qat 0 4))) H00 1
 [(6,Qaf.pure (.bool false) [])] 0 [] []) []=some (.tuple #[slT 0 #[],slT 0 #[],.int .i64 2],
 [QaA []/\Qaq YP J0 79 #[.agg (Qgr s)] (.bool false)]):=by kernel_rfl
set_option maxHeartbeats 4000000 in
theorem Q4w (s:Qaa) (load:List Int) (days:Int) (t:Qao)  {B:Lo} (hJ:∀w,B.has w->J0 w):EndsT YP B (Qaj YP 38 43 (([.agg (Qah s).toArray,slI load,.int .i64 days,.agg (QaC t).toArray]).map (Qat 0 4))) (.tuple #[if Qa3 s && (Qck s load && (inB days 0 300 && Qb7 s days t)) then slI ((Qbb s (QaG load 0) days t).map Qay) else slI [],if Qa3 s && (Qck s load && (inB days 0 300 && Qb7 s days t)) then slI ((Qbb s (QaG load 0) days t).map QeG) else slI [],.int .i64 (if Qa3 s && (Qck s load && (inB days 0 300 && Qb7 s days t)) then 0 else 2)]):=by
 cases q0:Qa3 s with
 | true=>
   have hp0:QaA (QoS B s load days t):=by
    have g4:(Qbb s (QaG load 0) days t).length<=1000000:=by simp only [Qbb,List.length_map,QbI];have:=(Qai ‹Qa3 s=true›).1;omega
    exact ⟨⟨trivial,(by have t_:=Qh7 (s);rw [q0] at t_;exact t_)⟩,trivial⟩
   cases q1:Qck s load with
   | true=>
     have hp1:QaA (QoZ B s load days t):=by
      have g1:=Qd8 ‹Qa3 s=true› ‹Qck s load=true›;have g4:(Qbb s (QaG load 0) days t).length<=1000000:=by simp only [Qbb,List.length_map,QbI];have:=(Qai ‹Qa3 s=true›).1;omega
      have g5:=g1.1;have g6:=g1.2.2.1;have g7:=g1.2.2.2;have g8:=g1.2.1;exact ⟨⟨trivial,(by have t_:=QoL (s) (load) (by with_reducible assumption);rw [q1] at t_;exact t_)⟩,hp0⟩
     cases q2:inB days 0 300 with
     | true=>
       have hp2:QaA (QoX B s load days t):=by
        have g1:=Qd8 ‹Qa3 s=true› ‹Qck s load=true›;have g2:=QaU.1 ‹inB days 0 300=true›;have g4:(Qbb s (QaG load 0) days t).length<=1000000:=by simp only [Qbb,List.length_map,QbI];have:=(Qai ‹Qa3 s=true›).1;omega
        have g5:=g1.1;have g6:=g1.2.2.1;have g7:=g1.2.2.2;have g8:=g1.2.1;exact ⟨⟨trivial,(by have t_:=Qlh (days);rw [q2] at t_;exact t_)⟩,hp1⟩
       cases q3:Qb7 s days t with
       | true=>
         have g1:=Qd8 ‹Qa3 s=true› ‹Qck s load=true›;have g2:=QaU.1 ‹inB days 0 300=true›;have g3:=Qzn (load:=QaG load 0) ‹Qa3 s=true› ‹Qb7 s days t=true› g2 g1.2.1 g1.2.2.1 g1.2.2.2;have g4:(Qbb s (QaG load 0) days t).length<=1000000:=by simp only [Qbb,List.length_map,QbI];have:=(Qai ‹Qa3 s=true›).1;omega
         have g5:=g1.1;have g6:=g1.2.2.1;have g7:=g1.2.2.2;have g8:=g1.2.1;exact (GoE.endsT okF hJ Qab GoE.start (Q2m B s load days t)
          ⟨⟨trivial,Q5s (Qbb s (QaG load 0) days t) (by with_reducible assumption) (by with_reducible assumption)⟩,⟨⟨trivial,QjZ (Qbb s (QaG load 0) days t) (by with_reducible assumption) (by with_reducible assumption)⟩,⟨⟨trivial,Qzx (s) (QaG load 0) (days) (t) (by with_reducible assumption) (by with_reducible assumption) (by with_reducible assumption) (by with_reducible assumption) (by with_reducible assumption) (by with_reducible assumption)⟩,⟨⟨trivial,QrT (s) (load) (days) (by with_reducible assumption)⟩,⟨⟨trivial,(by have t_:=Qui (s) (days) (t) (by with_reducible assumption);rw [q3] at t_;exact t_)⟩,hp2⟩⟩⟩⟩⟩).cast (by rfl)
       | false=>
         have g1:=Qd8 ‹Qa3 s=true› ‹Qck s load=true›;have g2:=QaU.1 ‹inB days 0 300=true›;have g4:(Qbb s (QaG load 0) days t).length<=1000000:=by simp only [Qbb,List.length_map,QbI];have:=(Qai ‹Qa3 s=true›).1;omega
         have g5:=g1.1;have g6:=g1.2.2.1;have g7:=g1.2.2.2;have g8:=g1.2.1;exact (GoE.endsT okF hJ Qab GoE.start (Q2l B s load days t)
          ⟨⟨trivial,(by have t_:=Qui (s) (days) (t) (by with_reducible assumption);rw [q3] at t_;exact t_)⟩,hp2⟩).cast (by rfl)
     | false=>
       have g1:=Qd8 ‹Qa3 s=true› ‹Qck s load=true›;have g4:(Qbb s (QaG load 0) days t).length<=1000000:=by simp only [Qbb,List.length_map,QbI];have:=(Qai ‹Qa3 s=true›).1;omega
       have g5:=g1.1;have g6:=g1.2.2.1;have g7:=g1.2.2.2;have g8:=g1.2.1;exact (GoE.endsT okF hJ Qab GoE.start (Q2t B s load days t)
        ⟨⟨trivial,(by have t_:=Qlh (days);rw [q2] at t_;exact t_)⟩,hp1⟩).cast (by rfl)
   | false=>
     have g4:(Qbb s (QaG load 0) days t).length<=1000000:=by simp only [Qbb,List.length_map,QbI];have:=(Qai ‹Qa3 s=true›).1;omega
     exact (GoE.endsT okF hJ Qab GoE.start (Q1S B s load days t)
      ⟨⟨trivial,(by have t_:=QoL (s) (load) (by with_reducible assumption);rw [q1] at t_;exact t_)⟩,hp0⟩).cast (by rfl)
 | false=>
   exact (GoE.endsT okF hJ Qab GoE.start (Q2O B s load days t)
    ⟨⟨trivial,(by have t_:=Qh7 (s);rw [q0] at t_;exact t_)⟩,trivial⟩).cast (by rfl)
theorem Q5p (s:Qaa) (load:List Int) (days:Int) (t:Qao)  :Qaq YP J0 38 #[.agg (Qah s).toArray,slI load,.int .i64 days,.agg (QaC t).toArray] (.tuple #[if Qa3 s && (Qck s load && (inB days 0 300 && Qb7 s days t)) then slI ((Qbb s (QaG load 0) days t).map Qay) else slI [],if Qa3 s && (Qck s load && (inB days 0 300 && Qb7 s days t)) then slI ((Qbb s (QaG load 0) days t).map QeG) else slI [],.int .i64 (if Qa3 s && (Qck s load && (inB days 0 300 && Qb7 s days t)) then 0 else 2)]):=
 QaE (ts:=[.agg (Qah s).toArray,slI load,.int .i64 days,.agg (QaC t).toArray]) Qbw (c0:=Qaj YP 38 43 (([.agg (Qah s).toArray,slI load,.int .i64 days,.agg (QaC t).toArray]).map (Qat 0 4))) (by kernel_rfl) (by kernel_rfl) fun B hJ=> Q4w s load days t  hJ
end
end Go.Proofs.YtiabgkiccaodmaaGreat

namespace Go.Proofs.YtiabgkiccaodmaaGreat
open Go Go.CE Go.RowKit
noncomputable section
set_option maxRecDepth 100000
theorem Qcn {α:Type} [Inhabited α] {l:List α} {i:Int} {p:α->Bool} (h0:0<=i) (h:i < l.length):(l.drop i.toNat).all p=(p (l.getD i.toNat default) && (l.drop (i+1).toNat).all p):=by
 obtain ⟨k,rfl⟩:∃k:Nat,i=k:=⟨i.toNat,by omega⟩
 have hk:k < l.length:=by omega
 have e1:((k:Int)).toNat=k:=by omega
 have e2:((k:Int)+1).toNat=k+1:=by omega
 rw [e1,e2,List.drop_eq_getElem_cons hk,List.all_cons];simp [List.getD_eq_getElem?_getD,hk]
theorem Qbn {α:Type} {l:List α} {i:Int} {p:α->Bool} (h:l.length<=i):(l.drop i.toNat).all p=true:=by
 rw [List.drop_eq_nil_of_le (by omega)];rfl
def Qql (k:Nat) (l:Qad):Bool:=QcK l.goods 100000 && (decide (l.goods.length=k) && (inB l.weight 0 100000 && inB l.cost 0 1000000))
def storeT (s:Qaa):Bool:=inB s.stock.length 1 4 && (decide (s.use.length=s.stock.length) && (QbE s.glo s.ghi 1 60 && (decide (s.lots.length<=6) && inB s.hold 0 100000)))
def QuJ (s:Qaa):Bool:=s.stock.all (fun x=> inB x 0 100000) && (QcK s.use 1000 && (s.lots.all (Qql s.stock.length) && storeT s))
theorem Qxx {s:Qaa}:QuJ s=Qa3 s:=by
 have e:Qql s.stock.length=Qoo s.stock.length:=by
  funext l;unfold Qql Qoo;cases QcK l.goods 100000 <;> cases decide (l.goods.length=s.stock.length) <;> rfl
 unfold QuJ Qa3 storeT Qsd;rw [e];cases inB s.stock.length 1 4 <;> cases s.stock.all (fun x=> inB x 0 100000) <;> cases decide (s.use.length=s.stock.length) <;> cases QcK s.use 1000 <;> cases QbE s.glo s.ghi 1 60 <;> cases decide (s.lots.length<=6) <;> cases s.lots.all (Qoo s.stock.length) <;> simp
def wtL (l:List Qad):Nat:=(l.map fun x=> x.goods.length+2).sum
theorem Q4X {l:List Qad} {i:Int} (h0:0<=i) (h:i < l.length):wtL (l.drop i.toNat)=(l.getD i.toNat default).goods.length+2+wtL (l.drop (i+1).toNat):=by
 obtain ⟨k,rfl⟩:∃k:Nat,i=k:=⟨i.toNat,by omega⟩
 have hk:k < l.length:=by omega
 have e1:((k:Int)).toNat=k:=by omega
 have e2:((k:Int)+1).toNat=k+1:=by omega
 rw [e1,e2,List.drop_eq_getElem_cons hk];unfold wtL;rw [List.map_cons,List.sum_cons];simp [List.getD_eq_getElem?_getD,hk]
def QfL (s:Qaa) (i:Int):List Value:=[pA 2 0,.int .i64 i]
def Qdq (s:Qaa) (i:Int):List Obj:=[Obj.cells #[Qa4 1 (slT s.stock.length (Qac Qal s.stock)),Qa4 1 (slT s.use.length (Qac Qa7 s.use)),.int .i64 s.glo,.int .i64 s.ghi,Qa4 1 (slT s.lots.length (Qac Qap s.lots)),.int .i64 s.hold] 62]
def Qge:List Item:=([.code [1,0,1,0,0],.inLoop [1,0,1,0,0],.inBlock 0,.code [1,1]]).map (it (Qar YP 44))
def QzX (B:Lo) (c0:CF) (s:Qaa) (i:Int):Prop:=∃dJ:Nat->Value,(∀t,Qbc (dJ t))/\GoE YP B c0 H00 1 (Qa9 44 110 (([1,3]:List Nat).zip (QfL s i)) dJ Qge) (Qa5 (Qdq s i)) (2+(Qdq s i).length) []
def QfQ (s:Qaa) (i:Int):List Value:=[pA 2 0,.int .i64 i]
def Qdv (s:Qaa) (i:Int):List Obj:=[Obj.cells #[Qa4 1 (slT s.stock.length (Qac Qal s.stock)),Qa4 1 (slT s.use.length (Qac Qa7 s.use)),.int .i64 s.glo,.int .i64 s.ghi,Qa4 1 (slT s.lots.length (Qac Qap s.lots)),.int .i64 s.hold] 62]
def Qgf:List Item:=([.code [1,1,0,1,0,0],.inLoop [1,1,0,1,0,0],.inBlock 2,.code [1,1,1]]).map (it (Qar YP 44))
def Qy4 (B:Lo) (c0:CF) (s:Qaa) (i:Int):Prop:=∃dJ:Nat->Value,(∀t,Qbc (dJ t))/\GoE YP B c0 H00 1 (Qa9 44 110 (([1,4]:List Nat).zip (QfQ s i)) dJ Qgf) (Qa5 (Qdv s i)) (2+(Qdv s i).length) []
def Qdw (s:Qaa) (i:Int):List Value:=[pA 2 0,.int .i64 i]
def Qb3 (s:Qaa) (i:Int):List Obj:=[Obj.cells #[Qa4 1 (slT s.stock.length (Qac Qal s.stock)),Qa4 1 (slT s.use.length (Qac Qa7 s.use)),.int .i64 s.glo,.int .i64 s.ghi,Qa4 1 (slT s.lots.length (Qac Qap s.lots)),.int .i64 s.hold] 62]
def Qdn:List Item:=([.code [1,1,1,0,1,0,0],.inLoop [1,1,1,0,1,0,0],.inBlock 4,.code [1,1,1,1]]).map (it (Qar YP 44))
def Qzg (B:Lo) (c0:CF) (s:Qaa) (i:Int):Prop:=∃dJ:Nat->Value,(∀t,Qbc (dJ t))/\GoE YP B c0 H00 1 (Qa9 44 110 (([1,5]:List Nat).zip (Qdw s i)) dJ Qdn) (Qa5 (Qb3 s i)) (2+(Qb3 s i).length) []
def QdQ (s:Qaa) (i j:Int):List Value:=[pA 2 0,.int .i64 i,pA 3 0,.int .i64 j]
def QbK (s:Qaa) (i j:Int):List Obj:=[Obj.cells #[Qa4 1 (slT s.stock.length (Qac Qal s.stock)),Qa4 1 (slT s.use.length (Qac Qa7 s.use)),.int .i64 s.glo,.int .i64 s.ghi,Qa4 1 (slT s.lots.length (Qac Qap s.lots)),.int .i64 s.hold] 62,Obj.cells #[Qa4 1 (slT (List.length (Qad.goods (s.lots.getD i.toNat default))) (Qac Qa7 (Qad.goods (s.lots.getD i.toNat default)))),.int .i64 (Qad.weight (s.lots.getD i.toNat default)),.int .i64 (Qad.cost (s.lots.getD i.toNat default))] 118]
def QdS:List Item:=([.code [1,1,1,0,1,0,0,1,0,0,1,0,1,0,0],.inLoop [1,1,1,0,1,0,0,1,0,0,1,0,1,0,0],.inBlock 6,.code [1,1,1,0,1,0,0,1,0,0,1,1],.inBlock 5,.code [1,1,1,0,1,0,0,1,1],.inLoop [1,1,1,0,1,0,0],.inBlock 4,.code [1,1,1,1]]).map (it (Qar YP 44))
def Qxr (B:Lo) (c0:CF) (s:Qaa) (i j:Int):Prop:=∃dJ:Nat->Value,(∀t,Qbc (dJ t))/\GoE YP B c0 H00 1 (Qa9 44 110 (([1,5,6,7]:List Nat).zip (QdQ s i j)) dJ QdS) (Qa5 (QbK s i j)) (2+(QbK s i j).length) []
def Qng (B:Lo) (s:Qaa) (i:Int) (dJ0:Nat->Value):List Prop:=[i=(↑i.toNat:Int)/\Int.toNat i < List.length s.stock/\Array.extract (Qac Qal s.stock) (Int.toNat i * TypeInfo.size Tryz.t3) (Int.toNat i * TypeInfo.size Tryz.t3+TypeInfo.size Tryz.t3)=#[.int .i64 (s.stock.getD i.toNat default)],ltq i (↑s.stock.length:Int)=true]++([]:List Prop)
def Qr1 (s:Qaa) (i:Int) (dJ0:Nat->Value):Qaz:=[(4,hvT),(8,Qaf.tidx i.toNat #[.int .i64 (s.stock.getD i.toNat default)])]
theorem Qz4 (B:Lo) (s:Qaa) (i:Int) (dJ0:Nat->Value):landM (Qam YP (Qa1 YP) J0 B 14 1 (Qa9 44 110 (([1,3]:List Nat).zip (QfL s i)) dJ0 Qge) (Qa5 (Qdq s i)) (2+(Qdq s i).length)
 (Qr1 s i dJ0++[(10,Qaf.pure (.bool true) []),(13,hvI (i+1))]) 0 [] []) [1,3] [(2,KS.auto)] []=some ⟨44,110,Qge,[],.run,none,QfL s (i+1),Qdq s (i+1),
 [wq (i+1)=i+1,QaA []/\Qaq YP J0 69 #[.int .i64 (s.stock.getD i.toNat default),.int .i64 0,.int .i64 100000] (.bool true)]++Qng B s i dJ0⟩:=by kernel_rfl
theorem Qyl (B:Lo) (s:Qaa) (i:Int) (dJ0:Nat->Value):QaY (Qam YP (Qa1 YP) J0 B 14 1 (Qa9 44 110 (([1,3]:List Nat).zip (QfL s i)) dJ0 Qge) (Qa5 (Qdq s i)) (2+(Qdq s i).length)
 (Qr1 s i dJ0++[(10,Qaf.pure (.bool false) [])]) 0 [] []) []=some (.bool false,
 [QaA []/\Qaq YP J0 69 #[.int .i64 (s.stock.getD i.toNat default),.int .i64 0,.int .i64 100000] (.bool false)]++Qng B s i dJ0):=by kernel_rfl
theorem QwM (B:Lo) (s:Qaa) (i:Int) (dJ0:Nat->Value):landM (Qam YP (Qa1 YP) J0 B 10 1 (Qa9 44 110 (([1,3]:List Nat).zip (QfL s i)) dJ0 Qge) (Qa5 (Qdq s i)) (2+(Qdq s i).length)
 [(4,hvF)] 0 [] []) [1,4] [(2,KS.auto)] []=some ⟨44,110,Qgf,[],.run,none,QfQ s (0),Qdv s (0),
 [ltq i (↑s.stock.length:Int)=false]⟩:=by kernel_rfl
def Qns (B:Lo) (s:Qaa) (i:Int) (dJ0:Nat->Value):List Prop:=[i=(↑i.toNat:Int)/\Int.toNat i < List.length s.use/\Array.extract (Qac Qa7 s.use) (Int.toNat i * TypeInfo.size Tryz.t25) (Int.toNat i * TypeInfo.size Tryz.t25+TypeInfo.size Tryz.t25)=#[.int .i64 (Span.lo (s.use.getD i.toNat default)),.int .i64 (Span.hi (s.use.getD i.toNat default))],ltq i (↑s.use.length:Int)=true]++([]:List Prop)
def Qq7 (s:Qaa) (i:Int) (dJ0:Nat->Value):Qaz:=[(4,hvT),(8,Qaf.tidx i.toNat #[.int .i64 (Span.lo (s.use.getD i.toNat default)),.int .i64 (Span.hi (s.use.getD i.toNat default))])]
theorem Qy3 (B:Lo) (s:Qaa) (i:Int) (dJ0:Nat->Value):landM (Qam YP (Qa1 YP) J0 B 14 1 (Qa9 44 110 (([1,4]:List Nat).zip (QfQ s i)) dJ0 Qgf) (Qa5 (Qdv s i)) (2+(Qdv s i).length)
 (Qq7 s i dJ0++[(10,Qaf.pure (.bool true) []),(13,hvI (i+1))]) 0 [] []) [1,4] [(2,KS.auto)] []=some ⟨44,110,Qgf,[],.run,none,QfQ s (i+1),Qdv s (i+1),
 [wq (i+1)=i+1,QaA []/\Qaq YP J0 70 #[.agg #[.int .i64 (Span.lo (s.use.getD i.toNat default)),.int .i64 (Span.hi (s.use.getD i.toNat default))],.int .i64 0,.int .i64 1000] (.bool true)]++Qns B s i dJ0⟩:=by kernel_rfl
theorem Qz9 (B:Lo) (s:Qaa) (i:Int) (dJ0:Nat->Value):QaY (Qam YP (Qa1 YP) J0 B 14 1 (Qa9 44 110 (([1,4]:List Nat).zip (QfQ s i)) dJ0 Qgf) (Qa5 (Qdv s i)) (2+(Qdv s i).length)
 (Qq7 s i dJ0++[(10,Qaf.pure (.bool false) [])]) 0 [] []) []=some (.bool false,
 [QaA []/\Qaq YP J0 70 #[.agg #[.int .i64 (Span.lo (s.use.getD i.toNat default)),.int .i64 (Span.hi (s.use.getD i.toNat default))],.int .i64 0,.int .i64 1000] (.bool false)]++Qns B s i dJ0):=by kernel_rfl
theorem QwK (B:Lo) (s:Qaa) (i:Int) (dJ0:Nat->Value):landM (Qam YP (Qa1 YP) J0 B 10 1 (Qa9 44 110 (([1,4]:List Nat).zip (QfQ s i)) dJ0 Qgf) (Qa5 (Qdv s i)) (2+(Qdv s i).length)
 [(4,hvF)] 0 [] []) [1,5] [(2,KS.auto)] []=some ⟨44,110,Qdn,[],.run,none,Qdw s (0),Qb3 s (0),
 [ltq i (↑s.use.length:Int)=false]⟩:=by kernel_rfl
theorem Qxz (B:Lo) (s:Qaa) (i:Int) (dJ0:Nat->Value):landM (Qam YP (Qa1 YP) J0 B 14 1 (Qa9 44 110 (([1,5]:List Nat).zip (Qdw s i)) dJ0 Qdn) (Qa5 (Qb3 s i)) (2+(Qb3 s i).length)
 [(4,hvT),(8,Qaf.tidx i.toNat #[slT (List.length (Qad.goods (s.lots.getD i.toNat default))) (Qac Qa7 (Qad.goods (s.lots.getD i.toNat default))),.int .i64 (Qad.weight (s.lots.getD i.toNat default)),.int .i64 (Qad.cost (s.lots.getD i.toNat default))])] 0 [] []) [1,5,6,7] [(2,KS.auto),(3,KS.auto)] []=some ⟨44,110,QdS,[],.run,none,QdQ s (i) (0),QbK s (i) (0),
 [i=(↑i.toNat:Int)/\Int.toNat i < List.length s.lots/\Array.extract (Qac Qap s.lots) (Int.toNat i * TypeInfo.size Tryz.t118) (Int.toNat i * TypeInfo.size Tryz.t118+TypeInfo.size Tryz.t118)=#[slT (List.length (Qad.goods (s.lots.getD i.toNat default))) (Qac Qa7 (Qad.goods (s.lots.getD i.toNat default))),.int .i64 (Qad.weight (s.lots.getD i.toNat default)),.int .i64 (Qad.cost (s.lots.getD i.toNat default))],ltq i (↑s.lots.length:Int)=true]⟩:=by kernel_rfl
def Ql2 (B:Lo) (s:Qaa) (i:Int) (dJ0:Nat->Value):List Prop:=[ltq i (↑s.lots.length:Int)=false]++([]:List Prop)
def Qqs (s:Qaa) (i:Int) (dJ0:Nat->Value):Qaz:=[(4,hvF)]
def QlK (B:Lo) (s:Qaa) (i:Int) (dJ0:Nat->Value):List Prop:=[QaA []/\Qaq YP J0 69 #[.int .i64 (↑s.stock.length:Int),.int .i64 1,.int .i64 4] (.bool true)]++Ql2 B s i dJ0
def QpS (s:Qaa) (i:Int) (dJ0:Nat->Value):Qaz:=Qqs s i dJ0++[(8,Qaf.pure (.bool true) [])]
def QmL (B:Lo) (s:Qaa) (i:Int) (dJ0:Nat->Value):List Prop:=[eqq (↑s.use.length:Int) (↑s.stock.length:Int)=true]++QlK B s i dJ0
def QrL (s:Qaa) (i:Int) (dJ0:Nat->Value):Qaz:=QpS s i dJ0++[(16,hvT)]
def Qlr (B:Lo) (s:Qaa) (i:Int) (dJ0:Nat->Value):List Prop:=[QaA []/\Qaq YP J0 30 #[.agg #[.int .i64 s.glo,.int .i64 s.ghi]] (.bool true)]++QmL B s i dJ0
def Qqc (s:Qaa) (i:Int) (dJ0:Nat->Value):Qaz:=QrL s i dJ0++[(21,Qaf.pure (.bool true) [])]
def Qmy (B:Lo) (s:Qaa) (i:Int) (dJ0:Nat->Value):List Prop:=[(!ltq 6 (↑s.lots.length:Int))=true]++Qlr B s i dJ0
def Qrg (s:Qaa) (i:Int) (dJ0:Nat->Value):Qaz:=Qqc s i dJ0++[(27,hvT)]
theorem Qxy (B:Lo) (s:Qaa) (i:Int) (dJ0:Nat->Value):QaY (Qam YP (Qa1 YP) J0 B 9 1 (Qa9 44 110 (([1,5]:List Nat).zip (Qdw s i)) dJ0 Qdn) (Qa5 (Qb3 s i)) (2+(Qb3 s i).length)
 (Qrg s i dJ0++[(32,Qaf.pure (.bool true) [])]) 0 [] []) []=some (.bool true,
 [QaA []/\Qaq YP J0 69 #[.int .i64 s.hold,.int .i64 0,.int .i64 100000] (.bool true)]++Qmy B s i dJ0):=by kernel_rfl
theorem Qx3 (B:Lo) (s:Qaa) (i:Int) (dJ0:Nat->Value):QaY (Qam YP (Qa1 YP) J0 B 9 1 (Qa9 44 110 (([1,5]:List Nat).zip (Qdw s i)) dJ0 Qdn) (Qa5 (Qb3 s i)) (2+(Qb3 s i).length)
 (Qrg s i dJ0++[(32,Qaf.pure (.bool false) [])]) 0 [] []) []=some (.bool false,
 [QaA []/\Qaq YP J0 69 #[.int .i64 s.hold,.int .i64 0,.int .i64 100000] (.bool false)]++Qmy B s i dJ0):=by kernel_rfl
theorem QxG (B:Lo) (s:Qaa) (i:Int) (dJ0:Nat->Value):QaY (Qam YP (Qa1 YP) J0 B 9 1 (Qa9 44 110 (([1,5]:List Nat).zip (Qdw s i)) dJ0 Qdn) (Qa5 (Qb3 s i)) (2+(Qb3 s i).length)
 (Qqc s i dJ0++[(27,hvF)]) 0 [] []) []=some (.bool false,
 [(!ltq 6 (↑s.lots.length:Int))=false]++Qlr B s i dJ0):=by kernel_rfl
theorem Qwg (B:Lo) (s:Qaa) (i:Int) (dJ0:Nat->Value):QaY (Qam YP (Qa1 YP) J0 B 9 1 (Qa9 44 110 (([1,5]:List Nat).zip (Qdw s i)) dJ0 Qdn) (Qa5 (Qb3 s i)) (2+(Qb3 s i).length)
 (QrL s i dJ0++[(21,Qaf.pure (.bool false) [])]) 0 [] []) []=some (.bool false,
 [QaA []/\Qaq YP J0 30 #[.agg #[.int .i64 s.glo,.int .i64 s.ghi]] (.bool false)]++QmL B s i dJ0):=by kernel_rfl
theorem QvN (B:Lo) (s:Qaa) (i:Int) (dJ0:Nat->Value):QaY (Qam YP (Qa1 YP) J0 B 9 1 (Qa9 44 110 (([1,5]:List Nat).zip (Qdw s i)) dJ0 Qdn) (Qa5 (Qb3 s i)) (2+(Qb3 s i).length)
 (QpS s i dJ0++[(16,hvF)]) 0 [] []) []=some (.bool false,
 [eqq (↑s.use.length:Int) (↑s.stock.length:Int)=false]++QlK B s i dJ0):=by kernel_rfl
theorem Qv0 (B:Lo) (s:Qaa) (i:Int) (dJ0:Nat->Value):QaY (Qam YP (Qa1 YP) J0 B 9 1 (Qa9 44 110 (([1,5]:List Nat).zip (Qdw s i)) dJ0 Qdn) (Qa5 (Qb3 s i)) (2+(Qb3 s i).length)
 (Qqs s i dJ0++[(8,Qaf.pure (.bool false) [])]) 0 [] []) []=some (.bool false,
 [QaA []/\Qaq YP J0 69 #[.int .i64 (↑s.stock.length:Int),.int .i64 1,.int .i64 4] (.bool false)]++Ql2 B s i dJ0):=by kernel_rfl
def Qm9 (B:Lo) (s:Qaa) (i j:Int) (dJ0:Nat->Value):List Prop:=[j=(↑j.toNat:Int)/\Int.toNat j < List.length (Qad.goods (s.lots.getD i.toNat default))/\Array.extract (Qac Qa7 (Qad.goods (s.lots.getD i.toNat default))) (Int.toNat j * TypeInfo.size Tryz.t25) (Int.toNat j * TypeInfo.size Tryz.t25+TypeInfo.size Tryz.t25)=#[.int .i64 (Span.lo (List.getD (Qad.goods (s.lots.getD i.toNat default)) j.toNat default)),.int .i64 (Span.hi (List.getD (Qad.goods (s.lots.getD i.toNat default)) j.toNat default))],ltq j (↑(List.length (Qad.goods (s.lots.getD i.toNat default))):Int)=true]++([]:List Prop)
def Qqa (s:Qaa) (i j:Int) (dJ0:Nat->Value):Qaz:=[(4,hvT),(8,Qaf.tidx j.toNat #[.int .i64 (Span.lo (List.getD (Qad.goods (s.lots.getD i.toNat default)) j.toNat default)),.int .i64 (Span.hi (List.getD (Qad.goods (s.lots.getD i.toNat default)) j.toNat default))])]
theorem QvO (B:Lo) (s:Qaa) (i j:Int) (dJ0:Nat->Value):landM (Qam YP (Qa1 YP) J0 B 14 1 (Qa9 44 110 (([1,5,6,7]:List Nat).zip (QdQ s i j)) dJ0 QdS) (Qa5 (QbK s i j)) (2+(QbK s i j).length)
 (Qqa s i j dJ0++[(10,Qaf.pure (.bool true) []),(13,hvI (j+1))]) 0 [] []) [1,5,6,7] [(2,KS.auto),(3,KS.auto)] []=some ⟨44,110,QdS,[],.run,none,QdQ s (i) (j+1),QbK s (i) (j+1),
 [wq (j+1)=j+1,QaA []/\Qaq YP J0 70 #[.agg #[.int .i64 (Span.lo (List.getD (Qad.goods (s.lots.getD i.toNat default)) j.toNat default)),.int .i64 (Span.hi (List.getD (Qad.goods (s.lots.getD i.toNat default)) j.toNat default))],.int .i64 0,.int .i64 100000] (.bool true)]++Qm9 B s i j dJ0⟩:=by kernel_rfl
theorem Qwt (B:Lo) (s:Qaa) (i j:Int) (dJ0:Nat->Value):QaY (Qam YP (Qa1 YP) J0 B 14 1 (Qa9 44 110 (([1,5,6,7]:List Nat).zip (QdQ s i j)) dJ0 QdS) (Qa5 (QbK s i j)) (2+(QbK s i j).length)
 (Qqa s i j dJ0++[(10,Qaf.pure (.bool false) [])]) 0 [] []) []=some (.bool false,
 [QaA []/\Qaq YP J0 70 #[.agg #[.int .i64 (Span.lo (List.getD (Qad.goods (s.lots.getD i.toNat default)) j.toNat default)),.int .i64 (Span.hi (List.getD (Qad.goods (s.lots.getD i.toNat default)) j.toNat default))],.int .i64 0,.int .i64 100000] (.bool false)]++Qm9 B s i j dJ0):=by kernel_rfl
def Qnj (B:Lo) (s:Qaa) (i j:Int) (dJ0:Nat->Value):List Prop:=[ltq j (↑(List.length (Qad.goods (s.lots.getD i.toNat default))):Int)=false]++([]:List Prop)
def Qqy (s:Qaa) (i j:Int) (dJ0:Nat->Value):Qaz:=[(4,hvF)]
theorem Qwu (B:Lo) (s:Qaa) (i j:Int) (dJ0:Nat->Value):QaY (Qam YP (Qa1 YP) J0 B 12 1 (Qa9 44 110 (([1,5,6,7]:List Nat).zip (QdQ s i j)) dJ0 QdS) (Qa5 (QbK s i j)) (2+(QbK s i j).length)
 (Qqy s i j dJ0++[(11,hvT)]) 0 [] []) []=some (.bool false,
 [(!eqq (↑(List.length (Qad.goods (s.lots.getD i.toNat default))):Int) (↑s.stock.length:Int))=true]++Qnj B s i j dJ0):=by kernel_rfl
def QmD (B:Lo) (s:Qaa) (i j:Int) (dJ0:Nat->Value):List Prop:=[(!eqq (↑(List.length (Qad.goods (s.lots.getD i.toNat default))):Int) (↑s.stock.length:Int))=false]++Qnj B s i j dJ0
def QrC (s:Qaa) (i j:Int) (dJ0:Nat->Value):Qaz:=Qqy s i j dJ0++[(11,hvF)]
def Qkg (B:Lo) (s:Qaa) (i j:Int) (dJ0:Nat->Value):List Prop:=[QaA []/\Qaq YP J0 69 #[.int .i64 (Qad.weight (s.lots.getD i.toNat default)),.int .i64 0,.int .i64 100000] (.bool true)]++QmD B s i j dJ0
def Qob (s:Qaa) (i j:Int) (dJ0:Nat->Value):Qaz:=QrC s i j dJ0++[(15,Qaf.pure (.bool true) [])]
theorem QvY (B:Lo) (s:Qaa) (i j:Int) (dJ0:Nat->Value):landM (Qam YP (Qa1 YP) J0 B 12 1 (Qa9 44 110 (([1,5,6,7]:List Nat).zip (QdQ s i j)) dJ0 QdS) (Qa5 (QbK s i j)) (2+(QbK s i j).length)
 (Qob s i j dJ0++[(21,Qaf.pure (.bool true) []),(25,hvI (i+1))]) 0 [] []) [1,5] [(2,KS.auto)] []=some ⟨44,110,Qdn,[],.run,none,Qdw s (i+1),Qb3 s (i+1),
 [wq (i+1)=i+1,QaA []/\Qaq YP J0 69 #[.int .i64 (Qad.cost (s.lots.getD i.toNat default)),.int .i64 0,.int .i64 1000000] (.bool true)]++Qkg B s i j dJ0⟩:=by kernel_rfl
theorem Qvr (B:Lo) (s:Qaa) (i j:Int) (dJ0:Nat->Value):QaY (Qam YP (Qa1 YP) J0 B 12 1 (Qa9 44 110 (([1,5,6,7]:List Nat).zip (QdQ s i j)) dJ0 QdS) (Qa5 (QbK s i j)) (2+(QbK s i j).length)
 (Qob s i j dJ0++[(21,Qaf.pure (.bool false) [])]) 0 [] []) []=some (.bool false,
 [QaA []/\Qaq YP J0 69 #[.int .i64 (Qad.cost (s.lots.getD i.toNat default)),.int .i64 0,.int .i64 1000000] (.bool false)]++Qkg B s i j dJ0):=by kernel_rfl
theorem QwF (B:Lo) (s:Qaa) (i j:Int) (dJ0:Nat->Value):QaY (Qam YP (Qa1 YP) J0 B 12 1 (Qa9 44 110 (([1,5,6,7]:List Nat).zip (QdQ s i j)) dJ0 QdS) (Qa5 (QbK s i j)) (2+(QbK s i j).length)
 (QrC s i j dJ0++[(15,Qaf.pure (.bool false) [])]) 0 [] []) []=some (.bool false,
 [QaA []/\Qaq YP J0 69 #[.int .i64 (Qad.weight (s.lots.getD i.toNat default)),.int .i64 0,.int .i64 100000] (.bool false)]++QmD B s i j dJ0):=by kernel_rfl
theorem Qvc (B:Lo) (s:Qaa):landM (Qam YP (Qa1 YP) J0 B 7 1 (Qaj YP 44 110 (([.agg (Qah s).toArray]).map (Qat 0 4))) H00 1
 [] 0 [] []) [1,3] [(1,KS.auto)] []=some ⟨44,110,Qge,[],.run,none,QfL s (0),Qdq s (0),
 []⟩:=by kernel_rfl
set_option maxHeartbeats 4000000 in
theorem Qxw (s:Qaa) (hb:∀l∈s.lots,l.goods.length<=8) (hfacts:s.stock.length<=9223372036854775807/\s.use.length<=9223372036854775807/\s.lots.length<=9223372036854775807) {B:Lo} (hJ:∀w,B.has w->J0 w) {c0:CF}:∀m:Nat,(∀(i:Int),(s.stock.length - i.toNat)+s.use.length+wtL s.lots+9=m->∀(h0:0<=i),QzX B c0 s i->EndsT YP B c0 (.bool ((s.stock.drop i.toNat).all (fun x=> inB x 0 100000) && (QcK s.use 1000 && (s.lots.all (Qql s.stock.length) && storeT s)))))/\(∀(i:Int),(s.use.length - i.toNat)+wtL s.lots+8=m->∀(h0:0<=i),Qy4 B c0 s i->EndsT YP B c0 (.bool ((s.use.drop i.toNat).all (fun s=> QbE s.lo s.hi 0 1000) && (s.lots.all (Qql s.stock.length) && storeT s))))/\(∀(i:Int),wtL (s.lots.drop i.toNat)+1=m->∀(h0:0<=i),Qzg B c0 s i->EndsT YP B c0 (.bool ((s.lots.drop i.toNat).all (Qql s.stock.length) && storeT s)))/\(∀(i j:Int),((s.lots.getD i.toNat default).goods.length - j.toNat)+wtL (s.lots.drop (i+1).toNat)+2=m->∀(h0:0<=i) (h1:i < s.lots.length) (j0:0<=j),Qxr B c0 s i j->EndsT YP B c0 (.bool ((((s.lots.getD i.toNat default).goods.drop j.toNat).all (fun s=> QbE s.lo s.hi 0 100000) && (decide ((s.lots.getD i.toNat default).goods.length=s.stock.length) && (inB (s.lots.getD i.toNat default).weight 0 100000 && inB (s.lots.getD i.toNat default).cost 0 1000000))) && ((s.lots.drop (i+1).toNat).all (Qql s.stock.length) && storeT s)))):=by
 intro m0;induction m0 using Nat.strongRecOn with
 | _ m0 ih0=>
   refine ⟨?_, ?_, ?_, ?_⟩
   ·intro i hm0 h0 ⟨dJ0,hdJ0,hg0⟩;by_cases q0:(i:Int) < ((↑s.stock.length:Int))
    ·have hp0:QaA (Qng B s i dJ0):=by
      have s2:=Qcn (l:=s.stock) (p:=fun x=> inB x 0 100000) h0 q0;exact ⟨⟨by omega,by omega,(Qae (z:=1) (fun _=> rfl) (by omega))⟩,⟨(QaW q0),trivial⟩⟩
     cases q1:inB (s.stock.getD i.toNat default) 0 100000 with
     | true=>
       have s2:=Qcn (l:=s.stock) (p:=fun x=> inB x 0 100000) h0 q0;exact ((ih0 _ (by omega)).1 (i+1) rfl (by omega)
        (hg0.landM okF hJ Qab (Qz4 B s i dJ0)
        ⟨(QaL (by omega) (by omega)),⟨⟨trivial,(by have t_:=rin (s.stock.getD i.toNat default) (0) (100000);rw [q1] at t_;exact t_)⟩,hp0⟩⟩ (by kernel_rfl) (by kernel_rfl))).cast (by (simp only [s2,q1,Bool.true_and,Bool.false_and];done))
     | false=>
       have s2:=Qcn (l:=s.stock) (p:=fun x=> inB x 0 100000) h0 q0;exact (GoE.endsT okF hJ Qab hg0 (Qyl B s i dJ0)
        ⟨⟨trivial,(by have t_:=rin (s.stock.getD i.toNat default) (0) (100000);rw [q1] at t_;exact t_)⟩,hp0⟩).cast (by (simp only [s2,q1,Bool.true_and,Bool.false_and];done))
    ·have s2:=Qbn (l:=s.stock) (p:=fun x=> inB x 0 100000) (i:=i) (by omega);exact ((ih0 _ (by (first | omega | (simp only [Int.toNat_zero,List.drop_zero];omega)))).2.1 (0) rfl (by omega)
      (hg0.landM okF hJ Qab (QwM B s i dJ0)
      ⟨(Qbh (Int.not_lt.1 q0)),trivial⟩ (by kernel_rfl) (by kernel_rfl))).cast (by (simp only [s2,QcK,Int.toNat_zero,List.drop_zero,Bool.true_and];done))
   ·intro i hm0 h0 ⟨dJ0,hdJ0,hg0⟩;by_cases q0:(i:Int) < ((↑s.use.length:Int))
    ·have hp1:QaA (Qns B s i dJ0):=by
      have s2:=Qcn (l:=s.use) (p:=fun s=> QbE s.lo s.hi 0 1000) h0 q0;have m2:wtL (s.lots.drop (Int.toNat 0))=wtL s.lots:=rfl;exact ⟨⟨by omega,by omega,(Qae (z:=2) (fun _=> rfl) (by omega))⟩,⟨(QaW q0),trivial⟩⟩
     cases q1:QbE (Span.lo (s.use.getD i.toNat default)) (Span.hi (s.use.getD i.toNat default)) 0 1000 with
     | true=>
       have s2:=Qcn (l:=s.use) (p:=fun s=> QbE s.lo s.hi 0 1000) h0 q0;have m2:wtL (s.lots.drop (Int.toNat 0))=wtL s.lots:=rfl;exact ((ih0 _ (by (first | omega | (simp only [Int.toNat_zero,List.drop_zero];omega)))).2.1 (i+1) rfl (by omega)
        (hg0.landM okF hJ Qab (Qy3 B s i dJ0)
        ⟨(QaL (by omega) (by omega)),⟨⟨trivial,(by have t_:=Qwz (Span.lo (s.use.getD i.toNat default)) (Span.hi (s.use.getD i.toNat default)) (0) (1000);rw [q1] at t_;exact t_)⟩,hp1⟩⟩ (by kernel_rfl) (by kernel_rfl))).cast (by (simp only [s2,q1,Bool.true_and,Bool.false_and];done))
     | false=>
       have s2:=Qcn (l:=s.use) (p:=fun s=> QbE s.lo s.hi 0 1000) h0 q0;have m2:wtL (s.lots.drop (Int.toNat 0))=wtL s.lots:=rfl;exact (GoE.endsT okF hJ Qab hg0 (Qz9 B s i dJ0)
        ⟨⟨trivial,(by have t_:=Qwz (Span.lo (s.use.getD i.toNat default)) (Span.hi (s.use.getD i.toNat default)) (0) (1000);rw [q1] at t_;exact t_)⟩,hp1⟩).cast (by (simp only [s2,q1,Bool.true_and,Bool.false_and];done))
    ·have s2:=Qbn (l:=s.use) (p:=fun s=> QbE s.lo s.hi 0 1000) (i:=i) (by omega);have m2:wtL (s.lots.drop (Int.toNat 0))=wtL s.lots:=rfl;exact ((ih0 _ (by (first | omega | (simp only [Int.toNat_zero,List.drop_zero];omega)))).2.2.1 (0) rfl (by omega)
      (hg0.landM okF hJ Qab (QwK B s i dJ0)
      ⟨(Qbh (Int.not_lt.1 q0)),trivial⟩ (by kernel_rfl) (by kernel_rfl))).cast (by (simp only [s2,Int.toNat_zero,List.drop_zero,Bool.true_and];done))
   ·intro i hm0 h0 ⟨dJ0,hdJ0,hg0⟩;by_cases q0:(i:Int) < ((↑s.lots.length:Int))
    ·have s2:=Qcn (l:=s.lots) (p:=Qql s.stock.length) h0 q0;have s3:=Q4X (l:=s.lots) h0 q0;exact ((ih0 _ (by omega)).2.2.2 (i) (0) rfl (by with_reducible assumption) (by with_reducible assumption) (by omega)
      (hg0.landM okF hJ Qab (Qxz B s i dJ0)
      ⟨⟨by omega,by omega,(Qae (z:=3) (fun _=> rfl) (by omega))⟩,⟨(QaW q0),trivial⟩⟩ (by kernel_rfl) (by kernel_rfl))).cast (by (simp only [s2,Qql,QcK,Int.toNat_zero,List.drop_zero,Bool.and_assoc];done))
    ·have hp2:QaA (Ql2 B s i dJ0):=by
      exact ⟨(Qbh (Int.not_lt.1 q0)),trivial⟩
     cases q1:inB (↑s.stock.length:Int) 1 4 with
     | true=>
       have hp3:QaA (QlK B s i dJ0):=by
        have s2:=Qbn (l:=s.lots) (p:=Qql s.stock.length) (i:=i) (by omega);exact ⟨⟨trivial,(by have t_:=rin ((↑s.stock.length:Int)) (1) (4);rw [q1] at t_;exact t_)⟩,hp2⟩
       by_cases q2:((↑s.use.length:Int):Int)=((↑s.stock.length:Int))
       ·have hp4:QaA (QmL B s i dJ0):=by
         exact ⟨(QuQ q2),hp3⟩
        cases q3:QbE s.glo s.ghi 1 60 with
        | true=>
          have hp5:QaA (Qlr B s i dJ0):=by
           have s2:=Qbn (l:=s.lots) (p:=Qql s.stock.length) (i:=i) (by omega);exact ⟨⟨trivial,(by have t_:=Q7i s.glo s.ghi;rw [q3] at t_;exact t_)⟩,hp4⟩
          by_cases q4:((↑s.lots.length:Int):Int)<=(6)
          ·have hp6:QaA (Qmy B s i dJ0):=by
            exact ⟨(Qdj q4),hp5⟩
           cases q5:inB s.hold 0 100000 with
           | true=>
             have s2:=Qbn (l:=s.lots) (p:=Qql s.stock.length) (i:=i) (by omega);exact (GoE.endsT okF hJ Qab hg0 (Qxy B s i dJ0)
              ⟨⟨trivial,(by have t_:=rin s.hold (0) (100000);rw [q5] at t_;exact t_)⟩,hp6⟩).cast (by (rw [s2];simp_all [storeT];omega))
           | false=>
             have s2:=Qbn (l:=s.lots) (p:=Qql s.stock.length) (i:=i) (by omega);exact (GoE.endsT okF hJ Qab hg0 (Qx3 B s i dJ0)
              ⟨⟨trivial,(by have t_:=rin s.hold (0) (100000);rw [q5] at t_;exact t_)⟩,hp6⟩).cast (by (rw [s2];simp [storeT, *];done))
          ·have s2:=Qbn (l:=s.lots) (p:=Qql s.stock.length) (i:=i) (by omega);exact (GoE.endsT okF hJ Qab hg0 (QxG B s i dJ0)
            ⟨(Qdi (Int.not_le.1 q4)),hp5⟩).cast (by (rw [s2];simp_all [storeT];omega))
        | false=>
          have s2:=Qbn (l:=s.lots) (p:=Qql s.stock.length) (i:=i) (by omega);exact (GoE.endsT okF hJ Qab hg0 (Qwg B s i dJ0)
           ⟨⟨trivial,(by have t_:=Q7i s.glo s.ghi;rw [q3] at t_;exact t_)⟩,hp4⟩).cast (by (rw [s2];simp [storeT, *];done))
       ·have s2:=Qbn (l:=s.lots) (p:=Qql s.stock.length) (i:=i) (by omega);exact (GoE.endsT okF hJ Qab hg0 (QvN B s i dJ0)
         ⟨(Qw8 q2),hp3⟩).cast (by (rw [s2];simp_all [storeT];omega))
     | false=>
       have s2:=Qbn (l:=s.lots) (p:=Qql s.stock.length) (i:=i) (by omega);exact (GoE.endsT okF hJ Qab hg0 (Qv0 B s i dJ0)
        ⟨⟨trivial,(by have t_:=rin ((↑s.stock.length:Int)) (1) (4);rw [q1] at t_;exact t_)⟩,hp2⟩).cast (by (rw [s2];simp [storeT, *];done))
   ·intro i j hm0 h0 h1 j0 ⟨dJ0,hdJ0,hg0⟩;have hgl:=hb _ (QaH h0 h1);by_cases q0:(j:Int) < ((↑(List.length (Qad.goods (s.lots.getD i.toNat default))):Int))
    ·have hp7:QaA (Qm9 B s i j dJ0):=by
      have s2:=Qcn (l:=(s.lots.getD i.toNat default).goods) (p:=fun s=> QbE s.lo s.hi 0 100000) j0 q0;exact ⟨⟨by omega,by omega,(Qae (z:=2) (fun _=> rfl) (by omega))⟩,⟨(QaW q0),trivial⟩⟩
     cases q1:QbE (Span.lo (List.getD (Qad.goods (s.lots.getD i.toNat default)) j.toNat default)) (Span.hi (List.getD (Qad.goods (s.lots.getD i.toNat default)) j.toNat default)) 0 100000 with
     | true=>
       have s2:=Qcn (l:=(s.lots.getD i.toNat default).goods) (p:=fun s=> QbE s.lo s.hi 0 100000) j0 q0;exact ((ih0 _ (by omega)).2.2.2 (i) (j+1) rfl (by with_reducible assumption) (by with_reducible assumption) (by omega)
        (hg0.landM okF hJ Qab (QvO B s i j dJ0)
        ⟨(QaL (by omega) (by omega)),⟨⟨trivial,(by have t_:=Qwz (Span.lo (List.getD (Qad.goods (s.lots.getD i.toNat default)) j.toNat default)) (Span.hi (List.getD (Qad.goods (s.lots.getD i.toNat default)) j.toNat default)) (0) (100000);rw [q1] at t_;exact t_)⟩,hp7⟩⟩ (by kernel_rfl) (by kernel_rfl))).cast (by (simp only [s2,q1,Bool.true_and,Bool.false_and];done))
     | false=>
       have s2:=Qcn (l:=(s.lots.getD i.toNat default).goods) (p:=fun s=> QbE s.lo s.hi 0 100000) j0 q0;exact (GoE.endsT okF hJ Qab hg0 (Qwt B s i j dJ0)
        ⟨⟨trivial,(by have t_:=Qwz (Span.lo (List.getD (Qad.goods (s.lots.getD i.toNat default)) j.toNat default)) (Span.hi (List.getD (Qad.goods (s.lots.getD i.toNat default)) j.toNat default)) (0) (100000);rw [q1] at t_;exact t_)⟩,hp7⟩).cast (by (simp only [s2,q1,Bool.true_and,Bool.false_and];done))
    ·have hp8:QaA (Qnj B s i j dJ0):=by
      exact ⟨(Qbh (Int.not_lt.1 q0)),trivial⟩
     by_cases q1:((↑(List.length (Qad.goods (s.lots.getD i.toNat default))):Int):Int)≠((↑s.stock.length:Int))
     ·have s2:=Qbn (l:=(s.lots.getD i.toNat default).goods) (p:=fun s=> QbE s.lo s.hi 0 100000) (i:=j) (by omega);exact (GoE.endsT okF hJ Qab hg0 (Qwu B s i j dJ0)
       ⟨(QmQ q1),hp8⟩).cast (by (simp only [s2,Bool.true_and];simp_all;omega))
     ·have hp9:QaA (QmD B s i j dJ0):=by
       exact ⟨(QmC (Decidable.of_not_not q1)),hp8⟩
      cases q2:inB (Qad.weight (s.lots.getD i.toNat default)) 0 100000 with
      | true=>
        have hp10:QaA (Qkg B s i j dJ0):=by
         have s2:=Qbn (l:=(s.lots.getD i.toNat default).goods) (p:=fun s=> QbE s.lo s.hi 0 100000) (i:=j) (by omega);exact ⟨⟨trivial,(by have t_:=rin (Qad.weight (s.lots.getD i.toNat default)) (0) (100000);rw [q2] at t_;exact t_)⟩,hp9⟩
        cases q3:inB (Qad.cost (s.lots.getD i.toNat default)) 0 1000000 with
        | true=>
          have s2:=Qbn (l:=(s.lots.getD i.toNat default).goods) (p:=fun s=> QbE s.lo s.hi 0 100000) (i:=j) (by omega);exact ((ih0 _ (by omega)).2.2.1 (i+1) rfl (by omega)
           (hg0.landM okF hJ Qab (QvY B s i j dJ0)
           ⟨(QaL (by omega) (by omega)),⟨⟨trivial,(by have t_:=rin (Qad.cost (s.lots.getD i.toNat default)) (0) (1000000);rw [q3] at t_;exact t_)⟩,hp10⟩⟩ (by kernel_rfl) (by kernel_rfl))).cast (by (simp only [s2,Bool.true_and];simp_all;omega))
        | false=>
          have s2:=Qbn (l:=(s.lots.getD i.toNat default).goods) (p:=fun s=> QbE s.lo s.hi 0 100000) (i:=j) (by omega);exact (GoE.endsT okF hJ Qab hg0 (Qvr B s i j dJ0)
           ⟨⟨trivial,(by have t_:=rin (Qad.cost (s.lots.getD i.toNat default)) (0) (1000000);rw [q3] at t_;exact t_)⟩,hp10⟩).cast (by (simp only [s2,Bool.true_and];simp [*];done))
      | false=>
        have s2:=Qbn (l:=(s.lots.getD i.toNat default).goods) (p:=fun s=> QbE s.lo s.hi 0 100000) (i:=j) (by omega);exact (GoE.endsT okF hJ Qab hg0 (QwF B s i j dJ0)
         ⟨⟨trivial,(by have t_:=rin (Qad.weight (s.lots.getD i.toNat default)) (0) (100000);rw [q2] at t_;exact t_)⟩,hp9⟩).cast (by (simp only [s2,Bool.true_and];simp [*];done))
set_option maxHeartbeats 4000000 in
theorem Q2b (s:Qaa) (hb:∀l∈s.lots,l.goods.length<=8) (hfacts:s.stock.length<=9223372036854775807/\s.use.length<=9223372036854775807/\s.lots.length<=9223372036854775807) {B:Lo} (hJ:∀w,B.has w->J0 w):EndsT YP B (Qaj YP 44 110 (([.agg (Qah s).toArray]).map (Qat 0 4))) (.bool (QuJ s)):=by
 exact ((Qxw s hb hfacts hJ _).1 (0) rfl (by omega)
  (GoE.start.landM okF hJ Qab (Qvc B s)
  trivial (by kernel_rfl) (by kernel_rfl))).cast (by rfl)
theorem Q5q (s:Qaa) (hb:∀l∈s.lots,l.goods.length<=8):Qaq YP J0 44 #[.agg (Qah s).toArray] (.bool (QuJ s)):=
 Qcw (ts:=[.agg (Qah s).toArray]) (s.stock.length<=9223372036854775807/\s.use.length<=9223372036854775807/\s.lots.length<=9223372036854775807) (fun _ _ ht=> ⟨ht.ln2 (i:=0) (j:=0) rfl rfl,ht.ln2 (i:=0) (j:=1) rfl rfl,ht.ln2 (i:=0) (j:=4) rfl rfl⟩) Qbw (c0:=Qaj YP 44 110 (([.agg (Qah s).toArray]).map (Qat 0 4))) (by kernel_rfl) (by kernel_rfl) fun hfacts B hJ=> Q2b s hb hfacts hJ
def Qcv (s:Qaa) (i:Int):List Value:=[pA 2 0,.int .i64 i]
def Qbk (s:Qaa) (i:Int):List Obj:=[Obj.cells #[Qa4 1 (slT s.stock.length (Qac Qal s.stock)),Qa4 1 (slT s.use.length (Qac Qa7 s.use)),.int .i64 s.glo,.int .i64 s.ghi,Qa4 1 (slT s.lots.length (Qac Qap s.lots)),.int .i64 s.hold] 62]
def Qcy:List Item:=([.code [1,0,1,0,0],.inLoop [1,0,1,0,0],.inBlock 0,.code [1,1]]).map (it (Qar YP 36))
def QyU (B:Lo) (c0:CF) (s:Qaa) (i:Int):Prop:=∃dJ:Nat->Value,(∀t,Qbc (dJ t))/\GoE YP B c0 H00 1 (Qa9 36 39 (([1,3]:List Nat).zip (Qcv s i)) dJ Qcy) (Qa5 (Qbk s i)) (2+(Qbk s i).length) []
def Qmk (B:Lo) (s:Qaa) (i:Int) (dJ0:Nat->Value):List Prop:=[ltq i (↑s.lots.length:Int)=true]++([]:List Prop)
def Qqi (s:Qaa) (i:Int) (dJ0:Nat->Value):Qaz:=[(4,hvT)]
def QmJ (B:Lo) (s:Qaa) (i:Int) (dJ0:Nat->Value):List Prop:=[i=(↑i.toNat:Int)/\Int.toNat i < List.length s.lots/\Array.extract (Qac Qap s.lots) (Int.toNat i * TypeInfo.size Tryz.t118) (Int.toNat i * TypeInfo.size Tryz.t118+TypeInfo.size Tryz.t118)=#[slT (List.length (Qad.goods (s.lots.getD i.toNat default))) (Qac Qa7 (Qad.goods (s.lots.getD i.toNat default))),.int .i64 (Qad.weight (s.lots.getD i.toNat default)),.int .i64 (Qad.cost (s.lots.getD i.toNat default))],ltq i 12=true]++Qmk B s i dJ0
def Qsf (s:Qaa) (i:Int) (dJ0:Nat->Value):Qaz:=Qqi s i dJ0++[(7,hvT),(12,Qaf.tidx i.toNat #[slT (List.length (Qad.goods (s.lots.getD i.toNat default))) (Qac Qa7 (Qad.goods (s.lots.getD i.toNat default))),.int .i64 (Qad.weight (s.lots.getD i.toNat default)),.int .i64 (Qad.cost (s.lots.getD i.toNat default))])]
theorem Qyi (B:Lo) (s:Qaa) (i:Int) (dJ0:Nat->Value):QaY (Qam YP (Qa1 YP) J0 B 14 1 (Qa9 36 39 (([1,3]:List Nat).zip (Qcv s i)) dJ0 Qcy) (Qa5 (Qbk s i)) (2+(Qbk s i).length)
 (Qsf s i dJ0++[(16,hvT)]) 0 [] []) []=some (.bool false,
 [ltq 8 (↑(List.length (Qad.goods (s.lots.getD i.toNat default))):Int)=true]++QmJ B s i dJ0):=by kernel_rfl
theorem Qx6 (B:Lo) (s:Qaa) (i:Int) (dJ0:Nat->Value):landM (Qam YP (Qa1 YP) J0 B 14 1 (Qa9 36 39 (([1,3]:List Nat).zip (Qcv s i)) dJ0 Qcy) (Qa5 (Qbk s i)) (2+(Qbk s i).length)
 (Qsf s i dJ0++[(16,hvF),(18,hvI (i+1))]) 0 [] []) [1,3] [(2,KS.auto)] []=some ⟨36,39,Qcy,[],.run,none,Qcv s (i+1),Qbk s (i+1),
 [wq (i+1)=i+1,ltq 8 (↑(List.length (Qad.goods (s.lots.getD i.toNat default))):Int)=false]++QmJ B s i dJ0⟩:=by kernel_rfl
def Qmd (B:Lo) (s:Qaa) (i:Int) (dJ0:Nat->Value):List Prop:=[ltq i 12=false]++Qmk B s i dJ0
def Qsa (s:Qaa) (i:Int) (dJ0:Nat->Value):Qaz:=Qqi s i dJ0++[(7,hvF)]
def QmU (B:Lo) (s:Qaa) (i:Int) (dJ0:Nat->Value):List Prop:=[(!ltq 8 (↑s.stock.length:Int))=true]++Qmd B s i dJ0
def Qq5 (s:Qaa) (i:Int) (dJ0:Nat->Value):Qaz:=Qsa s i dJ0++[(12,hvT)]
def Qmu (B:Lo) (s:Qaa) (i:Int) (dJ0:Nat->Value):List Prop:=[(!ltq 8 (↑s.use.length:Int))=true]++QmU B s i dJ0
def Qqz (s:Qaa) (i:Int) (dJ0:Nat->Value):Qaz:=Qq5 s i dJ0++[(17,hvT)]
theorem QwY (B:Lo) (s:Qaa) (i:Int) (dJ0:Nat->Value):QaY (Qam YP (Qa1 YP) J0 B 9 1 (Qa9 36 39 (([1,3]:List Nat).zip (Qcv s i)) dJ0 Qcy) (Qa5 (Qbk s i)) (2+(Qbk s i).length)
 (Qqz s i dJ0++[(23,hvT)]) 0 [] []) []=some (.bool true,
 [(!ltq 9 (↑s.lots.length:Int))=true]++Qmu B s i dJ0):=by kernel_rfl
theorem Q0z (B:Lo) (s:Qaa) (i:Int) (dJ0:Nat->Value):QaY (Qam YP (Qa1 YP) J0 B 9 1 (Qa9 36 39 (([1,3]:List Nat).zip (Qcv s i)) dJ0 Qcy) (Qa5 (Qbk s i)) (2+(Qbk s i).length)
 (Qqz s i dJ0++[(23,hvF)]) 0 [] []) []=some (.bool false,
 [(!ltq 9 (↑s.lots.length:Int))=false]++Qmu B s i dJ0):=by kernel_rfl
theorem QxN (B:Lo) (s:Qaa) (i:Int) (dJ0:Nat->Value):QaY (Qam YP (Qa1 YP) J0 B 9 1 (Qa9 36 39 (([1,3]:List Nat).zip (Qcv s i)) dJ0 Qcy) (Qa5 (Qbk s i)) (2+(Qbk s i).length)
 (Qq5 s i dJ0++[(17,hvF)]) 0 [] []) []=some (.bool false,
 [(!ltq 8 (↑s.use.length:Int))=false]++QmU B s i dJ0):=by kernel_rfl
theorem Qxu (B:Lo) (s:Qaa) (i:Int) (dJ0:Nat->Value):QaY (Qam YP (Qa1 YP) J0 B 9 1 (Qa9 36 39 (([1,3]:List Nat).zip (Qcv s i)) dJ0 Qcy) (Qa5 (Qbk s i)) (2+(Qbk s i).length)
 (Qsa s i dJ0++[(12,hvF)]) 0 [] []) []=some (.bool false,
 [(!ltq 8 (↑s.stock.length:Int))=false]++Qmd B s i dJ0):=by kernel_rfl
def QlT (B:Lo) (s:Qaa) (i:Int) (dJ0:Nat->Value):List Prop:=[ltq i (↑s.lots.length:Int)=false]++([]:List Prop)
def Qr5 (s:Qaa) (i:Int) (dJ0:Nat->Value):Qaz:=[(4,hvF)]
def QmM (B:Lo) (s:Qaa) (i:Int) (dJ0:Nat->Value):List Prop:=[(!ltq 8 (↑s.stock.length:Int))=true]++QlT B s i dJ0
def Qrb (s:Qaa) (i:Int) (dJ0:Nat->Value):Qaz:=Qr5 s i dJ0++[(12,hvT)]
def Qml (B:Lo) (s:Qaa) (i:Int) (dJ0:Nat->Value):List Prop:=[(!ltq 8 (↑s.use.length:Int))=true]++QmM B s i dJ0
def Qrf (s:Qaa) (i:Int) (dJ0:Nat->Value):Qaz:=Qrb s i dJ0++[(17,hvT)]
theorem Qzf (B:Lo) (s:Qaa) (i:Int) (dJ0:Nat->Value):QaY (Qam YP (Qa1 YP) J0 B 9 1 (Qa9 36 39 (([1,3]:List Nat).zip (Qcv s i)) dJ0 Qcy) (Qa5 (Qbk s i)) (2+(Qbk s i).length)
 (Qrf s i dJ0++[(23,hvT)]) 0 [] []) []=some (.bool true,
 [(!ltq 9 (↑s.lots.length:Int))=true]++Qml B s i dJ0):=by kernel_rfl
theorem QwJ (B:Lo) (s:Qaa) (i:Int) (dJ0:Nat->Value):QaY (Qam YP (Qa1 YP) J0 B 9 1 (Qa9 36 39 (([1,3]:List Nat).zip (Qcv s i)) dJ0 Qcy) (Qa5 (Qbk s i)) (2+(Qbk s i).length)
 (Qrf s i dJ0++[(23,hvF)]) 0 [] []) []=some (.bool false,
 [(!ltq 9 (↑s.lots.length:Int))=false]++Qml B s i dJ0):=by kernel_rfl
theorem Qxj (B:Lo) (s:Qaa) (i:Int) (dJ0:Nat->Value):QaY (Qam YP (Qa1 YP) J0 B 9 1 (Qa9 36 39 (([1,3]:List Nat).zip (Qcv s i)) dJ0 Qcy) (Qa5 (Qbk s i)) (2+(Qbk s i).length)
 (Qrb s i dJ0++[(17,hvF)]) 0 [] []) []=some (.bool false,
 [(!ltq 8 (↑s.use.length:Int))=false]++QmM B s i dJ0):=by kernel_rfl
theorem QzE (B:Lo) (s:Qaa) (i:Int) (dJ0:Nat->Value):QaY (Qam YP (Qa1 YP) J0 B 9 1 (Qa9 36 39 (([1,3]:List Nat).zip (Qcv s i)) dJ0 Qcy) (Qa5 (Qbk s i)) (2+(Qbk s i).length)
 (Qr5 s i dJ0++[(12,hvF)]) 0 [] []) []=some (.bool false,
 [(!ltq 8 (↑s.stock.length:Int))=false]++QlT B s i dJ0):=by kernel_rfl
theorem QuT (B:Lo) (s:Qaa):landM (Qam YP (Qa1 YP) J0 B 7 1 (Qaj YP 36 39 (([.agg (Qah s).toArray]).map (Qat 0 4))) H00 1
 [] 0 [] []) [1,3] [(1,KS.auto)] []=some ⟨36,39,Qcy,[],.run,none,Qcv s (0),Qbk s (0),
 []⟩:=by kernel_rfl
set_option maxHeartbeats 4000000 in
theorem QzB (s:Qaa)  (hfacts:s.stock.length<=9223372036854775807/\s.use.length<=9223372036854775807/\s.lots.length<=9223372036854775807) {B:Lo} (hJ:∀w,B.has w->J0 w) {c0:CF}:∀m:Nat,(∀(i:Int),s.lots.length - i.toNat=m->∀(h0:0<=i),QyU B c0 s i->EndsT YP B c0 (.bool (((s.lots.take 12).drop i.toNat).all (fun l=> decide (l.goods.length<=8)) && (decide (s.stock.length<=8) && (decide (s.use.length<=8) && decide (s.lots.length<=9)))))):=by
 intro m0;induction m0 using Nat.strongRecOn with
 | _ m0 ih0=>
   intro i hm0 h0 ⟨dJ0,hdJ0,hg0⟩;by_cases q0:(i:Int) < ((↑s.lots.length:Int))
   ·have hp0:QaA (Qmk B s i dJ0):=by
     exact ⟨(QaW q0),trivial⟩
    by_cases q1:(i:Int) < (12)
    ·have hp1:QaA (QmJ B s i dJ0):=by
      have s2:=Qcn (l:=s.lots.take 12) (p:=fun l=> decide (l.goods.length<=8)) h0 (by rw [List.length_take];omega);have e3:(s.lots.take 12).getD i.toNat default=s.lots.getD i.toNat default:=by simp only [List.getD_eq_getElem?_getD];rw [List.getElem?_take_of_lt (by omega)]
      rw [e3] at s2;exact ⟨⟨by omega,by omega,(Qae (z:=3) (fun _=> rfl) (by omega))⟩,⟨(QaW q1),hp0⟩⟩
     by_cases q2:(8:Int) < ((↑(List.length (Qad.goods (s.lots.getD i.toNat default))):Int))
     ·have s2:=Qcn (l:=s.lots.take 12) (p:=fun l=> decide (l.goods.length<=8)) h0 (by rw [List.length_take];omega);have e3:(s.lots.take 12).getD i.toNat default=s.lots.getD i.toNat default:=by simp only [List.getD_eq_getElem?_getD];rw [List.getElem?_take_of_lt (by omega)]
      rw [e3] at s2;rw [decide_eq_false (by omega)] at s2;exact (GoE.endsT okF hJ Qab hg0 (Qyi B s i dJ0)
       ⟨(QaW q2),hp1⟩).cast (by (simp only [s2,Bool.true_and,Bool.false_and];done))
     ·have s2:=Qcn (l:=s.lots.take 12) (p:=fun l=> decide (l.goods.length<=8)) h0 (by rw [List.length_take];omega);have e3:(s.lots.take 12).getD i.toNat default=s.lots.getD i.toNat default:=by simp only [List.getD_eq_getElem?_getD];rw [List.getElem?_take_of_lt (by omega)]
      rw [e3] at s2;rw [decide_eq_true (by omega)] at s2;exact ((ih0 _ (by omega)) (i+1) rfl (by omega)
       (hg0.landM okF hJ Qab (Qx6 B s i dJ0)
       ⟨(QaL (by omega) (by omega)),⟨(Qbh (Int.not_lt.1 q2)),hp1⟩⟩ (by kernel_rfl) (by kernel_rfl))).cast (by (simp only [s2,Bool.true_and,Bool.false_and];done))
    ·have hp2:QaA (Qmd B s i dJ0):=by
      exact ⟨(Qbh (Int.not_lt.1 q1)),hp0⟩
     by_cases q2:((↑s.stock.length:Int):Int)<=(8)
     ·have hp3:QaA (QmU B s i dJ0):=by
       exact ⟨(Qdj q2),hp2⟩
      by_cases q3:((↑s.use.length:Int):Int)<=(8)
      ·have hp4:QaA (Qmu B s i dJ0):=by
        exact ⟨(Qdj q3),hp3⟩
       by_cases q4:((↑s.lots.length:Int):Int)<=(9)
       ·have s2:=Qcn (l:=s.lots.take 12) (p:=fun l=> decide (l.goods.length<=8)) h0 (by rw [List.length_take];omega);have e3:(s.lots.take 12).getD i.toNat default=s.lots.getD i.toNat default:=by simp only [List.getD_eq_getElem?_getD];rw [List.getElem?_take_of_lt (by omega)]
        rw [e3] at s2;rw [decide_eq_true (by omega)] at s2;have s2:=Qbn (l:=s.lots.take 12) (p:=fun l=> decide (l.goods.length<=8)) (i:=i) (by rw [List.length_take];omega);exact (GoE.endsT okF hJ Qab hg0 (QwY B s i dJ0)
         ⟨(Qdj q4),hp4⟩).cast (by (simp only [s2,Bool.true_and];simp_all;omega))
       ·have s2:=Qbn (l:=s.lots.take 12) (p:=fun l=> decide (l.goods.length<=8)) (i:=i) (by rw [List.length_take];omega);exact (GoE.endsT okF hJ Qab hg0 (Q0z B s i dJ0)
         ⟨(Qdi (Int.not_le.1 q4)),hp4⟩).cast (by (simp only [s2,Bool.true_and];simp_all;omega))
      ·have s2:=Qbn (l:=s.lots.take 12) (p:=fun l=> decide (l.goods.length<=8)) (i:=i) (by rw [List.length_take];omega);exact (GoE.endsT okF hJ Qab hg0 (QxN B s i dJ0)
        ⟨(Qdi (Int.not_le.1 q3)),hp3⟩).cast (by (simp only [s2,Bool.true_and];simp_all;omega))
     ·have s2:=Qbn (l:=s.lots.take 12) (p:=fun l=> decide (l.goods.length<=8)) (i:=i) (by rw [List.length_take];omega);exact (GoE.endsT okF hJ Qab hg0 (Qxu B s i dJ0)
       ⟨(Qdi (Int.not_le.1 q2)),hp2⟩).cast (by (simp only [s2,Bool.true_and];simp_all;omega))
   ·have hp5:QaA (QlT B s i dJ0):=by
     exact ⟨(Qbh (Int.not_lt.1 q0)),trivial⟩
    by_cases q1:((↑s.stock.length:Int):Int)<=(8)
    ·have hp6:QaA (QmM B s i dJ0):=by
      exact ⟨(Qdj q1),hp5⟩
     by_cases q2:((↑s.use.length:Int):Int)<=(8)
     ·have hp7:QaA (Qml B s i dJ0):=by
       exact ⟨(Qdj q2),hp6⟩
      by_cases q3:((↑s.lots.length:Int):Int)<=(9)
      ·have s2:=Qbn (l:=s.lots.take 12) (p:=fun l=> decide (l.goods.length<=8)) (i:=i) (by rw [List.length_take];omega);exact (GoE.endsT okF hJ Qab hg0 (Qzf B s i dJ0)
        ⟨(Qdj q3),hp7⟩).cast (by (simp only [s2,Bool.true_and];simp_all;omega))
      ·have s2:=Qbn (l:=s.lots.take 12) (p:=fun l=> decide (l.goods.length<=8)) (i:=i) (by rw [List.length_take];omega);exact (GoE.endsT okF hJ Qab hg0 (QwJ B s i dJ0)
        ⟨(Qdi (Int.not_le.1 q3)),hp7⟩).cast (by (simp only [s2,Bool.true_and];simp_all;omega))
     ·have s2:=Qbn (l:=s.lots.take 12) (p:=fun l=> decide (l.goods.length<=8)) (i:=i) (by rw [List.length_take];omega);exact (GoE.endsT okF hJ Qab hg0 (Qxj B s i dJ0)
       ⟨(Qdi (Int.not_le.1 q2)),hp6⟩).cast (by (simp only [s2,Bool.true_and];simp_all;omega))
    ·have s2:=Qbn (l:=s.lots.take 12) (p:=fun l=> decide (l.goods.length<=8)) (i:=i) (by rw [List.length_take];omega);exact (GoE.endsT okF hJ Qab hg0 (QzE B s i dJ0)
      ⟨(Qdi (Int.not_le.1 q1)),hp5⟩).cast (by (simp only [s2,Bool.true_and];simp_all;omega))
set_option maxHeartbeats 4000000 in
theorem Q3d (s:Qaa)  (hfacts:s.stock.length<=9223372036854775807/\s.use.length<=9223372036854775807/\s.lots.length<=9223372036854775807) {B:Lo} (hJ:∀w,B.has w->J0 w):EndsT YP B (Qaj YP 36 39 (([.agg (Qah s).toArray]).map (Qat 0 4))) (.bool (((s.lots.take 12).all fun l=> decide (l.goods.length<=8)) && (decide (s.stock.length<=8) && (decide (s.use.length<=8) && decide (s.lots.length<=9))))):=by
 exact ((QzB s hfacts hJ _) (0) rfl (by omega)
  (GoE.start.landM okF hJ Qab (QuT B s)
  trivial (by kernel_rfl) (by kernel_rfl))).cast (by rfl)
theorem Q50 (s:Qaa)  :Qaq YP J0 36 #[.agg (Qah s).toArray] (.bool (((s.lots.take 12).all fun l=> decide (l.goods.length<=8)) && (decide (s.stock.length<=8) && (decide (s.use.length<=8) && decide (s.lots.length<=9))))):=
 Qcw (ts:=[.agg (Qah s).toArray]) (s.stock.length<=9223372036854775807/\s.use.length<=9223372036854775807/\s.lots.length<=9223372036854775807) (fun _ _ ht=> ⟨ht.ln2 (i:=0) (j:=0) rfl rfl,ht.ln2 (i:=0) (j:=1) rfl rfl,ht.ln2 (i:=0) (j:=4) rfl rfl⟩) Qbw (c0:=Qaj YP 36 39 (([.agg (Qah s).toArray]).map (Qat 0 4))) (by kernel_rfl) (by kernel_rfl) fun hfacts B hJ=> Q3d s  hfacts hJ
end
end Go.Proofs.YtiabgkiccaodmaaGreat

namespace Go.Proofs.YtiabgkiccaodmaaGreat
open Go Go.CE Go.RowKit
noncomputable section
set_option maxRecDepth 100000
def QcQ (l:List Int) (i:Int):Int:=if 0 < i then l.getD (i - 1).toNat default else -1
def Q2f (s:Qaa) (l:List Int):Int:=QfG (l.map fun x=> (s.lots.getD x.toNat default).weight)
theorem Qfc {s:Qaa} {i:Int} {l:List Int} (h0:0<=i) (h:i < l.length):Q2f s (l.drop i.toNat)=(s.lots.getD (l.getD i.toNat default).toNat default).weight+Q2f s (l.drop (i+1).toNat):=by
 obtain ⟨k,rfl⟩:∃k:Nat,i=k:=⟨i.toNat,by omega⟩
 have hk:k < l.length:=by omega
 have e1:((k:Int)).toNat=k:=by omega
 have e2:((k:Int)+1).toNat=k+1:=by omega
 unfold Q2f;rw [e1,e2,List.drop_eq_getElem_cons hk,List.map_cons];simp [QfG,List.getD_eq_getElem?_getD,hk]
theorem QtO {s:Qaa} {i:Int} {l:List Int} (h:l.length<=i):Q2f s (l.drop i.toNat)=0:=by
 rw [List.drop_eq_nil_of_le (by omega)];rfl
theorem QsF {l:List Int} {i:Int} (h0:0<=i):QcQ l (i+1)=l.getD i.toNat default:=by
 unfold QcQ;rw [if_pos (by omega),show i+1 - 1=i by omega]
theorem Q56 {x lo hi:Int} (q:inB x lo hi=false):¬(lo<=x/\x<=hi):=fun h=> by rw [QaU.2 h] at q;cases q
theorem Q7l {x lo hi:Int} (h:¬(lo<=x/\x<=hi)):inB x lo hi=false:=by
 cases hc:inB x lo hi with
 | false=> rfl
 | true=> exact absurd (QaU.1 hc) h
def Qew (s:Qaa) (load:List Int) (w i:Int):List Value:=[Qa4 1 (slT load.length (Qac Qal load)),pA 2 0,.int .i64 w,.int .i64 i]
def Qcj (s:Qaa) (load:List Int) (w i:Int):List Obj:=[Obj.cells #[Qa4 1 (slT s.stock.length (Qac Qal s.stock)),Qa4 1 (slT s.use.length (Qac Qa7 s.use)),.int .i64 s.glo,.int .i64 s.ghi,Qa4 1 (slT s.lots.length (Qac Qap s.lots)),.int .i64 s.hold] 62]
def Qes:List Item:=([.code [1,1,0,1,0,0],.inLoop [1,1,0,1,0,0],.inBlock 0,.code [1,1,1]]).map (it (Qar YP 56))
def Q0Z (B:Lo) (c0:CF) (s:Qaa) (load:List Int) (w i:Int):Prop:=∃dJ:Nat->Value,(∀t,Qbc (dJ t))/\GoE YP B c0 H00 1 (Qa9 56 54 (([1,2,5,6]:List Nat).zip (Qew s load w i)) dJ Qes) (Qa5 (Qcj s load w i)) (2+(Qcj s load w i).length) []
def Qlg (s:Qaa) (load:List Int) (i:Int):Array Value:=#[slT (List.length (Qad.goods (s.lots.getD (Int.toNat (load.getD i.toNat default)) default))) (Qac Qa7 (Qad.goods (s.lots.getD (Int.toNat (load.getD i.toNat default)) default))),.int .i64 (Qad.weight (s.lots.getD (Int.toNat (load.getD i.toNat default)) default)),.int .i64 (Qad.cost (s.lots.getD (Int.toNat (load.getD i.toNat default)) default))]
def Qp1 (B:Lo) (s:Qaa) (load:List Int) (w i:Int) (dJ0:Nat->Value):List Prop:=[wq ((↑s.lots.length:Int) - 1)=(↑s.lots.length:Int) - 1,i=(↑i.toNat:Int)/\Int.toNat i < List.length load/\Array.extract (Qac Qal load) (Int.toNat i * TypeInfo.size Tryz.t3) (Int.toNat i * TypeInfo.size Tryz.t3+TypeInfo.size Tryz.t3)=#[.int .i64 (load.getD i.toNat default)],ltq i (↑load.length:Int)=true]++([]:List Prop)
def QtZ (s:Qaa) (load:List Int) (w i:Int) (dJ0:Nat->Value):Qaz:=[(3,hvT),(6,Qaf.tidx i.toNat #[.int .i64 (load.getD i.toNat default)]),(11,hvI ((↑s.lots.length:Int) - 1))]
def QoE (B:Lo) (s:Qaa) (load:List Int) (w i:Int) (dJ0:Nat->Value):List Prop:=[QaA []/\Qaq YP J0 69 #[.int .i64 (load.getD i.toNat default),.int .i64 0,.int .i64 ((↑s.lots.length:Int) - 1)] (.bool true)]++Qp1 B s load w i dJ0
def QtE (s:Qaa) (load:List Int) (w i:Int) (dJ0:Nat->Value):Qaz:=QtZ s load w i dJ0++[(12,Qaf.pure (.bool true) [])]
def Qop (B:Lo) (s:Qaa) (load:List Int) (w i:Int) (dJ0:Nat->Value):List Prop:=[i - 1=(↑(Int.toNat (i - 1)):Int)/\Int.toNat (i - 1) < List.length load/\Array.extract (Qac Qal load) (Int.toNat (i - 1) * TypeInfo.size Tryz.t3) (Int.toNat (i - 1) * TypeInfo.size Tryz.t3+TypeInfo.size Tryz.t3)=#[.int .i64 (load.getD (Int.toNat (i - 1)) default)],wq (i - 1)=i - 1,i=(↑i.toNat:Int)/\Int.toNat i < List.length load/\Array.extract (Qac Qal load) (Int.toNat i * TypeInfo.size Tryz.t3) (Int.toNat i * TypeInfo.size Tryz.t3+TypeInfo.size Tryz.t3)=#[.int .i64 (load.getD i.toNat default)],ltq 0 i=true]++QoE B s load w i dJ0
def QuF (s:Qaa) (load:List Int) (w i:Int) (dJ0:Nat->Value):Qaz:=QtE s load w i dJ0++[(16,hvT),(20,Qaf.tidx i.toNat #[.int .i64 (load.getD i.toNat default)]),(24,hvI (i - 1)),(25,Qaf.tidx (Int.toNat (i - 1)) #[.int .i64 (load.getD (Int.toNat (i - 1)) default)])]
theorem Q3i (B:Lo) (s:Qaa) (load:List Int) (w i:Int) (dJ0:Nat->Value):QaY (Qam YP (Qa1 YP) J0 B 15 1 (Qa9 56 54 (([1,2,5,6]:List Nat).zip (Qew s load w i)) dJ0 Qes) (Qa5 (Qcj s load w i)) (2+(Qcj s load w i).length)
 (QuF s load w i dJ0++[(27,hvT)]) 0 [] []) []=some (.bool false,
 [(!ltq (load.getD (Int.toNat (i - 1)) default) (load.getD i.toNat default))=true]++Qop B s load w i dJ0):=by kernel_rfl
theorem Q2S (B:Lo) (s:Qaa) (load:List Int) (w i:Int) (dJ0:Nat->Value):landM (Qam YP (Qa1 YP) J0 B 16 1 (Qa9 56 54 (([1,2,5,6]:List Nat).zip (Qew s load w i)) dJ0 Qes) (Qa5 (Qcj s load w i)) (2+(Qcj s load w i).length)
 (QuF s load w i dJ0++[(27,hvF),(35,Qaf.tidx i.toNat #[.int .i64 (load.getD i.toNat default)]),(37,Qaf.tidx (Int.toNat (load.getD i.toNat default)) (Qlg s load i)),(40,hvI (w+Qad.weight (s.lots.getD (Int.toNat (load.getD i.toNat default)) default))),(43,hvI (i+1))]) 0 [] []) [1,2,5,6] [(2,KS.auto)] []=some ⟨56,54,Qes,[],.run,none,Qew s load (w+Qad.weight (s.lots.getD (Int.toNat (load.getD i.toNat default)) default)) (i+1),Qcj s load (w+Qad.weight (s.lots.getD (Int.toNat (load.getD i.toNat default)) default)) (i+1),
 [wq (i+1)=i+1,wq (w+Qad.weight (s.lots.getD (Int.toNat (load.getD i.toNat default)) default))=w+Qad.weight (s.lots.getD (Int.toNat (load.getD i.toNat default)) default),load.getD i.toNat default=(↑(Int.toNat (load.getD i.toNat default)):Int)/\Int.toNat (load.getD i.toNat default) < List.length s.lots/\Array.extract (Qac Qap s.lots) (Int.toNat (load.getD i.toNat default) * TypeInfo.size Tryz.t118) (Int.toNat (load.getD i.toNat default) * TypeInfo.size Tryz.t118+TypeInfo.size Tryz.t118)=(Qlg s load i),i=(↑i.toNat:Int)/\Int.toNat i < List.length load/\Array.extract (Qac Qal load) (Int.toNat i * TypeInfo.size Tryz.t3) (Int.toNat i * TypeInfo.size Tryz.t3+TypeInfo.size Tryz.t3)=#[.int .i64 (load.getD i.toNat default)],(!ltq (load.getD (Int.toNat (i - 1)) default) (load.getD i.toNat default))=false]++Qop B s load w i dJ0⟩:=by kernel_rfl
theorem Q0U (B:Lo) (s:Qaa) (load:List Int) (w i:Int) (dJ0:Nat->Value):landM (Qam YP (Qa1 YP) J0 B 16 1 (Qa9 56 54 (([1,2,5,6]:List Nat).zip (Qew s load w i)) dJ0 Qes) (Qa5 (Qcj s load w i)) (2+(Qcj s load w i).length)
 (QtE s load w i dJ0++[(16,hvF),(35,Qaf.tidx i.toNat #[.int .i64 (load.getD i.toNat default)]),(37,Qaf.tidx (Int.toNat (load.getD i.toNat default)) (Qlg s load i)),(40,hvI (w+Qad.weight (s.lots.getD (Int.toNat (load.getD i.toNat default)) default))),(43,hvI (i+1))]) 0 [] []) [1,2,5,6] [(2,KS.auto)] []=some ⟨56,54,Qes,[],.run,none,Qew s load (w+Qad.weight (s.lots.getD (Int.toNat (load.getD i.toNat default)) default)) (i+1),Qcj s load (w+Qad.weight (s.lots.getD (Int.toNat (load.getD i.toNat default)) default)) (i+1),
 [wq (i+1)=i+1,wq (w+Qad.weight (s.lots.getD (Int.toNat (load.getD i.toNat default)) default))=w+Qad.weight (s.lots.getD (Int.toNat (load.getD i.toNat default)) default),load.getD i.toNat default=(↑(Int.toNat (load.getD i.toNat default)):Int)/\Int.toNat (load.getD i.toNat default) < List.length s.lots/\Array.extract (Qac Qap s.lots) (Int.toNat (load.getD i.toNat default) * TypeInfo.size Tryz.t118) (Int.toNat (load.getD i.toNat default) * TypeInfo.size Tryz.t118+TypeInfo.size Tryz.t118)=(Qlg s load i),i=(↑i.toNat:Int)/\Int.toNat i < List.length load/\Array.extract (Qac Qal load) (Int.toNat i * TypeInfo.size Tryz.t3) (Int.toNat i * TypeInfo.size Tryz.t3+TypeInfo.size Tryz.t3)=#[.int .i64 (load.getD i.toNat default)],ltq 0 i=false]++QoE B s load w i dJ0⟩:=by kernel_rfl
theorem Q2U (B:Lo) (s:Qaa) (load:List Int) (w i:Int) (dJ0:Nat->Value):QaY (Qam YP (Qa1 YP) J0 B 15 1 (Qa9 56 54 (([1,2,5,6]:List Nat).zip (Qew s load w i)) dJ0 Qes) (Qa5 (Qcj s load w i)) (2+(Qcj s load w i).length)
 (QtZ s load w i dJ0++[(12,Qaf.pure (.bool false) [])]) 0 [] []) []=some (.bool false,
 [QaA []/\Qaq YP J0 69 #[.int .i64 (load.getD i.toNat default),.int .i64 0,.int .i64 ((↑s.lots.length:Int) - 1)] (.bool false)]++Qp1 B s load w i dJ0):=by kernel_rfl
def QoN (B:Lo) (s:Qaa) (load:List Int) (w i:Int) (dJ0:Nat->Value):List Prop:=[ltq i (↑load.length:Int)=false]++([]:List Prop)
def Qur (s:Qaa) (load:List Int) (w i:Int) (dJ0:Nat->Value):Qaz:=[(3,hvF)]
theorem Q3s (B:Lo) (s:Qaa) (load:List Int) (w i:Int) (dJ0:Nat->Value):QaY (Qam YP (Qa1 YP) J0 B 9 1 (Qa9 56 54 (([1,2,5,6]:List Nat).zip (Qew s load w i)) dJ0 Qes) (Qa5 (Qcj s load w i)) (2+(Qcj s load w i).length)
 (Qur s load w i dJ0++[(7,hvT)]) 0 [] []) []=some (.bool true,
 [(!ltq s.hold w)=true]++QoN B s load w i dJ0):=by kernel_rfl
theorem Q1V (B:Lo) (s:Qaa) (load:List Int) (w i:Int) (dJ0:Nat->Value):QaY (Qam YP (Qa1 YP) J0 B 9 1 (Qa9 56 54 (([1,2,5,6]:List Nat).zip (Qew s load w i)) dJ0 Qes) (Qa5 (Qcj s load w i)) (2+(Qcj s load w i).length)
 (Qur s load w i dJ0++[(7,hvF)]) 0 [] []) []=some (.bool false,
 [(!ltq s.hold w)=false]++QoN B s load w i dJ0):=by kernel_rfl
theorem Q1b (B:Lo) (s:Qaa) (load:List Int):landM (Qam YP (Qa1 YP) J0 B 9 1 (Qaj YP 56 54 (([.agg (Qah s).toArray,slI load]).map (Qat 0 4))) H00 1
 [] 0 [] []) [1,2,5,6] [(1,KS.auto)] []=some ⟨56,54,Qes,[],.run,none,Qew s load (0) (0),Qcj s load (0) (0),
 []⟩:=by kernel_rfl
set_option maxHeartbeats 4000000 in
theorem Q1X (s:Qaa) (load:List Int) (hs:Qa3 s=true) (hl:load.length<=10) {B:Lo} (hJ:∀w,B.has w->J0 w) {c0:CF}:∀m:Nat,(∀(w i:Int),load.length - i.toNat=m->∀(h0:0<=i) (h1:0<=w/\w<=100000 * i) (hp: -1<=QcQ load i),Q0Z B c0 s load w i->EndsT YP B c0 (.bool (Qeh s.lots.length (load.drop i.toNat) (QcQ load i+1) && decide (w+Q2f s (load.drop i.toNat)<=s.hold)))):=by
 intro m0;induction m0 using Nat.strongRecOn with
 | _ m0 ih0=>
   intro w i hm0 h0 h1 hp ⟨dJ0,hdJ0,hg0⟩;have hm:=Qav hs;have g3:=QsF (l:=load) h0;by_cases q0:(i:Int) < ((↑load.length:Int))
   ·have hp0:QaA (Qp1 B s load w i dJ0):=by
     have s2:=QcB (things:=s.lots.length) (least:=QcQ load i+1) (l:=load) h0 q0;have s3:=Qfc (s:=s) h0 q0;exact ⟨(QaL (by omega) (by omega)),⟨⟨by omega,by omega,(Qae (z:=1) (fun _=> rfl) (by omega))⟩,⟨(QaW q0),trivial⟩⟩⟩
    cases q1:inB (load.getD i.toNat default) 0 ((↑s.lots.length:Int) - 1) with
    | true=>
      have hp1:QaA (QoE B s load w i dJ0):=by
       have s2:=QcB (things:=s.lots.length) (least:=QcQ load i+1) (l:=load) h0 q0;have s3:=Qfc (s:=s) h0 q0;have g1:=QaU.1 ‹inB (load.getD i.toNat default) 0 _=true›;have g2:=QdW (hm.2 _ (QaH (l:=s.lots) (i:=load.getD i.toNat default) (by omega) (by omega)));exact ⟨⟨trivial,(by have t_:=rin (load.getD i.toNat default) (0) ((↑s.lots.length:Int) - 1);rw [q1] at t_;exact t_)⟩,hp0⟩
      by_cases q2:(0:Int) < (i)
      ·have hp2:QaA (Qop B s load w i dJ0):=by
        have s2:=QcB (things:=s.lots.length) (least:=QcQ load i+1) (l:=load) h0 q0;have s3:=Qfc (s:=s) h0 q0;have g1:=QaU.1 ‹inB (load.getD i.toNat default) 0 _=true›;have g2:=QdW (hm.2 _ (QaH (l:=s.lots) (i:=load.getD i.toNat default) (by omega) (by omega)));have pv:QcQ load i=load.getD (i - 1).toNat default:=if_pos ‹0 < i›;exact ⟨⟨by omega,by omega,(Qae (z:=1) (fun _=> rfl) (by omega))⟩,⟨(QaL (by omega) (by omega)),⟨⟨by omega,by omega,(Qae (z:=1) (fun _=> rfl) (by omega))⟩,⟨(QaW q2),hp1⟩⟩⟩⟩
       by_cases q3:(load.getD i.toNat default:Int)<=(load.getD (Int.toNat (i - 1)) default)
       ·have s2:=QcB (things:=s.lots.length) (least:=QcQ load i+1) (l:=load) h0 q0;have s3:=Qfc (s:=s) h0 q0;have g1:=QaU.1 ‹inB (load.getD i.toNat default) 0 _=true›;have g2:=QdW (hm.2 _ (QaH (l:=s.lots) (i:=load.getD i.toNat default) (by omega) (by omega)));have pv:QcQ load i=load.getD (i - 1).toNat default:=if_pos ‹0 < i›;have et:inB (load.getD i.toNat default) (QcQ load i+1) ((s.lots.length:Int) - 1)=false:=Q7l (by omega);exact (GoE.endsT okF hJ Qab hg0 (Q3i B s load w i dJ0)
         ⟨(Qdj q3),hp2⟩).cast (by (rw [s2,et];rfl))
       ·have s2:=QcB (things:=s.lots.length) (least:=QcQ load i+1) (l:=load) h0 q0;have s3:=Qfc (s:=s) h0 q0;have g1:=QaU.1 ‹inB (load.getD i.toNat default) 0 _=true›;have g2:=QdW (hm.2 _ (QaH (l:=s.lots) (i:=load.getD i.toNat default) (by omega) (by omega)));have pv:QcQ load i=load.getD (i - 1).toNat default:=if_pos ‹0 < i›;have et:inB (load.getD i.toNat default) (QcQ load i+1) ((s.lots.length:Int) - 1)=true:=QaU.2 (by omega);exact ((ih0 _ (by omega)) (w+Qad.weight (s.lots.getD (Int.toNat (load.getD i.toNat default)) default)) (i+1) rfl (by omega) (by omega) (by omega)
         (hg0.landM okF hJ Qab (Q2S B s load w i dJ0)
         ⟨(QaL (by omega) (by omega)),⟨(QaL (by omega) (by omega)),⟨⟨by omega,by omega,(Qae (z:=3) (fun _=> rfl) (by omega))⟩,⟨⟨by omega,by omega,(Qae (z:=1) (fun _=> rfl) (by omega))⟩,⟨(Qdi (Int.not_le.1 q3)),hp2⟩⟩⟩⟩⟩ (by kernel_rfl) (by kernel_rfl))).cast (by (rw [s2,s3,et,g3,Int.add_assoc];rfl))
      ·have s2:=QcB (things:=s.lots.length) (least:=QcQ load i+1) (l:=load) h0 q0;have s3:=Qfc (s:=s) h0 q0;have g1:=QaU.1 ‹inB (load.getD i.toNat default) 0 _=true›;have g2:=QdW (hm.2 _ (QaH (l:=s.lots) (i:=load.getD i.toNat default) (by omega) (by omega)));have pv:QcQ load i= -1:=if_neg ‹¬0 < i›;have et:inB (load.getD i.toNat default) (QcQ load i+1) ((s.lots.length:Int) - 1)=true:=QaU.2 (by omega);exact ((ih0 _ (by omega)) (w+Qad.weight (s.lots.getD (Int.toNat (load.getD i.toNat default)) default)) (i+1) rfl (by omega) (by omega) (by omega)
        (hg0.landM okF hJ Qab (Q0U B s load w i dJ0)
        ⟨(QaL (by omega) (by omega)),⟨(QaL (by omega) (by omega)),⟨⟨by omega,by omega,(Qae (z:=3) (fun _=> rfl) (by omega))⟩,⟨⟨by omega,by omega,(Qae (z:=1) (fun _=> rfl) (by omega))⟩,⟨(Qbh (Int.not_lt.1 q2)),hp1⟩⟩⟩⟩⟩ (by kernel_rfl) (by kernel_rfl))).cast (by (rw [s2,s3,et,g3,Int.add_assoc];rfl))
    | false=>
      have s2:=QcB (things:=s.lots.length) (least:=QcQ load i+1) (l:=load) h0 q0;have s3:=Qfc (s:=s) h0 q0;have g1n:¬(0<=load.getD i.toNat default/\load.getD i.toNat default<=(s.lots.length:Int) - 1):=Q56 ‹inB (load.getD i.toNat default) 0 _=false›;have et:inB (load.getD i.toNat default) (QcQ load i+1) ((s.lots.length:Int) - 1)=false:=Q7l (by omega);exact (GoE.endsT okF hJ Qab hg0 (Q2U B s load w i dJ0)
       ⟨⟨trivial,(by have t_:=rin (load.getD i.toNat default) (0) ((↑s.lots.length:Int) - 1);rw [q1] at t_;exact t_)⟩,hp0⟩).cast (by (rw [s2,et];rfl))
   ·have hp3:QaA (QoN B s load w i dJ0):=by
     exact ⟨(Qbh (Int.not_lt.1 q0)),trivial⟩
    by_cases q1:(w:Int)<=s.hold
    ·have s2:=Qnw (things:=s.lots.length) (least:=QcQ load i+1) (l:=load) (i:=i) (by omega);have s3:=QtO (s:=s) (l:=load) (i:=i) (by omega);exact (GoE.endsT okF hJ Qab hg0 (Q3s B s load w i dJ0)
      ⟨(Qdj q1),hp3⟩).cast (by (rw [s2,s3];simp_all;done))
    ·have s2:=Qnw (things:=s.lots.length) (least:=QcQ load i+1) (l:=load) (i:=i) (by omega);have s3:=QtO (s:=s) (l:=load) (i:=i) (by omega);exact (GoE.endsT okF hJ Qab hg0 (Q1V B s load w i dJ0)
      ⟨(Qdi (Int.not_le.1 q1)),hp3⟩).cast (by (rw [s2,s3];simp_all;done))
set_option maxHeartbeats 4000000 in
theorem Q4p (s:Qaa) (load:List Int) (hs:Qa3 s=true) (hl:load.length<=10) {B:Lo} (hJ:∀w,B.has w->J0 w):EndsT YP B (Qaj YP 56 54 (([.agg (Qah s).toArray,slI load]).map (Qat 0 4))) (.bool (Qeh s.lots.length load 0 && decide (Q2f s load<=s.hold))):=by
 have hm:=Qav hs;exact ((Q1X s load hs hl hJ _) (0) (0) rfl (by omega) (by omega) (by (simp [QcQ];done))
  (GoE.start.landM okF hJ Qab (Q1b B s load)
  trivial (by kernel_rfl) (by kernel_rfl))).cast (by simp [QcQ])
theorem Q6Z (s:Qaa) (load:List Int) (hs:Qa3 s=true) (hl:load.length<=10):Qaq YP J0 56 #[.agg (Qah s).toArray,slI load] (.bool (Qeh s.lots.length load 0 && decide (Q2f s load<=s.hold))):=
 QaE (ts:=[.agg (Qah s).toArray,slI load]) Qbw (c0:=Qaj YP 56 54 (([.agg (Qah s).toArray,slI load]).map (Qat 0 4))) (by kernel_rfl) (by kernel_rfl) fun B hJ=> Q4p s load hs hl hJ
theorem Q1k (B:Lo) (n:Int):QaY (Qam YP (Qa1 YP) J0 B 6 1 (Qaj YP 52 5 (([.int .i64 n]).map (Qat 0 4))) H00 1
 [(2,Qaf.pure (.bool true) [])] 0 [] []) []=some (.bool true,
 [QaA []/\Qaq YP J0 69 #[.int .i64 n,.int .i64 0,.int .i64 300] (.bool true)]):=by kernel_rfl
theorem Q2i (B:Lo) (n:Int):QaY (Qam YP (Qa1 YP) J0 B 6 1 (Qaj YP 52 5 (([.int .i64 n]).map (Qat 0 4))) H00 1
 [(2,Qaf.pure (.bool false) [])] 0 [] []) []=some (.bool false,
 [QaA []/\Qaq YP J0 69 #[.int .i64 n,.int .i64 0,.int .i64 300] (.bool false)]):=by kernel_rfl
set_option maxHeartbeats 4000000 in
theorem Q4m (n:Int)  {B:Lo} (hJ:∀w,B.has w->J0 w):EndsT YP B (Qaj YP 52 5 (([.int .i64 n]).map (Qat 0 4))) (.bool (inB n 0 300)):=by
 cases q0:inB n 0 300 with
 | true=>
   exact (GoE.endsT okF hJ Qab GoE.start (Q1k B n)
    ⟨⟨trivial,(by have t_:=rin (n) (0) (300);rw [q0] at t_;exact t_)⟩,trivial⟩).cast (by rfl)
 | false=>
   exact (GoE.endsT okF hJ Qab GoE.start (Q2i B n)
    ⟨⟨trivial,(by have t_:=rin (n) (0) (300);rw [q0] at t_;exact t_)⟩,trivial⟩).cast (by rfl)
theorem Q6s (n:Int)  :Qaq YP J0 52 #[.int .i64 n] (.bool (inB n 0 300)):=
 QaE (ts:=[.int .i64 n]) Qbw (c0:=Qaj YP 52 5 (([.int .i64 n]).map (Qat 0 4))) (by kernel_rfl) (by kernel_rfl) fun B hJ=> Q4m n  hJ
end
end Go.Proofs.YtiabgkiccaodmaaGreat

