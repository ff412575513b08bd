/- Play. -/
import Derived.Test.YtiabgkiccaodmaaGreatZTN12
set_option linter.all false
namespace Go.Proofs.YtiabgkiccaodmaaGreat
open Go Go.CE Go.RowKit
noncomputable section
set_option maxRecDepth 100000
def Qat (g:Gd):Int:=Qbd g.use g.br g.ships 0 g.stock
def Qg1 (g:Gd):Int:=QdO g.use g.br g.ships g.stock
theorem QcX {s:Qaa} {load:List Int} (hs:Qa0 s=true) (h:QcF s load=true):(∀x∈load,0<=x/\x<=61)/\0<=QaF load 0/\QaF load 0 < 64/\Qcs (QaF load 0)<=s.lots.length:=by
 have hm:=QaL hs
 simp only [QcF,Bool.and_eq_true] at h
 have g1:=QiW h.1 (Int.le_refl 0)
 have g3:=Qjf (k:=s.lots.length) (by omega) load 0 g1 (Int.le_refl 0) (Int.pow_pos (by decide))
 refine ⟨fun x hx=> by have:=g1 x hx;omega,g3.1, ?_,QlO g3.1 g3.2⟩
 refine Int.lt_of_lt_of_le g3.2 ?_
 have h1:(2:Nat) ^ s.lots.length<=2 ^ 6:=Nat.pow_le_pow_right (by decide) (by omega)
 have e:(2:Int) ^ s.lots.length=((2 ^ s.lots.length:Nat):Int):=by rw [Int.natCast_pow];rfl
 rw [e];omega
def Qgx (xs:List Gd) (i:Int) (ys:List Int):List Value:=[Value.func (Fn.func 125) #[] #[],.slice (some {block:=2,off:=0}) xs.length 1,Qay 1 (slT xs.length (Qac QbB xs)),.int .i64 (↑xs.length:Int),.int .i64 i]
def Qep (xs:List Gd) (i:Int) (ys:List Int):List Obj:=[.cells (Qac Qa1 ys) 3 (0,0)]
def QgE:List Item:=([.code [1,1,0,1,0,0],.inLoop [1,1,0,1,0,0],.inBlock 0,.code [1,1,1]]).map (it (Qan Tryz.prog 86))
def Qyt (B:Lo) (c0:CF) (xs:List Gd) (i:Int) (ys:List Int):Prop:=∃dJ:Nat->Value,(∀t,Qbb (dJ t))/\GoE Tryz.prog B c0 H00 1 (Qa4 86 26 (([1,5,11,12,13]:List Nat).zip (Qgx xs i ys)) dJ QgE) (Qa3 (Qep xs i ys)) (2+(Qep xs i ys).length) []
def Qk5 (xs:List Gd) (i:Int):Array Value:=#[.int .i64 (Gd.stock (xs.getD i.toNat default)),.int .i64 (Gd.use (xs.getD i.toNat default)),.int .i64 (Gd.br (xs.getD i.toNat default)),slT (List.length (Gd.ships (xs.getD i.toNat default))) (Qac Qe5 (Gd.ships (xs.getD i.toNat default)))]
theorem Qy9 (B:Lo) (xs:List Gd) (i:Int) (ys:List Int) (dJ0:Nat->Value):landM (Qak Tryz.prog (Qaw Tryz.prog) J0 B 13 1 (Qa4 86 26 (([1,5,11,12,13]:List Nat).zip (Qgx xs i ys)) dJ0 QgE) (Qa3 (Qep xs i ys)) (2+(Qep xs i ys).length)
 [(0,hvT),(2,Qai.tidx i.toNat (Qk5 xs i)),(11,Qai.pure (.int .i64 (Qbd (Gd.use (xs.getD i.toNat default)) (Gd.br (xs.getD i.toNat default)) (Gd.ships (xs.getD i.toNat default)) 0 (Gd.stock (xs.getD i.toNat default)))) []),(12,Qai.old (Hint.idx i.toNat)),(13,Qai.old (Hint.st (Qac Qa1 (List.set ys i.toNat (Qbd (Gd.use (xs.getD i.toNat default)) (Gd.br (xs.getD i.toNat default)) (Gd.ships (xs.getD i.toNat default)) 0 (Gd.stock (xs.getD i.toNat default))))))),(14,hvI (i+1))] 0 [] []) [1,5,11,12,13] [(2,KS.cells [] (Qac Qa1 (List.set ys i.toNat (Qbd (Gd.use (xs.getD i.toNat default)) (Gd.br (xs.getD i.toNat default)) (Gd.ships (xs.getD i.toNat default)) 0 (Gd.stock (xs.getD i.toNat default))))))] []=some ⟨86,26,QgE,[],.run,none,Qgx xs (i+1) (List.set ys i.toNat (Qbd (Gd.use (xs.getD i.toNat default)) (Gd.br (xs.getD i.toNat default)) (Gd.ships (xs.getD i.toNat default)) 0 (Gd.stock (xs.getD i.toNat default)))),Qep xs (i+1) (List.set ys i.toNat (Qbd (Gd.use (xs.getD i.toNat default)) (Gd.br (xs.getD i.toNat default)) (Gd.ships (xs.getD i.toNat default)) 0 (Gd.stock (xs.getD i.toNat default)))),
 [QeR 1 [] (Qac Qa1 (List.set ys i.toNat (Qbd (Gd.use (xs.getD i.toNat default)) (Gd.br (xs.getD i.toNat default)) (Gd.ships (xs.getD i.toNat default)) 0 (Gd.stock (xs.getD i.toNat default))))) (Qac Qa1 (List.set ys i.toNat (Qbd (Gd.use (xs.getD i.toNat default)) (Gd.br (xs.getD i.toNat default)) (Gd.ships (xs.getD i.toNat default)) 0 (Gd.stock (xs.getD i.toNat default))))),wq (i+1)=i+1,0+Int.toNat i * 1+TypeInfo.size Tryz.t3<=Array.size (Qac Qa1 ys)/\splice (Qac Qa1 ys) (0+Int.toNat i * 1) (Value.cells (QbR {len:=16000,tr:=Tri.set 14 (Tri.set 14 Tri.lf 22 (.int .i64 (Qbd (Gd.use (xs.getD i.toNat default)) (Gd.br (xs.getD i.toNat default)) (Gd.ships (xs.getD i.toNat default)) 0 (Gd.stock (xs.getD i.toNat default))))) 23 (.pointer (some {block:=2,off:=0+Int.toNat i * 1}))} 22))=Qac Qa1 (List.set ys i.toNat (Qbd (Gd.use (xs.getD i.toNat default)) (Gd.br (xs.getD i.toNat default)) (Gd.ships (xs.getD i.toNat default)) 0 (Gd.stock (xs.getD i.toNat default)))),i=(↑i.toNat:Int)/\Int.toNat i < List.length xs,Qaz []/\Qao Tryz.prog J0 125 #[.agg (Qk5 xs i)] (.int .i64 (Qbd (Gd.use (xs.getD i.toNat default)) (Gd.br (xs.getD i.toNat default)) (Gd.ships (xs.getD i.toNat default)) 0 (Gd.stock (xs.getD i.toNat default)))),i=(↑i.toNat:Int)/\Int.toNat i < List.length xs/\Array.extract (Qac QbB xs) (Int.toNat i * TypeInfo.size Tryz.t129) (Int.toNat i * TypeInfo.size Tryz.t129+TypeInfo.size Tryz.t129)=(Qk5 xs i),ltq i (↑xs.length:Int)=true]⟩:=by kernel_rfl
theorem QyO (B:Lo) (xs:List Gd) (i:Int) (ys:List Int) (dJ0:Nat->Value):QaK (Qak Tryz.prog (Qaw Tryz.prog) J0 B 9 1 (Qa4 86 26 (([1,5,11,12,13]:List Nat).zip (Qgx xs i ys)) dJ0 QgE) (Qa3 (Qep xs i ys)) (2+(Qep xs i ys).length)
 [(0,hvF)] 0 [] []) [{k:=2,rs:=[],cs:=Qac Qa1 ys}]=some (slT xs.length (Fz.cs {k:=2,rs:=[],cs:=Qac Qa1 ys}),
 [Qct (Fz.rs {k:=2,rs:=[],cs:=Qac Qa1 ys}) (Qac Qa1 ys) (Fz.cs {k:=2,rs:=[],cs:=Qac Qa1 ys}),ltq i (↑xs.length:Int)=false]):=by kernel_rfl
theorem QwJ (B:Lo) (xs:List Gd):landM (Qak Tryz.prog (Qaw Tryz.prog) J0 B 9 1 (Qae Tryz.prog 86 26 (([slG xs,.func (.func 125) #[] #[]]).map (Qam 0 4))) H00 1
 [(3,Qai.old (Hint.mk xs.length (Qac (Qb5 [.int .i64 0]) (List.replicate xs.length ()))))] 0 [] []) [1,5,11,12,13] [(1,KS.rows [] [] (Qac Qa1 (List.replicate xs.length 0)))] []=some ⟨86,26,QgE,[],.run,none,Qgx xs (0) (List.replicate xs.length 0),Qep xs (0) (List.replicate xs.length 0),
 [Qbi 1 [] [] (Qac (Qb5 [.int .i64 0]) (List.replicate xs.length ())) (Qac Qa1 (List.replicate xs.length 0)),Qf6 Tryz.prog 22 (QbR {len:=16000,tr:=Tri.set 14 Tri.lf 9 (.int .i64 (↑xs.length:Int))} 9) (QbR {len:=16000,tr:=Tri.set 14 Tri.lf 9 (.int .i64 (↑xs.length:Int))} 9)=some (3,Qac (Qb5 [.int .i64 0]) (List.replicate xs.length ()),List.length xs,TypeInfo.size Tryz.t3)]⟩:=by kernel_rfl
set_option maxHeartbeats 4000000 in
theorem Qym (xs:List Gd) (hn:xs.length<=1000000) (hg:∀g∈xs,gdB g) {B:Lo} (hJ:∀w,B.has w->J0 w) {c0:CF}:∀m:Nat,(∀(i:Int) (ys:List Int),(xs.length - i.toNat)=m->∀(h0:0<=i) (hy:ys=QfU Qat 0 xs i),Qyt B c0 xs i ys->EndsT Tryz.prog B c0 (slI (xs.map Qat))):=by
 intro m0
 induction m0 using Nat.strongRecOn with
 | _ m0 ih0=>
   intro i ys hm0 h0 hy ⟨dJ0,hdJ0,hg0⟩
   have hyl:ys.length=xs.length:=by rw [hy];exact Qdl
   by_cases q0:(i:Int) < ((↑xs.length:Int))
   ·
    have hgi:=hg _ (QaJ h0 q0)
    exact ((ih0 _ (by omega)) (i+1) (List.set ys i.toNat (Qbd (Gd.use (xs.getD i.toNat default)) (Gd.br (xs.getD i.toNat default)) (Gd.ships (xs.getD i.toNat default)) 0 (Gd.stock (xs.getD i.toNat default)))) rfl (by omega) (by (subst hy;exact Qdh (f:=Qat) h0 q0))
     (hg0.landM okF hJ Qab (Qy9 B xs i ys dJ0)
     ⟨(QaY (Qbj (fun x=> List.all_eq_true.1 (by rfl)))),⟨(QaV (by omega) (by omega)),⟨(by exact Qfb (z:=1) (fun _=> rfl) (by omega) rfl rfl),⟨⟨by omega,by omega⟩,⟨⟨trivial,Qxz (xs.getD i.toNat default) (by with_reducible assumption)⟩,⟨⟨by omega,by omega,(Qaj (z:=4) (fun _=> rfl) (by omega))⟩,⟨(Qbn q0),trivial⟩⟩⟩⟩⟩⟩⟩ (by kernel_rfl) (by kernel_rfl))).cast (by rfl)
   ·
    exact (GoE.endsT okF hJ Qab hg0 (QyO B xs i ys dJ0)
     ⟨(Qcg (fun x=> List.all_eq_true.1 (by rfl))),⟨(Qbk (Int.not_lt.1 q0)),trivial⟩⟩).cast (by exact QeM (hy.trans (Qda (by omega))) (by simp))
set_option maxHeartbeats 4000000 in
theorem Q0f (xs:List Gd) (hn:xs.length<=1000000) (hg:∀g∈xs,gdB g) {B:Lo} (hJ:∀w,B.has w->J0 w):EndsT Tryz.prog B (Qae Tryz.prog 86 26 (([slG xs,.func (.func 125) #[] #[]]).map (Qam 0 4))) (slI (xs.map Qat)):=by
 exact ((Qym xs hn hg hJ _) (0) (List.replicate xs.length 0) rfl (by omega) (by exact Qfq)
  (GoE.start.landM okF hJ Qab (QwJ B xs)
  ⟨(by exact (QbA (by exact ⟨(.simple rfl),trivial⟩) _)),⟨(QfE (bytes:=8) (by kernel_rfl) (by omega) (by omega) (by omega)),trivial⟩⟩ (by kernel_rfl) (by kernel_rfl))).cast (by rfl)
theorem Q3H (xs:List Gd) (hn:xs.length<=1000000) (hg:∀g∈xs,gdB g):Qao Tryz.prog J0 86 #[slG xs,.func (.func 125) #[] #[]] (slI (xs.map Qat)):=
 Qa8 (ts:=[slG xs,.func (.func 125) #[] #[]]) Qbr (c0:=Qae Tryz.prog 86 26 (([slG xs,.func (.func 125) #[] #[]]).map (Qam 0 4))) (by kernel_rfl) (by kernel_rfl) fun B hJ=> Q0f xs hn hg hJ
def Qgi (xs:List Gd) (i:Int) (ys:List Int):List Value:=[Value.func (Fn.func 87) #[] #[],.slice (some {block:=2,off:=0}) xs.length 1,Qay 1 (slT xs.length (Qac QbB xs)),.int .i64 (↑xs.length:Int),.int .i64 i]
def Qer (xs:List Gd) (i:Int) (ys:List Int):List Obj:=[.cells (Qac Qa1 ys) 3 (0,0)]
def QgI:List Item:=([.code [1,1,0,1,0,0],.inLoop [1,1,0,1,0,0],.inBlock 0,.code [1,1,1]]).map (it (Qan Tryz.prog 86))
def QwM (B:Lo) (c0:CF) (xs:List Gd) (i:Int) (ys:List Int):Prop:=∃dJ:Nat->Value,(∀t,Qbb (dJ t))/\GoE Tryz.prog B c0 H00 1 (Qa4 86 26 (([1,5,11,12,13]:List Nat).zip (Qgi xs i ys)) dJ QgI) (Qa3 (Qer xs i ys)) (2+(Qer xs i ys).length) []
def Qkw (xs:List Gd) (i:Int):Array Value:=#[.int .i64 (Gd.stock (xs.getD i.toNat default)),.int .i64 (Gd.use (xs.getD i.toNat default)),.int .i64 (Gd.br (xs.getD i.toNat default)),slT (List.length (Gd.ships (xs.getD i.toNat default))) (Qac Qe5 (Gd.ships (xs.getD i.toNat default)))]
theorem QxH (B:Lo) (xs:List Gd) (i:Int) (ys:List Int) (dJ0:Nat->Value):landM (Qak Tryz.prog (Qaw Tryz.prog) J0 B 13 1 (Qa4 86 26 (([1,5,11,12,13]:List Nat).zip (Qgi xs i ys)) dJ0 QgI) (Qa3 (Qer xs i ys)) (2+(Qer xs i ys).length)
 [(0,hvT),(2,Qai.tidx i.toNat (Qkw xs i)),(11,Qai.pure (.int .i64 (QdO (Gd.use (xs.getD i.toNat default)) (Gd.br (xs.getD i.toNat default)) (Gd.ships (xs.getD i.toNat default)) (Gd.stock (xs.getD i.toNat default)))) []),(12,Qai.old (Hint.idx i.toNat)),(13,Qai.old (Hint.st (Qac Qa1 (List.set ys i.toNat (QdO (Gd.use (xs.getD i.toNat default)) (Gd.br (xs.getD i.toNat default)) (Gd.ships (xs.getD i.toNat default)) (Gd.stock (xs.getD i.toNat default))))))),(14,hvI (i+1))] 0 [] []) [1,5,11,12,13] [(2,KS.cells [] (Qac Qa1 (List.set ys i.toNat (QdO (Gd.use (xs.getD i.toNat default)) (Gd.br (xs.getD i.toNat default)) (Gd.ships (xs.getD i.toNat default)) (Gd.stock (xs.getD i.toNat default))))))] []=some ⟨86,26,QgI,[],.run,none,Qgi xs (i+1) (List.set ys i.toNat (QdO (Gd.use (xs.getD i.toNat default)) (Gd.br (xs.getD i.toNat default)) (Gd.ships (xs.getD i.toNat default)) (Gd.stock (xs.getD i.toNat default)))),Qer xs (i+1) (List.set ys i.toNat (QdO (Gd.use (xs.getD i.toNat default)) (Gd.br (xs.getD i.toNat default)) (Gd.ships (xs.getD i.toNat default)) (Gd.stock (xs.getD i.toNat default)))),
 [QeR 1 [] (Qac Qa1 (List.set ys i.toNat (QdO (Gd.use (xs.getD i.toNat default)) (Gd.br (xs.getD i.toNat default)) (Gd.ships (xs.getD i.toNat default)) (Gd.stock (xs.getD i.toNat default))))) (Qac Qa1 (List.set ys i.toNat (QdO (Gd.use (xs.getD i.toNat default)) (Gd.br (xs.getD i.toNat default)) (Gd.ships (xs.getD i.toNat default)) (Gd.stock (xs.getD i.toNat default))))),wq (i+1)=i+1,0+Int.toNat i * 1+TypeInfo.size Tryz.t3<=Array.size (Qac Qa1 ys)/\splice (Qac Qa1 ys) (0+Int.toNat i * 1) (Value.cells (QbR {len:=16000,tr:=Tri.set 14 (Tri.set 14 Tri.lf 22 (.int .i64 (QdO (Gd.use (xs.getD i.toNat default)) (Gd.br (xs.getD i.toNat default)) (Gd.ships (xs.getD i.toNat default)) (Gd.stock (xs.getD i.toNat default))))) 23 (.pointer (some {block:=2,off:=0+Int.toNat i * 1}))} 22))=Qac Qa1 (List.set ys i.toNat (QdO (Gd.use (xs.getD i.toNat default)) (Gd.br (xs.getD i.toNat default)) (Gd.ships (xs.getD i.toNat default)) (Gd.stock (xs.getD i.toNat default)))),i=(↑i.toNat:Int)/\Int.toNat i < List.length xs,Qaz []/\Qao Tryz.prog J0 87 #[.agg (Qkw xs i)] (.int .i64 (QdO (Gd.use (xs.getD i.toNat default)) (Gd.br (xs.getD i.toNat default)) (Gd.ships (xs.getD i.toNat default)) (Gd.stock (xs.getD i.toNat default)))),i=(↑i.toNat:Int)/\Int.toNat i < List.length xs/\Array.extract (Qac QbB xs) (Int.toNat i * TypeInfo.size Tryz.t129) (Int.toNat i * TypeInfo.size Tryz.t129+TypeInfo.size Tryz.t129)=(Qkw xs i),ltq i (↑xs.length:Int)=true]⟩:=by kernel_rfl
theorem Qyh (B:Lo) (xs:List Gd) (i:Int) (ys:List Int) (dJ0:Nat->Value):QaK (Qak Tryz.prog (Qaw Tryz.prog) J0 B 9 1 (Qa4 86 26 (([1,5,11,12,13]:List Nat).zip (Qgi xs i ys)) dJ0 QgI) (Qa3 (Qer xs i ys)) (2+(Qer xs i ys).length)
 [(0,hvF)] 0 [] []) [{k:=2,rs:=[],cs:=Qac Qa1 ys}]=some (slT xs.length (Fz.cs {k:=2,rs:=[],cs:=Qac Qa1 ys}),
 [Qct (Fz.rs {k:=2,rs:=[],cs:=Qac Qa1 ys}) (Qac Qa1 ys) (Fz.cs {k:=2,rs:=[],cs:=Qac Qa1 ys}),ltq i (↑xs.length:Int)=false]):=by kernel_rfl
theorem QyW (B:Lo) (xs:List Gd):landM (Qak Tryz.prog (Qaw Tryz.prog) J0 B 9 1 (Qae Tryz.prog 86 26 (([slG xs,.func (.func 87) #[] #[]]).map (Qam 0 4))) H00 1
 [(3,Qai.old (Hint.mk xs.length (Qac (Qb5 [.int .i64 0]) (List.replicate xs.length ()))))] 0 [] []) [1,5,11,12,13] [(1,KS.rows [] [] (Qac Qa1 (List.replicate xs.length 0)))] []=some ⟨86,26,QgI,[],.run,none,Qgi xs (0) (List.replicate xs.length 0),Qer xs (0) (List.replicate xs.length 0),
 [Qbi 1 [] [] (Qac (Qb5 [.int .i64 0]) (List.replicate xs.length ())) (Qac Qa1 (List.replicate xs.length 0)),Qf6 Tryz.prog 22 (QbR {len:=16000,tr:=Tri.set 14 Tri.lf 9 (.int .i64 (↑xs.length:Int))} 9) (QbR {len:=16000,tr:=Tri.set 14 Tri.lf 9 (.int .i64 (↑xs.length:Int))} 9)=some (3,Qac (Qb5 [.int .i64 0]) (List.replicate xs.length ()),List.length xs,TypeInfo.size Tryz.t3)]⟩:=by kernel_rfl
set_option maxHeartbeats 4000000 in
theorem Qws (xs:List Gd) (hn:xs.length<=1000000) (hg:∀g∈xs,gdB g) {B:Lo} (hJ:∀w,B.has w->J0 w) {c0:CF}:∀m:Nat,(∀(i:Int) (ys:List Int),(xs.length - i.toNat)=m->∀(h0:0<=i) (hy:ys=QfU Qg1 0 xs i),QwM B c0 xs i ys->EndsT Tryz.prog B c0 (slI (xs.map Qg1))):=by
 intro m0
 induction m0 using Nat.strongRecOn with
 | _ m0 ih0=>
   intro i ys hm0 h0 hy ⟨dJ0,hdJ0,hg0⟩
   have hyl:ys.length=xs.length:=by rw [hy];exact Qdl
   by_cases q0:(i:Int) < ((↑xs.length:Int))
   ·
    have hgi:=hg _ (QaJ h0 q0)
    exact ((ih0 _ (by omega)) (i+1) (List.set ys i.toNat (QdO (Gd.use (xs.getD i.toNat default)) (Gd.br (xs.getD i.toNat default)) (Gd.ships (xs.getD i.toNat default)) (Gd.stock (xs.getD i.toNat default)))) rfl (by omega) (by (subst hy;exact Qdh (f:=Qg1) h0 q0))
     (hg0.landM okF hJ Qab (QxH B xs i ys dJ0)
     ⟨(QaY (Qbj (fun x=> List.all_eq_true.1 (by rfl)))),⟨(QaV (by omega) (by omega)),⟨(by exact Qfb (z:=1) (fun _=> rfl) (by omega) rfl rfl),⟨⟨by omega,by omega⟩,⟨⟨trivial,Q4N (xs.getD i.toNat default) (by with_reducible assumption)⟩,⟨⟨by omega,by omega,(Qaj (z:=4) (fun _=> rfl) (by omega))⟩,⟨(Qbn q0),trivial⟩⟩⟩⟩⟩⟩⟩ (by kernel_rfl) (by kernel_rfl))).cast (by rfl)
   ·
    exact (GoE.endsT okF hJ Qab hg0 (Qyh B xs i ys dJ0)
     ⟨(Qcg (fun x=> List.all_eq_true.1 (by rfl))),⟨(Qbk (Int.not_lt.1 q0)),trivial⟩⟩).cast (by exact QeM (hy.trans (Qda (by omega))) (by simp))
set_option maxHeartbeats 4000000 in
theorem Q0Z (xs:List Gd) (hn:xs.length<=1000000) (hg:∀g∈xs,gdB g) {B:Lo} (hJ:∀w,B.has w->J0 w):EndsT Tryz.prog B (Qae Tryz.prog 86 26 (([slG xs,.func (.func 87) #[] #[]]).map (Qam 0 4))) (slI (xs.map Qg1)):=by
 exact ((Qws xs hn hg hJ _) (0) (List.replicate xs.length 0) rfl (by omega) (by exact Qfq)
  (GoE.start.landM okF hJ Qab (QyW B xs)
  ⟨(by exact (QbA (by exact ⟨(.simple rfl),trivial⟩) _)),⟨(QfE (bytes:=8) (by kernel_rfl) (by omega) (by omega) (by omega)),trivial⟩⟩ (by kernel_rfl) (by kernel_rfl))).cast (by rfl)
theorem Q43 (xs:List Gd) (hn:xs.length<=1000000) (hg:∀g∈xs,gdB g):Qao Tryz.prog J0 86 #[slG xs,.func (.func 87) #[] #[]] (slI (xs.map Qg1)):=
 Qa8 (ts:=[slG xs,.func (.func 87) #[] #[]]) Qbr (c0:=Qae Tryz.prog 86 26 (([slG xs,.func (.func 87) #[] #[]]).map (Qam 0 4))) (by kernel_rfl) (by kernel_rfl) fun B hJ=> Q0Z xs hn hg hJ
theorem Qn6 (B:Lo) (xs:List Gd):QaK (Qak Tryz.prog (Qaw Tryz.prog) J0 B 6 1 (Qae Tryz.prog 85 5 (([slG xs]).map (Qam 0 4))) H00 1
 [(2,Qai.pure (slT (List.length (List.map Qat xs)) (Qac Qa1 (List.map Qat xs))) [])] 0 [] []) []=some (slT (List.length (List.map Qat xs)) (Qac Qa1 (List.map Qat xs)),
 [Qaz []/\Qao Tryz.prog J0 86 #[slT xs.length (Qac QbB xs),Value.func (Fn.func 125) #[] #[]] (slT (List.length (List.map Qat xs)) (Qac Qa1 (List.map Qat xs)))]):=by kernel_rfl
set_option maxHeartbeats 4000000 in
theorem Qqz (xs:List Gd) (hn:xs.length<=1000000) (hg:∀g∈xs,gdB g) {B:Lo} (hJ:∀w,B.has w->J0 w):EndsT Tryz.prog B (Qae Tryz.prog 85 5 (([slG xs]).map (Qam 0 4))) (slI (xs.map Qat)):=by
 exact (GoE.endsT okF hJ Qab GoE.start (Qn6 B xs)
  ⟨⟨trivial,Q3H (xs) (by with_reducible assumption) (by with_reducible assumption)⟩,trivial⟩).cast (by rfl)
theorem QiV (xs:List Gd) (hn:xs.length<=1000000) (hg:∀g∈xs,gdB g):Qao Tryz.prog J0 85 #[slG xs] (slI (xs.map Qat)):=
 Qa8 (ts:=[slG xs]) Qbr (c0:=Qae Tryz.prog 85 5 (([slG xs]).map (Qam 0 4))) (by kernel_rfl) (by kernel_rfl) fun B hJ=> Qqz xs hn hg hJ
def Qnn (s:Qaa) (load:List Int) (days:Int):Array Value:=#[slT s.stock.length (Qac Qa1 s.stock),slT s.use.length (Qac QaD s.use),.int .i64 s.glo,.int .i64 s.ghi,slT s.lots.length (Qac Qaq s.lots),.int .i64 s.hold,.int .i64 (QaF load 0),.int .i64 days]
def Qgb (s:Qaa):Array Value:=#[slT s.stock.length (Qac Qa1 s.stock),slT s.use.length (Qac QaD s.use),.int .i64 s.glo,.int .i64 s.ghi,slT s.lots.length (Qac Qaq s.lots),.int .i64 s.hold]
def Qnm (t:Qad):Array Value:=#[slT t.uses.length (Qac Qa1 t.uses),slT t.gaps.length (Qac Qa1 t.gaps),slT t.goods.length (Qac Qas t.goods)]
def QnR (B:Lo) (s:Qaa) (load:List Int) (days:Int) (t:Qad):List Prop:=[Qaz []/\Qao Tryz.prog J0 79 #[.agg (Qgb s)] (.bool true)]++([]:List Prop)
def QsP (s:Qaa) (load:List Int) (days:Int) (t:Qad):Qap:=[(6,Qai.pure (.bool true) [])]
def Qok (B:Lo) (s:Qaa) (load:List Int) (days:Int) (t:Qad):List Prop:=[Qaz []/\Qao Tryz.prog J0 80 #[.agg (Qgb s),slT load.length (Qac Qa1 load)] (.bool true)]++QnR B s load days t
def QsM (s:Qaa) (load:List Int) (days:Int) (t:Qad):Qap:=QsP s load days t++[(11,Qai.pure (.bool true) [])]
def QnS (B:Lo) (s:Qaa) (load:List Int) (days:Int) (t:Qad):List Prop:=[Qaz []/\Qao Tryz.prog J0 81 #[.int .i64 days] (.bool true)]++Qok B s load days t
def QsO (s:Qaa) (load:List Int) (days:Int) (t:Qad):Qap:=QsM s load days t++[(16,Qai.pure (.bool true) [])]
theorem QzC (B:Lo) (s:Qaa) (load:List Int) (days:Int) (t:Qad):QaK (Qak Tryz.prog (Qaw Tryz.prog) J0 B 13 1 (Qae Tryz.prog 38 43 (([.agg (Qah s).toArray,slI load,.int .i64 days,.agg (Qa2 t).toArray]).map (Qam 0 4))) H00 1
 (QsO s load days t++[(23,Qai.pure (.bool true) []),(29,Qai.pure (.agg (Qnn s load days)) []),(31,Qai.pure (slT (List.length (QaI s (QaF load 0) days t)) (Qac QbB (QaI s (QaF load 0) days t))) []),(34,Qai.pure (slT (List.length (List.map Qat (QaI s (QaF load 0) days t))) (Qac Qa1 (List.map Qat (QaI s (QaF load 0) days t)))) []),(36,Qai.pure (slT (List.length (List.map Qg1 (QaI s (QaF load 0) days t))) (Qac Qa1 (List.map Qg1 (QaI s (QaF load 0) days t)))) [])]) 0 [] []) []=some (.tuple #[slT (List.length (List.map Qat (QaI s (QaF load 0) days t))) (Qac Qa1 (List.map Qat (QaI s (QaF load 0) days t))),slT (List.length (List.map Qg1 (QaI s (QaF load 0) days t))) (Qac Qa1 (List.map Qg1 (QaI s (QaF load 0) days t))),.int .i64 0],
 [Qaz []/\Qao Tryz.prog J0 86 #[slT (List.length (QaI s (QaF load 0) days t)) (Qac QbB (QaI s (QaF load 0) days t)),Value.func (Fn.func 87) #[] #[]] (slT (List.length (List.map Qg1 (QaI s (QaF load 0) days t))) (Qac Qa1 (List.map Qg1 (QaI s (QaF load 0) days t)))),Qaz []/\Qao Tryz.prog J0 85 #[slT (List.length (QaI s (QaF load 0) days t)) (Qac QbB (QaI s (QaF load 0) days t))] (slT (List.length (List.map Qat (QaI s (QaF load 0) days t))) (Qac Qa1 (List.map Qat (QaI s (QaF load 0) days t)))),Qaz []/\Qao Tryz.prog J0 84 #[.agg (Qnn s load days),.agg (Qnm t)] (slT (List.length (QaI s (QaF load 0) days t)) (Qac QbB (QaI s (QaF load 0) days t))),Qaz []/\Qao Tryz.prog J0 83 #[.agg (Qgb s),slT load.length (Qac Qa1 load),.int .i64 days] (.agg (Qnn s load days)),Qaz []/\Qao Tryz.prog J0 82 #[.agg (Qgb s),.int .i64 days,.agg (Qnm t)] (.bool true)]++QnS B s load days t):=by kernel_rfl
theorem Q0N (B:Lo) (s:Qaa) (load:List Int) (days:Int) (t:Qad):QaK (Qak Tryz.prog (Qaw Tryz.prog) J0 B 10 1 (Qae Tryz.prog 38 43 (([.agg (Qah s).toArray,slI load,.int .i64 days,.agg (Qa2 t).toArray]).map (Qam 0 4))) H00 1
 (QsO s load days t++[(23,Qai.pure (.bool false) [])]) 0 [] []) []=some (.tuple #[slT 0 #[],slT 0 #[],.int .i64 2],
 [Qaz []/\Qao Tryz.prog J0 82 #[.agg (Qgb s),.int .i64 days,.agg (Qnm t)] (.bool false)]++QnS B s load days t):=by kernel_rfl
theorem Q12 (B:Lo) (s:Qaa) (load:List Int) (days:Int) (t:Qad):QaK (Qak Tryz.prog (Qaw Tryz.prog) J0 B 10 1 (Qae Tryz.prog 38 43 (([.agg (Qah s).toArray,slI load,.int .i64 days,.agg (Qa2 t).toArray]).map (Qam 0 4))) H00 1
 (QsM s load days t++[(16,Qai.pure (.bool false) [])]) 0 [] []) []=some (.tuple #[slT 0 #[],slT 0 #[],.int .i64 2],
 [Qaz []/\Qao Tryz.prog J0 81 #[.int .i64 days] (.bool false)]++Qok B s load days t):=by kernel_rfl
theorem QzY (B:Lo) (s:Qaa) (load:List Int) (days:Int) (t:Qad):QaK (Qak Tryz.prog (Qaw Tryz.prog) J0 B 10 1 (Qae Tryz.prog 38 43 (([.agg (Qah s).toArray,slI load,.int .i64 days,.agg (Qa2 t).toArray]).map (Qam 0 4))) H00 1
 (QsP s load days t++[(11,Qai.pure (.bool false) [])]) 0 [] []) []=some (.tuple #[slT 0 #[],slT 0 #[],.int .i64 2],
 [Qaz []/\Qao Tryz.prog J0 80 #[.agg (Qgb s),slT load.length (Qac Qa1 load)] (.bool false)]++QnR B s load days t):=by kernel_rfl
theorem Q03 (B:Lo) (s:Qaa) (load:List Int) (days:Int) (t:Qad):QaK (Qak Tryz.prog (Qaw Tryz.prog) J0 B 10 1 (Qae Tryz.prog 38 43 (([.agg (Qah s).toArray,slI load,.int .i64 days,.agg (Qa2 t).toArray]).map (Qam 0 4))) H00 1
 [(6,Qai.pure (.bool false) [])] 0 [] []) []=some (.tuple #[slT 0 #[],slT 0 #[],.int .i64 2],
 [Qaz []/\Qao Tryz.prog J0 79 #[.agg (Qgb s)] (.bool false)]):=by kernel_rfl
set_option maxHeartbeats 4000000 in
theorem Q2n (s:Qaa) (load:List Int) (days:Int) (t:Qad)  {B:Lo} (hJ:∀w,B.has w->J0 w):EndsT Tryz.prog B (Qae Tryz.prog 38 43 (([.agg (Qah s).toArray,slI load,.int .i64 days,.agg (Qa2 t).toArray]).map (Qam 0 4))) (.tuple #[if Qa0 s && (QcF s load && (inB days 0 300 && Qbv s days t)) then slI ((QaI s (QaF load 0) days t).map Qat) else slI [],if Qa0 s && (QcF s load && (inB days 0 300 && Qbv s days t)) then slI ((QaI s (QaF load 0) days t).map Qg1) else slI [],.int .i64 (if Qa0 s && (QcF s load && (inB days 0 300 && Qbv s days t)) then 0 else 2)]):=by
 cases q0:Qa0 s with
 | true=>
   have hp0:Qaz (QnR B s load days t):=by
    have g4:(QaI s (QaF load 0) days t).length<=1000000:=by simp only [QaI,List.length_map,QbM];have:=(Qa5 ‹Qa0 s=true›).1;omega
    exact ⟨⟨trivial,(by have t_:=QjN (s);rw [q0] at t_;exact t_)⟩,trivial⟩
   cases q1:QcF s load with
   | true=>
     have hp1:Qaz (Qok B s load days t):=by
      have g1:=QcX ‹Qa0 s=true› ‹QcF s load=true›
      have g4:(QaI s (QaF load 0) days t).length<=1000000:=by simp only [QaI,List.length_map,QbM];have:=(Qa5 ‹Qa0 s=true›).1;omega
      have g5:=g1.1
      have g6:=g1.2.2.1
      have g7:=g1.2.2.2
      have g8:=g1.2.1
      exact ⟨⟨trivial,(by have t_:=Qns (s) (load) (by with_reducible assumption);rw [q1] at t_;exact t_)⟩,hp0⟩
     cases q2:inB days 0 300 with
     | true=>
       have hp2:Qaz (QnS B s load days t):=by
        have g1:=QcX ‹Qa0 s=true› ‹QcF s load=true›
        have g2:=QaP.1 ‹inB days 0 300=true›
        have g4:(QaI s (QaF load 0) days t).length<=1000000:=by simp only [QaI,List.length_map,QbM];have:=(Qa5 ‹Qa0 s=true›).1;omega
        have g5:=g1.1
        have g6:=g1.2.2.1
        have g7:=g1.2.2.2
        have g8:=g1.2.1
        exact ⟨⟨trivial,(by have t_:=QjI (days);rw [q2] at t_;exact t_)⟩,hp1⟩
       cases q3:Qbv s days t with
       | true=>
         have g1:=QcX ‹Qa0 s=true› ‹QcF s load=true›
         have g2:=QaP.1 ‹inB days 0 300=true›
         have g3:=QuB (load:=QaF load 0) ‹Qa0 s=true› ‹Qbv s days t=true› g2 g1.2.1 g1.2.2.1 g1.2.2.2
         have g4:(QaI s (QaF load 0) days t).length<=1000000:=by simp only [QaI,List.length_map,QbM];have:=(Qa5 ‹Qa0 s=true›).1;omega
         have g5:=g1.1
         have g6:=g1.2.2.1
         have g7:=g1.2.2.2
         have g8:=g1.2.1
         exact (GoE.endsT okF hJ Qab GoE.start (QzC B s load days t)
          ⟨⟨trivial,Q43 (QaI s (QaF load 0) days t) (by with_reducible assumption) (by with_reducible assumption)⟩,⟨⟨trivial,QiV (QaI s (QaF load 0) days t) (by with_reducible assumption) (by with_reducible assumption)⟩,⟨⟨trivial,Qxt (s) (QaF load 0) (days) (t) (by with_reducible assumption) (by with_reducible assumption) (by with_reducible assumption) (by with_reducible assumption) (by with_reducible assumption) (by with_reducible assumption)⟩,⟨⟨trivial,Qpz (s) (load) (days) (by with_reducible assumption)⟩,⟨⟨trivial,(by have t_:=Qto (s) (days) (t) (by with_reducible assumption);rw [q3] at t_;exact t_)⟩,hp2⟩⟩⟩⟩⟩).cast (by rfl)
       | false=>
         have g1:=QcX ‹Qa0 s=true› ‹QcF s load=true›
         have g2:=QaP.1 ‹inB days 0 300=true›
         have g4:(QaI s (QaF load 0) days t).length<=1000000:=by simp only [QaI,List.length_map,QbM];have:=(Qa5 ‹Qa0 s=true›).1;omega
         have g5:=g1.1
         have g6:=g1.2.2.1
         have g7:=g1.2.2.2
         have g8:=g1.2.1
         exact (GoE.endsT okF hJ Qab GoE.start (Q0N B s load days t)
          ⟨⟨trivial,(by have t_:=Qto (s) (days) (t) (by with_reducible assumption);rw [q3] at t_;exact t_)⟩,hp2⟩).cast (by rfl)
     | false=>
       have g1:=QcX ‹Qa0 s=true› ‹QcF s load=true›
       have g4:(QaI s (QaF load 0) days t).length<=1000000:=by simp only [QaI,List.length_map,QbM];have:=(Qa5 ‹Qa0 s=true›).1;omega
       have g5:=g1.1
       have g6:=g1.2.2.1
       have g7:=g1.2.2.2
       have g8:=g1.2.1
       exact (GoE.endsT okF hJ Qab GoE.start (Q12 B s load days t)
        ⟨⟨trivial,(by have t_:=QjI (days);rw [q2] at t_;exact t_)⟩,hp1⟩).cast (by rfl)
   | false=>
     have g4:(QaI s (QaF load 0) days t).length<=1000000:=by simp only [QaI,List.length_map,QbM];have:=(Qa5 ‹Qa0 s=true›).1;omega
     exact (GoE.endsT okF hJ Qab GoE.start (QzY B s load days t)
      ⟨⟨trivial,(by have t_:=Qns (s) (load) (by with_reducible assumption);rw [q1] at t_;exact t_)⟩,hp0⟩).cast (by rfl)
 | false=>
   exact (GoE.endsT okF hJ Qab GoE.start (Q03 B s load days t)
    ⟨⟨trivial,(by have t_:=QjN (s);rw [q0] at t_;exact t_)⟩,trivial⟩).cast (by rfl)
theorem Q5e (s:Qaa) (load:List Int) (days:Int) (t:Qad)  :Qao Tryz.prog J0 38 #[.agg (Qah s).toArray,slI load,.int .i64 days,.agg (Qa2 t).toArray] (.tuple #[if Qa0 s && (QcF s load && (inB days 0 300 && Qbv s days t)) then slI ((QaI s (QaF load 0) days t).map Qat) else slI [],if Qa0 s && (QcF s load && (inB days 0 300 && Qbv s days t)) then slI ((QaI s (QaF load 0) days t).map Qg1) else slI [],.int .i64 (if Qa0 s && (QcF s load && (inB days 0 300 && Qbv s days t)) then 0 else 2)]):=
 Qa8 (ts:=[.agg (Qah s).toArray,slI load,.int .i64 days,.agg (Qa2 t).toArray]) Qbr (c0:=Qae Tryz.prog 38 43 (([.agg (Qah s).toArray,slI load,.int .i64 days,.agg (Qa2 t).toArray]).map (Qam 0 4))) (by kernel_rfl) (by kernel_rfl) fun B hJ=> Q2n s load days t  hJ
end
end Go.Proofs.YtiabgkiccaodmaaGreat

namespace Go.Proofs.YtiabgkiccaodmaaGreat
open Go Go.CE Go.RowKit
noncomputable section
set_option maxRecDepth 100000
theorem Qba {α:Type} [Inhabited α] {l:List α} {i:Int} {p:α->Bool} (h0:0<=i) (h:i < l.length):(l.drop i.toNat).all p=(p (l.getD i.toNat default) && (l.drop (i+1).toNat).all p):=by
 obtain ⟨k,rfl⟩:∃k:Nat,i=k:=⟨i.toNat,by omega⟩
 have hk:k < l.length:=by omega
 have e1:((k:Int)).toNat=k:=by omega
 have e2:((k:Int)+1).toNat=k+1:=by omega
 rw [e1,e2,List.drop_eq_getElem_cons hk,List.all_cons]
 simp [List.getD_eq_getElem?_getD,hk]
theorem QaB {α:Type} {l:List α} {i:Int} {p:α->Bool} (h:l.length<=i):(l.drop i.toNat).all p=true:=by
 rw [List.drop_eq_nil_of_le (by omega)];rfl
def Qpp (k:Nat) (l:Qag):Bool:=QcE l.goods 100000 && (decide (l.goods.length=k) && (inB l.weight 0 100000 && inB l.cost 0 1000000))
def storeT (s:Qaa):Bool:=inB s.stock.length 1 4 && (decide (s.use.length=s.stock.length) && (Qb6 s.glo s.ghi 1 60 && (decide (s.lots.length<=6) && inB s.hold 0 100000)))
def QsX (s:Qaa):Bool:=s.stock.all (fun x=> inB x 0 100000) && (QcE s.use 1000 && (s.lots.all (Qpp s.stock.length) && storeT s))
theorem QxD {s:Qaa}:QsX s=Qa0 s:=by
 have e:Qpp s.stock.length=QmE s.stock.length:=by
  funext l;unfold Qpp QmE
  cases QcE l.goods 100000 <;> cases decide (l.goods.length=s.stock.length) <;> rfl
 unfold QsX Qa0 storeT QpZ
 rw [e]
 cases inB s.stock.length 1 4 <;> cases s.stock.all (fun x=> inB x 0 100000) <;> cases decide (s.use.length=s.stock.length) <;> cases QcE s.use 1000 <;> cases Qb6 s.glo s.ghi 1 60 <;> cases decide (s.lots.length<=6) <;> cases s.lots.all (QmE s.stock.length) <;> simp
def wtL (l:List Qag):Nat:=(l.map fun x=> x.goods.length+2).sum
theorem Q2t {l:List Qag} {i:Int} (h0:0<=i) (h:i < l.length):wtL (l.drop i.toNat)=(l.getD i.toNat default).goods.length+2+wtL (l.drop (i+1).toNat):=by
 obtain ⟨k,rfl⟩:∃k:Nat,i=k:=⟨i.toNat,by omega⟩
 have hk:k < l.length:=by omega
 have e1:((k:Int)).toNat=k:=by omega
 have e2:((k:Int)+1).toNat=k+1:=by omega
 rw [e1,e2,List.drop_eq_getElem_cons hk]
 unfold wtL
 rw [List.map_cons,List.sum_cons]
 simp [List.getD_eq_getElem?_getD,hk]
def Qfr (s:Qaa) (i:Int):List Value:=[pA 2 0,.int .i64 i]
def Qdg (s:Qaa) (i:Int):List Obj:=[Obj.cells #[Qay 1 (slT s.stock.length (Qac Qa1 s.stock)),Qay 1 (slT s.use.length (Qac QaD s.use)),.int .i64 s.glo,.int .i64 s.ghi,Qay 1 (slT s.lots.length (Qac Qaq s.lots)),.int .i64 s.hold] 62]
def Qfy:List Item:=([.code [1,0,1,0,0],.inLoop [1,0,1,0,0],.inBlock 0,.code [1,1]]).map (it (Qan Tryz.prog 44))
def Qzm (B:Lo) (c0:CF) (s:Qaa) (i:Int):Prop:=∃dJ:Nat->Value,(∀t,Qbb (dJ t))/\GoE Tryz.prog B c0 H00 1 (Qa4 44 110 (([1,3]:List Nat).zip (Qfr s i)) dJ Qfy) (Qa3 (Qdg s i)) (2+(Qdg s i).length) []
def QfA (s:Qaa) (i:Int):List Value:=[pA 2 0,.int .i64 i]
def Qdo (s:Qaa) (i:Int):List Obj:=[Obj.cells #[Qay 1 (slT s.stock.length (Qac Qa1 s.stock)),Qay 1 (slT s.use.length (Qac QaD s.use)),.int .i64 s.glo,.int .i64 s.ghi,Qay 1 (slT s.lots.length (Qac Qaq s.lots)),.int .i64 s.hold] 62]
def Qf0:List Item:=([.code [1,1,0,1,0,0],.inLoop [1,1,0,1,0,0],.inBlock 2,.code [1,1,1]]).map (it (Qan Tryz.prog 44))
def QwY (B:Lo) (c0:CF) (s:Qaa) (i:Int):Prop:=∃dJ:Nat->Value,(∀t,Qbb (dJ t))/\GoE Tryz.prog B c0 H00 1 (Qa4 44 110 (([1,4]:List Nat).zip (QfA s i)) dJ Qf0) (Qa3 (Qdo s i)) (2+(Qdo s i).length) []
def Qdm (s:Qaa) (i:Int):List Value:=[pA 2 0,.int .i64 i]
def Qbw (s:Qaa) (i:Int):List Obj:=[Obj.cells #[Qay 1 (slT s.stock.length (Qac Qa1 s.stock)),Qay 1 (slT s.use.length (Qac QaD s.use)),.int .i64 s.glo,.int .i64 s.ghi,Qay 1 (slT s.lots.length (Qac Qaq s.lots)),.int .i64 s.hold] 62]
def Qdb:List Item:=([.code [1,1,1,0,1,0,0],.inLoop [1,1,1,0,1,0,0],.inBlock 4,.code [1,1,1,1]]).map (it (Qan Tryz.prog 44))
def QxW (B:Lo) (c0:CF) (s:Qaa) (i:Int):Prop:=∃dJ:Nat->Value,(∀t,Qbb (dJ t))/\GoE Tryz.prog B c0 H00 1 (Qa4 44 110 (([1,5]:List Nat).zip (Qdm s i)) dJ Qdb) (Qa3 (Qbw s i)) (2+(Qbw s i).length) []
def QdG (s:Qaa) (i j:Int):List Value:=[pA 2 0,.int .i64 i,pA 3 0,.int .i64 j]
def QbC (s:Qaa) (i j:Int):List Obj:=[Obj.cells #[Qay 1 (slT s.stock.length (Qac Qa1 s.stock)),Qay 1 (slT s.use.length (Qac QaD s.use)),.int .i64 s.glo,.int .i64 s.ghi,Qay 1 (slT s.lots.length (Qac Qaq s.lots)),.int .i64 s.hold] 62,Obj.cells #[Qay 1 (slT (List.length (Qag.goods (s.lots.getD i.toNat default))) (Qac QaD (Qag.goods (s.lots.getD i.toNat default)))),.int .i64 (Qag.weight (s.lots.getD i.toNat default)),.int .i64 (Qag.cost (s.lots.getD i.toNat default))] 118]
def QdI:List Item:=([.code [1,1,1,0,1,0,0,1,0,0,1,0,1,0,0],.inLoop [1,1,1,0,1,0,0,1,0,0,1,0,1,0,0],.inBlock 6,.code [1,1,1,0,1,0,0,1,0,0,1,1],.inBlock 5,.code [1,1,1,0,1,0,0,1,1],.inLoop [1,1,1,0,1,0,0],.inBlock 4,.code [1,1,1,1]]).map (it (Qan Tryz.prog 44))
def Qwm (B:Lo) (c0:CF) (s:Qaa) (i j:Int):Prop:=∃dJ:Nat->Value,(∀t,Qbb (dJ t))/\GoE Tryz.prog B c0 H00 1 (Qa4 44 110 (([1,5,6,7]:List Nat).zip (QdG s i j)) dJ QdI) (Qa3 (QbC s i j)) (2+(QbC s i j).length) []
def QlN (B:Lo) (s:Qaa) (i:Int) (dJ0:Nat->Value):List Prop:=[i=(↑i.toNat:Int)/\Int.toNat i < List.length s.stock/\Array.extract (Qac Qa1 s.stock) (Int.toNat i * TypeInfo.size Tryz.t3) (Int.toNat i * TypeInfo.size Tryz.t3+TypeInfo.size Tryz.t3)=#[.int .i64 (s.stock.getD i.toNat default)],ltq i (↑s.stock.length:Int)=true]++([]:List Prop)
def QoC (s:Qaa) (i:Int) (dJ0:Nat->Value):Qap:=[(4,hvT),(8,Qai.tidx i.toNat #[.int .i64 (s.stock.getD i.toNat default)])]
theorem QvZ (B:Lo) (s:Qaa) (i:Int) (dJ0:Nat->Value):landM (Qak Tryz.prog (Qaw Tryz.prog) J0 B 14 1 (Qa4 44 110 (([1,3]:List Nat).zip (Qfr s i)) dJ0 Qfy) (Qa3 (Qdg s i)) (2+(Qdg s i).length)
 (QoC s i dJ0++[(10,Qai.pure (.bool true) []),(13,hvI (i+1))]) 0 [] []) [1,3] [(2,KS.auto)] []=some ⟨44,110,Qfy,[],.run,none,Qfr s (i+1),Qdg s (i+1),
 [wq (i+1)=i+1,Qaz []/\Qao Tryz.prog J0 69 #[.int .i64 (s.stock.getD i.toNat default),.int .i64 0,.int .i64 100000] (.bool true)]++QlN B s i dJ0⟩:=by kernel_rfl
theorem QyB (B:Lo) (s:Qaa) (i:Int) (dJ0:Nat->Value):QaK (Qak Tryz.prog (Qaw Tryz.prog) J0 B 14 1 (Qa4 44 110 (([1,3]:List Nat).zip (Qfr s i)) dJ0 Qfy) (Qa3 (Qdg s i)) (2+(Qdg s i).length)
 (QoC s i dJ0++[(10,Qai.pure (.bool false) [])]) 0 [] []) []=some (.bool false,
 [Qaz []/\Qao Tryz.prog J0 69 #[.int .i64 (s.stock.getD i.toNat default),.int .i64 0,.int .i64 100000] (.bool false)]++QlN B s i dJ0):=by kernel_rfl
theorem Qz3 (B:Lo) (s:Qaa) (i:Int) (dJ0:Nat->Value):landM (Qak Tryz.prog (Qaw Tryz.prog) J0 B 10 1 (Qa4 44 110 (([1,3]:List Nat).zip (Qfr s i)) dJ0 Qfy) (Qa3 (Qdg s i)) (2+(Qdg s i).length)
 [(4,hvF)] 0 [] []) [1,4] [(2,KS.auto)] []=some ⟨44,110,Qf0,[],.run,none,QfA s (0),Qdo s (0),
 [ltq i (↑s.stock.length:Int)=false]⟩:=by kernel_rfl
def Qkn (B:Lo) (s:Qaa) (i:Int) (dJ0:Nat->Value):List Prop:=[i=(↑i.toNat:Int)/\Int.toNat i < List.length s.use/\Array.extract (Qac QaD s.use) (Int.toNat i * TypeInfo.size Tryz.t25) (Int.toNat i * TypeInfo.size Tryz.t25+TypeInfo.size Tryz.t25)=#[.int .i64 (Span.lo (s.use.getD i.toNat default)),.int .i64 (Span.hi (s.use.getD i.toNat default))],ltq i (↑s.use.length:Int)=true]++([]:List Prop)
def QpY (s:Qaa) (i:Int) (dJ0:Nat->Value):Qap:=[(4,hvT),(8,Qai.tidx i.toNat #[.int .i64 (Span.lo (s.use.getD i.toNat default)),.int .i64 (Span.hi (s.use.getD i.toNat default))])]
theorem QwX (B:Lo) (s:Qaa) (i:Int) (dJ0:Nat->Value):landM (Qak Tryz.prog (Qaw Tryz.prog) J0 B 14 1 (Qa4 44 110 (([1,4]:List Nat).zip (QfA s i)) dJ0 Qf0) (Qa3 (Qdo s i)) (2+(Qdo s i).length)
 (QpY s i dJ0++[(10,Qai.pure (.bool true) []),(13,hvI (i+1))]) 0 [] []) [1,4] [(2,KS.auto)] []=some ⟨44,110,Qf0,[],.run,none,QfA s (i+1),Qdo s (i+1),
 [wq (i+1)=i+1,Qaz []/\Qao Tryz.prog J0 70 #[.agg #[.int .i64 (Span.lo (s.use.getD i.toNat default)),.int .i64 (Span.hi (s.use.getD i.toNat default))],.int .i64 0,.int .i64 1000] (.bool true)]++Qkn B s i dJ0⟩:=by kernel_rfl
theorem Qz2 (B:Lo) (s:Qaa) (i:Int) (dJ0:Nat->Value):QaK (Qak Tryz.prog (Qaw Tryz.prog) J0 B 14 1 (Qa4 44 110 (([1,4]:List Nat).zip (QfA s i)) dJ0 Qf0) (Qa3 (Qdo s i)) (2+(Qdo s i).length)
 (QpY s i dJ0++[(10,Qai.pure (.bool false) [])]) 0 [] []) []=some (.bool false,
 [Qaz []/\Qao Tryz.prog J0 70 #[.agg #[.int .i64 (Span.lo (s.use.getD i.toNat default)),.int .i64 (Span.hi (s.use.getD i.toNat default))],.int .i64 0,.int .i64 1000] (.bool false)]++Qkn B s i dJ0):=by kernel_rfl
theorem Qwd (B:Lo) (s:Qaa) (i:Int) (dJ0:Nat->Value):landM (Qak Tryz.prog (Qaw Tryz.prog) J0 B 10 1 (Qa4 44 110 (([1,4]:List Nat).zip (QfA s i)) dJ0 Qf0) (Qa3 (Qdo s i)) (2+(Qdo s i).length)
 [(4,hvF)] 0 [] []) [1,5] [(2,KS.auto)] []=some ⟨44,110,Qdb,[],.run,none,Qdm s (0),Qbw s (0),
 [ltq i (↑s.use.length:Int)=false]⟩:=by kernel_rfl
theorem Qzi (B:Lo) (s:Qaa) (i:Int) (dJ0:Nat->Value):landM (Qak Tryz.prog (Qaw Tryz.prog) J0 B 14 1 (Qa4 44 110 (([1,5]:List Nat).zip (Qdm s i)) dJ0 Qdb) (Qa3 (Qbw s i)) (2+(Qbw s i).length)
 [(4,hvT),(8,Qai.tidx i.toNat #[slT (List.length (Qag.goods (s.lots.getD i.toNat default))) (Qac QaD (Qag.goods (s.lots.getD i.toNat default))),.int .i64 (Qag.weight (s.lots.getD i.toNat default)),.int .i64 (Qag.cost (s.lots.getD i.toNat default))])] 0 [] []) [1,5,6,7] [(2,KS.auto),(3,KS.auto)] []=some ⟨44,110,QdI,[],.run,none,QdG s (i) (0),QbC s (i) (0),
 [i=(↑i.toNat:Int)/\Int.toNat i < List.length s.lots/\Array.extract (Qac Qaq s.lots) (Int.toNat i * TypeInfo.size Tryz.t118) (Int.toNat i * TypeInfo.size Tryz.t118+TypeInfo.size Tryz.t118)=#[slT (List.length (Qag.goods (s.lots.getD i.toNat default))) (Qac QaD (Qag.goods (s.lots.getD i.toNat default))),.int .i64 (Qag.weight (s.lots.getD i.toNat default)),.int .i64 (Qag.cost (s.lots.getD i.toNat default))],ltq i (↑s.lots.length:Int)=true]⟩:=by kernel_rfl
def Qla (B:Lo) (s:Qaa) (i:Int) (dJ0:Nat->Value):List Prop:=[ltq i (↑s.lots.length:Int)=false]++([]:List Prop)
def QpR (s:Qaa) (i:Int) (dJ0:Nat->Value):Qap:=[(4,hvF)]
def Qk8 (B:Lo) (s:Qaa) (i:Int) (dJ0:Nat->Value):List Prop:=[Qaz []/\Qao Tryz.prog J0 69 #[.int .i64 (↑s.stock.length:Int),.int .i64 1,.int .i64 4] (.bool true)]++Qla B s i dJ0
def QpI (s:Qaa) (i:Int) (dJ0:Nat->Value):Qap:=QpR s i dJ0++[(8,Qai.pure (.bool true) [])]
def QkD (B:Lo) (s:Qaa) (i:Int) (dJ0:Nat->Value):List Prop:=[eqq (↑s.use.length:Int) (↑s.stock.length:Int)=true]++Qk8 B s i dJ0
def Qqs (s:Qaa) (i:Int) (dJ0:Nat->Value):Qap:=QpI s i dJ0++[(16,hvT)]
def QlQ (B:Lo) (s:Qaa) (i:Int) (dJ0:Nat->Value):List Prop:=[Qaz []/\Qao Tryz.prog J0 30 #[.agg #[.int .i64 s.glo,.int .i64 s.ghi]] (.bool true)]++QkD B s i dJ0
def QqG (s:Qaa) (i:Int) (dJ0:Nat->Value):Qap:=Qqs s i dJ0++[(21,Qai.pure (.bool true) [])]
def QjW (B:Lo) (s:Qaa) (i:Int) (dJ0:Nat->Value):List Prop:=[(!ltq 6 (↑s.lots.length:Int))=true]++QlQ B s i dJ0
def Qqd (s:Qaa) (i:Int) (dJ0:Nat->Value):Qap:=QqG s i dJ0++[(27,hvT)]
theorem QvV (B:Lo) (s:Qaa) (i:Int) (dJ0:Nat->Value):QaK (Qak Tryz.prog (Qaw Tryz.prog) J0 B 9 1 (Qa4 44 110 (([1,5]:List Nat).zip (Qdm s i)) dJ0 Qdb) (Qa3 (Qbw s i)) (2+(Qbw s i).length)
 (Qqd s i dJ0++[(32,Qai.pure (.bool true) [])]) 0 [] []) []=some (.bool true,
 [Qaz []/\Qao Tryz.prog J0 69 #[.int .i64 s.hold,.int .i64 0,.int .i64 100000] (.bool true)]++QjW B s i dJ0):=by kernel_rfl
theorem Qwh (B:Lo) (s:Qaa) (i:Int) (dJ0:Nat->Value):QaK (Qak Tryz.prog (Qaw Tryz.prog) J0 B 9 1 (Qa4 44 110 (([1,5]:List Nat).zip (Qdm s i)) dJ0 Qdb) (Qa3 (Qbw s i)) (2+(Qbw s i).length)
 (Qqd s i dJ0++[(32,Qai.pure (.bool false) [])]) 0 [] []) []=some (.bool false,
 [Qaz []/\Qao Tryz.prog J0 69 #[.int .i64 s.hold,.int .i64 0,.int .i64 100000] (.bool false)]++QjW B s i dJ0):=by kernel_rfl
theorem QwC (B:Lo) (s:Qaa) (i:Int) (dJ0:Nat->Value):QaK (Qak Tryz.prog (Qaw Tryz.prog) J0 B 9 1 (Qa4 44 110 (([1,5]:List Nat).zip (Qdm s i)) dJ0 Qdb) (Qa3 (Qbw s i)) (2+(Qbw s i).length)
 (QqG s i dJ0++[(27,hvF)]) 0 [] []) []=some (.bool false,
 [(!ltq 6 (↑s.lots.length:Int))=false]++QlQ B s i dJ0):=by kernel_rfl
theorem QuC (B:Lo) (s:Qaa) (i:Int) (dJ0:Nat->Value):QaK (Qak Tryz.prog (Qaw Tryz.prog) J0 B 9 1 (Qa4 44 110 (([1,5]:List Nat).zip (Qdm s i)) dJ0 Qdb) (Qa3 (Qbw s i)) (2+(Qbw s i).length)
 (Qqs s i dJ0++[(21,Qai.pure (.bool false) [])]) 0 [] []) []=some (.bool false,
 [Qaz []/\Qao Tryz.prog J0 30 #[.agg #[.int .i64 s.glo,.int .i64 s.ghi]] (.bool false)]++QkD B s i dJ0):=by kernel_rfl
theorem Quh (B:Lo) (s:Qaa) (i:Int) (dJ0:Nat->Value):QaK (Qak Tryz.prog (Qaw Tryz.prog) J0 B 9 1 (Qa4 44 110 (([1,5]:List Nat).zip (Qdm s i)) dJ0 Qdb) (Qa3 (Qbw s i)) (2+(Qbw s i).length)
 (QpI s i dJ0++[(16,hvF)]) 0 [] []) []=some (.bool false,
 [eqq (↑s.use.length:Int) (↑s.stock.length:Int)=false]++Qk8 B s i dJ0):=by kernel_rfl
theorem Qux (B:Lo) (s:Qaa) (i:Int) (dJ0:Nat->Value):QaK (Qak Tryz.prog (Qaw Tryz.prog) J0 B 9 1 (Qa4 44 110 (([1,5]:List Nat).zip (Qdm s i)) dJ0 Qdb) (Qa3 (Qbw s i)) (2+(Qbw s i).length)
 (QpR s i dJ0++[(8,Qai.pure (.bool false) [])]) 0 [] []) []=some (.bool false,
 [Qaz []/\Qao Tryz.prog J0 69 #[.int .i64 (↑s.stock.length:Int),.int .i64 1,.int .i64 4] (.bool false)]++Qla B s i dJ0):=by kernel_rfl
def QlK (B:Lo) (s:Qaa) (i j:Int) (dJ0:Nat->Value):List Prop:=[j=(↑j.toNat:Int)/\Int.toNat j < List.length (Qag.goods (s.lots.getD i.toNat default))/\Array.extract (Qac QaD (Qag.goods (s.lots.getD i.toNat default))) (Int.toNat j * TypeInfo.size Tryz.t25) (Int.toNat j * TypeInfo.size Tryz.t25+TypeInfo.size Tryz.t25)=#[.int .i64 (Span.lo (List.getD (Qag.goods (s.lots.getD i.toNat default)) j.toNat default)),.int .i64 (Span.hi (List.getD (Qag.goods (s.lots.getD i.toNat default)) j.toNat default))],ltq j (↑(List.length (Qag.goods (s.lots.getD i.toNat default))):Int)=true]++([]:List Prop)
def Qp6 (s:Qaa) (i j:Int) (dJ0:Nat->Value):Qap:=[(4,hvT),(8,Qai.tidx j.toNat #[.int .i64 (Span.lo (List.getD (Qag.goods (s.lots.getD i.toNat default)) j.toNat default)),.int .i64 (Span.hi (List.getD (Qag.goods (s.lots.getD i.toNat default)) j.toNat default))])]
theorem Quf (B:Lo) (s:Qaa) (i j:Int) (dJ0:Nat->Value):landM (Qak Tryz.prog (Qaw Tryz.prog) J0 B 14 1 (Qa4 44 110 (([1,5,6,7]:List Nat).zip (QdG s i j)) dJ0 QdI) (Qa3 (QbC s i j)) (2+(QbC s i j).length)
 (Qp6 s i j dJ0++[(10,Qai.pure (.bool true) []),(13,hvI (j+1))]) 0 [] []) [1,5,6,7] [(2,KS.auto),(3,KS.auto)] []=some ⟨44,110,QdI,[],.run,none,QdG s (i) (j+1),QbC s (i) (j+1),
 [wq (j+1)=j+1,Qaz []/\Qao Tryz.prog J0 70 #[.agg #[.int .i64 (Span.lo (List.getD (Qag.goods (s.lots.getD i.toNat default)) j.toNat default)),.int .i64 (Span.hi (List.getD (Qag.goods (s.lots.getD i.toNat default)) j.toNat default))],.int .i64 0,.int .i64 100000] (.bool true)]++QlK B s i j dJ0⟩:=by kernel_rfl
theorem Qv8 (B:Lo) (s:Qaa) (i j:Int) (dJ0:Nat->Value):QaK (Qak Tryz.prog (Qaw Tryz.prog) J0 B 14 1 (Qa4 44 110 (([1,5,6,7]:List Nat).zip (QdG s i j)) dJ0 QdI) (Qa3 (QbC s i j)) (2+(QbC s i j).length)
 (Qp6 s i j dJ0++[(10,Qai.pure (.bool false) [])]) 0 [] []) []=some (.bool false,
 [Qaz []/\Qao Tryz.prog J0 70 #[.agg #[.int .i64 (Span.lo (List.getD (Qag.goods (s.lots.getD i.toNat default)) j.toNat default)),.int .i64 (Span.hi (List.getD (Qag.goods (s.lots.getD i.toNat default)) j.toNat default))],.int .i64 0,.int .i64 100000] (.bool false)]++QlK B s i j dJ0):=by kernel_rfl
def Qke (B:Lo) (s:Qaa) (i j:Int) (dJ0:Nat->Value):List Prop:=[ltq j (↑(List.length (Qag.goods (s.lots.getD i.toNat default))):Int)=false]++([]:List Prop)
def QoH (s:Qaa) (i j:Int) (dJ0:Nat->Value):Qap:=[(4,hvF)]
theorem QtN (B:Lo) (s:Qaa) (i j:Int) (dJ0:Nat->Value):QaK (Qak Tryz.prog (Qaw Tryz.prog) J0 B 12 1 (Qa4 44 110 (([1,5,6,7]:List Nat).zip (QdG s i j)) dJ0 QdI) (Qa3 (QbC s i j)) (2+(QbC s i j).length)
 (QoH s i j dJ0++[(11,hvT)]) 0 [] []) []=some (.bool false,
 [(!eqq (↑(List.length (Qag.goods (s.lots.getD i.toNat default))):Int) (↑s.stock.length:Int))=true]++Qke B s i j dJ0):=by kernel_rfl
def QlY (B:Lo) (s:Qaa) (i j:Int) (dJ0:Nat->Value):List Prop:=[(!eqq (↑(List.length (Qag.goods (s.lots.getD i.toNat default))):Int) (↑s.stock.length:Int))=false]++Qke B s i j dJ0
def QpW (s:Qaa) (i j:Int) (dJ0:Nat->Value):Qap:=QoH s i j dJ0++[(11,hvF)]
def QiE (B:Lo) (s:Qaa) (i j:Int) (dJ0:Nat->Value):List Prop:=[Qaz []/\Qao Tryz.prog J0 69 #[.int .i64 (Qag.weight (s.lots.getD i.toNat default)),.int .i64 0,.int .i64 100000] (.bool true)]++QlY B s i j dJ0
def QmT (s:Qaa) (i j:Int) (dJ0:Nat->Value):Qap:=QpW s i j dJ0++[(15,Qai.pure (.bool true) [])]
theorem Qv4 (B:Lo) (s:Qaa) (i j:Int) (dJ0:Nat->Value):landM (Qak Tryz.prog (Qaw Tryz.prog) J0 B 12 1 (Qa4 44 110 (([1,5,6,7]:List Nat).zip (QdG s i j)) dJ0 QdI) (Qa3 (QbC s i j)) (2+(QbC s i j).length)
 (QmT s i j dJ0++[(21,Qai.pure (.bool true) []),(25,hvI (i+1))]) 0 [] []) [1,5] [(2,KS.auto)] []=some ⟨44,110,Qdb,[],.run,none,Qdm s (i+1),Qbw s (i+1),
 [wq (i+1)=i+1,Qaz []/\Qao Tryz.prog J0 69 #[.int .i64 (Qag.cost (s.lots.getD i.toNat default)),.int .i64 0,.int .i64 1000000] (.bool true)]++QiE B s i j dJ0⟩:=by kernel_rfl
theorem QtQ (B:Lo) (s:Qaa) (i j:Int) (dJ0:Nat->Value):QaK (Qak Tryz.prog (Qaw Tryz.prog) J0 B 12 1 (Qa4 44 110 (([1,5,6,7]:List Nat).zip (QdG s i j)) dJ0 QdI) (Qa3 (QbC s i j)) (2+(QbC s i j).length)
 (QmT s i j dJ0++[(21,Qai.pure (.bool false) [])]) 0 [] []) []=some (.bool false,
 [Qaz []/\Qao Tryz.prog J0 69 #[.int .i64 (Qag.cost (s.lots.getD i.toNat default)),.int .i64 0,.int .i64 1000000] (.bool false)]++QiE B s i j dJ0):=by kernel_rfl
theorem QtZ (B:Lo) (s:Qaa) (i j:Int) (dJ0:Nat->Value):QaK (Qak Tryz.prog (Qaw Tryz.prog) J0 B 12 1 (Qa4 44 110 (([1,5,6,7]:List Nat).zip (QdG s i j)) dJ0 QdI) (Qa3 (QbC s i j)) (2+(QbC s i j).length)
 (QpW s i j dJ0++[(15,Qai.pure (.bool false) [])]) 0 [] []) []=some (.bool false,
 [Qaz []/\Qao Tryz.prog J0 69 #[.int .i64 (Qag.weight (s.lots.getD i.toNat default)),.int .i64 0,.int .i64 100000] (.bool false)]++QlY B s i j dJ0):=by kernel_rfl
theorem Qvs (B:Lo) (s:Qaa):landM (Qak Tryz.prog (Qaw Tryz.prog) J0 B 7 1 (Qae Tryz.prog 44 110 (([.agg (Qah s).toArray]).map (Qam 0 4))) H00 1
 [] 0 [] []) [1,3] [(1,KS.auto)] []=some ⟨44,110,Qfy,[],.run,none,Qfr s (0),Qdg s (0),
 []⟩:=by kernel_rfl
set_option maxHeartbeats 4000000 in
theorem Qw3 (s:Qaa) (hb:∀l∈s.lots,l.goods.length<=8) (hfacts:s.stock.length<=9223372036854775807/\s.use.length<=9223372036854775807/\s.lots.length<=9223372036854775807) {B:Lo} (hJ:∀w,B.has w->J0 w) {c0:CF}:∀m:Nat,(∀(i:Int),(s.stock.length - i.toNat)+s.use.length+wtL s.lots+9=m->∀(h0:0<=i),Qzm B c0 s i->EndsT Tryz.prog B c0 (.bool ((s.stock.drop i.toNat).all (fun x=> inB x 0 100000) && (QcE s.use 1000 && (s.lots.all (Qpp s.stock.length) && storeT s)))))/\(∀(i:Int),(s.use.length - i.toNat)+wtL s.lots+8=m->∀(h0:0<=i),QwY B c0 s i->EndsT Tryz.prog B c0 (.bool ((s.use.drop i.toNat).all (fun s=> Qb6 s.lo s.hi 0 1000) && (s.lots.all (Qpp s.stock.length) && storeT s))))/\(∀(i:Int),wtL (s.lots.drop i.toNat)+1=m->∀(h0:0<=i),QxW B c0 s i->EndsT Tryz.prog B c0 (.bool ((s.lots.drop i.toNat).all (Qpp s.stock.length) && storeT s)))/\(∀(i j:Int),((s.lots.getD i.toNat default).goods.length - j.toNat)+wtL (s.lots.drop (i+1).toNat)+2=m->∀(h0:0<=i) (h1:i < s.lots.length) (j0:0<=j),Qwm B c0 s i j->EndsT Tryz.prog B c0 (.bool ((((s.lots.getD i.toNat default).goods.drop j.toNat).all (fun s=> Qb6 s.lo s.hi 0 100000) && (decide ((s.lots.getD i.toNat default).goods.length=s.stock.length) && (inB (s.lots.getD i.toNat default).weight 0 100000 && inB (s.lots.getD i.toNat default).cost 0 1000000))) && ((s.lots.drop (i+1).toNat).all (Qpp s.stock.length) && storeT s)))):=by
 intro m0
 induction m0 using Nat.strongRecOn with
 | _ m0 ih0=>
   refine ⟨?_, ?_, ?_, ?_⟩
   ·intro i hm0 h0 ⟨dJ0,hdJ0,hg0⟩
    by_cases q0:(i:Int) < ((↑s.stock.length:Int))
    ·
     have hp0:Qaz (QlN B s i dJ0):=by
      have s2:=Qba (l:=s.stock) (p:=fun x=> inB x 0 100000) h0 q0
      exact ⟨⟨by omega,by omega,(Qaj (z:=1) (fun _=> rfl) (by omega))⟩,⟨(Qbn q0),trivial⟩⟩
     cases q1:inB (s.stock.getD i.toNat default) 0 100000 with
     | true=>
       have s2:=Qba (l:=s.stock) (p:=fun x=> inB x 0 100000) h0 q0
       exact ((ih0 _ (by omega)).1 (i+1) rfl (by omega)
        (hg0.landM okF hJ Qab (QvZ B s i dJ0)
        ⟨(QaV (by omega) (by omega)),⟨⟨trivial,(by have t_:=rin (s.stock.getD i.toNat default) (0) (100000);rw [q1] at t_;exact t_)⟩,hp0⟩⟩ (by kernel_rfl) (by kernel_rfl))).cast (by (simp only [s2,q1,Bool.true_and,Bool.false_and];done))
     | false=>
       have s2:=Qba (l:=s.stock) (p:=fun x=> inB x 0 100000) h0 q0
       exact (GoE.endsT okF hJ Qab hg0 (QyB B s i dJ0)
        ⟨⟨trivial,(by have t_:=rin (s.stock.getD i.toNat default) (0) (100000);rw [q1] at t_;exact t_)⟩,hp0⟩).cast (by (simp only [s2,q1,Bool.true_and,Bool.false_and];done))
    ·
     have s2:=QaB (l:=s.stock) (p:=fun x=> inB x 0 100000) (i:=i) (by omega)
     exact ((ih0 _ (by (first | omega | (simp only [Int.toNat_zero,List.drop_zero];omega)))).2.1 (0) rfl (by omega)
      (hg0.landM okF hJ Qab (Qz3 B s i dJ0)
      ⟨(Qbk (Int.not_lt.1 q0)),trivial⟩ (by kernel_rfl) (by kernel_rfl))).cast (by (simp only [s2,QcE,Int.toNat_zero,List.drop_zero,Bool.true_and];done))
   ·intro i hm0 h0 ⟨dJ0,hdJ0,hg0⟩
    by_cases q0:(i:Int) < ((↑s.use.length:Int))
    ·
     have hp1:Qaz (Qkn B s i dJ0):=by
      have s2:=Qba (l:=s.use) (p:=fun s=> Qb6 s.lo s.hi 0 1000) h0 q0
      have m2:wtL (s.lots.drop (Int.toNat 0))=wtL s.lots:=rfl
      exact ⟨⟨by omega,by omega,(Qaj (z:=2) (fun _=> rfl) (by omega))⟩,⟨(Qbn q0),trivial⟩⟩
     cases q1:Qb6 (Span.lo (s.use.getD i.toNat default)) (Span.hi (s.use.getD i.toNat default)) 0 1000 with
     | true=>
       have s2:=Qba (l:=s.use) (p:=fun s=> Qb6 s.lo s.hi 0 1000) h0 q0
       have m2:wtL (s.lots.drop (Int.toNat 0))=wtL s.lots:=rfl
       exact ((ih0 _ (by (first | omega | (simp only [Int.toNat_zero,List.drop_zero];omega)))).2.1 (i+1) rfl (by omega)
        (hg0.landM okF hJ Qab (QwX B s i dJ0)
        ⟨(QaV (by omega) (by omega)),⟨⟨trivial,(by have t_:=Qun (Span.lo (s.use.getD i.toNat default)) (Span.hi (s.use.getD i.toNat default)) (0) (1000);rw [q1] at t_;exact t_)⟩,hp1⟩⟩ (by kernel_rfl) (by kernel_rfl))).cast (by (simp only [s2,q1,Bool.true_and,Bool.false_and];done))
     | false=>
       have s2:=Qba (l:=s.use) (p:=fun s=> Qb6 s.lo s.hi 0 1000) h0 q0
       have m2:wtL (s.lots.drop (Int.toNat 0))=wtL s.lots:=rfl
       exact (GoE.endsT okF hJ Qab hg0 (Qz2 B s i dJ0)
        ⟨⟨trivial,(by have t_:=Qun (Span.lo (s.use.getD i.toNat default)) (Span.hi (s.use.getD i.toNat default)) (0) (1000);rw [q1] at t_;exact t_)⟩,hp1⟩).cast (by (simp only [s2,q1,Bool.true_and,Bool.false_and];done))
    ·
     have s2:=QaB (l:=s.use) (p:=fun s=> Qb6 s.lo s.hi 0 1000) (i:=i) (by omega)
     have m2:wtL (s.lots.drop (Int.toNat 0))=wtL s.lots:=rfl
     exact ((ih0 _ (by (first | omega | (simp only [Int.toNat_zero,List.drop_zero];omega)))).2.2.1 (0) rfl (by omega)
      (hg0.landM okF hJ Qab (Qwd B s i dJ0)
      ⟨(Qbk (Int.not_lt.1 q0)),trivial⟩ (by kernel_rfl) (by kernel_rfl))).cast (by (simp only [s2,Int.toNat_zero,List.drop_zero,Bool.true_and];done))
   ·intro i hm0 h0 ⟨dJ0,hdJ0,hg0⟩
    by_cases q0:(i:Int) < ((↑s.lots.length:Int))
    ·
     have s2:=Qba (l:=s.lots) (p:=Qpp s.stock.length) h0 q0
     have s3:=Q2t (l:=s.lots) h0 q0
     exact ((ih0 _ (by omega)).2.2.2 (i) (0) rfl (by with_reducible assumption) (by with_reducible assumption) (by omega)
      (hg0.landM okF hJ Qab (Qzi B s i dJ0)
      ⟨⟨by omega,by omega,(Qaj (z:=3) (fun _=> rfl) (by omega))⟩,⟨(Qbn q0),trivial⟩⟩ (by kernel_rfl) (by kernel_rfl))).cast (by (simp only [s2,Qpp,QcE,Int.toNat_zero,List.drop_zero,Bool.and_assoc];done))
    ·
     have hp2:Qaz (Qla B s i dJ0):=by
      exact ⟨(Qbk (Int.not_lt.1 q0)),trivial⟩
     cases q1:inB (↑s.stock.length:Int) 1 4 with
     | true=>
       have hp3:Qaz (Qk8 B s i dJ0):=by
        have s2:=QaB (l:=s.lots) (p:=Qpp s.stock.length) (i:=i) (by omega)
        exact ⟨⟨trivial,(by have t_:=rin ((↑s.stock.length:Int)) (1) (4);rw [q1] at t_;exact t_)⟩,hp2⟩
       by_cases q2:((↑s.use.length:Int):Int)=((↑s.stock.length:Int))
       ·
        have hp4:Qaz (QkD B s i dJ0):=by
         exact ⟨(Qw8 q2),hp3⟩
        cases q3:Qb6 s.glo s.ghi 1 60 with
        | true=>
          have hp5:Qaz (QlQ B s i dJ0):=by
           have s2:=QaB (l:=s.lots) (p:=Qpp s.stock.length) (i:=i) (by omega)
           exact ⟨⟨trivial,(by have t_:=Q5r s.glo s.ghi;rw [q3] at t_;exact t_)⟩,hp4⟩
          by_cases q4:((↑s.lots.length:Int):Int)<=(6)
          ·
           have hp6:Qaz (QjW B s i dJ0):=by
            exact ⟨(QbE q4),hp5⟩
           cases q5:inB s.hold 0 100000 with
           | true=>
             have s2:=QaB (l:=s.lots) (p:=Qpp s.stock.length) (i:=i) (by omega)
             exact (GoE.endsT okF hJ Qab hg0 (QvV B s i dJ0)
              ⟨⟨trivial,(by have t_:=rin s.hold (0) (100000);rw [q5] at t_;exact t_)⟩,hp6⟩).cast (by (rw [s2];simp_all [storeT];omega))
           | false=>
             have s2:=QaB (l:=s.lots) (p:=Qpp s.stock.length) (i:=i) (by omega)
             exact (GoE.endsT okF hJ Qab hg0 (Qwh B s i dJ0)
              ⟨⟨trivial,(by have t_:=rin s.hold (0) (100000);rw [q5] at t_;exact t_)⟩,hp6⟩).cast (by (rw [s2];simp [storeT, *];done))
          ·
           have s2:=QaB (l:=s.lots) (p:=Qpp s.stock.length) (i:=i) (by omega)
           exact (GoE.endsT okF hJ Qab hg0 (QwC B s i dJ0)
            ⟨(QbD (Int.not_le.1 q4)),hp5⟩).cast (by (rw [s2];simp_all [storeT];omega))
        | false=>
          have s2:=QaB (l:=s.lots) (p:=Qpp s.stock.length) (i:=i) (by omega)
          exact (GoE.endsT okF hJ Qab hg0 (QuC B s i dJ0)
           ⟨⟨trivial,(by have t_:=Q5r s.glo s.ghi;rw [q3] at t_;exact t_)⟩,hp4⟩).cast (by (rw [s2];simp [storeT, *];done))
       ·
        have s2:=QaB (l:=s.lots) (p:=Qpp s.stock.length) (i:=i) (by omega)
        exact (GoE.endsT okF hJ Qab hg0 (Quh B s i dJ0)
         ⟨(Qzy q2),hp3⟩).cast (by (rw [s2];simp_all [storeT];omega))
     | false=>
       have s2:=QaB (l:=s.lots) (p:=Qpp s.stock.length) (i:=i) (by omega)
       exact (GoE.endsT okF hJ Qab hg0 (Qux B s i dJ0)
        ⟨⟨trivial,(by have t_:=rin ((↑s.stock.length:Int)) (1) (4);rw [q1] at t_;exact t_)⟩,hp2⟩).cast (by (rw [s2];simp [storeT, *];done))
   ·intro i j hm0 h0 h1 j0 ⟨dJ0,hdJ0,hg0⟩
    have hgl:=hb _ (QaJ h0 h1)
    by_cases q0:(j:Int) < ((↑(List.length (Qag.goods (s.lots.getD i.toNat default))):Int))
    ·
     have hp7:Qaz (QlK B s i j dJ0):=by
      have s2:=Qba (l:=(s.lots.getD i.toNat default).goods) (p:=fun s=> Qb6 s.lo s.hi 0 100000) j0 q0
      exact ⟨⟨by omega,by omega,(Qaj (z:=2) (fun _=> rfl) (by omega))⟩,⟨(Qbn q0),trivial⟩⟩
     cases q1:Qb6 (Span.lo (List.getD (Qag.goods (s.lots.getD i.toNat default)) j.toNat default)) (Span.hi (List.getD (Qag.goods (s.lots.getD i.toNat default)) j.toNat default)) 0 100000 with
     | true=>
       have s2:=Qba (l:=(s.lots.getD i.toNat default).goods) (p:=fun s=> Qb6 s.lo s.hi 0 100000) j0 q0
       exact ((ih0 _ (by omega)).2.2.2 (i) (j+1) rfl (by with_reducible assumption) (by with_reducible assumption) (by omega)
        (hg0.landM okF hJ Qab (Quf B s i j dJ0)
        ⟨(QaV (by omega) (by omega)),⟨⟨trivial,(by have t_:=Qun (Span.lo (List.getD (Qag.goods (s.lots.getD i.toNat default)) j.toNat default)) (Span.hi (List.getD (Qag.goods (s.lots.getD i.toNat default)) j.toNat default)) (0) (100000);rw [q1] at t_;exact t_)⟩,hp7⟩⟩ (by kernel_rfl) (by kernel_rfl))).cast (by (simp only [s2,q1,Bool.true_and,Bool.false_and];done))
     | false=>
       have s2:=Qba (l:=(s.lots.getD i.toNat default).goods) (p:=fun s=> Qb6 s.lo s.hi 0 100000) j0 q0
       exact (GoE.endsT okF hJ Qab hg0 (Qv8 B s i j dJ0)
        ⟨⟨trivial,(by have t_:=Qun (Span.lo (List.getD (Qag.goods (s.lots.getD i.toNat default)) j.toNat default)) (Span.hi (List.getD (Qag.goods (s.lots.getD i.toNat default)) j.toNat default)) (0) (100000);rw [q1] at t_;exact t_)⟩,hp7⟩).cast (by (simp only [s2,q1,Bool.true_and,Bool.false_and];done))
    ·
     have hp8:Qaz (Qke B s i j dJ0):=by
      exact ⟨(Qbk (Int.not_lt.1 q0)),trivial⟩
     by_cases q1:((↑(List.length (Qag.goods (s.lots.getD i.toNat default))):Int):Int)≠((↑s.stock.length:Int))
     ·
      have s2:=QaB (l:=(s.lots.getD i.toNat default).goods) (p:=fun s=> Qb6 s.lo s.hi 0 100000) (i:=j) (by omega)
      exact (GoE.endsT okF hJ Qab hg0 (QtN B s i j dJ0)
       ⟨(Qju q1),hp8⟩).cast (by (simp only [s2,Bool.true_and];simp_all;omega))
     ·
      have hp9:Qaz (QlY B s i j dJ0):=by
       exact ⟨(Qjn (Decidable.of_not_not q1)),hp8⟩
      cases q2:inB (Qag.weight (s.lots.getD i.toNat default)) 0 100000 with
      | true=>
        have hp10:Qaz (QiE B s i j dJ0):=by
         have s2:=QaB (l:=(s.lots.getD i.toNat default).goods) (p:=fun s=> Qb6 s.lo s.hi 0 100000) (i:=j) (by omega)
         exact ⟨⟨trivial,(by have t_:=rin (Qag.weight (s.lots.getD i.toNat default)) (0) (100000);rw [q2] at t_;exact t_)⟩,hp9⟩
        cases q3:inB (Qag.cost (s.lots.getD i.toNat default)) 0 1000000 with
        | true=>
          have s2:=QaB (l:=(s.lots.getD i.toNat default).goods) (p:=fun s=> Qb6 s.lo s.hi 0 100000) (i:=j) (by omega)
          exact ((ih0 _ (by omega)).2.2.1 (i+1) rfl (by omega)
           (hg0.landM okF hJ Qab (Qv4 B s i j dJ0)
           ⟨(QaV (by omega) (by omega)),⟨⟨trivial,(by have t_:=rin (Qag.cost (s.lots.getD i.toNat default)) (0) (1000000);rw [q3] at t_;exact t_)⟩,hp10⟩⟩ (by kernel_rfl) (by kernel_rfl))).cast (by (simp only [s2,Bool.true_and];simp_all;omega))
        | false=>
          have s2:=QaB (l:=(s.lots.getD i.toNat default).goods) (p:=fun s=> Qb6 s.lo s.hi 0 100000) (i:=j) (by omega)
          exact (GoE.endsT okF hJ Qab hg0 (QtQ B s i j dJ0)
           ⟨⟨trivial,(by have t_:=rin (Qag.cost (s.lots.getD i.toNat default)) (0) (1000000);rw [q3] at t_;exact t_)⟩,hp10⟩).cast (by (simp only [s2,Bool.true_and];simp [*];done))
      | false=>
        have s2:=QaB (l:=(s.lots.getD i.toNat default).goods) (p:=fun s=> Qb6 s.lo s.hi 0 100000) (i:=j) (by omega)
        exact (GoE.endsT okF hJ Qab hg0 (QtZ B s i j dJ0)
         ⟨⟨trivial,(by have t_:=rin (Qag.weight (s.lots.getD i.toNat default)) (0) (100000);rw [q2] at t_;exact t_)⟩,hp9⟩).cast (by (simp only [s2,Bool.true_and];simp [*];done))
set_option maxHeartbeats 4000000 in
theorem Q0s (s:Qaa) (hb:∀l∈s.lots,l.goods.length<=8) (hfacts:s.stock.length<=9223372036854775807/\s.use.length<=9223372036854775807/\s.lots.length<=9223372036854775807) {B:Lo} (hJ:∀w,B.has w->J0 w):EndsT Tryz.prog B (Qae Tryz.prog 44 110 (([.agg (Qah s).toArray]).map (Qam 0 4))) (.bool (QsX s)):=by
 exact ((Qw3 s hb hfacts hJ _).1 (0) rfl (by omega)
  (GoE.start.landM okF hJ Qab (Qvs B s)
  trivial (by kernel_rfl) (by kernel_rfl))).cast (by rfl)
theorem Q4a (s:Qaa) (hb:∀l∈s.lots,l.goods.length<=8):Qao Tryz.prog J0 44 #[.agg (Qah s).toArray] (.bool (QsX s)):=
 QbW (ts:=[.agg (Qah s).toArray]) (s.stock.length<=9223372036854775807/\s.use.length<=9223372036854775807/\s.lots.length<=9223372036854775807) (fun _ _ ht=> ⟨ht.ln2 (i:=0) (j:=0) rfl rfl,ht.ln2 (i:=0) (j:=1) rfl rfl,ht.ln2 (i:=0) (j:=4) rfl rfl⟩) Qbr (c0:=Qae Tryz.prog 44 110 (([.agg (Qah s).toArray]).map (Qam 0 4))) (by kernel_rfl) (by kernel_rfl) fun hfacts B hJ=> Q0s s hb hfacts hJ
def Qcl (s:Qaa) (i:Int):List Value:=[pA 2 0,.int .i64 i]
def QaQ (s:Qaa) (i:Int):List Obj:=[Obj.cells #[Qay 1 (slT s.stock.length (Qac Qa1 s.stock)),Qay 1 (slT s.use.length (Qac QaD s.use)),.int .i64 s.glo,.int .i64 s.ghi,Qay 1 (slT s.lots.length (Qac Qaq s.lots)),.int .i64 s.hold] 62]
def Qcm:List Item:=([.code [1,0,1,0,0],.inLoop [1,0,1,0,0],.inBlock 0,.code [1,1]]).map (it (Qan Tryz.prog 36))
def Qx8 (B:Lo) (c0:CF) (s:Qaa) (i:Int):Prop:=∃dJ:Nat->Value,(∀t,Qbb (dJ t))/\GoE Tryz.prog B c0 H00 1 (Qa4 36 39 (([1,3]:List Nat).zip (Qcl s i)) dJ Qcm) (Qa3 (QaQ s i)) (2+(QaQ s i).length) []
def Qlh (B:Lo) (s:Qaa) (i:Int) (dJ0:Nat->Value):List Prop:=[ltq i (↑s.lots.length:Int)=true]++([]:List Prop)
def QqW (s:Qaa) (i:Int) (dJ0:Nat->Value):Qap:=[(4,hvT)]
def Ql1 (B:Lo) (s:Qaa) (i:Int) (dJ0:Nat->Value):List Prop:=[i=(↑i.toNat:Int)/\Int.toNat i < List.length s.lots/\Array.extract (Qac Qaq s.lots) (Int.toNat i * TypeInfo.size Tryz.t118) (Int.toNat i * TypeInfo.size Tryz.t118+TypeInfo.size Tryz.t118)=#[slT (List.length (Qag.goods (s.lots.getD i.toNat default))) (Qac QaD (Qag.goods (s.lots.getD i.toNat default))),.int .i64 (Qag.weight (s.lots.getD i.toNat default)),.int .i64 (Qag.cost (s.lots.getD i.toNat default))],ltq i 12=true]++Qlh B s i dJ0
def Qp3 (s:Qaa) (i:Int) (dJ0:Nat->Value):Qap:=QqW s i dJ0++[(7,hvT),(12,Qai.tidx i.toNat #[slT (List.length (Qag.goods (s.lots.getD i.toNat default))) (Qac QaD (Qag.goods (s.lots.getD i.toNat default))),.int .i64 (Qag.weight (s.lots.getD i.toNat default)),.int .i64 (Qag.cost (s.lots.getD i.toNat default))])]
theorem QwF (B:Lo) (s:Qaa) (i:Int) (dJ0:Nat->Value):QaK (Qak Tryz.prog (Qaw Tryz.prog) J0 B 14 1 (Qa4 36 39 (([1,3]:List Nat).zip (Qcl s i)) dJ0 Qcm) (Qa3 (QaQ s i)) (2+(QaQ s i).length)
 (Qp3 s i dJ0++[(16,hvT)]) 0 [] []) []=some (.bool false,
 [ltq 8 (↑(List.length (Qag.goods (s.lots.getD i.toNat default))):Int)=true]++Ql1 B s i dJ0):=by kernel_rfl
theorem Qyy (B:Lo) (s:Qaa) (i:Int) (dJ0:Nat->Value):landM (Qak Tryz.prog (Qaw Tryz.prog) J0 B 14 1 (Qa4 36 39 (([1,3]:List Nat).zip (Qcl s i)) dJ0 Qcm) (Qa3 (QaQ s i)) (2+(QaQ s i).length)
 (Qp3 s i dJ0++[(16,hvF),(18,hvI (i+1))]) 0 [] []) [1,3] [(2,KS.auto)] []=some ⟨36,39,Qcm,[],.run,none,Qcl s (i+1),QaQ s (i+1),
 [wq (i+1)=i+1,ltq 8 (↑(List.length (Qag.goods (s.lots.getD i.toNat default))):Int)=false]++Ql1 B s i dJ0⟩:=by kernel_rfl
def Qkr (B:Lo) (s:Qaa) (i:Int) (dJ0:Nat->Value):List Prop:=[ltq i 12=false]++Qlh B s i dJ0
def Qpv (s:Qaa) (i:Int) (dJ0:Nat->Value):Qap:=QqW s i dJ0++[(7,hvF)]
def Qkv (B:Lo) (s:Qaa) (i:Int) (dJ0:Nat->Value):List Prop:=[(!ltq 8 (↑s.stock.length:Int))=true]++Qkr B s i dJ0
def Qq2 (s:Qaa) (i:Int) (dJ0:Nat->Value):Qap:=Qpv s i dJ0++[(12,hvT)]
def Qk4 (B:Lo) (s:Qaa) (i:Int) (dJ0:Nat->Value):List Prop:=[(!ltq 8 (↑s.use.length:Int))=true]++Qkv B s i dJ0
def QoU (s:Qaa) (i:Int) (dJ0:Nat->Value):Qap:=Qq2 s i dJ0++[(17,hvT)]
theorem QxO (B:Lo) (s:Qaa) (i:Int) (dJ0:Nat->Value):QaK (Qak Tryz.prog (Qaw Tryz.prog) J0 B 9 1 (Qa4 36 39 (([1,3]:List Nat).zip (Qcl s i)) dJ0 Qcm) (Qa3 (QaQ s i)) (2+(QaQ s i).length)
 (QoU s i dJ0++[(23,hvT)]) 0 [] []) []=some (.bool true,
 [(!ltq 9 (↑s.lots.length:Int))=true]++Qk4 B s i dJ0):=by kernel_rfl
theorem Qzd (B:Lo) (s:Qaa) (i:Int) (dJ0:Nat->Value):QaK (Qak Tryz.prog (Qaw Tryz.prog) J0 B 9 1 (Qa4 36 39 (([1,3]:List Nat).zip (Qcl s i)) dJ0 Qcm) (Qa3 (QaQ s i)) (2+(QaQ s i).length)
 (QoU s i dJ0++[(23,hvF)]) 0 [] []) []=some (.bool false,
 [(!ltq 9 (↑s.lots.length:Int))=false]++Qk4 B s i dJ0):=by kernel_rfl
theorem QwA (B:Lo) (s:Qaa) (i:Int) (dJ0:Nat->Value):QaK (Qak Tryz.prog (Qaw Tryz.prog) J0 B 9 1 (Qa4 36 39 (([1,3]:List Nat).zip (Qcl s i)) dJ0 Qcm) (Qa3 (QaQ s i)) (2+(QaQ s i).length)
 (Qq2 s i dJ0++[(17,hvF)]) 0 [] []) []=some (.bool false,
 [(!ltq 8 (↑s.use.length:Int))=false]++Qkv B s i dJ0):=by kernel_rfl
theorem Qyr (B:Lo) (s:Qaa) (i:Int) (dJ0:Nat->Value):QaK (Qak Tryz.prog (Qaw Tryz.prog) J0 B 9 1 (Qa4 36 39 (([1,3]:List Nat).zip (Qcl s i)) dJ0 Qcm) (Qa3 (QaQ s i)) (2+(QaQ s i).length)
 (Qpv s i dJ0++[(12,hvF)]) 0 [] []) []=some (.bool false,
 [(!ltq 8 (↑s.stock.length:Int))=false]++Qkr B s i dJ0):=by kernel_rfl
def QlZ (B:Lo) (s:Qaa) (i:Int) (dJ0:Nat->Value):List Prop:=[ltq i (↑s.lots.length:Int)=false]++([]:List Prop)
def Qq0 (s:Qaa) (i:Int) (dJ0:Nat->Value):Qap:=[(4,hvF)]
def QkZ (B:Lo) (s:Qaa) (i:Int) (dJ0:Nat->Value):List Prop:=[(!ltq 8 (↑s.stock.length:Int))=true]++QlZ B s i dJ0
def Qq3 (s:Qaa) (i:Int) (dJ0:Nat->Value):Qap:=Qq0 s i dJ0++[(12,hvT)]
def QlE (B:Lo) (s:Qaa) (i:Int) (dJ0:Nat->Value):List Prop:=[(!ltq 8 (↑s.use.length:Int))=true]++QkZ B s i dJ0
def QqM (s:Qaa) (i:Int) (dJ0:Nat->Value):Qap:=Qq3 s i dJ0++[(17,hvT)]
theorem QwI (B:Lo) (s:Qaa) (i:Int) (dJ0:Nat->Value):QaK (Qak Tryz.prog (Qaw Tryz.prog) J0 B 9 1 (Qa4 36 39 (([1,3]:List Nat).zip (Qcl s i)) dJ0 Qcm) (Qa3 (QaQ s i)) (2+(QaQ s i).length)
 (QqM s i dJ0++[(23,hvT)]) 0 [] []) []=some (.bool true,
 [(!ltq 9 (↑s.lots.length:Int))=true]++QlE B s i dJ0):=by kernel_rfl
theorem QyH (B:Lo) (s:Qaa) (i:Int) (dJ0:Nat->Value):QaK (Qak Tryz.prog (Qaw Tryz.prog) J0 B 9 1 (Qa4 36 39 (([1,3]:List Nat).zip (Qcl s i)) dJ0 Qcm) (Qa3 (QaQ s i)) (2+(QaQ s i).length)
 (QqM s i dJ0++[(23,hvF)]) 0 [] []) []=some (.bool false,
 [(!ltq 9 (↑s.lots.length:Int))=false]++QlE B s i dJ0):=by kernel_rfl
theorem Qyp (B:Lo) (s:Qaa) (i:Int) (dJ0:Nat->Value):QaK (Qak Tryz.prog (Qaw Tryz.prog) J0 B 9 1 (Qa4 36 39 (([1,3]:List Nat).zip (Qcl s i)) dJ0 Qcm) (Qa3 (QaQ s i)) (2+(QaQ s i).length)
 (Qq3 s i dJ0++[(17,hvF)]) 0 [] []) []=some (.bool false,
 [(!ltq 8 (↑s.use.length:Int))=false]++QkZ B s i dJ0):=by kernel_rfl
theorem Qwa (B:Lo) (s:Qaa) (i:Int) (dJ0:Nat->Value):QaK (Qak Tryz.prog (Qaw Tryz.prog) J0 B 9 1 (Qa4 36 39 (([1,3]:List Nat).zip (Qcl s i)) dJ0 Qcm) (Qa3 (QaQ s i)) (2+(QaQ s i).length)
 (Qq0 s i dJ0++[(12,hvF)]) 0 [] []) []=some (.bool false,
 [(!ltq 8 (↑s.stock.length:Int))=false]++QlZ B s i dJ0):=by kernel_rfl
theorem Qve (B:Lo) (s:Qaa):landM (Qak Tryz.prog (Qaw Tryz.prog) J0 B 7 1 (Qae Tryz.prog 36 39 (([.agg (Qah s).toArray]).map (Qam 0 4))) H00 1
 [] 0 [] []) [1,3] [(1,KS.auto)] []=some ⟨36,39,Qcm,[],.run,none,Qcl s (0),QaQ s (0),
 []⟩:=by kernel_rfl
set_option maxHeartbeats 4000000 in
theorem QxG (s:Qaa)  (hfacts:s.stock.length<=9223372036854775807/\s.use.length<=9223372036854775807/\s.lots.length<=9223372036854775807) {B:Lo} (hJ:∀w,B.has w->J0 w) {c0:CF}:∀m:Nat,(∀(i:Int),s.lots.length - i.toNat=m->∀(h0:0<=i),Qx8 B c0 s i->EndsT Tryz.prog B c0 (.bool (((s.lots.take 12).drop i.toNat).all (fun l=> decide (l.goods.length<=8)) && (decide (s.stock.length<=8) && (decide (s.use.length<=8) && decide (s.lots.length<=9)))))):=by
 intro m0
 induction m0 using Nat.strongRecOn with
 | _ m0 ih0=>
   intro i hm0 h0 ⟨dJ0,hdJ0,hg0⟩
   by_cases q0:(i:Int) < ((↑s.lots.length:Int))
   ·
    have hp0:Qaz (Qlh B s i dJ0):=by
     exact ⟨(Qbn q0),trivial⟩
    by_cases q1:(i:Int) < (12)
    ·
     have hp1:Qaz (Ql1 B s i dJ0):=by
      have s2:=Qba (l:=s.lots.take 12) (p:=fun l=> decide (l.goods.length<=8)) h0 (by rw [List.length_take];omega)
      have e3:(s.lots.take 12).getD i.toNat default=s.lots.getD i.toNat default:=by simp only [List.getD_eq_getElem?_getD];rw [List.getElem?_take_of_lt (by omega)]
      rw [e3] at s2
      exact ⟨⟨by omega,by omega,(Qaj (z:=3) (fun _=> rfl) (by omega))⟩,⟨(Qbn q1),hp0⟩⟩
     by_cases q2:(8:Int) < ((↑(List.length (Qag.goods (s.lots.getD i.toNat default))):Int))
     ·
      have s2:=Qba (l:=s.lots.take 12) (p:=fun l=> decide (l.goods.length<=8)) h0 (by rw [List.length_take];omega)
      have e3:(s.lots.take 12).getD i.toNat default=s.lots.getD i.toNat default:=by simp only [List.getD_eq_getElem?_getD];rw [List.getElem?_take_of_lt (by omega)]
      rw [e3] at s2
      rw [decide_eq_false (by omega)] at s2
      exact (GoE.endsT okF hJ Qab hg0 (QwF B s i dJ0)
       ⟨(Qbn q2),hp1⟩).cast (by (simp only [s2,Bool.true_and,Bool.false_and];done))
     ·
      have s2:=Qba (l:=s.lots.take 12) (p:=fun l=> decide (l.goods.length<=8)) h0 (by rw [List.length_take];omega)
      have e3:(s.lots.take 12).getD i.toNat default=s.lots.getD i.toNat default:=by simp only [List.getD_eq_getElem?_getD];rw [List.getElem?_take_of_lt (by omega)]
      rw [e3] at s2
      rw [decide_eq_true (by omega)] at s2
      exact ((ih0 _ (by omega)) (i+1) rfl (by omega)
       (hg0.landM okF hJ Qab (Qyy B s i dJ0)
       ⟨(QaV (by omega) (by omega)),⟨(Qbk (Int.not_lt.1 q2)),hp1⟩⟩ (by kernel_rfl) (by kernel_rfl))).cast (by (simp only [s2,Bool.true_and,Bool.false_and];done))
    ·
     have hp2:Qaz (Qkr B s i dJ0):=by
      exact ⟨(Qbk (Int.not_lt.1 q1)),hp0⟩
     by_cases q2:((↑s.stock.length:Int):Int)<=(8)
     ·
      have hp3:Qaz (Qkv B s i dJ0):=by
       exact ⟨(QbE q2),hp2⟩
      by_cases q3:((↑s.use.length:Int):Int)<=(8)
      ·
       have hp4:Qaz (Qk4 B s i dJ0):=by
        exact ⟨(QbE q3),hp3⟩
       by_cases q4:((↑s.lots.length:Int):Int)<=(9)
       ·
        have s2:=Qba (l:=s.lots.take 12) (p:=fun l=> decide (l.goods.length<=8)) h0 (by rw [List.length_take];omega)
        have e3:(s.lots.take 12).getD i.toNat default=s.lots.getD i.toNat default:=by simp only [List.getD_eq_getElem?_getD];rw [List.getElem?_take_of_lt (by omega)]
        rw [e3] at s2
        rw [decide_eq_true (by omega)] at s2
        have s2:=QaB (l:=s.lots.take 12) (p:=fun l=> decide (l.goods.length<=8)) (i:=i) (by rw [List.length_take];omega)
        exact (GoE.endsT okF hJ Qab hg0 (QxO B s i dJ0)
         ⟨(QbE q4),hp4⟩).cast (by (simp only [s2,Bool.true_and];simp_all;omega))
       ·
        have s2:=QaB (l:=s.lots.take 12) (p:=fun l=> decide (l.goods.length<=8)) (i:=i) (by rw [List.length_take];omega)
        exact (GoE.endsT okF hJ Qab hg0 (Qzd B s i dJ0)
         ⟨(QbD (Int.not_le.1 q4)),hp4⟩).cast (by (simp only [s2,Bool.true_and];simp_all;omega))
      ·
       have s2:=QaB (l:=s.lots.take 12) (p:=fun l=> decide (l.goods.length<=8)) (i:=i) (by rw [List.length_take];omega)
       exact (GoE.endsT okF hJ Qab hg0 (QwA B s i dJ0)
        ⟨(QbD (Int.not_le.1 q3)),hp3⟩).cast (by (simp only [s2,Bool.true_and];simp_all;omega))
     ·
      have s2:=QaB (l:=s.lots.take 12) (p:=fun l=> decide (l.goods.length<=8)) (i:=i) (by rw [List.length_take];omega)
      exact (GoE.endsT okF hJ Qab hg0 (Qyr B s i dJ0)
       ⟨(QbD (Int.not_le.1 q2)),hp2⟩).cast (by (simp only [s2,Bool.true_and];simp_all;omega))
   ·
    have hp5:Qaz (QlZ B s i dJ0):=by
     exact ⟨(Qbk (Int.not_lt.1 q0)),trivial⟩
    by_cases q1:((↑s.stock.length:Int):Int)<=(8)
    ·
     have hp6:Qaz (QkZ B s i dJ0):=by
      exact ⟨(QbE q1),hp5⟩
     by_cases q2:((↑s.use.length:Int):Int)<=(8)
     ·
      have hp7:Qaz (QlE B s i dJ0):=by
       exact ⟨(QbE q2),hp6⟩
      by_cases q3:((↑s.lots.length:Int):Int)<=(9)
      ·
       have s2:=QaB (l:=s.lots.take 12) (p:=fun l=> decide (l.goods.length<=8)) (i:=i) (by rw [List.length_take];omega)
       exact (GoE.endsT okF hJ Qab hg0 (QwI B s i dJ0)
        ⟨(QbE q3),hp7⟩).cast (by (simp only [s2,Bool.true_and];simp_all;omega))
      ·
       have s2:=QaB (l:=s.lots.take 12) (p:=fun l=> decide (l.goods.length<=8)) (i:=i) (by rw [List.length_take];omega)
       exact (GoE.endsT okF hJ Qab hg0 (QyH B s i dJ0)
        ⟨(QbD (Int.not_le.1 q3)),hp7⟩).cast (by (simp only [s2,Bool.true_and];simp_all;omega))
     ·
      have s2:=QaB (l:=s.lots.take 12) (p:=fun l=> decide (l.goods.length<=8)) (i:=i) (by rw [List.length_take];omega)
      exact (GoE.endsT okF hJ Qab hg0 (Qyp B s i dJ0)
       ⟨(QbD (Int.not_le.1 q2)),hp6⟩).cast (by (simp only [s2,Bool.true_and];simp_all;omega))
    ·
     have s2:=QaB (l:=s.lots.take 12) (p:=fun l=> decide (l.goods.length<=8)) (i:=i) (by rw [List.length_take];omega)
     exact (GoE.endsT okF hJ Qab hg0 (Qwa B s i dJ0)
      ⟨(QbD (Int.not_le.1 q1)),hp5⟩).cast (by (simp only [s2,Bool.true_and];simp_all;omega))
set_option maxHeartbeats 4000000 in
theorem Qz9 (s:Qaa)  (hfacts:s.stock.length<=9223372036854775807/\s.use.length<=9223372036854775807/\s.lots.length<=9223372036854775807) {B:Lo} (hJ:∀w,B.has w->J0 w):EndsT Tryz.prog B (Qae Tryz.prog 36 39 (([.agg (Qah s).toArray]).map (Qam 0 4))) (.bool (((s.lots.take 12).all fun l=> decide (l.goods.length<=8)) && (decide (s.stock.length<=8) && (decide (s.use.length<=8) && decide (s.lots.length<=9))))):=by
 exact ((QxG s hfacts hJ _) (0) rfl (by omega)
  (GoE.start.landM okF hJ Qab (Qve B s)
  trivial (by kernel_rfl) (by kernel_rfl))).cast (by rfl)
theorem Q33 (s:Qaa)  :Qao Tryz.prog J0 36 #[.agg (Qah s).toArray] (.bool (((s.lots.take 12).all fun l=> decide (l.goods.length<=8)) && (decide (s.stock.length<=8) && (decide (s.use.length<=8) && decide (s.lots.length<=9))))):=
 QbW (ts:=[.agg (Qah s).toArray]) (s.stock.length<=9223372036854775807/\s.use.length<=9223372036854775807/\s.lots.length<=9223372036854775807) (fun _ _ ht=> ⟨ht.ln2 (i:=0) (j:=0) rfl rfl,ht.ln2 (i:=0) (j:=1) rfl rfl,ht.ln2 (i:=0) (j:=4) rfl rfl⟩) Qbr (c0:=Qae Tryz.prog 36 39 (([.agg (Qah s).toArray]).map (Qam 0 4))) (by kernel_rfl) (by kernel_rfl) fun hfacts B hJ=> Qz9 s  hfacts hJ
end
end Go.Proofs.YtiabgkiccaodmaaGreat

