/- Something of each of a list. -/
import Derived.Test.YtiabgkiccaodmaaGreatZWN10
set_option linter.all false
namespace Go.Proofs.YtiabgkiccaodmaaGreat
open Go Go.CE Go.RowKit
set_option maxRecDepth 100000
def Qgp {α β:Type} (f:α->β) (x0:β) (xs:List α) (i:Int):List β:=(xs.take i.toNat).map f++List.replicate (xs.length - i.toNat) x0
theorem QfL {α β:Type} {f:α->β} {x0:β} {xs:List α}:List.replicate xs.length x0=Qgp f x0 xs 0:=by simp [Qgp]
theorem QdD {α β:Type} {f:α->β} {x0:β} {xs:List α} {i:Int}:(Qgp f x0 xs i).length=xs.length:=by simp [Qgp];omega
theorem QdJ {α β:Type} [Inhabited α] {f:α->β} {x0:β} {xs:List α} {i:Int} (h0:0<=i) (h:i < xs.length):(Qgp f x0 xs i).set i.toNat (f (xs.getD i.toNat default))=Qgp f x0 xs (i+1):=by
 obtain ⟨k,rfl⟩:∃k:Nat,i=k:=⟨i.toNat,by omega⟩
 have hk:k < xs.length:=by omega
 have e1:((k:Int)).toNat=k:=by omega
 have e2:((k:Int)+1).toNat=k+1:=by omega
 unfold Qgp
 rw [e1,e2]
 have hl:((xs.take k).map f).length=k:=by simp;omega
 rw [List.set_append_right _ _ (by omega),hl,Nat.sub_self]
 have er:xs.length - k=(xs.length - (k+1))+1:=by omega
 rw [er,List.replicate_succ,List.set_cons_zero]
 have et:xs.take (k+1)=xs.take k++[xs[k]]:=by rw [List.take_succ_eq_append_getElem hk]
 rw [et,List.map_append,List.append_assoc]
 simp [List.getD_eq_getElem?_getD,hk]
theorem QdC {α β:Type} {f:α->β} {x0:β} {xs:List α} {i:Int} (h:xs.length<=i):Qgp f x0 xs i=xs.map f:=by
 unfold Qgp
 rw [List.take_of_length_le (by omega),show xs.length - i.toNat=0 by omega]
 simp
theorem Qfp {β:Type} {e:β->List Value} {ys zs:List β} {n:Nat} (h:ys=zs) (hn:n=zs.length):slT n (Qab e ys)=slT zs.length (Qab e zs):=by subst h hn;rfl
def QgY (xs:List Qad) (i:Int) (ys:List Int):List Value:=[Value.func (Fn.func 140) #[] #[],.slice (some {block:=2,off:=0}) xs.length 1,Qay 1 (slT xs.length (Qab Qao xs)),.int .i64 (↑xs.length:Int),.int .i64 i]
def Qep (xs:List Qad) (i:Int) (ys:List Int):List Obj:=[.cells (Qab Qag ys) 3 (0,0)]
noncomputable def Qg0:List Item:=([.code [1,1,0,1,0,0],.inLoop [1,1,0,1,0,0],.inBlock 0,.code [1,1,1]]).map (it (Qaq Tryz.prog 92))
def QyW (B:Lo) (c0:CF) (xs:List Qad) (i:Int) (ys:List Int):Prop:=∃dJ:Nat->Value,(∀t,QaP (dJ t))/\GoE Tryz.prog B c0 H00 1 (Qa2 92 26 (([1,5,11,12,13]:List Nat).zip (QgY xs i ys)) dJ Qg0) (Qaz (Qep xs i ys)) (2+(Qep xs i ys).length) []
noncomputable def QgR (xs:List Qad) (i:Int) (ys:List Int) (dJ0:Nat->Value):Qaw:=[(3,Obj.cells #[Qay 1 (slT (List.length (Qad.goods (xs.getD i.toNat default))) (Qab Qa3 (Qad.goods (xs.getD i.toNat default)))),.int .i64 (Qad.weight (xs.getD i.toNat default)),.int .i64 (Qad.cost (xs.getD i.toNat default))] 118),(0,Obj.coro none),(1,Obj.coro none),(2,Obj.cells (Qab Qag ys) 3)]
noncomputable def Qi3 (xs:List Qad) (i:Int) (ys:List Int) (dJ0:Nat->Value):CF:=⟨140,ofList 5 [.agg #[Qay 1 (slT (List.length (Qad.goods (xs.getD i.toNat default))) (Qab Qa3 (Qad.goods (xs.getD i.toNat default)))),.int .i64 (Qad.weight (xs.getD i.toNat default)),.int .i64 (Qad.cost (xs.getD i.toNat default))]],[Item.code (Qaq Tryz.prog 140)],[],.run,none⟩
theorem Qx4 (B:Lo) (xs:List Qad) (i:Int) (ys:List Int) (dJ0:Nat->Value):CE.finK 4 (Qan Tryz.prog (Qa6 Tryz.prog) J0 B 6 4 (Qi3 xs i ys dJ0) (QgR xs i ys dJ0) 4
 [] 0 [] []) [] [] []=some (OO.ret (.int .i64 (Qad.weight (xs.getD i.toNat default))),[],[],
 []):=by kernel_rfl
theorem Qzr (B:Lo) (xs:List Qad) (i:Int) (ys:List Int) (dJ0:Nat->Value):landM (Qan Tryz.prog (Qa6 Tryz.prog) J0 B 13 1 (Qa2 92 26 (([1,5,11,12,13]:List Nat).zip (QgY xs i ys)) dJ0 Qg0) (Qaz (Qep xs i ys)) (2+(Qep xs i ys).length)
 [(0,hvT),(2,Qah.tidx i.toNat #[slT (List.length (Qad.goods (xs.getD i.toNat default))) (Qab Qa3 (Qad.goods (xs.getD i.toNat default))),.int .i64 (Qad.weight (xs.getD i.toNat default)),.int .i64 (Qad.cost (xs.getD i.toNat default))]),(11,Qah.call (List.range 4) (OO.ret (.int .i64 (Qad.weight (xs.getD i.toNat default)))) ([]++(4,Qb1)::QaS 5 []) 5 []),(12,Qah.old (Hint.idx i.toNat)),(13,Qah.old (Hint.st (Qab Qag (List.set ys i.toNat (Qad.weight (xs.getD i.toNat default)))))),(14,hvI (i+1))] 0 [] []) [1,5,11,12,13] [(2,KS.cells [] (Qab Qag (List.set ys i.toNat (Qad.weight (xs.getD i.toNat default)))))] []=some ⟨92,26,Qg0,[],.run,none,QgY xs (i+1) (List.set ys i.toNat (Qad.weight (xs.getD i.toNat default))),Qep xs (i+1) (List.set ys i.toNat (Qad.weight (xs.getD i.toNat default))),
 [Qa8 1 [] (Qab Qag (List.set ys i.toNat (Qad.weight (xs.getD i.toNat default)))) (Qab Qag (List.set ys i.toNat (Qad.weight (xs.getD i.toNat default)))),wq (i+1)=i+1,0+Int.toNat i * 1+TypeInfo.size Tryz.t3<=Array.size (Qab Qag ys)/\splice (Qab Qag ys) (0+Int.toNat i * 1) (Value.cells (Qca {len:=16000,tr:=Tri.set 14 (Tri.set 14 Tri.lf 22 (.int .i64 (Qad.weight (xs.getD i.toNat default)))) 23 (.pointer (some {block:=2,off:=0+Int.toNat i * 1}))} 22))=Qab Qag (List.set ys i.toNat (Qad.weight (xs.getD i.toNat default))),i=(↑i.toNat:Int)/\Int.toNat i < List.length xs,FJ Tryz.prog B (Qi3 xs i ys dJ0) (QgR xs i ys dJ0) 4 (OO.ret (.int .i64 (Qad.weight (xs.getD i.toNat default)))) (([]++((4,Qb1)::QaS (4+1) []))++QgR xs i ys dJ0) 5 (List.range 4) [],i=(↑i.toNat:Int)/\Int.toNat i < List.length xs/\Array.extract (Qab Qao xs) (Int.toNat i * TypeInfo.size Tryz.t118) (Int.toNat i * TypeInfo.size Tryz.t118+TypeInfo.size Tryz.t118)=#[slT (List.length (Qad.goods (xs.getD i.toNat default))) (Qab Qa3 (Qad.goods (xs.getD i.toNat default))),.int .i64 (Qad.weight (xs.getD i.toNat default)),.int .i64 (Qad.cost (xs.getD i.toNat default))],ltq i (↑xs.length:Int)=true]⟩:=by kernel_rfl
theorem QyZ (B:Lo) (xs:List Qad) (i:Int) (ys:List Int) (dJ0:Nat->Value):Qbe (Qan Tryz.prog (Qa6 Tryz.prog) J0 B 9 1 (Qa2 92 26 (([1,5,11,12,13]:List Nat).zip (QgY xs i ys)) dJ0 Qg0) (Qaz (Qep xs i ys)) (2+(Qep xs i ys).length)
 [(0,hvF)] 0 [] []) [{k:=2,rs:=[],cs:=Qab Qag ys}]=some (slT xs.length (Fz.cs {k:=2,rs:=[],cs:=Qab Qag ys}),
 [QaY (Fz.rs {k:=2,rs:=[],cs:=Qab Qag ys}) (Qab Qag ys) (Fz.cs {k:=2,rs:=[],cs:=Qab Qag ys}),ltq i (↑xs.length:Int)=false]):=by kernel_rfl
theorem QyX (B:Lo) (xs:List Qad):landM (Qan Tryz.prog (Qa6 Tryz.prog) J0 B 9 1 (Qal Tryz.prog 92 26 (([slT xs.length (Qab Qao xs),.func (.func 140) #[] #[]]).map (Qav 0 4))) H00 1
 [(3,Qah.old (Hint.mk xs.length (Qab (QbA [.int .i64 0]) (List.replicate xs.length ()))))] 0 [] []) [1,5,11,12,13] [(1,KS.rows [] [] (Qab Qag (List.replicate xs.length 0)))] []=some ⟨92,26,Qg0,[],.run,none,QgY xs (0) (List.replicate xs.length 0),Qep xs (0) (List.replicate xs.length 0),
 [QaQ 1 [] [] (Qab (QbA [.int .i64 0]) (List.replicate xs.length ())) (Qab Qag (List.replicate xs.length 0)),QfR Tryz.prog 22 (Qca {len:=16000,tr:=Tri.set 14 Tri.lf 9 (.int .i64 (↑xs.length:Int))} 9) (Qca {len:=16000,tr:=Tri.set 14 Tri.lf 9 (.int .i64 (↑xs.length:Int))} 9)=some (3,Qab (QbA [.int .i64 0]) (List.replicate xs.length ()),List.length xs,TypeInfo.size Tryz.t3)]⟩:=by kernel_rfl
set_option maxHeartbeats 4000000 in
theorem Qy3 (xs:List Qad) (hn:xs.length<=1000000) {B:Lo} (hJ:∀w,B.has w->J0 w) {c0:CF}:∀m:Nat,(∀(i:Int) (ys:List Int),(xs.length - i.toNat)=m->∀(h0:0<=i) (hy:ys=Qgp Qad.weight 0 xs i),QyW B c0 xs i ys->EndsT Tryz.prog B c0 (slI (xs.map Qad.weight))):=by
 intro m0
 induction m0 using Nat.strongRecOn with
 | _ m0 ih0=>
   intro i ys hm0 h0 hy ⟨dJ0,hdJ0,hg0⟩
   have hyl:ys.length=xs.length:=by rw [hy];exact QdD
   by_cases q0:(i:Int) < ((↑xs.length:Int))
   ·
    have rj0:FJ Tryz.prog B (Qi3 xs i ys dJ0) (QgR xs i ys dJ0) 4 (OO.ret (.int .i64 (Qad.weight (xs.getD i.toNat default)))) (([]++((4,Qb1)::QaS (4+1) []))++QgR xs i ys dJ0) 5 (List.range 4) []:=by
     exact FinK.fjB (GoE.finK okF hJ Qac (Qat (by kernel_rfl)) (Qam (by kernel_rfl)) ((GoE.refl (P:=Tryz.prog) (B:=B) (c0:=Qi3 xs i ys dJ0) (Qat (by kernel_rfl))).widen (Wf:=((([]):List (Nat×KS)).map (·.1))) (by simp) (Qam (by kernel_rfl))) (Qx4 B xs i ys dJ0)
      trivial) (ex:=[2]) (by kernel_rfl) ⟨trivial,⟨trivial,⟨trivial,⟨(QsP (t:=3) (fl:=(0,0)) (fun x=> List.all_eq_true.1 (by rfl))),trivial⟩⟩⟩⟩
    exact ((ih0 _ (by omega)) (i+1) (List.set ys i.toNat (Qad.weight (xs.getD i.toNat default))) rfl (by omega) (by (subst hy;exact QdJ h0 q0))
     (hg0.landM okF hJ Qac (Qzr B xs i ys dJ0)
     ⟨(Qaf (Qai (fun x=> List.all_eq_true.1 (by rfl)))),⟨(QaM (by omega) (by omega)),⟨(by exact QfO (z:=1) (fun _=> rfl) (by omega) rfl rfl),⟨⟨by omega,by omega⟩,⟨rj0,⟨⟨by omega,by omega,(Qae (z:=3) (fun _=> rfl) (by omega))⟩,⟨(QaW q0),trivial⟩⟩⟩⟩⟩⟩⟩ (by kernel_rfl) (by kernel_rfl))).cast (by rfl)
   ·
    exact (GoE.endsT okF hJ Qac hg0 (QyZ B xs i ys dJ0)
     ⟨(QaE (fun x=> List.all_eq_true.1 (by rfl))),⟨(Qbb (Int.not_lt.1 q0)),trivial⟩⟩).cast (by exact Qfp (hy.trans (QdC (by omega))) (by simp))
set_option maxHeartbeats 4000000 in
theorem Q0M (xs:List Qad) (hn:xs.length<=1000000) {B:Lo} (hJ:∀w,B.has w->J0 w):EndsT Tryz.prog B (Qal Tryz.prog 92 26 (([slT xs.length (Qab Qao xs),.func (.func 140) #[] #[]]).map (Qav 0 4))) (slI (xs.map Qad.weight)):=by
 exact ((Qy3 xs hn hJ _) (0) (List.replicate xs.length 0) rfl (by omega) (by exact QfL)
  (GoE.start.landM okF hJ Qac (QyX B xs)
  ⟨(by exact (QbK (by exact ⟨(.simple rfl),trivial⟩) _)),⟨(Qgo (bytes:=8) (by kernel_rfl) (by omega) (by omega) (by omega)),trivial⟩⟩ (by kernel_rfl) (by kernel_rfl))).cast (by rfl)
theorem Q3T (xs:List Qad) (hn:xs.length<=1000000):Qau Tryz.prog J0 92 #[slT xs.length (Qab Qao xs),.func (.func 140) #[] #[]] (slI (xs.map Qad.weight)):=
 QaF (ts:=[slT xs.length (Qab Qao xs),.func (.func 140) #[] #[]]) Qbw (c0:=Qal Tryz.prog 92 26 (([slT xs.length (Qab Qao xs),.func (.func 140) #[] #[]]).map (Qav 0 4))) (by kernel_rfl) (by kernel_rfl) fun B hJ=> Q0M xs hn hJ
end Go.Proofs.YtiabgkiccaodmaaGreat

namespace Go.Proofs.YtiabgkiccaodmaaGreat
open Go Go.CE Go.RowKit
noncomputable section
set_option maxRecDepth 100000
structure Qaa where
 stock:List Int
 use:List Span
 glo:Int
 ghi:Int
 lots:List Qad
 hold:Int
deriving Inhabited
abbrev Q5l (xs:List Qad):Value:=slT xs.length (Qab Qao xs)
def Qap (s:Qaa):List Value:=[slI s.stock,Qp9 s.use,.int .i64 s.glo,.int .i64 s.ghi,Q5l s.lots,.int .i64 s.hold]
def Qc5 (xs:List Span) (most:Int):Bool:=xs.all (fun s=> Qb2 s.lo s.hi 0 most)
def Qnu (k:Nat) (l:Qad):Bool:=decide (l.goods.length=k) && (Qc5 l.goods 100000 && (inB l.weight 0 100000 && inB l.cost 0 1000000))
def Qqr (s:Qaa):Bool:=decide (s.lots.length<=6) && s.lots.all (Qnu s.stock.length)
def QaD (s:Qaa):Bool:=inB s.stock.length 1 4 && (s.stock.all (fun x=> inB x 0 100000) && (decide (s.use.length=s.stock.length) && (Qc5 s.use 1000 && (Qb2 s.glo s.ghi 1 60 && (Qqr s && inB s.hold 0 100000)))))
theorem QvA (B:Lo) (a b:Int):Qbe (Qan Tryz.prog (Qa6 Tryz.prog) J0 B 6 1 (Qal Tryz.prog 75 5 (([.agg #[.int .i64 a,.int .i64 b]]).map (Qav 0 4))) H00 1
 [(3,Qah.pure (.bool true) [])] 0 [] []) []=some (.bool true,
 [QaB []/\Qau Tryz.prog J0 109 #[.agg #[.int .i64 a,.int .i64 b],.int .i64 1,.int .i64 60] (.bool true)]):=by kernel_rfl
theorem Qws (B:Lo) (a b:Int):Qbe (Qan Tryz.prog (Qa6 Tryz.prog) J0 B 6 1 (Qal Tryz.prog 75 5 (([.agg #[.int .i64 a,.int .i64 b]]).map (Qav 0 4))) H00 1
 [(3,Qah.pure (.bool false) [])] 0 [] []) []=some (.bool false,
 [QaB []/\Qau Tryz.prog J0 109 #[.agg #[.int .i64 a,.int .i64 b],.int .i64 1,.int .i64 60] (.bool false)]):=by kernel_rfl
set_option maxHeartbeats 4000000 in
theorem Q0G (a b:Int)  {B:Lo} (hJ:∀w,B.has w->J0 w):EndsT Tryz.prog B (Qal Tryz.prog 75 5 (([.agg #[.int .i64 a,.int .i64 b]]).map (Qav 0 4))) (.bool (Qb2 a b 1 60)):=by
 cases q0:Qb2 a b 1 60 with
 | true=>
   exact (GoE.endsT okF hJ Qac GoE.start (QvA B a b)
    ⟨⟨trivial,(by have t_:=Qiw (a) (b) (1) (60);rw [q0] at t_;exact t_)⟩,trivial⟩).cast (by rfl)
 | false=>
   exact (GoE.endsT okF hJ Qac GoE.start (Qws B a b)
    ⟨⟨trivial,(by have t_:=Qiw (a) (b) (1) (60);rw [q0] at t_;exact t_)⟩,trivial⟩).cast (by rfl)
theorem Q2f (a b:Int)  :Qau Tryz.prog J0 75 #[.agg #[.int .i64 a,.int .i64 b]] (.bool (Qb2 a b 1 60)):=
 QaF (ts:=[.agg #[.int .i64 a,.int .i64 b]]) Qbw (c0:=Qal Tryz.prog 75 5 (([.agg #[.int .i64 a,.int .i64 b]]).map (Qav 0 4))) (by kernel_rfl) (by kernel_rfl) fun B hJ=> Q0G a b  hJ
theorem Qqn (B:Lo) (n:Int):Qbe (Qan Tryz.prog (Qa6 Tryz.prog) J0 B 6 1 (Qal Tryz.prog 114 5 (([.int .i64 n]).map (Qav 0 4))) H00 1
 [(2,Qah.pure (.bool true) [])] 0 [] []) []=some (.bool true,
 [QaB []/\Qau Tryz.prog J0 76 #[.int .i64 n,.int .i64 0,.int .i64 100000] (.bool true)]):=by kernel_rfl
theorem Qq2 (B:Lo) (n:Int):Qbe (Qan Tryz.prog (Qa6 Tryz.prog) J0 B 6 1 (Qal Tryz.prog 114 5 (([.int .i64 n]).map (Qav 0 4))) H00 1
 [(2,Qah.pure (.bool false) [])] 0 [] []) []=some (.bool false,
 [QaB []/\Qau Tryz.prog J0 76 #[.int .i64 n,.int .i64 0,.int .i64 100000] (.bool false)]):=by kernel_rfl
set_option maxHeartbeats 4000000 in
theorem Qsr (n:Int)  {B:Lo} (hJ:∀w,B.has w->J0 w):EndsT Tryz.prog B (Qal Tryz.prog 114 5 (([.int .i64 n]).map (Qav 0 4))) (.bool (inB n 0 100000)):=by
 cases q0:inB n 0 100000 with
 | true=>
   exact (GoE.endsT okF hJ Qac GoE.start (Qqn B n)
    ⟨⟨trivial,(by have t_:=pIn (n) (0) (100000);rw [q0] at t_;exact t_)⟩,trivial⟩).cast (by rfl)
 | false=>
   exact (GoE.endsT okF hJ Qac GoE.start (Qq2 B n)
    ⟨⟨trivial,(by have t_:=pIn (n) (0) (100000);rw [q0] at t_;exact t_)⟩,trivial⟩).cast (by rfl)
theorem QiW (n:Int)  :Qau Tryz.prog J0 114 #[.int .i64 n] (.bool (inB n 0 100000)):=
 QaF (ts:=[.int .i64 n]) Qbw (c0:=Qal Tryz.prog 114 5 (([.int .i64 n]).map (Qav 0 4))) (by kernel_rfl) (by kernel_rfl) fun B hJ=> Qsr n  hJ
def Qmb (B:Lo) (s:Qaa) (l:Qad):List Prop:=[eqq (↑l.goods.length:Int) (↑s.stock.length:Int)=true]++([]:List Prop)
def QqY (s:Qaa) (l:Qad):Qa7:=[(9,hvT)]
def Qmr (B:Lo) (s:Qaa) (l:Qad):List Prop:=[QaB []/\Qau Tryz.prog J0 101 #[slT l.goods.length (Qab Qa3 l.goods),.int .i64 100000] (.bool true)]++Qmb B s l
def Qro (s:Qaa) (l:Qad):Qa7:=QqY s l++[(13,Qah.pure (.bool true) [])]
def QkY (B:Lo) (s:Qaa) (l:Qad):List Prop:=[QaB []/\Qau Tryz.prog J0 114 #[.int .i64 l.weight] (.bool true)]++Qmr B s l
def Qqv (s:Qaa) (l:Qad):Qa7:=Qro s l++[(18,Qah.pure (.bool true) [])]
theorem Qze (B:Lo) (s:Qaa) (l:Qad):Qbe (Qan Tryz.prog (Qa6 Tryz.prog) J0 B 6 1 (Qal Tryz.prog 145 27 (([.agg (Qap s).toArray,.agg (Qao l).toArray]).map (Qav 0 4))) H00 1
 (Qqv s l++[(23,Qah.pure (.bool true) [])]) 0 [] []) []=some (.bool true,
 [QaB []/\Qau Tryz.prog J0 76 #[.int .i64 l.cost,.int .i64 0,.int .i64 1000000] (.bool true)]++QkY B s l):=by kernel_rfl
theorem Qww (B:Lo) (s:Qaa) (l:Qad):Qbe (Qan Tryz.prog (Qa6 Tryz.prog) J0 B 6 1 (Qal Tryz.prog 145 27 (([.agg (Qap s).toArray,.agg (Qao l).toArray]).map (Qav 0 4))) H00 1
 (Qqv s l++[(23,Qah.pure (.bool false) [])]) 0 [] []) []=some (.bool false,
 [QaB []/\Qau Tryz.prog J0 76 #[.int .i64 l.cost,.int .i64 0,.int .i64 1000000] (.bool false)]++QkY B s l):=by kernel_rfl
theorem Qy6 (B:Lo) (s:Qaa) (l:Qad):Qbe (Qan Tryz.prog (Qa6 Tryz.prog) J0 B 6 1 (Qal Tryz.prog 145 27 (([.agg (Qap s).toArray,.agg (Qao l).toArray]).map (Qav 0 4))) H00 1
 (Qro s l++[(18,Qah.pure (.bool false) [])]) 0 [] []) []=some (.bool false,
 [QaB []/\Qau Tryz.prog J0 114 #[.int .i64 l.weight] (.bool false)]++Qmr B s l):=by kernel_rfl
theorem Qy5 (B:Lo) (s:Qaa) (l:Qad):Qbe (Qan Tryz.prog (Qa6 Tryz.prog) J0 B 6 1 (Qal Tryz.prog 145 27 (([.agg (Qap s).toArray,.agg (Qao l).toArray]).map (Qav 0 4))) H00 1
 (QqY s l++[(13,Qah.pure (.bool false) [])]) 0 [] []) []=some (.bool false,
 [QaB []/\Qau Tryz.prog J0 101 #[slT l.goods.length (Qab Qa3 l.goods),.int .i64 100000] (.bool false)]++Qmb B s l):=by kernel_rfl
theorem QvM (B:Lo) (s:Qaa) (l:Qad):Qbe (Qan Tryz.prog (Qa6 Tryz.prog) J0 B 6 1 (Qal Tryz.prog 145 27 (([.agg (Qap s).toArray,.agg (Qao l).toArray]).map (Qav 0 4))) H00 1
 [(9,hvF)] 0 [] []) []=some (.bool false,
 [eqq (↑l.goods.length:Int) (↑s.stock.length:Int)=false]):=by kernel_rfl
set_option maxHeartbeats 4000000 in
theorem Qzu (s:Qaa) (l:Qad)  {B:Lo} (hJ:∀w,B.has w->J0 w):EndsT Tryz.prog B (Qal Tryz.prog 145 27 (([.agg (Qap s).toArray,.agg (Qao l).toArray]).map (Qav 0 4))) (.bool (Qnu s.stock.length l)):=by
 by_cases q0:((↑l.goods.length:Int):Int)=((↑s.stock.length:Int))
 ·
  have hp0:QaB (Qmb B s l):=by
   exact ⟨(Quc q0),trivial⟩
  cases q1:List.all l.goods fun s=> Qb2 s.lo s.hi 0 100000 with
  | true=>
    have hp1:QaB (Qmr B s l):=by
     exact ⟨⟨trivial,(by have t_:=Qji l.goods (100000);rw [q1] at t_;exact t_)⟩,hp0⟩
    cases q2:inB l.weight 0 100000 with
    | true=>
      have hp2:QaB (QkY B s l):=by
       exact ⟨⟨trivial,(by have t_:=QiW l.weight;rw [q2] at t_;exact t_)⟩,hp1⟩
      cases q3:inB l.cost 0 1000000 with
      | true=>
        exact (GoE.endsT okF hJ Qac GoE.start (Qze B s l)
         ⟨⟨trivial,(by have t_:=pIn l.cost (0) (1000000);rw [q3] at t_;exact t_)⟩,hp2⟩).cast (by (simp_all [Qnu,Qc5];omega))
      | false=>
        exact (GoE.endsT okF hJ Qac GoE.start (Qww B s l)
         ⟨⟨trivial,(by have t_:=pIn l.cost (0) (1000000);rw [q3] at t_;exact t_)⟩,hp2⟩).cast (by (simp [Qnu,Qc5, *];done))
    | false=>
      exact (GoE.endsT okF hJ Qac GoE.start (Qy6 B s l)
       ⟨⟨trivial,(by have t_:=QiW l.weight;rw [q2] at t_;exact t_)⟩,hp1⟩).cast (by (simp [Qnu,Qc5, *];done))
  | false=>
    exact (GoE.endsT okF hJ Qac GoE.start (Qy5 B s l)
     ⟨⟨trivial,(by have t_:=Qji l.goods (100000);rw [q1] at t_;exact t_)⟩,hp0⟩).cast (by (simp [Qnu,Qc5, *];done))
 ·
  exact (GoE.endsT okF hJ Qac GoE.start (QvM B s l)
   ⟨(QtU q0),trivial⟩).cast (by (simp_all [Qnu,Qc5];omega))
theorem Q2l (s:Qaa) (l:Qad)  :Qau Tryz.prog J0 145 #[.agg (Qap s).toArray,.agg (Qao l).toArray] (.bool (Qnu s.stock.length l)):=
 QaF (ts:=[.agg (Qap s).toArray,.agg (Qao l).toArray]) Qbw (c0:=Qal Tryz.prog 145 27 (([.agg (Qap s).toArray,.agg (Qao l).toArray]).map (Qav 0 4))) (by kernel_rfl) (by kernel_rfl) fun B hJ=> Qzu s l  hJ
def QdP (s:Qaa) (i:Int):List Value:=[pA 2 0,Qay 1 (slT s.lots.length (Qab Qao s.lots)),.int .i64 (↑s.lots.length:Int),.int .i64 i]
def Qcc (s:Qaa) (i:Int):List Obj:=[Obj.cells #[Qay 1 (slT s.stock.length (Qab Qag s.stock)),Qay 1 (slT s.use.length (Qab Qa3 s.use)),.int .i64 s.glo,.int .i64 s.ghi,Qay 1 (slT s.lots.length (Qab Qao s.lots)),.int .i64 s.hold] 62]
def QdS:List Item:=([.code [1,1,0,1,0,0],.inLoop [1,1,0,1,0,0],.inBlock 0,.code [1,1,1]]).map (it (Qaq Tryz.prog 113))
def Qsp (B:Lo) (c0:CF) (s:Qaa) (i:Int):Prop:=∃dJ:Nat->Value,(∀t,QaP (dJ t))/\GoE Tryz.prog B c0 H00 1 (Qa2 113 21 (([1,10,11,12]:List Nat).zip (QdP s i)) dJ QdS) (Qaz (Qcc s i)) (2+(Qcc s i).length) []
def QfZ (s:Qaa) (i:Int):Array Value:=#[slT (List.length (Qad.goods (s.lots.getD i.toNat default))) (Qab Qa3 (Qad.goods (s.lots.getD i.toNat default))),.int .i64 (Qad.weight (s.lots.getD i.toNat default)),.int .i64 (Qad.cost (s.lots.getD i.toNat default))]
def QhP (B:Lo) (s:Qaa) (i:Int) (dJ0:Nat->Value):List Prop:=[i=(↑i.toNat:Int)/\Int.toNat i < List.length s.lots/\Array.extract (Qab Qao s.lots) (Int.toNat i * TypeInfo.size Tryz.t118) (Int.toNat i * TypeInfo.size Tryz.t118+TypeInfo.size Tryz.t118)=(QfZ s i),ltq i (↑s.lots.length:Int)=true]++([]:List Prop)
def QmT (s:Qaa) (i:Int) (dJ0:Nat->Value):Qa7:=[(0,hvT),(1,Qah.tidx i.toNat (QfZ s i))]
theorem QrN (B:Lo) (s:Qaa) (i:Int) (dJ0:Nat->Value):landM (Qan Tryz.prog (Qa6 Tryz.prog) J0 B 16 1 (Qa2 113 21 (([1,10,11,12]:List Nat).zip (QdP s i)) dJ0 QdS) (Qaz (Qcc s i)) (2+(Qcc s i).length)
 (QmT s i dJ0++[(7,Qah.pure (.bool true) []),(9,hvI (i+1))]) 0 [] []) [1,10,11,12] [(2,KS.auto)] []=some ⟨113,21,QdS,[],.run,none,QdP s (i+1),Qcc s (i+1),
 [wq (i+1)=i+1,QaB []/\Qau Tryz.prog J0 145 #[.agg #[slT s.stock.length (Qab Qag s.stock),slT s.use.length (Qab Qa3 s.use),.int .i64 s.glo,.int .i64 s.ghi,slT s.lots.length (Qab Qao s.lots),.int .i64 s.hold],.agg (QfZ s i)] (.bool true)]++QhP B s i dJ0⟩:=by kernel_rfl
theorem QrA (B:Lo) (s:Qaa) (i:Int) (dJ0:Nat->Value):Qbe (Qan Tryz.prog (Qa6 Tryz.prog) J0 B 16 1 (Qa2 113 21 (([1,10,11,12]:List Nat).zip (QdP s i)) dJ0 QdS) (Qaz (Qcc s i)) (2+(Qcc s i).length)
 (QmT s i dJ0++[(7,Qah.pure (.bool false) [])]) 0 [] []) []=some (.bool false,
 [QaB []/\Qau Tryz.prog J0 145 #[.agg #[slT s.stock.length (Qab Qag s.stock),slT s.use.length (Qab Qa3 s.use),.int .i64 s.glo,.int .i64 s.ghi,slT s.lots.length (Qab Qao s.lots),.int .i64 s.hold],.agg (QfZ s i)] (.bool false)]++QhP B s i dJ0):=by kernel_rfl
theorem QrS (B:Lo) (s:Qaa) (i:Int) (dJ0:Nat->Value):Qbe (Qan Tryz.prog (Qa6 Tryz.prog) J0 B 9 1 (Qa2 113 21 (([1,10,11,12]:List Nat).zip (QdP s i)) dJ0 QdS) (Qaz (Qcc s i)) (2+(Qcc s i).length)
 [(0,hvF)] 0 [] []) []=some (.bool true,
 [ltq i (↑s.lots.length:Int)=false]):=by kernel_rfl
theorem QrD (B:Lo) (s:Qaa):Qbe (Qan Tryz.prog (Qa6 Tryz.prog) J0 B 10 1 (Qal Tryz.prog 113 21 (([.agg (Qap s).toArray]).map (Qav 0 4))) H00 1
 [(5,hvT)] 0 [] []) []=some (.bool false,
 [ltq 6 (↑s.lots.length:Int)=true]):=by kernel_rfl
theorem Qse (B:Lo) (s:Qaa):landM (Qan Tryz.prog (Qa6 Tryz.prog) J0 B 12 1 (Qal Tryz.prog 113 21 (([.agg (Qap s).toArray]).map (Qav 0 4))) H00 1
 [(5,hvF)] 0 [] []) [1,10,11,12] [(1,KS.auto)] []=some ⟨113,21,QdS,[],.run,none,QdP s (0),Qcc s (0),
 [ltq 6 (↑s.lots.length:Int)=false]⟩:=by kernel_rfl
set_option maxHeartbeats 4000000 in
theorem Qsa (s:Qaa)  (hfacts:s.lots.length<=9223372036854775807) {B:Lo} (hJ:∀w,B.has w->J0 w) {c0:CF}:∀m:Nat,(∀(i:Int),s.lots.length - i.toNat=m->∀(h0:0<=i) (h6:s.lots.length<=6),Qsp B c0 s i->EndsT Tryz.prog B c0 (.bool ((s.lots.drop i.toNat).all (Qnu s.stock.length)))):=by
 intro m0
 induction m0 using Nat.strongRecOn with
 | _ m0 ih0=>
   intro i hm0 h0 h6 ⟨dJ0,hdJ0,hg0⟩
   by_cases q0:(i:Int) < ((↑s.lots.length:Int))
   ·
    have hp0:QaB (QhP B s i dJ0):=by
     exact ⟨⟨by omega,by omega,(Qae (z:=3) (fun _=> rfl) (by omega))⟩,⟨(QaW q0),trivial⟩⟩
    cases q1:Qnu s.stock.length (s.lots.getD i.toNat default) with
    | true=>
      exact ((ih0 _ (by omega)) (i+1) rfl (by omega) (by with_reducible assumption)
       (hg0.landM okF hJ Qac (QrN B s i dJ0)
       ⟨(QaM (by omega) (by omega)),⟨⟨trivial,(by have t_:=Q2l (s) (s.lots.getD i.toNat default);rw [q1] at t_;exact t_)⟩,hp0⟩⟩ (by kernel_rfl) (by kernel_rfl))).cast (by (rw [Qh0 (i:=i)];(· simp_all);(· omega);(· omega)))
    | false=>
      exact (GoE.endsT okF hJ Qac hg0 (QrA B s i dJ0)
       ⟨⟨trivial,(by have t_:=Q2l (s) (s.lots.getD i.toNat default);rw [q1] at t_;exact t_)⟩,hp0⟩).cast (by (rw [Qh0 (i:=i)];(· simp_all);(· omega);(· omega)))
   ·
    exact (GoE.endsT okF hJ Qac hg0 (QrS B s i dJ0)
     ⟨(Qbb (Int.not_lt.1 q0)),trivial⟩).cast (by (rw [Qht (i:=i)];(· simp_all);(· omega)))
set_option maxHeartbeats 4000000 in
theorem Qvg (s:Qaa)  (hfacts:s.lots.length<=9223372036854775807) {B:Lo} (hJ:∀w,B.has w->J0 w):EndsT Tryz.prog B (Qal Tryz.prog 113 21 (([.agg (Qap s).toArray]).map (Qav 0 4))) (.bool (Qqr s)):=by
 by_cases q0:(6:Int) < ((↑s.lots.length:Int))
 ·
  exact (GoE.endsT okF hJ Qac GoE.start (QrD B s)
   ⟨(QaW q0),trivial⟩).cast (by (simp_all [Qqr];omega))
 ·
  exact ((Qsa s hfacts hJ _) (0) rfl (by omega) (by omega)
   (GoE.start.landM okF hJ Qac (Qse B s)
   ⟨(Qbb (Int.not_lt.1 q0)),trivial⟩ (by kernel_rfl) (by kernel_rfl))).cast (by (simp_all [Qqr];omega))
theorem Qs8 (s:Qaa)  :Qau Tryz.prog J0 113 #[.agg (Qap s).toArray] (.bool (Qqr s)):=
 QcY (ts:=[.agg (Qap s).toArray]) (s.lots.length<=9223372036854775807) (fun _ _ ht=> ht.ln2 (i:=0) (j:=4) rfl rfl) Qbw (c0:=Qal Tryz.prog 113 21 (([.agg (Qap s).toArray]).map (Qav 0 4))) (by kernel_rfl) (by kernel_rfl) fun hfacts B hJ=> Qvg s  hfacts hJ
def QhU (B:Lo) (s:Qaa):List Prop:=[QaB []/\Qau Tryz.prog J0 76 #[.int .i64 (↑s.stock.length:Int),.int .i64 1,.int .i64 4] (.bool true)]++([]:List Prop)
def Qm4 (s:Qaa):Qa7:=[(5,Qah.pure (.bool true) [])]
def QhG (B:Lo) (s:Qaa):List Prop:=[QaB []/\Qau Tryz.prog J0 100 #[slT s.stock.length (Qab Qag s.stock),.int .i64 0,.int .i64 100000] (.bool true)]++QhU B s
def Qma (s:Qaa):Qa7:=Qm4 s++[(9,Qah.pure (.bool true) [])]
def QhO (B:Lo) (s:Qaa):List Prop:=[eqq (↑s.use.length:Int) (↑s.stock.length:Int)=true]++QhG B s
def QmO (s:Qaa):Qa7:=Qma s++[(18,hvT)]
def QhT (B:Lo) (s:Qaa):List Prop:=[QaB []/\Qau Tryz.prog J0 101 #[slT s.use.length (Qab Qa3 s.use),.int .i64 1000] (.bool true)]++QhO B s
def Qlb (s:Qaa):Qa7:=QmO s++[(23,Qah.pure (.bool true) [])]
def QhE (B:Lo) (s:Qaa):List Prop:=[QaB []/\Qau Tryz.prog J0 75 #[.agg #[.int .i64 s.glo,.int .i64 s.ghi]] (.bool true)]++QhT B s
def Qmi (s:Qaa):Qa7:=Qlb s++[(28,Qah.pure (.bool true) [])]
def QhH (B:Lo) (s:Qaa):List Prop:=[QaB []/\Qau Tryz.prog J0 113 #[.agg #[slT s.stock.length (Qab Qag s.stock),slT s.use.length (Qab Qa3 s.use),.int .i64 s.glo,.int .i64 s.ghi,slT s.lots.length (Qab Qao s.lots),.int .i64 s.hold]] (.bool true)]++QhE B s
def QlB (s:Qaa):Qa7:=Qmi s++[(32,Qah.pure (.bool true) [])]
theorem Qsj (B:Lo) (s:Qaa):Qbe (Qan Tryz.prog (Qa6 Tryz.prog) J0 B 6 1 (Qal Tryz.prog 79 40 (([.agg (Qap s).toArray]).map (Qav 0 4))) H00 1
 (QlB s++[(37,Qah.pure (.bool true) [])]) 0 [] []) []=some (.bool true,
 [QaB []/\Qau Tryz.prog J0 114 #[.int .i64 s.hold] (.bool true)]++QhH B s):=by kernel_rfl
theorem QrE (B:Lo) (s:Qaa):Qbe (Qan Tryz.prog (Qa6 Tryz.prog) J0 B 6 1 (Qal Tryz.prog 79 40 (([.agg (Qap s).toArray]).map (Qav 0 4))) H00 1
 (QlB s++[(37,Qah.pure (.bool false) [])]) 0 [] []) []=some (.bool false,
 [QaB []/\Qau Tryz.prog J0 114 #[.int .i64 s.hold] (.bool false)]++QhH B s):=by kernel_rfl
theorem Qsd (B:Lo) (s:Qaa):Qbe (Qan Tryz.prog (Qa6 Tryz.prog) J0 B 6 1 (Qal Tryz.prog 79 40 (([.agg (Qap s).toArray]).map (Qav 0 4))) H00 1
 (Qmi s++[(32,Qah.pure (.bool false) [])]) 0 [] []) []=some (.bool false,
 [QaB []/\Qau Tryz.prog J0 113 #[.agg #[slT s.stock.length (Qab Qag s.stock),slT s.use.length (Qab Qa3 s.use),.int .i64 s.glo,.int .i64 s.ghi,slT s.lots.length (Qab Qao s.lots),.int .i64 s.hold]] (.bool false)]++QhE B s):=by kernel_rfl
theorem Qsx (B:Lo) (s:Qaa):Qbe (Qan Tryz.prog (Qa6 Tryz.prog) J0 B 6 1 (Qal Tryz.prog 79 40 (([.agg (Qap s).toArray]).map (Qav 0 4))) H00 1
 (Qlb s++[(28,Qah.pure (.bool false) [])]) 0 [] []) []=some (.bool false,
 [QaB []/\Qau Tryz.prog J0 75 #[.agg #[.int .i64 s.glo,.int .i64 s.ghi]] (.bool false)]++QhT B s):=by kernel_rfl
theorem Qss (B:Lo) (s:Qaa):Qbe (Qan Tryz.prog (Qa6 Tryz.prog) J0 B 6 1 (Qal Tryz.prog 79 40 (([.agg (Qap s).toArray]).map (Qav 0 4))) H00 1
 (QmO s++[(23,Qah.pure (.bool false) [])]) 0 [] []) []=some (.bool false,
 [QaB []/\Qau Tryz.prog J0 101 #[slT s.use.length (Qab Qa3 s.use),.int .i64 1000] (.bool false)]++QhO B s):=by kernel_rfl
theorem QrC (B:Lo) (s:Qaa):Qbe (Qan Tryz.prog (Qa6 Tryz.prog) J0 B 6 1 (Qal Tryz.prog 79 40 (([.agg (Qap s).toArray]).map (Qav 0 4))) H00 1
 (Qma s++[(18,hvF)]) 0 [] []) []=some (.bool false,
 [eqq (↑s.use.length:Int) (↑s.stock.length:Int)=false]++QhG B s):=by kernel_rfl
theorem QrL (B:Lo) (s:Qaa):Qbe (Qan Tryz.prog (Qa6 Tryz.prog) J0 B 6 1 (Qal Tryz.prog 79 40 (([.agg (Qap s).toArray]).map (Qav 0 4))) H00 1
 (Qm4 s++[(9,Qah.pure (.bool false) [])]) 0 [] []) []=some (.bool false,
 [QaB []/\Qau Tryz.prog J0 100 #[slT s.stock.length (Qab Qag s.stock),.int .i64 0,.int .i64 100000] (.bool false)]++QhU B s):=by kernel_rfl
theorem Qs1 (B:Lo) (s:Qaa):Qbe (Qan Tryz.prog (Qa6 Tryz.prog) J0 B 6 1 (Qal Tryz.prog 79 40 (([.agg (Qap s).toArray]).map (Qav 0 4))) H00 1
 [(5,Qah.pure (.bool false) [])] 0 [] []) []=some (.bool false,
 [QaB []/\Qau Tryz.prog J0 76 #[.int .i64 (↑s.stock.length:Int),.int .i64 1,.int .i64 4] (.bool false)]):=by kernel_rfl
set_option maxHeartbeats 4000000 in
theorem QuL (s:Qaa)  (hfacts:s.stock.length<=9223372036854775807/\s.use.length<=9223372036854775807) {B:Lo} (hJ:∀w,B.has w->J0 w):EndsT Tryz.prog B (Qal Tryz.prog 79 40 (([.agg (Qap s).toArray]).map (Qav 0 4))) (.bool (QaD s)):=by
 cases q0:inB (↑s.stock.length:Int) 1 4 with
 | true=>
   have hp0:QaB (QhU B s):=by
    exact ⟨⟨trivial,(by have t_:=pIn ((↑s.stock.length:Int)) (1) (4);rw [q0] at t_;exact t_)⟩,trivial⟩
   cases q1:List.all s.stock fun x=> inB x 0 100000 with
   | true=>
     have hp1:QaB (QhG B s):=by
      exact ⟨⟨trivial,(by have t_:=Q2e s.stock (0) (100000);rw [q1] at t_;exact t_)⟩,hp0⟩
     by_cases q2:((↑s.use.length:Int):Int)=((↑s.stock.length:Int))
     ·
      have hp2:QaB (QhO B s):=by
       exact ⟨(Quc q2),hp1⟩
      cases q3:List.all s.use fun s=> Qb2 s.lo s.hi 0 1000 with
      | true=>
        have hp3:QaB (QhT B s):=by
         exact ⟨⟨trivial,(by have t_:=Qji s.use (1000);rw [q3] at t_;exact t_)⟩,hp2⟩
        cases q4:Qb2 s.glo s.ghi 1 60 with
        | true=>
          have hp4:QaB (QhE B s):=by
           exact ⟨⟨trivial,(by have t_:=Q2f s.glo s.ghi;rw [q4] at t_;exact t_)⟩,hp3⟩
          cases q5:Qqr s with
          | true=>
            have hp5:QaB (QhH B s):=by
             exact ⟨⟨trivial,(by have t_:=Qs8 (s);rw [q5] at t_;exact t_)⟩,hp4⟩
            cases q6:inB s.hold 0 100000 with
            | true=>
              exact (GoE.endsT okF hJ Qac GoE.start (Qsj B s)
               ⟨⟨trivial,(by have t_:=QiW s.hold;rw [q6] at t_;exact t_)⟩,hp5⟩).cast (by (simp_all [QaD,Qc5];omega))
            | false=>
              exact (GoE.endsT okF hJ Qac GoE.start (QrE B s)
               ⟨⟨trivial,(by have t_:=QiW s.hold;rw [q6] at t_;exact t_)⟩,hp5⟩).cast (by (simp [QaD,Qc5, *];done))
          | false=>
            exact (GoE.endsT okF hJ Qac GoE.start (Qsd B s)
             ⟨⟨trivial,(by have t_:=Qs8 (s);rw [q5] at t_;exact t_)⟩,hp4⟩).cast (by (simp [QaD,Qc5, *];done))
        | false=>
          exact (GoE.endsT okF hJ Qac GoE.start (Qsx B s)
           ⟨⟨trivial,(by have t_:=Q2f s.glo s.ghi;rw [q4] at t_;exact t_)⟩,hp3⟩).cast (by (simp [QaD,Qc5, *];done))
      | false=>
        exact (GoE.endsT okF hJ Qac GoE.start (Qss B s)
         ⟨⟨trivial,(by have t_:=Qji s.use (1000);rw [q3] at t_;exact t_)⟩,hp2⟩).cast (by (simp [QaD,Qc5, *];done))
     ·
      exact (GoE.endsT okF hJ Qac GoE.start (QrC B s)
       ⟨(QtU q2),hp1⟩).cast (by (simp_all [QaD,Qc5];omega))
   | false=>
     exact (GoE.endsT okF hJ Qac GoE.start (QrL B s)
      ⟨⟨trivial,(by have t_:=Q2e s.stock (0) (100000);rw [q1] at t_;exact t_)⟩,hp0⟩).cast (by (simp [QaD,Qc5, *];done))
 | false=>
   exact (GoE.endsT okF hJ Qac GoE.start (Qs1 B s)
    ⟨⟨trivial,(by have t_:=pIn ((↑s.stock.length:Int)) (1) (4);rw [q0] at t_;exact t_)⟩,trivial⟩).cast (by (simp [QaD,Qc5, *];done))
theorem Qkz (s:Qaa)  :Qau Tryz.prog J0 79 #[.agg (Qap s).toArray] (.bool (QaD s)):=
 QcY (ts:=[.agg (Qap s).toArray]) (s.stock.length<=9223372036854775807/\s.use.length<=9223372036854775807) (fun _ _ ht=> ⟨ht.ln2 (i:=0) (j:=0) rfl rfl,ht.ln2 (i:=0) (j:=1) rfl rfl⟩) Qbw (c0:=Qal Tryz.prog 79 40 (([.agg (Qap s).toArray]).map (Qav 0 4))) (by kernel_rfl) (by kernel_rfl) fun hfacts B hJ=> QuL s  hfacts hJ
theorem Qnh (B:Lo) (s:Qaa):Qbe (Qan Tryz.prog (Qa6 Tryz.prog) J0 B 11 1 (Qal Tryz.prog 42 6 (([.agg (Qap s).toArray]).map (Qav 0 4))) H00 1
 [(3,Qah.pure (.bool true) [])] 0 [] []) []=some (.int .i64 0,
 [QaB []/\Qau Tryz.prog J0 79 #[.agg #[slT s.stock.length (Qab Qag s.stock),slT s.use.length (Qab Qa3 s.use),.int .i64 s.glo,.int .i64 s.ghi,slT s.lots.length (Qab Qao s.lots),.int .i64 s.hold]] (.bool true)]):=by kernel_rfl
theorem Qng (B:Lo) (s:Qaa):Qbe (Qan Tryz.prog (Qa6 Tryz.prog) J0 B 10 1 (Qal Tryz.prog 42 6 (([.agg (Qap s).toArray]).map (Qav 0 4))) H00 1
 [(3,Qah.pure (.bool false) [])] 0 [] []) []=some (.int .i64 2,
 [QaB []/\Qau Tryz.prog J0 79 #[.agg #[slT s.stock.length (Qab Qag s.stock),slT s.use.length (Qab Qa3 s.use),.int .i64 s.glo,.int .i64 s.ghi,slT s.lots.length (Qab Qao s.lots),.int .i64 s.hold]] (.bool false)]):=by kernel_rfl
set_option maxHeartbeats 4000000 in
theorem Qon (s:Qaa)  {B:Lo} (hJ:∀w,B.has w->J0 w):EndsT Tryz.prog B (Qal Tryz.prog 42 6 (([.agg (Qap s).toArray]).map (Qav 0 4))) (.int .i64 (if QaD s then 0 else 2)):=by
 cases q0:QaD s with
 | true=>
   exact (GoE.endsT okF hJ Qac GoE.start (Qnh B s)
    ⟨⟨trivial,(by have t_:=Qkz (s);rw [q0] at t_;exact t_)⟩,trivial⟩).cast (by rfl)
 | false=>
   exact (GoE.endsT okF hJ Qac GoE.start (Qng B s)
    ⟨⟨trivial,(by have t_:=Qkz (s);rw [q0] at t_;exact t_)⟩,trivial⟩).cast (by rfl)
theorem QlY (s:Qaa)  :Qau Tryz.prog J0 42 #[.agg (Qap s).toArray] (.int .i64 (if QaD s then 0 else 2)):=
 QaF (ts:=[.agg (Qap s).toArray]) Qbw (c0:=Qal Tryz.prog 42 6 (([.agg (Qap s).toArray]).map (Qav 0 4))) (by kernel_rfl) (by kernel_rfl) fun B hJ=> Qon s  hJ
theorem QrK (B:Lo) (n:Int):Qbe (Qan Tryz.prog (Qa6 Tryz.prog) J0 B 6 1 (Qal Tryz.prog 81 5 (([.int .i64 n]).map (Qav 0 4))) H00 1
 [(2,Qah.pure (.bool true) [])] 0 [] []) []=some (.bool true,
 [QaB []/\Qau Tryz.prog J0 76 #[.int .i64 n,.int .i64 0,.int .i64 300] (.bool true)]):=by kernel_rfl
theorem Qsc (B:Lo) (n:Int):Qbe (Qan Tryz.prog (Qa6 Tryz.prog) J0 B 6 1 (Qal Tryz.prog 81 5 (([.int .i64 n]).map (Qav 0 4))) H00 1
 [(2,Qah.pure (.bool false) [])] 0 [] []) []=some (.bool false,
 [QaB []/\Qau Tryz.prog J0 76 #[.int .i64 n,.int .i64 0,.int .i64 300] (.bool false)]):=by kernel_rfl
set_option maxHeartbeats 4000000 in
theorem QtN (n:Int)  {B:Lo} (hJ:∀w,B.has w->J0 w):EndsT Tryz.prog B (Qal Tryz.prog 81 5 (([.int .i64 n]).map (Qav 0 4))) (.bool (inB n 0 300)):=by
 cases q0:inB n 0 300 with
 | true=>
   exact (GoE.endsT okF hJ Qac GoE.start (QrK B n)
    ⟨⟨trivial,(by have t_:=pIn (n) (0) (300);rw [q0] at t_;exact t_)⟩,trivial⟩).cast (by rfl)
 | false=>
   exact (GoE.endsT okF hJ Qac GoE.start (Qsc B n)
    ⟨⟨trivial,(by have t_:=pIn (n) (0) (300);rw [q0] at t_;exact t_)⟩,trivial⟩).cast (by rfl)
theorem QsS (n:Int)  :Qau Tryz.prog J0 81 #[.int .i64 n] (.bool (inB n 0 300)):=
 QaF (ts:=[.int .i64 n]) Qbw (c0:=Qal Tryz.prog 81 5 (([.int .i64 n]).map (Qav 0 4))) (by kernel_rfl) (by kernel_rfl) fun B hJ=> QtN n  hJ
end
end Go.Proofs.YtiabgkiccaodmaaGreat

namespace Go.Proofs.YtiabgkiccaodmaaGreat
open Go Go.CE Go.RowKit
noncomputable section
set_option maxRecDepth 100000
def QdO (things:Int):List Int->Int->Bool
 | [],_=> true
 | n::l,least=> inB n least (things - 1) && QdO things l (n+1)
def Qgn:List Int->Int
 | []=> 0
 | x::l=> x+Qgn l
theorem Qcy {things least i:Int} {l:List Int} (h0:0<=i) (h:i < l.length):QdO things (l.drop i.toNat) least=(inB (l.getD i.toNat default) least (things - 1) && QdO things (l.drop (i+1).toNat) (l.getD i.toNat default+1)):=by
 obtain ⟨k,rfl⟩:∃k:Nat,i=k:=⟨i.toNat,by omega⟩
 have hk:k < l.length:=by omega
 have e1:((k:Int)).toNat=k:=by omega
 have e2:((k:Int)+1).toNat=k+1:=by omega
 rw [e1,e2,List.drop_eq_getElem_cons hk]
 simp [QdO,List.getD_eq_getElem?_getD,hk]
theorem Qmc {things least i:Int} {l:List Int} (h:l.length<=i):QdO things (l.drop i.toNat) least=true:=by
 rw [List.drop_eq_nil_of_le (by omega)];rfl
theorem QyI {i:Int} {l:List Int} (h0:0<=i) (h:i < l.length):Qgn (l.drop i.toNat)=l.getD i.toNat default+Qgn (l.drop (i+1).toNat):=by
 obtain ⟨k,rfl⟩:∃k:Nat,i=k:=⟨i.toNat,by omega⟩
 have hk:k < l.length:=by omega
 have e1:((k:Int)).toNat=k:=by omega
 have e2:((k:Int)+1).toNat=k+1:=by omega
 rw [e1,e2,List.drop_eq_getElem_cons hk]
 simp [Qgn,List.getD_eq_getElem?_getD,hk]
theorem Q0V {i:Int} {l:List Int} (h:l.length<=i):Qgn (l.drop i.toNat)=0:=by
 rw [List.drop_eq_nil_of_le (by omega)];rfl
theorem QaI {α:Type} [Inhabited α] {l:List α} {i:Int} (h0:0<=i) (h:i < l.length):l.getD i.toNat default∈l:=by
 have hk:i.toNat < l.length:=by omega
 rw [List.getD_eq_getElem?_getD,List.getElem?_eq_getElem hk];exact List.getElem_mem hk
theorem Qjm {things:Int}:∀{l:List Int} {least:Int},QdO things l least=true->0<=least->∀x∈l,0<=x/\x < things
 | [],_,_,_,x,hx=> by simp at hx
 | n::l,least,h,h0,x,hx=> by
   simp only [QdO,Bool.and_eq_true,Qbn] at h
   rcases List.mem_cons.1 hx with rfl | hx
   ·omega
   ·exact Qjm h.2 (by omega) x hx
theorem Qjv {k:Nat} (hk:k<=61):∀(l:List Int) (s:Int),(∀x∈l,0<=x/\x < k)->0<=s->s < 2 ^ k->0<=Qbp l s/\Qbp l s < 2 ^ k
 | [],s,_,h0,h1=> ⟨h0,h1⟩
 | n::l,s,h,h0,h1=> by
   have hn:=h n (by simp)
   exact Qjv hk l (Qpl s n) (fun x hx=> h x (by simp [hx])) (Int.natCast_nonneg _) (Qv3 h0 h1 (by omega))
theorem Qm8 {s:Int} {k:Nat} (h0:0<=s) (h1:s < 2 ^ k):Qcv s<=k:=by
 unfold Qcv
 by_cases hs:s=0
 ·rw [if_pos hs];omega
 ·rw [if_neg hs]
  obtain ⟨b,rfl⟩:∃b:Nat,s=b:=⟨s.toNat,by omega⟩
  have hb:b≠0:=by omega
  have h2:b < 2 ^ k:=by
   have e:(2:Int) ^ k=((2 ^ k:Nat):Int):=by rw [Int.natCast_pow];rfl
   rw [e] at h1;exact_mod_cast h1
  have:=(Nat.log2_lt hb).2 h2
  rw [Int.toNat_natCast];omega
theorem QcO {α:Type} [Inhabited α] {s n:Int} {xs:List α} (hn:0<=n) (hx:Qcv s<=xs.length):∀x∈Qa5 s xs n,x∈xs:=by
 intro x h
 unfold Qa5 at h
 obtain ⟨k,hk,rfl⟩:=List.mem_map.1 h
 have hk:=(List.mem_filter.1 hk).1
 unfold upI at hk
 obtain ⟨j,hj,rfl⟩:=List.mem_map.1 hk
 have:=List.mem_range.1 hj
 exact QaI (by omega) (by omega)
theorem Qin {α:Type} [Inhabited α] {s n:Int} {xs:List α} (hn:0<=n):((Qa5 s xs n).length:Int)<=max 0 (Qcv s - n):=by
 unfold Qa5
 rw [List.length_map]
 have:=List.length_filter_le (Qk0 s) (upI n (Qcv s))
 have e:(upI n (Qcv s)).length=(Qcv s - n).toNat:=by simp [upI]
 omega
theorem Qas {s:Qaa} (h:QaD s=true):s.lots.length<=6/\∀l∈s.lots,Qnu s.stock.length l=true:=by
 simp only [QaD,Qqr,Bool.and_eq_true,decide_eq_true_iff,List.all_eq_true] at h
 exact ⟨h.2.2.2.2.2.1.1,h.2.2.2.2.2.1.2⟩
theorem Qd6 {k:Nat} {l:Qad} (h:Qnu k l=true):l.goods.length=k/\(∀g∈l.goods,0<=g.lo/\g.lo<=g.hi/\g.hi<=100000)/\0<=l.weight/\l.weight<=100000/\0<=l.cost/\l.cost<=1000000:=by
 simp only [Qnu,Qc5,Qb2,Bool.and_eq_true,decide_eq_true_iff,List.all_eq_true,Qbn] at h
 exact ⟨h.1,h.2.1,h.2.2.1.1,h.2.2.1.2,h.2.2.2.1,h.2.2.2.2⟩
def Qsf (s:Qaa) (load:Int):Bool:=decide (Qgn ((Qa5 load s.lots 0).map Qad.weight)<=s.hold)
def Qdy (s:Qaa) (load:List Int):Bool:=QdO s.lots.length load 0 && Qsf s (Qbp load 0)
def Qc1 (xs:List Int) (things:Int) (least i:Int):List Value:=[.int .i64 things,.int .i64 least,Qay 1 (slT xs.length (Qab Qag xs)),.int .i64 (↑xs.length:Int),.int .i64 i]
def Qbo (xs:List Int) (things:Int) (least i:Int):List Obj:=[]
def Qcx:List Item:=([.code [1,1,0,1,0,0],.inLoop [1,1,0,1,0,0],.inBlock 0,.code [1,1,1]]).map (it (Qaq Tryz.prog 115))
def QmY (B:Lo) (c0:CF) (xs:List Int) (things:Int) (least i:Int):Prop:=∃dJ:Nat->Value,(∀t,QaP (dJ t))/\GoE Tryz.prog B c0 H00 1 (Qa2 115 23 (([1,5,8,9,10]:List Nat).zip (Qc1 xs things least i)) dJ Qcx) (Qaz (Qbo xs things least i)) (2+(Qbo xs things least i).length) []
def Qfo (B:Lo) (xs:List Int) (things:Int) (least i:Int) (dJ0:Nat->Value):List Prop:=[wq (things - 1)=things - 1,i=(↑i.toNat:Int)/\Int.toNat i < List.length xs/\Array.extract (Qab Qag xs) (Int.toNat i * TypeInfo.size Tryz.t3) (Int.toNat i * TypeInfo.size Tryz.t3+TypeInfo.size Tryz.t3)=#[.int .i64 (xs.getD i.toNat default)],ltq i (↑xs.length:Int)=true]++([]:List Prop)
def Qh6 (xs:List Int) (things:Int) (least i:Int) (dJ0:Nat->Value):Qa7:=[(0,hvT),(1,Qah.tidx i.toNat #[.int .i64 (xs.getD i.toNat default)]),(7,hvI (things - 1))]
theorem Qns (B:Lo) (xs:List Int) (things:Int) (least i:Int) (dJ0:Nat->Value):landM (Qan Tryz.prog (Qa6 Tryz.prog) J0 B 18 1 (Qa2 115 23 (([1,5,8,9,10]:List Nat).zip (Qc1 xs things least i)) dJ0 Qcx) (Qaz (Qbo xs things least i)) (2+(Qbo xs things least i).length)
 (Qh6 xs things least i dJ0++[(8,Qah.pure (.bool true) []),(11,hvI (xs.getD i.toNat default+1)),(13,hvI (i+1))]) 0 [] []) [1,5,8,9,10] [] []=some ⟨115,23,Qcx,[],.run,none,Qc1 xs things (xs.getD i.toNat default+1) (i+1),Qbo xs things (xs.getD i.toNat default+1) (i+1),
 [wq (i+1)=i+1,wq (xs.getD i.toNat default+1)=xs.getD i.toNat default+1,QaB []/\Qau Tryz.prog J0 76 #[.int .i64 (xs.getD i.toNat default),.int .i64 least,.int .i64 (things - 1)] (.bool true)]++Qfo B xs things least i dJ0⟩:=by kernel_rfl
theorem Qnl (B:Lo) (xs:List Int) (things:Int) (least i:Int) (dJ0:Nat->Value):Qbe (Qan Tryz.prog (Qa6 Tryz.prog) J0 B 17 1 (Qa2 115 23 (([1,5,8,9,10]:List Nat).zip (Qc1 xs things least i)) dJ0 Qcx) (Qaz (Qbo xs things least i)) (2+(Qbo xs things least i).length)
 (Qh6 xs things least i dJ0++[(8,Qah.pure (.bool false) [])]) 0 [] []) []=some (.bool false,
 [QaB []/\Qau Tryz.prog J0 76 #[.int .i64 (xs.getD i.toNat default),.int .i64 least,.int .i64 (things - 1)] (.bool false)]++Qfo B xs things least i dJ0):=by kernel_rfl
theorem QmZ (B:Lo) (xs:List Int) (things:Int) (least i:Int) (dJ0:Nat->Value):Qbe (Qan Tryz.prog (Qa6 Tryz.prog) J0 B 9 1 (Qa2 115 23 (([1,5,8,9,10]:List Nat).zip (Qc1 xs things least i)) dJ0 Qcx) (Qaz (Qbo xs things least i)) (2+(Qbo xs things least i).length)
 [(0,hvF)] 0 [] []) []=some (.bool true,
 [ltq i (↑xs.length:Int)=false]):=by kernel_rfl
theorem Qnp (B:Lo) (xs:List Int) (things:Int):landM (Qan Tryz.prog (Qa6 Tryz.prog) J0 B 9 1 (Qal Tryz.prog 115 23 (([slI xs,.int .i64 things]).map (Qav 0 4))) H00 1
 [] 0 [] []) [1,5,8,9,10] [] []=some ⟨115,23,Qcx,[],.run,none,Qc1 xs things (0) (0),Qbo xs things (0) (0),
 []⟩:=by kernel_rfl
set_option maxHeartbeats 4000000 in
theorem Qna (xs:List Int) (things:Int) (ht0:0<=things/\things<=1000000) (hfacts:xs.length<=9223372036854775807) {B:Lo} (hJ:∀w,B.has w->J0 w) {c0:CF}:∀m:Nat,(∀(least i:Int),xs.length - i.toNat=m->∀(h0:0<=i) (h1:0<=least/\least<=1000000),QmY B c0 xs things least i->EndsT Tryz.prog B c0 (.bool (QdO things (xs.drop i.toNat) least))):=by
 intro m0
 induction m0 using Nat.strongRecOn with
 | _ m0 ih0=>
   intro least i hm0 h0 h1 ⟨dJ0,hdJ0,hg0⟩
   by_cases q0:(i:Int) < ((↑xs.length:Int))
   ·
    have hp0:QaB (Qfo B xs things least i dJ0):=by
     have s2:=Qcy (things:=things) (least:=least) (l:=xs) h0 q0
     exact ⟨(QaM (by omega) (by omega)),⟨⟨by omega,by omega,(Qae (z:=1) (fun _=> rfl) (by omega))⟩,⟨(QaW q0),trivial⟩⟩⟩
    cases q1:inB (xs.getD i.toNat default) least (things - 1) with
    | true=>
      have s2:=Qcy (things:=things) (least:=least) (l:=xs) h0 q0
      have g1:=Qbn.1 ‹inB _ least _=true›
      exact ((ih0 _ (by omega)) (xs.getD i.toNat default+1) (i+1) rfl (by omega) (by omega)
       (hg0.landM okF hJ Qac (Qns B xs things least i dJ0)
       ⟨(QaM (by omega) (by omega)),⟨(QaM (by omega) (by omega)),⟨⟨trivial,(by have t_:=pIn (xs.getD i.toNat default) (least) (things - 1);rw [q1] at t_;exact t_)⟩,hp0⟩⟩⟩ (by kernel_rfl) (by kernel_rfl))).cast (by (rw [s2];simp_all;done))
    | false=>
      have s2:=Qcy (things:=things) (least:=least) (l:=xs) h0 q0
      exact (GoE.endsT okF hJ Qac hg0 (Qnl B xs things least i dJ0)
       ⟨⟨trivial,(by have t_:=pIn (xs.getD i.toNat default) (least) (things - 1);rw [q1] at t_;exact t_)⟩,hp0⟩).cast (by (rw [s2];simp_all;done))
   ·
    have s2:=Qmc (things:=things) (least:=least) (l:=xs) (i:=i) (by omega)
    exact (GoE.endsT okF hJ Qac hg0 (QmZ B xs things least i dJ0)
     ⟨(Qbb (Int.not_lt.1 q0)),trivial⟩).cast (by (rw [s2];done))
set_option maxHeartbeats 4000000 in
theorem Qpg (xs:List Int) (things:Int) (ht0:0<=things/\things<=1000000) (hfacts:xs.length<=9223372036854775807) {B:Lo} (hJ:∀w,B.has w->J0 w):EndsT Tryz.prog B (Qal Tryz.prog 115 23 (([slI xs,.int .i64 things]).map (Qav 0 4))) (.bool (QdO things xs 0)):=by
 exact ((Qna xs things ht0 hfacts hJ _) (0) (0) rfl (by omega) (by omega)
  (GoE.start.landM okF hJ Qac (Qnp B xs things)
  trivial (by kernel_rfl) (by kernel_rfl))).cast (by rfl)
theorem QkV (xs:List Int) (things:Int) (ht0:0<=things/\things<=1000000):Qau Tryz.prog J0 115 #[slI xs,.int .i64 things] (.bool (QdO things xs 0)):=
 QcY (ts:=[slI xs,.int .i64 things]) (xs.length<=9223372036854775807) (fun _ _ ht=> ht.ln (i:=0) rfl) Qbw (c0:=Qal Tryz.prog 115 23 (([slI xs,.int .i64 things]).map (Qav 0 4))) (by kernel_rfl) (by kernel_rfl) fun hfacts B hJ=> Qpg xs things ht0 hfacts hJ
def Qmh (xs:List Int) (acc i:Int):List Value:=[.int .i64 acc,Qay 1 (slT xs.length (Qab Qag xs)),.int .i64 (↑xs.length:Int),.int .i64 i]
def QgZ (xs:List Int) (acc i:Int):List Obj:=[]
def Qm3:List Item:=([.code [1,1,0,1,0,0],.inLoop [1,1,0,1,0,0],.inBlock 0,.code [1,1,1]]).map (it (Qaq Tryz.prog 124))
def Q3e (B:Lo) (c0:CF) (xs:List Int) (acc i:Int):Prop:=∃dJ:Nat->Value,(∀t,QaP (dJ t))/\GoE Tryz.prog B c0 H00 1 (Qa2 124 17 (([3,6,7,8]:List Nat).zip (Qmh xs acc i)) dJ Qm3) (Qaz (QgZ xs acc i)) (2+(QgZ xs acc i).length) []
theorem Q24 (B:Lo) (xs:List Int) (acc i:Int) (dJ0:Nat->Value):landM (Qan Tryz.prog (Qa6 Tryz.prog) J0 B 13 1 (Qa2 124 17 (([3,6,7,8]:List Nat).zip (Qmh xs acc i)) dJ0 Qm3) (Qaz (QgZ xs acc i)) (2+(QgZ xs acc i).length)
 [(0,hvT),(1,Qah.tidx i.toNat #[.int .i64 (xs.getD i.toNat default)]),(6,hvI (acc+xs.getD i.toNat default)),(8,hvI (i+1))] 0 [] []) [3,6,7,8] [] []=some ⟨124,17,Qm3,[],.run,none,Qmh xs (acc+xs.getD i.toNat default) (i+1),QgZ xs (acc+xs.getD i.toNat default) (i+1),
 [wq (i+1)=i+1,wq (acc+xs.getD i.toNat default)=acc+xs.getD i.toNat default,i=(↑i.toNat:Int)/\Int.toNat i < List.length xs/\Array.extract (Qab Qag xs) (Int.toNat i * TypeInfo.size Tryz.t3) (Int.toNat i * TypeInfo.size Tryz.t3+TypeInfo.size Tryz.t3)=#[.int .i64 (xs.getD i.toNat default)],ltq i (↑xs.length:Int)=true]⟩:=by kernel_rfl
theorem Q2R (B:Lo) (xs:List Int) (acc i:Int) (dJ0:Nat->Value):Qbe (Qan Tryz.prog (Qa6 Tryz.prog) J0 B 9 1 (Qa2 124 17 (([3,6,7,8]:List Nat).zip (Qmh xs acc i)) dJ0 Qm3) (Qaz (QgZ xs acc i)) (2+(QgZ xs acc i).length)
 [(0,hvF)] 0 [] []) []=some (.int .i64 acc,
 [ltq i (↑xs.length:Int)=false]):=by kernel_rfl
theorem Q36 (B:Lo) (xs:List Int):landM (Qan Tryz.prog (Qa6 Tryz.prog) J0 B 9 1 (Qal Tryz.prog 124 17 (([slI xs]).map (Qav 0 4))) H00 1
 [] 0 [] []) [3,6,7,8] [] []=some ⟨124,17,Qm3,[],.run,none,Qmh xs (0) (0),QgZ xs (0) (0),
 []⟩:=by kernel_rfl
set_option maxHeartbeats 4000000 in
theorem Q3B (xs:List Int) (hx:∀x∈xs,-1000000000<=x/\x<=1000000000) (hl:xs.length<=1000) {B:Lo} (hJ:∀w,B.has w->J0 w) {c0:CF}:∀m:Nat,(∀(acc i:Int),xs.length - i.toNat=m->∀(h0:0<=i) (h1: -1000000000 * i<=acc/\acc<=1000000000 * i),Q3e B c0 xs acc i->EndsT Tryz.prog B c0 (.int .i64 (acc+Qgn (xs.drop i.toNat)))):=by
 intro m0
 induction m0 using Nat.strongRecOn with
 | _ m0 ih0=>
   intro acc i hm0 h0 h1 ⟨dJ0,hdJ0,hg0⟩
   by_cases q0:(i:Int) < ((↑xs.length:Int))
   ·
    have s2:=QyI (l:=xs) h0 q0
    have g1:=hx _ (QaI h0 q0)
    exact ((ih0 _ (by omega)) (acc+xs.getD i.toNat default) (i+1) rfl (by omega) (by omega)
     (hg0.landM okF hJ Qac (Q24 B xs acc i dJ0)
     ⟨(QaM (by omega) (by omega)),⟨(QaM (by omega) (by omega)),⟨⟨by omega,by omega,(Qae (z:=1) (fun _=> rfl) (by omega))⟩,⟨(QaW q0),trivial⟩⟩⟩⟩ (by kernel_rfl) (by kernel_rfl))).cast (by (rw [s2,Int.add_assoc];done))
   ·
    have s2:=Q0V (l:=xs) (i:=i) (by omega)
    exact (GoE.endsT okF hJ Qac hg0 (Q2R B xs acc i dJ0)
     ⟨(Qbb (Int.not_lt.1 q0)),trivial⟩).cast (by (rw [s2];simp;done))
set_option maxHeartbeats 4000000 in
theorem Q3V (xs:List Int) (hx:∀x∈xs,-1000000000<=x/\x<=1000000000) (hl:xs.length<=1000) {B:Lo} (hJ:∀w,B.has w->J0 w):EndsT Tryz.prog B (Qal Tryz.prog 124 17 (([slI xs]).map (Qav 0 4))) (.int .i64 (Qgn xs)):=by
 exact ((Q3B xs hx hl hJ _) (0) (0) rfl (by omega) (by omega)
  (GoE.start.landM okF hJ Qac (Q36 B xs)
  trivial (by kernel_rfl) (by kernel_rfl))).cast (by (simp [*];done))
theorem Q5P (xs:List Int) (hx:∀x∈xs,-1000000000<=x/\x<=1000000000) (hl:xs.length<=1000):Qau Tryz.prog J0 124 #[slI xs] (.int .i64 (Qgn xs)):=
 QaF (ts:=[slI xs]) Qbw (c0:=Qal Tryz.prog 124 17 (([slI xs]).map (Qav 0 4))) (by kernel_rfl) (by kernel_rfl) fun B hJ=> Q3V xs hx hl hJ
def QnR (B:Lo) (s:Qaa) (load:Int):List Prop:=[QaB []/\Qau Tryz.prog J0 124 #[slT (List.length (List.map Qad.weight (Qa5 load s.lots 0))) (Qab Qag (List.map Qad.weight (Qa5 load s.lots 0)))] (.int .i64 (Qgn (List.map Qad.weight (Qa5 load s.lots 0)))),QaB []/\Qau Tryz.prog J0 92 #[slT (List.length (Qa5 load s.lots 0)) (Qab Qao (Qa5 load s.lots 0)),Value.func (Fn.func 140) #[] #[]] (slT (List.length (List.map Qad.weight (Qa5 load s.lots 0))) (Qab Qag (List.map Qad.weight (Qa5 load s.lots 0)))),QaB []/\Qau Tryz.prog J0 139 #[.int .i64 load,slT s.lots.length (Qab Qao s.lots)] (slT (List.length (Qa5 load s.lots 0)) (Qab Qao (Qa5 load s.lots 0)))]++([]:List Prop)
def Qti (s:Qaa) (load:Int):Qa7:=[(5,Qah.pure (slT (List.length (Qa5 load s.lots 0)) (Qab Qao (Qa5 load s.lots 0))) []),(6,Qah.pure (slT (List.length (List.map Qad.weight (Qa5 load s.lots 0))) (Qab Qag (List.map Qad.weight (Qa5 load s.lots 0)))) []),(9,Qah.pure (.int .i64 (Qgn (List.map Qad.weight (Qa5 load s.lots 0)))) [])]
theorem Q1Q (B:Lo) (s:Qaa) (load:Int):Qbe (Qan Tryz.prog (Qa6 Tryz.prog) J0 B 8 1 (Qal Tryz.prog 96 16 (([.agg (Qap s).toArray,.int .i64 load]).map (Qav 0 4))) H00 1
 (Qti s load++[(12,hvT)]) 0 [] []) []=some (.bool true,
 [(!ltq s.hold (Qgn (List.map Qad.weight (Qa5 load s.lots 0))))=true]++QnR B s load):=by kernel_rfl
theorem Q1s (B:Lo) (s:Qaa) (load:Int):Qbe (Qan Tryz.prog (Qa6 Tryz.prog) J0 B 8 1 (Qal Tryz.prog 96 16 (([.agg (Qap s).toArray,.int .i64 load]).map (Qav 0 4))) H00 1
 (Qti s load++[(12,hvF)]) 0 [] []) []=some (.bool false,
 [(!ltq s.hold (Qgn (List.map Qad.weight (Qa5 load s.lots 0))))=false]++QnR B s load):=by kernel_rfl
set_option maxHeartbeats 4000000 in
theorem Q2E (s:Qaa) (load:Int) (hs:QaD s=true) (h0:0<=load) (h1:load < 64) (hx:Qcv load<=s.lots.length) {B:Lo} (hJ:∀w,B.has w->J0 w):EndsT Tryz.prog B (Qal Tryz.prog 96 16 (([.agg (Qap s).toArray,.int .i64 load]).map (Qav 0 4))) (.bool (Qsf s load)):=by
 have hm:=Qas hs
 have hw:∀x∈(Qa5 load s.lots 0).map Qad.weight,-1000000000<=x/\x<=1000000000:=fun x h=> by obtain ⟨l,hl,rfl⟩:=List.mem_map.1 h;have:=Qd6 (hm.2 l (QcO (Int.le_refl _) hx l hl));omega
 have hll:=Qin (s:=load) (n:=0) (xs:=s.lots) (Int.le_refl _)
 have hw2:((Qa5 load s.lots 0).map Qad.weight).length<=1000:=by rw [List.length_map];omega
 have hp0:QaB (QnR B s load):=by
  exact ⟨⟨trivial,Q5P (List.map Qad.weight (Qa5 load s.lots 0)) (by with_reducible assumption) (by with_reducible assumption)⟩,⟨⟨trivial,Q3T (Qa5 load s.lots 0) (by omega)⟩,⟨⟨trivial,Q4p (load) s.lots (by with_reducible assumption) (by with_reducible assumption) (by with_reducible assumption)⟩,trivial⟩⟩⟩
 by_cases q0:(Qgn (List.map Qad.weight (Qa5 load s.lots 0)):Int)<=s.hold
 ·
  exact (GoE.endsT okF hJ Qac GoE.start (Q1Q B s load)
   ⟨(Qdu q0),hp0⟩).cast (by (simp [Qsf, *];done))
 ·
  exact (GoE.endsT okF hJ Qac GoE.start (Q1s B s load)
   ⟨(Qdn (Int.not_le.1 q0)),hp0⟩).cast (by (simp [Qsf, *];done))
theorem Q41 (s:Qaa) (load:Int) (hs:QaD s=true) (h0:0<=load) (h1:load < 64) (hx:Qcv load<=s.lots.length):Qau Tryz.prog J0 96 #[.agg (Qap s).toArray,.int .i64 load] (.bool (Qsf s load)):=
 QaF (ts:=[.agg (Qap s).toArray,.int .i64 load]) Qbw (c0:=Qal Tryz.prog 96 16 (([.agg (Qap s).toArray,.int .i64 load]).map (Qav 0 4))) (by kernel_rfl) (by kernel_rfl) fun B hJ=> Q2E s load hs h0 h1 hx hJ
def Qjz (B:Lo) (s:Qaa) (load:List Int):List Prop:=[QaB []/\Qau Tryz.prog J0 116 #[slT load.length (Qab Qag load)] (.int .i64 (Qbp load 0)),QaB []/\Qau Tryz.prog J0 115 #[slT load.length (Qab Qag load),.int .i64 (↑s.lots.length:Int)] (.bool true)]++([]:List Prop)
def QnN (s:Qaa) (load:List Int):Qa7:=[(6,Qah.pure (.bool true) []),(10,Qah.pure (.int .i64 (Qbp load 0)) [])]
theorem Qu1 (B:Lo) (s:Qaa) (load:List Int):Qbe (Qan Tryz.prog (Qa6 Tryz.prog) J0 B 6 1 (Qal Tryz.prog 80 16 (([.agg (Qap s).toArray,slI load]).map (Qav 0 4))) H00 1
 (QnN s load++[(11,Qah.pure (.bool true) [])]) 0 [] []) []=some (.bool true,
 [QaB []/\Qau Tryz.prog J0 96 #[.agg #[slT s.stock.length (Qab Qag s.stock),slT s.use.length (Qab Qa3 s.use),.int .i64 s.glo,.int .i64 s.ghi,slT s.lots.length (Qab Qao s.lots),.int .i64 s.hold],.int .i64 (Qbp load 0)] (.bool true)]++Qjz B s load):=by kernel_rfl
theorem QuO (B:Lo) (s:Qaa) (load:List Int):Qbe (Qan Tryz.prog (Qa6 Tryz.prog) J0 B 6 1 (Qal Tryz.prog 80 16 (([.agg (Qap s).toArray,slI load]).map (Qav 0 4))) H00 1
 (QnN s load++[(11,Qah.pure (.bool false) [])]) 0 [] []) []=some (.bool false,
 [QaB []/\Qau Tryz.prog J0 96 #[.agg #[slT s.stock.length (Qab Qag s.stock),slT s.use.length (Qab Qa3 s.use),.int .i64 s.glo,.int .i64 s.ghi,slT s.lots.length (Qab Qao s.lots),.int .i64 s.hold],.int .i64 (Qbp load 0)] (.bool false)]++Qjz B s load):=by kernel_rfl
theorem Qvf (B:Lo) (s:Qaa) (load:List Int):Qbe (Qan Tryz.prog (Qa6 Tryz.prog) J0 B 6 1 (Qal Tryz.prog 80 16 (([.agg (Qap s).toArray,slI load]).map (Qav 0 4))) H00 1
 [(6,Qah.pure (.bool false) [])] 0 [] []) []=some (.bool false,
 [QaB []/\Qau Tryz.prog J0 115 #[slT load.length (Qab Qag load),.int .i64 (↑s.lots.length:Int)] (.bool false)]):=by kernel_rfl
set_option maxHeartbeats 4000000 in
theorem Qxq (s:Qaa) (load:List Int) (hs:QaD s=true) {B:Lo} (hJ:∀w,B.has w->J0 w):EndsT Tryz.prog B (Qal Tryz.prog 80 16 (([.agg (Qap s).toArray,slI load]).map (Qav 0 4))) (.bool (Qdy s load)):=by
 have hm:=Qas hs
 cases q0:QdO (↑s.lots.length:Int) load 0 with
 | true=>
   have hp0:QaB (Qjz B s load):=by
    have g1:=Qjm ‹QdO s.lots.length load 0=true› (Int.le_refl 0)
    have g2:∀x∈load,0<=x/\x<=61:=fun x h=> by have:=g1 x h;omega
    have g3:=Qjv (k:=s.lots.length) (by omega) load 0 g1 (Int.le_refl 0) (Int.pow_pos (by decide))
    have g4:Qbp load 0 < 64:=Int.lt_of_lt_of_le g3.2 (by have:(2:Nat) ^ s.lots.length<=2 ^ 6:=Nat.pow_le_pow_right (by decide) (by omega);have e:(2:Int) ^ s.lots.length=((2 ^ s.lots.length:Nat):Int):=by {rw [Int.natCast_pow];rfl};rw [e];omega)
    have g5:=Qm8 g3.1 g3.2
    have g6:=g3.1
    exact ⟨⟨trivial,pOf (load) (by with_reducible assumption)⟩,⟨⟨trivial,(by have t_:=QkV (load) ((↑s.lots.length:Int)) (by omega);rw [q0] at t_;exact t_)⟩,trivial⟩⟩
   cases q1:Qsf s (Qbp load 0) with
   | true=>
     have g1:=Qjm ‹QdO s.lots.length load 0=true› (Int.le_refl 0)
     have g2:∀x∈load,0<=x/\x<=61:=fun x h=> by have:=g1 x h;omega
     have g3:=Qjv (k:=s.lots.length) (by omega) load 0 g1 (Int.le_refl 0) (Int.pow_pos (by decide))
     have g4:Qbp load 0 < 64:=Int.lt_of_lt_of_le g3.2 (by have:(2:Nat) ^ s.lots.length<=2 ^ 6:=Nat.pow_le_pow_right (by decide) (by omega);have e:(2:Int) ^ s.lots.length=((2 ^ s.lots.length:Nat):Int):=by {rw [Int.natCast_pow];rfl};rw [e];omega)
     have g5:=Qm8 g3.1 g3.2
     have g6:=g3.1
     exact (GoE.endsT okF hJ Qac GoE.start (Qu1 B s load)
      ⟨⟨trivial,(by have t_:=Q41 (s) (Qbp load 0) (by with_reducible assumption) (by with_reducible assumption) (by with_reducible assumption) (by with_reducible assumption);rw [q1] at t_;exact t_)⟩,hp0⟩).cast (by (simp [Qdy, *];done))
   | false=>
     have g1:=Qjm ‹QdO s.lots.length load 0=true› (Int.le_refl 0)
     have g2:∀x∈load,0<=x/\x<=61:=fun x h=> by have:=g1 x h;omega
     have g3:=Qjv (k:=s.lots.length) (by omega) load 0 g1 (Int.le_refl 0) (Int.pow_pos (by decide))
     have g4:Qbp load 0 < 64:=Int.lt_of_lt_of_le g3.2 (by have:(2:Nat) ^ s.lots.length<=2 ^ 6:=Nat.pow_le_pow_right (by decide) (by omega);have e:(2:Int) ^ s.lots.length=((2 ^ s.lots.length:Nat):Int):=by {rw [Int.natCast_pow];rfl};rw [e];omega)
     have g5:=Qm8 g3.1 g3.2
     have g6:=g3.1
     exact (GoE.endsT okF hJ Qac GoE.start (QuO B s load)
      ⟨⟨trivial,(by have t_:=Q41 (s) (Qbp load 0) (by with_reducible assumption) (by with_reducible assumption) (by with_reducible assumption) (by with_reducible assumption);rw [q1] at t_;exact t_)⟩,hp0⟩).cast (by (simp [Qdy, *];done))
 | false=>
   exact (GoE.endsT okF hJ Qac GoE.start (Qvf B s load)
    ⟨⟨trivial,(by have t_:=QkV (load) ((↑s.lots.length:Int)) (by omega);rw [q0] at t_;exact t_)⟩,trivial⟩).cast (by (simp [Qdy, *];done))
theorem QxK (s:Qaa) (load:List Int) (hs:QaD s=true):Qau Tryz.prog J0 80 #[.agg (Qap s).toArray,slI load] (.bool (Qdy s load)):=
 QaF (ts:=[.agg (Qap s).toArray,slI load]) Qbw (c0:=Qal Tryz.prog 80 16 (([.agg (Qap s).toArray,slI load]).map (Qav 0 4))) (by kernel_rfl) (by kernel_rfl) fun B hJ=> Qxq s load hs hJ
end
end Go.Proofs.YtiabgkiccaodmaaGreat

namespace Go.Proofs.YtiabgkiccaodmaaGreat
open Go Go.CE Go.RowKit
set_option maxRecDepth 100000
structure Qar where
 uses:List Int
 gaps:List Int
 goods:List Row
deriving Inhabited
abbrev slR (xs:List Row):Value:=slT xs.length (Qab Qax xs)
def QaA (t:Qar):List Value:=[slI t.uses,slI t.gaps,slR t.goods]
def Q5D (ns:List Int) (ss:List Span) (i:Int):Bool:=(upI i ns.length).all fun k=> inB (ns.getD k.toNat default) (ss.getD k.toNat default).lo (ss.getD k.toNat default).hi
def QfJ (ns:List Int) (ss:List Span):Bool:=decide (ns.length=ss.length) && Q5D ns ss 0
def Q5M (s:Qaa) (all:List Row) (i:Int):Bool:=(upI i s.lots.length).all fun k=> QfJ (all.getD k.toNat default) (s.lots.getD k.toNat default).goods
def QpG (s:Qaa) (all:List Row):Bool:=decide (all.length=s.lots.length) && Q5M s all 0
def Qnk (s:Qaa) (days:Int) (gaps:List Int):Bool:=decide (gaps.length<=300) && (gaps.all (fun x=> inB x s.glo s.ghi) && decide (days<=Qgn gaps))
def Qdq (s:Qaa) (days:Int) (t:Qar):Bool:=QfJ t.uses s.use && (Qnk s days t.gaps && QpG s t.goods)
theorem Qa0 {s:Qaa} (h:QaD s=true):1<=s.glo/\s.glo<=s.ghi/\s.ghi<=60:=by
 simp only [QaD,Qb2,Bool.and_eq_true,decide_eq_true_iff] at h
 exact ⟨h.2.2.2.2.1.1,h.2.2.2.2.1.2.1,h.2.2.2.2.1.2.2⟩
end Go.Proofs.YtiabgkiccaodmaaGreat

namespace Go.Proofs.YtiabgkiccaodmaaGreat
open Go Go.CE Go.RowKit
set_option maxRecDepth 100000
def QaH (s:Qaa) (load days:Int):List Value:=Qap s++[.int .i64 load,.int .i64 days]
def Qgh (days:Int):List Int->Int->List Bool->List Bool
 | [],_,bs=> bs
 | g::l,day,bs=> Qgh days l (day+g) (bif decide (day+g < days) then bs.set (day+g).toNat true else bs)
theorem Qj3 {days:Int}:∀(l:List Int) (day:Int) (bs:List Bool),(Qgh days l day bs).length=bs.length
 | [],_,_=> rfl
 | g::l,day,bs=> by
   simp only [Qgh];rw [Qj3 l]
   cases decide (day+g < days) <;> simp
theorem QhR {days day:Int} {l:List Int} {i:Int} {bs:List Bool} (h0:0<=i) (h:i < l.length):Qgh days (l.drop i.toNat) day bs=Qgh days (l.drop (i+1).toNat) (day+l.getD i.toNat default) (bif decide (day+l.getD i.toNat default < days) then bs.set (day+l.getD i.toNat default).toNat true else bs):=by
 obtain ⟨k,rfl⟩:∃k:Nat,i=k:=⟨i.toNat,by omega⟩
 have hk:k < l.length:=by omega
 have e1:((k:Int)).toNat=k:=by omega
 have e2:((k:Int)+1).toNat=k+1:=by omega
 rw [e1,e2,List.drop_eq_getElem_cons hk]
 simp [Qgh,List.getD_eq_getElem?_getD,hk]
theorem QtS {days day:Int} {l:List Int} {i:Int} {bs:List Bool} (h:l.length<=i):Qgh days (l.drop i.toNat) day bs=bs:=by
 rw [List.drop_eq_nil_of_le (by omega)];rfl
def Qdx (days:Int) (gaps:List Int):List Bool:=Qgh days gaps 0 (List.replicate days.toNat false)
theorem QpM (B:Lo) (s:Qaa) (load:List Int) (days:Int):Qbe (Qan Tryz.prog (Qa6 Tryz.prog) J0 B 6 1 (Qal Tryz.prog 83 12 (([.agg (Qap s).toArray,slI load,.int .i64 days]).map (Qav 0 4))) H00 1
 [(4,Qah.pure (.int .i64 (Qbp load 0)) [])] 0 [] []) []=some (.agg #[slT s.stock.length (Qab Qag s.stock),slT s.use.length (Qab Qa3 s.use),.int .i64 s.glo,.int .i64 s.ghi,slT s.lots.length (Qab Qao s.lots),.int .i64 s.hold,.int .i64 (Qbp load 0),.int .i64 days],
 [QaB []/\Qau Tryz.prog J0 116 #[slT load.length (Qab Qag load)] (.int .i64 (Qbp load 0))]):=by kernel_rfl
set_option maxHeartbeats 4000000 in
theorem QrV (s:Qaa) (load:List Int) (days:Int) (hx:∀x∈load,0<=x/\x<=61) {B:Lo} (hJ:∀w,B.has w->J0 w):EndsT Tryz.prog B (Qal Tryz.prog 83 12 (([.agg (Qap s).toArray,slI load,.int .i64 days]).map (Qav 0 4))) (.agg (QaH s (Qbp load 0) days).toArray):=by
 exact (GoE.endsT okF hJ Qac GoE.start (QpM B s load days)
  ⟨⟨trivial,pOf (load) (by with_reducible assumption)⟩,trivial⟩).cast (by rfl)
theorem Qxv (s:Qaa) (load:List Int) (days:Int) (hx:∀x∈load,0<=x/\x<=61):Qau Tryz.prog J0 83 #[.agg (Qap s).toArray,slI load,.int .i64 days] (.agg (QaH s (Qbp load 0) days).toArray):=
 QaF (ts:=[.agg (Qap s).toArray,slI load,.int .i64 days]) Qbw (c0:=Qal Tryz.prog 83 12 (([.agg (Qap s).toArray,slI load,.int .i64 days]).map (Qav 0 4))) (by kernel_rfl) (by kernel_rfl) fun B hJ=> QrV s load days hx hJ
def QeM (s:Qaa) (load days:Int) (gaps:List Int) (day i:Int) (bs:List Bool):List Value:=[pA 2 0,.slice (some {block:=3,off:=0}) days.toNat 1,.int .i64 day,Qay 1 (slT gaps.length (Qab Qag gaps)),.int .i64 (↑gaps.length:Int),.int .i64 i]
def QcM (s:Qaa) (load days:Int) (gaps:List Int) (day i:Int) (bs:List Bool):List Obj:=[Obj.cells #[Qay 1 (slT s.stock.length (Qab Qag s.stock)),Qay 1 (slT s.use.length (Qab Qa3 s.use)),.int .i64 s.glo,.int .i64 s.ghi,Qay 1 (slT s.lots.length (Qab Qao s.lots)),.int .i64 s.hold,.int .i64 load,.int .i64 days] 122,.cells (Qab Qgm bs) 4 (0,0)]
noncomputable def QeN:List Item:=([.code [1,1,1,0,1,0,0],.inLoop [1,1,1,0,1,0,0],.inBlock 0,.code [1,1,1,1]]).map (it (Qaq Tryz.prog 120))
def Qxh (B:Lo) (c0:CF) (s:Qaa) (load days:Int) (gaps:List Int) (day i:Int) (bs:List Bool):Prop:=∃dJ:Nat->Value,(∀t,QaP (dJ t))/\GoE Tryz.prog B c0 H00 1 (Qa2 120 30 (([2,5,6,12,13,14]:List Nat).zip (QeM s load days gaps day i bs)) dJ QeN) (Qaz (QcM s load days gaps day i bs)) (2+(QcM s load days gaps day i bs).length) []
noncomputable def Qmx (B:Lo) (s:Qaa) (load days:Int) (gaps:List Int) (day i:Int) (bs:List Bool) (dJ0:Nat->Value):List Prop:=[wq (day+gaps.getD i.toNat default)=day+gaps.getD i.toNat default,i=(↑i.toNat:Int)/\Int.toNat i < List.length gaps/\Array.extract (Qab Qag gaps) (Int.toNat i * TypeInfo.size Tryz.t3) (Int.toNat i * TypeInfo.size Tryz.t3+TypeInfo.size Tryz.t3)=#[.int .i64 (gaps.getD i.toNat default)],ltq i (↑gaps.length:Int)=true]++([]:List Prop)
noncomputable def Qqa (s:Qaa) (load days:Int) (gaps:List Int) (day i:Int) (bs:List Bool) (dJ0:Nat->Value):Qa7:=[(0,hvT),(1,Qah.tidx i.toNat #[.int .i64 (gaps.getD i.toNat default)]),(6,hvI (day+gaps.getD i.toNat default))]
theorem Qys (B:Lo) (s:Qaa) (load days:Int) (gaps:List Int) (day i:Int) (bs:List Bool) (dJ0:Nat->Value):landM (Qan Tryz.prog (Qa6 Tryz.prog) J0 B 18 1 (Qa2 120 30 (([2,5,6,12,13,14]:List Nat).zip (QeM s load days gaps day i bs)) dJ0 QeN) (Qaz (QcM s load days gaps day i bs)) (2+(QcM s load days gaps day i bs).length)
 (Qqa s load days gaps day i bs dJ0++[(11,hvT),(14,Qah.old (Hint.idx (Int.toNat (day+gaps.getD i.toNat default)))),(15,Qah.old (Hint.st (Qab Qgm (List.set bs (Int.toNat (day+gaps.getD i.toNat default)) true)))),(16,hvI (i+1))]) 0 [] []) [2,5,6,12,13,14] [(2,KS.auto),(3,KS.cells [] (Qab Qgm (List.set bs (Int.toNat (day+gaps.getD i.toNat default)) true)))] []=some ⟨120,30,QeN,[],.run,none,QeM s load days gaps (day+gaps.getD i.toNat default) (i+1) (List.set bs (Int.toNat (day+gaps.getD i.toNat default)) true),QcM s load days gaps (day+gaps.getD i.toNat default) (i+1) (List.set bs (Int.toNat (day+gaps.getD i.toNat default)) true),
 [Qa8 1 [] (Qab Qgm (List.set bs (Int.toNat (day+gaps.getD i.toNat default)) true)) (Qab Qgm (List.set bs (Int.toNat (day+gaps.getD i.toNat default)) true)),wq (i+1)=i+1,0+Int.toNat (day+gaps.getD i.toNat default) * 1+TypeInfo.size Tryz.t4<=Array.size (Qab Qgm bs)/\splice (Qab Qgm bs) (0+Int.toNat (day+gaps.getD i.toNat default) * 1) (Value.cells (.bool true))=Qab Qgm (List.set bs (Int.toNat (day+gaps.getD i.toNat default)) true),day+gaps.getD i.toNat default=(↑(Int.toNat (day+gaps.getD i.toNat default)):Int)/\Int.toNat (day+gaps.getD i.toNat default) < Int.toNat days,ltq (day+gaps.getD i.toNat default) days=true]++Qmx B s load days gaps day i bs dJ0⟩:=by kernel_rfl
theorem Qvv (B:Lo) (s:Qaa) (load days:Int) (gaps:List Int) (day i:Int) (bs:List Bool) (dJ0:Nat->Value):landM (Qan Tryz.prog (Qa6 Tryz.prog) J0 B 18 1 (Qa2 120 30 (([2,5,6,12,13,14]:List Nat).zip (QeM s load days gaps day i bs)) dJ0 QeN) (Qaz (QcM s load days gaps day i bs)) (2+(QcM s load days gaps day i bs).length)
 (Qqa s load days gaps day i bs dJ0++[(11,hvF),(12,hvI (i+1))]) 0 [] []) [2,5,6,12,13,14] [(2,KS.auto),(3,KS.cells [] (Qab Qgm bs))] []=some ⟨120,30,QeN,[],.run,none,QeM s load days gaps (day+gaps.getD i.toNat default) (i+1) (bs),QcM s load days gaps (day+gaps.getD i.toNat default) (i+1) (bs),
 [Qa8 1 [] (Qab Qgm bs) (Qab Qgm bs),wq (i+1)=i+1,ltq (day+gaps.getD i.toNat default) days=false]++Qmx B s load days gaps day i bs dJ0⟩:=by kernel_rfl
theorem Qxe (B:Lo) (s:Qaa) (load days:Int) (gaps:List Int) (day i:Int) (bs:List Bool) (dJ0:Nat->Value):Qbe (Qan Tryz.prog (Qa6 Tryz.prog) J0 B 9 1 (Qa2 120 30 (([2,5,6,12,13,14]:List Nat).zip (QeM s load days gaps day i bs)) dJ0 QeN) (Qaz (QcM s load days gaps day i bs)) (2+(QcM s load days gaps day i bs).length)
 [(0,hvF)] 0 [] []) [{k:=3,rs:=[],cs:=Qab Qgm bs}]=some (slT days.toNat (Fz.cs {k:=3,rs:=[],cs:=Qab Qgm bs}),
 [QaY (Fz.rs {k:=3,rs:=[],cs:=Qab Qgm bs}) (Qab Qgm bs) (Fz.cs {k:=3,rs:=[],cs:=Qab Qgm bs}),ltq i (↑gaps.length:Int)=false]):=by kernel_rfl
theorem Qzk (B:Lo) (s:Qaa) (load days:Int) (gaps:List Int):landM (Qan Tryz.prog (Qa6 Tryz.prog) J0 B 11 1 (Qal Tryz.prog 120 30 (([.agg (QaH s load days).toArray,slI gaps]).map (Qav 0 4))) H00 1
 [(4,Qah.old (Hint.mk days.toNat (Qab (QbA [.bool false]) (List.replicate days.toNat ()))))] 0 [] []) [2,5,6,12,13,14] [(1,KS.auto),(2,KS.rows [] [] (Qab Qgm (List.replicate days.toNat false)))] []=some ⟨120,30,QeN,[],.run,none,QeM s load days gaps (0) (0) (List.replicate days.toNat false),QcM s load days gaps (0) (0) (List.replicate days.toNat false),
 [QaQ 1 [] [] (Qab (QbA [.bool false]) (List.replicate days.toNat ())) (Qab Qgm (List.replicate days.toNat false)),QfR Tryz.prog 127 (Qca {len:=16000,tr:=Tri.set 14 Tri.lf 10 (.int .i64 days)} 10) (Qca {len:=16000,tr:=Tri.set 14 Tri.lf 10 (.int .i64 days)} 10)=some (4,Qab (QbA [.bool false]) (List.replicate days.toNat ()),Int.toNat days,TypeInfo.size Tryz.t4)]⟩:=by kernel_rfl
set_option maxHeartbeats 4000000 in
theorem Qyk (s:Qaa) (load days:Int) (gaps:List Int) (hd:0<=days/\days<=300) (hg:∀x∈gaps,0<=x/\x<=60) (hl:gaps.length<=300) {B:Lo} (hJ:∀w,B.has w->J0 w) {c0:CF}:∀m:Nat,(∀(day i:Int) (bs:List Bool),gaps.length - i.toNat=m->∀(h0:0<=i) (h1:0<=day/\day<=60 * i) (hb:bs.length=days.toNat),Qxh B c0 s load days gaps day i bs->EndsT Tryz.prog B c0 (slB (Qgh days (gaps.drop i.toNat) day bs))):=by
 intro m0
 induction m0 using Nat.strongRecOn with
 | _ m0 ih0=>
   intro day i bs hm0 h0 h1 hb ⟨dJ0,hdJ0,hg0⟩
   by_cases q0:(i:Int) < ((↑gaps.length:Int))
   ·
    have hp0:QaB (Qmx B s load days gaps day i bs dJ0):=by
     have s2:=QhR (days:=days) (day:=day) (bs:=bs) (l:=gaps) h0 q0
     have g1:=hg _ (QaI h0 q0)
     exact ⟨(QaM (by omega) (by omega)),⟨⟨by omega,by omega,(Qae (z:=1) (fun _=> rfl) (by omega))⟩,⟨(QaW q0),trivial⟩⟩⟩
    by_cases q1:(day+gaps.getD i.toNat default:Int) < (days)
    ·
     have s2:=QhR (days:=days) (day:=day) (bs:=bs) (l:=gaps) h0 q0
     have g1:=hg _ (QaI h0 q0)
     rw [decide_eq_true q1,cond_true] at s2
     exact ((ih0 _ (by omega)) (day+gaps.getD i.toNat default) (i+1) (List.set bs (Int.toNat (day+gaps.getD i.toNat default)) true) rfl (by omega) (by omega) (by (rw [List.length_set];exact hb))
      (hg0.landM okF hJ Qac (Qys B s load days gaps day i bs dJ0)
      ⟨(Qaf (Qai (fun x=> List.all_eq_true.1 (by rfl)))),⟨(QaM (by omega) (by omega)),⟨(by exact QfO (z:=1) (fun _=> rfl) (by omega) rfl rfl),⟨⟨by omega,by omega⟩,⟨(QaW q1),hp0⟩⟩⟩⟩⟩ (by kernel_rfl) (by kernel_rfl))).cast (by (rw [s2];done))
    ·
     have s2:=QhR (days:=days) (day:=day) (bs:=bs) (l:=gaps) h0 q0
     have g1:=hg _ (QaI h0 q0)
     rw [decide_eq_false q1,cond_false] at s2
     exact ((ih0 _ (by omega)) (day+gaps.getD i.toNat default) (i+1) (bs) rfl (by omega) (by omega) (by with_reducible assumption)
      (hg0.landM okF hJ Qac (Qvv B s load days gaps day i bs dJ0)
      ⟨(Qaf (Qai (fun x=> List.all_eq_true.1 (by rfl)))),⟨(QaM (by omega) (by omega)),⟨(Qbb (Int.not_lt.1 q1)),hp0⟩⟩⟩ (by kernel_rfl) (by kernel_rfl))).cast (by (rw [s2];done))
   ·
    have s2:=QtS (days:=days) (day:=day) (bs:=bs) (l:=gaps) (i:=i) (by omega)
    exact (GoE.endsT okF hJ Qac hg0 (Qxe B s load days gaps day i bs dJ0)
     ⟨(QaE (fun x=> List.all_eq_true.1 (by rfl))),⟨(Qbb (Int.not_lt.1 q0)),trivial⟩⟩).cast (by (rw [s2];exact Qfp rfl (by omega)))
set_option maxHeartbeats 4000000 in
theorem Q1F (s:Qaa) (load days:Int) (gaps:List Int) (hd:0<=days/\days<=300) (hg:∀x∈gaps,0<=x/\x<=60) (hl:gaps.length<=300) {B:Lo} (hJ:∀w,B.has w->J0 w):EndsT Tryz.prog B (Qal Tryz.prog 120 30 (([.agg (QaH s load days).toArray,slI gaps]).map (Qav 0 4))) (slB (Qdx days gaps)):=by
 exact ((Qyk s load days gaps hd hg hl hJ _) (0) (0) (List.replicate days.toNat false) rfl (by omega) (by omega) (by (rw [List.length_replicate];done))
  (GoE.start.landM okF hJ Qac (Qzk B s load days gaps)
  ⟨(by exact (QbK (by exact ⟨(.simple rfl),trivial⟩) _)),⟨(Qgo (bytes:=1) (by kernel_rfl) (by omega) (by omega) (by omega)),trivial⟩⟩ (by kernel_rfl) (by kernel_rfl))).cast (by rfl)
theorem Q4h (s:Qaa) (load days:Int) (gaps:List Int) (hd:0<=days/\days<=300) (hg:∀x∈gaps,0<=x/\x<=60) (hl:gaps.length<=300):Qau Tryz.prog J0 120 #[.agg (QaH s load days).toArray,slI gaps] (slB (Qdx days gaps)):=
 QaF (ts:=[.agg (QaH s load days).toArray,slI gaps]) Qbw (c0:=Qal Tryz.prog 120 30 (([.agg (QaH s load days).toArray,slI gaps]).map (Qav 0 4))) (by kernel_rfl) (by kernel_rfl) fun B hJ=> Q1F s load days gaps hd hg hl hJ
end Go.Proofs.YtiabgkiccaodmaaGreat

namespace Go.Proofs.YtiabgkiccaodmaaGreat
open Go Go.CE Go.RowKit
noncomputable section
set_option maxRecDepth 100000
theorem Qx6 {p:Int->Bool} {a b:Int} (h:(upI a b).all p=true) {k:Int} (h1:a<=k) (h2:k < b):p k=true:=by
 refine List.all_eq_true.1 h k ?_
 unfold upI
 exact List.mem_map.2 ⟨(k - a).toNat,List.mem_range.2 (by omega),by omega⟩
theorem Qc7 {b:Int}:(upI 0 b).length=b.toNat:=by simp [upI]
theorem QiC {b i:Int} (h0:0<=i) (h:i < b):(upI 0 b).getD i.toNat default=i:=by
 have hk:i.toNat < (upI 0 b).length:=by rw [Qc7];omega
 rw [List.getD_eq_getElem?_getD,List.getElem?_eq_getElem hk]
 simp [upI];omega
theorem QoV {α:Type} [Inhabited α] {l:List α} {x:α} (h:x∈l):∃i:Int,0<=i/\i < l.length/\l.getD i.toNat default=x:=by
 obtain ⟨k,hk,rfl⟩:=List.getElem_of_mem h
 exact ⟨k,by omega,by omega,by simp [List.getD_eq_getElem?_getD,hk]⟩
theorem Qb8 {ns:List Int} {ss:List Span} (h:QfJ ns ss=true):ns.length=ss.length/\∀k:Int,0<=k->k < ns.length->(ss.getD k.toNat default).lo<=ns.getD k.toNat default/\ns.getD k.toNat default<=(ss.getD k.toNat default).hi:=by
 simp only [QfJ,Bool.and_eq_true,decide_eq_true_iff] at h
 exact ⟨h.1,fun k h0 h1=> Qbn.1 (Qx6 h.2 h0 h1)⟩
theorem QdY {s:Qaa} {all:List Row} (hs:QaD s=true) (h:QpG s all=true):all.length=s.lots.length/\∀r∈all,r.length=s.stock.length/\∀x∈r,0<=x/\x<=100000:=by
 simp only [QpG,Bool.and_eq_true,decide_eq_true_iff] at h
 obtain ⟨hl,hg⟩:=h
 refine ⟨hl,fun r hr=> ?_⟩
 obtain ⟨i,h0,h1,rfl⟩:=QoV hr
 have hi:i < s.lots.length:=by omega
 obtain ⟨a,b⟩:=Qb8 (Qx6 hg h0 hi)
 have hlot:=(Qas hs).2 _ (QaI h0 hi)
 obtain ⟨c,d,_⟩:=Qd6 hlot
 refine ⟨a.trans c,fun x hx=> ?_⟩
 obtain ⟨j,j0,j1,rfl⟩:=QoV hx
 have:=b j j0 j1
 have:=d _ (QaI (l:=(s.lots.getD i.toNat default).goods) j0 (by omega))
 omega
theorem Qn8 {m:Int}:∀{l:List Int},(∀x∈l,0<=x/\x<=m)->0<=Qgn l/\Qgn l<=m * l.length
 | [],_=> by simp [Qgn]
 | x::l,h=> by
   have h1:=h x (by simp)
   have h2:=Qn8 (l:=l) fun y hy=> h y (by simp [hy])
   have e:m * ((l.length:Int)+1)=m * l.length+m:=by rw [Int.mul_add,Int.mul_one]
   simp only [Qgn,List.length_cons,Int.natCast_add,Int.natCast_one]
   omega
theorem Qaj {s:Qaa} (h:QaD s=true):(1<=s.stock.length/\s.stock.length<=4)/\(∀x∈s.stock,0<=x/\x<=100000)/\s.use.length=s.stock.length/\∀u∈s.use,0<=u.lo/\u.lo<=u.hi/\u.hi<=1000:=by
 simp only [QaD,Qc5,Qb2,Bool.and_eq_true,decide_eq_true_iff,List.all_eq_true,Qbn] at h
 exact ⟨by omega,h.2.1,h.2.2.1,h.2.2.2.1⟩
def Qip (load:Int) (goods:List Row) (k:Int):Int:=Qgn ((Qa5 load goods 0).map fun r=> r.getD k.toNat default)
def Qe9 (s:Qaa) (load days:Int) (t:Qar) (k:Int):Gd:=⟨s.stock.getD k.toNat default,t.uses.getD k.toNat default,Qip load t.goods k,Qdx days t.gaps⟩
def Qcb (s:Qaa) (load days:Int) (t:Qar):List Gd:=(upI 0 s.stock.length).map (Qe9 s load days t)
abbrev slG (xs:List Gd):Value:=slT xs.length (Qab Qco xs)
def QnZ (s:Qaa) (load days:Int) (t:Qar) (i:Int):List Gd:=Qgp (Qe9 s load days t) ⟨0,0,0,[]⟩ (upI 0 s.stock.length) i
theorem QlE {s:Qaa} {load days:Int} {t:Qar} {i:Int}:(QnZ s load days t i).length=s.stock.length:=by
 unfold QnZ;rw [QdD,Qc7];omega
theorem Q3n {s:Qaa} {load days:Int} {t:Qar}:List.replicate s.stock.length (⟨0,0,0,[]⟩:Gd)=QnZ s load days t 0:=by
 unfold QnZ;rw [<-QfL,Qc7];rfl
theorem QxG {s:Qaa} {load days:Int} {t:Qar} {i:Int} (h0:0<=i) (h:i < s.stock.length):(QnZ s load days t i).set i.toNat (Qe9 s load days t i)=QnZ s load days t (i+1):=by
 have:=QdJ (f:=Qe9 s load days t) (x0:=⟨0,0,0,[]⟩) (xs:=upI 0 s.stock.length) (i:=i) h0 (by rw [Qc7];omega)
 rw [QiC h0 h] at this
 exact this
theorem QvW {s:Qaa} {load days:Int} {t:Qar} {i:Int} (h:s.stock.length<=i):QnZ s load days t i=Qcb s load days t:=QdC (by rw [Qc7];omega)
theorem Q01 {s:Qaa} {load days:Int} {t:Qar} (hs:QaD s=true) (ht:Qdq s days t=true) (hd:0<=days/\days<=300) (h0:0<=load) (h1:load < 64) (hx:Qcv load<=s.lots.length):∀g∈Qcb s load days t,gdB g:=by
 intro g hg
 obtain ⟨k,hk,rfl⟩:=List.mem_map.1 hg
 obtain ⟨i,i0,i1,rfl⟩:=QoV hk
 rw [Qc7] at i1
 rw [QiC i0 (by omega)]
 simp only [Qdq,Bool.and_eq_true] at ht
 obtain ⟨⟨hl1,hl2⟩,hst,hul,hu⟩:=Qaj hs
 obtain ⟨a,b⟩:=Qb8 ht.1
 obtain ⟨rl,rr⟩:=QdY hs ht.2.2
 have f1:=hst _ (QaI (l:=s.stock) i0 (by omega))
 have f2:=hu _ (QaI (l:=s.use) i0 (by omega))
 have f3:=b i i0 (by omega)
 have f4:∀x∈(Qa5 load t.goods 0).map (fun r=> r.getD i.toNat default),0<=x/\x<=100000:=fun x hx'=> by
  obtain ⟨r,hr,rfl⟩:=List.mem_map.1 hx'
  obtain ⟨q1,q2⟩:=rr r (QcO (Int.le_refl _) (by omega) r hr)
  exact q2 _ (QaI i0 (by omega))
 have f5:=Qn8 f4
 have f6:=Qin (s:=load) (n:=0) (xs:=t.goods) (Int.le_refl _)
 have f7:=Qfs h0 h1
 rw [List.length_map] at f5
 have f8:(Qdx days t.gaps).length=days.toNat:=by unfold Qdx;rw [Qj3,List.length_replicate]
 unfold gdB Qe9
 simp only [Qip]
 refine ⟨by omega,by omega,by omega,by omega,by omega,by omega,by omega⟩
def Qgv (s:Qaa) (load days:Int) (t:Qar) (i:Int) (ys:List Gd):List Value:=[pA 2 0,pA 3 0,Qay 1 (slT (List.length (Qdx days t.gaps)) (Qab Qgm (Qdx days t.gaps))),Qay 1 (slT (List.length (Qa5 load t.goods 0)) (Qab Qax (Qa5 load t.goods 0))),.slice (some {block:=4,off:=0}) s.stock.length 4,.int .i64 (↑s.stock.length:Int),.int .i64 i]
def Qeh (s:Qaa) (load days:Int) (t:Qar) (i:Int) (ys:List Gd):List Obj:=[Obj.cells #[Qay 1 (slT s.stock.length (Qab Qag s.stock)),Qay 1 (slT s.use.length (Qab Qa3 s.use)),.int .i64 s.glo,.int .i64 s.ghi,Qay 1 (slT s.lots.length (Qab Qao s.lots)),.int .i64 s.hold,.int .i64 load,.int .i64 days] 122,Obj.cells #[Qay 1 (slT t.uses.length (Qab Qag t.uses)),Qay 1 (slT t.gaps.length (Qab Qag t.gaps)),Qay 1 (slT t.goods.length (Qab Qax t.goods))] 65,.cells (Qab (Qa1 1 Qco) ys) 129 (0,0)]
def QgF:List Item:=([.code [1,1,1,1,0,1,0,0],.inLoop [1,1,1,1,0,1,0,0],.inBlock 0,.code [1,1,1,1,1]]).map (it (Qaq Tryz.prog 84))
def QvX (B:Lo) (c0:CF) (s:Qaa) (load days:Int) (t:Qar) (i:Int) (ys:List Gd):Prop:=∃dJ:Nat->Value,(∀t,QaP (dJ t))/\GoE Tryz.prog B c0 H00 1 (Qa2 84 52 (([2,3,5,6,7,25,26]:List Nat).zip (Qgv s load days t i ys)) dJ QgF) (Qaz (Qeh s load days t i ys)) (2+(Qeh s load days t i ys).length) []
def QcX (s:Qaa) (load days:Int) (t:Qar) (i:Int) (ys:List Gd) (dJ0:Nat->Value):Qaw:=[(5,Obj.cells #[.int .i64 i] 3),(0,Obj.coro none),(1,Obj.coro none),(2,Obj.cells #[Qay 1 (slT s.stock.length (Qab Qag s.stock)),Qay 1 (slT s.use.length (Qab Qa3 s.use)),.int .i64 s.glo,.int .i64 s.ghi,Qay 1 (slT s.lots.length (Qab Qao s.lots)),.int .i64 s.hold,.int .i64 load,.int .i64 days] 122),(3,Obj.cells #[Qay 1 (slT t.uses.length (Qab Qag t.uses)),Qay 1 (slT t.gaps.length (Qab Qag t.gaps)),Qay 1 (slT t.goods.length (Qab Qax t.goods))] 65),(4,Obj.cells (Qab (Qa1 1 Qco) ys) 129)]
def Qfw (s:Qaa) (load days:Int) (t:Qar) (i:Int) (ys:List Gd) (dJ0:Nat->Value):CF:=⟨122,ofList 26 [Qay 1 (slT (List.length (Qa5 load t.goods 0)) (Qab Qax (Qa5 load t.goods 0))),Value.func (Fn.func 123) #[] #[pA 5 0]],[Item.code (Qaq Tryz.prog 122)],[],.run,none⟩
def Qel (s:Qaa) (load days:Int) (t:Qar) (i:Int) (ys:List Gd) (dJ0:Nat->Value) (j:Int) (zs:List Int):List Value:=[Value.func (Fn.func 123) #[] #[pA 5 0],.slice (some {block:=7,off:=0}) (List.length (Qa5 load t.goods 0)) 1,Qay 1 (slT (List.length (Qa5 load t.goods 0)) (Qab Qax (Qa5 load t.goods 0))),.int .i64 (↑(List.length (Qa5 load t.goods 0)):Int),.int .i64 j]
def Qek (s:Qaa) (load days:Int) (t:Qar) (i:Int) (ys:List Gd) (dJ0:Nat->Value) (j:Int) (zs:List Int):List Obj:=[]
def Qck (s:Qaa) (load days:Int) (t:Qar) (i:Int) (ys:List Gd) (dJ0:Nat->Value) (j:Int) (zs:List Int):List Obj:=[.cells (Qab Qag zs) 3 (0,0)]
def Qer:List Item:=([.code [1,1,0,1,0,0],.inLoop [1,1,0,1,0,0],.inBlock 0,.code [1,1,1]]).map (it (Qaq Tryz.prog 122))
def Qhi (s:Qaa) (load days:Int) (t:Qar) (i:Int) (ys:List Gd) (dJ0:Nat->Value) (j:Int) (zs:List Int) (dJ1:Nat->Value):Qaw:=[(6,Obj.coro none),(7,Obj.cells (Qab Qag zs) 3),(5,Obj.cells #[.int .i64 i] 3),(0,Obj.coro none),(1,Obj.coro none),(2,Obj.cells #[Qay 1 (slT s.stock.length (Qab Qag s.stock)),Qay 1 (slT s.use.length (Qab Qa3 s.use)),.int .i64 s.glo,.int .i64 s.ghi,Qay 1 (slT s.lots.length (Qab Qao s.lots)),.int .i64 s.hold,.int .i64 load,.int .i64 days] 122),(3,Obj.cells #[Qay 1 (slT t.uses.length (Qab Qag t.uses)),Qay 1 (slT t.gaps.length (Qab Qag t.gaps)),Qay 1 (slT t.goods.length (Qab Qax t.goods))] 65),(4,Obj.cells (Qab (Qa1 1 Qco) ys) 129)]
def Qif (s:Qaa) (load days:Int) (t:Qar) (i:Int) (ys:List Gd) (dJ0:Nat->Value) (j:Int) (zs:List Int) (dJ1:Nat->Value):CF:=⟨123,ofList 8 [Qay 1 (slT (List.length (List.getD (Qa5 load t.goods 0) j.toNat default)) (Qab Qag (List.getD (Qa5 load t.goods 0) j.toNat default))),pA 5 0],[Item.code (Qaq Tryz.prog 123)],[],.run,none⟩
def QfA (days:Int) (t:Qar):Value:=(slT (List.length (Qdx days t.gaps)) (Qab Qgm (Qdx days t.gaps)))
theorem Qyu (B:Lo) (s:Qaa) (load days:Int) (t:Qar) (i:Int) (ys:List Gd) (dJ0:Nat->Value) (j:Int) (zs:List Int) (dJ1:Nat->Value):CE.finK 8 (Qan Tryz.prog (Qa6 Tryz.prog) J0 B 6 8 (Qif s load days t i ys dJ0 j zs dJ1) (Qhi s load days t i ys dJ0 j zs dJ1) 8
 [(3,Qah.tidx i.toNat #[.int .i64 (List.getD (List.getD (Qa5 load t.goods 0) j.toNat default) i.toNat default)])] 0 [] []) [] [] []=some (OO.ret (.int .i64 (List.getD (List.getD (Qa5 load t.goods 0) j.toNat default) i.toNat default)),[],[],
 [i=(↑i.toNat:Int)/\Int.toNat i < List.length (List.getD (Qa5 load t.goods 0) j.toNat default)/\Array.extract (Qab Qag (List.getD (Qa5 load t.goods 0) j.toNat default)) (Int.toNat i * TypeInfo.size Tryz.t3) (Int.toNat i * TypeInfo.size Tryz.t3+TypeInfo.size Tryz.t3)=#[.int .i64 (List.getD (List.getD (Qa5 load t.goods 0) j.toNat default) i.toNat default)]]):=by kernel_rfl
theorem Qy9 (B:Lo) (s:Qaa) (load days:Int) (t:Qar) (i:Int) (ys:List Gd) (dJ0:Nat->Value) (j:Int) (zs:List Int) (dJ1:Nat->Value):CE.landA 6 (Qan Tryz.prog (Qa6 Tryz.prog) J0 B 13 6 (Qcs (none) 122 26 (([1,5,11,12,13]:List Nat).zip (Qel s load days t i ys dJ0 j zs)) dJ1 Qer) (Qb9 (QcX s load days t i ys dJ0) 6 (([]:List Nat).zip (Qek s load days t i ys dJ0 j zs)) (Qck s load days t i ys dJ0 j zs)) (6+1+(Qck s load days t i ys dJ0 j zs).length)
 [(0,hvT),(2,Qah.tidx j.toNat #[slT (List.length (List.getD (Qa5 load t.goods 0) j.toNat default)) (Qab Qag (List.getD (Qa5 load t.goods 0) j.toNat default))]),(10,Qah.call (List.range 8) (OO.ret (.int .i64 (List.getD (List.getD (Qa5 load t.goods 0) j.toNat default) i.toNat default))) ([]++(8,Qb1)::QaS 9 []) 9 []),(11,Qah.old (Hint.idx j.toNat)),(12,Qah.old (Hint.st (Qab Qag (List.set zs j.toNat (List.getD (List.getD (Qa5 load t.goods 0) j.toNat default) i.toNat default))))),(13,hvI (j+1))] 0 [] []) [1,5,11,12,13] [] [(7,KS.cells [] (Qab Qag (List.set zs j.toNat (List.getD (List.getD (Qa5 load t.goods 0) j.toNat default) i.toNat default))))] []=some ⟨122,26,Qer,[],.run,none,Qel s load days t i ys dJ0 (j+1) (List.set zs j.toNat (List.getD (List.getD (Qa5 load t.goods 0) j.toNat default) i.toNat default)),([]:List Nat).zip (Qek s load days t i ys dJ0 (j+1) (List.set zs j.toNat (List.getD (List.getD (Qa5 load t.goods 0) j.toNat default) i.toNat default))),Qck s load days t i ys dJ0 (j+1) (List.set zs j.toNat (List.getD (List.getD (Qa5 load t.goods 0) j.toNat default) i.toNat default)),
 [Qa8 6 [] (Qab Qag (List.set zs j.toNat (List.getD (List.getD (Qa5 load t.goods 0) j.toNat default) i.toNat default))) (Qab Qag (List.set zs j.toNat (List.getD (List.getD (Qa5 load t.goods 0) j.toNat default) i.toNat default))),wq (j+1)=j+1,0+Int.toNat j * 1+TypeInfo.size Tryz.t3<=Array.size (Qab Qag zs)/\splice (Qab Qag zs) (0+Int.toNat j * 1) (Value.cells (Qca {len:=16000,tr:=Tri.set 14 (Tri.set 14 Tri.lf 22 (.int .i64 (List.getD (List.getD (Qa5 load t.goods 0) j.toNat default) i.toNat default))) 23 (.pointer (some {block:=7,off:=0+Int.toNat j * 1}))} 22))=Qab Qag (List.set zs j.toNat (List.getD (List.getD (Qa5 load t.goods 0) j.toNat default) i.toNat default)),j=(↑j.toNat:Int)/\Int.toNat j < List.length (Qa5 load t.goods 0),FJ Tryz.prog B (Qif s load days t i ys dJ0 j zs dJ1) (Qhi s load days t i ys dJ0 j zs dJ1) 8 (OO.ret (.int .i64 (List.getD (List.getD (Qa5 load t.goods 0) j.toNat default) i.toNat default))) (([]++((8,Qb1)::QaS (8+1) []))++Qhi s load days t i ys dJ0 j zs dJ1) 9 (List.range 8) [],j=(↑j.toNat:Int)/\Int.toNat j < List.length (Qa5 load t.goods 0)/\Array.extract (Qab Qax (Qa5 load t.goods 0)) (Int.toNat j * TypeInfo.size Tryz.t22) (Int.toNat j * TypeInfo.size Tryz.t22+TypeInfo.size Tryz.t22)=#[slT (List.length (List.getD (Qa5 load t.goods 0) j.toNat default)) (Qab Qag (List.getD (Qa5 load t.goods 0) j.toNat default))],ltq j (↑(List.length (Qa5 load t.goods 0)):Int)=true]⟩:=by kernel_rfl
theorem Qzb (B:Lo) (s:Qaa) (load days:Int) (t:Qar) (i:Int) (ys:List Gd) (dJ0:Nat->Value) (j:Int) (zs:List Int) (dJ1:Nat->Value):CE.finK 6 (Qan Tryz.prog (Qa6 Tryz.prog) J0 B 9 6 (Qcs (none) 122 26 (([1,5,11,12,13]:List Nat).zip (Qel s load days t i ys dJ0 j zs)) dJ1 Qer) (Qb9 (QcX s load days t i ys dJ0) 6 (([]:List Nat).zip (Qek s load days t i ys dJ0 j zs)) (Qck s load days t i ys dJ0 j zs)) (6+1+(Qck s load days t i ys dJ0 j zs).length)
 [(0,hvF)] 0 [] []) [] [] [{k:=7,rs:=[],cs:=Qab Qag zs}]=some (OO.ret (Qay 6 (slT (List.length (Qa5 load t.goods 0)) (Fz.cs {k:=7,rs:=[],cs:=Qab Qag zs}))),[],[],
 [QaY (Fz.rs {k:=7,rs:=[],cs:=Qab Qag zs}) (Qab Qag zs) (Fz.cs {k:=7,rs:=[],cs:=Qab Qag zs}),ltq j (↑(List.length (Qa5 load t.goods 0)):Int)=false]):=by kernel_rfl
set_option maxHeartbeats 4000000 in
theorem Qp4 (s:Qaa) (load days:Int) (t:Qar) (i:Int) (ys:List Gd) (dJ0:Nat->Value) (hs:QaD s=true) (ht:Qdq s days t=true) (hd:0<=days/\days<=300) (h0:0<=load) (h1:load < 64) (hx:Qcv load<=s.lots.length) (i0:0<=i) (hy:ys=QnZ s load days t i) (hdJ0:∀t,QaP (dJ0 t)) (q0:(i:Int) < ((↑s.stock.length:Int))) {B:Lo} (hJ:∀w,B.has w->J0 w):∀m:Nat,(∀(j:Int) (zs:List Int),(Qa5 load t.goods 0).length - j.toNat=m->∀(j0:0<=j) (hz:zs=Qgp (fun (r:Row)=> r.getD i.toNat default) 0 (Qa5 load t.goods 0) j),(∃dJ1:Nat->Value,(∀t,QaP (dJ1 t))/\GoE Tryz.prog B (Qfw s load days t i ys dJ0) (QcX s load days t i ys dJ0) 6 (Qcs (none) 122 26 (([1,5,11,12,13]:List Nat).zip (Qel s load days t i ys dJ0 j zs)) dJ1 Qer) (Qb9 (QcX s load days t i ys dJ0) 6 (([]:List Nat).zip (Qek s load days t i ys dJ0 j zs)) (Qck s load days t i ys dJ0 j zs)) (6+1+(Qck s load days t i ys dJ0 j zs).length) ([]:List Nat))->FinK Tryz.prog B (Qfw s load days t i ys dJ0) (QcX s load days t i ys dJ0) 6 (.ret (Qay 6 (slI ((Qa5 load t.goods 0).map fun r=> r.getD i.toNat default)))) (([]:List Nat).zip ([])) ([]) ([]:List Nat)):=by
 intro m1
 induction m1 using Nat.strongRecOn with
 | _ m1 ih1=>
   intro j zs hm1 j0 hz ⟨dJ1,hdJ1,hg1⟩
   have ht':=ht;simp only [Qdq,Qnk,Bool.and_eq_true,decide_eq_true_iff,List.all_eq_true,Qbn] at ht'
   have hgp:=Qa0 hs
   have hst:=Qaj hs
   have hrows:=QdY hs ht'.2.2
   have hus:=(Qb8 ht'.1).1
   have hgg:∀x∈t.gaps,0<=x/\x<=60:=fun x h=> by have:=ht'.2.1.2.1 x h;omega
   have hgl:t.gaps.length<=300:=ht'.2.1.1
   have hpx:Qcv load<=t.goods.length:=by omega
   have hpl:=Qin (s:=load) (n:=0) (xs:=t.goods) (Int.le_refl _)
   have hl6:=Qfs h0 h1
   have hyl:ys.length=s.stock.length:=by rw [hy];exact QlE
   have hzl:zs.length=(Qa5 load t.goods 0).length:=by rw [hz];exact QdD
   have hyl:ys.length=s.stock.length:=by rw [hy];exact QlE
   have hri:∀r∈Qa5 load t.goods 0,i < r.length:=fun r h=> by have:=(hrows.2 r (QcO (Int.le_refl _) hpx r h)).1;omega
   by_cases q1:(j:Int) < ((↑(List.length (Qa5 load t.goods 0)):Int))
   ·
    have rj1:FJ Tryz.prog B (Qif s load days t i ys dJ0 j zs dJ1) (Qhi s load days t i ys dJ0 j zs dJ1) 8 (OO.ret (.int .i64 (List.getD (List.getD (Qa5 load t.goods 0) j.toNat default) i.toNat default))) (([]++((8,Qb1)::QaS (8+1) []))++Qhi s load days t i ys dJ0 j zs dJ1) 9 (List.range 8) []:=by
     have hri:∀r∈Qa5 load t.goods 0,i < r.length:=fun r h=> by have:=(hrows.2 r (QcO (Int.le_refl _) hpx r h)).1;omega
     have hrx:∀x∈(Qa5 load t.goods 0).map (fun r=> r.getD i.toNat default),-1000000000<=x/\x<=1000000000:=fun x h=> by obtain ⟨r,hr,rfl⟩:=List.mem_map.1 h;obtain ⟨a,b⟩:=hrows.2 r (QcO (Int.le_refl _) hpx r hr);have:=b _ (QaI (l:=r) i0 (by omega));omega
     have hrl:((Qa5 load t.goods 0).map (fun r=> r.getD i.toNat default)).length<=1000:=by rw [List.length_map];omega
     have hrj:=hri _ (QaI j0 (by assumption))
     exact FinK.fjB (GoE.finK okF hJ Qac (Qat (by kernel_rfl)) (Qam (by kernel_rfl)) ((GoE.refl (P:=Tryz.prog) (B:=B) (c0:=Qif s load days t i ys dJ0 j zs dJ1) (Qat (by kernel_rfl))).widen (Wf:=((([]):List (Nat×KS)).map (·.1))) (by simp) (Qam (by kernel_rfl))) (Qyu B s load days t i ys dJ0 j zs dJ1)
      ⟨⟨by omega,by omega,(Qae (z:=1) (fun _=> rfl) (by omega))⟩,trivial⟩) (ex:=[7,4]) (by kernel_rfl) ⟨trivial,⟨(QsP (t:=3) (fl:=(0,0)) (fun x=> List.all_eq_true.1 (by rfl))),⟨trivial,⟨trivial,⟨trivial,⟨trivial,⟨trivial,⟨(QeG (t:=129) (fl:=(0,0)) (QaK (fun _=> rfl)) (by decide)),trivial⟩⟩⟩⟩⟩⟩⟩⟩
    have hri:∀r∈Qa5 load t.goods 0,i < r.length:=fun r h=> by have:=(hrows.2 r (QcO (Int.le_refl _) hpx r h)).1;omega
    have hrx:∀x∈(Qa5 load t.goods 0).map (fun r=> r.getD i.toNat default),-1000000000<=x/\x<=1000000000:=fun x h=> by obtain ⟨r,hr,rfl⟩:=List.mem_map.1 h;obtain ⟨a,b⟩:=hrows.2 r (QcO (Int.le_refl _) hpx r hr);have:=b _ (QaI (l:=r) i0 (by omega));omega
    have hrl:((Qa5 load t.goods 0).map (fun r=> r.getD i.toNat default)).length<=1000:=by rw [List.length_map];omega
    have hrj:=hri _ (QaI j0 (by assumption))
    exact ((ih1 _ (by omega)) (j+1) (List.set zs j.toNat (List.getD (List.getD (Qa5 load t.goods 0) j.toNat default) i.toNat default)) rfl (by omega) (by (subst hz;exact QdJ (f:=fun (r:Row)=> r.getD i.toNat default) j0 q1))
     (GoE.landA okF hJ Qac (Qat (by kernel_rfl)) (Qam (by kernel_rfl)) hg1 (Qy9 B s load days t i ys dJ0 j zs dJ1)
     ⟨(Qaf (Qai (fun x=> List.all_eq_true.1 (by rfl)))),⟨(QaM (by omega) (by omega)),⟨(by exact QfO (z:=1) (fun _=> rfl) (by omega) rfl rfl),⟨⟨by omega,by omega⟩,⟨rj1,⟨⟨by omega,by omega,(Qae (z:=1) (fun _=> rfl) (by omega))⟩,⟨(QaW q1),trivial⟩⟩⟩⟩⟩⟩⟩ (by kernel_rfl) (by kernel_rfl) (fun l hl=> by cases hl <;> decide))).cast (by rfl) (by rfl) (by rfl)
   ·
    have hri:∀r∈Qa5 load t.goods 0,i < r.length:=fun r h=> by have:=(hrows.2 r (QcO (Int.le_refl _) hpx r h)).1;omega
    have hrx:∀x∈(Qa5 load t.goods 0).map (fun r=> r.getD i.toNat default),-1000000000<=x/\x<=1000000000:=fun x h=> by obtain ⟨r,hr,rfl⟩:=List.mem_map.1 h;obtain ⟨a,b⟩:=hrows.2 r (QcO (Int.le_refl _) hpx r hr);have:=b _ (QaI (l:=r) i0 (by omega));omega
    have hrl:((Qa5 load t.goods 0).map (fun r=> r.getD i.toNat default)).length<=1000:=by rw [List.length_map];omega
    exact (GoE.finK okF hJ Qac (Qat (by kernel_rfl)) (Qam (by kernel_rfl)) hg1 (Qzb B s load days t i ys dJ0 j zs dJ1)
     ⟨(QaE (fun x=> List.all_eq_true.1 (by rfl))),⟨(Qbb (Int.not_lt.1 q1)),trivial⟩⟩).cast (by exact congrArg (fun v=> OO.ret (Qay 6 v)) (Qfp (hz.trans (QdC (by omega))) (by simp))) (by rfl) (by rfl)

theorem QxA (B:Lo) (s:Qaa) (load days:Int) (t:Qar) (i:Int) (ys:List Gd) (dJ0:Nat->Value):CE.landA 6 (Qan Tryz.prog (Qa6 Tryz.prog) J0 B 9 6 (Qfw s load days t i ys dJ0) (QcX s load days t i ys dJ0) 6
 [(3,Qah.old (Hint.mk (List.length (Qa5 load t.goods 0)) (Qab (QbA [.int .i64 0]) (List.replicate (List.length (Qa5 load t.goods 0)) ()))))] 0 [] []) [1,5,11,12,13] [] [(6,KS.rows [] [] (Qab Qag (List.replicate (List.length (Qa5 load t.goods 0)) 0)))] []=some ⟨122,26,Qer,[],.run,none,Qel s load days t i ys dJ0 (0) (List.replicate (List.length (Qa5 load t.goods 0)) 0),([]:List Nat).zip (Qek s load days t i ys dJ0 (0) (List.replicate (List.length (Qa5 load t.goods 0)) 0)),Qck s load days t i ys dJ0 (0) (List.replicate (List.length (Qa5 load t.goods 0)) 0),
 [QaQ 6 [] [] (Qab (QbA [.int .i64 0]) (List.replicate (List.length (Qa5 load t.goods 0)) ())) (Qab Qag (List.replicate (List.length (Qa5 load t.goods 0)) 0)),QfR Tryz.prog 22 (Qca {len:=16000,tr:=Tri.set 14 Tri.lf 9 (.int .i64 (↑(List.length (Qa5 load t.goods 0)):Int))} 9) (Qca {len:=16000,tr:=Tri.set 14 Tri.lf 9 (.int .i64 (↑(List.length (Qa5 load t.goods 0)):Int))} 9)=some (3,Qab (QbA [.int .i64 0]) (List.replicate (List.length (Qa5 load t.goods 0)) ()),List.length (Qa5 load t.goods 0),TypeInfo.size Tryz.t3)]⟩:=by kernel_rfl
theorem QwT (B:Lo) (s:Qaa) (load days:Int) (t:Qar) (i:Int) (ys:List Gd) (dJ0:Nat->Value):landM (Qan Tryz.prog (Qa6 Tryz.prog) J0 B 15 1 (Qa2 84 52 (([2,3,5,6,7,25,26]:List Nat).zip (Qgv s load days t i ys)) dJ0 QgF) (Qaz (Qeh s load days t i ys)) (2+(Qeh s load days t i ys).length)
 [(0,hvT),(6,Qah.call (List.range 6) (OO.ret (Qay 6 (slT (List.length (List.map (fun r=> r.getD i.toNat default) (Qa5 load t.goods 0))) (Qab Qag (List.map (fun r=> r.getD i.toNat default) (Qa5 load t.goods 0)))))) ([]++(6,Qb1)::QaS 7 []) 7 []),(14,Qah.tidx i.toNat #[.int .i64 (s.stock.getD i.toNat default)]),(19,Qah.tidx i.toNat #[.int .i64 (t.uses.getD i.toNat default)]),(22,Qah.pure (.int .i64 (Qgn (List.map (fun r=> r.getD i.toNat default) (Qa5 load t.goods 0)))) []),(25,Qah.old (Hint.idx i.toNat)),(26,Qah.old (Hint.st (splice (Qab (Qa1 1 Qco) ys) (0+Int.toNat i * 4) #[.int .i64 (s.stock.getD i.toNat default),.int .i64 (t.uses.getD i.toNat default),.int .i64 (Qgn (List.map (fun r=> r.getD i.toNat default) (Qa5 load t.goods 0))),Qay 1 (QfA days t)]))),(27,hvI (i+1))] 0 [] []) [2,3,5,6,7,25,26] [(2,KS.auto),(3,KS.auto),(4,KS.rows [(1,1)] [] (Qab (Qa1 1 Qco) (List.set ys i.toNat {stock:=s.stock.getD i.toNat default,use:=t.uses.getD i.toNat default,br:=Qgn (List.map (fun r=> r.getD i.toNat default) (Qa5 load t.goods 0)),ships:=Qdx days t.gaps})))] []=some ⟨84,52,QgF,[],.run,none,Qgv s load days t (i+1) (List.set ys i.toNat {stock:=s.stock.getD i.toNat default,use:=t.uses.getD i.toNat default,br:=Qgn (List.map (fun r=> r.getD i.toNat default) (Qa5 load t.goods 0)),ships:=Qdx days t.gaps}),Qeh s load days t (i+1) (List.set ys i.toNat {stock:=s.stock.getD i.toNat default,use:=t.uses.getD i.toNat default,br:=Qgn (List.map (fun r=> r.getD i.toNat default) (Qa5 load t.goods 0)),ships:=Qdx days t.gaps}),
 [QaQ 1 [(1,1)] [] (splice (Qab (Qa1 1 Qco) ys) (0+Int.toNat i * 4) #[.int .i64 (s.stock.getD i.toNat default),.int .i64 (t.uses.getD i.toNat default),.int .i64 (Qgn (List.map (fun r=> r.getD i.toNat default) (Qa5 load t.goods 0))),Qay 1 (QfA days t)]) (Qab (Qa1 1 Qco) (List.set ys i.toNat {stock:=s.stock.getD i.toNat default,use:=t.uses.getD i.toNat default,br:=Qgn (List.map (fun r=> r.getD i.toNat default) (Qa5 load t.goods 0)),ships:=Qdx days t.gaps})),wq (i+1)=i+1,0+Int.toNat i * 4+TypeInfo.size Tryz.t129<=Array.size (Qab (Qa1 1 Qco) ys)/\splice (Qab (Qa1 1 Qco) ys) (0+Int.toNat i * 4) (Value.cells (Qca {len:=16000,tr:=Tri.set 14 (Tri.set 14 Tri.lf 48 (.agg #[.int .i64 (s.stock.getD i.toNat default),.int .i64 (t.uses.getD i.toNat default),.int .i64 (Qgn (List.map (fun r=> r.getD i.toNat default) (Qa5 load t.goods 0))),Qay 1 (QfA days t)])) 49 (.pointer (some {block:=4,off:=0+Int.toNat i * 4}))} 48))=splice (Qab (Qa1 1 Qco) ys) (0+Int.toNat i * 4) #[.int .i64 (s.stock.getD i.toNat default),.int .i64 (t.uses.getD i.toNat default),.int .i64 (Qgn (List.map (fun r=> r.getD i.toNat default) (Qa5 load t.goods 0))),Qay 1 (QfA days t)],i=(↑i.toNat:Int)/\Int.toNat i < List.length s.stock,QaB []/\Qau Tryz.prog J0 124 #[slT (List.length (List.map (fun r=> r.getD i.toNat default) (Qa5 load t.goods 0))) (Qab Qag (List.map (fun r=> r.getD i.toNat default) (Qa5 load t.goods 0)))] (.int .i64 (Qgn (List.map (fun r=> r.getD i.toNat default) (Qa5 load t.goods 0)))),i=(↑i.toNat:Int)/\Int.toNat i < List.length t.uses/\Array.extract (Qab Qag t.uses) (Int.toNat i * TypeInfo.size Tryz.t3) (Int.toNat i * TypeInfo.size Tryz.t3+TypeInfo.size Tryz.t3)=#[.int .i64 (t.uses.getD i.toNat default)],i=(↑i.toNat:Int)/\Int.toNat i < List.length s.stock/\Array.extract (Qab Qag s.stock) (Int.toNat i * TypeInfo.size Tryz.t3) (Int.toNat i * TypeInfo.size Tryz.t3+TypeInfo.size Tryz.t3)=#[.int .i64 (s.stock.getD i.toNat default)],FJ Tryz.prog B (Qfw s load days t i ys dJ0) (QcX s load days t i ys dJ0) 6 (OO.ret (Qay 6 (slT (List.length (List.map (fun r=> r.getD i.toNat default) (Qa5 load t.goods 0))) (Qab Qag (List.map (fun r=> r.getD i.toNat default) (Qa5 load t.goods 0)))))) (([]++((6,Qb1)::QaS (6+1) []))++QcX s load days t i ys dJ0) 7 (List.range 6) [],ltq i (↑s.stock.length:Int)=true]⟩:=by kernel_rfl
theorem Qyh (B:Lo) (s:Qaa) (load days:Int) (t:Qar) (i:Int) (ys:List Gd) (dJ0:Nat->Value):Qbe (Qan Tryz.prog (Qa6 Tryz.prog) J0 B 9 1 (Qa2 84 52 (([2,3,5,6,7,25,26]:List Nat).zip (Qgv s load days t i ys)) dJ0 QgF) (Qaz (Qeh s load days t i ys)) (2+(Qeh s load days t i ys).length)
 [(0,hvF)] 0 [] []) [{k:=4,rs:=[1],cs:=Qab Qco ys}]=some (slT s.stock.length (Fz.cs {k:=4,rs:=[1],cs:=Qab Qco ys}),
 [QaY (Fz.rs {k:=4,rs:=[1],cs:=Qab Qco ys}) (Qab (Qa1 1 Qco) ys) (Fz.cs {k:=4,rs:=[1],cs:=Qab Qco ys}),ltq i (↑s.stock.length:Int)=false]):=by kernel_rfl
theorem Qwi (B:Lo) (s:Qaa) (load days:Int) (t:Qar):landM (Qan Tryz.prog (Qa6 Tryz.prog) J0 B 13 1 (Qal Tryz.prog 84 52 (([.agg (QaH s load days).toArray,.agg (QaA t).toArray]).map (Qav 0 4))) H00 1
 [(6,Qah.pure (QfA days t) []),(12,Qah.pure (slT (List.length (Qa5 load t.goods 0)) (Qab Qax (Qa5 load t.goods 0))) []),(18,Qah.old (Hint.mk s.stock.length (Qab (QbA [.int .i64 0,.int .i64 0,.int .i64 0,.slice none 0 0]) (List.replicate s.stock.length ()))))] 0 [] []) [2,3,5,6,7,25,26] [(1,KS.auto),(2,KS.auto),(5,KS.rows [] [] (Qab (Qa1 1 Qco) (List.replicate s.stock.length {stock:=0,use:=0,br:=0,ships:=[]})))] []=some ⟨84,52,QgF,[],.run,none,Qgv s load days t (0) (List.replicate s.stock.length {stock:=0,use:=0,br:=0,ships:=[]}),Qeh s load days t (0) (List.replicate s.stock.length {stock:=0,use:=0,br:=0,ships:=[]}),
 [QaQ 1 [] [] (Qab (QbA [.int .i64 0,.int .i64 0,.int .i64 0,.slice none 0 0]) (List.replicate s.stock.length ())) (Qab (Qa1 1 Qco) (List.replicate s.stock.length {stock:=0,use:=0,br:=0,ships:=[]})),QfR Tryz.prog 119 (Qca {len:=16000,tr:=Tri.set 14 Tri.lf 22 (.int .i64 (↑s.stock.length:Int))} 22) (Qca {len:=16000,tr:=Tri.set 14 Tri.lf 22 (.int .i64 (↑s.stock.length:Int))} 22)=some (129,Qab (QbA [.int .i64 0,.int .i64 0,.int .i64 0,.slice none 0 0]) (List.replicate s.stock.length ()),List.length s.stock,TypeInfo.size Tryz.t129),QaB []/\Qau Tryz.prog J0 121 #[.int .i64 load,slT t.goods.length (Qab Qax t.goods)] (slT (List.length (Qa5 load t.goods 0)) (Qab Qax (Qa5 load t.goods 0))),QaB []/\Qau Tryz.prog J0 120 #[.agg #[slT s.stock.length (Qab Qag s.stock),slT s.use.length (Qab Qa3 s.use),.int .i64 s.glo,.int .i64 s.ghi,slT s.lots.length (Qab Qao s.lots),.int .i64 s.hold,.int .i64 load,.int .i64 days],slT t.gaps.length (Qab Qag t.gaps)] (QfA days t)]⟩:=by kernel_rfl
set_option maxHeartbeats 4000000 in
theorem Qwn (s:Qaa) (load days:Int) (t:Qar) (hs:QaD s=true) (ht:Qdq s days t=true) (hd:0<=days/\days<=300) (h0:0<=load) (h1:load < 64) (hx:Qcv load<=s.lots.length) {B:Lo} (hJ:∀w,B.has w->J0 w) {c0:CF}:∀m:Nat,(∀(i:Int) (ys:List Gd),s.stock.length - i.toNat=m->∀(i0:0<=i) (hy:ys=QnZ s load days t i),QvX B c0 s load days t i ys->EndsT Tryz.prog B c0 (slG (Qcb s load days t))):=by
 intro m0
 induction m0 using Nat.strongRecOn with
 | _ m0 ih0=>
   intro i ys hm0 i0 hy ⟨dJ0,hdJ0,hg0⟩
   have ht':=ht;simp only [Qdq,Qnk,Bool.and_eq_true,decide_eq_true_iff,List.all_eq_true,Qbn] at ht'
   have hgp:=Qa0 hs
   have hst:=Qaj hs
   have hrows:=QdY hs ht'.2.2
   have hus:=(Qb8 ht'.1).1
   have hgg:∀x∈t.gaps,0<=x/\x<=60:=fun x h=> by have:=ht'.2.1.2.1 x h;omega
   have hgl:t.gaps.length<=300:=ht'.2.1.1
   have hpx:Qcv load<=t.goods.length:=by omega
   have hpl:=Qin (s:=load) (n:=0) (xs:=t.goods) (Int.le_refl _)
   have hl6:=Qfs h0 h1
   have hyl:ys.length=s.stock.length:=by rw [hy];exact QlE
   by_cases q0:(i:Int) < ((↑s.stock.length:Int))
   ·
    have rj0:FJ Tryz.prog B (Qfw s load days t i ys dJ0) (QcX s load days t i ys dJ0) 6 (OO.ret (Qay 6 (slT (List.length (List.map (fun r=> r.getD i.toNat default) (Qa5 load t.goods 0))) (Qab Qag (List.map (fun r=> r.getD i.toNat default) (Qa5 load t.goods 0)))))) (([]++((6,Qb1)::QaS (6+1) []))++QcX s load days t i ys dJ0) 7 (List.range 6) []:=by
     have hri:∀r∈Qa5 load t.goods 0,i < r.length:=fun r h=> by have:=(hrows.2 r (QcO (Int.le_refl _) hpx r h)).1;omega
     have hrx:∀x∈(Qa5 load t.goods 0).map (fun r=> r.getD i.toNat default),-1000000000<=x/\x<=1000000000:=fun x h=> by obtain ⟨r,hr,rfl⟩:=List.mem_map.1 h;obtain ⟨a,b⟩:=hrows.2 r (QcO (Int.le_refl _) hpx r hr);have:=b _ (QaI (l:=r) i0 (by omega));omega
     have hrl:((Qa5 load t.goods 0).map (fun r=> r.getD i.toNat default)).length<=1000:=by rw [List.length_map];omega
     exact FinK.fjB ((Qp4 s load days t i ys dJ0 hs ht hd h0 h1 hx i0 hy hdJ0 q0 hJ _) (0) (List.replicate (List.length (Qa5 load t.goods 0)) 0) rfl (by omega) (by exact QfL)
      (GoE.landA okF hJ Qac (Qat (by kernel_rfl)) (Qam (by kernel_rfl)) ((GoE.refl (P:=Tryz.prog) (B:=B) (c0:=Qfw s load days t i ys dJ0) (Qat (by kernel_rfl))).widen (Wf:=((([]):List (Nat×KS)).map (·.1))) (by simp) (Qam (by kernel_rfl))) (QxA B s load days t i ys dJ0)
      ⟨(by exact (QbK (by exact ⟨(.simple rfl),trivial⟩) _)),⟨(Qgo (bytes:=8) (by kernel_rfl) (by omega) (by omega) (by omega)),trivial⟩⟩ (by kernel_rfl) (by kernel_rfl) (fun l hl=> by cases hl <;> decide))) (ex:=[4]) (by kernel_rfl) ⟨trivial,⟨trivial,⟨trivial,⟨trivial,⟨trivial,⟨(QeG (t:=129) (fl:=(0,0)) (QaK (fun _=> rfl)) (by decide)),trivial⟩⟩⟩⟩⟩⟩
    have hri:∀r∈Qa5 load t.goods 0,i < r.length:=fun r h=> by have:=(hrows.2 r (QcO (Int.le_refl _) hpx r h)).1;omega
    have hrx:∀x∈(Qa5 load t.goods 0).map (fun r=> r.getD i.toNat default),-1000000000<=x/\x<=1000000000:=fun x h=> by obtain ⟨r,hr,rfl⟩:=List.mem_map.1 h;obtain ⟨a,b⟩:=hrows.2 r (QcO (Int.le_refl _) hpx r hr);have:=b _ (QaI (l:=r) i0 (by omega));omega
    have hrl:((Qa5 load t.goods 0).map (fun r=> r.getD i.toNat default)).length<=1000:=by rw [List.length_map];omega
    exact ((ih0 _ (by omega)) (i+1) (List.set ys i.toNat {stock:=s.stock.getD i.toNat default,use:=t.uses.getD i.toNat default,br:=Qgn (List.map (fun r=> r.getD i.toNat default) (Qa5 load t.goods 0)),ships:=Qdx days t.gaps}) rfl (by omega) (by (subst hy;exact QxG i0 q0))
     (hg0.landM okF hJ Qac (QwT B s load days t i ys dJ0)
     (by exact ⟨(by exact (QhK (z:=4) (fun _=> rfl) (QaC (QaK (fun _=> rfl)) (List.Mem.head _)) (by omega) (by exact ⟨(.simple rfl),⟨(.simple rfl),⟨(.simple rfl),⟨(.reg (List.Mem.head _) rfl),trivial⟩⟩⟩⟩))),⟨(QaM (by omega) (by omega)),⟨⟨(by exact QzE (z:=4) (fun _=> rfl) (by omega) rfl),rfl⟩,⟨⟨by omega,by omega⟩,⟨⟨trivial,Q5P (List.map (fun r=> r.getD i.toNat default) (Qa5 load t.goods 0)) (by with_reducible assumption) (by with_reducible assumption)⟩,⟨⟨by omega,by omega,(Qae (z:=1) (fun _=> rfl) (by omega))⟩,⟨⟨by omega,by omega,(Qae (z:=1) (fun _=> rfl) (by omega))⟩,⟨rj0,⟨(QaW q0),trivial⟩⟩⟩⟩⟩⟩⟩⟩⟩) (by kernel_rfl) (by kernel_rfl))).cast (by rfl)
   ·
    have hrl:((Qa5 load t.goods 0).map (fun r=> r.getD i.toNat default)).length<=1000:=by rw [List.length_map];omega
    exact (GoE.endsT okF hJ Qac hg0 (Qyh B s load days t i ys dJ0)
     ⟨(QbV (QaK (fun _=> rfl)) (List.Mem.head _)),⟨(Qbb (Int.not_lt.1 q0)),trivial⟩⟩).cast (by exact Qfp (hy.trans (QvW (by omega))) (by simp [Qcb,Qc7]))
set_option maxHeartbeats 4000000 in
theorem Qz9 (s:Qaa) (load days:Int) (t:Qar) (hs:QaD s=true) (ht:Qdq s days t=true) (hd:0<=days/\days<=300) (h0:0<=load) (h1:load < 64) (hx:Qcv load<=s.lots.length) {B:Lo} (hJ:∀w,B.has w->J0 w):EndsT Tryz.prog B (Qal Tryz.prog 84 52 (([.agg (QaH s load days).toArray,.agg (QaA t).toArray]).map (Qav 0 4))) (slG (Qcb s load days t)):=by
 have ht':=ht;simp only [Qdq,Qnk,Bool.and_eq_true,decide_eq_true_iff,List.all_eq_true,Qbn] at ht'
 have hgp:=Qa0 hs
 have hst:=Qaj hs
 have hrows:=QdY hs ht'.2.2
 have hus:=(Qb8 ht'.1).1
 have hgg:∀x∈t.gaps,0<=x/\x<=60:=fun x h=> by have:=ht'.2.1.2.1 x h;omega
 have hgl:t.gaps.length<=300:=ht'.2.1.1
 have hpx:Qcv load<=t.goods.length:=by omega
 have hpl:=Qin (s:=load) (n:=0) (xs:=t.goods) (Int.le_refl _)
 have hl6:=Qfs h0 h1
 exact ((Qwn s load days t hs ht hd h0 h1 hx hJ _) (0) (List.replicate s.stock.length {stock:=0,use:=0,br:=0,ships:=[]}) rfl (by omega) (by exact Q3n)
  (GoE.start.landM okF hJ Qac (Qwi B s load days t)
  (by exact ⟨(by exact (QbK (by exact ⟨(.simple rfl),⟨(.simple rfl),⟨(.simple rfl),⟨.nil,trivial⟩⟩⟩⟩) _)),⟨(Qgo (bytes:=48) (by kernel_rfl) (by omega) (by omega) (by omega)),⟨⟨trivial,Q4y (load) t.goods (by with_reducible assumption) (by with_reducible assumption) (by with_reducible assumption)⟩,⟨⟨trivial,Q4h (s) (load) (days) t.gaps (by with_reducible assumption) (by with_reducible assumption) (by with_reducible assumption)⟩,trivial⟩⟩⟩⟩) (by kernel_rfl) (by kernel_rfl))).cast (by rfl)
theorem Q2v (s:Qaa) (load days:Int) (t:Qar) (hs:QaD s=true) (ht:Qdq s days t=true) (hd:0<=days/\days<=300) (h0:0<=load) (h1:load < 64) (hx:Qcv load<=s.lots.length):Qau Tryz.prog J0 84 #[.agg (QaH s load days).toArray,.agg (QaA t).toArray] (slG (Qcb s load days t)):=
 QaF (ts:=[.agg (QaH s load days).toArray,.agg (QaA t).toArray]) Qbw (c0:=Qal Tryz.prog 84 52 (([.agg (QaH s load days).toArray,.agg (QaA t).toArray]).map (Qav 0 4))) (by kernel_rfl) (by kernel_rfl) fun B hJ=> Qz9 s load days t hs ht hd h0 h1 hx hJ
end
end Go.Proofs.YtiabgkiccaodmaaGreat

namespace Go.Proofs.YtiabgkiccaodmaaGreat
open Go Go.CE Go.RowKit
set_option maxRecDepth 100000
def Qa9 (g:Gd):Int:=Qbm g.use g.br g.ships 0 g.stock
def Qzf (g:Gd):Int:=QiL g.use g.br g.ships g.stock
theorem Qju {s:Qaa} {load:List Int} (hs:QaD s=true) (h:Qdy s load=true):(∀x∈load,0<=x/\x<=61)/\0<=Qbp load 0/\Qbp load 0 < 64/\Qcv (Qbp load 0)<=s.lots.length:=by
 have hm:=Qas hs
 simp only [Qdy,Bool.and_eq_true] at h
 have g1:=Qjm h.1 (Int.le_refl 0)
 have g3:=Qjv (k:=s.lots.length) (by omega) load 0 g1 (Int.le_refl 0) (Int.pow_pos (by decide))
 refine ⟨fun x hx=> by have:=g1 x hx;omega,g3.1, ?_,Qm8 g3.1 g3.2⟩
 refine Int.lt_of_lt_of_le g3.2 ?_
 have h1:(2:Nat) ^ s.lots.length<=2 ^ 6:=Nat.pow_le_pow_right (by decide) (by omega)
 have e:(2:Int) ^ s.lots.length=((2 ^ s.lots.length:Nat):Int):=by rw [Int.natCast_pow];rfl
 rw [e];omega
def QgG (xs:List Gd) (i:Int) (ys:List Int):List Value:=[Value.func (Fn.func 125) #[] #[],.slice (some {block:=2,off:=0}) xs.length 1,Qay 1 (slT xs.length (Qab Qco xs)),.int .i64 (↑xs.length:Int),.int .i64 i]
def Qex (xs:List Gd) (i:Int) (ys:List Int):List Obj:=[.cells (Qab Qag ys) 3 (0,0)]
noncomputable def Qg6:List Item:=([.code [1,1,0,1,0,0],.inLoop [1,1,0,1,0,0],.inBlock 0,.code [1,1,1]]).map (it (Qaq Tryz.prog 86))
def Qzq (B:Lo) (c0:CF) (xs:List Gd) (i:Int) (ys:List Int):Prop:=∃dJ:Nat->Value,(∀t,QaP (dJ t))/\GoE Tryz.prog B c0 H00 1 (Qa2 86 26 (([1,5,11,12,13]:List Nat).zip (QgG xs i ys)) dJ Qg6) (Qaz (Qex xs i ys)) (2+(Qex xs i ys).length) []
noncomputable def QlC (xs:List Gd) (i:Int):Array Value:=#[.int .i64 (Gd.stock (xs.getD i.toNat default)),.int .i64 (Gd.use (xs.getD i.toNat default)),.int .i64 (Gd.br (xs.getD i.toNat default)),slT (List.length (Gd.ships (xs.getD i.toNat default))) (Qab Qgm (Gd.ships (xs.getD i.toNat default)))]
theorem Qw0 (B:Lo) (xs:List Gd) (i:Int) (ys:List Int) (dJ0:Nat->Value):landM (Qan Tryz.prog (Qa6 Tryz.prog) J0 B 13 1 (Qa2 86 26 (([1,5,11,12,13]:List Nat).zip (QgG xs i ys)) dJ0 Qg6) (Qaz (Qex xs i ys)) (2+(Qex xs i ys).length)
 [(0,hvT),(2,Qah.tidx i.toNat (QlC xs i)),(11,Qah.pure (.int .i64 (Qbm (Gd.use (xs.getD i.toNat default)) (Gd.br (xs.getD i.toNat default)) (Gd.ships (xs.getD i.toNat default)) 0 (Gd.stock (xs.getD i.toNat default)))) []),(12,Qah.old (Hint.idx i.toNat)),(13,Qah.old (Hint.st (Qab Qag (List.set ys i.toNat (Qbm (Gd.use (xs.getD i.toNat default)) (Gd.br (xs.getD i.toNat default)) (Gd.ships (xs.getD i.toNat default)) 0 (Gd.stock (xs.getD i.toNat default))))))),(14,hvI (i+1))] 0 [] []) [1,5,11,12,13] [(2,KS.cells [] (Qab Qag (List.set ys i.toNat (Qbm (Gd.use (xs.getD i.toNat default)) (Gd.br (xs.getD i.toNat default)) (Gd.ships (xs.getD i.toNat default)) 0 (Gd.stock (xs.getD i.toNat default))))))] []=some ⟨86,26,Qg6,[],.run,none,QgG xs (i+1) (List.set ys i.toNat (Qbm (Gd.use (xs.getD i.toNat default)) (Gd.br (xs.getD i.toNat default)) (Gd.ships (xs.getD i.toNat default)) 0 (Gd.stock (xs.getD i.toNat default)))),Qex xs (i+1) (List.set ys i.toNat (Qbm (Gd.use (xs.getD i.toNat default)) (Gd.br (xs.getD i.toNat default)) (Gd.ships (xs.getD i.toNat default)) 0 (Gd.stock (xs.getD i.toNat default)))),
 [Qa8 1 [] (Qab Qag (List.set ys i.toNat (Qbm (Gd.use (xs.getD i.toNat default)) (Gd.br (xs.getD i.toNat default)) (Gd.ships (xs.getD i.toNat default)) 0 (Gd.stock (xs.getD i.toNat default))))) (Qab Qag (List.set ys i.toNat (Qbm (Gd.use (xs.getD i.toNat default)) (Gd.br (xs.getD i.toNat default)) (Gd.ships (xs.getD i.toNat default)) 0 (Gd.stock (xs.getD i.toNat default))))),wq (i+1)=i+1,0+Int.toNat i * 1+TypeInfo.size Tryz.t3<=Array.size (Qab Qag ys)/\splice (Qab Qag ys) (0+Int.toNat i * 1) (Value.cells (Qca {len:=16000,tr:=Tri.set 14 (Tri.set 14 Tri.lf 22 (.int .i64 (Qbm (Gd.use (xs.getD i.toNat default)) (Gd.br (xs.getD i.toNat default)) (Gd.ships (xs.getD i.toNat default)) 0 (Gd.stock (xs.getD i.toNat default))))) 23 (.pointer (some {block:=2,off:=0+Int.toNat i * 1}))} 22))=Qab Qag (List.set ys i.toNat (Qbm (Gd.use (xs.getD i.toNat default)) (Gd.br (xs.getD i.toNat default)) (Gd.ships (xs.getD i.toNat default)) 0 (Gd.stock (xs.getD i.toNat default)))),i=(↑i.toNat:Int)/\Int.toNat i < List.length xs,QaB []/\Qau Tryz.prog J0 125 #[.agg (QlC xs i)] (.int .i64 (Qbm (Gd.use (xs.getD i.toNat default)) (Gd.br (xs.getD i.toNat default)) (Gd.ships (xs.getD i.toNat default)) 0 (Gd.stock (xs.getD i.toNat default)))),i=(↑i.toNat:Int)/\Int.toNat i < List.length xs/\Array.extract (Qab Qco xs) (Int.toNat i * TypeInfo.size Tryz.t129) (Int.toNat i * TypeInfo.size Tryz.t129+TypeInfo.size Tryz.t129)=(QlC xs i),ltq i (↑xs.length:Int)=true]⟩:=by kernel_rfl
theorem QwW (B:Lo) (xs:List Gd) (i:Int) (ys:List Int) (dJ0:Nat->Value):Qbe (Qan Tryz.prog (Qa6 Tryz.prog) J0 B 9 1 (Qa2 86 26 (([1,5,11,12,13]:List Nat).zip (QgG xs i ys)) dJ0 Qg6) (Qaz (Qex xs i ys)) (2+(Qex xs i ys).length)
 [(0,hvF)] 0 [] []) [{k:=2,rs:=[],cs:=Qab Qag ys}]=some (slT xs.length (Fz.cs {k:=2,rs:=[],cs:=Qab Qag ys}),
 [QaY (Fz.rs {k:=2,rs:=[],cs:=Qab Qag ys}) (Qab Qag ys) (Fz.cs {k:=2,rs:=[],cs:=Qab Qag ys}),ltq i (↑xs.length:Int)=false]):=by kernel_rfl
theorem Qxs (B:Lo) (xs:List Gd):landM (Qan Tryz.prog (Qa6 Tryz.prog) J0 B 9 1 (Qal Tryz.prog 86 26 (([slG xs,.func (.func 125) #[] #[]]).map (Qav 0 4))) H00 1
 [(3,Qah.old (Hint.mk xs.length (Qab (QbA [.int .i64 0]) (List.replicate xs.length ()))))] 0 [] []) [1,5,11,12,13] [(1,KS.rows [] [] (Qab Qag (List.replicate xs.length 0)))] []=some ⟨86,26,Qg6,[],.run,none,QgG xs (0) (List.replicate xs.length 0),Qex xs (0) (List.replicate xs.length 0),
 [QaQ 1 [] [] (Qab (QbA [.int .i64 0]) (List.replicate xs.length ())) (Qab Qag (List.replicate xs.length 0)),QfR Tryz.prog 22 (Qca {len:=16000,tr:=Tri.set 14 Tri.lf 9 (.int .i64 (↑xs.length:Int))} 9) (Qca {len:=16000,tr:=Tri.set 14 Tri.lf 9 (.int .i64 (↑xs.length:Int))} 9)=some (3,Qab (QbA [.int .i64 0]) (List.replicate xs.length ()),List.length xs,TypeInfo.size Tryz.t3)]⟩:=by kernel_rfl
set_option maxHeartbeats 4000000 in
theorem Qwj (xs:List Gd) (hn:xs.length<=1000000) (hg:∀g∈xs,gdB g) {B:Lo} (hJ:∀w,B.has w->J0 w) {c0:CF}:∀m:Nat,(∀(i:Int) (ys:List Int),(xs.length - i.toNat)=m->∀(h0:0<=i) (hy:ys=Qgp Qa9 0 xs i),Qzq B c0 xs i ys->EndsT Tryz.prog B c0 (slI (xs.map Qa9))):=by
 intro m0
 induction m0 using Nat.strongRecOn with
 | _ m0 ih0=>
   intro i ys hm0 h0 hy ⟨dJ0,hdJ0,hg0⟩
   have hyl:ys.length=xs.length:=by rw [hy];exact QdD
   by_cases q0:(i:Int) < ((↑xs.length:Int))
   ·
    have hgi:=hg _ (QaI h0 q0)
    exact ((ih0 _ (by omega)) (i+1) (List.set ys i.toNat (Qbm (Gd.use (xs.getD i.toNat default)) (Gd.br (xs.getD i.toNat default)) (Gd.ships (xs.getD i.toNat default)) 0 (Gd.stock (xs.getD i.toNat default)))) rfl (by omega) (by (subst hy;exact QdJ (f:=Qa9) h0 q0))
     (hg0.landM okF hJ Qac (Qw0 B xs i ys dJ0)
     ⟨(Qaf (Qai (fun x=> List.all_eq_true.1 (by rfl)))),⟨(QaM (by omega) (by omega)),⟨(by exact QfO (z:=1) (fun _=> rfl) (by omega) rfl rfl),⟨⟨by omega,by omega⟩,⟨⟨trivial,Qvt (xs.getD i.toNat default) (by with_reducible assumption)⟩,⟨⟨by omega,by omega,(Qae (z:=4) (fun _=> rfl) (by omega))⟩,⟨(QaW q0),trivial⟩⟩⟩⟩⟩⟩⟩ (by kernel_rfl) (by kernel_rfl))).cast (by rfl)
   ·
    exact (GoE.endsT okF hJ Qac hg0 (QwW B xs i ys dJ0)
     ⟨(QaE (fun x=> List.all_eq_true.1 (by rfl))),⟨(Qbb (Int.not_lt.1 q0)),trivial⟩⟩).cast (by exact Qfp (hy.trans (QdC (by omega))) (by simp))
set_option maxHeartbeats 4000000 in
theorem Q0I (xs:List Gd) (hn:xs.length<=1000000) (hg:∀g∈xs,gdB g) {B:Lo} (hJ:∀w,B.has w->J0 w):EndsT Tryz.prog B (Qal Tryz.prog 86 26 (([slG xs,.func (.func 125) #[] #[]]).map (Qav 0 4))) (slI (xs.map Qa9)):=by
 exact ((Qwj xs hn hg hJ _) (0) (List.replicate xs.length 0) rfl (by omega) (by exact QfL)
  (GoE.start.landM okF hJ Qac (Qxs B xs)
  ⟨(by exact (QbK (by exact ⟨(.simple rfl),trivial⟩) _)),⟨(Qgo (bytes:=8) (by kernel_rfl) (by omega) (by omega) (by omega)),trivial⟩⟩ (by kernel_rfl) (by kernel_rfl))).cast (by rfl)
theorem Q49 (xs:List Gd) (hn:xs.length<=1000000) (hg:∀g∈xs,gdB g):Qau Tryz.prog J0 86 #[slG xs,.func (.func 125) #[] #[]] (slI (xs.map Qa9)):=
 QaF (ts:=[slG xs,.func (.func 125) #[] #[]]) Qbw (c0:=Qal Tryz.prog 86 26 (([slG xs,.func (.func 125) #[] #[]]).map (Qav 0 4))) (by kernel_rfl) (by kernel_rfl) fun B hJ=> Q0I xs hn hg hJ
theorem Qo0 (B:Lo) (xs:List Gd):Qbe (Qan Tryz.prog (Qa6 Tryz.prog) J0 B 6 1 (Qal Tryz.prog 85 5 (([slG xs]).map (Qav 0 4))) H00 1
 [(2,Qah.pure (slT (List.length (List.map Qa9 xs)) (Qab Qag (List.map Qa9 xs))) [])] 0 [] []) []=some (slT (List.length (List.map Qa9 xs)) (Qab Qag (List.map Qa9 xs)),
 [QaB []/\Qau Tryz.prog J0 86 #[slT xs.length (Qab Qco xs),Value.func (Fn.func 125) #[] #[]] (slT (List.length (List.map Qa9 xs)) (Qab Qag (List.map Qa9 xs)))]):=by kernel_rfl
set_option maxHeartbeats 4000000 in
theorem QqE (xs:List Gd) (hn:xs.length<=1000000) (hg:∀g∈xs,gdB g) {B:Lo} (hJ:∀w,B.has w->J0 w):EndsT Tryz.prog B (Qal Tryz.prog 85 5 (([slG xs]).map (Qav 0 4))) (slI (xs.map Qa9)):=by
 exact (GoE.endsT okF hJ Qac GoE.start (Qo0 B xs)
  ⟨⟨trivial,Q49 (xs) (by with_reducible assumption) (by with_reducible assumption)⟩,trivial⟩).cast (by rfl)
theorem QnF (xs:List Gd) (hn:xs.length<=1000000) (hg:∀g∈xs,gdB g):Qau Tryz.prog J0 85 #[slG xs] (slI (xs.map Qa9)):=
 QaF (ts:=[slG xs]) Qbw (c0:=Qal Tryz.prog 85 5 (([slG xs]).map (Qav 0 4))) (by kernel_rfl) (by kernel_rfl) fun B hJ=> QqE xs hn hg hJ
end Go.Proofs.YtiabgkiccaodmaaGreat

