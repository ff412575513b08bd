/- Something of each of a list. -/
import Derived.Test.YtiabgkiccaodmaaGreatZRA10
set_option linter.all false
namespace Go.Proofs.YtiabgkiccaodmaaGreat
open Go Go.CE Go.RowKit
set_option maxRecDepth 100000
def Qh1 {α β:Type} (f:α->β) (x0:β) (xs:List α) (i:Int):List β:=(xs.take i.toNat).map f++List.replicate (xs.length - i.toNat) x0
theorem QiY {α β:Type} {f:α->β} {x0:β} {xs:List α}:List.replicate xs.length x0=Qh1 f x0 xs 0:=by simp [Qh1]
theorem Qfv {α β:Type} {f:α->β} {x0:β} {xs:List α} {i:Int}:(Qh1 f x0 xs i).length=xs.length:=by simp [Qh1];omega
theorem Qfz {α β:Type} [Inhabited α] {f:α->β} {x0:β} {xs:List α} {i:Int} (h0:0<=i) (h:i < xs.length):(Qh1 f x0 xs i).set i.toNat (f (xs.getD i.toNat default))=Qh1 f x0 xs (i+1):=by
 obtain ⟨k,rfl⟩:∃k:Nat,i=k:=⟨i.toNat,by omega⟩
 have hk:k < xs.length:=by omega
 have e1:((k:Int)).toNat=k:=by omega
 have e2:((k:Int)+1).toNat=k+1:=by omega
 unfold Qh1
 rw [e1,e2]
 have hl:((xs.take k).map f).length=k:=by simp;omega
 rw [List.set_append_right _ _ (by omega),hl,Nat.sub_self]
 have er:xs.length - k=(xs.length - (k+1))+1:=by omega
 rw [er,List.replicate_succ,List.set_cons_zero]
 have et:xs.take (k+1)=xs.take k++[xs[k]]:=by rw [List.take_succ_eq_append_getElem hk]
 rw [et,List.map_append,List.append_assoc]
 simp [List.getD_eq_getElem?_getD,hk]
theorem Qfd {α β:Type} {f:α->β} {x0:β} {xs:List α} {i:Int} (h:xs.length<=i):Qh1 f x0 xs i=xs.map f:=by
 unfold Qh1
 rw [List.take_of_length_le (by omega),show xs.length - i.toNat=0 by omega]
 simp
theorem Qhr {β:Type} {e:β->List Value} {ys zs:List β} {n:Nat} (h:ys=zs) (hn:n=zs.length):slT n (Qac e ys)=slT zs.length (Qac e zs):=by subst h hn;rfl
def Qgu (xs:List Qad) (i:Int) (ys:List Int):List Value:=[Value.func (Fn.func 140) #[] #[],.slice (some {block:=2,off:=0}) xs.length 1,Qa0 1 (slT xs.length (Qac Qam xs)),.int .i64 (↑xs.length:Int),.int .i64 i]
def QdX (xs:List Qad) (i:Int) (ys:List Int):List Obj:=[.cells (Qac Qar ys) 3 (0,0)]
noncomputable def Qg2:List Item:=([.code [1,1,0,1,0,0],.inLoop [1,1,0,1,0,0],.inBlock 0,.code [1,1,1]]).map (it (Qal Tryz.prog 92))
def Qx7 (B:Lo) (c0:CF) (xs:List Qad) (i:Int) (ys:List Int):Prop:=∃dJ:Nat->Value,(∀t,QaS (dJ t))/\GoE Tryz.prog B c0 H00 1 (Qa4 92 26 (([1,5,11,12,13]:List Nat).zip (Qgu xs i ys)) dJ Qg2) (Qa3 (QdX xs i ys)) (2+(QdX xs i ys).length) []
noncomputable def QfV (xs:List Qad) (i:Int) (ys:List Int) (dJ0:Nat->Value):Qap:=[(3,Obj.cells #[Qa0 1 (slT (List.length (Qad.goods (xs.getD i.toNat default))) (Qac Qa6 (Qad.goods (xs.getD i.toNat default)))),.int .i64 (Qad.weight (xs.getD i.toNat default)),.int .i64 (Qad.cost (xs.getD i.toNat default))] 118),(0,Obj.coro none),(1,Obj.coro none),(2,Obj.cells (Qac Qar ys) 3)]
noncomputable def QhS (xs:List Qad) (i:Int) (ys:List Int) (dJ0:Nat->Value):CF:=⟨140,ofList 5 [.agg #[Qa0 1 (slT (List.length (Qad.goods (xs.getD i.toNat default))) (Qac Qa6 (Qad.goods (xs.getD i.toNat default)))),.int .i64 (Qad.weight (xs.getD i.toNat default)),.int .i64 (Qad.cost (xs.getD i.toNat default))]],[Item.code (Qal Tryz.prog 140)],[],.run,none⟩
theorem QvV (B:Lo) (xs:List Qad) (i:Int) (ys:List Int) (dJ0:Nat->Value):CE.finK 4 (Qak Tryz.prog (Qa1 Tryz.prog) J0 B 6 4 (QhS xs i ys dJ0) (QfV xs i ys dJ0) 4
 [] 0 [] []) [] [] []=some (OO.ret (.int .i64 (Qad.weight (xs.getD i.toNat default))),[],[],
 []):=by kernel_rfl
theorem Qxe (B:Lo) (xs:List Qad) (i:Int) (ys:List Int) (dJ0:Nat->Value):landM (Qak Tryz.prog (Qa1 Tryz.prog) J0 B 13 1 (Qa4 92 26 (([1,5,11,12,13]:List Nat).zip (Qgu xs i ys)) dJ0 Qg2) (Qa3 (QdX xs i ys)) (2+(QdX xs i ys).length)
 [(0,hvT),(2,Qaj.tidx i.toNat #[slT (List.length (Qad.goods (xs.getD i.toNat default))) (Qac Qa6 (Qad.goods (xs.getD i.toNat default))),.int .i64 (Qad.weight (xs.getD i.toNat default)),.int .i64 (Qad.cost (xs.getD i.toNat default))]),(11,Qaj.call (List.range 4) (OO.ret (.int .i64 (Qad.weight (xs.getD i.toNat default)))) ([]++(4,Qby)::QaK 5 []) 5 []),(12,Qaj.old (Hint.idx i.toNat)),(13,Qaj.old (Hint.st (Qac Qar (List.set ys i.toNat (Qad.weight (xs.getD i.toNat default)))))),(14,hvI (i+1))] 0 [] []) [1,5,11,12,13] [(2,KS.cells [] (Qac Qar (List.set ys i.toNat (Qad.weight (xs.getD i.toNat default)))))] []=some ⟨92,26,Qg2,[],.run,none,Qgu xs (i+1) (List.set ys i.toNat (Qad.weight (xs.getD i.toNat default))),QdX xs (i+1) (List.set ys i.toNat (Qad.weight (xs.getD i.toNat default))),
 [QaQ 1 [] (Qac Qar (List.set ys i.toNat (Qad.weight (xs.getD i.toNat default)))) (Qac Qar (List.set ys i.toNat (Qad.weight (xs.getD i.toNat default)))),wq (i+1)=i+1,0+Int.toNat i * 1+TypeInfo.size Tryz.t3<=Array.size (Qac Qar ys)/\splice (Qac Qar ys) (0+Int.toNat i * 1) (Value.cells (Qce {len:=16000,tr:=Tri.set 14 (Tri.set 14 Tri.lf 22 (.int .i64 (Qad.weight (xs.getD i.toNat default)))) 23 (.pointer (some {block:=2,off:=0+Int.toNat i * 1}))} 22))=Qac Qar (List.set ys i.toNat (Qad.weight (xs.getD i.toNat default))),i=(↑i.toNat:Int)/\Int.toNat i < List.length xs,FJ Tryz.prog B (QhS xs i ys dJ0) (QfV xs i ys dJ0) 4 (OO.ret (.int .i64 (Qad.weight (xs.getD i.toNat default)))) (([]++((4,Qby)::QaK (4+1) []))++QfV xs i ys dJ0) 5 (List.range 4) [],i=(↑i.toNat:Int)/\Int.toNat i < List.length xs/\Array.extract (Qac Qam xs) (Int.toNat i * TypeInfo.size Tryz.t118) (Int.toNat i * TypeInfo.size Tryz.t118+TypeInfo.size Tryz.t118)=#[slT (List.length (Qad.goods (xs.getD i.toNat default))) (Qac Qa6 (Qad.goods (xs.getD i.toNat default))),.int .i64 (Qad.weight (xs.getD i.toNat default)),.int .i64 (Qad.cost (xs.getD i.toNat default))],ltq i (↑xs.length:Int)=true]⟩:=by kernel_rfl
theorem QvZ (B:Lo) (xs:List Qad) (i:Int) (ys:List Int) (dJ0:Nat->Value):Qbb (Qak Tryz.prog (Qa1 Tryz.prog) J0 B 9 1 (Qa4 92 26 (([1,5,11,12,13]:List Nat).zip (Qgu xs i ys)) dJ0 Qg2) (Qa3 (QdX xs i ys)) (2+(QdX xs i ys).length)
 [(0,hvF)] 0 [] []) [{k:=2,rs:=[],cs:=Qac Qar ys}]=some (slT xs.length (Fz.cs {k:=2,rs:=[],cs:=Qac Qar ys}),
 [Qb8 (Fz.rs {k:=2,rs:=[],cs:=Qac Qar ys}) (Qac Qar ys) (Fz.cs {k:=2,rs:=[],cs:=Qac Qar ys}),ltq i (↑xs.length:Int)=false]):=by kernel_rfl
theorem Qwk (B:Lo) (xs:List Qad):landM (Qak Tryz.prog (Qa1 Tryz.prog) J0 B 9 1 (Qai Tryz.prog 92 26 (([slT xs.length (Qac Qam xs),.func (.func 140) #[] #[]]).map (Qaq 0 4))) H00 1
 [(3,Qaj.old (Hint.mk xs.length (Qac (Qcr [.int .i64 0]) (List.replicate xs.length ()))))] 0 [] []) [1,5,11,12,13] [(1,KS.rows [] [] (Qac Qar (List.replicate xs.length 0)))] []=some ⟨92,26,Qg2,[],.run,none,Qgu xs (0) (List.replicate xs.length 0),QdX xs (0) (List.replicate xs.length 0),
 [QaY 1 [] [] (Qac (Qcr [.int .i64 0]) (List.replicate xs.length ())) (Qac Qar (List.replicate xs.length 0)),Qhl Tryz.prog 22 (Qce {len:=16000,tr:=Tri.set 14 Tri.lf 9 (.int .i64 (↑xs.length:Int))} 9) (Qce {len:=16000,tr:=Tri.set 14 Tri.lf 9 (.int .i64 (↑xs.length:Int))} 9)=some (3,Qac (Qcr [.int .i64 0]) (List.replicate xs.length ()),List.length xs,TypeInfo.size Tryz.t3)]⟩:=by kernel_rfl
set_option maxHeartbeats 4000000 in
theorem Qvs (xs:List Qad) (hn:xs.length<=1000000) {B:Lo} (hJ:∀w,B.has w->J0 w) {c0:CF}:∀m:Nat,(∀(i:Int) (ys:List Int),(xs.length - i.toNat)=m->∀(h0:0<=i) (hy:ys=Qh1 Qad.weight 0 xs i),Qx7 B c0 xs i ys->EndsT Tryz.prog B c0 (slI (xs.map Qad.weight))):=by
 intro m0
 induction m0 using Nat.strongRecOn with
 | _ m0 ih0=>
   intro i ys hm0 h0 hy ⟨dJ0,hdJ0,hg0⟩
   have hyl:ys.length=xs.length:=by rw [hy];exact Qfv
   by_cases q0:(i:Int) < ((↑xs.length:Int))
   ·
    have rj0:FJ Tryz.prog B (QhS xs i ys dJ0) (QfV xs i ys dJ0) 4 (OO.ret (.int .i64 (Qad.weight (xs.getD i.toNat default)))) (([]++((4,Qby)::QaK (4+1) []))++QfV xs i ys dJ0) 5 (List.range 4) []:=by
     exact FinK.fjB (GoE.finK okF hJ Qab (Qan (by kernel_rfl)) (Qag (by kernel_rfl)) ((GoE.refl (P:=Tryz.prog) (B:=B) (c0:=QhS xs i ys dJ0) (Qan (by kernel_rfl))).widen (Wf:=((([]):List (Nat×KS)).map (·.1))) (by simp) (Qag (by kernel_rfl))) (QvV B xs i ys dJ0)
      trivial) (ex:=[2]) (by kernel_rfl) ⟨trivial,⟨trivial,⟨trivial,⟨(QrY (t:=3) (fl:=(0,0)) (fun x=> List.all_eq_true.1 (by rfl))),trivial⟩⟩⟩⟩
    exact ((ih0 _ (by omega)) (i+1) (List.set ys i.toNat (Qad.weight (xs.getD i.toNat default))) rfl (by omega) (by (subst hy;exact Qfz h0 q0))
     (hg0.landM okF hJ Qab (Qxe B xs i ys dJ0)
     ⟨(Qao (Qaw (fun x=> List.all_eq_true.1 (by rfl)))),⟨(QaJ (by omega) (by omega)),⟨(by exact Qin (z:=1) (fun _=> rfl) (by omega) rfl rfl),⟨⟨by omega,by omega⟩,⟨rj0,⟨⟨by omega,by omega,(Qaf (z:=3) (fun _=> rfl) (by omega))⟩,⟨(Qbl q0),trivial⟩⟩⟩⟩⟩⟩⟩ (by kernel_rfl) (by kernel_rfl))).cast (by rfl)
   ·
    exact (GoE.endsT okF hJ Qab hg0 (QvZ B xs i ys dJ0)
     ⟨(Qbe (fun x=> List.all_eq_true.1 (by rfl))),⟨(Qbq (Int.not_lt.1 q0)),trivial⟩⟩).cast (by exact Qhr (hy.trans (Qfd (by omega))) (by simp))
set_option maxHeartbeats 4000000 in
theorem QyH (xs:List Qad) (hn:xs.length<=1000000) {B:Lo} (hJ:∀w,B.has w->J0 w):EndsT Tryz.prog B (Qai Tryz.prog 92 26 (([slT xs.length (Qac Qam xs),.func (.func 140) #[] #[]]).map (Qaq 0 4))) (slI (xs.map Qad.weight)):=by
 exact ((Qvs xs hn hJ _) (0) (List.replicate xs.length 0) rfl (by omega) (by exact QiY)
  (GoE.start.landM okF hJ Qab (Qwk B xs)
  ⟨(by exact (Qcy (by exact ⟨(.simple rfl),trivial⟩) _)),⟨(Qjr (bytes:=8) (by kernel_rfl) (by omega) (by omega) (by omega)),trivial⟩⟩ (by kernel_rfl) (by kernel_rfl))).cast (by rfl)
theorem Q2z (xs:List Qad) (hn:xs.length<=1000000):Qas Tryz.prog J0 92 #[slT xs.length (Qac Qam xs),.func (.func 140) #[] #[]] (slI (xs.map Qad.weight)):=
 QaE (ts:=[slT xs.length (Qac Qam xs),.func (.func 140) #[] #[]]) Qb6 (c0:=Qai Tryz.prog 92 26 (([slT xs.length (Qac Qam xs),.func (.func 140) #[] #[]]).map (Qaq 0 4))) (by kernel_rfl) (by kernel_rfl) fun B hJ=> QyH xs hn hJ
end Go.Proofs.YtiabgkiccaodmaaGreat

namespace Go.Proofs.YtiabgkiccaodmaaGreat
open Go Go.CE Go.RowKit
noncomputable section
set_option maxRecDepth 100000
structure Qaa where
 stock:List Int
 use:List Span
 glo:Int
 ghi:Int
 lots:List Qad
 hold:Int
deriving Inhabited
abbrev Q3E (xs:List Qad):Value:=slT xs.length (Qac Qam xs)
def Qah (s:Qaa):List Value:=[slI s.stock,Qqq s.use,.int .i64 s.glo,.int .i64 s.ghi,Q3E s.lots,.int .i64 s.hold]
def Qct (xs:List Span) (most:Int):Bool:=xs.all (fun s=> Qbz s.lo s.hi 0 most)
def Qoh (k:Nat) (l:Qad):Bool:=decide (l.goods.length=k) && (Qct l.goods 100000 && (inB l.weight 0 100000 && inB l.cost 0 1000000))
def QpA (s:Qaa):Bool:=decide (s.lots.length<=6) && s.lots.all (Qoh s.stock.length)
def Qa8 (s:Qaa):Bool:=inB s.stock.length 1 4 && (s.stock.all (fun x=> inB x 0 100000) && (decide (s.use.length=s.stock.length) && (Qct s.use 1000 && (Qbz s.glo s.ghi 1 60 && (QpA s && inB s.hold 0 100000)))))
theorem Qwp (B:Lo) (a b:Int):Qbb (Qak Tryz.prog (Qa1 Tryz.prog) J0 B 6 1 (Qai Tryz.prog 75 5 (([.agg #[.int .i64 a,.int .i64 b]]).map (Qaq 0 4))) H00 1
 [(3,Qaj.pure (.bool true) [])] 0 [] []) []=some (.bool true,
 [Qa7 []/\Qas Tryz.prog J0 109 #[.agg #[.int .i64 a,.int .i64 b],.int .i64 1,.int .i64 60] (.bool true)]):=by kernel_rfl
theorem QwD (B:Lo) (a b:Int):Qbb (Qak Tryz.prog (Qa1 Tryz.prog) J0 B 6 1 (Qai Tryz.prog 75 5 (([.agg #[.int .i64 a,.int .i64 b]]).map (Qaq 0 4))) H00 1
 [(3,Qaj.pure (.bool false) [])] 0 [] []) []=some (.bool false,
 [Qa7 []/\Qas Tryz.prog J0 109 #[.agg #[.int .i64 a,.int .i64 b],.int .i64 1,.int .i64 60] (.bool false)]):=by kernel_rfl
set_option maxHeartbeats 4000000 in
theorem Qy6 (a b:Int)  {B:Lo} (hJ:∀w,B.has w->J0 w):EndsT Tryz.prog B (Qai Tryz.prog 75 5 (([.agg #[.int .i64 a,.int .i64 b]]).map (Qaq 0 4))) (.bool (Qbz a b 1 60)):=by
 cases q0:Qbz a b 1 60 with
 | true=>
   exact (GoE.endsT okF hJ Qab GoE.start (Qwp B a b)
    ⟨⟨trivial,(by have t_:=Qiy (a) (b) (1) (60);rw [q0] at t_;exact t_)⟩,trivial⟩).cast (by rfl)
 | false=>
   exact (GoE.endsT okF hJ Qab GoE.start (QwD B a b)
    ⟨⟨trivial,(by have t_:=Qiy (a) (b) (1) (60);rw [q0] at t_;exact t_)⟩,trivial⟩).cast (by rfl)
theorem Q0L (a b:Int)  :Qas Tryz.prog J0 75 #[.agg #[.int .i64 a,.int .i64 b]] (.bool (Qbz a b 1 60)):=
 QaE (ts:=[.agg #[.int .i64 a,.int .i64 b]]) Qb6 (c0:=Qai Tryz.prog 75 5 (([.agg #[.int .i64 a,.int .i64 b]]).map (Qaq 0 4))) (by kernel_rfl) (by kernel_rfl) fun B hJ=> Qy6 a b  hJ
theorem Qol (B:Lo) (n:Int):Qbb (Qak Tryz.prog (Qa1 Tryz.prog) J0 B 6 1 (Qai Tryz.prog 114 5 (([.int .i64 n]).map (Qaq 0 4))) H00 1
 [(2,Qaj.pure (.bool true) [])] 0 [] []) []=some (.bool true,
 [Qa7 []/\Qas Tryz.prog J0 76 #[.int .i64 n,.int .i64 0,.int .i64 100000] (.bool true)]):=by kernel_rfl
theorem Qpp (B:Lo) (n:Int):Qbb (Qak Tryz.prog (Qa1 Tryz.prog) J0 B 6 1 (Qai Tryz.prog 114 5 (([.int .i64 n]).map (Qaq 0 4))) H00 1
 [(2,Qaj.pure (.bool false) [])] 0 [] []) []=some (.bool false,
 [Qa7 []/\Qas Tryz.prog J0 76 #[.int .i64 n,.int .i64 0,.int .i64 100000] (.bool false)]):=by kernel_rfl
set_option maxHeartbeats 4000000 in
theorem QqJ (n:Int)  {B:Lo} (hJ:∀w,B.has w->J0 w):EndsT Tryz.prog B (Qai Tryz.prog 114 5 (([.int .i64 n]).map (Qaq 0 4))) (.bool (inB n 0 100000)):=by
 cases q0:inB n 0 100000 with
 | true=>
   exact (GoE.endsT okF hJ Qab GoE.start (Qol B n)
    ⟨⟨trivial,(by have t_:=pIn (n) (0) (100000);rw [q0] at t_;exact t_)⟩,trivial⟩).cast (by rfl)
 | false=>
   exact (GoE.endsT okF hJ Qab GoE.start (Qpp B n)
    ⟨⟨trivial,(by have t_:=pIn (n) (0) (100000);rw [q0] at t_;exact t_)⟩,trivial⟩).cast (by rfl)
theorem QhF (n:Int)  :Qas Tryz.prog J0 114 #[.int .i64 n] (.bool (inB n 0 100000)):=
 QaE (ts:=[.int .i64 n]) Qb6 (c0:=Qai Tryz.prog 114 5 (([.int .i64 n]).map (Qaq 0 4))) (by kernel_rfl) (by kernel_rfl) fun B hJ=> QqJ n  hJ
def QlC (B:Lo) (s:Qaa) (l:Qad):List Prop:=[eqq (↑l.goods.length:Int) (↑s.stock.length:Int)=true]++([]:List Prop)
def Qon (s:Qaa) (l:Qad):Qay:=[(9,hvT)]
def Qk9 (B:Lo) (s:Qaa) (l:Qad):List Prop:=[Qa7 []/\Qas Tryz.prog J0 101 #[slT l.goods.length (Qac Qa6 l.goods),.int .i64 100000] (.bool true)]++QlC B s l
def QoU (s:Qaa) (l:Qad):Qay:=Qon s l++[(13,Qaj.pure (.bool true) [])]
def QkN (B:Lo) (s:Qaa) (l:Qad):List Prop:=[Qa7 []/\Qas Tryz.prog J0 114 #[.int .i64 l.weight] (.bool true)]++Qk9 B s l
def Qpr (s:Qaa) (l:Qad):Qay:=QoU s l++[(18,Qaj.pure (.bool true) [])]
theorem QxF (B:Lo) (s:Qaa) (l:Qad):Qbb (Qak Tryz.prog (Qa1 Tryz.prog) J0 B 6 1 (Qai Tryz.prog 145 27 (([.agg (Qah s).toArray,.agg (Qam l).toArray]).map (Qaq 0 4))) H00 1
 (Qpr s l++[(23,Qaj.pure (.bool true) [])]) 0 [] []) []=some (.bool true,
 [Qa7 []/\Qas Tryz.prog J0 76 #[.int .i64 l.cost,.int .i64 0,.int .i64 1000000] (.bool true)]++QkN B s l):=by kernel_rfl
theorem Qww (B:Lo) (s:Qaa) (l:Qad):Qbb (Qak Tryz.prog (Qa1 Tryz.prog) J0 B 6 1 (Qai Tryz.prog 145 27 (([.agg (Qah s).toArray,.agg (Qam l).toArray]).map (Qaq 0 4))) H00 1
 (Qpr s l++[(23,Qaj.pure (.bool false) [])]) 0 [] []) []=some (.bool false,
 [Qa7 []/\Qas Tryz.prog J0 76 #[.int .i64 l.cost,.int .i64 0,.int .i64 1000000] (.bool false)]++QkN B s l):=by kernel_rfl
theorem QvT (B:Lo) (s:Qaa) (l:Qad):Qbb (Qak Tryz.prog (Qa1 Tryz.prog) J0 B 6 1 (Qai Tryz.prog 145 27 (([.agg (Qah s).toArray,.agg (Qam l).toArray]).map (Qaq 0 4))) H00 1
 (QoU s l++[(18,Qaj.pure (.bool false) [])]) 0 [] []) []=some (.bool false,
 [Qa7 []/\Qas Tryz.prog J0 114 #[.int .i64 l.weight] (.bool false)]++Qk9 B s l):=by kernel_rfl
theorem QwH (B:Lo) (s:Qaa) (l:Qad):Qbb (Qak Tryz.prog (Qa1 Tryz.prog) J0 B 6 1 (Qai Tryz.prog 145 27 (([.agg (Qah s).toArray,.agg (Qam l).toArray]).map (Qaq 0 4))) H00 1
 (Qon s l++[(13,Qaj.pure (.bool false) [])]) 0 [] []) []=some (.bool false,
 [Qa7 []/\Qas Tryz.prog J0 101 #[slT l.goods.length (Qac Qa6 l.goods),.int .i64 100000] (.bool false)]++QlC B s l):=by kernel_rfl
theorem QwB (B:Lo) (s:Qaa) (l:Qad):Qbb (Qak Tryz.prog (Qa1 Tryz.prog) J0 B 6 1 (Qai Tryz.prog 145 27 (([.agg (Qah s).toArray,.agg (Qam l).toArray]).map (Qaq 0 4))) H00 1
 [(9,hvF)] 0 [] []) []=some (.bool false,
 [eqq (↑l.goods.length:Int) (↑s.stock.length:Int)=false]):=by kernel_rfl
set_option maxHeartbeats 4000000 in
theorem Qyp (s:Qaa) (l:Qad)  {B:Lo} (hJ:∀w,B.has w->J0 w):EndsT Tryz.prog B (Qai Tryz.prog 145 27 (([.agg (Qah s).toArray,.agg (Qam l).toArray]).map (Qaq 0 4))) (.bool (Qoh s.stock.length l)):=by
 by_cases q0:((↑l.goods.length:Int):Int)=((↑s.stock.length:Int))
 ·
  have hp0:Qa7 (QlC B s l):=by
   exact ⟨(Qnl q0),trivial⟩
  cases q1:List.all l.goods fun s=> Qbz s.lo s.hi 0 100000 with
  | true=>
    have hp1:Qa7 (Qk9 B s l):=by
     exact ⟨⟨trivial,(by have t_:=QhN l.goods (100000);rw [q1] at t_;exact t_)⟩,hp0⟩
    cases q2:inB l.weight 0 100000 with
    | true=>
      have hp2:Qa7 (QkN B s l):=by
       exact ⟨⟨trivial,(by have t_:=QhF l.weight;rw [q2] at t_;exact t_)⟩,hp1⟩
      cases q3:inB l.cost 0 1000000 with
      | true=>
        exact (GoE.endsT okF hJ Qab GoE.start (QxF B s l)
         ⟨⟨trivial,(by have t_:=pIn l.cost (0) (1000000);rw [q3] at t_;exact t_)⟩,hp2⟩).cast (by (simp_all [Qoh,Qct];omega))
      | false=>
        exact (GoE.endsT okF hJ Qab GoE.start (Qww B s l)
         ⟨⟨trivial,(by have t_:=pIn l.cost (0) (1000000);rw [q3] at t_;exact t_)⟩,hp2⟩).cast (by (simp [Qoh,Qct, *];done))
    | false=>
      exact (GoE.endsT okF hJ Qab GoE.start (QvT B s l)
       ⟨⟨trivial,(by have t_:=QhF l.weight;rw [q2] at t_;exact t_)⟩,hp1⟩).cast (by (simp [Qoh,Qct, *];done))
  | false=>
    exact (GoE.endsT okF hJ Qab GoE.start (QwH B s l)
     ⟨⟨trivial,(by have t_:=QhN l.goods (100000);rw [q1] at t_;exact t_)⟩,hp0⟩).cast (by (simp [Qoh,Qct, *];done))
 ·
  exact (GoE.endsT okF hJ Qab GoE.start (QwB B s l)
   ⟨(Qnq q0),trivial⟩).cast (by (simp_all [Qoh,Qct];omega))
theorem Q02 (s:Qaa) (l:Qad)  :Qas Tryz.prog J0 145 #[.agg (Qah s).toArray,.agg (Qam l).toArray] (.bool (Qoh s.stock.length l)):=
 QaE (ts:=[.agg (Qah s).toArray,.agg (Qam l).toArray]) Qb6 (c0:=Qai Tryz.prog 145 27 (([.agg (Qah s).toArray,.agg (Qam l).toArray]).map (Qaq 0 4))) (by kernel_rfl) (by kernel_rfl) fun B hJ=> Qyp s l  hJ
def Qd9 (s:Qaa) (i:Int):List Value:=[pA 2 0,Qa0 1 (slT s.lots.length (Qac Qam s.lots)),.int .i64 (↑s.lots.length:Int),.int .i64 i]
def QbO (s:Qaa) (i:Int):List Obj:=[Obj.cells #[Qa0 1 (slT s.stock.length (Qac Qar s.stock)),Qa0 1 (slT s.use.length (Qac Qa6 s.use)),.int .i64 s.glo,.int .i64 s.ghi,Qa0 1 (slT s.lots.length (Qac Qam s.lots)),.int .i64 s.hold] 62]
def QdD:List Item:=([.code [1,1,0,1,0,0],.inLoop [1,1,0,1,0,0],.inBlock 0,.code [1,1,1]]).map (it (Qal Tryz.prog 113))
def Qrw (B:Lo) (c0:CF) (s:Qaa) (i:Int):Prop:=∃dJ:Nat->Value,(∀t,QaS (dJ t))/\GoE Tryz.prog B c0 H00 1 (Qa4 113 21 (([1,10,11,12]:List Nat).zip (Qd9 s i)) dJ QdD) (Qa3 (QbO s i)) (2+(QbO s i).length) []
def QfL (s:Qaa) (i:Int):Array Value:=#[slT (List.length (Qad.goods (s.lots.getD i.toNat default))) (Qac Qa6 (Qad.goods (s.lots.getD i.toNat default))),.int .i64 (Qad.weight (s.lots.getD i.toNat default)),.int .i64 (Qad.cost (s.lots.getD i.toNat default))]
def Qh0 (B:Lo) (s:Qaa) (i:Int) (dJ0:Nat->Value):List Prop:=[i=(↑i.toNat:Int)/\Int.toNat i < List.length s.lots/\Array.extract (Qac Qam s.lots) (Int.toNat i * TypeInfo.size Tryz.t118) (Int.toNat i * TypeInfo.size Tryz.t118+TypeInfo.size Tryz.t118)=(QfL s i),ltq i (↑s.lots.length:Int)=true]++([]:List Prop)
def Qkx (s:Qaa) (i:Int) (dJ0:Nat->Value):Qay:=[(0,hvT),(1,Qaj.tidx i.toNat (QfL s i))]
theorem Qrk (B:Lo) (s:Qaa) (i:Int) (dJ0:Nat->Value):landM (Qak Tryz.prog (Qa1 Tryz.prog) J0 B 16 1 (Qa4 113 21 (([1,10,11,12]:List Nat).zip (Qd9 s i)) dJ0 QdD) (Qa3 (QbO s i)) (2+(QbO s i).length)
 (Qkx s i dJ0++[(7,Qaj.pure (.bool true) []),(9,hvI (i+1))]) 0 [] []) [1,10,11,12] [(2,KS.auto)] []=some ⟨113,21,QdD,[],.run,none,Qd9 s (i+1),QbO s (i+1),
 [wq (i+1)=i+1,Qa7 []/\Qas Tryz.prog J0 145 #[.agg #[slT s.stock.length (Qac Qar s.stock),slT s.use.length (Qac Qa6 s.use),.int .i64 s.glo,.int .i64 s.ghi,slT s.lots.length (Qac Qam s.lots),.int .i64 s.hold],.agg (QfL s i)] (.bool true)]++Qh0 B s i dJ0⟩:=by kernel_rfl
theorem QqK (B:Lo) (s:Qaa) (i:Int) (dJ0:Nat->Value):Qbb (Qak Tryz.prog (Qa1 Tryz.prog) J0 B 16 1 (Qa4 113 21 (([1,10,11,12]:List Nat).zip (Qd9 s i)) dJ0 QdD) (Qa3 (QbO s i)) (2+(QbO s i).length)
 (Qkx s i dJ0++[(7,Qaj.pure (.bool false) [])]) 0 [] []) []=some (.bool false,
 [Qa7 []/\Qas Tryz.prog J0 145 #[.agg #[slT s.stock.length (Qac Qar s.stock),slT s.use.length (Qac Qa6 s.use),.int .i64 s.glo,.int .i64 s.ghi,slT s.lots.length (Qac Qam s.lots),.int .i64 s.hold],.agg (QfL s i)] (.bool false)]++Qh0 B s i dJ0):=by kernel_rfl
theorem Qro (B:Lo) (s:Qaa) (i:Int) (dJ0:Nat->Value):Qbb (Qak Tryz.prog (Qa1 Tryz.prog) J0 B 9 1 (Qa4 113 21 (([1,10,11,12]:List Nat).zip (Qd9 s i)) dJ0 QdD) (Qa3 (QbO s i)) (2+(QbO s i).length)
 [(0,hvF)] 0 [] []) []=some (.bool true,
 [ltq i (↑s.lots.length:Int)=false]):=by kernel_rfl
theorem Qrz (B:Lo) (s:Qaa):Qbb (Qak Tryz.prog (Qa1 Tryz.prog) J0 B 10 1 (Qai Tryz.prog 113 21 (([.agg (Qah s).toArray]).map (Qaq 0 4))) H00 1
 [(5,hvT)] 0 [] []) []=some (.bool false,
 [ltq 6 (↑s.lots.length:Int)=true]):=by kernel_rfl
theorem Qr1 (B:Lo) (s:Qaa):landM (Qak Tryz.prog (Qa1 Tryz.prog) J0 B 12 1 (Qai Tryz.prog 113 21 (([.agg (Qah s).toArray]).map (Qaq 0 4))) H00 1
 [(5,hvF)] 0 [] []) [1,10,11,12] [(1,KS.auto)] []=some ⟨113,21,QdD,[],.run,none,Qd9 s (0),QbO s (0),
 [ltq 6 (↑s.lots.length:Int)=false]⟩:=by kernel_rfl
set_option maxHeartbeats 4000000 in
theorem Qq0 (s:Qaa)  (hfacts:s.lots.length<=9223372036854775807) {B:Lo} (hJ:∀w,B.has w->J0 w) {c0:CF}:∀m:Nat,(∀(i:Int),s.lots.length - i.toNat=m->∀(h0:0<=i) (h6:s.lots.length<=6),Qrw B c0 s i->EndsT Tryz.prog B c0 (.bool ((s.lots.drop i.toNat).all (Qoh s.stock.length)))):=by
 intro m0
 induction m0 using Nat.strongRecOn with
 | _ m0 ih0=>
   intro i hm0 h0 h6 ⟨dJ0,hdJ0,hg0⟩
   by_cases q0:(i:Int) < ((↑s.lots.length:Int))
   ·
    have hp0:Qa7 (Qh0 B s i dJ0):=by
     exact ⟨⟨by omega,by omega,(Qaf (z:=3) (fun _=> rfl) (by omega))⟩,⟨(Qbl q0),trivial⟩⟩
    cases q1:Qoh s.stock.length (s.lots.getD i.toNat default) with
    | true=>
      exact ((ih0 _ (by omega)) (i+1) rfl (by omega) (by with_reducible assumption)
       (hg0.landM okF hJ Qab (Qrk B s i dJ0)
       ⟨(QaJ (by omega) (by omega)),⟨⟨trivial,(by have t_:=Q02 (s) (s.lots.getD i.toNat default);rw [q1] at t_;exact t_)⟩,hp0⟩⟩ (by kernel_rfl) (by kernel_rfl))).cast (by (rw [QgT (i:=i)];(· simp_all);(· omega);(· omega)))
    | false=>
      exact (GoE.endsT okF hJ Qab hg0 (QqK B s i dJ0)
       ⟨⟨trivial,(by have t_:=Q02 (s) (s.lots.getD i.toNat default);rw [q1] at t_;exact t_)⟩,hp0⟩).cast (by (rw [QgT (i:=i)];(· simp_all);(· omega);(· omega)))
   ·
    exact (GoE.endsT okF hJ Qab hg0 (Qro B s i dJ0)
     ⟨(Qbq (Int.not_lt.1 q0)),trivial⟩).cast (by (rw [QjT (i:=i)];(· simp_all);(· omega)))
set_option maxHeartbeats 4000000 in
theorem Quj (s:Qaa)  (hfacts:s.lots.length<=9223372036854775807) {B:Lo} (hJ:∀w,B.has w->J0 w):EndsT Tryz.prog B (Qai Tryz.prog 113 21 (([.agg (Qah s).toArray]).map (Qaq 0 4))) (.bool (QpA s)):=by
 by_cases q0:(6:Int) < ((↑s.lots.length:Int))
 ·
  exact (GoE.endsT okF hJ Qab GoE.start (Qrz B s)
   ⟨(Qbl q0),trivial⟩).cast (by (simp_all [QpA];omega))
 ·
  exact ((Qq0 s hfacts hJ _) (0) rfl (by omega) (by omega)
   (GoE.start.landM okF hJ Qab (Qr1 B s)
   ⟨(Qbq (Int.not_lt.1 q0)),trivial⟩ (by kernel_rfl) (by kernel_rfl))).cast (by (simp_all [QpA];omega))
theorem Qs5 (s:Qaa)  :Qas Tryz.prog J0 113 #[.agg (Qah s).toArray] (.bool (QpA s)):=
 Qc2 (ts:=[.agg (Qah s).toArray]) (s.lots.length<=9223372036854775807) (fun _ _ ht=> ht.ln2 (i:=0) (j:=4) rfl rfl) Qb6 (c0:=Qai Tryz.prog 113 21 (([.agg (Qah s).toArray]).map (Qaq 0 4))) (by kernel_rfl) (by kernel_rfl) fun hfacts B hJ=> Quj s  hfacts hJ
def Qhw (B:Lo) (s:Qaa):List Prop:=[Qa7 []/\Qas Tryz.prog J0 76 #[.int .i64 (↑s.stock.length:Int),.int .i64 1,.int .i64 4] (.bool true)]++([]:List Prop)
def Qlw (s:Qaa):Qay:=[(5,Qaj.pure (.bool true) [])]
def Qhu (B:Lo) (s:Qaa):List Prop:=[Qa7 []/\Qas Tryz.prog J0 100 #[slT s.stock.length (Qac Qar s.stock),.int .i64 0,.int .i64 100000] (.bool true)]++Qhw B s
def Qkg (s:Qaa):Qay:=Qlw s++[(9,Qaj.pure (.bool true) [])]
def Qhx (B:Lo) (s:Qaa):List Prop:=[eqq (↑s.use.length:Int) (↑s.stock.length:Int)=true]++Qhu B s
def Qlt (s:Qaa):Qay:=Qkg s++[(18,hvT)]
def Qhq (B:Lo) (s:Qaa):List Prop:=[Qa7 []/\Qas Tryz.prog J0 101 #[slT s.use.length (Qac Qa6 s.use),.int .i64 1000] (.bool true)]++Qhx B s
def Qli (s:Qaa):Qay:=Qlt s++[(23,Qaj.pure (.bool true) [])]
def Qh2 (B:Lo) (s:Qaa):List Prop:=[Qa7 []/\Qas Tryz.prog J0 75 #[.agg #[.int .i64 s.glo,.int .i64 s.ghi]] (.bool true)]++Qhq B s
def QlY (s:Qaa):Qay:=Qli s++[(28,Qaj.pure (.bool true) [])]
def Qhn (B:Lo) (s:Qaa):List Prop:=[Qa7 []/\Qas Tryz.prog J0 113 #[.agg #[slT s.stock.length (Qac Qar s.stock),slT s.use.length (Qac Qa6 s.use),.int .i64 s.glo,.int .i64 s.ghi,slT s.lots.length (Qac Qam s.lots),.int .i64 s.hold]] (.bool true)]++Qh2 B s
def QkL (s:Qaa):Qay:=QlY s++[(32,Qaj.pure (.bool true) [])]
theorem Qq5 (B:Lo) (s:Qaa):Qbb (Qak Tryz.prog (Qa1 Tryz.prog) J0 B 6 1 (Qai Tryz.prog 79 40 (([.agg (Qah s).toArray]).map (Qaq 0 4))) H00 1
 (QkL s++[(37,Qaj.pure (.bool true) [])]) 0 [] []) []=some (.bool true,
 [Qa7 []/\Qas Tryz.prog J0 114 #[.int .i64 s.hold] (.bool true)]++Qhn B s):=by kernel_rfl
theorem QqD (B:Lo) (s:Qaa):Qbb (Qak Tryz.prog (Qa1 Tryz.prog) J0 B 6 1 (Qai Tryz.prog 79 40 (([.agg (Qah s).toArray]).map (Qaq 0 4))) H00 1
 (QkL s++[(37,Qaj.pure (.bool false) [])]) 0 [] []) []=some (.bool false,
 [Qa7 []/\Qas Tryz.prog J0 114 #[.int .i64 s.hold] (.bool false)]++Qhn B s):=by kernel_rfl
theorem Qr6 (B:Lo) (s:Qaa):Qbb (Qak Tryz.prog (Qa1 Tryz.prog) J0 B 6 1 (Qai Tryz.prog 79 40 (([.agg (Qah s).toArray]).map (Qaq 0 4))) H00 1
 (QlY s++[(32,Qaj.pure (.bool false) [])]) 0 [] []) []=some (.bool false,
 [Qa7 []/\Qas Tryz.prog J0 113 #[.agg #[slT s.stock.length (Qac Qar s.stock),slT s.use.length (Qac Qa6 s.use),.int .i64 s.glo,.int .i64 s.ghi,slT s.lots.length (Qac Qam s.lots),.int .i64 s.hold]] (.bool false)]++Qh2 B s):=by kernel_rfl
theorem QqI (B:Lo) (s:Qaa):Qbb (Qak Tryz.prog (Qa1 Tryz.prog) J0 B 6 1 (Qai Tryz.prog 79 40 (([.agg (Qah s).toArray]).map (Qaq 0 4))) H00 1
 (Qli s++[(28,Qaj.pure (.bool false) [])]) 0 [] []) []=some (.bool false,
 [Qa7 []/\Qas Tryz.prog J0 75 #[.agg #[.int .i64 s.glo,.int .i64 s.ghi]] (.bool false)]++Qhq B s):=by kernel_rfl
theorem Qrb (B:Lo) (s:Qaa):Qbb (Qak Tryz.prog (Qa1 Tryz.prog) J0 B 6 1 (Qai Tryz.prog 79 40 (([.agg (Qah s).toArray]).map (Qaq 0 4))) H00 1
 (Qlt s++[(23,Qaj.pure (.bool false) [])]) 0 [] []) []=some (.bool false,
 [Qa7 []/\Qas Tryz.prog J0 101 #[slT s.use.length (Qac Qa6 s.use),.int .i64 1000] (.bool false)]++Qhx B s):=by kernel_rfl
theorem Qrd (B:Lo) (s:Qaa):Qbb (Qak Tryz.prog (Qa1 Tryz.prog) J0 B 6 1 (Qai Tryz.prog 79 40 (([.agg (Qah s).toArray]).map (Qaq 0 4))) H00 1
 (Qkg s++[(18,hvF)]) 0 [] []) []=some (.bool false,
 [eqq (↑s.use.length:Int) (↑s.stock.length:Int)=false]++Qhu B s):=by kernel_rfl
theorem Qre (B:Lo) (s:Qaa):Qbb (Qak Tryz.prog (Qa1 Tryz.prog) J0 B 6 1 (Qai Tryz.prog 79 40 (([.agg (Qah s).toArray]).map (Qaq 0 4))) H00 1
 (Qlw s++[(9,Qaj.pure (.bool false) [])]) 0 [] []) []=some (.bool false,
 [Qa7 []/\Qas Tryz.prog J0 100 #[slT s.stock.length (Qac Qar s.stock),.int .i64 0,.int .i64 100000] (.bool false)]++Qhw B s):=by kernel_rfl
theorem Qrt (B:Lo) (s:Qaa):Qbb (Qak Tryz.prog (Qa1 Tryz.prog) J0 B 6 1 (Qai Tryz.prog 79 40 (([.agg (Qah s).toArray]).map (Qaq 0 4))) H00 1
 [(5,Qaj.pure (.bool false) [])] 0 [] []) []=some (.bool false,
 [Qa7 []/\Qas Tryz.prog J0 76 #[.int .i64 (↑s.stock.length:Int),.int .i64 1,.int .i64 4] (.bool false)]):=by kernel_rfl
set_option maxHeartbeats 4000000 in
theorem Qt4 (s:Qaa)  (hfacts:s.stock.length<=9223372036854775807/\s.use.length<=9223372036854775807) {B:Lo} (hJ:∀w,B.has w->J0 w):EndsT Tryz.prog B (Qai Tryz.prog 79 40 (([.agg (Qah s).toArray]).map (Qaq 0 4))) (.bool (Qa8 s)):=by
 cases q0:inB (↑s.stock.length:Int) 1 4 with
 | true=>
   have hp0:Qa7 (Qhw B s):=by
    exact ⟨⟨trivial,(by have t_:=pIn ((↑s.stock.length:Int)) (1) (4);rw [q0] at t_;exact t_)⟩,trivial⟩
   cases q1:List.all s.stock fun x=> inB x 0 100000 with
   | true=>
     have hp1:Qa7 (Qhu B s):=by
      exact ⟨⟨trivial,(by have t_:=Q06 s.stock (0) (100000);rw [q1] at t_;exact t_)⟩,hp0⟩
     by_cases q2:((↑s.use.length:Int):Int)=((↑s.stock.length:Int))
     ·
      have hp2:Qa7 (Qhx B s):=by
       exact ⟨(Qnl q2),hp1⟩
      cases q3:List.all s.use fun s=> Qbz s.lo s.hi 0 1000 with
      | true=>
        have hp3:Qa7 (Qhq B s):=by
         exact ⟨⟨trivial,(by have t_:=QhN s.use (1000);rw [q3] at t_;exact t_)⟩,hp2⟩
        cases q4:Qbz s.glo s.ghi 1 60 with
        | true=>
          have hp4:Qa7 (Qh2 B s):=by
           exact ⟨⟨trivial,(by have t_:=Q0L s.glo s.ghi;rw [q4] at t_;exact t_)⟩,hp3⟩
          cases q5:QpA s with
          | true=>
            have hp5:Qa7 (Qhn B s):=by
             exact ⟨⟨trivial,(by have t_:=Qs5 (s);rw [q5] at t_;exact t_)⟩,hp4⟩
            cases q6:inB s.hold 0 100000 with
            | true=>
              exact (GoE.endsT okF hJ Qab GoE.start (Qq5 B s)
               ⟨⟨trivial,(by have t_:=QhF s.hold;rw [q6] at t_;exact t_)⟩,hp5⟩).cast (by (simp_all [Qa8,Qct];omega))
            | false=>
              exact (GoE.endsT okF hJ Qab GoE.start (QqD B s)
               ⟨⟨trivial,(by have t_:=QhF s.hold;rw [q6] at t_;exact t_)⟩,hp5⟩).cast (by (simp [Qa8,Qct, *];done))
          | false=>
            exact (GoE.endsT okF hJ Qab GoE.start (Qr6 B s)
             ⟨⟨trivial,(by have t_:=Qs5 (s);rw [q5] at t_;exact t_)⟩,hp4⟩).cast (by (simp [Qa8,Qct, *];done))
        | false=>
          exact (GoE.endsT okF hJ Qab GoE.start (QqI B s)
           ⟨⟨trivial,(by have t_:=Q0L s.glo s.ghi;rw [q4] at t_;exact t_)⟩,hp3⟩).cast (by (simp [Qa8,Qct, *];done))
      | false=>
        exact (GoE.endsT okF hJ Qab GoE.start (Qrb B s)
         ⟨⟨trivial,(by have t_:=QhN s.use (1000);rw [q3] at t_;exact t_)⟩,hp2⟩).cast (by (simp [Qa8,Qct, *];done))
     ·
      exact (GoE.endsT okF hJ Qab GoE.start (Qrd B s)
       ⟨(Qnq q2),hp1⟩).cast (by (simp_all [Qa8,Qct];omega))
   | false=>
     exact (GoE.endsT okF hJ Qab GoE.start (Qre B s)
      ⟨⟨trivial,(by have t_:=Q06 s.stock (0) (100000);rw [q1] at t_;exact t_)⟩,hp0⟩).cast (by (simp [Qa8,Qct, *];done))
 | false=>
   exact (GoE.endsT okF hJ Qab GoE.start (Qrt B s)
    ⟨⟨trivial,(by have t_:=pIn ((↑s.stock.length:Int)) (1) (4);rw [q0] at t_;exact t_)⟩,trivial⟩).cast (by (simp [Qa8,Qct, *];done))
theorem QrT (s:Qaa)  :Qas Tryz.prog J0 79 #[.agg (Qah s).toArray] (.bool (Qa8 s)):=
 Qc2 (ts:=[.agg (Qah s).toArray]) (s.stock.length<=9223372036854775807/\s.use.length<=9223372036854775807) (fun _ _ ht=> ⟨ht.ln2 (i:=0) (j:=0) rfl rfl,ht.ln2 (i:=0) (j:=1) rfl rfl⟩) Qb6 (c0:=Qai Tryz.prog 79 40 (([.agg (Qah s).toArray]).map (Qaq 0 4))) (by kernel_rfl) (by kernel_rfl) fun hfacts B hJ=> Qt4 s  hfacts hJ
theorem Qrq (B:Lo) (n:Int):Qbb (Qak Tryz.prog (Qa1 Tryz.prog) J0 B 6 1 (Qai Tryz.prog 81 5 (([.int .i64 n]).map (Qaq 0 4))) H00 1
 [(2,Qaj.pure (.bool true) [])] 0 [] []) []=some (.bool true,
 [Qa7 []/\Qas Tryz.prog J0 76 #[.int .i64 n,.int .i64 0,.int .i64 300] (.bool true)]):=by kernel_rfl
theorem Qrr (B:Lo) (n:Int):Qbb (Qak Tryz.prog (Qa1 Tryz.prog) J0 B 6 1 (Qai Tryz.prog 81 5 (([.int .i64 n]).map (Qaq 0 4))) H00 1
 [(2,Qaj.pure (.bool false) [])] 0 [] []) []=some (.bool false,
 [Qa7 []/\Qas Tryz.prog J0 76 #[.int .i64 n,.int .i64 0,.int .i64 300] (.bool false)]):=by kernel_rfl
set_option maxHeartbeats 4000000 in
theorem QsX (n:Int)  {B:Lo} (hJ:∀w,B.has w->J0 w):EndsT Tryz.prog B (Qai Tryz.prog 81 5 (([.int .i64 n]).map (Qaq 0 4))) (.bool (inB n 0 300)):=by
 cases q0:inB n 0 300 with
 | true=>
   exact (GoE.endsT okF hJ Qab GoE.start (Qrq B n)
    ⟨⟨trivial,(by have t_:=pIn (n) (0) (300);rw [q0] at t_;exact t_)⟩,trivial⟩).cast (by rfl)
 | false=>
   exact (GoE.endsT okF hJ Qab GoE.start (Qrr B n)
    ⟨⟨trivial,(by have t_:=pIn (n) (0) (300);rw [q0] at t_;exact t_)⟩,trivial⟩).cast (by rfl)
theorem Qsg (n:Int)  :Qas Tryz.prog J0 81 #[.int .i64 n] (.bool (inB n 0 300)):=
 QaE (ts:=[.int .i64 n]) Qb6 (c0:=Qai Tryz.prog 81 5 (([.int .i64 n]).map (Qaq 0 4))) (by kernel_rfl) (by kernel_rfl) fun B hJ=> QsX n  hJ
def QiO (B:Lo) (s:Qaa) (k:Int):List Prop:=[wq ((↑s.stock.length:Int) - 1)=(↑s.stock.length:Int) - 1]++([]:List Prop)
def QmB (s:Qaa) (k:Int):Qay:=[(6,hvI ((↑s.stock.length:Int) - 1))]
theorem QsT (B:Lo) (s:Qaa) (k:Int):Qbb (Qak Tryz.prog (Qa1 Tryz.prog) J0 B 6 1 (Qai Tryz.prog 90 11 (([.agg (Qah s).toArray,.int .i64 k]).map (Qaq 0 4))) H00 1
 (QmB s k++[(7,Qaj.pure (.bool true) [])]) 0 [] []) []=some (.bool true,
 [Qa7 []/\Qas Tryz.prog J0 76 #[.int .i64 k,.int .i64 0,.int .i64 ((↑s.stock.length:Int) - 1)] (.bool true)]++QiO B s k):=by kernel_rfl
theorem QtJ (B:Lo) (s:Qaa) (k:Int):Qbb (Qak Tryz.prog (Qa1 Tryz.prog) J0 B 6 1 (Qai Tryz.prog 90 11 (([.agg (Qah s).toArray,.int .i64 k]).map (Qaq 0 4))) H00 1
 (QmB s k++[(7,Qaj.pure (.bool false) [])]) 0 [] []) []=some (.bool false,
 [Qa7 []/\Qas Tryz.prog J0 76 #[.int .i64 k,.int .i64 0,.int .i64 ((↑s.stock.length:Int) - 1)] (.bool false)]++QiO B s k):=by kernel_rfl
set_option maxHeartbeats 4000000 in
theorem Qxp (s:Qaa) (k:Int)  (hfacts:s.stock.length<=9223372036854775807) {B:Lo} (hJ:∀w,B.has w->J0 w):EndsT Tryz.prog B (Qai Tryz.prog 90 11 (([.agg (Qah s).toArray,.int .i64 k]).map (Qaq 0 4))) (.bool (inB k 0 (s.stock.length - 1))):=by
 have hp0:Qa7 (QiO B s k):=by
  exact ⟨(QaJ (by omega) (by omega)),trivial⟩
 cases q0:inB k 0 ((↑s.stock.length:Int) - 1) with
 | true=>
   exact (GoE.endsT okF hJ Qab GoE.start (QsT B s k)
    ⟨⟨trivial,(by have t_:=pIn (k) (0) ((↑s.stock.length:Int) - 1);rw [q0] at t_;exact t_)⟩,hp0⟩).cast (by rfl)
 | false=>
   exact (GoE.endsT okF hJ Qab GoE.start (QtJ B s k)
    ⟨⟨trivial,(by have t_:=pIn (k) (0) ((↑s.stock.length:Int) - 1);rw [q0] at t_;exact t_)⟩,hp0⟩).cast (by rfl)
theorem Qx2 (s:Qaa) (k:Int)  :Qas Tryz.prog J0 90 #[.agg (Qah s).toArray,.int .i64 k] (.bool (inB k 0 (s.stock.length - 1))):=
 Qc2 (ts:=[.agg (Qah s).toArray,.int .i64 k]) (s.stock.length<=9223372036854775807) (fun _ _ ht=> ht.ln2 (i:=0) (j:=0) rfl rfl) Qb6 (c0:=Qai Tryz.prog 90 11 (([.agg (Qah s).toArray,.int .i64 k]).map (Qaq 0 4))) (by kernel_rfl) (by kernel_rfl) fun hfacts B hJ=> Qxp s k  hfacts hJ
end
end Go.Proofs.YtiabgkiccaodmaaGreat

namespace Go.Proofs.YtiabgkiccaodmaaGreat
open Go Go.CE Go.RowKit
noncomputable section
set_option maxRecDepth 100000
def Qd4 (things:Int):List Int->Int->Bool
 | [],_=> true
 | n::l,least=> inB n least (things - 1) && Qd4 things l (n+1)
def QeE:List Int->Int
 | []=> 0
 | x::l=> x+QeE l
theorem Qcq {things least i:Int} {l:List Int} (h0:0<=i) (h:i < l.length):Qd4 things (l.drop i.toNat) least=(inB (l.getD i.toNat default) least (things - 1) && Qd4 things (l.drop (i+1).toNat) (l.getD i.toNat default+1)):=by
 obtain ⟨k,rfl⟩:∃k:Nat,i=k:=⟨i.toNat,by omega⟩
 have hk:k < l.length:=by omega
 have e1:((k:Int)).toNat=k:=by omega
 have e2:((k:Int)+1).toNat=k+1:=by omega
 rw [e1,e2,List.drop_eq_getElem_cons hk]
 simp [Qd4,List.getD_eq_getElem?_getD,hk]
theorem Qkv {things least i:Int} {l:List Int} (h:l.length<=i):Qd4 things (l.drop i.toNat) least=true:=by
 rw [List.drop_eq_nil_of_le (by omega)];rfl
theorem QvC {i:Int} {l:List Int} (h0:0<=i) (h:i < l.length):QeE (l.drop i.toNat)=l.getD i.toNat default+QeE (l.drop (i+1).toNat):=by
 obtain ⟨k,rfl⟩:∃k:Nat,i=k:=⟨i.toNat,by omega⟩
 have hk:k < l.length:=by omega
 have e1:((k:Int)).toNat=k:=by omega
 have e2:((k:Int)+1).toNat=k+1:=by omega
 rw [e1,e2,List.drop_eq_getElem_cons hk]
 simp [QeE,List.getD_eq_getElem?_getD,hk]
theorem Qzk {i:Int} {l:List Int} (h:l.length<=i):QeE (l.drop i.toNat)=0:=by
 rw [List.drop_eq_nil_of_le (by omega)];rfl
theorem QaB {α:Type} [Inhabited α] {l:List α} {i:Int} (h0:0<=i) (h:i < l.length):l.getD i.toNat default∈l:=by
 have hk:i.toNat < l.length:=by omega
 rw [List.getD_eq_getElem?_getD,List.getElem?_eq_getElem hk];exact List.getElem_mem hk
theorem Qjg {things:Int}:∀{l:List Int} {least:Int},Qd4 things l least=true->0<=least->∀x∈l,0<=x/\x < things
 | [],_,_,_,x,hx=> by simp at hx
 | n::l,least,h,h0,x,hx=> by
   simp only [Qd4,Bool.and_eq_true,QaW] at h
   rcases List.mem_cons.1 hx with rfl | hx
   ·omega
   ·exact Qjg h.2 (by omega) x hx
theorem Qi6 {k:Nat} (hk:k<=61):∀(l:List Int) (s:Int),(∀x∈l,0<=x/\x < k)->0<=s->s < 2 ^ k->0<=QcM l s/\QcM l s < 2 ^ k
 | [],s,_,h0,h1=> ⟨h0,h1⟩
 | n::l,s,h,h0,h1=> by
   have hn:=h n (by simp)
   exact Qi6 hk l (Qoi s n) (fun x hx=> h x (by simp [hx])) (Int.natCast_nonneg _) (Qvj h0 h1 (by omega))
theorem Qkk {s:Int} {k:Nat} (h0:0<=s) (h1:s < 2 ^ k):Qcf s<=k:=by
 unfold Qcf
 by_cases hs:s=0
 ·rw [if_pos hs];omega
 ·rw [if_neg hs]
  obtain ⟨b,rfl⟩:∃b:Nat,s=b:=⟨s.toNat,by omega⟩
  have hb:b≠0:=by omega
  have h2:b < 2 ^ k:=by
   have e:(2:Int) ^ k=((2 ^ k:Nat):Int):=by rw [Int.natCast_pow];rfl
   rw [e] at h1;exact_mod_cast h1
  have:=(Nat.log2_lt hb).2 h2
  rw [Int.toNat_natCast];omega
theorem QcJ {α:Type} [Inhabited α] {s n:Int} {xs:List α} (hn:0<=n) (hx:Qcf s<=xs.length):∀x∈Qax s xs n,x∈xs:=by
 intro x h
 unfold Qax at h
 obtain ⟨k,hk,rfl⟩:=List.mem_map.1 h
 have hk:=(List.mem_filter.1 hk).1
 unfold upI at hk
 obtain ⟨j,hj,rfl⟩:=List.mem_map.1 hk
 have:=List.mem_range.1 hj
 exact QaB (by omega) (by omega)
theorem QhK {α:Type} [Inhabited α] {s n:Int} {xs:List α} (hn:0<=n):((Qax s xs n).length:Int)<=max 0 (Qcf s - n):=by
 unfold Qax
 rw [List.length_map]
 have:=List.length_filter_le (QjF s) (upI n (Qcf s))
 have e:(upI n (Qcf s)).length=(Qcf s - n).toNat:=by simp [upI]
 omega
theorem Qa2 {s:Qaa} (h:Qa8 s=true):s.lots.length<=6/\∀l∈s.lots,Qoh s.stock.length l=true:=by
 simp only [Qa8,QpA,Bool.and_eq_true,decide_eq_true_iff,List.all_eq_true] at h
 exact ⟨h.2.2.2.2.2.1.1,h.2.2.2.2.2.1.2⟩
theorem Qc6 {k:Nat} {l:Qad} (h:Qoh k l=true):l.goods.length=k/\(∀g∈l.goods,0<=g.lo/\g.lo<=g.hi/\g.hi<=100000)/\0<=l.weight/\l.weight<=100000/\0<=l.cost/\l.cost<=1000000:=by
 simp only [Qoh,Qct,Qbz,Bool.and_eq_true,decide_eq_true_iff,List.all_eq_true,QaW] at h
 exact ⟨h.1,h.2.1,h.2.2.1.1,h.2.2.1.2,h.2.2.2.1,h.2.2.2.2⟩
def Qrf (s:Qaa) (load:Int):Bool:=decide (QeE ((Qax load s.lots 0).map Qad.weight)<=s.hold)
def QbV (s:Qaa) (load:List Int):Bool:=Qd4 s.lots.length load 0 && Qrf s (QcM load 0)
def Qck (xs:List Int) (things:Int) (least i:Int):List Value:=[.int .i64 things,.int .i64 least,Qa0 1 (slT xs.length (Qac Qar xs)),.int .i64 (↑xs.length:Int),.int .i64 i]
def Qbj (xs:List Int) (things:Int) (least i:Int):List Obj:=[]
def Qco:List Item:=([.code [1,1,0,1,0,0],.inLoop [1,1,0,1,0,0],.inBlock 0,.code [1,1,1]]).map (it (Qal Tryz.prog 115))
def Qmk (B:Lo) (c0:CF) (xs:List Int) (things:Int) (least i:Int):Prop:=∃dJ:Nat->Value,(∀t,QaS (dJ t))/\GoE Tryz.prog B c0 H00 1 (Qa4 115 23 (([1,5,8,9,10]:List Nat).zip (Qck xs things least i)) dJ Qco) (Qa3 (Qbj xs things least i)) (2+(Qbj xs things least i).length) []
def QeU (B:Lo) (xs:List Int) (things:Int) (least i:Int) (dJ0:Nat->Value):List Prop:=[wq (things - 1)=things - 1,i=(↑i.toNat:Int)/\Int.toNat i < List.length xs/\Array.extract (Qac Qar xs) (Int.toNat i * TypeInfo.size Tryz.t3) (Int.toNat i * TypeInfo.size Tryz.t3+TypeInfo.size Tryz.t3)=#[.int .i64 (xs.getD i.toNat default)],ltq i (↑xs.length:Int)=true]++([]:List Prop)
def QgZ (xs:List Int) (things:Int) (least i:Int) (dJ0:Nat->Value):Qay:=[(0,hvT),(1,Qaj.tidx i.toNat #[.int .i64 (xs.getD i.toNat default)]),(7,hvI (things - 1))]
theorem Qmc (B:Lo) (xs:List Int) (things:Int) (least i:Int) (dJ0:Nat->Value):landM (Qak Tryz.prog (Qa1 Tryz.prog) J0 B 18 1 (Qa4 115 23 (([1,5,8,9,10]:List Nat).zip (Qck xs things least i)) dJ0 Qco) (Qa3 (Qbj xs things least i)) (2+(Qbj xs things least i).length)
 (QgZ xs things least i dJ0++[(8,Qaj.pure (.bool true) []),(11,hvI (xs.getD i.toNat default+1)),(13,hvI (i+1))]) 0 [] []) [1,5,8,9,10] [] []=some ⟨115,23,Qco,[],.run,none,Qck xs things (xs.getD i.toNat default+1) (i+1),Qbj xs things (xs.getD i.toNat default+1) (i+1),
 [wq (i+1)=i+1,wq (xs.getD i.toNat default+1)=xs.getD i.toNat default+1,Qa7 []/\Qas Tryz.prog J0 76 #[.int .i64 (xs.getD i.toNat default),.int .i64 least,.int .i64 (things - 1)] (.bool true)]++QeU B xs things least i dJ0⟩:=by kernel_rfl
theorem Qmn (B:Lo) (xs:List Int) (things:Int) (least i:Int) (dJ0:Nat->Value):Qbb (Qak Tryz.prog (Qa1 Tryz.prog) J0 B 17 1 (Qa4 115 23 (([1,5,8,9,10]:List Nat).zip (Qck xs things least i)) dJ0 Qco) (Qa3 (Qbj xs things least i)) (2+(Qbj xs things least i).length)
 (QgZ xs things least i dJ0++[(8,Qaj.pure (.bool false) [])]) 0 [] []) []=some (.bool false,
 [Qa7 []/\Qas Tryz.prog J0 76 #[.int .i64 (xs.getD i.toNat default),.int .i64 least,.int .i64 (things - 1)] (.bool false)]++QeU B xs things least i dJ0):=by kernel_rfl
theorem Qmj (B:Lo) (xs:List Int) (things:Int) (least i:Int) (dJ0:Nat->Value):Qbb (Qak Tryz.prog (Qa1 Tryz.prog) J0 B 9 1 (Qa4 115 23 (([1,5,8,9,10]:List Nat).zip (Qck xs things least i)) dJ0 Qco) (Qa3 (Qbj xs things least i)) (2+(Qbj xs things least i).length)
 [(0,hvF)] 0 [] []) []=some (.bool true,
 [ltq i (↑xs.length:Int)=false]):=by kernel_rfl
theorem Qmp (B:Lo) (xs:List Int) (things:Int):landM (Qak Tryz.prog (Qa1 Tryz.prog) J0 B 9 1 (Qai Tryz.prog 115 23 (([slI xs,.int .i64 things]).map (Qaq 0 4))) H00 1
 [] 0 [] []) [1,5,8,9,10] [] []=some ⟨115,23,Qco,[],.run,none,Qck xs things (0) (0),Qbj xs things (0) (0),
 []⟩:=by kernel_rfl
set_option maxHeartbeats 4000000 in
theorem Qmi (xs:List Int) (things:Int) (ht0:0<=things/\things<=1000000) (hfacts:xs.length<=9223372036854775807) {B:Lo} (hJ:∀w,B.has w->J0 w) {c0:CF}:∀m:Nat,(∀(least i:Int),xs.length - i.toNat=m->∀(h0:0<=i) (h1:0<=least/\least<=1000000),Qmk B c0 xs things least i->EndsT Tryz.prog B c0 (.bool (Qd4 things (xs.drop i.toNat) least))):=by
 intro m0
 induction m0 using Nat.strongRecOn with
 | _ m0 ih0=>
   intro least i hm0 h0 h1 ⟨dJ0,hdJ0,hg0⟩
   by_cases q0:(i:Int) < ((↑xs.length:Int))
   ·
    have hp0:Qa7 (QeU B xs things least i dJ0):=by
     have s2:=Qcq (things:=things) (least:=least) (l:=xs) h0 q0
     exact ⟨(QaJ (by omega) (by omega)),⟨⟨by omega,by omega,(Qaf (z:=1) (fun _=> rfl) (by omega))⟩,⟨(Qbl q0),trivial⟩⟩⟩
    cases q1:inB (xs.getD i.toNat default) least (things - 1) with
    | true=>
      have s2:=Qcq (things:=things) (least:=least) (l:=xs) h0 q0
      have g1:=QaW.1 ‹inB _ least _=true›
      exact ((ih0 _ (by omega)) (xs.getD i.toNat default+1) (i+1) rfl (by omega) (by omega)
       (hg0.landM okF hJ Qab (Qmc B xs things least i dJ0)
       ⟨(QaJ (by omega) (by omega)),⟨(QaJ (by omega) (by omega)),⟨⟨trivial,(by have t_:=pIn (xs.getD i.toNat default) (least) (things - 1);rw [q1] at t_;exact t_)⟩,hp0⟩⟩⟩ (by kernel_rfl) (by kernel_rfl))).cast (by (rw [s2];simp_all;done))
    | false=>
      have s2:=Qcq (things:=things) (least:=least) (l:=xs) h0 q0
      exact (GoE.endsT okF hJ Qab hg0 (Qmn B xs things least i dJ0)
       ⟨⟨trivial,(by have t_:=pIn (xs.getD i.toNat default) (least) (things - 1);rw [q1] at t_;exact t_)⟩,hp0⟩).cast (by (rw [s2];simp_all;done))
   ·
    have s2:=Qkv (things:=things) (least:=least) (l:=xs) (i:=i) (by omega)
    exact (GoE.endsT okF hJ Qab hg0 (Qmj B xs things least i dJ0)
     ⟨(Qbq (Int.not_lt.1 q0)),trivial⟩).cast (by (rw [s2];done))
set_option maxHeartbeats 4000000 in
theorem Qoe (xs:List Int) (things:Int) (ht0:0<=things/\things<=1000000) (hfacts:xs.length<=9223372036854775807) {B:Lo} (hJ:∀w,B.has w->J0 w):EndsT Tryz.prog B (Qai Tryz.prog 115 23 (([slI xs,.int .i64 things]).map (Qaq 0 4))) (.bool (Qd4 things xs 0)):=by
 exact ((Qmi xs things ht0 hfacts hJ _) (0) (0) rfl (by omega) (by omega)
  (GoE.start.landM okF hJ Qab (Qmp B xs things)
  trivial (by kernel_rfl) (by kernel_rfl))).cast (by rfl)
theorem Qkc (xs:List Int) (things:Int) (ht0:0<=things/\things<=1000000):Qas Tryz.prog J0 115 #[slI xs,.int .i64 things] (.bool (Qd4 things xs 0)):=
 Qc2 (ts:=[slI xs,.int .i64 things]) (xs.length<=9223372036854775807) (fun _ _ ht=> ht.ln (i:=0) rfl) Qb6 (c0:=Qai Tryz.prog 115 23 (([slI xs,.int .i64 things]).map (Qaq 0 4))) (by kernel_rfl) (by kernel_rfl) fun hfacts B hJ=> Qoe xs things ht0 hfacts hJ
def QlJ (xs:List Int) (acc i:Int):List Value:=[.int .i64 acc,Qa0 1 (slT xs.length (Qac Qar xs)),.int .i64 (↑xs.length:Int),.int .i64 i]
def QgI (xs:List Int) (acc i:Int):List Obj:=[]
def QlF:List Item:=([.code [1,1,0,1,0,0],.inLoop [1,1,0,1,0,0],.inBlock 0,.code [1,1,1]]).map (it (Qal Tryz.prog 124))
def Q18 (B:Lo) (c0:CF) (xs:List Int) (acc i:Int):Prop:=∃dJ:Nat->Value,(∀t,QaS (dJ t))/\GoE Tryz.prog B c0 H00 1 (Qa4 124 17 (([3,6,7,8]:List Nat).zip (QlJ xs acc i)) dJ QlF) (Qa3 (QgI xs acc i)) (2+(QgI xs acc i).length) []
theorem Q1b (B:Lo) (xs:List Int) (acc i:Int) (dJ0:Nat->Value):landM (Qak Tryz.prog (Qa1 Tryz.prog) J0 B 13 1 (Qa4 124 17 (([3,6,7,8]:List Nat).zip (QlJ xs acc i)) dJ0 QlF) (Qa3 (QgI xs acc i)) (2+(QgI xs acc i).length)
 [(0,hvT),(1,Qaj.tidx i.toNat #[.int .i64 (xs.getD i.toNat default)]),(6,hvI (acc+xs.getD i.toNat default)),(8,hvI (i+1))] 0 [] []) [3,6,7,8] [] []=some ⟨124,17,QlF,[],.run,none,QlJ xs (acc+xs.getD i.toNat default) (i+1),QgI xs (acc+xs.getD i.toNat default) (i+1),
 [wq (i+1)=i+1,wq (acc+xs.getD i.toNat default)=acc+xs.getD i.toNat default,i=(↑i.toNat:Int)/\Int.toNat i < List.length xs/\Array.extract (Qac Qar xs) (Int.toNat i * TypeInfo.size Tryz.t3) (Int.toNat i * TypeInfo.size Tryz.t3+TypeInfo.size Tryz.t3)=#[.int .i64 (xs.getD i.toNat default)],ltq i (↑xs.length:Int)=true]⟩:=by kernel_rfl
theorem Q1v (B:Lo) (xs:List Int) (acc i:Int) (dJ0:Nat->Value):Qbb (Qak Tryz.prog (Qa1 Tryz.prog) J0 B 9 1 (Qa4 124 17 (([3,6,7,8]:List Nat).zip (QlJ xs acc i)) dJ0 QlF) (Qa3 (QgI xs acc i)) (2+(QgI xs acc i).length)
 [(0,hvF)] 0 [] []) []=some (.int .i64 acc,
 [ltq i (↑xs.length:Int)=false]):=by kernel_rfl
theorem Q1t (B:Lo) (xs:List Int):landM (Qak Tryz.prog (Qa1 Tryz.prog) J0 B 9 1 (Qai Tryz.prog 124 17 (([slI xs]).map (Qaq 0 4))) H00 1
 [] 0 [] []) [3,6,7,8] [] []=some ⟨124,17,QlF,[],.run,none,QlJ xs (0) (0),QgI xs (0) (0),
 []⟩:=by kernel_rfl
set_option maxHeartbeats 4000000 in
theorem Q2h (xs:List Int) (hx:∀x∈xs,-1000000000<=x/\x<=1000000000) (hl:xs.length<=1000) {B:Lo} (hJ:∀w,B.has w->J0 w) {c0:CF}:∀m:Nat,(∀(acc i:Int),xs.length - i.toNat=m->∀(h0:0<=i) (h1: -1000000000 * i<=acc/\acc<=1000000000 * i),Q18 B c0 xs acc i->EndsT Tryz.prog B c0 (.int .i64 (acc+QeE (xs.drop i.toNat)))):=by
 intro m0
 induction m0 using Nat.strongRecOn with
 | _ m0 ih0=>
   intro acc i hm0 h0 h1 ⟨dJ0,hdJ0,hg0⟩
   by_cases q0:(i:Int) < ((↑xs.length:Int))
   ·
    have s2:=QvC (l:=xs) h0 q0
    have g1:=hx _ (QaB h0 q0)
    exact ((ih0 _ (by omega)) (acc+xs.getD i.toNat default) (i+1) rfl (by omega) (by omega)
     (hg0.landM okF hJ Qab (Q1b B xs acc i dJ0)
     ⟨(QaJ (by omega) (by omega)),⟨(QaJ (by omega) (by omega)),⟨⟨by omega,by omega,(Qaf (z:=1) (fun _=> rfl) (by omega))⟩,⟨(Qbl q0),trivial⟩⟩⟩⟩ (by kernel_rfl) (by kernel_rfl))).cast (by (rw [s2,Int.add_assoc];done))
   ·
    have s2:=Qzk (l:=xs) (i:=i) (by omega)
    exact (GoE.endsT okF hJ Qab hg0 (Q1v B xs acc i dJ0)
     ⟨(Qbq (Int.not_lt.1 q0)),trivial⟩).cast (by (rw [s2];simp;done))
set_option maxHeartbeats 4000000 in
theorem Q3g (xs:List Int) (hx:∀x∈xs,-1000000000<=x/\x<=1000000000) (hl:xs.length<=1000) {B:Lo} (hJ:∀w,B.has w->J0 w):EndsT Tryz.prog B (Qai Tryz.prog 124 17 (([slI xs]).map (Qaq 0 4))) (.int .i64 (QeE xs)):=by
 exact ((Q2h xs hx hl hJ _) (0) (0) rfl (by omega) (by omega)
  (GoE.start.landM okF hJ Qab (Q1t B xs)
  trivial (by kernel_rfl) (by kernel_rfl))).cast (by (simp [*];done))
theorem Q4h (xs:List Int) (hx:∀x∈xs,-1000000000<=x/\x<=1000000000) (hl:xs.length<=1000):Qas Tryz.prog J0 124 #[slI xs] (.int .i64 (QeE xs)):=
 QaE (ts:=[slI xs]) Qb6 (c0:=Qai Tryz.prog 124 17 (([slI xs]).map (Qaq 0 4))) (by kernel_rfl) (by kernel_rfl) fun B hJ=> Q3g xs hx hl hJ
def Qnm (B:Lo) (s:Qaa) (load:Int):List Prop:=[Qa7 []/\Qas Tryz.prog J0 124 #[slT (List.length (List.map Qad.weight (Qax load s.lots 0))) (Qac Qar (List.map Qad.weight (Qax load s.lots 0)))] (.int .i64 (QeE (List.map Qad.weight (Qax load s.lots 0)))),Qa7 []/\Qas Tryz.prog J0 92 #[slT (List.length (Qax load s.lots 0)) (Qac Qam (Qax load s.lots 0)),Value.func (Fn.func 140) #[] #[]] (slT (List.length (List.map Qad.weight (Qax load s.lots 0))) (Qac Qar (List.map Qad.weight (Qax load s.lots 0)))),Qa7 []/\Qas Tryz.prog J0 139 #[.int .i64 load,slT s.lots.length (Qac Qam s.lots)] (slT (List.length (Qax load s.lots 0)) (Qac Qam (Qax load s.lots 0)))]++([]:List Prop)
def Qsk (s:Qaa) (load:Int):Qay:=[(5,Qaj.pure (slT (List.length (Qax load s.lots 0)) (Qac Qam (Qax load s.lots 0))) []),(6,Qaj.pure (slT (List.length (List.map Qad.weight (Qax load s.lots 0))) (Qac Qar (List.map Qad.weight (Qax load s.lots 0)))) []),(9,Qaj.pure (.int .i64 (QeE (List.map Qad.weight (Qax load s.lots 0)))) [])]
theorem Qyx (B:Lo) (s:Qaa) (load:Int):Qbb (Qak Tryz.prog (Qa1 Tryz.prog) J0 B 8 1 (Qai Tryz.prog 96 16 (([.agg (Qah s).toArray,.int .i64 load]).map (Qaq 0 4))) H00 1
 (Qsk s load++[(12,hvT)]) 0 [] []) []=some (.bool true,
 [(!ltq s.hold (QeE (List.map Qad.weight (Qax load s.lots 0))))=true]++Qnm B s load):=by kernel_rfl
theorem QyV (B:Lo) (s:Qaa) (load:Int):Qbb (Qak Tryz.prog (Qa1 Tryz.prog) J0 B 8 1 (Qai Tryz.prog 96 16 (([.agg (Qah s).toArray,.int .i64 load]).map (Qaq 0 4))) H00 1
 (Qsk s load++[(12,hvF)]) 0 [] []) []=some (.bool false,
 [(!ltq s.hold (QeE (List.map Qad.weight (Qax load s.lots 0))))=false]++Qnm B s load):=by kernel_rfl
set_option maxHeartbeats 4000000 in
theorem Q0S (s:Qaa) (load:Int) (hs:Qa8 s=true) (h0:0<=load) (h1:load < 64) (hx:Qcf load<=s.lots.length) {B:Lo} (hJ:∀w,B.has w->J0 w):EndsT Tryz.prog B (Qai Tryz.prog 96 16 (([.agg (Qah s).toArray,.int .i64 load]).map (Qaq 0 4))) (.bool (Qrf s load)):=by
 have hm:=Qa2 hs
 have hw:∀x∈(Qax load s.lots 0).map Qad.weight,-1000000000<=x/\x<=1000000000:=fun x h=> by obtain ⟨l,hl,rfl⟩:=List.mem_map.1 h;have:=Qc6 (hm.2 l (QcJ (Int.le_refl _) hx l hl));omega
 have hll:=QhK (s:=load) (n:=0) (xs:=s.lots) (Int.le_refl _)
 have hw2:((Qax load s.lots 0).map Qad.weight).length<=1000:=by rw [List.length_map];omega
 have hp0:Qa7 (Qnm B s load):=by
  exact ⟨⟨trivial,Q4h (List.map Qad.weight (Qax load s.lots 0)) (by with_reducible assumption) (by with_reducible assumption)⟩,⟨⟨trivial,Q2z (Qax load s.lots 0) (by omega)⟩,⟨⟨trivial,Q2L (load) s.lots (by with_reducible assumption) (by with_reducible assumption) (by with_reducible assumption)⟩,trivial⟩⟩⟩
 by_cases q0:(QeE (List.map Qad.weight (Qax load s.lots 0)):Int)<=s.hold
 ·
  exact (GoE.endsT okF hJ Qab GoE.start (Qyx B s load)
   ⟨(Qdi q0),hp0⟩).cast (by (simp [Qrf, *];done))
 ·
  exact (GoE.endsT okF hJ Qab GoE.start (QyV B s load)
   ⟨(Qdn (Int.not_le.1 q0)),hp0⟩).cast (by (simp [Qrf, *];done))
theorem Q3x (s:Qaa) (load:Int) (hs:Qa8 s=true) (h0:0<=load) (h1:load < 64) (hx:Qcf load<=s.lots.length):Qas Tryz.prog J0 96 #[.agg (Qah s).toArray,.int .i64 load] (.bool (Qrf s load)):=
 QaE (ts:=[.agg (Qah s).toArray,.int .i64 load]) Qb6 (c0:=Qai Tryz.prog 96 16 (([.agg (Qah s).toArray,.int .i64 load]).map (Qaq 0 4))) (by kernel_rfl) (by kernel_rfl) fun B hJ=> Q0S s load hs h0 h1 hx hJ
def Qjl (B:Lo) (s:Qaa) (load:List Int):List Prop:=[Qa7 []/\Qas Tryz.prog J0 116 #[slT load.length (Qac Qar load)] (.int .i64 (QcM load 0)),Qa7 []/\Qas Tryz.prog J0 115 #[slT load.length (Qac Qar load),.int .i64 (↑s.lots.length:Int)] (.bool true)]++([]:List Prop)
def QmO (s:Qaa) (load:List Int):Qay:=[(6,Qaj.pure (.bool true) []),(10,Qaj.pure (.int .i64 (QcM load 0)) [])]
theorem QtZ (B:Lo) (s:Qaa) (load:List Int):Qbb (Qak Tryz.prog (Qa1 Tryz.prog) J0 B 6 1 (Qai Tryz.prog 80 16 (([.agg (Qah s).toArray,slI load]).map (Qaq 0 4))) H00 1
 (QmO s load++[(11,Qaj.pure (.bool true) [])]) 0 [] []) []=some (.bool true,
 [Qa7 []/\Qas Tryz.prog J0 96 #[.agg #[slT s.stock.length (Qac Qar s.stock),slT s.use.length (Qac Qa6 s.use),.int .i64 s.glo,.int .i64 s.ghi,slT s.lots.length (Qac Qam s.lots),.int .i64 s.hold],.int .i64 (QcM load 0)] (.bool true)]++Qjl B s load):=by kernel_rfl
theorem Qud (B:Lo) (s:Qaa) (load:List Int):Qbb (Qak Tryz.prog (Qa1 Tryz.prog) J0 B 6 1 (Qai Tryz.prog 80 16 (([.agg (Qah s).toArray,slI load]).map (Qaq 0 4))) H00 1
 (QmO s load++[(11,Qaj.pure (.bool false) [])]) 0 [] []) []=some (.bool false,
 [Qa7 []/\Qas Tryz.prog J0 96 #[.agg #[slT s.stock.length (Qac Qar s.stock),slT s.use.length (Qac Qa6 s.use),.int .i64 s.glo,.int .i64 s.ghi,slT s.lots.length (Qac Qam s.lots),.int .i64 s.hold],.int .i64 (QcM load 0)] (.bool false)]++Qjl B s load):=by kernel_rfl
theorem Qu3 (B:Lo) (s:Qaa) (load:List Int):Qbb (Qak Tryz.prog (Qa1 Tryz.prog) J0 B 6 1 (Qai Tryz.prog 80 16 (([.agg (Qah s).toArray,slI load]).map (Qaq 0 4))) H00 1
 [(6,Qaj.pure (.bool false) [])] 0 [] []) []=some (.bool false,
 [Qa7 []/\Qas Tryz.prog J0 115 #[slT load.length (Qac Qar load),.int .i64 (↑s.lots.length:Int)] (.bool false)]):=by kernel_rfl
set_option maxHeartbeats 4000000 in
theorem Qwu (s:Qaa) (load:List Int) (hs:Qa8 s=true) {B:Lo} (hJ:∀w,B.has w->J0 w):EndsT Tryz.prog B (Qai Tryz.prog 80 16 (([.agg (Qah s).toArray,slI load]).map (Qaq 0 4))) (.bool (QbV s load)):=by
 have hm:=Qa2 hs
 cases q0:Qd4 (↑s.lots.length:Int) load 0 with
 | true=>
   have hp0:Qa7 (Qjl B s load):=by
    have g1:=Qjg ‹Qd4 s.lots.length load 0=true› (Int.le_refl 0)
    have g2:∀x∈load,0<=x/\x<=61:=fun x h=> by have:=g1 x h;omega
    have g3:=Qi6 (k:=s.lots.length) (by omega) load 0 g1 (Int.le_refl 0) (Int.pow_pos (by decide))
    have g4:QcM load 0 < 64:=Int.lt_of_lt_of_le g3.2 (by have:(2:Nat) ^ s.lots.length<=2 ^ 6:=Nat.pow_le_pow_right (by decide) (by omega);have e:(2:Int) ^ s.lots.length=((2 ^ s.lots.length:Nat):Int):=by {rw [Int.natCast_pow];rfl};rw [e];omega)
    have g5:=Qkk g3.1 g3.2
    have g6:=g3.1
    exact ⟨⟨trivial,pOf (load) (by with_reducible assumption)⟩,⟨⟨trivial,(by have t_:=Qkc (load) ((↑s.lots.length:Int)) (by omega);rw [q0] at t_;exact t_)⟩,trivial⟩⟩
   cases q1:Qrf s (QcM load 0) with
   | true=>
     have g1:=Qjg ‹Qd4 s.lots.length load 0=true› (Int.le_refl 0)
     have g2:∀x∈load,0<=x/\x<=61:=fun x h=> by have:=g1 x h;omega
     have g3:=Qi6 (k:=s.lots.length) (by omega) load 0 g1 (Int.le_refl 0) (Int.pow_pos (by decide))
     have g4:QcM load 0 < 64:=Int.lt_of_lt_of_le g3.2 (by have:(2:Nat) ^ s.lots.length<=2 ^ 6:=Nat.pow_le_pow_right (by decide) (by omega);have e:(2:Int) ^ s.lots.length=((2 ^ s.lots.length:Nat):Int):=by {rw [Int.natCast_pow];rfl};rw [e];omega)
     have g5:=Qkk g3.1 g3.2
     have g6:=g3.1
     exact (GoE.endsT okF hJ Qab GoE.start (QtZ B s load)
      ⟨⟨trivial,(by have t_:=Q3x (s) (QcM load 0) (by with_reducible assumption) (by with_reducible assumption) (by with_reducible assumption) (by with_reducible assumption);rw [q1] at t_;exact t_)⟩,hp0⟩).cast (by (simp [QbV, *];done))
   | false=>
     have g1:=Qjg ‹Qd4 s.lots.length load 0=true› (Int.le_refl 0)
     have g2:∀x∈load,0<=x/\x<=61:=fun x h=> by have:=g1 x h;omega
     have g3:=Qi6 (k:=s.lots.length) (by omega) load 0 g1 (Int.le_refl 0) (Int.pow_pos (by decide))
     have g4:QcM load 0 < 64:=Int.lt_of_lt_of_le g3.2 (by have:(2:Nat) ^ s.lots.length<=2 ^ 6:=Nat.pow_le_pow_right (by decide) (by omega);have e:(2:Int) ^ s.lots.length=((2 ^ s.lots.length:Nat):Int):=by {rw [Int.natCast_pow];rfl};rw [e];omega)
     have g5:=Qkk g3.1 g3.2
     have g6:=g3.1
     exact (GoE.endsT okF hJ Qab GoE.start (Qud B s load)
      ⟨⟨trivial,(by have t_:=Q3x (s) (QcM load 0) (by with_reducible assumption) (by with_reducible assumption) (by with_reducible assumption) (by with_reducible assumption);rw [q1] at t_;exact t_)⟩,hp0⟩).cast (by (simp [QbV, *];done))
 | false=>
   exact (GoE.endsT okF hJ Qab GoE.start (Qu3 B s load)
    ⟨⟨trivial,(by have t_:=Qkc (load) ((↑s.lots.length:Int)) (by omega);rw [q0] at t_;exact t_)⟩,trivial⟩).cast (by (simp [QbV, *];done))
theorem Qxr (s:Qaa) (load:List Int) (hs:Qa8 s=true):Qas Tryz.prog J0 80 #[.agg (Qah s).toArray,slI load] (.bool (QbV s load)):=
 QaE (ts:=[.agg (Qah s).toArray,slI load]) Qb6 (c0:=Qai Tryz.prog 80 16 (([.agg (Qah s).toArray,slI load]).map (Qaq 0 4))) (by kernel_rfl) (by kernel_rfl) fun B hJ=> Qwu s load hs hJ
end
end Go.Proofs.YtiabgkiccaodmaaGreat

namespace Go.Proofs.YtiabgkiccaodmaaGreat
open Go Go.CE Go.RowKit
set_option maxRecDepth 100000
structure Qat where
 uses:List Int
 gaps:List Int
 goods:List Row
deriving Inhabited
abbrev slR (xs:List Row):Value:=slT xs.length (Qac Qaz xs)
def QaI (t:Qat):List Value:=[slI t.uses,slI t.gaps,slR t.goods]
def Q4l (ns:List Int) (ss:List Span) (i:Int):Bool:=(upI i ns.length).all fun k=> inB (ns.getD k.toNat default) (ss.getD k.toNat default).lo (ss.getD k.toNat default).hi
def Qf4 (ns:List Int) (ss:List Span):Bool:=decide (ns.length=ss.length) && Q4l ns ss 0
def Q4g (s:Qaa) (all:List Row) (i:Int):Bool:=(upI i s.lots.length).all fun k=> Qf4 (all.getD k.toNat default) (s.lots.getD k.toNat default).goods
def QmG (s:Qaa) (all:List Row):Bool:=decide (all.length=s.lots.length) && Q4g s all 0
def QlU (s:Qaa) (days:Int) (gaps:List Int):Bool:=decide (gaps.length<=300) && (gaps.all (fun x=> inB x s.glo s.ghi) && decide (days<=QeE gaps))
def Qc5 (s:Qaa) (days:Int) (t:Qat):Bool:=Qf4 t.uses s.use && (QlU s days t.gaps && QmG s t.goods)
theorem Qa9 {s:Qaa} (h:Qa8 s=true):1<=s.glo/\s.glo<=s.ghi/\s.ghi<=60:=by
 simp only [Qa8,Qbz,Bool.and_eq_true,decide_eq_true_iff] at h
 exact ⟨h.2.2.2.2.1.1,h.2.2.2.2.1.2.1,h.2.2.2.2.1.2.2⟩
end Go.Proofs.YtiabgkiccaodmaaGreat

namespace Go.Proofs.YtiabgkiccaodmaaGreat
open Go Go.CE Go.RowKit
set_option maxRecDepth 100000
def QaO (s:Qaa) (load days:Int):List Value:=Qah s++[.int .i64 load,.int .i64 days]
def QfP (days:Int):List Int->Int->List Bool->List Bool
 | [],_,bs=> bs
 | g::l,day,bs=> QfP days l (day+g) (bif decide (day+g < days) then bs.set (day+g).toNat true else bs)
theorem QgS {days:Int}:∀(l:List Int) (day:Int) (bs:List Bool),(QfP days l day bs).length=bs.length
 | [],_,_=> rfl
 | g::l,day,bs=> by
   simp only [QfP];rw [QgS l]
   cases decide (day+g < days) <;> simp
theorem Qhh {days day:Int} {l:List Int} {i:Int} {bs:List Bool} (h0:0<=i) (h:i < l.length):QfP days (l.drop i.toNat) day bs=QfP days (l.drop (i+1).toNat) (day+l.getD i.toNat default) (bif decide (day+l.getD i.toNat default < days) then bs.set (day+l.getD i.toNat default).toNat true else bs):=by
 obtain ⟨k,rfl⟩:∃k:Nat,i=k:=⟨i.toNat,by omega⟩
 have hk:k < l.length:=by omega
 have e1:((k:Int)).toNat=k:=by omega
 have e2:((k:Int)+1).toNat=k+1:=by omega
 rw [e1,e2,List.drop_eq_getElem_cons hk]
 simp [QfP,List.getD_eq_getElem?_getD,hk]
theorem QsZ {days day:Int} {l:List Int} {i:Int} {bs:List Bool} (h:l.length<=i):QfP days (l.drop i.toNat) day bs=bs:=by
 rw [List.drop_eq_nil_of_le (by omega)];rfl
def Qb1 (days:Int) (gaps:List Int):List Bool:=QfP days gaps 0 (List.replicate days.toNat false)
theorem Qor (B:Lo) (s:Qaa) (load:List Int) (days:Int):Qbb (Qak Tryz.prog (Qa1 Tryz.prog) J0 B 6 1 (Qai Tryz.prog 83 12 (([.agg (Qah s).toArray,slI load,.int .i64 days]).map (Qaq 0 4))) H00 1
 [(4,Qaj.pure (.int .i64 (QcM load 0)) [])] 0 [] []) []=some (.agg #[slT s.stock.length (Qac Qar s.stock),slT s.use.length (Qac Qa6 s.use),.int .i64 s.glo,.int .i64 s.ghi,slT s.lots.length (Qac Qam s.lots),.int .i64 s.hold,.int .i64 (QcM load 0),.int .i64 days],
 [Qa7 []/\Qas Tryz.prog J0 116 #[slT load.length (Qac Qar load)] (.int .i64 (QcM load 0))]):=by kernel_rfl
set_option maxHeartbeats 4000000 in
theorem Qq4 (s:Qaa) (load:List Int) (days:Int) (hx:∀x∈load,0<=x/\x<=61) {B:Lo} (hJ:∀w,B.has w->J0 w):EndsT Tryz.prog B (Qai Tryz.prog 83 12 (([.agg (Qah s).toArray,slI load,.int .i64 days]).map (Qaq 0 4))) (.agg (QaO s (QcM load 0) days).toArray):=by
 exact (GoE.endsT okF hJ Qab GoE.start (Qor B s load days)
  ⟨⟨trivial,pOf (load) (by with_reducible assumption)⟩,trivial⟩).cast (by rfl)
theorem QwS (s:Qaa) (load:List Int) (days:Int) (hx:∀x∈load,0<=x/\x<=61):Qas Tryz.prog J0 83 #[.agg (Qah s).toArray,slI load,.int .i64 days] (.agg (QaO s (QcM load 0) days).toArray):=
 QaE (ts:=[.agg (Qah s).toArray,slI load,.int .i64 days]) Qb6 (c0:=Qai Tryz.prog 83 12 (([.agg (Qah s).toArray,slI load,.int .i64 days]).map (Qaq 0 4))) (by kernel_rfl) (by kernel_rfl) fun B hJ=> Qq4 s load days hx hJ
def Qe1 (s:Qaa) (load days:Int) (gaps:List Int) (day i:Int) (bs:List Bool):List Value:=[pA 2 0,.slice (some {block:=3,off:=0}) days.toNat 1,.int .i64 day,Qa0 1 (slT gaps.length (Qac Qar gaps)),.int .i64 (↑gaps.length:Int),.int .i64 i]
def Qc7 (s:Qaa) (load days:Int) (gaps:List Int) (day i:Int) (bs:List Bool):List Obj:=[Obj.cells #[Qa0 1 (slT s.stock.length (Qac Qar s.stock)),Qa0 1 (slT s.use.length (Qac Qa6 s.use)),.int .i64 s.glo,.int .i64 s.ghi,Qa0 1 (slT s.lots.length (Qac Qam s.lots)),.int .i64 s.hold,.int .i64 load,.int .i64 days] 122,.cells (Qac QdM bs) 4 (0,0)]
noncomputable def Qe3:List Item:=([.code [1,1,1,0,1,0,0],.inLoop [1,1,1,0,1,0,0],.inBlock 0,.code [1,1,1,1]]).map (it (Qal Tryz.prog 120))
def QxJ (B:Lo) (c0:CF) (s:Qaa) (load days:Int) (gaps:List Int) (day i:Int) (bs:List Bool):Prop:=∃dJ:Nat->Value,(∀t,QaS (dJ t))/\GoE Tryz.prog B c0 H00 1 (Qa4 120 30 (([2,5,6,12,13,14]:List Nat).zip (Qe1 s load days gaps day i bs)) dJ Qe3) (Qa3 (Qc7 s load days gaps day i bs)) (2+(Qc7 s load days gaps day i bs).length) []
noncomputable def QlQ (B:Lo) (s:Qaa) (load days:Int) (gaps:List Int) (day i:Int) (bs:List Bool) (dJ0:Nat->Value):List Prop:=[wq (day+gaps.getD i.toNat default)=day+gaps.getD i.toNat default,i=(↑i.toNat:Int)/\Int.toNat i < List.length gaps/\Array.extract (Qac Qar gaps) (Int.toNat i * TypeInfo.size Tryz.t3) (Int.toNat i * TypeInfo.size Tryz.t3+TypeInfo.size Tryz.t3)=#[.int .i64 (gaps.getD i.toNat default)],ltq i (↑gaps.length:Int)=true]++([]:List Prop)
noncomputable def Qpg (s:Qaa) (load days:Int) (gaps:List Int) (day i:Int) (bs:List Bool) (dJ0:Nat->Value):Qay:=[(0,hvT),(1,Qaj.tidx i.toNat #[.int .i64 (gaps.getD i.toNat default)]),(6,hvI (day+gaps.getD i.toNat default))]
theorem QwP (B:Lo) (s:Qaa) (load days:Int) (gaps:List Int) (day i:Int) (bs:List Bool) (dJ0:Nat->Value):landM (Qak Tryz.prog (Qa1 Tryz.prog) J0 B 18 1 (Qa4 120 30 (([2,5,6,12,13,14]:List Nat).zip (Qe1 s load days gaps day i bs)) dJ0 Qe3) (Qa3 (Qc7 s load days gaps day i bs)) (2+(Qc7 s load days gaps day i bs).length)
 (Qpg s load days gaps day i bs dJ0++[(11,hvT),(14,Qaj.old (Hint.idx (Int.toNat (day+gaps.getD i.toNat default)))),(15,Qaj.old (Hint.st (Qac QdM (List.set bs (Int.toNat (day+gaps.getD i.toNat default)) true)))),(16,hvI (i+1))]) 0 [] []) [2,5,6,12,13,14] [(2,KS.auto),(3,KS.cells [] (Qac QdM (List.set bs (Int.toNat (day+gaps.getD i.toNat default)) true)))] []=some ⟨120,30,Qe3,[],.run,none,Qe1 s load days gaps (day+gaps.getD i.toNat default) (i+1) (List.set bs (Int.toNat (day+gaps.getD i.toNat default)) true),Qc7 s load days gaps (day+gaps.getD i.toNat default) (i+1) (List.set bs (Int.toNat (day+gaps.getD i.toNat default)) true),
 [QaQ 1 [] (Qac QdM (List.set bs (Int.toNat (day+gaps.getD i.toNat default)) true)) (Qac QdM (List.set bs (Int.toNat (day+gaps.getD i.toNat default)) true)),wq (i+1)=i+1,0+Int.toNat (day+gaps.getD i.toNat default) * 1+TypeInfo.size Tryz.t4<=Array.size (Qac QdM bs)/\splice (Qac QdM bs) (0+Int.toNat (day+gaps.getD i.toNat default) * 1) (Value.cells (.bool true))=Qac QdM (List.set bs (Int.toNat (day+gaps.getD i.toNat default)) true),day+gaps.getD i.toNat default=(↑(Int.toNat (day+gaps.getD i.toNat default)):Int)/\Int.toNat (day+gaps.getD i.toNat default) < Int.toNat days,ltq (day+gaps.getD i.toNat default) days=true]++QlQ B s load days gaps day i bs dJ0⟩:=by kernel_rfl
theorem Qw0 (B:Lo) (s:Qaa) (load days:Int) (gaps:List Int) (day i:Int) (bs:List Bool) (dJ0:Nat->Value):landM (Qak Tryz.prog (Qa1 Tryz.prog) J0 B 18 1 (Qa4 120 30 (([2,5,6,12,13,14]:List Nat).zip (Qe1 s load days gaps day i bs)) dJ0 Qe3) (Qa3 (Qc7 s load days gaps day i bs)) (2+(Qc7 s load days gaps day i bs).length)
 (Qpg s load days gaps day i bs dJ0++[(11,hvF),(12,hvI (i+1))]) 0 [] []) [2,5,6,12,13,14] [(2,KS.auto),(3,KS.cells [] (Qac QdM bs))] []=some ⟨120,30,Qe3,[],.run,none,Qe1 s load days gaps (day+gaps.getD i.toNat default) (i+1) (bs),Qc7 s load days gaps (day+gaps.getD i.toNat default) (i+1) (bs),
 [QaQ 1 [] (Qac QdM bs) (Qac QdM bs),wq (i+1)=i+1,ltq (day+gaps.getD i.toNat default) days=false]++QlQ B s load days gaps day i bs dJ0⟩:=by kernel_rfl
theorem Qxx (B:Lo) (s:Qaa) (load days:Int) (gaps:List Int) (day i:Int) (bs:List Bool) (dJ0:Nat->Value):Qbb (Qak Tryz.prog (Qa1 Tryz.prog) J0 B 9 1 (Qa4 120 30 (([2,5,6,12,13,14]:List Nat).zip (Qe1 s load days gaps day i bs)) dJ0 Qe3) (Qa3 (Qc7 s load days gaps day i bs)) (2+(Qc7 s load days gaps day i bs).length)
 [(0,hvF)] 0 [] []) [{k:=3,rs:=[],cs:=Qac QdM bs}]=some (slT days.toNat (Fz.cs {k:=3,rs:=[],cs:=Qac QdM bs}),
 [Qb8 (Fz.rs {k:=3,rs:=[],cs:=Qac QdM bs}) (Qac QdM bs) (Fz.cs {k:=3,rs:=[],cs:=Qac QdM bs}),ltq i (↑gaps.length:Int)=false]):=by kernel_rfl
theorem Qwe (B:Lo) (s:Qaa) (load days:Int) (gaps:List Int):landM (Qak Tryz.prog (Qa1 Tryz.prog) J0 B 11 1 (Qai Tryz.prog 120 30 (([.agg (QaO s load days).toArray,slI gaps]).map (Qaq 0 4))) H00 1
 [(4,Qaj.old (Hint.mk days.toNat (Qac (Qcr [.bool false]) (List.replicate days.toNat ()))))] 0 [] []) [2,5,6,12,13,14] [(1,KS.auto),(2,KS.rows [] [] (Qac QdM (List.replicate days.toNat false)))] []=some ⟨120,30,Qe3,[],.run,none,Qe1 s load days gaps (0) (0) (List.replicate days.toNat false),Qc7 s load days gaps (0) (0) (List.replicate days.toNat false),
 [QaY 1 [] [] (Qac (Qcr [.bool false]) (List.replicate days.toNat ())) (Qac QdM (List.replicate days.toNat false)),Qhl Tryz.prog 127 (Qce {len:=16000,tr:=Tri.set 14 Tri.lf 10 (.int .i64 days)} 10) (Qce {len:=16000,tr:=Tri.set 14 Tri.lf 10 (.int .i64 days)} 10)=some (4,Qac (Qcr [.bool false]) (List.replicate days.toNat ()),Int.toNat days,TypeInfo.size Tryz.t4)]⟩:=by kernel_rfl
set_option maxHeartbeats 4000000 in
theorem QwV (s:Qaa) (load days:Int) (gaps:List Int) (hd:0<=days/\days<=300) (hg:∀x∈gaps,0<=x/\x<=60) (hl:gaps.length<=300) {B:Lo} (hJ:∀w,B.has w->J0 w) {c0:CF}:∀m:Nat,(∀(day i:Int) (bs:List Bool),gaps.length - i.toNat=m->∀(h0:0<=i) (h1:0<=day/\day<=60 * i) (hb:bs.length=days.toNat),QxJ B c0 s load days gaps day i bs->EndsT Tryz.prog B c0 (slB (QfP days (gaps.drop i.toNat) day bs))):=by
 intro m0
 induction m0 using Nat.strongRecOn with
 | _ m0 ih0=>
   intro day i bs hm0 h0 h1 hb ⟨dJ0,hdJ0,hg0⟩
   by_cases q0:(i:Int) < ((↑gaps.length:Int))
   ·
    have hp0:Qa7 (QlQ B s load days gaps day i bs dJ0):=by
     have s2:=Qhh (days:=days) (day:=day) (bs:=bs) (l:=gaps) h0 q0
     have g1:=hg _ (QaB h0 q0)
     exact ⟨(QaJ (by omega) (by omega)),⟨⟨by omega,by omega,(Qaf (z:=1) (fun _=> rfl) (by omega))⟩,⟨(Qbl q0),trivial⟩⟩⟩
    by_cases q1:(day+gaps.getD i.toNat default:Int) < (days)
    ·
     have s2:=Qhh (days:=days) (day:=day) (bs:=bs) (l:=gaps) h0 q0
     have g1:=hg _ (QaB h0 q0)
     rw [decide_eq_true q1,cond_true] at s2
     exact ((ih0 _ (by omega)) (day+gaps.getD i.toNat default) (i+1) (List.set bs (Int.toNat (day+gaps.getD i.toNat default)) true) rfl (by omega) (by omega) (by (rw [List.length_set];exact hb))
      (hg0.landM okF hJ Qab (QwP B s load days gaps day i bs dJ0)
      ⟨(Qao (Qaw (fun x=> List.all_eq_true.1 (by rfl)))),⟨(QaJ (by omega) (by omega)),⟨(by exact Qin (z:=1) (fun _=> rfl) (by omega) rfl rfl),⟨⟨by omega,by omega⟩,⟨(Qbl q1),hp0⟩⟩⟩⟩⟩ (by kernel_rfl) (by kernel_rfl))).cast (by (rw [s2];done))
    ·
     have s2:=Qhh (days:=days) (day:=day) (bs:=bs) (l:=gaps) h0 q0
     have g1:=hg _ (QaB h0 q0)
     rw [decide_eq_false q1,cond_false] at s2
     exact ((ih0 _ (by omega)) (day+gaps.getD i.toNat default) (i+1) (bs) rfl (by omega) (by omega) (by with_reducible assumption)
      (hg0.landM okF hJ Qab (Qw0 B s load days gaps day i bs dJ0)
      ⟨(Qao (Qaw (fun x=> List.all_eq_true.1 (by rfl)))),⟨(QaJ (by omega) (by omega)),⟨(Qbq (Int.not_lt.1 q1)),hp0⟩⟩⟩ (by kernel_rfl) (by kernel_rfl))).cast (by (rw [s2];done))
   ·
    have s2:=QsZ (days:=days) (day:=day) (bs:=bs) (l:=gaps) (i:=i) (by omega)
    exact (GoE.endsT okF hJ Qab hg0 (Qxx B s load days gaps day i bs dJ0)
     ⟨(Qbe (fun x=> List.all_eq_true.1 (by rfl))),⟨(Qbq (Int.not_lt.1 q0)),trivial⟩⟩).cast (by (rw [s2];exact Qhr rfl (by omega)))
set_option maxHeartbeats 4000000 in
theorem Qzl (s:Qaa) (load days:Int) (gaps:List Int) (hd:0<=days/\days<=300) (hg:∀x∈gaps,0<=x/\x<=60) (hl:gaps.length<=300) {B:Lo} (hJ:∀w,B.has w->J0 w):EndsT Tryz.prog B (Qai Tryz.prog 120 30 (([.agg (QaO s load days).toArray,slI gaps]).map (Qaq 0 4))) (slB (Qb1 days gaps)):=by
 exact ((QwV s load days gaps hd hg hl hJ _) (0) (0) (List.replicate days.toNat false) rfl (by omega) (by omega) (by (rw [List.length_replicate];done))
  (GoE.start.landM okF hJ Qab (Qwe B s load days gaps)
  ⟨(by exact (Qcy (by exact ⟨(.simple rfl),trivial⟩) _)),⟨(Qjr (bytes:=1) (by kernel_rfl) (by omega) (by omega) (by omega)),trivial⟩⟩ (by kernel_rfl) (by kernel_rfl))).cast (by rfl)
theorem Q2D (s:Qaa) (load days:Int) (gaps:List Int) (hd:0<=days/\days<=300) (hg:∀x∈gaps,0<=x/\x<=60) (hl:gaps.length<=300):Qas Tryz.prog J0 120 #[.agg (QaO s load days).toArray,slI gaps] (slB (Qb1 days gaps)):=
 QaE (ts:=[.agg (QaO s load days).toArray,slI gaps]) Qb6 (c0:=Qai Tryz.prog 120 30 (([.agg (QaO s load days).toArray,slI gaps]).map (Qaq 0 4))) (by kernel_rfl) (by kernel_rfl) fun B hJ=> Qzl s load days gaps hd hg hl hJ
end Go.Proofs.YtiabgkiccaodmaaGreat

namespace Go.Proofs.YtiabgkiccaodmaaGreat
open Go Go.CE Go.RowKit
noncomputable section
set_option maxRecDepth 100000
theorem QqL {p:Int->Bool} {a b:Int} (h:(upI a b).all p=true) {k:Int} (h1:a<=k) (h2:k < b):p k=true:=by
 refine List.all_eq_true.1 h k ?_
 unfold upI
 exact List.mem_map.2 ⟨(k - a).toNat,List.mem_range.2 (by omega),by omega⟩
theorem Qf6 {b:Int}:(upI 0 b).length=b.toNat:=by simp [upI]
theorem Qn5 {b i:Int} (h0:0<=i) (h:i < b):(upI 0 b).getD i.toNat default=i:=by
 have hk:i.toNat < (upI 0 b).length:=by rw [Qf6];omega
 rw [List.getD_eq_getElem?_getD,List.getElem?_eq_getElem hk]
 simp [upI];omega
theorem Qnt {α:Type} [Inhabited α] {l:List α} {x:α} (h:x∈l):∃i:Int,0<=i/\i < l.length/\l.getD i.toNat default=x:=by
 obtain ⟨k,hk,rfl⟩:=List.getElem_of_mem h
 exact ⟨k,by omega,by omega,by simp [List.getD_eq_getElem?_getD,hk]⟩
theorem Qbt {ns:List Int} {ss:List Span} (h:Qf4 ns ss=true):ns.length=ss.length/\∀k:Int,0<=k->k < ns.length->(ss.getD k.toNat default).lo<=ns.getD k.toNat default/\ns.getD k.toNat default<=(ss.getD k.toNat default).hi:=by
 simp only [Qf4,Bool.and_eq_true,decide_eq_true_iff] at h
 exact ⟨h.1,fun k h0 h1=> QaW.1 (QqL h.2 h0 h1)⟩
theorem QdF {s:Qaa} {all:List Row} (hs:Qa8 s=true) (h:QmG s all=true):all.length=s.lots.length/\∀r∈all,r.length=s.stock.length/\∀x∈r,0<=x/\x<=100000:=by
 simp only [QmG,Bool.and_eq_true,decide_eq_true_iff] at h
 obtain ⟨hl,hg⟩:=h
 refine ⟨hl,fun r hr=> ?_⟩
 obtain ⟨i,h0,h1,rfl⟩:=Qnt hr
 have hi:i < s.lots.length:=by omega
 obtain ⟨a,b⟩:=Qbt (QqL hg h0 hi)
 have hlot:=(Qa2 hs).2 _ (QaB h0 hi)
 obtain ⟨c,d,_⟩:=Qc6 hlot
 refine ⟨a.trans c,fun x hx=> ?_⟩
 obtain ⟨j,j0,j1,rfl⟩:=Qnt hx
 have:=b j j0 j1
 have:=d _ (QaB (l:=(s.lots.getD i.toNat default).goods) j0 (by omega))
 omega
theorem QmK {m:Int}:∀{l:List Int},(∀x∈l,0<=x/\x<=m)->0<=QeE l/\QeE l<=m * l.length
 | [],_=> by simp [QeE]
 | x::l,h=> by
   have h1:=h x (by simp)
   have h2:=QmK (l:=l) fun y hy=> h y (by simp [hy])
   have e:m * ((l.length:Int)+1)=m * l.length+m:=by rw [Int.mul_add,Int.mul_one]
   simp only [QeE,List.length_cons,Int.natCast_add,Int.natCast_one]
   omega
theorem Qav {s:Qaa} (h:Qa8 s=true):(1<=s.stock.length/\s.stock.length<=4)/\(∀x∈s.stock,0<=x/\x<=100000)/\s.use.length=s.stock.length/\∀u∈s.use,0<=u.lo/\u.lo<=u.hi/\u.hi<=1000:=by
 simp only [Qa8,Qct,Qbz,Bool.and_eq_true,decide_eq_true_iff,List.all_eq_true,QaW] at h
 exact ⟨by omega,h.2.1,h.2.2.1,h.2.2.2.1⟩
def Qcs (load:Int) (goods:List Row) (k:Int):Int:=QeE ((Qax load goods 0).map fun r=> r.getD k.toNat default)
def Qyi (s:Qaa) (load days:Int) (t:Qat) (k:Int):Gd:=⟨s.stock.getD k.toNat default,t.uses.getD k.toNat default,Qcs load t.goods k,Qb1 days t.gaps⟩
def QaD (s:Qaa) (load days:Int) (t:Qat):List Gd:=(upI 0 s.stock.length).map (Qyi s load days t)
abbrev slG (xs:List Gd):Value:=slT xs.length (Qac Qcv xs)
def QnN (s:Qaa) (load days:Int) (t:Qat) (i:Int):List Gd:=Qh1 (Qyi s load days t) ⟨0,0,0,[]⟩ (upI 0 s.stock.length) i
theorem QkQ {s:Qaa} {load days:Int} {t:Qat} {i:Int}:(QnN s load days t i).length=s.stock.length:=by
 unfold QnN;rw [Qfv,Qf6];omega
theorem Q1r {s:Qaa} {load days:Int} {t:Qat}:List.replicate s.stock.length (⟨0,0,0,[]⟩:Gd)=QnN s load days t 0:=by
 unfold QnN;rw [<-QiY,Qf6];rfl
theorem Qwm {s:Qaa} {load days:Int} {t:Qat} {i:Int} (h0:0<=i) (h:i < s.stock.length):(QnN s load days t i).set i.toNat (Qyi s load days t i)=QnN s load days t (i+1):=by
 have:=Qfz (f:=Qyi s load days t) (x0:=⟨0,0,0,[]⟩) (xs:=upI 0 s.stock.length) (i:=i) h0 (by rw [Qf6];omega)
 rw [Qn5 h0 h] at this
 exact this
theorem QvW {s:Qaa} {load days:Int} {t:Qat} {i:Int} (h:s.stock.length<=i):QnN s load days t i=QaD s load days t:=Qfd (by rw [Qf6];omega)
theorem Q4f {s:Qaa} {load days:Int} {t:Qat} (hs:Qa8 s=true) (ht:Qc5 s days t=true) (hd:0<=days/\days<=300) (h0:0<=load) (h1:load < 64) (hx:Qcf load<=s.lots.length):∀g∈QaD s load days t,gdB g:=by
 intro g hg
 obtain ⟨k,hk,rfl⟩:=List.mem_map.1 hg
 obtain ⟨i,i0,i1,rfl⟩:=Qnt hk
 rw [Qf6] at i1
 rw [Qn5 i0 (by omega)]
 simp only [Qc5,Bool.and_eq_true] at ht
 obtain ⟨⟨hl1,hl2⟩,hst,hul,hu⟩:=Qav hs
 obtain ⟨a,b⟩:=Qbt ht.1
 obtain ⟨rl,rr⟩:=QdF hs ht.2.2
 have f1:=hst _ (QaB (l:=s.stock) i0 (by omega))
 have f2:=hu _ (QaB (l:=s.use) i0 (by omega))
 have f3:=b i i0 (by omega)
 have f4:∀x∈(Qax load t.goods 0).map (fun r=> r.getD i.toNat default),0<=x/\x<=100000:=fun x hx'=> by
  obtain ⟨r,hr,rfl⟩:=List.mem_map.1 hx'
  obtain ⟨q1,q2⟩:=rr r (QcJ (Int.le_refl _) (by omega) r hr)
  exact q2 _ (QaB i0 (by omega))
 have f5:=QmK f4
 have f6:=QhK (s:=load) (n:=0) (xs:=t.goods) (Int.le_refl _)
 have f7:=QeY h0 h1
 rw [List.length_map] at f5
 have f8:(Qb1 days t.gaps).length=days.toNat:=by unfold Qb1;rw [QgS,List.length_replicate]
 unfold gdB Qyi
 simp only [Qcs]
 refine ⟨by omega,by omega,by omega,by omega,by omega,by omega,by omega⟩
def Qgf (s:Qaa) (load days:Int) (t:Qat) (i:Int) (ys:List Gd):List Value:=[pA 2 0,pA 3 0,Qa0 1 (slT (List.length (Qb1 days t.gaps)) (Qac QdM (Qb1 days t.gaps))),Qa0 1 (slT (List.length (Qax load t.goods 0)) (Qac Qaz (Qax load t.goods 0))),.slice (some {block:=4,off:=0}) s.stock.length 4,.int .i64 (↑s.stock.length:Int),.int .i64 i]
def QdT (s:Qaa) (load days:Int) (t:Qat) (i:Int) (ys:List Gd):List Obj:=[Obj.cells #[Qa0 1 (slT s.stock.length (Qac Qar s.stock)),Qa0 1 (slT s.use.length (Qac Qa6 s.use)),.int .i64 s.glo,.int .i64 s.ghi,Qa0 1 (slT s.lots.length (Qac Qam s.lots)),.int .i64 s.hold,.int .i64 load,.int .i64 days] 122,Obj.cells #[Qa0 1 (slT t.uses.length (Qac Qar t.uses)),Qa0 1 (slT t.gaps.length (Qac Qar t.gaps)),Qa0 1 (slT t.goods.length (Qac Qaz t.goods))] 65,.cells (Qac (Qa5 1 Qcv) ys) 129 (0,0)]
def QfW:List Item:=([.code [1,1,1,1,0,1,0,0],.inLoop [1,1,1,1,0,1,0,0],.inBlock 0,.code [1,1,1,1,1]]).map (it (Qal Tryz.prog 84))
def Qv3 (B:Lo) (c0:CF) (s:Qaa) (load days:Int) (t:Qat) (i:Int) (ys:List Gd):Prop:=∃dJ:Nat->Value,(∀t,QaS (dJ t))/\GoE Tryz.prog B c0 H00 1 (Qa4 84 52 (([2,3,5,6,7,25,26]:List Nat).zip (Qgf s load days t i ys)) dJ QfW) (Qa3 (QdT s load days t i ys)) (2+(QdT s load days t i ys).length) []
def QcP (s:Qaa) (load days:Int) (t:Qat) (i:Int) (ys:List Gd) (dJ0:Nat->Value):Qap:=[(5,Obj.cells #[.int .i64 i] 3),(0,Obj.coro none),(1,Obj.coro none),(2,Obj.cells #[Qa0 1 (slT s.stock.length (Qac Qar s.stock)),Qa0 1 (slT s.use.length (Qac Qa6 s.use)),.int .i64 s.glo,.int .i64 s.ghi,Qa0 1 (slT s.lots.length (Qac Qam s.lots)),.int .i64 s.hold,.int .i64 load,.int .i64 days] 122),(3,Obj.cells #[Qa0 1 (slT t.uses.length (Qac Qar t.uses)),Qa0 1 (slT t.gaps.length (Qac Qar t.gaps)),Qa0 1 (slT t.goods.length (Qac Qaz t.goods))] 65),(4,Obj.cells (Qac (Qa5 1 Qcv) ys) 129)]
def Qfo (s:Qaa) (load days:Int) (t:Qat) (i:Int) (ys:List Gd) (dJ0:Nat->Value):CF:=⟨122,ofList 26 [Qa0 1 (slT (List.length (Qax load t.goods 0)) (Qac Qaz (Qax load t.goods 0))),Value.func (Fn.func 123) #[] #[pA 5 0]],[Item.code (Qal Tryz.prog 122)],[],.run,none⟩
def QdU (s:Qaa) (load days:Int) (t:Qat) (i:Int) (ys:List Gd) (dJ0:Nat->Value) (j:Int) (zs:List Int):List Value:=[Value.func (Fn.func 123) #[] #[pA 5 0],.slice (some {block:=7,off:=0}) (List.length (Qax load t.goods 0)) 1,Qa0 1 (slT (List.length (Qax load t.goods 0)) (Qac Qaz (Qax load t.goods 0))),.int .i64 (↑(List.length (Qax load t.goods 0)):Int),.int .i64 j]
def Qeg (s:Qaa) (load days:Int) (t:Qat) (i:Int) (ys:List Gd) (dJ0:Nat->Value) (j:Int) (zs:List Int):List Obj:=[]
def QbW (s:Qaa) (load days:Int) (t:Qat) (i:Int) (ys:List Gd) (dJ0:Nat->Value) (j:Int) (zs:List Int):List Obj:=[.cells (Qac Qar zs) 3 (0,0)]
def QdV:List Item:=([.code [1,1,0,1,0,0],.inLoop [1,1,0,1,0,0],.inBlock 0,.code [1,1,1]]).map (it (Qal Tryz.prog 122))
def QgG (s:Qaa) (load days:Int) (t:Qat) (i:Int) (ys:List Gd) (dJ0:Nat->Value) (j:Int) (zs:List Int) (dJ1:Nat->Value):Qap:=[(6,Obj.coro none),(7,Obj.cells (Qac Qar zs) 3),(5,Obj.cells #[.int .i64 i] 3),(0,Obj.coro none),(1,Obj.coro none),(2,Obj.cells #[Qa0 1 (slT s.stock.length (Qac Qar s.stock)),Qa0 1 (slT s.use.length (Qac Qa6 s.use)),.int .i64 s.glo,.int .i64 s.ghi,Qa0 1 (slT s.lots.length (Qac Qam s.lots)),.int .i64 s.hold,.int .i64 load,.int .i64 days] 122),(3,Obj.cells #[Qa0 1 (slT t.uses.length (Qac Qar t.uses)),Qa0 1 (slT t.gaps.length (Qac Qar t.gaps)),Qa0 1 (slT t.goods.length (Qac Qaz t.goods))] 65),(4,Obj.cells (Qac (Qa5 1 Qcv) ys) 129)]
def Qim (s:Qaa) (load days:Int) (t:Qat) (i:Int) (ys:List Gd) (dJ0:Nat->Value) (j:Int) (zs:List Int) (dJ1:Nat->Value):CF:=⟨123,ofList 8 [Qa0 1 (slT (List.length (List.getD (Qax load t.goods 0) j.toNat default)) (Qac Qar (List.getD (Qax load t.goods 0) j.toNat default))),pA 5 0],[Item.code (Qal Tryz.prog 123)],[],.run,none⟩
def Qfe (days:Int) (t:Qat):Value:=(slT (List.length (Qb1 days t.gaps)) (Qac QdM (Qb1 days t.gaps)))
theorem Qvb (B:Lo) (s:Qaa) (load days:Int) (t:Qat) (i:Int) (ys:List Gd) (dJ0:Nat->Value) (j:Int) (zs:List Int) (dJ1:Nat->Value):CE.finK 8 (Qak Tryz.prog (Qa1 Tryz.prog) J0 B 6 8 (Qim s load days t i ys dJ0 j zs dJ1) (QgG s load days t i ys dJ0 j zs dJ1) 8
 [(3,Qaj.tidx i.toNat #[.int .i64 (List.getD (List.getD (Qax load t.goods 0) j.toNat default) i.toNat default)])] 0 [] []) [] [] []=some (OO.ret (.int .i64 (List.getD (List.getD (Qax load t.goods 0) j.toNat default) i.toNat default)),[],[],
 [i=(↑i.toNat:Int)/\Int.toNat i < List.length (List.getD (Qax load t.goods 0) j.toNat default)/\Array.extract (Qac Qar (List.getD (Qax load t.goods 0) j.toNat default)) (Int.toNat i * TypeInfo.size Tryz.t3) (Int.toNat i * TypeInfo.size Tryz.t3+TypeInfo.size Tryz.t3)=#[.int .i64 (List.getD (List.getD (Qax load t.goods 0) j.toNat default) i.toNat default)]]):=by kernel_rfl
theorem QuQ (B:Lo) (s:Qaa) (load days:Int) (t:Qat) (i:Int) (ys:List Gd) (dJ0:Nat->Value) (j:Int) (zs:List Int) (dJ1:Nat->Value):CE.landA 6 (Qak Tryz.prog (Qa1 Tryz.prog) J0 B 13 6 (Qcw (none) 122 26 (([1,5,11,12,13]:List Nat).zip (QdU s load days t i ys dJ0 j zs)) dJ1 QdV) (QbE (QcP s load days t i ys dJ0) 6 (([]:List Nat).zip (Qeg s load days t i ys dJ0 j zs)) (QbW s load days t i ys dJ0 j zs)) (6+1+(QbW s load days t i ys dJ0 j zs).length)
 [(0,hvT),(2,Qaj.tidx j.toNat #[slT (List.length (List.getD (Qax load t.goods 0) j.toNat default)) (Qac Qar (List.getD (Qax load t.goods 0) j.toNat default))]),(10,Qaj.call (List.range 8) (OO.ret (.int .i64 (List.getD (List.getD (Qax load t.goods 0) j.toNat default) i.toNat default))) ([]++(8,Qby)::QaK 9 []) 9 []),(11,Qaj.old (Hint.idx j.toNat)),(12,Qaj.old (Hint.st (Qac Qar (List.set zs j.toNat (List.getD (List.getD (Qax load t.goods 0) j.toNat default) i.toNat default))))),(13,hvI (j+1))] 0 [] []) [1,5,11,12,13] [] [(7,KS.cells [] (Qac Qar (List.set zs j.toNat (List.getD (List.getD (Qax load t.goods 0) j.toNat default) i.toNat default))))] []=some ⟨122,26,QdV,[],.run,none,QdU s load days t i ys dJ0 (j+1) (List.set zs j.toNat (List.getD (List.getD (Qax load t.goods 0) j.toNat default) i.toNat default)),([]:List Nat).zip (Qeg s load days t i ys dJ0 (j+1) (List.set zs j.toNat (List.getD (List.getD (Qax load t.goods 0) j.toNat default) i.toNat default))),QbW s load days t i ys dJ0 (j+1) (List.set zs j.toNat (List.getD (List.getD (Qax load t.goods 0) j.toNat default) i.toNat default)),
 [QaQ 6 [] (Qac Qar (List.set zs j.toNat (List.getD (List.getD (Qax load t.goods 0) j.toNat default) i.toNat default))) (Qac Qar (List.set zs j.toNat (List.getD (List.getD (Qax load t.goods 0) j.toNat default) i.toNat default))),wq (j+1)=j+1,0+Int.toNat j * 1+TypeInfo.size Tryz.t3<=Array.size (Qac Qar zs)/\splice (Qac Qar zs) (0+Int.toNat j * 1) (Value.cells (Qce {len:=16000,tr:=Tri.set 14 (Tri.set 14 Tri.lf 22 (.int .i64 (List.getD (List.getD (Qax load t.goods 0) j.toNat default) i.toNat default))) 23 (.pointer (some {block:=7,off:=0+Int.toNat j * 1}))} 22))=Qac Qar (List.set zs j.toNat (List.getD (List.getD (Qax load t.goods 0) j.toNat default) i.toNat default)),j=(↑j.toNat:Int)/\Int.toNat j < List.length (Qax load t.goods 0),FJ Tryz.prog B (Qim s load days t i ys dJ0 j zs dJ1) (QgG s load days t i ys dJ0 j zs dJ1) 8 (OO.ret (.int .i64 (List.getD (List.getD (Qax load t.goods 0) j.toNat default) i.toNat default))) (([]++((8,Qby)::QaK (8+1) []))++QgG s load days t i ys dJ0 j zs dJ1) 9 (List.range 8) [],j=(↑j.toNat:Int)/\Int.toNat j < List.length (Qax load t.goods 0)/\Array.extract (Qac Qaz (Qax load t.goods 0)) (Int.toNat j * TypeInfo.size Tryz.t22) (Int.toNat j * TypeInfo.size Tryz.t22+TypeInfo.size Tryz.t22)=#[slT (List.length (List.getD (Qax load t.goods 0) j.toNat default)) (Qac Qar (List.getD (Qax load t.goods 0) j.toNat default))],ltq j (↑(List.length (Qax load t.goods 0)):Int)=true]⟩:=by kernel_rfl
theorem Qwr (B:Lo) (s:Qaa) (load days:Int) (t:Qat) (i:Int) (ys:List Gd) (dJ0:Nat->Value) (j:Int) (zs:List Int) (dJ1:Nat->Value):CE.finK 6 (Qak Tryz.prog (Qa1 Tryz.prog) J0 B 9 6 (Qcw (none) 122 26 (([1,5,11,12,13]:List Nat).zip (QdU s load days t i ys dJ0 j zs)) dJ1 QdV) (QbE (QcP s load days t i ys dJ0) 6 (([]:List Nat).zip (Qeg s load days t i ys dJ0 j zs)) (QbW s load days t i ys dJ0 j zs)) (6+1+(QbW s load days t i ys dJ0 j zs).length)
 [(0,hvF)] 0 [] []) [] [] [{k:=7,rs:=[],cs:=Qac Qar zs}]=some (OO.ret (Qa0 6 (slT (List.length (Qax load t.goods 0)) (Fz.cs {k:=7,rs:=[],cs:=Qac Qar zs}))),[],[],
 [Qb8 (Fz.rs {k:=7,rs:=[],cs:=Qac Qar zs}) (Qac Qar zs) (Fz.cs {k:=7,rs:=[],cs:=Qac Qar zs}),ltq j (↑(List.length (Qax load t.goods 0)):Int)=false]):=by kernel_rfl
set_option maxHeartbeats 4000000 in
theorem Qp1 (s:Qaa) (load days:Int) (t:Qat) (i:Int) (ys:List Gd) (dJ0:Nat->Value) (hs:Qa8 s=true) (ht:Qc5 s days t=true) (hd:0<=days/\days<=300) (h0:0<=load) (h1:load < 64) (hx:Qcf load<=s.lots.length) (i0:0<=i) (hy:ys=QnN s load days t i) (hdJ0:∀t,QaS (dJ0 t)) (q0:(i:Int) < ((↑s.stock.length:Int))) {B:Lo} (hJ:∀w,B.has w->J0 w):∀m:Nat,(∀(j:Int) (zs:List Int),(Qax load t.goods 0).length - j.toNat=m->∀(j0:0<=j) (hz:zs=Qh1 (fun (r:Row)=> r.getD i.toNat default) 0 (Qax load t.goods 0) j),(∃dJ1:Nat->Value,(∀t,QaS (dJ1 t))/\GoE Tryz.prog B (Qfo s load days t i ys dJ0) (QcP s load days t i ys dJ0) 6 (Qcw (none) 122 26 (([1,5,11,12,13]:List Nat).zip (QdU s load days t i ys dJ0 j zs)) dJ1 QdV) (QbE (QcP s load days t i ys dJ0) 6 (([]:List Nat).zip (Qeg s load days t i ys dJ0 j zs)) (QbW s load days t i ys dJ0 j zs)) (6+1+(QbW s load days t i ys dJ0 j zs).length) ([]:List Nat))->FinK Tryz.prog B (Qfo s load days t i ys dJ0) (QcP s load days t i ys dJ0) 6 (.ret (Qa0 6 (slI ((Qax load t.goods 0).map fun r=> r.getD i.toNat default)))) (([]:List Nat).zip ([])) ([]) ([]:List Nat)):=by
 intro m1
 induction m1 using Nat.strongRecOn with
 | _ m1 ih1=>
   intro j zs hm1 j0 hz ⟨dJ1,hdJ1,hg1⟩
   have ht':=ht;simp only [Qc5,QlU,Bool.and_eq_true,decide_eq_true_iff,List.all_eq_true,QaW] at ht'
   have hgp:=Qa9 hs
   have hst:=Qav hs
   have hrows:=QdF hs ht'.2.2
   have hus:=(Qbt ht'.1).1
   have hgg:∀x∈t.gaps,0<=x/\x<=60:=fun x h=> by have:=ht'.2.1.2.1 x h;omega
   have hgl:t.gaps.length<=300:=ht'.2.1.1
   have hpx:Qcf load<=t.goods.length:=by omega
   have hpl:=QhK (s:=load) (n:=0) (xs:=t.goods) (Int.le_refl _)
   have hl6:=QeY h0 h1
   have hyl:ys.length=s.stock.length:=by rw [hy];exact QkQ
   have hzl:zs.length=(Qax load t.goods 0).length:=by rw [hz];exact Qfv
   have hyl:ys.length=s.stock.length:=by rw [hy];exact QkQ
   have hri:∀r∈Qax load t.goods 0,i < r.length:=fun r h=> by have:=(hrows.2 r (QcJ (Int.le_refl _) hpx r h)).1;omega
   by_cases q1:(j:Int) < ((↑(List.length (Qax load t.goods 0)):Int))
   ·
    have rj1:FJ Tryz.prog B (Qim s load days t i ys dJ0 j zs dJ1) (QgG s load days t i ys dJ0 j zs dJ1) 8 (OO.ret (.int .i64 (List.getD (List.getD (Qax load t.goods 0) j.toNat default) i.toNat default))) (([]++((8,Qby)::QaK (8+1) []))++QgG s load days t i ys dJ0 j zs dJ1) 9 (List.range 8) []:=by
     have hri:∀r∈Qax load t.goods 0,i < r.length:=fun r h=> by have:=(hrows.2 r (QcJ (Int.le_refl _) hpx r h)).1;omega
     have hrx:∀x∈(Qax load t.goods 0).map (fun r=> r.getD i.toNat default),-1000000000<=x/\x<=1000000000:=fun x h=> by obtain ⟨r,hr,rfl⟩:=List.mem_map.1 h;obtain ⟨a,b⟩:=hrows.2 r (QcJ (Int.le_refl _) hpx r hr);have:=b _ (QaB (l:=r) i0 (by omega));omega
     have hrl:((Qax load t.goods 0).map (fun r=> r.getD i.toNat default)).length<=1000:=by rw [List.length_map];omega
     have hrj:=hri _ (QaB j0 (by assumption))
     exact FinK.fjB (GoE.finK okF hJ Qab (Qan (by kernel_rfl)) (Qag (by kernel_rfl)) ((GoE.refl (P:=Tryz.prog) (B:=B) (c0:=Qim s load days t i ys dJ0 j zs dJ1) (Qan (by kernel_rfl))).widen (Wf:=((([]):List (Nat×KS)).map (·.1))) (by simp) (Qag (by kernel_rfl))) (Qvb B s load days t i ys dJ0 j zs dJ1)
      ⟨⟨by omega,by omega,(Qaf (z:=1) (fun _=> rfl) (by omega))⟩,trivial⟩) (ex:=[7,4]) (by kernel_rfl) ⟨trivial,⟨(QrY (t:=3) (fl:=(0,0)) (fun x=> List.all_eq_true.1 (by rfl))),⟨trivial,⟨trivial,⟨trivial,⟨trivial,⟨trivial,⟨(Qfl (t:=129) (fl:=(0,0)) (QaV (fun _=> rfl)) (by decide)),trivial⟩⟩⟩⟩⟩⟩⟩⟩
    have hri:∀r∈Qax load t.goods 0,i < r.length:=fun r h=> by have:=(hrows.2 r (QcJ (Int.le_refl _) hpx r h)).1;omega
    have hrx:∀x∈(Qax load t.goods 0).map (fun r=> r.getD i.toNat default),-1000000000<=x/\x<=1000000000:=fun x h=> by obtain ⟨r,hr,rfl⟩:=List.mem_map.1 h;obtain ⟨a,b⟩:=hrows.2 r (QcJ (Int.le_refl _) hpx r hr);have:=b _ (QaB (l:=r) i0 (by omega));omega
    have hrl:((Qax load t.goods 0).map (fun r=> r.getD i.toNat default)).length<=1000:=by rw [List.length_map];omega
    have hrj:=hri _ (QaB j0 (by assumption))
    exact ((ih1 _ (by omega)) (j+1) (List.set zs j.toNat (List.getD (List.getD (Qax load t.goods 0) j.toNat default) i.toNat default)) rfl (by omega) (by (subst hz;exact Qfz (f:=fun (r:Row)=> r.getD i.toNat default) j0 q1))
     (GoE.landA okF hJ Qab (Qan (by kernel_rfl)) (Qag (by kernel_rfl)) hg1 (QuQ B s load days t i ys dJ0 j zs dJ1)
     ⟨(Qao (Qaw (fun x=> List.all_eq_true.1 (by rfl)))),⟨(QaJ (by omega) (by omega)),⟨(by exact Qin (z:=1) (fun _=> rfl) (by omega) rfl rfl),⟨⟨by omega,by omega⟩,⟨rj1,⟨⟨by omega,by omega,(Qaf (z:=1) (fun _=> rfl) (by omega))⟩,⟨(Qbl q1),trivial⟩⟩⟩⟩⟩⟩⟩ (by kernel_rfl) (by kernel_rfl) (fun l hl=> by cases hl <;> decide))).cast (by rfl) (by rfl) (by rfl)
   ·
    have hri:∀r∈Qax load t.goods 0,i < r.length:=fun r h=> by have:=(hrows.2 r (QcJ (Int.le_refl _) hpx r h)).1;omega
    have hrx:∀x∈(Qax load t.goods 0).map (fun r=> r.getD i.toNat default),-1000000000<=x/\x<=1000000000:=fun x h=> by obtain ⟨r,hr,rfl⟩:=List.mem_map.1 h;obtain ⟨a,b⟩:=hrows.2 r (QcJ (Int.le_refl _) hpx r hr);have:=b _ (QaB (l:=r) i0 (by omega));omega
    have hrl:((Qax load t.goods 0).map (fun r=> r.getD i.toNat default)).length<=1000:=by rw [List.length_map];omega
    exact (GoE.finK okF hJ Qab (Qan (by kernel_rfl)) (Qag (by kernel_rfl)) hg1 (Qwr B s load days t i ys dJ0 j zs dJ1)
     ⟨(Qbe (fun x=> List.all_eq_true.1 (by rfl))),⟨(Qbq (Int.not_lt.1 q1)),trivial⟩⟩).cast (by exact congrArg (fun v=> OO.ret (Qa0 6 v)) (Qhr (hz.trans (Qfd (by omega))) (by simp))) (by rfl) (by rfl)

theorem Qxl (B:Lo) (s:Qaa) (load days:Int) (t:Qat) (i:Int) (ys:List Gd) (dJ0:Nat->Value):CE.landA 6 (Qak Tryz.prog (Qa1 Tryz.prog) J0 B 9 6 (Qfo s load days t i ys dJ0) (QcP s load days t i ys dJ0) 6
 [(3,Qaj.old (Hint.mk (List.length (Qax load t.goods 0)) (Qac (Qcr [.int .i64 0]) (List.replicate (List.length (Qax load t.goods 0)) ()))))] 0 [] []) [1,5,11,12,13] [] [(6,KS.rows [] [] (Qac Qar (List.replicate (List.length (Qax load t.goods 0)) 0)))] []=some ⟨122,26,QdV,[],.run,none,QdU s load days t i ys dJ0 (0) (List.replicate (List.length (Qax load t.goods 0)) 0),([]:List Nat).zip (Qeg s load days t i ys dJ0 (0) (List.replicate (List.length (Qax load t.goods 0)) 0)),QbW s load days t i ys dJ0 (0) (List.replicate (List.length (Qax load t.goods 0)) 0),
 [QaY 6 [] [] (Qac (Qcr [.int .i64 0]) (List.replicate (List.length (Qax load t.goods 0)) ())) (Qac Qar (List.replicate (List.length (Qax load t.goods 0)) 0)),Qhl Tryz.prog 22 (Qce {len:=16000,tr:=Tri.set 14 Tri.lf 9 (.int .i64 (↑(List.length (Qax load t.goods 0)):Int))} 9) (Qce {len:=16000,tr:=Tri.set 14 Tri.lf 9 (.int .i64 (↑(List.length (Qax load t.goods 0)):Int))} 9)=some (3,Qac (Qcr [.int .i64 0]) (List.replicate (List.length (Qax load t.goods 0)) ()),List.length (Qax load t.goods 0),TypeInfo.size Tryz.t3)]⟩:=by kernel_rfl
theorem Qvq (B:Lo) (s:Qaa) (load days:Int) (t:Qat) (i:Int) (ys:List Gd) (dJ0:Nat->Value):landM (Qak Tryz.prog (Qa1 Tryz.prog) J0 B 15 1 (Qa4 84 52 (([2,3,5,6,7,25,26]:List Nat).zip (Qgf s load days t i ys)) dJ0 QfW) (Qa3 (QdT s load days t i ys)) (2+(QdT s load days t i ys).length)
 [(0,hvT),(6,Qaj.call (List.range 6) (OO.ret (Qa0 6 (slT (List.length (List.map (fun r=> r.getD i.toNat default) (Qax load t.goods 0))) (Qac Qar (List.map (fun r=> r.getD i.toNat default) (Qax load t.goods 0)))))) ([]++(6,Qby)::QaK 7 []) 7 []),(14,Qaj.tidx i.toNat #[.int .i64 (s.stock.getD i.toNat default)]),(19,Qaj.tidx i.toNat #[.int .i64 (t.uses.getD i.toNat default)]),(22,Qaj.pure (.int .i64 (QeE (List.map (fun r=> r.getD i.toNat default) (Qax load t.goods 0)))) []),(25,Qaj.old (Hint.idx i.toNat)),(26,Qaj.old (Hint.st (splice (Qac (Qa5 1 Qcv) ys) (0+Int.toNat i * 4) #[.int .i64 (s.stock.getD i.toNat default),.int .i64 (t.uses.getD i.toNat default),.int .i64 (QeE (List.map (fun r=> r.getD i.toNat default) (Qax load t.goods 0))),Qa0 1 (Qfe days t)]))),(27,hvI (i+1))] 0 [] []) [2,3,5,6,7,25,26] [(2,KS.auto),(3,KS.auto),(4,KS.rows [(1,1)] [] (Qac (Qa5 1 Qcv) (List.set ys i.toNat {stock:=s.stock.getD i.toNat default,use:=t.uses.getD i.toNat default,br:=QeE (List.map (fun r=> r.getD i.toNat default) (Qax load t.goods 0)),ships:=Qb1 days t.gaps})))] []=some ⟨84,52,QfW,[],.run,none,Qgf s load days t (i+1) (List.set ys i.toNat {stock:=s.stock.getD i.toNat default,use:=t.uses.getD i.toNat default,br:=QeE (List.map (fun r=> r.getD i.toNat default) (Qax load t.goods 0)),ships:=Qb1 days t.gaps}),QdT s load days t (i+1) (List.set ys i.toNat {stock:=s.stock.getD i.toNat default,use:=t.uses.getD i.toNat default,br:=QeE (List.map (fun r=> r.getD i.toNat default) (Qax load t.goods 0)),ships:=Qb1 days t.gaps}),
 [QaY 1 [(1,1)] [] (splice (Qac (Qa5 1 Qcv) ys) (0+Int.toNat i * 4) #[.int .i64 (s.stock.getD i.toNat default),.int .i64 (t.uses.getD i.toNat default),.int .i64 (QeE (List.map (fun r=> r.getD i.toNat default) (Qax load t.goods 0))),Qa0 1 (Qfe days t)]) (Qac (Qa5 1 Qcv) (List.set ys i.toNat {stock:=s.stock.getD i.toNat default,use:=t.uses.getD i.toNat default,br:=QeE (List.map (fun r=> r.getD i.toNat default) (Qax load t.goods 0)),ships:=Qb1 days t.gaps})),wq (i+1)=i+1,0+Int.toNat i * 4+TypeInfo.size Tryz.t129<=Array.size (Qac (Qa5 1 Qcv) ys)/\splice (Qac (Qa5 1 Qcv) ys) (0+Int.toNat i * 4) (Value.cells (Qce {len:=16000,tr:=Tri.set 14 (Tri.set 14 Tri.lf 48 (.agg #[.int .i64 (s.stock.getD i.toNat default),.int .i64 (t.uses.getD i.toNat default),.int .i64 (QeE (List.map (fun r=> r.getD i.toNat default) (Qax load t.goods 0))),Qa0 1 (Qfe days t)])) 49 (.pointer (some {block:=4,off:=0+Int.toNat i * 4}))} 48))=splice (Qac (Qa5 1 Qcv) ys) (0+Int.toNat i * 4) #[.int .i64 (s.stock.getD i.toNat default),.int .i64 (t.uses.getD i.toNat default),.int .i64 (QeE (List.map (fun r=> r.getD i.toNat default) (Qax load t.goods 0))),Qa0 1 (Qfe days t)],i=(↑i.toNat:Int)/\Int.toNat i < List.length s.stock,Qa7 []/\Qas Tryz.prog J0 124 #[slT (List.length (List.map (fun r=> r.getD i.toNat default) (Qax load t.goods 0))) (Qac Qar (List.map (fun r=> r.getD i.toNat default) (Qax load t.goods 0)))] (.int .i64 (QeE (List.map (fun r=> r.getD i.toNat default) (Qax load t.goods 0)))),i=(↑i.toNat:Int)/\Int.toNat i < List.length t.uses/\Array.extract (Qac Qar t.uses) (Int.toNat i * TypeInfo.size Tryz.t3) (Int.toNat i * TypeInfo.size Tryz.t3+TypeInfo.size Tryz.t3)=#[.int .i64 (t.uses.getD i.toNat default)],i=(↑i.toNat:Int)/\Int.toNat i < List.length s.stock/\Array.extract (Qac Qar s.stock) (Int.toNat i * TypeInfo.size Tryz.t3) (Int.toNat i * TypeInfo.size Tryz.t3+TypeInfo.size Tryz.t3)=#[.int .i64 (s.stock.getD i.toNat default)],FJ Tryz.prog B (Qfo s load days t i ys dJ0) (QcP s load days t i ys dJ0) 6 (OO.ret (Qa0 6 (slT (List.length (List.map (fun r=> r.getD i.toNat default) (Qax load t.goods 0))) (Qac Qar (List.map (fun r=> r.getD i.toNat default) (Qax load t.goods 0)))))) (([]++((6,Qby)::QaK (6+1) []))++QcP s load days t i ys dJ0) 7 (List.range 6) [],ltq i (↑s.stock.length:Int)=true]⟩:=by kernel_rfl
theorem Qx4 (B:Lo) (s:Qaa) (load days:Int) (t:Qat) (i:Int) (ys:List Gd) (dJ0:Nat->Value):Qbb (Qak Tryz.prog (Qa1 Tryz.prog) J0 B 9 1 (Qa4 84 52 (([2,3,5,6,7,25,26]:List Nat).zip (Qgf s load days t i ys)) dJ0 QfW) (Qa3 (QdT s load days t i ys)) (2+(QdT s load days t i ys).length)
 [(0,hvF)] 0 [] []) [{k:=4,rs:=[1],cs:=Qac Qcv ys}]=some (slT s.stock.length (Fz.cs {k:=4,rs:=[1],cs:=Qac Qcv ys}),
 [Qb8 (Fz.rs {k:=4,rs:=[1],cs:=Qac Qcv ys}) (Qac (Qa5 1 Qcv) ys) (Fz.cs {k:=4,rs:=[1],cs:=Qac Qcv ys}),ltq i (↑s.stock.length:Int)=false]):=by kernel_rfl
theorem Qxd (B:Lo) (s:Qaa) (load days:Int) (t:Qat):landM (Qak Tryz.prog (Qa1 Tryz.prog) J0 B 13 1 (Qai Tryz.prog 84 52 (([.agg (QaO s load days).toArray,.agg (QaI t).toArray]).map (Qaq 0 4))) H00 1
 [(6,Qaj.pure (Qfe days t) []),(12,Qaj.pure (slT (List.length (Qax load t.goods 0)) (Qac Qaz (Qax load t.goods 0))) []),(18,Qaj.old (Hint.mk s.stock.length (Qac (Qcr [.int .i64 0,.int .i64 0,.int .i64 0,.slice none 0 0]) (List.replicate s.stock.length ()))))] 0 [] []) [2,3,5,6,7,25,26] [(1,KS.auto),(2,KS.auto),(5,KS.rows [] [] (Qac (Qa5 1 Qcv) (List.replicate s.stock.length {stock:=0,use:=0,br:=0,ships:=[]})))] []=some ⟨84,52,QfW,[],.run,none,Qgf s load days t (0) (List.replicate s.stock.length {stock:=0,use:=0,br:=0,ships:=[]}),QdT s load days t (0) (List.replicate s.stock.length {stock:=0,use:=0,br:=0,ships:=[]}),
 [QaY 1 [] [] (Qac (Qcr [.int .i64 0,.int .i64 0,.int .i64 0,.slice none 0 0]) (List.replicate s.stock.length ())) (Qac (Qa5 1 Qcv) (List.replicate s.stock.length {stock:=0,use:=0,br:=0,ships:=[]})),Qhl Tryz.prog 119 (Qce {len:=16000,tr:=Tri.set 14 Tri.lf 22 (.int .i64 (↑s.stock.length:Int))} 22) (Qce {len:=16000,tr:=Tri.set 14 Tri.lf 22 (.int .i64 (↑s.stock.length:Int))} 22)=some (129,Qac (Qcr [.int .i64 0,.int .i64 0,.int .i64 0,.slice none 0 0]) (List.replicate s.stock.length ()),List.length s.stock,TypeInfo.size Tryz.t129),Qa7 []/\Qas Tryz.prog J0 121 #[.int .i64 load,slT t.goods.length (Qac Qaz t.goods)] (slT (List.length (Qax load t.goods 0)) (Qac Qaz (Qax load t.goods 0))),Qa7 []/\Qas Tryz.prog J0 120 #[.agg #[slT s.stock.length (Qac Qar s.stock),slT s.use.length (Qac Qa6 s.use),.int .i64 s.glo,.int .i64 s.ghi,slT s.lots.length (Qac Qam s.lots),.int .i64 s.hold,.int .i64 load,.int .i64 days],slT t.gaps.length (Qac Qar t.gaps)] (Qfe days t)]⟩:=by kernel_rfl
set_option maxHeartbeats 4000000 in
theorem QvF (s:Qaa) (load days:Int) (t:Qat) (hs:Qa8 s=true) (ht:Qc5 s days t=true) (hd:0<=days/\days<=300) (h0:0<=load) (h1:load < 64) (hx:Qcf load<=s.lots.length) {B:Lo} (hJ:∀w,B.has w->J0 w) {c0:CF}:∀m:Nat,(∀(i:Int) (ys:List Gd),s.stock.length - i.toNat=m->∀(i0:0<=i) (hy:ys=QnN s load days t i),Qv3 B c0 s load days t i ys->EndsT Tryz.prog B c0 (slG (QaD s load days t))):=by
 intro m0
 induction m0 using Nat.strongRecOn with
 | _ m0 ih0=>
   intro i ys hm0 i0 hy ⟨dJ0,hdJ0,hg0⟩
   have ht':=ht;simp only [Qc5,QlU,Bool.and_eq_true,decide_eq_true_iff,List.all_eq_true,QaW] at ht'
   have hgp:=Qa9 hs
   have hst:=Qav hs
   have hrows:=QdF hs ht'.2.2
   have hus:=(Qbt ht'.1).1
   have hgg:∀x∈t.gaps,0<=x/\x<=60:=fun x h=> by have:=ht'.2.1.2.1 x h;omega
   have hgl:t.gaps.length<=300:=ht'.2.1.1
   have hpx:Qcf load<=t.goods.length:=by omega
   have hpl:=QhK (s:=load) (n:=0) (xs:=t.goods) (Int.le_refl _)
   have hl6:=QeY h0 h1
   have hyl:ys.length=s.stock.length:=by rw [hy];exact QkQ
   by_cases q0:(i:Int) < ((↑s.stock.length:Int))
   ·
    have rj0:FJ Tryz.prog B (Qfo s load days t i ys dJ0) (QcP s load days t i ys dJ0) 6 (OO.ret (Qa0 6 (slT (List.length (List.map (fun r=> r.getD i.toNat default) (Qax load t.goods 0))) (Qac Qar (List.map (fun r=> r.getD i.toNat default) (Qax load t.goods 0)))))) (([]++((6,Qby)::QaK (6+1) []))++QcP s load days t i ys dJ0) 7 (List.range 6) []:=by
     have hri:∀r∈Qax load t.goods 0,i < r.length:=fun r h=> by have:=(hrows.2 r (QcJ (Int.le_refl _) hpx r h)).1;omega
     have hrx:∀x∈(Qax load t.goods 0).map (fun r=> r.getD i.toNat default),-1000000000<=x/\x<=1000000000:=fun x h=> by obtain ⟨r,hr,rfl⟩:=List.mem_map.1 h;obtain ⟨a,b⟩:=hrows.2 r (QcJ (Int.le_refl _) hpx r hr);have:=b _ (QaB (l:=r) i0 (by omega));omega
     have hrl:((Qax load t.goods 0).map (fun r=> r.getD i.toNat default)).length<=1000:=by rw [List.length_map];omega
     exact FinK.fjB ((Qp1 s load days t i ys dJ0 hs ht hd h0 h1 hx i0 hy hdJ0 q0 hJ _) (0) (List.replicate (List.length (Qax load t.goods 0)) 0) rfl (by omega) (by exact QiY)
      (GoE.landA okF hJ Qab (Qan (by kernel_rfl)) (Qag (by kernel_rfl)) ((GoE.refl (P:=Tryz.prog) (B:=B) (c0:=Qfo s load days t i ys dJ0) (Qan (by kernel_rfl))).widen (Wf:=((([]):List (Nat×KS)).map (·.1))) (by simp) (Qag (by kernel_rfl))) (Qxl B s load days t i ys dJ0)
      ⟨(by exact (Qcy (by exact ⟨(.simple rfl),trivial⟩) _)),⟨(Qjr (bytes:=8) (by kernel_rfl) (by omega) (by omega) (by omega)),trivial⟩⟩ (by kernel_rfl) (by kernel_rfl) (fun l hl=> by cases hl <;> decide))) (ex:=[4]) (by kernel_rfl) ⟨trivial,⟨trivial,⟨trivial,⟨trivial,⟨trivial,⟨(Qfl (t:=129) (fl:=(0,0)) (QaV (fun _=> rfl)) (by decide)),trivial⟩⟩⟩⟩⟩⟩
    have hri:∀r∈Qax load t.goods 0,i < r.length:=fun r h=> by have:=(hrows.2 r (QcJ (Int.le_refl _) hpx r h)).1;omega
    have hrx:∀x∈(Qax load t.goods 0).map (fun r=> r.getD i.toNat default),-1000000000<=x/\x<=1000000000:=fun x h=> by obtain ⟨r,hr,rfl⟩:=List.mem_map.1 h;obtain ⟨a,b⟩:=hrows.2 r (QcJ (Int.le_refl _) hpx r hr);have:=b _ (QaB (l:=r) i0 (by omega));omega
    have hrl:((Qax load t.goods 0).map (fun r=> r.getD i.toNat default)).length<=1000:=by rw [List.length_map];omega
    exact ((ih0 _ (by omega)) (i+1) (List.set ys i.toNat {stock:=s.stock.getD i.toNat default,use:=t.uses.getD i.toNat default,br:=QeE (List.map (fun r=> r.getD i.toNat default) (Qax load t.goods 0)),ships:=Qb1 days t.gaps}) rfl (by omega) (by (subst hy;exact Qwm i0 q0))
     (hg0.landM okF hJ Qab (Qvq B s load days t i ys dJ0)
     (by exact ⟨(by exact (QkG (z:=4) (fun _=> rfl) (QaN (QaV (fun _=> rfl)) (List.Mem.head _)) (by omega) (by exact ⟨(.simple rfl),⟨(.simple rfl),⟨(.simple rfl),⟨(.reg (List.Mem.head _) rfl),trivial⟩⟩⟩⟩))),⟨(QaJ (by omega) (by omega)),⟨⟨(by exact QzJ (z:=4) (fun _=> rfl) (by omega) rfl),rfl⟩,⟨⟨by omega,by omega⟩,⟨⟨trivial,Q4h (List.map (fun r=> r.getD i.toNat default) (Qax load t.goods 0)) (by with_reducible assumption) (by with_reducible assumption)⟩,⟨⟨by omega,by omega,(Qaf (z:=1) (fun _=> rfl) (by omega))⟩,⟨⟨by omega,by omega,(Qaf (z:=1) (fun _=> rfl) (by omega))⟩,⟨rj0,⟨(Qbl q0),trivial⟩⟩⟩⟩⟩⟩⟩⟩⟩) (by kernel_rfl) (by kernel_rfl))).cast (by rfl)
   ·
    have hrl:((Qax load t.goods 0).map (fun r=> r.getD i.toNat default)).length<=1000:=by rw [List.length_map];omega
    exact (GoE.endsT okF hJ Qab hg0 (Qx4 B s load days t i ys dJ0)
     ⟨(Qdo (QaV (fun _=> rfl)) (List.Mem.head _)),⟨(Qbq (Int.not_lt.1 q0)),trivial⟩⟩).cast (by exact Qhr (hy.trans (QvW (by omega))) (by simp [QaD,Qf6]))
set_option maxHeartbeats 4000000 in
theorem Q0m (s:Qaa) (load days:Int) (t:Qat) (hs:Qa8 s=true) (ht:Qc5 s days t=true) (hd:0<=days/\days<=300) (h0:0<=load) (h1:load < 64) (hx:Qcf load<=s.lots.length) {B:Lo} (hJ:∀w,B.has w->J0 w):EndsT Tryz.prog B (Qai Tryz.prog 84 52 (([.agg (QaO s load days).toArray,.agg (QaI t).toArray]).map (Qaq 0 4))) (slG (QaD s load days t)):=by
 have ht':=ht;simp only [Qc5,QlU,Bool.and_eq_true,decide_eq_true_iff,List.all_eq_true,QaW] at ht'
 have hgp:=Qa9 hs
 have hst:=Qav hs
 have hrows:=QdF hs ht'.2.2
 have hus:=(Qbt ht'.1).1
 have hgg:∀x∈t.gaps,0<=x/\x<=60:=fun x h=> by have:=ht'.2.1.2.1 x h;omega
 have hgl:t.gaps.length<=300:=ht'.2.1.1
 have hpx:Qcf load<=t.goods.length:=by omega
 have hpl:=QhK (s:=load) (n:=0) (xs:=t.goods) (Int.le_refl _)
 have hl6:=QeY h0 h1
 exact ((QvF s load days t hs ht hd h0 h1 hx hJ _) (0) (List.replicate s.stock.length {stock:=0,use:=0,br:=0,ships:=[]}) rfl (by omega) (by exact Q1r)
  (GoE.start.landM okF hJ Qab (Qxd B s load days t)
  (by exact ⟨(by exact (Qcy (by exact ⟨(.simple rfl),⟨(.simple rfl),⟨(.simple rfl),⟨.nil,trivial⟩⟩⟩⟩) _)),⟨(Qjr (bytes:=48) (by kernel_rfl) (by omega) (by omega) (by omega)),⟨⟨trivial,Q3t (load) t.goods (by with_reducible assumption) (by with_reducible assumption) (by with_reducible assumption)⟩,⟨⟨trivial,Q2D (s) (load) (days) t.gaps (by with_reducible assumption) (by with_reducible assumption) (by with_reducible assumption)⟩,trivial⟩⟩⟩⟩) (by kernel_rfl) (by kernel_rfl))).cast (by rfl)
theorem Q33 (s:Qaa) (load days:Int) (t:Qat) (hs:Qa8 s=true) (ht:Qc5 s days t=true) (hd:0<=days/\days<=300) (h0:0<=load) (h1:load < 64) (hx:Qcf load<=s.lots.length):Qas Tryz.prog J0 84 #[.agg (QaO s load days).toArray,.agg (QaI t).toArray] (slG (QaD s load days t)):=
 QaE (ts:=[.agg (QaO s load days).toArray,.agg (QaI t).toArray]) Qb6 (c0:=Qai Tryz.prog 84 52 (([.agg (QaO s load days).toArray,.agg (QaI t).toArray]).map (Qaq 0 4))) (by kernel_rfl) (by kernel_rfl) fun B hJ=> Q0m s load days t hs ht hd h0 h1 hx hJ
end
end Go.Proofs.YtiabgkiccaodmaaGreat

namespace Go.Proofs.YtiabgkiccaodmaaGreat
open Go Go.CE Go.RowKit
set_option maxRecDepth 100000
def Q2w (g:Gd):Int:=QaL g.use g.br g.ships 0 g.stock
theorem QdE {s:Qaa} {load:List Int} (hs:Qa8 s=true) (h:QbV s load=true):(∀x∈load,0<=x/\x<=61)/\0<=QcM load 0/\QcM load 0 < 64/\Qcf (QcM load 0)<=s.lots.length:=by
 have hm:=Qa2 hs
 simp only [QbV,Bool.and_eq_true] at h
 have g1:=Qjg h.1 (Int.le_refl 0)
 have g3:=Qi6 (k:=s.lots.length) (by omega) load 0 g1 (Int.le_refl 0) (Int.pow_pos (by decide))
 refine ⟨fun x hx=> by have:=g1 x hx;omega,g3.1, ?_,Qkk g3.1 g3.2⟩
 refine Int.lt_of_lt_of_le g3.2 ?_
 have h1:(2:Nat) ^ s.lots.length<=2 ^ 6:=Nat.pow_le_pow_right (by decide) (by omega)
 have e:(2:Int) ^ s.lots.length=((2 ^ s.lots.length:Nat):Int):=by rw [Int.natCast_pow];rfl
 rw [e];omega
end Go.Proofs.YtiabgkiccaodmaaGreat

