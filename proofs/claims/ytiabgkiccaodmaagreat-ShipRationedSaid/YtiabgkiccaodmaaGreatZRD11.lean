/- Something of each of a list. -/
import Derived.Test.YtiabgkiccaodmaaGreatZRD10
set_option linter.all false
namespace Go.Proofs.YtiabgkiccaodmaaGreat
open Go Go.CE Go.RowKit
set_option maxRecDepth 100000
def QgV {α β:Type} (f:α->β) (x0:β) (xs:List α) (i:Int):List β:=(xs.take i.toNat).map f++List.replicate (xs.length - i.toNat) x0
theorem Qg0 {α β:Type} {f:α->β} {x0:β} {xs:List α}:List.replicate xs.length x0=QgV f x0 xs 0:=by simp [QgV]
theorem QdO {α β:Type} {f:α->β} {x0:β} {xs:List α} {i:Int}:(QgV f x0 xs i).length=xs.length:=by simp [QgV];omega
theorem QdH {α β:Type} [Inhabited α] {f:α->β} {x0:β} {xs:List α} {i:Int} (h0:0<=i) (h:i < xs.length):(QgV f x0 xs i).set i.toNat (f (xs.getD i.toNat default))=QgV f x0 xs (i+1):=by
 obtain ⟨k,rfl⟩:∃k:Nat,i=k:=⟨i.toNat,by omega⟩
 have hk:k < xs.length:=by omega
 have e1:((k:Int)).toNat=k:=by omega
 have e2:((k:Int)+1).toNat=k+1:=by omega
 unfold QgV;rw [e1,e2];have hl:((xs.take k).map f).length=k:=by simp;omega
 rw [List.set_append_right _ _ (by omega),hl,Nat.sub_self];have er:xs.length - k=(xs.length - (k+1))+1:=by omega
 rw [er,List.replicate_succ,List.set_cons_zero];have et:xs.take (k+1)=xs.take k++[xs[k]]:=by rw [List.take_succ_eq_append_getElem hk]
 rw [et,List.map_append,List.append_assoc];simp [List.getD_eq_getElem?_getD,hk]
theorem QdS {α β:Type} {f:α->β} {x0:β} {xs:List α} {i:Int} (h:xs.length<=i):QgV f x0 xs i=xs.map f:=by
 unfold QgV;rw [List.take_of_length_le (by omega),show xs.length - i.toNat=0 by omega];simp
theorem QfN {β:Type} {e:β->List Value} {ys zs:List β} {n:Nat} (h:ys=zs) (hn:n=zs.length):slT n (Qac e ys)=slT zs.length (Qac e zs):=by subst h hn;rfl
def Qhp (xs:List Qae) (i:Int) (ys:List Int):List Value:=[Value.func (Fn.func 140) #[] #[],.slice (some {block:=2,off:=0}) xs.length 1,Qa0 1 (slT xs.length (Qac Qan xs)),.int .i64 (↑xs.length:Int),.int .i64 i]
def Qe9 (xs:List Qae) (i:Int) (ys:List Int):List Obj:=[.cells (Qac Qat ys) 3 (0,0)]
noncomputable def Qh2:List Item:=([.code [1,1,0,1,0,0],.inLoop [1,1,0,1,0,0],.inBlock 0,.code [1,1,1]]).map (it (Qaq YP 92))
def Qz7 (B:Lo) (c0:CF) (xs:List Qae) (i:Int) (ys:List Int):Prop:=∃dJ:Nat->Value,(∀t,Qbd (dJ t))/\GoE YP B c0 H00 1 (Qa8 92 26 (([1,5,11,12,13]:List Nat).zip (Qhp xs i ys)) dJ Qh2) (Qa6 (Qe9 xs i ys)) (2+(Qe9 xs i ys).length) []
noncomputable def Qhk (xs:List Qae) (i:Int) (ys:List Int) (dJ0:Nat->Value):Qau:=[(3,Obj.cells #[Qa0 1 (slT (List.length (Qae.goods (xs.getD i.toNat default))) (Qac Qa9 (Qae.goods (xs.getD i.toNat default)))),.int .i64 (Qae.weight (xs.getD i.toNat default)),.int .i64 (Qae.cost (xs.getD i.toNat default))] 118),(0,Obj.coro none),(1,Obj.coro none),(2,Obj.cells (Qac Qat ys) 3)]
noncomputable def Qjz (xs:List Qae) (i:Int) (ys:List Int) (dJ0:Nat->Value):CF:=⟨140,ofList 5 [.agg #[Qa0 1 (slT (List.length (Qae.goods (xs.getD i.toNat default))) (Qac Qa9 (Qae.goods (xs.getD i.toNat default)))),.int .i64 (Qae.weight (xs.getD i.toNat default)),.int .i64 (Qae.cost (xs.getD i.toNat default))]],[Item.code (Qaq YP 140)],[],.run,none⟩
theorem Q0O (B:Lo) (xs:List Qae) (i:Int) (ys:List Int) (dJ0:Nat->Value):CE.finK 4 (Qal YP (Qa1 YP) J0 B 6 4 (Qjz xs i ys dJ0) (Qhk xs i ys dJ0) 4
 [] 0 [] []) [] [] []=some (OO.ret (.int .i64 (Qae.weight (xs.getD i.toNat default))),[],[],
 []):=by kernel_rfl
theorem Q0M (B:Lo) (xs:List Qae) (i:Int) (ys:List Int) (dJ0:Nat->Value):landM (Qal YP (Qa1 YP) J0 B 13 1 (Qa8 92 26 (([1,5,11,12,13]:List Nat).zip (Qhp xs i ys)) dJ0 Qh2) (Qa6 (Qe9 xs i ys)) (2+(Qe9 xs i ys).length)
 [(0,hvT),(2,Qai.tidx i.toNat #[slT (List.length (Qae.goods (xs.getD i.toNat default))) (Qac Qa9 (Qae.goods (xs.getD i.toNat default))),.int .i64 (Qae.weight (xs.getD i.toNat default)),.int .i64 (Qae.cost (xs.getD i.toNat default))]),(11,Qai.call (List.range 4) (OO.ret (.int .i64 (Qae.weight (xs.getD i.toNat default)))) ([]++(4,Qb2)::QaP 5 []) 5 []),(12,Qai.old (Hint.idx i.toNat)),(13,Qai.old (Hint.st (Qac Qat (List.set ys i.toNat (Qae.weight (xs.getD i.toNat default)))))),(14,hvI (i+1))] 0 [] []) [1,5,11,12,13] [(2,KS.cells [] (Qac Qat (List.set ys i.toNat (Qae.weight (xs.getD i.toNat default)))))] []=some ⟨92,26,Qh2,[],.run,none,Qhp xs (i+1) (List.set ys i.toNat (Qae.weight (xs.getD i.toNat default))),Qe9 xs (i+1) (List.set ys i.toNat (Qae.weight (xs.getD i.toNat default))),
 [Qbk 1 [] (Qac Qat (List.set ys i.toNat (Qae.weight (xs.getD i.toNat default)))) (Qac Qat (List.set ys i.toNat (Qae.weight (xs.getD i.toNat default)))),wq (i+1)=i+1,0+Int.toNat i * 1+TypeInfo.size Tryz.t3<=Array.size (Qac Qat ys)/\splice (Qac Qat ys) (0+Int.toNat i * 1) (Value.cells (Qch {len:=16000,tr:=Tri.set 14 (Tri.set 14 Tri.lf 22 (.int .i64 (Qae.weight (xs.getD i.toNat default)))) 23 (.pointer (some {block:=2,off:=0+Int.toNat i * 1}))} 22))=Qac Qat (List.set ys i.toNat (Qae.weight (xs.getD i.toNat default))),i=(↑i.toNat:Int)/\Int.toNat i < List.length xs,FJ YP B (Qjz xs i ys dJ0) (Qhk xs i ys dJ0) 4 (OO.ret (.int .i64 (Qae.weight (xs.getD i.toNat default)))) (([]++((4,Qb2)::QaP (4+1) []))++Qhk xs i ys dJ0) 5 (List.range 4) [],i=(↑i.toNat:Int)/\Int.toNat i < List.length xs/\Array.extract (Qac Qan xs) (Int.toNat i * TypeInfo.size Tryz.t118) (Int.toNat i * TypeInfo.size Tryz.t118+TypeInfo.size Tryz.t118)=#[slT (List.length (Qae.goods (xs.getD i.toNat default))) (Qac Qa9 (Qae.goods (xs.getD i.toNat default))),.int .i64 (Qae.weight (xs.getD i.toNat default)),.int .i64 (Qae.cost (xs.getD i.toNat default))],ltq i (↑xs.length:Int)=true]⟩:=by kernel_rfl
theorem QzT (B:Lo) (xs:List Qae) (i:Int) (ys:List Int) (dJ0:Nat->Value):QaU (Qal YP (Qa1 YP) J0 B 9 1 (Qa8 92 26 (([1,5,11,12,13]:List Nat).zip (Qhp xs i ys)) dJ0 Qh2) (Qa6 (Qe9 xs i ys)) (2+(Qe9 xs i ys).length)
 [(0,hvF)] 0 [] []) [{k:=2,rs:=[],cs:=Qac Qat ys}]=some (slT xs.length (Fz.cs {k:=2,rs:=[],cs:=Qac Qat ys}),
 [Qb6 (Fz.rs {k:=2,rs:=[],cs:=Qac Qat ys}) (Qac Qat ys) (Fz.cs {k:=2,rs:=[],cs:=Qac Qat ys}),ltq i (↑xs.length:Int)=false]):=by kernel_rfl
theorem Q0m (B:Lo) (xs:List Qae):landM (Qal YP (Qa1 YP) J0 B 9 1 (Qaj YP 92 26 (([slT xs.length (Qac Qan xs),.func (.func 140) #[] #[]]).map (Qao 0 4))) H00 1
 [(3,Qai.old (Hint.mk xs.length (Qac (QbO [.int .i64 0]) (List.replicate xs.length ()))))] 0 [] []) [1,5,11,12,13] [(1,KS.rows [] [] (Qac Qat (List.replicate xs.length 0)))] []=some ⟨92,26,Qh2,[],.run,none,Qhp xs (0) (List.replicate xs.length 0),Qe9 xs (0) (List.replicate xs.length 0),
 [Qbg 1 [] [] (Qac (QbO [.int .i64 0]) (List.replicate xs.length ())) (Qac Qat (List.replicate xs.length 0)),Qg4 YP 22 (Qch {len:=16000,tr:=Tri.set 14 Tri.lf 9 (.int .i64 (↑xs.length:Int))} 9) (Qch {len:=16000,tr:=Tri.set 14 Tri.lf 9 (.int .i64 (↑xs.length:Int))} 9)=some (3,Qac (QbO [.int .i64 0]) (List.replicate xs.length ()),List.length xs,TypeInfo.size Tryz.t3)]⟩:=by kernel_rfl
set_option maxHeartbeats 4000000 in
theorem QxS (xs:List Qae) (hn:xs.length<=1000000) {B:Lo} (hJ:∀w,B.has w->J0 w) {c0:CF}:∀m:Nat,(∀(i:Int) (ys:List Int),(xs.length - i.toNat)=m->∀(h0:0<=i) (hy:ys=QgV Qae.weight 0 xs i),Qz7 B c0 xs i ys->EndsT YP B c0 (slI (xs.map Qae.weight))):=by
 intro m0;induction m0 using Nat.strongRecOn with
 | _ m0 ih0=>
   intro i ys hm0 h0 hy ⟨dJ0,hdJ0,hg0⟩;have hyl:ys.length=xs.length:=by rw [hy];exact QdO
   by_cases q0:(i:Int) < ((↑xs.length:Int))
   ·have rj0:FJ YP B (Qjz xs i ys dJ0) (Qhk xs i ys dJ0) 4 (OO.ret (.int .i64 (Qae.weight (xs.getD i.toNat default)))) (([]++((4,Qb2)::QaP (4+1) []))++Qhk xs i ys dJ0) 5 (List.range 4) []:=by
     exact FinK.fjB (GoE.finK okF hJ Qab (Qap (by kernel_rfl)) (Qak (by kernel_rfl)) ((GoE.refl (P:=YP) (B:=B) (c0:=Qjz xs i ys dJ0) (Qap (by kernel_rfl))).widen (Wf:=((([]):List (Nat×KS)).map (·.1))) (by simp) (Qak (by kernel_rfl))) (Q0O B xs i ys dJ0)
      trivial) (ex:=[2]) (by kernel_rfl) ⟨trivial,⟨trivial,⟨trivial,⟨(Qu6 (t:=3) (fl:=(0,0)) (fun x=> List.all_eq_true.1 (by rfl))),trivial⟩⟩⟩⟩
    exact ((ih0 _ (by omega)) (i+1) (List.set ys i.toNat (Qae.weight (xs.getD i.toNat default))) rfl (by omega) (by (subst hy;exact QdH h0 q0))
     (hg0.landM okF hJ Qab (Q0M B xs i ys dJ0)
     ⟨(Qax (Qa7 (fun x=> List.all_eq_true.1 (by rfl)))),⟨(QaQ (by omega) (by omega)),⟨(by exact QgL (z:=1) (fun _=> rfl) (by omega) rfl rfl),⟨⟨by omega,by omega⟩,⟨rj0,⟨⟨by omega,by omega,(Qag (z:=3) (fun _=> rfl) (by omega))⟩,⟨(Qbe q0),trivial⟩⟩⟩⟩⟩⟩⟩ (by kernel_rfl) (by kernel_rfl))).cast (by rfl)
   ·exact (GoE.endsT okF hJ Qab hg0 (QzT B xs i ys dJ0)
     ⟨(Qba (fun x=> List.all_eq_true.1 (by rfl))),⟨(Qbj (Int.not_lt.1 q0)),trivial⟩⟩).cast (by exact QfN (hy.trans (QdS (by omega))) (by simp))
set_option maxHeartbeats 4000000 in
theorem Q2n (xs:List Qae) (hn:xs.length<=1000000) {B:Lo} (hJ:∀w,B.has w->J0 w):EndsT YP B (Qaj YP 92 26 (([slT xs.length (Qac Qan xs),.func (.func 140) #[] #[]]).map (Qao 0 4))) (slI (xs.map Qae.weight)):=by
 exact ((QxS xs hn hJ _) (0) (List.replicate xs.length 0) rfl (by omega) (by exact Qg0)
  (GoE.start.landM okF hJ Qab (Q0m B xs)
  ⟨(by exact (QbV (by exact ⟨(.simple rfl),trivial⟩) _)),⟨(QgQ (bytes:=8) (by kernel_rfl) (by omega) (by omega) (by omega)),trivial⟩⟩ (by kernel_rfl) (by kernel_rfl))).cast (by rfl)
theorem Q6Q (xs:List Qae) (hn:xs.length<=1000000):Qam YP J0 92 #[slT xs.length (Qac Qan xs),.func (.func 140) #[] #[]] (slI (xs.map Qae.weight)):=
 QaG (ts:=[slT xs.length (Qac Qan xs),.func (.func 140) #[] #[]]) Qb1 (c0:=Qaj YP 92 26 (([slT xs.length (Qac Qan xs),.func (.func 140) #[] #[]]).map (Qao 0 4))) (by kernel_rfl) (by kernel_rfl) fun B hJ=> Q2n xs hn hJ
end Go.Proofs.YtiabgkiccaodmaaGreat

namespace Go.Proofs.YtiabgkiccaodmaaGreat
open Go Go.CE Go.RowKit
noncomputable section
set_option maxRecDepth 100000
structure Qaa where
 stock:List Int
 use:List Span
 glo:Int
 ghi:Int
 lots:List Qae
 hold:Int
deriving Inhabited
abbrev Q7g (xs:List Qae):Value:=slT xs.length (Qac Qan xs)
def Qah (s:Qaa):List Value:=[slI s.stock,Qqh s.use,.int .i64 s.glo,.int .i64 s.ghi,Q7g s.lots,.int .i64 s.hold]
def QcO (xs:List Span) (most:Int):Bool:=xs.all (fun s=> QbI s.lo s.hi 0 most)
def Qoh (k:Nat) (l:Qae):Bool:=decide (l.goods.length=k) && (QcO l.goods 100000 && (inB l.weight 0 100000 && inB l.cost 0 1000000))
def Qq9 (s:Qaa):Bool:=decide (s.lots.length<=6) && s.lots.all (Qoh s.stock.length)
def Qav (s:Qaa):Bool:=inB s.stock.length 1 4 && (s.stock.all (fun x=> inB x 0 100000) && (decide (s.use.length=s.stock.length) && (QcO s.use 1000 && (QbI s.glo s.ghi 1 60 && (Qq9 s && inB s.hold 0 100000)))))
theorem Qzg (B:Lo) (a b:Int):QaU (Qal YP (Qa1 YP) J0 B 6 1 (Qaj YP 75 5 (([.agg #[.int .i64 a,.int .i64 b]]).map (Qao 0 4))) H00 1
 [(3,Qai.pure (.bool true) [])] 0 [] []) []=some (.bool true,
 [Qa3 []/\Qam YP J0 109 #[.agg #[.int .i64 a,.int .i64 b],.int .i64 1,.int .i64 60] (.bool true)]):=by kernel_rfl
theorem Qzt (B:Lo) (a b:Int):QaU (Qal YP (Qa1 YP) J0 B 6 1 (Qaj YP 75 5 (([.agg #[.int .i64 a,.int .i64 b]]).map (Qao 0 4))) H00 1
 [(3,Qai.pure (.bool false) [])] 0 [] []) []=some (.bool false,
 [Qa3 []/\Qam YP J0 109 #[.agg #[.int .i64 a,.int .i64 b],.int .i64 1,.int .i64 60] (.bool false)]):=by kernel_rfl
set_option maxHeartbeats 4000000 in
theorem Q2G (a b:Int)  {B:Lo} (hJ:∀w,B.has w->J0 w):EndsT YP B (Qaj YP 75 5 (([.agg #[.int .i64 a,.int .i64 b]]).map (Qao 0 4))) (.bool (QbI a b 1 60)):=by
 cases q0:QbI a b 1 60 with
 | true=>
   exact (GoE.endsT okF hJ Qab GoE.start (Qzg B a b)
    ⟨⟨trivial,(by have t_:=Qjn (a) (b) (1) (60);rw [q0] at t_;exact t_)⟩,trivial⟩).cast (by rfl)
 | false=>
   exact (GoE.endsT okF hJ Qab GoE.start (Qzt B a b)
    ⟨⟨trivial,(by have t_:=Qjn (a) (b) (1) (60);rw [q0] at t_;exact t_)⟩,trivial⟩).cast (by rfl)
theorem Q3U (a b:Int)  :Qam YP J0 75 #[.agg #[.int .i64 a,.int .i64 b]] (.bool (QbI a b 1 60)):=
 QaG (ts:=[.agg #[.int .i64 a,.int .i64 b]]) Qb1 (c0:=Qaj YP 75 5 (([.agg #[.int .i64 a,.int .i64 b]]).map (Qao 0 4))) (by kernel_rfl) (by kernel_rfl) fun B hJ=> Q2G a b  hJ
theorem Qrq (B:Lo) (n:Int):QaU (Qal YP (Qa1 YP) J0 B 6 1 (Qaj YP 114 5 (([.int .i64 n]).map (Qao 0 4))) H00 1
 [(2,Qai.pure (.bool true) [])] 0 [] []) []=some (.bool true,
 [Qa3 []/\Qam YP J0 76 #[.int .i64 n,.int .i64 0,.int .i64 100000] (.bool true)]):=by kernel_rfl
theorem QqD (B:Lo) (n:Int):QaU (Qal YP (Qa1 YP) J0 B 6 1 (Qaj YP 114 5 (([.int .i64 n]).map (Qao 0 4))) H00 1
 [(2,Qai.pure (.bool false) [])] 0 [] []) []=some (.bool false,
 [Qa3 []/\Qam YP J0 76 #[.int .i64 n,.int .i64 0,.int .i64 100000] (.bool false)]):=by kernel_rfl
set_option maxHeartbeats 4000000 in
theorem QsZ (n:Int)  {B:Lo} (hJ:∀w,B.has w->J0 w):EndsT YP B (Qaj YP 114 5 (([.int .i64 n]).map (Qao 0 4))) (.bool (inB n 0 100000)):=by
 cases q0:inB n 0 100000 with
 | true=>
   exact (GoE.endsT okF hJ Qab GoE.start (Qrq B n)
    ⟨⟨trivial,(by have t_:=pIn (n) (0) (100000);rw [q0] at t_;exact t_)⟩,trivial⟩).cast (by rfl)
 | false=>
   exact (GoE.endsT okF hJ Qab GoE.start (QqD B n)
    ⟨⟨trivial,(by have t_:=pIn (n) (0) (100000);rw [q0] at t_;exact t_)⟩,trivial⟩).cast (by rfl)
theorem QiR (n:Int)  :Qam YP J0 114 #[.int .i64 n] (.bool (inB n 0 100000)):=
 QaG (ts:=[.int .i64 n]) Qb1 (c0:=Qaj YP 114 5 (([.int .i64 n]).map (Qao 0 4))) (by kernel_rfl) (by kernel_rfl) fun B hJ=> QsZ n  hJ
def Qm7 (B:Lo) (s:Qaa) (l:Qae):List Prop:=[eqq (↑l.goods.length:Int) (↑s.stock.length:Int)=true]++([]:List Prop)
def Qsu (s:Qaa) (l:Qae):Qas:=[(9,hvT)]
def Qmf (B:Lo) (s:Qaa) (l:Qae):List Prop:=[Qa3 []/\Qam YP J0 101 #[slT l.goods.length (Qac Qa9 l.goods),.int .i64 100000] (.bool true)]++Qm7 B s l
def QqS (s:Qaa) (l:Qae):Qas:=Qsu s l++[(13,Qai.pure (.bool true) [])]
def Qmq (B:Lo) (s:Qaa) (l:Qae):List Prop:=[Qa3 []/\Qam YP J0 114 #[.int .i64 l.weight] (.bool true)]++Qmf B s l
def QrT (s:Qaa) (l:Qae):Qas:=QqS s l++[(18,Qai.pure (.bool true) [])]
theorem QxK (B:Lo) (s:Qaa) (l:Qae):QaU (Qal YP (Qa1 YP) J0 B 6 1 (Qaj YP 145 27 (([.agg (Qah s).toArray,.agg (Qan l).toArray]).map (Qao 0 4))) H00 1
 (QrT s l++[(23,Qai.pure (.bool true) [])]) 0 [] []) []=some (.bool true,
 [Qa3 []/\Qam YP J0 76 #[.int .i64 l.cost,.int .i64 0,.int .i64 1000000] (.bool true)]++Qmq B s l):=by kernel_rfl
theorem Qyy (B:Lo) (s:Qaa) (l:Qae):QaU (Qal YP (Qa1 YP) J0 B 6 1 (Qaj YP 145 27 (([.agg (Qah s).toArray,.agg (Qan l).toArray]).map (Qao 0 4))) H00 1
 (QrT s l++[(23,Qai.pure (.bool false) [])]) 0 [] []) []=some (.bool false,
 [Qa3 []/\Qam YP J0 76 #[.int .i64 l.cost,.int .i64 0,.int .i64 1000000] (.bool false)]++Qmq B s l):=by kernel_rfl
theorem QxQ (B:Lo) (s:Qaa) (l:Qae):QaU (Qal YP (Qa1 YP) J0 B 6 1 (Qaj YP 145 27 (([.agg (Qah s).toArray,.agg (Qan l).toArray]).map (Qao 0 4))) H00 1
 (QqS s l++[(18,Qai.pure (.bool false) [])]) 0 [] []) []=some (.bool false,
 [Qa3 []/\Qam YP J0 114 #[.int .i64 l.weight] (.bool false)]++Qmf B s l):=by kernel_rfl
theorem QzD (B:Lo) (s:Qaa) (l:Qae):QaU (Qal YP (Qa1 YP) J0 B 6 1 (Qaj YP 145 27 (([.agg (Qah s).toArray,.agg (Qan l).toArray]).map (Qao 0 4))) H00 1
 (Qsu s l++[(13,Qai.pure (.bool false) [])]) 0 [] []) []=some (.bool false,
 [Qa3 []/\Qam YP J0 101 #[slT l.goods.length (Qac Qa9 l.goods),.int .i64 100000] (.bool false)]++Qm7 B s l):=by kernel_rfl
theorem Q1a (B:Lo) (s:Qaa) (l:Qae):QaU (Qal YP (Qa1 YP) J0 B 6 1 (Qaj YP 145 27 (([.agg (Qah s).toArray,.agg (Qan l).toArray]).map (Qao 0 4))) H00 1
 [(9,hvF)] 0 [] []) []=some (.bool false,
 [eqq (↑l.goods.length:Int) (↑s.stock.length:Int)=false]):=by kernel_rfl
set_option maxHeartbeats 4000000 in
theorem Q2E (s:Qaa) (l:Qae)  {B:Lo} (hJ:∀w,B.has w->J0 w):EndsT YP B (Qaj YP 145 27 (([.agg (Qah s).toArray,.agg (Qan l).toArray]).map (Qao 0 4))) (.bool (Qoh s.stock.length l)):=by
 by_cases q0:((↑l.goods.length:Int):Int)=((↑s.stock.length:Int))
 ·have hp0:Qa3 (Qm7 B s l):=by
   exact ⟨(Qmk q0),trivial⟩
  cases q1:List.all l.goods fun s=> QbI s.lo s.hi 0 100000 with
  | true=>
    have hp1:Qa3 (Qmf B s l):=by
     exact ⟨⟨trivial,(by have t_:=Qjv l.goods (100000);rw [q1] at t_;exact t_)⟩,hp0⟩
    cases q2:inB l.weight 0 100000 with
    | true=>
      have hp2:Qa3 (Qmq B s l):=by
       exact ⟨⟨trivial,(by have t_:=QiR l.weight;rw [q2] at t_;exact t_)⟩,hp1⟩
      cases q3:inB l.cost 0 1000000 with
      | true=>
        exact (GoE.endsT okF hJ Qab GoE.start (QxK B s l)
         ⟨⟨trivial,(by have t_:=pIn l.cost (0) (1000000);rw [q3] at t_;exact t_)⟩,hp2⟩).cast (by (simp_all [Qoh,QcO];omega))
      | false=>
        exact (GoE.endsT okF hJ Qab GoE.start (Qyy B s l)
         ⟨⟨trivial,(by have t_:=pIn l.cost (0) (1000000);rw [q3] at t_;exact t_)⟩,hp2⟩).cast (by (simp [Qoh,QcO, *];done))
    | false=>
      exact (GoE.endsT okF hJ Qab GoE.start (QxQ B s l)
       ⟨⟨trivial,(by have t_:=QiR l.weight;rw [q2] at t_;exact t_)⟩,hp1⟩).cast (by (simp [Qoh,QcO, *];done))
  | false=>
    exact (GoE.endsT okF hJ Qab GoE.start (QzD B s l)
     ⟨⟨trivial,(by have t_:=Qjv l.goods (100000);rw [q1] at t_;exact t_)⟩,hp0⟩).cast (by (simp [Qoh,QcO, *];done))
 ·exact (GoE.endsT okF hJ Qab GoE.start (Q1a B s l)
   ⟨(Qlu q0),trivial⟩).cast (by (simp_all [Qoh,QcO];omega))
theorem Q3O (s:Qaa) (l:Qae)  :Qam YP J0 145 #[.agg (Qah s).toArray,.agg (Qan l).toArray] (.bool (Qoh s.stock.length l)):=
 QaG (ts:=[.agg (Qah s).toArray,.agg (Qan l).toArray]) Qb1 (c0:=Qaj YP 145 27 (([.agg (Qah s).toArray,.agg (Qan l).toArray]).map (Qao 0 4))) (by kernel_rfl) (by kernel_rfl) fun B hJ=> Q2E s l  hJ
def Qek (s:Qaa) (i:Int):List Value:=[pA 2 0,Qa0 1 (slT s.lots.length (Qac Qan s.lots)),.int .i64 (↑s.lots.length:Int),.int .i64 i]
def Qcl (s:Qaa) (i:Int):List Obj:=[Obj.cells #[Qa0 1 (slT s.stock.length (Qac Qat s.stock)),Qa0 1 (slT s.use.length (Qac Qa9 s.use)),.int .i64 s.glo,.int .i64 s.ghi,Qa0 1 (slT s.lots.length (Qac Qan s.lots)),.int .i64 s.hold] 62]
def Qeq:List Item:=([.code [1,1,0,1,0,0],.inLoop [1,1,0,1,0,0],.inBlock 0,.code [1,1,1]]).map (it (Qaq YP 113))
def Qtz (B:Lo) (c0:CF) (s:Qaa) (i:Int):Prop:=∃dJ:Nat->Value,(∀t,Qbd (dJ t))/\GoE YP B c0 H00 1 (Qa8 113 21 (([1,10,11,12]:List Nat).zip (Qek s i)) dJ Qeq) (Qa6 (Qcl s i)) (2+(Qcl s i).length) []
def QgA (s:Qaa) (i:Int):Array Value:=#[slT (List.length (Qae.goods (s.lots.getD i.toNat default))) (Qac Qa9 (Qae.goods (s.lots.getD i.toNat default))),.int .i64 (Qae.weight (s.lots.getD i.toNat default)),.int .i64 (Qae.cost (s.lots.getD i.toNat default))]
def Qiw (B:Lo) (s:Qaa) (i:Int) (dJ0:Nat->Value):List Prop:=[i=(↑i.toNat:Int)/\Int.toNat i < List.length s.lots/\Array.extract (Qac Qan s.lots) (Int.toNat i * TypeInfo.size Tryz.t118) (Int.toNat i * TypeInfo.size Tryz.t118+TypeInfo.size Tryz.t118)=(QgA s i),ltq i (↑s.lots.length:Int)=true]++([]:List Prop)
def Ql8 (s:Qaa) (i:Int) (dJ0:Nat->Value):Qas:=[(0,hvT),(1,Qai.tidx i.toNat (QgA s i))]
theorem Qtf (B:Lo) (s:Qaa) (i:Int) (dJ0:Nat->Value):landM (Qal YP (Qa1 YP) J0 B 16 1 (Qa8 113 21 (([1,10,11,12]:List Nat).zip (Qek s i)) dJ0 Qeq) (Qa6 (Qcl s i)) (2+(Qcl s i).length)
 (Ql8 s i dJ0++[(7,Qai.pure (.bool true) []),(9,hvI (i+1))]) 0 [] []) [1,10,11,12] [(2,KS.auto)] []=some ⟨113,21,Qeq,[],.run,none,Qek s (i+1),Qcl s (i+1),
 [wq (i+1)=i+1,Qa3 []/\Qam YP J0 145 #[.agg #[slT s.stock.length (Qac Qat s.stock),slT s.use.length (Qac Qa9 s.use),.int .i64 s.glo,.int .i64 s.ghi,slT s.lots.length (Qac Qan s.lots),.int .i64 s.hold],.agg (QgA s i)] (.bool true)]++Qiw B s i dJ0⟩:=by kernel_rfl
theorem QtG (B:Lo) (s:Qaa) (i:Int) (dJ0:Nat->Value):QaU (Qal YP (Qa1 YP) J0 B 16 1 (Qa8 113 21 (([1,10,11,12]:List Nat).zip (Qek s i)) dJ0 Qeq) (Qa6 (Qcl s i)) (2+(Qcl s i).length)
 (Ql8 s i dJ0++[(7,Qai.pure (.bool false) [])]) 0 [] []) []=some (.bool false,
 [Qa3 []/\Qam YP J0 145 #[.agg #[slT s.stock.length (Qac Qat s.stock),slT s.use.length (Qac Qa9 s.use),.int .i64 s.glo,.int .i64 s.ghi,slT s.lots.length (Qac Qan s.lots),.int .i64 s.hold],.agg (QgA s i)] (.bool false)]++Qiw B s i dJ0):=by kernel_rfl
theorem Qti (B:Lo) (s:Qaa) (i:Int) (dJ0:Nat->Value):QaU (Qal YP (Qa1 YP) J0 B 9 1 (Qa8 113 21 (([1,10,11,12]:List Nat).zip (Qek s i)) dJ0 Qeq) (Qa6 (Qcl s i)) (2+(Qcl s i).length)
 [(0,hvF)] 0 [] []) []=some (.bool true,
 [ltq i (↑s.lots.length:Int)=false]):=by kernel_rfl
theorem Qty (B:Lo) (s:Qaa):QaU (Qal YP (Qa1 YP) J0 B 10 1 (Qaj YP 113 21 (([.agg (Qah s).toArray]).map (Qao 0 4))) H00 1
 [(5,hvT)] 0 [] []) []=some (.bool false,
 [ltq 6 (↑s.lots.length:Int)=true]):=by kernel_rfl
theorem QtO (B:Lo) (s:Qaa):landM (Qal YP (Qa1 YP) J0 B 12 1 (Qaj YP 113 21 (([.agg (Qah s).toArray]).map (Qao 0 4))) H00 1
 [(5,hvF)] 0 [] []) [1,10,11,12] [(1,KS.auto)] []=some ⟨113,21,Qeq,[],.run,none,Qek s (0),Qcl s (0),
 [ltq 6 (↑s.lots.length:Int)=false]⟩:=by kernel_rfl
set_option maxHeartbeats 4000000 in
theorem Qt2 (s:Qaa)  (hfacts:s.lots.length<=9223372036854775807) {B:Lo} (hJ:∀w,B.has w->J0 w) {c0:CF}:∀m:Nat,(∀(i:Int),s.lots.length - i.toNat=m->∀(h0:0<=i) (h6:s.lots.length<=6),Qtz B c0 s i->EndsT YP B c0 (.bool ((s.lots.drop i.toNat).all (Qoh s.stock.length)))):=by
 intro m0;induction m0 using Nat.strongRecOn with
 | _ m0 ih0=>
   intro i hm0 h0 h6 ⟨dJ0,hdJ0,hg0⟩;by_cases q0:(i:Int) < ((↑s.lots.length:Int))
   ·have hp0:Qa3 (Qiw B s i dJ0):=by
     exact ⟨⟨by omega,by omega,(Qag (z:=3) (fun _=> rfl) (by omega))⟩,⟨(Qbe q0),trivial⟩⟩
    cases q1:Qoh s.stock.length (s.lots.getD i.toNat default) with
    | true=>
      exact ((ih0 _ (by omega)) (i+1) rfl (by omega) (by with_reducible assumption)
       (hg0.landM okF hJ Qab (Qtf B s i dJ0)
       ⟨(QaQ (by omega) (by omega)),⟨⟨trivial,(by have t_:=Q3O (s) (s.lots.getD i.toNat default);rw [q1] at t_;exact t_)⟩,hp0⟩⟩ (by kernel_rfl) (by kernel_rfl))).cast (by (rw [QhO (i:=i)];(· simp_all);(· omega);(· omega)))
    | false=>
      exact (GoE.endsT okF hJ Qab hg0 (QtG B s i dJ0)
       ⟨⟨trivial,(by have t_:=Q3O (s) (s.lots.getD i.toNat default);rw [q1] at t_;exact t_)⟩,hp0⟩).cast (by (rw [QhO (i:=i)];(· simp_all);(· omega);(· omega)))
   ·exact (GoE.endsT okF hJ Qab hg0 (Qti B s i dJ0)
     ⟨(Qbj (Int.not_lt.1 q0)),trivial⟩).cast (by (rw [Qll (i:=i)];(· simp_all);(· omega)))
set_option maxHeartbeats 4000000 in
theorem Qww (s:Qaa)  (hfacts:s.lots.length<=9223372036854775807) {B:Lo} (hJ:∀w,B.has w->J0 w):EndsT YP B (Qaj YP 113 21 (([.agg (Qah s).toArray]).map (Qao 0 4))) (.bool (Qq9 s)):=by
 by_cases q0:(6:Int) < ((↑s.lots.length:Int))
 ·exact (GoE.endsT okF hJ Qab GoE.start (Qty B s)
   ⟨(Qbe q0),trivial⟩).cast (by (simp_all [Qq9];omega))
 ·exact ((Qt2 s hfacts hJ _) (0) rfl (by omega) (by omega)
   (GoE.start.landM okF hJ Qab (QtO B s)
   ⟨(Qbj (Int.not_lt.1 q0)),trivial⟩ (by kernel_rfl) (by kernel_rfl))).cast (by (simp_all [Qq9];omega))
theorem Qvj (s:Qaa)  :Qam YP J0 113 #[.agg (Qah s).toArray] (.bool (Qq9 s)):=
 Qct (ts:=[.agg (Qah s).toArray]) (s.lots.length<=9223372036854775807) (fun _ _ ht=> ht.ln2 (i:=0) (j:=4) rfl rfl) Qb1 (c0:=Qaj YP 113 21 (([.agg (Qah s).toArray]).map (Qao 0 4))) (by kernel_rfl) (by kernel_rfl) fun hfacts B hJ=> Qww s  hfacts hJ
def Qi4 (B:Lo) (s:Qaa):List Prop:=[Qa3 []/\Qam YP J0 76 #[.int .i64 (↑s.stock.length:Int),.int .i64 1,.int .i64 4] (.bool true)]++([]:List Prop)
def Qnz (s:Qaa):Qas:=[(5,Qai.pure (.bool true) [])]
def Qit (B:Lo) (s:Qaa):List Prop:=[Qa3 []/\Qam YP J0 100 #[slT s.stock.length (Qac Qat s.stock),.int .i64 0,.int .i64 100000] (.bool true)]++Qi4 B s
def QmO (s:Qaa):Qas:=Qnz s++[(9,Qai.pure (.bool true) [])]
def Qis (B:Lo) (s:Qaa):List Prop:=[eqq (↑s.use.length:Int) (↑s.stock.length:Int)=true]++Qit B s
def QmC (s:Qaa):Qas:=QmO s++[(18,hvT)]
def Qio (B:Lo) (s:Qaa):List Prop:=[Qa3 []/\Qam YP J0 101 #[slT s.use.length (Qac Qa9 s.use),.int .i64 1000] (.bool true)]++Qis B s
def Qme (s:Qaa):Qas:=QmC s++[(23,Qai.pure (.bool true) [])]
def Qiv (B:Lo) (s:Qaa):List Prop:=[Qa3 []/\Qam YP J0 75 #[.agg #[.int .i64 s.glo,.int .i64 s.ghi]] (.bool true)]++Qio B s
def Qnl (s:Qaa):Qas:=Qme s++[(28,Qai.pure (.bool true) [])]
def Qi5 (B:Lo) (s:Qaa):List Prop:=[Qa3 []/\Qam YP J0 113 #[.agg #[slT s.stock.length (Qac Qat s.stock),slT s.use.length (Qac Qa9 s.use),.int .i64 s.glo,.int .i64 s.ghi,slT s.lots.length (Qac Qan s.lots),.int .i64 s.hold]] (.bool true)]++Qiv B s
def Qnp (s:Qaa):Qas:=Qnl s++[(32,Qai.pure (.bool true) [])]
theorem QtH (B:Lo) (s:Qaa):QaU (Qal YP (Qa1 YP) J0 B 6 1 (Qaj YP 79 40 (([.agg (Qah s).toArray]).map (Qao 0 4))) H00 1
 (Qnp s++[(37,Qai.pure (.bool true) [])]) 0 [] []) []=some (.bool true,
 [Qa3 []/\Qam YP J0 114 #[.int .i64 s.hold] (.bool true)]++Qi5 B s):=by kernel_rfl
theorem QtN (B:Lo) (s:Qaa):QaU (Qal YP (Qa1 YP) J0 B 6 1 (Qaj YP 79 40 (([.agg (Qah s).toArray]).map (Qao 0 4))) H00 1
 (Qnp s++[(37,Qai.pure (.bool false) [])]) 0 [] []) []=some (.bool false,
 [Qa3 []/\Qam YP J0 114 #[.int .i64 s.hold] (.bool false)]++Qi5 B s):=by kernel_rfl
theorem QtJ (B:Lo) (s:Qaa):QaU (Qal YP (Qa1 YP) J0 B 6 1 (Qaj YP 79 40 (([.agg (Qah s).toArray]).map (Qao 0 4))) H00 1
 (Qnl s++[(32,Qai.pure (.bool false) [])]) 0 [] []) []=some (.bool false,
 [Qa3 []/\Qam YP J0 113 #[.agg #[slT s.stock.length (Qac Qat s.stock),slT s.use.length (Qac Qa9 s.use),.int .i64 s.glo,.int .i64 s.ghi,slT s.lots.length (Qac Qan s.lots),.int .i64 s.hold]] (.bool false)]++Qiv B s):=by kernel_rfl
theorem QsQ (B:Lo) (s:Qaa):QaU (Qal YP (Qa1 YP) J0 B 6 1 (Qaj YP 79 40 (([.agg (Qah s).toArray]).map (Qao 0 4))) H00 1
 (Qme s++[(28,Qai.pure (.bool false) [])]) 0 [] []) []=some (.bool false,
 [Qa3 []/\Qam YP J0 75 #[.agg #[.int .i64 s.glo,.int .i64 s.ghi]] (.bool false)]++Qio B s):=by kernel_rfl
theorem QtM (B:Lo) (s:Qaa):QaU (Qal YP (Qa1 YP) J0 B 6 1 (Qaj YP 79 40 (([.agg (Qah s).toArray]).map (Qao 0 4))) H00 1
 (QmC s++[(23,Qai.pure (.bool false) [])]) 0 [] []) []=some (.bool false,
 [Qa3 []/\Qam YP J0 101 #[slT s.use.length (Qac Qa9 s.use),.int .i64 1000] (.bool false)]++Qis B s):=by kernel_rfl
theorem QsU (B:Lo) (s:Qaa):QaU (Qal YP (Qa1 YP) J0 B 6 1 (Qaj YP 79 40 (([.agg (Qah s).toArray]).map (Qao 0 4))) H00 1
 (QmO s++[(18,hvF)]) 0 [] []) []=some (.bool false,
 [eqq (↑s.use.length:Int) (↑s.stock.length:Int)=false]++Qit B s):=by kernel_rfl
theorem Qtl (B:Lo) (s:Qaa):QaU (Qal YP (Qa1 YP) J0 B 6 1 (Qaj YP 79 40 (([.agg (Qah s).toArray]).map (Qao 0 4))) H00 1
 (Qnz s++[(9,Qai.pure (.bool false) [])]) 0 [] []) []=some (.bool false,
 [Qa3 []/\Qam YP J0 100 #[slT s.stock.length (Qac Qat s.stock),.int .i64 0,.int .i64 100000] (.bool false)]++Qi4 B s):=by kernel_rfl
theorem Qtr (B:Lo) (s:Qaa):QaU (Qal YP (Qa1 YP) J0 B 6 1 (Qaj YP 79 40 (([.agg (Qah s).toArray]).map (Qao 0 4))) H00 1
 [(5,Qai.pure (.bool false) [])] 0 [] []) []=some (.bool false,
 [Qa3 []/\Qam YP J0 76 #[.int .i64 (↑s.stock.length:Int),.int .i64 1,.int .i64 4] (.bool false)]):=by kernel_rfl
set_option maxHeartbeats 4000000 in
theorem QvI (s:Qaa)  (hfacts:s.stock.length<=9223372036854775807/\s.use.length<=9223372036854775807) {B:Lo} (hJ:∀w,B.has w->J0 w):EndsT YP B (Qaj YP 79 40 (([.agg (Qah s).toArray]).map (Qao 0 4))) (.bool (Qav s)):=by
 cases q0:inB (↑s.stock.length:Int) 1 4 with
 | true=>
   have hp0:Qa3 (Qi4 B s):=by
    exact ⟨⟨trivial,(by have t_:=pIn ((↑s.stock.length:Int)) (1) (4);rw [q0] at t_;exact t_)⟩,trivial⟩
   cases q1:List.all s.stock fun x=> inB x 0 100000 with
   | true=>
     have hp1:Qa3 (Qit B s):=by
      exact ⟨⟨trivial,(by have t_:=Q3V s.stock (0) (100000);rw [q1] at t_;exact t_)⟩,hp0⟩
     by_cases q2:((↑s.use.length:Int):Int)=((↑s.stock.length:Int))
     ·have hp2:Qa3 (Qis B s):=by
       exact ⟨(Qmk q2),hp1⟩
      cases q3:List.all s.use fun s=> QbI s.lo s.hi 0 1000 with
      | true=>
        have hp3:Qa3 (Qio B s):=by
         exact ⟨⟨trivial,(by have t_:=Qjv s.use (1000);rw [q3] at t_;exact t_)⟩,hp2⟩
        cases q4:QbI s.glo s.ghi 1 60 with
        | true=>
          have hp4:Qa3 (Qiv B s):=by
           exact ⟨⟨trivial,(by have t_:=Q3U s.glo s.ghi;rw [q4] at t_;exact t_)⟩,hp3⟩
          cases q5:Qq9 s with
          | true=>
            have hp5:Qa3 (Qi5 B s):=by
             exact ⟨⟨trivial,(by have t_:=Qvj (s);rw [q5] at t_;exact t_)⟩,hp4⟩
            cases q6:inB s.hold 0 100000 with
            | true=>
              exact (GoE.endsT okF hJ Qab GoE.start (QtH B s)
               ⟨⟨trivial,(by have t_:=QiR s.hold;rw [q6] at t_;exact t_)⟩,hp5⟩).cast (by (simp_all [Qav,QcO];omega))
            | false=>
              exact (GoE.endsT okF hJ Qab GoE.start (QtN B s)
               ⟨⟨trivial,(by have t_:=QiR s.hold;rw [q6] at t_;exact t_)⟩,hp5⟩).cast (by (simp [Qav,QcO, *];done))
          | false=>
            exact (GoE.endsT okF hJ Qab GoE.start (QtJ B s)
             ⟨⟨trivial,(by have t_:=Qvj (s);rw [q5] at t_;exact t_)⟩,hp4⟩).cast (by (simp [Qav,QcO, *];done))
        | false=>
          exact (GoE.endsT okF hJ Qab GoE.start (QsQ B s)
           ⟨⟨trivial,(by have t_:=Q3U s.glo s.ghi;rw [q4] at t_;exact t_)⟩,hp3⟩).cast (by (simp [Qav,QcO, *];done))
      | false=>
        exact (GoE.endsT okF hJ Qab GoE.start (QtM B s)
         ⟨⟨trivial,(by have t_:=Qjv s.use (1000);rw [q3] at t_;exact t_)⟩,hp2⟩).cast (by (simp [Qav,QcO, *];done))
     ·exact (GoE.endsT okF hJ Qab GoE.start (QsU B s)
       ⟨(Qlu q2),hp1⟩).cast (by (simp_all [Qav,QcO];omega))
   | false=>
     exact (GoE.endsT okF hJ Qab GoE.start (Qtl B s)
      ⟨⟨trivial,(by have t_:=Q3V s.stock (0) (100000);rw [q1] at t_;exact t_)⟩,hp0⟩).cast (by (simp [Qav,QcO, *];done))
 | false=>
   exact (GoE.endsT okF hJ Qab GoE.start (Qtr B s)
    ⟨⟨trivial,(by have t_:=pIn ((↑s.stock.length:Int)) (1) (4);rw [q0] at t_;exact t_)⟩,trivial⟩).cast (by (simp [Qav,QcO, *];done))
theorem Qlr (s:Qaa)  :Qam YP J0 79 #[.agg (Qah s).toArray] (.bool (Qav s)):=
 Qct (ts:=[.agg (Qah s).toArray]) (s.stock.length<=9223372036854775807/\s.use.length<=9223372036854775807) (fun _ _ ht=> ⟨ht.ln2 (i:=0) (j:=0) rfl rfl,ht.ln2 (i:=0) (j:=1) rfl rfl⟩) Qb1 (c0:=Qaj YP 79 40 (([.agg (Qah s).toArray]).map (Qao 0 4))) (by kernel_rfl) (by kernel_rfl) fun hfacts B hJ=> QvI s  hfacts hJ
theorem Quf (B:Lo) (n:Int):QaU (Qal YP (Qa1 YP) J0 B 6 1 (Qaj YP 81 5 (([.int .i64 n]).map (Qao 0 4))) H00 1
 [(2,Qai.pure (.bool true) [])] 0 [] []) []=some (.bool true,
 [Qa3 []/\Qam YP J0 76 #[.int .i64 n,.int .i64 0,.int .i64 300] (.bool true)]):=by kernel_rfl
theorem Qt7 (B:Lo) (n:Int):QaU (Qal YP (Qa1 YP) J0 B 6 1 (Qaj YP 81 5 (([.int .i64 n]).map (Qao 0 4))) H00 1
 [(2,Qai.pure (.bool false) [])] 0 [] []) []=some (.bool false,
 [Qa3 []/\Qam YP J0 76 #[.int .i64 n,.int .i64 0,.int .i64 300] (.bool false)]):=by kernel_rfl
set_option maxHeartbeats 4000000 in
theorem QwO (n:Int)  {B:Lo} (hJ:∀w,B.has w->J0 w):EndsT YP B (Qaj YP 81 5 (([.int .i64 n]).map (Qao 0 4))) (.bool (inB n 0 300)):=by
 cases q0:inB n 0 300 with
 | true=>
   exact (GoE.endsT okF hJ Qab GoE.start (Quf B n)
    ⟨⟨trivial,(by have t_:=pIn (n) (0) (300);rw [q0] at t_;exact t_)⟩,trivial⟩).cast (by rfl)
 | false=>
   exact (GoE.endsT okF hJ Qab GoE.start (Qt7 B n)
    ⟨⟨trivial,(by have t_:=pIn (n) (0) (300);rw [q0] at t_;exact t_)⟩,trivial⟩).cast (by rfl)
theorem Qlf (n:Int)  :Qam YP J0 81 #[.int .i64 n] (.bool (inB n 0 300)):=
 QaG (ts:=[.int .i64 n]) Qb1 (c0:=Qaj YP 81 5 (([.int .i64 n]).map (Qao 0 4))) (by kernel_rfl) (by kernel_rfl) fun B hJ=> QwO n  hJ
def QjJ (B:Lo) (s:Qaa) (k:Int):List Prop:=[wq ((↑s.stock.length:Int) - 1)=(↑s.stock.length:Int) - 1]++([]:List Prop)
def Qoy (s:Qaa) (k:Int):Qas:=[(6,hvI ((↑s.stock.length:Int) - 1))]
theorem QvG (B:Lo) (s:Qaa) (k:Int):QaU (Qal YP (Qa1 YP) J0 B 6 1 (Qaj YP 90 11 (([.agg (Qah s).toArray,.int .i64 k]).map (Qao 0 4))) H00 1
 (Qoy s k++[(7,Qai.pure (.bool true) [])]) 0 [] []) []=some (.bool true,
 [Qa3 []/\Qam YP J0 76 #[.int .i64 k,.int .i64 0,.int .i64 ((↑s.stock.length:Int) - 1)] (.bool true)]++QjJ B s k):=by kernel_rfl
theorem Qv0 (B:Lo) (s:Qaa) (k:Int):QaU (Qal YP (Qa1 YP) J0 B 6 1 (Qaj YP 90 11 (([.agg (Qah s).toArray,.int .i64 k]).map (Qao 0 4))) H00 1
 (Qoy s k++[(7,Qai.pure (.bool false) [])]) 0 [] []) []=some (.bool false,
 [Qa3 []/\Qam YP J0 76 #[.int .i64 k,.int .i64 0,.int .i64 ((↑s.stock.length:Int) - 1)] (.bool false)]++QjJ B s k):=by kernel_rfl
set_option maxHeartbeats 4000000 in
theorem QxI (s:Qaa) (k:Int)  (hfacts:s.stock.length<=9223372036854775807) {B:Lo} (hJ:∀w,B.has w->J0 w):EndsT YP B (Qaj YP 90 11 (([.agg (Qah s).toArray,.int .i64 k]).map (Qao 0 4))) (.bool (inB k 0 (s.stock.length - 1))):=by
 have hp0:Qa3 (QjJ B s k):=by
  exact ⟨(QaQ (by omega) (by omega)),trivial⟩
 cases q0:inB k 0 ((↑s.stock.length:Int) - 1) with
 | true=>
   exact (GoE.endsT okF hJ Qab GoE.start (QvG B s k)
    ⟨⟨trivial,(by have t_:=pIn (k) (0) ((↑s.stock.length:Int) - 1);rw [q0] at t_;exact t_)⟩,hp0⟩).cast (by rfl)
 | false=>
   exact (GoE.endsT okF hJ Qab GoE.start (Qv0 B s k)
    ⟨⟨trivial,(by have t_:=pIn (k) (0) ((↑s.stock.length:Int) - 1);rw [q0] at t_;exact t_)⟩,hp0⟩).cast (by rfl)
theorem QxL (s:Qaa) (k:Int)  :Qam YP J0 90 #[.agg (Qah s).toArray,.int .i64 k] (.bool (inB k 0 (s.stock.length - 1))):=
 Qct (ts:=[.agg (Qah s).toArray,.int .i64 k]) (s.stock.length<=9223372036854775807) (fun _ _ ht=> ht.ln2 (i:=0) (j:=0) rfl rfl) Qb1 (c0:=Qaj YP 90 11 (([.agg (Qah s).toArray,.int .i64 k]).map (Qao 0 4))) (by kernel_rfl) (by kernel_rfl) fun hfacts B hJ=> QxI s k  hfacts hJ
end
end Go.Proofs.YtiabgkiccaodmaaGreat

namespace Go.Proofs.YtiabgkiccaodmaaGreat
open Go Go.CE Go.RowKit
noncomputable section
set_option maxRecDepth 100000
def Qef (things:Int):List Int->Int->Bool
 | [],_=> true
 | n::l,least=> inB n least (things - 1) && Qef things l (n+1)
def QeO:List Int->Int
 | []=> 0
 | x::l=> x+QeO l
theorem QcL {things least i:Int} {l:List Int} (h0:0<=i) (h:i < l.length):Qef things (l.drop i.toNat) least=(inB (l.getD i.toNat default) least (things - 1) && Qef things (l.drop (i+1).toNat) (l.getD i.toNat default+1)):=by
 obtain ⟨k,rfl⟩:∃k:Nat,i=k:=⟨i.toNat,by omega⟩
 have hk:k < l.length:=by omega
 have e1:((k:Int)).toNat=k:=by omega
 have e2:((k:Int)+1).toNat=k+1:=by omega
 rw [e1,e2,List.drop_eq_getElem_cons hk];simp [Qef,List.getD_eq_getElem?_getD,hk]
theorem QmU {things least i:Int} {l:List Int} (h:l.length<=i):Qef things (l.drop i.toNat) least=true:=by
 rw [List.drop_eq_nil_of_le (by omega)];rfl
theorem Qj9 {i:Int} {l:List Int} (h0:0<=i) (h:i < l.length):QeO (l.drop i.toNat)=l.getD i.toNat default+QeO (l.drop (i+1).toNat):=by
 obtain ⟨k,rfl⟩:∃k:Nat,i=k:=⟨i.toNat,by omega⟩
 have hk:k < l.length:=by omega
 have e1:((k:Int)).toNat=k:=by omega
 have e2:((k:Int)+1).toNat=k+1:=by omega
 rw [e1,e2,List.drop_eq_getElem_cons hk];simp [QeO,List.getD_eq_getElem?_getD,hk]
theorem QoK {i:Int} {l:List Int} (h:l.length<=i):QeO (l.drop i.toNat)=0:=by
 rw [List.drop_eq_nil_of_le (by omega)];rfl
theorem QaF {α:Type} [Inhabited α] {l:List α} {i:Int} (h0:0<=i) (h:i < l.length):l.getD i.toNat default∈l:=by
 have hk:i.toNat < l.length:=by omega
 rw [List.getD_eq_getElem?_getD,List.getElem?_eq_getElem hk];exact List.getElem_mem hk
theorem Qki {things:Int}:∀{l:List Int} {least:Int},Qef things l least=true->0<=least->∀x∈l,0<=x/\x < things
 | [],_,_,_,x,hx=> by simp at hx
 | n::l,least,h,h0,x,hx=> by
   simp only [Qef,YB,QaA] at h;rcases List.mem_cons.1 hx with rfl | hx
   ·omega
   ·exact Qki h.2 (by omega) x hx
theorem QjX {k:Nat} (hk:k<=61):∀(l:List Int) (s:Int),(∀x∈l,0<=x/\x < k)->0<=s->s < 2 ^ k->0<=QbL l s/\QbL l s < 2 ^ k
 | [],s,_,h0,h1=> ⟨h0,h1⟩
 | n::l,s,h,h0,h1=> by
   have hn:=h n (by simp);exact QjX hk l (QpV s n) (fun x hx=> h x (by simp [hx])) (Int.natCast_nonneg _) (Qyn h0 h1 (by omega))
theorem Qmh {s:Int} {k:Nat} (h0:0<=s) (h1:s < 2 ^ k):Qcz s<=k:=by
 unfold Qcz;by_cases hs:s=0
 ·rw [if_pos hs];omega
 ·rw [if_neg hs];obtain ⟨b,rfl⟩:∃b:Nat,s=b:=⟨s.toNat,by omega⟩
  have hb:b≠0:=by omega
  have h2:b < 2 ^ k:=by
   have e:(2:Int) ^ k=((2 ^ k:Nat):Int):=by rw [Int.natCast_pow];rfl
   rw [e] at h1;exact_mod_cast h1
  have:=(Nat.log2_lt hb).2 h2;rw [Int.toNat_natCast];omega
theorem Qdi {α:Type} [Inhabited α] {s n:Int} {xs:List α} (hn:0<=n) (hx:Qcz s<=xs.length):∀x∈Qa2 s xs n,x∈xs:=by
 intro x h;unfold Qa2 at h;obtain ⟨k,hk,rfl⟩:=List.mem_map.1 h;have hk:=(List.mem_filter.1 hk).1;unfold upI at hk;obtain ⟨j,hj,rfl⟩:=List.mem_map.1 hk;have:=List.mem_range.1 hj;exact QaF (by omega) (by omega)
theorem Qj5 {α:Type} [Inhabited α] {s n:Int} {xs:List α} (hn:0<=n):((Qa2 s xs n).length:Int)<=max 0 (Qcz s - n):=by
 unfold Qa2;rw [List.length_map];have:=List.length_filter_le (Qlg s) (upI n (Qcz s));have e:(upI n (Qcz s)).length=(Qcz s - n).toNat:=by simp [upI]
 omega
theorem Qay {s:Qaa} (h:Qav s=true):s.lots.length<=6/\∀l∈s.lots,Qoh s.stock.length l=true:=by
 simp only [Qav,Qq9,YB,decide_eq_true_iff,List.all_eq_true] at h;exact ⟨h.2.2.2.2.2.1.1,h.2.2.2.2.2.1.2⟩
theorem Qcq {k:Nat} {l:Qae} (h:Qoh k l=true):l.goods.length=k/\(∀g∈l.goods,0<=g.lo/\g.lo<=g.hi/\g.hi<=100000)/\0<=l.weight/\l.weight<=100000/\0<=l.cost/\l.cost<=1000000:=by
 simp only [Qoh,QcO,QbI,YB,decide_eq_true_iff,List.all_eq_true,QaA] at h;exact ⟨h.1,h.2.1,h.2.2.1.1,h.2.2.1.2,h.2.2.2.1,h.2.2.2.2⟩
def QtW (s:Qaa) (load:Int):Bool:=decide (QeO ((Qa2 load s.lots 0).map Qae.weight)<=s.hold)
def Qbl (s:Qaa) (load:List Int):Bool:=Qef s.lots.length load 0 && QtW s (QbL load 0)
def QcK (xs:List Int) (things:Int) (least i:Int):List Value:=[.int .i64 things,.int .i64 least,Qa0 1 (slT xs.length (Qac Qat xs)),.int .i64 (↑xs.length:Int),.int .i64 i]
def Qbw (xs:List Int) (things:Int) (least i:Int):List Obj:=[]
def QcE:List Item:=([.code [1,1,0,1,0,0],.inLoop [1,1,0,1,0,0],.inBlock 0,.code [1,1,1]]).map (it (Qaq YP 115))
def QnI (B:Lo) (c0:CF) (xs:List Int) (things:Int) (least i:Int):Prop:=∃dJ:Nat->Value,(∀t,Qbd (dJ t))/\GoE YP B c0 H00 1 (Qa8 115 23 (([1,5,8,9,10]:List Nat).zip (QcK xs things least i)) dJ QcE) (Qa6 (Qbw xs things least i)) (2+(Qbw xs things least i).length) []
def QfJ (B:Lo) (xs:List Int) (things:Int) (least i:Int) (dJ0:Nat->Value):List Prop:=[wq (things - 1)=things - 1,i=(↑i.toNat:Int)/\Int.toNat i < List.length xs/\Array.extract (Qac Qat xs) (Int.toNat i * TypeInfo.size Tryz.t3) (Int.toNat i * TypeInfo.size Tryz.t3+TypeInfo.size Tryz.t3)=#[.int .i64 (xs.getD i.toNat default)],ltq i (↑xs.length:Int)=true]++([]:List Prop)
def Qig (xs:List Int) (things:Int) (least i:Int) (dJ0:Nat->Value):Qas:=[(0,hvT),(1,Qai.tidx i.toNat #[.int .i64 (xs.getD i.toNat default)]),(7,hvI (things - 1))]
theorem QnD (B:Lo) (xs:List Int) (things:Int) (least i:Int) (dJ0:Nat->Value):landM (Qal YP (Qa1 YP) J0 B 18 1 (Qa8 115 23 (([1,5,8,9,10]:List Nat).zip (QcK xs things least i)) dJ0 QcE) (Qa6 (Qbw xs things least i)) (2+(Qbw xs things least i).length)
 (Qig xs things least i dJ0++[(8,Qai.pure (.bool true) []),(11,hvI (xs.getD i.toNat default+1)),(13,hvI (i+1))]) 0 [] []) [1,5,8,9,10] [] []=some ⟨115,23,QcE,[],.run,none,QcK xs things (xs.getD i.toNat default+1) (i+1),Qbw xs things (xs.getD i.toNat default+1) (i+1),
 [wq (i+1)=i+1,wq (xs.getD i.toNat default+1)=xs.getD i.toNat default+1,Qa3 []/\Qam YP J0 76 #[.int .i64 (xs.getD i.toNat default),.int .i64 least,.int .i64 (things - 1)] (.bool true)]++QfJ B xs things least i dJ0⟩:=by kernel_rfl
theorem QnJ (B:Lo) (xs:List Int) (things:Int) (least i:Int) (dJ0:Nat->Value):QaU (Qal YP (Qa1 YP) J0 B 17 1 (Qa8 115 23 (([1,5,8,9,10]:List Nat).zip (QcK xs things least i)) dJ0 QcE) (Qa6 (Qbw xs things least i)) (2+(Qbw xs things least i).length)
 (Qig xs things least i dJ0++[(8,Qai.pure (.bool false) [])]) 0 [] []) []=some (.bool false,
 [Qa3 []/\Qam YP J0 76 #[.int .i64 (xs.getD i.toNat default),.int .i64 least,.int .i64 (things - 1)] (.bool false)]++QfJ B xs things least i dJ0):=by kernel_rfl
theorem QnP (B:Lo) (xs:List Int) (things:Int) (least i:Int) (dJ0:Nat->Value):QaU (Qal YP (Qa1 YP) J0 B 9 1 (Qa8 115 23 (([1,5,8,9,10]:List Nat).zip (QcK xs things least i)) dJ0 QcE) (Qa6 (Qbw xs things least i)) (2+(Qbw xs things least i).length)
 [(0,hvF)] 0 [] []) []=some (.bool true,
 [ltq i (↑xs.length:Int)=false]):=by kernel_rfl
theorem QnF (B:Lo) (xs:List Int) (things:Int):landM (Qal YP (Qa1 YP) J0 B 9 1 (Qaj YP 115 23 (([slI xs,.int .i64 things]).map (Qao 0 4))) H00 1
 [] 0 [] []) [1,5,8,9,10] [] []=some ⟨115,23,QcE,[],.run,none,QcK xs things (0) (0),Qbw xs things (0) (0),
 []⟩:=by kernel_rfl
set_option maxHeartbeats 4000000 in
theorem QnM (xs:List Int) (things:Int) (ht0:0<=things/\things<=1000000) (hfacts:xs.length<=9223372036854775807) {B:Lo} (hJ:∀w,B.has w->J0 w) {c0:CF}:∀m:Nat,(∀(least i:Int),xs.length - i.toNat=m->∀(h0:0<=i) (h1:0<=least/\least<=1000000),QnI B c0 xs things least i->EndsT YP B c0 (.bool (Qef things (xs.drop i.toNat) least))):=by
 intro m0;induction m0 using Nat.strongRecOn with
 | _ m0 ih0=>
   intro least i hm0 h0 h1 ⟨dJ0,hdJ0,hg0⟩;by_cases q0:(i:Int) < ((↑xs.length:Int))
   ·have hp0:Qa3 (QfJ B xs things least i dJ0):=by
     have s2:=QcL (things:=things) (least:=least) (l:=xs) h0 q0;exact ⟨(QaQ (by omega) (by omega)),⟨⟨by omega,by omega,(Qag (z:=1) (fun _=> rfl) (by omega))⟩,⟨(Qbe q0),trivial⟩⟩⟩
    cases q1:inB (xs.getD i.toNat default) least (things - 1) with
    | true=>
      have s2:=QcL (things:=things) (least:=least) (l:=xs) h0 q0;have g1:=QaA.1 ‹inB _ least _=true›;exact ((ih0 _ (by omega)) (xs.getD i.toNat default+1) (i+1) rfl (by omega) (by omega)
       (hg0.landM okF hJ Qab (QnD B xs things least i dJ0)
       ⟨(QaQ (by omega) (by omega)),⟨(QaQ (by omega) (by omega)),⟨⟨trivial,(by have t_:=pIn (xs.getD i.toNat default) (least) (things - 1);rw [q1] at t_;exact t_)⟩,hp0⟩⟩⟩ (by kernel_rfl) (by kernel_rfl))).cast (by (rw [s2];simp_all;done))
    | false=>
      have s2:=QcL (things:=things) (least:=least) (l:=xs) h0 q0;exact (GoE.endsT okF hJ Qab hg0 (QnJ B xs things least i dJ0)
       ⟨⟨trivial,(by have t_:=pIn (xs.getD i.toNat default) (least) (things - 1);rw [q1] at t_;exact t_)⟩,hp0⟩).cast (by (rw [s2];simp_all;done))
   ·have s2:=QmU (things:=things) (least:=least) (l:=xs) (i:=i) (by omega);exact (GoE.endsT okF hJ Qab hg0 (QnP B xs things least i dJ0)
     ⟨(Qbj (Int.not_lt.1 q0)),trivial⟩).cast (by (rw [s2];done))
set_option maxHeartbeats 4000000 in
theorem QoJ (xs:List Int) (things:Int) (ht0:0<=things/\things<=1000000) (hfacts:xs.length<=9223372036854775807) {B:Lo} (hJ:∀w,B.has w->J0 w):EndsT YP B (Qaj YP 115 23 (([slI xs,.int .i64 things]).map (Qao 0 4))) (.bool (Qef things xs 0)):=by
 exact ((QnM xs things ht0 hfacts hJ _) (0) (0) rfl (by omega) (by omega)
  (GoE.start.landM okF hJ Qab (QnF B xs things)
  trivial (by kernel_rfl) (by kernel_rfl))).cast (by rfl)
theorem Qlt (xs:List Int) (things:Int) (ht0:0<=things/\things<=1000000):Qam YP J0 115 #[slI xs,.int .i64 things] (.bool (Qef things xs 0)):=
 Qct (ts:=[slI xs,.int .i64 things]) (xs.length<=9223372036854775807) (fun _ _ ht=> ht.ln (i:=0) rfl) Qb1 (c0:=Qaj YP 115 23 (([slI xs,.int .i64 things]).map (Qao 0 4))) (by kernel_rfl) (by kernel_rfl) fun hfacts B hJ=> QoJ xs things ht0 hfacts hJ
def Qlx (xs:List Int) (acc i:Int):List Value:=[.int .i64 acc,Qa0 1 (slT xs.length (Qac Qat xs)),.int .i64 (↑xs.length:Int),.int .i64 i]
def Qhh (xs:List Int) (acc i:Int):List Obj:=[]
def Qnf:List Item:=([.code [1,1,0,1,0,0],.inLoop [1,1,0,1,0,0],.inBlock 0,.code [1,1,1]]).map (it (Qaq YP 124))
def Q5e (B:Lo) (c0:CF) (xs:List Int) (acc i:Int):Prop:=∃dJ:Nat->Value,(∀t,Qbd (dJ t))/\GoE YP B c0 H00 1 (Qa8 124 17 (([3,6,7,8]:List Nat).zip (Qlx xs acc i)) dJ Qnf) (Qa6 (Qhh xs acc i)) (2+(Qhh xs acc i).length) []
theorem Q4X (B:Lo) (xs:List Int) (acc i:Int) (dJ0:Nat->Value):landM (Qal YP (Qa1 YP) J0 B 13 1 (Qa8 124 17 (([3,6,7,8]:List Nat).zip (Qlx xs acc i)) dJ0 Qnf) (Qa6 (Qhh xs acc i)) (2+(Qhh xs acc i).length)
 [(0,hvT),(1,Qai.tidx i.toNat #[.int .i64 (xs.getD i.toNat default)]),(6,hvI (acc+xs.getD i.toNat default)),(8,hvI (i+1))] 0 [] []) [3,6,7,8] [] []=some ⟨124,17,Qnf,[],.run,none,Qlx xs (acc+xs.getD i.toNat default) (i+1),Qhh xs (acc+xs.getD i.toNat default) (i+1),
 [wq (i+1)=i+1,wq (acc+xs.getD i.toNat default)=acc+xs.getD i.toNat default,i=(↑i.toNat:Int)/\Int.toNat i < List.length xs/\Array.extract (Qac Qat xs) (Int.toNat i * TypeInfo.size Tryz.t3) (Int.toNat i * TypeInfo.size Tryz.t3+TypeInfo.size Tryz.t3)=#[.int .i64 (xs.getD i.toNat default)],ltq i (↑xs.length:Int)=true]⟩:=by kernel_rfl
theorem Q5l (B:Lo) (xs:List Int) (acc i:Int) (dJ0:Nat->Value):QaU (Qal YP (Qa1 YP) J0 B 9 1 (Qa8 124 17 (([3,6,7,8]:List Nat).zip (Qlx xs acc i)) dJ0 Qnf) (Qa6 (Qhh xs acc i)) (2+(Qhh xs acc i).length)
 [(0,hvF)] 0 [] []) []=some (.int .i64 acc,
 [ltq i (↑xs.length:Int)=false]):=by kernel_rfl
theorem Q56 (B:Lo) (xs:List Int):landM (Qal YP (Qa1 YP) J0 B 9 1 (Qaj YP 124 17 (([slI xs]).map (Qao 0 4))) H00 1
 [] 0 [] []) [3,6,7,8] [] []=some ⟨124,17,Qnf,[],.run,none,Qlx xs (0) (0),Qhh xs (0) (0),
 []⟩:=by kernel_rfl
set_option maxHeartbeats 4000000 in
theorem Q44 (xs:List Int) (hx:∀x∈xs,-1000000000<=x/\x<=1000000000) (hl:xs.length<=1000) {B:Lo} (hJ:∀w,B.has w->J0 w) {c0:CF}:∀m:Nat,(∀(acc i:Int),xs.length - i.toNat=m->∀(h0:0<=i) (h1: -1000000000 * i<=acc/\acc<=1000000000 * i),Q5e B c0 xs acc i->EndsT YP B c0 (.int .i64 (acc+QeO (xs.drop i.toNat)))):=by
 intro m0;induction m0 using Nat.strongRecOn with
 | _ m0 ih0=>
   intro acc i hm0 h0 h1 ⟨dJ0,hdJ0,hg0⟩;by_cases q0:(i:Int) < ((↑xs.length:Int))
   ·have s2:=Qj9 (l:=xs) h0 q0;have g1:=hx _ (QaF h0 q0);exact ((ih0 _ (by omega)) (acc+xs.getD i.toNat default) (i+1) rfl (by omega) (by omega)
     (hg0.landM okF hJ Qab (Q4X B xs acc i dJ0)
     ⟨(QaQ (by omega) (by omega)),⟨(QaQ (by omega) (by omega)),⟨⟨by omega,by omega,(Qag (z:=1) (fun _=> rfl) (by omega))⟩,⟨(Qbe q0),trivial⟩⟩⟩⟩ (by kernel_rfl) (by kernel_rfl))).cast (by (rw [s2,Int.add_assoc];done))
   ·have s2:=QoK (l:=xs) (i:=i) (by omega);exact (GoE.endsT okF hJ Qab hg0 (Q5l B xs acc i dJ0)
     ⟨(Qbj (Int.not_lt.1 q0)),trivial⟩).cast (by (rw [s2];simp;done))
set_option maxHeartbeats 4000000 in
theorem Q6F (xs:List Int) (hx:∀x∈xs,-1000000000<=x/\x<=1000000000) (hl:xs.length<=1000) {B:Lo} (hJ:∀w,B.has w->J0 w):EndsT YP B (Qaj YP 124 17 (([slI xs]).map (Qao 0 4))) (.int .i64 (QeO xs)):=by
 exact ((Q44 xs hx hl hJ _) (0) (0) rfl (by omega) (by omega)
  (GoE.start.landM okF hJ Qab (Q56 B xs)
  trivial (by kernel_rfl) (by kernel_rfl))).cast (by (simp [*];done))
theorem Q7C (xs:List Int) (hx:∀x∈xs,-1000000000<=x/\x<=1000000000) (hl:xs.length<=1000):Qam YP J0 124 #[slI xs] (.int .i64 (QeO xs)):=
 QaG (ts:=[slI xs]) Qb1 (c0:=Qaj YP 124 17 (([slI xs]).map (Qao 0 4))) (by kernel_rfl) (by kernel_rfl) fun B hJ=> Q6F xs hx hl hJ
def QoV (B:Lo) (s:Qaa) (load:Int):List Prop:=[Qa3 []/\Qam YP J0 124 #[slT (List.length (List.map Qae.weight (Qa2 load s.lots 0))) (Qac Qat (List.map Qae.weight (Qa2 load s.lots 0)))] (.int .i64 (QeO (List.map Qae.weight (Qa2 load s.lots 0)))),Qa3 []/\Qam YP J0 92 #[slT (List.length (Qa2 load s.lots 0)) (Qac Qan (Qa2 load s.lots 0)),Value.func (Fn.func 140) #[] #[]] (slT (List.length (List.map Qae.weight (Qa2 load s.lots 0))) (Qac Qat (List.map Qae.weight (Qa2 load s.lots 0)))),Qa3 []/\Qam YP J0 139 #[.int .i64 load,slT s.lots.length (Qac Qan s.lots)] (slT (List.length (Qa2 load s.lots 0)) (Qac Qan (Qa2 load s.lots 0)))]++([]:List Prop)
def QuV (s:Qaa) (load:Int):Qas:=[(5,Qai.pure (slT (List.length (Qa2 load s.lots 0)) (Qac Qan (Qa2 load s.lots 0))) []),(6,Qai.pure (slT (List.length (List.map Qae.weight (Qa2 load s.lots 0))) (Qac Qat (List.map Qae.weight (Qa2 load s.lots 0)))) []),(9,Qai.pure (.int .i64 (QeO (List.map Qae.weight (Qa2 load s.lots 0)))) [])]
theorem Q2k (B:Lo) (s:Qaa) (load:Int):QaU (Qal YP (Qa1 YP) J0 B 8 1 (Qaj YP 96 16 (([.agg (Qah s).toArray,.int .i64 load]).map (Qao 0 4))) H00 1
 (QuV s load++[(12,hvT)]) 0 [] []) []=some (.bool true,
 [(!ltq s.hold (QeO (List.map Qae.weight (Qa2 load s.lots 0))))=true]++QoV B s load):=by kernel_rfl
theorem Q3n (B:Lo) (s:Qaa) (load:Int):QaU (Qal YP (Qa1 YP) J0 B 8 1 (Qaj YP 96 16 (([.agg (Qah s).toArray,.int .i64 load]).map (Qao 0 4))) H00 1
 (QuV s load++[(12,hvF)]) 0 [] []) []=some (.bool false,
 [(!ltq s.hold (QeO (List.map Qae.weight (Qa2 load s.lots 0))))=false]++QoV B s load):=by kernel_rfl
set_option maxHeartbeats 4000000 in
theorem Q46 (s:Qaa) (load:Int) (hs:Qav s=true) (h0:0<=load) (h1:load < 64) (hx:Qcz load<=s.lots.length) {B:Lo} (hJ:∀w,B.has w->J0 w):EndsT YP B (Qaj YP 96 16 (([.agg (Qah s).toArray,.int .i64 load]).map (Qao 0 4))) (.bool (QtW s load)):=by
 have hm:=Qay hs;have hw:∀x∈(Qa2 load s.lots 0).map Qae.weight,-1000000000<=x/\x<=1000000000:=fun x h=> by obtain ⟨l,hl,rfl⟩:=List.mem_map.1 h;have:=Qcq (hm.2 l (Qdi (Int.le_refl _) hx l hl));omega
 have hll:=Qj5 (s:=load) (n:=0) (xs:=s.lots) (Int.le_refl _);have hw2:((Qa2 load s.lots 0).map Qae.weight).length<=1000:=by rw [List.length_map];omega
 have hp0:Qa3 (QoV B s load):=by
  exact ⟨⟨trivial,Q7C (List.map Qae.weight (Qa2 load s.lots 0)) (by with_reducible assumption) (by with_reducible assumption)⟩,⟨⟨trivial,Q6Q (Qa2 load s.lots 0) (by omega)⟩,⟨⟨trivial,Q6x (load) s.lots (by with_reducible assumption) (by with_reducible assumption) (by with_reducible assumption)⟩,trivial⟩⟩⟩
 by_cases q0:(QeO (List.map Qae.weight (Qa2 load s.lots 0)):Int)<=s.hold
 ·exact (GoE.endsT okF hJ Qab GoE.start (Q2k B s load)
   ⟨(Qca q0),hp0⟩).cast (by (simp [QtW, *];done))
 ·exact (GoE.endsT okF hJ Qab GoE.start (Q3n B s load)
   ⟨(Qcb (Int.not_le.1 q0)),hp0⟩).cast (by (simp [QtW, *];done))
theorem Q6z (s:Qaa) (load:Int) (hs:Qav s=true) (h0:0<=load) (h1:load < 64) (hx:Qcz load<=s.lots.length):Qam YP J0 96 #[.agg (Qah s).toArray,.int .i64 load] (.bool (QtW s load)):=
 QaG (ts:=[.agg (Qah s).toArray,.int .i64 load]) Qb1 (c0:=Qaj YP 96 16 (([.agg (Qah s).toArray,.int .i64 load]).map (Qao 0 4))) (by kernel_rfl) (by kernel_rfl) fun B hJ=> Q46 s load hs h0 h1 hx hJ
def QjK (B:Lo) (s:Qaa) (load:List Int):List Prop:=[Qa3 []/\Qam YP J0 116 #[slT load.length (Qac Qat load)] (.int .i64 (QbL load 0)),Qa3 []/\Qam YP J0 115 #[slT load.length (Qac Qat load),.int .i64 (↑s.lots.length:Int)] (.bool true)]++([]:List Prop)
def Qox (s:Qaa) (load:List Int):Qas:=[(6,Qai.pure (.bool true) []),(10,Qai.pure (.int .i64 (QbL load 0)) [])]
theorem Qwi (B:Lo) (s:Qaa) (load:List Int):QaU (Qal YP (Qa1 YP) J0 B 6 1 (Qaj YP 80 16 (([.agg (Qah s).toArray,slI load]).map (Qao 0 4))) H00 1
 (Qox s load++[(11,Qai.pure (.bool true) [])]) 0 [] []) []=some (.bool true,
 [Qa3 []/\Qam YP J0 96 #[.agg #[slT s.stock.length (Qac Qat s.stock),slT s.use.length (Qac Qa9 s.use),.int .i64 s.glo,.int .i64 s.ghi,slT s.lots.length (Qac Qan s.lots),.int .i64 s.hold],.int .i64 (QbL load 0)] (.bool true)]++QjK B s load):=by kernel_rfl
theorem Qvt (B:Lo) (s:Qaa) (load:List Int):QaU (Qal YP (Qa1 YP) J0 B 6 1 (Qaj YP 80 16 (([.agg (Qah s).toArray,slI load]).map (Qao 0 4))) H00 1
 (Qox s load++[(11,Qai.pure (.bool false) [])]) 0 [] []) []=some (.bool false,
 [Qa3 []/\Qam YP J0 96 #[.agg #[slT s.stock.length (Qac Qat s.stock),slT s.use.length (Qac Qa9 s.use),.int .i64 s.glo,.int .i64 s.ghi,slT s.lots.length (Qac Qan s.lots),.int .i64 s.hold],.int .i64 (QbL load 0)] (.bool false)]++QjK B s load):=by kernel_rfl
theorem QvT (B:Lo) (s:Qaa) (load:List Int):QaU (Qal YP (Qa1 YP) J0 B 6 1 (Qaj YP 80 16 (([.agg (Qah s).toArray,slI load]).map (Qao 0 4))) H00 1
 [(6,Qai.pure (.bool false) [])] 0 [] []) []=some (.bool false,
 [Qa3 []/\Qam YP J0 115 #[slT load.length (Qac Qat load),.int .i64 (↑s.lots.length:Int)] (.bool false)]):=by kernel_rfl
set_option maxHeartbeats 4000000 in
theorem Qz8 (s:Qaa) (load:List Int) (hs:Qav s=true) {B:Lo} (hJ:∀w,B.has w->J0 w):EndsT YP B (Qaj YP 80 16 (([.agg (Qah s).toArray,slI load]).map (Qao 0 4))) (.bool (Qbl s load)):=by
 have hm:=Qay hs;cases q0:Qef (↑s.lots.length:Int) load 0 with
 | true=>
   have hp0:Qa3 (QjK B s load):=by
    have g1:=Qki ‹Qef s.lots.length load 0=true› (Int.le_refl 0);have g2:∀x∈load,0<=x/\x<=61:=fun x h=> by have:=g1 x h;omega
    have g3:=QjX (k:=s.lots.length) (by omega) load 0 g1 (Int.le_refl 0) (Int.pow_pos (by decide));have g4:QbL load 0 < 64:=Int.lt_of_lt_of_le g3.2 (by have:(2:Nat) ^ s.lots.length<=2 ^ 6:=Nat.pow_le_pow_right (by decide) (by omega);have e:(2:Int) ^ s.lots.length=((2 ^ s.lots.length:Nat):Int):=by {rw [Int.natCast_pow];rfl};rw [e];omega);have g5:=Qmh g3.1 g3.2;have g6:=g3.1;exact ⟨⟨trivial,pOf (load) (by with_reducible assumption)⟩,⟨⟨trivial,(by have t_:=Qlt (load) ((↑s.lots.length:Int)) (by omega);rw [q0] at t_;exact t_)⟩,trivial⟩⟩
   cases q1:QtW s (QbL load 0) with
   | true=>
     have g1:=Qki ‹Qef s.lots.length load 0=true› (Int.le_refl 0);have g2:∀x∈load,0<=x/\x<=61:=fun x h=> by have:=g1 x h;omega
     have g3:=QjX (k:=s.lots.length) (by omega) load 0 g1 (Int.le_refl 0) (Int.pow_pos (by decide));have g4:QbL load 0 < 64:=Int.lt_of_lt_of_le g3.2 (by have:(2:Nat) ^ s.lots.length<=2 ^ 6:=Nat.pow_le_pow_right (by decide) (by omega);have e:(2:Int) ^ s.lots.length=((2 ^ s.lots.length:Nat):Int):=by {rw [Int.natCast_pow];rfl};rw [e];omega);have g5:=Qmh g3.1 g3.2;have g6:=g3.1;exact (GoE.endsT okF hJ Qab GoE.start (Qwi B s load)
      ⟨⟨trivial,(by have t_:=Q6z (s) (QbL load 0) (by with_reducible assumption) (by with_reducible assumption) (by with_reducible assumption) (by with_reducible assumption);rw [q1] at t_;exact t_)⟩,hp0⟩).cast (by (simp [Qbl, *];done))
   | false=>
     have g1:=Qki ‹Qef s.lots.length load 0=true› (Int.le_refl 0);have g2:∀x∈load,0<=x/\x<=61:=fun x h=> by have:=g1 x h;omega
     have g3:=QjX (k:=s.lots.length) (by omega) load 0 g1 (Int.le_refl 0) (Int.pow_pos (by decide));have g4:QbL load 0 < 64:=Int.lt_of_lt_of_le g3.2 (by have:(2:Nat) ^ s.lots.length<=2 ^ 6:=Nat.pow_le_pow_right (by decide) (by omega);have e:(2:Int) ^ s.lots.length=((2 ^ s.lots.length:Nat):Int):=by {rw [Int.natCast_pow];rfl};rw [e];omega);have g5:=Qmh g3.1 g3.2;have g6:=g3.1;exact (GoE.endsT okF hJ Qab GoE.start (Qvt B s load)
      ⟨⟨trivial,(by have t_:=Q6z (s) (QbL load 0) (by with_reducible assumption) (by with_reducible assumption) (by with_reducible assumption) (by with_reducible assumption);rw [q1] at t_;exact t_)⟩,hp0⟩).cast (by (simp [Qbl, *];done))
 | false=>
   exact (GoE.endsT okF hJ Qab GoE.start (QvT B s load)
    ⟨⟨trivial,(by have t_:=Qlt (load) ((↑s.lots.length:Int)) (by omega);rw [q0] at t_;exact t_)⟩,trivial⟩).cast (by (simp [Qbl, *];done))
theorem QoF (s:Qaa) (load:List Int) (hs:Qav s=true):Qam YP J0 80 #[.agg (Qah s).toArray,slI load] (.bool (Qbl s load)):=
 QaG (ts:=[.agg (Qah s).toArray,slI load]) Qb1 (c0:=Qaj YP 80 16 (([.agg (Qah s).toArray,slI load]).map (Qao 0 4))) (by kernel_rfl) (by kernel_rfl) fun B hJ=> Qz8 s load hs hJ
end
end Go.Proofs.YtiabgkiccaodmaaGreat

namespace Go.Proofs.YtiabgkiccaodmaaGreat
open Go Go.CE Go.RowKit
set_option maxRecDepth 100000
structure Qaf where
 uses:List Int
 gaps:List Int
 goods:List Row
deriving Inhabited
abbrev slR (xs:List Row):Value:=slT xs.length (Qac Qaw xs)
def Qa4 (t:Qaf):List Value:=[slI t.uses,slI t.gaps,slR t.goods]
def Qvo (ns:List Int) (ss:List Span) (i:Int):Bool:=(upI i ns.length).all fun k=> inB (ns.getD k.toNat default) (ss.getD k.toNat default).lo (ss.getD k.toNat default).hi
theorem QfS {ns:List Int} {ss:List Span} {i:Int} (h:i < ns.length):Qvo ns ss i=(inB (ns.getD i.toNat default) (ss.getD i.toNat default).lo (ss.getD i.toNat default).hi && Qvo ns ss (i+1)):=by
 unfold Qvo;rw [QdW h];rfl
theorem QuT {ns:List Int} {ss:List Span} {i:Int} (h:ns.length<=i):Qvo ns ss i=true:=by unfold Qvo;rw [QgG h];rfl
def Qey (ns:List Int) (ss:List Span):Bool:=decide (ns.length=ss.length) && Qvo ns ss 0
def Q5T (s:Qaa) (all:List Row) (i:Int):Bool:=(upI i s.lots.length).all fun k=> Qey (all.getD k.toNat default) (s.lots.getD k.toNat default).goods
def QkK (s:Qaa) (all:List Row):Bool:=decide (all.length=s.lots.length) && Q5T s all 0
def QjB (s:Qaa) (days:Int) (gaps:List Int):Bool:=decide (gaps.length<=300) && (gaps.all (fun x=> inB x s.glo s.ghi) && decide (days<=QeO gaps))
def Qbn (s:Qaa) (days:Int) (t:Qaf):Bool:=Qey t.uses s.use && (QjB s days t.gaps && QkK s t.goods)
theorem Qa5 {s:Qaa} (h:Qav s=true):1<=s.glo/\s.glo<=s.ghi/\s.ghi<=60:=by
 simp only [Qav,QbI,YB,decide_eq_true_iff] at h;exact ⟨h.2.2.2.2.1.1,h.2.2.2.2.1.2.1,h.2.2.2.2.1.2.2⟩
end Go.Proofs.YtiabgkiccaodmaaGreat

namespace Go.Proofs.YtiabgkiccaodmaaGreat
open Go Go.CE Go.RowKit
set_option maxRecDepth 100000
def QaE (s:Qaa) (load days:Int):List Value:=Qah s++[.int .i64 load,.int .i64 days]
def QgT (days:Int):List Int->Int->List Bool->List Bool
 | [],_,bs=> bs
 | g::l,day,bs=> QgT days l (day+g) (bif decide (day+g < days) then bs.set (day+g).toNat true else bs)
theorem Qgc {days:Int}:∀(l:List Int) (day:Int) (bs:List Bool),(QgT days l day bs).length=bs.length
 | [],_,_=> rfl
 | g::l,day,bs=> by
   simp only [QgT];rw [Qgc l];cases decide (day+g < days) <;> simp
theorem Qip {days day:Int} {l:List Int} {i:Int} {bs:List Bool} (h0:0<=i) (h:i < l.length):QgT days (l.drop i.toNat) day bs=QgT days (l.drop (i+1).toNat) (day+l.getD i.toNat default) (bif decide (day+l.getD i.toNat default < days) then bs.set (day+l.getD i.toNat default).toNat true else bs):=by
 obtain ⟨k,rfl⟩:∃k:Nat,i=k:=⟨i.toNat,by omega⟩
 have hk:k < l.length:=by omega
 have e1:((k:Int)).toNat=k:=by omega
 have e2:((k:Int)+1).toNat=k+1:=by omega
 rw [e1,e2,List.drop_eq_getElem_cons hk];simp [QgT,List.getD_eq_getElem?_getD,hk]
theorem Qw2 {days day:Int} {l:List Int} {i:Int} {bs:List Bool} (h:l.length<=i):QgT days (l.drop i.toNat) day bs=bs:=by
 rw [List.drop_eq_nil_of_le (by omega)];rfl
def Qb3 (days:Int) (gaps:List Int):List Bool:=QgT days gaps 0 (List.replicate days.toNat false)
theorem Qq4 (B:Lo) (s:Qaa) (load:List Int) (days:Int):QaU (Qal YP (Qa1 YP) J0 B 6 1 (Qaj YP 83 12 (([.agg (Qah s).toArray,slI load,.int .i64 days]).map (Qao 0 4))) H00 1
 [(4,Qai.pure (.int .i64 (QbL load 0)) [])] 0 [] []) []=some (.agg #[slT s.stock.length (Qac Qat s.stock),slT s.use.length (Qac Qa9 s.use),.int .i64 s.glo,.int .i64 s.ghi,slT s.lots.length (Qac Qan s.lots),.int .i64 s.hold,.int .i64 (QbL load 0),.int .i64 days],
 [Qa3 []/\Qam YP J0 116 #[slT load.length (Qac Qat load)] (.int .i64 (QbL load 0))]):=by kernel_rfl
set_option maxHeartbeats 4000000 in
theorem QtR (s:Qaa) (load:List Int) (days:Int) (hx:∀x∈load,0<=x/\x<=61) {B:Lo} (hJ:∀w,B.has w->J0 w):EndsT YP B (Qaj YP 83 12 (([.agg (Qah s).toArray,slI load,.int .i64 days]).map (Qao 0 4))) (.agg (QaE s (QbL load 0) days).toArray):=by
 exact (GoE.endsT okF hJ Qab GoE.start (Qq4 B s load days)
  ⟨⟨trivial,pOf (load) (by with_reducible assumption)⟩,trivial⟩).cast (by rfl)
theorem QsC (s:Qaa) (load:List Int) (days:Int) (hx:∀x∈load,0<=x/\x<=61):Qam YP J0 83 #[.agg (Qah s).toArray,slI load,.int .i64 days] (.agg (QaE s (QbL load 0) days).toArray):=
 QaG (ts:=[.agg (Qah s).toArray,slI load,.int .i64 days]) Qb1 (c0:=Qaj YP 83 12 (([.agg (Qah s).toArray,slI load,.int .i64 days]).map (Qao 0 4))) (by kernel_rfl) (by kernel_rfl) fun B hJ=> QtR s load days hx hJ
def Qfo (s:Qaa) (load days:Int) (gaps:List Int) (day i:Int) (bs:List Bool):List Value:=[pA 2 0,.slice (some {block:=3,off:=0}) days.toNat 1,.int .i64 day,Qa0 1 (slT gaps.length (Qac Qat gaps)),.int .i64 (↑gaps.length:Int),.int .i64 i]
def Qdd (s:Qaa) (load days:Int) (gaps:List Int) (day i:Int) (bs:List Bool):List Obj:=[Obj.cells #[Qa0 1 (slT s.stock.length (Qac Qat s.stock)),Qa0 1 (slT s.use.length (Qac Qa9 s.use)),.int .i64 s.glo,.int .i64 s.ghi,Qa0 1 (slT s.lots.length (Qac Qan s.lots)),.int .i64 s.hold,.int .i64 load,.int .i64 days] 122,.cells (Qac Qel bs) 4 (0,0)]
noncomputable def Qfv:List Item:=([.code [1,1,1,0,1,0,0],.inLoop [1,1,1,0,1,0,0],.inBlock 0,.code [1,1,1,1]]).map (it (Qaq YP 120))
def QxJ (B:Lo) (c0:CF) (s:Qaa) (load days:Int) (gaps:List Int) (day i:Int) (bs:List Bool):Prop:=∃dJ:Nat->Value,(∀t,Qbd (dJ t))/\GoE YP B c0 H00 1 (Qa8 120 30 (([2,5,6,12,13,14]:List Nat).zip (Qfo s load days gaps day i bs)) dJ Qfv) (Qa6 (Qdd s load days gaps day i bs)) (2+(Qdd s load days gaps day i bs).length) []
noncomputable def QlC (B:Lo) (s:Qaa) (load days:Int) (gaps:List Int) (day i:Int) (bs:List Bool) (dJ0:Nat->Value):List Prop:=[wq (day+gaps.getD i.toNat default)=day+gaps.getD i.toNat default,i=(↑i.toNat:Int)/\Int.toNat i < List.length gaps/\Array.extract (Qac Qat gaps) (Int.toNat i * TypeInfo.size Tryz.t3) (Int.toNat i * TypeInfo.size Tryz.t3+TypeInfo.size Tryz.t3)=#[.int .i64 (gaps.getD i.toNat default)],ltq i (↑gaps.length:Int)=true]++([]:List Prop)
noncomputable def Qqk (s:Qaa) (load days:Int) (gaps:List Int) (day i:Int) (bs:List Bool) (dJ0:Nat->Value):Qas:=[(0,hvT),(1,Qai.tidx i.toNat #[.int .i64 (gaps.getD i.toNat default)]),(6,hvI (day+gaps.getD i.toNat default))]
theorem QzA (B:Lo) (s:Qaa) (load days:Int) (gaps:List Int) (day i:Int) (bs:List Bool) (dJ0:Nat->Value):landM (Qal YP (Qa1 YP) J0 B 18 1 (Qa8 120 30 (([2,5,6,12,13,14]:List Nat).zip (Qfo s load days gaps day i bs)) dJ0 Qfv) (Qa6 (Qdd s load days gaps day i bs)) (2+(Qdd s load days gaps day i bs).length)
 (Qqk s load days gaps day i bs dJ0++[(11,hvT),(14,Qai.old (Hint.idx (Int.toNat (day+gaps.getD i.toNat default)))),(15,Qai.old (Hint.st (Qac Qel (List.set bs (Int.toNat (day+gaps.getD i.toNat default)) true)))),(16,hvI (i+1))]) 0 [] []) [2,5,6,12,13,14] [(2,KS.auto),(3,KS.cells [] (Qac Qel (List.set bs (Int.toNat (day+gaps.getD i.toNat default)) true)))] []=some ⟨120,30,Qfv,[],.run,none,Qfo s load days gaps (day+gaps.getD i.toNat default) (i+1) (List.set bs (Int.toNat (day+gaps.getD i.toNat default)) true),Qdd s load days gaps (day+gaps.getD i.toNat default) (i+1) (List.set bs (Int.toNat (day+gaps.getD i.toNat default)) true),
 [Qbk 1 [] (Qac Qel (List.set bs (Int.toNat (day+gaps.getD i.toNat default)) true)) (Qac Qel (List.set bs (Int.toNat (day+gaps.getD i.toNat default)) true)),wq (i+1)=i+1,0+Int.toNat (day+gaps.getD i.toNat default) * 1+TypeInfo.size Tryz.t4<=Array.size (Qac Qel bs)/\splice (Qac Qel bs) (0+Int.toNat (day+gaps.getD i.toNat default) * 1) (Value.cells (.bool true))=Qac Qel (List.set bs (Int.toNat (day+gaps.getD i.toNat default)) true),day+gaps.getD i.toNat default=(↑(Int.toNat (day+gaps.getD i.toNat default)):Int)/\Int.toNat (day+gaps.getD i.toNat default) < Int.toNat days,ltq (day+gaps.getD i.toNat default) days=true]++QlC B s load days gaps day i bs dJ0⟩:=by kernel_rfl
theorem Q0l (B:Lo) (s:Qaa) (load days:Int) (gaps:List Int) (day i:Int) (bs:List Bool) (dJ0:Nat->Value):landM (Qal YP (Qa1 YP) J0 B 18 1 (Qa8 120 30 (([2,5,6,12,13,14]:List Nat).zip (Qfo s load days gaps day i bs)) dJ0 Qfv) (Qa6 (Qdd s load days gaps day i bs)) (2+(Qdd s load days gaps day i bs).length)
 (Qqk s load days gaps day i bs dJ0++[(11,hvF),(12,hvI (i+1))]) 0 [] []) [2,5,6,12,13,14] [(2,KS.auto),(3,KS.cells [] (Qac Qel bs))] []=some ⟨120,30,Qfv,[],.run,none,Qfo s load days gaps (day+gaps.getD i.toNat default) (i+1) (bs),Qdd s load days gaps (day+gaps.getD i.toNat default) (i+1) (bs),
 [Qbk 1 [] (Qac Qel bs) (Qac Qel bs),wq (i+1)=i+1,ltq (day+gaps.getD i.toNat default) days=false]++QlC B s load days gaps day i bs dJ0⟩:=by kernel_rfl
theorem QzS (B:Lo) (s:Qaa) (load days:Int) (gaps:List Int) (day i:Int) (bs:List Bool) (dJ0:Nat->Value):QaU (Qal YP (Qa1 YP) J0 B 9 1 (Qa8 120 30 (([2,5,6,12,13,14]:List Nat).zip (Qfo s load days gaps day i bs)) dJ0 Qfv) (Qa6 (Qdd s load days gaps day i bs)) (2+(Qdd s load days gaps day i bs).length)
 [(0,hvF)] 0 [] []) [{k:=3,rs:=[],cs:=Qac Qel bs}]=some (slT days.toNat (Fz.cs {k:=3,rs:=[],cs:=Qac Qel bs}),
 [Qb6 (Fz.rs {k:=3,rs:=[],cs:=Qac Qel bs}) (Qac Qel bs) (Fz.cs {k:=3,rs:=[],cs:=Qac Qel bs}),ltq i (↑gaps.length:Int)=false]):=by kernel_rfl
theorem Qyk (B:Lo) (s:Qaa) (load days:Int) (gaps:List Int):landM (Qal YP (Qa1 YP) J0 B 11 1 (Qaj YP 120 30 (([.agg (QaE s load days).toArray,slI gaps]).map (Qao 0 4))) H00 1
 [(4,Qai.old (Hint.mk days.toNat (Qac (QbO [.bool false]) (List.replicate days.toNat ()))))] 0 [] []) [2,5,6,12,13,14] [(1,KS.auto),(2,KS.rows [] [] (Qac Qel (List.replicate days.toNat false)))] []=some ⟨120,30,Qfv,[],.run,none,Qfo s load days gaps (0) (0) (List.replicate days.toNat false),Qdd s load days gaps (0) (0) (List.replicate days.toNat false),
 [Qbg 1 [] [] (Qac (QbO [.bool false]) (List.replicate days.toNat ())) (Qac Qel (List.replicate days.toNat false)),Qg4 YP 127 (Qch {len:=16000,tr:=Tri.set 14 Tri.lf 10 (.int .i64 days)} 10) (Qch {len:=16000,tr:=Tri.set 14 Tri.lf 10 (.int .i64 days)} 10)=some (4,Qac (QbO [.bool false]) (List.replicate days.toNat ()),Int.toNat days,TypeInfo.size Tryz.t4)]⟩:=by kernel_rfl
set_option maxHeartbeats 4000000 in
theorem QyF (s:Qaa) (load days:Int) (gaps:List Int) (hd:0<=days/\days<=300) (hg:∀x∈gaps,0<=x/\x<=60) (hl:gaps.length<=300) {B:Lo} (hJ:∀w,B.has w->J0 w) {c0:CF}:∀m:Nat,(∀(day i:Int) (bs:List Bool),gaps.length - i.toNat=m->∀(h0:0<=i) (h1:0<=day/\day<=60 * i) (hb:bs.length=days.toNat),QxJ B c0 s load days gaps day i bs->EndsT YP B c0 (slB (QgT days (gaps.drop i.toNat) day bs))):=by
 intro m0;induction m0 using Nat.strongRecOn with
 | _ m0 ih0=>
   intro day i bs hm0 h0 h1 hb ⟨dJ0,hdJ0,hg0⟩;by_cases q0:(i:Int) < ((↑gaps.length:Int))
   ·have hp0:Qa3 (QlC B s load days gaps day i bs dJ0):=by
     have s2:=Qip (days:=days) (day:=day) (bs:=bs) (l:=gaps) h0 q0;have g1:=hg _ (QaF h0 q0);exact ⟨(QaQ (by omega) (by omega)),⟨⟨by omega,by omega,(Qag (z:=1) (fun _=> rfl) (by omega))⟩,⟨(Qbe q0),trivial⟩⟩⟩
    by_cases q1:(day+gaps.getD i.toNat default:Int) < (days)
    ·have s2:=Qip (days:=days) (day:=day) (bs:=bs) (l:=gaps) h0 q0;have g1:=hg _ (QaF h0 q0);rw [decide_eq_true q1,cond_true] at s2;exact ((ih0 _ (by omega)) (day+gaps.getD i.toNat default) (i+1) (List.set bs (Int.toNat (day+gaps.getD i.toNat default)) true) rfl (by omega) (by omega) (by (rw [List.length_set];exact hb))
      (hg0.landM okF hJ Qab (QzA B s load days gaps day i bs dJ0)
      ⟨(Qax (Qa7 (fun x=> List.all_eq_true.1 (by rfl)))),⟨(QaQ (by omega) (by omega)),⟨(by exact QgL (z:=1) (fun _=> rfl) (by omega) rfl rfl),⟨⟨by omega,by omega⟩,⟨(Qbe q1),hp0⟩⟩⟩⟩⟩ (by kernel_rfl) (by kernel_rfl))).cast (by (rw [s2];done))
    ·have s2:=Qip (days:=days) (day:=day) (bs:=bs) (l:=gaps) h0 q0;have g1:=hg _ (QaF h0 q0);rw [decide_eq_false q1,cond_false] at s2;exact ((ih0 _ (by omega)) (day+gaps.getD i.toNat default) (i+1) (bs) rfl (by omega) (by omega) (by with_reducible assumption)
      (hg0.landM okF hJ Qab (Q0l B s load days gaps day i bs dJ0)
      ⟨(Qax (Qa7 (fun x=> List.all_eq_true.1 (by rfl)))),⟨(QaQ (by omega) (by omega)),⟨(Qbj (Int.not_lt.1 q1)),hp0⟩⟩⟩ (by kernel_rfl) (by kernel_rfl))).cast (by (rw [s2];done))
   ·have s2:=Qw2 (days:=days) (day:=day) (bs:=bs) (l:=gaps) (i:=i) (by omega);exact (GoE.endsT okF hJ Qab hg0 (QzS B s load days gaps day i bs dJ0)
     ⟨(Qba (fun x=> List.all_eq_true.1 (by rfl))),⟨(Qbj (Int.not_lt.1 q0)),trivial⟩⟩).cast (by (rw [s2];exact QfN rfl (by omega)))
set_option maxHeartbeats 4000000 in
theorem Q25 (s:Qaa) (load days:Int) (gaps:List Int) (hd:0<=days/\days<=300) (hg:∀x∈gaps,0<=x/\x<=60) (hl:gaps.length<=300) {B:Lo} (hJ:∀w,B.has w->J0 w):EndsT YP B (Qaj YP 120 30 (([.agg (QaE s load days).toArray,slI gaps]).map (Qao 0 4))) (slB (Qb3 days gaps)):=by
 exact ((QyF s load days gaps hd hg hl hJ _) (0) (0) (List.replicate days.toNat false) rfl (by omega) (by omega) (by (rw [List.length_replicate];done))
  (GoE.start.landM okF hJ Qab (Qyk B s load days gaps)
  ⟨(by exact (QbV (by exact ⟨(.simple rfl),trivial⟩) _)),⟨(QgQ (bytes:=1) (by kernel_rfl) (by omega) (by omega) (by omega)),trivial⟩⟩ (by kernel_rfl) (by kernel_rfl))).cast (by rfl)
theorem Q6O (s:Qaa) (load days:Int) (gaps:List Int) (hd:0<=days/\days<=300) (hg:∀x∈gaps,0<=x/\x<=60) (hl:gaps.length<=300):Qam YP J0 120 #[.agg (QaE s load days).toArray,slI gaps] (slB (Qb3 days gaps)):=
 QaG (ts:=[.agg (QaE s load days).toArray,slI gaps]) Qb1 (c0:=Qaj YP 120 30 (([.agg (QaE s load days).toArray,slI gaps]).map (Qao 0 4))) (by kernel_rfl) (by kernel_rfl) fun B hJ=> Q25 s load days gaps hd hg hl hJ
end Go.Proofs.YtiabgkiccaodmaaGreat

namespace Go.Proofs.YtiabgkiccaodmaaGreat
open Go Go.CE Go.RowKit
noncomputable section
set_option maxRecDepth 100000
theorem Qtc {p:Int->Bool} {a b:Int} (h:(upI a b).all p=true) {k:Int} (h1:a<=k) (h2:k < b):p k=true:=by
 refine List.all_eq_true.1 h k ?_;unfold upI;exact List.mem_map.2 ⟨(k - a).toNat,List.mem_range.2 (by omega),by omega⟩
theorem Qdm {b:Int}:(upI 0 b).length=b.toNat:=by simp [upI]
theorem Qja {b i:Int} (h0:0<=i) (h:i < b):(upI 0 b).getD i.toNat default=i:=by
 have hk:i.toNat < (upI 0 b).length:=by rw [Qdm];omega
 rw [List.getD_eq_getElem?_getD,List.getElem?_eq_getElem hk];simp [upI];omega
theorem Qpz {α:Type} [Inhabited α] {l:List α} {x:α} (h:x∈l):∃i:Int,0<=i/\i < l.length/\l.getD i.toNat default=x:=by
 obtain ⟨k,hk,rfl⟩:=List.getElem_of_mem h;exact ⟨k,by omega,by omega,by simp [List.getD_eq_getElem?_getD,hk]⟩
theorem Qbz {ns:List Int} {ss:List Span} (h:Qey ns ss=true):ns.length=ss.length/\∀k:Int,0<=k->k < ns.length->(ss.getD k.toNat default).lo<=ns.getD k.toNat default/\ns.getD k.toNat default<=(ss.getD k.toNat default).hi:=by
 simp only [Qey,YB,decide_eq_true_iff] at h;exact ⟨h.1,fun k h0 h1=> QaA.1 (Qtc h.2 h0 h1)⟩
theorem Qeo {s:Qaa} {all:List Row} (hs:Qav s=true) (h:QkK s all=true):all.length=s.lots.length/\∀r∈all,r.length=s.stock.length/\∀x∈r,0<=x/\x<=100000:=by
 simp only [QkK,YB,decide_eq_true_iff] at h;obtain ⟨hl,hg⟩:=h;refine ⟨hl,fun r hr=> ?_⟩;obtain ⟨i,h0,h1,rfl⟩:=Qpz hr;have hi:i < s.lots.length:=by omega
 obtain ⟨a,b⟩:=Qbz (Qtc hg h0 hi);have hlot:=(Qay hs).2 _ (QaF h0 hi);obtain ⟨c,d,_⟩:=Qcq hlot;refine ⟨a.trans c,fun x hx=> ?_⟩;obtain ⟨j,j0,j1,rfl⟩:=Qpz hx;have:=b j j0 j1;have:=d _ (QaF (l:=(s.lots.getD i.toNat default).goods) j0 (by omega));omega
theorem QnV {m:Int}:∀{l:List Int},(∀x∈l,0<=x/\x<=m)->0<=QeO l/\QeO l<=m * l.length
 | [],_=> by simp [QeO]
 | x::l,h=> by
   have h1:=h x (by simp);have h2:=QnV (l:=l) fun y hy=> h y (by simp [hy])
   have e:m * ((l.length:Int)+1)=m * l.length+m:=by rw [Int.mul_add,Int.mul_one]
   simp only [QeO,List.length_cons,Int.natCast_add,Int.natCast_one];omega
theorem Qar {s:Qaa} (h:Qav s=true):(1<=s.stock.length/\s.stock.length<=4)/\(∀x∈s.stock,0<=x/\x<=100000)/\s.use.length=s.stock.length/\∀u∈s.use,0<=u.lo/\u.lo<=u.hi/\u.hi<=1000:=by
 simp only [Qav,QcO,QbI,YB,decide_eq_true_iff,List.all_eq_true,QaA] at h;exact ⟨by omega,h.2.1,h.2.2.1,h.2.2.2.1⟩
def Qc7 (load:Int) (goods:List Row) (k:Int):Int:=QeO ((Qa2 load goods 0).map fun r=> r.getD k.toNat default)
def QsJ (s:Qaa) (load days:Int) (t:Qaf) (k:Int):Gd:=⟨s.stock.getD k.toNat default,t.uses.getD k.toNat default,Qc7 load t.goods k,Qb3 days t.gaps⟩
def QaD (s:Qaa) (load days:Int) (t:Qaf):List Gd:=(upI 0 s.stock.length).map (QsJ s load days t)
abbrev slG (xs:List Gd):Value:=slT xs.length (Qac QbU xs)
def Qp3 (s:Qaa) (load days:Int) (t:Qaf) (i:Int):List Gd:=QgV (QsJ s load days t) ⟨0,0,0,[]⟩ (upI 0 s.stock.length) i
theorem QlM {s:Qaa} {load days:Int} {t:Qaf} {i:Int}:(Qp3 s load days t i).length=s.stock.length:=by
 unfold Qp3;rw [QdO,Qdm];omega
theorem Q58 {s:Qaa} {load days:Int} {t:Qaf}:List.replicate s.stock.length (⟨0,0,0,[]⟩:Gd)=Qp3 s load days t 0:=by
 unfold Qp3;rw [<-Qg0,Qdm];rfl
theorem Q0V {s:Qaa} {load days:Int} {t:Qaf} {i:Int} (h0:0<=i) (h:i < s.stock.length):(Qp3 s load days t i).set i.toNat (QsJ s load days t i)=Qp3 s load days t (i+1):=by
 have:=QdH (f:=QsJ s load days t) (x0:=⟨0,0,0,[]⟩) (xs:=upI 0 s.stock.length) (i:=i) h0 (by rw [Qdm];omega);rw [Qja h0 h] at this;exact this
theorem Qyh {s:Qaa} {load days:Int} {t:Qaf} {i:Int} (h:s.stock.length<=i):Qp3 s load days t i=QaD s load days t:=QdS (by rw [Qdm];omega)
theorem Qzz {s:Qaa} {load days:Int} {t:Qaf} (hs:Qav s=true) (ht:Qbn s days t=true) (hd:0<=days/\days<=300) (h0:0<=load) (h1:load < 64) (hx:Qcz load<=s.lots.length):∀g∈QaD s load days t,gdB g:=by
 intro g hg;obtain ⟨k,hk,rfl⟩:=List.mem_map.1 hg;obtain ⟨i,i0,i1,rfl⟩:=Qpz hk;rw [Qdm] at i1;rw [Qja i0 (by omega)];simp only [Qbn,YB] at ht;obtain ⟨⟨hl1,hl2⟩,hst,hul,hu⟩:=Qar hs;obtain ⟨a,b⟩:=Qbz ht.1;obtain ⟨rl,rr⟩:=Qeo hs ht.2.2;have f1:=hst _ (QaF (l:=s.stock) i0 (by omega));have f2:=hu _ (QaF (l:=s.use) i0 (by omega));have f3:=b i i0 (by omega);have f4:∀x∈(Qa2 load t.goods 0).map (fun r=> r.getD i.toNat default),0<=x/\x<=100000:=fun x hx'=> by
  obtain ⟨r,hr,rfl⟩:=List.mem_map.1 hx';obtain ⟨q1,q2⟩:=rr r (Qdi (Int.le_refl _) (by omega) r hr);exact q2 _ (QaF i0 (by omega))
 have f5:=QnV f4;have f6:=Qj5 (s:=load) (n:=0) (xs:=t.goods) (Int.le_refl _);have f7:=QfM h0 h1;rw [List.length_map] at f5;have f8:(Qb3 days t.gaps).length=days.toNat:=by unfold Qb3;rw [Qgc,List.length_replicate]
 unfold gdB QsJ;simp only [Qc7];refine ⟨by omega,by omega,by omega,by omega,by omega,by omega,by omega⟩
def QgY (s:Qaa) (load days:Int) (t:Qaf) (i:Int) (ys:List Gd):List Value:=[pA 2 0,pA 3 0,Qa0 1 (slT (List.length (Qb3 days t.gaps)) (Qac Qel (Qb3 days t.gaps))),Qa0 1 (slT (List.length (Qa2 load t.goods 0)) (Qac Qaw (Qa2 load t.goods 0))),.slice (some {block:=4,off:=0}) s.stock.length 4,.int .i64 (↑s.stock.length:Int),.int .i64 i]
def Qe8 (s:Qaa) (load days:Int) (t:Qaf) (i:Int) (ys:List Gd):List Obj:=[Obj.cells #[Qa0 1 (slT s.stock.length (Qac Qat s.stock)),Qa0 1 (slT s.use.length (Qac Qa9 s.use)),.int .i64 s.glo,.int .i64 s.ghi,Qa0 1 (slT s.lots.length (Qac Qan s.lots)),.int .i64 s.hold,.int .i64 load,.int .i64 days] 122,Obj.cells #[Qa0 1 (slT t.uses.length (Qac Qat t.uses)),Qa0 1 (slT t.gaps.length (Qac Qat t.gaps)),Qa0 1 (slT t.goods.length (Qac Qaw t.goods))] 65,.cells (Qac (QaB 1 QbU) ys) 129 (0,0)]
def Qh0:List Item:=([.code [1,1,1,1,0,1,0,0],.inLoop [1,1,1,1,0,1,0,0],.inBlock 0,.code [1,1,1,1,1]]).map (it (Qaq YP 84))
def QxM (B:Lo) (c0:CF) (s:Qaa) (load days:Int) (t:Qaf) (i:Int) (ys:List Gd):Prop:=∃dJ:Nat->Value,(∀t,Qbd (dJ t))/\GoE YP B c0 H00 1 (Qa8 84 52 (([2,3,5,6,7,25,26]:List Nat).zip (QgY s load days t i ys)) dJ Qh0) (Qa6 (Qe8 s load days t i ys)) (2+(Qe8 s load days t i ys).length) []
def Qdx (s:Qaa) (load days:Int) (t:Qaf) (i:Int) (ys:List Gd) (dJ0:Nat->Value):Qau:=[(5,Obj.cells #[.int .i64 i] 3),(0,Obj.coro none),(1,Obj.coro none),(2,Obj.cells #[Qa0 1 (slT s.stock.length (Qac Qat s.stock)),Qa0 1 (slT s.use.length (Qac Qa9 s.use)),.int .i64 s.glo,.int .i64 s.ghi,Qa0 1 (slT s.lots.length (Qac Qan s.lots)),.int .i64 s.hold,.int .i64 load,.int .i64 days] 122),(3,Obj.cells #[Qa0 1 (slT t.uses.length (Qac Qat t.uses)),Qa0 1 (slT t.gaps.length (Qac Qat t.gaps)),Qa0 1 (slT t.goods.length (Qac Qaw t.goods))] 65),(4,Obj.cells (Qac (QaB 1 QbU) ys) 129)]
def Qgj (s:Qaa) (load days:Int) (t:Qaf) (i:Int) (ys:List Gd) (dJ0:Nat->Value):CF:=⟨122,ofList 26 [Qa0 1 (slT (List.length (Qa2 load t.goods 0)) (Qac Qaw (Qa2 load t.goods 0))),Value.func (Fn.func 123) #[] #[pA 5 0]],[Item.code (Qaq YP 122)],[],.run,none⟩
def Qe6 (s:Qaa) (load days:Int) (t:Qaf) (i:Int) (ys:List Gd) (dJ0:Nat->Value) (j:Int) (zs:List Int):List Value:=[Value.func (Fn.func 123) #[] #[pA 5 0],.slice (some {block:=7,off:=0}) (List.length (Qa2 load t.goods 0)) 1,Qa0 1 (slT (List.length (Qa2 load t.goods 0)) (Qac Qaw (Qa2 load t.goods 0))),.int .i64 (↑(List.length (Qa2 load t.goods 0)):Int),.int .i64 j]
def QeA (s:Qaa) (load days:Int) (t:Qaf) (i:Int) (ys:List Gd) (dJ0:Nat->Value) (j:Int) (zs:List Int):List Obj:=[]
def Qc1 (s:Qaa) (load days:Int) (t:Qaf) (i:Int) (ys:List Gd) (dJ0:Nat->Value) (j:Int) (zs:List Int):List Obj:=[.cells (Qac Qat zs) 3 (0,0)]
def QeH:List Item:=([.code [1,1,0,1,0,0],.inLoop [1,1,0,1,0,0],.inBlock 0,.code [1,1,1]]).map (it (Qaq YP 122))
def Qh1 (s:Qaa) (load days:Int) (t:Qaf) (i:Int) (ys:List Gd) (dJ0:Nat->Value) (j:Int) (zs:List Int) (dJ1:Nat->Value):Qau:=[(6,Obj.coro none),(7,Obj.cells (Qac Qat zs) 3),(5,Obj.cells #[.int .i64 i] 3),(0,Obj.coro none),(1,Obj.coro none),(2,Obj.cells #[Qa0 1 (slT s.stock.length (Qac Qat s.stock)),Qa0 1 (slT s.use.length (Qac Qa9 s.use)),.int .i64 s.glo,.int .i64 s.ghi,Qa0 1 (slT s.lots.length (Qac Qan s.lots)),.int .i64 s.hold,.int .i64 load,.int .i64 days] 122),(3,Obj.cells #[Qa0 1 (slT t.uses.length (Qac Qat t.uses)),Qa0 1 (slT t.gaps.length (Qac Qat t.gaps)),Qa0 1 (slT t.goods.length (Qac Qaw t.goods))] 65),(4,Obj.cells (Qac (QaB 1 QbU) ys) 129)]
def Qj7 (s:Qaa) (load days:Int) (t:Qaf) (i:Int) (ys:List Gd) (dJ0:Nat->Value) (j:Int) (zs:List Int) (dJ1:Nat->Value):CF:=⟨123,ofList 8 [Qa0 1 (slT (List.length (List.getD (Qa2 load t.goods 0) j.toNat default)) (Qac Qat (List.getD (Qa2 load t.goods 0) j.toNat default))),pA 5 0],[Item.code (Qaq YP 123)],[],.run,none⟩
def Qga (days:Int) (t:Qaf):Value:=(slT (List.length (Qb3 days t.gaps)) (Qac Qel (Qb3 days t.gaps)))
theorem Qya (B:Lo) (s:Qaa) (load days:Int) (t:Qaf) (i:Int) (ys:List Gd) (dJ0:Nat->Value) (j:Int) (zs:List Int) (dJ1:Nat->Value):CE.finK 8 (Qal YP (Qa1 YP) J0 B 6 8 (Qj7 s load days t i ys dJ0 j zs dJ1) (Qh1 s load days t i ys dJ0 j zs dJ1) 8
 [(3,Qai.tidx i.toNat #[.int .i64 (List.getD (List.getD (Qa2 load t.goods 0) j.toNat default) i.toNat default)])] 0 [] []) [] [] []=some (OO.ret (.int .i64 (List.getD (List.getD (Qa2 load t.goods 0) j.toNat default) i.toNat default)),[],[],
 [i=(↑i.toNat:Int)/\Int.toNat i < List.length (List.getD (Qa2 load t.goods 0) j.toNat default)/\Array.extract (Qac Qat (List.getD (Qa2 load t.goods 0) j.toNat default)) (Int.toNat i * TypeInfo.size Tryz.t3) (Int.toNat i * TypeInfo.size Tryz.t3+TypeInfo.size Tryz.t3)=#[.int .i64 (List.getD (List.getD (Qa2 load t.goods 0) j.toNat default) i.toNat default)]]):=by kernel_rfl
theorem Qyf (B:Lo) (s:Qaa) (load days:Int) (t:Qaf) (i:Int) (ys:List Gd) (dJ0:Nat->Value) (j:Int) (zs:List Int) (dJ1:Nat->Value):CE.landA 6 (Qal YP (Qa1 YP) J0 B 13 6 (Qco (none) 122 26 (([1,5,11,12,13]:List Nat).zip (Qe6 s load days t i ys dJ0 j zs)) dJ1 QeH) (QbC (Qdx s load days t i ys dJ0) 6 (([]:List Nat).zip (QeA s load days t i ys dJ0 j zs)) (Qc1 s load days t i ys dJ0 j zs)) (6+1+(Qc1 s load days t i ys dJ0 j zs).length)
 [(0,hvT),(2,Qai.tidx j.toNat #[slT (List.length (List.getD (Qa2 load t.goods 0) j.toNat default)) (Qac Qat (List.getD (Qa2 load t.goods 0) j.toNat default))]),(10,Qai.call (List.range 8) (OO.ret (.int .i64 (List.getD (List.getD (Qa2 load t.goods 0) j.toNat default) i.toNat default))) ([]++(8,Qb2)::QaP 9 []) 9 []),(11,Qai.old (Hint.idx j.toNat)),(12,Qai.old (Hint.st (Qac Qat (List.set zs j.toNat (List.getD (List.getD (Qa2 load t.goods 0) j.toNat default) i.toNat default))))),(13,hvI (j+1))] 0 [] []) [1,5,11,12,13] [] [(7,KS.cells [] (Qac Qat (List.set zs j.toNat (List.getD (List.getD (Qa2 load t.goods 0) j.toNat default) i.toNat default))))] []=some ⟨122,26,QeH,[],.run,none,Qe6 s load days t i ys dJ0 (j+1) (List.set zs j.toNat (List.getD (List.getD (Qa2 load t.goods 0) j.toNat default) i.toNat default)),([]:List Nat).zip (QeA s load days t i ys dJ0 (j+1) (List.set zs j.toNat (List.getD (List.getD (Qa2 load t.goods 0) j.toNat default) i.toNat default))),Qc1 s load days t i ys dJ0 (j+1) (List.set zs j.toNat (List.getD (List.getD (Qa2 load t.goods 0) j.toNat default) i.toNat default)),
 [Qbk 6 [] (Qac Qat (List.set zs j.toNat (List.getD (List.getD (Qa2 load t.goods 0) j.toNat default) i.toNat default))) (Qac Qat (List.set zs j.toNat (List.getD (List.getD (Qa2 load t.goods 0) j.toNat default) i.toNat default))),wq (j+1)=j+1,0+Int.toNat j * 1+TypeInfo.size Tryz.t3<=Array.size (Qac Qat zs)/\splice (Qac Qat zs) (0+Int.toNat j * 1) (Value.cells (Qch {len:=16000,tr:=Tri.set 14 (Tri.set 14 Tri.lf 22 (.int .i64 (List.getD (List.getD (Qa2 load t.goods 0) j.toNat default) i.toNat default))) 23 (.pointer (some {block:=7,off:=0+Int.toNat j * 1}))} 22))=Qac Qat (List.set zs j.toNat (List.getD (List.getD (Qa2 load t.goods 0) j.toNat default) i.toNat default)),j=(↑j.toNat:Int)/\Int.toNat j < List.length (Qa2 load t.goods 0),FJ YP B (Qj7 s load days t i ys dJ0 j zs dJ1) (Qh1 s load days t i ys dJ0 j zs dJ1) 8 (OO.ret (.int .i64 (List.getD (List.getD (Qa2 load t.goods 0) j.toNat default) i.toNat default))) (([]++((8,Qb2)::QaP (8+1) []))++Qh1 s load days t i ys dJ0 j zs dJ1) 9 (List.range 8) [],j=(↑j.toNat:Int)/\Int.toNat j < List.length (Qa2 load t.goods 0)/\Array.extract (Qac Qaw (Qa2 load t.goods 0)) (Int.toNat j * TypeInfo.size Tryz.t22) (Int.toNat j * TypeInfo.size Tryz.t22+TypeInfo.size Tryz.t22)=#[slT (List.length (List.getD (Qa2 load t.goods 0) j.toNat default)) (Qac Qat (List.getD (Qa2 load t.goods 0) j.toNat default))],ltq j (↑(List.length (Qa2 load t.goods 0)):Int)=true]⟩:=by kernel_rfl
theorem Q04 (B:Lo) (s:Qaa) (load days:Int) (t:Qaf) (i:Int) (ys:List Gd) (dJ0:Nat->Value) (j:Int) (zs:List Int) (dJ1:Nat->Value):CE.finK 6 (Qal YP (Qa1 YP) J0 B 9 6 (Qco (none) 122 26 (([1,5,11,12,13]:List Nat).zip (Qe6 s load days t i ys dJ0 j zs)) dJ1 QeH) (QbC (Qdx s load days t i ys dJ0) 6 (([]:List Nat).zip (QeA s load days t i ys dJ0 j zs)) (Qc1 s load days t i ys dJ0 j zs)) (6+1+(Qc1 s load days t i ys dJ0 j zs).length)
 [(0,hvF)] 0 [] []) [] [] [{k:=7,rs:=[],cs:=Qac Qat zs}]=some (OO.ret (Qa0 6 (slT (List.length (Qa2 load t.goods 0)) (Fz.cs {k:=7,rs:=[],cs:=Qac Qat zs}))),[],[],
 [Qb6 (Fz.rs {k:=7,rs:=[],cs:=Qac Qat zs}) (Qac Qat zs) (Fz.cs {k:=7,rs:=[],cs:=Qac Qat zs}),ltq j (↑(List.length (Qa2 load t.goods 0)):Int)=false]):=by kernel_rfl
set_option maxHeartbeats 4000000 in
theorem QqH (s:Qaa) (load days:Int) (t:Qaf) (i:Int) (ys:List Gd) (dJ0:Nat->Value) (hs:Qav s=true) (ht:Qbn s days t=true) (hd:0<=days/\days<=300) (h0:0<=load) (h1:load < 64) (hx:Qcz load<=s.lots.length) (i0:0<=i) (hy:ys=Qp3 s load days t i) (hdJ0:∀t,Qbd (dJ0 t)) (q0:(i:Int) < ((↑s.stock.length:Int))) {B:Lo} (hJ:∀w,B.has w->J0 w):∀m:Nat,(∀(j:Int) (zs:List Int),(Qa2 load t.goods 0).length - j.toNat=m->∀(j0:0<=j) (hz:zs=QgV (fun (r:Row)=> r.getD i.toNat default) 0 (Qa2 load t.goods 0) j),(∃dJ1:Nat->Value,(∀t,Qbd (dJ1 t))/\GoE YP B (Qgj s load days t i ys dJ0) (Qdx s load days t i ys dJ0) 6 (Qco (none) 122 26 (([1,5,11,12,13]:List Nat).zip (Qe6 s load days t i ys dJ0 j zs)) dJ1 QeH) (QbC (Qdx s load days t i ys dJ0) 6 (([]:List Nat).zip (QeA s load days t i ys dJ0 j zs)) (Qc1 s load days t i ys dJ0 j zs)) (6+1+(Qc1 s load days t i ys dJ0 j zs).length) ([]:List Nat))->FinK YP B (Qgj s load days t i ys dJ0) (Qdx s load days t i ys dJ0) 6 (.ret (Qa0 6 (slI ((Qa2 load t.goods 0).map fun r=> r.getD i.toNat default)))) (([]:List Nat).zip ([])) ([]) ([]:List Nat)):=by
 intro m1;induction m1 using Nat.strongRecOn with
 | _ m1 ih1=>
   intro j zs hm1 j0 hz ⟨dJ1,hdJ1,hg1⟩;have ht':=ht;simp only [Qbn,QjB,YB,decide_eq_true_iff,List.all_eq_true,QaA] at ht';have hgp:=Qa5 hs;have hst:=Qar hs;have hrows:=Qeo hs ht'.2.2;have hus:=(Qbz ht'.1).1;have hgg:∀x∈t.gaps,0<=x/\x<=60:=fun x h=> by have:=ht'.2.1.2.1 x h;omega
   have hgl:t.gaps.length<=300:=ht'.2.1.1;have hpx:Qcz load<=t.goods.length:=by omega
   have hpl:=Qj5 (s:=load) (n:=0) (xs:=t.goods) (Int.le_refl _);have hl6:=QfM h0 h1;have hyl:ys.length=s.stock.length:=by rw [hy];exact QlM
   have hzl:zs.length=(Qa2 load t.goods 0).length:=by rw [hz];exact QdO
   have hyl:ys.length=s.stock.length:=by rw [hy];exact QlM
   have hri:∀r∈Qa2 load t.goods 0,i < r.length:=fun r h=> by have:=(hrows.2 r (Qdi (Int.le_refl _) hpx r h)).1;omega
   by_cases q1:(j:Int) < ((↑(List.length (Qa2 load t.goods 0)):Int))
   ·have rj1:FJ YP B (Qj7 s load days t i ys dJ0 j zs dJ1) (Qh1 s load days t i ys dJ0 j zs dJ1) 8 (OO.ret (.int .i64 (List.getD (List.getD (Qa2 load t.goods 0) j.toNat default) i.toNat default))) (([]++((8,Qb2)::QaP (8+1) []))++Qh1 s load days t i ys dJ0 j zs dJ1) 9 (List.range 8) []:=by
     have hri:∀r∈Qa2 load t.goods 0,i < r.length:=fun r h=> by have:=(hrows.2 r (Qdi (Int.le_refl _) hpx r h)).1;omega
     have hrx:∀x∈(Qa2 load t.goods 0).map (fun r=> r.getD i.toNat default),-1000000000<=x/\x<=1000000000:=fun x h=> by obtain ⟨r,hr,rfl⟩:=List.mem_map.1 h;obtain ⟨a,b⟩:=hrows.2 r (Qdi (Int.le_refl _) hpx r hr);have:=b _ (QaF (l:=r) i0 (by omega));omega
     have hrl:((Qa2 load t.goods 0).map (fun r=> r.getD i.toNat default)).length<=1000:=by rw [List.length_map];omega
     have hrj:=hri _ (QaF j0 (by assumption));exact FinK.fjB (GoE.finK okF hJ Qab (Qap (by kernel_rfl)) (Qak (by kernel_rfl)) ((GoE.refl (P:=YP) (B:=B) (c0:=Qj7 s load days t i ys dJ0 j zs dJ1) (Qap (by kernel_rfl))).widen (Wf:=((([]):List (Nat×KS)).map (·.1))) (by simp) (Qak (by kernel_rfl))) (Qya B s load days t i ys dJ0 j zs dJ1)
      ⟨⟨by omega,by omega,(Qag (z:=1) (fun _=> rfl) (by omega))⟩,trivial⟩) (ex:=[7,4]) (by kernel_rfl) ⟨trivial,⟨(Qu6 (t:=3) (fl:=(0,0)) (fun x=> List.all_eq_true.1 (by rfl))),⟨trivial,⟨trivial,⟨trivial,⟨trivial,⟨trivial,⟨(Qfb (t:=129) (fl:=(0,0)) (Qbc (fun _=> rfl)) (by decide)),trivial⟩⟩⟩⟩⟩⟩⟩⟩
    have hri:∀r∈Qa2 load t.goods 0,i < r.length:=fun r h=> by have:=(hrows.2 r (Qdi (Int.le_refl _) hpx r h)).1;omega
    have hrx:∀x∈(Qa2 load t.goods 0).map (fun r=> r.getD i.toNat default),-1000000000<=x/\x<=1000000000:=fun x h=> by obtain ⟨r,hr,rfl⟩:=List.mem_map.1 h;obtain ⟨a,b⟩:=hrows.2 r (Qdi (Int.le_refl _) hpx r hr);have:=b _ (QaF (l:=r) i0 (by omega));omega
    have hrl:((Qa2 load t.goods 0).map (fun r=> r.getD i.toNat default)).length<=1000:=by rw [List.length_map];omega
    have hrj:=hri _ (QaF j0 (by assumption));exact ((ih1 _ (by omega)) (j+1) (List.set zs j.toNat (List.getD (List.getD (Qa2 load t.goods 0) j.toNat default) i.toNat default)) rfl (by omega) (by (subst hz;exact QdH (f:=fun (r:Row)=> r.getD i.toNat default) j0 q1))
     (GoE.landA okF hJ Qab (Qap (by kernel_rfl)) (Qak (by kernel_rfl)) hg1 (Qyf B s load days t i ys dJ0 j zs dJ1)
     ⟨(Qax (Qa7 (fun x=> List.all_eq_true.1 (by rfl)))),⟨(QaQ (by omega) (by omega)),⟨(by exact QgL (z:=1) (fun _=> rfl) (by omega) rfl rfl),⟨⟨by omega,by omega⟩,⟨rj1,⟨⟨by omega,by omega,(Qag (z:=1) (fun _=> rfl) (by omega))⟩,⟨(Qbe q1),trivial⟩⟩⟩⟩⟩⟩⟩ (by kernel_rfl) (by kernel_rfl) (fun l hl=> by cases hl <;> decide))).cast (by rfl) (by rfl) (by rfl)
   ·have hri:∀r∈Qa2 load t.goods 0,i < r.length:=fun r h=> by have:=(hrows.2 r (Qdi (Int.le_refl _) hpx r h)).1;omega
    have hrx:∀x∈(Qa2 load t.goods 0).map (fun r=> r.getD i.toNat default),-1000000000<=x/\x<=1000000000:=fun x h=> by obtain ⟨r,hr,rfl⟩:=List.mem_map.1 h;obtain ⟨a,b⟩:=hrows.2 r (Qdi (Int.le_refl _) hpx r hr);have:=b _ (QaF (l:=r) i0 (by omega));omega
    have hrl:((Qa2 load t.goods 0).map (fun r=> r.getD i.toNat default)).length<=1000:=by rw [List.length_map];omega
    exact (GoE.finK okF hJ Qab (Qap (by kernel_rfl)) (Qak (by kernel_rfl)) hg1 (Q04 B s load days t i ys dJ0 j zs dJ1)
     ⟨(Qba (fun x=> List.all_eq_true.1 (by rfl))),⟨(Qbj (Int.not_lt.1 q1)),trivial⟩⟩).cast (by exact congrArg (fun v=> OO.ret (Qa0 6 v)) (QfN (hz.trans (QdS (by omega))) (by simp))) (by rfl) (by rfl)

theorem Q1i (B:Lo) (s:Qaa) (load days:Int) (t:Qaf) (i:Int) (ys:List Gd) (dJ0:Nat->Value):CE.landA 6 (Qal YP (Qa1 YP) J0 B 9 6 (Qgj s load days t i ys dJ0) (Qdx s load days t i ys dJ0) 6
 [(3,Qai.old (Hint.mk (List.length (Qa2 load t.goods 0)) (Qac (QbO [.int .i64 0]) (List.replicate (List.length (Qa2 load t.goods 0)) ()))))] 0 [] []) [1,5,11,12,13] [] [(6,KS.rows [] [] (Qac Qat (List.replicate (List.length (Qa2 load t.goods 0)) 0)))] []=some ⟨122,26,QeH,[],.run,none,Qe6 s load days t i ys dJ0 (0) (List.replicate (List.length (Qa2 load t.goods 0)) 0),([]:List Nat).zip (QeA s load days t i ys dJ0 (0) (List.replicate (List.length (Qa2 load t.goods 0)) 0)),Qc1 s load days t i ys dJ0 (0) (List.replicate (List.length (Qa2 load t.goods 0)) 0),
 [Qbg 6 [] [] (Qac (QbO [.int .i64 0]) (List.replicate (List.length (Qa2 load t.goods 0)) ())) (Qac Qat (List.replicate (List.length (Qa2 load t.goods 0)) 0)),Qg4 YP 22 (Qch {len:=16000,tr:=Tri.set 14 Tri.lf 9 (.int .i64 (↑(List.length (Qa2 load t.goods 0)):Int))} 9) (Qch {len:=16000,tr:=Tri.set 14 Tri.lf 9 (.int .i64 (↑(List.length (Qa2 load t.goods 0)):Int))} 9)=some (3,Qac (QbO [.int .i64 0]) (List.replicate (List.length (Qa2 load t.goods 0)) ()),List.length (Qa2 load t.goods 0),TypeInfo.size Tryz.t3)]⟩:=by kernel_rfl
theorem QzM (B:Lo) (s:Qaa) (load days:Int) (t:Qaf) (i:Int) (ys:List Gd) (dJ0:Nat->Value):landM (Qal YP (Qa1 YP) J0 B 15 1 (Qa8 84 52 (([2,3,5,6,7,25,26]:List Nat).zip (QgY s load days t i ys)) dJ0 Qh0) (Qa6 (Qe8 s load days t i ys)) (2+(Qe8 s load days t i ys).length)
 [(0,hvT),(6,Qai.call (List.range 6) (OO.ret (Qa0 6 (slT (List.length (List.map (fun r=> r.getD i.toNat default) (Qa2 load t.goods 0))) (Qac Qat (List.map (fun r=> r.getD i.toNat default) (Qa2 load t.goods 0)))))) ([]++(6,Qb2)::QaP 7 []) 7 []),(14,Qai.tidx i.toNat #[.int .i64 (s.stock.getD i.toNat default)]),(19,Qai.tidx i.toNat #[.int .i64 (t.uses.getD i.toNat default)]),(22,Qai.pure (.int .i64 (QeO (List.map (fun r=> r.getD i.toNat default) (Qa2 load t.goods 0)))) []),(25,Qai.old (Hint.idx i.toNat)),(26,Qai.old (Hint.st (splice (Qac (QaB 1 QbU) ys) (0+Int.toNat i * 4) #[.int .i64 (s.stock.getD i.toNat default),.int .i64 (t.uses.getD i.toNat default),.int .i64 (QeO (List.map (fun r=> r.getD i.toNat default) (Qa2 load t.goods 0))),Qa0 1 (Qga days t)]))),(27,hvI (i+1))] 0 [] []) [2,3,5,6,7,25,26] [(2,KS.auto),(3,KS.auto),(4,KS.rows [(1,1)] [] (Qac (QaB 1 QbU) (List.set ys i.toNat {stock:=s.stock.getD i.toNat default,use:=t.uses.getD i.toNat default,br:=QeO (List.map (fun r=> r.getD i.toNat default) (Qa2 load t.goods 0)),ships:=Qb3 days t.gaps})))] []=some ⟨84,52,Qh0,[],.run,none,QgY s load days t (i+1) (List.set ys i.toNat {stock:=s.stock.getD i.toNat default,use:=t.uses.getD i.toNat default,br:=QeO (List.map (fun r=> r.getD i.toNat default) (Qa2 load t.goods 0)),ships:=Qb3 days t.gaps}),Qe8 s load days t (i+1) (List.set ys i.toNat {stock:=s.stock.getD i.toNat default,use:=t.uses.getD i.toNat default,br:=QeO (List.map (fun r=> r.getD i.toNat default) (Qa2 load t.goods 0)),ships:=Qb3 days t.gaps}),
 [Qbg 1 [(1,1)] [] (splice (Qac (QaB 1 QbU) ys) (0+Int.toNat i * 4) #[.int .i64 (s.stock.getD i.toNat default),.int .i64 (t.uses.getD i.toNat default),.int .i64 (QeO (List.map (fun r=> r.getD i.toNat default) (Qa2 load t.goods 0))),Qa0 1 (Qga days t)]) (Qac (QaB 1 QbU) (List.set ys i.toNat {stock:=s.stock.getD i.toNat default,use:=t.uses.getD i.toNat default,br:=QeO (List.map (fun r=> r.getD i.toNat default) (Qa2 load t.goods 0)),ships:=Qb3 days t.gaps})),wq (i+1)=i+1,0+Int.toNat i * 4+TypeInfo.size Tryz.t129<=Array.size (Qac (QaB 1 QbU) ys)/\splice (Qac (QaB 1 QbU) ys) (0+Int.toNat i * 4) (Value.cells (Qch {len:=16000,tr:=Tri.set 14 (Tri.set 14 Tri.lf 48 (.agg #[.int .i64 (s.stock.getD i.toNat default),.int .i64 (t.uses.getD i.toNat default),.int .i64 (QeO (List.map (fun r=> r.getD i.toNat default) (Qa2 load t.goods 0))),Qa0 1 (Qga days t)])) 49 (.pointer (some {block:=4,off:=0+Int.toNat i * 4}))} 48))=splice (Qac (QaB 1 QbU) ys) (0+Int.toNat i * 4) #[.int .i64 (s.stock.getD i.toNat default),.int .i64 (t.uses.getD i.toNat default),.int .i64 (QeO (List.map (fun r=> r.getD i.toNat default) (Qa2 load t.goods 0))),Qa0 1 (Qga days t)],i=(↑i.toNat:Int)/\Int.toNat i < List.length s.stock,Qa3 []/\Qam YP J0 124 #[slT (List.length (List.map (fun r=> r.getD i.toNat default) (Qa2 load t.goods 0))) (Qac Qat (List.map (fun r=> r.getD i.toNat default) (Qa2 load t.goods 0)))] (.int .i64 (QeO (List.map (fun r=> r.getD i.toNat default) (Qa2 load t.goods 0)))),i=(↑i.toNat:Int)/\Int.toNat i < List.length t.uses/\Array.extract (Qac Qat t.uses) (Int.toNat i * TypeInfo.size Tryz.t3) (Int.toNat i * TypeInfo.size Tryz.t3+TypeInfo.size Tryz.t3)=#[.int .i64 (t.uses.getD i.toNat default)],i=(↑i.toNat:Int)/\Int.toNat i < List.length s.stock/\Array.extract (Qac Qat s.stock) (Int.toNat i * TypeInfo.size Tryz.t3) (Int.toNat i * TypeInfo.size Tryz.t3+TypeInfo.size Tryz.t3)=#[.int .i64 (s.stock.getD i.toNat default)],FJ YP B (Qgj s load days t i ys dJ0) (Qdx s load days t i ys dJ0) 6 (OO.ret (Qa0 6 (slT (List.length (List.map (fun r=> r.getD i.toNat default) (Qa2 load t.goods 0))) (Qac Qat (List.map (fun r=> r.getD i.toNat default) (Qa2 load t.goods 0)))))) (([]++((6,Qb2)::QaP (6+1) []))++Qdx s load days t i ys dJ0) 7 (List.range 6) [],ltq i (↑s.stock.length:Int)=true]⟩:=by kernel_rfl
theorem Q0K (B:Lo) (s:Qaa) (load days:Int) (t:Qaf) (i:Int) (ys:List Gd) (dJ0:Nat->Value):QaU (Qal YP (Qa1 YP) J0 B 9 1 (Qa8 84 52 (([2,3,5,6,7,25,26]:List Nat).zip (QgY s load days t i ys)) dJ0 Qh0) (Qa6 (Qe8 s load days t i ys)) (2+(Qe8 s load days t i ys).length)
 [(0,hvF)] 0 [] []) [{k:=4,rs:=[1],cs:=Qac QbU ys}]=some (slT s.stock.length (Fz.cs {k:=4,rs:=[1],cs:=Qac QbU ys}),
 [Qb6 (Fz.rs {k:=4,rs:=[1],cs:=Qac QbU ys}) (Qac (QaB 1 QbU) ys) (Fz.cs {k:=4,rs:=[1],cs:=Qac QbU ys}),ltq i (↑s.stock.length:Int)=false]):=by kernel_rfl
theorem QzG (B:Lo) (s:Qaa) (load days:Int) (t:Qaf):landM (Qal YP (Qa1 YP) J0 B 13 1 (Qaj YP 84 52 (([.agg (QaE s load days).toArray,.agg (Qa4 t).toArray]).map (Qao 0 4))) H00 1
 [(6,Qai.pure (Qga days t) []),(12,Qai.pure (slT (List.length (Qa2 load t.goods 0)) (Qac Qaw (Qa2 load t.goods 0))) []),(18,Qai.old (Hint.mk s.stock.length (Qac (QbO [.int .i64 0,.int .i64 0,.int .i64 0,.slice none 0 0]) (List.replicate s.stock.length ()))))] 0 [] []) [2,3,5,6,7,25,26] [(1,KS.auto),(2,KS.auto),(5,KS.rows [] [] (Qac (QaB 1 QbU) (List.replicate s.stock.length {stock:=0,use:=0,br:=0,ships:=[]})))] []=some ⟨84,52,Qh0,[],.run,none,QgY s load days t (0) (List.replicate s.stock.length {stock:=0,use:=0,br:=0,ships:=[]}),Qe8 s load days t (0) (List.replicate s.stock.length {stock:=0,use:=0,br:=0,ships:=[]}),
 [Qbg 1 [] [] (Qac (QbO [.int .i64 0,.int .i64 0,.int .i64 0,.slice none 0 0]) (List.replicate s.stock.length ())) (Qac (QaB 1 QbU) (List.replicate s.stock.length {stock:=0,use:=0,br:=0,ships:=[]})),Qg4 YP 119 (Qch {len:=16000,tr:=Tri.set 14 Tri.lf 22 (.int .i64 (↑s.stock.length:Int))} 22) (Qch {len:=16000,tr:=Tri.set 14 Tri.lf 22 (.int .i64 (↑s.stock.length:Int))} 22)=some (129,Qac (QbO [.int .i64 0,.int .i64 0,.int .i64 0,.slice none 0 0]) (List.replicate s.stock.length ()),List.length s.stock,TypeInfo.size Tryz.t129),Qa3 []/\Qam YP J0 121 #[.int .i64 load,slT t.goods.length (Qac Qaw t.goods)] (slT (List.length (Qa2 load t.goods 0)) (Qac Qaw (Qa2 load t.goods 0))),Qa3 []/\Qam YP J0 120 #[.agg #[slT s.stock.length (Qac Qat s.stock),slT s.use.length (Qac Qa9 s.use),.int .i64 s.glo,.int .i64 s.ghi,slT s.lots.length (Qac Qan s.lots),.int .i64 s.hold,.int .i64 load,.int .i64 days],slT t.gaps.length (Qac Qat t.gaps)] (Qga days t)]⟩:=by kernel_rfl
set_option maxHeartbeats 4000000 in
theorem Qyr (s:Qaa) (load days:Int) (t:Qaf) (hs:Qav s=true) (ht:Qbn s days t=true) (hd:0<=days/\days<=300) (h0:0<=load) (h1:load < 64) (hx:Qcz load<=s.lots.length) {B:Lo} (hJ:∀w,B.has w->J0 w) {c0:CF}:∀m:Nat,(∀(i:Int) (ys:List Gd),s.stock.length - i.toNat=m->∀(i0:0<=i) (hy:ys=Qp3 s load days t i),QxM B c0 s load days t i ys->EndsT YP B c0 (slG (QaD s load days t))):=by
 intro m0;induction m0 using Nat.strongRecOn with
 | _ m0 ih0=>
   intro i ys hm0 i0 hy ⟨dJ0,hdJ0,hg0⟩;have ht':=ht;simp only [Qbn,QjB,YB,decide_eq_true_iff,List.all_eq_true,QaA] at ht';have hgp:=Qa5 hs;have hst:=Qar hs;have hrows:=Qeo hs ht'.2.2;have hus:=(Qbz ht'.1).1;have hgg:∀x∈t.gaps,0<=x/\x<=60:=fun x h=> by have:=ht'.2.1.2.1 x h;omega
   have hgl:t.gaps.length<=300:=ht'.2.1.1;have hpx:Qcz load<=t.goods.length:=by omega
   have hpl:=Qj5 (s:=load) (n:=0) (xs:=t.goods) (Int.le_refl _);have hl6:=QfM h0 h1;have hyl:ys.length=s.stock.length:=by rw [hy];exact QlM
   by_cases q0:(i:Int) < ((↑s.stock.length:Int))
   ·have rj0:FJ YP B (Qgj s load days t i ys dJ0) (Qdx s load days t i ys dJ0) 6 (OO.ret (Qa0 6 (slT (List.length (List.map (fun r=> r.getD i.toNat default) (Qa2 load t.goods 0))) (Qac Qat (List.map (fun r=> r.getD i.toNat default) (Qa2 load t.goods 0)))))) (([]++((6,Qb2)::QaP (6+1) []))++Qdx s load days t i ys dJ0) 7 (List.range 6) []:=by
     have hri:∀r∈Qa2 load t.goods 0,i < r.length:=fun r h=> by have:=(hrows.2 r (Qdi (Int.le_refl _) hpx r h)).1;omega
     have hrx:∀x∈(Qa2 load t.goods 0).map (fun r=> r.getD i.toNat default),-1000000000<=x/\x<=1000000000:=fun x h=> by obtain ⟨r,hr,rfl⟩:=List.mem_map.1 h;obtain ⟨a,b⟩:=hrows.2 r (Qdi (Int.le_refl _) hpx r hr);have:=b _ (QaF (l:=r) i0 (by omega));omega
     have hrl:((Qa2 load t.goods 0).map (fun r=> r.getD i.toNat default)).length<=1000:=by rw [List.length_map];omega
     exact FinK.fjB ((QqH s load days t i ys dJ0 hs ht hd h0 h1 hx i0 hy hdJ0 q0 hJ _) (0) (List.replicate (List.length (Qa2 load t.goods 0)) 0) rfl (by omega) (by exact Qg0)
      (GoE.landA okF hJ Qab (Qap (by kernel_rfl)) (Qak (by kernel_rfl)) ((GoE.refl (P:=YP) (B:=B) (c0:=Qgj s load days t i ys dJ0) (Qap (by kernel_rfl))).widen (Wf:=((([]):List (Nat×KS)).map (·.1))) (by simp) (Qak (by kernel_rfl))) (Q1i B s load days t i ys dJ0)
      ⟨(by exact (QbV (by exact ⟨(.simple rfl),trivial⟩) _)),⟨(QgQ (bytes:=8) (by kernel_rfl) (by omega) (by omega) (by omega)),trivial⟩⟩ (by kernel_rfl) (by kernel_rfl) (fun l hl=> by cases hl <;> decide))) (ex:=[4]) (by kernel_rfl) ⟨trivial,⟨trivial,⟨trivial,⟨trivial,⟨trivial,⟨(Qfb (t:=129) (fl:=(0,0)) (Qbc (fun _=> rfl)) (by decide)),trivial⟩⟩⟩⟩⟩⟩
    have hri:∀r∈Qa2 load t.goods 0,i < r.length:=fun r h=> by have:=(hrows.2 r (Qdi (Int.le_refl _) hpx r h)).1;omega
    have hrx:∀x∈(Qa2 load t.goods 0).map (fun r=> r.getD i.toNat default),-1000000000<=x/\x<=1000000000:=fun x h=> by obtain ⟨r,hr,rfl⟩:=List.mem_map.1 h;obtain ⟨a,b⟩:=hrows.2 r (Qdi (Int.le_refl _) hpx r hr);have:=b _ (QaF (l:=r) i0 (by omega));omega
    have hrl:((Qa2 load t.goods 0).map (fun r=> r.getD i.toNat default)).length<=1000:=by rw [List.length_map];omega
    exact ((ih0 _ (by omega)) (i+1) (List.set ys i.toNat {stock:=s.stock.getD i.toNat default,use:=t.uses.getD i.toNat default,br:=QeO (List.map (fun r=> r.getD i.toNat default) (Qa2 load t.goods 0)),ships:=Qb3 days t.gaps}) rfl (by omega) (by (subst hy;exact Q0V i0 q0))
     (hg0.landM okF hJ Qab (QzM B s load days t i ys dJ0)
     (by exact ⟨(by exact (Qix (z:=4) (fun _=> rfl) (QaY (Qbc (fun _=> rfl)) (List.Mem.head _)) (by omega) (by exact ⟨(.simple rfl),⟨(.simple rfl),⟨(.simple rfl),⟨(.reg (List.Mem.head _) rfl),trivial⟩⟩⟩⟩))),⟨(QaQ (by omega) (by omega)),⟨⟨(by exact Q3J (z:=4) (fun _=> rfl) (by omega) rfl),rfl⟩,⟨⟨by omega,by omega⟩,⟨⟨trivial,Q7C (List.map (fun r=> r.getD i.toNat default) (Qa2 load t.goods 0)) (by with_reducible assumption) (by with_reducible assumption)⟩,⟨⟨by omega,by omega,(Qag (z:=1) (fun _=> rfl) (by omega))⟩,⟨⟨by omega,by omega,(Qag (z:=1) (fun _=> rfl) (by omega))⟩,⟨rj0,⟨(Qbe q0),trivial⟩⟩⟩⟩⟩⟩⟩⟩⟩) (by kernel_rfl) (by kernel_rfl))).cast (by rfl)
   ·have hrl:((Qa2 load t.goods 0).map (fun r=> r.getD i.toNat default)).length<=1000:=by rw [List.length_map];omega
    exact (GoE.endsT okF hJ Qab hg0 (Q0K B s load days t i ys dJ0)
     ⟨(Qdf (Qbc (fun _=> rfl)) (List.Mem.head _)),⟨(Qbj (Int.not_lt.1 q0)),trivial⟩⟩).cast (by exact QfN (hy.trans (Qyh (by omega))) (by simp [QaD,Qdm]))
set_option maxHeartbeats 4000000 in
theorem Q30 (s:Qaa) (load days:Int) (t:Qaf) (hs:Qav s=true) (ht:Qbn s days t=true) (hd:0<=days/\days<=300) (h0:0<=load) (h1:load < 64) (hx:Qcz load<=s.lots.length) {B:Lo} (hJ:∀w,B.has w->J0 w):EndsT YP B (Qaj YP 84 52 (([.agg (QaE s load days).toArray,.agg (Qa4 t).toArray]).map (Qao 0 4))) (slG (QaD s load days t)):=by
 have ht':=ht;simp only [Qbn,QjB,YB,decide_eq_true_iff,List.all_eq_true,QaA] at ht';have hgp:=Qa5 hs;have hst:=Qar hs;have hrows:=Qeo hs ht'.2.2;have hus:=(Qbz ht'.1).1;have hgg:∀x∈t.gaps,0<=x/\x<=60:=fun x h=> by have:=ht'.2.1.2.1 x h;omega
 have hgl:t.gaps.length<=300:=ht'.2.1.1;have hpx:Qcz load<=t.goods.length:=by omega
 have hpl:=Qj5 (s:=load) (n:=0) (xs:=t.goods) (Int.le_refl _);have hl6:=QfM h0 h1;exact ((Qyr s load days t hs ht hd h0 h1 hx hJ _) (0) (List.replicate s.stock.length {stock:=0,use:=0,br:=0,ships:=[]}) rfl (by omega) (by exact Q58)
  (GoE.start.landM okF hJ Qab (QzG B s load days t)
  (by exact ⟨(by exact (QbV (by exact ⟨(.simple rfl),⟨(.simple rfl),⟨(.simple rfl),⟨.nil,trivial⟩⟩⟩⟩) _)),⟨(QgQ (bytes:=48) (by kernel_rfl) (by omega) (by omega) (by omega)),⟨⟨trivial,Q5S (load) t.goods (by with_reducible assumption) (by with_reducible assumption) (by with_reducible assumption)⟩,⟨⟨trivial,Q6O (s) (load) (days) t.gaps (by with_reducible assumption) (by with_reducible assumption) (by with_reducible assumption)⟩,trivial⟩⟩⟩⟩) (by kernel_rfl) (by kernel_rfl))).cast (by rfl)
theorem Q4d (s:Qaa) (load days:Int) (t:Qaf) (hs:Qav s=true) (ht:Qbn s days t=true) (hd:0<=days/\days<=300) (h0:0<=load) (h1:load < 64) (hx:Qcz load<=s.lots.length):Qam YP J0 84 #[.agg (QaE s load days).toArray,.agg (Qa4 t).toArray] (slG (QaD s load days t)):=
 QaG (ts:=[.agg (QaE s load days).toArray,.agg (Qa4 t).toArray]) Qb1 (c0:=Qaj YP 84 52 (([.agg (QaE s load days).toArray,.agg (Qa4 t).toArray]).map (Qao 0 4))) (by kernel_rfl) (by kernel_rfl) fun B hJ=> Q30 s load days t hs ht hd h0 h1 hx hJ
end
end Go.Proofs.YtiabgkiccaodmaaGreat

namespace Go.Proofs.YtiabgkiccaodmaaGreat
open Go Go.CE Go.RowKit
set_option maxRecDepth 100000
def QaO (g:Gd):Int:=QaK g.use g.br g.ships 0 g.stock
def Q5X (g:Gd):Int:=QiW g.use g.br g.ships g.stock
theorem QcG {s:Qaa} {load:List Int} (hs:Qav s=true) (h:Qbl s load=true):(∀x∈load,0<=x/\x<=61)/\0<=QbL load 0/\QbL load 0 < 64/\Qcz (QbL load 0)<=s.lots.length:=by
 have hm:=Qay hs;simp only [Qbl,YB] at h;have g1:=Qki h.1 (Int.le_refl 0);have g3:=QjX (k:=s.lots.length) (by omega) load 0 g1 (Int.le_refl 0) (Int.pow_pos (by decide));refine ⟨fun x hx=> by have:=g1 x hx;omega,g3.1, ?_,Qmh g3.1 g3.2⟩;refine Int.lt_of_lt_of_le g3.2 ?_;have h1:(2:Nat) ^ s.lots.length<=2 ^ 6:=Nat.pow_le_pow_right (by decide) (by omega);have e:(2:Int) ^ s.lots.length=((2 ^ s.lots.length:Nat):Int):=by rw [Int.natCast_pow];rfl
 rw [e];omega
def Qhm (xs:List Gd) (i:Int) (ys:List Int):List Value:=[Value.func (Fn.func 125) #[] #[],.slice (some {block:=2,off:=0}) xs.length 1,Qa0 1 (slT xs.length (Qac QbU xs)),.int .i64 (↑xs.length:Int),.int .i64 i]
def QeC (xs:List Gd) (i:Int) (ys:List Int):List Obj:=[.cells (Qac Qat ys) 3 (0,0)]
noncomputable def Qh9:List Item:=([.code [1,1,0,1,0,0],.inLoop [1,1,0,1,0,0],.inBlock 0,.code [1,1,1]]).map (it (Qaq YP 86))
def Qzw (B:Lo) (c0:CF) (xs:List Gd) (i:Int) (ys:List Int):Prop:=∃dJ:Nat->Value,(∀t,Qbd (dJ t))/\GoE YP B c0 H00 1 (Qa8 86 26 (([1,5,11,12,13]:List Nat).zip (Qhm xs i ys)) dJ Qh9) (Qa6 (QeC xs i ys)) (2+(QeC xs i ys).length) []
noncomputable def Qmo (xs:List Gd) (i:Int):Array Value:=#[.int .i64 (Gd.stock (xs.getD i.toNat default)),.int .i64 (Gd.use (xs.getD i.toNat default)),.int .i64 (Gd.br (xs.getD i.toNat default)),slT (List.length (Gd.ships (xs.getD i.toNat default))) (Qac Qel (Gd.ships (xs.getD i.toNat default)))]
theorem Qyj (B:Lo) (xs:List Gd) (i:Int) (ys:List Int) (dJ0:Nat->Value):landM (Qal YP (Qa1 YP) J0 B 13 1 (Qa8 86 26 (([1,5,11,12,13]:List Nat).zip (Qhm xs i ys)) dJ0 Qh9) (Qa6 (QeC xs i ys)) (2+(QeC xs i ys).length)
 [(0,hvT),(2,Qai.tidx i.toNat (Qmo xs i)),(11,Qai.pure (.int .i64 (QaK (Gd.use (xs.getD i.toNat default)) (Gd.br (xs.getD i.toNat default)) (Gd.ships (xs.getD i.toNat default)) 0 (Gd.stock (xs.getD i.toNat default)))) []),(12,Qai.old (Hint.idx i.toNat)),(13,Qai.old (Hint.st (Qac Qat (List.set ys i.toNat (QaK (Gd.use (xs.getD i.toNat default)) (Gd.br (xs.getD i.toNat default)) (Gd.ships (xs.getD i.toNat default)) 0 (Gd.stock (xs.getD i.toNat default))))))),(14,hvI (i+1))] 0 [] []) [1,5,11,12,13] [(2,KS.cells [] (Qac Qat (List.set ys i.toNat (QaK (Gd.use (xs.getD i.toNat default)) (Gd.br (xs.getD i.toNat default)) (Gd.ships (xs.getD i.toNat default)) 0 (Gd.stock (xs.getD i.toNat default))))))] []=some ⟨86,26,Qh9,[],.run,none,Qhm xs (i+1) (List.set ys i.toNat (QaK (Gd.use (xs.getD i.toNat default)) (Gd.br (xs.getD i.toNat default)) (Gd.ships (xs.getD i.toNat default)) 0 (Gd.stock (xs.getD i.toNat default)))),QeC xs (i+1) (List.set ys i.toNat (QaK (Gd.use (xs.getD i.toNat default)) (Gd.br (xs.getD i.toNat default)) (Gd.ships (xs.getD i.toNat default)) 0 (Gd.stock (xs.getD i.toNat default)))),
 [Qbk 1 [] (Qac Qat (List.set ys i.toNat (QaK (Gd.use (xs.getD i.toNat default)) (Gd.br (xs.getD i.toNat default)) (Gd.ships (xs.getD i.toNat default)) 0 (Gd.stock (xs.getD i.toNat default))))) (Qac Qat (List.set ys i.toNat (QaK (Gd.use (xs.getD i.toNat default)) (Gd.br (xs.getD i.toNat default)) (Gd.ships (xs.getD i.toNat default)) 0 (Gd.stock (xs.getD i.toNat default))))),wq (i+1)=i+1,0+Int.toNat i * 1+TypeInfo.size Tryz.t3<=Array.size (Qac Qat ys)/\splice (Qac Qat ys) (0+Int.toNat i * 1) (Value.cells (Qch {len:=16000,tr:=Tri.set 14 (Tri.set 14 Tri.lf 22 (.int .i64 (QaK (Gd.use (xs.getD i.toNat default)) (Gd.br (xs.getD i.toNat default)) (Gd.ships (xs.getD i.toNat default)) 0 (Gd.stock (xs.getD i.toNat default))))) 23 (.pointer (some {block:=2,off:=0+Int.toNat i * 1}))} 22))=Qac Qat (List.set ys i.toNat (QaK (Gd.use (xs.getD i.toNat default)) (Gd.br (xs.getD i.toNat default)) (Gd.ships (xs.getD i.toNat default)) 0 (Gd.stock (xs.getD i.toNat default)))),i=(↑i.toNat:Int)/\Int.toNat i < List.length xs,Qa3 []/\Qam YP J0 125 #[.agg (Qmo xs i)] (.int .i64 (QaK (Gd.use (xs.getD i.toNat default)) (Gd.br (xs.getD i.toNat default)) (Gd.ships (xs.getD i.toNat default)) 0 (Gd.stock (xs.getD i.toNat default)))),i=(↑i.toNat:Int)/\Int.toNat i < List.length xs/\Array.extract (Qac QbU xs) (Int.toNat i * TypeInfo.size Tryz.t129) (Int.toNat i * TypeInfo.size Tryz.t129+TypeInfo.size Tryz.t129)=(Qmo xs i),ltq i (↑xs.length:Int)=true]⟩:=by kernel_rfl
theorem QzN (B:Lo) (xs:List Gd) (i:Int) (ys:List Int) (dJ0:Nat->Value):QaU (Qal YP (Qa1 YP) J0 B 9 1 (Qa8 86 26 (([1,5,11,12,13]:List Nat).zip (Qhm xs i ys)) dJ0 Qh9) (Qa6 (QeC xs i ys)) (2+(QeC xs i ys).length)
 [(0,hvF)] 0 [] []) [{k:=2,rs:=[],cs:=Qac Qat ys}]=some (slT xs.length (Fz.cs {k:=2,rs:=[],cs:=Qac Qat ys}),
 [Qb6 (Fz.rs {k:=2,rs:=[],cs:=Qac Qat ys}) (Qac Qat ys) (Fz.cs {k:=2,rs:=[],cs:=Qac Qat ys}),ltq i (↑xs.length:Int)=false]):=by kernel_rfl
theorem QyP (B:Lo) (xs:List Gd):landM (Qal YP (Qa1 YP) J0 B 9 1 (Qaj YP 86 26 (([slG xs,.func (.func 125) #[] #[]]).map (Qao 0 4))) H00 1
 [(3,Qai.old (Hint.mk xs.length (Qac (QbO [.int .i64 0]) (List.replicate xs.length ()))))] 0 [] []) [1,5,11,12,13] [(1,KS.rows [] [] (Qac Qat (List.replicate xs.length 0)))] []=some ⟨86,26,Qh9,[],.run,none,Qhm xs (0) (List.replicate xs.length 0),QeC xs (0) (List.replicate xs.length 0),
 [Qbg 1 [] [] (Qac (QbO [.int .i64 0]) (List.replicate xs.length ())) (Qac Qat (List.replicate xs.length 0)),Qg4 YP 22 (Qch {len:=16000,tr:=Tri.set 14 Tri.lf 9 (.int .i64 (↑xs.length:Int))} 9) (Qch {len:=16000,tr:=Tri.set 14 Tri.lf 9 (.int .i64 (↑xs.length:Int))} 9)=some (3,Qac (QbO [.int .i64 0]) (List.replicate xs.length ()),List.length xs,TypeInfo.size Tryz.t3)]⟩:=by kernel_rfl
set_option maxHeartbeats 4000000 in
theorem QzV (xs:List Gd) (hn:xs.length<=1000000) (hg:∀g∈xs,gdB g) {B:Lo} (hJ:∀w,B.has w->J0 w) {c0:CF}:∀m:Nat,(∀(i:Int) (ys:List Int),(xs.length - i.toNat)=m->∀(h0:0<=i) (hy:ys=QgV QaO 0 xs i),Qzw B c0 xs i ys->EndsT YP B c0 (slI (xs.map QaO))):=by
 intro m0;induction m0 using Nat.strongRecOn with
 | _ m0 ih0=>
   intro i ys hm0 h0 hy ⟨dJ0,hdJ0,hg0⟩;have hyl:ys.length=xs.length:=by rw [hy];exact QdO
   by_cases q0:(i:Int) < ((↑xs.length:Int))
   ·have hgi:=hg _ (QaF h0 q0);exact ((ih0 _ (by omega)) (i+1) (List.set ys i.toNat (QaK (Gd.use (xs.getD i.toNat default)) (Gd.br (xs.getD i.toNat default)) (Gd.ships (xs.getD i.toNat default)) 0 (Gd.stock (xs.getD i.toNat default)))) rfl (by omega) (by (subst hy;exact QdH (f:=QaO) h0 q0))
     (hg0.landM okF hJ Qab (Qyj B xs i ys dJ0)
     ⟨(Qax (Qa7 (fun x=> List.all_eq_true.1 (by rfl)))),⟨(QaQ (by omega) (by omega)),⟨(by exact QgL (z:=1) (fun _=> rfl) (by omega) rfl rfl),⟨⟨by omega,by omega⟩,⟨⟨trivial,Qsm (xs.getD i.toNat default) (by with_reducible assumption)⟩,⟨⟨by omega,by omega,(Qag (z:=4) (fun _=> rfl) (by omega))⟩,⟨(Qbe q0),trivial⟩⟩⟩⟩⟩⟩⟩ (by kernel_rfl) (by kernel_rfl))).cast (by rfl)
   ·exact (GoE.endsT okF hJ Qab hg0 (QzN B xs i ys dJ0)
     ⟨(Qba (fun x=> List.all_eq_true.1 (by rfl))),⟨(Qbj (Int.not_lt.1 q0)),trivial⟩⟩).cast (by exact QfN (hy.trans (QdS (by omega))) (by simp))
set_option maxHeartbeats 4000000 in
theorem Q15 (xs:List Gd) (hn:xs.length<=1000000) (hg:∀g∈xs,gdB g) {B:Lo} (hJ:∀w,B.has w->J0 w):EndsT YP B (Qaj YP 86 26 (([slG xs,.func (.func 125) #[] #[]]).map (Qao 0 4))) (slI (xs.map QaO)):=by
 exact ((QzV xs hn hg hJ _) (0) (List.replicate xs.length 0) rfl (by omega) (by exact Qg0)
  (GoE.start.landM okF hJ Qab (QyP B xs)
  ⟨(by exact (QbV (by exact ⟨(.simple rfl),trivial⟩) _)),⟨(QgQ (bytes:=8) (by kernel_rfl) (by omega) (by omega) (by omega)),trivial⟩⟩ (by kernel_rfl) (by kernel_rfl))).cast (by rfl)
theorem Q6K (xs:List Gd) (hn:xs.length<=1000000) (hg:∀g∈xs,gdB g):Qam YP J0 86 #[slG xs,.func (.func 125) #[] #[]] (slI (xs.map QaO)):=
 QaG (ts:=[slG xs,.func (.func 125) #[] #[]]) Qb1 (c0:=Qaj YP 86 26 (([slG xs,.func (.func 125) #[] #[]]).map (Qao 0 4))) (by kernel_rfl) (by kernel_rfl) fun B hJ=> Q15 xs hn hg hJ
theorem Qpc (B:Lo) (xs:List Gd):QaU (Qal YP (Qa1 YP) J0 B 6 1 (Qaj YP 85 5 (([slG xs]).map (Qao 0 4))) H00 1
 [(2,Qai.pure (slT (List.length (List.map QaO xs)) (Qac Qat (List.map QaO xs))) [])] 0 [] []) []=some (slT (List.length (List.map QaO xs)) (Qac Qat (List.map QaO xs)),
 [Qa3 []/\Qam YP J0 86 #[slT xs.length (Qac QbU xs),Value.func (Fn.func 125) #[] #[]] (slT (List.length (List.map QaO xs)) (Qac Qat (List.map QaO xs)))]):=by kernel_rfl
set_option maxHeartbeats 4000000 in
theorem QqI (xs:List Gd) (hn:xs.length<=1000000) (hg:∀g∈xs,gdB g) {B:Lo} (hJ:∀w,B.has w->J0 w):EndsT YP B (Qaj YP 85 5 (([slG xs]).map (Qao 0 4))) (slI (xs.map QaO)):=by
 exact (GoE.endsT okF hJ Qab GoE.start (Qpc B xs)
  ⟨⟨trivial,Q6K (xs) (by with_reducible assumption) (by with_reducible assumption)⟩,trivial⟩).cast (by rfl)
theorem Qoe (xs:List Gd) (hn:xs.length<=1000000) (hg:∀g∈xs,gdB g):Qam YP J0 85 #[slG xs] (slI (xs.map QaO)):=
 QaG (ts:=[slG xs]) Qb1 (c0:=Qaj YP 85 5 (([slG xs]).map (Qao 0 4))) (by kernel_rfl) (by kernel_rfl) fun B hJ=> QqI xs hn hg hJ
end Go.Proofs.YtiabgkiccaodmaaGreat

