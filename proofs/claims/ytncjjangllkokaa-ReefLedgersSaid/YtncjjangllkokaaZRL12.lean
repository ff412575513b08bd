/- Reef: counts, growth, and how spans are made. -/
import Derived.Test.YtncjjangllkokaaZRL11
set_option linter.all false
namespace Go.Proofs.Ytncjjangllkokaa
open Go Go.CE Go.RowKit
noncomputable section
set_option maxRecDepth 100000
def Qjr (miss n:Int):Int:=n+(n * miss).tdiv 1000
def Q3n (room f g:Int):Int:=if room<=f then 0 else if (f * g).tdiv 1000 < room - f then (f * g).tdiv 1000 else room - f
theorem QiA {a r:Int} (ha:0<=a/\a<=1000000000000) (hr:0<=r/\r<=2000):0<=a * r/\a * r<=2000000000000000/\0<=(a * r).tdiv 1000/\(a * r).tdiv 1000<=2000000000000:=by
 have e0:0<=a * r:=Int.mul_nonneg ha.1 hr.1;have e1:a * r<=1000000000000 * 2000:=Int.mul_le_mul ha.2 hr.2 hr.1 (by omega);have e2:(a * r).tdiv 1000=(a * r) / 1000:=Int.tdiv_eq_ediv_of_nonneg e0;omega
theorem Q2x (B:Lo) (r:Qae) (n:Int):Qbi (Qap YP (QaF YP) J0 B 6 1 (Qaq YP 60 12 (([.agg (Qar r).toArray,.int .i64 n]).map (Qa6 0 4))) H00 1
 [(6,hvI (n * r.miss)),(7,hvI (Int.tdiv (n * r.miss) 1000)),(8,hvI (n+Int.tdiv (n * r.miss) 1000))] 0 [] []) []=some (.int .i64 (n+Int.tdiv (n * r.miss) 1000),
 [wq (n+Int.tdiv (n * r.miss) 1000)=n+Int.tdiv (n * r.miss) 1000,IntKind.wrap .i64 (Int.tdiv (n * r.miss) 1000)=Int.tdiv (n * r.miss) 1000,wq (n * r.miss)=n * r.miss]):=by kernel_rfl
set_option maxHeartbeats 4000000 in
theorem Q4c (r:Qae) (n:Int) (hm:0<=r.miss/\r.miss<=2000) (hn:0<=n/\n<=1000000000000) {B:Lo} (hJ:∀w,B.has w->J0 w):EndsT YP B (Qaq YP 60 12 (([.agg (Qar r).toArray,.int .i64 n]).map (Qa6 0 4))) (.int .i64 (Qjr r.miss n)):=by
 have e0:=QiA hn hm;exact (GoE.endsT okF hJ Qac GoE.start (Q2x B r n)
  ⟨(Qbj (by omega) (by omega)),⟨(QkE (by omega) (by omega)),⟨(Qbj (by omega) (by omega)),trivial⟩⟩⟩).cast (by rfl)
theorem Q5O (r:Qae) (n:Int) (hm:0<=r.miss/\r.miss<=2000) (hn:0<=n/\n<=1000000000000):Qa3 YP J0 60 #[.agg (Qar r).toArray,.int .i64 n] (.int .i64 (Qjr r.miss n)):=
 Qbr (ts:=[.agg (Qar r).toArray,.int .i64 n]) Qco (c0:=Qaq YP 60 12 (([.agg (Qar r).toArray,.int .i64 n]).map (Qa6 0 4))) (by kernel_rfl) (by kernel_rfl) fun B hJ=> Q4c r n hm hn hJ
theorem Q0z (B:Lo) (x:Qaa)  :Qbi (Qap YP (QaF YP) J0 B 10 1 (Qaq YP 61 10 (([.agg (Qad x).toArray,.bool true]).map (Qa6 0 4))) H00 1
 [] 0 [] []) []=some (.agg #[.int .i64 x.slo,.int .i64 x.shi],
 []):=by kernel_rfl
theorem QyF (B:Lo) (x:Qaa)  :Qbi (Qap YP (QaF YP) J0 B 11 1 (Qaq YP 61 10 (([.agg (Qad x).toArray,.bool false]).map (Qa6 0 4))) H00 1
 [] 0 [] []) []=some (.agg #[.int .i64 x.olo,.int .i64 x.ohi],
 []):=by kernel_rfl
set_option maxHeartbeats 4000000 in
theorem Q1L (x:Qaa) (b:Bool)  {B:Lo} (hJ:∀w,B.has w->J0 w):EndsT YP B (Qaq YP 61 10 (([.agg (Qad x).toArray,.bool b]).map (Qa6 0 4))) (.agg #[.int .i64 (if b then x.slo else x.olo),.int .i64 (if b then x.shi else x.ohi)]):=by
 cases b with
 | true=>
   exact (GoE.endsT okF hJ Qac GoE.start (Q0z B x)
    trivial).cast (by rfl)
 | false=>
   exact (GoE.endsT okF hJ Qac GoE.start (QyF B x)
    trivial).cast (by rfl)
theorem Q2Z (x:Qaa) (b:Bool)  :Qa3 YP J0 61 #[.agg (Qad x).toArray,.bool b] (.agg #[.int .i64 (if b then x.slo else x.olo),.int .i64 (if b then x.shi else x.ohi)]):=
 Qbr (ts:=[.agg (Qad x).toArray,.bool b]) Qco (c0:=Qaq YP 61 10 (([.agg (Qad x).toArray,.bool b]).map (Qa6 0 4))) (by kernel_rfl) (by kernel_rfl) fun B hJ=> Q1L x b  hJ
theorem Qx7 (B:Lo) (n a b:Int):Qbi (Qap YP (QaF YP) J0 B 6 1 (Qaq YP 32 11 (([.int .i64 n,.agg #[.int .i64 a,.int .i64 b]]).map (Qa6 0 4))) H00 1
 [(7,Qan.pure (.bool true) [])] 0 [] []) []=some (.bool true,
 [QaA []/\Qa3 YP J0 55 #[.int .i64 n,.int .i64 a,.int .i64 b] (.bool true)]):=by kernel_rfl
theorem Qxd (B:Lo) (n a b:Int):Qbi (Qap YP (QaF YP) J0 B 6 1 (Qaq YP 32 11 (([.int .i64 n,.agg #[.int .i64 a,.int .i64 b]]).map (Qa6 0 4))) H00 1
 [(7,Qan.pure (.bool false) [])] 0 [] []) []=some (.bool false,
 [QaA []/\Qa3 YP J0 55 #[.int .i64 n,.int .i64 a,.int .i64 b] (.bool false)]):=by kernel_rfl
set_option maxHeartbeats 4000000 in
theorem Q05 (n a b:Int)  {B:Lo} (hJ:∀w,B.has w->J0 w):EndsT YP B (Qaq YP 32 11 (([.int .i64 n,.agg #[.int .i64 a,.int .i64 b]]).map (Qa6 0 4))) (.bool (inB n a b)):=by
 cases q0:inB n a b with
 | true=>
   exact (GoE.endsT okF hJ Qac GoE.start (Qx7 B n a b)
    ⟨⟨trivial,(by have t_:=rin (n) (a) (b);rw [q0] at t_;exact t_)⟩,trivial⟩).cast (by rfl)
 | false=>
   exact (GoE.endsT okF hJ Qac GoE.start (Qxd B n a b)
    ⟨⟨trivial,(by have t_:=rin (n) (a) (b);rw [q0] at t_;exact t_)⟩,trivial⟩).cast (by rfl)
theorem Qib (n a b:Int)  :Qa3 YP J0 32 #[.int .i64 n,.agg #[.int .i64 a,.int .i64 b]] (.bool (inB n a b)):=
 Qbr (ts:=[.int .i64 n,.agg #[.int .i64 a,.int .i64 b]]) Qco (c0:=Qaq YP 32 11 (([.int .i64 n,.agg #[.int .i64 a,.int .i64 b]]).map (Qa6 0 4))) (by kernel_rfl) (by kernel_rfl) fun B hJ=> Q05 n a b  hJ
def Qbf (x:Qaa):Span:=⟨x.glo,x.ghi⟩
def Qci (x:Qaa):Span:=⟨x.olo,x.ohi⟩
def Qbg (miss:Int) (x:Qaa):Span:=⟨x.count,Qjr miss x.count⟩
def Qf2 (xs:List Qaa) (i:Int) (ys:List Span):List Value:=[Value.func (Fn.func 104) #[] #[],.slice (some {block:=2,off:=0}) xs.length 2,Qa1 1 (slT xs.length (Qai Qad xs)),.int .i64 (↑xs.length:Int),.int .i64 i]
def Qd1 (xs:List Qaa) (i:Int) (ys:List Span):List Obj:=[.cells (Qai QaR ys) 38 (0,0)]
def Qfy:List Item:=([.code [1,1,0,1,0,0],.inLoop [1,1,0,1,0,0],.inBlock 0,.code [1,1,1]]).map (it (QaU YP 102))
def Q0J (B:Lo) (c0:CF) (xs:List Qaa) (i:Int) (ys:List Span):Prop:=∃dJ:Nat->Value,(∀t,QbB (dJ t))/\GoE YP B c0 H00 1 (QaL 102 26 (([1,5,11,12,13]:List Nat).zip (Qf2 xs i ys)) dJ Qfy) (QaG (Qd1 xs i ys)) (2+(Qd1 xs i ys).length) []
def Qfr (xs:List Qaa) (i:Int) (ys:List Span) (dJ0:Nat->Value):Qax:=[(3,Obj.cells #[.int .i64 (Qaa.count (xs.getD i.toNat default)),.int .i64 (Qaa.room (xs.getD i.toNat default)),.int .i64 (Qaa.glo (xs.getD i.toNat default)),.int .i64 (Qaa.ghi (xs.getD i.toNat default)),.int .i64 (Qaa.drift (xs.getD i.toNat default)),.int .i64 (Qaa.into (xs.getD i.toNat default)),.int .i64 (Qaa.olo (xs.getD i.toNat default)),.int .i64 (Qaa.ohi (xs.getD i.toNat default)),.int .i64 (Qaa.slo (xs.getD i.toNat default)),.int .i64 (Qaa.shi (xs.getD i.toNat default)),.int .i64 (Qaa.goal (xs.getD i.toNat default)),.int .i64 (Qaa.worth (xs.getD i.toNat default))] 54),(0,Obj.coro none),(1,Obj.coro none),(2,Obj.cells (Qai QaR ys) 38)]
def Qho (xs:List Qaa) (i:Int) (ys:List Span) (dJ0:Nat->Value):CF:=⟨104,ofList 5 [.agg #[.int .i64 (Qaa.count (xs.getD i.toNat default)),.int .i64 (Qaa.room (xs.getD i.toNat default)),.int .i64 (Qaa.glo (xs.getD i.toNat default)),.int .i64 (Qaa.ghi (xs.getD i.toNat default)),.int .i64 (Qaa.drift (xs.getD i.toNat default)),.int .i64 (Qaa.into (xs.getD i.toNat default)),.int .i64 (Qaa.olo (xs.getD i.toNat default)),.int .i64 (Qaa.ohi (xs.getD i.toNat default)),.int .i64 (Qaa.slo (xs.getD i.toNat default)),.int .i64 (Qaa.shi (xs.getD i.toNat default)),.int .i64 (Qaa.goal (xs.getD i.toNat default)),.int .i64 (Qaa.worth (xs.getD i.toNat default))]],[Item.code (QaU YP 104)],[],.run,none⟩
def Qk8 (xs:List Qaa) (i:Int):Value:=(.agg #[.int .i64 (Qaa.glo (xs.getD i.toNat default)),.int .i64 (Qaa.ghi (xs.getD i.toNat default))])
theorem Qz8 (B:Lo) (xs:List Qaa) (i:Int) (ys:List Span) (dJ0:Nat->Value):CE.finK 4 (Qap YP (QaF YP) J0 B 6 4 (Qho xs i ys dJ0) (Qfr xs i ys dJ0) 4
 [] 0 [] []) [] [] []=some (OO.ret (.agg #[.int .i64 (Qaa.glo (xs.getD i.toNat default)),.int .i64 (Qaa.ghi (xs.getD i.toNat default))]),[],[],
 []):=by kernel_rfl
theorem Qy4 (B:Lo) (xs:List Qaa) (i:Int) (ys:List Span) (dJ0:Nat->Value):landM (Qap YP (QaF YP) J0 B 13 1 (QaL 102 26 (([1,5,11,12,13]:List Nat).zip (Qf2 xs i ys)) dJ0 Qfy) (QaG (Qd1 xs i ys)) (2+(Qd1 xs i ys).length)
 [(0,hvT),(2,Qan.tidx i.toNat #[.int .i64 (Qaa.count (xs.getD i.toNat default)),.int .i64 (Qaa.room (xs.getD i.toNat default)),.int .i64 (Qaa.glo (xs.getD i.toNat default)),.int .i64 (Qaa.ghi (xs.getD i.toNat default)),.int .i64 (Qaa.drift (xs.getD i.toNat default)),.int .i64 (Qaa.into (xs.getD i.toNat default)),.int .i64 (Qaa.olo (xs.getD i.toNat default)),.int .i64 (Qaa.ohi (xs.getD i.toNat default)),.int .i64 (Qaa.slo (xs.getD i.toNat default)),.int .i64 (Qaa.shi (xs.getD i.toNat default)),.int .i64 (Qaa.goal (xs.getD i.toNat default)),.int .i64 (Qaa.worth (xs.getD i.toNat default))]),(11,Qan.call (List.range 4) (OO.ret (Qk8 xs i)) ([]++(4,Qb0)::Qbb 5 []) 5 []),(12,Qan.old (Hint.idx i.toNat)),(13,Qan.old (Hint.st (Qai QaR (List.set ys i.toNat {lo:=Qaa.glo (xs.getD i.toNat default),hi:=Qaa.ghi (xs.getD i.toNat default)})))),(14,hvI (i+1))] 0 [] []) [1,5,11,12,13] [(2,KS.cells [] (Qai QaR (List.set ys i.toNat {lo:=Qaa.glo (xs.getD i.toNat default),hi:=Qaa.ghi (xs.getD i.toNat default)})))] []=some ⟨102,26,Qfy,[],.run,none,Qf2 xs (i+1) (List.set ys i.toNat {lo:=Qaa.glo (xs.getD i.toNat default),hi:=Qaa.ghi (xs.getD i.toNat default)}),Qd1 xs (i+1) (List.set ys i.toNat {lo:=Qaa.glo (xs.getD i.toNat default),hi:=Qaa.ghi (xs.getD i.toNat default)}),
 [Qfx 1 [] (Qai QaR (List.set ys i.toNat {lo:=Qaa.glo (xs.getD i.toNat default),hi:=Qaa.ghi (xs.getD i.toNat default)})) (Qai QaR (List.set ys i.toNat {lo:=Qaa.glo (xs.getD i.toNat default),hi:=Qaa.ghi (xs.getD i.toNat default)})),wq (i+1)=i+1,0+Int.toNat i * 2+TypeInfo.size Try.t38<=Array.size (Qai QaR ys)/\splice (Qai QaR ys) (0+Int.toNat i * 2) (Value.cells (QcO {len:=16000,tr:=Tri.set 14 (Tri.set 14 Tri.lf 22 (Qk8 xs i)) 23 (.pointer (some {block:=2,off:=0+Int.toNat i * 2}))} 22))=Qai QaR (List.set ys i.toNat {lo:=Qaa.glo (xs.getD i.toNat default),hi:=Qaa.ghi (xs.getD i.toNat default)}),i=(↑i.toNat:Int)/\Int.toNat i < List.length xs,FJ YP B (Qho xs i ys dJ0) (Qfr xs i ys dJ0) 4 (OO.ret (Qk8 xs i)) (([]++((4,Qb0)::Qbb (4+1) []))++Qfr xs i ys dJ0) 5 (List.range 4) [],i=(↑i.toNat:Int)/\Int.toNat i < List.length xs/\Array.extract (Qai Qad xs) (Int.toNat i * TypeInfo.size Try.t54) (Int.toNat i * TypeInfo.size Try.t54+TypeInfo.size Try.t54)=#[.int .i64 (Qaa.count (xs.getD i.toNat default)),.int .i64 (Qaa.room (xs.getD i.toNat default)),.int .i64 (Qaa.glo (xs.getD i.toNat default)),.int .i64 (Qaa.ghi (xs.getD i.toNat default)),.int .i64 (Qaa.drift (xs.getD i.toNat default)),.int .i64 (Qaa.into (xs.getD i.toNat default)),.int .i64 (Qaa.olo (xs.getD i.toNat default)),.int .i64 (Qaa.ohi (xs.getD i.toNat default)),.int .i64 (Qaa.slo (xs.getD i.toNat default)),.int .i64 (Qaa.shi (xs.getD i.toNat default)),.int .i64 (Qaa.goal (xs.getD i.toNat default)),.int .i64 (Qaa.worth (xs.getD i.toNat default))],ltq i (↑xs.length:Int)=true]⟩:=by kernel_rfl
theorem QzR (B:Lo) (xs:List Qaa) (i:Int) (ys:List Span) (dJ0:Nat->Value):Qbi (Qap YP (QaF YP) J0 B 9 1 (QaL 102 26 (([1,5,11,12,13]:List Nat).zip (Qf2 xs i ys)) dJ0 Qfy) (QaG (Qd1 xs i ys)) (2+(Qd1 xs i ys).length)
 [(0,hvF)] 0 [] []) [{k:=2,rs:=[],cs:=Qai QaR ys}]=some (slT xs.length (Fz.cs {k:=2,rs:=[],cs:=Qai QaR ys}),
 [QcV (Fz.rs {k:=2,rs:=[],cs:=Qai QaR ys}) (Qai QaR ys) (Fz.cs {k:=2,rs:=[],cs:=Qai QaR ys}),ltq i (↑xs.length:Int)=false]):=by kernel_rfl
theorem Q06 (B:Lo) (xs:List Qaa):landM (Qap YP (QaF YP) J0 B 9 1 (Qaq YP 102 26 (([slP xs,.func (.func 104) #[] #[]]).map (Qa6 0 4))) H00 1
 [(3,Qan.old (Hint.mk xs.length (Qai (Qc8 [.int .i64 0,.int .i64 0]) (List.replicate xs.length ()))))] 0 [] []) [1,5,11,12,13] [(1,KS.rows [] [] [] (Qai QaR (List.replicate xs.length {lo:=0,hi:=0})))] []=some ⟨102,26,Qfy,[],.run,none,Qf2 xs (0) (List.replicate xs.length {lo:=0,hi:=0}),Qd1 xs (0) (List.replicate xs.length {lo:=0,hi:=0}),
 [Qdh 1 [] [] [] (Qai (Qc8 [.int .i64 0,.int .i64 0]) (List.replicate xs.length ())) (Qai QaR (List.replicate xs.length {lo:=0,hi:=0})),Qkk YP 36 (QcO {len:=16000,tr:=Tri.set 14 Tri.lf 9 (.int .i64 (↑xs.length:Int))} 9) (QcO {len:=16000,tr:=Tri.set 14 Tri.lf 9 (.int .i64 (↑xs.length:Int))} 9)=some (38,Qai (Qc8 [.int .i64 0,.int .i64 0]) (List.replicate xs.length ()),List.length xs,TypeInfo.size Try.t38)]⟩:=by kernel_rfl
set_option maxHeartbeats 4000000 in
theorem QyX (xs:List Qaa) (hn:xs.length<=1000000) {B:Lo} (hJ:∀w,B.has w->J0 w) {c0:CF}:∀m:Nat,(∀(i:Int) (ys:List Span),(xs.length - i.toNat)=m->∀(h0:0<=i) (hy:ys=Qjn Qbf ⟨0,0⟩ xs i),Q0J B c0 xs i ys->EndsT YP B c0 (QrD (xs.map Qbf))):=by
 intro m0;induction m0 using Nat.strongRecOn with
 | _ m0 ih0=>
   intro i ys hm0 h0 hy ⟨dJ0,hdJ0,hg0⟩;have hyl:ys.length=xs.length:=by rw [hy];exact Qkp
   by_cases q0:(i:Int) < ((↑xs.length:Int))
   ·have rj0:FJ YP B (Qho xs i ys dJ0) (Qfr xs i ys dJ0) 4 (OO.ret (.agg #[.int .i64 (Qaa.glo (xs.getD i.toNat default)),.int .i64 (Qaa.ghi (xs.getD i.toNat default))])) (([]++((4,Qb0)::Qbb (4+1) []))++Qfr xs i ys dJ0) 5 (List.range 4) []:=by
     exact FinK.fjB (GoE.finK okF hJ Qac (Qa2 (by kernel_rfl)) (Qas (by kernel_rfl)) ((GoE.refl (P:=YP) (B:=B) (c0:=Qho xs i ys dJ0) (Qa2 (by kernel_rfl))).widen (Wf:=((([]):List (Nat×KS)).map (·.1))) (by simp) (Qas (by kernel_rfl))) (Qz8 B xs i ys dJ0)
      trivial) (ex:=[2]) (by kernel_rfl) ⟨trivial,⟨trivial,⟨trivial,⟨(Qel (t:=38) (fl:=(0,0)) (fun x=> List.all_eq_true.1 (by rfl))),trivial⟩⟩⟩⟩
    exact ((ih0 _ (by omega)) (i+1) (List.set ys i.toNat {lo:=Qaa.glo (xs.getD i.toNat default),hi:=Qaa.ghi (xs.getD i.toNat default)}) rfl (by omega) (by (subst hy;exact Qlo (f:=Qbf) h0 q0))
     (hg0.landM okF hJ Qac (Qy4 B xs i ys dJ0)
     (by exact ⟨(QbC (Qb9 (fun x=> List.all_eq_true.1 (by rfl)))),⟨(Qbj (by omega) (by omega)),⟨(by exact Qjx (z:=2) (fun _=> rfl) (by omega) rfl rfl),⟨⟨by omega,by omega⟩,⟨rj0,⟨⟨by omega,by omega,(Qat (z:=12) (fun _=> rfl) (by omega))⟩,⟨(Qbw q0),trivial⟩⟩⟩⟩⟩⟩⟩) (by kernel_rfl) (by kernel_rfl))).cast (by rfl)
   ·exact (GoE.endsT okF hJ Qac hg0 (QzR B xs i ys dJ0)
     ⟨(QdU (fun x=> List.all_eq_true.1 (by rfl))),⟨(Qby (Int.not_lt.1 q0)),trivial⟩⟩).cast (by exact QuW (hy.trans (QlI (by omega))) (by simp))
set_option maxHeartbeats 4000000 in
theorem Q2O (xs:List Qaa) (hn:xs.length<=1000000) {B:Lo} (hJ:∀w,B.has w->J0 w):EndsT YP B (Qaq YP 102 26 (([slP xs,.func (.func 104) #[] #[]]).map (Qa6 0 4))) (QrD (xs.map Qbf)):=by
 exact ((QyX xs hn hJ _) (0) (List.replicate xs.length {lo:=0,hi:=0}) rfl (by omega) (by exact Qtx)
  (GoE.start.landM okF hJ Qac (Q06 B xs)
  (by exact ⟨(by exact (QdR (by exact ⟨(.simple rfl),⟨(.simple rfl),trivial⟩⟩) _)),⟨(Qwk (bytes:=16) (by kernel_rfl) (by omega) (by omega) (by omega)),trivial⟩⟩) (by kernel_rfl) (by kernel_rfl))).cast (by rfl)
theorem Q4P (xs:List Qaa) (hn:xs.length<=1000000):Qa3 YP J0 102 #[slP xs,.func (.func 104) #[] #[]] (QrD (xs.map Qbf)):=
 Qbr (ts:=[slP xs,.func (.func 104) #[] #[]]) Qco (c0:=Qaq YP 102 26 (([slP xs,.func (.func 104) #[] #[]]).map (Qa6 0 4))) (by kernel_rfl) (by kernel_rfl) fun B hJ=> Q2O xs hn hJ
theorem QzX (B:Lo) (rf:Qae) (plan:List Int):Qbi (Qap YP (QaF YP) J0 B 6 1 (Qaq YP 83 7 (([.agg (QaY rf plan).toArray]).map (Qa6 0 4))) H00 1
 [(5,Qan.pure (slT (List.length (List.map Qbf rf.places)) (Qai QaR (List.map Qbf rf.places))) [])] 0 [] []) []=some (slT (List.length (List.map Qbf rf.places)) (Qai QaR (List.map Qbf rf.places)),
 [QaA []/\Qa3 YP J0 102 #[slT rf.places.length (Qai Qad rf.places),Value.func (Fn.func 104) #[] #[]] (slT (List.length (List.map Qbf rf.places)) (Qai QaR (List.map Qbf rf.places)))]):=by kernel_rfl
set_option maxHeartbeats 4000000 in
theorem Q2v (rf:Qae) (plan:List Int) (hn:rf.places.length<=1000000) {B:Lo} (hJ:∀w,B.has w->J0 w):EndsT YP B (Qaq YP 83 7 (([.agg (QaY rf plan).toArray]).map (Qa6 0 4))) (QrD (rf.places.map Qbf)):=by
 exact (GoE.endsT okF hJ Qac GoE.start (QzX B rf plan)
  ⟨⟨trivial,Q4P rf.places (by with_reducible assumption)⟩,trivial⟩).cast (by rfl)
theorem Q55 (rf:Qae) (plan:List Int) (hn:rf.places.length<=1000000):Qa3 YP J0 83 #[.agg (QaY rf plan).toArray] (QrD (rf.places.map Qbf)):=
 Qbr (ts:=[.agg (QaY rf plan).toArray]) Qco (c0:=Qaq YP 83 7 (([.agg (QaY rf plan).toArray]).map (Qa6 0 4))) (by kernel_rfl) (by kernel_rfl) fun B hJ=> Q2v rf plan hn hJ
def Qcm (rf:Qae) (plan:List Int):Qax:=[(1,Obj.cells #[Qa1 0 (slT rf.places.length (Qai Qad rf.places)),.int .i64 rf.miss,.int .i64 rf.seasons,.int .i64 (plan.getD 0 0),.int .i64 (plan.getD 1 0),.int .i64 (plan.getD 2 0),.int .i64 (plan.getD 3 0)] 84),(0,Obj.coro none)]
def QdG (rf:Qae) (plan:List Int):CF:=⟨102,ofList 26 [Qa1 0 (slT rf.places.length (Qai Qad rf.places)),Value.func (Fn.func 103) #[] #[pA 1 0]],[Item.code (QaU YP 102)],[],.run,none⟩
def QcY (rf:Qae) (plan:List Int) (i:Int) (ys:List Span):List Value:=[Value.func (Fn.func 103) #[] #[pA 1 0],.slice (some {block:=3,off:=0}) rf.places.length 2,Qa1 0 (slT rf.places.length (Qai Qad rf.places)),.int .i64 (↑rf.places.length:Int),.int .i64 i]
def Qdf (rf:Qae) (plan:List Int) (i:Int) (ys:List Span):List Obj:=[]
def QbT (rf:Qae) (plan:List Int) (i:Int) (ys:List Span):List Obj:=[.cells (Qai QaR ys) 38 (0,0)]
def QcX:List Item:=([.code [1,1,0,1,0,0],.inLoop [1,1,0,1,0,0],.inBlock 0,.code [1,1,1]]).map (it (QaU YP 102))
def QeI (rf:Qae) (plan:List Int) (i:Int) (ys:List Span) (dJ0:Nat->Value):Qax:=[(4,Obj.cells #[.int .i64 (Qaa.count (rf.places.getD i.toNat default)),.int .i64 (Qaa.room (rf.places.getD i.toNat default)),.int .i64 (Qaa.glo (rf.places.getD i.toNat default)),.int .i64 (Qaa.ghi (rf.places.getD i.toNat default)),.int .i64 (Qaa.drift (rf.places.getD i.toNat default)),.int .i64 (Qaa.into (rf.places.getD i.toNat default)),.int .i64 (Qaa.olo (rf.places.getD i.toNat default)),.int .i64 (Qaa.ohi (rf.places.getD i.toNat default)),.int .i64 (Qaa.slo (rf.places.getD i.toNat default)),.int .i64 (Qaa.shi (rf.places.getD i.toNat default)),.int .i64 (Qaa.goal (rf.places.getD i.toNat default)),.int .i64 (Qaa.worth (rf.places.getD i.toNat default))] 54),(2,Obj.coro none),(3,Obj.cells (Qai QaR ys) 38),(1,Obj.cells #[Qa1 0 (slT rf.places.length (Qai Qad rf.places)),.int .i64 rf.miss,.int .i64 rf.seasons,.int .i64 (plan.getD 0 0),.int .i64 (plan.getD 1 0),.int .i64 (plan.getD 2 0),.int .i64 (plan.getD 3 0)] 84),(0,Obj.coro none)]
def QfN (rf:Qae) (plan:List Int) (i:Int) (ys:List Span) (dJ0:Nat->Value):CF:=⟨103,ofList 13 [.agg #[.int .i64 (Qaa.count (rf.places.getD i.toNat default)),.int .i64 (Qaa.room (rf.places.getD i.toNat default)),.int .i64 (Qaa.glo (rf.places.getD i.toNat default)),.int .i64 (Qaa.ghi (rf.places.getD i.toNat default)),.int .i64 (Qaa.drift (rf.places.getD i.toNat default)),.int .i64 (Qaa.into (rf.places.getD i.toNat default)),.int .i64 (Qaa.olo (rf.places.getD i.toNat default)),.int .i64 (Qaa.ohi (rf.places.getD i.toNat default)),.int .i64 (Qaa.slo (rf.places.getD i.toNat default)),.int .i64 (Qaa.shi (rf.places.getD i.toNat default)),.int .i64 (Qaa.goal (rf.places.getD i.toNat default)),.int .i64 (Qaa.worth (rf.places.getD i.toNat default))],pA 1 0],[Item.code (QaU YP 103)],[],.run,none⟩
def QhF (rf:Qae) (i:Int):Value:=(.agg #[.int .i64 (Qaa.count (rf.places.getD i.toNat default)),.int .i64 (Qaa.count (rf.places.getD i.toNat default)+Int.tdiv (Qaa.count (rf.places.getD i.toNat default) * rf.miss) 1000)])
theorem QxP (B:Lo) (rf:Qae) (plan:List Int) (i:Int) (ys:List Span) (dJ0:Nat->Value):CE.finK 5 (Qap YP (QaF YP) J0 B 6 5 (QfN rf plan i ys dJ0) (QeI rf plan i ys dJ0) 5
 [(9,Qan.pure (.int .i64 (Qaa.count (rf.places.getD i.toNat default)+Int.tdiv (Qaa.count (rf.places.getD i.toNat default) * rf.miss) 1000)) [])] 0 [] []) [] [] []=some (OO.ret (.agg #[.int .i64 (Qaa.count (rf.places.getD i.toNat default)),.int .i64 (Qaa.count (rf.places.getD i.toNat default)+Int.tdiv (Qaa.count (rf.places.getD i.toNat default) * rf.miss) 1000)]),[],[],
 [QaA []/\Qa3 YP J0 100 #[.int .i64 (Qaa.count (rf.places.getD i.toNat default)),.int .i64 rf.miss] (.int .i64 (Qaa.count (rf.places.getD i.toNat default)+Int.tdiv (Qaa.count (rf.places.getD i.toNat default) * rf.miss) 1000))]):=by kernel_rfl
theorem Qxk (B:Lo) (rf:Qae) (plan:List Int) (i:Int) (ys:List Span) (dJ0:Nat->Value):CE.landA 2 (Qap YP (QaF YP) J0 B 13 2 (Qeu (none) 102 26 (([1,5,11,12,13]:List Nat).zip (QcY rf plan i ys)) dJ0 QcX) (Qda (Qcm rf plan) 2 (([]:List Nat).zip (Qdf rf plan i ys)) (QbT rf plan i ys)) (2+1+(QbT rf plan i ys).length)
 [(0,hvT),(2,Qan.tidx i.toNat #[.int .i64 (Qaa.count (rf.places.getD i.toNat default)),.int .i64 (Qaa.room (rf.places.getD i.toNat default)),.int .i64 (Qaa.glo (rf.places.getD i.toNat default)),.int .i64 (Qaa.ghi (rf.places.getD i.toNat default)),.int .i64 (Qaa.drift (rf.places.getD i.toNat default)),.int .i64 (Qaa.into (rf.places.getD i.toNat default)),.int .i64 (Qaa.olo (rf.places.getD i.toNat default)),.int .i64 (Qaa.ohi (rf.places.getD i.toNat default)),.int .i64 (Qaa.slo (rf.places.getD i.toNat default)),.int .i64 (Qaa.shi (rf.places.getD i.toNat default)),.int .i64 (Qaa.goal (rf.places.getD i.toNat default)),.int .i64 (Qaa.worth (rf.places.getD i.toNat default))]),(11,Qan.call (List.range 5) (OO.ret (QhF rf i)) ([]++(5,Qb0)::Qbb 6 []) 6 []),(12,Qan.old (Hint.idx i.toNat)),(13,Qan.old (Hint.st (Qai QaR (List.set ys i.toNat {lo:=Qaa.count (rf.places.getD i.toNat default),hi:=Qaa.count (rf.places.getD i.toNat default)+Int.tdiv (Qaa.count (rf.places.getD i.toNat default) * rf.miss) 1000})))),(14,hvI (i+1))] 0 [] []) [1,5,11,12,13] [] [(3,KS.cells [] (Qai QaR (List.set ys i.toNat {lo:=Qaa.count (rf.places.getD i.toNat default),hi:=Qaa.count (rf.places.getD i.toNat default)+Int.tdiv (Qaa.count (rf.places.getD i.toNat default) * rf.miss) 1000})))] []=some ⟨102,26,QcX,[],.run,none,QcY rf plan (i+1) (List.set ys i.toNat {lo:=Qaa.count (rf.places.getD i.toNat default),hi:=Qaa.count (rf.places.getD i.toNat default)+Int.tdiv (Qaa.count (rf.places.getD i.toNat default) * rf.miss) 1000}),([]:List Nat).zip (Qdf rf plan (i+1) (List.set ys i.toNat {lo:=Qaa.count (rf.places.getD i.toNat default),hi:=Qaa.count (rf.places.getD i.toNat default)+Int.tdiv (Qaa.count (rf.places.getD i.toNat default) * rf.miss) 1000})),QbT rf plan (i+1) (List.set ys i.toNat {lo:=Qaa.count (rf.places.getD i.toNat default),hi:=Qaa.count (rf.places.getD i.toNat default)+Int.tdiv (Qaa.count (rf.places.getD i.toNat default) * rf.miss) 1000}),
 [Qfx 2 [] (Qai QaR (List.set ys i.toNat {lo:=Qaa.count (rf.places.getD i.toNat default),hi:=Qaa.count (rf.places.getD i.toNat default)+Int.tdiv (Qaa.count (rf.places.getD i.toNat default) * rf.miss) 1000})) (Qai QaR (List.set ys i.toNat {lo:=Qaa.count (rf.places.getD i.toNat default),hi:=Qaa.count (rf.places.getD i.toNat default)+Int.tdiv (Qaa.count (rf.places.getD i.toNat default) * rf.miss) 1000})),wq (i+1)=i+1,0+Int.toNat i * 2+TypeInfo.size Try.t38<=Array.size (Qai QaR ys)/\splice (Qai QaR ys) (0+Int.toNat i * 2) (Value.cells (QcO {len:=16000,tr:=Tri.set 14 (Tri.set 14 Tri.lf 22 (QhF rf i)) 23 (.pointer (some {block:=3,off:=0+Int.toNat i * 2}))} 22))=Qai QaR (List.set ys i.toNat {lo:=Qaa.count (rf.places.getD i.toNat default),hi:=Qaa.count (rf.places.getD i.toNat default)+Int.tdiv (Qaa.count (rf.places.getD i.toNat default) * rf.miss) 1000}),i=(↑i.toNat:Int)/\Int.toNat i < List.length rf.places,FJ YP B (QfN rf plan i ys dJ0) (QeI rf plan i ys dJ0) 5 (OO.ret (QhF rf i)) (([]++((5,Qb0)::Qbb (5+1) []))++QeI rf plan i ys dJ0) 6 (List.range 5) [],i=(↑i.toNat:Int)/\Int.toNat i < List.length rf.places/\Array.extract (Qai Qad rf.places) (Int.toNat i * TypeInfo.size Try.t54) (Int.toNat i * TypeInfo.size Try.t54+TypeInfo.size Try.t54)=#[.int .i64 (Qaa.count (rf.places.getD i.toNat default)),.int .i64 (Qaa.room (rf.places.getD i.toNat default)),.int .i64 (Qaa.glo (rf.places.getD i.toNat default)),.int .i64 (Qaa.ghi (rf.places.getD i.toNat default)),.int .i64 (Qaa.drift (rf.places.getD i.toNat default)),.int .i64 (Qaa.into (rf.places.getD i.toNat default)),.int .i64 (Qaa.olo (rf.places.getD i.toNat default)),.int .i64 (Qaa.ohi (rf.places.getD i.toNat default)),.int .i64 (Qaa.slo (rf.places.getD i.toNat default)),.int .i64 (Qaa.shi (rf.places.getD i.toNat default)),.int .i64 (Qaa.goal (rf.places.getD i.toNat default)),.int .i64 (Qaa.worth (rf.places.getD i.toNat default))],ltq i (↑rf.places.length:Int)=true]⟩:=by kernel_rfl
theorem QxM (B:Lo) (rf:Qae) (plan:List Int) (i:Int) (ys:List Span) (dJ0:Nat->Value):CE.finK 2 (Qap YP (QaF YP) J0 B 9 2 (Qeu (none) 102 26 (([1,5,11,12,13]:List Nat).zip (QcY rf plan i ys)) dJ0 QcX) (Qda (Qcm rf plan) 2 (([]:List Nat).zip (Qdf rf plan i ys)) (QbT rf plan i ys)) (2+1+(QbT rf plan i ys).length)
 [(0,hvF)] 0 [] []) [] [] [{k:=3,rs:=[],cs:=Qai QaR ys}]=some (OO.ret (Qa1 2 (slT rf.places.length (Fz.cs {k:=3,rs:=[],cs:=Qai QaR ys}))),[],[],
 [QcV (Fz.rs {k:=3,rs:=[],cs:=Qai QaR ys}) (Qai QaR ys) (Fz.cs {k:=3,rs:=[],cs:=Qai QaR ys}),ltq i (↑rf.places.length:Int)=false]):=by kernel_rfl
set_option maxHeartbeats 4000000 in
theorem Qod (rf:Qae) (plan:List Int) (hn:rf.places.length<=1000000) (hm:0<=rf.miss/\rf.miss<=2000) (hc:∀k:Int,0<=k->k < rf.places.length->0<=(rf.places.getD k.toNat default).count/\(rf.places.getD k.toNat default).count<=1000000) {B:Lo} (hJ:∀w,B.has w->J0 w):∀m:Nat,(∀(i:Int) (ys:List Span),(rf.places.length - i.toNat)=m->∀(h0:0<=i) (hy:ys=Qjn (Qbg rf.miss) ⟨0,0⟩ rf.places i),(∃dJ0:Nat->Value,(∀t,QbB (dJ0 t))/\GoE YP B (QdG rf plan) (Qcm rf plan) 2 (Qeu (none) 102 26 (([1,5,11,12,13]:List Nat).zip (QcY rf plan i ys)) dJ0 QcX) (Qda (Qcm rf plan) 2 (([]:List Nat).zip (Qdf rf plan i ys)) (QbT rf plan i ys)) (2+1+(QbT rf plan i ys).length) ([]:List Nat))->FinK YP B (QdG rf plan) (Qcm rf plan) 2 (.ret (Qa1 2 (QrD (rf.places.map (Qbg rf.miss))))) (([]:List Nat).zip ([])) ([]) ([]:List Nat)):=by
 intro m0;induction m0 using Nat.strongRecOn with
 | _ m0 ih0=>
   intro i ys hm0 h0 hy ⟨dJ0,hdJ0,hg0⟩;have hyl:ys.length=rf.places.length:=by rw [hy];exact Qkp
   by_cases q0:(i:Int) < ((↑rf.places.length:Int))
   ·have rj1:FJ YP B (QfN rf plan i ys dJ0) (QeI rf plan i ys dJ0) 5 (OO.ret (.agg #[.int .i64 (Qaa.count (rf.places.getD i.toNat default)),.int .i64 (Qaa.count (rf.places.getD i.toNat default)+Int.tdiv (Qaa.count (rf.places.getD i.toNat default) * rf.miss) 1000)])) (([]++((5,Qb0)::Qbb (5+1) []))++QeI rf plan i ys dJ0) 6 (List.range 5) []:=by
     have hc1:=hc i h0 q0;exact FinK.fjB (GoE.finK okF hJ Qac (Qa2 (by kernel_rfl)) (Qas (by kernel_rfl)) ((GoE.refl (P:=YP) (B:=B) (c0:=QfN rf plan i ys dJ0) (Qa2 (by kernel_rfl))).widen (Wf:=((([]):List (Nat×KS)).map (·.1))) (by simp) (Qas (by kernel_rfl))) (QxP B rf plan i ys dJ0)
      ⟨⟨trivial,Qxs (Qaa.count (rf.places.getD i.toNat default)) rf.miss (by omega) (by omega)⟩,trivial⟩) (ex:=[3]) (by kernel_rfl) ⟨trivial,⟨trivial,⟨(Qel (t:=38) (fl:=(0,0)) (fun x=> List.all_eq_true.1 (by rfl))),⟨trivial,⟨trivial,trivial⟩⟩⟩⟩⟩
    have hc1:=hc i h0 q0;exact ((ih0 _ (by omega)) (i+1) (List.set ys i.toNat {lo:=Qaa.count (rf.places.getD i.toNat default),hi:=Qaa.count (rf.places.getD i.toNat default)+Int.tdiv (Qaa.count (rf.places.getD i.toNat default) * rf.miss) 1000}) rfl (by omega) (by (subst hy;exact Qlo (f:=Qbg rf.miss) h0 q0))
     (GoE.landA okF hJ Qac (Qa2 (by kernel_rfl)) (Qas (by kernel_rfl)) hg0 (Qxk B rf plan i ys dJ0)
     (by exact ⟨(QbC (Qb9 (fun x=> List.all_eq_true.1 (by rfl)))),⟨(Qbj (by omega) (by omega)),⟨(by exact Qjx (z:=2) (fun _=> rfl) (by omega) rfl rfl),⟨⟨by omega,by omega⟩,⟨rj1,⟨⟨by omega,by omega,(Qat (z:=12) (fun _=> rfl) (by omega))⟩,⟨(Qbw q0),trivial⟩⟩⟩⟩⟩⟩⟩) (by kernel_rfl) (by kernel_rfl) (fun l hl=> by cases hl <;> decide))).cast (by rfl) (by rfl) (by rfl)
   ·exact (GoE.finK okF hJ Qac (Qa2 (by kernel_rfl)) (Qas (by kernel_rfl)) hg0 (QxM B rf plan i ys dJ0)
     ⟨(QdU (fun x=> List.all_eq_true.1 (by rfl))),⟨(Qby (Int.not_lt.1 q0)),trivial⟩⟩).cast (by exact congrArg (fun v=> OO.ret (Qa1 _ v)) (QuW (hy.trans (QlI (by omega))) (by simp))) (by rfl) (by rfl)

theorem Qyb (B:Lo) (rf:Qae) (plan:List Int):CE.landA 2 (Qap YP (QaF YP) J0 B 9 2 (QdG rf plan) (Qcm rf plan) 2
 [(3,Qan.old (Hint.mk rf.places.length (Qai (Qc8 [.int .i64 0,.int .i64 0]) (List.replicate rf.places.length ()))))] 0 [] []) [1,5,11,12,13] [] [(2,KS.rows [] [] [] (Qai QaR (List.replicate rf.places.length {lo:=0,hi:=0})))] []=some ⟨102,26,QcX,[],.run,none,QcY rf plan (0) (List.replicate rf.places.length {lo:=0,hi:=0}),([]:List Nat).zip (Qdf rf plan (0) (List.replicate rf.places.length {lo:=0,hi:=0})),QbT rf plan (0) (List.replicate rf.places.length {lo:=0,hi:=0}),
 [Qdh 2 [] [] [] (Qai (Qc8 [.int .i64 0,.int .i64 0]) (List.replicate rf.places.length ())) (Qai QaR (List.replicate rf.places.length {lo:=0,hi:=0})),Qkk YP 36 (QcO {len:=16000,tr:=Tri.set 14 Tri.lf 9 (.int .i64 (↑rf.places.length:Int))} 9) (QcO {len:=16000,tr:=Tri.set 14 Tri.lf 9 (.int .i64 (↑rf.places.length:Int))} 9)=some (38,Qai (Qc8 [.int .i64 0,.int .i64 0]) (List.replicate rf.places.length ()),List.length rf.places,TypeInfo.size Try.t38)]⟩:=by kernel_rfl
theorem Qwy (B:Lo) (rf:Qae) (plan:List Int):Qbi (Qap YP (QaF YP) J0 B 6 1 (Qaq YP 82 8 (([.agg (QaY rf plan).toArray]).map (Qa6 0 4))) H00 1
 [(6,Qan.call (List.range 2) (OO.ret (Qa1 2 (slT (List.length (List.map (Qbg rf.miss) rf.places)) (Qai QaR (List.map (Qbg rf.miss) rf.places))))) ([]++(2,Qb0)::Qbb 3 []) 3 [])] 0 [] []) []=some (slT (List.length (List.map (Qbg rf.miss) rf.places)) (Qai QaR (List.map (Qbg rf.miss) rf.places)),
 [FJ YP B (QdG rf plan) (Qcm rf plan) 2 (OO.ret (Qa1 2 (slT (List.length (List.map (Qbg rf.miss) rf.places)) (Qai QaR (List.map (Qbg rf.miss) rf.places))))) (([]++((2,Qb0)::Qbb (2+1) []))++Qcm rf plan) 3 (List.range 2) []]):=by kernel_rfl
set_option maxHeartbeats 4000000 in
theorem Qze (rf:Qae) (plan:List Int) (hn:rf.places.length<=1000000) (hm:0<=rf.miss/\rf.miss<=2000) (hc:∀k:Int,0<=k->k < rf.places.length->0<=(rf.places.getD k.toNat default).count/\(rf.places.getD k.toNat default).count<=1000000) {B:Lo} (hJ:∀w,B.has w->J0 w):EndsT YP B (Qaq YP 82 8 (([.agg (QaY rf plan).toArray]).map (Qa6 0 4))) (QrD (rf.places.map (Qbg rf.miss))):=by
 have rj0:FJ YP B (QdG rf plan) (Qcm rf plan) 2 (OO.ret (Qa1 2 (slT (List.length (List.map (Qbg rf.miss) rf.places)) (Qai QaR (List.map (Qbg rf.miss) rf.places))))) (([]++((2,Qb0)::Qbb (2+1) []))++Qcm rf plan) 3 (List.range 2) []:=by
  exact FinK.fjB ((Qod rf plan hn hm hc hJ _) (0) (List.replicate rf.places.length {lo:=0,hi:=0}) rfl (by omega) (by exact Qtx)
   (GoE.landA okF hJ Qac (Qa2 (by kernel_rfl)) (Qas (by kernel_rfl)) ((GoE.refl (P:=YP) (B:=B) (c0:=QdG rf plan) (Qa2 (by kernel_rfl))).widen (Wf:=((([]):List (Nat×KS)).map (·.1))) (by simp) (Qas (by kernel_rfl))) (Qyb B rf plan)
   ⟨(by exact (QdR (by exact ⟨(.simple rfl),⟨(.simple rfl),trivial⟩⟩) _)),⟨(Qwk (bytes:=16) (by kernel_rfl) (by omega) (by omega) (by omega)),trivial⟩⟩ (by kernel_rfl) (by kernel_rfl) (fun l hl=> by cases hl <;> decide))) (ex:=[]) (by kernel_rfl) (Qde _)
 exact (GoE.endsT okF hJ Qac GoE.start (Qwy B rf plan)
  ⟨rj0,trivial⟩).cast (by rfl)
theorem Q4o (rf:Qae) (plan:List Int) (hn:rf.places.length<=1000000) (hm:0<=rf.miss/\rf.miss<=2000) (hc:∀k:Int,0<=k->k < rf.places.length->0<=(rf.places.getD k.toNat default).count/\(rf.places.getD k.toNat default).count<=1000000):Qa3 YP J0 82 #[.agg (QaY rf plan).toArray] (QrD (rf.places.map (Qbg rf.miss))):=
 Qbr (ts:=[.agg (QaY rf plan).toArray]) Qco (c0:=Qaq YP 82 8 (([.agg (QaY rf plan).toArray]).map (Qa6 0 4))) (by kernel_rfl) (by kernel_rfl) fun B hJ=> Qze rf plan hn hm hc hJ
end
end Go.Proofs.Ytncjjangllkokaa

namespace Go.Proofs.Ytncjjangllkokaa
open Go Go.CE Go.RowKit
noncomputable section
set_option maxRecDepth 100000
def QtM {β:Type} (n:Int) (f:Int->β):List β:=(upI 0 n).map f
theorem Qcb {β:Type} {n:Int} {f:Int->β}:(QtM n f).length=n.toNat:=by simp [QtM,upI]
theorem QeK {β:Type} {n:Int} {f:Int->β} {k:Nat} (h:k < n.toNat):(QtM n f)[k]? =some (f k):=by
 unfold QtM upI;rw [List.getElem?_map,List.getElem?_map,List.getElem?_range (by omega)];simp
theorem Qch {β:Type} [Inhabited β] {n k:Int} {f:Int->β} (h0:0<=k) (h:k < n):(QtM n f).getD k.toNat default=f k:=by
 rw [List.getD_eq_getElem?_getD,QeK (by omega),show ((k.toNat:Nat):Int)=k by omega];rfl
theorem QdI {β:Type} {n:Int} {f g:Int->β} (h:∀k,0<=k->k < n->f k=g k):QtM n f=QtM n g:=by
 refine List.ext_getElem? fun k=> ?_
 by_cases hk:k < n.toNat
 ·rw [QeK hk,QeK hk,h k (by omega) (by omega)]
 ·rw [List.getElem?_eq_none (by rw [Qcb];omega),List.getElem?_eq_none (by rw [Qcb];omega)]
theorem QvQ {β:Type} {n i:Int} {f:Int->β} {v:β} (h0:0<=i) (h:i < n):(QtM n f).set i.toNat v=QtM n (fun k=> if k=i then v else f k):=by
 refine List.ext_getElem? fun k=> ?_
 by_cases hk:k < n.toNat
 ·rw [List.getElem?_set,Qcb,QeK hk,QeK hk];by_cases e:i.toNat=k
  ·rw [if_pos e,if_pos (by omega),if_pos (by omega)]
  ·rw [if_neg e,if_neg (by omega)]
 ·rw [List.getElem?_eq_none (by rw [List.length_set,Qcb];omega),List.getElem?_eq_none (by rw [Qcb];omega)]
theorem Q3G {α β:Type} [Inhabited α] {xs:List α} {f:α->β}:xs.map f=QtM xs.length (fun k=> f (xs.getD k.toNat default)):=by
 refine List.ext_getElem? fun k=> ?_
 by_cases hk:k < xs.length
 ·rw [QeK (by omega),List.getElem?_map,List.getElem?_eq_getElem hk];simp [List.getD_eq_getElem?_getD,hk]
 ·rw [List.getElem?_eq_none (by simp;omega),List.getElem?_eq_none (by rw [Qcb];omega)]
def QlL (x:Qaa):Span:=⟨x.slo,x.shi⟩
def Qcn (p k:Int) (x:Qaa):Span:=if hasB p k then QlL x else Qci x
def Qbd (ps:List Qaa) (p:Int):List Span:=QtM ps.length fun k=> Qcn p k (ps.getD k.toNat default)
def Qh2 (ps:List Qaa) (p i:Int):List Span:=QtM ps.length fun k=> if k < i then Qcn p k (ps.getD k.toNat default) else Qci (ps.getD k.toNat default)
theorem Q1Z {ps:List Qaa} {p:Int}:ps.map Qci=Qh2 ps p 0:=by
 rw [Q3G];exact QdI fun k h0 _=> by rw [if_neg (by omega)]
theorem Qye {ps:List Qaa} {p i:Int} (h:ps.length<=i):Qh2 ps p i=Qbd ps p:=QdI fun k h0 h1=> by rw [if_pos (by omega)]
theorem Q0C {ps:List Qaa} {p i:Int} (h0:0<=i) (h:hasB p i=false):Qh2 ps p i=Qh2 ps p (i+1):=QdI fun k g0 g1=> by
 by_cases e:k=i
 ·subst e;rw [if_neg (by omega),if_pos (by omega),Qcn,h];rfl
 ·by_cases e2:k < i
  ·rw [if_pos e2,if_pos (by omega)]
  ·rw [if_neg e2,if_neg (by omega)]
theorem Qm0 {ps:List Qaa} {p i:Int} (h0:0<=i) (h1:i < ps.length) (h:hasB p i=true):(Qh2 ps p i).set i.toNat (QlL (ps.getD i.toNat default))=Qh2 ps p (i+1):=by
 unfold Qh2;rw [QvQ h0 h1];refine QdI fun k g0 g1=> ?_
 by_cases e:k=i
 ·subst e;rw [if_pos rfl,if_pos (by omega),Qcn,h];rfl
 ·rw [if_neg e];by_cases e2:k < i
  ·rw [if_pos e2,if_pos (by omega)]
  ·rw [if_neg e2,if_neg (by omega)]
theorem Q59 {n k:Int} (hn:0<=n):0<=((QrC n k:Nat):Int)/\((QrC n k:Nat):Int)<=n:=by
 have:=Q3C (a:=n) (n:=k);omega
def QcE (rf:Qae) (plan:List Int) (k:Int):Qax:=[(1,Obj.cells #[Qa1 0 (slT rf.places.length (Qai Qad rf.places)),.int .i64 rf.miss,.int .i64 rf.seasons,.int .i64 (plan.getD 0 0),.int .i64 (plan.getD 1 0),.int .i64 (plan.getD 2 0),.int .i64 (plan.getD 3 0)] 84),(0,Obj.coro none)]
def Qe4 (rf:Qae) (plan:List Int) (k:Int):CF:=⟨102,ofList 26 [Qa1 0 (slT rf.places.length (Qai Qad rf.places)),Value.func (Fn.func 105) #[] #[]],[Item.code (QaU YP 102)],[],.run,none⟩
def Qdz (rf:Qae) (plan:List Int) (k:Int) (i:Int) (ys:List Span):List Value:=[Value.func (Fn.func 105) #[] #[],.slice (some {block:=3,off:=0}) rf.places.length 2,Qa1 0 (slT rf.places.length (Qai Qad rf.places)),.int .i64 (↑rf.places.length:Int),.int .i64 i]
def Qd5 (rf:Qae) (plan:List Int) (k:Int) (i:Int) (ys:List Span):List Obj:=[]
def QbZ (rf:Qae) (plan:List Int) (k:Int) (i:Int) (ys:List Span):List Obj:=[.cells (Qai QaR ys) 38 (0,0)]
def Qd6:List Item:=([.code [1,1,0,1,0,0],.inLoop [1,1,0,1,0,0],.inBlock 0,.code [1,1,1]]).map (it (QaU YP 102))
def Qff (rf:Qae) (plan:List Int) (k:Int) (i:Int) (ys:List Span) (dJ0:Nat->Value):Qax:=[(4,Obj.cells #[.int .i64 (Qaa.count (rf.places.getD i.toNat default)),.int .i64 (Qaa.room (rf.places.getD i.toNat default)),.int .i64 (Qaa.glo (rf.places.getD i.toNat default)),.int .i64 (Qaa.ghi (rf.places.getD i.toNat default)),.int .i64 (Qaa.drift (rf.places.getD i.toNat default)),.int .i64 (Qaa.into (rf.places.getD i.toNat default)),.int .i64 (Qaa.olo (rf.places.getD i.toNat default)),.int .i64 (Qaa.ohi (rf.places.getD i.toNat default)),.int .i64 (Qaa.slo (rf.places.getD i.toNat default)),.int .i64 (Qaa.shi (rf.places.getD i.toNat default)),.int .i64 (Qaa.goal (rf.places.getD i.toNat default)),.int .i64 (Qaa.worth (rf.places.getD i.toNat default))] 54),(2,Obj.coro none),(3,Obj.cells (Qai QaR ys) 38),(1,Obj.cells #[Qa1 0 (slT rf.places.length (Qai Qad rf.places)),.int .i64 rf.miss,.int .i64 rf.seasons,.int .i64 (plan.getD 0 0),.int .i64 (plan.getD 1 0),.int .i64 (plan.getD 2 0),.int .i64 (plan.getD 3 0)] 84),(0,Obj.coro none)]
def Qhd (rf:Qae) (plan:List Int) (k:Int) (i:Int) (ys:List Span) (dJ0:Nat->Value):CF:=⟨105,ofList 5 [.agg #[.int .i64 (Qaa.count (rf.places.getD i.toNat default)),.int .i64 (Qaa.room (rf.places.getD i.toNat default)),.int .i64 (Qaa.glo (rf.places.getD i.toNat default)),.int .i64 (Qaa.ghi (rf.places.getD i.toNat default)),.int .i64 (Qaa.drift (rf.places.getD i.toNat default)),.int .i64 (Qaa.into (rf.places.getD i.toNat default)),.int .i64 (Qaa.olo (rf.places.getD i.toNat default)),.int .i64 (Qaa.ohi (rf.places.getD i.toNat default)),.int .i64 (Qaa.slo (rf.places.getD i.toNat default)),.int .i64 (Qaa.shi (rf.places.getD i.toNat default)),.int .i64 (Qaa.goal (rf.places.getD i.toNat default)),.int .i64 (Qaa.worth (rf.places.getD i.toNat default))]],[Item.code (QaU YP 105)],[],.run,none⟩
def Qh0 (rf:Qae) (plan:List Int) (k:Int):Array Value:=#[.agg #[Qa1 0 (slT rf.places.length (Qai Qad rf.places)),.int .i64 rf.miss,.int .i64 rf.seasons,.int .i64 (plan.getD 0 0),.int .i64 (plan.getD 1 0),.int .i64 (plan.getD 2 0),.int .i64 (plan.getD 3 0)],.int .i64 k,pA 1 0,.tuple #[],.slice none 0 0,pA 4 0,.tuple #[],pA 1 0,pA 1 0,Qa1 0 (slT rf.places.length (Qai Qad rf.places)),.slice (some {block:=3,off:=0}) rf.places.length 2,.agg #[Qa1 0 (slT rf.places.length (Qai Qad rf.places)),.int .i64 rf.miss,.int .i64 rf.seasons,.int .i64 (plan.getD 0 0),.int .i64 (plan.getD 1 0),.int .i64 (plan.getD 2 0),.int .i64 (plan.getD 3 0)],.int .i64 k,Value.func (Fn.func 112) #[] #[Qa1 5 (ptT 0 #[slT rf.places.length (Qai Qad rf.places),.int .i64 rf.miss,.int .i64 rf.seasons,.int .i64 (plan.getD 0 0),.int .i64 (plan.getD 1 0),.int .i64 (plan.getD 2 0),.int .i64 (plan.getD 3 0)]),Qa1 5 (ptT 0 #[.int .i64 k])],.tuple #[],.tuple #[],.tuple #[],.tuple #[],.tuple #[],.tuple #[],.tuple #[],.tuple #[],.tuple #[],.tuple #[],.tuple #[],.tuple #[]]
def Qhj (rf:Qae) (i:Int):Array Value:=#[.int .i64 (Qaa.count (rf.places.getD i.toNat default)),.int .i64 (Qaa.room (rf.places.getD i.toNat default)),.int .i64 (Qaa.glo (rf.places.getD i.toNat default)),.int .i64 (Qaa.ghi (rf.places.getD i.toNat default)),.int .i64 (Qaa.drift (rf.places.getD i.toNat default)),.int .i64 (Qaa.into (rf.places.getD i.toNat default)),.int .i64 (Qaa.olo (rf.places.getD i.toNat default)),.int .i64 (Qaa.ohi (rf.places.getD i.toNat default)),.int .i64 (Qaa.slo (rf.places.getD i.toNat default)),.int .i64 (Qaa.shi (rf.places.getD i.toNat default)),.int .i64 (Qaa.goal (rf.places.getD i.toNat default)),.int .i64 (Qaa.worth (rf.places.getD i.toNat default))]
def Qfp (rf:Qae) (plan:List Int):Array Value:=#[slT rf.places.length (Qai Qad rf.places),.int .i64 rf.miss,.int .i64 rf.seasons,.int .i64 (plan.getD 0 0),.int .i64 (plan.getD 1 0),.int .i64 (plan.getD 2 0),.int .i64 (plan.getD 3 0)]
def Qlk (rf:Qae) (i:Int):Value:=(.agg #[.int .i64 (Qaa.olo (rf.places.getD i.toNat default)),.int .i64 (Qaa.ohi (rf.places.getD i.toNat default))])
theorem Qy3 (B:Lo) (rf:Qae) (plan:List Int) (k:Int) (i:Int) (ys:List Span) (dJ0:Nat->Value):CE.finK 5 (Qap YP (QaF YP) J0 B 6 5 (Qhd rf plan k i ys dJ0) (Qff rf plan k i ys dJ0) 5
 [] 0 [] []) [] [] []=some (OO.ret (.agg #[.int .i64 (Qaa.olo (rf.places.getD i.toNat default)),.int .i64 (Qaa.ohi (rf.places.getD i.toNat default))]),[],[],
 []):=by kernel_rfl
theorem Qzx (B:Lo) (rf:Qae) (plan:List Int) (k:Int) (i:Int) (ys:List Span) (dJ0:Nat->Value):CE.landA 2 (Qap YP (QaF YP) J0 B 13 2 (Qeu (none) 102 26 (([1,5,11,12,13]:List Nat).zip (Qdz rf plan k i ys)) dJ0 Qd6) (Qda (QcE rf plan k) 2 (([]:List Nat).zip (Qd5 rf plan k i ys)) (QbZ rf plan k i ys)) (2+1+(QbZ rf plan k i ys).length)
 [(0,hvT),(2,Qan.tidx i.toNat (Qhj rf i)),(11,Qan.call (List.range 5) (OO.ret (Qlk rf i)) ([]++(5,Qb0)::Qbb 6 []) 6 []),(12,Qan.old (Hint.idx i.toNat)),(13,Qan.old (Hint.st (Qai QaR (List.set ys i.toNat {lo:=Qaa.olo (rf.places.getD i.toNat default),hi:=Qaa.ohi (rf.places.getD i.toNat default)})))),(14,hvI (i+1))] 0 [] []) [1,5,11,12,13] [] [(3,KS.cells [] (Qai QaR (List.set ys i.toNat {lo:=Qaa.olo (rf.places.getD i.toNat default),hi:=Qaa.ohi (rf.places.getD i.toNat default)})))] []=some ⟨102,26,Qd6,[],.run,none,Qdz rf plan k (i+1) (List.set ys i.toNat {lo:=Qaa.olo (rf.places.getD i.toNat default),hi:=Qaa.ohi (rf.places.getD i.toNat default)}),([]:List Nat).zip (Qd5 rf plan k (i+1) (List.set ys i.toNat {lo:=Qaa.olo (rf.places.getD i.toNat default),hi:=Qaa.ohi (rf.places.getD i.toNat default)})),QbZ rf plan k (i+1) (List.set ys i.toNat {lo:=Qaa.olo (rf.places.getD i.toNat default),hi:=Qaa.ohi (rf.places.getD i.toNat default)}),
 [Qfx 2 [] (Qai QaR (List.set ys i.toNat {lo:=Qaa.olo (rf.places.getD i.toNat default),hi:=Qaa.ohi (rf.places.getD i.toNat default)})) (Qai QaR (List.set ys i.toNat {lo:=Qaa.olo (rf.places.getD i.toNat default),hi:=Qaa.ohi (rf.places.getD i.toNat default)})),wq (i+1)=i+1,0+Int.toNat i * 2+TypeInfo.size Try.t38<=Array.size (Qai QaR ys)/\splice (Qai QaR ys) (0+Int.toNat i * 2) (Value.cells (QcO {len:=16000,tr:=Tri.set 14 (Tri.set 14 Tri.lf 22 (Qlk rf i)) 23 (.pointer (some {block:=3,off:=0+Int.toNat i * 2}))} 22))=Qai QaR (List.set ys i.toNat {lo:=Qaa.olo (rf.places.getD i.toNat default),hi:=Qaa.ohi (rf.places.getD i.toNat default)}),i=(↑i.toNat:Int)/\Int.toNat i < List.length rf.places,FJ YP B (Qhd rf plan k i ys dJ0) (Qff rf plan k i ys dJ0) 5 (OO.ret (Qlk rf i)) (([]++((5,Qb0)::Qbb (5+1) []))++Qff rf plan k i ys dJ0) 6 (List.range 5) [],i=(↑i.toNat:Int)/\Int.toNat i < List.length rf.places/\Array.extract (Qai Qad rf.places) (Int.toNat i * TypeInfo.size Try.t54) (Int.toNat i * TypeInfo.size Try.t54+TypeInfo.size Try.t54)=(Qhj rf i),ltq i (↑rf.places.length:Int)=true]⟩:=by kernel_rfl
theorem QzM (B:Lo) (rf:Qae) (plan:List Int) (k:Int) (i:Int) (ys:List Span) (dJ0:Nat->Value):CE.finK 2 (Qap YP (QaF YP) J0 B 9 2 (Qeu (none) 102 26 (([1,5,11,12,13]:List Nat).zip (Qdz rf plan k i ys)) dJ0 Qd6) (Qda (QcE rf plan k) 2 (([]:List Nat).zip (Qd5 rf plan k i ys)) (QbZ rf plan k i ys)) (2+1+(QbZ rf plan k i ys).length)
 [(0,hvF)] 0 [] []) [] [(3,KS.cells [] (Qai QaR ys))] []=some (OO.ret (.slice (some {block:=3,off:=0}) rf.places.length 2),[],[Obj.cells (Qai QaR ys) 38],
 [Qfx 2 [] (Qai QaR ys) (Qai QaR ys),ltq i (↑rf.places.length:Int)=false]):=by kernel_rfl
set_option maxHeartbeats 4000000 in
theorem QqX (rf:Qae) (plan:List Int) (k:Int) (hn:rf.places.length<=4) (hl:plan.length<=4) (k0:0<=k) (k1:k < 4) (hp:∀j:Nat,0<=plan.getD j 0/\plan.getD j 0<=1000000) {B:Lo} (hJ:∀w,B.has w->J0 w):∀m:Nat,(∀(i:Int) (ys:List Span),(rf.places.length - i.toNat)=m->∀(h0:0<=i) (hy:ys=Qjn Qci ⟨0,0⟩ rf.places i),(∃dJ0:Nat->Value,(∀t,QbB (dJ0 t))/\GoE YP B (Qe4 rf plan k) (QcE rf plan k) 2 (Qeu (none) 102 26 (([1,5,11,12,13]:List Nat).zip (Qdz rf plan k i ys)) dJ0 Qd6) (Qda (QcE rf plan k) 2 (([]:List Nat).zip (Qd5 rf plan k i ys)) (QbZ rf plan k i ys)) (2+1+(QbZ rf plan k i ys).length) ([]:List Nat))->FinK YP B (Qe4 rf plan k) (QcE rf plan k) 2 (.ret (.slice (some ⟨3,0,none⟩) rf.places.length 2)) (([]:List Nat).zip ([])) ([.cells (Qai QaR (rf.places.map Qci)) 38 (0,0)]) ([]:List Nat)):=by
 intro m0;induction m0 using Nat.strongRecOn with
 | _ m0 ih0=>
   intro i ys hm0 h0 hy ⟨dJ0,hdJ0,hg0⟩;have hyl:ys.length=rf.places.length:=by rw [hy];exact Qkp
   by_cases q0:(i:Int) < ((↑rf.places.length:Int))
   ·have rj1:FJ YP B (Qhd rf plan k i ys dJ0) (Qff rf plan k i ys dJ0) 5 (OO.ret (.agg #[.int .i64 (Qaa.olo (rf.places.getD i.toNat default)),.int .i64 (Qaa.ohi (rf.places.getD i.toNat default))])) (([]++((5,Qb0)::Qbb (5+1) []))++Qff rf plan k i ys dJ0) 6 (List.range 5) []:=by
     exact FinK.fjB (GoE.finK okF hJ Qac (Qa2 (by kernel_rfl)) (Qas (by kernel_rfl)) ((GoE.refl (P:=YP) (B:=B) (c0:=Qhd rf plan k i ys dJ0) (Qa2 (by kernel_rfl))).widen (Wf:=((([]):List (Nat×KS)).map (·.1))) (by simp) (Qas (by kernel_rfl))) (Qy3 B rf plan k i ys dJ0)
      trivial) (ex:=[3]) (by kernel_rfl) ⟨trivial,⟨trivial,⟨(Qel (t:=38) (fl:=(0,0)) (fun x=> List.all_eq_true.1 (by rfl))),⟨trivial,⟨trivial,trivial⟩⟩⟩⟩⟩
    exact ((ih0 _ (by omega)) (i+1) (List.set ys i.toNat {lo:=Qaa.olo (rf.places.getD i.toNat default),hi:=Qaa.ohi (rf.places.getD i.toNat default)}) rfl (by omega) (by (subst hy;exact Qlo (f:=Qci) h0 q0))
     (GoE.landA okF hJ Qac (Qa2 (by kernel_rfl)) (Qas (by kernel_rfl)) hg0 (Qzx B rf plan k i ys dJ0)
     (by exact ⟨(QbC (Qb9 (fun x=> List.all_eq_true.1 (by rfl)))),⟨(Qbj (by omega) (by omega)),⟨(by exact Qjx (z:=2) (fun _=> rfl) (by omega) rfl rfl),⟨⟨by omega,by omega⟩,⟨rj1,⟨⟨by omega,by omega,(Qat (z:=12) (fun _=> rfl) (by omega))⟩,⟨(Qbw q0),trivial⟩⟩⟩⟩⟩⟩⟩) (by kernel_rfl) (by kernel_rfl) (fun l hl=> by cases hl <;> decide))).cast (by rfl) (by rfl) (by rfl)
   ·exact (GoE.finK okF hJ Qac (Qa2 (by kernel_rfl)) (Qas (by kernel_rfl)) hg0 (QzM B rf plan k i ys dJ0)
     ⟨(QbC (Qb9 (fun x=> List.all_eq_true.1 (by rfl)))),⟨(Qby (Int.not_lt.1 q0)),trivial⟩⟩).cast (by rfl) (by rfl) (by (rw [hy,QlI (by omega)];done))

theorem Q0n (B:Lo) (rf:Qae) (plan:List Int) (k:Int):CE.landA 2 (Qap YP (QaF YP) J0 B 9 2 (Qe4 rf plan k) (QcE rf plan k) 2
 [(3,Qan.old (Hint.mk rf.places.length (Qai (Qc8 [.int .i64 0,.int .i64 0]) (List.replicate rf.places.length ()))))] 0 [] []) [1,5,11,12,13] [] [(2,KS.rows [] [] [] (Qai QaR (List.replicate rf.places.length {lo:=0,hi:=0})))] []=some ⟨102,26,Qd6,[],.run,none,Qdz rf plan k (0) (List.replicate rf.places.length {lo:=0,hi:=0}),([]:List Nat).zip (Qd5 rf plan k (0) (List.replicate rf.places.length {lo:=0,hi:=0})),QbZ rf plan k (0) (List.replicate rf.places.length {lo:=0,hi:=0}),
 [Qdh 2 [] [] [] (Qai (Qc8 [.int .i64 0,.int .i64 0]) (List.replicate rf.places.length ())) (Qai QaR (List.replicate rf.places.length {lo:=0,hi:=0})),Qkk YP 36 (QcO {len:=16000,tr:=Tri.set 14 Tri.lf 9 (.int .i64 (↑rf.places.length:Int))} 9) (QcO {len:=16000,tr:=Tri.set 14 Tri.lf 9 (.int .i64 (↑rf.places.length:Int))} 9)=some (38,Qai (Qc8 [.int .i64 0,.int .i64 0]) (List.replicate rf.places.length ()),List.length rf.places,TypeInfo.size Try.t38)]⟩:=by kernel_rfl
def QfD (rf:Qae) (plan:List Int) (k:Int):Qax:=[(4,Obj.cells #[.slice (some {block:=3,off:=0}) rf.places.length 2] 36),(2,Obj.coro none),(3,Obj.cells (Qai QaR (List.map Qci rf.places)) 38),(1,Obj.cells #[Qa1 0 (slT rf.places.length (Qai Qad rf.places)),.int .i64 rf.miss,.int .i64 rf.seasons,.int .i64 (plan.getD 0 0),.int .i64 (plan.getD 1 0),.int .i64 (plan.getD 2 0),.int .i64 (plan.getD 3 0)] 84),(0,Obj.coro none)]
def Qhs (rf:Qae) (plan:List Int) (k:Int):CF:=⟨91,ofList 6 [.agg #[Qa1 0 (slT rf.places.length (Qai Qad rf.places)),.int .i64 rf.miss,.int .i64 rf.seasons,.int .i64 (plan.getD 0 0),.int .i64 (plan.getD 1 0),.int .i64 (plan.getD 2 0),.int .i64 (plan.getD 3 0)],.int .i64 k],[Item.code (QaU YP 91)],[],.run,none⟩
theorem QyU (B:Lo) (rf:Qae) (plan:List Int) (k:Int):CE.finK 5 (Qap YP (QaF YP) J0 B 6 5 (Qhs rf plan k) (QfD rf plan k) 5
 [] 0 [] []) [] [] [{k:=5,rs:=[0],cs:=#[slT rf.places.length (Qai Qad rf.places),.int .i64 rf.miss,.int .i64 rf.seasons,.int .i64 (plan.getD 0 0),.int .i64 (plan.getD 1 0),.int .i64 (plan.getD 2 0),.int .i64 (plan.getD 3 0)]},{k:=6,rs:=[],cs:=#[.int .i64 k]}]=some (OO.ret (Value.func (Fn.func 112) #[] #[Qa1 5 (ptT 0 #[slT rf.places.length (Qai Qad rf.places),.int .i64 rf.miss,.int .i64 rf.seasons,.int .i64 (plan.getD 0 0),.int .i64 (plan.getD 1 0),.int .i64 (plan.getD 2 0),.int .i64 (plan.getD 3 0)]),Qa1 5 (ptT 0 #[.int .i64 k])]),[],[],
 [QcV (Fz.rs {k:=5,rs:=[0],cs:=(Qfp rf plan)}) #[Qa1 0 (slT rf.places.length (Qai Qad rf.places)),.int .i64 rf.miss,.int .i64 rf.seasons,.int .i64 (plan.getD 0 0),.int .i64 (plan.getD 1 0),.int .i64 (plan.getD 2 0),.int .i64 (plan.getD 3 0)] (Fz.cs {k:=5,rs:=[0],cs:=(Qfp rf plan)}),QcV (Fz.rs {k:=6,rs:=[],cs:=#[.int .i64 k]}) #[.int .i64 k] (Fz.cs {k:=6,rs:=[],cs:=#[.int .i64 k]})]):=by kernel_rfl
def Qcx (rf:Qae) (plan:List Int) (k:Int):Qax:=[(7,Obj.loop {state:=LoopState.ready,pending:=none,fn:=84,tmps:=#[.agg #[Qa1 0 (slT rf.places.length (Qai Qad rf.places)),.int .i64 rf.miss,.int .i64 rf.seasons,.int .i64 (plan.getD 0 0),.int .i64 (plan.getD 1 0),.int .i64 (plan.getD 2 0),.int .i64 (plan.getD 3 0)],.int .i64 k,pA 1 0,.tuple #[],.slice none 0 0,pA 4 0,.tuple #[],pA 1 0,pA 1 0,Qa1 0 (slT rf.places.length (Qai Qad rf.places)),.slice (some {block:=3,off:=0}) rf.places.length 2,.agg #[Qa1 0 (slT rf.places.length (Qai Qad rf.places)),.int .i64 rf.miss,.int .i64 rf.seasons,.int .i64 (plan.getD 0 0),.int .i64 (plan.getD 1 0),.int .i64 (plan.getD 2 0),.int .i64 (plan.getD 3 0)],.int .i64 k,Value.func (Fn.func 112) #[] #[Qa1 5 (ptT 0 #[slT rf.places.length (Qai Qad rf.places),.int .i64 rf.miss,.int .i64 rf.seasons,.int .i64 (plan.getD 0 0),.int .i64 (plan.getD 1 0),.int .i64 (plan.getD 2 0),.int .i64 (plan.getD 3 0)]),Qa1 5 (ptT 0 #[.int .i64 k])],.tuple #[],.tuple #[],.tuple #[],.tuple #[],.tuple #[],.tuple #[],.tuple #[],.tuple #[],.tuple #[],.tuple #[],.tuple #[],.tuple #[]],params:=#[14],assign:=nav (QaU YP 84) [1,1,0,1,0,0],body:=nav (QaU YP 84) [1,1,0,1,0,1],defers:=6}),(6,Obj.deferred (some [])),(5,Obj.coro none),(4,Obj.cells #[.slice (some {block:=3,off:=0}) rf.places.length 2] 36),(2,Obj.coro none),(3,Obj.cells (Qai QaR (List.map Qci rf.places)) 38),(1,Obj.cells #[Qa1 0 (slT rf.places.length (Qai Qad rf.places)),.int .i64 rf.miss,.int .i64 rf.seasons,.int .i64 (plan.getD 0 0),.int .i64 (plan.getD 1 0),.int .i64 (plan.getD 2 0),.int .i64 (plan.getD 3 0)] 84),(0,Obj.coro none)]
def QeF (rf:Qae) (plan:List Int) (k:Int):CF:=⟨112,ofList 27 [Value.func (Fn.yield 7) #[] #[],Qa1 5 (ptT 0 #[slT rf.places.length (Qai Qad rf.places),.int .i64 rf.miss,.int .i64 rf.seasons,.int .i64 (plan.getD 0 0),.int .i64 (plan.getD 1 0),.int .i64 (plan.getD 2 0),.int .i64 (plan.getD 3 0)]),Qa1 5 (ptT 0 #[.int .i64 k])],[Item.code (QaU YP 112)],[],.run,none⟩
def Qcp (rf:Qae) (plan:List Int) (k:Int) (i:Int) (ys:List Span):List Value:=[Value.func (Fn.yield 7) #[] #[],Qa1 5 (ptT 0 #[slT rf.places.length (Qai Qad rf.places),.int .i64 rf.miss,.int .i64 rf.seasons,.int .i64 (plan.getD 0 0),.int .i64 (plan.getD 1 0),.int .i64 (plan.getD 2 0),.int .i64 (plan.getD 3 0)]),Qa1 5 (ptT 0 #[.int .i64 k]),.int .i64 (↑rf.places.length:Int),.int .i64 i]
def Qcw (rf:Qae) (plan:List Int) (k:Int) (i:Int) (ys:List Span):List Obj:=[Obj.loop {state:=LoopState.ready,pending:=none,fn:=84,tmps:=#[.agg #[Qa1 0 (slT rf.places.length (Qai Qad rf.places)),.int .i64 rf.miss,.int .i64 rf.seasons,.int .i64 (plan.getD 0 0),.int .i64 (plan.getD 1 0),.int .i64 (plan.getD 2 0),.int .i64 (plan.getD 3 0)],.int .i64 k,pA 1 0,.tuple #[],.slice none 0 0,pA 4 0,.tuple #[],pA 1 0,pA 1 0,Qa1 0 (slT rf.places.length (Qai Qad rf.places)),.slice (some {block:=3,off:=0}) rf.places.length 2,.agg #[Qa1 0 (slT rf.places.length (Qai Qad rf.places)),.int .i64 rf.miss,.int .i64 rf.seasons,.int .i64 (plan.getD 0 0),.int .i64 (plan.getD 1 0),.int .i64 (plan.getD 2 0),.int .i64 (plan.getD 3 0)],.int .i64 k,Value.func (Fn.func 112) #[] #[Qa1 5 (ptT 0 #[slT rf.places.length (Qai Qad rf.places),.int .i64 rf.miss,.int .i64 rf.seasons,.int .i64 (plan.getD 0 0),.int .i64 (plan.getD 1 0),.int .i64 (plan.getD 2 0),.int .i64 (plan.getD 3 0)]),Qa1 5 (ptT 0 #[.int .i64 k])],.tuple #[],.tuple #[],.tuple #[],.tuple #[],.tuple #[],.tuple #[],.tuple #[],.tuple #[],.tuple #[],.tuple #[],.tuple #[],.tuple #[]],params:=#[14],assign:=nav (QaU YP 84) [1,1,0,1,0,0],body:=nav (QaU YP 84) [1,1,0,1,0,1],defers:=6},.cells (Qai QaR ys) 38 (0,0)]
def Qb1 (rf:Qae) (plan:List Int) (k:Int) (i:Int) (ys:List Span):List Obj:=[]
def Qc0:List Item:=([.code [1,0,0],.inLoop [1,0,0],.inBlock 0]).map (it (QaU YP 112))
def Ql1 (B:Lo) (rf:Qae) (plan:List Int) (k:Int) (i:Int) (ys:List Span) (dJ0:Nat->Value):List Prop:=[Qs1 YP BinOp.and 3 (QcO {len:=16000,tr:=Tri.set 14 Tri.lf 17 (.int .i64 (↑(QrC (Qaf [plan.getD 0 0,plan.getD 1 0,plan.getD 2 0,plan.getD 3 0] k.toNat) i):Int))} 17) (.int .i64 1) (.int .i64 (↑(Q1H (↑(QrC (Qaf [plan.getD 0 0,plan.getD 1 0,plan.getD 2 0,plan.getD 3 0] k.toNat) i):Int) 1):Int)),Qs1 YP BinOp.shr 3 (QcO {len:=16000,tr:=Tri.set 14 (Tri.set 14 Tri.lf 16 (.int .i64 i)) 15 (.int .i64 (Qaf [plan.getD 0 0,plan.getD 1 0,plan.getD 2 0,plan.getD 3 0] k.toNat))} 15) (QcO {len:=16000,tr:=Tri.set 14 (Tri.set 14 Tri.lf 16 (.int .i64 i)) 15 (.int .i64 (Qaf [plan.getD 0 0,plan.getD 1 0,plan.getD 2 0,plan.getD 3 0] k.toNat))} 16) (.int .i64 (↑(QrC (Qaf [plan.getD 0 0,plan.getD 1 0,plan.getD 2 0,plan.getD 3 0] k.toNat) i):Int)),k=(↑k.toNat:Int)/\Int.toNat k < 4/\Array.extract (Qfp rf plan) (3+Int.toNat k * TypeInfo.size Try.t3) (3+Int.toNat k * TypeInfo.size Try.t3+TypeInfo.size Try.t3)=#[.int .i64 (Qaf [plan.getD 0 0,plan.getD 1 0,plan.getD 2 0,plan.getD 3 0] k.toNat)],ltq i (↑rf.places.length:Int)=true]++([]:List Prop)
def QqB (rf:Qae) (plan:List Int) (k:Int) (i:Int) (ys:List Span) (dJ0:Nat->Value):Qaw:=[(0,hvT),(5,Qan.tarr k.toNat #[.int .i64 (Qaf [plan.getD 0 0,plan.getD 1 0,plan.getD 2 0,plan.getD 3 0] k.toNat)]),(8,Qan.bin (.int .i64 (↑(QrC (Qaf [plan.getD 0 0,plan.getD 1 0,plan.getD 2 0,plan.getD 3 0] k.toNat) i):Int))),(9,Qan.bin (.int .i64 (↑(Q1H (↑(QrC (Qaf [plan.getD 0 0,plan.getD 1 0,plan.getD 2 0,plan.getD 3 0] k.toNat) i):Int) 1):Int)))]
def Qf7 (rf:Qae) (plan:List Int) (k:Int) (i:Int) (ys:List Span) (dJ0:Nat->Value):Qax:=[(7,Obj.loop {state:=LoopState.ready,pending:=none,fn:=84,tmps:=#[.agg #[Qa1 0 (slT rf.places.length (Qai Qad rf.places)),.int .i64 rf.miss,.int .i64 rf.seasons,.int .i64 (plan.getD 0 0),.int .i64 (plan.getD 1 0),.int .i64 (plan.getD 2 0),.int .i64 (plan.getD 3 0)],.int .i64 k,pA 1 0,.tuple #[],.slice none 0 0,pA 4 0,.tuple #[],pA 1 0,pA 1 0,Qa1 0 (slT rf.places.length (Qai Qad rf.places)),.slice (some {block:=3,off:=0}) rf.places.length 2,.agg #[Qa1 0 (slT rf.places.length (Qai Qad rf.places)),.int .i64 rf.miss,.int .i64 rf.seasons,.int .i64 (plan.getD 0 0),.int .i64 (plan.getD 1 0),.int .i64 (plan.getD 2 0),.int .i64 (plan.getD 3 0)],.int .i64 k,Value.func (Fn.func 112) #[] #[Qa1 5 (ptT 0 #[slT rf.places.length (Qai Qad rf.places),.int .i64 rf.miss,.int .i64 rf.seasons,.int .i64 (plan.getD 0 0),.int .i64 (plan.getD 1 0),.int .i64 (plan.getD 2 0),.int .i64 (plan.getD 3 0)]),Qa1 5 (ptT 0 #[.int .i64 k])],.tuple #[],.tuple #[],.tuple #[],.tuple #[],.tuple #[],.tuple #[],.tuple #[],.tuple #[],.tuple #[],.tuple #[],.tuple #[],.tuple #[]],params:=#[14],assign:=nav (QaU YP 84) [1,1,0,1,0,0],body:=nav (QaU YP 84) [1,1,0,1,0,1],defers:=6}),(3,Obj.cells (Qai QaR ys) 38),(8,Obj.coro none),(7,Obj.loop {state:=LoopState.ready,pending:=none,fn:=84,tmps:=#[.agg #[Qa1 0 (slT rf.places.length (Qai Qad rf.places)),.int .i64 rf.miss,.int .i64 rf.seasons,.int .i64 (plan.getD 0 0),.int .i64 (plan.getD 1 0),.int .i64 (plan.getD 2 0),.int .i64 (plan.getD 3 0)],.int .i64 k,pA 1 0,.tuple #[],.slice none 0 0,pA 4 0,.tuple #[],pA 1 0,pA 1 0,Qa1 0 (slT rf.places.length (Qai Qad rf.places)),.slice (some {block:=3,off:=0}) rf.places.length 2,.agg #[Qa1 0 (slT rf.places.length (Qai Qad rf.places)),.int .i64 rf.miss,.int .i64 rf.seasons,.int .i64 (plan.getD 0 0),.int .i64 (plan.getD 1 0),.int .i64 (plan.getD 2 0),.int .i64 (plan.getD 3 0)],.int .i64 k,Value.func (Fn.func 112) #[] #[Qa1 5 (ptT 0 #[slT rf.places.length (Qai Qad rf.places),.int .i64 rf.miss,.int .i64 rf.seasons,.int .i64 (plan.getD 0 0),.int .i64 (plan.getD 1 0),.int .i64 (plan.getD 2 0),.int .i64 (plan.getD 3 0)]),Qa1 5 (ptT 0 #[.int .i64 k])],.tuple #[],.tuple #[],.tuple #[],.tuple #[],.tuple #[],.tuple #[],.tuple #[],.tuple #[],.tuple #[],.tuple #[],.tuple #[],.tuple #[]],params:=#[14],assign:=nav (QaU YP 84) [1,1,0,1,0,0],body:=nav (QaU YP 84) [1,1,0,1,0,1],defers:=6}),(6,Obj.deferred (some [])),(5,Obj.coro none),(4,Obj.cells #[.slice (some {block:=3,off:=0}) rf.places.length 2] 36),(2,Obj.coro none),(3,Obj.cells (Qai QaR (List.map Qci rf.places)) 38),(1,Obj.cells #[Qa1 0 (slT rf.places.length (Qai Qad rf.places)),.int .i64 rf.miss,.int .i64 rf.seasons,.int .i64 (plan.getD 0 0),.int .i64 (plan.getD 1 0),.int .i64 (plan.getD 2 0),.int .i64 (plan.getD 3 0)] 84),(0,Obj.coro none)]
def QgW (rf:Qae) (plan:List Int) (k:Int) (i:Int) (ys:List Span) (dJ0:Nat->Value):CF:=⟨84,ofList 26 [.agg #[Qa1 0 (slT rf.places.length (Qai Qad rf.places)),.int .i64 rf.miss,.int .i64 rf.seasons,.int .i64 (plan.getD 0 0),.int .i64 (plan.getD 1 0),.int .i64 (plan.getD 2 0),.int .i64 (plan.getD 3 0)],.int .i64 k,pA 1 0,.tuple #[],.slice none 0 0,pA 4 0,.tuple #[],pA 1 0,pA 1 0,Qa1 0 (slT rf.places.length (Qai Qad rf.places)),.slice (some {block:=3,off:=0}) rf.places.length 2,.agg #[Qa1 0 (slT rf.places.length (Qai Qad rf.places)),.int .i64 rf.miss,.int .i64 rf.seasons,.int .i64 (plan.getD 0 0),.int .i64 (plan.getD 1 0),.int .i64 (plan.getD 2 0),.int .i64 (plan.getD 3 0)],.int .i64 k,Value.func (Fn.func 112) #[] #[Qa1 5 (ptT 0 #[slT rf.places.length (Qai Qad rf.places),.int .i64 rf.miss,.int .i64 rf.seasons,.int .i64 (plan.getD 0 0),.int .i64 (plan.getD 1 0),.int .i64 (plan.getD 2 0),.int .i64 (plan.getD 3 0)]),Qa1 5 (ptT 0 #[.int .i64 k])],.int .i64 i,.tuple #[],.tuple #[],.tuple #[],.tuple #[],.tuple #[],.tuple #[],.tuple #[],.tuple #[],.tuple #[],.tuple #[],.tuple #[]],[Item.code (nav (QaU YP 84) [1,1,0,1,0,0]),Item.beginRound,Item.code (nav (QaU YP 84) [1,1,0,1,0,1])],[],.run,some 7⟩
theorem Qyz (B:Lo) (rf:Qae) (plan:List Int) (k:Int) (i:Int) (ys:List Span) (dJ0:Nat->Value):CE.finK 9 (Qap YP (QaF YP) J0 B 6 9 (QgW rf plan k i ys dJ0) (Qf7 rf plan k i ys dJ0) 9
 [(7,Qan.tidx i.toNat (Qhj rf i)),(10,Qan.old (Hint.idx i.toNat)),(11,Qan.old (Hint.st (Qai QaR (List.set ys i.toNat {lo:=Qaa.slo (rf.places.getD i.toNat default),hi:=Qaa.shi (rf.places.getD i.toNat default)}))))] 0 [] []) [(7,KS.auto),(3,KS.cells [] (Qai QaR (List.set ys i.toNat {lo:=Qaa.slo (rf.places.getD i.toNat default),hi:=Qaa.shi (rf.places.getD i.toNat default)})))] [] []=some (OO.ret (.bool true),[(7,Obj.loop {state:=LoopState.ready,pending:=none,fn:=84,tmps:=#[.agg #[Qa1 0 (slT rf.places.length (Qai Qad rf.places)),.int .i64 rf.miss,.int .i64 rf.seasons,.int .i64 (plan.getD 0 0),.int .i64 (plan.getD 1 0),.int .i64 (plan.getD 2 0),.int .i64 (plan.getD 3 0)],.int .i64 k,pA 1 0,.tuple #[],.slice none 0 0,pA 4 0,.tuple #[],pA 1 0,pA 1 0,Qa1 0 (slT rf.places.length (Qai Qad rf.places)),.slice (some {block:=3,off:=0}) rf.places.length 2,.agg #[Qa1 0 (slT rf.places.length (Qai Qad rf.places)),.int .i64 rf.miss,.int .i64 rf.seasons,.int .i64 (plan.getD 0 0),.int .i64 (plan.getD 1 0),.int .i64 (plan.getD 2 0),.int .i64 (plan.getD 3 0)],.int .i64 k,Value.func (Fn.func 112) #[] #[Qa1 5 (ptT 0 #[slT rf.places.length (Qai Qad rf.places),.int .i64 rf.miss,.int .i64 rf.seasons,.int .i64 (plan.getD 0 0),.int .i64 (plan.getD 1 0),.int .i64 (plan.getD 2 0),.int .i64 (plan.getD 3 0)]),Qa1 5 (ptT 0 #[.int .i64 k])],.tuple #[],.tuple #[],.tuple #[],.tuple #[],.tuple #[],.tuple #[],.tuple #[],.tuple #[],.tuple #[],.tuple #[],.tuple #[],.tuple #[]],params:=#[14],assign:=nav (QaU YP 84) [1,1,0,1,0,0],body:=nav (QaU YP 84) [1,1,0,1,0,1],defers:=6}),(3,Obj.cells (Qai QaR (List.set ys i.toNat {lo:=Qaa.slo (rf.places.getD i.toNat default),hi:=Qaa.shi (rf.places.getD i.toNat default)})) 38)],[],
 [Qfx 9 [] (Qai QaR (List.set ys i.toNat {lo:=Qaa.slo (rf.places.getD i.toNat default),hi:=Qaa.shi (rf.places.getD i.toNat default)})) (Qai QaR (List.set ys i.toNat {lo:=Qaa.slo (rf.places.getD i.toNat default),hi:=Qaa.shi (rf.places.getD i.toNat default)})),0+Int.toNat i * 2+TypeInfo.size Try.t38<=Array.size (Qai QaR ys)/\splice (Qai QaR ys) (0+Int.toNat i * 2) (Value.cells (QcO {len:=16000,tr:=Tri.set 14 (Tri.set 14 Tri.lf 23 (.agg #[.int .i64 (Qaa.slo (rf.places.getD i.toNat default)),.int .i64 (Qaa.shi (rf.places.getD i.toNat default))])) 24 (.pointer (some {block:=3,off:=0+Int.toNat i * 2}))} 23))=Qai QaR (List.set ys i.toNat {lo:=Qaa.slo (rf.places.getD i.toNat default),hi:=Qaa.shi (rf.places.getD i.toNat default)}),i=(↑i.toNat:Int)/\Int.toNat i < List.length rf.places,i=(↑i.toNat:Int)/\Int.toNat i < List.length rf.places/\Array.extract (Qai Qad rf.places) (Int.toNat i * TypeInfo.size Try.t54) (Int.toNat i * TypeInfo.size Try.t54+TypeInfo.size Try.t54)=(Qhj rf i)]):=by kernel_rfl
theorem QyV (B:Lo) (rf:Qae) (plan:List Int) (k:Int) (i:Int) (ys:List Span) (dJ0:Nat->Value):CE.landA 8 (Qap YP (QaF YP) J0 B 16 8 (Qeu (none) 112 27 (([0,1,2,8,9]:List Nat).zip (Qcp rf plan k i ys)) dJ0 Qc0) (Qda (Qcx rf plan k) 8 (([7,3]:List Nat).zip (Qcw rf plan k i ys)) (Qb1 rf plan k i ys)) (8+1+(Qb1 rf plan k i ys).length)
 (QqB rf plan k i ys dJ0++[(10,hvT),(14,Qan.call (List.range 9) (OO.ret (.bool true)) ([(7,Obj.loop {state:=LoopState.ready,pending:=none,fn:=84,tmps:=(Qh0 rf plan k),params:=#[14],assign:=nav (QaU YP 84) [1,1,0,1,0,0],body:=nav (QaU YP 84) [1,1,0,1,0,1],defers:=6}),(3,Obj.cells (Qai QaR (List.set ys i.toNat {lo:=Qaa.slo (rf.places.getD i.toNat default),hi:=Qaa.shi (rf.places.getD i.toNat default)})) 38)]++(9,Qb0)::Qbb 10 []) 10 [7,3]),(17,hvI (i+1))]) 0 [] []) [0,1,2,8,9] [(7,KS.auto),(3,KS.cells [] (Qai QaR (List.set ys i.toNat {lo:=Qaa.slo (rf.places.getD i.toNat default),hi:=Qaa.shi (rf.places.getD i.toNat default)})))] [] []=some ⟨112,27,Qc0,[],.run,none,Qcp rf plan k (i+1) (List.set ys i.toNat {lo:=Qaa.slo (rf.places.getD i.toNat default),hi:=Qaa.shi (rf.places.getD i.toNat default)}),([7,3]:List Nat).zip (Qcw rf plan k (i+1) (List.set ys i.toNat {lo:=Qaa.slo (rf.places.getD i.toNat default),hi:=Qaa.shi (rf.places.getD i.toNat default)})),Qb1 rf plan k (i+1) (List.set ys i.toNat {lo:=Qaa.slo (rf.places.getD i.toNat default),hi:=Qaa.shi (rf.places.getD i.toNat default)}),
 [Qfx 8 [] (Qai QaR (List.set ys i.toNat {lo:=Qaa.slo (rf.places.getD i.toNat default),hi:=Qaa.shi (rf.places.getD i.toNat default)})) (Qai QaR (List.set ys i.toNat {lo:=Qaa.slo (rf.places.getD i.toNat default),hi:=Qaa.shi (rf.places.getD i.toNat default)})),wq (i+1)=i+1,FJ YP B (QgW rf plan k i ys dJ0) (Qf7 rf plan k i ys dJ0) 9 (OO.ret (.bool true)) (([(7,Obj.loop {state:=LoopState.ready,pending:=none,fn:=84,tmps:=(Qh0 rf plan k),params:=#[14],assign:=nav (QaU YP 84) [1,1,0,1,0,0],body:=nav (QaU YP 84) [1,1,0,1,0,1],defers:=6}),(3,Obj.cells (Qai QaR (List.set ys i.toNat {lo:=Qaa.slo (rf.places.getD i.toNat default),hi:=Qaa.shi (rf.places.getD i.toNat default)})) 38)]++((9,Qb0)::Qbb (9+1) []))++Qf7 rf plan k i ys dJ0) 10 (List.range 9) [7,3],eqq (↑(Q1H (↑(QrC (Qaf [plan.getD 0 0,plan.getD 1 0,plan.getD 2 0,plan.getD 3 0] k.toNat) i):Int) 1):Int) 1=true]++Ql1 B rf plan k i ys dJ0⟩:=by kernel_rfl
theorem QyQ (B:Lo) (rf:Qae) (plan:List Int) (k:Int) (i:Int) (ys:List Span) (dJ0:Nat->Value):CE.landA 8 (Qap YP (QaF YP) J0 B 16 8 (Qeu (none) 112 27 (([0,1,2,8,9]:List Nat).zip (Qcp rf plan k i ys)) dJ0 Qc0) (Qda (Qcx rf plan k) 8 (([7,3]:List Nat).zip (Qcw rf plan k i ys)) (Qb1 rf plan k i ys)) (8+1+(Qb1 rf plan k i ys).length)
 (QqB rf plan k i ys dJ0++[(10,hvF),(17,hvI (i+1))]) 0 [] []) [0,1,2,8,9] [(7,KS.auto),(3,KS.cells [] (Qai QaR ys))] [] []=some ⟨112,27,Qc0,[],.run,none,Qcp rf plan k (i+1) (ys),([7,3]:List Nat).zip (Qcw rf plan k (i+1) (ys)),Qb1 rf plan k (i+1) (ys),
 [Qfx 8 [] (Qai QaR ys) (Qai QaR ys),wq (i+1)=i+1,eqq (↑(Q1H (↑(QrC (Qaf [plan.getD 0 0,plan.getD 1 0,plan.getD 2 0,plan.getD 3 0] k.toNat) i):Int) 1):Int) 1=false]++Ql1 B rf plan k i ys dJ0⟩:=by kernel_rfl
theorem QyL (B:Lo) (rf:Qae) (plan:List Int) (k:Int) (i:Int) (ys:List Span) (dJ0:Nat->Value):CE.finK 8 (Qap YP (QaF YP) J0 B 7 8 (Qeu (none) 112 27 (([0,1,2,8,9]:List Nat).zip (Qcp rf plan k i ys)) dJ0 Qc0) (Qda (Qcx rf plan k) 8 (([7,3]:List Nat).zip (Qcw rf plan k i ys)) (Qb1 rf plan k i ys)) (8+1+(Qb1 rf plan k i ys).length)
 [(0,hvF)] 0 [] []) [(7,KS.auto),(3,KS.cells [] (Qai QaR ys))] [] []=some (OO.ret (.tuple #[]),[(7,Obj.loop {state:=LoopState.ready,pending:=none,fn:=84,tmps:=#[.agg #[Qa1 0 (slT rf.places.length (Qai Qad rf.places)),.int .i64 rf.miss,.int .i64 rf.seasons,.int .i64 (plan.getD 0 0),.int .i64 (plan.getD 1 0),.int .i64 (plan.getD 2 0),.int .i64 (plan.getD 3 0)],.int .i64 k,pA 1 0,.tuple #[],.slice none 0 0,pA 4 0,.tuple #[],pA 1 0,pA 1 0,Qa1 0 (slT rf.places.length (Qai Qad rf.places)),.slice (some {block:=3,off:=0}) rf.places.length 2,.agg #[Qa1 0 (slT rf.places.length (Qai Qad rf.places)),.int .i64 rf.miss,.int .i64 rf.seasons,.int .i64 (plan.getD 0 0),.int .i64 (plan.getD 1 0),.int .i64 (plan.getD 2 0),.int .i64 (plan.getD 3 0)],.int .i64 k,Value.func (Fn.func 112) #[] #[Qa1 5 (ptT 0 #[slT rf.places.length (Qai Qad rf.places),.int .i64 rf.miss,.int .i64 rf.seasons,.int .i64 (plan.getD 0 0),.int .i64 (plan.getD 1 0),.int .i64 (plan.getD 2 0),.int .i64 (plan.getD 3 0)]),Qa1 5 (ptT 0 #[.int .i64 k])],.tuple #[],.tuple #[],.tuple #[],.tuple #[],.tuple #[],.tuple #[],.tuple #[],.tuple #[],.tuple #[],.tuple #[],.tuple #[],.tuple #[]],params:=#[14],assign:=nav (QaU YP 84) [1,1,0,1,0,0],body:=nav (QaU YP 84) [1,1,0,1,0,1],defers:=6}),(3,Obj.cells (Qai QaR ys) 38)],[],
 [Qfx 8 [] (Qai QaR ys) (Qai QaR ys),ltq i (↑rf.places.length:Int)=false]):=by kernel_rfl
set_option maxHeartbeats 4000000 in
theorem QqH (rf:Qae) (plan:List Int) (k:Int) (hn:rf.places.length<=4) (hl:plan.length<=4) (k0:0<=k) (k1:k < 4) (hp:∀j:Nat,0<=plan.getD j 0/\plan.getD j 0<=1000000) {B:Lo} (hJ:∀w,B.has w->J0 w):∀m:Nat,(∀(i:Int) (ys:List Span),rf.places.length - i.toNat=m->∀(i0:0<=i) (hy:ys=Qh2 rf.places (plan.getD k.toNat 0) i),(∃dJ0:Nat->Value,(∀t,QbB (dJ0 t))/\GoE YP B (QeF rf plan k) (Qcx rf plan k) 8 (Qeu (none) 112 27 (([0,1,2,8,9]:List Nat).zip (Qcp rf plan k i ys)) dJ0 Qc0) (Qda (Qcx rf plan k) 8 (([7,3]:List Nat).zip (Qcw rf plan k i ys)) (Qb1 rf plan k i ys)) (8+1+(Qb1 rf plan k i ys).length) ([7,3]:List Nat))->FinK YP B (QeF rf plan k) (Qcx rf plan k) 8 (.ret (.tuple #[])) (([7,3]:List Nat).zip ([Obj.loop {state:=LoopState.ready,pending:=none,fn:=84,tmps:=#[.agg #[Qa1 0 (slT rf.places.length (Qai Qad rf.places)),.int .i64 rf.miss,.int .i64 rf.seasons,.int .i64 (plan.getD 0 0),.int .i64 (plan.getD 1 0),.int .i64 (plan.getD 2 0),.int .i64 (plan.getD 3 0)],.int .i64 k,pA 1 0,.tuple #[],.slice none 0 0,pA 4 0,.tuple #[],pA 1 0,pA 1 0,Qa1 0 (slT rf.places.length (Qai Qad rf.places)),.slice (some {block:=3,off:=0}) rf.places.length 2,.agg #[Qa1 0 (slT rf.places.length (Qai Qad rf.places)),.int .i64 rf.miss,.int .i64 rf.seasons,.int .i64 (plan.getD 0 0),.int .i64 (plan.getD 1 0),.int .i64 (plan.getD 2 0),.int .i64 (plan.getD 3 0)],.int .i64 k,Value.func (Fn.func 112) #[] #[Qa1 5 (ptT 0 #[slT rf.places.length (Qai Qad rf.places),.int .i64 rf.miss,.int .i64 rf.seasons,.int .i64 (plan.getD 0 0),.int .i64 (plan.getD 1 0),.int .i64 (plan.getD 2 0),.int .i64 (plan.getD 3 0)]),Qa1 5 (ptT 0 #[.int .i64 k])],.tuple #[],.tuple #[],.tuple #[],.tuple #[],.tuple #[],.tuple #[],.tuple #[],.tuple #[],.tuple #[],.tuple #[],.tuple #[],.tuple #[]],params:=#[14],assign:=nav (QaU YP 84) [1,1,0,1,0,0],body:=nav (QaU YP 84) [1,1,0,1,0,1],defers:=6},.cells (Qai QaR (Qbd rf.places (plan.getD k.toNat 0))) 38 (0,0)])) ([]) ([7,3]:List Nat)):=by
 intro m0;induction m0 using Nat.strongRecOn with
 | _ m0 ih0=>
   intro i ys hm0 i0 hy ⟨dJ0,hdJ0,hg0⟩;have hyl:ys.length=rf.places.length:=by rw [hy];simp [Qh2,Qcb]
   have hpk:=hp k.toNat;have hse:=Q6g (k:=k.toNat) hl;have hsh:=Q59 (n:=Qaf [plan.getD 0 0,plan.getD 1 0,plan.getD 2 0,plan.getD 3 0] k.toNat) (k:=i) (by omega);by_cases q0:(i:Int) < ((↑rf.places.length:Int))
   ·have hp0:QaA (Ql1 B rf plan k i ys dJ0):=by
     exact ⟨(Q3F (by omega) (by omega) (by omega) (by omega)),⟨(Q4e (by omega) (by omega) (by omega)),⟨⟨by omega,by omega,Q2G (fs:=[plan.getD 0 0,plan.getD 1 0,plan.getD 2 0,plan.getD 3 0]) rfl (Nat.lt_of_lt_of_eq (m:=4) (by omega) rfl)⟩,⟨(Qbw q0),trivial⟩⟩⟩⟩
    by_cases q1:((↑(Q1H (↑(QrC (Qaf [plan.getD 0 0,plan.getD 1 0,plan.getD 2 0,plan.getD 3 0] k.toNat) i):Int) 1):Int):Int)=(1)
    ·have rj3:FJ YP B (QgW rf plan k i ys dJ0) (Qf7 rf plan k i ys dJ0) 9 (OO.ret (.bool true)) (([(7,Obj.loop {state:=LoopState.ready,pending:=none,fn:=84,tmps:=#[.agg #[Qa1 0 (slT rf.places.length (Qai Qad rf.places)),.int .i64 rf.miss,.int .i64 rf.seasons,.int .i64 (plan.getD 0 0),.int .i64 (plan.getD 1 0),.int .i64 (plan.getD 2 0),.int .i64 (plan.getD 3 0)],.int .i64 k,pA 1 0,.tuple #[],.slice none 0 0,pA 4 0,.tuple #[],pA 1 0,pA 1 0,Qa1 0 (slT rf.places.length (Qai Qad rf.places)),.slice (some {block:=3,off:=0}) rf.places.length 2,.agg #[Qa1 0 (slT rf.places.length (Qai Qad rf.places)),.int .i64 rf.miss,.int .i64 rf.seasons,.int .i64 (plan.getD 0 0),.int .i64 (plan.getD 1 0),.int .i64 (plan.getD 2 0),.int .i64 (plan.getD 3 0)],.int .i64 k,Value.func (Fn.func 112) #[] #[Qa1 5 (ptT 0 #[slT rf.places.length (Qai Qad rf.places),.int .i64 rf.miss,.int .i64 rf.seasons,.int .i64 (plan.getD 0 0),.int .i64 (plan.getD 1 0),.int .i64 (plan.getD 2 0),.int .i64 (plan.getD 3 0)]),Qa1 5 (ptT 0 #[.int .i64 k])],.tuple #[],.tuple #[],.tuple #[],.tuple #[],.tuple #[],.tuple #[],.tuple #[],.tuple #[],.tuple #[],.tuple #[],.tuple #[],.tuple #[]],params:=#[14],assign:=nav (QaU YP 84) [1,1,0,1,0,0],body:=nav (QaU YP 84) [1,1,0,1,0,1],defers:=6}),(3,Obj.cells (Qai QaR (List.set ys i.toNat {lo:=Qaa.slo (rf.places.getD i.toNat default),hi:=Qaa.shi (rf.places.getD i.toNat default)})) 38)]++((9,Qb0)::Qbb (9+1) []))++Qf7 rf plan k i ys dJ0) 10 (List.range 9) [7,3]:=by
      have hyes:=Qm0 (ps:=rf.places) (p:=plan.getD k.toNat 0) i0 q0 (by rw [<-Qul,<-hse];exact decide_eq_true q1);exact FinK.fjB (GoE.finK okF hJ Qac (Qa2 (by kernel_rfl)) (Qas (by kernel_rfl)) ((GoE.refl (P:=YP) (B:=B) (c0:=QgW rf plan k i ys dJ0) (Qa2 (by kernel_rfl))).widen (Wf:=((([(7,KS.auto),(3,KS.cells [] (Qai QaR (List.set ys i.toNat {lo:=Qaa.slo (rf.places.getD i.toNat default),hi:=Qaa.shi (rf.places.getD i.toNat default)})))]):List (Nat×KS)).map (·.1))) (by simp) (Qas (by kernel_rfl))) (Qyz B rf plan k i ys dJ0)
       ⟨(QbC (Qb9 (fun x=> List.all_eq_true.1 (by rfl)))),⟨(by exact Qjx (z:=2) (fun _=> rfl) (by omega) rfl rfl),⟨⟨by omega,by omega⟩,⟨⟨by omega,by omega,(Qat (z:=12) (fun _=> rfl) (by omega))⟩,trivial⟩⟩⟩⟩) (ex:=[3]) (by kernel_rfl) ⟨trivial,⟨(Qel (t:=38) (fl:=(0,0)) (fun x=> List.all_eq_true.1 (by rfl))),⟨trivial,⟨trivial,⟨trivial,⟨trivial,⟨trivial,⟨trivial,⟨(Qel (t:=38) (fl:=(0,0)) (fun x=> List.all_eq_true.1 (by rfl))),⟨trivial,⟨trivial,trivial⟩⟩⟩⟩⟩⟩⟩⟩⟩⟩⟩
     have hyes:=Qm0 (ps:=rf.places) (p:=plan.getD k.toNat 0) i0 q0 (by rw [<-Qul,<-hse];exact decide_eq_true q1);exact ((ih0 _ (by omega)) (i+1) (List.set ys i.toNat {lo:=Qaa.slo (rf.places.getD i.toNat default),hi:=Qaa.shi (rf.places.getD i.toNat default)}) rfl (by omega) (by (rw [hy];exact hyes))
      (GoE.landA okF hJ Qac (Qa2 (by kernel_rfl)) (Qas (by kernel_rfl)) hg0 (QyV B rf plan k i ys dJ0)
      (by exact ⟨(QbC (Qb9 (fun x=> List.all_eq_true.1 (by rfl)))),⟨(Qbj (by omega) (by omega)),⟨rj3,⟨(Qii q1),hp0⟩⟩⟩⟩) (by kernel_rfl) (by kernel_rfl) (fun l hl=> by cases hl <;> decide))).cast (by rfl) (by rfl) (by rfl)
    ·have hno:=Q0C (ps:=rf.places) (p:=plan.getD k.toNat 0) i0 (by rw [<-Qul,<-hse];exact decide_eq_false q1);exact ((ih0 _ (by omega)) (i+1) (ys) rfl (by omega) (by (rw [hy];exact hno))
      (GoE.landA okF hJ Qac (Qa2 (by kernel_rfl)) (Qas (by kernel_rfl)) hg0 (QyQ B rf plan k i ys dJ0)
      ⟨(QbC (Qb9 (fun x=> List.all_eq_true.1 (by rfl)))),⟨(Qbj (by omega) (by omega)),⟨(QhA q1),hp0⟩⟩⟩ (by kernel_rfl) (by kernel_rfl) (fun l hl=> by cases hl <;> decide))).cast (by rfl) (by rfl) (by rfl)
   ·exact (GoE.finK okF hJ Qac (Qa2 (by kernel_rfl)) (Qas (by kernel_rfl)) hg0 (QyL B rf plan k i ys dJ0)
     ⟨(QbC (Qb9 (fun x=> List.all_eq_true.1 (by rfl)))),⟨(Qby (Int.not_lt.1 q0)),trivial⟩⟩).cast (by rfl) (by (rw [hy,Qye (by omega)];rfl)) (by rfl)

theorem Qzp (B:Lo) (rf:Qae) (plan:List Int) (k:Int):CE.landA 8 (Qap YP (QaF YP) J0 B 4 8 (QeF rf plan k) (Qcx rf plan k) 8
 [] 0 [] []) [0,1,2,8,9] [(7,KS.auto),(3,KS.cells [] (Qai QaR (List.map Qci rf.places)))] [] []=some ⟨112,27,Qc0,[],.run,none,Qcp rf plan k (0) (List.map Qci rf.places),([7,3]:List Nat).zip (Qcw rf plan k (0) (List.map Qci rf.places)),Qb1 rf plan k (0) (List.map Qci rf.places),
 [Qfx 8 [] (Qai QaR (List.map Qci rf.places)) (Qai QaR (List.map Qci rf.places))]⟩:=by kernel_rfl
theorem Qx9 (B:Lo) (rf:Qae) (plan:List Int) (k:Int):Qbi (Qap YP (QaF YP) J0 B 16 1 (Qaq YP 84 26 (([.agg (QaY rf plan).toArray,.int .i64 k]).map (Qa6 0 4))) H00 1
 [(5,Qan.call (List.range 2) (OO.ret (.slice (some {block:=3,off:=0}) rf.places.length 2)) ([]++(2,Qb0)::Qbb 3 [Obj.cells (Qai QaR (List.map Qci rf.places)) 38]) 4 []),(10,Qan.call (List.range 5) (OO.ret (Value.func (Fn.func 112) #[] #[Qa1 5 (ptT 0 (Qfp rf plan)),Qa1 5 (ptT 0 #[.int .i64 k])])) ([]++(5,Qb0)::Qbb 6 []) 6 []),(11,Qan.call (List.range 8) (OO.ret (.tuple #[])) ([(7,Obj.loop {state:=LoopState.ready,pending:=none,fn:=84,tmps:=(Qh0 rf plan k),params:=#[14],assign:=nav (QaU YP 84) [1,1,0,1,0,0],body:=nav (QaU YP 84) [1,1,0,1,0,1],defers:=6}),(3,Obj.cells (Qai QaR (Qbd rf.places (plan.getD k.toNat 0))) 38)]++(8,Qb0)::Qbb 9 []) 9 [7,3])] 0 [] []) [{k:=3,rs:=[],cs:=Qai QaR (Qbd rf.places (plan.getD k.toNat 0))}]=some (slT rf.places.length (Fz.cs {k:=3,rs:=[],cs:=Qai QaR (Qbd rf.places (plan.getD k.toNat 0))}),
 [QcV (Fz.rs {k:=3,rs:=[],cs:=Qai QaR (Qbd rf.places (plan.getD k.toNat 0))}) (Qai QaR (Qbd rf.places (plan.getD k.toNat 0))) (Fz.cs {k:=3,rs:=[],cs:=Qai QaR (Qbd rf.places (plan.getD k.toNat 0))}),FJ YP B (QeF rf plan k) (Qcx rf plan k) 8 (OO.ret (.tuple #[])) (([(7,Obj.loop {state:=LoopState.ready,pending:=none,fn:=84,tmps:=(Qh0 rf plan k),params:=#[14],assign:=nav (QaU YP 84) [1,1,0,1,0,0],body:=nav (QaU YP 84) [1,1,0,1,0,1],defers:=6}),(3,Obj.cells (Qai QaR (Qbd rf.places (plan.getD k.toNat 0))) 38)]++((8,Qb0)::Qbb (8+1) []))++Qcx rf plan k) 9 (List.range 8) [7,3],FJ YP B (Qhs rf plan k) (QfD rf plan k) 5 (OO.ret (Value.func (Fn.func 112) #[] #[Qa1 5 (ptT 0 (Qfp rf plan)),Qa1 5 (ptT 0 #[.int .i64 k])])) (([]++((5,Qb0)::Qbb (5+1) []))++QfD rf plan k) 6 (List.range 5) [],FJ YP B (Qe4 rf plan k) (QcE rf plan k) 2 (OO.ret (.slice (some {block:=3,off:=0}) rf.places.length 2)) (([]++((2,Qb0)::Qbb (2+1) [Obj.cells (Qai QaR (List.map Qci rf.places)) 38]))++QcE rf plan k) 4 (List.range 2) []]):=by kernel_rfl
set_option maxHeartbeats 4000000 in
theorem Q1m (rf:Qae) (plan:List Int) (k:Int) (hn:rf.places.length<=4) (hl:plan.length<=4) (k0:0<=k) (k1:k < 4) (hp:∀j:Nat,0<=plan.getD j 0/\plan.getD j 0<=1000000) {B:Lo} (hJ:∀w,B.has w->J0 w):EndsT YP B (Qaq YP 84 26 (([.agg (QaY rf plan).toArray,.int .i64 k]).map (Qa6 0 4))) (QrD (Qbd rf.places (plan.getD k.toNat 0))):=by
 have rj0:FJ YP B (Qe4 rf plan k) (QcE rf plan k) 2 (OO.ret (.slice (some {block:=3,off:=0}) rf.places.length 2)) (([]++((2,Qb0)::Qbb (2+1) [Obj.cells (Qai QaR (List.map Qci rf.places)) 38]))++QcE rf plan k) 4 (List.range 2) []:=by
  exact FinK.fjB ((QqX rf plan k hn hl k0 k1 hp hJ _) (0) (List.replicate rf.places.length {lo:=0,hi:=0}) rfl (by omega) (by exact Qtx)
   (GoE.landA okF hJ Qac (Qa2 (by kernel_rfl)) (Qas (by kernel_rfl)) ((GoE.refl (P:=YP) (B:=B) (c0:=Qe4 rf plan k) (Qa2 (by kernel_rfl))).widen (Wf:=((([]):List (Nat×KS)).map (·.1))) (by simp) (Qas (by kernel_rfl))) (Q0n B rf plan k)
   ⟨(by exact (QdR (by exact ⟨(.simple rfl),⟨(.simple rfl),trivial⟩⟩) _)),⟨(Qwk (bytes:=16) (by kernel_rfl) (by omega) (by omega) (by omega)),trivial⟩⟩ (by kernel_rfl) (by kernel_rfl) (fun l hl=> by cases hl <;> decide))) (ex:=[]) (by kernel_rfl) (Qde _)
 have rj1:FJ YP B (Qhs rf plan k) (QfD rf plan k) 5 (OO.ret (Value.func (Fn.func 112) #[] #[Qa1 5 (ptT 0 #[slT rf.places.length (Qai Qad rf.places),.int .i64 rf.miss,.int .i64 rf.seasons,.int .i64 (plan.getD 0 0),.int .i64 (plan.getD 1 0),.int .i64 (plan.getD 2 0),.int .i64 (plan.getD 3 0)]),Qa1 5 (ptT 0 #[.int .i64 k])])) (([]++((5,Qb0)::Qbb (5+1) []))++QfD rf plan k) 6 (List.range 5) []:=by
  exact FinK.fjB (GoE.finK okF hJ Qac (Qa2 (by kernel_rfl)) (Qas (by kernel_rfl)) ((GoE.refl (P:=YP) (B:=B) (c0:=Qhs rf plan k) (Qa2 (by kernel_rfl))).widen (Wf:=((([]):List (Nat×KS)).map (·.1))) (by simp) (Qas (by kernel_rfl))) (QyU B rf plan k)
   ⟨(Qz4 (by kernel_rfl)),⟨(Qhi (by kernel_rfl)),trivial⟩⟩) (ex:=[3]) (by kernel_rfl) ⟨trivial,⟨trivial,⟨(Qel (t:=38) (fl:=(0,0)) (fun x=> List.all_eq_true.1 (by rfl))),⟨trivial,⟨trivial,trivial⟩⟩⟩⟩⟩
 have rj2:FJ YP B (QeF rf plan k) (Qcx rf plan k) 8 (OO.ret (.tuple #[])) (([(7,Obj.loop {state:=LoopState.ready,pending:=none,fn:=84,tmps:=#[.agg #[Qa1 0 (slT rf.places.length (Qai Qad rf.places)),.int .i64 rf.miss,.int .i64 rf.seasons,.int .i64 (plan.getD 0 0),.int .i64 (plan.getD 1 0),.int .i64 (plan.getD 2 0),.int .i64 (plan.getD 3 0)],.int .i64 k,pA 1 0,.tuple #[],.slice none 0 0,pA 4 0,.tuple #[],pA 1 0,pA 1 0,Qa1 0 (slT rf.places.length (Qai Qad rf.places)),.slice (some {block:=3,off:=0}) rf.places.length 2,.agg #[Qa1 0 (slT rf.places.length (Qai Qad rf.places)),.int .i64 rf.miss,.int .i64 rf.seasons,.int .i64 (plan.getD 0 0),.int .i64 (plan.getD 1 0),.int .i64 (plan.getD 2 0),.int .i64 (plan.getD 3 0)],.int .i64 k,Value.func (Fn.func 112) #[] #[Qa1 5 (ptT 0 #[slT rf.places.length (Qai Qad rf.places),.int .i64 rf.miss,.int .i64 rf.seasons,.int .i64 (plan.getD 0 0),.int .i64 (plan.getD 1 0),.int .i64 (plan.getD 2 0),.int .i64 (plan.getD 3 0)]),Qa1 5 (ptT 0 #[.int .i64 k])],.tuple #[],.tuple #[],.tuple #[],.tuple #[],.tuple #[],.tuple #[],.tuple #[],.tuple #[],.tuple #[],.tuple #[],.tuple #[],.tuple #[]],params:=#[14],assign:=nav (QaU YP 84) [1,1,0,1,0,0],body:=nav (QaU YP 84) [1,1,0,1,0,1],defers:=6}),(3,Obj.cells (Qai QaR (Qbd rf.places (plan.getD k.toNat 0))) 38)]++((8,Qb0)::Qbb (8+1) []))++Qcx rf plan k) 9 (List.range 8) [7,3]:=by
  exact FinK.fjB ((QqH rf plan k hn hl k0 k1 hp hJ _) (0) (List.map Qci rf.places) rfl (by omega) (by exact Q1Z)
   (GoE.landA okF hJ Qac (Qa2 (by kernel_rfl)) (Qas (by kernel_rfl)) ((GoE.refl (P:=YP) (B:=B) (c0:=QeF rf plan k) (Qa2 (by kernel_rfl))).widen (Wf:=((([(7,KS.auto),(3,KS.cells [] (Qai QaR (List.map Qci rf.places)))]):List (Nat×KS)).map (·.1))) (by simp) (Qas (by kernel_rfl))) (Qzp B rf plan k)
   ⟨(QbC (Qb9 (fun x=> List.all_eq_true.1 (by rfl)))),trivial⟩ (by kernel_rfl) (by kernel_rfl) (fun l hl=> by cases hl <;> decide))) (ex:=[3]) (by kernel_rfl) ⟨trivial,⟨trivial,⟨trivial,⟨trivial,⟨trivial,⟨(Qel (t:=38) (fl:=(0,0)) (fun x=> List.all_eq_true.1 (by rfl))),⟨trivial,⟨trivial,trivial⟩⟩⟩⟩⟩⟩⟩⟩
 exact (GoE.endsT okF hJ Qac GoE.start (Qx9 B rf plan k)
  ⟨(QdU (fun x=> List.all_eq_true.1 (by rfl))),⟨rj2,⟨rj1,⟨rj0,trivial⟩⟩⟩⟩).cast (by exact QuW rfl (by rw [Qbd,Qcb];omega))
theorem Q5E (rf:Qae) (plan:List Int) (k:Int) (hn:rf.places.length<=4) (hl:plan.length<=4) (k0:0<=k) (k1:k < 4) (hp:∀j:Nat,0<=plan.getD j 0/\plan.getD j 0<=1000000):Qa3 YP J0 84 #[.agg (QaY rf plan).toArray,.int .i64 k] (QrD (Qbd rf.places (plan.getD k.toNat 0))):=
 Qbr (ts:=[.agg (QaY rf plan).toArray,.int .i64 k]) Qco (c0:=Qaq YP 84 26 (([.agg (QaY rf plan).toArray,.int .i64 k]).map (Qa6 0 4))) (by kernel_rfl) (by kernel_rfl) fun B hJ=> Q1m rf plan k hn hl k0 k1 hp hJ
end
end Go.Proofs.Ytncjjangllkokaa

namespace Go.Proofs.Ytncjjangllkokaa
open Go Go.CE Go.RowKit
def Qa4 (a b:Int) (g:Int->Int):Int:=Q2Y ((upI a b).map g)
theorem QaB {a b:Int} {g:Int->Int} (h:b<=a):Qa4 a b g=0:=by
 unfold Qa4;rw [QoC h];rfl
theorem QvP:∀(l m:List Int),Q2Y (l++m)=Q2Y l+Q2Y m
 | [],m=> by simp [Q2Y]
 | x::l,m=> by simp only [List.cons_append,Q2Y,QvP l m];omega
theorem Qah {i:Int} {g:Int->Int} (h:0<=i):Qa4 0 (i+1) g=Qa4 0 i g+g i:=by
 have e:upI 0 (i+1)=upI 0 i++[i]:=by
  unfold upI;rw [show (i+1 - 0).toNat=(i - 0).toNat+1 by omega,List.range_succ,List.map_append];congr 1;simp;omega
 unfold Qa4;rw [e,List.map_append,QvP];simp [Q2Y]
theorem Qc6 {g:Int->Int} {K:Int}:∀(k:Nat),(∀m:Int,0<=m->m < k->0<=g m/\g m<=K)->0<=Qa4 0 k g/\Qa4 0 k g<=K * k
 | 0,_=> by rw [QaB (by omega)];omega
 | k+1,h=> by
   have ih:=Qc6 k fun m h0 h1=> h m h0 (by omega)
   have h2:=h k (by omega) (by omega);rw [show ((k+1:Nat):Int)=(k:Int)+1 by omega,Qah (by omega),Int.mul_add,Int.mul_one];omega
structure F4 where
 a:Int
 b:Int
 c:Int
 d:Int
deriving Inhabited
def F4.at (f:F4) (k:Int):Int:=Qaf [f.a,f.b,f.c,f.d] k.toNat
def F4.sum (f:F4):Int:=f.a+f.b+f.c+f.d
def Q4B (g:Int->Int):F4:=⟨g 0,g 1,g 2,g 3⟩
theorem QjT {i:Int} (h0:0<=i) (h:i < 4):i=0\/i=1\/i=2\/i=3:=by omega
theorem Qtc {g:Int->Int} {k:Int} (h0:0<=k) (h:k < 4):(Q4B g).at k=g k:=by
 rcases QjT h0 h with rfl | rfl | rfl | rfl <;> rfl
def f4B (f:F4):Prop:=(0<=f.a/\0<=f.b/\0<=f.c/\0<=f.d)/\f.sum<=100000000000
theorem Qge {f:F4} (hf:f4B f) {i:Int} (h0:0<=i) (h:i < 4):0<=f.at i/\f.at i<=f.sum/\f.sum<=100000000000:=by
 obtain ⟨⟨h1,h2,h3,h4⟩,h5⟩:=hf;have e:f.sum=f.a+f.b+f.c+f.d:=rfl;have h5':=h5;rw [e] at h5' ⊢;rcases QjT h0 h with rfl | rfl | rfl | rfl
 ·have:f.at 0=f.a:=rfl;omega
 ·have:f.at 1=f.b:=rfl;omega
 ·have:f.at 2=f.c:=rfl;omega
 ·have:f.at 3=f.d:=rfl;omega
abbrev plc (ps:List Qaa) (k:Int):Qaa:=ps.getD k.toNat default
abbrev nth (xs:List Int) (k:Int):Int:=xs.getD k.toNat default
def Qje (ps:List Qaa):Prop:=ps.length<=4/\∀k:Int,0<=k->k < ps.length->(0<=(plc ps k).room/\(plc ps k).room<=1000000)/\(0<=(plc ps k).drift/\(plc ps k).drift<=1000)/\Qhe ps.length (plc ps k).into=true/\(plc ps k).into≠k
def QlV (n:Nat) (xs:List Int) (m:Int):Prop:=xs.length=n/\∀k:Int,0<=k->k < n->0<=nth xs k/\nth xs k<=m
def QbL (gs:List Int) (ps:List Qaa) (f:F4) (k:Int):Int:=Q3n (plc ps k).room (f.at k) (nth gs k)
def grI (gs:List Int) (ps:List Qaa) (f:F4) (i j:Int):Int:=if j < i then f.at j+QbL gs ps f j else f.at j
def grE (gs:List Int) (ps:List Qaa) (f:F4):F4:=Q4B (grI gs ps f ps.length)
def Qfc (ps:List Qaa) (b:F4) (k:Int):Int:=(b.at k * (plc ps k).drift).tdiv 1000
def drI (ps:List Qaa) (b:F4) (i j:Int):Int:=b.at j - (if j < i then Qfc ps b j else 0)+Qa4 0 i (fun m=> if (plc ps m).into=j then Qfc ps b m else 0)
def drE (ps:List Qaa) (b:F4):F4:=Q4B (drI ps b ps.length)
def QbO (ps:List Qaa) (b:F4) (j:Int):Int:=if (plc ps j).into= -1 then Qfc ps b j else 0
def Qbv (ts:List Int) (b:F4) (k:Int):Int:=if nth ts k < b.at k then nth ts k else b.at k
def tkI (ts:List Int) (b:F4) (i j:Int):Int:=if j < i then b.at j - Qbv ts b j else b.at j
def tkE (ts:List Int) (ps:List Qaa) (b:F4):F4:=Q4B (tkI ts b ps.length)
def Qa0 (gs ts:List Int) (ps:List Qaa) (f:F4):F4:=tkE ts ps (drE ps (grE gs ps f))
theorem QkO {g:Int->Int} {i:Int} (h0:0<=i) (h:i < 4):Qaf [g 0,g 1,g 2,g 3] i.toNat=g i:=by
 rcases QjT h0 h with rfl | rfl | rfl | rfl <;> rfl
theorem Q4Z {gs:List Int} {ps:List Qaa} {f:F4} {i:Int}:grI gs ps f i i=f.at i:=by
 unfold grI;rw [if_neg (by omega)]
theorem Q1n {gs:List Int} {ps:List Qaa} {f:F4} {i:Int} {j:Nat}:(if i.toNat=j then f.at i+QbL gs ps f i else grI gs ps f i j)=grI gs ps f (i+1) j\/i < 0:=by
 by_cases h0:0<=i
 ·refine .inl ?_;unfold grI;by_cases h:i.toNat=j
  ·have e1:i=(j:Int):=by omega
   rw [if_pos h,if_pos (by omega),e1]
  ·rw [if_neg h];by_cases h2:(j:Int) < i
   ·rw [if_pos h2,if_pos (by omega)]
   ·rw [if_neg h2,if_neg (by omega)]
 ·exact .inr (by omega)
theorem QoM {gs:List Int} {ps:List Qaa} {f:F4} {i:Int} {j:Nat} (h0:0<=i):(if i.toNat=j then f.at i+QbL gs ps f i else grI gs ps f i j)=grI gs ps f (i+1) j:=Q1n.resolve_right (by omega)
theorem Q1w {room s t:Int} {w:Int} (ht:t=w.tdiv 1000) (h:0<=t):(if (if room - s > 0 then room - s else 0) < t then (if room - s > 0 then room - s else 0) else t)=if room<=s then 0 else if t < room - s then t else room - s:=by
 by_cases h1:room<=s
 ·rw [if_pos h1,if_neg (show ¬room - s > 0 by omega)];by_cases h2:0 < t
  ·rw [if_pos h2]
  ·rw [if_neg h2];omega
 ·rw [if_neg h1,if_pos (show room - s > 0 by omega)];by_cases h2:room - s < t
  ·rw [if_pos h2,if_neg (by omega)]
  ·by_cases h3:t < room - s
   ·rw [if_neg h2,if_pos h3]
   ·rw [if_neg h2,if_neg h3];omega
theorem QnN {gs:List Int} {ps:List Qaa} {f:F4} {i:Int} (hp:Qje ps) (hg:QlV ps.length gs 2000) (hf:f4B f) (h0:0<=i) (h:i < ps.length):0<=QbL gs ps f i/\QbL gs ps f i<=1000000:=by
 have h1:=hp.2 i h0 h;have h2:=hg.2 i h0 h;have ha:=Qge hf h0 (by have:=hp.1;omega);have hm:=QiA (a:=f.at i) (r:=nth gs i) (by omega) (by omega);unfold QbL Q3n;split
 ·omega
 ·split <;> omega
theorem QfM {ps:List Qaa} {b:F4} {i j:Int} (h:0<=i):drI ps b (i+1) j=drI ps b i j - (if j=i then Qfc ps b i else 0)+(if (plc ps i).into=j then Qfc ps b i else 0):=by
 unfold drI;rw [Qah h];by_cases e:j=i
 ·subst e;rw [if_pos (show j < j+1 by omega),if_neg (show ¬j < j by omega),if_pos rfl];omega
 ·rw [if_neg e];by_cases e2:j < i
  ·rw [if_pos e2,if_pos (by omega)];omega
  ·rw [if_neg e2,if_neg (by omega)];omega
theorem Qr5 {ps:List Qaa} {b:F4} {j:Int} (h:0<=j):drI ps b 0 j=b.at j:=by
 unfold drI;rw [if_neg (by omega),QaB (by omega)];omega
theorem Q5v {ts:List Int} {b:F4} {i:Int}:tkI ts b i i=b.at i:=by
 unfold tkI;rw [if_neg (by omega)]
theorem Qnk {ts:List Int} {b:F4} {i:Int} {j:Nat} (h0:0<=i):(if i.toNat=j then b.at i - Qbv ts b i else tkI ts b i j)=tkI ts b (i+1) j:=by
 unfold tkI;by_cases h:i.toNat=j
 ·have e1:i=(j:Int):=by omega
  rw [if_pos h,if_pos (by omega),e1]
 ·rw [if_neg h];by_cases h2:(j:Int) < i
  ·rw [if_pos h2,if_pos (by omega)]
  ·rw [if_neg h2,if_neg (by omega)]
theorem Qn0 {ps:List Qaa} {b:F4} {i:Int} {j:Nat} (h0:0<=i) (h:(plc ps i).into= -1):(if i.toNat=j then drI ps b i i - Qfc ps b i else drI ps b i j)=drI ps b (i+1) j:=by
 rw [QfM h0,h,if_neg (show ¬(-1:Int)=(j:Int) by omega)];by_cases h1:i.toNat=j
 ·have e1:i=(j:Int):=by omega
  rw [if_pos h1,if_pos (by omega),e1];omega
 ·rw [if_neg h1,if_neg (by omega)];omega
theorem Qnu {ps:List Qaa} {b:F4} {i v:Int} {j:Nat} (h0:0<=i) (hv:(plc ps i).into=v) (v0:0<=v) (hn:v≠i):(if v.toNat=j then drI ps b i v+Qfc ps b i else if i.toNat=j then drI ps b i i - Qfc ps b i else drI ps b i j)=drI ps b (i+1) j:=by
 rw [QfM h0,hv];by_cases h1:v.toNat=j
 ·have e1:v=(j:Int):=by omega
  rw [if_pos h1,if_neg (show ¬(j:Int)=i by omega),if_pos e1,e1];omega
 ·rw [if_neg h1,if_neg (show ¬v=(j:Int) by omega)];by_cases h2:i.toNat=j
  ·have e1:i=(j:Int):=by omega
   rw [if_pos h2,if_pos (by omega),e1];omega
  ·rw [if_neg h2,if_neg (by omega)];omega
theorem Qik {ps:List Qaa} {b:F4} {i:Int} (hp:Qje ps) (hf:f4B b) (h0:0<=i) (h:i < ps.length):0<=Qfc ps b i/\Qfc ps b i<=b.at i:=by
 have h1:=hp.2 i h0 h;have ha:=Qge hf h0 (by have:=hp.1;omega);have e0:0<=b.at i * (plc ps i).drift:=Int.mul_nonneg ha.1 h1.2.1.1;have e1:b.at i * (plc ps i).drift<=b.at i * 1000:=Int.mul_le_mul_of_nonneg_left h1.2.1.2 ha.1;have e2:(b.at i * (plc ps i).drift).tdiv 1000=(b.at i * (plc ps i).drift) / 1000:=Int.tdiv_eq_ediv_of_nonneg e0;unfold Qfc;rw [e2];omega
theorem QiY {ps:List Qaa} {b:F4} {i j:Int} (hp:Qje ps) (hf:f4B b) (h0:0<=i) (h:i<=ps.length) (j0:0<=j) (j1:j < 4):0<=drI ps b i j/\drI ps b i j<=500000000000:=by
 have ha:=Qge hf j0 j1;have hs:=Qc6 (g:=fun m=> if (plc ps m).into=j then Qfc ps b m else 0) (K:=100000000000) i.toNat fun m m0 m1=> by
  have h9:=hp.1;have:=Qik hp hf (i:=m) m0 (by omega);have hm:=Qge hf (i:=m) m0 (by omega);split <;> omega
 rw [show ((i.toNat:Nat):Int)=i by omega] at hs;have h4:=hp.1;unfold drI;split
 ·have:=Qik hp hf j0 (by omega);omega
 ·omega
theorem QjD {ts:List Int} {b:F4} {n:Nat} {m i:Int} (ht:QlV n ts m) (hf:f4B b) (h0:0<=i) (h:i < n) (h4:n<=4):0<=Qbv ts b i/\Qbv ts b i<=b.at i/\Qbv ts b i<=m:=by
 have ha:=Qge hf h0 (by omega);have h1:=ht.2 i h0 h;unfold Qbv;split <;> omega
theorem Q1y {gs:List Int} {ps:List Qaa} {f:F4} {i j:Int} (hp:Qje ps) (hg:QlV ps.length gs 2000) (hf:f4B f) (h:i<=ps.length) (j0:0<=j) (j1:j < 4):0<=grI gs ps f i j/\grI gs ps f i j<=f.at j+1000000:=by
 have ha:=Qge hf j0 j1;unfold grI;split
 ·have:=QnN hp hg hf j0 (show j < ps.length by omega);omega
 ·omega
theorem Q3r {gs:List Int} {ps:List Qaa} {f:F4} (hp:Qje ps) (hg:QlV ps.length gs 2000) (hf:f4B f):(0<=(grE gs ps f).a/\0<=(grE gs ps f).b/\0<=(grE gs ps f).c/\0<=(grE gs ps f).d)/\(grE gs ps f).sum<=f.sum+4000000:=by
 have h0:=Q1y hp hg hf (Int.le_refl _) (j:=0) (by omega) (by omega);have h1:=Q1y hp hg hf (Int.le_refl _) (j:=1) (by omega) (by omega);have h2:=Q1y hp hg hf (Int.le_refl _) (j:=2) (by omega) (by omega);have h3:=Q1y hp hg hf (Int.le_refl _) (j:=3) (by omega) (by omega);refine ⟨⟨h0.1,h1.1,h2.1,h3.1⟩, ?_⟩;show grI gs ps f ps.length 0+grI gs ps f ps.length 1+grI gs ps f ps.length 2+grI gs ps f ps.length 3<=f.a+f.b+f.c+f.d+4000000;have e0:f.at 0=f.a:=rfl;have e1:f.at 1=f.b:=rfl;have e2:f.at 2=f.c:=rfl;have e3:f.at 3=f.d:=rfl;omega
def drS (ps:List Qaa) (b:F4) (i:Int):Int:=drI ps b i 0+drI ps b i 1+drI ps b i 2+drI ps b i 3
theorem Q1S {ps:List Qaa} {b:F4} {i:Int} (hp:Qje ps) (h0:0<=i) (h:i < ps.length):drS ps b (i+1)=drS ps b i - QbO ps b i:=by
 have h1:=hp.1;have h2:=(hp.2 i h0 h).2.2.1;unfold drS QbO;rw [QfM h0,QfM h0,QfM h0,QfM h0];simp only [Qhe,Bool.or_eq_true,decide_eq_true_iff,QhJ] at h2;generalize (plc ps i).into=v at *;generalize Qfc ps b i=w at *;have hi:=QjT h0 (show i < 4 by omega);by_cases hv:v= -1
 ·subst hv;rcases hi with rfl | rfl | rfl | rfl <;> simp <;> omega
 ·have hv':=QjT (show 0<=v by omega) (show v < 4 by omega);rcases hi with rfl | rfl | rfl | rfl <;> rcases hv' with rfl | rfl | rfl | rfl <;> simp <;> omega
theorem QsV {ps:List Qaa} {b:F4} (hp:Qje ps):∀k:Nat,k<=ps.length->drS ps b k=b.sum - Qa4 0 k (QbO ps b)
 | 0,_=> by
   rw [show ((0:Nat):Int)=0 from rfl,QaB (by omega)];unfold drS;rw [Qr5 (by omega),Qr5 (by omega),Qr5 (by omega),Qr5 (by omega)];have e:b.sum=b.at 0+b.at 1+b.at 2+b.at 3:=rfl;omega
 | k+1,h=> by
   rw [show ((k+1:Nat):Int)=(k:Int)+1 by omega,Q1S hp (by omega) (by omega),QsV hp k (by omega),Qah (by omega)];omega
end Go.Proofs.Ytncjjangllkokaa
