/- Reef: counts, growth, and how spans are made. -/
import Derived.Test.YtncjjangllkokaaZRP11
set_option linter.all false
namespace Go.Proofs.Ytncjjangllkokaa
open Go Go.CE Go.RowKit
noncomputable section
set_option maxRecDepth 100000
def Qkm (miss n:Int):Int:=n+(n * miss).tdiv 1000
def QaT (room f g:Int):Int:=if room<=f then 0 else if (f * g).tdiv 1000 < room - f then (f * g).tdiv 1000 else room - f
theorem Qec {a r:Int} (ha:0<=a/\a<=1000000000000) (hr:0<=r/\r<=2000):0<=a * r/\a * r<=2000000000000000/\0<=(a * r).tdiv 1000/\(a * r).tdiv 1000<=2000000000000:=by
 have e0:0<=a * r:=Int.mul_nonneg ha.1 hr.1;have e1:a * r<=1000000000000 * 2000:=Int.mul_le_mul ha.2 hr.2 hr.1 (by omega);have e2:(a * r).tdiv 1000=(a * r) / 1000:=Int.tdiv_eq_ediv_of_nonneg e0;omega
theorem Q0k (B:Lo) (r:Qaf) (n:Int):Qbd (Qam YP (Qa3 YP) J0 B 6 1 (Qaj YP 60 12 (([.agg (Qak r).toArray,.int .i64 n]).map (Qau 0 4))) H00 1
 [(6,hvI (n * r.miss)),(7,hvI (Int.tdiv (n * r.miss) 1000)),(8,hvI (n+Int.tdiv (n * r.miss) 1000))] 0 [] []) []=some (.int .i64 (n+Int.tdiv (n * r.miss) 1000),
 [wq (n+Int.tdiv (n * r.miss) 1000)=n+Int.tdiv (n * r.miss) 1000,IntKind.wrap .i64 (Int.tdiv (n * r.miss) 1000)=Int.tdiv (n * r.miss) 1000,wq (n * r.miss)=n * r.miss]):=by kernel_rfl
set_option maxHeartbeats 4000000 in
theorem Q28 (r:Qaf) (n:Int) (hm:0<=r.miss/\r.miss<=2000) (hn:0<=n/\n<=1000000000000) {B:Lo} (hJ:∀w,B.has w->J0 w):EndsT YP B (Qaj YP 60 12 (([.agg (Qak r).toArray,.int .i64 n]).map (Qau 0 4))) (.int .i64 (Qkm r.miss n)):=by
 have e0:=Qec hn hm;exact (GoE.endsT okF hJ Qab GoE.start (Q0k B r n)
  ⟨(QaH (by omega) (by omega)),⟨(Qfl (by omega) (by omega)),⟨(QaH (by omega) (by omega)),trivial⟩⟩⟩).cast (by rfl)
theorem Q4t (r:Qaf) (n:Int) (hm:0<=r.miss/\r.miss<=2000) (hn:0<=n/\n<=1000000000000):Qaw YP J0 60 #[.agg (Qak r).toArray,.int .i64 n] (.int .i64 (Qkm r.miss n)):=
 QaV (ts:=[.agg (Qak r).toArray,.int .i64 n]) QbS (c0:=Qaj YP 60 12 (([.agg (Qak r).toArray,.int .i64 n]).map (Qau 0 4))) (by kernel_rfl) (by kernel_rfl) fun B hJ=> Q28 r n hm hn hJ
theorem QxA (B:Lo) (x:Qaa)  :Qbd (Qam YP (Qa3 YP) J0 B 10 1 (Qaj YP 61 10 (([.agg (Qad x).toArray,.bool true]).map (Qau 0 4))) H00 1
 [] 0 [] []) []=some (.agg #[.int .i64 x.slo,.int .i64 x.shi],
 []):=by kernel_rfl
theorem QvH (B:Lo) (x:Qaa)  :Qbd (Qam YP (Qa3 YP) J0 B 11 1 (Qaj YP 61 10 (([.agg (Qad x).toArray,.bool false]).map (Qau 0 4))) H00 1
 [] 0 [] []) []=some (.agg #[.int .i64 x.olo,.int .i64 x.ohi],
 []):=by kernel_rfl
set_option maxHeartbeats 4000000 in
theorem Qzd (x:Qaa) (b:Bool)  {B:Lo} (hJ:∀w,B.has w->J0 w):EndsT YP B (Qaj YP 61 10 (([.agg (Qad x).toArray,.bool b]).map (Qau 0 4))) (.agg #[.int .i64 (if b then x.slo else x.olo),.int .i64 (if b then x.shi else x.ohi)]):=by
 cases b with
 | true=>
   exact (GoE.endsT okF hJ Qab GoE.start (QxA B x)
    trivial).cast (by rfl)
 | false=>
   exact (GoE.endsT okF hJ Qab GoE.start (QvH B x)
    trivial).cast (by rfl)
theorem Q0J (x:Qaa) (b:Bool)  :Qaw YP J0 61 #[.agg (Qad x).toArray,.bool b] (.agg #[.int .i64 (if b then x.slo else x.olo),.int .i64 (if b then x.shi else x.ohi)]):=
 QaV (ts:=[.agg (Qad x).toArray,.bool b]) QbS (c0:=Qaj YP 61 10 (([.agg (Qad x).toArray,.bool b]).map (Qau 0 4))) (by kernel_rfl) (by kernel_rfl) fun B hJ=> Qzd x b  hJ
theorem Qv3 (B:Lo) (x:Qaa) (f g:Int):Qbd (Qam YP (Qa3 YP) J0 B 10 1 (Qaj YP 62 20 (([.agg (Qad x).toArray,.int .i64 f,.int .i64 g]).map (Qau 0 4))) H00 1
 [(5,hvT)] 0 [] []) []=some (.int .i64 0,
 [(!ltq f x.room)=true]):=by kernel_rfl
theorem QwV (B:Lo) (x:Qaa) (f g:Int):Qbd (Qam YP (Qa3 YP) J0 B 11 1 (Qaj YP 62 20 (([.agg (Qad x).toArray,.int .i64 f,.int .i64 g]).map (Qau 0 4))) H00 1
 [(5,hvF),(9,hvI (x.room - f)),(12,hvI (f * g)),(13,hvI (Int.tdiv (f * g) 1000))] 0 [] []) []=some (.int .i64 (if Int.tdiv (f * g) 1000 < x.room - f then Int.tdiv (f * g) 1000 else x.room - f),
 [IntKind.wrap .i64 (Int.tdiv (f * g) 1000)=Int.tdiv (f * g) 1000,wq (f * g)=f * g,wq (x.room - f)=x.room - f,(!ltq f x.room)=false]):=by kernel_rfl
set_option maxHeartbeats 4000000 in
theorem QyM (x:Qaa) (f g:Int) (hf:0<=f/\f<=1000000000000) (hg:0<=g/\g<=2000) (hx:0<=x.room/\x.room<=1000000) {B:Lo} (hJ:∀w,B.has w->J0 w):EndsT YP B (Qaj YP 62 20 (([.agg (Qad x).toArray,.int .i64 f,.int .i64 g]).map (Qau 0 4))) (.int .i64 (QaT x.room f g)):=by
 have e0:=Qec hf hg;by_cases q0:(x.room:Int)<=(f)
 ·exact (GoE.endsT okF hJ Qab GoE.start (Qv3 B x f g)
   ⟨(Qd2 q0),trivial⟩).cast (by (simp only [QaT];rw [if_pos q0];done))
 ·exact (GoE.endsT okF hJ Qab GoE.start (QwV B x f g)
   ⟨(Qfl (by omega) (by omega)),⟨(QaH (by omega) (by omega)),⟨(QaH (by omega) (by omega)),⟨(Qd3 (Int.not_le.1 q0)),trivial⟩⟩⟩⟩).cast (by (simp only [QaT];rw [if_neg q0];done))
theorem Q1e (x:Qaa) (f g:Int) (hf:0<=f/\f<=1000000000000) (hg:0<=g/\g<=2000) (hx:0<=x.room/\x.room<=1000000):Qaw YP J0 62 #[.agg (Qad x).toArray,.int .i64 f,.int .i64 g] (.int .i64 (QaT x.room f g)):=
 QaV (ts:=[.agg (Qad x).toArray,.int .i64 f,.int .i64 g]) QbS (c0:=Qaj YP 62 20 (([.agg (Qad x).toArray,.int .i64 f,.int .i64 g]).map (Qau 0 4))) (by kernel_rfl) (by kernel_rfl) fun B hJ=> QyM x f g hf hg hx hJ
theorem Qur (B:Lo) (n a b:Int):Qbd (Qam YP (Qa3 YP) J0 B 6 1 (Qaj YP 32 11 (([.int .i64 n,.agg #[.int .i64 a,.int .i64 b]]).map (Qau 0 4))) H00 1
 [(7,Qai.pure (.bool true) [])] 0 [] []) []=some (.bool true,
 [Qa2 []/\Qaw YP J0 55 #[.int .i64 n,.int .i64 a,.int .i64 b] (.bool true)]):=by kernel_rfl
theorem Qvh (B:Lo) (n a b:Int):Qbd (Qam YP (Qa3 YP) J0 B 6 1 (Qaj YP 32 11 (([.int .i64 n,.agg #[.int .i64 a,.int .i64 b]]).map (Qau 0 4))) H00 1
 [(7,Qai.pure (.bool false) [])] 0 [] []) []=some (.bool false,
 [Qa2 []/\Qaw YP J0 55 #[.int .i64 n,.int .i64 a,.int .i64 b] (.bool false)]):=by kernel_rfl
set_option maxHeartbeats 4000000 in
theorem Qx2 (n a b:Int)  {B:Lo} (hJ:∀w,B.has w->J0 w):EndsT YP B (Qaj YP 32 11 (([.int .i64 n,.agg #[.int .i64 a,.int .i64 b]]).map (Qau 0 4))) (.bool (inB n a b)):=by
 cases q0:inB n a b with
 | true=>
   exact (GoE.endsT okF hJ Qab GoE.start (Qur B n a b)
    ⟨⟨trivial,(by have t_:=rin (n) (a) (b);rw [q0] at t_;exact t_)⟩,trivial⟩).cast (by rfl)
 | false=>
   exact (GoE.endsT okF hJ Qab GoE.start (Qvh B n a b)
    ⟨⟨trivial,(by have t_:=rin (n) (a) (b);rw [q0] at t_;exact t_)⟩,trivial⟩).cast (by rfl)
theorem Qh9 (n a b:Int)  :Qaw YP J0 32 #[.int .i64 n,.agg #[.int .i64 a,.int .i64 b]] (.bool (inB n a b)):=
 QaV (ts:=[.int .i64 n,.agg #[.int .i64 a,.int .i64 b]]) QbS (c0:=Qaj YP 32 11 (([.int .i64 n,.agg #[.int .i64 a,.int .i64 b]]).map (Qau 0 4))) (by kernel_rfl) (by kernel_rfl) fun B hJ=> Qx2 n a b  hJ
def Qba (x:Qaa):Span:=⟨x.glo,x.ghi⟩
def Qcb (x:Qaa):Span:=⟨x.olo,x.ohi⟩
def QaS (miss:Int) (x:Qaa):Span:=⟨x.count,Qkm miss x.count⟩
def Qf0 (xs:List Qaa) (i:Int) (ys:List Span):List Value:=[Value.func (Fn.func 104) #[] #[],.slice (some {block:=2,off:=0}) xs.length 2,Qaq 1 (slT xs.length (Qae Qad xs)),.int .i64 (↑xs.length:Int),.int .i64 i]
def Qdr (xs:List Qaa) (i:Int) (ys:List Span):List Obj:=[.cells (Qae QaA ys) 38 (0,0)]
def Qf2:List Item:=([.code [1,1,0,1,0,0],.inLoop [1,1,0,1,0,0],.inBlock 0,.code [1,1,1]]).map (it (QaB YP 102))
def Qwb (B:Lo) (c0:CF) (xs:List Qaa) (i:Int) (ys:List Span):Prop:=∃dJ:Nat->Value,(∀t,Qbi (dJ t))/\GoE YP B c0 H00 1 (Qa8 102 26 (([1,5,11,12,13]:List Nat).zip (Qf0 xs i ys)) dJ Qf2) (Qa6 (Qdr xs i ys)) (2+(Qdr xs i ys).length) []
def Qf7 (xs:List Qaa) (i:Int) (ys:List Span) (dJ0:Nat->Value):Qan:=[(3,Obj.cells #[.int .i64 (Qaa.count (xs.getD i.toNat default)),.int .i64 (Qaa.room (xs.getD i.toNat default)),.int .i64 (Qaa.glo (xs.getD i.toNat default)),.int .i64 (Qaa.ghi (xs.getD i.toNat default)),.int .i64 (Qaa.drift (xs.getD i.toNat default)),.int .i64 (Qaa.into (xs.getD i.toNat default)),.int .i64 (Qaa.olo (xs.getD i.toNat default)),.int .i64 (Qaa.ohi (xs.getD i.toNat default)),.int .i64 (Qaa.slo (xs.getD i.toNat default)),.int .i64 (Qaa.shi (xs.getD i.toNat default)),.int .i64 (Qaa.goal (xs.getD i.toNat default)),.int .i64 (Qaa.worth (xs.getD i.toNat default))] 54),(0,Obj.coro none),(1,Obj.coro none),(2,Obj.cells (Qae QaA ys) 38)]
def QgA (xs:List Qaa) (i:Int) (ys:List Span) (dJ0:Nat->Value):CF:=⟨104,ofList 5 [.agg #[.int .i64 (Qaa.count (xs.getD i.toNat default)),.int .i64 (Qaa.room (xs.getD i.toNat default)),.int .i64 (Qaa.glo (xs.getD i.toNat default)),.int .i64 (Qaa.ghi (xs.getD i.toNat default)),.int .i64 (Qaa.drift (xs.getD i.toNat default)),.int .i64 (Qaa.into (xs.getD i.toNat default)),.int .i64 (Qaa.olo (xs.getD i.toNat default)),.int .i64 (Qaa.ohi (xs.getD i.toNat default)),.int .i64 (Qaa.slo (xs.getD i.toNat default)),.int .i64 (Qaa.shi (xs.getD i.toNat default)),.int .i64 (Qaa.goal (xs.getD i.toNat default)),.int .i64 (Qaa.worth (xs.getD i.toNat default))]],[Item.code (QaB YP 104)],[],.run,none⟩
def QjE (xs:List Qaa) (i:Int):Value:=(.agg #[.int .i64 (Qaa.glo (xs.getD i.toNat default)),.int .i64 (Qaa.ghi (xs.getD i.toNat default))])
theorem QvY (B:Lo) (xs:List Qaa) (i:Int) (ys:List Span) (dJ0:Nat->Value):CE.finK 4 (Qam YP (Qa3 YP) J0 B 6 4 (QgA xs i ys dJ0) (Qf7 xs i ys dJ0) 4
 [] 0 [] []) [] [] []=some (OO.ret (.agg #[.int .i64 (Qaa.glo (xs.getD i.toNat default)),.int .i64 (Qaa.ghi (xs.getD i.toNat default))]),[],[],
 []):=by kernel_rfl
theorem Qxz (B:Lo) (xs:List Qaa) (i:Int) (ys:List Span) (dJ0:Nat->Value):landM (Qam YP (Qa3 YP) J0 B 13 1 (Qa8 102 26 (([1,5,11,12,13]:List Nat).zip (Qf0 xs i ys)) dJ0 Qf2) (Qa6 (Qdr xs i ys)) (2+(Qdr xs i ys).length)
 [(0,hvT),(2,Qai.tidx i.toNat #[.int .i64 (Qaa.count (xs.getD i.toNat default)),.int .i64 (Qaa.room (xs.getD i.toNat default)),.int .i64 (Qaa.glo (xs.getD i.toNat default)),.int .i64 (Qaa.ghi (xs.getD i.toNat default)),.int .i64 (Qaa.drift (xs.getD i.toNat default)),.int .i64 (Qaa.into (xs.getD i.toNat default)),.int .i64 (Qaa.olo (xs.getD i.toNat default)),.int .i64 (Qaa.ohi (xs.getD i.toNat default)),.int .i64 (Qaa.slo (xs.getD i.toNat default)),.int .i64 (Qaa.shi (xs.getD i.toNat default)),.int .i64 (Qaa.goal (xs.getD i.toNat default)),.int .i64 (Qaa.worth (xs.getD i.toNat default))]),(11,Qai.call (List.range 4) (OO.ret (QjE xs i)) ([]++(4,QbH)::Qbg 5 []) 5 []),(12,Qai.old (Hint.idx i.toNat)),(13,Qai.old (Hint.st (Qae QaA (List.set ys i.toNat {lo:=Qaa.glo (xs.getD i.toNat default),hi:=Qaa.ghi (xs.getD i.toNat default)})))),(14,hvI (i+1))] 0 [] []) [1,5,11,12,13] [(2,KS.cells [] (Qae QaA (List.set ys i.toNat {lo:=Qaa.glo (xs.getD i.toNat default),hi:=Qaa.ghi (xs.getD i.toNat default)})))] []=some ⟨102,26,Qf2,[],.run,none,Qf0 xs (i+1) (List.set ys i.toNat {lo:=Qaa.glo (xs.getD i.toNat default),hi:=Qaa.ghi (xs.getD i.toNat default)}),Qdr xs (i+1) (List.set ys i.toNat {lo:=Qaa.glo (xs.getD i.toNat default),hi:=Qaa.ghi (xs.getD i.toNat default)}),
 [Qbh 1 [] (Qae QaA (List.set ys i.toNat {lo:=Qaa.glo (xs.getD i.toNat default),hi:=Qaa.ghi (xs.getD i.toNat default)})) (Qae QaA (List.set ys i.toNat {lo:=Qaa.glo (xs.getD i.toNat default),hi:=Qaa.ghi (xs.getD i.toNat default)})),wq (i+1)=i+1,0+Int.toNat i * 2+TypeInfo.size Try.t38<=Array.size (Qae QaA ys)/\splice (Qae QaA ys) (0+Int.toNat i * 2) (Value.cells (Qch {len:=16000,tr:=Tri.set 14 (Tri.set 14 Tri.lf 22 (QjE xs i)) 23 (.pointer (some {block:=2,off:=0+Int.toNat i * 2}))} 22))=Qae QaA (List.set ys i.toNat {lo:=Qaa.glo (xs.getD i.toNat default),hi:=Qaa.ghi (xs.getD i.toNat default)}),i=(↑i.toNat:Int)/\Int.toNat i < List.length xs,FJ YP B (QgA xs i ys dJ0) (Qf7 xs i ys dJ0) 4 (OO.ret (QjE xs i)) (([]++((4,QbH)::Qbg (4+1) []))++Qf7 xs i ys dJ0) 5 (List.range 4) [],i=(↑i.toNat:Int)/\Int.toNat i < List.length xs/\Array.extract (Qae Qad xs) (Int.toNat i * TypeInfo.size Try.t54) (Int.toNat i * TypeInfo.size Try.t54+TypeInfo.size Try.t54)=#[.int .i64 (Qaa.count (xs.getD i.toNat default)),.int .i64 (Qaa.room (xs.getD i.toNat default)),.int .i64 (Qaa.glo (xs.getD i.toNat default)),.int .i64 (Qaa.ghi (xs.getD i.toNat default)),.int .i64 (Qaa.drift (xs.getD i.toNat default)),.int .i64 (Qaa.into (xs.getD i.toNat default)),.int .i64 (Qaa.olo (xs.getD i.toNat default)),.int .i64 (Qaa.ohi (xs.getD i.toNat default)),.int .i64 (Qaa.slo (xs.getD i.toNat default)),.int .i64 (Qaa.shi (xs.getD i.toNat default)),.int .i64 (Qaa.goal (xs.getD i.toNat default)),.int .i64 (Qaa.worth (xs.getD i.toNat default))],ltq i (↑xs.length:Int)=true]⟩:=by kernel_rfl
theorem Qwp (B:Lo) (xs:List Qaa) (i:Int) (ys:List Span) (dJ0:Nat->Value):Qbd (Qam YP (Qa3 YP) J0 B 9 1 (Qa8 102 26 (([1,5,11,12,13]:List Nat).zip (Qf0 xs i ys)) dJ0 Qf2) (Qa6 (Qdr xs i ys)) (2+(Qdr xs i ys).length)
 [(0,hvF)] 0 [] []) [{k:=2,rs:=[],cs:=Qae QaA ys}]=some (slT xs.length (Fz.cs {k:=2,rs:=[],cs:=Qae QaA ys}),
 [Qcv (Fz.rs {k:=2,rs:=[],cs:=Qae QaA ys}) (Qae QaA ys) (Fz.cs {k:=2,rs:=[],cs:=Qae QaA ys}),ltq i (↑xs.length:Int)=false]):=by kernel_rfl
theorem QxU (B:Lo) (xs:List Qaa):landM (Qam YP (Qa3 YP) J0 B 9 1 (Qaj YP 102 26 (([slP xs,.func (.func 104) #[] #[]]).map (Qau 0 4))) H00 1
 [(3,Qai.old (Hint.mk xs.length (Qae (Qc4 [.int .i64 0,.int .i64 0]) (List.replicate xs.length ()))))] 0 [] []) [1,5,11,12,13] [(1,KS.rows [] [] [] (Qae QaA (List.replicate xs.length {lo:=0,hi:=0})))] []=some ⟨102,26,Qf2,[],.run,none,Qf0 xs (0) (List.replicate xs.length {lo:=0,hi:=0}),Qdr xs (0) (List.replicate xs.length {lo:=0,hi:=0}),
 [Qbx 1 [] [] [] (Qae (Qc4 [.int .i64 0,.int .i64 0]) (List.replicate xs.length ())) (Qae QaA (List.replicate xs.length {lo:=0,hi:=0})),Qj9 YP 36 (Qch {len:=16000,tr:=Tri.set 14 Tri.lf 9 (.int .i64 (↑xs.length:Int))} 9) (Qch {len:=16000,tr:=Tri.set 14 Tri.lf 9 (.int .i64 (↑xs.length:Int))} 9)=some (38,Qae (Qc4 [.int .i64 0,.int .i64 0]) (List.replicate xs.length ()),List.length xs,TypeInfo.size Try.t38)]⟩:=by kernel_rfl
set_option maxHeartbeats 4000000 in
theorem Qyi (xs:List Qaa) (hn:xs.length<=1000000) {B:Lo} (hJ:∀w,B.has w->J0 w) {c0:CF}:∀m:Nat,(∀(i:Int) (ys:List Span),(xs.length - i.toNat)=m->∀(h0:0<=i) (hy:ys=QiD Qba ⟨0,0⟩ xs i),Qwb B c0 xs i ys->EndsT YP B c0 (QpS (xs.map Qba))):=by
 intro m0;induction m0 using Nat.strongRecOn with
 | _ m0 ih0=>
   intro i ys hm0 h0 hy ⟨dJ0,hdJ0,hg0⟩;have hyl:ys.length=xs.length:=by rw [hy];exact QjI
   by_cases q0:(i:Int) < ((↑xs.length:Int))
   ·have rj0:FJ YP B (QgA xs i ys dJ0) (Qf7 xs i ys dJ0) 4 (OO.ret (.agg #[.int .i64 (Qaa.glo (xs.getD i.toNat default)),.int .i64 (Qaa.ghi (xs.getD i.toNat default))])) (([]++((4,QbH)::Qbg (4+1) []))++Qf7 xs i ys dJ0) 5 (List.range 4) []:=by
     exact FinK.fjB (GoE.finK okF hJ Qab (Qa0 (by kernel_rfl)) (Qat (by kernel_rfl)) ((GoE.refl (P:=YP) (B:=B) (c0:=QgA xs i ys dJ0) (Qa0 (by kernel_rfl))).widen (Wf:=((([]):List (Nat×KS)).map (·.1))) (by simp) (Qat (by kernel_rfl))) (QvY B xs i ys dJ0)
      trivial) (ex:=[2]) (by kernel_rfl) ⟨trivial,⟨trivial,⟨trivial,⟨(Qee (t:=38) (fl:=(0,0)) (fun x=> List.all_eq_true.1 (by rfl))),trivial⟩⟩⟩⟩
    exact ((ih0 _ (by omega)) (i+1) (List.set ys i.toNat {lo:=Qaa.glo (xs.getD i.toNat default),hi:=Qaa.ghi (xs.getD i.toNat default)}) rfl (by omega) (by (subst hy;exact Qjw (f:=Qba) h0 q0))
     (hg0.landM okF hJ Qab (Qxz B xs i ys dJ0)
     (by exact ⟨(Qar (Qay (fun x=> List.all_eq_true.1 (by rfl)))),⟨(QaH (by omega) (by omega)),⟨(by exact Qc7 (z:=2) (fun _=> rfl) (by omega) rfl rfl),⟨⟨by omega,by omega⟩,⟨rj0,⟨⟨by omega,by omega,(Qal (z:=12) (fun _=> rfl) (by omega))⟩,⟨(QbD q0),trivial⟩⟩⟩⟩⟩⟩⟩) (by kernel_rfl) (by kernel_rfl))).cast (by rfl)
   ·exact (GoE.endsT okF hJ Qab hg0 (Qwp B xs i ys dJ0)
     ⟨(QcA (fun x=> List.all_eq_true.1 (by rfl))),⟨(QbI (Int.not_lt.1 q0)),trivial⟩⟩).cast (by exact Qso (hy.trans (Qjt (by omega))) (by simp))
set_option maxHeartbeats 4000000 in
theorem Q0y (xs:List Qaa) (hn:xs.length<=1000000) {B:Lo} (hJ:∀w,B.has w->J0 w):EndsT YP B (Qaj YP 102 26 (([slP xs,.func (.func 104) #[] #[]]).map (Qau 0 4))) (QpS (xs.map Qba)):=by
 exact ((Qyi xs hn hJ _) (0) (List.replicate xs.length {lo:=0,hi:=0}) rfl (by omega) (by exact Qsq)
  (GoE.start.landM okF hJ Qab (QxU B xs)
  (by exact ⟨(by exact (QdU (by exact ⟨(.simple rfl),⟨(.simple rfl),trivial⟩⟩) _)),⟨(Qtu (bytes:=16) (by kernel_rfl) (by omega) (by omega) (by omega)),trivial⟩⟩) (by kernel_rfl) (by kernel_rfl))).cast (by rfl)
theorem Q2Y (xs:List Qaa) (hn:xs.length<=1000000):Qaw YP J0 102 #[slP xs,.func (.func 104) #[] #[]] (QpS (xs.map Qba)):=
 QaV (ts:=[slP xs,.func (.func 104) #[] #[]]) QbS (c0:=Qaj YP 102 26 (([slP xs,.func (.func 104) #[] #[]]).map (Qau 0 4))) (by kernel_rfl) (by kernel_rfl) fun B hJ=> Q0y xs hn hJ
theorem QvS (B:Lo) (rf:Qaf) (plan:List Int):Qbd (Qam YP (Qa3 YP) J0 B 6 1 (Qaj YP 83 7 (([.agg (QaG rf plan).toArray]).map (Qau 0 4))) H00 1
 [(5,Qai.pure (slT (List.length (List.map Qba rf.places)) (Qae QaA (List.map Qba rf.places))) [])] 0 [] []) []=some (slT (List.length (List.map Qba rf.places)) (Qae QaA (List.map Qba rf.places)),
 [Qa2 []/\Qaw YP J0 102 #[slT rf.places.length (Qae Qad rf.places),Value.func (Fn.func 104) #[] #[]] (slT (List.length (List.map Qba rf.places)) (Qae QaA (List.map Qba rf.places)))]):=by kernel_rfl
set_option maxHeartbeats 4000000 in
theorem Qy4 (rf:Qaf) (plan:List Int) (hn:rf.places.length<=1000000) {B:Lo} (hJ:∀w,B.has w->J0 w):EndsT YP B (Qaj YP 83 7 (([.agg (QaG rf plan).toArray]).map (Qau 0 4))) (QpS (rf.places.map Qba)):=by
 exact (GoE.endsT okF hJ Qab GoE.start (QvS B rf plan)
  ⟨⟨trivial,Q2Y rf.places (by with_reducible assumption)⟩,trivial⟩).cast (by rfl)
theorem Q3D (rf:Qaf) (plan:List Int) (hn:rf.places.length<=1000000):Qaw YP J0 83 #[.agg (QaG rf plan).toArray] (QpS (rf.places.map Qba)):=
 QaV (ts:=[.agg (QaG rf plan).toArray]) QbS (c0:=Qaj YP 83 7 (([.agg (QaG rf plan).toArray]).map (Qau 0 4))) (by kernel_rfl) (by kernel_rfl) fun B hJ=> Qy4 rf plan hn hJ
def Qcc (rf:Qaf) (plan:List Int):Qan:=[(1,Obj.cells #[Qaq 0 (slT rf.places.length (Qae Qad rf.places)),.int .i64 rf.miss,.int .i64 rf.seasons,.int .i64 (plan.getD 0 0),.int .i64 (plan.getD 1 0),.int .i64 (plan.getD 2 0),.int .i64 (plan.getD 3 0)] 84),(0,Obj.coro none)]
def QdC (rf:Qaf) (plan:List Int):CF:=⟨102,ofList 26 [Qaq 0 (slT rf.places.length (Qae Qad rf.places)),Value.func (Fn.func 103) #[] #[pA 1 0]],[Item.code (QaB YP 102)],[],.run,none⟩
def QcP (rf:Qaf) (plan:List Int) (i:Int) (ys:List Span):List Value:=[Value.func (Fn.func 103) #[] #[pA 1 0],.slice (some {block:=3,off:=0}) rf.places.length 2,Qaq 0 (slT rf.places.length (Qae Qad rf.places)),.int .i64 (↑rf.places.length:Int),.int .i64 i]
def QcN (rf:Qaf) (plan:List Int) (i:Int) (ys:List Span):List Obj:=[]
def QbG (rf:Qaf) (plan:List Int) (i:Int) (ys:List Span):List Obj:=[.cells (Qae QaA ys) 38 (0,0)]
def QcL:List Item:=([.code [1,1,0,1,0,0],.inLoop [1,1,0,1,0,0],.inBlock 0,.code [1,1,1]]).map (it (QaB YP 102))
def Qer (rf:Qaf) (plan:List Int) (i:Int) (ys:List Span) (dJ0:Nat->Value):Qan:=[(4,Obj.cells #[.int .i64 (Qaa.count (rf.places.getD i.toNat default)),.int .i64 (Qaa.room (rf.places.getD i.toNat default)),.int .i64 (Qaa.glo (rf.places.getD i.toNat default)),.int .i64 (Qaa.ghi (rf.places.getD i.toNat default)),.int .i64 (Qaa.drift (rf.places.getD i.toNat default)),.int .i64 (Qaa.into (rf.places.getD i.toNat default)),.int .i64 (Qaa.olo (rf.places.getD i.toNat default)),.int .i64 (Qaa.ohi (rf.places.getD i.toNat default)),.int .i64 (Qaa.slo (rf.places.getD i.toNat default)),.int .i64 (Qaa.shi (rf.places.getD i.toNat default)),.int .i64 (Qaa.goal (rf.places.getD i.toNat default)),.int .i64 (Qaa.worth (rf.places.getD i.toNat default))] 54),(2,Obj.coro none),(3,Obj.cells (Qae QaA ys) 38),(1,Obj.cells #[Qaq 0 (slT rf.places.length (Qae Qad rf.places)),.int .i64 rf.miss,.int .i64 rf.seasons,.int .i64 (plan.getD 0 0),.int .i64 (plan.getD 1 0),.int .i64 (plan.getD 2 0),.int .i64 (plan.getD 3 0)] 84),(0,Obj.coro none)]
def QfD (rf:Qaf) (plan:List Int) (i:Int) (ys:List Span) (dJ0:Nat->Value):CF:=⟨103,ofList 13 [.agg #[.int .i64 (Qaa.count (rf.places.getD i.toNat default)),.int .i64 (Qaa.room (rf.places.getD i.toNat default)),.int .i64 (Qaa.glo (rf.places.getD i.toNat default)),.int .i64 (Qaa.ghi (rf.places.getD i.toNat default)),.int .i64 (Qaa.drift (rf.places.getD i.toNat default)),.int .i64 (Qaa.into (rf.places.getD i.toNat default)),.int .i64 (Qaa.olo (rf.places.getD i.toNat default)),.int .i64 (Qaa.ohi (rf.places.getD i.toNat default)),.int .i64 (Qaa.slo (rf.places.getD i.toNat default)),.int .i64 (Qaa.shi (rf.places.getD i.toNat default)),.int .i64 (Qaa.goal (rf.places.getD i.toNat default)),.int .i64 (Qaa.worth (rf.places.getD i.toNat default))],pA 1 0],[Item.code (QaB YP 103)],[],.run,none⟩
def QhM (rf:Qaf) (i:Int):Value:=(.agg #[.int .i64 (Qaa.count (rf.places.getD i.toNat default)),.int .i64 (Qaa.count (rf.places.getD i.toNat default)+Int.tdiv (Qaa.count (rf.places.getD i.toNat default) * rf.miss) 1000)])
theorem Qu0 (B:Lo) (rf:Qaf) (plan:List Int) (i:Int) (ys:List Span) (dJ0:Nat->Value):CE.finK 5 (Qam YP (Qa3 YP) J0 B 6 5 (QfD rf plan i ys dJ0) (Qer rf plan i ys dJ0) 5
 [(9,Qai.pure (.int .i64 (Qaa.count (rf.places.getD i.toNat default)+Int.tdiv (Qaa.count (rf.places.getD i.toNat default) * rf.miss) 1000)) [])] 0 [] []) [] [] []=some (OO.ret (.agg #[.int .i64 (Qaa.count (rf.places.getD i.toNat default)),.int .i64 (Qaa.count (rf.places.getD i.toNat default)+Int.tdiv (Qaa.count (rf.places.getD i.toNat default) * rf.miss) 1000)]),[],[],
 [Qa2 []/\Qaw YP J0 100 #[.int .i64 (Qaa.count (rf.places.getD i.toNat default)),.int .i64 rf.miss] (.int .i64 (Qaa.count (rf.places.getD i.toNat default)+Int.tdiv (Qaa.count (rf.places.getD i.toNat default) * rf.miss) 1000))]):=by kernel_rfl
theorem QtY (B:Lo) (rf:Qaf) (plan:List Int) (i:Int) (ys:List Span) (dJ0:Nat->Value):CE.landA 2 (Qam YP (Qa3 YP) J0 B 13 2 (Qep (none) 102 26 (([1,5,11,12,13]:List Nat).zip (QcP rf plan i ys)) dJ0 QcL) (QcO (Qcc rf plan) 2 (([]:List Nat).zip (QcN rf plan i ys)) (QbG rf plan i ys)) (2+1+(QbG rf plan i ys).length)
 [(0,hvT),(2,Qai.tidx i.toNat #[.int .i64 (Qaa.count (rf.places.getD i.toNat default)),.int .i64 (Qaa.room (rf.places.getD i.toNat default)),.int .i64 (Qaa.glo (rf.places.getD i.toNat default)),.int .i64 (Qaa.ghi (rf.places.getD i.toNat default)),.int .i64 (Qaa.drift (rf.places.getD i.toNat default)),.int .i64 (Qaa.into (rf.places.getD i.toNat default)),.int .i64 (Qaa.olo (rf.places.getD i.toNat default)),.int .i64 (Qaa.ohi (rf.places.getD i.toNat default)),.int .i64 (Qaa.slo (rf.places.getD i.toNat default)),.int .i64 (Qaa.shi (rf.places.getD i.toNat default)),.int .i64 (Qaa.goal (rf.places.getD i.toNat default)),.int .i64 (Qaa.worth (rf.places.getD i.toNat default))]),(11,Qai.call (List.range 5) (OO.ret (QhM rf i)) ([]++(5,QbH)::Qbg 6 []) 6 []),(12,Qai.old (Hint.idx i.toNat)),(13,Qai.old (Hint.st (Qae QaA (List.set ys i.toNat {lo:=Qaa.count (rf.places.getD i.toNat default),hi:=Qaa.count (rf.places.getD i.toNat default)+Int.tdiv (Qaa.count (rf.places.getD i.toNat default) * rf.miss) 1000})))),(14,hvI (i+1))] 0 [] []) [1,5,11,12,13] [] [(3,KS.cells [] (Qae QaA (List.set ys i.toNat {lo:=Qaa.count (rf.places.getD i.toNat default),hi:=Qaa.count (rf.places.getD i.toNat default)+Int.tdiv (Qaa.count (rf.places.getD i.toNat default) * rf.miss) 1000})))] []=some ⟨102,26,QcL,[],.run,none,QcP rf plan (i+1) (List.set ys i.toNat {lo:=Qaa.count (rf.places.getD i.toNat default),hi:=Qaa.count (rf.places.getD i.toNat default)+Int.tdiv (Qaa.count (rf.places.getD i.toNat default) * rf.miss) 1000}),([]:List Nat).zip (QcN rf plan (i+1) (List.set ys i.toNat {lo:=Qaa.count (rf.places.getD i.toNat default),hi:=Qaa.count (rf.places.getD i.toNat default)+Int.tdiv (Qaa.count (rf.places.getD i.toNat default) * rf.miss) 1000})),QbG rf plan (i+1) (List.set ys i.toNat {lo:=Qaa.count (rf.places.getD i.toNat default),hi:=Qaa.count (rf.places.getD i.toNat default)+Int.tdiv (Qaa.count (rf.places.getD i.toNat default) * rf.miss) 1000}),
 [Qbh 2 [] (Qae QaA (List.set ys i.toNat {lo:=Qaa.count (rf.places.getD i.toNat default),hi:=Qaa.count (rf.places.getD i.toNat default)+Int.tdiv (Qaa.count (rf.places.getD i.toNat default) * rf.miss) 1000})) (Qae QaA (List.set ys i.toNat {lo:=Qaa.count (rf.places.getD i.toNat default),hi:=Qaa.count (rf.places.getD i.toNat default)+Int.tdiv (Qaa.count (rf.places.getD i.toNat default) * rf.miss) 1000})),wq (i+1)=i+1,0+Int.toNat i * 2+TypeInfo.size Try.t38<=Array.size (Qae QaA ys)/\splice (Qae QaA ys) (0+Int.toNat i * 2) (Value.cells (Qch {len:=16000,tr:=Tri.set 14 (Tri.set 14 Tri.lf 22 (QhM rf i)) 23 (.pointer (some {block:=3,off:=0+Int.toNat i * 2}))} 22))=Qae QaA (List.set ys i.toNat {lo:=Qaa.count (rf.places.getD i.toNat default),hi:=Qaa.count (rf.places.getD i.toNat default)+Int.tdiv (Qaa.count (rf.places.getD i.toNat default) * rf.miss) 1000}),i=(↑i.toNat:Int)/\Int.toNat i < List.length rf.places,FJ YP B (QfD rf plan i ys dJ0) (Qer rf plan i ys dJ0) 5 (OO.ret (QhM rf i)) (([]++((5,QbH)::Qbg (5+1) []))++Qer rf plan i ys dJ0) 6 (List.range 5) [],i=(↑i.toNat:Int)/\Int.toNat i < List.length rf.places/\Array.extract (Qae Qad rf.places) (Int.toNat i * TypeInfo.size Try.t54) (Int.toNat i * TypeInfo.size Try.t54+TypeInfo.size Try.t54)=#[.int .i64 (Qaa.count (rf.places.getD i.toNat default)),.int .i64 (Qaa.room (rf.places.getD i.toNat default)),.int .i64 (Qaa.glo (rf.places.getD i.toNat default)),.int .i64 (Qaa.ghi (rf.places.getD i.toNat default)),.int .i64 (Qaa.drift (rf.places.getD i.toNat default)),.int .i64 (Qaa.into (rf.places.getD i.toNat default)),.int .i64 (Qaa.olo (rf.places.getD i.toNat default)),.int .i64 (Qaa.ohi (rf.places.getD i.toNat default)),.int .i64 (Qaa.slo (rf.places.getD i.toNat default)),.int .i64 (Qaa.shi (rf.places.getD i.toNat default)),.int .i64 (Qaa.goal (rf.places.getD i.toNat default)),.int .i64 (Qaa.worth (rf.places.getD i.toNat default))],ltq i (↑rf.places.length:Int)=true]⟩:=by kernel_rfl
theorem QtB (B:Lo) (rf:Qaf) (plan:List Int) (i:Int) (ys:List Span) (dJ0:Nat->Value):CE.finK 2 (Qam YP (Qa3 YP) J0 B 9 2 (Qep (none) 102 26 (([1,5,11,12,13]:List Nat).zip (QcP rf plan i ys)) dJ0 QcL) (QcO (Qcc rf plan) 2 (([]:List Nat).zip (QcN rf plan i ys)) (QbG rf plan i ys)) (2+1+(QbG rf plan i ys).length)
 [(0,hvF)] 0 [] []) [] [] [{k:=3,rs:=[],cs:=Qae QaA ys}]=some (OO.ret (Qaq 2 (slT rf.places.length (Fz.cs {k:=3,rs:=[],cs:=Qae QaA ys}))),[],[],
 [Qcv (Fz.rs {k:=3,rs:=[],cs:=Qae QaA ys}) (Qae QaA ys) (Fz.cs {k:=3,rs:=[],cs:=Qae QaA ys}),ltq i (↑rf.places.length:Int)=false]):=by kernel_rfl
set_option maxHeartbeats 4000000 in
theorem QmD (rf:Qaf) (plan:List Int) (hn:rf.places.length<=1000000) (hm:0<=rf.miss/\rf.miss<=2000) (hc:∀k:Int,0<=k->k < rf.places.length->0<=(rf.places.getD k.toNat default).count/\(rf.places.getD k.toNat default).count<=1000000) {B:Lo} (hJ:∀w,B.has w->J0 w):∀m:Nat,(∀(i:Int) (ys:List Span),(rf.places.length - i.toNat)=m->∀(h0:0<=i) (hy:ys=QiD (QaS rf.miss) ⟨0,0⟩ rf.places i),(∃dJ0:Nat->Value,(∀t,Qbi (dJ0 t))/\GoE YP B (QdC rf plan) (Qcc rf plan) 2 (Qep (none) 102 26 (([1,5,11,12,13]:List Nat).zip (QcP rf plan i ys)) dJ0 QcL) (QcO (Qcc rf plan) 2 (([]:List Nat).zip (QcN rf plan i ys)) (QbG rf plan i ys)) (2+1+(QbG rf plan i ys).length) ([]:List Nat))->FinK YP B (QdC rf plan) (Qcc rf plan) 2 (.ret (Qaq 2 (QpS (rf.places.map (QaS rf.miss))))) (([]:List Nat).zip ([])) ([]) ([]:List Nat)):=by
 intro m0;induction m0 using Nat.strongRecOn with
 | _ m0 ih0=>
   intro i ys hm0 h0 hy ⟨dJ0,hdJ0,hg0⟩;have hyl:ys.length=rf.places.length:=by rw [hy];exact QjI
   by_cases q0:(i:Int) < ((↑rf.places.length:Int))
   ·have rj1:FJ YP B (QfD rf plan i ys dJ0) (Qer rf plan i ys dJ0) 5 (OO.ret (.agg #[.int .i64 (Qaa.count (rf.places.getD i.toNat default)),.int .i64 (Qaa.count (rf.places.getD i.toNat default)+Int.tdiv (Qaa.count (rf.places.getD i.toNat default) * rf.miss) 1000)])) (([]++((5,QbH)::Qbg (5+1) []))++Qer rf plan i ys dJ0) 6 (List.range 5) []:=by
     have hc1:=hc i h0 q0;exact FinK.fjB (GoE.finK okF hJ Qab (Qa0 (by kernel_rfl)) (Qat (by kernel_rfl)) ((GoE.refl (P:=YP) (B:=B) (c0:=QfD rf plan i ys dJ0) (Qa0 (by kernel_rfl))).widen (Wf:=((([]):List (Nat×KS)).map (·.1))) (by simp) (Qat (by kernel_rfl))) (Qu0 B rf plan i ys dJ0)
      ⟨⟨trivial,Qvb (Qaa.count (rf.places.getD i.toNat default)) rf.miss (by omega) (by omega)⟩,trivial⟩) (ex:=[3]) (by kernel_rfl) ⟨trivial,⟨trivial,⟨(Qee (t:=38) (fl:=(0,0)) (fun x=> List.all_eq_true.1 (by rfl))),⟨trivial,⟨trivial,trivial⟩⟩⟩⟩⟩
    exact ((ih0 _ (by omega)) (i+1) (List.set ys i.toNat {lo:=Qaa.count (rf.places.getD i.toNat default),hi:=Qaa.count (rf.places.getD i.toNat default)+Int.tdiv (Qaa.count (rf.places.getD i.toNat default) * rf.miss) 1000}) rfl (by omega) (by (subst hy;exact Qjw (f:=QaS rf.miss) h0 q0))
     (GoE.landA okF hJ Qab (Qa0 (by kernel_rfl)) (Qat (by kernel_rfl)) hg0 (QtY B rf plan i ys dJ0)
     (by exact ⟨(Qar (Qay (fun x=> List.all_eq_true.1 (by rfl)))),⟨(QaH (by omega) (by omega)),⟨(by exact Qc7 (z:=2) (fun _=> rfl) (by omega) rfl rfl),⟨⟨by omega,by omega⟩,⟨rj1,⟨⟨by omega,by omega,(Qal (z:=12) (fun _=> rfl) (by omega))⟩,⟨(QbD q0),trivial⟩⟩⟩⟩⟩⟩⟩) (by kernel_rfl) (by kernel_rfl) (fun l hl=> by cases hl <;> decide))).cast (by rfl) (by rfl) (by rfl)
   ·exact (GoE.finK okF hJ Qab (Qa0 (by kernel_rfl)) (Qat (by kernel_rfl)) hg0 (QtB B rf plan i ys dJ0)
     ⟨(QcA (fun x=> List.all_eq_true.1 (by rfl))),⟨(QbI (Int.not_lt.1 q0)),trivial⟩⟩).cast (by exact congrArg (fun v=> OO.ret (Qaq _ v)) (Qso (hy.trans (Qjt (by omega))) (by simp))) (by rfl) (by rfl)

theorem Quf (B:Lo) (rf:Qaf) (plan:List Int):CE.landA 2 (Qam YP (Qa3 YP) J0 B 9 2 (QdC rf plan) (Qcc rf plan) 2
 [(3,Qai.old (Hint.mk rf.places.length (Qae (Qc4 [.int .i64 0,.int .i64 0]) (List.replicate rf.places.length ()))))] 0 [] []) [1,5,11,12,13] [] [(2,KS.rows [] [] [] (Qae QaA (List.replicate rf.places.length {lo:=0,hi:=0})))] []=some ⟨102,26,QcL,[],.run,none,QcP rf plan (0) (List.replicate rf.places.length {lo:=0,hi:=0}),([]:List Nat).zip (QcN rf plan (0) (List.replicate rf.places.length {lo:=0,hi:=0})),QbG rf plan (0) (List.replicate rf.places.length {lo:=0,hi:=0}),
 [Qbx 2 [] [] [] (Qae (Qc4 [.int .i64 0,.int .i64 0]) (List.replicate rf.places.length ())) (Qae QaA (List.replicate rf.places.length {lo:=0,hi:=0})),Qj9 YP 36 (Qch {len:=16000,tr:=Tri.set 14 Tri.lf 9 (.int .i64 (↑rf.places.length:Int))} 9) (Qch {len:=16000,tr:=Tri.set 14 Tri.lf 9 (.int .i64 (↑rf.places.length:Int))} 9)=some (38,Qae (Qc4 [.int .i64 0,.int .i64 0]) (List.replicate rf.places.length ()),List.length rf.places,TypeInfo.size Try.t38)]⟩:=by kernel_rfl
theorem QuV (B:Lo) (rf:Qaf) (plan:List Int):Qbd (Qam YP (Qa3 YP) J0 B 6 1 (Qaj YP 82 8 (([.agg (QaG rf plan).toArray]).map (Qau 0 4))) H00 1
 [(6,Qai.call (List.range 2) (OO.ret (Qaq 2 (slT (List.length (List.map (QaS rf.miss) rf.places)) (Qae QaA (List.map (QaS rf.miss) rf.places))))) ([]++(2,QbH)::Qbg 3 []) 3 [])] 0 [] []) []=some (slT (List.length (List.map (QaS rf.miss) rf.places)) (Qae QaA (List.map (QaS rf.miss) rf.places)),
 [FJ YP B (QdC rf plan) (Qcc rf plan) 2 (OO.ret (Qaq 2 (slT (List.length (List.map (QaS rf.miss) rf.places)) (Qae QaA (List.map (QaS rf.miss) rf.places))))) (([]++((2,QbH)::Qbg (2+1) []))++Qcc rf plan) 3 (List.range 2) []]):=by kernel_rfl
set_option maxHeartbeats 4000000 in
theorem Qv8 (rf:Qaf) (plan:List Int) (hn:rf.places.length<=1000000) (hm:0<=rf.miss/\rf.miss<=2000) (hc:∀k:Int,0<=k->k < rf.places.length->0<=(rf.places.getD k.toNat default).count/\(rf.places.getD k.toNat default).count<=1000000) {B:Lo} (hJ:∀w,B.has w->J0 w):EndsT YP B (Qaj YP 82 8 (([.agg (QaG rf plan).toArray]).map (Qau 0 4))) (QpS (rf.places.map (QaS rf.miss))):=by
 have rj0:FJ YP B (QdC rf plan) (Qcc rf plan) 2 (OO.ret (Qaq 2 (slT (List.length (List.map (QaS rf.miss) rf.places)) (Qae QaA (List.map (QaS rf.miss) rf.places))))) (([]++((2,QbH)::Qbg (2+1) []))++Qcc rf plan) 3 (List.range 2) []:=by
  exact FinK.fjB ((QmD rf plan hn hm hc hJ _) (0) (List.replicate rf.places.length {lo:=0,hi:=0}) rfl (by omega) (by exact Qsq)
   (GoE.landA okF hJ Qab (Qa0 (by kernel_rfl)) (Qat (by kernel_rfl)) ((GoE.refl (P:=YP) (B:=B) (c0:=QdC rf plan) (Qa0 (by kernel_rfl))).widen (Wf:=((([]):List (Nat×KS)).map (·.1))) (by simp) (Qat (by kernel_rfl))) (Quf B rf plan)
   ⟨(by exact (QdU (by exact ⟨(.simple rfl),⟨(.simple rfl),trivial⟩⟩) _)),⟨(Qtu (bytes:=16) (by kernel_rfl) (by omega) (by omega) (by omega)),trivial⟩⟩ (by kernel_rfl) (by kernel_rfl) (fun l hl=> by cases hl <;> decide))) (ex:=[]) (by kernel_rfl) (QiY _)
 exact (GoE.endsT okF hJ Qab GoE.start (QuV B rf plan)
  ⟨rj0,trivial⟩).cast (by rfl)
theorem Q2I (rf:Qaf) (plan:List Int) (hn:rf.places.length<=1000000) (hm:0<=rf.miss/\rf.miss<=2000) (hc:∀k:Int,0<=k->k < rf.places.length->0<=(rf.places.getD k.toNat default).count/\(rf.places.getD k.toNat default).count<=1000000):Qaw YP J0 82 #[.agg (QaG rf plan).toArray] (QpS (rf.places.map (QaS rf.miss))):=
 QaV (ts:=[.agg (QaG rf plan).toArray]) QbS (c0:=Qaj YP 82 8 (([.agg (QaG rf plan).toArray]).map (Qau 0 4))) (by kernel_rfl) (by kernel_rfl) fun B hJ=> Qv8 rf plan hn hm hc hJ
end
end Go.Proofs.Ytncjjangllkokaa

namespace Go.Proofs.Ytncjjangllkokaa
open Go Go.CE Go.RowKit
noncomputable section
set_option maxRecDepth 100000
def Qdp {β:Type} (n:Int) (f:Int->β):List β:=(upI 0 n).map f
theorem QaZ {β:Type} {n:Int} {f:Int->β}:(Qdp n f).length=n.toNat:=by simp [Qdp,upI]
theorem QeU {β:Type} {n:Int} {f:Int->β} {k:Nat} (h:k < n.toNat):(Qdp n f)[k]? =some (f k):=by
 unfold Qdp upI;rw [List.getElem?_map,List.getElem?_map,List.getElem?_range (by omega)];simp
theorem QaQ {β:Type} [Inhabited β] {n k:Int} {f:Int->β} (h0:0<=k) (h:k < n):(Qdp n f).getD k.toNat default=f k:=by
 rw [List.getD_eq_getElem?_getD,QeU (by omega),show ((k.toNat:Nat):Int)=k by omega];rfl
theorem Qbe {β:Type} {n:Int} {f g:Int->β} (h:∀k,0<=k->k < n->f k=g k):Qdp n f=Qdp n g:=by
 refine List.ext_getElem? fun k=> ?_
 by_cases hk:k < n.toNat
 ·rw [QeU hk,QeU hk,h k (by omega) (by omega)]
 ·rw [List.getElem?_eq_none (by rw [QaZ];omega),List.getElem?_eq_none (by rw [QaZ];omega)]
theorem QgF {β:Type} {n i:Int} {f:Int->β} {v:β} (h0:0<=i) (h:i < n):(Qdp n f).set i.toNat v=Qdp n (fun k=> if k=i then v else f k):=by
 refine List.ext_getElem? fun k=> ?_
 by_cases hk:k < n.toNat
 ·rw [List.getElem?_set,QaZ,QeU hk,QeU hk];by_cases e:i.toNat=k
  ·rw [if_pos e,if_pos (by omega),if_pos (by omega)]
  ·rw [if_neg e,if_neg (by omega)]
 ·rw [List.getElem?_eq_none (by rw [List.length_set,QaZ];omega),List.getElem?_eq_none (by rw [QaZ];omega)]
theorem Qx8 {α β:Type} [Inhabited α] {xs:List α} {f:α->β}:xs.map f=Qdp xs.length (fun k=> f (xs.getD k.toNat default)):=by
 refine List.ext_getElem? fun k=> ?_
 by_cases hk:k < xs.length
 ·rw [QeU (by omega),List.getElem?_map,List.getElem?_eq_getElem hk];simp [List.getD_eq_getElem?_getD,hk]
 ·rw [List.getElem?_eq_none (by simp;omega),List.getElem?_eq_none (by rw [QaZ];omega)]
def Qkt (x:Qaa):Span:=⟨x.slo,x.shi⟩
def QcF (p k:Int) (x:Qaa):Span:=if hasB p k then Qkt x else Qcb x
def QaX (ps:List Qaa) (p:Int):List Span:=Qdp ps.length fun k=> QcF p k (ps.getD k.toNat default)
def Qhk (ps:List Qaa) (p i:Int):List Span:=Qdp ps.length fun k=> if k < i then QcF p k (ps.getD k.toNat default) else Qcb (ps.getD k.toNat default)
theorem Qze {ps:List Qaa} {p:Int}:ps.map Qcb=Qhk ps p 0:=by
 rw [Qx8];exact Qbe fun k h0 _=> by rw [if_neg (by omega)]
theorem Qva {ps:List Qaa} {p i:Int} (h:ps.length<=i):Qhk ps p i=QaX ps p:=Qbe fun k h0 h1=> by rw [if_pos (by omega)]
theorem Qvx {ps:List Qaa} {p i:Int} (h0:0<=i) (h:hasB p i=false):Qhk ps p i=Qhk ps p (i+1):=Qbe fun k g0 g1=> by
 by_cases e:k=i
 ·subst e;rw [if_neg (by omega),if_pos (by omega),QcF,h];rfl
 ·by_cases e2:k < i
  ·rw [if_pos e2,if_pos (by omega)]
  ·rw [if_neg e2,if_neg (by omega)]
theorem QtT {ps:List Qaa} {p i:Int} (h0:0<=i) (h1:i < ps.length) (h:hasB p i=true):(Qhk ps p i).set i.toNat (Qkt (ps.getD i.toNat default))=Qhk ps p (i+1):=by
 unfold Qhk;rw [QgF h0 h1];refine Qbe fun k g0 g1=> ?_
 by_cases e:k=i
 ·subst e;rw [if_pos rfl,if_pos (by omega),QcF,h];rfl
 ·rw [if_neg e];by_cases e2:k < i
  ·rw [if_pos e2,if_pos (by omega)]
  ·rw [if_neg e2,if_neg (by omega)]
theorem Q33 {n k:Int} (hn:0<=n):0<=((QpT n k:Nat):Int)/\((QpT n k:Nat):Int)<=n:=by
 have:=Q2r (a:=n) (n:=k);omega
def Qc5 (rf:Qaf) (plan:List Int) (k:Int):Qan:=[(1,Obj.cells #[Qaq 0 (slT rf.places.length (Qae Qad rf.places)),.int .i64 rf.miss,.int .i64 rf.seasons,.int .i64 (plan.getD 0 0),.int .i64 (plan.getD 1 0),.int .i64 (plan.getD 2 0),.int .i64 (plan.getD 3 0)] 84),(0,Obj.coro none)]
def Qe9 (rf:Qaf) (plan:List Int) (k:Int):CF:=⟨102,ofList 26 [Qaq 0 (slT rf.places.length (Qae Qad rf.places)),Value.func (Fn.func 105) #[] #[]],[Item.code (QaB YP 102)],[],.run,none⟩
def Qdk (rf:Qaf) (plan:List Int) (k:Int) (i:Int) (ys:List Span):List Value:=[Value.func (Fn.func 105) #[] #[],.slice (some {block:=3,off:=0}) rf.places.length 2,Qaq 0 (slT rf.places.length (Qae Qad rf.places)),.int .i64 (↑rf.places.length:Int),.int .i64 i]
def Qdu (rf:Qaf) (plan:List Int) (k:Int) (i:Int) (ys:List Span):List Obj:=[]
def QbP (rf:Qaf) (plan:List Int) (k:Int) (i:Int) (ys:List Span):List Obj:=[.cells (Qae QaA ys) 38 (0,0)]
def Qds:List Item:=([.code [1,1,0,1,0,0],.inLoop [1,1,0,1,0,0],.inBlock 0,.code [1,1,1]]).map (it (QaB YP 102))
def Qfv (rf:Qaf) (plan:List Int) (k:Int) (i:Int) (ys:List Span) (dJ0:Nat->Value):Qan:=[(4,Obj.cells #[.int .i64 (Qaa.count (rf.places.getD i.toNat default)),.int .i64 (Qaa.room (rf.places.getD i.toNat default)),.int .i64 (Qaa.glo (rf.places.getD i.toNat default)),.int .i64 (Qaa.ghi (rf.places.getD i.toNat default)),.int .i64 (Qaa.drift (rf.places.getD i.toNat default)),.int .i64 (Qaa.into (rf.places.getD i.toNat default)),.int .i64 (Qaa.olo (rf.places.getD i.toNat default)),.int .i64 (Qaa.ohi (rf.places.getD i.toNat default)),.int .i64 (Qaa.slo (rf.places.getD i.toNat default)),.int .i64 (Qaa.shi (rf.places.getD i.toNat default)),.int .i64 (Qaa.goal (rf.places.getD i.toNat default)),.int .i64 (Qaa.worth (rf.places.getD i.toNat default))] 54),(2,Obj.coro none),(3,Obj.cells (Qae QaA ys) 38),(1,Obj.cells #[Qaq 0 (slT rf.places.length (Qae Qad rf.places)),.int .i64 rf.miss,.int .i64 rf.seasons,.int .i64 (plan.getD 0 0),.int .i64 (plan.getD 1 0),.int .i64 (plan.getD 2 0),.int .i64 (plan.getD 3 0)] 84),(0,Obj.coro none)]
def QgB (rf:Qaf) (plan:List Int) (k:Int) (i:Int) (ys:List Span) (dJ0:Nat->Value):CF:=⟨105,ofList 5 [.agg #[.int .i64 (Qaa.count (rf.places.getD i.toNat default)),.int .i64 (Qaa.room (rf.places.getD i.toNat default)),.int .i64 (Qaa.glo (rf.places.getD i.toNat default)),.int .i64 (Qaa.ghi (rf.places.getD i.toNat default)),.int .i64 (Qaa.drift (rf.places.getD i.toNat default)),.int .i64 (Qaa.into (rf.places.getD i.toNat default)),.int .i64 (Qaa.olo (rf.places.getD i.toNat default)),.int .i64 (Qaa.ohi (rf.places.getD i.toNat default)),.int .i64 (Qaa.slo (rf.places.getD i.toNat default)),.int .i64 (Qaa.shi (rf.places.getD i.toNat default)),.int .i64 (Qaa.goal (rf.places.getD i.toNat default)),.int .i64 (Qaa.worth (rf.places.getD i.toNat default))]],[Item.code (QaB YP 105)],[],.run,none⟩
def QgN (rf:Qaf) (plan:List Int) (k:Int):Array Value:=#[.agg #[Qaq 0 (slT rf.places.length (Qae Qad rf.places)),.int .i64 rf.miss,.int .i64 rf.seasons,.int .i64 (plan.getD 0 0),.int .i64 (plan.getD 1 0),.int .i64 (plan.getD 2 0),.int .i64 (plan.getD 3 0)],.int .i64 k,pA 1 0,.tuple #[],.slice none 0 0,pA 4 0,.tuple #[],pA 1 0,pA 1 0,Qaq 0 (slT rf.places.length (Qae Qad rf.places)),.slice (some {block:=3,off:=0}) rf.places.length 2,.agg #[Qaq 0 (slT rf.places.length (Qae Qad rf.places)),.int .i64 rf.miss,.int .i64 rf.seasons,.int .i64 (plan.getD 0 0),.int .i64 (plan.getD 1 0),.int .i64 (plan.getD 2 0),.int .i64 (plan.getD 3 0)],.int .i64 k,Value.func (Fn.func 112) #[] #[Qaq 5 (ptT 0 #[slT rf.places.length (Qae Qad rf.places),.int .i64 rf.miss,.int .i64 rf.seasons,.int .i64 (plan.getD 0 0),.int .i64 (plan.getD 1 0),.int .i64 (plan.getD 2 0),.int .i64 (plan.getD 3 0)]),Qaq 5 (ptT 0 #[.int .i64 k])],.tuple #[],.tuple #[],.tuple #[],.tuple #[],.tuple #[],.tuple #[],.tuple #[],.tuple #[],.tuple #[],.tuple #[],.tuple #[],.tuple #[]]
def QgP (rf:Qaf) (i:Int):Array Value:=#[.int .i64 (Qaa.count (rf.places.getD i.toNat default)),.int .i64 (Qaa.room (rf.places.getD i.toNat default)),.int .i64 (Qaa.glo (rf.places.getD i.toNat default)),.int .i64 (Qaa.ghi (rf.places.getD i.toNat default)),.int .i64 (Qaa.drift (rf.places.getD i.toNat default)),.int .i64 (Qaa.into (rf.places.getD i.toNat default)),.int .i64 (Qaa.olo (rf.places.getD i.toNat default)),.int .i64 (Qaa.ohi (rf.places.getD i.toNat default)),.int .i64 (Qaa.slo (rf.places.getD i.toNat default)),.int .i64 (Qaa.shi (rf.places.getD i.toNat default)),.int .i64 (Qaa.goal (rf.places.getD i.toNat default)),.int .i64 (Qaa.worth (rf.places.getD i.toNat default))]
def Qf4 (rf:Qaf) (plan:List Int):Array Value:=#[slT rf.places.length (Qae Qad rf.places),.int .i64 rf.miss,.int .i64 rf.seasons,.int .i64 (plan.getD 0 0),.int .i64 (plan.getD 1 0),.int .i64 (plan.getD 2 0),.int .i64 (plan.getD 3 0)]
def QjQ (rf:Qaf) (i:Int):Value:=(.agg #[.int .i64 (Qaa.olo (rf.places.getD i.toNat default)),.int .i64 (Qaa.ohi (rf.places.getD i.toNat default))])
theorem QxM (B:Lo) (rf:Qaf) (plan:List Int) (k:Int) (i:Int) (ys:List Span) (dJ0:Nat->Value):CE.finK 5 (Qam YP (Qa3 YP) J0 B 6 5 (QgB rf plan k i ys dJ0) (Qfv rf plan k i ys dJ0) 5
 [] 0 [] []) [] [] []=some (OO.ret (.agg #[.int .i64 (Qaa.olo (rf.places.getD i.toNat default)),.int .i64 (Qaa.ohi (rf.places.getD i.toNat default))]),[],[],
 []):=by kernel_rfl
theorem QwL (B:Lo) (rf:Qaf) (plan:List Int) (k:Int) (i:Int) (ys:List Span) (dJ0:Nat->Value):CE.landA 2 (Qam YP (Qa3 YP) J0 B 13 2 (Qep (none) 102 26 (([1,5,11,12,13]:List Nat).zip (Qdk rf plan k i ys)) dJ0 Qds) (QcO (Qc5 rf plan k) 2 (([]:List Nat).zip (Qdu rf plan k i ys)) (QbP rf plan k i ys)) (2+1+(QbP rf plan k i ys).length)
 [(0,hvT),(2,Qai.tidx i.toNat (QgP rf i)),(11,Qai.call (List.range 5) (OO.ret (QjQ rf i)) ([]++(5,QbH)::Qbg 6 []) 6 []),(12,Qai.old (Hint.idx i.toNat)),(13,Qai.old (Hint.st (Qae QaA (List.set ys i.toNat {lo:=Qaa.olo (rf.places.getD i.toNat default),hi:=Qaa.ohi (rf.places.getD i.toNat default)})))),(14,hvI (i+1))] 0 [] []) [1,5,11,12,13] [] [(3,KS.cells [] (Qae QaA (List.set ys i.toNat {lo:=Qaa.olo (rf.places.getD i.toNat default),hi:=Qaa.ohi (rf.places.getD i.toNat default)})))] []=some ⟨102,26,Qds,[],.run,none,Qdk rf plan k (i+1) (List.set ys i.toNat {lo:=Qaa.olo (rf.places.getD i.toNat default),hi:=Qaa.ohi (rf.places.getD i.toNat default)}),([]:List Nat).zip (Qdu rf plan k (i+1) (List.set ys i.toNat {lo:=Qaa.olo (rf.places.getD i.toNat default),hi:=Qaa.ohi (rf.places.getD i.toNat default)})),QbP rf plan k (i+1) (List.set ys i.toNat {lo:=Qaa.olo (rf.places.getD i.toNat default),hi:=Qaa.ohi (rf.places.getD i.toNat default)}),
 [Qbh 2 [] (Qae QaA (List.set ys i.toNat {lo:=Qaa.olo (rf.places.getD i.toNat default),hi:=Qaa.ohi (rf.places.getD i.toNat default)})) (Qae QaA (List.set ys i.toNat {lo:=Qaa.olo (rf.places.getD i.toNat default),hi:=Qaa.ohi (rf.places.getD i.toNat default)})),wq (i+1)=i+1,0+Int.toNat i * 2+TypeInfo.size Try.t38<=Array.size (Qae QaA ys)/\splice (Qae QaA ys) (0+Int.toNat i * 2) (Value.cells (Qch {len:=16000,tr:=Tri.set 14 (Tri.set 14 Tri.lf 22 (QjQ rf i)) 23 (.pointer (some {block:=3,off:=0+Int.toNat i * 2}))} 22))=Qae QaA (List.set ys i.toNat {lo:=Qaa.olo (rf.places.getD i.toNat default),hi:=Qaa.ohi (rf.places.getD i.toNat default)}),i=(↑i.toNat:Int)/\Int.toNat i < List.length rf.places,FJ YP B (QgB rf plan k i ys dJ0) (Qfv rf plan k i ys dJ0) 5 (OO.ret (QjQ rf i)) (([]++((5,QbH)::Qbg (5+1) []))++Qfv rf plan k i ys dJ0) 6 (List.range 5) [],i=(↑i.toNat:Int)/\Int.toNat i < List.length rf.places/\Array.extract (Qae Qad rf.places) (Int.toNat i * TypeInfo.size Try.t54) (Int.toNat i * TypeInfo.size Try.t54+TypeInfo.size Try.t54)=(QgP rf i),ltq i (↑rf.places.length:Int)=true]⟩:=by kernel_rfl
theorem QwY (B:Lo) (rf:Qaf) (plan:List Int) (k:Int) (i:Int) (ys:List Span) (dJ0:Nat->Value):CE.finK 2 (Qam YP (Qa3 YP) J0 B 9 2 (Qep (none) 102 26 (([1,5,11,12,13]:List Nat).zip (Qdk rf plan k i ys)) dJ0 Qds) (QcO (Qc5 rf plan k) 2 (([]:List Nat).zip (Qdu rf plan k i ys)) (QbP rf plan k i ys)) (2+1+(QbP rf plan k i ys).length)
 [(0,hvF)] 0 [] []) [] [(3,KS.cells [] (Qae QaA ys))] []=some (OO.ret (.slice (some {block:=3,off:=0}) rf.places.length 2),[],[Obj.cells (Qae QaA ys) 38],
 [Qbh 2 [] (Qae QaA ys) (Qae QaA ys),ltq i (↑rf.places.length:Int)=false]):=by kernel_rfl
set_option maxHeartbeats 4000000 in
theorem QoH (rf:Qaf) (plan:List Int) (k:Int) (hn:rf.places.length<=4) (hl:plan.length<=4) (k0:0<=k) (k1:k < 4) (hp:∀j:Nat,0<=plan.getD j 0/\plan.getD j 0<=1000000) {B:Lo} (hJ:∀w,B.has w->J0 w):∀m:Nat,(∀(i:Int) (ys:List Span),(rf.places.length - i.toNat)=m->∀(h0:0<=i) (hy:ys=QiD Qcb ⟨0,0⟩ rf.places i),(∃dJ0:Nat->Value,(∀t,Qbi (dJ0 t))/\GoE YP B (Qe9 rf plan k) (Qc5 rf plan k) 2 (Qep (none) 102 26 (([1,5,11,12,13]:List Nat).zip (Qdk rf plan k i ys)) dJ0 Qds) (QcO (Qc5 rf plan k) 2 (([]:List Nat).zip (Qdu rf plan k i ys)) (QbP rf plan k i ys)) (2+1+(QbP rf plan k i ys).length) ([]:List Nat))->FinK YP B (Qe9 rf plan k) (Qc5 rf plan k) 2 (.ret (.slice (some ⟨3,0,none⟩) rf.places.length 2)) (([]:List Nat).zip ([])) ([.cells (Qae QaA (rf.places.map Qcb)) 38 (0,0)]) ([]:List Nat)):=by
 intro m0;induction m0 using Nat.strongRecOn with
 | _ m0 ih0=>
   intro i ys hm0 h0 hy ⟨dJ0,hdJ0,hg0⟩;have hyl:ys.length=rf.places.length:=by rw [hy];exact QjI
   by_cases q0:(i:Int) < ((↑rf.places.length:Int))
   ·have rj1:FJ YP B (QgB rf plan k i ys dJ0) (Qfv rf plan k i ys dJ0) 5 (OO.ret (.agg #[.int .i64 (Qaa.olo (rf.places.getD i.toNat default)),.int .i64 (Qaa.ohi (rf.places.getD i.toNat default))])) (([]++((5,QbH)::Qbg (5+1) []))++Qfv rf plan k i ys dJ0) 6 (List.range 5) []:=by
     exact FinK.fjB (GoE.finK okF hJ Qab (Qa0 (by kernel_rfl)) (Qat (by kernel_rfl)) ((GoE.refl (P:=YP) (B:=B) (c0:=QgB rf plan k i ys dJ0) (Qa0 (by kernel_rfl))).widen (Wf:=((([]):List (Nat×KS)).map (·.1))) (by simp) (Qat (by kernel_rfl))) (QxM B rf plan k i ys dJ0)
      trivial) (ex:=[3]) (by kernel_rfl) ⟨trivial,⟨trivial,⟨(Qee (t:=38) (fl:=(0,0)) (fun x=> List.all_eq_true.1 (by rfl))),⟨trivial,⟨trivial,trivial⟩⟩⟩⟩⟩
    exact ((ih0 _ (by omega)) (i+1) (List.set ys i.toNat {lo:=Qaa.olo (rf.places.getD i.toNat default),hi:=Qaa.ohi (rf.places.getD i.toNat default)}) rfl (by omega) (by (subst hy;exact Qjw (f:=Qcb) h0 q0))
     (GoE.landA okF hJ Qab (Qa0 (by kernel_rfl)) (Qat (by kernel_rfl)) hg0 (QwL B rf plan k i ys dJ0)
     (by exact ⟨(Qar (Qay (fun x=> List.all_eq_true.1 (by rfl)))),⟨(QaH (by omega) (by omega)),⟨(by exact Qc7 (z:=2) (fun _=> rfl) (by omega) rfl rfl),⟨⟨by omega,by omega⟩,⟨rj1,⟨⟨by omega,by omega,(Qal (z:=12) (fun _=> rfl) (by omega))⟩,⟨(QbD q0),trivial⟩⟩⟩⟩⟩⟩⟩) (by kernel_rfl) (by kernel_rfl) (fun l hl=> by cases hl <;> decide))).cast (by rfl) (by rfl) (by rfl)
   ·exact (GoE.finK okF hJ Qab (Qa0 (by kernel_rfl)) (Qat (by kernel_rfl)) hg0 (QwY B rf plan k i ys dJ0)
     ⟨(Qar (Qay (fun x=> List.all_eq_true.1 (by rfl)))),⟨(QbI (Int.not_lt.1 q0)),trivial⟩⟩).cast (by rfl) (by rfl) (by (rw [hy,Qjt (by omega)];done))

theorem Qvo (B:Lo) (rf:Qaf) (plan:List Int) (k:Int):CE.landA 2 (Qam YP (Qa3 YP) J0 B 9 2 (Qe9 rf plan k) (Qc5 rf plan k) 2
 [(3,Qai.old (Hint.mk rf.places.length (Qae (Qc4 [.int .i64 0,.int .i64 0]) (List.replicate rf.places.length ()))))] 0 [] []) [1,5,11,12,13] [] [(2,KS.rows [] [] [] (Qae QaA (List.replicate rf.places.length {lo:=0,hi:=0})))] []=some ⟨102,26,Qds,[],.run,none,Qdk rf plan k (0) (List.replicate rf.places.length {lo:=0,hi:=0}),([]:List Nat).zip (Qdu rf plan k (0) (List.replicate rf.places.length {lo:=0,hi:=0})),QbP rf plan k (0) (List.replicate rf.places.length {lo:=0,hi:=0}),
 [Qbx 2 [] [] [] (Qae (Qc4 [.int .i64 0,.int .i64 0]) (List.replicate rf.places.length ())) (Qae QaA (List.replicate rf.places.length {lo:=0,hi:=0})),Qj9 YP 36 (Qch {len:=16000,tr:=Tri.set 14 Tri.lf 9 (.int .i64 (↑rf.places.length:Int))} 9) (Qch {len:=16000,tr:=Tri.set 14 Tri.lf 9 (.int .i64 (↑rf.places.length:Int))} 9)=some (38,Qae (Qc4 [.int .i64 0,.int .i64 0]) (List.replicate rf.places.length ()),List.length rf.places,TypeInfo.size Try.t38)]⟩:=by kernel_rfl
def Qfo (rf:Qaf) (plan:List Int) (k:Int):Qan:=[(4,Obj.cells #[.slice (some {block:=3,off:=0}) rf.places.length 2] 36),(2,Obj.coro none),(3,Obj.cells (Qae QaA (List.map Qcb rf.places)) 38),(1,Obj.cells #[Qaq 0 (slT rf.places.length (Qae Qad rf.places)),.int .i64 rf.miss,.int .i64 rf.seasons,.int .i64 (plan.getD 0 0),.int .i64 (plan.getD 1 0),.int .i64 (plan.getD 2 0),.int .i64 (plan.getD 3 0)] 84),(0,Obj.coro none)]
def QgC (rf:Qaf) (plan:List Int) (k:Int):CF:=⟨91,ofList 6 [.agg #[Qaq 0 (slT rf.places.length (Qae Qad rf.places)),.int .i64 rf.miss,.int .i64 rf.seasons,.int .i64 (plan.getD 0 0),.int .i64 (plan.getD 1 0),.int .i64 (plan.getD 2 0),.int .i64 (plan.getD 3 0)],.int .i64 k],[Item.code (QaB YP 91)],[],.run,none⟩
theorem QxC (B:Lo) (rf:Qaf) (plan:List Int) (k:Int):CE.finK 5 (Qam YP (Qa3 YP) J0 B 6 5 (QgC rf plan k) (Qfo rf plan k) 5
 [] 0 [] []) [] [] [{k:=5,rs:=[0],cs:=#[slT rf.places.length (Qae Qad rf.places),.int .i64 rf.miss,.int .i64 rf.seasons,.int .i64 (plan.getD 0 0),.int .i64 (plan.getD 1 0),.int .i64 (plan.getD 2 0),.int .i64 (plan.getD 3 0)]},{k:=6,rs:=[],cs:=#[.int .i64 k]}]=some (OO.ret (Value.func (Fn.func 112) #[] #[Qaq 5 (ptT 0 #[slT rf.places.length (Qae Qad rf.places),.int .i64 rf.miss,.int .i64 rf.seasons,.int .i64 (plan.getD 0 0),.int .i64 (plan.getD 1 0),.int .i64 (plan.getD 2 0),.int .i64 (plan.getD 3 0)]),Qaq 5 (ptT 0 #[.int .i64 k])]),[],[],
 [Qcv (Fz.rs {k:=5,rs:=[0],cs:=(Qf4 rf plan)}) #[Qaq 0 (slT rf.places.length (Qae Qad rf.places)),.int .i64 rf.miss,.int .i64 rf.seasons,.int .i64 (plan.getD 0 0),.int .i64 (plan.getD 1 0),.int .i64 (plan.getD 2 0),.int .i64 (plan.getD 3 0)] (Fz.cs {k:=5,rs:=[0],cs:=(Qf4 rf plan)}),Qcv (Fz.rs {k:=6,rs:=[],cs:=#[.int .i64 k]}) #[.int .i64 k] (Fz.cs {k:=6,rs:=[],cs:=#[.int .i64 k]})]):=by kernel_rfl
def Qcj (rf:Qaf) (plan:List Int) (k:Int):Qan:=[(7,Obj.loop {state:=LoopState.ready,pending:=none,fn:=84,tmps:=#[.agg #[Qaq 0 (slT rf.places.length (Qae Qad rf.places)),.int .i64 rf.miss,.int .i64 rf.seasons,.int .i64 (plan.getD 0 0),.int .i64 (plan.getD 1 0),.int .i64 (plan.getD 2 0),.int .i64 (plan.getD 3 0)],.int .i64 k,pA 1 0,.tuple #[],.slice none 0 0,pA 4 0,.tuple #[],pA 1 0,pA 1 0,Qaq 0 (slT rf.places.length (Qae Qad rf.places)),.slice (some {block:=3,off:=0}) rf.places.length 2,.agg #[Qaq 0 (slT rf.places.length (Qae Qad rf.places)),.int .i64 rf.miss,.int .i64 rf.seasons,.int .i64 (plan.getD 0 0),.int .i64 (plan.getD 1 0),.int .i64 (plan.getD 2 0),.int .i64 (plan.getD 3 0)],.int .i64 k,Value.func (Fn.func 112) #[] #[Qaq 5 (ptT 0 #[slT rf.places.length (Qae Qad rf.places),.int .i64 rf.miss,.int .i64 rf.seasons,.int .i64 (plan.getD 0 0),.int .i64 (plan.getD 1 0),.int .i64 (plan.getD 2 0),.int .i64 (plan.getD 3 0)]),Qaq 5 (ptT 0 #[.int .i64 k])],.tuple #[],.tuple #[],.tuple #[],.tuple #[],.tuple #[],.tuple #[],.tuple #[],.tuple #[],.tuple #[],.tuple #[],.tuple #[],.tuple #[]],params:=#[14],assign:=nav (QaB YP 84) [1,1,0,1,0,0],body:=nav (QaB YP 84) [1,1,0,1,0,1],defers:=6}),(6,Obj.deferred (some [])),(5,Obj.coro none),(4,Obj.cells #[.slice (some {block:=3,off:=0}) rf.places.length 2] 36),(2,Obj.coro none),(3,Obj.cells (Qae QaA (List.map Qcb rf.places)) 38),(1,Obj.cells #[Qaq 0 (slT rf.places.length (Qae Qad rf.places)),.int .i64 rf.miss,.int .i64 rf.seasons,.int .i64 (plan.getD 0 0),.int .i64 (plan.getD 1 0),.int .i64 (plan.getD 2 0),.int .i64 (plan.getD 3 0)] 84),(0,Obj.coro none)]
def Qet (rf:Qaf) (plan:List Int) (k:Int):CF:=⟨112,ofList 27 [Value.func (Fn.yield 7) #[] #[],Qaq 5 (ptT 0 #[slT rf.places.length (Qae Qad rf.places),.int .i64 rf.miss,.int .i64 rf.seasons,.int .i64 (plan.getD 0 0),.int .i64 (plan.getD 1 0),.int .i64 (plan.getD 2 0),.int .i64 (plan.getD 3 0)]),Qaq 5 (ptT 0 #[.int .i64 k])],[Item.code (QaB YP 112)],[],.run,none⟩
def Qcf (rf:Qaf) (plan:List Int) (k:Int) (i:Int) (ys:List Span):List Value:=[Value.func (Fn.yield 7) #[] #[],Qaq 5 (ptT 0 #[slT rf.places.length (Qae Qad rf.places),.int .i64 rf.miss,.int .i64 rf.seasons,.int .i64 (plan.getD 0 0),.int .i64 (plan.getD 1 0),.int .i64 (plan.getD 2 0),.int .i64 (plan.getD 3 0)]),Qaq 5 (ptT 0 #[.int .i64 k]),.int .i64 (↑rf.places.length:Int),.int .i64 i]
def Qci (rf:Qaf) (plan:List Int) (k:Int) (i:Int) (ys:List Span):List Obj:=[Obj.loop {state:=LoopState.ready,pending:=none,fn:=84,tmps:=#[.agg #[Qaq 0 (slT rf.places.length (Qae Qad rf.places)),.int .i64 rf.miss,.int .i64 rf.seasons,.int .i64 (plan.getD 0 0),.int .i64 (plan.getD 1 0),.int .i64 (plan.getD 2 0),.int .i64 (plan.getD 3 0)],.int .i64 k,pA 1 0,.tuple #[],.slice none 0 0,pA 4 0,.tuple #[],pA 1 0,pA 1 0,Qaq 0 (slT rf.places.length (Qae Qad rf.places)),.slice (some {block:=3,off:=0}) rf.places.length 2,.agg #[Qaq 0 (slT rf.places.length (Qae Qad rf.places)),.int .i64 rf.miss,.int .i64 rf.seasons,.int .i64 (plan.getD 0 0),.int .i64 (plan.getD 1 0),.int .i64 (plan.getD 2 0),.int .i64 (plan.getD 3 0)],.int .i64 k,Value.func (Fn.func 112) #[] #[Qaq 5 (ptT 0 #[slT rf.places.length (Qae Qad rf.places),.int .i64 rf.miss,.int .i64 rf.seasons,.int .i64 (plan.getD 0 0),.int .i64 (plan.getD 1 0),.int .i64 (plan.getD 2 0),.int .i64 (plan.getD 3 0)]),Qaq 5 (ptT 0 #[.int .i64 k])],.tuple #[],.tuple #[],.tuple #[],.tuple #[],.tuple #[],.tuple #[],.tuple #[],.tuple #[],.tuple #[],.tuple #[],.tuple #[],.tuple #[]],params:=#[14],assign:=nav (QaB YP 84) [1,1,0,1,0,0],body:=nav (QaB YP 84) [1,1,0,1,0,1],defers:=6},.cells (Qae QaA ys) 38 (0,0)]
def Qbo (rf:Qaf) (plan:List Int) (k:Int) (i:Int) (ys:List Span):List Obj:=[]
def Qcl:List Item:=([.code [1,0,0],.inLoop [1,0,0],.inBlock 0]).map (it (QaB YP 112))
def QjM (B:Lo) (rf:Qaf) (plan:List Int) (k:Int) (i:Int) (ys:List Span) (dJ0:Nat->Value):List Prop:=[Qrs YP BinOp.and 3 (Qch {len:=16000,tr:=Tri.set 14 Tri.lf 17 (.int .i64 (↑(QpT (Qag [plan.getD 0 0,plan.getD 1 0,plan.getD 2 0,plan.getD 3 0] k.toNat) i):Int))} 17) (.int .i64 1) (.int .i64 (↑(Q03 (↑(QpT (Qag [plan.getD 0 0,plan.getD 1 0,plan.getD 2 0,plan.getD 3 0] k.toNat) i):Int) 1):Int)),Qrs YP BinOp.shr 3 (Qch {len:=16000,tr:=Tri.set 14 (Tri.set 14 Tri.lf 16 (.int .i64 i)) 15 (.int .i64 (Qag [plan.getD 0 0,plan.getD 1 0,plan.getD 2 0,plan.getD 3 0] k.toNat))} 15) (Qch {len:=16000,tr:=Tri.set 14 (Tri.set 14 Tri.lf 16 (.int .i64 i)) 15 (.int .i64 (Qag [plan.getD 0 0,plan.getD 1 0,plan.getD 2 0,plan.getD 3 0] k.toNat))} 16) (.int .i64 (↑(QpT (Qag [plan.getD 0 0,plan.getD 1 0,plan.getD 2 0,plan.getD 3 0] k.toNat) i):Int)),k=(↑k.toNat:Int)/\Int.toNat k < 4/\Array.extract (Qf4 rf plan) (3+Int.toNat k * TypeInfo.size Try.t3) (3+Int.toNat k * TypeInfo.size Try.t3+TypeInfo.size Try.t3)=#[.int .i64 (Qag [plan.getD 0 0,plan.getD 1 0,plan.getD 2 0,plan.getD 3 0] k.toNat)],ltq i (↑rf.places.length:Int)=true]++([]:List Prop)
def Qpo (rf:Qaf) (plan:List Int) (k:Int) (i:Int) (ys:List Span) (dJ0:Nat->Value):Qax:=[(0,hvT),(5,Qai.tarr k.toNat #[.int .i64 (Qag [plan.getD 0 0,plan.getD 1 0,plan.getD 2 0,plan.getD 3 0] k.toNat)]),(8,Qai.bin (.int .i64 (↑(QpT (Qag [plan.getD 0 0,plan.getD 1 0,plan.getD 2 0,plan.getD 3 0] k.toNat) i):Int))),(9,Qai.bin (.int .i64 (↑(Q03 (↑(QpT (Qag [plan.getD 0 0,plan.getD 1 0,plan.getD 2 0,plan.getD 3 0] k.toNat) i):Int) 1):Int)))]
def Qfp (rf:Qaf) (plan:List Int) (k:Int) (i:Int) (ys:List Span) (dJ0:Nat->Value):Qan:=[(7,Obj.loop {state:=LoopState.ready,pending:=none,fn:=84,tmps:=#[.agg #[Qaq 0 (slT rf.places.length (Qae Qad rf.places)),.int .i64 rf.miss,.int .i64 rf.seasons,.int .i64 (plan.getD 0 0),.int .i64 (plan.getD 1 0),.int .i64 (plan.getD 2 0),.int .i64 (plan.getD 3 0)],.int .i64 k,pA 1 0,.tuple #[],.slice none 0 0,pA 4 0,.tuple #[],pA 1 0,pA 1 0,Qaq 0 (slT rf.places.length (Qae Qad rf.places)),.slice (some {block:=3,off:=0}) rf.places.length 2,.agg #[Qaq 0 (slT rf.places.length (Qae Qad rf.places)),.int .i64 rf.miss,.int .i64 rf.seasons,.int .i64 (plan.getD 0 0),.int .i64 (plan.getD 1 0),.int .i64 (plan.getD 2 0),.int .i64 (plan.getD 3 0)],.int .i64 k,Value.func (Fn.func 112) #[] #[Qaq 5 (ptT 0 #[slT rf.places.length (Qae Qad rf.places),.int .i64 rf.miss,.int .i64 rf.seasons,.int .i64 (plan.getD 0 0),.int .i64 (plan.getD 1 0),.int .i64 (plan.getD 2 0),.int .i64 (plan.getD 3 0)]),Qaq 5 (ptT 0 #[.int .i64 k])],.tuple #[],.tuple #[],.tuple #[],.tuple #[],.tuple #[],.tuple #[],.tuple #[],.tuple #[],.tuple #[],.tuple #[],.tuple #[],.tuple #[]],params:=#[14],assign:=nav (QaB YP 84) [1,1,0,1,0,0],body:=nav (QaB YP 84) [1,1,0,1,0,1],defers:=6}),(3,Obj.cells (Qae QaA ys) 38),(8,Obj.coro none),(7,Obj.loop {state:=LoopState.ready,pending:=none,fn:=84,tmps:=#[.agg #[Qaq 0 (slT rf.places.length (Qae Qad rf.places)),.int .i64 rf.miss,.int .i64 rf.seasons,.int .i64 (plan.getD 0 0),.int .i64 (plan.getD 1 0),.int .i64 (plan.getD 2 0),.int .i64 (plan.getD 3 0)],.int .i64 k,pA 1 0,.tuple #[],.slice none 0 0,pA 4 0,.tuple #[],pA 1 0,pA 1 0,Qaq 0 (slT rf.places.length (Qae Qad rf.places)),.slice (some {block:=3,off:=0}) rf.places.length 2,.agg #[Qaq 0 (slT rf.places.length (Qae Qad rf.places)),.int .i64 rf.miss,.int .i64 rf.seasons,.int .i64 (plan.getD 0 0),.int .i64 (plan.getD 1 0),.int .i64 (plan.getD 2 0),.int .i64 (plan.getD 3 0)],.int .i64 k,Value.func (Fn.func 112) #[] #[Qaq 5 (ptT 0 #[slT rf.places.length (Qae Qad rf.places),.int .i64 rf.miss,.int .i64 rf.seasons,.int .i64 (plan.getD 0 0),.int .i64 (plan.getD 1 0),.int .i64 (plan.getD 2 0),.int .i64 (plan.getD 3 0)]),Qaq 5 (ptT 0 #[.int .i64 k])],.tuple #[],.tuple #[],.tuple #[],.tuple #[],.tuple #[],.tuple #[],.tuple #[],.tuple #[],.tuple #[],.tuple #[],.tuple #[],.tuple #[]],params:=#[14],assign:=nav (QaB YP 84) [1,1,0,1,0,0],body:=nav (QaB YP 84) [1,1,0,1,0,1],defers:=6}),(6,Obj.deferred (some [])),(5,Obj.coro none),(4,Obj.cells #[.slice (some {block:=3,off:=0}) rf.places.length 2] 36),(2,Obj.coro none),(3,Obj.cells (Qae QaA (List.map Qcb rf.places)) 38),(1,Obj.cells #[Qaq 0 (slT rf.places.length (Qae Qad rf.places)),.int .i64 rf.miss,.int .i64 rf.seasons,.int .i64 (plan.getD 0 0),.int .i64 (plan.getD 1 0),.int .i64 (plan.getD 2 0),.int .i64 (plan.getD 3 0)] 84),(0,Obj.coro none)]
def QgG (rf:Qaf) (plan:List Int) (k:Int) (i:Int) (ys:List Span) (dJ0:Nat->Value):CF:=⟨84,ofList 26 [.agg #[Qaq 0 (slT rf.places.length (Qae Qad rf.places)),.int .i64 rf.miss,.int .i64 rf.seasons,.int .i64 (plan.getD 0 0),.int .i64 (plan.getD 1 0),.int .i64 (plan.getD 2 0),.int .i64 (plan.getD 3 0)],.int .i64 k,pA 1 0,.tuple #[],.slice none 0 0,pA 4 0,.tuple #[],pA 1 0,pA 1 0,Qaq 0 (slT rf.places.length (Qae Qad rf.places)),.slice (some {block:=3,off:=0}) rf.places.length 2,.agg #[Qaq 0 (slT rf.places.length (Qae Qad rf.places)),.int .i64 rf.miss,.int .i64 rf.seasons,.int .i64 (plan.getD 0 0),.int .i64 (plan.getD 1 0),.int .i64 (plan.getD 2 0),.int .i64 (plan.getD 3 0)],.int .i64 k,Value.func (Fn.func 112) #[] #[Qaq 5 (ptT 0 #[slT rf.places.length (Qae Qad rf.places),.int .i64 rf.miss,.int .i64 rf.seasons,.int .i64 (plan.getD 0 0),.int .i64 (plan.getD 1 0),.int .i64 (plan.getD 2 0),.int .i64 (plan.getD 3 0)]),Qaq 5 (ptT 0 #[.int .i64 k])],.int .i64 i,.tuple #[],.tuple #[],.tuple #[],.tuple #[],.tuple #[],.tuple #[],.tuple #[],.tuple #[],.tuple #[],.tuple #[],.tuple #[]],[Item.code (nav (QaB YP 84) [1,1,0,1,0,0]),Item.beginRound,Item.code (nav (QaB YP 84) [1,1,0,1,0,1])],[],.run,some 7⟩
theorem Qxj (B:Lo) (rf:Qaf) (plan:List Int) (k:Int) (i:Int) (ys:List Span) (dJ0:Nat->Value):CE.finK 9 (Qam YP (Qa3 YP) J0 B 6 9 (QgG rf plan k i ys dJ0) (Qfp rf plan k i ys dJ0) 9
 [(7,Qai.tidx i.toNat (QgP rf i)),(10,Qai.old (Hint.idx i.toNat)),(11,Qai.old (Hint.st (Qae QaA (List.set ys i.toNat {lo:=Qaa.slo (rf.places.getD i.toNat default),hi:=Qaa.shi (rf.places.getD i.toNat default)}))))] 0 [] []) [(7,KS.auto),(3,KS.cells [] (Qae QaA (List.set ys i.toNat {lo:=Qaa.slo (rf.places.getD i.toNat default),hi:=Qaa.shi (rf.places.getD i.toNat default)})))] [] []=some (OO.ret (.bool true),[(7,Obj.loop {state:=LoopState.ready,pending:=none,fn:=84,tmps:=#[.agg #[Qaq 0 (slT rf.places.length (Qae Qad rf.places)),.int .i64 rf.miss,.int .i64 rf.seasons,.int .i64 (plan.getD 0 0),.int .i64 (plan.getD 1 0),.int .i64 (plan.getD 2 0),.int .i64 (plan.getD 3 0)],.int .i64 k,pA 1 0,.tuple #[],.slice none 0 0,pA 4 0,.tuple #[],pA 1 0,pA 1 0,Qaq 0 (slT rf.places.length (Qae Qad rf.places)),.slice (some {block:=3,off:=0}) rf.places.length 2,.agg #[Qaq 0 (slT rf.places.length (Qae Qad rf.places)),.int .i64 rf.miss,.int .i64 rf.seasons,.int .i64 (plan.getD 0 0),.int .i64 (plan.getD 1 0),.int .i64 (plan.getD 2 0),.int .i64 (plan.getD 3 0)],.int .i64 k,Value.func (Fn.func 112) #[] #[Qaq 5 (ptT 0 #[slT rf.places.length (Qae Qad rf.places),.int .i64 rf.miss,.int .i64 rf.seasons,.int .i64 (plan.getD 0 0),.int .i64 (plan.getD 1 0),.int .i64 (plan.getD 2 0),.int .i64 (plan.getD 3 0)]),Qaq 5 (ptT 0 #[.int .i64 k])],.tuple #[],.tuple #[],.tuple #[],.tuple #[],.tuple #[],.tuple #[],.tuple #[],.tuple #[],.tuple #[],.tuple #[],.tuple #[],.tuple #[]],params:=#[14],assign:=nav (QaB YP 84) [1,1,0,1,0,0],body:=nav (QaB YP 84) [1,1,0,1,0,1],defers:=6}),(3,Obj.cells (Qae QaA (List.set ys i.toNat {lo:=Qaa.slo (rf.places.getD i.toNat default),hi:=Qaa.shi (rf.places.getD i.toNat default)})) 38)],[],
 [Qbh 9 [] (Qae QaA (List.set ys i.toNat {lo:=Qaa.slo (rf.places.getD i.toNat default),hi:=Qaa.shi (rf.places.getD i.toNat default)})) (Qae QaA (List.set ys i.toNat {lo:=Qaa.slo (rf.places.getD i.toNat default),hi:=Qaa.shi (rf.places.getD i.toNat default)})),0+Int.toNat i * 2+TypeInfo.size Try.t38<=Array.size (Qae QaA ys)/\splice (Qae QaA ys) (0+Int.toNat i * 2) (Value.cells (Qch {len:=16000,tr:=Tri.set 14 (Tri.set 14 Tri.lf 23 (.agg #[.int .i64 (Qaa.slo (rf.places.getD i.toNat default)),.int .i64 (Qaa.shi (rf.places.getD i.toNat default))])) 24 (.pointer (some {block:=3,off:=0+Int.toNat i * 2}))} 23))=Qae QaA (List.set ys i.toNat {lo:=Qaa.slo (rf.places.getD i.toNat default),hi:=Qaa.shi (rf.places.getD i.toNat default)}),i=(↑i.toNat:Int)/\Int.toNat i < List.length rf.places,i=(↑i.toNat:Int)/\Int.toNat i < List.length rf.places/\Array.extract (Qae Qad rf.places) (Int.toNat i * TypeInfo.size Try.t54) (Int.toNat i * TypeInfo.size Try.t54+TypeInfo.size Try.t54)=(QgP rf i)]):=by kernel_rfl
theorem QxL (B:Lo) (rf:Qaf) (plan:List Int) (k:Int) (i:Int) (ys:List Span) (dJ0:Nat->Value):CE.landA 8 (Qam YP (Qa3 YP) J0 B 16 8 (Qep (none) 112 27 (([0,1,2,8,9]:List Nat).zip (Qcf rf plan k i ys)) dJ0 Qcl) (QcO (Qcj rf plan k) 8 (([7,3]:List Nat).zip (Qci rf plan k i ys)) (Qbo rf plan k i ys)) (8+1+(Qbo rf plan k i ys).length)
 (Qpo rf plan k i ys dJ0++[(10,hvT),(14,Qai.call (List.range 9) (OO.ret (.bool true)) ([(7,Obj.loop {state:=LoopState.ready,pending:=none,fn:=84,tmps:=(QgN rf plan k),params:=#[14],assign:=nav (QaB YP 84) [1,1,0,1,0,0],body:=nav (QaB YP 84) [1,1,0,1,0,1],defers:=6}),(3,Obj.cells (Qae QaA (List.set ys i.toNat {lo:=Qaa.slo (rf.places.getD i.toNat default),hi:=Qaa.shi (rf.places.getD i.toNat default)})) 38)]++(9,QbH)::Qbg 10 []) 10 [7,3]),(17,hvI (i+1))]) 0 [] []) [0,1,2,8,9] [(7,KS.auto),(3,KS.cells [] (Qae QaA (List.set ys i.toNat {lo:=Qaa.slo (rf.places.getD i.toNat default),hi:=Qaa.shi (rf.places.getD i.toNat default)})))] [] []=some ⟨112,27,Qcl,[],.run,none,Qcf rf plan k (i+1) (List.set ys i.toNat {lo:=Qaa.slo (rf.places.getD i.toNat default),hi:=Qaa.shi (rf.places.getD i.toNat default)}),([7,3]:List Nat).zip (Qci rf plan k (i+1) (List.set ys i.toNat {lo:=Qaa.slo (rf.places.getD i.toNat default),hi:=Qaa.shi (rf.places.getD i.toNat default)})),Qbo rf plan k (i+1) (List.set ys i.toNat {lo:=Qaa.slo (rf.places.getD i.toNat default),hi:=Qaa.shi (rf.places.getD i.toNat default)}),
 [Qbh 8 [] (Qae QaA (List.set ys i.toNat {lo:=Qaa.slo (rf.places.getD i.toNat default),hi:=Qaa.shi (rf.places.getD i.toNat default)})) (Qae QaA (List.set ys i.toNat {lo:=Qaa.slo (rf.places.getD i.toNat default),hi:=Qaa.shi (rf.places.getD i.toNat default)})),wq (i+1)=i+1,FJ YP B (QgG rf plan k i ys dJ0) (Qfp rf plan k i ys dJ0) 9 (OO.ret (.bool true)) (([(7,Obj.loop {state:=LoopState.ready,pending:=none,fn:=84,tmps:=(QgN rf plan k),params:=#[14],assign:=nav (QaB YP 84) [1,1,0,1,0,0],body:=nav (QaB YP 84) [1,1,0,1,0,1],defers:=6}),(3,Obj.cells (Qae QaA (List.set ys i.toNat {lo:=Qaa.slo (rf.places.getD i.toNat default),hi:=Qaa.shi (rf.places.getD i.toNat default)})) 38)]++((9,QbH)::Qbg (9+1) []))++Qfp rf plan k i ys dJ0) 10 (List.range 9) [7,3],eqq (↑(Q03 (↑(QpT (Qag [plan.getD 0 0,plan.getD 1 0,plan.getD 2 0,plan.getD 3 0] k.toNat) i):Int) 1):Int) 1=true]++QjM B rf plan k i ys dJ0⟩:=by kernel_rfl
theorem QvG (B:Lo) (rf:Qaf) (plan:List Int) (k:Int) (i:Int) (ys:List Span) (dJ0:Nat->Value):CE.landA 8 (Qam YP (Qa3 YP) J0 B 16 8 (Qep (none) 112 27 (([0,1,2,8,9]:List Nat).zip (Qcf rf plan k i ys)) dJ0 Qcl) (QcO (Qcj rf plan k) 8 (([7,3]:List Nat).zip (Qci rf plan k i ys)) (Qbo rf plan k i ys)) (8+1+(Qbo rf plan k i ys).length)
 (Qpo rf plan k i ys dJ0++[(10,hvF),(17,hvI (i+1))]) 0 [] []) [0,1,2,8,9] [(7,KS.auto),(3,KS.cells [] (Qae QaA ys))] [] []=some ⟨112,27,Qcl,[],.run,none,Qcf rf plan k (i+1) (ys),([7,3]:List Nat).zip (Qci rf plan k (i+1) (ys)),Qbo rf plan k (i+1) (ys),
 [Qbh 8 [] (Qae QaA ys) (Qae QaA ys),wq (i+1)=i+1,eqq (↑(Q03 (↑(QpT (Qag [plan.getD 0 0,plan.getD 1 0,plan.getD 2 0,plan.getD 3 0] k.toNat) i):Int) 1):Int) 1=false]++QjM B rf plan k i ys dJ0⟩:=by kernel_rfl
theorem Qx1 (B:Lo) (rf:Qaf) (plan:List Int) (k:Int) (i:Int) (ys:List Span) (dJ0:Nat->Value):CE.finK 8 (Qam YP (Qa3 YP) J0 B 7 8 (Qep (none) 112 27 (([0,1,2,8,9]:List Nat).zip (Qcf rf plan k i ys)) dJ0 Qcl) (QcO (Qcj rf plan k) 8 (([7,3]:List Nat).zip (Qci rf plan k i ys)) (Qbo rf plan k i ys)) (8+1+(Qbo rf plan k i ys).length)
 [(0,hvF)] 0 [] []) [(7,KS.auto),(3,KS.cells [] (Qae QaA ys))] [] []=some (OO.ret (.tuple #[]),[(7,Obj.loop {state:=LoopState.ready,pending:=none,fn:=84,tmps:=#[.agg #[Qaq 0 (slT rf.places.length (Qae Qad rf.places)),.int .i64 rf.miss,.int .i64 rf.seasons,.int .i64 (plan.getD 0 0),.int .i64 (plan.getD 1 0),.int .i64 (plan.getD 2 0),.int .i64 (plan.getD 3 0)],.int .i64 k,pA 1 0,.tuple #[],.slice none 0 0,pA 4 0,.tuple #[],pA 1 0,pA 1 0,Qaq 0 (slT rf.places.length (Qae Qad rf.places)),.slice (some {block:=3,off:=0}) rf.places.length 2,.agg #[Qaq 0 (slT rf.places.length (Qae Qad rf.places)),.int .i64 rf.miss,.int .i64 rf.seasons,.int .i64 (plan.getD 0 0),.int .i64 (plan.getD 1 0),.int .i64 (plan.getD 2 0),.int .i64 (plan.getD 3 0)],.int .i64 k,Value.func (Fn.func 112) #[] #[Qaq 5 (ptT 0 #[slT rf.places.length (Qae Qad rf.places),.int .i64 rf.miss,.int .i64 rf.seasons,.int .i64 (plan.getD 0 0),.int .i64 (plan.getD 1 0),.int .i64 (plan.getD 2 0),.int .i64 (plan.getD 3 0)]),Qaq 5 (ptT 0 #[.int .i64 k])],.tuple #[],.tuple #[],.tuple #[],.tuple #[],.tuple #[],.tuple #[],.tuple #[],.tuple #[],.tuple #[],.tuple #[],.tuple #[],.tuple #[]],params:=#[14],assign:=nav (QaB YP 84) [1,1,0,1,0,0],body:=nav (QaB YP 84) [1,1,0,1,0,1],defers:=6}),(3,Obj.cells (Qae QaA ys) 38)],[],
 [Qbh 8 [] (Qae QaA ys) (Qae QaA ys),ltq i (↑rf.places.length:Int)=false]):=by kernel_rfl
set_option maxHeartbeats 4000000 in
theorem QpC (rf:Qaf) (plan:List Int) (k:Int) (hn:rf.places.length<=4) (hl:plan.length<=4) (k0:0<=k) (k1:k < 4) (hp:∀j:Nat,0<=plan.getD j 0/\plan.getD j 0<=1000000) {B:Lo} (hJ:∀w,B.has w->J0 w):∀m:Nat,(∀(i:Int) (ys:List Span),rf.places.length - i.toNat=m->∀(i0:0<=i) (hy:ys=Qhk rf.places (plan.getD k.toNat 0) i),(∃dJ0:Nat->Value,(∀t,Qbi (dJ0 t))/\GoE YP B (Qet rf plan k) (Qcj rf plan k) 8 (Qep (none) 112 27 (([0,1,2,8,9]:List Nat).zip (Qcf rf plan k i ys)) dJ0 Qcl) (QcO (Qcj rf plan k) 8 (([7,3]:List Nat).zip (Qci rf plan k i ys)) (Qbo rf plan k i ys)) (8+1+(Qbo rf plan k i ys).length) ([7,3]:List Nat))->FinK YP B (Qet rf plan k) (Qcj rf plan k) 8 (.ret (.tuple #[])) (([7,3]:List Nat).zip ([Obj.loop {state:=LoopState.ready,pending:=none,fn:=84,tmps:=#[.agg #[Qaq 0 (slT rf.places.length (Qae Qad rf.places)),.int .i64 rf.miss,.int .i64 rf.seasons,.int .i64 (plan.getD 0 0),.int .i64 (plan.getD 1 0),.int .i64 (plan.getD 2 0),.int .i64 (plan.getD 3 0)],.int .i64 k,pA 1 0,.tuple #[],.slice none 0 0,pA 4 0,.tuple #[],pA 1 0,pA 1 0,Qaq 0 (slT rf.places.length (Qae Qad rf.places)),.slice (some {block:=3,off:=0}) rf.places.length 2,.agg #[Qaq 0 (slT rf.places.length (Qae Qad rf.places)),.int .i64 rf.miss,.int .i64 rf.seasons,.int .i64 (plan.getD 0 0),.int .i64 (plan.getD 1 0),.int .i64 (plan.getD 2 0),.int .i64 (plan.getD 3 0)],.int .i64 k,Value.func (Fn.func 112) #[] #[Qaq 5 (ptT 0 #[slT rf.places.length (Qae Qad rf.places),.int .i64 rf.miss,.int .i64 rf.seasons,.int .i64 (plan.getD 0 0),.int .i64 (plan.getD 1 0),.int .i64 (plan.getD 2 0),.int .i64 (plan.getD 3 0)]),Qaq 5 (ptT 0 #[.int .i64 k])],.tuple #[],.tuple #[],.tuple #[],.tuple #[],.tuple #[],.tuple #[],.tuple #[],.tuple #[],.tuple #[],.tuple #[],.tuple #[],.tuple #[]],params:=#[14],assign:=nav (QaB YP 84) [1,1,0,1,0,0],body:=nav (QaB YP 84) [1,1,0,1,0,1],defers:=6},.cells (Qae QaA (QaX rf.places (plan.getD k.toNat 0))) 38 (0,0)])) ([]) ([7,3]:List Nat)):=by
 intro m0;induction m0 using Nat.strongRecOn with
 | _ m0 ih0=>
   intro i ys hm0 i0 hy ⟨dJ0,hdJ0,hg0⟩;have hyl:ys.length=rf.places.length:=by rw [hy];simp [Qhk,QaZ]
   have hpk:=hp k.toNat;have hse:=Q4y (k:=k.toNat) hl;have hsh:=Q33 (n:=Qag [plan.getD 0 0,plan.getD 1 0,plan.getD 2 0,plan.getD 3 0] k.toNat) (k:=i) (by omega);by_cases q0:(i:Int) < ((↑rf.places.length:Int))
   ·have hp0:Qa2 (QjM B rf plan k i ys dJ0):=by
     exact ⟨(Q1s (by omega) (by omega) (by omega) (by omega)),⟨(Q16 (by omega) (by omega) (by omega)),⟨⟨by omega,by omega,QyY (fs:=[plan.getD 0 0,plan.getD 1 0,plan.getD 2 0,plan.getD 3 0]) rfl (Nat.lt_of_lt_of_eq (m:=4) (by omega) rfl)⟩,⟨(QbD q0),trivial⟩⟩⟩⟩
    by_cases q1:((↑(Q03 (↑(QpT (Qag [plan.getD 0 0,plan.getD 1 0,plan.getD 2 0,plan.getD 3 0] k.toNat) i):Int) 1):Int):Int)=(1)
    ·have rj3:FJ YP B (QgG rf plan k i ys dJ0) (Qfp rf plan k i ys dJ0) 9 (OO.ret (.bool true)) (([(7,Obj.loop {state:=LoopState.ready,pending:=none,fn:=84,tmps:=#[.agg #[Qaq 0 (slT rf.places.length (Qae Qad rf.places)),.int .i64 rf.miss,.int .i64 rf.seasons,.int .i64 (plan.getD 0 0),.int .i64 (plan.getD 1 0),.int .i64 (plan.getD 2 0),.int .i64 (plan.getD 3 0)],.int .i64 k,pA 1 0,.tuple #[],.slice none 0 0,pA 4 0,.tuple #[],pA 1 0,pA 1 0,Qaq 0 (slT rf.places.length (Qae Qad rf.places)),.slice (some {block:=3,off:=0}) rf.places.length 2,.agg #[Qaq 0 (slT rf.places.length (Qae Qad rf.places)),.int .i64 rf.miss,.int .i64 rf.seasons,.int .i64 (plan.getD 0 0),.int .i64 (plan.getD 1 0),.int .i64 (plan.getD 2 0),.int .i64 (plan.getD 3 0)],.int .i64 k,Value.func (Fn.func 112) #[] #[Qaq 5 (ptT 0 #[slT rf.places.length (Qae Qad rf.places),.int .i64 rf.miss,.int .i64 rf.seasons,.int .i64 (plan.getD 0 0),.int .i64 (plan.getD 1 0),.int .i64 (plan.getD 2 0),.int .i64 (plan.getD 3 0)]),Qaq 5 (ptT 0 #[.int .i64 k])],.tuple #[],.tuple #[],.tuple #[],.tuple #[],.tuple #[],.tuple #[],.tuple #[],.tuple #[],.tuple #[],.tuple #[],.tuple #[],.tuple #[]],params:=#[14],assign:=nav (QaB YP 84) [1,1,0,1,0,0],body:=nav (QaB YP 84) [1,1,0,1,0,1],defers:=6}),(3,Obj.cells (Qae QaA (List.set ys i.toNat {lo:=Qaa.slo (rf.places.getD i.toNat default),hi:=Qaa.shi (rf.places.getD i.toNat default)})) 38)]++((9,QbH)::Qbg (9+1) []))++Qfp rf plan k i ys dJ0) 10 (List.range 9) [7,3]:=by
      exact FinK.fjB (GoE.finK okF hJ Qab (Qa0 (by kernel_rfl)) (Qat (by kernel_rfl)) ((GoE.refl (P:=YP) (B:=B) (c0:=QgG rf plan k i ys dJ0) (Qa0 (by kernel_rfl))).widen (Wf:=((([(7,KS.auto),(3,KS.cells [] (Qae QaA (List.set ys i.toNat {lo:=Qaa.slo (rf.places.getD i.toNat default),hi:=Qaa.shi (rf.places.getD i.toNat default)})))]):List (Nat×KS)).map (·.1))) (by simp) (Qat (by kernel_rfl))) (Qxj B rf plan k i ys dJ0)
       ⟨(Qar (Qay (fun x=> List.all_eq_true.1 (by rfl)))),⟨(by exact Qc7 (z:=2) (fun _=> rfl) (by omega) rfl rfl),⟨⟨by omega,by omega⟩,⟨⟨by omega,by omega,(Qal (z:=12) (fun _=> rfl) (by omega))⟩,trivial⟩⟩⟩⟩) (ex:=[3]) (by kernel_rfl) ⟨trivial,⟨(Qee (t:=38) (fl:=(0,0)) (fun x=> List.all_eq_true.1 (by rfl))),⟨trivial,⟨trivial,⟨trivial,⟨trivial,⟨trivial,⟨trivial,⟨(Qee (t:=38) (fl:=(0,0)) (fun x=> List.all_eq_true.1 (by rfl))),⟨trivial,⟨trivial,trivial⟩⟩⟩⟩⟩⟩⟩⟩⟩⟩⟩
     have hyes:=QtT (ps:=rf.places) (p:=plan.getD k.toNat 0) i0 q0 (by rw [<-QxE,<-hse];exact decide_eq_true q1);exact ((ih0 _ (by omega)) (i+1) (List.set ys i.toNat {lo:=Qaa.slo (rf.places.getD i.toNat default),hi:=Qaa.shi (rf.places.getD i.toNat default)}) rfl (by omega) (by (rw [hy];exact hyes))
      (GoE.landA okF hJ Qab (Qa0 (by kernel_rfl)) (Qat (by kernel_rfl)) hg0 (QxL B rf plan k i ys dJ0)
      (by exact ⟨(Qar (Qay (fun x=> List.all_eq_true.1 (by rfl)))),⟨(QaH (by omega) (by omega)),⟨rj3,⟨(QnZ q1),hp0⟩⟩⟩⟩) (by kernel_rfl) (by kernel_rfl) (fun l hl=> by cases hl <;> decide))).cast (by rfl) (by rfl) (by rfl)
    ·have hno:=Qvx (ps:=rf.places) (p:=plan.getD k.toNat 0) i0 (by rw [<-QxE,<-hse];exact decide_eq_false q1);exact ((ih0 _ (by omega)) (i+1) (ys) rfl (by omega) (by (rw [hy];exact hno))
      (GoE.landA okF hJ Qab (Qa0 (by kernel_rfl)) (Qat (by kernel_rfl)) hg0 (QvG B rf plan k i ys dJ0)
      ⟨(Qar (Qay (fun x=> List.all_eq_true.1 (by rfl)))),⟨(QaH (by omega) (by omega)),⟨(Qnt q1),hp0⟩⟩⟩ (by kernel_rfl) (by kernel_rfl) (fun l hl=> by cases hl <;> decide))).cast (by rfl) (by rfl) (by rfl)
   ·exact (GoE.finK okF hJ Qab (Qa0 (by kernel_rfl)) (Qat (by kernel_rfl)) hg0 (Qx1 B rf plan k i ys dJ0)
     ⟨(Qar (Qay (fun x=> List.all_eq_true.1 (by rfl)))),⟨(QbI (Int.not_lt.1 q0)),trivial⟩⟩).cast (by rfl) (by (rw [hy,Qva (by omega)];rfl)) (by rfl)

theorem QwA (B:Lo) (rf:Qaf) (plan:List Int) (k:Int):CE.landA 8 (Qam YP (Qa3 YP) J0 B 4 8 (Qet rf plan k) (Qcj rf plan k) 8
 [] 0 [] []) [0,1,2,8,9] [(7,KS.auto),(3,KS.cells [] (Qae QaA (List.map Qcb rf.places)))] [] []=some ⟨112,27,Qcl,[],.run,none,Qcf rf plan k (0) (List.map Qcb rf.places),([7,3]:List Nat).zip (Qci rf plan k (0) (List.map Qcb rf.places)),Qbo rf plan k (0) (List.map Qcb rf.places),
 [Qbh 8 [] (Qae QaA (List.map Qcb rf.places)) (Qae QaA (List.map Qcb rf.places))]⟩:=by kernel_rfl
theorem QuX (B:Lo) (rf:Qaf) (plan:List Int) (k:Int):Qbd (Qam YP (Qa3 YP) J0 B 16 1 (Qaj YP 84 26 (([.agg (QaG rf plan).toArray,.int .i64 k]).map (Qau 0 4))) H00 1
 [(5,Qai.call (List.range 2) (OO.ret (.slice (some {block:=3,off:=0}) rf.places.length 2)) ([]++(2,QbH)::Qbg 3 [Obj.cells (Qae QaA (List.map Qcb rf.places)) 38]) 4 []),(10,Qai.call (List.range 5) (OO.ret (Value.func (Fn.func 112) #[] #[Qaq 5 (ptT 0 (Qf4 rf plan)),Qaq 5 (ptT 0 #[.int .i64 k])])) ([]++(5,QbH)::Qbg 6 []) 6 []),(11,Qai.call (List.range 8) (OO.ret (.tuple #[])) ([(7,Obj.loop {state:=LoopState.ready,pending:=none,fn:=84,tmps:=(QgN rf plan k),params:=#[14],assign:=nav (QaB YP 84) [1,1,0,1,0,0],body:=nav (QaB YP 84) [1,1,0,1,0,1],defers:=6}),(3,Obj.cells (Qae QaA (QaX rf.places (plan.getD k.toNat 0))) 38)]++(8,QbH)::Qbg 9 []) 9 [7,3])] 0 [] []) [{k:=3,rs:=[],cs:=Qae QaA (QaX rf.places (plan.getD k.toNat 0))}]=some (slT rf.places.length (Fz.cs {k:=3,rs:=[],cs:=Qae QaA (QaX rf.places (plan.getD k.toNat 0))}),
 [Qcv (Fz.rs {k:=3,rs:=[],cs:=Qae QaA (QaX rf.places (plan.getD k.toNat 0))}) (Qae QaA (QaX rf.places (plan.getD k.toNat 0))) (Fz.cs {k:=3,rs:=[],cs:=Qae QaA (QaX rf.places (plan.getD k.toNat 0))}),FJ YP B (Qet rf plan k) (Qcj rf plan k) 8 (OO.ret (.tuple #[])) (([(7,Obj.loop {state:=LoopState.ready,pending:=none,fn:=84,tmps:=(QgN rf plan k),params:=#[14],assign:=nav (QaB YP 84) [1,1,0,1,0,0],body:=nav (QaB YP 84) [1,1,0,1,0,1],defers:=6}),(3,Obj.cells (Qae QaA (QaX rf.places (plan.getD k.toNat 0))) 38)]++((8,QbH)::Qbg (8+1) []))++Qcj rf plan k) 9 (List.range 8) [7,3],FJ YP B (QgC rf plan k) (Qfo rf plan k) 5 (OO.ret (Value.func (Fn.func 112) #[] #[Qaq 5 (ptT 0 (Qf4 rf plan)),Qaq 5 (ptT 0 #[.int .i64 k])])) (([]++((5,QbH)::Qbg (5+1) []))++Qfo rf plan k) 6 (List.range 5) [],FJ YP B (Qe9 rf plan k) (Qc5 rf plan k) 2 (OO.ret (.slice (some {block:=3,off:=0}) rf.places.length 2)) (([]++((2,QbH)::Qbg (2+1) [Obj.cells (Qae QaA (List.map Qcb rf.places)) 38]))++Qc5 rf plan k) 4 (List.range 2) []]):=by kernel_rfl
set_option maxHeartbeats 4000000 in
theorem QzN (rf:Qaf) (plan:List Int) (k:Int) (hn:rf.places.length<=4) (hl:plan.length<=4) (k0:0<=k) (k1:k < 4) (hp:∀j:Nat,0<=plan.getD j 0/\plan.getD j 0<=1000000) {B:Lo} (hJ:∀w,B.has w->J0 w):EndsT YP B (Qaj YP 84 26 (([.agg (QaG rf plan).toArray,.int .i64 k]).map (Qau 0 4))) (QpS (QaX rf.places (plan.getD k.toNat 0))):=by
 have rj0:FJ YP B (Qe9 rf plan k) (Qc5 rf plan k) 2 (OO.ret (.slice (some {block:=3,off:=0}) rf.places.length 2)) (([]++((2,QbH)::Qbg (2+1) [Obj.cells (Qae QaA (List.map Qcb rf.places)) 38]))++Qc5 rf plan k) 4 (List.range 2) []:=by
  exact FinK.fjB ((QoH rf plan k hn hl k0 k1 hp hJ _) (0) (List.replicate rf.places.length {lo:=0,hi:=0}) rfl (by omega) (by exact Qsq)
   (GoE.landA okF hJ Qab (Qa0 (by kernel_rfl)) (Qat (by kernel_rfl)) ((GoE.refl (P:=YP) (B:=B) (c0:=Qe9 rf plan k) (Qa0 (by kernel_rfl))).widen (Wf:=((([]):List (Nat×KS)).map (·.1))) (by simp) (Qat (by kernel_rfl))) (Qvo B rf plan k)
   ⟨(by exact (QdU (by exact ⟨(.simple rfl),⟨(.simple rfl),trivial⟩⟩) _)),⟨(Qtu (bytes:=16) (by kernel_rfl) (by omega) (by omega) (by omega)),trivial⟩⟩ (by kernel_rfl) (by kernel_rfl) (fun l hl=> by cases hl <;> decide))) (ex:=[]) (by kernel_rfl) (QiY _)
 have rj1:FJ YP B (QgC rf plan k) (Qfo rf plan k) 5 (OO.ret (Value.func (Fn.func 112) #[] #[Qaq 5 (ptT 0 #[slT rf.places.length (Qae Qad rf.places),.int .i64 rf.miss,.int .i64 rf.seasons,.int .i64 (plan.getD 0 0),.int .i64 (plan.getD 1 0),.int .i64 (plan.getD 2 0),.int .i64 (plan.getD 3 0)]),Qaq 5 (ptT 0 #[.int .i64 k])])) (([]++((5,QbH)::Qbg (5+1) []))++Qfo rf plan k) 6 (List.range 5) []:=by
  exact FinK.fjB (GoE.finK okF hJ Qab (Qa0 (by kernel_rfl)) (Qat (by kernel_rfl)) ((GoE.refl (P:=YP) (B:=B) (c0:=QgC rf plan k) (Qa0 (by kernel_rfl))).widen (Wf:=((([]):List (Nat×KS)).map (·.1))) (by simp) (Qat (by kernel_rfl))) (QxC B rf plan k)
   ⟨(Qxa (by kernel_rfl)),⟨(Qhb (by kernel_rfl)),trivial⟩⟩) (ex:=[3]) (by kernel_rfl) ⟨trivial,⟨trivial,⟨(Qee (t:=38) (fl:=(0,0)) (fun x=> List.all_eq_true.1 (by rfl))),⟨trivial,⟨trivial,trivial⟩⟩⟩⟩⟩
 have rj2:FJ YP B (Qet rf plan k) (Qcj rf plan k) 8 (OO.ret (.tuple #[])) (([(7,Obj.loop {state:=LoopState.ready,pending:=none,fn:=84,tmps:=#[.agg #[Qaq 0 (slT rf.places.length (Qae Qad rf.places)),.int .i64 rf.miss,.int .i64 rf.seasons,.int .i64 (plan.getD 0 0),.int .i64 (plan.getD 1 0),.int .i64 (plan.getD 2 0),.int .i64 (plan.getD 3 0)],.int .i64 k,pA 1 0,.tuple #[],.slice none 0 0,pA 4 0,.tuple #[],pA 1 0,pA 1 0,Qaq 0 (slT rf.places.length (Qae Qad rf.places)),.slice (some {block:=3,off:=0}) rf.places.length 2,.agg #[Qaq 0 (slT rf.places.length (Qae Qad rf.places)),.int .i64 rf.miss,.int .i64 rf.seasons,.int .i64 (plan.getD 0 0),.int .i64 (plan.getD 1 0),.int .i64 (plan.getD 2 0),.int .i64 (plan.getD 3 0)],.int .i64 k,Value.func (Fn.func 112) #[] #[Qaq 5 (ptT 0 #[slT rf.places.length (Qae Qad rf.places),.int .i64 rf.miss,.int .i64 rf.seasons,.int .i64 (plan.getD 0 0),.int .i64 (plan.getD 1 0),.int .i64 (plan.getD 2 0),.int .i64 (plan.getD 3 0)]),Qaq 5 (ptT 0 #[.int .i64 k])],.tuple #[],.tuple #[],.tuple #[],.tuple #[],.tuple #[],.tuple #[],.tuple #[],.tuple #[],.tuple #[],.tuple #[],.tuple #[],.tuple #[]],params:=#[14],assign:=nav (QaB YP 84) [1,1,0,1,0,0],body:=nav (QaB YP 84) [1,1,0,1,0,1],defers:=6}),(3,Obj.cells (Qae QaA (QaX rf.places (plan.getD k.toNat 0))) 38)]++((8,QbH)::Qbg (8+1) []))++Qcj rf plan k) 9 (List.range 8) [7,3]:=by
  exact FinK.fjB ((QpC rf plan k hn hl k0 k1 hp hJ _) (0) (List.map Qcb rf.places) rfl (by omega) (by exact Qze)
   (GoE.landA okF hJ Qab (Qa0 (by kernel_rfl)) (Qat (by kernel_rfl)) ((GoE.refl (P:=YP) (B:=B) (c0:=Qet rf plan k) (Qa0 (by kernel_rfl))).widen (Wf:=((([(7,KS.auto),(3,KS.cells [] (Qae QaA (List.map Qcb rf.places)))]):List (Nat×KS)).map (·.1))) (by simp) (Qat (by kernel_rfl))) (QwA B rf plan k)
   ⟨(Qar (Qay (fun x=> List.all_eq_true.1 (by rfl)))),trivial⟩ (by kernel_rfl) (by kernel_rfl) (fun l hl=> by cases hl <;> decide))) (ex:=[3]) (by kernel_rfl) ⟨trivial,⟨trivial,⟨trivial,⟨trivial,⟨trivial,⟨(Qee (t:=38) (fl:=(0,0)) (fun x=> List.all_eq_true.1 (by rfl))),⟨trivial,⟨trivial,trivial⟩⟩⟩⟩⟩⟩⟩⟩
 exact (GoE.endsT okF hJ Qab GoE.start (QuX B rf plan k)
  ⟨(QcA (fun x=> List.all_eq_true.1 (by rfl))),⟨rj2,⟨rj1,⟨rj0,trivial⟩⟩⟩⟩).cast (by exact Qso rfl (by rw [QaX,QaZ];omega))
theorem Q3I (rf:Qaf) (plan:List Int) (k:Int) (hn:rf.places.length<=4) (hl:plan.length<=4) (k0:0<=k) (k1:k < 4) (hp:∀j:Nat,0<=plan.getD j 0/\plan.getD j 0<=1000000):Qaw YP J0 84 #[.agg (QaG rf plan).toArray,.int .i64 k] (QpS (QaX rf.places (plan.getD k.toNat 0))):=
 QaV (ts:=[.agg (QaG rf plan).toArray,.int .i64 k]) QbS (c0:=Qaj YP 84 26 (([.agg (QaG rf plan).toArray,.int .i64 k]).map (Qau 0 4))) (by kernel_rfl) (by kernel_rfl) fun B hJ=> QzN rf plan k hn hl k0 k1 hp hJ
end
end Go.Proofs.Ytncjjangllkokaa

namespace Go.Proofs.Ytncjjangllkokaa
open Go Go.CE Go.RowKit
def Qa9 (a b:Int) (g:Int->Int):Int:=Q0I ((upI a b).map g)
theorem Qcd {a b:Int} {g:Int->Int} (h:b<=a):Qa9 a b g=0:=by
 unfold Qa9;rw [Qnd h];rfl
theorem Qs7:∀(l m:List Int),Q0I (l++m)=Q0I l+Q0I m
 | [],m=> by simp [Q0I]
 | x::l,m=> by simp only [List.cons_append,Q0I,Qs7 l m];omega
theorem QaC {i:Int} {g:Int->Int} (h:0<=i):Qa9 0 (i+1) g=Qa9 0 i g+g i:=by
 have e:upI 0 (i+1)=upI 0 i++[i]:=by
  unfold upI;rw [show (i+1 - 0).toNat=(i - 0).toNat+1 by omega,List.range_succ,List.map_append];congr 1;simp;omega
 unfold Qa9;rw [e,List.map_append,Qs7];simp [Q0I]
theorem QbL {g:Int->Int} {K:Int}:∀(k:Nat),(∀m:Int,0<=m->m < k->0<=g m/\g m<=K)->0<=Qa9 0 k g/\Qa9 0 k g<=K * k
 | 0,_=> by rw [Qcd (by omega)];omega
 | k+1,h=> by
   have ih:=QbL k fun m h0 h1=> h m h0 (by omega)
   have h2:=h k (by omega) (by omega);rw [show ((k+1:Nat):Int)=(k:Int)+1 by omega,QaC (by omega),Int.mul_add,Int.mul_one];omega
structure F4 where
 a:Int
 b:Int
 c:Int
 d:Int
deriving Inhabited
def F4.at (f:F4) (k:Int):Int:=Qag [f.a,f.b,f.c,f.d] k.toNat
def F4.sum (f:F4):Int:=f.a+f.b+f.c+f.d
def Q3V (g:Int->Int):F4:=⟨g 0,g 1,g 2,g 3⟩
theorem QjU {i:Int} (h0:0<=i) (h:i < 4):i=0\/i=1\/i=2\/i=3:=by omega
theorem QhD {g:Int->Int} {k:Int} (h0:0<=k) (h:k < 4):(Q3V g).at k=g k:=by
 rcases QjU h0 h with rfl | rfl | rfl | rfl <;> rfl
def f4B (f:F4):Prop:=(0<=f.a/\0<=f.b/\0<=f.c/\0<=f.d)/\f.sum<=100000000000
theorem QcS {f:F4} (hf:f4B f) {i:Int} (h0:0<=i) (h:i < 4):0<=f.at i/\f.at i<=f.sum/\f.sum<=100000000000:=by
 obtain ⟨⟨h1,h2,h3,h4⟩,h5⟩:=hf;have e:f.sum=f.a+f.b+f.c+f.d:=rfl;have h5':=h5;rw [e] at h5' ⊢;rcases QjU h0 h with rfl | rfl | rfl | rfl
 ·have:f.at 0=f.a:=rfl;omega
 ·have:f.at 1=f.b:=rfl;omega
 ·have:f.at 2=f.c:=rfl;omega
 ·have:f.at 3=f.d:=rfl;omega
abbrev plc (ps:List Qaa) (k:Int):Qaa:=ps.getD k.toNat default
abbrev nth (xs:List Int) (k:Int):Int:=xs.getD k.toNat default
def QkX (ps:List Qaa):Prop:=ps.length<=4/\∀k:Int,0<=k->k < ps.length->(0<=(plc ps k).room/\(plc ps k).room<=1000000)/\(0<=(plc ps k).drift/\(plc ps k).drift<=1000)/\Qhg ps.length (plc ps k).into=true/\(plc ps k).into≠k
def Ql0 (n:Nat) (xs:List Int) (m:Int):Prop:=xs.length=n/\∀k:Int,0<=k->k < n->0<=nth xs k/\nth xs k<=m
def Qbp (gs:List Int) (ps:List Qaa) (f:F4) (k:Int):Int:=QaT (plc ps k).room (f.at k) (nth gs k)
def grI (gs:List Int) (ps:List Qaa) (f:F4) (i j:Int):Int:=if j < i then f.at j+Qbp gs ps f j else f.at j
def grE (gs:List Int) (ps:List Qaa) (f:F4):F4:=Q3V (grI gs ps f ps.length)
def QcW (ps:List Qaa) (b:F4) (k:Int):Int:=(b.at k * (plc ps k).drift).tdiv 1000
def drI (ps:List Qaa) (b:F4) (i j:Int):Int:=b.at j - (if j < i then QcW ps b j else 0)+Qa9 0 i (fun m=> if (plc ps m).into=j then QcW ps b m else 0)
def drE (ps:List Qaa) (b:F4):F4:=Q3V (drI ps b ps.length)
def Qbt (ps:List Qaa) (b:F4) (j:Int):Int:=if (plc ps j).into= -1 then QcW ps b j else 0
def Qbb (ts:List Int) (b:F4) (k:Int):Int:=if nth ts k < b.at k then nth ts k else b.at k
def tkI (ts:List Int) (b:F4) (i j:Int):Int:=if j < i then b.at j - Qbb ts b j else b.at j
def tkE (ts:List Int) (ps:List Qaa) (b:F4):F4:=Q3V (tkI ts b ps.length)
def Qas (gs ts:List Int) (ps:List Qaa) (f:F4):F4:=tkE ts ps (drE ps (grE gs ps f))
theorem Qk2 {g:Int->Int} {i:Int} (h0:0<=i) (h:i < 4):Qag [g 0,g 1,g 2,g 3] i.toNat=g i:=by
 rcases QjU h0 h with rfl | rfl | rfl | rfl <;> rfl
theorem QwN {gs:List Int} {ps:List Qaa} {f:F4} {i:Int}:grI gs ps f i i=f.at i:=by
 unfold grI;rw [if_neg (by omega)]
theorem Qzy {gs:List Int} {ps:List Qaa} {f:F4} {i:Int} {j:Nat}:(if i.toNat=j then f.at i+Qbp gs ps f i else grI gs ps f i j)=grI gs ps f (i+1) j\/i < 0:=by
 by_cases h0:0<=i
 ·refine .inl ?_;unfold grI;by_cases h:i.toNat=j
  ·have e1:i=(j:Int):=by omega
   rw [if_pos h,if_pos (by omega),e1]
  ·rw [if_neg h];by_cases h2:(j:Int) < i
   ·rw [if_pos h2,if_pos (by omega)]
   ·rw [if_neg h2,if_neg (by omega)]
 ·exact .inr (by omega)
theorem QnH {gs:List Int} {ps:List Qaa} {f:F4} {i:Int} {j:Nat} (h0:0<=i):(if i.toNat=j then f.at i+Qbp gs ps f i else grI gs ps f i j)=grI gs ps f (i+1) j:=Qzy.resolve_right (by omega)
theorem Q0t {room s t:Int} {w:Int} (ht:t=w.tdiv 1000) (h:0<=t):(if (if room - s > 0 then room - s else 0) < t then (if room - s > 0 then room - s else 0) else t)=if room<=s then 0 else if t < room - s then t else room - s:=by
 by_cases h1:room<=s
 ·rw [if_pos h1,if_neg (show ¬room - s > 0 by omega)];by_cases h2:0 < t
  ·rw [if_pos h2]
  ·rw [if_neg h2];omega
 ·rw [if_neg h1,if_pos (show room - s > 0 by omega)];by_cases h2:room - s < t
  ·rw [if_pos h2,if_neg (by omega)]
  ·by_cases h3:t < room - s
   ·rw [if_neg h2,if_pos h3]
   ·rw [if_neg h2,if_neg h3];omega
theorem Qfn {gs:List Int} {ps:List Qaa} {f:F4} {i:Int} (hp:QkX ps) (hg:Ql0 ps.length gs 2000) (hf:f4B f) (h0:0<=i) (h:i < ps.length):0<=Qbp gs ps f i/\Qbp gs ps f i<=1000000:=by
 have h1:=hp.2 i h0 h;have h2:=hg.2 i h0 h;have ha:=QcS hf h0 (by have:=hp.1;omega);have hm:=Qec (a:=f.at i) (r:=nth gs i) (by omega) (by omega);unfold Qbp QaT;split
 ·omega
 ·split <;> omega
theorem Qeg {ps:List Qaa} {b:F4} {i j:Int} (h:0<=i):drI ps b (i+1) j=drI ps b i j - (if j=i then QcW ps b i else 0)+(if (plc ps i).into=j then QcW ps b i else 0):=by
 unfold drI;rw [QaC h];by_cases e:j=i
 ·subst e;rw [if_pos (show j < j+1 by omega),if_neg (show ¬j < j by omega),if_pos rfl];omega
 ·rw [if_neg e];by_cases e2:j < i
  ·rw [if_pos e2,if_pos (by omega)];omega
  ·rw [if_neg e2,if_neg (by omega)];omega
theorem Qlx {ps:List Qaa} {b:F4} {j:Int} (h:0<=j):drI ps b 0 j=b.at j:=by
 unfold drI;rw [if_neg (by omega),Qcd (by omega)];omega
theorem Qxk {ts:List Int} {b:F4} {i:Int}:tkI ts b i i=b.at i:=by
 unfold tkI;rw [if_neg (by omega)]
theorem Qow {ts:List Int} {b:F4} {i:Int} {j:Nat} (h0:0<=i):(if i.toNat=j then b.at i - Qbb ts b i else tkI ts b i j)=tkI ts b (i+1) j:=by
 unfold tkI;by_cases h:i.toNat=j
 ·have e1:i=(j:Int):=by omega
  rw [if_pos h,if_pos (by omega),e1]
 ·rw [if_neg h];by_cases h2:(j:Int) < i
  ·rw [if_pos h2,if_pos (by omega)]
  ·rw [if_neg h2,if_neg (by omega)]
theorem Qou {ps:List Qaa} {b:F4} {i:Int} {j:Nat} (h0:0<=i) (h:(plc ps i).into= -1):(if i.toNat=j then drI ps b i i - QcW ps b i else drI ps b i j)=drI ps b (i+1) j:=by
 rw [Qeg h0,h,if_neg (show ¬(-1:Int)=(j:Int) by omega)];by_cases h1:i.toNat=j
 ·have e1:i=(j:Int):=by omega
  rw [if_pos h1,if_pos (by omega),e1];omega
 ·rw [if_neg h1,if_neg (by omega)];omega
theorem Qot {ps:List Qaa} {b:F4} {i v:Int} {j:Nat} (h0:0<=i) (hv:(plc ps i).into=v) (v0:0<=v) (hn:v≠i):(if v.toNat=j then drI ps b i v+QcW ps b i else if i.toNat=j then drI ps b i i - QcW ps b i else drI ps b i j)=drI ps b (i+1) j:=by
 rw [Qeg h0,hv];by_cases h1:v.toNat=j
 ·have e1:v=(j:Int):=by omega
  rw [if_pos h1,if_neg (show ¬(j:Int)=i by omega),if_pos e1,e1];omega
 ·rw [if_neg h1,if_neg (show ¬v=(j:Int) by omega)];by_cases h2:i.toNat=j
  ·have e1:i=(j:Int):=by omega
   rw [if_pos h2,if_pos (by omega),e1];omega
  ·rw [if_neg h2,if_neg (by omega)];omega
theorem Qdz {ps:List Qaa} {b:F4} {i:Int} (hp:QkX ps) (hf:f4B b) (h0:0<=i) (h:i < ps.length):0<=QcW ps b i/\QcW ps b i<=b.at i:=by
 have h1:=hp.2 i h0 h;have ha:=QcS hf h0 (by have:=hp.1;omega);have e0:0<=b.at i * (plc ps i).drift:=Int.mul_nonneg ha.1 h1.2.1.1;have e1:b.at i * (plc ps i).drift<=b.at i * 1000:=Int.mul_le_mul_of_nonneg_left h1.2.1.2 ha.1;have e2:(b.at i * (plc ps i).drift).tdiv 1000=(b.at i * (plc ps i).drift) / 1000:=Int.tdiv_eq_ediv_of_nonneg e0;unfold QcW;rw [e2];omega
theorem QfY {ps:List Qaa} {b:F4} {i j:Int} (hp:QkX ps) (hf:f4B b) (h0:0<=i) (h:i<=ps.length) (j0:0<=j) (j1:j < 4):0<=drI ps b i j/\drI ps b i j<=500000000000:=by
 have ha:=QcS hf j0 j1;have hs:=QbL (g:=fun m=> if (plc ps m).into=j then QcW ps b m else 0) (K:=100000000000) i.toNat fun m m0 m1=> by
  have h9:=hp.1;have:=Qdz hp hf (i:=m) m0 (by omega);have hm:=QcS hf (i:=m) m0 (by omega);split <;> omega
 rw [show ((i.toNat:Nat):Int)=i by omega] at hs;have h4:=hp.1;unfold drI;split
 ·have:=Qdz hp hf j0 (by omega);omega
 ·omega
theorem Qeb {ts:List Int} {b:F4} {n:Nat} {m i:Int} (ht:Ql0 n ts m) (hf:f4B b) (h0:0<=i) (h:i < n) (h4:n<=4):0<=Qbb ts b i/\Qbb ts b i<=b.at i/\Qbb ts b i<=m:=by
 have ha:=QcS hf h0 (by omega);have h1:=ht.2 i h0 h;unfold Qbb;split <;> omega
theorem Q0f {gs:List Int} {ps:List Qaa} {f:F4} {i j:Int} (hp:QkX ps) (hg:Ql0 ps.length gs 2000) (hf:f4B f) (h:i<=ps.length) (j0:0<=j) (j1:j < 4):0<=grI gs ps f i j/\grI gs ps f i j<=f.at j+1000000:=by
 have ha:=QcS hf j0 j1;unfold grI;split
 ·have:=Qfn hp hg hf j0 (show j < ps.length by omega);omega
 ·omega
theorem Q0K {gs:List Int} {ps:List Qaa} {f:F4} (hp:QkX ps) (hg:Ql0 ps.length gs 2000) (hf:f4B f):(0<=(grE gs ps f).a/\0<=(grE gs ps f).b/\0<=(grE gs ps f).c/\0<=(grE gs ps f).d)/\(grE gs ps f).sum<=f.sum+4000000:=by
 have h0:=Q0f hp hg hf (Int.le_refl _) (j:=0) (by omega) (by omega);have h1:=Q0f hp hg hf (Int.le_refl _) (j:=1) (by omega) (by omega);have h2:=Q0f hp hg hf (Int.le_refl _) (j:=2) (by omega) (by omega);have h3:=Q0f hp hg hf (Int.le_refl _) (j:=3) (by omega) (by omega);refine ⟨⟨h0.1,h1.1,h2.1,h3.1⟩, ?_⟩;show grI gs ps f ps.length 0+grI gs ps f ps.length 1+grI gs ps f ps.length 2+grI gs ps f ps.length 3<=f.a+f.b+f.c+f.d+4000000;have e0:f.at 0=f.a:=rfl;have e1:f.at 1=f.b:=rfl;have e2:f.at 2=f.c:=rfl;have e3:f.at 3=f.d:=rfl;omega
def drS (ps:List Qaa) (b:F4) (i:Int):Int:=drI ps b i 0+drI ps b i 1+drI ps b i 2+drI ps b i 3
theorem Qz9 {ps:List Qaa} {b:F4} {i:Int} (hp:QkX ps) (h0:0<=i) (h:i < ps.length):drS ps b (i+1)=drS ps b i - Qbt ps b i:=by
 have h1:=hp.1;have h2:=(hp.2 i h0 h).2.2.1;unfold drS Qbt;rw [Qeg h0,Qeg h0,Qeg h0,Qeg h0];simp only [Qhg,Bool.or_eq_true,decide_eq_true_iff,Qhz] at h2;generalize (plc ps i).into=v at *;generalize QcW ps b i=w at *;have hi:=QjU h0 (show i < 4 by omega);by_cases hv:v= -1
 ·subst hv;rcases hi with rfl | rfl | rfl | rfl <;> simp <;> omega
 ·have hv':=QjU (show 0<=v by omega) (show v < 4 by omega);rcases hi with rfl | rfl | rfl | rfl <;> rcases hv' with rfl | rfl | rfl | rfl <;> simp <;> omega
theorem Qxh {ps:List Qaa} {b:F4} (hp:QkX ps):∀k:Nat,k<=ps.length->drS ps b k=b.sum - Qa9 0 k (Qbt ps b)
 | 0,_=> by
   rw [show ((0:Nat):Int)=0 from rfl,Qcd (by omega)];unfold drS;rw [Qlx (by omega),Qlx (by omega),Qlx (by omega),Qlx (by omega)];have e:b.sum=b.at 0+b.at 1+b.at 2+b.at 3:=rfl;omega
 | k+1,h=> by
   rw [show ((k+1:Nat):Int)=(k:Int)+1 by omega,Qz9 hp (by omega) (by omega),Qxh hp k (by omega),QaC (by omega)];omega
end Go.Proofs.Ytncjjangllkokaa
