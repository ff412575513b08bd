/- ShipPlays: what the law returns. -/
import Derived.Test.YtiabgkiccaodmaaGreatZWN12
import Derived.Test.YtiabgkiccaodmaaGreatZWN09
import Derived.Test.YtiabgkiccaodmaaGreatZWN11
set_option linter.all false
namespace Go.Proofs.YtiabgkiccaodmaaGreat
open Go Go.CE Go.RowKit
noncomputable section
set_option maxRecDepth 100000
theorem Qj9 (s:Qaa) (hb:∀l∈s.lots,l.goods.length<=8):Qau Tryz.prog J0 44 #[.agg (Qap s).toArray] (.bool (QaD s)):=by
 have h:=Q4o s hb;rw [QvU] at h;exact h
theorem Q20 (s:Qaa) (load:List Int) (hs:QaD s=true) (hl:load.length<=10):Qau Tryz.prog J0 56 #[.agg (Qap s).toArray,slI load] (.bool (Qdy s load)):=by
 have h:=Q53 s load hs hl;rw [Q3p hs] at h;exact h
def Qhz (s:Qaa):Array Value:=#[slT s.stock.length (Qab Qag s.stock),slT s.use.length (Qab Qa3 s.use),.int .i64 s.glo,.int .i64 s.ghi,slT s.lots.length (Qab Qao s.lots),.int .i64 s.hold]
def Qjx (B:Lo) (s:Qaa) (load:List Int) (days:Int):List Prop:=[QaB []/\Qau Tryz.prog J0 44 #[.agg (Qhz s)] (.bool true)]++([]:List Prop)
def Qny (s:Qaa) (load:List Int) (days:Int):Qa7:=[(3,Qah.pure (.bool true) [])]
def QjR (B:Lo) (s:Qaa) (load:List Int) (days:Int):List Prop:=[QaB []/\Qau Tryz.prog J0 56 #[.agg (Qhz s),slT load.length (Qab Qag load)] (.bool true)]++Qjx B s load days
def QnJ (s:Qaa) (load:List Int) (days:Int):Qa7:=Qny s load days++[(7,Qah.pure (.bool true) [])]
theorem Qum (B:Lo) (s:Qaa) (load:List Int) (days:Int):Qbe (Qan Tryz.prog (Qa6 Tryz.prog) J0 B 6 1 (Qal Tryz.prog 39 18 (([.agg (Qap s).toArray,slI load,.int .i64 days]).map (Qav 0 4))) H00 1
 (QnJ s load days++[(11,Qah.pure (.bool true) [])]) 0 [] []) []=some (.bool true,
 [QaB []/\Qau Tryz.prog J0 52 #[.int .i64 days] (.bool true)]++QjR B s load days):=by kernel_rfl
theorem QuB (B:Lo) (s:Qaa) (load:List Int) (days:Int):Qbe (Qan Tryz.prog (Qa6 Tryz.prog) J0 B 6 1 (Qal Tryz.prog 39 18 (([.agg (Qap s).toArray,slI load,.int .i64 days]).map (Qav 0 4))) H00 1
 (QnJ s load days++[(11,Qah.pure (.bool false) [])]) 0 [] []) []=some (.bool false,
 [QaB []/\Qau Tryz.prog J0 52 #[.int .i64 days] (.bool false)]++QjR B s load days):=by kernel_rfl
theorem Qvi (B:Lo) (s:Qaa) (load:List Int) (days:Int):Qbe (Qan Tryz.prog (Qa6 Tryz.prog) J0 B 6 1 (Qal Tryz.prog 39 18 (([.agg (Qap s).toArray,slI load,.int .i64 days]).map (Qav 0 4))) H00 1
 (Qny s load days++[(7,Qah.pure (.bool false) [])]) 0 [] []) []=some (.bool false,
 [QaB []/\Qau Tryz.prog J0 56 #[.agg (Qhz s),slT load.length (Qab Qag load)] (.bool false)]++Qjx B s load days):=by kernel_rfl
theorem Qvm (B:Lo) (s:Qaa) (load:List Int) (days:Int):Qbe (Qan Tryz.prog (Qa6 Tryz.prog) J0 B 6 1 (Qal Tryz.prog 39 18 (([.agg (Qap s).toArray,slI load,.int .i64 days]).map (Qav 0 4))) H00 1
 [(3,Qah.pure (.bool false) [])] 0 [] []) []=some (.bool false,
 [QaB []/\Qau Tryz.prog J0 44 #[.agg (Qhz s)] (.bool false)]):=by kernel_rfl
set_option maxHeartbeats 4000000 in
theorem QyF (s:Qaa) (load:List Int) (days:Int) (hb:∀l∈s.lots,l.goods.length<=8) (hl:load.length<=10) {B:Lo} (hJ:∀w,B.has w->J0 w):EndsT Tryz.prog B (Qal Tryz.prog 39 18 (([.agg (Qap s).toArray,slI load,.int .i64 days]).map (Qav 0 4))) (.bool (QaD s && (Qdy s load && inB days 0 300))):=by
 cases q0:QaD s with
 | true=>
   have hp0:QaB (Qjx B s load days):=by
    exact ⟨⟨trivial,(by have t_:=Qj9 (s) (by with_reducible assumption);rw [q0] at t_;exact t_)⟩,trivial⟩
   cases q1:Qdy s load with
   | true=>
     have hp1:QaB (QjR B s load days):=by
      exact ⟨⟨trivial,(by have t_:=Q20 (s) (load) (by with_reducible assumption) (by with_reducible assumption);rw [q1] at t_;exact t_)⟩,hp0⟩
     cases q2:inB days 0 300 with
     | true=>
       exact (GoE.endsT okF hJ Qac GoE.start (Qum B s load days)
        ⟨⟨trivial,(by have t_:=Q4I (days);rw [q2] at t_;exact t_)⟩,hp1⟩).cast (by rfl)
     | false=>
       exact (GoE.endsT okF hJ Qac GoE.start (QuB B s load days)
        ⟨⟨trivial,(by have t_:=Q4I (days);rw [q2] at t_;exact t_)⟩,hp1⟩).cast (by rfl)
   | false=>
     exact (GoE.endsT okF hJ Qac GoE.start (Qvi B s load days)
      ⟨⟨trivial,(by have t_:=Q20 (s) (load) (by with_reducible assumption) (by with_reducible assumption);rw [q1] at t_;exact t_)⟩,hp0⟩).cast (by rfl)
 | false=>
   exact (GoE.endsT okF hJ Qac GoE.start (Qvm B s load days)
    ⟨⟨trivial,(by have t_:=Qj9 (s) (by with_reducible assumption);rw [q0] at t_;exact t_)⟩,trivial⟩).cast (by rfl)
theorem QoT (s:Qaa) (load:List Int) (days:Int) (hb:∀l∈s.lots,l.goods.length<=8) (hl:load.length<=10):Qau Tryz.prog J0 39 #[.agg (Qap s).toArray,slI load,.int .i64 days] (.bool (QaD s && (Qdy s load && inB days 0 300))):=
 QaF (ts:=[.agg (Qap s).toArray,slI load,.int .i64 days]) Qbw (c0:=Qal Tryz.prog 39 18 (([.agg (Qap s).toArray,slI load,.int .i64 days]).map (Qav 0 4))) (by kernel_rfl) (by kernel_rfl) fun B hJ=> QyF s load days hb hl hJ
def Qgk (s:Qaa):Bool:=((s.lots.take 12).all fun l=> decide (l.goods.length<=8)) && (decide (s.stock.length<=8) && (decide (s.use.length<=8) && decide (s.lots.length<=9)))
theorem Qcj {s:Qaa} (h:Qgk s=true):∀l∈s.lots,l.goods.length<=8:=by
 simp only [Qgk,Bool.and_eq_true,decide_eq_true_iff,List.all_eq_true] at h
 intro l hl
 refine h.1 l ?_
 rw [List.take_of_length_le (by omega)];exact hl
theorem QwY (s:Qaa):Qau Tryz.prog J0 36 #[.agg (Qap s).toArray] (.bool (Qgk s)):=Q3Z s
end
end Go.Proofs.YtiabgkiccaodmaaGreat

namespace Go.Proofs.YtiabgkiccaodmaaGreat
open Go Go.CE Go.RowKit
def Q4N:Sh:=shS [.slice Qtl,.int,.int]
def Qld:Sh:=shS [.slice .int,.slice Qtl,Qtl,.slice Q4N,.int]
theorem Q3u {cs:List Value} (h:Q4N.ok cs):∃l:Qad,cs=Qao l:=by
 obtain ⟨_,_,rfl,h1,_,_,rfl,⟨a,_,rfl⟩,_,_,rfl,⟨b,_,rfl⟩,rfl⟩:=h
 obtain ⟨ss,rfl⟩:=Qjb (fun _=> Qou) h1
 exact ⟨⟨ss,a,b⟩,rfl⟩
theorem QxP {v:Value} (h:Qld.arg v):∃s:Qaa,v=.agg (Qap s).toArray:=by
 obtain ⟨cs,rfl,h⟩:=h
 obtain ⟨_,_,rfl,h1,_,_,rfl,h2,_,_,rfl,h3,_,_,rfl,h4,_,_,rfl,⟨f,_,rfl⟩,rfl⟩:=h
 obtain ⟨xs,rfl⟩:=Qjb (fun _=> Q1Z) h1
 obtain ⟨us,rfl⟩:=Qjb (fun _=> Qou) h2
 obtain ⟨g,rfl⟩:=Qou h3
 obtain ⟨ls,rfl⟩:=Qjb (fun _=> Q3u) h4
 exact ⟨⟨xs,us,g.lo,g.hi,ls,f⟩,rfl⟩
theorem Q1q {v:Value} (h:Sh.arg (.slice .int) v):∃xs:List Int,v=slI xs:=by
 obtain ⟨xs,hx⟩:=Qjb (fun _=> Q1Z) (show Sh.ok (.slice .int) [v] from h)
 exact ⟨xs,by simpa using hx⟩
end Go.Proofs.YtiabgkiccaodmaaGreat

namespace Go.Proofs.YtiabgkiccaodmaaGreat
open Go Go.CE Go.RowKit
noncomputable section
set_option maxRecDepth 100000
def Qf8 (xs:List Span) (i:Int) (ys:List Int):List Value:=[Value.func (Fn.func 103) #[] #[],.slice (some {block:=2,off:=0}) xs.length 1,Qay 1 (slT xs.length (Qab Qa3 xs)),.int .i64 (↑xs.length:Int),.int .i64 i]
def Qdv (xs:List Span) (i:Int) (ys:List Int):List Obj:=[.cells (Qab Qag ys) 3 (0,0)]
def Qf3:List Item:=([.code [1,1,0,1,0,0],.inLoop [1,1,0,1,0,0],.inBlock 0,.code [1,1,1]]).map (it (Qaq Tryz.prog 160))
def Qt6 (B:Lo) (c0:CF) (xs:List Span) (i:Int) (ys:List Int):Prop:=∃dJ:Nat->Value,(∀t,QaP (dJ t))/\GoE Tryz.prog B c0 H00 1 (Qa2 160 26 (([1,5,11,12,13]:List Nat).zip (Qf8 xs i ys)) dJ Qf3) (Qaz (Qdv xs i ys)) (2+(Qdv xs i ys).length) []
def QjL (xs:List Span) (i:Int):Array Value:=#[.int .i64 (Span.lo (xs.getD i.toNat default)),.int .i64 (Span.hi (xs.getD i.toNat default))]
theorem QuA (B:Lo) (xs:List Span) (i:Int) (ys:List Int) (dJ0:Nat->Value):landM (Qan Tryz.prog (Qa6 Tryz.prog) J0 B 13 1 (Qa2 160 26 (([1,5,11,12,13]:List Nat).zip (Qf8 xs i ys)) dJ0 Qf3) (Qaz (Qdv xs i ys)) (2+(Qdv xs i ys).length)
 [(0,hvT),(2,Qah.tidx i.toNat (QjL xs i)),(11,Qah.pure (.int .i64 (Span.hi (xs.getD i.toNat default))) []),(12,Qah.old (Hint.idx i.toNat)),(13,Qah.old (Hint.st (Qab Qag (List.set ys i.toNat (Span.hi (xs.getD i.toNat default)))))),(14,hvI (i+1))] 0 [] []) [1,5,11,12,13] [(2,KS.cells [] (Qab Qag (List.set ys i.toNat (Span.hi (xs.getD i.toNat default)))))] []=some ⟨160,26,Qf3,[],.run,none,Qf8 xs (i+1) (List.set ys i.toNat (Span.hi (xs.getD i.toNat default))),Qdv xs (i+1) (List.set ys i.toNat (Span.hi (xs.getD i.toNat default))),
 [Qa8 1 [] (Qab Qag (List.set ys i.toNat (Span.hi (xs.getD i.toNat default)))) (Qab Qag (List.set ys i.toNat (Span.hi (xs.getD i.toNat default)))),wq (i+1)=i+1,0+Int.toNat i * 1+TypeInfo.size Tryz.t3<=Array.size (Qab Qag ys)/\splice (Qab Qag ys) (0+Int.toNat i * 1) (Value.cells (Qca {len:=16000,tr:=Tri.set 14 (Tri.set 14 Tri.lf 22 (.int .i64 (Span.hi (xs.getD i.toNat default)))) 23 (.pointer (some {block:=2,off:=0+Int.toNat i * 1}))} 22))=Qab Qag (List.set ys i.toNat (Span.hi (xs.getD i.toNat default))),i=(↑i.toNat:Int)/\Int.toNat i < List.length xs,QaB []/\Qau Tryz.prog J0 103 #[.agg (QjL xs i)] (.int .i64 (Span.hi (xs.getD i.toNat default))),i=(↑i.toNat:Int)/\Int.toNat i < List.length xs/\Array.extract (Qab Qa3 xs) (Int.toNat i * TypeInfo.size Tryz.t25) (Int.toNat i * TypeInfo.size Tryz.t25+TypeInfo.size Tryz.t25)=(QjL xs i),ltq i (↑xs.length:Int)=true]⟩:=by kernel_rfl
theorem Qur (B:Lo) (xs:List Span) (i:Int) (ys:List Int) (dJ0:Nat->Value):Qbe (Qan Tryz.prog (Qa6 Tryz.prog) J0 B 9 1 (Qa2 160 26 (([1,5,11,12,13]:List Nat).zip (Qf8 xs i ys)) dJ0 Qf3) (Qaz (Qdv xs i ys)) (2+(Qdv xs i ys).length)
 [(0,hvF)] 0 [] []) [{k:=2,rs:=[],cs:=Qab Qag ys}]=some (slT xs.length (Fz.cs {k:=2,rs:=[],cs:=Qab Qag ys}),
 [QaY (Fz.rs {k:=2,rs:=[],cs:=Qab Qag ys}) (Qab Qag ys) (Fz.cs {k:=2,rs:=[],cs:=Qab Qag ys}),ltq i (↑xs.length:Int)=false]):=by kernel_rfl
theorem QuH (B:Lo) (xs:List Span):landM (Qan Tryz.prog (Qa6 Tryz.prog) J0 B 9 1 (Qal Tryz.prog 160 26 (([Qp9 xs,.func (.func 103) #[] #[]]).map (Qav 0 4))) H00 1
 [(3,Qah.old (Hint.mk xs.length (Qab (QbA [.int .i64 0]) (List.replicate xs.length ()))))] 0 [] []) [1,5,11,12,13] [(1,KS.rows [] [] (Qab Qag (List.replicate xs.length 0)))] []=some ⟨160,26,Qf3,[],.run,none,Qf8 xs (0) (List.replicate xs.length 0),Qdv xs (0) (List.replicate xs.length 0),
 [QaQ 1 [] [] (Qab (QbA [.int .i64 0]) (List.replicate xs.length ())) (Qab Qag (List.replicate xs.length 0)),QfR Tryz.prog 22 (Qca {len:=16000,tr:=Tri.set 14 Tri.lf 9 (.int .i64 (↑xs.length:Int))} 9) (Qca {len:=16000,tr:=Tri.set 14 Tri.lf 9 (.int .i64 (↑xs.length:Int))} 9)=some (3,Qab (QbA [.int .i64 0]) (List.replicate xs.length ()),List.length xs,TypeInfo.size Tryz.t3)]⟩:=by kernel_rfl
set_option maxHeartbeats 4000000 in
theorem QtX (xs:List Span) (hn:xs.length<=1000000) {B:Lo} (hJ:∀w,B.has w->J0 w) {c0:CF}:∀m:Nat,(∀(i:Int) (ys:List Int),(xs.length - i.toNat)=m->∀(h0:0<=i) (hy:ys=Qgp Span.hi 0 xs i),Qt6 B c0 xs i ys->EndsT Tryz.prog B c0 (slI (xs.map Span.hi))):=by
 intro m0
 induction m0 using Nat.strongRecOn with
 | _ m0 ih0=>
   intro i ys hm0 h0 hy ⟨dJ0,hdJ0,hg0⟩
   have hyl:ys.length=xs.length:=by rw [hy];exact QdD
   by_cases q0:(i:Int) < ((↑xs.length:Int))
   ·
    exact ((ih0 _ (by omega)) (i+1) (List.set ys i.toNat (Span.hi (xs.getD i.toNat default))) rfl (by omega) (by (subst hy;exact QdJ (f:=Span.hi) h0 q0))
     (hg0.landM okF hJ Qac (QuA B xs i ys dJ0)
     ⟨(Qaf (Qai (fun x=> List.all_eq_true.1 (by rfl)))),⟨(QaM (by omega) (by omega)),⟨(by exact QfO (z:=1) (fun _=> rfl) (by omega) rfl rfl),⟨⟨by omega,by omega⟩,⟨⟨trivial,Q3U (Span.lo (xs.getD i.toNat default)) (Span.hi (xs.getD i.toNat default))⟩,⟨⟨by omega,by omega,(Qae (z:=2) (fun _=> rfl) (by omega))⟩,⟨(QaW q0),trivial⟩⟩⟩⟩⟩⟩⟩ (by kernel_rfl) (by kernel_rfl))).cast (by rfl)
   ·
    exact (GoE.endsT okF hJ Qac hg0 (Qur B xs i ys dJ0)
     ⟨(QaE (fun x=> List.all_eq_true.1 (by rfl))),⟨(Qbb (Int.not_lt.1 q0)),trivial⟩⟩).cast (by exact Qfp (hy.trans (QdC (by omega))) (by simp))
set_option maxHeartbeats 4000000 in
theorem QxH (xs:List Span) (hn:xs.length<=1000000) {B:Lo} (hJ:∀w,B.has w->J0 w):EndsT Tryz.prog B (Qal Tryz.prog 160 26 (([Qp9 xs,.func (.func 103) #[] #[]]).map (Qav 0 4))) (slI (xs.map Span.hi)):=by
 exact ((QtX xs hn hJ _) (0) (List.replicate xs.length 0) rfl (by omega) (by exact QfL)
  (GoE.start.landM okF hJ Qac (QuH B xs)
  ⟨(by exact (QbK (by exact ⟨(.simple rfl),trivial⟩) _)),⟨(Qgo (bytes:=8) (by kernel_rfl) (by omega) (by omega) (by omega)),trivial⟩⟩ (by kernel_rfl) (by kernel_rfl))).cast (by rfl)
theorem QwV (xs:List Span) (hn:xs.length<=1000000):Qau Tryz.prog J0 160 #[Qp9 xs,.func (.func 103) #[] #[]] (slI (xs.map Span.hi)):=
 QaF (ts:=[Qp9 xs,.func (.func 103) #[] #[]]) Qbw (c0:=Qal Tryz.prog 160 26 (([Qp9 xs,.func (.func 103) #[] #[]]).map (Qav 0 4))) (by kernel_rfl) (by kernel_rfl) fun B hJ=> QxH xs hn hJ
def Qf2 (xs:List Span) (i:Int) (ys:List Int):List Value:=[Value.func (Fn.func 104) #[] #[],.slice (some {block:=2,off:=0}) xs.length 1,Qay 1 (slT xs.length (Qab Qa3 xs)),.int .i64 (↑xs.length:Int),.int .i64 i]
def Qdp (xs:List Span) (i:Int) (ys:List Int):List Obj:=[.cells (Qab Qag ys) 3 (0,0)]
def QfG:List Item:=([.code [1,1,0,1,0,0],.inLoop [1,1,0,1,0,0],.inBlock 0,.code [1,1,1]]).map (it (Qaq Tryz.prog 160))
def Qvj (B:Lo) (c0:CF) (xs:List Span) (i:Int) (ys:List Int):Prop:=∃dJ:Nat->Value,(∀t,QaP (dJ t))/\GoE Tryz.prog B c0 H00 1 (Qa2 160 26 (([1,5,11,12,13]:List Nat).zip (Qf2 xs i ys)) dJ QfG) (Qaz (Qdp xs i ys)) (2+(Qdp xs i ys).length) []
def Qj2 (xs:List Span) (i:Int):Array Value:=#[.int .i64 (Span.lo (xs.getD i.toNat default)),.int .i64 (Span.hi (xs.getD i.toNat default))]
theorem Quk (B:Lo) (xs:List Span) (i:Int) (ys:List Int) (dJ0:Nat->Value):landM (Qan Tryz.prog (Qa6 Tryz.prog) J0 B 13 1 (Qa2 160 26 (([1,5,11,12,13]:List Nat).zip (Qf2 xs i ys)) dJ0 QfG) (Qaz (Qdp xs i ys)) (2+(Qdp xs i ys).length)
 [(0,hvT),(2,Qah.tidx i.toNat (Qj2 xs i)),(11,Qah.pure (.int .i64 (Span.lo (xs.getD i.toNat default))) []),(12,Qah.old (Hint.idx i.toNat)),(13,Qah.old (Hint.st (Qab Qag (List.set ys i.toNat (Span.lo (xs.getD i.toNat default)))))),(14,hvI (i+1))] 0 [] []) [1,5,11,12,13] [(2,KS.cells [] (Qab Qag (List.set ys i.toNat (Span.lo (xs.getD i.toNat default)))))] []=some ⟨160,26,QfG,[],.run,none,Qf2 xs (i+1) (List.set ys i.toNat (Span.lo (xs.getD i.toNat default))),Qdp xs (i+1) (List.set ys i.toNat (Span.lo (xs.getD i.toNat default))),
 [Qa8 1 [] (Qab Qag (List.set ys i.toNat (Span.lo (xs.getD i.toNat default)))) (Qab Qag (List.set ys i.toNat (Span.lo (xs.getD i.toNat default)))),wq (i+1)=i+1,0+Int.toNat i * 1+TypeInfo.size Tryz.t3<=Array.size (Qab Qag ys)/\splice (Qab Qag ys) (0+Int.toNat i * 1) (Value.cells (Qca {len:=16000,tr:=Tri.set 14 (Tri.set 14 Tri.lf 22 (.int .i64 (Span.lo (xs.getD i.toNat default)))) 23 (.pointer (some {block:=2,off:=0+Int.toNat i * 1}))} 22))=Qab Qag (List.set ys i.toNat (Span.lo (xs.getD i.toNat default))),i=(↑i.toNat:Int)/\Int.toNat i < List.length xs,QaB []/\Qau Tryz.prog J0 104 #[.agg (Qj2 xs i)] (.int .i64 (Span.lo (xs.getD i.toNat default))),i=(↑i.toNat:Int)/\Int.toNat i < List.length xs/\Array.extract (Qab Qa3 xs) (Int.toNat i * TypeInfo.size Tryz.t25) (Int.toNat i * TypeInfo.size Tryz.t25+TypeInfo.size Tryz.t25)=(Qj2 xs i),ltq i (↑xs.length:Int)=true]⟩:=by kernel_rfl
theorem QtC (B:Lo) (xs:List Span) (i:Int) (ys:List Int) (dJ0:Nat->Value):Qbe (Qan Tryz.prog (Qa6 Tryz.prog) J0 B 9 1 (Qa2 160 26 (([1,5,11,12,13]:List Nat).zip (Qf2 xs i ys)) dJ0 QfG) (Qaz (Qdp xs i ys)) (2+(Qdp xs i ys).length)
 [(0,hvF)] 0 [] []) [{k:=2,rs:=[],cs:=Qab Qag ys}]=some (slT xs.length (Fz.cs {k:=2,rs:=[],cs:=Qab Qag ys}),
 [QaY (Fz.rs {k:=2,rs:=[],cs:=Qab Qag ys}) (Qab Qag ys) (Fz.cs {k:=2,rs:=[],cs:=Qab Qag ys}),ltq i (↑xs.length:Int)=false]):=by kernel_rfl
theorem QtK (B:Lo) (xs:List Span):landM (Qan Tryz.prog (Qa6 Tryz.prog) J0 B 9 1 (Qal Tryz.prog 160 26 (([Qp9 xs,.func (.func 104) #[] #[]]).map (Qav 0 4))) H00 1
 [(3,Qah.old (Hint.mk xs.length (Qab (QbA [.int .i64 0]) (List.replicate xs.length ()))))] 0 [] []) [1,5,11,12,13] [(1,KS.rows [] [] (Qab Qag (List.replicate xs.length 0)))] []=some ⟨160,26,QfG,[],.run,none,Qf2 xs (0) (List.replicate xs.length 0),Qdp xs (0) (List.replicate xs.length 0),
 [QaQ 1 [] [] (Qab (QbA [.int .i64 0]) (List.replicate xs.length ())) (Qab Qag (List.replicate xs.length 0)),QfR Tryz.prog 22 (Qca {len:=16000,tr:=Tri.set 14 Tri.lf 9 (.int .i64 (↑xs.length:Int))} 9) (Qca {len:=16000,tr:=Tri.set 14 Tri.lf 9 (.int .i64 (↑xs.length:Int))} 9)=some (3,Qab (QbA [.int .i64 0]) (List.replicate xs.length ()),List.length xs,TypeInfo.size Tryz.t3)]⟩:=by kernel_rfl
set_option maxHeartbeats 4000000 in
theorem Qvk (xs:List Span) (hn:xs.length<=1000000) {B:Lo} (hJ:∀w,B.has w->J0 w) {c0:CF}:∀m:Nat,(∀(i:Int) (ys:List Int),(xs.length - i.toNat)=m->∀(h0:0<=i) (hy:ys=Qgp Span.lo 0 xs i),Qvj B c0 xs i ys->EndsT Tryz.prog B c0 (slI (xs.map Span.lo))):=by
 intro m0
 induction m0 using Nat.strongRecOn with
 | _ m0 ih0=>
   intro i ys hm0 h0 hy ⟨dJ0,hdJ0,hg0⟩
   have hyl:ys.length=xs.length:=by rw [hy];exact QdD
   by_cases q0:(i:Int) < ((↑xs.length:Int))
   ·
    exact ((ih0 _ (by omega)) (i+1) (List.set ys i.toNat (Span.lo (xs.getD i.toNat default))) rfl (by omega) (by (subst hy;exact QdJ (f:=Span.lo) h0 q0))
     (hg0.landM okF hJ Qac (Quk B xs i ys dJ0)
     ⟨(Qaf (Qai (fun x=> List.all_eq_true.1 (by rfl)))),⟨(QaM (by omega) (by omega)),⟨(by exact QfO (z:=1) (fun _=> rfl) (by omega) rfl rfl),⟨⟨by omega,by omega⟩,⟨⟨trivial,Q5O (Span.lo (xs.getD i.toNat default)) (Span.hi (xs.getD i.toNat default))⟩,⟨⟨by omega,by omega,(Qae (z:=2) (fun _=> rfl) (by omega))⟩,⟨(QaW q0),trivial⟩⟩⟩⟩⟩⟩⟩ (by kernel_rfl) (by kernel_rfl))).cast (by rfl)
   ·
    exact (GoE.endsT okF hJ Qac hg0 (QtC B xs i ys dJ0)
     ⟨(QaE (fun x=> List.all_eq_true.1 (by rfl))),⟨(Qbb (Int.not_lt.1 q0)),trivial⟩⟩).cast (by exact Qfp (hy.trans (QdC (by omega))) (by simp))
set_option maxHeartbeats 4000000 in
theorem QxY (xs:List Span) (hn:xs.length<=1000000) {B:Lo} (hJ:∀w,B.has w->J0 w):EndsT Tryz.prog B (Qal Tryz.prog 160 26 (([Qp9 xs,.func (.func 104) #[] #[]]).map (Qav 0 4))) (slI (xs.map Span.lo)):=by
 exact ((Qvk xs hn hJ _) (0) (List.replicate xs.length 0) rfl (by omega) (by exact QfL)
  (GoE.start.landM okF hJ Qac (QtK B xs)
  ⟨(by exact (QbK (by exact ⟨(.simple rfl),trivial⟩) _)),⟨(Qgo (bytes:=8) (by kernel_rfl) (by omega) (by omega) (by omega)),trivial⟩⟩ (by kernel_rfl) (by kernel_rfl))).cast (by rfl)
theorem QxE (xs:List Span) (hn:xs.length<=1000000):Qau Tryz.prog J0 160 #[Qp9 xs,.func (.func 104) #[] #[]] (slI (xs.map Span.lo)):=
 QaF (ts:=[Qp9 xs,.func (.func 104) #[] #[]]) Qbw (c0:=Qal Tryz.prog 160 26 (([Qp9 xs,.func (.func 104) #[] #[]]).map (Qav 0 4))) (by kernel_rfl) (by kernel_rfl) fun B hJ=> QxY xs hn hJ
theorem Qvp (B:Lo) (n d:Int):Qbe (Qan Tryz.prog (Qa6 Tryz.prog) J0 B 6 1 (Qal Tryz.prog 132 11 (([.int .i64 n,.int .i64 d]).map (Qav 0 4))) H00 1
 [(3,hvI (n+d)),(4,hvI (n+d - 1)),(6,Qah.bin (.int .i64 (Int.tdiv (n+d - 1) d)))] 0 [] []) []=some (.int .i64 (Int.tdiv (n+d - 1) d),
 [Qlk Tryz.prog BinOp.quo 3 (Qca {len:=16000,tr:=Tri.set 14 (Tri.set 14 Tri.lf 9 (.int .i64 d)) 8 (.int .i64 (n+d - 1))} 8) (Qca {len:=16000,tr:=Tri.set 14 (Tri.set 14 Tri.lf 9 (.int .i64 d)) 8 (.int .i64 (n+d - 1))} 9) (.int .i64 (Int.tdiv (n+d - 1) d)),wq (n+d - 1)=n+d - 1,wq (n+d)=n+d]):=by kernel_rfl
set_option maxHeartbeats 4000000 in
theorem Qw2 (n d:Int) (hn:0<=n/\n<=2000000) (hd:1<=d/\d<=1000) {B:Lo} (hJ:∀w,B.has w->J0 w):EndsT Tryz.prog B (Qal Tryz.prog 132 11 (([.int .i64 n,.int .i64 d]).map (Qav 0 4))) (.int .i64 ((n+d - 1).tdiv d)):=by
 have e1:(n+d - 1).tdiv d=(n+d - 1) / d:=Int.tdiv_eq_ediv_of_nonneg (by omega)
 have e2:(n+d - 1) / d<=n+d - 1:=Int.ediv_le_self _ (by omega)
 have e3:0<=(n+d - 1) / d:=Int.ediv_nonneg (by omega) (by omega)
 exact (GoE.endsT okF hJ Qac GoE.start (Qvp B n d)
  ⟨(Q3L (by omega) rfl (by omega) (by omega)),⟨(QaM (by omega) (by omega)),⟨(QaM (by omega) (by omega)),trivial⟩⟩⟩).cast (by rfl)
theorem Qvu (n d:Int) (hn:0<=n/\n<=2000000) (hd:1<=d/\d<=1000):Qau Tryz.prog J0 132 #[.int .i64 n,.int .i64 d] (.int .i64 ((n+d - 1).tdiv d)):=
 QaF (ts:=[.int .i64 n,.int .i64 d]) Qbw (c0:=Qal Tryz.prog 132 11 (([.int .i64 n,.int .i64 d]).map (Qav 0 4))) (by kernel_rfl) (by kernel_rfl) fun B hJ=> Qw2 n d hn hd hJ
end
end Go.Proofs.YtiabgkiccaodmaaGreat

namespace Go.CE
open Go Go.RowKit

section
variable {P:Program} {F:FuncId->Bool} {T:Tm} {o:Oper} {H:Qaw} {n:Nat}
theorem Qn0 {t e:TypeId} {x lo:Operand} {b off m s z:Nat} {k:IntKind} {l:Int} (ho:o.op=.slice t x (some lo) none none) (hx:evC T x=some (.slice (some ⟨b,off,none⟩) m s)) (hl:evC T lo=some (.int k l)) (hu:und P t=some (.slice e)) (hz:Qfc P e=some (z+1)) (h1:0 < l) (h2:l < m):
 opS P F Qbu (fun _ _ _=> none) T o H n=some ⟨.ret (.slice (some ⟨b,off+l.toNat * (z+1),none⟩) (m - l.toNat) 0),H,n,[],[]⟩:=by
 have e1:Qzs m (some (.int k l)) none=some (l.toNat,m):=by
  simp only [Qzs,bnd,decide_eq_true (show (0:Int)<=l by omega),decide_eq_true (show l<=(m:Int) by omega),Bool.and_self,cond_true]
 have e2:Nat.beq l.toNat 0=false:=by cases h:Nat.beq l.toNat 0 with
  | false=> rfl
  | true=> have:=Nat.eq_of_beq_eq_true h;omega
 have e3:Nat.blt l.toNat m=true:=Nat.ble_eq_true_of_le (show l.toNat+1<=m by omega)
 have e4:Qh4 P t (.slice (some ⟨b,off,none⟩) m s) (some (.int k l)) none=some (.slice (some ⟨b,off+l.toNat * (z+1),none⟩) (m - l.toNat) 0):=by
  simp only [Qh4,hu,hz,e1,e2,e3,cond_true,cond_false]
 have e5:QmU P F (evC T) o H n=some ⟨.val (.slice (some ⟨b,off+l.toNat * (z+1),none⟩) (m - l.toNat) 0),H,n,[],[]⟩:=by
  unfold QmU cop
  simp only [ho,hx,evo,hl,e4,mkPure,Option.map_some,List.all_nil,cond_true]
 unfold opS
 simp only [ho,e5]
theorem QnL {t e:TypeId} {x hi:Operand} {b off m s z:Nat} {k:IntKind} {l:Int} (ho:o.op=.slice t x none (some hi) none) (hx:evC T x=some (.slice (some ⟨b,off,none⟩) m s)) (hl:evC T hi=some (.int k l)) (hu:und P t=some (.slice e)) (hz:Qfc P e=some (z+1)) (h1:0<=l) (h2:l<=m):
 opS P F Qbu (fun _ _ _=> none) T o H n=some ⟨.ret (.slice (some ⟨b,off,none⟩) l.toNat s),H,n,[],[]⟩:=by
 have e1:Qzs m none (some (.int k l))=some (0,l.toNat):=by
  simp only [Qzs,bnd,decide_eq_true h1,decide_eq_true h2,Bool.and_self,cond_true]
 have e4:Qh4 P t (.slice (some ⟨b,off,none⟩) m s) none (some (.int k l))=some (.slice (some ⟨b,off,none⟩) l.toNat s):=by
  simp only [Qh4,hu,hz,e1,show Nat.beq 0 0=true from rfl,cond_true]
 have e5:QmU P F (evC T) o H n=some ⟨.val (.slice (some ⟨b,off,none⟩) l.toNat s),H,n,[],[]⟩:=by
  unfold QmU cop
  simp only [ho,hx,evo,hl,e4,mkPure,Option.map_some,List.all_nil,cond_true]
 unfold opS
 simp only [ho,e5]
theorem Qog {c:Call} {s x:Operand} {t t2 e te:TypeId} {b off k s1 b2 off2 m s2 z q:Nat} {cs cs2 cs':Array Value} {te2:TypeId} {f2:Nat×Nat} {H':Qaw} (ho:o.op=.call c) (hc:c.callee=.builtin .copy) (ha:c.args.toList=[s,x]) (hat:c.argTypes.toList=[t,t2])
 (hs:evC T s=some (.slice (some ⟨b,off,none⟩) k s1)) (hx:evC T x=some (.slice (some ⟨b2,off2,none⟩) m s2)) (hu:und P t=some (.slice e)) (hz:Qfc P e=some z) (hb:Qa4 H b=some (.cells cs te (0,0))) (hb2:Qa4 H b2=some (.cells cs2 te2 f2)) (hn:b < n) (hn2:b2 < n)
 (hH:Qgl H b (.cells cs' te (0,0))=H') (hq:q=Nat.min m k) (hf:off+q * z<=cs.size/\off2+q * z<=cs2.size/\ones (cs2.extract off2 (off2+q * z))=true/\splice cs off (cs2.extract off2 (off2+q * z))=cs'):
 opS P F Qbu (fun _ _ _=> none) T o H n=some ⟨.ret (.int .i64 q),H',n,[b,b2],[b]⟩:=by
 obtain ⟨h1,h2,h3,h4⟩:=hf
 subst hq hH h4
 have e4:Qsg P t H n (.slice (some ⟨b,off,none⟩) k s1) (.slice (some ⟨b2,off2,none⟩) m s2)=some ⟨.val (.int .i64 (Nat.min m k)),Qgl H b (.cells (splice cs off (cs2.extract off2 (off2+Nat.min m k * z))) te (0,0)),n,[b,b2],[b]⟩:=by
  simp only [Qsg,hu,hz,hb,hb2,h3,show Nat.ble (off+Nat.min m k * z) cs.size=true from Nat.ble_eq_true_of_le h1,show Nat.ble (off2+Nat.min m k * z) cs2.size=true from Nat.ble_eq_true_of_le h2,Bool.and_self,cond_true]
 have e5:QmU P F (evC T) o H n=some ⟨.val (.int .i64 (Nat.min m k)),Qgl H b (.cells (splice cs off (cs2.extract off2 (off2+Nat.min m k * z))) te (0,0)),n,[b,b2],[b]⟩:=by
  unfold QmU cop
  simp only [ho,hc,ha,hat,hs,hx,e4,List.all_cons,List.all_nil,show Nat.blt b n=true from Nat.ble_eq_true_of_le hn,show Nat.blt b2 n=true from Nat.ble_eq_true_of_le hn2,Bool.and_self,cond_true]
 unfold opS
 simp only [ho,e5]
end
section
variable {P:Program} {F:FuncId->Bool} {T:Tm} {o:Oper} {H:Qaw} {n:Nat}
end
theorem Qzh {α:Type} {e:α->List Value} (h:∀x,(e x).all (·.oneCell')=true) (zs:List α) (i j:Nat):ones ((Qab e zs).extract i j)=true:=by
 unfold ones
 rw [Array.all_eq_true']
 intro v hv
 have hv':v∈(Qab e zs).toList:=by
  have:=Array.mem_def.1 hv
  rw [Array.toList_extract,List.extract_eq_take_drop] at this
  exact List.mem_of_mem_drop (List.mem_of_mem_take this)
 simp only [Qab,List.mem_flatMap] at hv'
 obtain ⟨x,_,hx⟩:=hv'
 exact List.all_eq_true.1 (h x) v hx
def QjQ {α:Type} (ys:List α) (a:Nat) (zs:List α):List α:=ys.take a++zs++ys.drop (a+zs.length)
theorem Qp8 {α:Type} {e:α->List Value} {z:Nat} (h:∀x,(e x).length=z):∀(zs:List α) (c:Nat),(zs.flatMap e).drop (c * z)=(zs.drop c).flatMap e:=by
 intro zs
 induction zs with
 | nil=> intro c;simp
 | cons x zs ih=>
   intro c
   cases c with
   | zero=> simp
   | succ c=>
     rw [List.flatMap_cons,List.drop_succ_cons,<-ih c,Nat.succ_mul,Nat.add_comm,List.drop_append]
     rw [List.drop_eq_nil_of_le (by rw [h];omega),List.nil_append,h]
     congr 1;omega
theorem Qpy {α:Type} {e:α->List Value} {z:Nat} (h:∀x,(e x).length=z):∀(zs:List α) (q:Nat),(zs.flatMap e).take (q * z)=(zs.take q).flatMap e:=by
 intro zs
 induction zs with
 | nil=> intro q;simp
 | cons x zs ih=>
   intro q
   cases q with
   | zero=> simp
   | succ q=>
     rw [List.flatMap_cons,List.take_succ_cons,List.flatMap_cons,<-ih q,Nat.succ_mul,Nat.add_comm,List.take_append]
     rw [List.take_of_length_le (by rw [h];omega),h]
     congr 2;omega
theorem Q1T {α:Type} {e:α->List Value} {z:Nat} (h:∀x,(e x).length=z) (zs:List α) (c q:Nat):(Qab e zs).extract (c * z) (c * z+q * z)=Qab e ((zs.drop c).take q):=by
 apply Array.toList_inj.1
 simp only [Qab,Array.toList_extract,List.extract_eq_take_drop,Qp8 h]
 rw [show c * z+q * z - c * z=q * z by omega,Qpy h]
theorem QbG {α:Type} {e:α->List Value} {xs:List α} {x:α} {cs:Array Value} (h:cs=(e x).toArray):Qab e xs++cs=Qab e (xs++[x]):=by
 rw [h];exact QbM
theorem Q0d {α:Type} {e:α->List Value} {z:Nat} (h:∀x,(e x).length=z) {ys zs:List α} {a:Nat}:splice (Qab e ys) (a * z) (Qab e zs)=Qab e (QjQ ys a zs):=by
 have hl:(zs.flatMap e).length=zs.length * z:=by
  have:=QaU (e:=e) (xs:=zs) h
  simpa [Qab] using this
 apply Array.toList_inj.1
 simp only [splice,Qab,QjQ,List.flatMap_append,Qpy h]
 rw [hl,<-Nat.add_mul,Qp8 h]
theorem QyK {α:Type} {e:α->List Value} {z:Nat} (h:∀x,(e x).length=z) (hs:∀x,(e x).all (·.oneCell')=true) {ys zs:List α} {a c q:Nat} (h1:a+q<=ys.length) (h2:c+q<=zs.length):
 a * z+q * z<=(Qab e ys).size/\c * z+q * z<=(Qab e zs).size/\ones ((Qab e zs).extract (c * z) (c * z+q * z))=true/\splice (Qab e ys) (a * z) ((Qab e zs).extract (c * z) (c * z+q * z))=Qab e (QjQ ys a ((zs.drop c).take q)):=by
 refine ⟨?_, ?_,Qzh hs _ _ _, ?_⟩
 ·rw [QaU h,<-Nat.add_mul];exact Nat.mul_le_mul_right _ h1
 ·rw [QaU h,<-Nat.add_mul];exact Nat.mul_le_mul_right _ h2
 ·rw [Q1T h,Q0d h]
theorem Qj1 {α:Type} {e:α->List Value} {z:Nat} (h:∀x,(e x).length=z) (hs:∀x,(e x).all (·.oneCell')=true) {ys zs:List α} {a c q:Nat} (h1:a+q<=ys.length) (h2:c+q<=zs.length):
 0+a * z+q * z<=(Qab e ys).size/\0+c * z+q * z<=(Qab e zs).size/\ones ((Qab e zs).extract (0+c * z) (0+c * z+q * z))=true/\splice (Qab e ys) (0+a * z) ((Qab e zs).extract (0+c * z) (0+c * z+q * z))=Qab e (QjQ ys a ((zs.drop c).take q)):=by
 simp only [Nat.zero_add];exact QyK h hs h1 h2
def Qgj {α:Type} (x x0:α) (n k:Nat):List α:=List.replicate k x++List.replicate (n - k) x0
theorem Qte {α:Type} {x x0:α} {n k:Nat} (h:k<=n):(Qgj x x0 n k).length=n:=by simp [Qgj];omega
theorem Qtc {α:Type} {x x0:α} {n:Nat}:Qgj x x0 n n=List.replicate n x:=by simp [Qgj]
theorem Qs9 {α:Type} {x x0:α} {n k q:Nat} (h:k+q<=n) (hq:q<=k):QjQ (Qgj x x0 n k) k (((Qgj x x0 n k).drop 0).take q)=Qgj x x0 n (k+q):=by
 have e1:(Qgj x x0 n k).take k=List.replicate k x:=by simp [Qgj]
 have e2:((Qgj x x0 n k).drop 0).take q=List.replicate q x:=by
  simp [Qgj,List.take_append,Nat.min_eq_left hq];omega
 have e3:(Qgj x x0 n k).drop (k+q)=List.replicate (n - (k+q)) x0:=by
  simp [Qgj,List.drop_append,Nat.sub_sub]
 rw [e2,QjQ,e1,List.length_replicate,e3,Qgj,List.append_assoc,<-List.replicate_append_replicate,List.append_assoc]
theorem Qu0 {α:Type} {x x0:α} {n q:Nat} (hq:q=min 1 n):QjQ (List.replicate n x0) 0 (([x].drop 0).take q)=Qgj x x0 n q:=by
 subst hq
 cases n with
 | zero=> simp [QjQ,Qgj]
 | succ n=> simp [QjQ,Qgj,show min 1 (n+1)=1 by omega]
def cpE (vs zs:List Value):Bool->List Value
 | true=> vs
 | false=> zs
theorem QpQ {vs zs:List Value} {z q k:Nat} (hv:vs.length=z) (hz:zs.length=z) (hv1:vs.all (·.oneCell')=true) (hz1:zs.all (·.oneCell')=true) (hq:q=min 1 k):
 0+q * z<=(Qab (QbA zs) (List.replicate k ())).size/\0+q * z<=vs.toArray.size/\ones (vs.toArray.extract 0 (0+q * z))=true/\splice (Qab (QbA zs) (List.replicate k ())) 0 (vs.toArray.extract 0 (0+q * z))=Qab (cpE vs zs) (Qgj true false k q):=by
 have e1:Qab (QbA zs) (List.replicate k ())=Qab (cpE vs zs) (List.replicate k false):=by
  simp [Qab,QbA,cpE,List.flatMap_replicate]
 have e2:vs.toArray=Qab (cpE vs zs) [true]:=by simp [Qab,cpE]
 have h:∀x,(cpE vs zs x).length=z:=fun x=> by cases x <;> assumption
 have hs:∀x,(cpE vs zs x).all (·.oneCell')=true:=fun x=> by cases x <;> assumption
 have:=Qj1 h hs (ys:=List.replicate k false) (zs:=[true]) (a:=0) (c:=0) (q:=q) (by simp;omega) (by simp;omega)
 rw [Qu0 hq] at this
 rw [e1,e2]
 simpa using this
theorem QyC {α:Type} {e:α->List Value} {x:α} {zs:List Value} {n:Nat}:Qab (cpE (e x) zs) (List.replicate n true)=Qab e (List.replicate n x):=by
 simp [Qab,cpE,List.flatMap_replicate]
theorem Qwh {fm:Nat->Option Obj} {xs:Array Value} (h:xs.all simple=true):TRv fm (.tuple xs) (.tuple xs):=by
 refine .tuple rfl fun i v v' h1 h2=> ?_
 rw [h1] at h2;cases h2
 exact .simple (Array.all_eq_true'.1 h v (Array.mem_of_getElem? h1))
theorem Qor {P:Program} {F:FuncId->Bool} {J:World->Prop} (hF:∀g,F g=true->Qa6 P g=true) (hmix:P.follows .mixedOrders=true) {g:FuncId} {args:Array Value} {out:Value} {fuel:Nat} (hs:args.all simple=true) (ho:∀fm,TRv fm out out) (ho2:af out=true) (h:QpT (QlQ P F Qbu fuel g args (Qfn 0 []) ([]:List (Array Value×TypeId)).length) out []=true):Qau P J g args out:=fun fm w args' _ _ ha=> by
 have e:args'=args:=by
  refine Array.ext ha.1.symm fun i h1 h2=> ?_
  have k1:args[i]? =some args[i]:=by simp [h2]
  have k2:args'[i]? =some args'[i]:=by simp [h1]
  exact (ha.2 i _ _ k1 k2).simple_eq (Array.all_eq_true'.1 hs _ (Array.getElem_mem h2))
 subst e
 have hc:=QmN hF hmix (at':=[]) (args':=args') h (w:=w) (I:=fun _=> True) (hI:=fun _ _ _ _=> trivial) (QaO _ _) trivial rfl (fun i x a h=> by simp at h) ⟨rfl,fun i v v' h1 h2=> by rw [h1] at h2;cases h2;exact QbH (Array.all_eq_true'.1 hs v (Array.mem_of_getElem? h1))⟩
 refine hc.mono fun e w' ⟨v',n',H',μ',he,hp,hv,hb,hun,hbel⟩=> ⟨out,by rw [he,QiU ho2 hv],hbel,ho _⟩
end Go.CE

namespace Go.Proofs.YtiabgkiccaodmaaGreat
open Go Go.CE Go.RowKit
noncomputable section
set_option maxRecDepth 100000
theorem Q3G:(List.range 301).all (fun x=> QpT (QlQ Tryz.prog (Qa6 Tryz.prog) Qbu 10000 168 #[.int .u64 1,.int .u64 (x:Nat)] (Qfn 0 []) ([]:List (Array Value×TypeId)).length) (.tuple #[.int .u64 0,.int .u64 (x:Nat)]) [])=true:=by decide+kernel
theorem Q5K (s:Int) (h0:0<=s) (h1:s<=300):Qau Tryz.prog J0 168 #[.int .u64 1,.int .u64 s] (.tuple #[.int .u64 0,.int .u64 s]):=by
 obtain ⟨k,rfl⟩:∃k:Nat,s=k:=⟨s.toNat,by omega⟩
 exact Qor okF Qac (fuel:=10000) (by kernel_rfl) (fun _=> Qwh (by kernel_rfl)) (by kernel_rfl) (List.all_eq_true.1 Q3G k (List.mem_range.2 (by omega)))
def Qak (f g:Span->Int) (s:Qaa) (days:Int):Qar:=⟨s.use.map g,List.replicate ((days+g ⟨s.glo,s.ghi⟩ - 1).tdiv (g ⟨s.glo,s.ghi⟩)).toNat (g ⟨s.glo,s.ghi⟩),s.lots.map fun l=> l.goods.map f⟩
theorem Qci {d g:Int} (hd:0<=d/\d<=300) (hg:1<=g):0<=(d+g - 1).tdiv g/\(d+g - 1).tdiv g<=300:=by
 rw [Int.tdiv_eq_ediv_of_nonneg (by omega)]
 refine ⟨Int.ediv_nonneg (by omega) (by omega), ?_⟩
 have h1:d<=d * g:=by
  have:=Int.mul_le_mul_of_nonneg_left hg hd.1
  simpa using this
 have:(d+g - 1) / g < d+1:=Int.ediv_lt_of_lt_mul (by omega) (by rw [Int.add_mul];omega)
 omega
def Qc3 (s:Qaa) (load days:Int):Qaw:=[(5,Obj.cells #[.int .i64 s.ghi] 3),(4,Obj.coro none),(3,Obj.cells #[.slice none 0 0,.slice none 0 0,.slice none 0 0] 65),(2,Obj.cells #[Value.func (Fn.func 104) #[] #[]] 101),(1,Obj.cells #[Qay 0 (slT s.stock.length (Qab Qag s.stock)),Qay 0 (slT s.use.length (Qab Qa3 s.use)),.int .i64 s.glo,.int .i64 s.ghi,Qay 0 (slT s.lots.length (Qab Qao s.lots)),.int .i64 s.hold,.int .i64 load,.int .i64 days] 122),(0,Obj.coro none)]
def QeB (s:Qaa) (load days:Int):CF:=⟨161,ofList 48 [.slice (some {block:=5,off:=0}) 1 1,.int .i64 (Int.tdiv (days+s.ghi - 1) s.ghi)],[Item.code (Qaq Tryz.prog 161)],[],.run,none⟩
def QdK (s:Qaa) (load days:Int) (j:Int) (ys:List Bool):List Value:=[.slice (some {block:=7,off:=0}) (Int.toNat (Int.tdiv (days+s.ghi - 1) s.ghi)) 1,.int .i64 j]
def Qd1 (s:Qaa) (load days:Int) (j:Int) (ys:List Bool):List Obj:=[]
def QbU (s:Qaa) (load days:Int) (j:Int) (ys:List Bool):List Obj:=[.cells (Qab (cpE [.int .i64 s.ghi] [.int .i64 0]) ys) 3 (0,0)]
def QdB:List Item:=([.code [1,1,1,1,1,1,0,0,0],.inLoop [1,1,1,1,1,1,0,0,0],.inBlock 0,.code [1,1,1,1,1,1,1]]).map (it (Qaq Tryz.prog 161))
def QbR (s:Qaa) (load days:Int):Array Value:=#[Qay 0 (slT s.stock.length (Qab Qag s.stock)),Qay 0 (slT s.use.length (Qab Qa3 s.use)),.int .i64 s.glo,.int .i64 s.ghi,Qay 0 (slT s.lots.length (Qab Qao s.lots)),.int .i64 s.hold,.int .i64 load,.int .i64 days]
def Qj5 (s:Qaa) (i:Int):Array Value:=#[Qay 10 (slT (List.length (List.map Span.lo (Qad.goods (s.lots.getD i.toNat default)))) (Qab Qag (List.map Span.lo (Qad.goods (s.lots.getD i.toNat default)))))]
def QjA (s:Qaa) (i:Int):Value:=(Qay 10 (slT (List.length (List.map Span.lo (Qad.goods (s.lots.getD i.toNat default)))) (Qab Qag (List.map Span.lo (Qad.goods (s.lots.getD i.toNat default))))))
theorem QtM (B:Lo) (s:Qaa) (load days:Int) (j:Int) (ys:List Bool) (dJ0:Nat->Value):CE.landA 6 (Qan Tryz.prog (Qa6 Tryz.prog) J0 B 9 6 (Qcs (none) 161 48 (([7,8]:List Nat).zip (QdK s load days j ys)) dJ0 QdB) (Qb9 (Qc3 s load days) 6 (([]:List Nat).zip (Qd1 s load days j ys)) (QbU s load days j ys)) (6+1+(QbU s load days j ys).length)
 [(3,hvT),(7,Qah.eval {out:=OO.ret (.slice (some {block:=7,off:=0+Int.toNat j * 1}) (Int.toNat (Int.tdiv (days+s.ghi - 1) s.ghi) - Int.toNat j) 0),H:=[(6,Obj.coro none),(7,Obj.cells (Qab (cpE [.int .i64 s.ghi] [.int .i64 0]) ys) 3),(5,Obj.cells #[.int .i64 s.ghi] 3),(4,Obj.coro none),(3,Obj.cells #[.slice none 0 0,.slice none 0 0,.slice none 0 0] 65),(2,Obj.cells #[Value.func (Fn.func 104) #[] #[]] 101),(1,Obj.cells (QbR s load days) 122),(0,Obj.coro none)],n:=8,R:=[],W:=[]}),(10,Qah.eval {out:=OO.ret (.slice (some {block:=7,off:=0}) j.toNat 1),H:=[(6,Obj.coro none),(7,Obj.cells (Qab (cpE [.int .i64 s.ghi] [.int .i64 0]) ys) 3),(5,Obj.cells #[.int .i64 s.ghi] 3),(4,Obj.coro none),(3,Obj.cells #[.slice none 0 0,.slice none 0 0,.slice none 0 0] 65),(2,Obj.cells #[Value.func (Fn.func 104) #[] #[]] 101),(1,Obj.cells (QbR s load days) 122),(0,Obj.coro none)],n:=8,R:=[],W:=[]}),(11,Qah.eval {out:=OO.ret (.int .i64 (↑(min j.toNat (Int.toNat (Int.tdiv (days+s.ghi - 1) s.ghi) - Int.toNat j)):Int)),H:=[(6,Obj.coro none),(7,Obj.cells (Qab (cpE [.int .i64 s.ghi] [.int .i64 0]) (QjQ ys j.toNat (List.take (min j.toNat (Int.toNat (Int.tdiv (days+s.ghi - 1) s.ghi) - Int.toNat j)) (List.drop 0 ys)))) 3),(5,Obj.cells #[.int .i64 s.ghi] 3),(4,Obj.coro none),(3,Obj.cells #[.slice none 0 0,.slice none 0 0,.slice none 0 0] 65),(2,Obj.cells #[Value.func (Fn.func 104) #[] #[]] 101),(1,Obj.cells (QbR s load days) 122),(0,Obj.coro none)],n:=8,R:=[7,7],W:=[7]}),(12,hvI (j+(↑(min j.toNat (Int.toNat (Int.tdiv (days+s.ghi - 1) s.ghi) - Int.toNat j)):Int)))] 0 [] []) [7,8] [] [(7,KS.cells [] (Qab (cpE [.int .i64 s.ghi] [.int .i64 0]) (QjQ ys j.toNat (List.take (min j.toNat (Int.toNat (Int.tdiv (days+s.ghi - 1) s.ghi) - Int.toNat j)) (List.drop 0 ys)))))] []=some ⟨161,48,QdB,[],.run,none,QdK s load days (j+(↑(min j.toNat (Int.toNat (Int.tdiv (days+s.ghi - 1) s.ghi) - Int.toNat j)):Int)) (QjQ ys j.toNat (List.take (min j.toNat (Int.toNat (Int.tdiv (days+s.ghi - 1) s.ghi) - Int.toNat j)) (List.drop 0 ys))),([]:List Nat).zip (Qd1 s load days (j+(↑(min j.toNat (Int.toNat (Int.tdiv (days+s.ghi - 1) s.ghi) - Int.toNat j)):Int)) (QjQ ys j.toNat (List.take (min j.toNat (Int.toNat (Int.tdiv (days+s.ghi - 1) s.ghi) - Int.toNat j)) (List.drop 0 ys)))),QbU s load days (j+(↑(min j.toNat (Int.toNat (Int.tdiv (days+s.ghi - 1) s.ghi) - Int.toNat j)):Int)) (QjQ ys j.toNat (List.take (min j.toNat (Int.toNat (Int.tdiv (days+s.ghi - 1) s.ghi) - Int.toNat j)) (List.drop 0 ys))),
 [Qa8 6 [] (Qab (cpE [.int .i64 s.ghi] [.int .i64 0]) (QjQ ys j.toNat (List.take (min j.toNat (Int.toNat (Int.tdiv (days+s.ghi - 1) s.ghi) - Int.toNat j)) (List.drop 0 ys)))) (Qab (cpE [.int .i64 s.ghi] [.int .i64 0]) (QjQ ys j.toNat (List.take (min j.toNat (Int.toNat (Int.tdiv (days+s.ghi - 1) s.ghi) - Int.toNat j)) (List.drop 0 ys)))),wq (j+(↑(min j.toNat (Int.toNat (Int.tdiv (days+s.ghi - 1) s.ghi) - Int.toNat j)):Int))=j+(↑(min j.toNat (Int.toNat (Int.tdiv (days+s.ghi - 1) s.ghi) - Int.toNat j)):Int),opS Tryz.prog (Qa6 Tryz.prog) Qbu (fun x x_1 x_2=> none) {len:=16000,tr:=Tri.set 14 (Tri.set 14 Tri.lf 44 (.slice (some {block:=7,off:=0}) j.toNat 1)) 41 (.slice (some {block:=7,off:=0+Int.toNat j * 1}) (Int.toNat (Int.tdiv (days+s.ghi - 1) s.ghi) - Int.toNat j) 0)} {dst:=some 45,op:=Op.call {callee:=Callee.builtin Builtin.copy,args:=#[Operand.tmp 41,Operand.tmp 44],argTypes:=#[22,22]},type:=3,pos:= "slices.go:528",after:=#[{on:=3,ground:=Ground.data},{on:=6,ground:=Ground.data}],guard:=none} [(6,Obj.coro none),(7,Obj.cells (Qab (cpE [.int .i64 s.ghi] [.int .i64 0]) ys) 3),(5,Obj.cells #[.int .i64 s.ghi] 3),(4,Obj.coro none),(3,Obj.cells #[.slice none 0 0,.slice none 0 0,.slice none 0 0] 65),(2,Obj.cells #[Value.func (Fn.func 104) #[] #[]] 101),(1,Obj.cells (QbR s load days) 122),(0,Obj.coro none)] 8=some {out:=OO.ret (.int .i64 (↑(min j.toNat (Int.toNat (Int.tdiv (days+s.ghi - 1) s.ghi) - Int.toNat j)):Int)),H:=[(6,Obj.coro none),(7,Obj.cells (Qab (cpE [.int .i64 s.ghi] [.int .i64 0]) (QjQ ys j.toNat (List.take (min j.toNat (Int.toNat (Int.tdiv (days+s.ghi - 1) s.ghi) - Int.toNat j)) (List.drop 0 ys)))) 3),(5,Obj.cells #[.int .i64 s.ghi] 3),(4,Obj.coro none),(3,Obj.cells #[.slice none 0 0,.slice none 0 0,.slice none 0 0] 65),(2,Obj.cells #[Value.func (Fn.func 104) #[] #[]] 101),(1,Obj.cells (QbR s load days) 122),(0,Obj.coro none)],n:=8,R:=[7,7],W:=[7]},opS Tryz.prog (Qa6 Tryz.prog) Qbu (fun x x_1 x_2=> none) {len:=16000,tr:=Tri.set 14 (Tri.set 14 Tri.lf 43 (.int .i64 j)) 42 (.slice (some {block:=7,off:=0}) (Int.toNat (Int.tdiv (days+s.ghi - 1) s.ghi)) 1)} {dst:=some 44,op:=Op.slice 22 (Operand.tmp 42) none (some (Operand.tmp 43)) none,type:=22,pos:= "slices.go:528",after:=#[{on:=4,ground:=Ground.data},{on:=5,ground:=Ground.data}],guard:=none} [(6,Obj.coro none),(7,Obj.cells (Qab (cpE [.int .i64 s.ghi] [.int .i64 0]) ys) 3),(5,Obj.cells #[.int .i64 s.ghi] 3),(4,Obj.coro none),(3,Obj.cells #[.slice none 0 0,.slice none 0 0,.slice none 0 0] 65),(2,Obj.cells #[Value.func (Fn.func 104) #[] #[]] 101),(1,Obj.cells (QbR s load days) 122),(0,Obj.coro none)] 8=some {out:=OO.ret (.slice (some {block:=7,off:=0}) j.toNat 1),H:=[(6,Obj.coro none),(7,Obj.cells (Qab (cpE [.int .i64 s.ghi] [.int .i64 0]) ys) 3),(5,Obj.cells #[.int .i64 s.ghi] 3),(4,Obj.coro none),(3,Obj.cells #[.slice none 0 0,.slice none 0 0,.slice none 0 0] 65),(2,Obj.cells #[Value.func (Fn.func 104) #[] #[]] 101),(1,Obj.cells (QbR s load days) 122),(0,Obj.coro none)],n:=8,R:=[],W:=[]},opS Tryz.prog (Qa6 Tryz.prog) Qbu (fun x x_1 x_2=> none) {len:=16000,tr:=Tri.set 14 (Tri.set 14 Tri.lf 40 (.int .i64 j)) 39 (.slice (some {block:=7,off:=0}) (Int.toNat (Int.tdiv (days+s.ghi - 1) s.ghi)) 1)} {dst:=some 41,op:=Op.slice 22 (Operand.tmp 39) (some (Operand.tmp 40)) none none,type:=22,pos:= "slices.go:528",after:=#[{on:=1,ground:=Ground.data},{on:=2,ground:=Ground.data}],guard:=none} [(6,Obj.coro none),(7,Obj.cells (Qab (cpE [.int .i64 s.ghi] [.int .i64 0]) ys) 3),(5,Obj.cells #[.int .i64 s.ghi] 3),(4,Obj.coro none),(3,Obj.cells #[.slice none 0 0,.slice none 0 0,.slice none 0 0] 65),(2,Obj.cells #[Value.func (Fn.func 104) #[] #[]] 101),(1,Obj.cells (QbR s load days) 122),(0,Obj.coro none)] 8=some {out:=OO.ret (.slice (some {block:=7,off:=0+Int.toNat j * 1}) (Int.toNat (Int.tdiv (days+s.ghi - 1) s.ghi) - Int.toNat j) 0),H:=[(6,Obj.coro none),(7,Obj.cells (Qab (cpE [.int .i64 s.ghi] [.int .i64 0]) ys) 3),(5,Obj.cells #[.int .i64 s.ghi] 3),(4,Obj.coro none),(3,Obj.cells #[.slice none 0 0,.slice none 0 0,.slice none 0 0] 65),(2,Obj.cells #[Value.func (Fn.func 104) #[] #[]] 101),(1,Obj.cells (QbR s load days) 122),(0,Obj.coro none)],n:=8,R:=[],W:=[]},ltq j (↑(Int.toNat (Int.tdiv (days+s.ghi - 1) s.ghi)):Int)=true]⟩:=by kernel_rfl
theorem QuD (B:Lo) (s:Qaa) (load days:Int) (j:Int) (ys:List Bool) (dJ0:Nat->Value):CE.finK 6 (Qan Tryz.prog (Qa6 Tryz.prog) J0 B 9 6 (Qcs (none) 161 48 (([7,8]:List Nat).zip (QdK s load days j ys)) dJ0 QdB) (Qb9 (Qc3 s load days) 6 (([]:List Nat).zip (Qd1 s load days j ys)) (QbU s load days j ys)) (6+1+(QbU s load days j ys).length)
 [(3,hvF)] 0 [] []) [] [] [{k:=7,rs:=[],cs:=Qab (cpE [.int .i64 s.ghi] [.int .i64 0]) ys}]=some (OO.ret (Qay 6 (slT (Int.toNat (Int.tdiv (days+s.ghi - 1) s.ghi)) (Fz.cs {k:=7,rs:=[],cs:=Qab (cpE [.int .i64 s.ghi] [.int .i64 0]) ys}))),[],[],
 [QaY (Fz.rs {k:=7,rs:=[],cs:=Qab (cpE [.int .i64 s.ghi] [.int .i64 0]) ys}) (Qab (cpE [.int .i64 s.ghi] [.int .i64 0]) ys) (Fz.cs {k:=7,rs:=[],cs:=Qab (cpE [.int .i64 s.ghi] [.int .i64 0]) ys}),ltq j (↑(Int.toNat (Int.tdiv (days+s.ghi - 1) s.ghi)):Int)=false]):=by kernel_rfl
set_option maxHeartbeats 4000000 in
theorem Qoe (s:Qaa) (load days:Int) (hs:QaD s=true) (hd:0<=days/\days<=300) {B:Lo} (hJ:∀w,B.has w->J0 w):∀m:Nat,(∀(j:Int) (ys:List Bool),(((days+s.ghi - 1).tdiv s.ghi) - j).toNat=m->∀(j0:0<=j) (j1:j<=((days+s.ghi - 1).tdiv s.ghi)) (j2:((days+s.ghi - 1).tdiv s.ghi)=0\/0 < j) (hy:ys=Qgj true false ((days+s.ghi - 1).tdiv s.ghi).toNat j.toNat),(∃dJ0:Nat->Value,(∀t,QaP (dJ0 t))/\GoE Tryz.prog B (QeB s load days) (Qc3 s load days) 6 (Qcs (none) 161 48 (([7,8]:List Nat).zip (QdK s load days j ys)) dJ0 QdB) (Qb9 (Qc3 s load days) 6 (([]:List Nat).zip (Qd1 s load days j ys)) (QbU s load days j ys)) (6+1+(QbU s load days j ys).length) ([]:List Nat))->FinK Tryz.prog B (QeB s load days) (Qc3 s load days) 6 (.ret (Qay 6 (slI (List.replicate ((days+s.ghi - 1).tdiv s.ghi).toNat s.ghi)))) (([]:List Nat).zip ([])) ([]) ([]:List Nat)):=by
 intro m0
 induction m0 using Nat.strongRecOn with
 | _ m0 ih0=>
   intro j ys hm0 j0 j1 j2 hy ⟨dJ0,hdJ0,hg0⟩
   have hgp:=Qa0 hs
   have hst:=Qaj hs
   have hlo:=Qas hs
   have hqf:=Qci (g:=s.ghi) hd (by omega)
   have hgp:=Qa0 hs
   have hqf:=Qci (g:=s.ghi) hd (by omega)
   have hyl:ys.length=((days+s.ghi - 1).tdiv s.ghi).toNat:=by rw [hy];exact Qte (by omega)
   by_cases q0:(j:Int) < ((↑(Int.toNat (Int.tdiv (days+s.ghi - 1) s.ghi)):Int))
   ·
    exact ((ih0 _ (by omega)) (j+(↑(min j.toNat (Int.toNat (Int.tdiv (days+s.ghi - 1) s.ghi) - Int.toNat j)):Int)) (QjQ ys j.toNat (List.take (min j.toNat (Int.toNat (Int.tdiv (days+s.ghi - 1) s.ghi) - Int.toNat j)) (List.drop 0 ys))) rfl (by omega) (by omega) (by omega) (by (subst hy;rw [Qs9 (by omega) (by omega)];congr 1;omega))
     (GoE.landA okF hJ Qac (Qat (by kernel_rfl)) (Qam (by kernel_rfl)) hg0 (QtM B s load days j ys dJ0)
     ⟨(Qaf (Qai (fun x=> List.all_eq_true.1 (by (cases x <;> rfl))))),⟨(QaM (by omega) (by omega)),⟨(Qog (z:=1) rfl rfl rfl rfl rfl rfl rfl rfl rfl rfl (by decide) (by decide) rfl rfl (Qj1 (c:=0) (fun x=> by first | rfl | (cases x <;> rfl)) (fun x=> by first | rfl | (cases x <;> rfl)) (by omega) (by omega))),⟨(QnL (z:=0) rfl rfl rfl rfl rfl (by omega) (by omega)),⟨(Qn0 (z:=0) rfl rfl rfl rfl rfl (by omega) (by omega)),⟨(QaW q0),trivial⟩⟩⟩⟩⟩⟩ (by kernel_rfl) (by kernel_rfl) (fun l hl=> by cases hl <;> decide))).cast (by rfl) (by rfl) (by rfl)
   ·
    exact (GoE.finK okF hJ Qac (Qat (by kernel_rfl)) (Qam (by kernel_rfl)) hg0 (QuD B s load days j ys dJ0)
     ⟨(QaE (fun x=> List.all_eq_true.1 (by (cases x <;> rfl)))),⟨(Qbb (Int.not_lt.1 q0)),trivial⟩⟩).cast (by (have e9:j.toNat=((days+s.ghi - 1).tdiv s.ghi).toNat:=(by omega);rw [hy,e9,Qtc];exact congrArg (fun v=> OO.ret (Qay 6 v)) (by show slT _ (Qab (cpE (Qag s.ghi) [Value.int .i64 0]) (List.replicate _ true))=_;rw [QyC];show slT _ _=slT (List.replicate _ _).length _;rw [List.length_replicate]))) (by rfl) (by rfl)

theorem Qux (B:Lo) (s:Qaa) (load days:Int):CE.landA 6 (Qan Tryz.prog (Qa6 Tryz.prog) J0 B 21 6 (QeB s load days) (Qc3 s load days) 6
 [(2,hvF),(7,Qah.old (Hint.val (Value.int IntKind.u64 (Int.tdiv (days+s.ghi - 1) s.ghi)))),(8,Qah.pure (.tuple #[Value.int IntKind.u64 0,Value.int IntKind.u64 (Int.tdiv (days+s.ghi - 1) s.ghi)]) []),(18,hvF),(21,hvI (Int.tdiv (days+s.ghi - 1) s.ghi)),(22,Qah.old (Hint.mk (Int.toNat (Int.tdiv (days+s.ghi - 1) s.ghi)) (Qab (QbA [.int .i64 0]) (List.replicate (Int.toNat (Int.tdiv (days+s.ghi - 1) s.ghi)) ())))),(26,Qah.eval {out:=OO.ret (.int .i64 (↑(min 1 (Int.toNat (Int.tdiv (days+s.ghi - 1) s.ghi))):Int)),H:=[(6,Obj.cells (Qab (cpE [.int .i64 s.ghi] [.int .i64 0]) (Qgj true false (Int.toNat (Int.tdiv (days+s.ghi - 1) s.ghi)) (min 1 (Int.toNat (Int.tdiv (days+s.ghi - 1) s.ghi))))) 3),(5,Obj.cells #[.int .i64 s.ghi] 3),(4,Obj.coro none),(3,Obj.cells #[.slice none 0 0,.slice none 0 0,.slice none 0 0] 65),(2,Obj.cells #[Value.func (Fn.func 104) #[] #[]] 101),(1,Obj.cells (QbR s load days) 122),(0,Obj.coro none)],n:=7,R:=[6,5],W:=[6]})] 0 [] []) [7,8] [] [(6,KS.cells [] (Qab (cpE [.int .i64 s.ghi] [.int .i64 0]) (Qgj true false (Int.toNat (Int.tdiv (days+s.ghi - 1) s.ghi)) (min 1 (Int.toNat (Int.tdiv (days+s.ghi - 1) s.ghi))))))] []=some ⟨161,48,QdB,[],.run,none,QdK s load days ((↑(min 1 (Int.toNat (Int.tdiv (days+s.ghi - 1) s.ghi))):Int)) (Qgj true false (Int.toNat (Int.tdiv (days+s.ghi - 1) s.ghi)) (min 1 (Int.toNat (Int.tdiv (days+s.ghi - 1) s.ghi)))),([]:List Nat).zip (Qd1 s load days ((↑(min 1 (Int.toNat (Int.tdiv (days+s.ghi - 1) s.ghi))):Int)) (Qgj true false (Int.toNat (Int.tdiv (days+s.ghi - 1) s.ghi)) (min 1 (Int.toNat (Int.tdiv (days+s.ghi - 1) s.ghi))))),QbU s load days ((↑(min 1 (Int.toNat (Int.tdiv (days+s.ghi - 1) s.ghi))):Int)) (Qgj true false (Int.toNat (Int.tdiv (days+s.ghi - 1) s.ghi)) (min 1 (Int.toNat (Int.tdiv (days+s.ghi - 1) s.ghi)))),
 [Qa8 6 [] (Qab (cpE [.int .i64 s.ghi] [.int .i64 0]) (Qgj true false (Int.toNat (Int.tdiv (days+s.ghi - 1) s.ghi)) (min 1 (Int.toNat (Int.tdiv (days+s.ghi - 1) s.ghi))))) (Qab (cpE [.int .i64 s.ghi] [.int .i64 0]) (Qgj true false (Int.toNat (Int.tdiv (days+s.ghi - 1) s.ghi)) (min 1 (Int.toNat (Int.tdiv (days+s.ghi - 1) s.ghi))))),opS Tryz.prog (Qa6 Tryz.prog) Qbu (fun x x_1 x_2=> none) {len:=16000,tr:=Tri.set 14 (Tri.set 14 Tri.lf 32 (.slice (some {block:=5,off:=0}) 1 1)) 31 (.slice (some {block:=6,off:=0}) (Int.toNat (Int.tdiv (days+s.ghi - 1) s.ghi)) 1)} {dst:=some 33,op:=Op.call {callee:=Callee.builtin Builtin.copy,args:=#[Operand.tmp 31,Operand.tmp 32],argTypes:=#[22,22]},type:=3,pos:= "slices.go:526",after:=#[{on:=0,ground:=Ground.data},{on:=1,ground:=Ground.data}],guard:=none} [(6,Obj.cells (Qab (QbA [.int .i64 0]) (List.replicate (Int.toNat (Int.tdiv (days+s.ghi - 1) s.ghi)) ())) 3),(5,Obj.cells #[.int .i64 s.ghi] 3),(4,Obj.coro none),(3,Obj.cells #[.slice none 0 0,.slice none 0 0,.slice none 0 0] 65),(2,Obj.cells #[Value.func (Fn.func 104) #[] #[]] 101),(1,Obj.cells (QbR s load days) 122),(0,Obj.coro none)] 7=some {out:=OO.ret (.int .i64 (↑(min 1 (Int.toNat (Int.tdiv (days+s.ghi - 1) s.ghi))):Int)),H:=[(6,Obj.cells (Qab (cpE [.int .i64 s.ghi] [.int .i64 0]) (Qgj true false (Int.toNat (Int.tdiv (days+s.ghi - 1) s.ghi)) (min 1 (Int.toNat (Int.tdiv (days+s.ghi - 1) s.ghi))))) 3),(5,Obj.cells #[.int .i64 s.ghi] 3),(4,Obj.coro none),(3,Obj.cells #[.slice none 0 0,.slice none 0 0,.slice none 0 0] 65),(2,Obj.cells #[Value.func (Fn.func 104) #[] #[]] 101),(1,Obj.cells (QbR s load days) 122),(0,Obj.coro none)],n:=7,R:=[6,5],W:=[6]},QfR Tryz.prog 22 (Qca {len:=16000,tr:=Tri.set 14 Tri.lf 29 (.int .i64 (Int.tdiv (days+s.ghi - 1) s.ghi))} 29) (Qca {len:=16000,tr:=Tri.set 14 Tri.lf 29 (.int .i64 (Int.tdiv (days+s.ghi - 1) s.ghi))} 29)=some (3,Qab (QbA [.int .i64 0]) (List.replicate (Int.toNat (Int.tdiv (days+s.ghi - 1) s.ghi)) ()),Int.toNat (Int.tdiv (days+s.ghi - 1) s.ghi),TypeInfo.size Tryz.t3),IntKind.wrap .i64 (Int.tdiv (days+s.ghi - 1) s.ghi)=Int.tdiv (days+s.ghi - 1) s.ghi,decide (Int.tdiv (days+s.ghi - 1) s.ghi > 9223372036854775807)=false,QaB []/\Qau Tryz.prog J0 168 #[Value.int IntKind.u64 1,Value.int IntKind.u64 (Int.tdiv (days+s.ghi - 1) s.ghi)] (.tuple #[Value.int IntKind.u64 0,Value.int IntKind.u64 (Int.tdiv (days+s.ghi - 1) s.ghi)]),IntKind.wrap IntKind.u64 (Int.tdiv (days+s.ghi - 1) s.ghi)=Int.tdiv (days+s.ghi - 1) s.ghi,ltq (Int.tdiv (days+s.ghi - 1) s.ghi) 0=false]⟩:=by kernel_rfl
def Qcw (s:Qaa) (load days:Int):Qaw:=[(6,Obj.coro none),(5,Obj.cells #[.int .i64 s.ghi] 3),(4,Obj.coro none),(3,Obj.cells #[.slice none 0 0,.slice none 0 0,.slice none 0 0] 65),(2,Obj.cells #[Value.func (Fn.func 104) #[] #[]] 101),(1,Obj.cells #[Qay 0 (slT s.stock.length (Qab Qag s.stock)),Qay 0 (slT s.use.length (Qab Qa3 s.use)),.int .i64 s.glo,.int .i64 s.ghi,Qay 0 (slT s.lots.length (Qab Qao s.lots)),.int .i64 s.hold,.int .i64 load,.int .i64 days] 122),(0,Obj.coro none)]
def Qe6 (s:Qaa) (load days:Int):CF:=⟨162,ofList 26 [Qay 0 (slT s.lots.length (Qab Qao s.lots)),Value.func (Fn.func 163) #[] #[pA 2 0]],[Item.code (Qaq Tryz.prog 162)],[],.run,none⟩
def Qd7 (s:Qaa) (load days:Int) (i:Int) (zs:List Row):List Value:=[Value.func (Fn.func 163) #[] #[pA 2 0],.slice (some {block:=8,off:=0}) s.lots.length 1,Qay 0 (slT s.lots.length (Qab Qao s.lots)),.int .i64 (↑s.lots.length:Int),.int .i64 i]
def Qd9 (s:Qaa) (load days:Int) (i:Int) (zs:List Row):List Obj:=[]
def QbW (s:Qaa) (load days:Int) (i:Int) (zs:List Row):List Obj:=[.cells (Qab (Qa1 7 Qax) zs) 22 (0,0)]
def Qd0:List Item:=([.code [1,1,0,1,0,0],.inLoop [1,1,0,1,0,0],.inBlock 0,.code [1,1,1]]).map (it (Qaq Tryz.prog 162))
def QfF (s:Qaa) (load days:Int) (i:Int) (zs:List Row) (dJ0:Nat->Value):Qaw:=[(9,Obj.cells #[Qay 0 (slT (List.length (Qad.goods (s.lots.getD i.toNat default))) (Qab Qa3 (Qad.goods (s.lots.getD i.toNat default)))),.int .i64 (Qad.weight (s.lots.getD i.toNat default)),.int .i64 (Qad.cost (s.lots.getD i.toNat default))] 118),(7,Obj.coro none),(8,Obj.cells (Qab (Qa1 7 Qax) zs) 22),(6,Obj.coro none),(5,Obj.cells #[.int .i64 s.ghi] 3),(4,Obj.coro none),(3,Obj.cells #[.slice none 0 0,.slice none 0 0,.slice none 0 0] 65),(2,Obj.cells #[Value.func (Fn.func 104) #[] #[]] 101),(1,Obj.cells #[Qay 0 (slT s.stock.length (Qab Qag s.stock)),Qay 0 (slT s.use.length (Qab Qa3 s.use)),.int .i64 s.glo,.int .i64 s.ghi,Qay 0 (slT s.lots.length (Qab Qao s.lots)),.int .i64 s.hold,.int .i64 load,.int .i64 days] 122),(0,Obj.coro none)]
def Qhs (s:Qaa) (load days:Int) (i:Int) (zs:List Row) (dJ0:Nat->Value):CF:=⟨163,ofList 8 [.agg #[Qay 0 (slT (List.length (Qad.goods (s.lots.getD i.toNat default))) (Qab Qa3 (Qad.goods (s.lots.getD i.toNat default)))),.int .i64 (Qad.weight (s.lots.getD i.toNat default)),.int .i64 (Qad.cost (s.lots.getD i.toNat default))],pA 2 0],[Item.code (Qaq Tryz.prog 163)],[],.run,none⟩
theorem Quq (B:Lo) (s:Qaa) (load days:Int) (i:Int) (zs:List Row) (dJ0:Nat->Value):CE.finK 10 (Qan Tryz.prog (Qa6 Tryz.prog) J0 B 6 10 (Qhs s load days i zs dJ0) (QfF s load days i zs dJ0) 10
 [(5,Qah.pure (slT (List.length (List.map Span.lo (Qad.goods (s.lots.getD i.toNat default)))) (Qab Qag (List.map Span.lo (Qad.goods (s.lots.getD i.toNat default))))) [])] 0 [] []) [] [] []=some (OO.ret (Qay 10 (slT (List.length (List.map Span.lo (Qad.goods (s.lots.getD i.toNat default)))) (Qab Qag (List.map Span.lo (Qad.goods (s.lots.getD i.toNat default)))))),[],[],
 [QaB []/\Qau Tryz.prog J0 160 #[slT (List.length (Qad.goods (s.lots.getD i.toNat default))) (Qab Qa3 (Qad.goods (s.lots.getD i.toNat default))),Value.func (Fn.func 104) #[] #[]] (slT (List.length (List.map Span.lo (Qad.goods (s.lots.getD i.toNat default)))) (Qab Qag (List.map Span.lo (Qad.goods (s.lots.getD i.toNat default)))))]):=by kernel_rfl
theorem QtI (B:Lo) (s:Qaa) (load days:Int) (i:Int) (zs:List Row) (dJ0:Nat->Value):CE.landA 7 (Qan Tryz.prog (Qa6 Tryz.prog) J0 B 13 7 (Qcs (none) 162 26 (([1,5,11,12,13]:List Nat).zip (Qd7 s load days i zs)) dJ0 Qd0) (Qb9 (Qcw s load days) 7 (([]:List Nat).zip (Qd9 s load days i zs)) (QbW s load days i zs)) (7+1+(QbW s load days i zs).length)
 [(0,hvT),(2,Qah.tidx i.toNat #[slT (List.length (Qad.goods (s.lots.getD i.toNat default))) (Qab Qa3 (Qad.goods (s.lots.getD i.toNat default))),.int .i64 (Qad.weight (s.lots.getD i.toNat default)),.int .i64 (Qad.cost (s.lots.getD i.toNat default))]),(11,Qah.call (List.range 10) (OO.ret (QjA s i)) ([]++(10,Qb1)::QaS 11 []) 11 []),(12,Qah.old (Hint.idx i.toNat)),(13,Qah.old (Hint.st (splice (Qab (Qa1 7 Qax) zs) (0+Int.toNat i * 1) (Qj5 s i)))),(14,hvI (i+1))] 0 [] []) [1,5,11,12,13] [] [(8,KS.rows [(7,7),(10,7)] [] (Qab (Qa1 7 Qax) (List.set zs i.toNat (List.map Span.lo (Qad.goods (s.lots.getD i.toNat default))))))] []=some ⟨162,26,Qd0,[],.run,none,Qd7 s load days (i+1) (List.set zs i.toNat (List.map Span.lo (Qad.goods (s.lots.getD i.toNat default)))),([]:List Nat).zip (Qd9 s load days (i+1) (List.set zs i.toNat (List.map Span.lo (Qad.goods (s.lots.getD i.toNat default))))),QbW s load days (i+1) (List.set zs i.toNat (List.map Span.lo (Qad.goods (s.lots.getD i.toNat default)))),
 [QaQ 7 [(7,7),(10,7)] [] (splice (Qab (Qa1 7 Qax) zs) (0+Int.toNat i * 1) (Qj5 s i)) (Qab (Qa1 7 Qax) (List.set zs i.toNat (List.map Span.lo (Qad.goods (s.lots.getD i.toNat default))))),wq (i+1)=i+1,0+Int.toNat i * 1+TypeInfo.size Tryz.t22<=Array.size (Qab (Qa1 7 Qax) zs)/\splice (Qab (Qa1 7 Qax) zs) (0+Int.toNat i * 1) (Value.cells (Qca {len:=16000,tr:=Tri.set 14 (Tri.set 14 Tri.lf 22 (QjA s i)) 23 (.pointer (some {block:=8,off:=0+Int.toNat i * 1}))} 22))=splice (Qab (Qa1 7 Qax) zs) (0+Int.toNat i * 1) (Qj5 s i),i=(↑i.toNat:Int)/\Int.toNat i < List.length s.lots,FJ Tryz.prog B (Qhs s load days i zs dJ0) (QfF s load days i zs dJ0) 10 (OO.ret (QjA s i)) (([]++((10,Qb1)::QaS (10+1) []))++QfF s load days i zs dJ0) 11 (List.range 10) [],i=(↑i.toNat:Int)/\Int.toNat i < List.length s.lots/\Array.extract (Qab Qao s.lots) (Int.toNat i * TypeInfo.size Tryz.t118) (Int.toNat i * TypeInfo.size Tryz.t118+TypeInfo.size Tryz.t118)=#[slT (List.length (Qad.goods (s.lots.getD i.toNat default))) (Qab Qa3 (Qad.goods (s.lots.getD i.toNat default))),.int .i64 (Qad.weight (s.lots.getD i.toNat default)),.int .i64 (Qad.cost (s.lots.getD i.toNat default))],ltq i (↑s.lots.length:Int)=true]⟩:=by kernel_rfl
theorem Que (B:Lo) (s:Qaa) (load days:Int) (i:Int) (zs:List Row) (dJ0:Nat->Value):CE.finK 7 (Qan Tryz.prog (Qa6 Tryz.prog) J0 B 9 7 (Qcs (none) 162 26 (([1,5,11,12,13]:List Nat).zip (Qd7 s load days i zs)) dJ0 Qd0) (Qb9 (Qcw s load days) 7 (([]:List Nat).zip (Qd9 s load days i zs)) (QbW s load days i zs)) (7+1+(QbW s load days i zs).length)
 [(0,hvF)] 0 [] []) [] [] [{k:=8,rs:=[7],cs:=Qab Qax zs}]=some (OO.ret (Qay 7 (slT s.lots.length (Fz.cs {k:=8,rs:=[7],cs:=Qab Qax zs}))),[],[],
 [QaY (Fz.rs {k:=8,rs:=[7],cs:=Qab Qax zs}) (Qab (Qa1 7 Qax) zs) (Fz.cs {k:=8,rs:=[7],cs:=Qab Qax zs}),ltq i (↑s.lots.length:Int)=false]):=by kernel_rfl
set_option maxHeartbeats 4000000 in
theorem Qoc (s:Qaa) (load days:Int) (hs:QaD s=true) (hd:0<=days/\days<=300) (q0:¬((Int.tdiv (days+s.ghi - 1) s.ghi:Int) < (0))) (q1:(decide (Int.tdiv (days+s.ghi - 1) s.ghi > 9223372036854775807))=false) {B:Lo} (hJ:∀w,B.has w->J0 w):∀m:Nat,(∀(i:Int) (zs:List Row),s.lots.length - i.toNat=m->∀(i0:0<=i) (hz:zs=Qgp (fun (l:Qad)=> (l.goods.map Span.lo:Row)) [] s.lots i),(∃dJ0:Nat->Value,(∀t,QaP (dJ0 t))/\GoE Tryz.prog B (Qe6 s load days) (Qcw s load days) 7 (Qcs (none) 162 26 (([1,5,11,12,13]:List Nat).zip (Qd7 s load days i zs)) dJ0 Qd0) (Qb9 (Qcw s load days) 7 (([]:List Nat).zip (Qd9 s load days i zs)) (QbW s load days i zs)) (7+1+(QbW s load days i zs).length) ([]:List Nat))->FinK Tryz.prog B (Qe6 s load days) (Qcw s load days) 7 (.ret (Qay 7 (slR (s.lots.map (fun (l:Qad)=> (l.goods.map Span.lo:Row)))))) (([]:List Nat).zip ([])) ([]) ([]:List Nat)):=by
 intro m0
 induction m0 using Nat.strongRecOn with
 | _ m0 ih0=>
   intro i zs hm0 i0 hz ⟨dJ0,hdJ0,hg0⟩
   have hgp:=Qa0 hs
   have hst:=Qaj hs
   have hlo:=Qas hs
   have hqf:=Qci (g:=s.ghi) hd (by omega)
   have hlo:=Qas hs
   have hst:=Qaj hs
   have hzl:zs.length=s.lots.length:=by rw [hz];exact QdD
   by_cases q2:(i:Int) < ((↑s.lots.length:Int))
   ·
    have rj2:FJ Tryz.prog B (Qhs s load days i zs dJ0) (QfF s load days i zs dJ0) 10 (OO.ret (Qay 10 (slT (List.length (List.map Span.lo (Qad.goods (s.lots.getD i.toNat default)))) (Qab Qag (List.map Span.lo (Qad.goods (s.lots.getD i.toNat default))))))) (([]++((10,Qb1)::QaS (10+1) []))++QfF s load days i zs dJ0) 11 (List.range 10) []:=by
     have hgl:(s.lots.getD i.toNat default).goods.length<=4:=by have:=hlo.2 _ (QaI i0 (by assumption));simp only [Qnu,Bool.and_eq_true,decide_eq_true_iff] at this;omega
     exact FinK.fjB (GoE.finK okF hJ Qac (Qat (by kernel_rfl)) (Qam (by kernel_rfl)) ((GoE.refl (P:=Tryz.prog) (B:=B) (c0:=Qhs s load days i zs dJ0) (Qat (by kernel_rfl))).widen (Wf:=((([]):List (Nat×KS)).map (·.1))) (by simp) (Qam (by kernel_rfl))) (Quq B s load days i zs dJ0)
      ⟨⟨trivial,QxE (Qad.goods (s.lots.getD i.toNat default)) (by omega)⟩,trivial⟩) (ex:=[8]) (by kernel_rfl) ⟨trivial,⟨trivial,⟨(QeG (t:=22) (fl:=(0,0)) (QaK (fun _=> rfl)) (by decide)),⟨trivial,⟨trivial,⟨trivial,⟨trivial,⟨trivial,⟨trivial,⟨trivial,trivial⟩⟩⟩⟩⟩⟩⟩⟩⟩⟩
    have hgl:(s.lots.getD i.toNat default).goods.length<=4:=by have:=hlo.2 _ (QaI i0 (by assumption));simp only [Qnu,Bool.and_eq_true,decide_eq_true_iff] at this;omega
    exact ((ih0 _ (by omega)) (i+1) (List.set zs i.toNat (List.map Span.lo (Qad.goods (s.lots.getD i.toNat default)))) rfl (by omega) (by (subst hz;exact QdJ (f:=(fun (l:Qad)=> (l.goods.map Span.lo:Row))) i0 (by assumption)))
     (GoE.landA okF hJ Qac (Qat (by kernel_rfl)) (Qam (by kernel_rfl)) hg0 (QtI B s load days i zs dJ0)
     ⟨(by exact (QhK (z:=1) (fun _=> rfl) (QaC (QaK (fun _=> rfl)) (List.Mem.head _)) (by omega) (by exact ⟨(.reg (List.Mem.tail _ (List.Mem.head _)) rfl),trivial⟩))),⟨(QaM (by omega) (by omega)),⟨⟨(by exact Qs3 (z:=1) (fun _=> rfl) (by omega)),rfl⟩,⟨⟨by omega,by omega⟩,⟨rj2,⟨⟨by omega,by omega,(Qae (z:=3) (fun _=> rfl) (by omega))⟩,⟨(QaW q2),trivial⟩⟩⟩⟩⟩⟩⟩ (by kernel_rfl) (by kernel_rfl) (fun l hl=> by cases hl <;> decide))).cast (by rfl) (by rfl) (by rfl)
   ·
    exact (GoE.finK okF hJ Qac (Qat (by kernel_rfl)) (Qam (by kernel_rfl)) hg0 (Que B s load days i zs dJ0)
     ⟨(QbV (QaK (fun _=> rfl)) (List.Mem.head _)),⟨(Qbb (Int.not_lt.1 q2)),trivial⟩⟩).cast (by exact congrArg (fun v=> OO.ret (Qay 7 v)) (Qfp (hz.trans (QdC (by omega))) (by simp))) (by rfl) (by rfl)

theorem Quv (B:Lo) (s:Qaa) (load days:Int):CE.landA 7 (Qan Tryz.prog (Qa6 Tryz.prog) J0 B 9 7 (Qe6 s load days) (Qcw s load days) 7
 [(3,Qah.old (Hint.mk s.lots.length (Qab (QbA [.slice none 0 0]) (List.replicate s.lots.length ()))))] 0 [] []) [1,5,11,12,13] [] [(7,KS.rows [] [] (Qab (Qa1 7 Qax) (List.replicate s.lots.length [])))] []=some ⟨162,26,Qd0,[],.run,none,Qd7 s load days (0) (List.replicate s.lots.length []),([]:List Nat).zip (Qd9 s load days (0) (List.replicate s.lots.length [])),QbW s load days (0) (List.replicate s.lots.length []),
 [QaQ 7 [] [] (Qab (QbA [.slice none 0 0]) (List.replicate s.lots.length ())) (Qab (Qa1 7 Qax) (List.replicate s.lots.length [])),QfR Tryz.prog 63 (Qca {len:=16000,tr:=Tri.set 14 Tri.lf 9 (.int .i64 (↑s.lots.length:Int))} 9) (Qca {len:=16000,tr:=Tri.set 14 Tri.lf 9 (.int .i64 (↑s.lots.length:Int))} 9)=some (22,Qab (QbA [.slice none 0 0]) (List.replicate s.lots.length ()),List.length s.lots,TypeInfo.size Tryz.t22)]⟩:=by kernel_rfl
theorem Qva (B:Lo) (s:Qaa) (load days:Int):Qbe (Qan Tryz.prog (Qa6 Tryz.prog) J0 B 8 1 (Qal Tryz.prog 150 31 (([.agg (QaH s load days).toArray,.func (.func 104) #[] #[],.func (.func 103) #[] #[]]).map (Qav 0 4))) H00 1
 [(7,Qah.pure (.int .i64 s.ghi) []),(13,Qah.pure (slT (List.length (List.map Span.hi s.use)) (Qab Qag (List.map Span.hi s.use))) []),(19,Qah.pure (.int .i64 (Int.tdiv (days+s.ghi - 1) s.ghi)) []),(20,Qah.call (List.range 6) (OO.ret (Qay 6 (slT (List.length (List.replicate (Int.toNat (Int.tdiv (days+s.ghi - 1) s.ghi)) s.ghi)) (Qab Qag (List.replicate (Int.toNat (Int.tdiv (days+s.ghi - 1) s.ghi)) s.ghi))))) ([]++(6,Qb1)::QaS 7 []) 7 []),(25,Qah.call (List.range 7) (OO.ret (Qay 7 (slT (List.length (List.map (fun l=> List.map Span.lo l.goods) s.lots)) (Qab Qax (List.map (fun l=> List.map Span.lo l.goods) s.lots))))) ([]++(7,Qb1)::QaS 8 []) 8 [])] 0 [] []) []=some (.agg #[slT (List.length (List.map Span.hi s.use)) (Qab Qag (List.map Span.hi s.use)),slT (List.length (List.replicate (Int.toNat (Int.tdiv (days+s.ghi - 1) s.ghi)) s.ghi)) (Qab Qag (List.replicate (Int.toNat (Int.tdiv (days+s.ghi - 1) s.ghi)) s.ghi)),slT (List.length (List.map (fun l=> List.map Span.lo l.goods) s.lots)) (Qab Qax (List.map (fun l=> List.map Span.lo l.goods) s.lots))],
 [FJ Tryz.prog B (Qe6 s load days) (Qcw s load days) 7 (OO.ret (Qay 7 (slT (List.length (List.map (fun l=> List.map Span.lo l.goods) s.lots)) (Qab Qax (List.map (fun l=> List.map Span.lo l.goods) s.lots))))) (([]++((7,Qb1)::QaS (7+1) []))++Qcw s load days) 8 (List.range 7) [],FJ Tryz.prog B (QeB s load days) (Qc3 s load days) 6 (OO.ret (Qay 6 (slT (List.length (List.replicate (Int.toNat (Int.tdiv (days+s.ghi - 1) s.ghi)) s.ghi)) (Qab Qag (List.replicate (Int.toNat (Int.tdiv (days+s.ghi - 1) s.ghi)) s.ghi))))) (([]++((6,Qb1)::QaS (6+1) []))++Qc3 s load days) 7 (List.range 6) [],QaB []/\Qau Tryz.prog J0 132 #[.int .i64 days,.int .i64 s.ghi] (.int .i64 (Int.tdiv (days+s.ghi - 1) s.ghi)),QaB []/\Qau Tryz.prog J0 160 #[slT s.use.length (Qab Qa3 s.use),Value.func (Fn.func 103) #[] #[]] (slT (List.length (List.map Span.hi s.use)) (Qab Qag (List.map Span.hi s.use))),QaB []/\Qau Tryz.prog J0 103 #[.agg #[.int .i64 s.glo,.int .i64 s.ghi]] (.int .i64 s.ghi)]):=by kernel_rfl
set_option maxHeartbeats 4000000 in
theorem Qzp (s:Qaa) (load days:Int) (hs:QaD s=true) (hd:0<=days/\days<=300) {B:Lo} (hJ:∀w,B.has w->J0 w):EndsT Tryz.prog B (Qal Tryz.prog 150 31 (([.agg (QaH s load days).toArray,.func (.func 104) #[] #[],.func (.func 103) #[] #[]]).map (Qav 0 4))) (.agg (QaA (Qak Span.lo Span.hi s days)).toArray):=by
 have hgp:=Qa0 hs
 have hst:=Qaj hs
 have hlo:=Qas hs
 have hqf:=Qci (g:=s.ghi) hd (by omega)
 by_cases q0:(Int.tdiv (days+s.ghi - 1) s.ghi:Int) < (0)
 ·
  exfalso
  (have hgp:=Qa0 hs;have hqf:=Qci (g:=s.ghi) hd (by omega);omega)
 ·
  cases q1:decide (Int.tdiv (days+s.ghi - 1) s.ghi > 9223372036854775807) with
  | true=>
    exfalso
    (have hgp:=Qa0 hs;have hqf:=Qci (g:=s.ghi) hd (by omega);have q9:=of_decide_eq_true q1;omega)
  | false=>
    have rj0:FJ Tryz.prog B (QeB s load days) (Qc3 s load days) 6 (OO.ret (Qay 6 (slT (List.length (List.replicate (Int.toNat (Int.tdiv (days+s.ghi - 1) s.ghi)) s.ghi)) (Qab Qag (List.replicate (Int.toNat (Int.tdiv (days+s.ghi - 1) s.ghi)) s.ghi))))) (([]++((6,Qb1)::QaS (6+1) []))++Qc3 s load days) 7 (List.range 6) []:=by
     exact FinK.fjB ((Qoe s load days hs hd hJ _) ((↑(min 1 (Int.toNat (Int.tdiv (days+s.ghi - 1) s.ghi))):Int)) (Qgj true false (Int.toNat (Int.tdiv (days+s.ghi - 1) s.ghi)) (min 1 (Int.toNat (Int.tdiv (days+s.ghi - 1) s.ghi)))) rfl (by omega) (by omega) (by omega) (by (rw [Int.toNat_natCast]))
      (GoE.landA okF hJ Qac (Qat (by kernel_rfl)) (Qam (by kernel_rfl)) ((GoE.refl (P:=Tryz.prog) (B:=B) (c0:=QeB s load days) (Qat (by kernel_rfl))).widen (Wf:=((([]):List (Nat×KS)).map (·.1))) (by simp) (Qam (by kernel_rfl))) (Qux B s load days)
      ⟨(Qaf (Qai (fun x=> List.all_eq_true.1 (by (cases x <;> rfl))))),⟨(Qog (z:=1) rfl rfl rfl rfl rfl rfl rfl rfl rfl rfl (by decide) (by decide) rfl rfl (QpQ rfl rfl rfl rfl rfl)),⟨(Qgo (bytes:=8) (by kernel_rfl) (by omega) (by omega) (by omega)),⟨(QhQ (by omega) (by omega)),⟨q1,⟨⟨trivial,Q5K (Int.tdiv (days+s.ghi - 1) s.ghi) (by omega) (by omega)⟩,⟨(IntWalk.u64_in _ ⟨by omega,by omega⟩),⟨(Qbb (Int.not_lt.1 q0)),trivial⟩⟩⟩⟩⟩⟩⟩⟩ (by kernel_rfl) (by kernel_rfl) (fun l hl=> by cases hl <;> decide))) (ex:=[]) (by kernel_rfl) (QbB _)
    have rj1:FJ Tryz.prog B (Qe6 s load days) (Qcw s load days) 7 (OO.ret (Qay 7 (slT (List.length (List.map (fun l=> List.map Span.lo l.goods) s.lots)) (Qab Qax (List.map (fun l=> List.map Span.lo l.goods) s.lots))))) (([]++((7,Qb1)::QaS (7+1) []))++Qcw s load days) 8 (List.range 7) []:=by
     exact FinK.fjB ((Qoc s load days hs hd q0 q1 hJ _) (0) (List.replicate s.lots.length []) rfl (by omega) (by exact QfL)
      (GoE.landA okF hJ Qac (Qat (by kernel_rfl)) (Qam (by kernel_rfl)) ((GoE.refl (P:=Tryz.prog) (B:=B) (c0:=Qe6 s load days) (Qat (by kernel_rfl))).widen (Wf:=((([]):List (Nat×KS)).map (·.1))) (by simp) (Qam (by kernel_rfl))) (Quv B s load days)
      ⟨(by exact (QbK (by exact ⟨.nil,trivial⟩) _)),⟨(Qgo (bytes:=24) (by kernel_rfl) (by omega) (by omega) (by omega)),trivial⟩⟩ (by kernel_rfl) (by kernel_rfl) (fun l hl=> by cases hl <;> decide))) (ex:=[]) (by kernel_rfl) (QbB _)
    exact (GoE.endsT okF hJ Qac GoE.start (Qva B s load days)
     ⟨rj1,⟨rj0,⟨⟨trivial,Qvu (days) s.ghi (by omega) (by omega)⟩,⟨⟨trivial,QwV s.use (by omega)⟩,⟨⟨trivial,Q3U s.glo s.ghi⟩,trivial⟩⟩⟩⟩⟩).cast (by rfl)
theorem Q3v (s:Qaa) (load days:Int) (hs:QaD s=true) (hd:0<=days/\days<=300):Qau Tryz.prog J0 150 #[.agg (QaH s load days).toArray,.func (.func 104) #[] #[],.func (.func 103) #[] #[]] (.agg (QaA (Qak Span.lo Span.hi s days)).toArray):=
 QaF (ts:=[.agg (QaH s load days).toArray,.func (.func 104) #[] #[],.func (.func 103) #[] #[]]) Qbw (c0:=Qal Tryz.prog 150 31 (([.agg (QaH s load days).toArray,.func (.func 104) #[] #[],.func (.func 103) #[] #[]]).map (Qav 0 4))) (by kernel_rfl) (by kernel_rfl) fun B hJ=> Qzp s load days hs hd hJ
def Qc0 (s:Qaa) (load days:Int):Qaw:=[(5,Obj.cells #[.int .i64 s.glo] 3),(4,Obj.coro none),(3,Obj.cells #[.slice none 0 0,.slice none 0 0,.slice none 0 0] 65),(2,Obj.cells #[Value.func (Fn.func 103) #[] #[]] 101),(1,Obj.cells #[Qay 0 (slT s.stock.length (Qab Qag s.stock)),Qay 0 (slT s.use.length (Qab Qa3 s.use)),.int .i64 s.glo,.int .i64 s.ghi,Qay 0 (slT s.lots.length (Qab Qao s.lots)),.int .i64 s.hold,.int .i64 load,.int .i64 days] 122),(0,Obj.coro none)]
def QeE (s:Qaa) (load days:Int):CF:=⟨161,ofList 48 [.slice (some {block:=5,off:=0}) 1 1,.int .i64 (Int.tdiv (days+s.glo - 1) s.glo)],[Item.code (Qaq Tryz.prog 161)],[],.run,none⟩
def Qdz (s:Qaa) (load days:Int) (j:Int) (ys:List Bool):List Value:=[.slice (some {block:=7,off:=0}) (Int.toNat (Int.tdiv (days+s.glo - 1) s.glo)) 1,.int .i64 j]
def Qd4 (s:Qaa) (load days:Int) (j:Int) (ys:List Bool):List Obj:=[]
def QbX (s:Qaa) (load days:Int) (j:Int) (ys:List Bool):List Obj:=[.cells (Qab (cpE [.int .i64 s.glo] [.int .i64 0]) ys) 3 (0,0)]
def QdA:List Item:=([.code [1,1,1,1,1,1,0,0,0],.inLoop [1,1,1,1,1,1,0,0,0],.inBlock 0,.code [1,1,1,1,1,1,1]]).map (it (Qaq Tryz.prog 161))
def QbP (s:Qaa) (load days:Int):Array Value:=#[Qay 0 (slT s.stock.length (Qab Qag s.stock)),Qay 0 (slT s.use.length (Qab Qa3 s.use)),.int .i64 s.glo,.int .i64 s.ghi,Qay 0 (slT s.lots.length (Qab Qao s.lots)),.int .i64 s.hold,.int .i64 load,.int .i64 days]
def Qjn (s:Qaa) (i:Int):Array Value:=#[Qay 10 (slT (List.length (List.map Span.hi (Qad.goods (s.lots.getD i.toNat default)))) (Qab Qag (List.map Span.hi (Qad.goods (s.lots.getD i.toNat default)))))]
def Qjl (s:Qaa) (i:Int):Value:=(Qay 10 (slT (List.length (List.map Span.hi (Qad.goods (s.lots.getD i.toNat default)))) (Qab Qag (List.map Span.hi (Qad.goods (s.lots.getD i.toNat default))))))
theorem QuQ (B:Lo) (s:Qaa) (load days:Int) (j:Int) (ys:List Bool) (dJ0:Nat->Value):CE.landA 6 (Qan Tryz.prog (Qa6 Tryz.prog) J0 B 9 6 (Qcs (none) 161 48 (([7,8]:List Nat).zip (Qdz s load days j ys)) dJ0 QdA) (Qb9 (Qc0 s load days) 6 (([]:List Nat).zip (Qd4 s load days j ys)) (QbX s load days j ys)) (6+1+(QbX s load days j ys).length)
 [(3,hvT),(7,Qah.eval {out:=OO.ret (.slice (some {block:=7,off:=0+Int.toNat j * 1}) (Int.toNat (Int.tdiv (days+s.glo - 1) s.glo) - Int.toNat j) 0),H:=[(6,Obj.coro none),(7,Obj.cells (Qab (cpE [.int .i64 s.glo] [.int .i64 0]) ys) 3),(5,Obj.cells #[.int .i64 s.glo] 3),(4,Obj.coro none),(3,Obj.cells #[.slice none 0 0,.slice none 0 0,.slice none 0 0] 65),(2,Obj.cells #[Value.func (Fn.func 103) #[] #[]] 101),(1,Obj.cells (QbP s load days) 122),(0,Obj.coro none)],n:=8,R:=[],W:=[]}),(10,Qah.eval {out:=OO.ret (.slice (some {block:=7,off:=0}) j.toNat 1),H:=[(6,Obj.coro none),(7,Obj.cells (Qab (cpE [.int .i64 s.glo] [.int .i64 0]) ys) 3),(5,Obj.cells #[.int .i64 s.glo] 3),(4,Obj.coro none),(3,Obj.cells #[.slice none 0 0,.slice none 0 0,.slice none 0 0] 65),(2,Obj.cells #[Value.func (Fn.func 103) #[] #[]] 101),(1,Obj.cells (QbP s load days) 122),(0,Obj.coro none)],n:=8,R:=[],W:=[]}),(11,Qah.eval {out:=OO.ret (.int .i64 (↑(min j.toNat (Int.toNat (Int.tdiv (days+s.glo - 1) s.glo) - Int.toNat j)):Int)),H:=[(6,Obj.coro none),(7,Obj.cells (Qab (cpE [.int .i64 s.glo] [.int .i64 0]) (QjQ ys j.toNat (List.take (min j.toNat (Int.toNat (Int.tdiv (days+s.glo - 1) s.glo) - Int.toNat j)) (List.drop 0 ys)))) 3),(5,Obj.cells #[.int .i64 s.glo] 3),(4,Obj.coro none),(3,Obj.cells #[.slice none 0 0,.slice none 0 0,.slice none 0 0] 65),(2,Obj.cells #[Value.func (Fn.func 103) #[] #[]] 101),(1,Obj.cells (QbP s load days) 122),(0,Obj.coro none)],n:=8,R:=[7,7],W:=[7]}),(12,hvI (j+(↑(min j.toNat (Int.toNat (Int.tdiv (days+s.glo - 1) s.glo) - Int.toNat j)):Int)))] 0 [] []) [7,8] [] [(7,KS.cells [] (Qab (cpE [.int .i64 s.glo] [.int .i64 0]) (QjQ ys j.toNat (List.take (min j.toNat (Int.toNat (Int.tdiv (days+s.glo - 1) s.glo) - Int.toNat j)) (List.drop 0 ys)))))] []=some ⟨161,48,QdA,[],.run,none,Qdz s load days (j+(↑(min j.toNat (Int.toNat (Int.tdiv (days+s.glo - 1) s.glo) - Int.toNat j)):Int)) (QjQ ys j.toNat (List.take (min j.toNat (Int.toNat (Int.tdiv (days+s.glo - 1) s.glo) - Int.toNat j)) (List.drop 0 ys))),([]:List Nat).zip (Qd4 s load days (j+(↑(min j.toNat (Int.toNat (Int.tdiv (days+s.glo - 1) s.glo) - Int.toNat j)):Int)) (QjQ ys j.toNat (List.take (min j.toNat (Int.toNat (Int.tdiv (days+s.glo - 1) s.glo) - Int.toNat j)) (List.drop 0 ys)))),QbX s load days (j+(↑(min j.toNat (Int.toNat (Int.tdiv (days+s.glo - 1) s.glo) - Int.toNat j)):Int)) (QjQ ys j.toNat (List.take (min j.toNat (Int.toNat (Int.tdiv (days+s.glo - 1) s.glo) - Int.toNat j)) (List.drop 0 ys))),
 [Qa8 6 [] (Qab (cpE [.int .i64 s.glo] [.int .i64 0]) (QjQ ys j.toNat (List.take (min j.toNat (Int.toNat (Int.tdiv (days+s.glo - 1) s.glo) - Int.toNat j)) (List.drop 0 ys)))) (Qab (cpE [.int .i64 s.glo] [.int .i64 0]) (QjQ ys j.toNat (List.take (min j.toNat (Int.toNat (Int.tdiv (days+s.glo - 1) s.glo) - Int.toNat j)) (List.drop 0 ys)))),wq (j+(↑(min j.toNat (Int.toNat (Int.tdiv (days+s.glo - 1) s.glo) - Int.toNat j)):Int))=j+(↑(min j.toNat (Int.toNat (Int.tdiv (days+s.glo - 1) s.glo) - Int.toNat j)):Int),opS Tryz.prog (Qa6 Tryz.prog) Qbu (fun x x_1 x_2=> none) {len:=16000,tr:=Tri.set 14 (Tri.set 14 Tri.lf 44 (.slice (some {block:=7,off:=0}) j.toNat 1)) 41 (.slice (some {block:=7,off:=0+Int.toNat j * 1}) (Int.toNat (Int.tdiv (days+s.glo - 1) s.glo) - Int.toNat j) 0)} {dst:=some 45,op:=Op.call {callee:=Callee.builtin Builtin.copy,args:=#[Operand.tmp 41,Operand.tmp 44],argTypes:=#[22,22]},type:=3,pos:= "slices.go:528",after:=#[{on:=3,ground:=Ground.data},{on:=6,ground:=Ground.data}],guard:=none} [(6,Obj.coro none),(7,Obj.cells (Qab (cpE [.int .i64 s.glo] [.int .i64 0]) ys) 3),(5,Obj.cells #[.int .i64 s.glo] 3),(4,Obj.coro none),(3,Obj.cells #[.slice none 0 0,.slice none 0 0,.slice none 0 0] 65),(2,Obj.cells #[Value.func (Fn.func 103) #[] #[]] 101),(1,Obj.cells (QbP s load days) 122),(0,Obj.coro none)] 8=some {out:=OO.ret (.int .i64 (↑(min j.toNat (Int.toNat (Int.tdiv (days+s.glo - 1) s.glo) - Int.toNat j)):Int)),H:=[(6,Obj.coro none),(7,Obj.cells (Qab (cpE [.int .i64 s.glo] [.int .i64 0]) (QjQ ys j.toNat (List.take (min j.toNat (Int.toNat (Int.tdiv (days+s.glo - 1) s.glo) - Int.toNat j)) (List.drop 0 ys)))) 3),(5,Obj.cells #[.int .i64 s.glo] 3),(4,Obj.coro none),(3,Obj.cells #[.slice none 0 0,.slice none 0 0,.slice none 0 0] 65),(2,Obj.cells #[Value.func (Fn.func 103) #[] #[]] 101),(1,Obj.cells (QbP s load days) 122),(0,Obj.coro none)],n:=8,R:=[7,7],W:=[7]},opS Tryz.prog (Qa6 Tryz.prog) Qbu (fun x x_1 x_2=> none) {len:=16000,tr:=Tri.set 14 (Tri.set 14 Tri.lf 43 (.int .i64 j)) 42 (.slice (some {block:=7,off:=0}) (Int.toNat (Int.tdiv (days+s.glo - 1) s.glo)) 1)} {dst:=some 44,op:=Op.slice 22 (Operand.tmp 42) none (some (Operand.tmp 43)) none,type:=22,pos:= "slices.go:528",after:=#[{on:=4,ground:=Ground.data},{on:=5,ground:=Ground.data}],guard:=none} [(6,Obj.coro none),(7,Obj.cells (Qab (cpE [.int .i64 s.glo] [.int .i64 0]) ys) 3),(5,Obj.cells #[.int .i64 s.glo] 3),(4,Obj.coro none),(3,Obj.cells #[.slice none 0 0,.slice none 0 0,.slice none 0 0] 65),(2,Obj.cells #[Value.func (Fn.func 103) #[] #[]] 101),(1,Obj.cells (QbP s load days) 122),(0,Obj.coro none)] 8=some {out:=OO.ret (.slice (some {block:=7,off:=0}) j.toNat 1),H:=[(6,Obj.coro none),(7,Obj.cells (Qab (cpE [.int .i64 s.glo] [.int .i64 0]) ys) 3),(5,Obj.cells #[.int .i64 s.glo] 3),(4,Obj.coro none),(3,Obj.cells #[.slice none 0 0,.slice none 0 0,.slice none 0 0] 65),(2,Obj.cells #[Value.func (Fn.func 103) #[] #[]] 101),(1,Obj.cells (QbP s load days) 122),(0,Obj.coro none)],n:=8,R:=[],W:=[]},opS Tryz.prog (Qa6 Tryz.prog) Qbu (fun x x_1 x_2=> none) {len:=16000,tr:=Tri.set 14 (Tri.set 14 Tri.lf 40 (.int .i64 j)) 39 (.slice (some {block:=7,off:=0}) (Int.toNat (Int.tdiv (days+s.glo - 1) s.glo)) 1)} {dst:=some 41,op:=Op.slice 22 (Operand.tmp 39) (some (Operand.tmp 40)) none none,type:=22,pos:= "slices.go:528",after:=#[{on:=1,ground:=Ground.data},{on:=2,ground:=Ground.data}],guard:=none} [(6,Obj.coro none),(7,Obj.cells (Qab (cpE [.int .i64 s.glo] [.int .i64 0]) ys) 3),(5,Obj.cells #[.int .i64 s.glo] 3),(4,Obj.coro none),(3,Obj.cells #[.slice none 0 0,.slice none 0 0,.slice none 0 0] 65),(2,Obj.cells #[Value.func (Fn.func 103) #[] #[]] 101),(1,Obj.cells (QbP s load days) 122),(0,Obj.coro none)] 8=some {out:=OO.ret (.slice (some {block:=7,off:=0+Int.toNat j * 1}) (Int.toNat (Int.tdiv (days+s.glo - 1) s.glo) - Int.toNat j) 0),H:=[(6,Obj.coro none),(7,Obj.cells (Qab (cpE [.int .i64 s.glo] [.int .i64 0]) ys) 3),(5,Obj.cells #[.int .i64 s.glo] 3),(4,Obj.coro none),(3,Obj.cells #[.slice none 0 0,.slice none 0 0,.slice none 0 0] 65),(2,Obj.cells #[Value.func (Fn.func 103) #[] #[]] 101),(1,Obj.cells (QbP s load days) 122),(0,Obj.coro none)],n:=8,R:=[],W:=[]},ltq j (↑(Int.toNat (Int.tdiv (days+s.glo - 1) s.glo)):Int)=true]⟩:=by kernel_rfl
theorem Qud (B:Lo) (s:Qaa) (load days:Int) (j:Int) (ys:List Bool) (dJ0:Nat->Value):CE.finK 6 (Qan Tryz.prog (Qa6 Tryz.prog) J0 B 9 6 (Qcs (none) 161 48 (([7,8]:List Nat).zip (Qdz s load days j ys)) dJ0 QdA) (Qb9 (Qc0 s load days) 6 (([]:List Nat).zip (Qd4 s load days j ys)) (QbX s load days j ys)) (6+1+(QbX s load days j ys).length)
 [(3,hvF)] 0 [] []) [] [] [{k:=7,rs:=[],cs:=Qab (cpE [.int .i64 s.glo] [.int .i64 0]) ys}]=some (OO.ret (Qay 6 (slT (Int.toNat (Int.tdiv (days+s.glo - 1) s.glo)) (Fz.cs {k:=7,rs:=[],cs:=Qab (cpE [.int .i64 s.glo] [.int .i64 0]) ys}))),[],[],
 [QaY (Fz.rs {k:=7,rs:=[],cs:=Qab (cpE [.int .i64 s.glo] [.int .i64 0]) ys}) (Qab (cpE [.int .i64 s.glo] [.int .i64 0]) ys) (Fz.cs {k:=7,rs:=[],cs:=Qab (cpE [.int .i64 s.glo] [.int .i64 0]) ys}),ltq j (↑(Int.toNat (Int.tdiv (days+s.glo - 1) s.glo)):Int)=false]):=by kernel_rfl
set_option maxHeartbeats 4000000 in
theorem Qo5 (s:Qaa) (load days:Int) (hs:QaD s=true) (hd:0<=days/\days<=300) {B:Lo} (hJ:∀w,B.has w->J0 w):∀m:Nat,(∀(j:Int) (ys:List Bool),(((days+s.glo - 1).tdiv s.glo) - j).toNat=m->∀(j0:0<=j) (j1:j<=((days+s.glo - 1).tdiv s.glo)) (j2:((days+s.glo - 1).tdiv s.glo)=0\/0 < j) (hy:ys=Qgj true false ((days+s.glo - 1).tdiv s.glo).toNat j.toNat),(∃dJ0:Nat->Value,(∀t,QaP (dJ0 t))/\GoE Tryz.prog B (QeE s load days) (Qc0 s load days) 6 (Qcs (none) 161 48 (([7,8]:List Nat).zip (Qdz s load days j ys)) dJ0 QdA) (Qb9 (Qc0 s load days) 6 (([]:List Nat).zip (Qd4 s load days j ys)) (QbX s load days j ys)) (6+1+(QbX s load days j ys).length) ([]:List Nat))->FinK Tryz.prog B (QeE s load days) (Qc0 s load days) 6 (.ret (Qay 6 (slI (List.replicate ((days+s.glo - 1).tdiv s.glo).toNat s.glo)))) (([]:List Nat).zip ([])) ([]) ([]:List Nat)):=by
 intro m0
 induction m0 using Nat.strongRecOn with
 | _ m0 ih0=>
   intro j ys hm0 j0 j1 j2 hy ⟨dJ0,hdJ0,hg0⟩
   have hgp:=Qa0 hs
   have hst:=Qaj hs
   have hlo:=Qas hs
   have hqf:=Qci (g:=s.glo) hd (by omega)
   have hgp:=Qa0 hs
   have hqf:=Qci (g:=s.glo) hd (by omega)
   have hyl:ys.length=((days+s.glo - 1).tdiv s.glo).toNat:=by rw [hy];exact Qte (by omega)
   by_cases q0:(j:Int) < ((↑(Int.toNat (Int.tdiv (days+s.glo - 1) s.glo)):Int))
   ·
    exact ((ih0 _ (by omega)) (j+(↑(min j.toNat (Int.toNat (Int.tdiv (days+s.glo - 1) s.glo) - Int.toNat j)):Int)) (QjQ ys j.toNat (List.take (min j.toNat (Int.toNat (Int.tdiv (days+s.glo - 1) s.glo) - Int.toNat j)) (List.drop 0 ys))) rfl (by omega) (by omega) (by omega) (by (subst hy;rw [Qs9 (by omega) (by omega)];congr 1;omega))
     (GoE.landA okF hJ Qac (Qat (by kernel_rfl)) (Qam (by kernel_rfl)) hg0 (QuQ B s load days j ys dJ0)
     ⟨(Qaf (Qai (fun x=> List.all_eq_true.1 (by (cases x <;> rfl))))),⟨(QaM (by omega) (by omega)),⟨(Qog (z:=1) rfl rfl rfl rfl rfl rfl rfl rfl rfl rfl (by decide) (by decide) rfl rfl (Qj1 (c:=0) (fun x=> by first | rfl | (cases x <;> rfl)) (fun x=> by first | rfl | (cases x <;> rfl)) (by omega) (by omega))),⟨(QnL (z:=0) rfl rfl rfl rfl rfl (by omega) (by omega)),⟨(Qn0 (z:=0) rfl rfl rfl rfl rfl (by omega) (by omega)),⟨(QaW q0),trivial⟩⟩⟩⟩⟩⟩ (by kernel_rfl) (by kernel_rfl) (fun l hl=> by cases hl <;> decide))).cast (by rfl) (by rfl) (by rfl)
   ·
    exact (GoE.finK okF hJ Qac (Qat (by kernel_rfl)) (Qam (by kernel_rfl)) hg0 (Qud B s load days j ys dJ0)
     ⟨(QaE (fun x=> List.all_eq_true.1 (by (cases x <;> rfl)))),⟨(Qbb (Int.not_lt.1 q0)),trivial⟩⟩).cast (by (have e9:j.toNat=((days+s.glo - 1).tdiv s.glo).toNat:=(by omega);rw [hy,e9,Qtc];exact congrArg (fun v=> OO.ret (Qay 6 v)) (by show slT _ (Qab (cpE (Qag s.glo) [Value.int .i64 0]) (List.replicate _ true))=_;rw [QyC];show slT _ _=slT (List.replicate _ _).length _;rw [List.length_replicate]))) (by rfl) (by rfl)

theorem QtW (B:Lo) (s:Qaa) (load days:Int):CE.landA 6 (Qan Tryz.prog (Qa6 Tryz.prog) J0 B 21 6 (QeE s load days) (Qc0 s load days) 6
 [(2,hvF),(7,Qah.old (Hint.val (Value.int IntKind.u64 (Int.tdiv (days+s.glo - 1) s.glo)))),(8,Qah.pure (.tuple #[Value.int IntKind.u64 0,Value.int IntKind.u64 (Int.tdiv (days+s.glo - 1) s.glo)]) []),(18,hvF),(21,hvI (Int.tdiv (days+s.glo - 1) s.glo)),(22,Qah.old (Hint.mk (Int.toNat (Int.tdiv (days+s.glo - 1) s.glo)) (Qab (QbA [.int .i64 0]) (List.replicate (Int.toNat (Int.tdiv (days+s.glo - 1) s.glo)) ())))),(26,Qah.eval {out:=OO.ret (.int .i64 (↑(min 1 (Int.toNat (Int.tdiv (days+s.glo - 1) s.glo))):Int)),H:=[(6,Obj.cells (Qab (cpE [.int .i64 s.glo] [.int .i64 0]) (Qgj true false (Int.toNat (Int.tdiv (days+s.glo - 1) s.glo)) (min 1 (Int.toNat (Int.tdiv (days+s.glo - 1) s.glo))))) 3),(5,Obj.cells #[.int .i64 s.glo] 3),(4,Obj.coro none),(3,Obj.cells #[.slice none 0 0,.slice none 0 0,.slice none 0 0] 65),(2,Obj.cells #[Value.func (Fn.func 103) #[] #[]] 101),(1,Obj.cells (QbP s load days) 122),(0,Obj.coro none)],n:=7,R:=[6,5],W:=[6]})] 0 [] []) [7,8] [] [(6,KS.cells [] (Qab (cpE [.int .i64 s.glo] [.int .i64 0]) (Qgj true false (Int.toNat (Int.tdiv (days+s.glo - 1) s.glo)) (min 1 (Int.toNat (Int.tdiv (days+s.glo - 1) s.glo))))))] []=some ⟨161,48,QdA,[],.run,none,Qdz s load days ((↑(min 1 (Int.toNat (Int.tdiv (days+s.glo - 1) s.glo))):Int)) (Qgj true false (Int.toNat (Int.tdiv (days+s.glo - 1) s.glo)) (min 1 (Int.toNat (Int.tdiv (days+s.glo - 1) s.glo)))),([]:List Nat).zip (Qd4 s load days ((↑(min 1 (Int.toNat (Int.tdiv (days+s.glo - 1) s.glo))):Int)) (Qgj true false (Int.toNat (Int.tdiv (days+s.glo - 1) s.glo)) (min 1 (Int.toNat (Int.tdiv (days+s.glo - 1) s.glo))))),QbX s load days ((↑(min 1 (Int.toNat (Int.tdiv (days+s.glo - 1) s.glo))):Int)) (Qgj true false (Int.toNat (Int.tdiv (days+s.glo - 1) s.glo)) (min 1 (Int.toNat (Int.tdiv (days+s.glo - 1) s.glo)))),
 [Qa8 6 [] (Qab (cpE [.int .i64 s.glo] [.int .i64 0]) (Qgj true false (Int.toNat (Int.tdiv (days+s.glo - 1) s.glo)) (min 1 (Int.toNat (Int.tdiv (days+s.glo - 1) s.glo))))) (Qab (cpE [.int .i64 s.glo] [.int .i64 0]) (Qgj true false (Int.toNat (Int.tdiv (days+s.glo - 1) s.glo)) (min 1 (Int.toNat (Int.tdiv (days+s.glo - 1) s.glo))))),opS Tryz.prog (Qa6 Tryz.prog) Qbu (fun x x_1 x_2=> none) {len:=16000,tr:=Tri.set 14 (Tri.set 14 Tri.lf 32 (.slice (some {block:=5,off:=0}) 1 1)) 31 (.slice (some {block:=6,off:=0}) (Int.toNat (Int.tdiv (days+s.glo - 1) s.glo)) 1)} {dst:=some 33,op:=Op.call {callee:=Callee.builtin Builtin.copy,args:=#[Operand.tmp 31,Operand.tmp 32],argTypes:=#[22,22]},type:=3,pos:= "slices.go:526",after:=#[{on:=0,ground:=Ground.data},{on:=1,ground:=Ground.data}],guard:=none} [(6,Obj.cells (Qab (QbA [.int .i64 0]) (List.replicate (Int.toNat (Int.tdiv (days+s.glo - 1) s.glo)) ())) 3),(5,Obj.cells #[.int .i64 s.glo] 3),(4,Obj.coro none),(3,Obj.cells #[.slice none 0 0,.slice none 0 0,.slice none 0 0] 65),(2,Obj.cells #[Value.func (Fn.func 103) #[] #[]] 101),(1,Obj.cells (QbP s load days) 122),(0,Obj.coro none)] 7=some {out:=OO.ret (.int .i64 (↑(min 1 (Int.toNat (Int.tdiv (days+s.glo - 1) s.glo))):Int)),H:=[(6,Obj.cells (Qab (cpE [.int .i64 s.glo] [.int .i64 0]) (Qgj true false (Int.toNat (Int.tdiv (days+s.glo - 1) s.glo)) (min 1 (Int.toNat (Int.tdiv (days+s.glo - 1) s.glo))))) 3),(5,Obj.cells #[.int .i64 s.glo] 3),(4,Obj.coro none),(3,Obj.cells #[.slice none 0 0,.slice none 0 0,.slice none 0 0] 65),(2,Obj.cells #[Value.func (Fn.func 103) #[] #[]] 101),(1,Obj.cells (QbP s load days) 122),(0,Obj.coro none)],n:=7,R:=[6,5],W:=[6]},QfR Tryz.prog 22 (Qca {len:=16000,tr:=Tri.set 14 Tri.lf 29 (.int .i64 (Int.tdiv (days+s.glo - 1) s.glo))} 29) (Qca {len:=16000,tr:=Tri.set 14 Tri.lf 29 (.int .i64 (Int.tdiv (days+s.glo - 1) s.glo))} 29)=some (3,Qab (QbA [.int .i64 0]) (List.replicate (Int.toNat (Int.tdiv (days+s.glo - 1) s.glo)) ()),Int.toNat (Int.tdiv (days+s.glo - 1) s.glo),TypeInfo.size Tryz.t3),IntKind.wrap .i64 (Int.tdiv (days+s.glo - 1) s.glo)=Int.tdiv (days+s.glo - 1) s.glo,decide (Int.tdiv (days+s.glo - 1) s.glo > 9223372036854775807)=false,QaB []/\Qau Tryz.prog J0 168 #[Value.int IntKind.u64 1,Value.int IntKind.u64 (Int.tdiv (days+s.glo - 1) s.glo)] (.tuple #[Value.int IntKind.u64 0,Value.int IntKind.u64 (Int.tdiv (days+s.glo - 1) s.glo)]),IntKind.wrap IntKind.u64 (Int.tdiv (days+s.glo - 1) s.glo)=Int.tdiv (days+s.glo - 1) s.glo,ltq (Int.tdiv (days+s.glo - 1) s.glo) 0=false]⟩:=by kernel_rfl
def Qc2 (s:Qaa) (load days:Int):Qaw:=[(6,Obj.coro none),(5,Obj.cells #[.int .i64 s.glo] 3),(4,Obj.coro none),(3,Obj.cells #[.slice none 0 0,.slice none 0 0,.slice none 0 0] 65),(2,Obj.cells #[Value.func (Fn.func 103) #[] #[]] 101),(1,Obj.cells #[Qay 0 (slT s.stock.length (Qab Qag s.stock)),Qay 0 (slT s.use.length (Qab Qa3 s.use)),.int .i64 s.glo,.int .i64 s.ghi,Qay 0 (slT s.lots.length (Qab Qao s.lots)),.int .i64 s.hold,.int .i64 load,.int .i64 days] 122),(0,Obj.coro none)]
def Qe8 (s:Qaa) (load days:Int):CF:=⟨162,ofList 26 [Qay 0 (slT s.lots.length (Qab Qao s.lots)),Value.func (Fn.func 163) #[] #[pA 2 0]],[Item.code (Qaq Tryz.prog 162)],[],.run,none⟩
def QdH (s:Qaa) (load days:Int) (i:Int) (zs:List Row):List Value:=[Value.func (Fn.func 163) #[] #[pA 2 0],.slice (some {block:=8,off:=0}) s.lots.length 1,Qay 0 (slT s.lots.length (Qab Qao s.lots)),.int .i64 (↑s.lots.length:Int),.int .i64 i]
def QdE (s:Qaa) (load days:Int) (i:Int) (zs:List Row):List Obj:=[]
def QbT (s:Qaa) (load days:Int) (i:Int) (zs:List Row):List Obj:=[.cells (Qab (Qa1 7 Qax) zs) 22 (0,0)]
def Qd8:List Item:=([.code [1,1,0,1,0,0],.inLoop [1,1,0,1,0,0],.inBlock 0,.code [1,1,1]]).map (it (Qaq Tryz.prog 162))
def Qfy (s:Qaa) (load days:Int) (i:Int) (zs:List Row) (dJ0:Nat->Value):Qaw:=[(9,Obj.cells #[Qay 0 (slT (List.length (Qad.goods (s.lots.getD i.toNat default))) (Qab Qa3 (Qad.goods (s.lots.getD i.toNat default)))),.int .i64 (Qad.weight (s.lots.getD i.toNat default)),.int .i64 (Qad.cost (s.lots.getD i.toNat default))] 118),(7,Obj.coro none),(8,Obj.cells (Qab (Qa1 7 Qax) zs) 22),(6,Obj.coro none),(5,Obj.cells #[.int .i64 s.glo] 3),(4,Obj.coro none),(3,Obj.cells #[.slice none 0 0,.slice none 0 0,.slice none 0 0] 65),(2,Obj.cells #[Value.func (Fn.func 103) #[] #[]] 101),(1,Obj.cells #[Qay 0 (slT s.stock.length (Qab Qag s.stock)),Qay 0 (slT s.use.length (Qab Qa3 s.use)),.int .i64 s.glo,.int .i64 s.ghi,Qay 0 (slT s.lots.length (Qab Qao s.lots)),.int .i64 s.hold,.int .i64 load,.int .i64 days] 122),(0,Obj.coro none)]
def Qhu (s:Qaa) (load days:Int) (i:Int) (zs:List Row) (dJ0:Nat->Value):CF:=⟨163,ofList 8 [.agg #[Qay 0 (slT (List.length (Qad.goods (s.lots.getD i.toNat default))) (Qab Qa3 (Qad.goods (s.lots.getD i.toNat default)))),.int .i64 (Qad.weight (s.lots.getD i.toNat default)),.int .i64 (Qad.cost (s.lots.getD i.toNat default))],pA 2 0],[Item.code (Qaq Tryz.prog 163)],[],.run,none⟩
theorem Qua (B:Lo) (s:Qaa) (load days:Int) (i:Int) (zs:List Row) (dJ0:Nat->Value):CE.finK 10 (Qan Tryz.prog (Qa6 Tryz.prog) J0 B 6 10 (Qhu s load days i zs dJ0) (Qfy s load days i zs dJ0) 10
 [(5,Qah.pure (slT (List.length (List.map Span.hi (Qad.goods (s.lots.getD i.toNat default)))) (Qab Qag (List.map Span.hi (Qad.goods (s.lots.getD i.toNat default))))) [])] 0 [] []) [] [] []=some (OO.ret (Qay 10 (slT (List.length (List.map Span.hi (Qad.goods (s.lots.getD i.toNat default)))) (Qab Qag (List.map Span.hi (Qad.goods (s.lots.getD i.toNat default)))))),[],[],
 [QaB []/\Qau Tryz.prog J0 160 #[slT (List.length (Qad.goods (s.lots.getD i.toNat default))) (Qab Qa3 (Qad.goods (s.lots.getD i.toNat default))),Value.func (Fn.func 103) #[] #[]] (slT (List.length (List.map Span.hi (Qad.goods (s.lots.getD i.toNat default)))) (Qab Qag (List.map Span.hi (Qad.goods (s.lots.getD i.toNat default)))))]):=by kernel_rfl
theorem Qul (B:Lo) (s:Qaa) (load days:Int) (i:Int) (zs:List Row) (dJ0:Nat->Value):CE.landA 7 (Qan Tryz.prog (Qa6 Tryz.prog) J0 B 13 7 (Qcs (none) 162 26 (([1,5,11,12,13]:List Nat).zip (QdH s load days i zs)) dJ0 Qd8) (Qb9 (Qc2 s load days) 7 (([]:List Nat).zip (QdE s load days i zs)) (QbT s load days i zs)) (7+1+(QbT s load days i zs).length)
 [(0,hvT),(2,Qah.tidx i.toNat #[slT (List.length (Qad.goods (s.lots.getD i.toNat default))) (Qab Qa3 (Qad.goods (s.lots.getD i.toNat default))),.int .i64 (Qad.weight (s.lots.getD i.toNat default)),.int .i64 (Qad.cost (s.lots.getD i.toNat default))]),(11,Qah.call (List.range 10) (OO.ret (Qjl s i)) ([]++(10,Qb1)::QaS 11 []) 11 []),(12,Qah.old (Hint.idx i.toNat)),(13,Qah.old (Hint.st (splice (Qab (Qa1 7 Qax) zs) (0+Int.toNat i * 1) (Qjn s i)))),(14,hvI (i+1))] 0 [] []) [1,5,11,12,13] [] [(8,KS.rows [(7,7),(10,7)] [] (Qab (Qa1 7 Qax) (List.set zs i.toNat (List.map Span.hi (Qad.goods (s.lots.getD i.toNat default))))))] []=some ⟨162,26,Qd8,[],.run,none,QdH s load days (i+1) (List.set zs i.toNat (List.map Span.hi (Qad.goods (s.lots.getD i.toNat default)))),([]:List Nat).zip (QdE s load days (i+1) (List.set zs i.toNat (List.map Span.hi (Qad.goods (s.lots.getD i.toNat default))))),QbT s load days (i+1) (List.set zs i.toNat (List.map Span.hi (Qad.goods (s.lots.getD i.toNat default)))),
 [QaQ 7 [(7,7),(10,7)] [] (splice (Qab (Qa1 7 Qax) zs) (0+Int.toNat i * 1) (Qjn s i)) (Qab (Qa1 7 Qax) (List.set zs i.toNat (List.map Span.hi (Qad.goods (s.lots.getD i.toNat default))))),wq (i+1)=i+1,0+Int.toNat i * 1+TypeInfo.size Tryz.t22<=Array.size (Qab (Qa1 7 Qax) zs)/\splice (Qab (Qa1 7 Qax) zs) (0+Int.toNat i * 1) (Value.cells (Qca {len:=16000,tr:=Tri.set 14 (Tri.set 14 Tri.lf 22 (Qjl s i)) 23 (.pointer (some {block:=8,off:=0+Int.toNat i * 1}))} 22))=splice (Qab (Qa1 7 Qax) zs) (0+Int.toNat i * 1) (Qjn s i),i=(↑i.toNat:Int)/\Int.toNat i < List.length s.lots,FJ Tryz.prog B (Qhu s load days i zs dJ0) (Qfy s load days i zs dJ0) 10 (OO.ret (Qjl s i)) (([]++((10,Qb1)::QaS (10+1) []))++Qfy s load days i zs dJ0) 11 (List.range 10) [],i=(↑i.toNat:Int)/\Int.toNat i < List.length s.lots/\Array.extract (Qab Qao s.lots) (Int.toNat i * TypeInfo.size Tryz.t118) (Int.toNat i * TypeInfo.size Tryz.t118+TypeInfo.size Tryz.t118)=#[slT (List.length (Qad.goods (s.lots.getD i.toNat default))) (Qab Qa3 (Qad.goods (s.lots.getD i.toNat default))),.int .i64 (Qad.weight (s.lots.getD i.toNat default)),.int .i64 (Qad.cost (s.lots.getD i.toNat default))],ltq i (↑s.lots.length:Int)=true]⟩:=by kernel_rfl
theorem Quz (B:Lo) (s:Qaa) (load days:Int) (i:Int) (zs:List Row) (dJ0:Nat->Value):CE.finK 7 (Qan Tryz.prog (Qa6 Tryz.prog) J0 B 9 7 (Qcs (none) 162 26 (([1,5,11,12,13]:List Nat).zip (QdH s load days i zs)) dJ0 Qd8) (Qb9 (Qc2 s load days) 7 (([]:List Nat).zip (QdE s load days i zs)) (QbT s load days i zs)) (7+1+(QbT s load days i zs).length)
 [(0,hvF)] 0 [] []) [] [] [{k:=8,rs:=[7],cs:=Qab Qax zs}]=some (OO.ret (Qay 7 (slT s.lots.length (Fz.cs {k:=8,rs:=[7],cs:=Qab Qax zs}))),[],[],
 [QaY (Fz.rs {k:=8,rs:=[7],cs:=Qab Qax zs}) (Qab (Qa1 7 Qax) zs) (Fz.cs {k:=8,rs:=[7],cs:=Qab Qax zs}),ltq i (↑s.lots.length:Int)=false]):=by kernel_rfl
set_option maxHeartbeats 4000000 in
theorem QoI (s:Qaa) (load days:Int) (hs:QaD s=true) (hd:0<=days/\days<=300) (q0:¬((Int.tdiv (days+s.glo - 1) s.glo:Int) < (0))) (q1:(decide (Int.tdiv (days+s.glo - 1) s.glo > 9223372036854775807))=false) {B:Lo} (hJ:∀w,B.has w->J0 w):∀m:Nat,(∀(i:Int) (zs:List Row),s.lots.length - i.toNat=m->∀(i0:0<=i) (hz:zs=Qgp (fun (l:Qad)=> (l.goods.map Span.hi:Row)) [] s.lots i),(∃dJ0:Nat->Value,(∀t,QaP (dJ0 t))/\GoE Tryz.prog B (Qe8 s load days) (Qc2 s load days) 7 (Qcs (none) 162 26 (([1,5,11,12,13]:List Nat).zip (QdH s load days i zs)) dJ0 Qd8) (Qb9 (Qc2 s load days) 7 (([]:List Nat).zip (QdE s load days i zs)) (QbT s load days i zs)) (7+1+(QbT s load days i zs).length) ([]:List Nat))->FinK Tryz.prog B (Qe8 s load days) (Qc2 s load days) 7 (.ret (Qay 7 (slR (s.lots.map (fun (l:Qad)=> (l.goods.map Span.hi:Row)))))) (([]:List Nat).zip ([])) ([]) ([]:List Nat)):=by
 intro m0
 induction m0 using Nat.strongRecOn with
 | _ m0 ih0=>
   intro i zs hm0 i0 hz ⟨dJ0,hdJ0,hg0⟩
   have hgp:=Qa0 hs
   have hst:=Qaj hs
   have hlo:=Qas hs
   have hqf:=Qci (g:=s.glo) hd (by omega)
   have hlo:=Qas hs
   have hst:=Qaj hs
   have hzl:zs.length=s.lots.length:=by rw [hz];exact QdD
   by_cases q2:(i:Int) < ((↑s.lots.length:Int))
   ·
    have rj2:FJ Tryz.prog B (Qhu s load days i zs dJ0) (Qfy s load days i zs dJ0) 10 (OO.ret (Qay 10 (slT (List.length (List.map Span.hi (Qad.goods (s.lots.getD i.toNat default)))) (Qab Qag (List.map Span.hi (Qad.goods (s.lots.getD i.toNat default))))))) (([]++((10,Qb1)::QaS (10+1) []))++Qfy s load days i zs dJ0) 11 (List.range 10) []:=by
     have hgl:(s.lots.getD i.toNat default).goods.length<=4:=by have:=hlo.2 _ (QaI i0 (by assumption));simp only [Qnu,Bool.and_eq_true,decide_eq_true_iff] at this;omega
     exact FinK.fjB (GoE.finK okF hJ Qac (Qat (by kernel_rfl)) (Qam (by kernel_rfl)) ((GoE.refl (P:=Tryz.prog) (B:=B) (c0:=Qhu s load days i zs dJ0) (Qat (by kernel_rfl))).widen (Wf:=((([]):List (Nat×KS)).map (·.1))) (by simp) (Qam (by kernel_rfl))) (Qua B s load days i zs dJ0)
      ⟨⟨trivial,QwV (Qad.goods (s.lots.getD i.toNat default)) (by omega)⟩,trivial⟩) (ex:=[8]) (by kernel_rfl) ⟨trivial,⟨trivial,⟨(QeG (t:=22) (fl:=(0,0)) (QaK (fun _=> rfl)) (by decide)),⟨trivial,⟨trivial,⟨trivial,⟨trivial,⟨trivial,⟨trivial,⟨trivial,trivial⟩⟩⟩⟩⟩⟩⟩⟩⟩⟩
    have hgl:(s.lots.getD i.toNat default).goods.length<=4:=by have:=hlo.2 _ (QaI i0 (by assumption));simp only [Qnu,Bool.and_eq_true,decide_eq_true_iff] at this;omega
    exact ((ih0 _ (by omega)) (i+1) (List.set zs i.toNat (List.map Span.hi (Qad.goods (s.lots.getD i.toNat default)))) rfl (by omega) (by (subst hz;exact QdJ (f:=(fun (l:Qad)=> (l.goods.map Span.hi:Row))) i0 (by assumption)))
     (GoE.landA okF hJ Qac (Qat (by kernel_rfl)) (Qam (by kernel_rfl)) hg0 (Qul B s load days i zs dJ0)
     ⟨(by exact (QhK (z:=1) (fun _=> rfl) (QaC (QaK (fun _=> rfl)) (List.Mem.head _)) (by omega) (by exact ⟨(.reg (List.Mem.tail _ (List.Mem.head _)) rfl),trivial⟩))),⟨(QaM (by omega) (by omega)),⟨⟨(by exact Qs3 (z:=1) (fun _=> rfl) (by omega)),rfl⟩,⟨⟨by omega,by omega⟩,⟨rj2,⟨⟨by omega,by omega,(Qae (z:=3) (fun _=> rfl) (by omega))⟩,⟨(QaW q2),trivial⟩⟩⟩⟩⟩⟩⟩ (by kernel_rfl) (by kernel_rfl) (fun l hl=> by cases hl <;> decide))).cast (by rfl) (by rfl) (by rfl)
   ·
    exact (GoE.finK okF hJ Qac (Qat (by kernel_rfl)) (Qam (by kernel_rfl)) hg0 (Quz B s load days i zs dJ0)
     ⟨(QbV (QaK (fun _=> rfl)) (List.Mem.head _)),⟨(Qbb (Int.not_lt.1 q2)),trivial⟩⟩).cast (by exact congrArg (fun v=> OO.ret (Qay 7 v)) (Qfp (hz.trans (QdC (by omega))) (by simp))) (by rfl) (by rfl)

theorem QuG (B:Lo) (s:Qaa) (load days:Int):CE.landA 7 (Qan Tryz.prog (Qa6 Tryz.prog) J0 B 9 7 (Qe8 s load days) (Qc2 s load days) 7
 [(3,Qah.old (Hint.mk s.lots.length (Qab (QbA [.slice none 0 0]) (List.replicate s.lots.length ()))))] 0 [] []) [1,5,11,12,13] [] [(7,KS.rows [] [] (Qab (Qa1 7 Qax) (List.replicate s.lots.length [])))] []=some ⟨162,26,Qd8,[],.run,none,QdH s load days (0) (List.replicate s.lots.length []),([]:List Nat).zip (QdE s load days (0) (List.replicate s.lots.length [])),QbT s load days (0) (List.replicate s.lots.length []),
 [QaQ 7 [] [] (Qab (QbA [.slice none 0 0]) (List.replicate s.lots.length ())) (Qab (Qa1 7 Qax) (List.replicate s.lots.length [])),QfR Tryz.prog 63 (Qca {len:=16000,tr:=Tri.set 14 Tri.lf 9 (.int .i64 (↑s.lots.length:Int))} 9) (Qca {len:=16000,tr:=Tri.set 14 Tri.lf 9 (.int .i64 (↑s.lots.length:Int))} 9)=some (22,Qab (QbA [.slice none 0 0]) (List.replicate s.lots.length ()),List.length s.lots,TypeInfo.size Tryz.t22)]⟩:=by kernel_rfl
theorem Qvl (B:Lo) (s:Qaa) (load days:Int):Qbe (Qan Tryz.prog (Qa6 Tryz.prog) J0 B 8 1 (Qal Tryz.prog 150 31 (([.agg (QaH s load days).toArray,.func (.func 103) #[] #[],.func (.func 104) #[] #[]]).map (Qav 0 4))) H00 1
 [(7,Qah.pure (.int .i64 s.glo) []),(13,Qah.pure (slT (List.length (List.map Span.lo s.use)) (Qab Qag (List.map Span.lo s.use))) []),(19,Qah.pure (.int .i64 (Int.tdiv (days+s.glo - 1) s.glo)) []),(20,Qah.call (List.range 6) (OO.ret (Qay 6 (slT (List.length (List.replicate (Int.toNat (Int.tdiv (days+s.glo - 1) s.glo)) s.glo)) (Qab Qag (List.replicate (Int.toNat (Int.tdiv (days+s.glo - 1) s.glo)) s.glo))))) ([]++(6,Qb1)::QaS 7 []) 7 []),(25,Qah.call (List.range 7) (OO.ret (Qay 7 (slT (List.length (List.map (fun l=> List.map Span.hi l.goods) s.lots)) (Qab Qax (List.map (fun l=> List.map Span.hi l.goods) s.lots))))) ([]++(7,Qb1)::QaS 8 []) 8 [])] 0 [] []) []=some (.agg #[slT (List.length (List.map Span.lo s.use)) (Qab Qag (List.map Span.lo s.use)),slT (List.length (List.replicate (Int.toNat (Int.tdiv (days+s.glo - 1) s.glo)) s.glo)) (Qab Qag (List.replicate (Int.toNat (Int.tdiv (days+s.glo - 1) s.glo)) s.glo)),slT (List.length (List.map (fun l=> List.map Span.hi l.goods) s.lots)) (Qab Qax (List.map (fun l=> List.map Span.hi l.goods) s.lots))],
 [FJ Tryz.prog B (Qe8 s load days) (Qc2 s load days) 7 (OO.ret (Qay 7 (slT (List.length (List.map (fun l=> List.map Span.hi l.goods) s.lots)) (Qab Qax (List.map (fun l=> List.map Span.hi l.goods) s.lots))))) (([]++((7,Qb1)::QaS (7+1) []))++Qc2 s load days) 8 (List.range 7) [],FJ Tryz.prog B (QeE s load days) (Qc0 s load days) 6 (OO.ret (Qay 6 (slT (List.length (List.replicate (Int.toNat (Int.tdiv (days+s.glo - 1) s.glo)) s.glo)) (Qab Qag (List.replicate (Int.toNat (Int.tdiv (days+s.glo - 1) s.glo)) s.glo))))) (([]++((6,Qb1)::QaS (6+1) []))++Qc0 s load days) 7 (List.range 6) [],QaB []/\Qau Tryz.prog J0 132 #[.int .i64 days,.int .i64 s.glo] (.int .i64 (Int.tdiv (days+s.glo - 1) s.glo)),QaB []/\Qau Tryz.prog J0 160 #[slT s.use.length (Qab Qa3 s.use),Value.func (Fn.func 104) #[] #[]] (slT (List.length (List.map Span.lo s.use)) (Qab Qag (List.map Span.lo s.use))),QaB []/\Qau Tryz.prog J0 104 #[.agg #[.int .i64 s.glo,.int .i64 s.ghi]] (.int .i64 s.glo)]):=by kernel_rfl
set_option maxHeartbeats 4000000 in
theorem QwE (s:Qaa) (load days:Int) (hs:QaD s=true) (hd:0<=days/\days<=300) {B:Lo} (hJ:∀w,B.has w->J0 w):EndsT Tryz.prog B (Qal Tryz.prog 150 31 (([.agg (QaH s load days).toArray,.func (.func 103) #[] #[],.func (.func 104) #[] #[]]).map (Qav 0 4))) (.agg (QaA (Qak Span.hi Span.lo s days)).toArray):=by
 have hgp:=Qa0 hs
 have hst:=Qaj hs
 have hlo:=Qas hs
 have hqf:=Qci (g:=s.glo) hd (by omega)
 by_cases q0:(Int.tdiv (days+s.glo - 1) s.glo:Int) < (0)
 ·
  exfalso
  (have hgp:=Qa0 hs;have hqf:=Qci (g:=s.glo) hd (by omega);omega)
 ·
  cases q1:decide (Int.tdiv (days+s.glo - 1) s.glo > 9223372036854775807) with
  | true=>
    exfalso
    (have hgp:=Qa0 hs;have hqf:=Qci (g:=s.glo) hd (by omega);have q9:=of_decide_eq_true q1;omega)
  | false=>
    have rj0:FJ Tryz.prog B (QeE s load days) (Qc0 s load days) 6 (OO.ret (Qay 6 (slT (List.length (List.replicate (Int.toNat (Int.tdiv (days+s.glo - 1) s.glo)) s.glo)) (Qab Qag (List.replicate (Int.toNat (Int.tdiv (days+s.glo - 1) s.glo)) s.glo))))) (([]++((6,Qb1)::QaS (6+1) []))++Qc0 s load days) 7 (List.range 6) []:=by
     exact FinK.fjB ((Qo5 s load days hs hd hJ _) ((↑(min 1 (Int.toNat (Int.tdiv (days+s.glo - 1) s.glo))):Int)) (Qgj true false (Int.toNat (Int.tdiv (days+s.glo - 1) s.glo)) (min 1 (Int.toNat (Int.tdiv (days+s.glo - 1) s.glo)))) rfl (by omega) (by omega) (by omega) (by (rw [Int.toNat_natCast]))
      (GoE.landA okF hJ Qac (Qat (by kernel_rfl)) (Qam (by kernel_rfl)) ((GoE.refl (P:=Tryz.prog) (B:=B) (c0:=QeE s load days) (Qat (by kernel_rfl))).widen (Wf:=((([]):List (Nat×KS)).map (·.1))) (by simp) (Qam (by kernel_rfl))) (QtW B s load days)
      ⟨(Qaf (Qai (fun x=> List.all_eq_true.1 (by (cases x <;> rfl))))),⟨(Qog (z:=1) rfl rfl rfl rfl rfl rfl rfl rfl rfl rfl (by decide) (by decide) rfl rfl (QpQ rfl rfl rfl rfl rfl)),⟨(Qgo (bytes:=8) (by kernel_rfl) (by omega) (by omega) (by omega)),⟨(QhQ (by omega) (by omega)),⟨q1,⟨⟨trivial,Q5K (Int.tdiv (days+s.glo - 1) s.glo) (by omega) (by omega)⟩,⟨(IntWalk.u64_in _ ⟨by omega,by omega⟩),⟨(Qbb (Int.not_lt.1 q0)),trivial⟩⟩⟩⟩⟩⟩⟩⟩ (by kernel_rfl) (by kernel_rfl) (fun l hl=> by cases hl <;> decide))) (ex:=[]) (by kernel_rfl) (QbB _)
    have rj1:FJ Tryz.prog B (Qe8 s load days) (Qc2 s load days) 7 (OO.ret (Qay 7 (slT (List.length (List.map (fun l=> List.map Span.hi l.goods) s.lots)) (Qab Qax (List.map (fun l=> List.map Span.hi l.goods) s.lots))))) (([]++((7,Qb1)::QaS (7+1) []))++Qc2 s load days) 8 (List.range 7) []:=by
     exact FinK.fjB ((QoI s load days hs hd q0 q1 hJ _) (0) (List.replicate s.lots.length []) rfl (by omega) (by exact QfL)
      (GoE.landA okF hJ Qac (Qat (by kernel_rfl)) (Qam (by kernel_rfl)) ((GoE.refl (P:=Tryz.prog) (B:=B) (c0:=Qe8 s load days) (Qat (by kernel_rfl))).widen (Wf:=((([]):List (Nat×KS)).map (·.1))) (by simp) (Qam (by kernel_rfl))) (QuG B s load days)
      ⟨(by exact (QbK (by exact ⟨.nil,trivial⟩) _)),⟨(Qgo (bytes:=24) (by kernel_rfl) (by omega) (by omega) (by omega)),trivial⟩⟩ (by kernel_rfl) (by kernel_rfl) (fun l hl=> by cases hl <;> decide))) (ex:=[]) (by kernel_rfl) (QbB _)
    exact (GoE.endsT okF hJ Qac GoE.start (Qvl B s load days)
     ⟨rj1,⟨rj0,⟨⟨trivial,Qvu (days) s.glo (by omega) (by omega)⟩,⟨⟨trivial,QxE s.use (by omega)⟩,⟨⟨trivial,Q5O s.glo s.ghi⟩,trivial⟩⟩⟩⟩⟩).cast (by rfl)
theorem Q2Q (s:Qaa) (load days:Int) (hs:QaD s=true) (hd:0<=days/\days<=300):Qau Tryz.prog J0 150 #[.agg (QaH s load days).toArray,.func (.func 103) #[] #[],.func (.func 104) #[] #[]] (.agg (QaA (Qak Span.hi Span.lo s days)).toArray):=
 QaF (ts:=[.agg (QaH s load days).toArray,.func (.func 103) #[] #[],.func (.func 104) #[] #[]]) Qbw (c0:=Qal Tryz.prog 150 31 (([.agg (QaH s load days).toArray,.func (.func 103) #[] #[],.func (.func 104) #[] #[]]).map (Qav 0 4))) (by kernel_rfl) (by kernel_rfl) fun B hJ=> QwE s load days hs hd hJ
end
end Go.Proofs.YtiabgkiccaodmaaGreat

