/- ShipPlays: what the law returns. -/
import Derived.Test.YtiabgkiccaodmaaGreatZRA12
import Derived.Test.YtiabgkiccaodmaaGreatZRA09
import Derived.Test.YtiabgkiccaodmaaGreatZRA11
set_option linter.all false
namespace Go.Proofs.YtiabgkiccaodmaaGreat
open Go Go.CE Go.RowKit
noncomputable section
set_option maxRecDepth 100000
theorem Qwf (s:Qaa) (hb:∀l∈s.lots,l.goods.length<=8):Qas Tryz.prog J0 44 #[.agg (Qah s).toArray] (.bool (Qa8 s)):=by
 have h:=Q2X s hb;rw [Qwb] at h;exact h
theorem Q0z (s:Qaa) (load:List Int) (hs:Qa8 s=true) (hl:load.length<=10):Qas Tryz.prog J0 56 #[.agg (Qah s).toArray,slI load] (.bool (QbV s load)):=by
 have h:=Q3U s load hs hl;rw [Q1i hs] at h;exact h
def QgR (s:Qaa):Array Value:=#[slT s.stock.length (Qac Qar s.stock),slT s.use.length (Qac Qa6 s.use),.int .i64 s.glo,.int .i64 s.ghi,slT s.lots.length (Qac Qam s.lots),.int .i64 s.hold]
def Qjk (B:Lo) (s:Qaa) (load:List Int) (days:Int):List Prop:=[Qa7 []/\Qas Tryz.prog J0 44 #[.agg (QgR s)] (.bool true)]++([]:List Prop)
def QmW (s:Qaa) (load:List Int) (days:Int):Qay:=[(3,Qaj.pure (.bool true) [])]
def Qi2 (B:Lo) (s:Qaa) (load:List Int) (days:Int):List Prop:=[Qa7 []/\Qas Tryz.prog J0 56 #[.agg (QgR s),slT load.length (Qac Qar load)] (.bool true)]++Qjk B s load days
def Qm6 (s:Qaa) (load:List Int) (days:Int):Qay:=QmW s load days++[(7,Qaj.pure (.bool true) [])]
theorem QtL (B:Lo) (s:Qaa) (load:List Int) (days:Int):Qbb (Qak Tryz.prog (Qa1 Tryz.prog) J0 B 6 1 (Qai Tryz.prog 39 18 (([.agg (Qah s).toArray,slI load,.int .i64 days]).map (Qaq 0 4))) H00 1
 (Qm6 s load days++[(11,Qaj.pure (.bool true) [])]) 0 [] []) []=some (.bool true,
 [Qa7 []/\Qas Tryz.prog J0 52 #[.int .i64 days] (.bool true)]++Qi2 B s load days):=by kernel_rfl
theorem Qu7 (B:Lo) (s:Qaa) (load:List Int) (days:Int):Qbb (Qak Tryz.prog (Qa1 Tryz.prog) J0 B 6 1 (Qai Tryz.prog 39 18 (([.agg (Qah s).toArray,slI load,.int .i64 days]).map (Qaq 0 4))) H00 1
 (Qm6 s load days++[(11,Qaj.pure (.bool false) [])]) 0 [] []) []=some (.bool false,
 [Qa7 []/\Qas Tryz.prog J0 52 #[.int .i64 days] (.bool false)]++Qi2 B s load days):=by kernel_rfl
theorem QtF (B:Lo) (s:Qaa) (load:List Int) (days:Int):Qbb (Qak Tryz.prog (Qa1 Tryz.prog) J0 B 6 1 (Qai Tryz.prog 39 18 (([.agg (Qah s).toArray,slI load,.int .i64 days]).map (Qaq 0 4))) H00 1
 (QmW s load days++[(7,Qaj.pure (.bool false) [])]) 0 [] []) []=some (.bool false,
 [Qa7 []/\Qas Tryz.prog J0 56 #[.agg (QgR s),slT load.length (Qac Qar load)] (.bool false)]++Qjk B s load days):=by kernel_rfl
theorem Qus (B:Lo) (s:Qaa) (load:List Int) (days:Int):Qbb (Qak Tryz.prog (Qa1 Tryz.prog) J0 B 6 1 (Qai Tryz.prog 39 18 (([.agg (Qah s).toArray,slI load,.int .i64 days]).map (Qaq 0 4))) H00 1
 [(3,Qaj.pure (.bool false) [])] 0 [] []) []=some (.bool false,
 [Qa7 []/\Qas Tryz.prog J0 44 #[.agg (QgR s)] (.bool false)]):=by kernel_rfl
set_option maxHeartbeats 4000000 in
theorem Qxn (s:Qaa) (load:List Int) (days:Int) (hb:∀l∈s.lots,l.goods.length<=8) (hl:load.length<=10) {B:Lo} (hJ:∀w,B.has w->J0 w):EndsT Tryz.prog B (Qai Tryz.prog 39 18 (([.agg (Qah s).toArray,slI load,.int .i64 days]).map (Qaq 0 4))) (.bool (Qa8 s && (QbV s load && inB days 0 300))):=by
 cases q0:Qa8 s with
 | true=>
   have hp0:Qa7 (Qjk B s load days):=by
    exact ⟨⟨trivial,(by have t_:=Qwf (s) (by with_reducible assumption);rw [q0] at t_;exact t_)⟩,trivial⟩
   cases q1:QbV s load with
   | true=>
     have hp1:Qa7 (Qi2 B s load days):=by
      exact ⟨⟨trivial,(by have t_:=Q0z (s) (load) (by with_reducible assumption) (by with_reducible assumption);rw [q1] at t_;exact t_)⟩,hp0⟩
     cases q2:inB days 0 300 with
     | true=>
       exact (GoE.endsT okF hJ Qab GoE.start (QtL B s load days)
        ⟨⟨trivial,(by have t_:=Q2B (days);rw [q2] at t_;exact t_)⟩,hp1⟩).cast (by rfl)
     | false=>
       exact (GoE.endsT okF hJ Qab GoE.start (Qu7 B s load days)
        ⟨⟨trivial,(by have t_:=Q2B (days);rw [q2] at t_;exact t_)⟩,hp1⟩).cast (by rfl)
   | false=>
     exact (GoE.endsT okF hJ Qab GoE.start (QtF B s load days)
      ⟨⟨trivial,(by have t_:=Q0z (s) (load) (by with_reducible assumption) (by with_reducible assumption);rw [q1] at t_;exact t_)⟩,hp0⟩).cast (by rfl)
 | false=>
   exact (GoE.endsT okF hJ Qab GoE.start (Qus B s load days)
    ⟨⟨trivial,(by have t_:=Qwf (s) (by with_reducible assumption);rw [q0] at t_;exact t_)⟩,trivial⟩).cast (by rfl)
theorem Qlg (s:Qaa) (load:List Int) (days:Int) (hb:∀l∈s.lots,l.goods.length<=8) (hl:load.length<=10):Qas Tryz.prog J0 39 #[.agg (Qah s).toArray,slI load,.int .i64 days] (.bool (Qa8 s && (QbV s load && inB days 0 300))):=
 QaE (ts:=[.agg (Qah s).toArray,slI load,.int .i64 days]) Qb6 (c0:=Qai Tryz.prog 39 18 (([.agg (Qah s).toArray,slI load,.int .i64 days]).map (Qaq 0 4))) (by kernel_rfl) (by kernel_rfl) fun B hJ=> Qxn s load days hb hl hJ
def QfY (s:Qaa):Bool:=((s.lots.take 12).all fun l=> decide (l.goods.length<=8)) && (decide (s.stock.length<=8) && (decide (s.use.length<=8) && decide (s.lots.length<=9)))
theorem Qc3 {s:Qaa} (h:QfY s=true):∀l∈s.lots,l.goods.length<=8:=by
 simp only [QfY,Bool.and_eq_true,decide_eq_true_iff,List.all_eq_true] at h
 intro l hl
 refine h.1 l ?_
 rw [List.take_of_length_le (by omega)];exact hl
theorem Qxy (s:Qaa):Qas Tryz.prog J0 36 #[.agg (Qah s).toArray] (.bool (QfY s)):=Q3n s
end
end Go.Proofs.YtiabgkiccaodmaaGreat

namespace Go.Proofs.YtiabgkiccaodmaaGreat
open Go Go.CE Go.RowKit
def Q2G:Sh:=shS [.slice Qs2,.int,.int]
def Qku:Sh:=shS [.slice .int,.slice Qs2,Qs2,.slice Q2G,.int]
theorem Q1h {cs:List Value} (h:Q2G.ok cs):∃l:Qad,cs=Qam l:=by
 obtain ⟨_,_,rfl,h1,_,_,rfl,⟨a,_,rfl⟩,_,_,rfl,⟨b,_,rfl⟩,rfl⟩:=h
 obtain ⟨ss,rfl⟩:=Qil (fun _=> QnH) h1
 exact ⟨⟨ss,a,b⟩,rfl⟩
theorem QuL {v:Value} (h:Qku.arg v):∃s:Qaa,v=.agg (Qah s).toArray:=by
 obtain ⟨cs,rfl,h⟩:=h
 obtain ⟨_,_,rfl,h1,_,_,rfl,h2,_,_,rfl,h3,_,_,rfl,h4,_,_,rfl,⟨f,_,rfl⟩,rfl⟩:=h
 obtain ⟨xs,rfl⟩:=Qil (fun _=> Q0B) h1
 obtain ⟨us,rfl⟩:=Qil (fun _=> QnH) h2
 obtain ⟨g,rfl⟩:=QnH h3
 obtain ⟨ls,rfl⟩:=Qil (fun _=> Q1h) h4
 exact ⟨⟨xs,us,g.lo,g.hi,ls,f⟩,rfl⟩
theorem Qyt {v:Value} (h:Sh.arg (.slice .int) v):∃xs:List Int,v=slI xs:=by
 obtain ⟨xs,hx⟩:=Qil (fun _=> Q0B) (show Sh.ok (.slice .int) [v] from h)
 exact ⟨xs,by simpa using hx⟩
end Go.Proofs.YtiabgkiccaodmaaGreat

namespace Go.Proofs.YtiabgkiccaodmaaGreat
open Go Go.CE Go.RowKit
noncomputable section
set_option maxRecDepth 100000
def Qfu (xs:List Span) (i:Int) (ys:List Int):List Value:=[Value.func (Fn.func 103) #[] #[],.slice (some {block:=2,off:=0}) xs.length 1,Qa0 1 (slT xs.length (Qac Qa6 xs)),.int .i64 (↑xs.length:Int),.int .i64 i]
def Qdh (xs:List Span) (i:Int) (ys:List Int):List Obj:=[.cells (Qac Qar ys) 3 (0,0)]
def Qfn:List Item:=([.code [1,1,0,1,0,0],.inLoop [1,1,0,1,0,0],.inBlock 0,.code [1,1,1]]).map (it (Qal Tryz.prog 160))
def QuE (B:Lo) (c0:CF) (xs:List Span) (i:Int) (ys:List Int):Prop:=∃dJ:Nat->Value,(∀t,QaS (dJ t))/\GoE Tryz.prog B c0 H00 1 (Qa4 160 26 (([1,5,11,12,13]:List Nat).zip (Qfu xs i ys)) dJ Qfn) (Qa3 (Qdh xs i ys)) (2+(Qdh xs i ys).length) []
def QiV (xs:List Span) (i:Int):Array Value:=#[.int .i64 (Span.lo (xs.getD i.toNat default)),.int .i64 (Span.hi (xs.getD i.toNat default))]
theorem QtG (B:Lo) (xs:List Span) (i:Int) (ys:List Int) (dJ0:Nat->Value):landM (Qak Tryz.prog (Qa1 Tryz.prog) J0 B 13 1 (Qa4 160 26 (([1,5,11,12,13]:List Nat).zip (Qfu xs i ys)) dJ0 Qfn) (Qa3 (Qdh xs i ys)) (2+(Qdh xs i ys).length)
 [(0,hvT),(2,Qaj.tidx i.toNat (QiV xs i)),(11,Qaj.pure (.int .i64 (Span.hi (xs.getD i.toNat default))) []),(12,Qaj.old (Hint.idx i.toNat)),(13,Qaj.old (Hint.st (Qac Qar (List.set ys i.toNat (Span.hi (xs.getD i.toNat default)))))),(14,hvI (i+1))] 0 [] []) [1,5,11,12,13] [(2,KS.cells [] (Qac Qar (List.set ys i.toNat (Span.hi (xs.getD i.toNat default)))))] []=some ⟨160,26,Qfn,[],.run,none,Qfu xs (i+1) (List.set ys i.toNat (Span.hi (xs.getD i.toNat default))),Qdh xs (i+1) (List.set ys i.toNat (Span.hi (xs.getD i.toNat default))),
 [QaQ 1 [] (Qac Qar (List.set ys i.toNat (Span.hi (xs.getD i.toNat default)))) (Qac Qar (List.set ys i.toNat (Span.hi (xs.getD i.toNat default)))),wq (i+1)=i+1,0+Int.toNat i * 1+TypeInfo.size Tryz.t3<=Array.size (Qac Qar ys)/\splice (Qac Qar ys) (0+Int.toNat i * 1) (Value.cells (Qce {len:=16000,tr:=Tri.set 14 (Tri.set 14 Tri.lf 22 (.int .i64 (Span.hi (xs.getD i.toNat default)))) 23 (.pointer (some {block:=2,off:=0+Int.toNat i * 1}))} 22))=Qac Qar (List.set ys i.toNat (Span.hi (xs.getD i.toNat default))),i=(↑i.toNat:Int)/\Int.toNat i < List.length xs,Qa7 []/\Qas Tryz.prog J0 103 #[.agg (QiV xs i)] (.int .i64 (Span.hi (xs.getD i.toNat default))),i=(↑i.toNat:Int)/\Int.toNat i < List.length xs/\Array.extract (Qac Qa6 xs) (Int.toNat i * TypeInfo.size Tryz.t25) (Int.toNat i * TypeInfo.size Tryz.t25+TypeInfo.size Tryz.t25)=(QiV xs i),ltq i (↑xs.length:Int)=true]⟩:=by kernel_rfl
theorem Qug (B:Lo) (xs:List Span) (i:Int) (ys:List Int) (dJ0:Nat->Value):Qbb (Qak Tryz.prog (Qa1 Tryz.prog) J0 B 9 1 (Qa4 160 26 (([1,5,11,12,13]:List Nat).zip (Qfu xs i ys)) dJ0 Qfn) (Qa3 (Qdh xs i ys)) (2+(Qdh xs i ys).length)
 [(0,hvF)] 0 [] []) [{k:=2,rs:=[],cs:=Qac Qar ys}]=some (slT xs.length (Fz.cs {k:=2,rs:=[],cs:=Qac Qar ys}),
 [Qb8 (Fz.rs {k:=2,rs:=[],cs:=Qac Qar ys}) (Qac Qar ys) (Fz.cs {k:=2,rs:=[],cs:=Qac Qar ys}),ltq i (↑xs.length:Int)=false]):=by kernel_rfl
theorem Qum (B:Lo) (xs:List Span):landM (Qak Tryz.prog (Qa1 Tryz.prog) J0 B 9 1 (Qai Tryz.prog 160 26 (([Qqq xs,.func (.func 103) #[] #[]]).map (Qaq 0 4))) H00 1
 [(3,Qaj.old (Hint.mk xs.length (Qac (Qcr [.int .i64 0]) (List.replicate xs.length ()))))] 0 [] []) [1,5,11,12,13] [(1,KS.rows [] [] (Qac Qar (List.replicate xs.length 0)))] []=some ⟨160,26,Qfn,[],.run,none,Qfu xs (0) (List.replicate xs.length 0),Qdh xs (0) (List.replicate xs.length 0),
 [QaY 1 [] [] (Qac (Qcr [.int .i64 0]) (List.replicate xs.length ())) (Qac Qar (List.replicate xs.length 0)),Qhl Tryz.prog 22 (Qce {len:=16000,tr:=Tri.set 14 Tri.lf 9 (.int .i64 (↑xs.length:Int))} 9) (Qce {len:=16000,tr:=Tri.set 14 Tri.lf 9 (.int .i64 (↑xs.length:Int))} 9)=some (3,Qac (Qcr [.int .i64 0]) (List.replicate xs.length ()),List.length xs,TypeInfo.size Tryz.t3)]⟩:=by kernel_rfl
set_option maxHeartbeats 4000000 in
theorem QtM (xs:List Span) (hn:xs.length<=1000000) {B:Lo} (hJ:∀w,B.has w->J0 w) {c0:CF}:∀m:Nat,(∀(i:Int) (ys:List Int),(xs.length - i.toNat)=m->∀(h0:0<=i) (hy:ys=Qh1 Span.hi 0 xs i),QuE B c0 xs i ys->EndsT Tryz.prog B c0 (slI (xs.map Span.hi))):=by
 intro m0
 induction m0 using Nat.strongRecOn with
 | _ m0 ih0=>
   intro i ys hm0 h0 hy ⟨dJ0,hdJ0,hg0⟩
   have hyl:ys.length=xs.length:=by rw [hy];exact Qfv
   by_cases q0:(i:Int) < ((↑xs.length:Int))
   ·
    exact ((ih0 _ (by omega)) (i+1) (List.set ys i.toNat (Span.hi (xs.getD i.toNat default))) rfl (by omega) (by (subst hy;exact Qfz (f:=Span.hi) h0 q0))
     (hg0.landM okF hJ Qab (QtG B xs i ys dJ0)
     ⟨(Qao (Qaw (fun x=> List.all_eq_true.1 (by rfl)))),⟨(QaJ (by omega) (by omega)),⟨(by exact Qin (z:=1) (fun _=> rfl) (by omega) rfl rfl),⟨⟨by omega,by omega⟩,⟨⟨trivial,Q2u (Span.lo (xs.getD i.toNat default)) (Span.hi (xs.getD i.toNat default))⟩,⟨⟨by omega,by omega,(Qaf (z:=2) (fun _=> rfl) (by omega))⟩,⟨(Qbl q0),trivial⟩⟩⟩⟩⟩⟩⟩ (by kernel_rfl) (by kernel_rfl))).cast (by rfl)
   ·
    exact (GoE.endsT okF hJ Qab hg0 (Qug B xs i ys dJ0)
     ⟨(Qbe (fun x=> List.all_eq_true.1 (by rfl))),⟨(Qbq (Int.not_lt.1 q0)),trivial⟩⟩).cast (by exact Qhr (hy.trans (Qfd (by omega))) (by simp))
set_option maxHeartbeats 4000000 in
theorem Qvp (xs:List Span) (hn:xs.length<=1000000) {B:Lo} (hJ:∀w,B.has w->J0 w):EndsT Tryz.prog B (Qai Tryz.prog 160 26 (([Qqq xs,.func (.func 103) #[] #[]]).map (Qaq 0 4))) (slI (xs.map Span.hi)):=by
 exact ((QtM xs hn hJ _) (0) (List.replicate xs.length 0) rfl (by omega) (by exact QiY)
  (GoE.start.landM okF hJ Qab (Qum B xs)
  ⟨(by exact (Qcy (by exact ⟨(.simple rfl),trivial⟩) _)),⟨(Qjr (bytes:=8) (by kernel_rfl) (by omega) (by omega) (by omega)),trivial⟩⟩ (by kernel_rfl) (by kernel_rfl))).cast (by rfl)
theorem Q1O (xs:List Span) (hn:xs.length<=1000000):Qas Tryz.prog J0 160 #[Qqq xs,.func (.func 103) #[] #[]] (slI (xs.map Span.hi)):=
 QaE (ts:=[Qqq xs,.func (.func 103) #[] #[]]) Qb6 (c0:=Qai Tryz.prog 160 26 (([Qqq xs,.func (.func 103) #[] #[]]).map (Qaq 0 4))) (by kernel_rfl) (by kernel_rfl) fun B hJ=> Qvp xs hn hJ
def Qfg (xs:List Span) (i:Int) (ys:List Int):List Value:=[Value.func (Fn.func 104) #[] #[],.slice (some {block:=2,off:=0}) xs.length 1,Qa0 1 (slT xs.length (Qac Qa6 xs)),.int .i64 (↑xs.length:Int),.int .i64 i]
def Qdg (xs:List Span) (i:Int) (ys:List Int):List Obj:=[.cells (Qac Qar ys) 3 (0,0)]
def Qfj:List Item:=([.code [1,1,0,1,0,0],.inLoop [1,1,0,1,0,0],.inBlock 0,.code [1,1,1]]).map (it (Qal Tryz.prog 160))
def Qth (B:Lo) (c0:CF) (xs:List Span) (i:Int) (ys:List Int):Prop:=∃dJ:Nat->Value,(∀t,QaS (dJ t))/\GoE Tryz.prog B c0 H00 1 (Qa4 160 26 (([1,5,11,12,13]:List Nat).zip (Qfg xs i ys)) dJ Qfj) (Qa3 (Qdg xs i ys)) (2+(Qdg xs i ys).length) []
def QiH (xs:List Span) (i:Int):Array Value:=#[.int .i64 (Span.lo (xs.getD i.toNat default)),.int .i64 (Span.hi (xs.getD i.toNat default))]
theorem QuF (B:Lo) (xs:List Span) (i:Int) (ys:List Int) (dJ0:Nat->Value):landM (Qak Tryz.prog (Qa1 Tryz.prog) J0 B 13 1 (Qa4 160 26 (([1,5,11,12,13]:List Nat).zip (Qfg xs i ys)) dJ0 Qfj) (Qa3 (Qdg xs i ys)) (2+(Qdg xs i ys).length)
 [(0,hvT),(2,Qaj.tidx i.toNat (QiH xs i)),(11,Qaj.pure (.int .i64 (Span.lo (xs.getD i.toNat default))) []),(12,Qaj.old (Hint.idx i.toNat)),(13,Qaj.old (Hint.st (Qac Qar (List.set ys i.toNat (Span.lo (xs.getD i.toNat default)))))),(14,hvI (i+1))] 0 [] []) [1,5,11,12,13] [(2,KS.cells [] (Qac Qar (List.set ys i.toNat (Span.lo (xs.getD i.toNat default)))))] []=some ⟨160,26,Qfj,[],.run,none,Qfg xs (i+1) (List.set ys i.toNat (Span.lo (xs.getD i.toNat default))),Qdg xs (i+1) (List.set ys i.toNat (Span.lo (xs.getD i.toNat default))),
 [QaQ 1 [] (Qac Qar (List.set ys i.toNat (Span.lo (xs.getD i.toNat default)))) (Qac Qar (List.set ys i.toNat (Span.lo (xs.getD i.toNat default)))),wq (i+1)=i+1,0+Int.toNat i * 1+TypeInfo.size Tryz.t3<=Array.size (Qac Qar ys)/\splice (Qac Qar ys) (0+Int.toNat i * 1) (Value.cells (Qce {len:=16000,tr:=Tri.set 14 (Tri.set 14 Tri.lf 22 (.int .i64 (Span.lo (xs.getD i.toNat default)))) 23 (.pointer (some {block:=2,off:=0+Int.toNat i * 1}))} 22))=Qac Qar (List.set ys i.toNat (Span.lo (xs.getD i.toNat default))),i=(↑i.toNat:Int)/\Int.toNat i < List.length xs,Qa7 []/\Qas Tryz.prog J0 104 #[.agg (QiH xs i)] (.int .i64 (Span.lo (xs.getD i.toNat default))),i=(↑i.toNat:Int)/\Int.toNat i < List.length xs/\Array.extract (Qac Qa6 xs) (Int.toNat i * TypeInfo.size Tryz.t25) (Int.toNat i * TypeInfo.size Tryz.t25+TypeInfo.size Tryz.t25)=(QiH xs i),ltq i (↑xs.length:Int)=true]⟩:=by kernel_rfl
theorem Quy (B:Lo) (xs:List Span) (i:Int) (ys:List Int) (dJ0:Nat->Value):Qbb (Qak Tryz.prog (Qa1 Tryz.prog) J0 B 9 1 (Qa4 160 26 (([1,5,11,12,13]:List Nat).zip (Qfg xs i ys)) dJ0 Qfj) (Qa3 (Qdg xs i ys)) (2+(Qdg xs i ys).length)
 [(0,hvF)] 0 [] []) [{k:=2,rs:=[],cs:=Qac Qar ys}]=some (slT xs.length (Fz.cs {k:=2,rs:=[],cs:=Qac Qar ys}),
 [Qb8 (Fz.rs {k:=2,rs:=[],cs:=Qac Qar ys}) (Qac Qar ys) (Fz.cs {k:=2,rs:=[],cs:=Qac Qar ys}),ltq i (↑xs.length:Int)=false]):=by kernel_rfl
theorem Qtw (B:Lo) (xs:List Span):landM (Qak Tryz.prog (Qa1 Tryz.prog) J0 B 9 1 (Qai Tryz.prog 160 26 (([Qqq xs,.func (.func 104) #[] #[]]).map (Qaq 0 4))) H00 1
 [(3,Qaj.old (Hint.mk xs.length (Qac (Qcr [.int .i64 0]) (List.replicate xs.length ()))))] 0 [] []) [1,5,11,12,13] [(1,KS.rows [] [] (Qac Qar (List.replicate xs.length 0)))] []=some ⟨160,26,Qfj,[],.run,none,Qfg xs (0) (List.replicate xs.length 0),Qdg xs (0) (List.replicate xs.length 0),
 [QaY 1 [] [] (Qac (Qcr [.int .i64 0]) (List.replicate xs.length ())) (Qac Qar (List.replicate xs.length 0)),Qhl Tryz.prog 22 (Qce {len:=16000,tr:=Tri.set 14 Tri.lf 9 (.int .i64 (↑xs.length:Int))} 9) (Qce {len:=16000,tr:=Tri.set 14 Tri.lf 9 (.int .i64 (↑xs.length:Int))} 9)=some (3,Qac (Qcr [.int .i64 0]) (List.replicate xs.length ()),List.length xs,TypeInfo.size Tryz.t3)]⟩:=by kernel_rfl
set_option maxHeartbeats 4000000 in
theorem QtE (xs:List Span) (hn:xs.length<=1000000) {B:Lo} (hJ:∀w,B.has w->J0 w) {c0:CF}:∀m:Nat,(∀(i:Int) (ys:List Int),(xs.length - i.toNat)=m->∀(h0:0<=i) (hy:ys=Qh1 Span.lo 0 xs i),Qth B c0 xs i ys->EndsT Tryz.prog B c0 (slI (xs.map Span.lo))):=by
 intro m0
 induction m0 using Nat.strongRecOn with
 | _ m0 ih0=>
   intro i ys hm0 h0 hy ⟨dJ0,hdJ0,hg0⟩
   have hyl:ys.length=xs.length:=by rw [hy];exact Qfv
   by_cases q0:(i:Int) < ((↑xs.length:Int))
   ·
    exact ((ih0 _ (by omega)) (i+1) (List.set ys i.toNat (Span.lo (xs.getD i.toNat default))) rfl (by omega) (by (subst hy;exact Qfz (f:=Span.lo) h0 q0))
     (hg0.landM okF hJ Qab (QuF B xs i ys dJ0)
     ⟨(Qao (Qaw (fun x=> List.all_eq_true.1 (by rfl)))),⟨(QaJ (by omega) (by omega)),⟨(by exact Qin (z:=1) (fun _=> rfl) (by omega) rfl rfl),⟨⟨by omega,by omega⟩,⟨⟨trivial,Q4w (Span.lo (xs.getD i.toNat default)) (Span.hi (xs.getD i.toNat default))⟩,⟨⟨by omega,by omega,(Qaf (z:=2) (fun _=> rfl) (by omega))⟩,⟨(Qbl q0),trivial⟩⟩⟩⟩⟩⟩⟩ (by kernel_rfl) (by kernel_rfl))).cast (by rfl)
   ·
    exact (GoE.endsT okF hJ Qab hg0 (Quy B xs i ys dJ0)
     ⟨(Qbe (fun x=> List.all_eq_true.1 (by rfl))),⟨(Qbq (Int.not_lt.1 q0)),trivial⟩⟩).cast (by exact Qhr (hy.trans (Qfd (by omega))) (by simp))
set_option maxHeartbeats 4000000 in
theorem Qwd (xs:List Span) (hn:xs.length<=1000000) {B:Lo} (hJ:∀w,B.has w->J0 w):EndsT Tryz.prog B (Qai Tryz.prog 160 26 (([Qqq xs,.func (.func 104) #[] #[]]).map (Qaq 0 4))) (slI (xs.map Span.lo)):=by
 exact ((QtE xs hn hJ _) (0) (List.replicate xs.length 0) rfl (by omega) (by exact QiY)
  (GoE.start.landM okF hJ Qab (Qtw B xs)
  ⟨(by exact (Qcy (by exact ⟨(.simple rfl),trivial⟩) _)),⟨(Qjr (bytes:=8) (by kernel_rfl) (by omega) (by omega) (by omega)),trivial⟩⟩ (by kernel_rfl) (by kernel_rfl))).cast (by rfl)
theorem Q1D (xs:List Span) (hn:xs.length<=1000000):Qas Tryz.prog J0 160 #[Qqq xs,.func (.func 104) #[] #[]] (slI (xs.map Span.lo)):=
 QaE (ts:=[Qqq xs,.func (.func 104) #[] #[]]) Qb6 (c0:=Qai Tryz.prog 160 26 (([Qqq xs,.func (.func 104) #[] #[]]).map (Qaq 0 4))) (by kernel_rfl) (by kernel_rfl) fun B hJ=> Qwd xs hn hJ
theorem Qtf (B:Lo) (n d:Int):Qbb (Qak Tryz.prog (Qa1 Tryz.prog) J0 B 6 1 (Qai Tryz.prog 132 11 (([.int .i64 n,.int .i64 d]).map (Qaq 0 4))) H00 1
 [(3,hvI (n+d)),(4,hvI (n+d - 1)),(6,Qaj.bin (.int .i64 (Int.tdiv (n+d - 1) d)))] 0 [] []) []=some (.int .i64 (Int.tdiv (n+d - 1) d),
 [QkT Tryz.prog BinOp.quo 3 (Qce {len:=16000,tr:=Tri.set 14 (Tri.set 14 Tri.lf 9 (.int .i64 d)) 8 (.int .i64 (n+d - 1))} 8) (Qce {len:=16000,tr:=Tri.set 14 (Tri.set 14 Tri.lf 9 (.int .i64 d)) 8 (.int .i64 (n+d - 1))} 9) (.int .i64 (Int.tdiv (n+d - 1) d)),wq (n+d - 1)=n+d - 1,wq (n+d)=n+d]):=by kernel_rfl
set_option maxHeartbeats 4000000 in
theorem QxS (n d:Int) (hn:0<=n/\n<=2000000) (hd:1<=d/\d<=1000) {B:Lo} (hJ:∀w,B.has w->J0 w):EndsT Tryz.prog B (Qai Tryz.prog 132 11 (([.int .i64 n,.int .i64 d]).map (Qaq 0 4))) (.int .i64 ((n+d - 1).tdiv d)):=by
 have e1:(n+d - 1).tdiv d=(n+d - 1) / d:=Int.tdiv_eq_ediv_of_nonneg (by omega)
 have e2:(n+d - 1) / d<=n+d - 1:=Int.ediv_le_self _ (by omega)
 have e3:0<=(n+d - 1) / d:=Int.ediv_nonneg (by omega) (by omega)
 exact (GoE.endsT okF hJ Qab GoE.start (Qtf B n d)
  ⟨(Q0Y (by omega) rfl (by omega) (by omega)),⟨(QaJ (by omega) (by omega)),⟨(QaJ (by omega) (by omega)),trivial⟩⟩⟩).cast (by rfl)
theorem Qr4 (n d:Int) (hn:0<=n/\n<=2000000) (hd:1<=d/\d<=1000):Qas Tryz.prog J0 132 #[.int .i64 n,.int .i64 d] (.int .i64 ((n+d - 1).tdiv d)):=
 QaE (ts:=[.int .i64 n,.int .i64 d]) Qb6 (c0:=Qai Tryz.prog 132 11 (([.int .i64 n,.int .i64 d]).map (Qaq 0 4))) (by kernel_rfl) (by kernel_rfl) fun B hJ=> QxS n d hn hd hJ
end
end Go.Proofs.YtiabgkiccaodmaaGreat

namespace Go.CE
open Go Go.RowKit

section
variable {P:Program} {F:FuncId->Bool} {T:Tm} {o:Oper} {H:Qap} {n:Nat}
theorem Qtu {t e:TypeId} {x lo:Operand} {b off m s z:Nat} {k:IntKind} {l:Int} (ho:o.op=.slice t x (some lo) none none) (hx:evC T x=some (.slice (some ⟨b,off,none⟩) m s)) (hl:evC T lo=some (.int k l)) (hu:und P t=some (.slice e)) (hz:QeS P e=some (z+1)) (h1:0 < l) (h2:l < m):
 opS P F Qb4 (fun _ _ _=> none) T o H n=some ⟨.ret (.slice (some ⟨b,off+l.toNat * (z+1),none⟩) (m - l.toNat) 0),H,n,[],[]⟩:=by
 have e1:Qyh m (some (.int k l)) none=some (l.toNat,m):=by
  simp only [Qyh,bnd,decide_eq_true (show (0:Int)<=l by omega),decide_eq_true (show l<=(m:Int) by omega),Bool.and_self,cond_true]
 have e2:Nat.beq l.toNat 0=false:=by cases h:Nat.beq l.toNat 0 with
  | false=> rfl
  | true=> have:=Nat.eq_of_beq_eq_true h;omega
 have e3:Nat.blt l.toNat m=true:=Nat.ble_eq_true_of_le (show l.toNat+1<=m by omega)
 have e4:Qhc P t (.slice (some ⟨b,off,none⟩) m s) (some (.int k l)) none=some (.slice (some ⟨b,off+l.toNat * (z+1),none⟩) (m - l.toNat) 0):=by
  simp only [Qhc,hu,hz,e1,e2,e3,cond_true,cond_false]
 have e5:QjY P F (evC T) o H n=some ⟨.val (.slice (some ⟨b,off+l.toNat * (z+1),none⟩) (m - l.toNat) 0),H,n,[],[]⟩:=by
  unfold QjY cop
  simp only [ho,hx,evo,hl,e4,mkPure,Option.map_some,List.all_nil,cond_true]
 unfold opS
 simp only [ho,e5]
theorem Qtq {t e:TypeId} {x hi:Operand} {b off m s z:Nat} {k:IntKind} {l:Int} (ho:o.op=.slice t x none (some hi) none) (hx:evC T x=some (.slice (some ⟨b,off,none⟩) m s)) (hl:evC T hi=some (.int k l)) (hu:und P t=some (.slice e)) (hz:QeS P e=some (z+1)) (h1:0<=l) (h2:l<=m):
 opS P F Qb4 (fun _ _ _=> none) T o H n=some ⟨.ret (.slice (some ⟨b,off,none⟩) l.toNat s),H,n,[],[]⟩:=by
 have e1:Qyh m none (some (.int k l))=some (0,l.toNat):=by
  simp only [Qyh,bnd,decide_eq_true h1,decide_eq_true h2,Bool.and_self,cond_true]
 have e4:Qhc P t (.slice (some ⟨b,off,none⟩) m s) none (some (.int k l))=some (.slice (some ⟨b,off,none⟩) l.toNat s):=by
  simp only [Qhc,hu,hz,e1,show Nat.beq 0 0=true from rfl,cond_true]
 have e5:QjY P F (evC T) o H n=some ⟨.val (.slice (some ⟨b,off,none⟩) l.toNat s),H,n,[],[]⟩:=by
  unfold QjY cop
  simp only [ho,hx,evo,hl,e4,mkPure,Option.map_some,List.all_nil,cond_true]
 unfold opS
 simp only [ho,e5]
theorem Qx8 {c:Call} {s x:Operand} {t t2 e te:TypeId} {b off k s1 b2 off2 m s2 z q:Nat} {cs cs2 cs':Array Value} {te2:TypeId} {f2:Nat×Nat} {H':Qap} (ho:o.op=.call c) (hc:c.callee=.builtin .copy) (ha:c.args.toList=[s,x]) (hat:c.argTypes.toList=[t,t2])
 (hs:evC T s=some (.slice (some ⟨b,off,none⟩) k s1)) (hx:evC T x=some (.slice (some ⟨b2,off2,none⟩) m s2)) (hu:und P t=some (.slice e)) (hz:QeS P e=some z) (hb:Qau H b=some (.cells cs te (0,0))) (hb2:Qau H b2=some (.cells cs2 te2 f2)) (hn:b < n) (hn2:b2 < n)
 (hH:QfO H b (.cells cs' te (0,0))=H') (hq:q=Nat.min m k) (hf:off+q * z<=cs.size/\off2+q * z<=cs2.size/\ones (cs2.extract off2 (off2+q * z))=true/\splice cs off (cs2.extract off2 (off2+q * z))=cs'):
 opS P F Qb4 (fun _ _ _=> none) T o H n=some ⟨.ret (.int .i64 q),H',n,[b,b2],[b]⟩:=by
 obtain ⟨h1,h2,h3,h4⟩:=hf
 subst hq hH h4
 have e4:Qrv P t H n (.slice (some ⟨b,off,none⟩) k s1) (.slice (some ⟨b2,off2,none⟩) m s2)=some ⟨.val (.int .i64 (Nat.min m k)),QfO H b (.cells (splice cs off (cs2.extract off2 (off2+Nat.min m k * z))) te (0,0)),n,[b,b2],[b]⟩:=by
  simp only [Qrv,hu,hz,hb,hb2,h3,show Nat.ble (off+Nat.min m k * z) cs.size=true from Nat.ble_eq_true_of_le h1,show Nat.ble (off2+Nat.min m k * z) cs2.size=true from Nat.ble_eq_true_of_le h2,Bool.and_self,cond_true]
 have e5:QjY P F (evC T) o H n=some ⟨.val (.int .i64 (Nat.min m k)),QfO H b (.cells (splice cs off (cs2.extract off2 (off2+Nat.min m k * z))) te (0,0)),n,[b,b2],[b]⟩:=by
  unfold QjY cop
  simp only [ho,hc,ha,hat,hs,hx,e4,List.all_cons,List.all_nil,show Nat.blt b n=true from Nat.ble_eq_true_of_le hn,show Nat.blt b2 n=true from Nat.ble_eq_true_of_le hn2,Bool.and_self,cond_true]
 unfold opS
 simp only [ho,e5]
end
section
variable {P:Program} {F:FuncId->Bool} {T:Tm} {o:Oper} {H:Qap} {n:Nat}
end
theorem Qwx {α:Type} {e:α->List Value} (h:∀x,(e x).all (·.oneCell')=true) (zs:List α) (i j:Nat):ones ((Qac e zs).extract i j)=true:=by
 unfold ones
 rw [Array.all_eq_true']
 intro v hv
 have hv':v∈(Qac e zs).toList:=by
  have:=Array.mem_def.1 hv
  rw [Array.toList_extract,List.extract_eq_take_drop] at this
  exact List.mem_of_mem_drop (List.mem_of_mem_take this)
 simp only [Qac,List.mem_flatMap] at hv'
 obtain ⟨x,_,hx⟩:=hv'
 exact List.all_eq_true.1 (h x) v hx
def Qoj {α:Type} (ys:List α) (a:Nat) (zs:List α):List α:=ys.take a++zs++ys.drop (a+zs.length)
theorem QpM {α:Type} {e:α->List Value} {z:Nat} (h:∀x,(e x).length=z):∀(zs:List α) (c:Nat),(zs.flatMap e).drop (c * z)=(zs.drop c).flatMap e:=by
 intro zs
 induction zs with
 | nil=> intro c;simp
 | cons x zs ih=>
   intro c
   cases c with
   | zero=> simp
   | succ c=>
     rw [List.flatMap_cons,List.drop_succ_cons,<-ih c,Nat.succ_mul,Nat.add_comm,List.drop_append]
     rw [List.drop_eq_nil_of_le (by rw [h];omega),List.nil_append,h]
     congr 1;omega
theorem QoY {α:Type} {e:α->List Value} {z:Nat} (h:∀x,(e x).length=z):∀(zs:List α) (q:Nat),(zs.flatMap e).take (q * z)=(zs.take q).flatMap e:=by
 intro zs
 induction zs with
 | nil=> intro q;simp
 | cons x zs ih=>
   intro q
   cases q with
   | zero=> simp
   | succ q=>
     rw [List.flatMap_cons,List.take_succ_cons,List.flatMap_cons,<-ih q,Nat.succ_mul,Nat.add_comm,List.take_append]
     rw [List.take_of_length_le (by rw [h];omega),h]
     congr 2;omega
theorem Qy0 {α:Type} {e:α->List Value} {z:Nat} (h:∀x,(e x).length=z) (zs:List α) (c q:Nat):(Qac e zs).extract (c * z) (c * z+q * z)=Qac e ((zs.drop c).take q):=by
 apply Array.toList_inj.1
 simp only [Qac,Array.toList_extract,List.extract_eq_take_drop,QpM h]
 rw [show c * z+q * z - c * z=q * z by omega,QoY h]
theorem Qev {α:Type} {e:α->List Value} {xs:List α} {x:α} {cs:Array Value} (h:cs=(e x).toArray):Qac e xs++cs=Qac e (xs++[x]):=by
 rw [h];exact QdY
theorem Qz1 {α:Type} {e:α->List Value} {z:Nat} (h:∀x,(e x).length=z) {ys zs:List α} {a:Nat}:splice (Qac e ys) (a * z) (Qac e zs)=Qac e (Qoj ys a zs):=by
 have hl:(zs.flatMap e).length=zs.length * z:=by
  have:=Qbp (e:=e) (xs:=zs) h
  simpa [Qac] using this
 apply Array.toList_inj.1
 simp only [splice,Qac,Qoj,List.flatMap_append,QoY h]
 rw [hl,<-Nat.add_mul,QpM h]
theorem Qw2 {α:Type} {e:α->List Value} {z:Nat} (h:∀x,(e x).length=z) (hs:∀x,(e x).all (·.oneCell')=true) {ys zs:List α} {a c q:Nat} (h1:a+q<=ys.length) (h2:c+q<=zs.length):
 a * z+q * z<=(Qac e ys).size/\c * z+q * z<=(Qac e zs).size/\ones ((Qac e zs).extract (c * z) (c * z+q * z))=true/\splice (Qac e ys) (a * z) ((Qac e zs).extract (c * z) (c * z+q * z))=Qac e (Qoj ys a ((zs.drop c).take q)):=by
 refine ⟨?_, ?_,Qwx hs _ _ _, ?_⟩
 ·rw [Qbp h,<-Nat.add_mul];exact Nat.mul_le_mul_right _ h1
 ·rw [Qbp h,<-Nat.add_mul];exact Nat.mul_le_mul_right _ h2
 ·rw [Qy0 h,Qz1 h]
theorem QmT {α:Type} {e:α->List Value} {z:Nat} (h:∀x,(e x).length=z) (hs:∀x,(e x).all (·.oneCell')=true) {ys zs:List α} {a c q:Nat} (h1:a+q<=ys.length) (h2:c+q<=zs.length):
 0+a * z+q * z<=(Qac e ys).size/\0+c * z+q * z<=(Qac e zs).size/\ones ((Qac e zs).extract (0+c * z) (0+c * z+q * z))=true/\splice (Qac e ys) (0+a * z) ((Qac e zs).extract (0+c * z) (0+c * z+q * z))=Qac e (Qoj ys a ((zs.drop c).take q)):=by
 simp only [Nat.zero_add];exact Qw2 h hs h1 h2
def Qi0 {α:Type} (x x0:α) (n k:Nat):List α:=List.replicate k x++List.replicate (n - k) x0
theorem Qzi {α:Type} {x x0:α} {n k:Nat} (h:k<=n):(Qi0 x x0 n k).length=n:=by simp [Qi0];omega
theorem Qza {α:Type} {x x0:α} {n:Nat}:Qi0 x x0 n n=List.replicate n x:=by simp [Qi0]
theorem QyD {α:Type} {x x0:α} {n k q:Nat} (h:k+q<=n) (hq:q<=k):Qoj (Qi0 x x0 n k) k (((Qi0 x x0 n k).drop 0).take q)=Qi0 x x0 n (k+q):=by
 have e1:(Qi0 x x0 n k).take k=List.replicate k x:=by simp [Qi0]
 have e2:((Qi0 x x0 n k).drop 0).take q=List.replicate q x:=by
  simp [Qi0,List.take_append,Nat.min_eq_left hq];omega
 have e3:(Qi0 x x0 n k).drop (k+q)=List.replicate (n - (k+q)) x0:=by
  simp [Qi0,List.drop_append,Nat.sub_sub]
 rw [e2,Qoj,e1,List.length_replicate,e3,Qi0,List.append_assoc,<-List.replicate_append_replicate,List.append_assoc]
theorem Qub {α:Type} {x x0:α} {n q:Nat} (hq:q=min 1 n):Qoj (List.replicate n x0) 0 (([x].drop 0).take q)=Qi0 x x0 n q:=by
 subst hq
 cases n with
 | zero=> simp [Qoj,Qi0]
 | succ n=> simp [Qoj,Qi0,show min 1 (n+1)=1 by omega]
def cpE (vs zs:List Value):Bool->List Value
 | true=> vs
 | false=> zs
theorem QwQ {vs zs:List Value} {z q k:Nat} (hv:vs.length=z) (hz:zs.length=z) (hv1:vs.all (·.oneCell')=true) (hz1:zs.all (·.oneCell')=true) (hq:q=min 1 k):
 0+q * z<=(Qac (Qcr zs) (List.replicate k ())).size/\0+q * z<=vs.toArray.size/\ones (vs.toArray.extract 0 (0+q * z))=true/\splice (Qac (Qcr zs) (List.replicate k ())) 0 (vs.toArray.extract 0 (0+q * z))=Qac (cpE vs zs) (Qi0 true false k q):=by
 have e1:Qac (Qcr zs) (List.replicate k ())=Qac (cpE vs zs) (List.replicate k false):=by
  simp [Qac,Qcr,cpE,List.flatMap_replicate]
 have e2:vs.toArray=Qac (cpE vs zs) [true]:=by simp [Qac,cpE]
 have h:∀x,(cpE vs zs x).length=z:=fun x=> by cases x <;> assumption
 have hs:∀x,(cpE vs zs x).all (·.oneCell')=true:=fun x=> by cases x <;> assumption
 have:=QmT h hs (ys:=List.replicate k false) (zs:=[true]) (a:=0) (c:=0) (q:=q) (by simp;omega) (by simp;omega)
 rw [Qub hq] at this
 rw [e1,e2]
 simpa using this
theorem Q2g {α:Type} {e:α->List Value} {x:α} {zs:List Value} {n:Nat}:Qac (cpE (e x) zs) (List.replicate n true)=Qac e (List.replicate n x):=by
 simp [Qac,cpE,List.flatMap_replicate]
theorem Qxb {fm:Nat->Option Obj} {xs:Array Value} (h:xs.all simple=true):TRv fm (.tuple xs) (.tuple xs):=by
 refine .tuple rfl fun i v v' h1 h2=> ?_
 rw [h1] at h2;cases h2
 exact .simple (Array.all_eq_true'.1 h v (Array.mem_of_getElem? h1))
theorem Qnv {P:Program} {F:FuncId->Bool} {J:World->Prop} (hF:∀g,F g=true->Qa1 P g=true) (hmix:P.follows .mixedOrders=true) {g:FuncId} {args:Array Value} {out:Value} {fuel:Nat} (hs:args.all simple=true) (ho:∀fm,TRv fm out out) (ho2:af out=true) (h:Qpb (QlV P F Qb4 fuel g args (QeL 0 []) ([]:List (Array Value×TypeId)).length) out []=true):Qas P J g args out:=fun fm w args' _ _ ha=> by
 have e:args'=args:=by
  refine Array.ext ha.1.symm fun i h1 h2=> ?_
  have k1:args[i]? =some args[i]:=by simp [h2]
  have k2:args'[i]? =some args'[i]:=by simp [h1]
  exact (ha.2 i _ _ k1 k2).simple_eq (Array.all_eq_true'.1 hs _ (Array.getElem_mem h2))
 subst e
 have hc:=Qkf hF hmix (at':=[]) (args':=args') h (w:=w) (I:=fun _=> True) (hI:=fun _ _ _ _=> trivial) (QaG _ _) trivial rfl (fun i x a h=> by simp at h) ⟨rfl,fun i v v' h1 h2=> by rw [h1] at h2;cases h2;exact QbG (Array.all_eq_true'.1 hs v (Array.mem_of_getElem? h1))⟩
 refine hc.mono fun e w' ⟨v',n',H',μ',he,hp,hv,hb,hun,hbel⟩=> ⟨out,by rw [he,Qix ho2 hv],hbel,ho _⟩
end Go.CE

namespace Go.Proofs.YtiabgkiccaodmaaGreat
open Go Go.CE Go.RowKit
noncomputable section
set_option maxRecDepth 100000
theorem Q1N:(List.range 301).all (fun x=> Qpb (QlV Tryz.prog (Qa1 Tryz.prog) Qb4 10000 168 #[.int .u64 1,.int .u64 (x:Nat)] (QeL 0 []) ([]:List (Array Value×TypeId)).length) (.tuple #[.int .u64 0,.int .u64 (x:Nat)]) [])=true:=by decide+kernel
theorem Q4x (s:Int) (h0:0<=s) (h1:s<=300):Qas Tryz.prog J0 168 #[.int .u64 1,.int .u64 s] (.tuple #[.int .u64 0,.int .u64 s]):=by
 obtain ⟨k,rfl⟩:∃k:Nat,s=k:=⟨s.toNat,by omega⟩
 exact Qnv okF Qab (fuel:=10000) (by kernel_rfl) (fun _=> Qxb (by kernel_rfl)) (by kernel_rfl) (List.all_eq_true.1 Q1N k (List.mem_range.2 (by omega)))
def Qae (f g:Span->Int) (s:Qaa) (days:Int):Qat:=⟨s.use.map g,List.replicate ((days+g ⟨s.glo,s.ghi⟩ - 1).tdiv (g ⟨s.glo,s.ghi⟩)).toNat (g ⟨s.glo,s.ghi⟩),s.lots.map fun l=> l.goods.map f⟩
theorem Qe5 {d g:Int} (hd:0<=d/\d<=300) (hg:1<=g):0<=(d+g - 1).tdiv g/\(d+g - 1).tdiv g<=300:=by
 rw [Int.tdiv_eq_ediv_of_nonneg (by omega)]
 refine ⟨Int.ediv_nonneg (by omega) (by omega), ?_⟩
 have h1:d<=d * g:=by
  have:=Int.mul_le_mul_of_nonneg_left hg hd.1
  simpa using this
 have:(d+g - 1) / g < d+1:=Int.ediv_lt_of_lt_mul (by omega) (by rw [Int.add_mul];omega)
 omega
def Qcm (s:Qaa) (load days:Int):Qap:=[(5,Obj.cells #[.int .i64 s.ghi] 3),(4,Obj.coro none),(3,Obj.cells #[.slice none 0 0,.slice none 0 0,.slice none 0 0] 65),(2,Obj.cells #[Value.func (Fn.func 104) #[] #[]] 101),(1,Obj.cells #[Qa0 0 (slT s.stock.length (Qac Qar s.stock)),Qa0 0 (slT s.use.length (Qac Qa6 s.use)),.int .i64 s.glo,.int .i64 s.ghi,Qa0 0 (slT s.lots.length (Qac Qam s.lots)),.int .i64 s.hold,.int .i64 load,.int .i64 days] 122),(0,Obj.coro none)]
def Qep (s:Qaa) (load days:Int):CF:=⟨161,ofList 48 [.slice (some {block:=5,off:=0}) 1 1,.int .i64 (Int.tdiv (days+s.ghi - 1) s.ghi)],[Item.code (Qal Tryz.prog 161)],[],.run,none⟩
def Qdw (s:Qaa) (load days:Int) (j:Int) (ys:List Bool):List Value:=[.slice (some {block:=7,off:=0}) (Int.toNat (Int.tdiv (days+s.ghi - 1) s.ghi)) 1,.int .i64 j]
def Qdz (s:Qaa) (load days:Int) (j:Int) (ys:List Bool):List Obj:=[]
def QbN (s:Qaa) (load days:Int) (j:Int) (ys:List Bool):List Obj:=[.cells (Qac (cpE [.int .i64 s.ghi] [.int .i64 0]) ys) 3 (0,0)]
def Qdq:List Item:=([.code [1,1,1,1,1,1,0,0,0],.inLoop [1,1,1,1,1,1,0,0,0],.inBlock 0,.code [1,1,1,1,1,1,1]]).map (it (Qal Tryz.prog 161))
def QbJ (s:Qaa) (load days:Int):Array Value:=#[Qa0 0 (slT s.stock.length (Qac Qar s.stock)),Qa0 0 (slT s.use.length (Qac Qa6 s.use)),.int .i64 s.glo,.int .i64 s.ghi,Qa0 0 (slT s.lots.length (Qac Qam s.lots)),.int .i64 s.hold,.int .i64 load,.int .i64 days]
def QiB (s:Qaa) (i:Int):Array Value:=#[Qa0 10 (slT (List.length (List.map Span.lo (Qad.goods (s.lots.getD i.toNat default)))) (Qac Qar (List.map Span.lo (Qad.goods (s.lots.getD i.toNat default)))))]
def QiE (s:Qaa) (i:Int):Value:=(Qa0 10 (slT (List.length (List.map Span.lo (Qad.goods (s.lots.getD i.toNat default)))) (Qac Qar (List.map Span.lo (Qad.goods (s.lots.getD i.toNat default))))))
theorem QtA (B:Lo) (s:Qaa) (load days:Int) (j:Int) (ys:List Bool) (dJ0:Nat->Value):CE.landA 6 (Qak Tryz.prog (Qa1 Tryz.prog) J0 B 9 6 (Qcw (none) 161 48 (([7,8]:List Nat).zip (Qdw s load days j ys)) dJ0 Qdq) (QbE (Qcm s load days) 6 (([]:List Nat).zip (Qdz s load days j ys)) (QbN s load days j ys)) (6+1+(QbN s load days j ys).length)
 [(3,hvT),(7,Qaj.eval {out:=OO.ret (.slice (some {block:=7,off:=0+Int.toNat j * 1}) (Int.toNat (Int.tdiv (days+s.ghi - 1) s.ghi) - Int.toNat j) 0),H:=[(6,Obj.coro none),(7,Obj.cells (Qac (cpE [.int .i64 s.ghi] [.int .i64 0]) ys) 3),(5,Obj.cells #[.int .i64 s.ghi] 3),(4,Obj.coro none),(3,Obj.cells #[.slice none 0 0,.slice none 0 0,.slice none 0 0] 65),(2,Obj.cells #[Value.func (Fn.func 104) #[] #[]] 101),(1,Obj.cells (QbJ s load days) 122),(0,Obj.coro none)],n:=8,R:=[],W:=[]}),(10,Qaj.eval {out:=OO.ret (.slice (some {block:=7,off:=0}) j.toNat 1),H:=[(6,Obj.coro none),(7,Obj.cells (Qac (cpE [.int .i64 s.ghi] [.int .i64 0]) ys) 3),(5,Obj.cells #[.int .i64 s.ghi] 3),(4,Obj.coro none),(3,Obj.cells #[.slice none 0 0,.slice none 0 0,.slice none 0 0] 65),(2,Obj.cells #[Value.func (Fn.func 104) #[] #[]] 101),(1,Obj.cells (QbJ s load days) 122),(0,Obj.coro none)],n:=8,R:=[],W:=[]}),(11,Qaj.eval {out:=OO.ret (.int .i64 (↑(min j.toNat (Int.toNat (Int.tdiv (days+s.ghi - 1) s.ghi) - Int.toNat j)):Int)),H:=[(6,Obj.coro none),(7,Obj.cells (Qac (cpE [.int .i64 s.ghi] [.int .i64 0]) (Qoj ys j.toNat (List.take (min j.toNat (Int.toNat (Int.tdiv (days+s.ghi - 1) s.ghi) - Int.toNat j)) (List.drop 0 ys)))) 3),(5,Obj.cells #[.int .i64 s.ghi] 3),(4,Obj.coro none),(3,Obj.cells #[.slice none 0 0,.slice none 0 0,.slice none 0 0] 65),(2,Obj.cells #[Value.func (Fn.func 104) #[] #[]] 101),(1,Obj.cells (QbJ s load days) 122),(0,Obj.coro none)],n:=8,R:=[7,7],W:=[7]}),(12,hvI (j+(↑(min j.toNat (Int.toNat (Int.tdiv (days+s.ghi - 1) s.ghi) - Int.toNat j)):Int)))] 0 [] []) [7,8] [] [(7,KS.cells [] (Qac (cpE [.int .i64 s.ghi] [.int .i64 0]) (Qoj ys j.toNat (List.take (min j.toNat (Int.toNat (Int.tdiv (days+s.ghi - 1) s.ghi) - Int.toNat j)) (List.drop 0 ys)))))] []=some ⟨161,48,Qdq,[],.run,none,Qdw s load days (j+(↑(min j.toNat (Int.toNat (Int.tdiv (days+s.ghi - 1) s.ghi) - Int.toNat j)):Int)) (Qoj ys j.toNat (List.take (min j.toNat (Int.toNat (Int.tdiv (days+s.ghi - 1) s.ghi) - Int.toNat j)) (List.drop 0 ys))),([]:List Nat).zip (Qdz s load days (j+(↑(min j.toNat (Int.toNat (Int.tdiv (days+s.ghi - 1) s.ghi) - Int.toNat j)):Int)) (Qoj ys j.toNat (List.take (min j.toNat (Int.toNat (Int.tdiv (days+s.ghi - 1) s.ghi) - Int.toNat j)) (List.drop 0 ys)))),QbN s load days (j+(↑(min j.toNat (Int.toNat (Int.tdiv (days+s.ghi - 1) s.ghi) - Int.toNat j)):Int)) (Qoj ys j.toNat (List.take (min j.toNat (Int.toNat (Int.tdiv (days+s.ghi - 1) s.ghi) - Int.toNat j)) (List.drop 0 ys))),
 [QaQ 6 [] (Qac (cpE [.int .i64 s.ghi] [.int .i64 0]) (Qoj ys j.toNat (List.take (min j.toNat (Int.toNat (Int.tdiv (days+s.ghi - 1) s.ghi) - Int.toNat j)) (List.drop 0 ys)))) (Qac (cpE [.int .i64 s.ghi] [.int .i64 0]) (Qoj ys j.toNat (List.take (min j.toNat (Int.toNat (Int.tdiv (days+s.ghi - 1) s.ghi) - Int.toNat j)) (List.drop 0 ys)))),wq (j+(↑(min j.toNat (Int.toNat (Int.tdiv (days+s.ghi - 1) s.ghi) - Int.toNat j)):Int))=j+(↑(min j.toNat (Int.toNat (Int.tdiv (days+s.ghi - 1) s.ghi) - Int.toNat j)):Int),opS Tryz.prog (Qa1 Tryz.prog) Qb4 (fun x x_1 x_2=> none) {len:=16000,tr:=Tri.set 14 (Tri.set 14 Tri.lf 44 (.slice (some {block:=7,off:=0}) j.toNat 1)) 41 (.slice (some {block:=7,off:=0+Int.toNat j * 1}) (Int.toNat (Int.tdiv (days+s.ghi - 1) s.ghi) - Int.toNat j) 0)} {dst:=some 45,op:=Op.call {callee:=Callee.builtin Builtin.copy,args:=#[Operand.tmp 41,Operand.tmp 44],argTypes:=#[22,22]},type:=3,pos:= "slices.go:528",after:=#[{on:=3,ground:=Ground.data},{on:=6,ground:=Ground.data}],guard:=none} [(6,Obj.coro none),(7,Obj.cells (Qac (cpE [.int .i64 s.ghi] [.int .i64 0]) ys) 3),(5,Obj.cells #[.int .i64 s.ghi] 3),(4,Obj.coro none),(3,Obj.cells #[.slice none 0 0,.slice none 0 0,.slice none 0 0] 65),(2,Obj.cells #[Value.func (Fn.func 104) #[] #[]] 101),(1,Obj.cells (QbJ s load days) 122),(0,Obj.coro none)] 8=some {out:=OO.ret (.int .i64 (↑(min j.toNat (Int.toNat (Int.tdiv (days+s.ghi - 1) s.ghi) - Int.toNat j)):Int)),H:=[(6,Obj.coro none),(7,Obj.cells (Qac (cpE [.int .i64 s.ghi] [.int .i64 0]) (Qoj ys j.toNat (List.take (min j.toNat (Int.toNat (Int.tdiv (days+s.ghi - 1) s.ghi) - Int.toNat j)) (List.drop 0 ys)))) 3),(5,Obj.cells #[.int .i64 s.ghi] 3),(4,Obj.coro none),(3,Obj.cells #[.slice none 0 0,.slice none 0 0,.slice none 0 0] 65),(2,Obj.cells #[Value.func (Fn.func 104) #[] #[]] 101),(1,Obj.cells (QbJ s load days) 122),(0,Obj.coro none)],n:=8,R:=[7,7],W:=[7]},opS Tryz.prog (Qa1 Tryz.prog) Qb4 (fun x x_1 x_2=> none) {len:=16000,tr:=Tri.set 14 (Tri.set 14 Tri.lf 43 (.int .i64 j)) 42 (.slice (some {block:=7,off:=0}) (Int.toNat (Int.tdiv (days+s.ghi - 1) s.ghi)) 1)} {dst:=some 44,op:=Op.slice 22 (Operand.tmp 42) none (some (Operand.tmp 43)) none,type:=22,pos:= "slices.go:528",after:=#[{on:=4,ground:=Ground.data},{on:=5,ground:=Ground.data}],guard:=none} [(6,Obj.coro none),(7,Obj.cells (Qac (cpE [.int .i64 s.ghi] [.int .i64 0]) ys) 3),(5,Obj.cells #[.int .i64 s.ghi] 3),(4,Obj.coro none),(3,Obj.cells #[.slice none 0 0,.slice none 0 0,.slice none 0 0] 65),(2,Obj.cells #[Value.func (Fn.func 104) #[] #[]] 101),(1,Obj.cells (QbJ s load days) 122),(0,Obj.coro none)] 8=some {out:=OO.ret (.slice (some {block:=7,off:=0}) j.toNat 1),H:=[(6,Obj.coro none),(7,Obj.cells (Qac (cpE [.int .i64 s.ghi] [.int .i64 0]) ys) 3),(5,Obj.cells #[.int .i64 s.ghi] 3),(4,Obj.coro none),(3,Obj.cells #[.slice none 0 0,.slice none 0 0,.slice none 0 0] 65),(2,Obj.cells #[Value.func (Fn.func 104) #[] #[]] 101),(1,Obj.cells (QbJ s load days) 122),(0,Obj.coro none)],n:=8,R:=[],W:=[]},opS Tryz.prog (Qa1 Tryz.prog) Qb4 (fun x x_1 x_2=> none) {len:=16000,tr:=Tri.set 14 (Tri.set 14 Tri.lf 40 (.int .i64 j)) 39 (.slice (some {block:=7,off:=0}) (Int.toNat (Int.tdiv (days+s.ghi - 1) s.ghi)) 1)} {dst:=some 41,op:=Op.slice 22 (Operand.tmp 39) (some (Operand.tmp 40)) none none,type:=22,pos:= "slices.go:528",after:=#[{on:=1,ground:=Ground.data},{on:=2,ground:=Ground.data}],guard:=none} [(6,Obj.coro none),(7,Obj.cells (Qac (cpE [.int .i64 s.ghi] [.int .i64 0]) ys) 3),(5,Obj.cells #[.int .i64 s.ghi] 3),(4,Obj.coro none),(3,Obj.cells #[.slice none 0 0,.slice none 0 0,.slice none 0 0] 65),(2,Obj.cells #[Value.func (Fn.func 104) #[] #[]] 101),(1,Obj.cells (QbJ s load days) 122),(0,Obj.coro none)] 8=some {out:=OO.ret (.slice (some {block:=7,off:=0+Int.toNat j * 1}) (Int.toNat (Int.tdiv (days+s.ghi - 1) s.ghi) - Int.toNat j) 0),H:=[(6,Obj.coro none),(7,Obj.cells (Qac (cpE [.int .i64 s.ghi] [.int .i64 0]) ys) 3),(5,Obj.cells #[.int .i64 s.ghi] 3),(4,Obj.coro none),(3,Obj.cells #[.slice none 0 0,.slice none 0 0,.slice none 0 0] 65),(2,Obj.cells #[Value.func (Fn.func 104) #[] #[]] 101),(1,Obj.cells (QbJ s load days) 122),(0,Obj.coro none)],n:=8,R:=[],W:=[]},ltq j (↑(Int.toNat (Int.tdiv (days+s.ghi - 1) s.ghi)):Int)=true]⟩:=by kernel_rfl
theorem QtO (B:Lo) (s:Qaa) (load days:Int) (j:Int) (ys:List Bool) (dJ0:Nat->Value):CE.finK 6 (Qak Tryz.prog (Qa1 Tryz.prog) J0 B 9 6 (Qcw (none) 161 48 (([7,8]:List Nat).zip (Qdw s load days j ys)) dJ0 Qdq) (QbE (Qcm s load days) 6 (([]:List Nat).zip (Qdz s load days j ys)) (QbN s load days j ys)) (6+1+(QbN s load days j ys).length)
 [(3,hvF)] 0 [] []) [] [] [{k:=7,rs:=[],cs:=Qac (cpE [.int .i64 s.ghi] [.int .i64 0]) ys}]=some (OO.ret (Qa0 6 (slT (Int.toNat (Int.tdiv (days+s.ghi - 1) s.ghi)) (Fz.cs {k:=7,rs:=[],cs:=Qac (cpE [.int .i64 s.ghi] [.int .i64 0]) ys}))),[],[],
 [Qb8 (Fz.rs {k:=7,rs:=[],cs:=Qac (cpE [.int .i64 s.ghi] [.int .i64 0]) ys}) (Qac (cpE [.int .i64 s.ghi] [.int .i64 0]) ys) (Fz.cs {k:=7,rs:=[],cs:=Qac (cpE [.int .i64 s.ghi] [.int .i64 0]) ys}),ltq j (↑(Int.toNat (Int.tdiv (days+s.ghi - 1) s.ghi)):Int)=false]):=by kernel_rfl
set_option maxHeartbeats 4000000 in
theorem Qnk (s:Qaa) (load days:Int) (hs:Qa8 s=true) (hd:0<=days/\days<=300) {B:Lo} (hJ:∀w,B.has w->J0 w):∀m:Nat,(∀(j:Int) (ys:List Bool),(((days+s.ghi - 1).tdiv s.ghi) - j).toNat=m->∀(j0:0<=j) (j1:j<=((days+s.ghi - 1).tdiv s.ghi)) (j2:((days+s.ghi - 1).tdiv s.ghi)=0\/0 < j) (hy:ys=Qi0 true false ((days+s.ghi - 1).tdiv s.ghi).toNat j.toNat),(∃dJ0:Nat->Value,(∀t,QaS (dJ0 t))/\GoE Tryz.prog B (Qep s load days) (Qcm s load days) 6 (Qcw (none) 161 48 (([7,8]:List Nat).zip (Qdw s load days j ys)) dJ0 Qdq) (QbE (Qcm s load days) 6 (([]:List Nat).zip (Qdz s load days j ys)) (QbN s load days j ys)) (6+1+(QbN s load days j ys).length) ([]:List Nat))->FinK Tryz.prog B (Qep s load days) (Qcm s load days) 6 (.ret (Qa0 6 (slI (List.replicate ((days+s.ghi - 1).tdiv s.ghi).toNat s.ghi)))) (([]:List Nat).zip ([])) ([]) ([]:List Nat)):=by
 intro m0
 induction m0 using Nat.strongRecOn with
 | _ m0 ih0=>
   intro j ys hm0 j0 j1 j2 hy ⟨dJ0,hdJ0,hg0⟩
   have hgp:=Qa9 hs
   have hst:=Qav hs
   have hlo:=Qa2 hs
   have hqf:=Qe5 (g:=s.ghi) hd (by omega)
   have hgp:=Qa9 hs
   have hqf:=Qe5 (g:=s.ghi) hd (by omega)
   have hyl:ys.length=((days+s.ghi - 1).tdiv s.ghi).toNat:=by rw [hy];exact Qzi (by omega)
   by_cases q0:(j:Int) < ((↑(Int.toNat (Int.tdiv (days+s.ghi - 1) s.ghi)):Int))
   ·
    exact ((ih0 _ (by omega)) (j+(↑(min j.toNat (Int.toNat (Int.tdiv (days+s.ghi - 1) s.ghi) - Int.toNat j)):Int)) (Qoj ys j.toNat (List.take (min j.toNat (Int.toNat (Int.tdiv (days+s.ghi - 1) s.ghi) - Int.toNat j)) (List.drop 0 ys))) rfl (by omega) (by omega) (by omega) (by (subst hy;rw [QyD (by omega) (by omega)];congr 1;omega))
     (GoE.landA okF hJ Qab (Qan (by kernel_rfl)) (Qag (by kernel_rfl)) hg0 (QtA B s load days j ys dJ0)
     ⟨(Qao (Qaw (fun x=> List.all_eq_true.1 (by (cases x <;> rfl))))),⟨(QaJ (by omega) (by omega)),⟨(Qx8 (z:=1) rfl rfl rfl rfl rfl rfl rfl rfl rfl rfl (by decide) (by decide) rfl rfl (QmT (c:=0) (fun x=> by first | rfl | (cases x <;> rfl)) (fun x=> by first | rfl | (cases x <;> rfl)) (by omega) (by omega))),⟨(Qtq (z:=0) rfl rfl rfl rfl rfl (by omega) (by omega)),⟨(Qtu (z:=0) rfl rfl rfl rfl rfl (by omega) (by omega)),⟨(Qbl q0),trivial⟩⟩⟩⟩⟩⟩ (by kernel_rfl) (by kernel_rfl) (fun l hl=> by cases hl <;> decide))).cast (by rfl) (by rfl) (by rfl)
   ·
    exact (GoE.finK okF hJ Qab (Qan (by kernel_rfl)) (Qag (by kernel_rfl)) hg0 (QtO B s load days j ys dJ0)
     ⟨(Qbe (fun x=> List.all_eq_true.1 (by (cases x <;> rfl)))),⟨(Qbq (Int.not_lt.1 q0)),trivial⟩⟩).cast (by (have e9:j.toNat=((days+s.ghi - 1).tdiv s.ghi).toNat:=(by omega);rw [hy,e9,Qza];exact congrArg (fun v=> OO.ret (Qa0 6 v)) (by show slT _ (Qac (cpE (Qar s.ghi) [Value.int .i64 0]) (List.replicate _ true))=_;rw [Q2g];show slT _ _=slT (List.replicate _ _).length _;rw [List.length_replicate]))) (by rfl) (by rfl)

theorem QsO (B:Lo) (s:Qaa) (load days:Int):CE.landA 6 (Qak Tryz.prog (Qa1 Tryz.prog) J0 B 21 6 (Qep s load days) (Qcm s load days) 6
 [(2,hvF),(7,Qaj.old (Hint.val (Value.int IntKind.u64 (Int.tdiv (days+s.ghi - 1) s.ghi)))),(8,Qaj.pure (.tuple #[Value.int IntKind.u64 0,Value.int IntKind.u64 (Int.tdiv (days+s.ghi - 1) s.ghi)]) []),(18,hvF),(21,hvI (Int.tdiv (days+s.ghi - 1) s.ghi)),(22,Qaj.old (Hint.mk (Int.toNat (Int.tdiv (days+s.ghi - 1) s.ghi)) (Qac (Qcr [.int .i64 0]) (List.replicate (Int.toNat (Int.tdiv (days+s.ghi - 1) s.ghi)) ())))),(26,Qaj.eval {out:=OO.ret (.int .i64 (↑(min 1 (Int.toNat (Int.tdiv (days+s.ghi - 1) s.ghi))):Int)),H:=[(6,Obj.cells (Qac (cpE [.int .i64 s.ghi] [.int .i64 0]) (Qi0 true false (Int.toNat (Int.tdiv (days+s.ghi - 1) s.ghi)) (min 1 (Int.toNat (Int.tdiv (days+s.ghi - 1) s.ghi))))) 3),(5,Obj.cells #[.int .i64 s.ghi] 3),(4,Obj.coro none),(3,Obj.cells #[.slice none 0 0,.slice none 0 0,.slice none 0 0] 65),(2,Obj.cells #[Value.func (Fn.func 104) #[] #[]] 101),(1,Obj.cells (QbJ s load days) 122),(0,Obj.coro none)],n:=7,R:=[6,5],W:=[6]})] 0 [] []) [7,8] [] [(6,KS.cells [] (Qac (cpE [.int .i64 s.ghi] [.int .i64 0]) (Qi0 true false (Int.toNat (Int.tdiv (days+s.ghi - 1) s.ghi)) (min 1 (Int.toNat (Int.tdiv (days+s.ghi - 1) s.ghi))))))] []=some ⟨161,48,Qdq,[],.run,none,Qdw s load days ((↑(min 1 (Int.toNat (Int.tdiv (days+s.ghi - 1) s.ghi))):Int)) (Qi0 true false (Int.toNat (Int.tdiv (days+s.ghi - 1) s.ghi)) (min 1 (Int.toNat (Int.tdiv (days+s.ghi - 1) s.ghi)))),([]:List Nat).zip (Qdz s load days ((↑(min 1 (Int.toNat (Int.tdiv (days+s.ghi - 1) s.ghi))):Int)) (Qi0 true false (Int.toNat (Int.tdiv (days+s.ghi - 1) s.ghi)) (min 1 (Int.toNat (Int.tdiv (days+s.ghi - 1) s.ghi))))),QbN s load days ((↑(min 1 (Int.toNat (Int.tdiv (days+s.ghi - 1) s.ghi))):Int)) (Qi0 true false (Int.toNat (Int.tdiv (days+s.ghi - 1) s.ghi)) (min 1 (Int.toNat (Int.tdiv (days+s.ghi - 1) s.ghi)))),
 [QaQ 6 [] (Qac (cpE [.int .i64 s.ghi] [.int .i64 0]) (Qi0 true false (Int.toNat (Int.tdiv (days+s.ghi - 1) s.ghi)) (min 1 (Int.toNat (Int.tdiv (days+s.ghi - 1) s.ghi))))) (Qac (cpE [.int .i64 s.ghi] [.int .i64 0]) (Qi0 true false (Int.toNat (Int.tdiv (days+s.ghi - 1) s.ghi)) (min 1 (Int.toNat (Int.tdiv (days+s.ghi - 1) s.ghi))))),opS Tryz.prog (Qa1 Tryz.prog) Qb4 (fun x x_1 x_2=> none) {len:=16000,tr:=Tri.set 14 (Tri.set 14 Tri.lf 32 (.slice (some {block:=5,off:=0}) 1 1)) 31 (.slice (some {block:=6,off:=0}) (Int.toNat (Int.tdiv (days+s.ghi - 1) s.ghi)) 1)} {dst:=some 33,op:=Op.call {callee:=Callee.builtin Builtin.copy,args:=#[Operand.tmp 31,Operand.tmp 32],argTypes:=#[22,22]},type:=3,pos:= "slices.go:526",after:=#[{on:=0,ground:=Ground.data},{on:=1,ground:=Ground.data}],guard:=none} [(6,Obj.cells (Qac (Qcr [.int .i64 0]) (List.replicate (Int.toNat (Int.tdiv (days+s.ghi - 1) s.ghi)) ())) 3),(5,Obj.cells #[.int .i64 s.ghi] 3),(4,Obj.coro none),(3,Obj.cells #[.slice none 0 0,.slice none 0 0,.slice none 0 0] 65),(2,Obj.cells #[Value.func (Fn.func 104) #[] #[]] 101),(1,Obj.cells (QbJ s load days) 122),(0,Obj.coro none)] 7=some {out:=OO.ret (.int .i64 (↑(min 1 (Int.toNat (Int.tdiv (days+s.ghi - 1) s.ghi))):Int)),H:=[(6,Obj.cells (Qac (cpE [.int .i64 s.ghi] [.int .i64 0]) (Qi0 true false (Int.toNat (Int.tdiv (days+s.ghi - 1) s.ghi)) (min 1 (Int.toNat (Int.tdiv (days+s.ghi - 1) s.ghi))))) 3),(5,Obj.cells #[.int .i64 s.ghi] 3),(4,Obj.coro none),(3,Obj.cells #[.slice none 0 0,.slice none 0 0,.slice none 0 0] 65),(2,Obj.cells #[Value.func (Fn.func 104) #[] #[]] 101),(1,Obj.cells (QbJ s load days) 122),(0,Obj.coro none)],n:=7,R:=[6,5],W:=[6]},Qhl Tryz.prog 22 (Qce {len:=16000,tr:=Tri.set 14 Tri.lf 29 (.int .i64 (Int.tdiv (days+s.ghi - 1) s.ghi))} 29) (Qce {len:=16000,tr:=Tri.set 14 Tri.lf 29 (.int .i64 (Int.tdiv (days+s.ghi - 1) s.ghi))} 29)=some (3,Qac (Qcr [.int .i64 0]) (List.replicate (Int.toNat (Int.tdiv (days+s.ghi - 1) s.ghi)) ()),Int.toNat (Int.tdiv (days+s.ghi - 1) s.ghi),TypeInfo.size Tryz.t3),IntKind.wrap .i64 (Int.tdiv (days+s.ghi - 1) s.ghi)=Int.tdiv (days+s.ghi - 1) s.ghi,decide (Int.tdiv (days+s.ghi - 1) s.ghi > 9223372036854775807)=false,Qa7 []/\Qas Tryz.prog J0 168 #[Value.int IntKind.u64 1,Value.int IntKind.u64 (Int.tdiv (days+s.ghi - 1) s.ghi)] (.tuple #[Value.int IntKind.u64 0,Value.int IntKind.u64 (Int.tdiv (days+s.ghi - 1) s.ghi)]),IntKind.wrap IntKind.u64 (Int.tdiv (days+s.ghi - 1) s.ghi)=Int.tdiv (days+s.ghi - 1) s.ghi,ltq (Int.tdiv (days+s.ghi - 1) s.ghi) 0=false]⟩:=by kernel_rfl
def Qcl (s:Qaa) (load days:Int):Qap:=[(6,Obj.coro none),(5,Obj.cells #[.int .i64 s.ghi] 3),(4,Obj.coro none),(3,Obj.cells #[.slice none 0 0,.slice none 0 0,.slice none 0 0] 65),(2,Obj.cells #[Value.func (Fn.func 104) #[] #[]] 101),(1,Obj.cells #[Qa0 0 (slT s.stock.length (Qac Qar s.stock)),Qa0 0 (slT s.use.length (Qac Qa6 s.use)),.int .i64 s.glo,.int .i64 s.ghi,Qa0 0 (slT s.lots.length (Qac Qam s.lots)),.int .i64 s.hold,.int .i64 load,.int .i64 days] 122),(0,Obj.coro none)]
def Qex (s:Qaa) (load days:Int):CF:=⟨162,ofList 26 [Qa0 0 (slT s.lots.length (Qac Qam s.lots)),Value.func (Fn.func 163) #[] #[pA 2 0]],[Item.code (Qal Tryz.prog 162)],[],.run,none⟩
def Qds (s:Qaa) (load days:Int) (i:Int) (zs:List Row):List Value:=[Value.func (Fn.func 163) #[] #[pA 2 0],.slice (some {block:=8,off:=0}) s.lots.length 1,Qa0 0 (slT s.lots.length (Qac Qam s.lots)),.int .i64 (↑s.lots.length:Int),.int .i64 i]
def Qdr (s:Qaa) (load days:Int) (i:Int) (zs:List Row):List Obj:=[]
def QbM (s:Qaa) (load days:Int) (i:Int) (zs:List Row):List Obj:=[.cells (Qac (Qa5 7 Qaz) zs) 22 (0,0)]
def Qdx:List Item:=([.code [1,1,0,1,0,0],.inLoop [1,1,0,1,0,0],.inBlock 0,.code [1,1,1]]).map (it (Qal Tryz.prog 162))
def Qfh (s:Qaa) (load days:Int) (i:Int) (zs:List Row) (dJ0:Nat->Value):Qap:=[(9,Obj.cells #[Qa0 0 (slT (List.length (Qad.goods (s.lots.getD i.toNat default))) (Qac Qa6 (Qad.goods (s.lots.getD i.toNat default)))),.int .i64 (Qad.weight (s.lots.getD i.toNat default)),.int .i64 (Qad.cost (s.lots.getD i.toNat default))] 118),(7,Obj.coro none),(8,Obj.cells (Qac (Qa5 7 Qaz) zs) 22),(6,Obj.coro none),(5,Obj.cells #[.int .i64 s.ghi] 3),(4,Obj.coro none),(3,Obj.cells #[.slice none 0 0,.slice none 0 0,.slice none 0 0] 65),(2,Obj.cells #[Value.func (Fn.func 104) #[] #[]] 101),(1,Obj.cells #[Qa0 0 (slT s.stock.length (Qac Qar s.stock)),Qa0 0 (slT s.use.length (Qac Qa6 s.use)),.int .i64 s.glo,.int .i64 s.ghi,Qa0 0 (slT s.lots.length (Qac Qam s.lots)),.int .i64 s.hold,.int .i64 load,.int .i64 days] 122),(0,Obj.coro none)]
def QgM (s:Qaa) (load days:Int) (i:Int) (zs:List Row) (dJ0:Nat->Value):CF:=⟨163,ofList 8 [.agg #[Qa0 0 (slT (List.length (Qad.goods (s.lots.getD i.toNat default))) (Qac Qa6 (Qad.goods (s.lots.getD i.toNat default)))),.int .i64 (Qad.weight (s.lots.getD i.toNat default)),.int .i64 (Qad.cost (s.lots.getD i.toNat default))],pA 2 0],[Item.code (Qal Tryz.prog 163)],[],.run,none⟩
theorem Quv (B:Lo) (s:Qaa) (load days:Int) (i:Int) (zs:List Row) (dJ0:Nat->Value):CE.finK 10 (Qak Tryz.prog (Qa1 Tryz.prog) J0 B 6 10 (QgM s load days i zs dJ0) (Qfh s load days i zs dJ0) 10
 [(5,Qaj.pure (slT (List.length (List.map Span.lo (Qad.goods (s.lots.getD i.toNat default)))) (Qac Qar (List.map Span.lo (Qad.goods (s.lots.getD i.toNat default))))) [])] 0 [] []) [] [] []=some (OO.ret (Qa0 10 (slT (List.length (List.map Span.lo (Qad.goods (s.lots.getD i.toNat default)))) (Qac Qar (List.map Span.lo (Qad.goods (s.lots.getD i.toNat default)))))),[],[],
 [Qa7 []/\Qas Tryz.prog J0 160 #[slT (List.length (Qad.goods (s.lots.getD i.toNat default))) (Qac Qa6 (Qad.goods (s.lots.getD i.toNat default))),Value.func (Fn.func 104) #[] #[]] (slT (List.length (List.map Span.lo (Qad.goods (s.lots.getD i.toNat default)))) (Qac Qar (List.map Span.lo (Qad.goods (s.lots.getD i.toNat default)))))]):=by kernel_rfl
theorem Quh (B:Lo) (s:Qaa) (load days:Int) (i:Int) (zs:List Row) (dJ0:Nat->Value):CE.landA 7 (Qak Tryz.prog (Qa1 Tryz.prog) J0 B 13 7 (Qcw (none) 162 26 (([1,5,11,12,13]:List Nat).zip (Qds s load days i zs)) dJ0 Qdx) (QbE (Qcl s load days) 7 (([]:List Nat).zip (Qdr s load days i zs)) (QbM s load days i zs)) (7+1+(QbM s load days i zs).length)
 [(0,hvT),(2,Qaj.tidx i.toNat #[slT (List.length (Qad.goods (s.lots.getD i.toNat default))) (Qac Qa6 (Qad.goods (s.lots.getD i.toNat default))),.int .i64 (Qad.weight (s.lots.getD i.toNat default)),.int .i64 (Qad.cost (s.lots.getD i.toNat default))]),(11,Qaj.call (List.range 10) (OO.ret (QiE s i)) ([]++(10,Qby)::QaK 11 []) 11 []),(12,Qaj.old (Hint.idx i.toNat)),(13,Qaj.old (Hint.st (splice (Qac (Qa5 7 Qaz) zs) (0+Int.toNat i * 1) (QiB s i)))),(14,hvI (i+1))] 0 [] []) [1,5,11,12,13] [] [(8,KS.rows [(7,7),(10,7)] [] (Qac (Qa5 7 Qaz) (List.set zs i.toNat (List.map Span.lo (Qad.goods (s.lots.getD i.toNat default))))))] []=some ⟨162,26,Qdx,[],.run,none,Qds s load days (i+1) (List.set zs i.toNat (List.map Span.lo (Qad.goods (s.lots.getD i.toNat default)))),([]:List Nat).zip (Qdr s load days (i+1) (List.set zs i.toNat (List.map Span.lo (Qad.goods (s.lots.getD i.toNat default))))),QbM s load days (i+1) (List.set zs i.toNat (List.map Span.lo (Qad.goods (s.lots.getD i.toNat default)))),
 [QaY 7 [(7,7),(10,7)] [] (splice (Qac (Qa5 7 Qaz) zs) (0+Int.toNat i * 1) (QiB s i)) (Qac (Qa5 7 Qaz) (List.set zs i.toNat (List.map Span.lo (Qad.goods (s.lots.getD i.toNat default))))),wq (i+1)=i+1,0+Int.toNat i * 1+TypeInfo.size Tryz.t22<=Array.size (Qac (Qa5 7 Qaz) zs)/\splice (Qac (Qa5 7 Qaz) zs) (0+Int.toNat i * 1) (Value.cells (Qce {len:=16000,tr:=Tri.set 14 (Tri.set 14 Tri.lf 22 (QiE s i)) 23 (.pointer (some {block:=8,off:=0+Int.toNat i * 1}))} 22))=splice (Qac (Qa5 7 Qaz) zs) (0+Int.toNat i * 1) (QiB s i),i=(↑i.toNat:Int)/\Int.toNat i < List.length s.lots,FJ Tryz.prog B (QgM s load days i zs dJ0) (Qfh s load days i zs dJ0) 10 (OO.ret (QiE s i)) (([]++((10,Qby)::QaK (10+1) []))++Qfh s load days i zs dJ0) 11 (List.range 10) [],i=(↑i.toNat:Int)/\Int.toNat i < List.length s.lots/\Array.extract (Qac Qam s.lots) (Int.toNat i * TypeInfo.size Tryz.t118) (Int.toNat i * TypeInfo.size Tryz.t118+TypeInfo.size Tryz.t118)=#[slT (List.length (Qad.goods (s.lots.getD i.toNat default))) (Qac Qa6 (Qad.goods (s.lots.getD i.toNat default))),.int .i64 (Qad.weight (s.lots.getD i.toNat default)),.int .i64 (Qad.cost (s.lots.getD i.toNat default))],ltq i (↑s.lots.length:Int)=true]⟩:=by kernel_rfl
theorem Qul (B:Lo) (s:Qaa) (load days:Int) (i:Int) (zs:List Row) (dJ0:Nat->Value):CE.finK 7 (Qak Tryz.prog (Qa1 Tryz.prog) J0 B 9 7 (Qcw (none) 162 26 (([1,5,11,12,13]:List Nat).zip (Qds s load days i zs)) dJ0 Qdx) (QbE (Qcl s load days) 7 (([]:List Nat).zip (Qdr s load days i zs)) (QbM s load days i zs)) (7+1+(QbM s load days i zs).length)
 [(0,hvF)] 0 [] []) [] [] [{k:=8,rs:=[7],cs:=Qac Qaz zs}]=some (OO.ret (Qa0 7 (slT s.lots.length (Fz.cs {k:=8,rs:=[7],cs:=Qac Qaz zs}))),[],[],
 [Qb8 (Fz.rs {k:=8,rs:=[7],cs:=Qac Qaz zs}) (Qac (Qa5 7 Qaz) zs) (Fz.cs {k:=8,rs:=[7],cs:=Qac Qaz zs}),ltq i (↑s.lots.length:Int)=false]):=by kernel_rfl
set_option maxHeartbeats 4000000 in
theorem Qnn (s:Qaa) (load days:Int) (hs:Qa8 s=true) (hd:0<=days/\days<=300) (q0:¬((Int.tdiv (days+s.ghi - 1) s.ghi:Int) < (0))) (q1:(decide (Int.tdiv (days+s.ghi - 1) s.ghi > 9223372036854775807))=false) {B:Lo} (hJ:∀w,B.has w->J0 w):∀m:Nat,(∀(i:Int) (zs:List Row),s.lots.length - i.toNat=m->∀(i0:0<=i) (hz:zs=Qh1 (fun (l:Qad)=> (l.goods.map Span.lo:Row)) [] s.lots i),(∃dJ0:Nat->Value,(∀t,QaS (dJ0 t))/\GoE Tryz.prog B (Qex s load days) (Qcl s load days) 7 (Qcw (none) 162 26 (([1,5,11,12,13]:List Nat).zip (Qds s load days i zs)) dJ0 Qdx) (QbE (Qcl s load days) 7 (([]:List Nat).zip (Qdr s load days i zs)) (QbM s load days i zs)) (7+1+(QbM s load days i zs).length) ([]:List Nat))->FinK Tryz.prog B (Qex s load days) (Qcl s load days) 7 (.ret (Qa0 7 (slR (s.lots.map (fun (l:Qad)=> (l.goods.map Span.lo:Row)))))) (([]:List Nat).zip ([])) ([]) ([]:List Nat)):=by
 intro m0
 induction m0 using Nat.strongRecOn with
 | _ m0 ih0=>
   intro i zs hm0 i0 hz ⟨dJ0,hdJ0,hg0⟩
   have hgp:=Qa9 hs
   have hst:=Qav hs
   have hlo:=Qa2 hs
   have hqf:=Qe5 (g:=s.ghi) hd (by omega)
   have hlo:=Qa2 hs
   have hst:=Qav hs
   have hzl:zs.length=s.lots.length:=by rw [hz];exact Qfv
   by_cases q2:(i:Int) < ((↑s.lots.length:Int))
   ·
    have rj2:FJ Tryz.prog B (QgM s load days i zs dJ0) (Qfh s load days i zs dJ0) 10 (OO.ret (Qa0 10 (slT (List.length (List.map Span.lo (Qad.goods (s.lots.getD i.toNat default)))) (Qac Qar (List.map Span.lo (Qad.goods (s.lots.getD i.toNat default))))))) (([]++((10,Qby)::QaK (10+1) []))++Qfh s load days i zs dJ0) 11 (List.range 10) []:=by
     have hgl:(s.lots.getD i.toNat default).goods.length<=4:=by have:=hlo.2 _ (QaB i0 (by assumption));simp only [Qoh,Bool.and_eq_true,decide_eq_true_iff] at this;omega
     exact FinK.fjB (GoE.finK okF hJ Qab (Qan (by kernel_rfl)) (Qag (by kernel_rfl)) ((GoE.refl (P:=Tryz.prog) (B:=B) (c0:=QgM s load days i zs dJ0) (Qan (by kernel_rfl))).widen (Wf:=((([]):List (Nat×KS)).map (·.1))) (by simp) (Qag (by kernel_rfl))) (Quv B s load days i zs dJ0)
      ⟨⟨trivial,Q1D (Qad.goods (s.lots.getD i.toNat default)) (by omega)⟩,trivial⟩) (ex:=[8]) (by kernel_rfl) ⟨trivial,⟨trivial,⟨(Qfl (t:=22) (fl:=(0,0)) (QaV (fun _=> rfl)) (by decide)),⟨trivial,⟨trivial,⟨trivial,⟨trivial,⟨trivial,⟨trivial,⟨trivial,trivial⟩⟩⟩⟩⟩⟩⟩⟩⟩⟩
    have hgl:(s.lots.getD i.toNat default).goods.length<=4:=by have:=hlo.2 _ (QaB i0 (by assumption));simp only [Qoh,Bool.and_eq_true,decide_eq_true_iff] at this;omega
    exact ((ih0 _ (by omega)) (i+1) (List.set zs i.toNat (List.map Span.lo (Qad.goods (s.lots.getD i.toNat default)))) rfl (by omega) (by (subst hz;exact Qfz (f:=(fun (l:Qad)=> (l.goods.map Span.lo:Row))) i0 (by assumption)))
     (GoE.landA okF hJ Qab (Qan (by kernel_rfl)) (Qag (by kernel_rfl)) hg0 (Quh B s load days i zs dJ0)
     ⟨(by exact (QkG (z:=1) (fun _=> rfl) (QaN (QaV (fun _=> rfl)) (List.Mem.head _)) (by omega) (by exact ⟨(.reg (List.Mem.tail _ (List.Mem.head _)) rfl),trivial⟩))),⟨(QaJ (by omega) (by omega)),⟨⟨(by exact QvN (z:=1) (fun _=> rfl) (by omega)),rfl⟩,⟨⟨by omega,by omega⟩,⟨rj2,⟨⟨by omega,by omega,(Qaf (z:=3) (fun _=> rfl) (by omega))⟩,⟨(Qbl q2),trivial⟩⟩⟩⟩⟩⟩⟩ (by kernel_rfl) (by kernel_rfl) (fun l hl=> by cases hl <;> decide))).cast (by rfl) (by rfl) (by rfl)
   ·
    exact (GoE.finK okF hJ Qab (Qan (by kernel_rfl)) (Qag (by kernel_rfl)) hg0 (Qul B s load days i zs dJ0)
     ⟨(Qdo (QaV (fun _=> rfl)) (List.Mem.head _)),⟨(Qbq (Int.not_lt.1 q2)),trivial⟩⟩).cast (by exact congrArg (fun v=> OO.ret (Qa0 7 v)) (Qhr (hz.trans (Qfd (by omega))) (by simp))) (by rfl) (by rfl)

theorem Qur (B:Lo) (s:Qaa) (load days:Int):CE.landA 7 (Qak Tryz.prog (Qa1 Tryz.prog) J0 B 9 7 (Qex s load days) (Qcl s load days) 7
 [(3,Qaj.old (Hint.mk s.lots.length (Qac (Qcr [.slice none 0 0]) (List.replicate s.lots.length ()))))] 0 [] []) [1,5,11,12,13] [] [(7,KS.rows [] [] (Qac (Qa5 7 Qaz) (List.replicate s.lots.length [])))] []=some ⟨162,26,Qdx,[],.run,none,Qds s load days (0) (List.replicate s.lots.length []),([]:List Nat).zip (Qdr s load days (0) (List.replicate s.lots.length [])),QbM s load days (0) (List.replicate s.lots.length []),
 [QaY 7 [] [] (Qac (Qcr [.slice none 0 0]) (List.replicate s.lots.length ())) (Qac (Qa5 7 Qaz) (List.replicate s.lots.length [])),Qhl Tryz.prog 63 (Qce {len:=16000,tr:=Tri.set 14 Tri.lf 9 (.int .i64 (↑s.lots.length:Int))} 9) (Qce {len:=16000,tr:=Tri.set 14 Tri.lf 9 (.int .i64 (↑s.lots.length:Int))} 9)=some (22,Qac (Qcr [.slice none 0 0]) (List.replicate s.lots.length ()),List.length s.lots,TypeInfo.size Tryz.t22)]⟩:=by kernel_rfl
theorem Qt6 (B:Lo) (s:Qaa) (load days:Int):Qbb (Qak Tryz.prog (Qa1 Tryz.prog) J0 B 8 1 (Qai Tryz.prog 150 31 (([.agg (QaO s load days).toArray,.func (.func 104) #[] #[],.func (.func 103) #[] #[]]).map (Qaq 0 4))) H00 1
 [(7,Qaj.pure (.int .i64 s.ghi) []),(13,Qaj.pure (slT (List.length (List.map Span.hi s.use)) (Qac Qar (List.map Span.hi s.use))) []),(19,Qaj.pure (.int .i64 (Int.tdiv (days+s.ghi - 1) s.ghi)) []),(20,Qaj.call (List.range 6) (OO.ret (Qa0 6 (slT (List.length (List.replicate (Int.toNat (Int.tdiv (days+s.ghi - 1) s.ghi)) s.ghi)) (Qac Qar (List.replicate (Int.toNat (Int.tdiv (days+s.ghi - 1) s.ghi)) s.ghi))))) ([]++(6,Qby)::QaK 7 []) 7 []),(25,Qaj.call (List.range 7) (OO.ret (Qa0 7 (slT (List.length (List.map (fun l=> List.map Span.lo l.goods) s.lots)) (Qac Qaz (List.map (fun l=> List.map Span.lo l.goods) s.lots))))) ([]++(7,Qby)::QaK 8 []) 8 [])] 0 [] []) []=some (.agg #[slT (List.length (List.map Span.hi s.use)) (Qac Qar (List.map Span.hi s.use)),slT (List.length (List.replicate (Int.toNat (Int.tdiv (days+s.ghi - 1) s.ghi)) s.ghi)) (Qac Qar (List.replicate (Int.toNat (Int.tdiv (days+s.ghi - 1) s.ghi)) s.ghi)),slT (List.length (List.map (fun l=> List.map Span.lo l.goods) s.lots)) (Qac Qaz (List.map (fun l=> List.map Span.lo l.goods) s.lots))],
 [FJ Tryz.prog B (Qex s load days) (Qcl s load days) 7 (OO.ret (Qa0 7 (slT (List.length (List.map (fun l=> List.map Span.lo l.goods) s.lots)) (Qac Qaz (List.map (fun l=> List.map Span.lo l.goods) s.lots))))) (([]++((7,Qby)::QaK (7+1) []))++Qcl s load days) 8 (List.range 7) [],FJ Tryz.prog B (Qep s load days) (Qcm s load days) 6 (OO.ret (Qa0 6 (slT (List.length (List.replicate (Int.toNat (Int.tdiv (days+s.ghi - 1) s.ghi)) s.ghi)) (Qac Qar (List.replicate (Int.toNat (Int.tdiv (days+s.ghi - 1) s.ghi)) s.ghi))))) (([]++((6,Qby)::QaK (6+1) []))++Qcm s load days) 7 (List.range 6) [],Qa7 []/\Qas Tryz.prog J0 132 #[.int .i64 days,.int .i64 s.ghi] (.int .i64 (Int.tdiv (days+s.ghi - 1) s.ghi)),Qa7 []/\Qas Tryz.prog J0 160 #[slT s.use.length (Qac Qa6 s.use),Value.func (Fn.func 103) #[] #[]] (slT (List.length (List.map Span.hi s.use)) (Qac Qar (List.map Span.hi s.use))),Qa7 []/\Qas Tryz.prog J0 103 #[.agg #[.int .i64 s.glo,.int .i64 s.ghi]] (.int .i64 s.ghi)]):=by kernel_rfl
set_option maxHeartbeats 4000000 in
theorem QxA (s:Qaa) (load days:Int) (hs:Qa8 s=true) (hd:0<=days/\days<=300) {B:Lo} (hJ:∀w,B.has w->J0 w):EndsT Tryz.prog B (Qai Tryz.prog 150 31 (([.agg (QaO s load days).toArray,.func (.func 104) #[] #[],.func (.func 103) #[] #[]]).map (Qaq 0 4))) (.agg (QaI (Qae Span.lo Span.hi s days)).toArray):=by
 have hgp:=Qa9 hs
 have hst:=Qav hs
 have hlo:=Qa2 hs
 have hqf:=Qe5 (g:=s.ghi) hd (by omega)
 by_cases q0:(Int.tdiv (days+s.ghi - 1) s.ghi:Int) < (0)
 ·
  exfalso
  (have hgp:=Qa9 hs;have hqf:=Qe5 (g:=s.ghi) hd (by omega);omega)
 ·
  cases q1:decide (Int.tdiv (days+s.ghi - 1) s.ghi > 9223372036854775807) with
  | true=>
    exfalso
    (have hgp:=Qa9 hs;have hqf:=Qe5 (g:=s.ghi) hd (by omega);have q9:=of_decide_eq_true q1;omega)
  | false=>
    have rj0:FJ Tryz.prog B (Qep s load days) (Qcm s load days) 6 (OO.ret (Qa0 6 (slT (List.length (List.replicate (Int.toNat (Int.tdiv (days+s.ghi - 1) s.ghi)) s.ghi)) (Qac Qar (List.replicate (Int.toNat (Int.tdiv (days+s.ghi - 1) s.ghi)) s.ghi))))) (([]++((6,Qby)::QaK (6+1) []))++Qcm s load days) 7 (List.range 6) []:=by
     exact FinK.fjB ((Qnk s load days hs hd hJ _) ((↑(min 1 (Int.toNat (Int.tdiv (days+s.ghi - 1) s.ghi))):Int)) (Qi0 true false (Int.toNat (Int.tdiv (days+s.ghi - 1) s.ghi)) (min 1 (Int.toNat (Int.tdiv (days+s.ghi - 1) s.ghi)))) rfl (by omega) (by omega) (by omega) (by (rw [Int.toNat_natCast]))
      (GoE.landA okF hJ Qab (Qan (by kernel_rfl)) (Qag (by kernel_rfl)) ((GoE.refl (P:=Tryz.prog) (B:=B) (c0:=Qep s load days) (Qan (by kernel_rfl))).widen (Wf:=((([]):List (Nat×KS)).map (·.1))) (by simp) (Qag (by kernel_rfl))) (QsO B s load days)
      ⟨(Qao (Qaw (fun x=> List.all_eq_true.1 (by (cases x <;> rfl))))),⟨(Qx8 (z:=1) rfl rfl rfl rfl rfl rfl rfl rfl rfl rfl (by decide) (by decide) rfl rfl (QwQ rfl rfl rfl rfl rfl)),⟨(Qjr (bytes:=8) (by kernel_rfl) (by omega) (by omega) (by omega)),⟨(Qgz (by omega) (by omega)),⟨q1,⟨⟨trivial,Q4x (Int.tdiv (days+s.ghi - 1) s.ghi) (by omega) (by omega)⟩,⟨(IntWalk.u64_in _ ⟨by omega,by omega⟩),⟨(Qbq (Int.not_lt.1 q0)),trivial⟩⟩⟩⟩⟩⟩⟩⟩ (by kernel_rfl) (by kernel_rfl) (fun l hl=> by cases hl <;> decide))) (ex:=[]) (by kernel_rfl) (Qb0 _)
    have rj1:FJ Tryz.prog B (Qex s load days) (Qcl s load days) 7 (OO.ret (Qa0 7 (slT (List.length (List.map (fun l=> List.map Span.lo l.goods) s.lots)) (Qac Qaz (List.map (fun l=> List.map Span.lo l.goods) s.lots))))) (([]++((7,Qby)::QaK (7+1) []))++Qcl s load days) 8 (List.range 7) []:=by
     exact FinK.fjB ((Qnn s load days hs hd q0 q1 hJ _) (0) (List.replicate s.lots.length []) rfl (by omega) (by exact QiY)
      (GoE.landA okF hJ Qab (Qan (by kernel_rfl)) (Qag (by kernel_rfl)) ((GoE.refl (P:=Tryz.prog) (B:=B) (c0:=Qex s load days) (Qan (by kernel_rfl))).widen (Wf:=((([]):List (Nat×KS)).map (·.1))) (by simp) (Qag (by kernel_rfl))) (Qur B s load days)
      ⟨(by exact (Qcy (by exact ⟨.nil,trivial⟩) _)),⟨(Qjr (bytes:=24) (by kernel_rfl) (by omega) (by omega) (by omega)),trivial⟩⟩ (by kernel_rfl) (by kernel_rfl) (fun l hl=> by cases hl <;> decide))) (ex:=[]) (by kernel_rfl) (Qb0 _)
    exact (GoE.endsT okF hJ Qab GoE.start (Qt6 B s load days)
     ⟨rj1,⟨rj0,⟨⟨trivial,Qr4 (days) s.ghi (by omega) (by omega)⟩,⟨⟨trivial,Q1O s.use (by omega)⟩,⟨⟨trivial,Q2u s.glo s.ghi⟩,trivial⟩⟩⟩⟩⟩).cast (by rfl)
theorem Q2a (s:Qaa) (load days:Int) (hs:Qa8 s=true) (hd:0<=days/\days<=300):Qas Tryz.prog J0 150 #[.agg (QaO s load days).toArray,.func (.func 104) #[] #[],.func (.func 103) #[] #[]] (.agg (QaI (Qae Span.lo Span.hi s days)).toArray):=
 QaE (ts:=[.agg (QaO s load days).toArray,.func (.func 104) #[] #[],.func (.func 103) #[] #[]]) Qb6 (c0:=Qai Tryz.prog 150 31 (([.agg (QaO s load days).toArray,.func (.func 104) #[] #[],.func (.func 103) #[] #[]]).map (Qaq 0 4))) (by kernel_rfl) (by kernel_rfl) fun B hJ=> QxA s load days hs hd hJ

end
end Go.Proofs.YtiabgkiccaodmaaGreat

