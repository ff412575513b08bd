/- ShipRationed: whatever the input, it returns true, and each argument reads as it did. The row, from the walk. -/
import Derived.Test.YtiabgkiccaodmaaGreatZRD13
import Derived.Test.YtiabgkiccaodmaaGreatZRD16
import Derived.JoinedOf
import Derived.Test.YtiabgkiccaodmaaGreatRows
set_option linter.all false
namespace Go.Proofs.YtiabgkiccaodmaaGreat
open Go Go.CE Go.RowKit
noncomputable section
set_option maxRecDepth 100000
theorem Qzl (s:Qaa) (load:List Int) (days:Int) (t:Qaf) (kind r:Int) (hs:Qav s=true) (hl:Qbl s load=true) (hll:load.length<=10) (ht:Qbn s days t=true) (hd:0<=days/\days<=300) (hk:0<=kind/\kind < s.stock.length) (hr:0<=r/\r<=1001):Qam YP J0 41 #[.agg (Qah s).toArray,slI load,.int .i64 days,.agg (Qa4 t).toArray,.int .i64 kind,.int .i64 r] (Qn0 (Qcn (Qd7 t kind r) (Qee t kind load) (QaW t) (upI 0 days) (-1,s.stock.getD kind.toNat default))):=by
 have hn:=hl;simp only [Qbl,YB] at hn;exact Q65 s load days t kind r hs hll (QhB hn.1) ht hd hk hr
def Qeu (s:Qaa) (load:List Int) (days kind:Int):Array Value:=#[.agg #[slT s.stock.length (Qac Qat s.stock),slT s.use.length (Qac Qa9 s.use),.int .i64 s.glo,.int .i64 s.ghi,slT s.lots.length (Qac Qan s.lots),.int .i64 s.hold],slT load.length (Qac Qat load),.int .i64 days,.int .i64 kind]
def Qfq (s:Qaa) (load:List Int) (days:Int):Array Value:=#[.agg #[slT s.stock.length (Qac Qat s.stock),slT s.use.length (Qac Qa9 s.use),.int .i64 s.glo,.int .i64 s.ghi,slT s.lots.length (Qac Qan s.lots),.int .i64 s.hold],slT load.length (Qac Qat load),.int .i64 days]
def QgE (s:Qaa):Array Value:=#[slT s.stock.length (Qac Qat s.stock),slT s.use.length (Qac Qa9 s.use),.int .i64 s.glo,.int .i64 s.ghi,slT s.lots.length (Qac Qan s.lots),.int .i64 s.hold]
def Qiy (B:Lo) (s:Qaa) (load:List Int) (days kind:Int):List Prop:=[Qa3 []/\Qam YP J0 36 #[.agg (QgE s)] (.bool true)]++([]:List Prop)
def Qmd (s:Qaa) (load:List Int) (days kind:Int):Qas:=[(3,Qai.pure (.bool true) [])]
theorem QtP (B:Lo) (s:Qaa) (load:List Int) (days kind:Int):QaU (Qal YP (Qa1 YP) J0 B 10 1 (Qaj YP 11 62 (([.agg (Qah s).toArray,slI load,.int .i64 days,.int .i64 kind]).map (Qao 0 4))) H00 1
 (Qmd s load days kind++[(8,hvT),(10,Qai.pure (.bool true) [])]) 0 [] []) []=some (.bool true,
 [Qa3 []/\Qam YP J0 17 #[] (.bool true),ltq 10 (↑load.length:Int)=true]++Qiy B s load days kind):=by kernel_rfl
def Qeg (B:Lo) (s:Qaa) (load:List Int) (days kind:Int):List Prop:=[ltq 10 (↑load.length:Int)=false]++Qiy B s load days kind
def Qfj (s:Qaa) (load:List Int) (days kind:Int):Qas:=Qmd s load days kind++[(8,hvF)]
def Qi2 (B:Lo) (s:Qaa) (load:List Int) (days kind:Int):List Prop:=[Qa3 []/\Qam YP J0 50 (Qeu s load days kind) (.int .i64 (QiA (Qei s load days kind) 0 1000)),Qa3 []/\Qam YP J0 49 #[.agg (QgE s),.int .i64 kind] (.bool true),Qa3 []/\Qam YP J0 39 (Qfq s load days) (.bool true),Qa3 []/\Qam YP J0 48 (Qeu s load days kind) (.tuple #[.int .i64 (Qbx s load days kind),.int .i64 0])]++Qeg B s load days kind
def Qmp (s:Qaa) (load:List Int) (days kind:Int):Qas:=Qfj s load days kind++[(14,Qai.pure (.tuple #[.int .i64 (Qbx s load days kind),.int .i64 0]) []),(23,Qai.pure (.bool true) []),(28,Qai.pure (.bool true) []),(39,Qai.pure (.int .i64 (QiA (Qei s load days kind) 0 1000)) [])]
theorem QsW (B:Lo) (s:Qaa) (load:List Int) (days kind:Int):QaU (Qal YP (Qa1 YP) J0 B 18 1 (Qaj YP 11 62 (([.agg (Qah s).toArray,slI load,.int .i64 days,.int .i64 kind]).map (Qao 0 4))) H00 1
 (Qmp s load days kind++[(40,hvT),(43,Qai.pure (.bool true) [])]) 0 [] []) []=some (.bool true,
 [Qa3 []/\Qam YP J0 17 #[] (.bool true),eqq (Qbx s load days kind) (QiA (Qei s load days kind) 0 1000)=true]++Qi2 B s load days kind):=by kernel_rfl
theorem QtD (B:Lo) (s:Qaa) (load:List Int) (days kind:Int):QaU (Qal YP (Qa1 YP) J0 B 18 1 (Qaj YP 11 62 (([.agg (Qah s).toArray,slI load,.int .i64 days,.int .i64 kind]).map (Qao 0 4))) H00 1
 (Qmp s load days kind++[(40,hvF)]) 0 [] []) []=some (.bool false,
 [eqq (Qbx s load days kind) (QiA (Qei s load days kind) 0 1000)=false]++Qi2 B s load days kind):=by kernel_rfl
theorem Qtd (B:Lo) (s:Qaa) (load:List Int) (days kind:Int):QaU (Qal YP (Qa1 YP) J0 B 17 1 (Qaj YP 11 62 (([.agg (Qah s).toArray,slI load,.int .i64 days,.int .i64 kind]).map (Qao 0 4))) H00 1
 (Qfj s load days kind++[(14,Qai.pure (.tuple #[.int .i64 0,.int .i64 2]) []),(23,Qai.pure (.bool true) []),(28,Qai.pure (.bool false) []),(38,Qai.pure (.bool true) [])]) 0 [] []) []=some (.bool true,
 [Qa3 []/\Qam YP J0 17 #[] (.bool true),Qa3 []/\Qam YP J0 49 #[.agg (QgE s),.int .i64 kind] (.bool false),Qa3 []/\Qam YP J0 39 (Qfq s load days) (.bool true),Qa3 []/\Qam YP J0 48 (Qeu s load days kind) (.tuple #[.int .i64 0,.int .i64 2])]++Qeg B s load days kind):=by kernel_rfl
theorem QtF (B:Lo) (s:Qaa) (load:List Int) (days kind:Int):QaU (Qal YP (Qa1 YP) J0 B 17 1 (Qaj YP 11 62 (([.agg (Qah s).toArray,slI load,.int .i64 days,.int .i64 kind]).map (Qao 0 4))) H00 1
 (Qfj s load days kind++[(14,Qai.pure (.tuple #[.int .i64 0,.int .i64 2]) []),(23,Qai.pure (.bool false) []),(38,Qai.pure (.bool true) [])]) 0 [] []) []=some (.bool true,
 [Qa3 []/\Qam YP J0 17 #[] (.bool true),Qa3 []/\Qam YP J0 39 (Qfq s load days) (.bool false),Qa3 []/\Qam YP J0 48 (Qeu s load days kind) (.tuple #[.int .i64 0,.int .i64 2])]++Qeg B s load days kind):=by kernel_rfl
theorem Qth (B:Lo) (s:Qaa) (load:List Int) (days kind:Int):QaU (Qal YP (Qa1 YP) J0 B 17 1 (Qaj YP 11 62 (([.agg (Qah s).toArray,slI load,.int .i64 days,.int .i64 kind]).map (Qao 0 4))) H00 1
 (Qfj s load days kind++[(14,Qai.pure (.tuple #[.int .i64 0,.int .i64 2]) []),(23,Qai.pure (.bool false) []),(38,Qai.pure (.bool true) [])]) 0 [] []) []=some (.bool true,
 [Qa3 []/\Qam YP J0 17 #[] (.bool true),Qa3 []/\Qam YP J0 39 (Qfq s load days) (.bool false),Qa3 []/\Qam YP J0 48 (Qeu s load days kind) (.tuple #[.int .i64 0,.int .i64 2])]++Qeg B s load days kind):=by kernel_rfl
theorem Qud (B:Lo) (s:Qaa) (load:List Int) (days kind:Int):QaU (Qal YP (Qa1 YP) J0 B 17 1 (Qaj YP 11 62 (([.agg (Qah s).toArray,slI load,.int .i64 days,.int .i64 kind]).map (Qao 0 4))) H00 1
 (Qfj s load days kind++[(14,Qai.pure (.tuple #[.int .i64 0,.int .i64 2]) []),(23,Qai.pure (.bool false) []),(38,Qai.pure (.bool true) [])]) 0 [] []) []=some (.bool true,
 [Qa3 []/\Qam YP J0 17 #[] (.bool true),Qa3 []/\Qam YP J0 39 (Qfq s load days) (.bool false),Qa3 []/\Qam YP J0 48 (Qeu s load days kind) (.tuple #[.int .i64 0,.int .i64 2])]++Qeg B s load days kind):=by kernel_rfl
theorem Qtv (B:Lo) (s:Qaa) (load:List Int) (days kind:Int):QaU (Qal YP (Qa1 YP) J0 B 10 1 (Qaj YP 11 62 (([.agg (Qah s).toArray,slI load,.int .i64 days,.int .i64 kind]).map (Qao 0 4))) H00 1
 [(3,Qai.pure (.bool false) []),(10,Qai.pure (.bool true) [])] 0 [] []) []=some (.bool true,
 [Qa3 []/\Qam YP J0 17 #[] (.bool true),Qa3 []/\Qam YP J0 36 #[.agg (QgE s)] (.bool false)]):=by kernel_rfl
set_option maxHeartbeats 4000000 in
theorem Q5A (s:Qaa) (load:List Int) (days kind:Int)  (hfacts:s.stock.length<=9223372036854775807) {B:Lo} (hJ:∀w,B.has w->J0 w):EndsT YP B (Qaj YP 11 62 (([.agg (Qah s).toArray,slI load,.int .i64 days,.int .i64 kind]).map (Qao 0 4))) (.bool true):=by
 cases q0:QbB s with
 | true=>
   have hp0:Qa3 (Qiy B s load days kind):=by
    have hb:=QaC ‹QbB s=true›;exact ⟨⟨trivial,(by have t_:=QoB (s);rw [q0] at t_;exact t_)⟩,trivial⟩
   by_cases q1:(10:Int) < ((↑load.length:Int))
   ·exact (GoE.endsT okF hJ Qab GoE.start (QtP B s load days kind)
     ⟨⟨trivial,known⟩,⟨(Qbe q1),hp0⟩⟩).cast rfl
   ·have hp1:Qa3 (Qeg B s load days kind):=by
     exact ⟨(Qbj (Int.not_lt.1 q1)),hp0⟩
    cases q2:Qav s with
    | true=>
      cases q3:Qbl s load with
      | true=>
        cases q4:inB days 0 300 with
        | true=>
          cases q5:inB kind 0 ((↑s.stock.length:Int) - 1) with
          | true=>
            have hp2:Qa3 (Qi2 B s load days kind):=by
             have hb:=QaC ‹QbB s=true›;have g2:=QaA.1 ‹inB days 0 300=true›;have g3:=QaA.1 ‹inB kind 0 _=true›;have g4:=Qui ‹Qav s=true› ‹Qbl s load=true› g2 g3.1 (by omega);exact ⟨⟨trivial,Q4R (s) (load) (days) (kind) (by with_reducible assumption) (by with_reducible assumption) (by omega) (by with_reducible assumption) (by omega)⟩,⟨⟨trivial,(by have t_:=Q12 (s) (kind);rw [q5] at t_;exact t_)⟩,⟨⟨trivial,(by have t_:=QgF (s) (load) (days) (by with_reducible assumption) (by omega);rw [q2,q3,q4] at t_;exact t_)⟩,⟨⟨trivial,(by have t_:=QjZ (s) (load) (days) (kind);rw [q2,q3,q4,q5] at t_;exact t_)⟩,hp1⟩⟩⟩⟩
            by_cases q6:(Qbx s load days kind:Int)=(QiA (Qei s load days kind) 0 1000)
            ·exact (GoE.endsT okF hJ Qab GoE.start (QsW B s load days kind)
              ⟨⟨trivial,known⟩,⟨(Qmk q6),hp2⟩⟩).cast rfl
            ·have hb:=QaC ‹QbB s=true›;have g2:=QaA.1 ‹inB days 0 300=true›;have g3:=QaA.1 ‹inB kind 0 _=true›;have g4:=Qui ‹Qav s=true› ‹Qbl s load=true› g2 g3.1 (by omega);exact (GoE.endsT okF hJ Qab GoE.start (QtD B s load days kind)
              ⟨(Qlu q6),hp2⟩).cast (by (exfalso;omega))
          | false=>
            have hb:=QaC ‹QbB s=true›;have g2:=QaA.1 ‹inB days 0 300=true›;exact (GoE.endsT okF hJ Qab GoE.start (Qtd B s load days kind)
             ⟨⟨trivial,known⟩,⟨⟨trivial,(by have t_:=Q12 (s) (kind);rw [q5] at t_;exact t_)⟩,⟨⟨trivial,(by have t_:=QgF (s) (load) (days) (by with_reducible assumption) (by omega);rw [q2,q3,q4] at t_;exact t_)⟩,⟨⟨trivial,(by have t_:=QjZ (s) (load) (days) (kind);rw [q2,q3,q4,q5] at t_;exact t_)⟩,hp1⟩⟩⟩⟩).cast rfl
        | false=>
          have hb:=QaC ‹QbB s=true›;exact (GoE.endsT okF hJ Qab GoE.start (QtF B s load days kind)
           ⟨⟨trivial,known⟩,⟨⟨trivial,(by have t_:=QgF (s) (load) (days) (by with_reducible assumption) (by omega);rw [q2,q3,q4] at t_;exact t_)⟩,⟨⟨trivial,(by have t_:=QjZ (s) (load) (days) (kind);rw [q2,q3,q4] at t_;exact t_)⟩,hp1⟩⟩⟩).cast rfl
      | false=>
        have hb:=QaC ‹QbB s=true›;exact (GoE.endsT okF hJ Qab GoE.start (Qth B s load days kind)
         ⟨⟨trivial,known⟩,⟨⟨trivial,(by have t_:=QgF (s) (load) (days) (by with_reducible assumption) (by omega);rw [q2,q3] at t_;exact t_)⟩,⟨⟨trivial,(by have t_:=QjZ (s) (load) (days) (kind);rw [q2,q3] at t_;exact t_)⟩,hp1⟩⟩⟩).cast rfl
    | false=>
      have hb:=QaC ‹QbB s=true›;exact (GoE.endsT okF hJ Qab GoE.start (Qud B s load days kind)
       ⟨⟨trivial,known⟩,⟨⟨trivial,(by have t_:=QgF (s) (load) (days) (by with_reducible assumption) (by omega);rw [q2] at t_;exact t_)⟩,⟨⟨trivial,(by have t_:=QjZ (s) (load) (days) (kind);rw [q2] at t_;exact t_)⟩,hp1⟩⟩⟩).cast rfl
 | false=>
   exact (GoE.endsT okF hJ Qab GoE.start (Qtv B s load days kind)
    ⟨⟨trivial,known⟩,⟨⟨trivial,(by have t_:=QoB (s);rw [q0] at t_;exact t_)⟩,trivial⟩⟩).cast rfl
def QeI (s:Qaa) (load:List Int) (days:Int):Array Value:=#[.agg #[slT s.stock.length (Qac Qat s.stock),slT s.use.length (Qac Qa9 s.use),.int .i64 s.glo,.int .i64 s.ghi,slT s.lots.length (Qac Qan s.lots),.int .i64 s.hold],slT load.length (Qac Qat load),.int .i64 days]
def Qf8 (s:Qaa) (load:List Int) (days kind:Int) (t:Qaf):Value:=(.tuple #[.int .i64 (Prod.fst (Qcn (Qd7 t kind (Qbx s load days kind)) (Qee t kind load) (QaW t) (upI 0 days) (-1,s.stock.getD kind.toNat default))),.int .i64 (Prod.snd (Qcn (Qd7 t kind (Qbx s load days kind)) (Qee t kind load) (QaW t) (upI 0 days) (-1,s.stock.getD kind.toNat default)))])
def Qhx (s:Qaa) (days:Int):Array Value:=#[slT (List.length (Qaf.uses (Qad Span.lo Span.hi s days))) (Qac Qat (Qaf.uses (Qad Span.lo Span.hi s days))),slT (List.length (Qaf.gaps (Qad Span.lo Span.hi s days))) (Qac Qat (Qaf.gaps (Qad Span.lo Span.hi s days))),slT (List.length (Qaf.goods (Qad Span.lo Span.hi s days))) (Qac Qaw (Qaf.goods (Qad Span.lo Span.hi s days)))]
def QbE (s:Qaa):Array Value:=#[slT s.stock.length (Qac Qat s.stock),slT s.use.length (Qac Qa9 s.use),.int .i64 s.glo,.int .i64 s.ghi,slT s.lots.length (Qac Qan s.lots),.int .i64 s.hold]
def QdC (t:Qaf):Array Value:=#[slT t.uses.length (Qac Qat t.uses),slT t.gaps.length (Qac Qat t.gaps),slT t.goods.length (Qac Qaw t.goods)]
def Qf5 (s:Qaa) (load:List Int) (days kind:Int):Array Value:=#[.int .i64 (Wnt.may (List.getD (QcN s (QbL load 0) days) kind.toNat default)),.int .i64 (Wnt.must (List.getD (QcN s (QbL load 0) days) kind.toNat default))]
def Qhd (B:Lo) (s:Qaa) (load:List Int) (days kind:Int) (t:Qaf):List Prop:=[Qa3 []/\Qam YP J0 36 #[.agg (QbE s)] (.bool true)]++([]:List Prop)
def QkW (s:Qaa) (load:List Int) (days kind:Int) (t:Qaf):Qas:=[(4,Qai.pure (.bool true) [])]
theorem Qr1 (B:Lo) (s:Qaa) (load:List Int) (days kind:Int) (t:Qaf):QaU (Qal YP (Qa1 YP) J0 B 10 1 (Qaj YP 12 134 (([.agg (Qah s).toArray,slI load,.int .i64 days,.int .i64 kind,.agg (Qa4 t).toArray]).map (Qao 0 4))) H00 1
 (QkW s load days kind t++[(9,hvT),(36,Qai.pure (.bool true) [])]) 0 [] []) []=some (.bool true,
 [Qa3 []/\Qam YP J0 17 #[] (.bool true),ltq 10 (↑load.length:Int)=true]++Qhd B s load days kind t):=by kernel_rfl
def QhL (B:Lo) (s:Qaa) (load:List Int) (days kind:Int) (t:Qaf):List Prop:=[ltq 10 (↑load.length:Int)=false]++Qhd B s load days kind t
def QkM (s:Qaa) (load:List Int) (days kind:Int) (t:Qaf):Qas:=QkW s load days kind t++[(9,hvF)]
def QeD (B:Lo) (s:Qaa) (load:List Int) (days kind:Int) (t:Qaf):List Prop:=[Qa3 []/\Qam YP J0 37 #[.agg (QdC t)] (.bool true)]++QhL B s load days kind t
def QfD (s:Qaa) (load:List Int) (days kind:Int) (t:Qaf):Qas:=QkM s load days kind t++[(13,Qai.pure (.bool true) [])]
def Qh4 (B:Lo) (s:Qaa) (load:List Int) (days kind:Int) (t:Qaf):List Prop:=[Qa3 []/\Qam YP J0 39 (QeI s load days) (.bool true)]++QeD B s load days kind t
def QkP (s:Qaa) (load:List Int) (days kind:Int) (t:Qaf):Qas:=QfD s load days kind t++[(20,Qai.pure (.bool true) [])]
def QhJ (B:Lo) (s:Qaa) (load:List Int) (days kind:Int) (t:Qaf):List Prop:=[Qa3 []/\Qam YP J0 49 #[.agg (QbE s),.int .i64 kind] (.bool true)]++Qh4 B s load days kind t
def QkY (s:Qaa) (load:List Int) (days kind:Int) (t:Qaf):Qas:=QkP s load days kind t++[(26,Qai.pure (.bool true) [])]
def QhE (B:Lo) (s:Qaa) (load:List Int) (days kind:Int) (t:Qaf):List Prop:=[Qa3 []/\Qam YP J0 43 (QeI s load days) (.tuple #[slT (List.length (QcN s (QbL load 0) days)) (Qac Qdb (QcN s (QbL load 0) days)),.int .i64 0]),Qa3 []/\Qam YP J0 48 #[.agg (QbE s),slT load.length (Qac Qat load),.int .i64 days,.int .i64 kind] (.tuple #[.int .i64 (Qbx s load days kind),.int .i64 0]),Qa3 []/\Qam YP J0 40 #[.agg (QbE s),.int .i64 days,.agg (QdC t)] (.bool true)]++QhJ B s load days kind t
def QkZ (s:Qaa) (load:List Int) (days kind:Int) (t:Qaf):Qas:=QkY s load days kind t++[(33,Qai.pure (.bool true) []),(40,Qai.pure (.tuple #[.int .i64 (Qbx s load days kind),.int .i64 0]) []),(49,Qai.pure (.tuple #[slT (List.length (QcN s (QbL load 0) days)) (Qac Qdb (QcN s (QbL load 0) days)),.int .i64 0]) [])]
theorem QsF (B:Lo) (s:Qaa) (load:List Int) (days kind:Int) (t:Qaf):QaU (Qal YP (Qa1 YP) J0 B 19 1 (Qaj YP 12 134 (([.agg (Qah s).toArray,slI load,.int .i64 days,.int .i64 kind,.agg (Qa4 t).toArray]).map (Qao 0 4))) H00 1
 (QkZ s load days kind t++[(67,hvT)]) 0 [] []) []=some (.bool false,
 [(!eqq (↑(List.length (QcN s (QbL load 0) days)):Int) (↑s.stock.length:Int))=true]++QhE B s load days kind t):=by kernel_rfl
def Qht (B:Lo) (s:Qaa) (load:List Int) (days kind:Int) (t:Qaf):List Prop:=[(!eqq (↑(List.length (QcN s (QbL load 0) days)):Int) (↑s.stock.length:Int))=false]++QhE B s load days kind t
def Qk9 (s:Qaa) (load:List Int) (days kind:Int) (t:Qaf):Qas:=QkZ s load days kind t++[(67,hvF)]
theorem QrK (B:Lo) (s:Qaa) (load:List Int) (days kind:Int) (t:Qaf):QaU (Qal YP (Qa1 YP) J0 B 19 1 (Qaj YP 12 134 (([.agg (Qah s).toArray,slI load,.int .i64 days,.int .i64 kind,.agg (Qa4 t).toArray]).map (Qao 0 4))) H00 1
 (Qk9 s load days kind t++[(71,hvT)]) 0 [] []) []=some (.bool false,
 [ltq (Qbx s load days kind) 0=true]++Qht B s load days kind t):=by kernel_rfl
def QhI (B:Lo) (s:Qaa) (load:List Int) (days kind:Int) (t:Qaf):List Prop:=[ltq (Qbx s load days kind) 0=false]++Qht B s load days kind t
def QkR (s:Qaa) (load:List Int) (days kind:Int) (t:Qaf):Qas:=Qk9 s load days kind t++[(71,hvF)]
theorem QrG (B:Lo) (s:Qaa) (load:List Int) (days kind:Int) (t:Qaf):QaU (Qal YP (Qa1 YP) J0 B 19 1 (Qaj YP 12 134 (([.agg (Qah s).toArray,slI load,.int .i64 days,.int .i64 kind,.agg (Qa4 t).toArray]).map (Qao 0 4))) H00 1
 (QkR s load days kind t++[(75,hvT)]) 0 [] []) []=some (.bool false,
 [ltq 1000 (Qbx s load days kind)=true]++QhI B s load days kind t):=by kernel_rfl
def Qh6 (B:Lo) (s:Qaa) (load:List Int) (days kind:Int) (t:Qaf):List Prop:=[ltq 1000 (Qbx s load days kind)=false]++QhI B s load days kind t
def QkI (s:Qaa) (load:List Int) (days kind:Int) (t:Qaf):Qas:=QkR s load days kind t++[(75,hvF)]
def QhA (B:Lo) (s:Qaa) (load:List Int) (days kind:Int) (t:Qaf):List Prop:=[kind=(↑kind.toNat:Int)/\Int.toNat kind < List.length (QcN s (QbL load 0) days)/\Array.extract (Qac Qdb (QcN s (QbL load 0) days)) (Int.toNat kind * TypeInfo.size Tryz.t81) (Int.toNat kind * TypeInfo.size Tryz.t81+TypeInfo.size Tryz.t81)=(Qf5 s load days kind),eqq (Qbx s load days kind) 1000=true]++Qh6 B s load days kind t
def QkS (s:Qaa) (load:List Int) (days kind:Int) (t:Qaf):Qas:=QkI s load days kind t++[(79,hvT),(82,Qai.tidx kind.toNat (Qf5 s load days kind))]
def QgI (B:Lo) (s:Qaa) (load:List Int) (days kind:Int) (t:Qaf):List Prop:=[Qa3 []/\Qam YP J0 41 #[.agg (QbE s),slT load.length (Qac Qat load),.int .i64 days,.agg (QdC t),.int .i64 kind,.int .i64 (Qbx s load days kind)] (Qf8 s load days kind t),ltq (Wnt.may (List.getD (QcN s (QbL load 0) days) kind.toNat default)) 0=true]++QhA B s load days kind t
def QiV (s:Qaa) (load:List Int) (days kind:Int) (t:Qaf):Qas:=QkS s load days kind t++[(85,hvT),(94,Qai.pure (Qf8 s load days kind t) [])]
theorem Qqc (B:Lo) (s:Qaa) (load:List Int) (days kind:Int) (t:Qaf):QaU (Qal YP (Qa1 YP) J0 B 26 1 (Qaj YP 12 134 (([.agg (Qah s).toArray,slI load,.int .i64 days,.int .i64 kind,.agg (Qa4 t).toArray]).map (Qao 0 4))) H00 1
 (QiV s load days kind t++[(101,hvT)]) 0 [] []) []=some (.bool false,
 [(!ltq (Prod.fst (Qcn (Qd7 t kind (Qbx s load days kind)) (Qee t kind load) (QaW t) (upI 0 days) (-1,s.stock.getD kind.toNat default))) 0)=true]++QgI B s load days kind t):=by kernel_rfl
theorem Qsk (B:Lo) (s:Qaa) (load:List Int) (days kind:Int) (t:Qaf):QaU (Qal YP (Qa1 YP) J0 B 31 1 (Qaj YP 12 134 (([.agg (Qah s).toArray,slI load,.int .i64 days,.int .i64 kind,.agg (Qa4 t).toArray]).map (Qao 0 4))) H00 1
 (QiV s load days kind t++[(101,hvF),(103,hvT),(104,Qai.pure (.bool true) [])]) 0 [] []) []=some (.bool true,
 [Qa3 []/\Qam YP J0 17 #[] (.bool true),eqq (Qbx s load days kind) 1000=true,(!ltq (Prod.fst (Qcn (Qd7 t kind (Qbx s load days kind)) (Qee t kind load) (QaW t) (upI 0 days) (-1,s.stock.getD kind.toNat default))) 0)=false]++QgI B s load days kind t):=by kernel_rfl
theorem QqM (B:Lo) (s:Qaa) (load:List Int) (days kind:Int) (t:Qaf):QaU (Qal YP (Qa1 YP) J0 B 19 1 (Qaj YP 12 134 (([.agg (Qah s).toArray,slI load,.int .i64 days,.int .i64 kind,.agg (Qa4 t).toArray]).map (Qao 0 4))) H00 1
 (QkS s load days kind t++[(85,hvF)]) 0 [] []) []=some (.bool false,
 [ltq (Wnt.may (List.getD (QcN s (QbL load 0) days) kind.toNat default)) 0=false]++QhA B s load days kind t):=by kernel_rfl
def Qgx (B:Lo) (s:Qaa) (load:List Int) (days kind:Int) (t:Qaf):List Prop:=[kind=(↑kind.toNat:Int)/\Int.toNat kind < List.length (QcN s (QbL load 0) days)/\Array.extract (Qac Qdb (QcN s (QbL load 0) days)) (Int.toNat kind * TypeInfo.size Tryz.t81) (Int.toNat kind * TypeInfo.size Tryz.t81+TypeInfo.size Tryz.t81)=(Qf5 s load days kind),eqq (Qbx s load days kind) 1000=false]++Qh6 B s load days kind t
def QiM (s:Qaa) (load:List Int) (days kind:Int) (t:Qaf):Qas:=QkI s load days kind t++[(79,hvF),(82,Qai.tidx kind.toNat (Qf5 s load days kind))]
theorem Qrd (B:Lo) (s:Qaa) (load:List Int) (days kind:Int) (t:Qaf):QaU (Qal YP (Qa1 YP) J0 B 19 1 (Qaj YP 12 134 (([.agg (Qah s).toArray,slI load,.int .i64 days,.int .i64 kind,.agg (Qa4 t).toArray]).map (Qao 0 4))) H00 1
 (QiM s load days kind t++[(85,hvT)]) 0 [] []) []=some (.bool false,
 [ltq (Wnt.may (List.getD (QcN s (QbL load 0) days) kind.toNat default)) 0=true]++Qgx B s load days kind t):=by kernel_rfl
def Qg8 (B:Lo) (s:Qaa) (load:List Int) (days kind:Int) (t:Qaf):List Prop:=[Qa3 []/\Qam YP J0 41 #[.agg (QbE s),slT load.length (Qac Qat load),.int .i64 days,.agg (QdC t),.int .i64 kind,.int .i64 (Qbx s load days kind)] (Qf8 s load days kind t),ltq (Wnt.may (List.getD (QcN s (QbL load 0) days) kind.toNat default)) 0=false]++Qgx B s load days kind t
def Qjr (s:Qaa) (load:List Int) (days kind:Int) (t:Qaf):Qas:=QiM s load days kind t++[(85,hvF),(94,Qai.pure (Qf8 s load days kind t) [])]
theorem QqG (B:Lo) (s:Qaa) (load:List Int) (days kind:Int) (t:Qaf):QaU (Qal YP (Qa1 YP) J0 B 26 1 (Qaj YP 12 134 (([.agg (Qah s).toArray,slI load,.int .i64 days,.int .i64 kind,.agg (Qa4 t).toArray]).map (Qao 0 4))) H00 1
 (Qjr s load days kind t++[(101,hvT)]) 0 [] []) []=some (.bool false,
 [(!ltq (Prod.fst (Qcn (Qd7 t kind (Qbx s load days kind)) (Qee t kind load) (QaW t) (upI 0 days) (-1,s.stock.getD kind.toNat default))) 0)=true]++Qg8 B s load days kind t):=by kernel_rfl
def QgN (B:Lo) (s:Qaa) (load:List Int) (days kind:Int) (t:Qaf):List Prop:=[Qa3 []/\Qam YP J0 41 #[.agg (QbE s),slT load.length (Qac Qat load),.int .i64 days,.agg (Qhx s days),.int .i64 kind,.int .i64 (Qbx s load days kind+1)] (.tuple #[.int .i64 (Prod.fst (Qcn (Qd7 (Qad Span.lo Span.hi s days) kind (Qbx s load days kind+1)) (Qee (Qad Span.lo Span.hi s days) kind load) (QaW (Qad Span.lo Span.hi s days)) (upI 0 days) (-1,s.stock.getD kind.toNat default))),.int .i64 (Prod.snd (Qcn (Qd7 (Qad Span.lo Span.hi s days) kind (Qbx s load days kind+1)) (Qee (Qad Span.lo Span.hi s days) kind load) (QaW (Qad Span.lo Span.hi s days)) (upI 0 days) (-1,s.stock.getD kind.toNat default)))]),wq (Qbx s load days kind+1)=Qbx s load days kind+1,Qa3 []/\Qam YP J0 47 #[.agg (QbE s),.int .i64 days,.bool true] (.agg (Qhx s days)),eqq (Qbx s load days kind) 1000=false,(!ltq (Prod.fst (Qcn (Qd7 t kind (Qbx s load days kind)) (Qee t kind load) (QaW t) (upI 0 days) (-1,s.stock.getD kind.toNat default))) 0)=false]++Qg8 B s load days kind t
def QiP (s:Qaa) (load:List Int) (days kind:Int) (t:Qaf):Qas:=Qjr s load days kind t++[(101,hvF),(103,hvF),(109,Qai.pure (.agg (Qhx s days)) []),(112,hvI (Qbx s load days kind+1)),(113,Qai.pure (.tuple #[.int .i64 (Prod.fst (Qcn (Qd7 (Qad Span.lo Span.hi s days) kind (Qbx s load days kind+1)) (Qee (Qad Span.lo Span.hi s days) kind load) (QaW (Qad Span.lo Span.hi s days)) (upI 0 days) (-1,s.stock.getD kind.toNat default))),.int .i64 (Prod.snd (Qcn (Qd7 (Qad Span.lo Span.hi s days) kind (Qbx s load days kind+1)) (Qee (Qad Span.lo Span.hi s days) kind load) (QaW (Qad Span.lo Span.hi s days)) (upI 0 days) (-1,s.stock.getD kind.toNat default)))]) [])]
theorem Qqs (B:Lo) (s:Qaa) (load:List Int) (days kind:Int) (t:Qaf):QaU (Qal YP (Qa1 YP) J0 B 34 1 (Qaj YP 12 134 (([.agg (Qah s).toArray,slI load,.int .i64 days,.int .i64 kind,.agg (Qa4 t).toArray]).map (Qao 0 4))) H00 1
 (QiP s load days kind t++[(120,hvT),(122,Qai.pure (.bool true) [])]) 0 [] []) []=some (.bool true,
 [Qa3 []/\Qam YP J0 17 #[] (.bool true),(!ltq (Prod.fst (Qcn (Qd7 (Qad Span.lo Span.hi s days) kind (Qbx s load days kind+1)) (Qee (Qad Span.lo Span.hi s days) kind load) (QaW (Qad Span.lo Span.hi s days)) (upI 0 days) (-1,s.stock.getD kind.toNat default))) 0)=true]++QgN B s load days kind t):=by kernel_rfl
theorem QoZ (B:Lo) (s:Qaa) (load:List Int) (days kind:Int) (t:Qaf):QaU (Qal YP (Qa1 YP) J0 B 34 1 (Qaj YP 12 134 (([.agg (Qah s).toArray,slI load,.int .i64 days,.int .i64 kind,.agg (Qa4 t).toArray]).map (Qao 0 4))) H00 1
 (QiP s load days kind t++[(120,hvF)]) 0 [] []) []=some (.bool false,
 [(!ltq (Prod.fst (Qcn (Qd7 (Qad Span.lo Span.hi s days) kind (Qbx s load days kind+1)) (Qee (Qad Span.lo Span.hi s days) kind load) (QaW (Qad Span.lo Span.hi s days)) (upI 0 days) (-1,s.stock.getD kind.toNat default))) 0)=false]++QgN B s load days kind t):=by kernel_rfl
theorem Qpl (B:Lo) (s:Qaa) (load:List Int) (days kind:Int) (t:Qaf):QaU (Qal YP (Qa1 YP) J0 B 10 1 (Qaj YP 12 134 (([.agg (Qah s).toArray,slI load,.int .i64 days,.int .i64 kind,.agg (Qa4 t).toArray]).map (Qao 0 4))) H00 1
 (QkY s load days kind t++[(33,Qai.pure (.bool false) []),(36,Qai.pure (.bool true) [])]) 0 [] []) []=some (.bool true,
 [Qa3 []/\Qam YP J0 17 #[] (.bool true),Qa3 []/\Qam YP J0 40 #[.agg (QbE s),.int .i64 days,.agg (QdC t)] (.bool false)]++QhJ B s load days kind t):=by kernel_rfl
theorem QoI (B:Lo) (s:Qaa) (load:List Int) (days kind:Int) (t:Qaf):QaU (Qal YP (Qa1 YP) J0 B 10 1 (Qaj YP 12 134 (([.agg (Qah s).toArray,slI load,.int .i64 days,.int .i64 kind,.agg (Qa4 t).toArray]).map (Qao 0 4))) H00 1
 (QkP s load days kind t++[(26,Qai.pure (.bool false) []),(36,Qai.pure (.bool true) [])]) 0 [] []) []=some (.bool true,
 [Qa3 []/\Qam YP J0 17 #[] (.bool true),Qa3 []/\Qam YP J0 49 #[.agg (QbE s),.int .i64 kind] (.bool false)]++Qh4 B s load days kind t):=by kernel_rfl
theorem QpG (B:Lo) (s:Qaa) (load:List Int) (days kind:Int) (t:Qaf):QaU (Qal YP (Qa1 YP) J0 B 10 1 (Qaj YP 12 134 (([.agg (Qah s).toArray,slI load,.int .i64 days,.int .i64 kind,.agg (Qa4 t).toArray]).map (Qao 0 4))) H00 1
 (QfD s load days kind t++[(20,Qai.pure (.bool false) []),(36,Qai.pure (.bool true) [])]) 0 [] []) []=some (.bool true,
 [Qa3 []/\Qam YP J0 17 #[] (.bool true),Qa3 []/\Qam YP J0 39 (QeI s load days) (.bool false)]++QeD B s load days kind t):=by kernel_rfl
theorem QpM (B:Lo) (s:Qaa) (load:List Int) (days kind:Int) (t:Qaf):QaU (Qal YP (Qa1 YP) J0 B 10 1 (Qaj YP 12 134 (([.agg (Qah s).toArray,slI load,.int .i64 days,.int .i64 kind,.agg (Qa4 t).toArray]).map (Qao 0 4))) H00 1
 (QfD s load days kind t++[(20,Qai.pure (.bool false) []),(36,Qai.pure (.bool true) [])]) 0 [] []) []=some (.bool true,
 [Qa3 []/\Qam YP J0 17 #[] (.bool true),Qa3 []/\Qam YP J0 39 (QeI s load days) (.bool false)]++QeD B s load days kind t):=by kernel_rfl
theorem Qph (B:Lo) (s:Qaa) (load:List Int) (days kind:Int) (t:Qaf):QaU (Qal YP (Qa1 YP) J0 B 10 1 (Qaj YP 12 134 (([.agg (Qah s).toArray,slI load,.int .i64 days,.int .i64 kind,.agg (Qa4 t).toArray]).map (Qao 0 4))) H00 1
 (QfD s load days kind t++[(20,Qai.pure (.bool false) []),(36,Qai.pure (.bool true) [])]) 0 [] []) []=some (.bool true,
 [Qa3 []/\Qam YP J0 17 #[] (.bool true),Qa3 []/\Qam YP J0 39 (QeI s load days) (.bool false)]++QeD B s load days kind t):=by kernel_rfl
theorem QpI (B:Lo) (s:Qaa) (load:List Int) (days kind:Int) (t:Qaf):QaU (Qal YP (Qa1 YP) J0 B 10 1 (Qaj YP 12 134 (([.agg (Qah s).toArray,slI load,.int .i64 days,.int .i64 kind,.agg (Qa4 t).toArray]).map (Qao 0 4))) H00 1
 (QkM s load days kind t++[(13,Qai.pure (.bool false) []),(36,Qai.pure (.bool true) [])]) 0 [] []) []=some (.bool true,
 [Qa3 []/\Qam YP J0 17 #[] (.bool true),Qa3 []/\Qam YP J0 37 #[.agg (QdC t)] (.bool false)]++QhL B s load days kind t):=by kernel_rfl
theorem Qpb (B:Lo) (s:Qaa) (load:List Int) (days kind:Int) (t:Qaf):QaU (Qal YP (Qa1 YP) J0 B 10 1 (Qaj YP 12 134 (([.agg (Qah s).toArray,slI load,.int .i64 days,.int .i64 kind,.agg (Qa4 t).toArray]).map (Qao 0 4))) H00 1
 [(4,Qai.pure (.bool false) []),(36,Qai.pure (.bool true) [])] 0 [] []) []=some (.bool true,
 [Qa3 []/\Qam YP J0 17 #[] (.bool true),Qa3 []/\Qam YP J0 36 #[.agg (QbE s)] (.bool false)]):=by kernel_rfl
set_option maxHeartbeats 4000000 in
theorem Qtb (s:Qaa) (load:List Int) (days kind:Int) (t:Qaf)  (hfacts:s.stock.length<=9223372036854775807) {B:Lo} (hJ:∀w,B.has w->J0 w):EndsT YP B (Qaj YP 12 134 (([.agg (Qah s).toArray,slI load,.int .i64 days,.int .i64 kind,.agg (Qa4 t).toArray]).map (Qao 0 4))) (.bool true):=by
 have hwl:=Q1W (s:=s) (load:=QbL load 0) (days:=days);cases q0:QbB s with
 | true=>
   have hp0:Qa3 (Qhd B s load days kind t):=by
    have hb:=QaC ‹QbB s=true›;exact ⟨⟨trivial,(by have t_:=QoB (s);rw [q0] at t_;exact t_)⟩,trivial⟩
   by_cases q1:(10:Int) < ((↑load.length:Int))
   ·exact (GoE.endsT okF hJ Qab GoE.start (Qr1 B s load days kind t)
     ⟨⟨trivial,known⟩,⟨(Qbe q1),hp0⟩⟩).cast rfl
   ·have hp1:Qa3 (QhL B s load days kind t):=by
     exact ⟨(Qbj (Int.not_lt.1 q1)),hp0⟩
    cases q2:Q3Q t with
    | true=>
      have hp2:Qa3 (QeD B s load days kind t):=by
       have hb:=QaC ‹QbB s=true›;exact ⟨⟨trivial,(by have t_:=Qzb (t);rw [q2] at t_;exact t_)⟩,hp1⟩
      cases q3:Qav s with
      | true=>
        cases q4:Qbl s load with
        | true=>
          cases q5:inB days 0 300 with
          | true=>
            have hp3:Qa3 (Qh4 B s load days kind t):=by
             have hb:=QaC ‹QbB s=true›;have g2:=QaA.1 ‹inB days 0 300=true›;have ht1:=QaI QaS QaR ‹Qav s=true› g2;exact ⟨⟨trivial,(by have t_:=QgF (s) (load) (days) (by with_reducible assumption) (by omega);rw [q3,q4,q5] at t_;exact t_)⟩,hp2⟩
            cases q6:inB kind 0 ((↑s.stock.length:Int) - 1) with
            | true=>
              have hp4:Qa3 (QhJ B s load days kind t):=by
               have hb:=QaC ‹QbB s=true›;have g2:=QaA.1 ‹inB days 0 300=true›;have g3:=QaA.1 ‹inB kind 0 _=true›;have ht1:=QaI QaS QaR ‹Qav s=true› g2;exact ⟨⟨trivial,(by have t_:=Q12 (s) (kind);rw [q6] at t_;exact t_)⟩,hp3⟩
              cases q7:Qbn s days t with
              | true=>
                have hp5:Qa3 (QhE B s load days kind t):=by
                 have hb:=QaC ‹QbB s=true›;have g2:=QaA.1 ‹inB days 0 300=true›;have g3:=QaA.1 ‹inB kind 0 _=true›;have ht1:=QaI QaS QaR ‹Qav s=true› g2;have m1:=Qb0 ‹Qav s=true› ‹Qbl s load=true› ‹Qbn s days t=true› g2 g3.1 (by omega);exact ⟨⟨trivial,(by have t_:=Q7s (s) (load) (days);rw [q3,q4,q5] at t_;exact t_)⟩,⟨⟨trivial,(by have t_:=QjZ (s) (load) (days) (kind);rw [q3,q4,q5,q6] at t_;exact t_)⟩,⟨⟨trivial,(by have t_:=Q1m (s) (days) (t) (by with_reducible assumption);rw [q7] at t_;exact t_)⟩,hp4⟩⟩⟩
                by_cases q8:((↑(List.length (QcN s (QbL load 0) days)):Int):Int)≠((↑s.stock.length:Int))
                ·have hb:=QaC ‹QbB s=true›;have g2:=QaA.1 ‹inB days 0 300=true›;have g3:=QaA.1 ‹inB kind 0 _=true›;have ht1:=QaI QaS QaR ‹Qav s=true› g2;have m1:=Qb0 ‹Qav s=true› ‹Qbl s load=true› ‹Qbn s days t=true› g2 g3.1 (by omega);exact (GoE.endsT okF hJ Qab GoE.start (QsF B s load days kind t)
                  ⟨(QqV q8),hp5⟩).cast (by (exfalso;omega))
                ·have hp6:Qa3 (Qht B s load days kind t):=by
                  exact ⟨(QsI (Decidable.of_not_not q8)),hp5⟩
                 by_cases q9:(Qbx s load days kind:Int) < (0)
                 ·have hb:=QaC ‹QbB s=true›;have g2:=QaA.1 ‹inB days 0 300=true›;have g3:=QaA.1 ‹inB kind 0 _=true›;have ht1:=QaI QaS QaR ‹Qav s=true› g2;have m1:=Qb0 ‹Qav s=true› ‹Qbl s load=true› ‹Qbn s days t=true› g2 g3.1 (by omega);exact (GoE.endsT okF hJ Qab GoE.start (QrK B s load days kind t)
                   ⟨(Qbe q9),hp6⟩).cast (by (exfalso;omega))
                 ·have hp7:Qa3 (QhI B s load days kind t):=by
                   exact ⟨(Qbj (Int.not_lt.1 q9)),hp6⟩
                  by_cases q10:(1000:Int) < (Qbx s load days kind)
                  ·have hb:=QaC ‹QbB s=true›;have g2:=QaA.1 ‹inB days 0 300=true›;have g3:=QaA.1 ‹inB kind 0 _=true›;have ht1:=QaI QaS QaR ‹Qav s=true› g2;have m1:=Qb0 ‹Qav s=true› ‹Qbl s load=true› ‹Qbn s days t=true› g2 g3.1 (by omega);exact (GoE.endsT okF hJ Qab GoE.start (QrG B s load days kind t)
                    ⟨(Qbe q10),hp7⟩).cast (by (exfalso;omega))
                  ·have hp8:Qa3 (Qh6 B s load days kind t):=by
                    exact ⟨(Qbj (Int.not_lt.1 q10)),hp7⟩
                   by_cases q11:(Qbx s load days kind:Int)=(1000)
                   ·have hp9:Qa3 (QhA B s load days kind t):=by
                     have hb:=QaC ‹QbB s=true›;have g2:=QaA.1 ‹inB days 0 300=true›;have g3:=QaA.1 ‹inB kind 0 _=true›;have ht1:=QaI QaS QaR ‹Qav s=true› g2;have m1:=Qb0 ‹Qav s=true› ‹Qbl s load=true› ‹Qbn s days t=true› g2 g3.1 (by omega);exact ⟨⟨by omega,by omega,(Qag (z:=2) (fun _=> rfl) (by omega))⟩,⟨(Qmk q11),hp8⟩⟩
                    by_cases q12:(Wnt.may (List.getD (QcN s (QbL load 0) days) kind.toNat default):Int) < (0)
                    ·have hp10:Qa3 (QgI B s load days kind t):=by
                      have hb:=QaC ‹QbB s=true›;have g2:=QaA.1 ‹inB days 0 300=true›;have g3:=QaA.1 ‹inB kind 0 _=true›;have ht1:=QaI QaS QaR ‹Qav s=true› g2;have m1:=Qb0 ‹Qav s=true› ‹Qbl s load=true› ‹Qbn s days t=true› g2 g3.1 (by omega);exact ⟨⟨trivial,Qzl (s) (load) (days) (t) (kind) (Qbx s load days kind) (by with_reducible assumption) (by with_reducible assumption) (by omega) (by with_reducible assumption) (by with_reducible assumption) (by omega) (by omega)⟩,⟨(Qbe q12),hp9⟩⟩
                     by_cases q13:(0:Int)<=(Prod.fst (Qcn (Qd7 t kind (Qbx s load days kind)) (Qee t kind load) (QaW t) (upI 0 days) (-1,s.stock.getD kind.toNat default)))
                     ·have hb:=QaC ‹QbB s=true›;have g2:=QaA.1 ‹inB days 0 300=true›;have g3:=QaA.1 ‹inB kind 0 _=true›;have ht1:=QaI QaS QaR ‹Qav s=true› g2;have m1:=Qb0 ‹Qav s=true› ‹Qbl s load=true› ‹Qbn s days t=true› g2 g3.1 (by omega);exact (GoE.endsT okF hJ Qab GoE.start (Qqc B s load days kind t)
                       ⟨(Qca q13),hp10⟩).cast (by (exfalso;omega))
                     ·exact (GoE.endsT okF hJ Qab GoE.start (Qsk B s load days kind t)
                       ⟨⟨trivial,known⟩,⟨(Qmk q11),⟨(Qcb (Int.not_le.1 q13)),hp10⟩⟩⟩).cast rfl
                    ·have hb:=QaC ‹QbB s=true›;have g2:=QaA.1 ‹inB days 0 300=true›;have g3:=QaA.1 ‹inB kind 0 _=true›;have ht1:=QaI QaS QaR ‹Qav s=true› g2;have m1:=Qb0 ‹Qav s=true› ‹Qbl s load=true› ‹Qbn s days t=true› g2 g3.1 (by omega);exact (GoE.endsT okF hJ Qab GoE.start (QqM B s load days kind t)
                      ⟨(Qbj (Int.not_lt.1 q12)),hp9⟩).cast (by (exfalso;omega))
                   ·have hp11:Qa3 (Qgx B s load days kind t):=by
                     have hb:=QaC ‹QbB s=true›;have g2:=QaA.1 ‹inB days 0 300=true›;have g3:=QaA.1 ‹inB kind 0 _=true›;have ht1:=QaI QaS QaR ‹Qav s=true› g2;have m1:=Qb0 ‹Qav s=true› ‹Qbl s load=true› ‹Qbn s days t=true› g2 g3.1 (by omega);exact ⟨⟨by omega,by omega,(Qag (z:=2) (fun _=> rfl) (by omega))⟩,⟨(Qlu q11),hp8⟩⟩
                    by_cases q12:(Wnt.may (List.getD (QcN s (QbL load 0) days) kind.toNat default):Int) < (0)
                    ·have hb:=QaC ‹QbB s=true›;have g2:=QaA.1 ‹inB days 0 300=true›;have g3:=QaA.1 ‹inB kind 0 _=true›;have ht1:=QaI QaS QaR ‹Qav s=true› g2;have m1:=Qb0 ‹Qav s=true› ‹Qbl s load=true› ‹Qbn s days t=true› g2 g3.1 (by omega);exact (GoE.endsT okF hJ Qab GoE.start (Qrd B s load days kind t)
                      ⟨(Qbe q12),hp11⟩).cast (by (exfalso;omega))
                    ·have hp12:Qa3 (Qg8 B s load days kind t):=by
                      have hb:=QaC ‹QbB s=true›;have g2:=QaA.1 ‹inB days 0 300=true›;have g3:=QaA.1 ‹inB kind 0 _=true›;have ht1:=QaI QaS QaR ‹Qav s=true› g2;have m1:=Qb0 ‹Qav s=true› ‹Qbl s load=true› ‹Qbn s days t=true› g2 g3.1 (by omega);exact ⟨⟨trivial,Qzl (s) (load) (days) (t) (kind) (Qbx s load days kind) (by with_reducible assumption) (by with_reducible assumption) (by omega) (by with_reducible assumption) (by with_reducible assumption) (by omega) (by omega)⟩,⟨(Qbj (Int.not_lt.1 q12)),hp11⟩⟩
                     by_cases q13:(0:Int)<=(Prod.fst (Qcn (Qd7 t kind (Qbx s load days kind)) (Qee t kind load) (QaW t) (upI 0 days) (-1,s.stock.getD kind.toNat default)))
                     ·have hb:=QaC ‹QbB s=true›;have g2:=QaA.1 ‹inB days 0 300=true›;have g3:=QaA.1 ‹inB kind 0 _=true›;have ht1:=QaI QaS QaR ‹Qav s=true› g2;have m1:=Qb0 ‹Qav s=true› ‹Qbl s load=true› ‹Qbn s days t=true› g2 g3.1 (by omega);exact (GoE.endsT okF hJ Qab GoE.start (QqG B s load days kind t)
                       ⟨(Qca q13),hp12⟩).cast (by (exfalso;omega))
                     ·have hp13:Qa3 (QgN B s load days kind t):=by
                       have hb:=QaC ‹QbB s=true›;have g2:=QaA.1 ‹inB days 0 300=true›;have g3:=QaA.1 ‹inB kind 0 _=true›;have ht1:=QaI QaS QaR ‹Qav s=true› g2;have m1:=Qb0 ‹Qav s=true› ‹Qbl s load=true› ‹Qbn s days t=true› g2 g3.1 (by omega);exact ⟨⟨trivial,Qzl (s) (load) (days) (Qad Span.lo Span.hi s days) (kind) (Qbx s load days kind+1) (by with_reducible assumption) (by with_reducible assumption) (by omega) (by with_reducible assumption) (by with_reducible assumption) (by omega) (by omega)⟩,⟨(QaQ (by omega) (by omega)),⟨⟨trivial,Q5L (s) (days) (by with_reducible assumption) (by with_reducible assumption)⟩,⟨(Qlu q11),⟨(Qcb (Int.not_le.1 q13)),hp12⟩⟩⟩⟩⟩
                      by_cases q14:(0:Int)<=(Prod.fst (Qcn (Qd7 (Qad Span.lo Span.hi s days) kind (Qbx s load days kind+1)) (Qee (Qad Span.lo Span.hi s days) kind load) (QaW (Qad Span.lo Span.hi s days)) (upI 0 days) (-1,s.stock.getD kind.toNat default)))
                      ·exact (GoE.endsT okF hJ Qab GoE.start (Qqs B s load days kind t)
                        ⟨⟨trivial,known⟩,⟨(Qca q14),hp13⟩⟩).cast rfl
                      ·have hb:=QaC ‹QbB s=true›;have g2:=QaA.1 ‹inB days 0 300=true›;have g3:=QaA.1 ‹inB kind 0 _=true›;have ht1:=QaI QaS QaR ‹Qav s=true› g2;have m1:=Qb0 ‹Qav s=true› ‹Qbl s load=true› ‹Qbn s days t=true› g2 g3.1 (by omega);exact (GoE.endsT okF hJ Qab GoE.start (QoZ B s load days kind t)
                        ⟨(Qcb (Int.not_le.1 q14)),hp13⟩).cast (by (exfalso;omega))
              | false=>
                have hb:=QaC ‹QbB s=true›;have g2:=QaA.1 ‹inB days 0 300=true›;have g3:=QaA.1 ‹inB kind 0 _=true›;have ht1:=QaI QaS QaR ‹Qav s=true› g2;exact (GoE.endsT okF hJ Qab GoE.start (Qpl B s load days kind t)
                 ⟨⟨trivial,known⟩,⟨⟨trivial,(by have t_:=Q1m (s) (days) (t) (by with_reducible assumption);rw [q7] at t_;exact t_)⟩,hp4⟩⟩).cast rfl
            | false=>
              have hb:=QaC ‹QbB s=true›;have g2:=QaA.1 ‹inB days 0 300=true›;have ht1:=QaI QaS QaR ‹Qav s=true› g2;exact (GoE.endsT okF hJ Qab GoE.start (QoI B s load days kind t)
               ⟨⟨trivial,known⟩,⟨⟨trivial,(by have t_:=Q12 (s) (kind);rw [q6] at t_;exact t_)⟩,hp3⟩⟩).cast rfl
          | false=>
            have hb:=QaC ‹QbB s=true›;exact (GoE.endsT okF hJ Qab GoE.start (QpG B s load days kind t)
             ⟨⟨trivial,known⟩,⟨⟨trivial,(by have t_:=QgF (s) (load) (days) (by with_reducible assumption) (by omega);rw [q3,q4,q5] at t_;exact t_)⟩,hp2⟩⟩).cast rfl
        | false=>
          have hb:=QaC ‹QbB s=true›;exact (GoE.endsT okF hJ Qab GoE.start (QpM B s load days kind t)
           ⟨⟨trivial,known⟩,⟨⟨trivial,(by have t_:=QgF (s) (load) (days) (by with_reducible assumption) (by omega);rw [q3,q4] at t_;exact t_)⟩,hp2⟩⟩).cast rfl
      | false=>
        have hb:=QaC ‹QbB s=true›;exact (GoE.endsT okF hJ Qab GoE.start (Qph B s load days kind t)
         ⟨⟨trivial,known⟩,⟨⟨trivial,(by have t_:=QgF (s) (load) (days) (by with_reducible assumption) (by omega);rw [q3] at t_;exact t_)⟩,hp2⟩⟩).cast rfl
    | false=>
      have hb:=QaC ‹QbB s=true›;exact (GoE.endsT okF hJ Qab GoE.start (QpI B s load days kind t)
       ⟨⟨trivial,known⟩,⟨⟨trivial,(by have t_:=Qzb (t);rw [q2] at t_;exact t_)⟩,hp1⟩⟩).cast rfl
 | false=>
   exact (GoE.endsT okF hJ Qab GoE.start (Qpb B s load days kind t)
    ⟨⟨trivial,known⟩,⟨⟨trivial,(by have t_:=QoB (s);rw [q0] at t_;exact t_)⟩,trivial⟩⟩).cast rfl
theorem Q0J (s:Qaa) (load:List Int) (days kind:Int) (t:Qaf)  :Qam YP J0 12 #[.agg (Qah s).toArray,slI load,.int .i64 days,.int .i64 kind,.agg (Qa4 t).toArray] (.bool true):=
 Qct (ts:=[.agg (Qah s).toArray,slI load,.int .i64 days,.int .i64 kind,.agg (Qa4 t).toArray]) (s.stock.length<=9223372036854775807) (fun _ _ ht=> ht.ln2 (i:=0) (j:=0) rfl rfl) Qb1 (c0:=Qaj YP 12 134 (([.agg (Qah s).toArray,slI load,.int .i64 days,.int .i64 kind,.agg (Qa4 t).toArray]).map (Qao 0 4))) (by kernel_rfl) (by kernel_rfl) fun hfacts B hJ=> Qtb s load days kind t  hfacts hJ
end
end Go.Proofs.YtiabgkiccaodmaaGreat

namespace Go.Proofs.YtiabgkiccaodmaaGreat
open Go Go.CE Go.RowKit
theorem Qsr:∀trs,Quv [QmN,.slice .int,.int,.int,QlV] trs->Qam YP J0 12 trs.toArray (.bool true):=by
 rintro trs ⟨t0,_,rfl,h0,t1,_,rfl,h1,t2,_,rfl,h2,t3,_,rfl,h3,t4,_,rfl,h4,rfl⟩;obtain ⟨s,rfl⟩:=QyA h0;obtain ⟨l,rfl⟩:=Q2J h1;obtain ⟨z,rfl⟩:=Qyi h2;obtain ⟨k,rfl⟩:=Qyi h3;obtain ⟨t,rfl⟩:=Qzh h4;exact Q0J s l z k t
end Go.Proofs.YtiabgkiccaodmaaGreat

namespace Go.Proofs.YtiabgkiccaodmaaGreat
open Go Go.CE Go.ChangeShapes Go.WideShapes Go.RowKit
set_option maxRecDepth 100000 in
theorem Qi8 (os:Os) (started:os.Started) (H:Type) (enc:TypeId×Value->H):
 ReturnsInHanded {} Tryz.checked os 12 .any (Rows.shipRationedSpec.pre6 enc YP Tryz.f12 Rows.shipRationedRow.domain false) (Rows.shipRationedSpec.post enc YP Tryz.f12 false true false false):=by
 refine returnsInHanded_of_change (C:=Tryz.checked) (show ownKnob YP.godebug=none by kernel_rfl) started (by kernel_rfl) Tryz.func12
  (ChangeSpec.witness6 (enc:=enc) (C:=Tryz.checked) false ⟨#[],#[Sh.zeroA QmN,Sh.zeroA (.slice .int),Sh.zeroA .int,Sh.zeroA .int,Sh.zeroA QlV],[]⟩ 8 (by kernel_rfl) (by kernel_rfl) (by kernel_rfl) (by kernel_rfl)) ?_
 intro W base args ds gs before hval0 hW _ _;have hval:∀(j:Nat) t v,Tryz.f12.params[j]? =some t->args[j]? =some v->Value.okWide YP W .any base t v:=hval0;have hW':=hW;obtain ⟨p,q,hA0,hV,rfl,_,_⟩:=hW;obtain ⟨rfl,rfl⟩:=trodVars_none hV;have hA1:DataW.TrodAll enc YP W 0 (fun _=> true) true Tryz.f12.params.toList args.toList ds p:=hA0;have hlt:∀x∈p,x.block < W.heap.size:=fun x hx=> hW'.lt x (by simpa using hx)
 have hch:QmJ YP [QmN,(.slice .int),.int,.int,QlV] Tryz.f12.params.toList=true:=by kernel_rfl
 have hrd:(Tryz.f12.params.toList.all fun t=> YP.readableRec t && decide (t < YP.types.size))=true:=by kernel_rfl
 refine (Q3m (J:=J0) (ss:=[QmN,(.slice .int),.int,.int,QlV]) trivial hch hA1 (fun j t v h1 h2=> hval j t v (by simpa using h1) h2) Qsr).mono fun e W' ⟨he,hB⟩=> ?_
 subst he;have hB2:=Qjf (show laidOutB YP=true by kernel_rfl) hB _ _ _ _ hrd hA1 hlt;have hA:DataW.TrodAll enc YP W 0 (fun _=> true) true Tryz.f12.params.toList args.toList ds p:=hA1;rw [Tryz.params12] at hA;simp only [List.toList_toArray] at hA;have hA:=hA;obtain ⟨v0,vs0,d0,ds0,p0,q0,_,rfl,_,h0,_⟩:=CE.trodAll_cons hA;obtain ⟨v1,vs1,d1,ds1,p1,q1,_,rfl,_,h1,_⟩:=CE.trodAll_cons h0;obtain ⟨v2,vs2,d2,ds2,p2,q2,_,rfl,_,h2,_⟩:=CE.trodAll_cons h1;obtain ⟨v3,vs3,d3,ds3,p3,q3,_,rfl,_,h3,_⟩:=CE.trodAll_cons h2;obtain ⟨v4,vs4,d4,ds4,p4,q4,_,rfl,_,h4,_⟩:=CE.trodAll_cons h3;obtain ⟨_,rfl,_⟩:=CE.trodAll_nil h4;exact ⟨_,rfl,_,_,_,[],_,[],hW',trodAll_mk1 (shut_bool Tryz.underlying4 _),hB2,rfl,hB.frame _,fun h=> by cases h⟩
theorem shipRationed_row:Rows.ShipRationedSaid:=
 OpenClaim.holds_of_wide 12 Tryz.f12 rfl rfl rfl rfl rfl rfl rfl ⟨rfl,rfl,rfl,rfl,rfl⟩ rfl rfl rfl rfl rfl (by kernel_rfl) Tryz.func12 (by kernel_rfl)
  (of_decide_eq_true (by kernel_rfl)) (by unfold Func.isWrapper;first | (rw [if_pos (by decide+kernel)];kernel_rfl) | (rw [if_neg (by decide+kernel)];exact ⟨rfl,rfl⟩))
  (fun os started H enc _=> Qi8 os started H enc)
end Go.Proofs.YtiabgkiccaodmaaGreat
