/- The program's passes with some swell. -/
import Derived.Test.YtiabgkiccaodmaaGreatZMO09
import Derived.Test.YtiabgkiccaodmaaGreatZMO06
import Derived.Test.YtiabgkiccaodmaaGreatZMO08
set_option linter.all false
namespace Go.Proofs.YtiabgkiccaodmaaGreat
open Go Go.CE Go.RowKit
noncomputable section
set_option maxRecDepth 100000
def fHi:Value:=.func (.func 103) #[] #[]
def fLo:Value:=.func (.func 104) #[] #[]
def swV (p:Qac) (f:Value):Value:=.agg (Qa2 p++[f]).toArray
theorem Q3w (B:Lo) (a b:Int):QaF (Qah YP (Qau YP) J0 B 6 1 (Qae YP 103 5 (([.agg #[.int .i64 a,.int .i64 b]]).map (Qal 0 4))) H00 1
 [] 0 [] []) []=some (.int .i64 b,
 []):=by kernel_rfl
set_option maxHeartbeats 4000000 in
theorem Q5Q (a b:Int)  {B:Lo} (hJ:∀w,B.has w->J0 w):EndsT YP B (Qae YP 103 5 (([.agg #[.int .i64 a,.int .i64 b]]).map (Qal 0 4))) (.int .i64 b):=by
 exact (GoE.endsT okF hJ Qab GoE.start (Q3w B a b)
  trivial).cast (by rfl)
theorem Q5V (a b:Int)  :Qai YP J0 103 #[.agg #[.int .i64 a,.int .i64 b]] (.int .i64 b):=
 Qa5 (ts:=[.agg #[.int .i64 a,.int .i64 b]]) Qbn (c0:=Qae YP 103 5 (([.agg #[.int .i64 a,.int .i64 b]]).map (Qal 0 4))) (by kernel_rfl) (by kernel_rfl) fun B hJ=> Q5Q a b  hJ
theorem Q5z (B:Lo) (a b:Int):QaF (Qah YP (Qau YP) J0 B 6 1 (Qae YP 104 5 (([.agg #[.int .i64 a,.int .i64 b]]).map (Qal 0 4))) H00 1
 [] 0 [] []) []=some (.int .i64 a,
 []):=by kernel_rfl
set_option maxHeartbeats 4000000 in
theorem Q7s (a b:Int)  {B:Lo} (hJ:∀w,B.has w->J0 w):EndsT YP B (Qae YP 104 5 (([.agg #[.int .i64 a,.int .i64 b]]).map (Qal 0 4))) (.int .i64 a):=by
 exact (GoE.endsT okF hJ Qab GoE.start (Q5z B a b)
  trivial).cast (by rfl)
theorem Q7K (a b:Int)  :Qai YP J0 104 #[.agg #[.int .i64 a,.int .i64 b]] (.int .i64 a):=
 Qa5 (ts:=[.agg #[.int .i64 a,.int .i64 b]]) Qbn (c0:=Qae YP 104 5 (([.agg #[.int .i64 a,.int .i64 b]]).map (Qal 0 4))) (by kernel_rfl) (by kernel_rfl) fun B hJ=> Q7s a b  hJ
theorem Q3O (B:Lo) (p:Qac):QaF (Qah YP (Qau YP) J0 B 6 1 (Qae YP 62 5 (([.agg (Qa2 p).toArray]).map (Qal 0 4))) H00 1
 [] 0 [] []) []=some (.agg #[slT p.tides.length (Qad Qav p.tides),.int .i64 p.depth,.int .i64 p.draft,slT p.swell.length (Qad Qaz p.swell),.int .i64 p.llo,.int .i64 p.lhi,Value.func (Fn.func 103) #[] #[]],
 []):=by kernel_rfl
set_option maxHeartbeats 4000000 in
theorem Q6j (p:Qac)  {B:Lo} (hJ:∀w,B.has w->J0 w):EndsT YP B (Qae YP 62 5 (([.agg (Qa2 p).toArray]).map (Qal 0 4))) (swV p fHi):=by
 exact (GoE.endsT okF hJ Qab GoE.start (Q3O B p)
  trivial).cast (by rfl)
theorem Q7P (p:Qac)  :Qai YP J0 62 #[.agg (Qa2 p).toArray] (swV p fHi):=
 Qa5 (ts:=[.agg (Qa2 p).toArray]) Qbn (c0:=Qae YP 62 5 (([.agg (Qa2 p).toArray]).map (Qal 0 4))) (by kernel_rfl) (by kernel_rfl) fun B hJ=> Q6j p  hJ
theorem Q1S (B:Lo) (p:Qac):QaF (Qah YP (Qau YP) J0 B 6 1 (Qae YP 64 5 (([.agg (Qa2 p).toArray]).map (Qal 0 4))) H00 1
 [] 0 [] []) []=some (.agg #[slT p.tides.length (Qad Qav p.tides),.int .i64 p.depth,.int .i64 p.draft,slT p.swell.length (Qad Qaz p.swell),.int .i64 p.llo,.int .i64 p.lhi,Value.func (Fn.func 104) #[] #[]],
 []):=by kernel_rfl
set_option maxHeartbeats 4000000 in
theorem Q2o (p:Qac)  {B:Lo} (hJ:∀w,B.has w->J0 w):EndsT YP B (Qae YP 64 5 (([.agg (Qa2 p).toArray]).map (Qal 0 4))) (swV p fLo):=by
 exact (GoE.endsT okF hJ Qab GoE.start (Q1S B p)
  trivial).cast (by rfl)
theorem Q70 (p:Qac)  :Qai YP J0 64 #[.agg (Qa2 p).toArray] (swV p fLo):=
 Qa5 (ts:=[.agg (Qa2 p).toArray]) Qbn (c0:=Qae YP 64 5 (([.agg (Qa2 p).toArray]).map (Qal 0 4))) (by kernel_rfl) (by kernel_rfl) fun B hJ=> Q2o p  hJ
theorem QvE (B:Lo) (d h:Int):QaF (Qah YP (Qau YP) J0 B 6 1 (Qae YP 106 9 (([Qcj d h]).map (Qal 0 4))) H00 1
 [(4,hvI (d * 24)),(7,hvI (d * 24+h))] 0 [] []) []=some (.int .i64 (d * 24+h),
 [wq (d * 24+h)=d * 24+h,wq (d * 24)=d * 24]):=by kernel_rfl
set_option maxHeartbeats 4000000 in
theorem QyT (d h:Int) (hd:0<=d/\d<=100) (hh:0<=h/\h<=100) {B:Lo} (hJ:∀w,B.has w->J0 w):EndsT YP B (Qae YP 106 9 (([Qcj d h]).map (Qal 0 4))) (.int .i64 (d * 24+h)):=by
 exact (GoE.endsT okF hJ Qab GoE.start (QvE B d h)
  ⟨(QaR (by omega) (by omega)),⟨(QaR (by omega) (by omega)),trivial⟩⟩).cast (by rfl)
theorem Q1Q (d h:Int) (hd:0<=d/\d<=100) (hh:0<=h/\h<=100):Qai YP J0 106 #[Qcj d h] (.int .i64 (d * 24+h)):=
 Qa5 (ts:=[Qcj d h]) Qbn (c0:=Qae YP 106 9 (([Qcj d h]).map (Qal 0 4))) (by kernel_rfl) (by kernel_rfl) fun B hJ=> QyT d h hd hh hJ
theorem Qqc (B:Lo) (p:Qac) (d h:Int)  :QaF (Qah YP (Qau YP) J0 B 6 1 (Qae YP 107 11 (([swV p fHi,Qcj d h]).map (Qal 0 4))) H00 1
 [(8,Qaf.pure (.bool true) [])] 0 [] []) []=some (.bool true,
 [Qas []/\Qai YP J0 73 #[.int .i64 h,.agg #[.int .i64 p.llo,.int .i64 p.lhi]] (.bool true)]):=by kernel_rfl
theorem QqK (B:Lo) (p:Qac) (d h:Int)  :QaF (Qah YP (Qau YP) J0 B 6 1 (Qae YP 107 11 (([swV p fHi,Qcj d h]).map (Qal 0 4))) H00 1
 [(8,Qaf.pure (.bool false) [])] 0 [] []) []=some (.bool false,
 [Qas []/\Qai YP J0 73 #[.int .i64 h,.agg #[.int .i64 p.llo,.int .i64 p.lhi]] (.bool false)]):=by kernel_rfl
set_option maxHeartbeats 4000000 in
theorem QsU (p:Qac) (d h:Int)   {B:Lo} (hJ:∀w,B.has w->J0 w):EndsT YP B (Qae YP 107 11 (([swV p fHi,Qcj d h]).map (Qal 0 4))) (.bool (inB h p.llo p.lhi)):=by
 cases q0:inB h p.llo p.lhi with
 | true=>
   exact (GoE.endsT okF hJ Qab GoE.start (Qqc B p d h)
    ⟨⟨trivial,(by have t_:=QpI (h) p.llo p.lhi;rw [q0] at t_;exact t_)⟩,trivial⟩).cast (by rfl)
 | false=>
   exact (GoE.endsT okF hJ Qab GoE.start (QqK B p d h)
    ⟨⟨trivial,(by have t_:=QpI (h) p.llo p.lhi;rw [q0] at t_;exact t_)⟩,trivial⟩).cast (by rfl)
theorem QpS (p:Qac) (d h:Int)   :Qai YP J0 107 #[swV p fHi,Qcj d h] (.bool (inB h p.llo p.lhi)):=
 Qa5 (ts:=[swV p fHi,Qcj d h]) Qbn (c0:=Qae YP 107 11 (([swV p fHi,Qcj d h]).map (Qal 0 4))) (by kernel_rfl) (by kernel_rfl) fun B hJ=> QsU p d h  hJ
def QhW (p:Qac) (d:Int):Array Value:=#[.int .i64 (Span.lo (p.swell.getD d.toNat default)),.int .i64 (Span.hi (p.swell.getD d.toNat default))]
def Qic (B:Lo) (p:Qac) (d h:Int)  :List Prop:=[wq (p.depth+p.tides.getD (Int.toNat (Int.tmod (d * 24+h) (↑p.tides.length:Int))) default - Span.hi (p.swell.getD d.toNat default))=p.depth+p.tides.getD (Int.toNat (Int.tmod (d * 24+h) (↑p.tides.length:Int))) default - Span.hi (p.swell.getD d.toNat default),Qas []/\Qai YP J0 103 #[.agg (QhW p d)] (.int .i64 (Span.hi (p.swell.getD d.toNat default))),d=(↑d.toNat:Int)/\Int.toNat d < List.length p.swell/\Array.extract (Qad Qaz p.swell) (Int.toNat d * TypeInfo.size Tryz.t25) (Int.toNat d * TypeInfo.size Tryz.t25+TypeInfo.size Tryz.t25)=(QhW p d),wq (p.depth+p.tides.getD (Int.toNat (Int.tmod (d * 24+h) (↑p.tides.length:Int))) default)=p.depth+p.tides.getD (Int.toNat (Int.tmod (d * 24+h) (↑p.tides.length:Int))) default,Int.tmod (d * 24+h) (↑p.tides.length:Int)=(↑(Int.toNat (Int.tmod (d * 24+h) (↑p.tides.length:Int))):Int)/\Int.toNat (Int.tmod (d * 24+h) (↑p.tides.length:Int)) < List.length p.tides/\Array.extract (Qad Qav p.tides) (Int.toNat (Int.tmod (d * 24+h) (↑p.tides.length:Int)) * TypeInfo.size Tryz.t3) (Int.toNat (Int.tmod (d * 24+h) (↑p.tides.length:Int)) * TypeInfo.size Tryz.t3+TypeInfo.size Tryz.t3)=#[.int .i64 (p.tides.getD (Int.toNat (Int.tmod (d * 24+h) (↑p.tides.length:Int))) default)],Qi6 YP BinOp.rem 3 (QbV {len:=16000,tr:=Tri.set 14 (Tri.set 14 Tri.lf 14 (.int .i64 (↑p.tides.length:Int))) 10 (.int .i64 (d * 24+h))} 10) (QbV {len:=16000,tr:=Tri.set 14 (Tri.set 14 Tri.lf 14 (.int .i64 (↑p.tides.length:Int))) 10 (.int .i64 (d * 24+h))} 14) (.int .i64 (Int.tmod (d * 24+h) (↑p.tides.length:Int))),Qas []/\Qai YP J0 106 #[.agg #[.int .i64 d,.int .i64 h]] (.int .i64 (d * 24+h))]++([]:List Prop)
def QlL (p:Qac) (d h:Int)  :Qan:=[(7,Qaf.pure (.int .i64 (d * 24+h)) []),(12,Qaf.bin (.int .i64 (Int.tmod (d * 24+h) (↑p.tides.length:Int)))),(13,Qaf.tidx (Int.toNat (Int.tmod (d * 24+h) (↑p.tides.length:Int))) #[.int .i64 (p.tides.getD (Int.toNat (Int.tmod (d * 24+h) (↑p.tides.length:Int))) default)]),(20,hvI (p.depth+p.tides.getD (Int.toNat (Int.tmod (d * 24+h) (↑p.tides.length:Int))) default)),(28,Qaf.tidx d.toNat (QhW p d)),(30,Qaf.pure (.int .i64 (Span.hi (p.swell.getD d.toNat default))) []),(31,hvI (p.depth+p.tides.getD (Int.toNat (Int.tmod (d * 24+h) (↑p.tides.length:Int))) default - Span.hi (p.swell.getD d.toNat default)))]
theorem QtJ (B:Lo) (p:Qac) (d h:Int)  :QaF (Qah YP (Qau YP) J0 B 8 1 (Qae YP 108 38 (([swV p fHi,Qcj d h]).map (Qal 0 4))) H00 1
 (QlL p d h++[(35,hvT)]) 0 [] []) []=some (.bool true,
 [(!ltq (p.depth+p.tides.getD (Int.toNat (Int.tmod (d * 24+h) (↑p.tides.length:Int))) default - Span.hi (p.swell.getD d.toNat default)) p.draft)=true]++Qic B p d h):=by kernel_rfl
theorem QtE (B:Lo) (p:Qac) (d h:Int)  :QaF (Qah YP (Qau YP) J0 B 8 1 (Qae YP 108 38 (([swV p fHi,Qcj d h]).map (Qal 0 4))) H00 1
 (QlL p d h++[(35,hvF)]) 0 [] []) []=some (.bool false,
 [(!ltq (p.depth+p.tides.getD (Int.toNat (Int.tmod (d * 24+h) (↑p.tides.length:Int))) default - Span.hi (p.swell.getD d.toNat default)) p.draft)=false]++Qic B p d h):=by kernel_rfl
set_option maxHeartbeats 4000000 in
theorem Qwz (p:Qac) (d h:Int)  (hp:QaB p=true) (hd:0<=d/\d < p.swell.length) (hh:0<=h/\h<=100)  {B:Lo} (hJ:∀w,B.has w->J0 w):EndsT YP B (Qae YP 108 38 (([swV p fHi,Qcj d h]).map (Qal 0 4))) (.bool (decide (p.draft<=p.depth+p.tides.getD (QfM p d h) default - (p.swell.getD d.toNat default).hi))):=by
 have hP:=Qa8 hp;have hT:=QuA hp hd.1 hh.1;have hU:=QyI hp hT.2.2;have hS:=QaS hp (k:=d.toNat) (by omega);have hp0:Qas (Qic B p d h):=by
  unfold QfM at hT hU;exact ⟨(QaR (by omega) (by omega)),⟨⟨trivial,Q5V (Span.lo (p.swell.getD d.toNat default)) (Span.hi (p.swell.getD d.toNat default))⟩,⟨⟨by omega,by omega,(Qao (z:=2) (fun _=> rfl) (by omega))⟩,⟨(QaR (by omega) (by omega)),⟨⟨by omega,by omega,(Qao (z:=1) (fun _=> rfl) (by omega))⟩,⟨(Q1c (by omega)),⟨⟨trivial,Q1Q (d) (h) (by omega) (by with_reducible assumption)⟩,trivial⟩⟩⟩⟩⟩⟩⟩
 by_cases q0:(p.draft:Int)<=(p.depth+p.tides.getD (Int.toNat (Int.tmod (d * 24+h) (↑p.tides.length:Int))) default - Span.hi (p.swell.getD d.toNat default))
 ·unfold QfM at hT hU;exact (GoE.endsT okF hJ Qab GoE.start (QtJ B p d h)
   ⟨(Qcq q0),hp0⟩).cast (by (simp_all [QfM];done))
 ·unfold QfM at hT hU;exact (GoE.endsT okF hJ Qab GoE.start (QtE B p d h)
   ⟨(Qcn (Int.not_le.1 q0)),hp0⟩).cast (by (simp_all [QfM];done))
theorem QuM (p:Qac) (d h:Int)  (hp:QaB p=true) (hd:0<=d/\d < p.swell.length) (hh:0<=h/\h<=100)  :Qai YP J0 108 #[swV p fHi,Qcj d h] (.bool (decide (p.draft<=p.depth+p.tides.getD (QfM p d h) default - (p.swell.getD d.toNat default).hi))):=
 Qa5 (ts:=[swV p fHi,Qcj d h]) Qbn (c0:=Qae YP 108 38 (([swV p fHi,Qcj d h]).map (Qal 0 4))) (by kernel_rfl) (by kernel_rfl) fun B hJ=> Qwz p d h hp hd hh hJ
def Qgf (p:Qac) (d h:Int):Array Value:=#[.agg #[slT p.tides.length (Qad Qav p.tides),.int .i64 p.depth,.int .i64 p.draft,slT p.swell.length (Qad Qaz p.swell),.int .i64 p.llo,.int .i64 p.lhi,Value.func (Fn.func 103) #[] #[]],.agg #[.int .i64 d,.int .i64 h]]
def QhP (B:Lo) (p:Qac) (d h:Int)  :List Prop:=[Qas []/\Qai YP J0 107 (Qgf p d h) (.bool true)]++([]:List Prop)
def Qll (p:Qac) (d h:Int)  :Qan:=[(17,Qaf.pure (.bool true) [])]
theorem QtO (B:Lo) (p:Qac) (d h:Int)  :QaF (Qah YP (Qau YP) J0 B 50 1 (Qae YP 68 22 (([swV p fHi,Qcj d h]).map (Qal 0 4))) H00 1
 (Qll p d h++[(26,Qaf.pure (.bool true) [])]) 0 [] []) []=some (.bool true,
 [Qas []/\Qai YP J0 108 (Qgf p d h) (.bool true)]++QhP B p d h):=by kernel_rfl
theorem QsC (B:Lo) (p:Qac) (d h:Int)  :QaF (Qah YP (Qau YP) J0 B 41 1 (Qae YP 68 22 (([swV p fHi,Qcj d h]).map (Qal 0 4))) H00 1
 (Qll p d h++[(26,Qaf.pure (.bool false) [])]) 0 [] []) []=some (.bool false,
 [Qas []/\Qai YP J0 108 (Qgf p d h) (.bool false)]++QhP B p d h):=by kernel_rfl
theorem QsD (B:Lo) (p:Qac) (d h:Int)  :QaF (Qah YP (Qau YP) J0 B 25 1 (Qae YP 68 22 (([swV p fHi,Qcj d h]).map (Qal 0 4))) H00 1
 [(17,Qaf.pure (.bool false) [])] 0 [] []) []=some (.bool false,
 [Qas []/\Qai YP J0 107 (Qgf p d h) (.bool false)]):=by kernel_rfl
set_option maxHeartbeats 4000000 in
theorem QvI (p:Qac) (d h:Int)  (hp:QaB p=true) (hd:0<=d/\d < p.swell.length) (hh:0<=h/\h<=100)  {B:Lo} (hJ:∀w,B.has w->J0 w):EndsT YP B (Qae YP 68 22 (([swV p fHi,Qcj d h]).map (Qal 0 4))) (.bool (QdB p d h (p.swell.getD d.toNat default).hi)):=by
 cases q0:inB h p.llo p.lhi with
 | true=>
   have hp0:Qas (QhP B p d h):=by
    exact ⟨⟨trivial,(by have t_:=QpS (p) (d) (h);rw [q0] at t_;exact t_)⟩,trivial⟩
   cases q1:decide (p.draft<=p.depth+p.tides.getD (QfM p d h) default - Span.hi (p.swell.getD d.toNat default)) with
   | true=>
     exact (GoE.endsT okF hJ Qab GoE.start (QtO B p d h)
      ⟨⟨trivial,(by have t_:=QuM (p) (d) (h) (by with_reducible assumption) (by with_reducible assumption) (by with_reducible assumption);rw [q1] at t_;exact t_)⟩,hp0⟩).cast (by (simp_all [QdB];done))
   | false=>
     exact (GoE.endsT okF hJ Qab GoE.start (QsC B p d h)
      ⟨⟨trivial,(by have t_:=QuM (p) (d) (h) (by with_reducible assumption) (by with_reducible assumption) (by with_reducible assumption);rw [q1] at t_;exact t_)⟩,hp0⟩).cast (by (simp_all [QdB];done))
 | false=>
   exact (GoE.endsT okF hJ Qab GoE.start (QsD B p d h)
    ⟨⟨trivial,(by have t_:=QpS (p) (d) (h);rw [q0] at t_;exact t_)⟩,trivial⟩).cast (by (simp [QdB, *];done))
theorem QkA (p:Qac) (d h:Int)  (hp:QaB p=true) (hd:0<=d/\d < p.swell.length) (hh:0<=h/\h<=100)  :Qai YP J0 68 #[swV p fHi,Qcj d h] (.bool (QdB p d h (p.swell.getD d.toNat default).hi)):=
 Qa5 (ts:=[swV p fHi,Qcj d h]) Qbn (c0:=Qae YP 68 22 (([swV p fHi,Qcj d h]).map (Qal 0 4))) (by kernel_rfl) (by kernel_rfl) fun B hJ=> QvI p d h hp hd hh hJ
theorem QpX (B:Lo) (p:Qac) (d h:Int)  :QaF (Qah YP (Qau YP) J0 B 6 1 (Qae YP 107 11 (([swV p fLo,Qcj d h]).map (Qal 0 4))) H00 1
 [(8,Qaf.pure (.bool true) [])] 0 [] []) []=some (.bool true,
 [Qas []/\Qai YP J0 73 #[.int .i64 h,.agg #[.int .i64 p.llo,.int .i64 p.lhi]] (.bool true)]):=by kernel_rfl
theorem QrZ (B:Lo) (p:Qac) (d h:Int)  :QaF (Qah YP (Qau YP) J0 B 6 1 (Qae YP 107 11 (([swV p fLo,Qcj d h]).map (Qal 0 4))) H00 1
 [(8,Qaf.pure (.bool false) [])] 0 [] []) []=some (.bool false,
 [Qas []/\Qai YP J0 73 #[.int .i64 h,.agg #[.int .i64 p.llo,.int .i64 p.lhi]] (.bool false)]):=by kernel_rfl
set_option maxHeartbeats 4000000 in
theorem QtF (p:Qac) (d h:Int)   {B:Lo} (hJ:∀w,B.has w->J0 w):EndsT YP B (Qae YP 107 11 (([swV p fLo,Qcj d h]).map (Qal 0 4))) (.bool (inB h p.llo p.lhi)):=by
 cases q0:inB h p.llo p.lhi with
 | true=>
   exact (GoE.endsT okF hJ Qab GoE.start (QpX B p d h)
    ⟨⟨trivial,(by have t_:=QpI (h) p.llo p.lhi;rw [q0] at t_;exact t_)⟩,trivial⟩).cast (by rfl)
 | false=>
   exact (GoE.endsT okF hJ Qab GoE.start (QrZ B p d h)
    ⟨⟨trivial,(by have t_:=QpI (h) p.llo p.lhi;rw [q0] at t_;exact t_)⟩,trivial⟩).cast (by rfl)
theorem QpT (p:Qac) (d h:Int)   :Qai YP J0 107 #[swV p fLo,Qcj d h] (.bool (inB h p.llo p.lhi)):=
 Qa5 (ts:=[swV p fLo,Qcj d h]) Qbn (c0:=Qae YP 107 11 (([swV p fLo,Qcj d h]).map (Qal 0 4))) (by kernel_rfl) (by kernel_rfl) fun B hJ=> QtF p d h  hJ
def QhX (p:Qac) (d:Int):Array Value:=#[.int .i64 (Span.lo (p.swell.getD d.toNat default)),.int .i64 (Span.hi (p.swell.getD d.toNat default))]
def QhZ (B:Lo) (p:Qac) (d h:Int)  :List Prop:=[wq (p.depth+p.tides.getD (Int.toNat (Int.tmod (d * 24+h) (↑p.tides.length:Int))) default - Span.lo (p.swell.getD d.toNat default))=p.depth+p.tides.getD (Int.toNat (Int.tmod (d * 24+h) (↑p.tides.length:Int))) default - Span.lo (p.swell.getD d.toNat default),Qas []/\Qai YP J0 104 #[.agg (QhX p d)] (.int .i64 (Span.lo (p.swell.getD d.toNat default))),d=(↑d.toNat:Int)/\Int.toNat d < List.length p.swell/\Array.extract (Qad Qaz p.swell) (Int.toNat d * TypeInfo.size Tryz.t25) (Int.toNat d * TypeInfo.size Tryz.t25+TypeInfo.size Tryz.t25)=(QhX p d),wq (p.depth+p.tides.getD (Int.toNat (Int.tmod (d * 24+h) (↑p.tides.length:Int))) default)=p.depth+p.tides.getD (Int.toNat (Int.tmod (d * 24+h) (↑p.tides.length:Int))) default,Int.tmod (d * 24+h) (↑p.tides.length:Int)=(↑(Int.toNat (Int.tmod (d * 24+h) (↑p.tides.length:Int))):Int)/\Int.toNat (Int.tmod (d * 24+h) (↑p.tides.length:Int)) < List.length p.tides/\Array.extract (Qad Qav p.tides) (Int.toNat (Int.tmod (d * 24+h) (↑p.tides.length:Int)) * TypeInfo.size Tryz.t3) (Int.toNat (Int.tmod (d * 24+h) (↑p.tides.length:Int)) * TypeInfo.size Tryz.t3+TypeInfo.size Tryz.t3)=#[.int .i64 (p.tides.getD (Int.toNat (Int.tmod (d * 24+h) (↑p.tides.length:Int))) default)],Qi6 YP BinOp.rem 3 (QbV {len:=16000,tr:=Tri.set 14 (Tri.set 14 Tri.lf 14 (.int .i64 (↑p.tides.length:Int))) 10 (.int .i64 (d * 24+h))} 10) (QbV {len:=16000,tr:=Tri.set 14 (Tri.set 14 Tri.lf 14 (.int .i64 (↑p.tides.length:Int))) 10 (.int .i64 (d * 24+h))} 14) (.int .i64 (Int.tmod (d * 24+h) (↑p.tides.length:Int))),Qas []/\Qai YP J0 106 #[.agg #[.int .i64 d,.int .i64 h]] (.int .i64 (d * 24+h))]++([]:List Prop)
def QlZ (p:Qac) (d h:Int)  :Qan:=[(7,Qaf.pure (.int .i64 (d * 24+h)) []),(12,Qaf.bin (.int .i64 (Int.tmod (d * 24+h) (↑p.tides.length:Int)))),(13,Qaf.tidx (Int.toNat (Int.tmod (d * 24+h) (↑p.tides.length:Int))) #[.int .i64 (p.tides.getD (Int.toNat (Int.tmod (d * 24+h) (↑p.tides.length:Int))) default)]),(20,hvI (p.depth+p.tides.getD (Int.toNat (Int.tmod (d * 24+h) (↑p.tides.length:Int))) default)),(28,Qaf.tidx d.toNat (QhX p d)),(30,Qaf.pure (.int .i64 (Span.lo (p.swell.getD d.toNat default))) []),(31,hvI (p.depth+p.tides.getD (Int.toNat (Int.tmod (d * 24+h) (↑p.tides.length:Int))) default - Span.lo (p.swell.getD d.toNat default)))]
theorem QtN (B:Lo) (p:Qac) (d h:Int)  :QaF (Qah YP (Qau YP) J0 B 8 1 (Qae YP 108 38 (([swV p fLo,Qcj d h]).map (Qal 0 4))) H00 1
 (QlZ p d h++[(35,hvT)]) 0 [] []) []=some (.bool true,
 [(!ltq (p.depth+p.tides.getD (Int.toNat (Int.tmod (d * 24+h) (↑p.tides.length:Int))) default - Span.lo (p.swell.getD d.toNat default)) p.draft)=true]++QhZ B p d h):=by kernel_rfl
theorem Qtn (B:Lo) (p:Qac) (d h:Int)  :QaF (Qah YP (Qau YP) J0 B 8 1 (Qae YP 108 38 (([swV p fLo,Qcj d h]).map (Qal 0 4))) H00 1
 (QlZ p d h++[(35,hvF)]) 0 [] []) []=some (.bool false,
 [(!ltq (p.depth+p.tides.getD (Int.toNat (Int.tmod (d * 24+h) (↑p.tides.length:Int))) default - Span.lo (p.swell.getD d.toNat default)) p.draft)=false]++QhZ B p d h):=by kernel_rfl
set_option maxHeartbeats 4000000 in
theorem Qvs (p:Qac) (d h:Int)  (hp:QaB p=true) (hd:0<=d/\d < p.swell.length) (hh:0<=h/\h<=100)  {B:Lo} (hJ:∀w,B.has w->J0 w):EndsT YP B (Qae YP 108 38 (([swV p fLo,Qcj d h]).map (Qal 0 4))) (.bool (decide (p.draft<=p.depth+p.tides.getD (QfM p d h) default - (p.swell.getD d.toNat default).lo))):=by
 have hP:=Qa8 hp;have hT:=QuA hp hd.1 hh.1;have hU:=QyI hp hT.2.2;have hS:=QaS hp (k:=d.toNat) (by omega);have hp0:Qas (QhZ B p d h):=by
  unfold QfM at hT hU;exact ⟨(QaR (by omega) (by omega)),⟨⟨trivial,Q7K (Span.lo (p.swell.getD d.toNat default)) (Span.hi (p.swell.getD d.toNat default))⟩,⟨⟨by omega,by omega,(Qao (z:=2) (fun _=> rfl) (by omega))⟩,⟨(QaR (by omega) (by omega)),⟨⟨by omega,by omega,(Qao (z:=1) (fun _=> rfl) (by omega))⟩,⟨(Q1c (by omega)),⟨⟨trivial,Q1Q (d) (h) (by omega) (by with_reducible assumption)⟩,trivial⟩⟩⟩⟩⟩⟩⟩
 by_cases q0:(p.draft:Int)<=(p.depth+p.tides.getD (Int.toNat (Int.tmod (d * 24+h) (↑p.tides.length:Int))) default - Span.lo (p.swell.getD d.toNat default))
 ·unfold QfM at hT hU;exact (GoE.endsT okF hJ Qab GoE.start (QtN B p d h)
   ⟨(Qcq q0),hp0⟩).cast (by (simp_all [QfM];done))
 ·unfold QfM at hT hU;exact (GoE.endsT okF hJ Qab GoE.start (Qtn B p d h)
   ⟨(Qcn (Int.not_le.1 q0)),hp0⟩).cast (by (simp_all [QfM];done))
theorem QtU (p:Qac) (d h:Int)  (hp:QaB p=true) (hd:0<=d/\d < p.swell.length) (hh:0<=h/\h<=100)  :Qai YP J0 108 #[swV p fLo,Qcj d h] (.bool (decide (p.draft<=p.depth+p.tides.getD (QfM p d h) default - (p.swell.getD d.toNat default).lo))):=
 Qa5 (ts:=[swV p fLo,Qcj d h]) Qbn (c0:=Qae YP 108 38 (([swV p fLo,Qcj d h]).map (Qal 0 4))) (by kernel_rfl) (by kernel_rfl) fun B hJ=> Qvs p d h hp hd hh hJ
def Qgn (p:Qac) (d h:Int):Array Value:=#[.agg #[slT p.tides.length (Qad Qav p.tides),.int .i64 p.depth,.int .i64 p.draft,slT p.swell.length (Qad Qaz p.swell),.int .i64 p.llo,.int .i64 p.lhi,Value.func (Fn.func 104) #[] #[]],.agg #[.int .i64 d,.int .i64 h]]
def QhN (B:Lo) (p:Qac) (d h:Int)  :List Prop:=[Qas []/\Qai YP J0 107 (Qgn p d h) (.bool true)]++([]:List Prop)
def Ql6 (p:Qac) (d h:Int)  :Qan:=[(17,Qaf.pure (.bool true) [])]
theorem Qtv (B:Lo) (p:Qac) (d h:Int)  :QaF (Qah YP (Qau YP) J0 B 50 1 (Qae YP 68 22 (([swV p fLo,Qcj d h]).map (Qal 0 4))) H00 1
 (Ql6 p d h++[(26,Qaf.pure (.bool true) [])]) 0 [] []) []=some (.bool true,
 [Qas []/\Qai YP J0 108 (Qgn p d h) (.bool true)]++QhN B p d h):=by kernel_rfl
theorem Qty (B:Lo) (p:Qac) (d h:Int)  :QaF (Qah YP (Qau YP) J0 B 41 1 (Qae YP 68 22 (([swV p fLo,Qcj d h]).map (Qal 0 4))) H00 1
 (Ql6 p d h++[(26,Qaf.pure (.bool false) [])]) 0 [] []) []=some (.bool false,
 [Qas []/\Qai YP J0 108 (Qgn p d h) (.bool false)]++QhN B p d h):=by kernel_rfl
theorem Qtz (B:Lo) (p:Qac) (d h:Int)  :QaF (Qah YP (Qau YP) J0 B 25 1 (Qae YP 68 22 (([swV p fLo,Qcj d h]).map (Qal 0 4))) H00 1
 [(17,Qaf.pure (.bool false) [])] 0 [] []) []=some (.bool false,
 [Qas []/\Qai YP J0 107 (Qgn p d h) (.bool false)]):=by kernel_rfl
set_option maxHeartbeats 4000000 in
theorem QwQ (p:Qac) (d h:Int)  (hp:QaB p=true) (hd:0<=d/\d < p.swell.length) (hh:0<=h/\h<=100)  {B:Lo} (hJ:∀w,B.has w->J0 w):EndsT YP B (Qae YP 68 22 (([swV p fLo,Qcj d h]).map (Qal 0 4))) (.bool (QdB p d h (p.swell.getD d.toNat default).lo)):=by
 cases q0:inB h p.llo p.lhi with
 | true=>
   have hp0:Qas (QhN B p d h):=by
    exact ⟨⟨trivial,(by have t_:=QpT (p) (d) (h);rw [q0] at t_;exact t_)⟩,trivial⟩
   cases q1:decide (p.draft<=p.depth+p.tides.getD (QfM p d h) default - Span.lo (p.swell.getD d.toNat default)) with
   | true=>
     exact (GoE.endsT okF hJ Qab GoE.start (Qtv B p d h)
      ⟨⟨trivial,(by have t_:=QtU (p) (d) (h) (by with_reducible assumption) (by with_reducible assumption) (by with_reducible assumption);rw [q1] at t_;exact t_)⟩,hp0⟩).cast (by (simp_all [QdB];done))
   | false=>
     exact (GoE.endsT okF hJ Qab GoE.start (Qty B p d h)
      ⟨⟨trivial,(by have t_:=QtU (p) (d) (h) (by with_reducible assumption) (by with_reducible assumption) (by with_reducible assumption);rw [q1] at t_;exact t_)⟩,hp0⟩).cast (by (simp_all [QdB];done))
 | false=>
   exact (GoE.endsT okF hJ Qab GoE.start (Qtz B p d h)
    ⟨⟨trivial,(by have t_:=QpT (p) (d) (h);rw [q0] at t_;exact t_)⟩,trivial⟩).cast (by (simp [QdB, *];done))
theorem QkQ (p:Qac) (d h:Int)  (hp:QaB p=true) (hd:0<=d/\d < p.swell.length) (hh:0<=h/\h<=100)  :Qai YP J0 68 #[swV p fLo,Qcj d h] (.bool (QdB p d h (p.swell.getD d.toNat default).lo)):=
 Qa5 (ts:=[swV p fLo,Qcj d h]) Qbn (c0:=Qae YP 68 22 (([swV p fLo,Qcj d h]).map (Qal 0 4))) (by kernel_rfl) (by kernel_rfl) fun B hJ=> QwQ p d h hp hd hh hJ
def QeS (p:Qac) (d:Int) (h:Int):List Value:=[.int .i64 d,pA 2 0,.slice none 0 0,.int .i64 h]
def QcB (p:Qac) (d:Int) (h:Int):List Obj:=[Obj.cells #[Qat 1 (slT p.tides.length (Qad Qav p.tides)),.int .i64 p.depth,.int .i64 p.draft,Qat 1 (slT p.swell.length (Qad Qaz p.swell)),.int .i64 p.llo,.int .i64 p.lhi,Value.func (Fn.func 103) #[] #[]] 103]
def QeR:List Item:=([.code [1,1,0,1,0,0],.inLoop [1,1,0,1,0,0],.inBlock 0,.code [1,1,1]]).map (it (Qaq YP 63))
def Qwe (B:Lo) (c0:CF) (p:Qac) (d:Int) (h:Int):Prop:=∃dJ:Nat->Value,(∀t,Qbg (dJ t))/\GoE YP B c0 H00 1 (Qa3 63 21 (([1,2,5,7]:List Nat).zip (QeS p d h)) dJ QeR) (Qa1 (QcB p d h)) (2+(QcB p d h).length) []
def Qec (p:Qac) (d:Int) (h:Int) (out:List Int) (out_n:Nat):List Value:=[.int .i64 d,pA 2 0,.slice (some ⟨3,0,none⟩) out_n 1,.int .i64 h]
def Qct (p:Qac) (d:Int) (h:Int) (out:List Int) (out_n:Nat):List Obj:=[Obj.cells #[Qat 1 (slT p.tides.length (Qad Qav p.tides)),.int .i64 p.depth,.int .i64 p.draft,Qat 1 (slT p.swell.length (Qad Qaz p.swell)),.int .i64 p.llo,.int .i64 p.lhi,Value.func (Fn.func 103) #[] #[]] 103,Obj.cells (Qad Qav out) 3 (0,0)]
def Qep:List Item:=([.code [1,1,0,1,0,0],.inLoop [1,1,0,1,0,0],.inBlock 0,.code [1,1,1]]).map (it (Qaq YP 63))
def Qw2 (B:Lo) (c0:CF) (p:Qac) (d:Int) (h:Int) (out:List Int) (out_n:Nat):Prop:=∃dJ:Nat->Value,(∀t,Qbg (dJ t))/\GoE YP B c0 H00 1 (Qa3 63 21 (([1,2,5,7]:List Nat).zip (Qec p d h out out_n)) dJ Qep) (Qa1 (Qct p d h out out_n)) (2+(Qct p d h out out_n).length) []
def Qhn (p:Qac) (d:Int) (h:Int):Array Value:=#[.agg #[slT p.tides.length (Qad Qav p.tides),.int .i64 p.depth,.int .i64 p.draft,slT p.swell.length (Qad Qaz p.swell),.int .i64 p.llo,.int .i64 p.lhi,Value.func (Fn.func 103) #[] #[]],.agg #[.int .i64 d,.int .i64 h]]
def Qj3 (B:Lo) (p:Qac) (d:Int) (h:Int) (dJ0:Nat->Value):List Prop:=[ltq h 24=true]++([]:List Prop)
def Qoy (p:Qac) (d:Int) (h:Int) (dJ0:Nat->Value):Qan:=[(0,hvT)]
theorem Qw0 (B:Lo) (p:Qac) (d:Int) (h:Int) (dJ0:Nat->Value):landM (Qah YP (Qau YP) J0 B 16 1 (Qa3 63 21 (([1,2,5,7]:List Nat).zip (QeS p d h)) dJ0 QeR) (Qa1 (QcB p d h)) (2+(QcB p d h).length)
 (Qoy p d h dJ0++[(7,Qaf.pure (.bool true) []),(13,hvI (h+1))]) 0 [] []) [1,2,5,7] [(2,KS.auto),(4,KS.cells [] (Qad Qav [h]))] []=some ⟨63,21,Qep,[],.run,none,Qec p d (h+1) ([h]) (1),Qct p d (h+1) ([h]) (1),
 [Qdd 1 [] (#[.int .i64 h]) (Qad Qav [h]),wq (h+1)=h+1,Qas []/\Qai YP J0 68 (Qhn p d h) (.bool true)]++Qj3 B p d h dJ0⟩:=by kernel_rfl
theorem Qxg (B:Lo) (p:Qac) (d:Int) (h:Int) (dJ0:Nat->Value):landM (Qah YP (Qau YP) J0 B 16 1 (Qa3 63 21 (([1,2,5,7]:List Nat).zip (QeS p d h)) dJ0 QeR) (Qa1 (QcB p d h)) (2+(QcB p d h).length)
 (Qoy p d h dJ0++[(7,Qaf.pure (.bool false) []),(8,hvI (h+1))]) 0 [] []) [1,2,5,7] [(2,KS.auto)] []=some ⟨63,21,QeR,[],.run,none,QeS p d (h+1),QcB p d (h+1),
 [wq (h+1)=h+1,Qas []/\Qai YP J0 68 (Qhn p d h) (.bool false)]++Qj3 B p d h dJ0⟩:=by kernel_rfl
theorem QwD (B:Lo) (p:Qac) (d:Int) (h:Int) (dJ0:Nat->Value):QaF (Qah YP (Qau YP) J0 B 9 1 (Qa3 63 21 (([1,2,5,7]:List Nat).zip (QeS p d h)) dJ0 QeR) (Qa1 (QcB p d h)) (2+(QcB p d h).length)
 [(0,hvF)] 0 [] []) []=some (slT 0 #[],
 [ltq h 24=false]):=by kernel_rfl
def QjF (B:Lo) (p:Qac) (d:Int) (h:Int) (out:List Int) (out_n:Nat) (dJ0:Nat->Value):List Prop:=[ltq h 24=true]++([]:List Prop)
def Qom (p:Qac) (d:Int) (h:Int) (out:List Int) (out_n:Nat) (dJ0:Nat->Value):Qan:=[(0,hvT)]
theorem Qw6 (B:Lo) (p:Qac) (d:Int) (h:Int) (out:List Int) (out_n:Nat) (dJ0:Nat->Value):landM (Qah YP (Qau YP) J0 B 16 1 (Qa3 63 21 (([1,2,5,7]:List Nat).zip (Qec p d h out out_n)) dJ0 Qep) (Qa1 (Qct p d h out out_n)) (2+(Qct p d h out out_n).length)
 (Qom p d h out out_n dJ0++[(7,Qaf.pure (.bool true) []),(11,Qaf.old (Hint.app (Qad Qav (out++[h])))),(13,hvI (h+1))]) 0 [] []) [1,2,5,7] [(2,KS.auto),(5,KS.cells [] (Qad Qav (out++[h])))] []=some ⟨63,21,Qep,[],.run,none,Qec p d (h+1) (out++[h]) (out_n+1),Qct p d (h+1) (out++[h]) (out_n+1),
 [Qdd 1 [] (Qad Qav (out++[h])) (Qad Qav (out++[h])),wq (h+1)=h+1,Array.size (Qad Qav out)=out_n * (0+1)/\out_n+1<=maxLen/\(out_n+1) * 8<=140737488355328/\Qad Qav out++#[.int .i64 h]=Qad Qav (out++[h]),Qas []/\Qai YP J0 68 (Qhn p d h) (.bool true)]++QjF B p d h out out_n dJ0⟩:=by kernel_rfl
theorem Qxf (B:Lo) (p:Qac) (d:Int) (h:Int) (out:List Int) (out_n:Nat) (dJ0:Nat->Value):landM (Qah YP (Qau YP) J0 B 16 1 (Qa3 63 21 (([1,2,5,7]:List Nat).zip (Qec p d h out out_n)) dJ0 Qep) (Qa1 (Qct p d h out out_n)) (2+(Qct p d h out out_n).length)
 (Qom p d h out out_n dJ0++[(7,Qaf.pure (.bool false) []),(8,hvI (h+1))]) 0 [] []) [1,2,5,7] [(2,KS.auto),(3,KS.cells [] (Qad Qav out))] []=some ⟨63,21,Qep,[],.run,none,Qec p d (h+1) (out) (out_n),Qct p d (h+1) (out) (out_n),
 [Qdd 1 [] (Qad Qav out) (Qad Qav out),wq (h+1)=h+1,Qas []/\Qai YP J0 68 (Qhn p d h) (.bool false)]++QjF B p d h out out_n dJ0⟩:=by kernel_rfl
theorem Qx4 (B:Lo) (p:Qac) (d:Int) (h:Int) (out:List Int) (out_n:Nat) (dJ0:Nat->Value):QaF (Qah YP (Qau YP) J0 B 9 1 (Qa3 63 21 (([1,2,5,7]:List Nat).zip (Qec p d h out out_n)) dJ0 Qep) (Qa1 (Qct p d h out out_n)) (2+(Qct p d h out out_n).length)
 [(0,hvF)] 0 [] []) [{k:=3,rs:=[],cs:=Qad Qav out}]=some (slT out_n (Fz.cs {k:=3,rs:=[],cs:=Qad Qav out}),
 [Qbl (Fz.rs {k:=3,rs:=[],cs:=Qad Qav out}) (Qad Qav out) (Fz.cs {k:=3,rs:=[],cs:=Qad Qav out}),ltq h 24=false]):=by kernel_rfl
theorem Qwj (B:Lo) (p:Qac) (d:Int):landM (Qah YP (Qau YP) J0 B 9 1 (Qae YP 63 21 (([swV p fHi,.int .i64 d]).map (Qal 0 4))) H00 1
 [] 0 [] []) [1,2,5,7] [(1,KS.auto)] []=some ⟨63,21,QeR,[],.run,none,QeS p d (0),QcB p d (0),
 []⟩:=by kernel_rfl
set_option maxHeartbeats 4000000 in
theorem Qxj (p:Qac) (d:Int) (hp:QaB p=true) (hd:0<=d/\d < p.swell.length) {B:Lo} (hJ:∀w,B.has w->J0 w) {c0:CF}:∀m:Nat,(∀(h:Int),24 - h.toNat=m->∀(h0:0<=h),Qwe B c0 p d h->EndsT YP B c0 (slI (([]:List Int)++Qa9 p d true h)))/\(∀(h:Int) (out:List Int) (out_n:Nat),24 - h.toNat=m->∀(h0:0<=h) (hout:out_n=out.length) (houtb:(out_n:Int)<=h),Qw2 B c0 p d h out out_n->EndsT YP B c0 (slI (out++Qa9 p d true h))):=by
 intro m0;induction m0 using Nat.strongRecOn with
 | _ m0 ih0=>
   refine ⟨?_, ?_⟩
   ·intro h hm0 h0 ⟨dJ0,hdJ0,hg0⟩;by_cases q0:(h:Int) < (24)
    ·have hp0:Qas (Qj3 B p d h dJ0):=by
      exact ⟨(Qbq q0),trivial⟩
     cases q1:QdB p d h (Span.hi (p.swell.getD d.toNat default)) with
     | true=>
       exact ((ih0 _ (by omega)).2 (h+1) ([h]) (1) rfl (by omega) (by (simp_all;done)) (by omega)
        (hg0.landM okF hJ Qab (Qw0 B p d h dJ0)
        ⟨(QjA (by kernel_rfl)),⟨(QaR (by omega) (by omega)),⟨⟨trivial,(by have t_:=QkA (p) (d) (h) (by with_reducible assumption) (by with_reducible assumption) (by omega);rw [q1] at t_;exact t_)⟩,hp0⟩⟩⟩ (by kernel_rfl) (by kernel_rfl))).cast (by (rw [Qdg (h:=h) (by omega)];simp_all [QbK];done))
     | false=>
       exact ((ih0 _ (by omega)).1 (h+1) rfl (by omega)
        (hg0.landM okF hJ Qab (Qxg B p d h dJ0)
        ⟨(QaR (by omega) (by omega)),⟨⟨trivial,(by have t_:=QkA (p) (d) (h) (by with_reducible assumption) (by with_reducible assumption) (by omega);rw [q1] at t_;exact t_)⟩,hp0⟩⟩ (by kernel_rfl) (by kernel_rfl))).cast (by (rw [Qdg (h:=h) (by omega)];simp_all [QbK];done))
    ·exact (GoE.endsT okF hJ Qab hg0 (QwD B p d h dJ0)
      ⟨(Qbj (Int.not_lt.1 q0)),trivial⟩).cast (by (rw [Qhm (h:=h) (by omega)];rfl))
   ·intro h out out_n hm0 h0 hout houtb ⟨dJ0,hdJ0,hg0⟩;by_cases q0:(h:Int) < (24)
    ·have hp1:Qas (QjF B p d h out out_n dJ0):=by
      exact ⟨(Qbq q0),trivial⟩
     cases q1:QdB p d h (Span.hi (p.swell.getD d.toNat default)) with
     | true=>
       exact ((ih0 _ (by omega)).2 (h+1) (out++[h]) (out_n+1) rfl (by omega) (by (simp_all;done)) (by omega)
        (hg0.landM okF hJ Qab (Qw6 B p d h out out_n dJ0)
        ⟨(QaO (QaT (fun x=> List.all_eq_true.1 (by rfl)))),⟨(QaR (by omega) (by omega)),⟨⟨(by (rw [Qcc (z:=1) (fun _=> rfl)];first | omega | (simp;omega) | (simp_all;done))),(by unfold maxLen;omega),by omega,by first | exact Qhf | exact QjL rfl⟩,⟨⟨trivial,(by have t_:=QkA (p) (d) (h) (by with_reducible assumption) (by with_reducible assumption) (by omega);rw [q1] at t_;exact t_)⟩,hp1⟩⟩⟩⟩ (by kernel_rfl) (by kernel_rfl))).cast (by (rw [Qdg (h:=h) (by omega)];simp_all [QbK];done))
     | false=>
       exact ((ih0 _ (by omega)).2 (h+1) (out) (out_n) rfl (by omega) (by with_reducible assumption) (by omega)
        (hg0.landM okF hJ Qab (Qxf B p d h out out_n dJ0)
        ⟨(QaO (QaT (fun x=> List.all_eq_true.1 (by rfl)))),⟨(QaR (by omega) (by omega)),⟨⟨trivial,(by have t_:=QkA (p) (d) (h) (by with_reducible assumption) (by with_reducible assumption) (by omega);rw [q1] at t_;exact t_)⟩,hp1⟩⟩⟩ (by kernel_rfl) (by kernel_rfl))).cast (by (rw [Qdg (h:=h) (by omega)];simp_all [QbK];done))
    ·exact (GoE.endsT okF hJ Qab hg0 (Qx4 B p d h out out_n dJ0)
      ⟨(QaC (fun x=> List.all_eq_true.1 (by rfl))),⟨(Qbj (Int.not_lt.1 q0)),trivial⟩⟩).cast (by (rw [Qhm (h:=h) (by omega),List.append_nil,hout];done))
set_option maxHeartbeats 4000000 in
theorem QxD (p:Qac) (d:Int) (hp:QaB p=true) (hd:0<=d/\d < p.swell.length) {B:Lo} (hJ:∀w,B.has w->J0 w):EndsT YP B (Qae YP 63 21 (([swV p fHi,.int .i64 d]).map (Qal 0 4))) (slI (Qa9 p d true 0)):=by
 exact ((Qxj p d hp hd hJ _).1 (0) rfl (by omega)
  (GoE.start.landM okF hJ Qab (Qwj B p d)
  trivial (by kernel_rfl) (by kernel_rfl))).cast (by rfl)
theorem Q5R (p:Qac) (d:Int) (hp:QaB p=true) (hd:0<=d/\d < p.swell.length):Qai YP J0 63 #[swV p fHi,.int .i64 d] (slI (Qa9 p d true 0)):=
 Qa5 (ts:=[swV p fHi,.int .i64 d]) Qbn (c0:=Qae YP 63 21 (([swV p fHi,.int .i64 d]).map (Qal 0 4))) (by kernel_rfl) (by kernel_rfl) fun B hJ=> QxD p d hp hd hJ
def QeP (p:Qac) (d:Int) (h:Int):List Value:=[.int .i64 d,pA 2 0,.slice none 0 0,.int .i64 h]
def QcE (p:Qac) (d:Int) (h:Int):List Obj:=[Obj.cells #[Qat 1 (slT p.tides.length (Qad Qav p.tides)),.int .i64 p.depth,.int .i64 p.draft,Qat 1 (slT p.swell.length (Qad Qaz p.swell)),.int .i64 p.llo,.int .i64 p.lhi,Value.func (Fn.func 104) #[] #[]] 103]
def QeO:List Item:=([.code [1,1,0,1,0,0],.inLoop [1,1,0,1,0,0],.inBlock 0,.code [1,1,1]]).map (it (Qaq YP 63))
def Qv7 (B:Lo) (c0:CF) (p:Qac) (d:Int) (h:Int):Prop:=∃dJ:Nat->Value,(∀t,Qbg (dJ t))/\GoE YP B c0 H00 1 (Qa3 63 21 (([1,2,5,7]:List Nat).zip (QeP p d h)) dJ QeO) (Qa1 (QcE p d h)) (2+(QcE p d h).length) []
def Qem (p:Qac) (d:Int) (h:Int) (out:List Int) (out_n:Nat):List Value:=[.int .i64 d,pA 2 0,.slice (some ⟨3,0,none⟩) out_n 1,.int .i64 h]
def Qcs (p:Qac) (d:Int) (h:Int) (out:List Int) (out_n:Nat):List Obj:=[Obj.cells #[Qat 1 (slT p.tides.length (Qad Qav p.tides)),.int .i64 p.depth,.int .i64 p.draft,Qat 1 (slT p.swell.length (Qad Qaz p.swell)),.int .i64 p.llo,.int .i64 p.lhi,Value.func (Fn.func 104) #[] #[]] 103,Obj.cells (Qad Qav out) 3 (0,0)]
def Qeh:List Item:=([.code [1,1,0,1,0,0],.inLoop [1,1,0,1,0,0],.inBlock 0,.code [1,1,1]]).map (it (Qaq YP 63))
def Qwv (B:Lo) (c0:CF) (p:Qac) (d:Int) (h:Int) (out:List Int) (out_n:Nat):Prop:=∃dJ:Nat->Value,(∀t,Qbg (dJ t))/\GoE YP B c0 H00 1 (Qa3 63 21 (([1,2,5,7]:List Nat).zip (Qem p d h out out_n)) dJ Qeh) (Qa1 (Qcs p d h out out_n)) (2+(Qcs p d h out out_n).length) []
def Qht (p:Qac) (d:Int) (h:Int):Array Value:=#[.agg #[slT p.tides.length (Qad Qav p.tides),.int .i64 p.depth,.int .i64 p.draft,slT p.swell.length (Qad Qaz p.swell),.int .i64 p.llo,.int .i64 p.lhi,Value.func (Fn.func 104) #[] #[]],.agg #[.int .i64 d,.int .i64 h]]
def QjN (B:Lo) (p:Qac) (d:Int) (h:Int) (dJ0:Nat->Value):List Prop:=[ltq h 24=true]++([]:List Prop)
def QnI (p:Qac) (d:Int) (h:Int) (dJ0:Nat->Value):Qan:=[(0,hvT)]
theorem Qwl (B:Lo) (p:Qac) (d:Int) (h:Int) (dJ0:Nat->Value):landM (Qah YP (Qau YP) J0 B 16 1 (Qa3 63 21 (([1,2,5,7]:List Nat).zip (QeP p d h)) dJ0 QeO) (Qa1 (QcE p d h)) (2+(QcE p d h).length)
 (QnI p d h dJ0++[(7,Qaf.pure (.bool true) []),(13,hvI (h+1))]) 0 [] []) [1,2,5,7] [(2,KS.auto),(4,KS.cells [] (Qad Qav [h]))] []=some ⟨63,21,Qeh,[],.run,none,Qem p d (h+1) ([h]) (1),Qcs p d (h+1) ([h]) (1),
 [Qdd 1 [] (#[.int .i64 h]) (Qad Qav [h]),wq (h+1)=h+1,Qas []/\Qai YP J0 68 (Qht p d h) (.bool true)]++QjN B p d h dJ0⟩:=by kernel_rfl
theorem Qw4 (B:Lo) (p:Qac) (d:Int) (h:Int) (dJ0:Nat->Value):landM (Qah YP (Qau YP) J0 B 16 1 (Qa3 63 21 (([1,2,5,7]:List Nat).zip (QeP p d h)) dJ0 QeO) (Qa1 (QcE p d h)) (2+(QcE p d h).length)
 (QnI p d h dJ0++[(7,Qaf.pure (.bool false) []),(8,hvI (h+1))]) 0 [] []) [1,2,5,7] [(2,KS.auto)] []=some ⟨63,21,QeO,[],.run,none,QeP p d (h+1),QcE p d (h+1),
 [wq (h+1)=h+1,Qas []/\Qai YP J0 68 (Qht p d h) (.bool false)]++QjN B p d h dJ0⟩:=by kernel_rfl
theorem QvU (B:Lo) (p:Qac) (d:Int) (h:Int) (dJ0:Nat->Value):QaF (Qah YP (Qau YP) J0 B 9 1 (Qa3 63 21 (([1,2,5,7]:List Nat).zip (QeP p d h)) dJ0 QeO) (Qa1 (QcE p d h)) (2+(QcE p d h).length)
 [(0,hvF)] 0 [] []) []=some (slT 0 #[],
 [ltq h 24=false]):=by kernel_rfl
def QjH (B:Lo) (p:Qac) (d:Int) (h:Int) (out:List Int) (out_n:Nat) (dJ0:Nat->Value):List Prop:=[ltq h 24=true]++([]:List Prop)
def Qox (p:Qac) (d:Int) (h:Int) (out:List Int) (out_n:Nat) (dJ0:Nat->Value):Qan:=[(0,hvT)]
theorem QwI (B:Lo) (p:Qac) (d:Int) (h:Int) (out:List Int) (out_n:Nat) (dJ0:Nat->Value):landM (Qah YP (Qau YP) J0 B 16 1 (Qa3 63 21 (([1,2,5,7]:List Nat).zip (Qem p d h out out_n)) dJ0 Qeh) (Qa1 (Qcs p d h out out_n)) (2+(Qcs p d h out out_n).length)
 (Qox p d h out out_n dJ0++[(7,Qaf.pure (.bool true) []),(11,Qaf.old (Hint.app (Qad Qav (out++[h])))),(13,hvI (h+1))]) 0 [] []) [1,2,5,7] [(2,KS.auto),(5,KS.cells [] (Qad Qav (out++[h])))] []=some ⟨63,21,Qeh,[],.run,none,Qem p d (h+1) (out++[h]) (out_n+1),Qcs p d (h+1) (out++[h]) (out_n+1),
 [Qdd 1 [] (Qad Qav (out++[h])) (Qad Qav (out++[h])),wq (h+1)=h+1,Array.size (Qad Qav out)=out_n * (0+1)/\out_n+1<=maxLen/\(out_n+1) * 8<=140737488355328/\Qad Qav out++#[.int .i64 h]=Qad Qav (out++[h]),Qas []/\Qai YP J0 68 (Qht p d h) (.bool true)]++QjH B p d h out out_n dJ0⟩:=by kernel_rfl
theorem Qxm (B:Lo) (p:Qac) (d:Int) (h:Int) (out:List Int) (out_n:Nat) (dJ0:Nat->Value):landM (Qah YP (Qau YP) J0 B 16 1 (Qa3 63 21 (([1,2,5,7]:List Nat).zip (Qem p d h out out_n)) dJ0 Qeh) (Qa1 (Qcs p d h out out_n)) (2+(Qcs p d h out out_n).length)
 (Qox p d h out out_n dJ0++[(7,Qaf.pure (.bool false) []),(8,hvI (h+1))]) 0 [] []) [1,2,5,7] [(2,KS.auto),(3,KS.cells [] (Qad Qav out))] []=some ⟨63,21,Qeh,[],.run,none,Qem p d (h+1) (out) (out_n),Qcs p d (h+1) (out) (out_n),
 [Qdd 1 [] (Qad Qav out) (Qad Qav out),wq (h+1)=h+1,Qas []/\Qai YP J0 68 (Qht p d h) (.bool false)]++QjH B p d h out out_n dJ0⟩:=by kernel_rfl
theorem Qv3 (B:Lo) (p:Qac) (d:Int) (h:Int) (out:List Int) (out_n:Nat) (dJ0:Nat->Value):QaF (Qah YP (Qau YP) J0 B 9 1 (Qa3 63 21 (([1,2,5,7]:List Nat).zip (Qem p d h out out_n)) dJ0 Qeh) (Qa1 (Qcs p d h out out_n)) (2+(Qcs p d h out out_n).length)
 [(0,hvF)] 0 [] []) [{k:=3,rs:=[],cs:=Qad Qav out}]=some (slT out_n (Fz.cs {k:=3,rs:=[],cs:=Qad Qav out}),
 [Qbl (Fz.rs {k:=3,rs:=[],cs:=Qad Qav out}) (Qad Qav out) (Fz.cs {k:=3,rs:=[],cs:=Qad Qav out}),ltq h 24=false]):=by kernel_rfl
theorem QvF (B:Lo) (p:Qac) (d:Int):landM (Qah YP (Qau YP) J0 B 9 1 (Qae YP 63 21 (([swV p fLo,.int .i64 d]).map (Qal 0 4))) H00 1
 [] 0 [] []) [1,2,5,7] [(1,KS.auto)] []=some ⟨63,21,QeO,[],.run,none,QeP p d (0),QcE p d (0),
 []⟩:=by kernel_rfl
set_option maxHeartbeats 4000000 in
theorem Qwr (p:Qac) (d:Int) (hp:QaB p=true) (hd:0<=d/\d < p.swell.length) {B:Lo} (hJ:∀w,B.has w->J0 w) {c0:CF}:∀m:Nat,(∀(h:Int),24 - h.toNat=m->∀(h0:0<=h),Qv7 B c0 p d h->EndsT YP B c0 (slI (([]:List Int)++Qa9 p d false h)))/\(∀(h:Int) (out:List Int) (out_n:Nat),24 - h.toNat=m->∀(h0:0<=h) (hout:out_n=out.length) (houtb:(out_n:Int)<=h),Qwv B c0 p d h out out_n->EndsT YP B c0 (slI (out++Qa9 p d false h))):=by
 intro m0;induction m0 using Nat.strongRecOn with
 | _ m0 ih0=>
   refine ⟨?_, ?_⟩
   ·intro h hm0 h0 ⟨dJ0,hdJ0,hg0⟩;by_cases q0:(h:Int) < (24)
    ·have hp0:Qas (QjN B p d h dJ0):=by
      exact ⟨(Qbq q0),trivial⟩
     cases q1:QdB p d h (Span.lo (p.swell.getD d.toNat default)) with
     | true=>
       exact ((ih0 _ (by omega)).2 (h+1) ([h]) (1) rfl (by omega) (by (simp_all;done)) (by omega)
        (hg0.landM okF hJ Qab (Qwl B p d h dJ0)
        ⟨(QjA (by kernel_rfl)),⟨(QaR (by omega) (by omega)),⟨⟨trivial,(by have t_:=QkQ (p) (d) (h) (by with_reducible assumption) (by with_reducible assumption) (by omega);rw [q1] at t_;exact t_)⟩,hp0⟩⟩⟩ (by kernel_rfl) (by kernel_rfl))).cast (by (rw [Qdg (h:=h) (by omega)];simp_all [QbK];done))
     | false=>
       exact ((ih0 _ (by omega)).1 (h+1) rfl (by omega)
        (hg0.landM okF hJ Qab (Qw4 B p d h dJ0)
        ⟨(QaR (by omega) (by omega)),⟨⟨trivial,(by have t_:=QkQ (p) (d) (h) (by with_reducible assumption) (by with_reducible assumption) (by omega);rw [q1] at t_;exact t_)⟩,hp0⟩⟩ (by kernel_rfl) (by kernel_rfl))).cast (by (rw [Qdg (h:=h) (by omega)];simp_all [QbK];done))
    ·exact (GoE.endsT okF hJ Qab hg0 (QvU B p d h dJ0)
      ⟨(Qbj (Int.not_lt.1 q0)),trivial⟩).cast (by (rw [Qhm (h:=h) (by omega)];rfl))
   ·intro h out out_n hm0 h0 hout houtb ⟨dJ0,hdJ0,hg0⟩;by_cases q0:(h:Int) < (24)
    ·have hp1:Qas (QjH B p d h out out_n dJ0):=by
      exact ⟨(Qbq q0),trivial⟩
     cases q1:QdB p d h (Span.lo (p.swell.getD d.toNat default)) with
     | true=>
       exact ((ih0 _ (by omega)).2 (h+1) (out++[h]) (out_n+1) rfl (by omega) (by (simp_all;done)) (by omega)
        (hg0.landM okF hJ Qab (QwI B p d h out out_n dJ0)
        ⟨(QaO (QaT (fun x=> List.all_eq_true.1 (by rfl)))),⟨(QaR (by omega) (by omega)),⟨⟨(by (rw [Qcc (z:=1) (fun _=> rfl)];first | omega | (simp;omega) | (simp_all;done))),(by unfold maxLen;omega),by omega,by first | exact Qhf | exact QjL rfl⟩,⟨⟨trivial,(by have t_:=QkQ (p) (d) (h) (by with_reducible assumption) (by with_reducible assumption) (by omega);rw [q1] at t_;exact t_)⟩,hp1⟩⟩⟩⟩ (by kernel_rfl) (by kernel_rfl))).cast (by (rw [Qdg (h:=h) (by omega)];simp_all [QbK];done))
     | false=>
       exact ((ih0 _ (by omega)).2 (h+1) (out) (out_n) rfl (by omega) (by with_reducible assumption) (by omega)
        (hg0.landM okF hJ Qab (Qxm B p d h out out_n dJ0)
        ⟨(QaO (QaT (fun x=> List.all_eq_true.1 (by rfl)))),⟨(QaR (by omega) (by omega)),⟨⟨trivial,(by have t_:=QkQ (p) (d) (h) (by with_reducible assumption) (by with_reducible assumption) (by omega);rw [q1] at t_;exact t_)⟩,hp1⟩⟩⟩ (by kernel_rfl) (by kernel_rfl))).cast (by (rw [Qdg (h:=h) (by omega)];simp_all [QbK];done))
    ·exact (GoE.endsT okF hJ Qab hg0 (Qv3 B p d h out out_n dJ0)
      ⟨(QaC (fun x=> List.all_eq_true.1 (by rfl))),⟨(Qbj (Int.not_lt.1 q0)),trivial⟩⟩).cast (by (rw [Qhm (h:=h) (by omega),List.append_nil,hout];done))
set_option maxHeartbeats 4000000 in
theorem Qzk (p:Qac) (d:Int) (hp:QaB p=true) (hd:0<=d/\d < p.swell.length) {B:Lo} (hJ:∀w,B.has w->J0 w):EndsT YP B (Qae YP 63 21 (([swV p fLo,.int .i64 d]).map (Qal 0 4))) (slI (Qa9 p d false 0)):=by
 exact ((Qwr p d hp hd hJ _).1 (0) rfl (by omega)
  (GoE.start.landM okF hJ Qab (QvF B p d)
  trivial (by kernel_rfl) (by kernel_rfl))).cast (by rfl)
theorem Q4J (p:Qac) (d:Int) (hp:QaB p=true) (hd:0<=d/\d < p.swell.length):Qai YP J0 63 #[swV p fLo,.int .i64 d] (slI (Qa9 p d false 0)):=
 Qa5 (ts:=[swV p fLo,.int .i64 d]) Qbn (c0:=Qae YP 63 21 (([swV p fLo,.int .i64 d]).map (Qal 0 4))) (by kernel_rfl) (by kernel_rfl) fun B hJ=> Qzk p d hp hd hJ
end
end Go.Proofs.YtiabgkiccaodmaaGreat

namespace Go.Proofs.YtiabgkiccaodmaaGreat
open Go Go.CE Go.RowKit
noncomputable section
set_option maxRecDepth 100000
def Q5N (p:Qac) (d:Int):Bool:=QaB p && inB d 0 (p.swell.length - 1)
def Ql9 (p:Qac):Array Value:=#[slT p.tides.length (Qad Qav p.tides),.int .i64 p.depth,.int .i64 p.draft,slT p.swell.length (Qad Qaz p.swell),.int .i64 p.llo,.int .i64 p.lhi,Value.func (Fn.func 103) #[] #[]]
def Qno (p:Qac):Array Value:=#[slT p.tides.length (Qad Qav p.tides),.int .i64 p.depth,.int .i64 p.draft,slT p.swell.length (Qad Qaz p.swell),.int .i64 p.llo,.int .i64 p.lhi,Value.func (Fn.func 104) #[] #[]]
def QiD (p:Qac):Array Value:=#[.agg #[slT p.tides.length (Qad Qav p.tides),.int .i64 p.depth,.int .i64 p.draft,slT p.swell.length (Qad Qaz p.swell),.int .i64 p.llo,.int .i64 p.lhi]]
def QkY (B:Lo) (p:Qac) (d:Int):List Prop:=[Qas []/\Qai YP J0 60 (QiD p) (.bool true)]++([]:List Prop)
def Qqe (p:Qac) (d:Int):Qan:=[(5,Qaf.pure (.bool true) [])]
theorem Qzu (B:Lo) (p:Qac) (d:Int):QaF (Qah YP (Qau YP) J0 B 11 1 (Qae YP 19 24 (([.agg (Qa2 p).toArray,.int .i64 d]).map (Qal 0 4))) H00 1
 (Qqe p d++[(10,Qaf.pure (.bool true) []),(14,Qaf.pure (.agg (Ql9 p)) []),(16,Qaf.pure (slT (List.length (Qa9 p d true 0)) (Qad Qav (Qa9 p d true 0))) []),(18,Qaf.pure (.agg (Qno p)) []),(20,Qaf.pure (slT (List.length (Qa9 p d false 0)) (Qad Qav (Qa9 p d false 0))) [])]) 0 [] []) []=some (.tuple #[slT (List.length (Qa9 p d true 0)) (Qad Qav (Qa9 p d true 0)),slT (List.length (Qa9 p d false 0)) (Qad Qav (Qa9 p d false 0)),.int .i64 0],
 [Qas []/\Qai YP J0 63 #[.agg (Qno p),.int .i64 d] (slT (List.length (Qa9 p d false 0)) (Qad Qav (Qa9 p d false 0))),Qas []/\Qai YP J0 64 (QiD p) (.agg (Qno p)),Qas []/\Qai YP J0 63 #[.agg (Ql9 p),.int .i64 d] (slT (List.length (Qa9 p d true 0)) (Qad Qav (Qa9 p d true 0))),Qas []/\Qai YP J0 62 (QiD p) (.agg (Ql9 p)),Qas []/\Qai YP J0 61 #[.agg #[slT p.tides.length (Qad Qav p.tides),.int .i64 p.depth,.int .i64 p.draft,slT p.swell.length (Qad Qaz p.swell),.int .i64 p.llo,.int .i64 p.lhi],.int .i64 d] (.bool true)]++QkY B p d):=by kernel_rfl
theorem Qyf (B:Lo) (p:Qac) (d:Int):QaF (Qah YP (Qau YP) J0 B 10 1 (Qae YP 19 24 (([.agg (Qa2 p).toArray,.int .i64 d]).map (Qal 0 4))) H00 1
 (Qqe p d++[(10,Qaf.pure (.bool false) [])]) 0 [] []) []=some (.tuple #[slT 0 #[],slT 0 #[],.int .i64 2],
 [Qas []/\Qai YP J0 61 #[.agg #[slT p.tides.length (Qad Qav p.tides),.int .i64 p.depth,.int .i64 p.draft,slT p.swell.length (Qad Qaz p.swell),.int .i64 p.llo,.int .i64 p.lhi],.int .i64 d] (.bool false)]++QkY B p d):=by kernel_rfl
theorem Q1l (B:Lo) (p:Qac) (d:Int):QaF (Qah YP (Qau YP) J0 B 10 1 (Qae YP 19 24 (([.agg (Qa2 p).toArray,.int .i64 d]).map (Qal 0 4))) H00 1
 [(5,Qaf.pure (.bool false) [])] 0 [] []) []=some (.tuple #[slT 0 #[],slT 0 #[],.int .i64 2],
 [Qas []/\Qai YP J0 60 (QiD p) (.bool false)]):=by kernel_rfl
set_option maxHeartbeats 4000000 in
theorem Q3A (p:Qac) (d:Int)  {B:Lo} (hJ:∀w,B.has w->J0 w):EndsT YP B (Qae YP 19 24 (([.agg (Qa2 p).toArray,.int .i64 d]).map (Qal 0 4))) (.tuple #[slI (if (QaB p && inB d 0 (p.swell.length - 1))=true then Qa9 p d true 0 else []),slI (if (QaB p && inB d 0 (p.swell.length - 1))=true then Qa9 p d false 0 else []),.int .i64 (if (QaB p && inB d 0 (p.swell.length - 1))=true then 0 else 2)]):=by
 cases q0:QaB p with
 | true=>
   have hp0:Qas (QkY B p d):=by
    exact ⟨⟨trivial,(by have t_:=Qy6 (p);rw [q0] at t_;exact t_)⟩,trivial⟩
   cases q1:inB d 0 ((↑p.swell.length:Int) - 1) with
   | true=>
     have g2:=Qa4.1 ‹inB d 0 _=true›;exact (GoE.endsT okF hJ Qab GoE.start (Qzu B p d)
      ⟨⟨trivial,Q4J (p) (d) (by with_reducible assumption) (by omega)⟩,⟨⟨trivial,Q70 (p)⟩,⟨⟨trivial,Q5R (p) (d) (by with_reducible assumption) (by omega)⟩,⟨⟨trivial,Q7P (p)⟩,⟨⟨trivial,(by have t_:=Q4w (p) (d);rw [q1] at t_;exact t_)⟩,hp0⟩⟩⟩⟩⟩).cast (by (simp [Q5N, *];done))
   | false=>
     exact (GoE.endsT okF hJ Qab GoE.start (Qyf B p d)
      ⟨⟨trivial,(by have t_:=Q4w (p) (d);rw [q1] at t_;exact t_)⟩,hp0⟩).cast (by (simp [Q5N, *];rfl))
 | false=>
   exact (GoE.endsT okF hJ Qab GoE.start (Q1l B p d)
    ⟨⟨trivial,(by have t_:=Qy6 (p);rw [q0] at t_;exact t_)⟩,trivial⟩).cast (by (simp [Q5N, *];rfl))
theorem Q48 (p:Qac) (d:Int)  :Qai YP J0 19 #[.agg (Qa2 p).toArray,.int .i64 d] (.tuple #[slI (if (QaB p && inB d 0 (p.swell.length - 1))=true then Qa9 p d true 0 else []),slI (if (QaB p && inB d 0 (p.swell.length - 1))=true then Qa9 p d false 0 else []),.int .i64 (if (QaB p && inB d 0 (p.swell.length - 1))=true then 0 else 2)]):=
 Qa5 (ts:=[.agg (Qa2 p).toArray,.int .i64 d]) Qbn (c0:=Qae YP 19 24 (([.agg (Qa2 p).toArray,.int .i64 d]).map (Qal 0 4))) (by kernel_rfl) (by kernel_rfl) fun B hJ=> Q3A p d  hJ
end
end Go.Proofs.YtiabgkiccaodmaaGreat

namespace Go.Proofs.YtiabgkiccaodmaaGreat
open Go Go.CE Go.RowKit
set_option maxRecDepth 100000

end Go.Proofs.YtiabgkiccaodmaaGreat

namespace Go.Proofs.YtiabgkiccaodmaaGreat
open Go Go.CE Go.RowKit
def inN (n:Int):Value:=.int .i64 n
def Qdk (g:FuncId):Bool:=Nat.ble 3 g && (Nat.blt g 171 && !([]:List Nat).any (Nat.beq g))
theorem QaY:∀g,Qdk g=true->Qau YP g=true:=by
 have h:(List.range 171).all (fun g=> !(Qdk g) || Qau YP g)=true:=by decide+kernel
 intro g hg;have hg':=hg;simp only [Qdk,YB] at hg;have h1:g < 171:=YL hg.2.1;have:=List.all_eq_true.1 h g (List.mem_range.2 h1);rw [hg'] at this;simpa using this
end Go.Proofs.YtiabgkiccaodmaaGreat

namespace Go.Proofs.YtiabgkiccaodmaaGreat
open Go Go.CE Go.RowKit
def Q50:Memo:=
 ⟨19,#[.agg #[.slice (some ⟨1,0,none⟩) 6 1,inN 20,inN 21,.slice (some ⟨2,0,none⟩) 2 2,inN 6,inN 17],inN 1],[(1,.cells #[inN 0,inN 2,inN 4,inN 3,inN 1,inN (-1)] 3 (0,0)),(2,.cells #[inN 0,inN 1,inN 1,inN 3] 25 (0,0))],3,.tuple #[.slice (some ⟨146,0,none⟩) 2 1,.slice (some ⟨363,0,none⟩) 6 1,inN 0],[(363,.cells #[inN 7,inN 8,inN 9,inN 13,inN 14,inN 15] 3 (0,0)),(146,.cells #[inN 8,inN 14] 3 (0,0))],420⟩
theorem Q4h:QbB Q50 (Q50.run YP Qdk Qb3 100000)=true:=by decide+kernel
def Qtm:Memo:=
 ⟨20,#[.agg #[.slice (some ⟨421,0,none⟩) 6 1,inN 20,inN 21,.slice (some ⟨422,0,none⟩) 2 2,inN 6,inN 17],.agg #[inN 0,inN 16]],[(421,.cells #[inN 0,inN 2,inN 4,inN 3,inN 1,inN (-1)] 3 (0,0)),(422,.cells #[inN 0,inN 1,inN 1,inN 3] 25 (0,0))],423,.tuple #[.agg #[inN 1,inN 8],inN 0],[],589⟩
theorem QvO:QbB Qtm (Qtm.run YP Qdk Qb3 100000)=true:=by decide+kernel
def Qtd:Memo:=
 ⟨29,#[.agg #[.slice (some ⟨591,0,none⟩) 6 1,inN 20,inN 21,.slice (some ⟨592,0,none⟩) 2 2,inN 6,inN 17],.agg #[inN 1,inN 2],inN 1],[(591,.cells #[inN 0,inN 2,inN 4,inN 3,inN 1,inN (-1)] 3 (0,0)),(592,.cells #[inN 0,inN 1,inN 1,inN 3] 25 (0,0))],593,.tuple #[.slice (some ⟨823,0,none⟩) 1 2,inN 0],[(823,.cells #[inN 1,inN 8] 29 (0,0))],826⟩
theorem QvV:QbB Qtd (Qtd.run YP Qdk Qb3 100000)=true:=by decide+kernel
def QoM:Memo:=
 ⟨125,#[.agg #[inN 130,inN 4,inN 95,.slice (some ⟨915,0,none⟩) 60 1]],[(915,.cells #[.bool false,.bool false,.bool false,.bool false,.bool false,.bool false,.bool false,.bool false,.bool false,.bool false,.bool false,.bool false,.bool false,.bool false,.bool false,.bool false,.bool false,.bool false,.bool false,.bool false,.bool false,.bool false,.bool false,.bool false,.bool false,.bool false,.bool false,.bool false,.bool false,.bool false,.bool true,.bool false,.bool false,.bool false,.bool false,.bool false,.bool false,.bool false,.bool false,.bool false,.bool false,.bool false,.bool false,.bool false,.bool false,.bool false,.bool false,.bool false,.bool false,.bool false,.bool false,.bool false,.bool false,.bool false,.bool false,.bool false,.bool false,.bool false,.bool false,.bool false] 4 (0,0))],932,inN 56,[],935⟩
theorem Qta:QbB QoM (QoM.drun YP Qdk Qb3 100000)=true:=by decide+kernel
def QpL:Memo:=
 ⟨125,#[.agg #[inN 70,inN 2,inN 55,.slice (some ⟨915,0,none⟩) 60 1]],[(915,.cells #[.bool false,.bool false,.bool false,.bool false,.bool false,.bool false,.bool false,.bool false,.bool false,.bool false,.bool false,.bool false,.bool false,.bool false,.bool false,.bool false,.bool false,.bool false,.bool false,.bool false,.bool false,.bool false,.bool false,.bool false,.bool false,.bool false,.bool false,.bool false,.bool false,.bool false,.bool true,.bool false,.bool false,.bool false,.bool false,.bool false,.bool false,.bool false,.bool false,.bool false,.bool false,.bool false,.bool false,.bool false,.bool false,.bool false,.bool false,.bool false,.bool false,.bool false,.bool false,.bool false,.bool false,.bool false,.bool false,.bool false,.bool false,.bool false,.bool false,.bool false] 4 (0,0))],936,inN (-1),[],939⟩
theorem QsQ:QbB QpL (QpL.drun YP Qdk Qb3 100000)=true:=by decide+kernel
def QkZ:Memo:=
 ⟨125,#[.agg #[inN 130,inN 4,inN 130,.slice (some ⟨1044,0,none⟩) 60 1]],[(1044,.cells #[.bool false,.bool false,.bool false,.bool false,.bool false,.bool false,.bool false,.bool false,.bool false,.bool false,.bool false,.bool false,.bool false,.bool false,.bool false,.bool false,.bool false,.bool false,.bool false,.bool false,.bool false,.bool false,.bool false,.bool false,.bool false,.bool false,.bool false,.bool false,.bool false,.bool false,.bool true,.bool false,.bool false,.bool false,.bool false,.bool false,.bool false,.bool false,.bool false,.bool false,.bool false,.bool false,.bool false,.bool false,.bool false,.bool false,.bool false,.bool false,.bool false,.bool false,.bool false,.bool false,.bool false,.bool false,.bool false,.bool false,.bool false,.bool false,.bool false,.bool false] 4 (0,0))],1059,inN (-1),[],1062⟩
theorem Qrc:QbB QkZ (QkZ.drun YP Qdk Qb3 100000)=true:=by decide+kernel
def QmS:Memo:=
 ⟨125,#[.agg #[inN 70,inN 2,inN 30,.slice (some ⟨1044,0,none⟩) 60 1]],[(1044,.cells #[.bool false,.bool false,.bool false,.bool false,.bool false,.bool false,.bool false,.bool false,.bool false,.bool false,.bool false,.bool false,.bool false,.bool false,.bool false,.bool false,.bool false,.bool false,.bool false,.bool false,.bool false,.bool false,.bool false,.bool false,.bool false,.bool false,.bool false,.bool false,.bool false,.bool false,.bool true,.bool false,.bool false,.bool false,.bool false,.bool false,.bool false,.bool false,.bool false,.bool false,.bool false,.bool false,.bool false,.bool false,.bool false,.bool false,.bool false,.bool false,.bool false,.bool false,.bool false,.bool false,.bool false,.bool false,.bool false,.bool false,.bool false,.bool false,.bool false,.bool false] 4 (0,0))],1063,inN 50,[],1066⟩
theorem Qsu:QbB QmS (QmS.drun YP Qdk Qb3 100000)=true:=by decide+kernel
def Ql1:Memo:=
 ⟨125,#[.agg #[inN 130,inN 3,inN 130,.slice (some ⟨1103,0,none⟩) 60 1]],[(1103,.cells #[.bool false,.bool false,.bool false,.bool false,.bool false,.bool false,.bool false,.bool false,.bool false,.bool false,.bool false,.bool false,.bool false,.bool false,.bool false,.bool false,.bool false,.bool false,.bool false,.bool false,.bool true,.bool false,.bool false,.bool false,.bool false,.bool false,.bool false,.bool false,.bool false,.bool false,.bool false,.bool false,.bool false,.bool false,.bool false,.bool false,.bool false,.bool false,.bool false,.bool false,.bool true,.bool false,.bool false,.bool false,.bool false,.bool false,.bool false,.bool false,.bool false,.bool false,.bool false,.bool false,.bool false,.bool false,.bool false,.bool false,.bool false,.bool false,.bool false,.bool false] 4 (0,0))],1118,inN (-1),[],1121⟩
theorem Qrn:QbB Ql1 (Ql1.drun YP Qdk Qb3 100000)=true:=by decide+kernel
def Ql2:Memo:=
 ⟨125,#[.agg #[inN 70,inN 1,inN 30,.slice (some ⟨1103,0,none⟩) 60 1]],[(1103,.cells #[.bool false,.bool false,.bool false,.bool false,.bool false,.bool false,.bool false,.bool false,.bool false,.bool false,.bool false,.bool false,.bool false,.bool false,.bool false,.bool false,.bool false,.bool false,.bool false,.bool false,.bool true,.bool false,.bool false,.bool false,.bool false,.bool false,.bool false,.bool false,.bool false,.bool false,.bool false,.bool false,.bool false,.bool false,.bool false,.bool false,.bool false,.bool false,.bool false,.bool false,.bool true,.bool false,.bool false,.bool false,.bool false,.bool false,.bool false,.bool false,.bool false,.bool false,.bool false,.bool false,.bool false,.bool false,.bool false,.bool false,.bool false,.bool false,.bool false,.bool false] 4 (0,0))],1122,inN (-1),[],1125⟩
theorem QqU:QbB Ql2 (Ql2.drun YP Qdk Qb3 100000)=true:=by decide+kernel
def QmR:Memo:=
 ⟨125,#[.agg #[inN 130,inN 2,inN 90,.slice (some ⟨1229,0,none⟩) 60 1]],[(1229,.cells #[.bool false,.bool false,.bool false,.bool false,.bool false,.bool false,.bool false,.bool false,.bool false,.bool false,.bool false,.bool false,.bool false,.bool false,.bool false,.bool false,.bool false,.bool false,.bool false,.bool false,.bool false,.bool false,.bool false,.bool false,.bool false,.bool false,.bool false,.bool false,.bool false,.bool false,.bool true,.bool false,.bool false,.bool false,.bool false,.bool false,.bool false,.bool false,.bool false,.bool false,.bool false,.bool false,.bool false,.bool false,.bool false,.bool false,.bool false,.bool false,.bool false,.bool false,.bool false,.bool false,.bool false,.bool false,.bool false,.bool false,.bool false,.bool false,.bool false,.bool false] 4 (0,0))],1247,inN (-1),[],1250⟩
theorem QqD:QbB QmR (QmR.drun YP Qdk Qb3 100000)=true:=by decide+kernel
def QlW:Memo:=
 ⟨125,#[.agg #[inN 130,inN 4,inN 90,.slice (some ⟨1229,0,none⟩) 60 1]],[(1229,.cells #[.bool false,.bool false,.bool false,.bool false,.bool false,.bool false,.bool false,.bool false,.bool false,.bool false,.bool false,.bool false,.bool false,.bool false,.bool false,.bool false,.bool false,.bool false,.bool false,.bool false,.bool false,.bool false,.bool false,.bool false,.bool false,.bool false,.bool false,.bool false,.bool false,.bool false,.bool true,.bool false,.bool false,.bool false,.bool false,.bool false,.bool false,.bool false,.bool false,.bool false,.bool false,.bool false,.bool false,.bool false,.bool false,.bool false,.bool false,.bool false,.bool false,.bool false,.bool false,.bool false,.bool false,.bool false,.bool false,.bool false,.bool false,.bool false,.bool false,.bool false] 4 (0,0))],1251,inN 55,[],1254⟩
theorem Qre:QbB QlW (QlW.drun YP Qdk Qb3 100000)=true:=by decide+kernel
def Qlp:Memo:=
 ⟨125,#[.agg #[inN 130,inN 3,inN 90,.slice (some ⟨1229,0,none⟩) 60 1]],[(1229,.cells #[.bool false,.bool false,.bool false,.bool false,.bool false,.bool false,.bool false,.bool false,.bool false,.bool false,.bool false,.bool false,.bool false,.bool false,.bool false,.bool false,.bool false,.bool false,.bool false,.bool false,.bool false,.bool false,.bool false,.bool false,.bool false,.bool false,.bool false,.bool false,.bool false,.bool false,.bool true,.bool false,.bool false,.bool false,.bool false,.bool false,.bool false,.bool false,.bool false,.bool false,.bool false,.bool false,.bool false,.bool false,.bool false,.bool false,.bool false,.bool false,.bool false,.bool false,.bool false,.bool false,.bool false,.bool false,.bool false,.bool false,.bool false,.bool false,.bool false,.bool false] 4 (0,0))],1255,inN (-1),[],1258⟩
theorem Qsk:QbB Qlp (Qlp.drun YP Qdk Qb3 100000)=true:=by decide+kernel
end Go.Proofs.YtiabgkiccaodmaaGreat

namespace Go.Proofs.YtiabgkiccaodmaaGreat
open Go Go.CE Go.RowKit
noncomputable def QmD:Orc:=Qee [QoM,QpL]
theorem QnE (B:Lo):Qiq YP B QmD:=QaU QaY Qab (QaM _ _) Qta (QaU QaY Qab (QaM _ _) QsQ (Qis _ _))
def QsB:Memo:=
 ⟨38,#[.agg #[.slice (some ⟨827,0,none⟩) 2 1,.slice (some ⟨828,0,none⟩) 2 2,inN 20,inN 30,.slice (some ⟨832,0,none⟩) 3 3,inN 100],.slice (some ⟨833,0,none⟩) 2 1,inN 60,.agg #[.slice (some ⟨834,0,none⟩) 2 1,.slice (some ⟨835,0,none⟩) 2 1,.slice (some ⟨839,0,none⟩) 3 1]],[(834,.cells #[inN 4,inN 2] 3 (0,0)),(835,.cells #[inN 30,inN 30] 3 (0,0)),(838,.cells #[inN 130,inN 30] 3 (0,0)),(837,.cells #[inN 0,inN 55] 3 (0,0)),(836,.cells #[inN 95,inN 0] 3 (0,0)),(839,.cells #[.slice (some ⟨836,0,none⟩) 2 1,.slice (some ⟨837,0,none⟩) 2 1,.slice (some ⟨838,0,none⟩) 2 1] 22 (0,0)),(833,.cells #[inN 0,inN 1] 3 (0,0)),(827,.cells #[inN 130,inN 70] 3 (0,0)),(828,.cells #[inN 3,inN 4,inN 1,inN 2] 25 (0,0)),(831,.cells #[inN 130,inN 130,inN 30,inN 30] 25 (0,0)),(830,.cells #[inN 0,inN 0,inN 50,inN 60] 25 (0,0)),(829,.cells #[inN 90,inN 100,inN 0,inN 0] 25 (0,0)),(832,.cells #[.slice (some ⟨829,0,none⟩) 2 2,inN 50,inN 70,.slice (some ⟨830,0,none⟩) 2 2,inN 30,inN 40,.slice (some ⟨831,0,none⟩) 2 2,inN 90,inN 100] 118 (0,0))],840,.tuple #[.slice (some ⟨930,0,none⟩) 2 1,.slice (some ⟨939,0,none⟩) 2 1,inN 0],[(939,.cells #[inN 0,inN 5] 3 (0,0)),(930,.cells #[inN 56,inN (-1)] 3 (0,0))],946⟩
theorem QvN:QbB QsB (QsB.run YP Qdk QmD 100000)=true:=by decide+kernel
end Go.Proofs.YtiabgkiccaodmaaGreat

namespace Go.Proofs.YtiabgkiccaodmaaGreat
open Go Go.CE Go.RowKit
noncomputable def QkV:Orc:=Qee [QkZ,QmS,Ql1,Ql2]
theorem Qn4 (B:Lo):Qiq YP B QkV:=QaU QaY Qab (QaM _ _) Qrc (QaU QaY Qab (QaM _ _) Qsu (QaU QaY Qab (QaM _ _) Qrn (QaU QaY Qab (QaM _ _) QqU (Qis _ _))))
def Qtl:Memo:=
 ⟨43,#[.agg #[.slice (some ⟨947,0,none⟩) 2 1,.slice (some ⟨948,0,none⟩) 2 2,inN 20,inN 30,.slice (some ⟨952,0,none⟩) 3 3,inN 100],.slice (some ⟨953,0,none⟩) 1 1,inN 60],[(953,.cells #[inN 2] 3 (0,0)),(947,.cells #[inN 130,inN 70] 3 (0,0)),(948,.cells #[inN 3,inN 4,inN 1,inN 2] 25 (0,0)),(951,.cells #[inN 130,inN 130,inN 30,inN 30] 25 (0,0)),(950,.cells #[inN 0,inN 0,inN 50,inN 60] 25 (0,0)),(949,.cells #[inN 90,inN 100,inN 0,inN 0] 25 (0,0)),(952,.cells #[.slice (some ⟨949,0,none⟩) 2 2,inN 50,inN 70,.slice (some ⟨950,0,none⟩) 2 2,inN 30,inN 40,.slice (some ⟨951,0,none⟩) 2 2,inN 90,inN 100] 118 (0,0))],954,.tuple #[.slice (some ⟨1125,0,none⟩) 2 2,inN 0],[(1125,.cells #[inN (-1),inN (-1),inN 50,inN (-1)] 81 (0,0))],1126⟩
theorem Qw3:QbB Qtl (Qtl.run YP Qdk QkV 100000)=true:=by decide+kernel
end Go.Proofs.YtiabgkiccaodmaaGreat

namespace Go.Proofs.YtiabgkiccaodmaaGreat
open Go Go.CE Go.RowKit
def QmE:Memo:=
 ⟨125,#[.agg #[inN 130,inN 3,inN 90,.slice (some ⟨1229,0,none⟩) 60 1]],[(1229,.cells #[.bool false,.bool false,.bool false,.bool false,.bool false,.bool false,.bool false,.bool false,.bool false,.bool false,.bool false,.bool false,.bool false,.bool false,.bool false,.bool false,.bool false,.bool false,.bool false,.bool false,.bool false,.bool false,.bool false,.bool false,.bool false,.bool false,.bool false,.bool false,.bool false,.bool false,.bool true,.bool false,.bool false,.bool false,.bool false,.bool false,.bool false,.bool false,.bool false,.bool false,.bool false,.bool false,.bool false,.bool false,.bool false,.bool false,.bool false,.bool false,.bool false,.bool false,.bool false,.bool false,.bool false,.bool false,.bool false,.bool false,.bool false,.bool false,.bool false,.bool false] 4 (0,0))],1259,inN (-1),[],1262⟩
theorem Qsr:QbB QmE (QmE.drun YP Qdk Qb3 100000)=true:=by decide+kernel
def QmW:Memo:=
 ⟨125,#[.agg #[inN 130,inN 3,inN 90,.slice (some ⟨1229,0,none⟩) 60 1]],[(1229,.cells #[.bool false,.bool false,.bool false,.bool false,.bool false,.bool false,.bool false,.bool false,.bool false,.bool false,.bool false,.bool false,.bool false,.bool false,.bool false,.bool false,.bool false,.bool false,.bool false,.bool false,.bool false,.bool false,.bool false,.bool false,.bool false,.bool false,.bool false,.bool false,.bool false,.bool false,.bool true,.bool false,.bool false,.bool false,.bool false,.bool false,.bool false,.bool false,.bool false,.bool false,.bool false,.bool false,.bool false,.bool false,.bool false,.bool false,.bool false,.bool false,.bool false,.bool false,.bool false,.bool false,.bool false,.bool false,.bool false,.bool false,.bool false,.bool false,.bool false,.bool false] 4 (0,0))],1263,inN (-1),[],1266⟩
theorem Qqq:QbB QmW (QmW.drun YP Qdk Qb3 100000)=true:=by decide+kernel
def Qlm:Memo:=
 ⟨125,#[.agg #[inN 130,inN 3,inN 90,.slice (some ⟨1229,0,none⟩) 60 1]],[(1229,.cells #[.bool false,.bool false,.bool false,.bool false,.bool false,.bool false,.bool false,.bool false,.bool false,.bool false,.bool false,.bool false,.bool false,.bool false,.bool false,.bool false,.bool false,.bool false,.bool false,.bool false,.bool false,.bool false,.bool false,.bool false,.bool false,.bool false,.bool false,.bool false,.bool false,.bool false,.bool true,.bool false,.bool false,.bool false,.bool false,.bool false,.bool false,.bool false,.bool false,.bool false,.bool false,.bool false,.bool false,.bool false,.bool false,.bool false,.bool false,.bool false,.bool false,.bool false,.bool false,.bool false,.bool false,.bool false,.bool false,.bool false,.bool false,.bool false,.bool false,.bool false] 4 (0,0))],1267,inN (-1),[],1270⟩
theorem QrT:QbB Qlm (Qlm.drun YP Qdk Qb3 100000)=true:=by decide+kernel
def Qmz:Memo:=
 ⟨125,#[.agg #[inN 130,inN 3,inN 90,.slice (some ⟨1229,0,none⟩) 60 1]],[(1229,.cells #[.bool false,.bool false,.bool false,.bool false,.bool false,.bool false,.bool false,.bool false,.bool false,.bool false,.bool false,.bool false,.bool false,.bool false,.bool false,.bool false,.bool false,.bool false,.bool false,.bool false,.bool false,.bool false,.bool false,.bool false,.bool false,.bool false,.bool false,.bool false,.bool false,.bool false,.bool true,.bool false,.bool false,.bool false,.bool false,.bool false,.bool false,.bool false,.bool false,.bool false,.bool false,.bool false,.bool false,.bool false,.bool false,.bool false,.bool false,.bool false,.bool false,.bool false,.bool false,.bool false,.bool false,.bool false,.bool false,.bool false,.bool false,.bool false,.bool false,.bool false] 4 (0,0))],1271,inN (-1),[],1274⟩
theorem Qqw:QbB Qmz (Qmz.drun YP Qdk Qb3 100000)=true:=by decide+kernel
def Qli:Memo:=
 ⟨125,#[.agg #[inN 130,inN 3,inN 90,.slice (some ⟨1229,0,none⟩) 60 1]],[(1229,.cells #[.bool false,.bool false,.bool false,.bool false,.bool false,.bool false,.bool false,.bool false,.bool false,.bool false,.bool false,.bool false,.bool false,.bool false,.bool false,.bool false,.bool false,.bool false,.bool false,.bool false,.bool false,.bool false,.bool false,.bool false,.bool false,.bool false,.bool false,.bool false,.bool false,.bool false,.bool true,.bool false,.bool false,.bool false,.bool false,.bool false,.bool false,.bool false,.bool false,.bool false,.bool false,.bool false,.bool false,.bool false,.bool false,.bool false,.bool false,.bool false,.bool false,.bool false,.bool false,.bool false,.bool false,.bool false,.bool false,.bool false,.bool false,.bool false,.bool false,.bool false] 4 (0,0))],1275,inN (-1),[],1278⟩
theorem Qq4:QbB Qli (Qli.drun YP Qdk Qb3 100000)=true:=by decide+kernel
def Ql7:Memo:=
 ⟨125,#[.agg #[inN 130,inN 3,inN 90,.slice (some ⟨1229,0,none⟩) 60 1]],[(1229,.cells #[.bool false,.bool false,.bool false,.bool false,.bool false,.bool false,.bool false,.bool false,.bool false,.bool false,.bool false,.bool false,.bool false,.bool false,.bool false,.bool false,.bool false,.bool false,.bool false,.bool false,.bool false,.bool false,.bool false,.bool false,.bool false,.bool false,.bool false,.bool false,.bool false,.bool false,.bool true,.bool false,.bool false,.bool false,.bool false,.bool false,.bool false,.bool false,.bool false,.bool false,.bool false,.bool false,.bool false,.bool false,.bool false,.bool false,.bool false,.bool false,.bool false,.bool false,.bool false,.bool false,.bool false,.bool false,.bool false,.bool false,.bool false,.bool false,.bool false,.bool false] 4 (0,0))],1279,inN (-1),[],1282⟩
theorem QqC:QbB Ql7 (Ql7.drun YP Qdk Qb3 100000)=true:=by decide+kernel
def Qmm:Memo:=
 ⟨125,#[.agg #[inN 130,inN 4,inN 0,.slice (some ⟨1388,0,none⟩) 55 1]],[(1388,.cells #[.bool false,.bool false,.bool false,.bool false,.bool false,.bool false,.bool false,.bool false,.bool false,.bool false,.bool false,.bool false,.bool false,.bool false,.bool false,.bool false,.bool false,.bool false,.bool false,.bool false,.bool false,.bool false,.bool false,.bool false,.bool false,.bool false,.bool false,.bool false,.bool false,.bool false,.bool true,.bool false,.bool false,.bool false,.bool false,.bool false,.bool false,.bool false,.bool false,.bool false,.bool false,.bool false,.bool false,.bool false,.bool false,.bool false,.bool false,.bool false,.bool false,.bool false,.bool false,.bool false,.bool false,.bool false,.bool false] 4 (0,0))],1401,inN 32,[],1404⟩
theorem QrY:QbB Qmm (Qmm.drun YP Qdk Qb3 100000)=true:=by decide+kernel
def QlG:Memo:=
 ⟨125,#[.agg #[inN 130,inN 4,inN 90,.slice (some ⟨1453,0,none⟩) 55 1]],[(1453,.cells #[.bool false,.bool false,.bool false,.bool false,.bool false,.bool false,.bool false,.bool false,.bool false,.bool false,.bool false,.bool false,.bool false,.bool false,.bool false,.bool false,.bool false,.bool false,.bool false,.bool false,.bool false,.bool false,.bool false,.bool false,.bool false,.bool false,.bool false,.bool false,.bool false,.bool false,.bool true,.bool false,.bool false,.bool false,.bool false,.bool false,.bool false,.bool false,.bool false,.bool false,.bool false,.bool false,.bool false,.bool false,.bool false,.bool false,.bool false,.bool false,.bool false,.bool false,.bool false,.bool false,.bool false,.bool false,.bool false] 4 (0,0))],1468,inN (-1),[],1471⟩
theorem Qsp:QbB QlG (QlG.drun YP Qdk Qb3 100000)=true:=by decide+kernel
def Qlr:Memo:=
 ⟨125,#[.agg #[inN 70,inN 2,inN 0,.slice (some ⟨1453,0,none⟩) 55 1]],[(1453,.cells #[.bool false,.bool false,.bool false,.bool false,.bool false,.bool false,.bool false,.bool false,.bool false,.bool false,.bool false,.bool false,.bool false,.bool false,.bool false,.bool false,.bool false,.bool false,.bool false,.bool false,.bool false,.bool false,.bool false,.bool false,.bool false,.bool false,.bool false,.bool false,.bool false,.bool false,.bool true,.bool false,.bool false,.bool false,.bool false,.bool false,.bool false,.bool false,.bool false,.bool false,.bool false,.bool false,.bool false,.bool false,.bool false,.bool false,.bool false,.bool false,.bool false,.bool false,.bool false,.bool false,.bool false,.bool false,.bool false] 4 (0,0))],1473,inN 35,[],1476⟩
theorem QqP:QbB Qlr (Qlr.drun YP Qdk Qb3 100000)=true:=by decide+kernel
def Qlf:Memo:=
 ⟨125,#[.agg #[inN 130,inN 4,inN 0,.slice (some ⟨1525,0,none⟩) 55 1]],[(1525,.cells #[.bool false,.bool false,.bool false,.bool false,.bool false,.bool false,.bool false,.bool false,.bool false,.bool false,.bool false,.bool false,.bool false,.bool false,.bool false,.bool false,.bool false,.bool false,.bool false,.bool false,.bool false,.bool false,.bool false,.bool false,.bool false,.bool false,.bool false,.bool false,.bool false,.bool false,.bool true,.bool false,.bool false,.bool false,.bool false,.bool false,.bool false,.bool false,.bool false,.bool false,.bool false,.bool false,.bool false,.bool false,.bool false,.bool false,.bool false,.bool false,.bool false,.bool false,.bool false,.bool false,.bool false,.bool false,.bool false] 4 (0,0))],1540,inN 32,[],1543⟩
theorem Qq9:QbB Qlf (Qlf.drun YP Qdk Qb3 100000)=true:=by decide+kernel
def Qnn:Memo:=
 ⟨125,#[.agg #[inN 130,inN 4,inN 90,.slice (some ⟨1596,0,none⟩) 55 1]],[(1596,.cells #[.bool false,.bool false,.bool false,.bool false,.bool false,.bool false,.bool false,.bool false,.bool false,.bool false,.bool false,.bool false,.bool false,.bool false,.bool false,.bool false,.bool false,.bool false,.bool false,.bool false,.bool false,.bool false,.bool false,.bool false,.bool false,.bool false,.bool false,.bool false,.bool false,.bool false,.bool true,.bool false,.bool false,.bool false,.bool false,.bool false,.bool false,.bool false,.bool false,.bool false,.bool false,.bool false,.bool false,.bool false,.bool false,.bool false,.bool false,.bool false,.bool false,.bool false,.bool false,.bool false,.bool false,.bool false,.bool false] 4 (0,0))],1613,inN (-1),[],1616⟩
theorem Qr7:QbB Qnn (Qnn.drun YP Qdk Qb3 100000)=true:=by decide+kernel
def Qnf:Memo:=
 ⟨125,#[.agg #[inN 70,inN 2,inN 50,.slice (some ⟨1596,0,none⟩) 55 1]],[(1596,.cells #[.bool false,.bool false,.bool false,.bool false,.bool false,.bool false,.bool false,.bool false,.bool false,.bool false,.bool false,.bool false,.bool false,.bool false,.bool false,.bool false,.bool false,.bool false,.bool false,.bool false,.bool false,.bool false,.bool false,.bool false,.bool false,.bool false,.bool false,.bool false,.bool false,.bool false,.bool true,.bool false,.bool false,.bool false,.bool false,.bool false,.bool false,.bool false,.bool false,.bool false,.bool false,.bool false,.bool false,.bool false,.bool false,.bool false,.bool false,.bool false,.bool false,.bool false,.bool false,.bool false,.bool false,.bool false,.bool false] 4 (0,0))],1618,inN (-1),[],1621⟩
theorem Qrk:QbB Qnf (Qnf.drun YP Qdk Qb3 100000)=true:=by decide+kernel
end Go.Proofs.YtiabgkiccaodmaaGreat

namespace Go.Proofs.YtiabgkiccaodmaaGreat
open Go Go.CE Go.RowKit
noncomputable def Qkj:Orc:=Qee [QmR,QlW,Qlp,QmE,QmW,Qlm,Qmz,Qli,Ql7]
theorem QmZ (B:Lo):Qiq YP B Qkj:=QaU QaY Qab (QaM _ _) QqD (QaU QaY Qab (QaM _ _) Qre (QaU QaY Qab (QaM _ _) Qsk (QaU QaY Qab (QaM _ _) Qsr (QaU QaY Qab (QaM _ _) Qqq (QaU QaY Qab (QaM _ _) QrT (QaU QaY Qab (QaM _ _) Qqw (QaU QaY Qab (QaM _ _) Qq4 (QaU QaY Qab (QaM _ _) QqC (Qis _ _)))))))))
def Qpo:Memo:=
 ⟨48,#[.agg #[.slice (some ⟨1127,0,none⟩) 2 1,.slice (some ⟨1128,0,none⟩) 2 2,inN 20,inN 30,.slice (some ⟨1132,0,none⟩) 3 3,inN 100],.slice (some ⟨1133,0,none⟩) 2 1,inN 60,inN 0],[(1133,.cells #[inN 0,inN 1] 3 (0,0)),(1127,.cells #[inN 130,inN 70] 3 (0,0)),(1128,.cells #[inN 3,inN 4,inN 1,inN 2] 25 (0,0)),(1131,.cells #[inN 130,inN 130,inN 30,inN 30] 25 (0,0)),(1130,.cells #[inN 0,inN 0,inN 50,inN 60] 25 (0,0)),(1129,.cells #[inN 90,inN 100,inN 0,inN 0] 25 (0,0)),(1132,.cells #[.slice (some ⟨1129,0,none⟩) 2 2,inN 50,inN 70,.slice (some ⟨1130,0,none⟩) 2 2,inN 30,inN 40,.slice (some ⟨1131,0,none⟩) 2 2,inN 90,inN 100] 118 (0,0))],1134,.tuple #[inN 750,inN 0],[],1282⟩
theorem QsO:QbB Qpo (Qpo.run YP Qdk Qkj 100000)=true:=by decide+kernel
end Go.Proofs.YtiabgkiccaodmaaGreat

namespace Go.Proofs.YtiabgkiccaodmaaGreat
open Go Go.CE Go.RowKit
def Qmj:Memo:=
 ⟨125,#[.agg #[inN 130,inN 4,inN 130,.slice (some ⟨1681,0,none⟩) 55 1]],[(1681,.cells #[.bool false,.bool false,.bool false,.bool false,.bool false,.bool false,.bool false,.bool false,.bool false,.bool false,.bool false,.bool false,.bool false,.bool false,.bool false,.bool false,.bool false,.bool false,.bool false,.bool false,.bool false,.bool false,.bool false,.bool false,.bool false,.bool false,.bool false,.bool false,.bool false,.bool false,.bool true,.bool false,.bool false,.bool false,.bool false,.bool false,.bool false,.bool false,.bool false,.bool false,.bool false,.bool false,.bool false,.bool false,.bool false,.bool false,.bool false,.bool false,.bool false,.bool false,.bool false,.bool false,.bool false,.bool false,.bool false] 4 (0,0))],1696,inN (-1),[],1699⟩
theorem Qr3:QbB Qmj (Qmj.drun YP Qdk Qb3 100000)=true:=by decide+kernel
def QlN:Memo:=
 ⟨125,#[.agg #[inN 70,inN 2,inN 30,.slice (some ⟨1681,0,none⟩) 55 1]],[(1681,.cells #[.bool false,.bool false,.bool false,.bool false,.bool false,.bool false,.bool false,.bool false,.bool false,.bool false,.bool false,.bool false,.bool false,.bool false,.bool false,.bool false,.bool false,.bool false,.bool false,.bool false,.bool false,.bool false,.bool false,.bool false,.bool false,.bool false,.bool false,.bool false,.bool false,.bool false,.bool true,.bool false,.bool false,.bool false,.bool false,.bool false,.bool false,.bool false,.bool false,.bool false,.bool false,.bool false,.bool false,.bool false,.bool false,.bool false,.bool false,.bool false,.bool false,.bool false,.bool false,.bool false,.bool false,.bool false,.bool false] 4 (0,0))],1701,inN 50,[],1704⟩
theorem QrD:QbB QlN (QlN.drun YP Qdk Qb3 100000)=true:=by decide+kernel
end Go.Proofs.YtiabgkiccaodmaaGreat

namespace Go.Proofs.YtiabgkiccaodmaaGreat
open Go Go.CE Go.RowKit
noncomputable def Qkz:Orc:=Qee [Qmm,QlG,Qlr,Qlf,Qnn,Qnf,Qmj,QlN]
theorem Qma (B:Lo):Qiq YP B Qkz:=QaU QaY Qab (QaM _ _) QrY (QaU QaY Qab (QaM _ _) Qsp (QaU QaY Qab (QaM _ _) QqP (QaU QaY Qab (QaM _ _) Qq9 (QaU QaY Qab (QaM _ _) Qr7 (QaU QaY Qab (QaM _ _) Qrk (QaU QaY Qab (QaM _ _) Qr3 (QaU QaY Qab (QaM _ _) QrD (Qis _ _))))))))
def Qp0:Memo:=
 ⟨51,#[.agg #[.slice (some ⟨1283,0,none⟩) 2 1,.slice (some ⟨1284,0,none⟩) 2 2,inN 20,inN 30,.slice (some ⟨1288,0,none⟩) 3 3,inN 100],inN 55],[(1283,.cells #[inN 130,inN 70] 3 (0,0)),(1284,.cells #[inN 3,inN 4,inN 1,inN 2] 25 (0,0)),(1287,.cells #[inN 130,inN 130,inN 30,inN 30] 25 (0,0)),(1286,.cells #[inN 0,inN 0,inN 50,inN 60] 25 (0,0)),(1285,.cells #[inN 90,inN 100,inN 0,inN 0] 25 (0,0)),(1288,.cells #[.slice (some ⟨1285,0,none⟩) 2 2,inN 50,inN 70,.slice (some ⟨1286,0,none⟩) 2 2,inN 30,inN 40,.slice (some ⟨1287,0,none⟩) 2 2,inN 90,inN 100] 118 (0,0))],1289,.tuple #[.slice (some ⟨1762,0,none⟩) 2 1,inN 110,inN 0],[(1762,.cells #[inN 0,inN 1] 3 (0,0))],1763⟩
theorem QtC:QbB Qp0 (Qp0.run YP Qdk Qkz 100000)=true:=by decide+kernel
end Go.Proofs.YtiabgkiccaodmaaGreat

namespace Go.Proofs.YtiabgkiccaodmaaGreat
open Go Go.CE Go.RowKit
noncomputable def Q4y:Orc:=Qee [Q50,Qtm,Qtd,QsB,Qtl,Qpo,Qp0]
theorem Q0L (B:Lo):Qiq YP B Q4y:=Qfe QaY Qab (QaM _ _) Q4h (Qfe QaY Qab (QaM _ _) QvO (Qfe QaY Qab (QaM _ _) QvV (Qfe QaY Qab (QnE _) QvN (Qfe QaY Qab (Qn4 _) Qw3 (Qfe QaY Qab (QmZ _) QsO (Qfe QaY Qab (Qma _) QtC (Qis _ _)))))))
theorem QzE:Qqb (Qm5 YP Qdk Q4y 100000 17 #[] (Qfu 0 []) ([]:List (Array Value×TypeId)).length) (.bool true) []=true:=by decide+kernel
theorem Qwy (w:World):Calls YP 17 #[] w fun e w'=> e=.returned (.bool true)/\Below w.heap.size w w':=by
 have hc:=Qnk QaY Qab (at':=[]) (args':=#[]) QzE (w:=w) (I:=fun _=> True) (hI:=fun _ _ _ _=> trivial) (Q0L _) trivial rfl (fun i x a h=> by simp at h) ⟨rfl,fun i v v' h=> by simp at h⟩;intro cs;obtain ⟨e,w',fr,⟨v',n',H',μ',he,hp,hv,hb,hun,hbel⟩,h1,h2,h3⟩:=hc cs;exact ⟨e,w',fr,⟨by rw [he,Qje rfl hv],hbel⟩,h1,h2,h3⟩
theorem known:Qai YP J0 17 #[] (.bool true):=fun fm w args' _ _ ha=> by
 have e:args'=#[]:=by exact Array.eq_empty_of_size_eq_zero ha.1.symm
 subst e;exact (Qwy w).mono fun _ _ h=> ⟨_,h.1,h.2,.simple rfl⟩
end Go.Proofs.YtiabgkiccaodmaaGreat

namespace Go.Proofs.YtiabgkiccaodmaaGreat
open Go Go.CE Go.RowKit
set_option maxRecDepth 100000
end Go.Proofs.YtiabgkiccaodmaaGreat

namespace Go.Proofs.YtiabgkiccaodmaaGreat
open Go Go.CE Go.RowKit
def Qow:Sh:=shS [.int,.int]
def QnH:Sh:=shS [.slice .int,.int,.int,.slice Qow,Qow]
theorem Qi4 {cs:List Value} (h:Qow.ok cs):∃s:Span,cs=Qaz s:=by
 obtain ⟨_,_,rfl,⟨a,_,rfl⟩,_,_,rfl,⟨b,_,rfl⟩,rfl⟩:=h;exact ⟨⟨a,b⟩,rfl⟩
theorem Q2n {cs:List Value} (h:QnH.ok cs):∃p:Qac,cs=Qa2 p:=by
 obtain ⟨_,_,rfl,h1,_,_,rfl,⟨d,_,rfl⟩,_,_,rfl,⟨f,_,rfl⟩,_,_,rfl,h4,_,_,rfl,h5,rfl⟩:=h;obtain ⟨xs,rfl⟩:=Qgd (fun _=> Q0F) h1;obtain ⟨ss,rfl⟩:=Qgd (fun _=> Qi4) h4;obtain ⟨l,rfl⟩:=Qi4 h5;exact ⟨⟨xs,d,f,ss,l.lo,l.hi⟩,rfl⟩
theorem Q2S {v:Value} (h:QnH.arg v):∃p:Qac,v=.agg (Qa2 p).toArray:=by
 obtain ⟨cs,rfl,h⟩:=h;obtain ⟨p,rfl⟩:=Q2n h;exact ⟨p,rfl⟩
theorem Qni {v:Value} (h:Sh.arg .int v):∃z:Int,v=.int .i64 z:=by
 obtain ⟨z,_,h⟩:=h;exact ⟨z,by simpa using h⟩
end Go.Proofs.YtiabgkiccaodmaaGreat

namespace Go.Proofs.YtiabgkiccaodmaaGreat
open Go Go.CE Go.RowKit
noncomputable section
set_option maxRecDepth 100000
structure Gd where
 stock:Int
 use:Int
 br:Int
 ships:List Bool
deriving Inhabited
def Qcy (g:Gd):List Value:=[.int .i64 g.stock,.int .i64 g.use,.int .i64 g.br,slB g.ships]
abbrev Qxu (use left:Int):Int:=left - if use < left then use else left
def Qbk (use br:Int):List Bool->Int->Int->Int
 | [],_,_=> -1
 | c::cs,day,left=> bif decide ((left+bif c then br else 0) < use) then day else Qbk use br cs (day+1) (Qxu use (left+bif c then br else 0))
def Qph (use br:Int):List Bool->Int->Int
 | [],left=> left
 | c::cs,left=> Qph use br cs (Qxu use (left+bif c then br else 0))
def gdB (g:Gd):Prop:=0<=g.stock/\g.stock<=1000000000/\0<=g.use/\g.use<=1000000000/\0<=g.br/\g.br<=1000000000/\g.ships.length<=1000
theorem QcY {use br:Int} {l:List Bool} {i left:Int} (h0:0<=i) (h:i < l.length):Qbk use br (l.drop i.toNat) i left=bif decide ((left+bif l.getD i.toNat default then br else 0) < use) then i else Qbk use br (l.drop (i+1).toNat) (i+1) (Qxu use (left+bif l.getD i.toNat default then br else 0)):=by
 obtain ⟨k,rfl⟩:∃k:Nat,i=k:=⟨i.toNat,by omega⟩
 have hk:k < l.length:=by omega
 have e1:((k:Int)).toNat=k:=by omega
 have e2:((k:Int)+1).toNat=k+1:=by omega
 rw [e1,e2,List.drop_eq_getElem_cons hk];simp [Qbk,List.getD_eq_getElem?_getD,hk]
theorem Qwt {use br:Int} {l:List Bool} {i left:Int} (h:l.length<=i):Qbk use br (l.drop i.toNat) i left= -1:=by
 rw [List.drop_eq_nil_of_le (by omega)];rfl
theorem QdA {use br:Int} {l:List Bool} {i left:Int} (h0:0<=i) (h:i < l.length):Qph use br (l.drop i.toNat) left=Qph use br (l.drop (i+1).toNat) (Qxu use (left+bif l.getD i.toNat default then br else 0)):=by
 obtain ⟨k,rfl⟩:∃k:Nat,i=k:=⟨i.toNat,by omega⟩
 have hk:k < l.length:=by omega
 have e1:((k:Int)).toNat=k:=by omega
 have e2:((k:Int)+1).toNat=k+1:=by omega
 rw [e1,e2,List.drop_eq_getElem_cons hk];simp [Qph,List.getD_eq_getElem?_getD,hk]
theorem Q0a {use br:Int} {l:List Bool} {i left:Int} (h:l.length<=i):Qph use br (l.drop i.toNat) left=left:=by
 rw [List.drop_eq_nil_of_le (by omega)];rfl
theorem Qrl {use br:Int}:∀(l:List Bool) (day left:Int),0<=day->Qbk use br l day left= -1\/0<=Qbk use br l day left
 | [],_,_,_=> .inl rfl
 | c::cs,day,left,h=> by
   simp only [Qbk];cases decide ((left+bif c then br else 0) < use) with
   | true=> exact .inr h
   | false=> exact Qrl cs _ _ (by omega)
def QaQ (g:Gd):Qar:=[(2,Obj.cells #[.int .i64 0] 3),(1,Obj.cells #[.int .i64 g.stock,.int .i64 g.use,.int .i64 g.br,Qat 0 (slT g.ships.length (Qad Qgw g.ships))] 129),(0,Obj.coro none)]
def QbO (g:Gd):CF:=⟨126,ofList 38 [.agg #[.int .i64 g.stock,.int .i64 g.use,.int .i64 g.br,Qat 0 (slT g.ships.length (Qad Qgw g.ships))],Value.func (Fn.func 149) #[] #[]],[Item.code (Qaq YP 126)],[],.run,none⟩
def Qbr (g:Gd) (i left:Int):List Value:=[Value.func (Fn.func 149) #[] #[],pA 4 0,.int .i64 left,Qat 0 (slT g.ships.length (Qad Qgw g.ships)),.int .i64 (↑g.ships.length:Int),.int .i64 i]
def Qbo (g:Gd) (i left:Int):List Obj:=[]
def QaK (g:Gd) (i left:Int):List Obj:=[Obj.cells #[.int .i64 g.stock,.int .i64 g.use,.int .i64 g.br,Qat 0 (slT g.ships.length (Qad Qgw g.ships))] 129]
def Qbp:List Item:=([.code [1,1,0,1,0,0],.inLoop [1,1,0,1,0,0],.inBlock 0,.code [1,1,1]]).map (it (Qaq YP 126))
def QgV (B:Lo) (g:Gd) (i left:Int) (dJ0:Nat->Value):List Prop:=[ltq i (↑g.ships.length:Int)=true]++([]:List Prop)
def Qki (g:Gd) (i left:Int) (dJ0:Nat->Value):Qan:=[(0,hvT)]
def Qhi (B:Lo) (g:Gd) (i left:Int) (dJ0:Nat->Value):List Prop:=[wq (left+g.br)=left+g.br,i=(↑i.toNat:Int)/\Int.toNat i < List.length g.ships/\Array.extract (Qad Qgw g.ships) (Int.toNat i * TypeInfo.size Tryz.t4) (Int.toNat i * TypeInfo.size Tryz.t4+TypeInfo.size Tryz.t4)=#[.bool true]]++QgV B g i left dJ0
def Qk0 (g:Gd) (i left:Int) (dJ0:Nat->Value):Qan:=Qki g i left dJ0++[(2,Qaf.tidx i.toNat #[.bool true]),(10,hvI (left+g.br))]
def Qe6 (g:Gd) (i left:Int) (dJ0:Nat->Value):Qar:=[(3,Obj.coro none),(4,Obj.cells #[.int .i64 g.stock,.int .i64 g.use,.int .i64 g.br,Qat 0 (slT g.ships.length (Qad Qgw g.ships))] 129),(2,Obj.cells #[.int .i64 0] 3),(1,Obj.cells #[.int .i64 g.stock,.int .i64 g.use,.int .i64 g.br,Qat 0 (slT g.ships.length (Qad Qgw g.ships))] 129),(0,Obj.coro none)]
def Qfz (g:Gd) (i left:Int) (dJ0:Nat->Value):CF:=⟨149,ofList 4 [.int .i64 i],[Item.code (Qaq YP 149)],[],.run,none⟩
theorem Qrw (B:Lo) (g:Gd) (i left:Int) (dJ0:Nat->Value):CE.finK 5 (Qah YP (Qau YP) J0 B 2 5 (Qfz g i left dJ0) (Qe6 g i left dJ0) 5
 [] 0 [] []) [] [] []=some (OO.pan (Value.iface 183 (.int .i64 i)),[],[],
 []):=by kernel_rfl
theorem Qqn (B:Lo) (g:Gd) (i left:Int) (dJ0:Nat->Value):CE.finK 3 (Qah YP (Qau YP) J0 B 20 3 (Qc6 (none) 126 38 (([1,2,5,11,12,13]:List Nat).zip (Qbr g i left)) dJ0 Qbp) (QbM (QaQ g) 3 (([]:List Nat).zip (Qbo g i left)) (QaK g i left)) (3+1+(QaK g i left).length)
 (Qk0 g i left dJ0++[(15,hvT),(18,Qaf.call (List.range 5) (OO.pan (Value.iface 183 (.int .i64 i))) ([]++(5,Qbc)::QaA 6 []) 6 [])]) 0 [] []) [] [] []=some (OO.pan (Value.iface 183 (.int .i64 i)),[],[],
 [FJ YP B (Qfz g i left dJ0) (Qe6 g i left dJ0) 5 (OO.pan (Value.iface 183 (.int .i64 i))) (([]++((5,Qbc)::QaA (5+1) []))++Qe6 g i left dJ0) 6 (List.range 5) [],ltq (left+g.br) g.use=true]++Qhi B g i left dJ0):=by kernel_rfl
theorem Qrh (B:Lo) (g:Gd) (i left:Int) (dJ0:Nat->Value):CE.landA 3 (Qah YP (Qau YP) J0 B 23 3 (Qc6 (none) 126 38 (([1,2,5,11,12,13]:List Nat).zip (Qbr g i left)) dJ0 Qbp) (QbM (QaQ g) 3 (([]:List Nat).zip (Qbo g i left)) (QaK g i left)) (3+1+(QaK g i left).length)
 (Qk0 g i left dJ0++[(15,hvF),(21,hvI (left+g.br - if g.use < left+g.br then g.use else left+g.br)),(23,hvI (i+1))]) 0 [] []) [1,2,5,11,12,13] [] [(4,KS.auto)] []=some ⟨126,38,Qbp,[],.run,none,Qbr g (i+1) (left+g.br - if g.use < left+g.br then g.use else left+g.br),([]:List Nat).zip (Qbo g (i+1) (left+g.br - if g.use < left+g.br then g.use else left+g.br)),QaK g (i+1) (left+g.br - if g.use < left+g.br then g.use else left+g.br),
 [wq (i+1)=i+1,wq (left+g.br - if g.use < left+g.br then g.use else left+g.br)=left+g.br - if g.use < left+g.br then g.use else left+g.br,ltq (left+g.br) g.use=false]++Qhi B g i left dJ0⟩:=by kernel_rfl
def Qhb (B:Lo) (g:Gd) (i left:Int) (dJ0:Nat->Value):List Prop:=[i=(↑i.toNat:Int)/\Int.toNat i < List.length g.ships/\Array.extract (Qad Qgw g.ships) (Int.toNat i * TypeInfo.size Tryz.t4) (Int.toNat i * TypeInfo.size Tryz.t4+TypeInfo.size Tryz.t4)=#[.bool false]]++QgV B g i left dJ0
def Qkr (g:Gd) (i left:Int) (dJ0:Nat->Value):Qan:=Qki g i left dJ0++[(2,Qaf.tidx i.toNat #[.bool false])]
def QeF (g:Gd) (i left:Int) (dJ0:Nat->Value):Qar:=[(3,Obj.coro none),(4,Obj.cells #[.int .i64 g.stock,.int .i64 g.use,.int .i64 g.br,Qat 0 (slT g.ships.length (Qad Qgw g.ships))] 129),(2,Obj.cells #[.int .i64 0] 3),(1,Obj.cells #[.int .i64 g.stock,.int .i64 g.use,.int .i64 g.br,Qat 0 (slT g.ships.length (Qad Qgw g.ships))] 129),(0,Obj.coro none)]
def Qfq (g:Gd) (i left:Int) (dJ0:Nat->Value):CF:=⟨149,ofList 4 [.int .i64 i],[Item.code (Qaq YP 149)],[],.run,none⟩
theorem QpP (B:Lo) (g:Gd) (i left:Int) (dJ0:Nat->Value):CE.finK 5 (Qah YP (Qau YP) J0 B 2 5 (Qfq g i left dJ0) (QeF g i left dJ0) 5
 [] 0 [] []) [] [] []=some (OO.pan (Value.iface 183 (.int .i64 i)),[],[],
 []):=by kernel_rfl
theorem QqB (B:Lo) (g:Gd) (i left:Int) (dJ0:Nat->Value):CE.finK 3 (Qah YP (Qau YP) J0 B 20 3 (Qc6 (none) 126 38 (([1,2,5,11,12,13]:List Nat).zip (Qbr g i left)) dJ0 Qbp) (QbM (QaQ g) 3 (([]:List Nat).zip (Qbo g i left)) (QaK g i left)) (3+1+(QaK g i left).length)
 (Qkr g i left dJ0++[(10,hvT),(13,Qaf.call (List.range 5) (OO.pan (Value.iface 183 (.int .i64 i))) ([]++(5,Qbc)::QaA 6 []) 6 [])]) 0 [] []) [] [] []=some (OO.pan (Value.iface 183 (.int .i64 i)),[],[],
 [FJ YP B (Qfq g i left dJ0) (QeF g i left dJ0) 5 (OO.pan (Value.iface 183 (.int .i64 i))) (([]++((5,Qbc)::QaA (5+1) []))++QeF g i left dJ0) 6 (List.range 5) [],ltq left g.use=true]++Qhb B g i left dJ0):=by kernel_rfl
theorem Qsd (B:Lo) (g:Gd) (i left:Int) (dJ0:Nat->Value):CE.landA 3 (Qah YP (Qau YP) J0 B 23 3 (Qc6 (none) 126 38 (([1,2,5,11,12,13]:List Nat).zip (Qbr g i left)) dJ0 Qbp) (QbM (QaQ g) 3 (([]:List Nat).zip (Qbo g i left)) (QaK g i left)) (3+1+(QaK g i left).length)
 (Qkr g i left dJ0++[(10,hvF),(16,hvI (left - if g.use < left then g.use else left)),(18,hvI (i+1))]) 0 [] []) [1,2,5,11,12,13] [] [(4,KS.auto)] []=some ⟨126,38,Qbp,[],.run,none,Qbr g (i+1) (left - if g.use < left then g.use else left),([]:List Nat).zip (Qbo g (i+1) (left - if g.use < left then g.use else left)),QaK g (i+1) (left - if g.use < left then g.use else left),
 [wq (i+1)=i+1,wq (left - if g.use < left then g.use else left)=left - if g.use < left then g.use else left,ltq left g.use=false]++Qhb B g i left dJ0⟩:=by kernel_rfl
theorem Qq2 (B:Lo) (g:Gd) (i left:Int) (dJ0:Nat->Value):CE.finK 3 (Qah YP (Qau YP) J0 B 9 3 (Qc6 (none) 126 38 (([1,2,5,11,12,13]:List Nat).zip (Qbr g i left)) dJ0 Qbp) (QbM (QaQ g) 3 (([]:List Nat).zip (Qbo g i left)) (QaK g i left)) (3+1+(QaK g i left).length)
 [(0,hvF)] 0 [] []) [] [] []=some (OO.ret (.int .i64 left),[],[],
 [ltq i (↑g.ships.length:Int)=false]):=by kernel_rfl
set_option maxHeartbeats 4000000 in
theorem QgZ (g:Gd) (hg:gdB g) {B:Lo} (hJ:∀w,B.has w->J0 w):∀m:Nat,(∀(i left:Int),∀(r:Bool),(decide (0<=Qbk g.use g.br (g.ships.drop i.toNat) i left))=r->(g.ships.length - i.toNat)=m->∀(h0:0<=i) (h1:0<=left) (h2:left<=1000000000 * (i+1)),(∃dJ0:Nat->Value,(∀t,Qbg (dJ0 t))/\GoE YP B (QbO g) (QaQ g) 3 (Qc6 (none) 126 38 (([1,2,5,11,12,13]:List Nat).zip (Qbr g i left)) dJ0 Qbp) (QbM (QaQ g) 3 (([]:List Nat).zip (Qbo g i left)) (QaK g i left)) (3+1+(QaK g i left).length) ([]:List Nat))->FinK YP B (QbO g) (QaQ g) 3 (bif r then .pan (.iface 183 (.int .i64 (Qbk g.use g.br (g.ships.drop i.toNat) i left))) else .ret (.int .i64 (Qph g.use g.br (g.ships.drop i.toNat) left))) (([]:List Nat).zip ([])) ([]) ([]:List Nat)):=by
 intro m0;induction m0 using Nat.strongRecOn with
 | _ m0 ih0=>
   intro i left r1 hr1 hm0 h0 h1 h2 ⟨dJ0,hdJ0,hg0⟩;by_cases q0:(i:Int) < ((↑g.ships.length:Int))
   ·have hp0:Qas (QgV B g i left dJ0):=by
     exact ⟨(Qbq q0),trivial⟩
    cases q1:g.ships.getD i.toNat default with
    | true=>
      have hp1:Qas (Qhi B g i left dJ0):=by
       unfold gdB at hg;have s1:=QcY (use:=g.use) (br:=g.br) (l:=g.ships) (left:=left) h0 q0;have s2:=QdA (use:=g.use) (br:=g.br) (l:=g.ships) (left:=left) h0 q0;simp only [q1,cond_true,cond_false,Int.add_zero] at s1 s2;exact ⟨(QaR (by omega) (by omega)),⟨⟨by first | omega | (split <;> omega),by first | omega | (split <;> omega),((Qao (z:=1) (fun _=> rfl) (by omega))).trans (by simp_all [Qgw])⟩,hp0⟩⟩
      by_cases q2:(left+g.br:Int) < g.use
      ·have rj2:FJ YP B (Qfz g i left dJ0) (Qe6 g i left dJ0) 5 (OO.pan (Value.iface 183 (.int .i64 i))) (([]++((5,Qbc)::QaA (5+1) []))++Qe6 g i left dJ0) 6 (List.range 5) []:=by
        unfold gdB at hg;have s1:=QcY (use:=g.use) (br:=g.br) (l:=g.ships) (left:=left) h0 q0;have s2:=QdA (use:=g.use) (br:=g.br) (l:=g.ships) (left:=left) h0 q0;simp only [q1,cond_true,cond_false,Int.add_zero] at s1 s2;rw [decide_eq_true q2,cond_true] at s1;exact FinK.fjB (GoE.finK okF hJ Qab (Qaj (by kernel_rfl)) (Qag (by kernel_rfl)) ((GoE.refl (P:=YP) (B:=B) (c0:=Qfz g i left dJ0) (Qaj (by kernel_rfl))).widen (Wf:=((([]):List (Nat×KS)).map (·.1))) (by simp) (Qag (by kernel_rfl))) (Qrw B g i left dJ0)
         trivial) (ex:=[]) (by kernel_rfl) (QaX _)
       unfold gdB at hg;have s1:=QcY (use:=g.use) (br:=g.br) (l:=g.ships) (left:=left) h0 q0;have s2:=QdA (use:=g.use) (br:=g.br) (l:=g.ships) (left:=left) h0 q0;simp only [q1,cond_true,cond_false,Int.add_zero] at s1 s2;rw [decide_eq_true q2,cond_true] at s1;exact (GoE.finK okF hJ Qab (Qaj (by kernel_rfl)) (Qag (by kernel_rfl)) hg0 (Qqn B g i left dJ0)
        ⟨rj2,⟨(Qbq q2),hp1⟩⟩).cast (by (subst hr1;rw [s1];simp [h0];done)) (by rfl) (by rfl)
      ·unfold gdB at hg;have s1:=QcY (use:=g.use) (br:=g.br) (l:=g.ships) (left:=left) h0 q0;have s2:=QdA (use:=g.use) (br:=g.br) (l:=g.ships) (left:=left) h0 q0;simp only [q1,cond_true,cond_false,Int.add_zero] at s1 s2;rw [decide_eq_false q2,cond_false] at s1;exact ((ih0 _ (by omega)) (i+1) (left+g.br - if g.use < left+g.br then g.use else left+g.br) r1 (by rw [<-hr1,s1]) rfl (by omega) (by omega) (by omega)
        (GoE.landA okF hJ Qab (Qaj (by kernel_rfl)) (Qag (by kernel_rfl)) hg0 (Qrh B g i left dJ0)
        ⟨(QaR (by omega) (by omega)),⟨(QaR (by omega) (by omega)),⟨(Qbj (Int.not_lt.1 q2)),hp1⟩⟩⟩ (by kernel_rfl) (by kernel_rfl) (fun l hl=> by cases hl <;> decide))).cast (by (rw [s1,s2];done)) (by rfl) (by rfl)
    | false=>
      have hp2:Qas (Qhb B g i left dJ0):=by
       unfold gdB at hg;have s1:=QcY (use:=g.use) (br:=g.br) (l:=g.ships) (left:=left) h0 q0;have s2:=QdA (use:=g.use) (br:=g.br) (l:=g.ships) (left:=left) h0 q0;simp only [q1,cond_true,cond_false,Int.add_zero] at s1 s2;exact ⟨⟨by first | omega | (split <;> omega),by first | omega | (split <;> omega),((Qao (z:=1) (fun _=> rfl) (by omega))).trans (by simp_all [Qgw])⟩,hp0⟩
      by_cases q2:(left:Int) < g.use
      ·have rj2:FJ YP B (Qfq g i left dJ0) (QeF g i left dJ0) 5 (OO.pan (Value.iface 183 (.int .i64 i))) (([]++((5,Qbc)::QaA (5+1) []))++QeF g i left dJ0) 6 (List.range 5) []:=by
        unfold gdB at hg;have s1:=QcY (use:=g.use) (br:=g.br) (l:=g.ships) (left:=left) h0 q0;have s2:=QdA (use:=g.use) (br:=g.br) (l:=g.ships) (left:=left) h0 q0;simp only [q1,cond_true,cond_false,Int.add_zero] at s1 s2;rw [decide_eq_true q2,cond_true] at s1;exact FinK.fjB (GoE.finK okF hJ Qab (Qaj (by kernel_rfl)) (Qag (by kernel_rfl)) ((GoE.refl (P:=YP) (B:=B) (c0:=Qfq g i left dJ0) (Qaj (by kernel_rfl))).widen (Wf:=((([]):List (Nat×KS)).map (·.1))) (by simp) (Qag (by kernel_rfl))) (QpP B g i left dJ0)
         trivial) (ex:=[]) (by kernel_rfl) (QaX _)
       unfold gdB at hg;have s1:=QcY (use:=g.use) (br:=g.br) (l:=g.ships) (left:=left) h0 q0;have s2:=QdA (use:=g.use) (br:=g.br) (l:=g.ships) (left:=left) h0 q0;simp only [q1,cond_true,cond_false,Int.add_zero] at s1 s2;rw [decide_eq_true q2,cond_true] at s1;exact (GoE.finK okF hJ Qab (Qaj (by kernel_rfl)) (Qag (by kernel_rfl)) hg0 (QqB B g i left dJ0)
        ⟨rj2,⟨(Qbq q2),hp2⟩⟩).cast (by (subst hr1;rw [s1];simp [h0];done)) (by rfl) (by rfl)
      ·unfold gdB at hg;have s1:=QcY (use:=g.use) (br:=g.br) (l:=g.ships) (left:=left) h0 q0;have s2:=QdA (use:=g.use) (br:=g.br) (l:=g.ships) (left:=left) h0 q0;simp only [q1,cond_true,cond_false,Int.add_zero] at s1 s2;rw [decide_eq_false q2,cond_false] at s1;exact ((ih0 _ (by omega)) (i+1) (left - if g.use < left then g.use else left) r1 (by rw [<-hr1,s1]) rfl (by omega) (by omega) (by omega)
        (GoE.landA okF hJ Qab (Qaj (by kernel_rfl)) (Qag (by kernel_rfl)) hg0 (Qsd B g i left dJ0)
        ⟨(QaR (by omega) (by omega)),⟨(QaR (by omega) (by omega)),⟨(Qbj (Int.not_lt.1 q2)),hp2⟩⟩⟩ (by kernel_rfl) (by kernel_rfl) (fun l hl=> by cases hl <;> decide))).cast (by (rw [s1,s2];done)) (by rfl) (by rfl)
   ·unfold gdB at hg;have s1:=Qwt (use:=g.use) (br:=g.br) (l:=g.ships) (i:=i) (left:=left) (by omega);have s2:=Q0a (use:=g.use) (br:=g.br) (l:=g.ships) (i:=i) (left:=left) (by omega);exact (GoE.finK okF hJ Qab (Qaj (by kernel_rfl)) (Qag (by kernel_rfl)) hg0 (Qq2 B g i left dJ0)
     ⟨(Qbj (Int.not_lt.1 q0)),trivial⟩).cast (by (subst hr1;rw [s1,s2];rfl)) (by rfl) (by rfl)

theorem Qsx (B:Lo) (g:Gd):CE.landA 3 (Qah YP (Qau YP) J0 B 9 3 (QbO g) (QaQ g) 3
 [] 0 [] []) [1,2,5,11,12,13] [] [(3,KS.auto)] []=some ⟨126,38,Qbp,[],.run,none,Qbr g (0) g.stock,([]:List Nat).zip (Qbo g (0) g.stock),QaK g (0) g.stock,
 []⟩:=by kernel_rfl
def QbP (g:Gd):Qar:=[(2,Obj.cells #[.int .i64 0] 3),(1,Obj.cells #[.int .i64 g.stock,.int .i64 g.use,.int .i64 g.br,Qat 0 (slT g.ships.length (Qad Qgw g.ships))] 129),(0,Obj.coro none)]
def Qcx (g:Gd):CF:=⟨125,ofList 6 [.agg #[.int .i64 g.stock,.int .i64 g.use,.int .i64 g.br,Qat 0 (slT g.ships.length (Qad Qgw g.ships))],pA 1 0,pA 2 0,Value.func (Fn.func 148) #[] #[pA 2 0],.tuple #[],.tuple #[]],[Item.code (Code.seq (Code.region 2 #[{dst:=some 4,op:=Op.load 129 (Operand.tmp 1),type:=129,pos:= "goods.go:41",after:=#[],guard:=none},{dst:=some 5,op:=Op.call {callee:=Callee.value (Operand.func 126),args:=#[Operand.tmp 4,Operand.func 149],argTypes:=#[129,159]},type:=3,pos:= "goods.go:41",after:=#[{on:=0,ground:=Ground.data}],guard:=none}] false) (Code.seq (Code.region 3 #[{dst:=none,op:=Op.store 3 (Operand.tmp 2) (Operand.const (.int .i64 (-1))),type:=0,pos:= "goods.go:42",after:=#[],guard:=none}] false) Code.ret))],[],.run,none⟩
theorem QrH (B:Lo) (g:Gd):CE.landU 3 (Qah YP (Qau YP) J0 B 2 3 (Qcx g) (QbP g) 3
 [(1,Qaf.call (List.range 3) (OO.pan (Value.iface 183 (.int .i64 (Qbk g.use g.br (List.drop (Int.toNat 0) g.ships) 0 g.stock)))) ([]++(3,Qbc)::QaA 4 []) 4 [])] 0 [] []) [2] [] [] []=some (125,6,none,OO.pan (Value.iface 183 (.int .i64 (Qbk g.use g.br (List.drop (Int.toNat 0) g.ships) 0 g.stock))),[pA 2 0],[],[],
 [FJ YP B (QbO g) (QaQ g) 3 (OO.pan (Value.iface 183 (.int .i64 (Qbk g.use g.br (List.drop (Int.toNat 0) g.ships) 0 g.stock)))) (([]++((3,Qbc)::QaA (3+1) []))++QaQ g) 4 (List.range 3) []]):=by kernel_rfl
theorem Qsn (B:Lo) (g:Gd):QaF (Q0Y YP (Qau YP) J0 B 3 1 (Qae YP 125 6 (([.agg (Qcy g).toArray]).map (Qal 0 4))) H00 1
 (OO.pan (Value.iface 183 (.int .i64 (Qbk g.use g.br (List.drop (Int.toNat 0) g.ships) 0 g.stock)))) (([2]:List Nat).zip [pA 2 0]) ([]++(3,Qbc)::QaA 4 []) 4 [] (.int .i64 (Qbk g.use g.br (List.drop (Int.toNat 0) g.ships) 0 g.stock)) [2]) []=some (.int .i64 (Qbk g.use g.br (List.drop (Int.toNat 0) g.ships) 0 g.stock),
 [UJ YP B (Qcx g) (QbP g) 3 (OO.pan (Value.iface 183 (.int .i64 (Qbk g.use g.br (List.drop (Int.toNat 0) g.ships) 0 g.stock)))) (([2]:List Nat).zip [pA 2 0]) (([]++((3,Qbc)::QaA (3+1) []))++QbP g) 4 (List.range 3) [],∀d:Nat->Value,Q0m YP 125 ([(3,Obj.coro none),(2,Obj.cells #[.int .i64 (Qbk g.use g.br (List.drop (Int.toNat 0) g.ships) 0 g.stock)] 3),(1,Obj.cells #[.int .i64 g.stock,.int .i64 g.use,.int .i64 g.br,Qat 0 (slT g.ships.length (Qad Qgw g.ships))] 129),(0,Obj.coro none)]) (mkT 6 (([2]:List Nat).zip [pA 2 0]) d)=some (.int .i64 (Qbk g.use g.br (List.drop (Int.toNat 0) g.ships) 0 g.stock),[2])]):=by kernel_rfl
theorem QoN (B:Lo) (g:Gd):CE.landA 3 (Qah YP (Qau YP) J0 B 9 3 (QbO g) (QaQ g) 3
 [] 0 [] []) [1,2,5,11,12,13] [] [(3,KS.auto)] []=some ⟨126,38,Qbp,[],.run,none,Qbr g (0) g.stock,([]:List Nat).zip (Qbo g (0) g.stock),QaK g (0) g.stock,
 []⟩:=by kernel_rfl
theorem QpB (B:Lo) (g:Gd):CE.landU 3 (Qah YP (Qau YP) J0 B 5 3 (Qcx g) (QbP g) 3
 [(1,Qaf.call (List.range 3) (OO.ret (.int .i64 (Qph g.use g.br (List.drop (Int.toNat 0) g.ships) g.stock))) ([]++(3,Qbc)::QaA 4 []) 4 [])] 0 [] []) [2] [(2,KS.auto)] [] []=some (125,6,none,OO.ret (.tuple #[]),[pA 2 0],[(2,Obj.cells #[.int .i64 (-1)] 3)],[],
 [FJ YP B (QbO g) (QaQ g) 3 (OO.ret (.int .i64 (Qph g.use g.br (List.drop (Int.toNat 0) g.ships) g.stock))) (([]++((3,Qbc)::QaA (3+1) []))++QaQ g) 4 (List.range 3) []]):=by kernel_rfl
theorem Qpw (B:Lo) (g:Gd):QaF (Q0Y YP (Qau YP) J0 B 3 1 (Qae YP 125 6 (([.agg (Qcy g).toArray]).map (Qal 0 4))) H00 1
 (OO.ret (.tuple #[])) (([2]:List Nat).zip [pA 2 0]) ([(2,Obj.cells #[.int .i64 (-1)] 3)]++(3,Qbc)::QaA 4 []) 4 [2] (.int .i64 (-1)) [2]) []=some (.int .i64 (-1),
 [UJ YP B (Qcx g) (QbP g) 3 (OO.ret (.tuple #[])) (([2]:List Nat).zip [pA 2 0]) (([(2,Obj.cells #[.int .i64 (-1)] 3)]++((3,Qbc)::QaA (3+1) []))++QbP g) 4 (List.range 3) [2],∀d:Nat->Value,Q0m YP 125 ([(2,Obj.cells #[.int .i64 (-1)] 3),(3,Obj.coro none),(2,Obj.cells #[.int .i64 0] 3),(1,Obj.cells #[.int .i64 g.stock,.int .i64 g.use,.int .i64 g.br,Qat 0 (slT g.ships.length (Qad Qgw g.ships))] 129),(0,Obj.coro none)]) (mkT 6 (([2]:List Nat).zip [pA 2 0]) d)=some (.int .i64 (-1),[2])]):=by kernel_rfl
set_option maxHeartbeats 4000000 in
theorem QsX (g:Gd) (hg:gdB g) {B:Lo} (hJ:∀w,B.has w->J0 w):EndsT YP B (Qae YP 125 6 (([.agg (Qcy g).toArray]).map (Qal 0 4))) (.int .i64 (Qbk g.use g.br g.ships 0 g.stock)):=by
 cases q0:decide (0<=Qbk g.use g.br (List.drop (Int.toNat 0) g.ships) 0 g.stock) with
 | true=>
   have rj1:FJ YP B (QbO g) (QaQ g) 3 (OO.pan (Value.iface 183 (.int .i64 (Qbk g.use g.br (List.drop (Int.toNat 0) g.ships) 0 g.stock)))) (([]++((3,Qbc)::QaA (3+1) []))++QaQ g) 4 (List.range 3) []:=by
    unfold gdB at hg;exact FinK.fjB ((QgZ g hg hJ _) (0) g.stock true q0 rfl (by omega) (by omega) (by omega)
     (GoE.landA okF hJ Qab (Qaj (by kernel_rfl)) (Qag (by kernel_rfl)) ((GoE.refl (P:=YP) (B:=B) (c0:=QbO g) (Qaj (by kernel_rfl))).widen (Wf:=((([]):List (Nat×KS)).map (·.1))) (by simp) (Qag (by kernel_rfl))) (Qsx B g)
     trivial (by kernel_rfl) (by kernel_rfl) (fun l hl=> by cases hl <;> decide))) (ex:=[]) (by kernel_rfl) (QaX _)
   have rj0:UJ YP B (Qcx g) (QbP g) 3 (OO.pan (Value.iface 183 (.int .i64 (Qbk g.use g.br (List.drop (Int.toNat 0) g.ships) 0 g.stock)))) (([2]:List Nat).zip [pA 2 0]) (([]++((3,Qbc)::QaA (3+1) []))++QbP g) 4 (List.range 3) []:=by
    unfold gdB at hg;exact FinU.ujB (GoE.landU okF hJ Qab (Qaj (by kernel_rfl)) (Qag (by kernel_rfl)) ((GoE.refl (P:=YP) (B:=B) (c0:=Qcx g) (Qaj (by kernel_rfl))).widen (Wf:=((([]):List (Nat×KS)).map (·.1))) (by simp) (Qag (by kernel_rfl))) (QrH B g)
     (by exact ⟨rj1,trivial⟩) (by kernel_rfl) rfl) (ex:=[]) (by kernel_rfl) (QaX _)
   unfold gdB at hg;exact (GoE.endsD okF hJ Qab GoE.start (Qsn B g)
    (by exact ⟨rj0,⟨(fun d=> by kernel_rfl),trivial⟩⟩)).cast (by rfl)
 | false=>
   have rj1:FJ YP B (QbO g) (QaQ g) 3 (OO.ret (.int .i64 (Qph g.use g.br (List.drop (Int.toNat 0) g.ships) g.stock))) (([]++((3,Qbc)::QaA (3+1) []))++QaQ g) 4 (List.range 3) []:=by
    unfold gdB at hg;exact FinK.fjB ((QgZ g hg hJ _) (0) g.stock false q0 rfl (by omega) (by omega) (by omega)
     (GoE.landA okF hJ Qab (Qaj (by kernel_rfl)) (Qag (by kernel_rfl)) ((GoE.refl (P:=YP) (B:=B) (c0:=QbO g) (Qaj (by kernel_rfl))).widen (Wf:=((([]):List (Nat×KS)).map (·.1))) (by simp) (Qag (by kernel_rfl))) (QoN B g)
     trivial (by kernel_rfl) (by kernel_rfl) (fun l hl=> by cases hl <;> decide))) (ex:=[]) (by kernel_rfl) (QaX _)
   have rj0:UJ YP B (Qcx g) (QbP g) 3 (OO.ret (.tuple #[])) (([2]:List Nat).zip [pA 2 0]) (([(2,Obj.cells #[.int .i64 (-1)] 3)]++((3,Qbc)::QaA (3+1) []))++QbP g) 4 (List.range 3) [2]:=by
    unfold gdB at hg;exact FinU.ujB (GoE.landU okF hJ Qab (Qaj (by kernel_rfl)) (Qag (by kernel_rfl)) ((GoE.refl (P:=YP) (B:=B) (c0:=Qcx g) (Qaj (by kernel_rfl))).widen (Wf:=((([(2,KS.auto)]):List (Nat×KS)).map (·.1))) (by simp) (Qag (by kernel_rfl))) (QpB B g)
     (by exact ⟨rj1,trivial⟩) (by kernel_rfl) rfl) (ex:=[]) (by kernel_rfl) (QaX _)
   unfold gdB at hg;exact (GoE.endsD okF hJ Qab GoE.start (Qpw B g)
    (by exact ⟨rj0,⟨(fun d=> by kernel_rfl),trivial⟩⟩)).cast (by (rcases Qrl (use:=g.use) (br:=g.br) g.ships 0 g.stock (by omega) with h | h <;> simp_all;done))
theorem Qye (g:Gd) (hg:gdB g):Qai YP J0 125 #[.agg (Qcy g).toArray] (.int .i64 (Qbk g.use g.br g.ships 0 g.stock)):=
 Qa5 (ts:=[.agg (Qcy g).toArray]) Qbn (c0:=Qae YP 125 6 (([.agg (Qcy g).toArray]).map (Qal 0 4))) (by kernel_rfl) (by kernel_rfl) fun B hJ=> QsX g hg hJ

end
end Go.Proofs.YtiabgkiccaodmaaGreat

