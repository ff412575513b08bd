/- Reef: small functions, of the program and the reference. -/
import Derived.Test.YtncjjangllkokaaZRL10
set_option linter.all false
namespace Go.Proofs.Ytncjjangllkokaa
open Go Go.CE Go.RowKit
noncomputable section
set_option maxRecDepth 100000
def inB (x lo hi:Int):Bool:=decide (lo<=x) && decide (x<=hi)
theorem QhJ {x lo hi:Int}:inB x lo hi=true<->lo<=x/\x<=hi:=by simp [inB]
structure Span where
 lo:Int
 hi:Int
deriving Inhabited
def QaR (s:Span):List Value:=[.int .i64 s.lo,.int .i64 s.hi]
abbrev QrD (xs:List Span):Value:=slT xs.length (Qai QaR xs)
def Qd2 (a b lo hi:Int):Bool:=decide (lo<=a) && (decide (a<=b) && decide (b<=hi))
theorem Qzf {a b lo hi:Int}:Qd2 a b lo hi=true<->lo<=a/\a<=b/\b<=hi:=by simp [Qd2]
theorem Qdc {α:Type} [Inhabited α] {l:List α} {i:Int} {p:α->Bool} (h0:0<=i) (h:i < l.length):(l.drop i.toNat).all p=(p (l.getD i.toNat default) && (l.drop (i+1).toNat).all p):=by
 obtain ⟨k,rfl⟩:∃k:Nat,i=k:=⟨i.toNat,by omega⟩
 have hk:k < l.length:=by omega
 have e1:((k:Int)).toNat=k:=by omega
 have e2:((k:Int)+1).toNat=k+1:=by omega
 rw [e1,e2,List.drop_eq_getElem_cons hk,List.all_cons];simp [List.getD_eq_getElem?_getD,hk]
theorem Qhp {α:Type} {l:List α} {i:Int} {p:α->Bool} (h:l.length<=i):(l.drop i.toNat).all p=true:=by
 rw [List.drop_eq_nil_of_le (by omega)];rfl
theorem Qu7 {p:Int->Bool} {a b:Int} (h:(upI a b).all p=true) {k:Int} (h1:a<=k) (h2:k < b):p k=true:=by
 refine List.all_eq_true.1 h k ?_;unfold upI;exact List.mem_map.2 ⟨(k - a).toNat,List.mem_range.2 (by omega),by omega⟩
def Qjn {α β:Type} (f:α->β) (x0:β) (xs:List α) (i:Int):List β:=(xs.take i.toNat).map f++List.replicate (xs.length - i.toNat) x0
theorem Qtx {α β:Type} {f:α->β} {x0:β} {xs:List α}:List.replicate xs.length x0=Qjn f x0 xs 0:=by simp [Qjn]
theorem Qkp {α β:Type} {f:α->β} {x0:β} {xs:List α} {i:Int}:(Qjn f x0 xs i).length=xs.length:=by simp [Qjn];omega
theorem Qlo {α β:Type} [Inhabited α] {f:α->β} {x0:β} {xs:List α} {i:Int} (h0:0<=i) (h:i < xs.length):(Qjn f x0 xs i).set i.toNat (f (xs.getD i.toNat default))=Qjn f x0 xs (i+1):=by
 obtain ⟨k,rfl⟩:∃k:Nat,i=k:=⟨i.toNat,by omega⟩
 have hk:k < xs.length:=by omega
 have e1:((k:Int)).toNat=k:=by omega
 have e2:((k:Int)+1).toNat=k+1:=by omega
 unfold Qjn;rw [e1,e2];have hl:((xs.take k).map f).length=k:=by simp;omega
 rw [List.set_append_right _ _ (by omega),hl,Nat.sub_self];have er:xs.length - k=(xs.length - (k+1))+1:=by omega
 rw [er,List.replicate_succ,List.set_cons_zero];have et:xs.take (k+1)=xs.take k++[xs[k]]:=by rw [List.take_succ_eq_append_getElem hk]
 rw [et,List.map_append,List.append_assoc];simp [List.getD_eq_getElem?_getD,hk]
theorem QlI {α β:Type} {f:α->β} {x0:β} {xs:List α} {i:Int} (h:xs.length<=i):Qjn f x0 xs i=xs.map f:=by
 unfold Qjn;rw [List.take_of_length_le (by omega),show xs.length - i.toNat=0 by omega];simp
theorem QuW {β:Type} {e:β->List Value} {ys zs:List β} {n:Nat} (h:ys=zs) (hn:n=zs.length):slT n (Qai e ys)=slT zs.length (Qai e zs):=by subst h hn;rfl
def Q2Y:List Int->Int
 | []=> 0
 | x::l=> x+Q2Y l
def QzN (B:Lo) (x lo hi:Int):List Prop:=[(!ltq x lo)=true]++([]:List Prop)
def Q3f (x lo hi:Int):Qaw:=[(3,hvT)]
theorem Q5m (B:Lo) (x lo hi:Int):Qbi (Qap YP (QaF YP) J0 B 6 1 (Qaq YP 55 15 (([.int .i64 x,.int .i64 lo,.int .i64 hi]).map (Qa6 0 4))) H00 1
 (Q3f x lo hi++[(7,hvT)]) 0 [] []) []=some (.bool true,
 [(!ltq hi x)=true]++QzN B x lo hi):=by kernel_rfl
theorem Q5d (B:Lo) (x lo hi:Int):Qbi (Qap YP (QaF YP) J0 B 6 1 (Qaq YP 55 15 (([.int .i64 x,.int .i64 lo,.int .i64 hi]).map (Qa6 0 4))) H00 1
 (Q3f x lo hi++[(7,hvF)]) 0 [] []) []=some (.bool false,
 [(!ltq hi x)=false]++QzN B x lo hi):=by kernel_rfl
theorem Q5A (B:Lo) (x lo hi:Int):Qbi (Qap YP (QaF YP) J0 B 6 1 (Qaq YP 55 15 (([.int .i64 x,.int .i64 lo,.int .i64 hi]).map (Qa6 0 4))) H00 1
 [(3,hvF)] 0 [] []) []=some (.bool false,
 [(!ltq x lo)=false]):=by kernel_rfl
set_option maxHeartbeats 4000000 in
theorem Q5Y (x lo hi:Int)  {B:Lo} (hJ:∀w,B.has w->J0 w):EndsT YP B (Qaq YP 55 15 (([.int .i64 x,.int .i64 lo,.int .i64 hi]).map (Qa6 0 4))) (.bool (inB x lo hi)):=by
 by_cases q0:(lo:Int)<=(x)
 ·have hp0:QaA (QzN B x lo hi):=by
   exact ⟨(Qdg q0),trivial⟩
  by_cases q1:(x:Int)<=(hi)
  ·exact (GoE.endsT okF hJ Qac GoE.start (Q5m B x lo hi)
    ⟨(Qdg q1),hp0⟩).cast (by (simp [inB, *];done))
  ·exact (GoE.endsT okF hJ Qac GoE.start (Q5d B x lo hi)
    ⟨(Qeh (Int.not_le.1 q1)),hp0⟩).cast (by (simp [inB, *];done))
 ·exact (GoE.endsT okF hJ Qac GoE.start (Q5A B x lo hi)
   ⟨(Qeh (Int.not_le.1 q0)),trivial⟩).cast (by (simp [inB, *];done))
theorem rin (x lo hi:Int)  :Qa3 YP J0 55 #[.int .i64 x,.int .i64 lo,.int .i64 hi] (.bool (inB x lo hi)):=
 Qbr (ts:=[.int .i64 x,.int .i64 lo,.int .i64 hi]) Qco (c0:=Qaq YP 55 15 (([.int .i64 x,.int .i64 lo,.int .i64 hi]).map (Qa6 0 4))) (by kernel_rfl) (by kernel_rfl) fun B hJ=> Q5Y x lo hi  hJ
def Qpm (B:Lo) (a b most:Int):List Prop:=[(!ltq a 0)=true]++([]:List Prop)
def QvL (a b most:Int):Qaw:=[(4,hvT)]
def Qpx (B:Lo) (a b most:Int):List Prop:=[(!ltq b a)=true]++Qpm B a b most
def Qv1 (a b most:Int):Qaw:=QvL a b most++[(10,hvT)]
theorem Q27 (B:Lo) (a b most:Int):Qbi (Qap YP (QaF YP) J0 B 6 1 (Qaq YP 56 21 (([.agg #[.int .i64 a,.int .i64 b],.int .i64 most]).map (Qa6 0 4))) H00 1
 (Qv1 a b most++[(16,hvT)]) 0 [] []) []=some (.bool true,
 [(!ltq most b)=true]++Qpx B a b most):=by kernel_rfl
theorem Q1t (B:Lo) (a b most:Int):Qbi (Qap YP (QaF YP) J0 B 6 1 (Qaq YP 56 21 (([.agg #[.int .i64 a,.int .i64 b],.int .i64 most]).map (Qa6 0 4))) H00 1
 (Qv1 a b most++[(16,hvF)]) 0 [] []) []=some (.bool false,
 [(!ltq most b)=false]++Qpx B a b most):=by kernel_rfl
theorem Q2t (B:Lo) (a b most:Int):Qbi (Qap YP (QaF YP) J0 B 6 1 (Qaq YP 56 21 (([.agg #[.int .i64 a,.int .i64 b],.int .i64 most]).map (Qa6 0 4))) H00 1
 (QvL a b most++[(10,hvF)]) 0 [] []) []=some (.bool false,
 [(!ltq b a)=false]++Qpm B a b most):=by kernel_rfl
theorem Q1x (B:Lo) (a b most:Int):Qbi (Qap YP (QaF YP) J0 B 6 1 (Qaq YP 56 21 (([.agg #[.int .i64 a,.int .i64 b],.int .i64 most]).map (Qa6 0 4))) H00 1
 [(4,hvF)] 0 [] []) []=some (.bool false,
 [(!ltq a 0)=false]):=by kernel_rfl
set_option maxHeartbeats 4000000 in
theorem Q40 (a b most:Int)  {B:Lo} (hJ:∀w,B.has w->J0 w):EndsT YP B (Qaq YP 56 21 (([.agg #[.int .i64 a,.int .i64 b],.int .i64 most]).map (Qa6 0 4))) (.bool (Qd2 a b 0 most)):=by
 by_cases q0:(0:Int)<=(a)
 ·have hp0:QaA (Qpm B a b most):=by
   exact ⟨(Qdg q0),trivial⟩
  by_cases q1:(a:Int)<=(b)
  ·have hp1:QaA (Qpx B a b most):=by
    exact ⟨(Qdg q1),hp0⟩
   by_cases q2:(b:Int)<=(most)
   ·exact (GoE.endsT okF hJ Qac GoE.start (Q27 B a b most)
     ⟨(Qdg q2),hp1⟩).cast (by (simp [Qd2, *];done))
   ·exact (GoE.endsT okF hJ Qac GoE.start (Q1t B a b most)
     ⟨(Qeh (Int.not_le.1 q2)),hp1⟩).cast (by (simp [Qd2, *];done))
  ·exact (GoE.endsT okF hJ Qac GoE.start (Q2t B a b most)
    ⟨(Qeh (Int.not_le.1 q1)),hp0⟩).cast (by (simp [Qd2, *];done))
 ·exact (GoE.endsT okF hJ Qac GoE.start (Q1x B a b most)
   ⟨(Qeh (Int.not_le.1 q0)),trivial⟩).cast (by (simp [Qd2, *];done))
theorem QwX (a b most:Int)  :Qa3 YP J0 56 #[.agg #[.int .i64 a,.int .i64 b],.int .i64 most] (.bool (Qd2 a b 0 most)):=
 Qbr (ts:=[.agg #[.int .i64 a,.int .i64 b],.int .i64 most]) Qco (c0:=Qaq YP 56 21 (([.agg #[.int .i64 a,.int .i64 b],.int .i64 most]).map (Qa6 0 4))) (by kernel_rfl) (by kernel_rfl) fun B hJ=> Q40 a b most  hJ
def QyB (B:Lo) (n lo hi:Int):List Prop:=[(!ltq n lo)=true]++([]:List Prop)
def Q2U (n lo hi:Int):Qaw:=[(3,hvT)]
theorem Q50 (B:Lo) (n lo hi:Int):Qbi (Qap YP (QaF YP) J0 B 6 1 (Qaq YP 72 15 (([.int .i64 n,.int .i64 lo,.int .i64 hi]).map (Qa6 0 4))) H00 1
 (Q2U n lo hi++[(7,hvT)]) 0 [] []) []=some (.bool true,
 [(!ltq hi n)=true]++QyB B n lo hi):=by kernel_rfl
theorem Q54 (B:Lo) (n lo hi:Int):Qbi (Qap YP (QaF YP) J0 B 6 1 (Qaq YP 72 15 (([.int .i64 n,.int .i64 lo,.int .i64 hi]).map (Qa6 0 4))) H00 1
 (Q2U n lo hi++[(7,hvF)]) 0 [] []) []=some (.bool false,
 [(!ltq hi n)=false]++QyB B n lo hi):=by kernel_rfl
theorem Q4V (B:Lo) (n lo hi:Int):Qbi (Qap YP (QaF YP) J0 B 6 1 (Qaq YP 72 15 (([.int .i64 n,.int .i64 lo,.int .i64 hi]).map (Qa6 0 4))) H00 1
 [(3,hvF)] 0 [] []) []=some (.bool false,
 [(!ltq n lo)=false]):=by kernel_rfl
set_option maxHeartbeats 4000000 in
theorem Q6d (n lo hi:Int)  {B:Lo} (hJ:∀w,B.has w->J0 w):EndsT YP B (Qaq YP 72 15 (([.int .i64 n,.int .i64 lo,.int .i64 hi]).map (Qa6 0 4))) (.bool (inB n lo hi)):=by
 by_cases q0:(lo:Int)<=(n)
 ·have hp0:QaA (QyB B n lo hi):=by
   exact ⟨(Qdg q0),trivial⟩
  by_cases q1:(n:Int)<=(hi)
  ·exact (GoE.endsT okF hJ Qac GoE.start (Q50 B n lo hi)
    ⟨(Qdg q1),hp0⟩).cast (by (simp [inB, *];done))
  ·exact (GoE.endsT okF hJ Qac GoE.start (Q54 B n lo hi)
    ⟨(Qeh (Int.not_le.1 q1)),hp0⟩).cast (by (simp [inB, *];done))
 ·exact (GoE.endsT okF hJ Qac GoE.start (Q4V B n lo hi)
   ⟨(Qeh (Int.not_le.1 q0)),trivial⟩).cast (by (simp [inB, *];done))
theorem pIn (n lo hi:Int)  :Qa3 YP J0 72 #[.int .i64 n,.int .i64 lo,.int .i64 hi] (.bool (inB n lo hi)):=
 Qbr (ts:=[.int .i64 n,.int .i64 lo,.int .i64 hi]) Qco (c0:=Qaq YP 72 15 (([.int .i64 n,.int .i64 lo,.int .i64 hi]).map (Qa6 0 4))) (by kernel_rfl) (by kernel_rfl) fun B hJ=> Q6d n lo hi  hJ
def QeH (xs:List Int) (lo hi:Int) (i:Int):List Value:=[.int .i64 lo,.int .i64 hi,Qa1 1 (slT xs.length (Qai QaZ xs)),.int .i64 (↑xs.length:Int),.int .i64 i]
def QcD (xs:List Int) (lo hi:Int) (i:Int):List Obj:=[]
def Qe7:List Item:=([.code [1,0,1,0,0],.inLoop [1,0,1,0,0],.inBlock 0,.code [1,1]]).map (it (QaU YP 74))
def Q0i (B:Lo) (c0:CF) (xs:List Int) (lo hi:Int) (i:Int):Prop:=∃dJ:Nat->Value,(∀t,QbB (dJ t))/\GoE YP B c0 H00 1 (QaL 74 21 (([1,2,9,10,11]:List Nat).zip (QeH xs lo hi i)) dJ Qe7) (QaG (QcD xs lo hi i)) (2+(QcD xs lo hi i).length) []
def Qk2 (B:Lo) (xs:List Int) (lo hi:Int) (i:Int) (dJ0:Nat->Value):List Prop:=[i=(↑i.toNat:Int)/\Int.toNat i < List.length xs/\Array.extract (Qai QaZ xs) (Int.toNat i * TypeInfo.size Try.t3) (Int.toNat i * TypeInfo.size Try.t3+TypeInfo.size Try.t3)=#[.int .i64 (xs.getD i.toNat default)],ltq i (↑xs.length:Int)=true]++([]:List Prop)
def QqY (xs:List Int) (lo hi:Int) (i:Int) (dJ0:Nat->Value):Qaw:=[(0,hvT),(1,Qan.tidx i.toNat #[.int .i64 (xs.getD i.toNat default)])]
theorem Qzy (B:Lo) (xs:List Int) (lo hi:Int) (i:Int) (dJ0:Nat->Value):landM (Qap YP (QaF YP) J0 B 16 1 (QaL 74 21 (([1,2,9,10,11]:List Nat).zip (QeH xs lo hi i)) dJ0 Qe7) (QaG (QcD xs lo hi i)) (2+(QcD xs lo hi i).length)
 (QqY xs lo hi i dJ0++[(7,Qan.pure (.bool true) []),(9,hvI (i+1))]) 0 [] []) [1,2,9,10,11] [] []=some ⟨74,21,Qe7,[],.run,none,QeH xs lo hi (i+1),QcD xs lo hi (i+1),
 [wq (i+1)=i+1,QaA []/\Qa3 YP J0 72 #[.int .i64 (xs.getD i.toNat default),.int .i64 lo,.int .i64 hi] (.bool true)]++Qk2 B xs lo hi i dJ0⟩:=by kernel_rfl
theorem Q0q (B:Lo) (xs:List Int) (lo hi:Int) (i:Int) (dJ0:Nat->Value):Qbi (Qap YP (QaF YP) J0 B 16 1 (QaL 74 21 (([1,2,9,10,11]:List Nat).zip (QeH xs lo hi i)) dJ0 Qe7) (QaG (QcD xs lo hi i)) (2+(QcD xs lo hi i).length)
 (QqY xs lo hi i dJ0++[(7,Qan.pure (.bool false) [])]) 0 [] []) []=some (.bool false,
 [QaA []/\Qa3 YP J0 72 #[.int .i64 (xs.getD i.toNat default),.int .i64 lo,.int .i64 hi] (.bool false)]++Qk2 B xs lo hi i dJ0):=by kernel_rfl
theorem QyY (B:Lo) (xs:List Int) (lo hi:Int) (i:Int) (dJ0:Nat->Value):Qbi (Qap YP (QaF YP) J0 B 9 1 (QaL 74 21 (([1,2,9,10,11]:List Nat).zip (QeH xs lo hi i)) dJ0 Qe7) (QaG (QcD xs lo hi i)) (2+(QcD xs lo hi i).length)
 [(0,hvF)] 0 [] []) []=some (.bool true,
 [ltq i (↑xs.length:Int)=false]):=by kernel_rfl
theorem QyC (B:Lo) (xs:List Int) (lo hi:Int):landM (Qap YP (QaF YP) J0 B 7 1 (Qaq YP 74 21 (([slI xs,.int .i64 lo,.int .i64 hi]).map (Qa6 0 4))) H00 1
 [] 0 [] []) [1,2,9,10,11] [] []=some ⟨74,21,Qe7,[],.run,none,QeH xs lo hi (0),QcD xs lo hi (0),
 []⟩:=by kernel_rfl
set_option maxHeartbeats 4000000 in
theorem Qzr (xs:List Int) (lo hi:Int)  (hfacts:xs.length<=9223372036854775807) {B:Lo} (hJ:∀w,B.has w->J0 w) {c0:CF}:∀m:Nat,(∀(i:Int),xs.length - i.toNat=m->∀(h0:0<=i),Q0i B c0 xs lo hi i->EndsT YP B c0 (.bool ((xs.drop i.toNat).all (fun x=> inB x lo hi)))):=by
 intro m0;induction m0 using Nat.strongRecOn with
 | _ m0 ih0=>
   intro i hm0 h0 ⟨dJ0,hdJ0,hg0⟩;by_cases q0:(i:Int) < ((↑xs.length:Int))
   ·have hp0:QaA (Qk2 B xs lo hi i dJ0):=by
     exact ⟨⟨by omega,by omega,(Qat (z:=1) (fun _=> rfl) (by omega))⟩,⟨(Qbw q0),trivial⟩⟩
    cases q1:inB (xs.getD i.toNat default) lo hi with
    | true=>
      exact ((ih0 _ (by omega)) (i+1) rfl (by omega)
       (hg0.landM okF hJ Qac (Qzy B xs lo hi i dJ0)
       ⟨(Qbj (by omega) (by omega)),⟨⟨trivial,(by have t_:=pIn (xs.getD i.toNat default) (lo) (hi);rw [q1] at t_;exact t_)⟩,hp0⟩⟩ (by kernel_rfl) (by kernel_rfl))).cast (by (rw [Qvr (i:=i)];(· simp_all);(· omega);(· omega)))
    | false=>
      exact (GoE.endsT okF hJ Qac hg0 (Q0q B xs lo hi i dJ0)
       ⟨⟨trivial,(by have t_:=pIn (xs.getD i.toNat default) (lo) (hi);rw [q1] at t_;exact t_)⟩,hp0⟩).cast (by (rw [Qvr (i:=i)];(· simp_all);(· omega);(· omega)))
   ·exact (GoE.endsT okF hJ Qac hg0 (QyY B xs lo hi i dJ0)
     ⟨(Qby (Int.not_lt.1 q0)),trivial⟩).cast (by (rw [Q22 (i:=i)];(· simp_all);(· omega)))
set_option maxHeartbeats 4000000 in
theorem Q2E (xs:List Int) (lo hi:Int)  (hfacts:xs.length<=9223372036854775807) {B:Lo} (hJ:∀w,B.has w->J0 w):EndsT YP B (Qaq YP 74 21 (([slI xs,.int .i64 lo,.int .i64 hi]).map (Qa6 0 4))) (.bool (xs.all (fun x=> inB x lo hi))):=by
 exact ((Qzr xs lo hi hfacts hJ _) (0) rfl (by omega)
  (GoE.start.landM okF hJ Qac (QyC B xs lo hi)
  trivial (by kernel_rfl) (by kernel_rfl))).cast (by rfl)
theorem Q2T (xs:List Int) (lo hi:Int)  :Qa3 YP J0 74 #[slI xs,.int .i64 lo,.int .i64 hi] (.bool (xs.all (fun x=> inB x lo hi))):=
 Qcy (ts:=[slI xs,.int .i64 lo,.int .i64 hi]) (xs.length<=9223372036854775807) (fun _ _ ht=> ht.ln (i:=0) rfl) Qco (c0:=Qaq YP 74 21 (([slI xs,.int .i64 lo,.int .i64 hi]).map (Qa6 0 4))) (by kernel_rfl) (by kernel_rfl) fun hfacts B hJ=> Q2E xs lo hi  hfacts hJ
theorem Qxx (B:Lo) (n a b:Int):Qbi (Qap YP (QaF YP) J0 B 6 1 (Qaq YP 101 11 (([.int .i64 n,.agg #[.int .i64 a,.int .i64 b]]).map (Qa6 0 4))) H00 1
 [(7,Qan.pure (.bool true) [])] 0 [] []) []=some (.bool true,
 [QaA []/\Qa3 YP J0 72 #[.int .i64 n,.int .i64 a,.int .i64 b] (.bool true)]):=by kernel_rfl
theorem QxT (B:Lo) (n a b:Int):Qbi (Qap YP (QaF YP) J0 B 6 1 (Qaq YP 101 11 (([.int .i64 n,.agg #[.int .i64 a,.int .i64 b]]).map (Qa6 0 4))) H00 1
 [(7,Qan.pure (.bool false) [])] 0 [] []) []=some (.bool false,
 [QaA []/\Qa3 YP J0 72 #[.int .i64 n,.int .i64 a,.int .i64 b] (.bool false)]):=by kernel_rfl
set_option maxHeartbeats 4000000 in
theorem QzS (n a b:Int)  {B:Lo} (hJ:∀w,B.has w->J0 w):EndsT YP B (Qaq YP 101 11 (([.int .i64 n,.agg #[.int .i64 a,.int .i64 b]]).map (Qa6 0 4))) (.bool (inB n a b)):=by
 cases q0:inB n a b with
 | true=>
   exact (GoE.endsT okF hJ Qac GoE.start (Qxx B n a b)
    ⟨⟨trivial,(by have t_:=pIn (n) (a) (b);rw [q0] at t_;exact t_)⟩,trivial⟩).cast (by rfl)
 | false=>
   exact (GoE.endsT okF hJ Qac GoE.start (QxT B n a b)
    ⟨⟨trivial,(by have t_:=pIn (n) (a) (b);rw [q0] at t_;exact t_)⟩,trivial⟩).cast (by rfl)
theorem Qz0 (n a b:Int)  :Qa3 YP J0 101 #[.int .i64 n,.agg #[.int .i64 a,.int .i64 b]] (.bool (inB n a b)):=
 Qbr (ts:=[.int .i64 n,.agg #[.int .i64 a,.int .i64 b]]) Qco (c0:=Qaq YP 101 11 (([.int .i64 n,.agg #[.int .i64 a,.int .i64 b]]).map (Qa6 0 4))) (by kernel_rfl) (by kernel_rfl) fun B hJ=> QzS n a b  hJ
def Qf5 (B:Lo) (a b lo hi:Int):List Prop:=[(!ltq a lo)=true]++([]:List Prop)
def Qiq (a b lo hi:Int):Qaw:=[(5,hvT)]
def QfE (B:Lo) (a b lo hi:Int):List Prop:=[(!ltq b a)=true]++Qf5 B a b lo hi
def Qji (a b lo hi:Int):Qaw:=Qiq a b lo hi++[(11,hvT)]
theorem Qrb (B:Lo) (a b lo hi:Int):Qbi (Qap YP (QaF YP) J0 B 6 1 (Qaq YP 114 24 (([.agg #[.int .i64 a,.int .i64 b],.int .i64 lo,.int .i64 hi]).map (Qa6 0 4))) H00 1
 (Qji a b lo hi++[(17,hvT)]) 0 [] []) []=some (.bool true,
 [(!ltq hi b)=true]++QfE B a b lo hi):=by kernel_rfl
theorem QqM (B:Lo) (a b lo hi:Int):Qbi (Qap YP (QaF YP) J0 B 6 1 (Qaq YP 114 24 (([.agg #[.int .i64 a,.int .i64 b],.int .i64 lo,.int .i64 hi]).map (Qa6 0 4))) H00 1
 (Qji a b lo hi++[(17,hvF)]) 0 [] []) []=some (.bool false,
 [(!ltq hi b)=false]++QfE B a b lo hi):=by kernel_rfl
theorem Qqr (B:Lo) (a b lo hi:Int):Qbi (Qap YP (QaF YP) J0 B 6 1 (Qaq YP 114 24 (([.agg #[.int .i64 a,.int .i64 b],.int .i64 lo,.int .i64 hi]).map (Qa6 0 4))) H00 1
 (Qiq a b lo hi++[(11,hvF)]) 0 [] []) []=some (.bool false,
 [(!ltq b a)=false]++Qf5 B a b lo hi):=by kernel_rfl
theorem Qqb (B:Lo) (a b lo hi:Int):Qbi (Qap YP (QaF YP) J0 B 6 1 (Qaq YP 114 24 (([.agg #[.int .i64 a,.int .i64 b],.int .i64 lo,.int .i64 hi]).map (Qa6 0 4))) H00 1
 [(5,hvF)] 0 [] []) []=some (.bool false,
 [(!ltq a lo)=false]):=by kernel_rfl
set_option maxHeartbeats 4000000 in
theorem Qvf (a b lo hi:Int)  {B:Lo} (hJ:∀w,B.has w->J0 w):EndsT YP B (Qaq YP 114 24 (([.agg #[.int .i64 a,.int .i64 b],.int .i64 lo,.int .i64 hi]).map (Qa6 0 4))) (.bool (Qd2 a b lo hi)):=by
 by_cases q0:(lo:Int)<=(a)
 ·have hp0:QaA (Qf5 B a b lo hi):=by
   exact ⟨(Qdg q0),trivial⟩
  by_cases q1:(a:Int)<=(b)
  ·have hp1:QaA (QfE B a b lo hi):=by
    exact ⟨(Qdg q1),hp0⟩
   by_cases q2:(b:Int)<=(hi)
   ·exact (GoE.endsT okF hJ Qac GoE.start (Qrb B a b lo hi)
     ⟨(Qdg q2),hp1⟩).cast (by (simp [Qd2, *];done))
   ·exact (GoE.endsT okF hJ Qac GoE.start (QqM B a b lo hi)
     ⟨(Qeh (Int.not_le.1 q2)),hp1⟩).cast (by (simp [Qd2, *];done))
  ·exact (GoE.endsT okF hJ Qac GoE.start (Qqr B a b lo hi)
    ⟨(Qeh (Int.not_le.1 q1)),hp0⟩).cast (by (simp [Qd2, *];done))
 ·exact (GoE.endsT okF hJ Qac GoE.start (Qqb B a b lo hi)
   ⟨(Qeh (Int.not_le.1 q0)),trivial⟩).cast (by (simp [Qd2, *];done))
theorem Qq1 (a b lo hi:Int)  :Qa3 YP J0 114 #[.agg #[.int .i64 a,.int .i64 b],.int .i64 lo,.int .i64 hi] (.bool (Qd2 a b lo hi)):=
 Qbr (ts:=[.agg #[.int .i64 a,.int .i64 b],.int .i64 lo,.int .i64 hi]) Qco (c0:=Qaq YP 114 24 (([.agg #[.int .i64 a,.int .i64 b],.int .i64 lo,.int .i64 hi]).map (Qa6 0 4))) (by kernel_rfl) (by kernel_rfl) fun B hJ=> Qvf a b lo hi  hJ
theorem Qxa (B:Lo) (a b most:Int):Qbi (Qap YP (QaF YP) J0 B 6 1 (Qaq YP 96 8 (([.agg #[.int .i64 a,.int .i64 b],.int .i64 most]).map (Qa6 0 4))) H00 1
 [(4,Qan.pure (.bool true) [])] 0 [] []) []=some (.bool true,
 [QaA []/\Qa3 YP J0 114 #[.agg #[.int .i64 a,.int .i64 b],.int .i64 0,.int .i64 most] (.bool true)]):=by kernel_rfl
theorem QxX (B:Lo) (a b most:Int):Qbi (Qap YP (QaF YP) J0 B 6 1 (Qaq YP 96 8 (([.agg #[.int .i64 a,.int .i64 b],.int .i64 most]).map (Qa6 0 4))) H00 1
 [(4,Qan.pure (.bool false) [])] 0 [] []) []=some (.bool false,
 [QaA []/\Qa3 YP J0 114 #[.agg #[.int .i64 a,.int .i64 b],.int .i64 0,.int .i64 most] (.bool false)]):=by kernel_rfl
set_option maxHeartbeats 4000000 in
theorem QzK (a b most:Int)  {B:Lo} (hJ:∀w,B.has w->J0 w):EndsT YP B (Qaq YP 96 8 (([.agg #[.int .i64 a,.int .i64 b],.int .i64 most]).map (Qa6 0 4))) (.bool (Qd2 a b 0 most)):=by
 cases q0:Qd2 a b 0 most with
 | true=>
   exact (GoE.endsT okF hJ Qac GoE.start (Qxa B a b most)
    ⟨⟨trivial,(by have t_:=Qq1 (a) (b) (0) (most);rw [q0] at t_;exact t_)⟩,trivial⟩).cast (by rfl)
 | false=>
   exact (GoE.endsT okF hJ Qac GoE.start (QxX B a b most)
    ⟨⟨trivial,(by have t_:=Qq1 (a) (b) (0) (most);rw [q0] at t_;exact t_)⟩,trivial⟩).cast (by rfl)
theorem QhK (a b most:Int)  :Qa3 YP J0 96 #[.agg #[.int .i64 a,.int .i64 b],.int .i64 most] (.bool (Qd2 a b 0 most)):=
 Qbr (ts:=[.agg #[.int .i64 a,.int .i64 b],.int .i64 most]) Qco (c0:=Qaq YP 96 8 (([.agg #[.int .i64 a,.int .i64 b],.int .i64 most]).map (Qa6 0 4))) (by kernel_rfl) (by kernel_rfl) fun B hJ=> QzK a b most  hJ
theorem Q1P (B:Lo) (a r:Int):Qbi (Qap YP (QaF YP) J0 B 6 1 (Qaq YP 115 9 (([.int .i64 a,.int .i64 r]).map (Qa6 0 4))) H00 1
 [(3,hvI (a * r)),(4,hvI (Int.tdiv (a * r) 1000))] 0 [] []) []=some (.int .i64 (Int.tdiv (a * r) 1000),
 [IntKind.wrap .i64 (Int.tdiv (a * r) 1000)=Int.tdiv (a * r) 1000,wq (a * r)=a * r]):=by kernel_rfl
set_option maxHeartbeats 4000000 in
theorem Q3X (a r:Int) (ha:0<=a/\a<=1000000000000) (hr:0<=r/\r<=1000000) {B:Lo} (hJ:∀w,B.has w->J0 w):EndsT YP B (Qaq YP 115 9 (([.int .i64 a,.int .i64 r]).map (Qa6 0 4))) (.int .i64 ((a * r).tdiv 1000)):=by
 have e0:0<=a * r:=Int.mul_nonneg ha.1 hr.1;have e1:a * r<=1000000000000 * 1000000:=Int.mul_le_mul ha.2 hr.2 hr.1 (by omega);have e2:(a * r).tdiv 1000=(a * r) / 1000:=Int.tdiv_eq_ediv_of_nonneg e0;exact (GoE.endsT okF hJ Qac GoE.start (Q1P B a r)
  ⟨(QkE (by omega) (by omega)),⟨(Qbj (by omega) (by omega)),trivial⟩⟩).cast (by rfl)
theorem Q37 (a r:Int) (ha:0<=a/\a<=1000000000000) (hr:0<=r/\r<=1000000):Qa3 YP J0 115 #[.int .i64 a,.int .i64 r] (.int .i64 ((a * r).tdiv 1000)):=
 Qbr (ts:=[.int .i64 a,.int .i64 r]) Qco (c0:=Qaq YP 115 9 (([.int .i64 a,.int .i64 r]).map (Qa6 0 4))) (by kernel_rfl) (by kernel_rfl) fun B hJ=> Q3X a r ha hr hJ
theorem Qot (B:Lo) (a r:Int):Qbi (Qap YP (QaF YP) J0 B 6 1 (Qaq YP 100 10 (([.int .i64 a,.int .i64 r]).map (Qa6 0 4))) H00 1
 [(4,Qan.pure (.int .i64 (Int.tdiv (a * r) 1000)) []),(5,hvI (a+Int.tdiv (a * r) 1000))] 0 [] []) []=some (.int .i64 (a+Int.tdiv (a * r) 1000),
 [wq (a+Int.tdiv (a * r) 1000)=a+Int.tdiv (a * r) 1000,QaA []/\Qa3 YP J0 115 #[.int .i64 a,.int .i64 r] (.int .i64 (Int.tdiv (a * r) 1000))]):=by kernel_rfl
set_option maxHeartbeats 4000000 in
theorem Qrg (a r:Int) (ha:0<=a/\a<=1000000000000) (hr:0<=r/\r<=1000000) {B:Lo} (hJ:∀w,B.has w->J0 w):EndsT YP B (Qaq YP 100 10 (([.int .i64 a,.int .i64 r]).map (Qa6 0 4))) (.int .i64 (a+(a * r).tdiv 1000)):=by
 have e0:0<=a * r:=Int.mul_nonneg ha.1 hr.1;have e1:a * r<=1000000000000 * 1000000:=Int.mul_le_mul ha.2 hr.2 hr.1 (by omega);have e2:(a * r).tdiv 1000=(a * r) / 1000:=Int.tdiv_eq_ediv_of_nonneg e0;exact (GoE.endsT okF hJ Qac GoE.start (Qot B a r)
  ⟨(Qbj (by omega) (by omega)),⟨⟨trivial,Q37 (a) (r) (by with_reducible assumption) (by with_reducible assumption)⟩,trivial⟩⟩).cast (by rfl)
theorem Qxs (a r:Int) (ha:0<=a/\a<=1000000000000) (hr:0<=r/\r<=1000000):Qa3 YP J0 100 #[.int .i64 a,.int .i64 r] (.int .i64 (a+(a * r).tdiv 1000)):=
 Qbr (ts:=[.int .i64 a,.int .i64 r]) Qco (c0:=Qaq YP 100 10 (([.int .i64 a,.int .i64 r]).map (Qa6 0 4))) (by kernel_rfl) (by kernel_rfl) fun B hJ=> Qrg a r ha hr hJ
theorem QuG (B:Lo) (n:Int):Qbi (Qap YP (QaF YP) J0 B 6 1 (Qaq YP 95 5 (([.int .i64 n]).map (Qa6 0 4))) H00 1
 [(2,Qan.pure (.bool true) [])] 0 [] []) []=some (.bool true,
 [QaA []/\Qa3 YP J0 72 #[.int .i64 n,.int .i64 0,.int .i64 1000000] (.bool true)]):=by kernel_rfl
theorem Qvg (B:Lo) (n:Int):Qbi (Qap YP (QaF YP) J0 B 6 1 (Qaq YP 95 5 (([.int .i64 n]).map (Qa6 0 4))) H00 1
 [(2,Qan.pure (.bool false) [])] 0 [] []) []=some (.bool false,
 [QaA []/\Qa3 YP J0 72 #[.int .i64 n,.int .i64 0,.int .i64 1000000] (.bool false)]):=by kernel_rfl
set_option maxHeartbeats 4000000 in
theorem Qw1 (n:Int)  {B:Lo} (hJ:∀w,B.has w->J0 w):EndsT YP B (Qaq YP 95 5 (([.int .i64 n]).map (Qa6 0 4))) (.bool (inB n 0 1000000)):=by
 cases q0:inB n 0 1000000 with
 | true=>
   exact (GoE.endsT okF hJ Qac GoE.start (QuG B n)
    ⟨⟨trivial,(by have t_:=pIn (n) (0) (1000000);rw [q0] at t_;exact t_)⟩,trivial⟩).cast (by rfl)
 | false=>
   exact (GoE.endsT okF hJ Qac GoE.start (Qvg B n)
    ⟨⟨trivial,(by have t_:=pIn (n) (0) (1000000);rw [q0] at t_;exact t_)⟩,trivial⟩).cast (by rfl)
theorem QfX (n:Int)  :Qa3 YP J0 95 #[.int .i64 n] (.bool (inB n 0 1000000)):=
 Qbr (ts:=[.int .i64 n]) Qco (c0:=Qaq YP 95 5 (([.int .i64 n]).map (Qa6 0 4))) (by kernel_rfl) (by kernel_rfl) fun B hJ=> Qw1 n  hJ
end
end Go.Proofs.Ytncjjangllkokaa

namespace Go.Proofs.Ytncjjangllkokaa
open Go Go.CE Go.RowKit
noncomputable section
set_option maxRecDepth 100000
structure Qaa where
 count:Int
 room:Int
 glo:Int
 ghi:Int
 drift:Int
 into:Int
 olo:Int
 ohi:Int
 slo:Int
 shi:Int
 goal:Int
 worth:Int
deriving Inhabited
structure Qae where
 places:List Qaa
 miss:Int
 seasons:Int
deriving Inhabited
structure Qag where
 starts:List Int
 grows:List (List Int)
 takes:List (List Int)
deriving Inhabited
def Qad (c:Qaa):List Value:=[.int .i64 c.count,.int .i64 c.room,.int .i64 c.glo,.int .i64 c.ghi,.int .i64 c.drift,.int .i64 c.into,.int .i64 c.olo,.int .i64 c.ohi,.int .i64 c.slo,.int .i64 c.shi,.int .i64 c.goal,.int .i64 c.worth]
abbrev slP (xs:List Qaa):Value:=slT xs.length (Qai Qad xs)
def Qar (r:Qae):List Value:=[slP r.places,.int .i64 r.miss,.int .i64 r.seasons]
def QbH (x:Qaa):Bool:=inB x.count 0 1000000 && (inB x.room 0 1000000 && (inB x.goal 0 1000000 && (inB x.worth 0 1000000 && (Qd2 x.glo x.ghi 0 2000 && (inB x.drift 0 1000 && (Qd2 x.olo x.ohi 0 1000000 && (Qd2 x.slo x.shi 0 1000000 && (decide (x.slo<=x.olo) && decide (x.shi<=x.ohi)))))))))
def Qhe (n v:Int):Bool:=decide (v= -1) || inB v 0 (n - 1)
theorem Q4k {n v:Int} (h:0<=n):inB v (-1) (n - 1)=Qhe n v:=by
 unfold Qhe inB;by_cases e:v= -1
 ·subst e;simp;omega
 ·simp [e];by_cases h1:0<=v
  ·simp [h1];omega
  ·have:¬(-1<=v):=by omega
   simp [this,h1]
def QbN (n i:Int) (x:Qaa):Bool:=QbH x && (Qhe n x.into && !decide (x.into=i))
def Qfe (ps:List Qaa) (i:Int):Bool:=(upI i ps.length).all fun k=> QbN ps.length k (ps.getD k.toNat default)
def QhL (r:Qae):Bool:=inB r.places.length 1 4 && (inB r.miss 0 2000 && inB r.seasons 1 4)
def Qav (r:Qae):Bool:=QhL r && Qfe r.places 0
def QaO (r:Qae) (plan:List Int):Bool:=decide (plan.length=r.seasons) && plan.all fun x=> inB x 0 (((Qew r.places.length:Nat):Int) - 1)
theorem QaM {ps:List Qaa} {i:Int} (h:i < ps.length):Qfe ps i=(QbN ps.length i (ps.getD i.toNat default) && Qfe ps (i+1)):=by
 unfold Qfe;rw [QoP h,List.all_cons]
theorem QcU {ps:List Qaa} {i:Int} (h:ps.length<=i):Qfe ps i=true:=by
 unfold Qfe;rw [QoC h];rfl
theorem QbW {x:Qaa} (h:QbH x=true):(0<=x.count/\x.count<=1000000)/\(0<=x.room/\x.room<=1000000)/\(0<=x.goal/\x.goal<=1000000)/\(0<=x.worth/\x.worth<=1000000)/\(0<=x.glo/\x.glo<=x.ghi/\x.ghi<=2000)/\(0<=x.drift/\x.drift<=1000)/\(0<=x.olo/\x.olo<=x.ohi/\x.ohi<=1000000)/\(0<=x.slo/\x.slo<=x.shi/\x.shi<=1000000)/\x.slo<=x.olo/\x.shi<=x.ohi:=by
 simp only [QbH,YB,QhJ,Qzf,decide_eq_true_iff] at h;omega
theorem Qau {r:Qae} (h:QhL r=true):(1<=r.places.length/\r.places.length<=4)/\(0<=r.miss/\r.miss<=2000)/\(1<=r.seasons/\r.seasons<=4):=by
 simp only [QhL,YB,QhJ] at h;omega
theorem Qal {r:Qae} (h:Qav r=true):QhL r=true/\∀k:Int,0<=k->k < r.places.length->QbH (r.places.getD k.toNat default)=true/\Qhe r.places.length (r.places.getD k.toNat default).into=true/\(r.places.getD k.toNat default).into≠k:=by
 simp only [Qav,YB] at h;refine ⟨h.1,fun k h0 h1=> ?_⟩;have:=Qu7 h.2 h0 h1;simp only [QbN,YB,Bool.not_eq_true',decide_eq_false_iff_not] at this;exact ⟨this.1,this.2.1,this.2.2⟩
def Qgr (B:Lo) (x:Qaa):List Prop:=[QaA []/\Qa3 YP J0 95 #[.int .i64 x.count] (.bool true)]++([]:List Prop)
def Qkf (x:Qaa):Qaw:=[(4,Qan.pure (.bool true) [])]
def QgN (B:Lo) (x:Qaa):List Prop:=[QaA []/\Qa3 YP J0 95 #[.int .i64 x.room] (.bool true)]++Qgr B x
def QkH (x:Qaa):Qaw:=Qkf x++[(8,Qan.pure (.bool true) [])]
def Qgx (B:Lo) (x:Qaa):List Prop:=[QaA []/\Qa3 YP J0 95 #[.int .i64 x.goal] (.bool true)]++QgN B x
def Qk3 (x:Qaa):Qaw:=QkH x++[(13,Qan.pure (.bool true) [])]
def Qgq (B:Lo) (x:Qaa):List Prop:=[QaA []/\Qa3 YP J0 72 #[.int .i64 x.worth,.int .i64 0,.int .i64 1000000] (.bool true)]++Qgx B x
def Ql2 (x:Qaa):Qaw:=Qk3 x++[(18,Qan.pure (.bool true) [])]
def Qgs (B:Lo) (x:Qaa):List Prop:=[QaA []/\Qa3 YP J0 96 #[.agg #[.int .i64 x.glo,.int .i64 x.ghi],.int .i64 2000] (.bool true)]++Qgq B x
def Qlg (x:Qaa):Qaw:=Ql2 x++[(23,Qan.pure (.bool true) [])]
def Qgu (B:Lo) (x:Qaa):List Prop:=[QaA []/\Qa3 YP J0 72 #[.int .i64 x.drift,.int .i64 0,.int .i64 1000] (.bool true)]++Qgs B x
def QjI (x:Qaa):Qaw:=Qlg x++[(28,Qan.pure (.bool true) [])]
def QgL (B:Lo) (x:Qaa):List Prop:=[QaA []/\Qa3 YP J0 96 #[.agg #[.int .i64 x.olo,.int .i64 x.ohi],.int .i64 1000000] (.bool true)]++Qgu B x
def QkN (x:Qaa):Qaw:=QjI x++[(33,Qan.pure (.bool true) [])]
def Qg1 (B:Lo) (x:Qaa):List Prop:=[QaA []/\Qa3 YP J0 96 #[.agg #[.int .i64 x.slo,.int .i64 x.shi],.int .i64 1000000] (.bool true)]++QgL B x
def QlB (x:Qaa):Qaw:=QkN x++[(38,Qan.pure (.bool true) [])]
def QgJ (B:Lo) (x:Qaa):List Prop:=[(!ltq x.olo x.slo)=true]++Qg1 B x
def QkI (x:Qaa):Qaw:=QlB x++[(47,hvT)]
theorem QuZ (B:Lo) (x:Qaa):Qbi (Qap YP (QaF YP) J0 B 6 1 (Qaq YP 73 59 (([.agg (Qad x).toArray]).map (Qa6 0 4))) H00 1
 (QkI x++[(56,hvT)]) 0 [] []) []=some (.bool true,
 [(!ltq x.ohi x.shi)=true]++QgJ B x):=by kernel_rfl
theorem QsJ (B:Lo) (x:Qaa):Qbi (Qap YP (QaF YP) J0 B 6 1 (Qaq YP 73 59 (([.agg (Qad x).toArray]).map (Qa6 0 4))) H00 1
 (QkI x++[(56,hvF)]) 0 [] []) []=some (.bool false,
 [(!ltq x.ohi x.shi)=false]++QgJ B x):=by kernel_rfl
theorem Qtf (B:Lo) (x:Qaa):Qbi (Qap YP (QaF YP) J0 B 6 1 (Qaq YP 73 59 (([.agg (Qad x).toArray]).map (Qa6 0 4))) H00 1
 (QlB x++[(47,hvF)]) 0 [] []) []=some (.bool false,
 [(!ltq x.olo x.slo)=false]++Qg1 B x):=by kernel_rfl
theorem QsX (B:Lo) (x:Qaa):Qbi (Qap YP (QaF YP) J0 B 6 1 (Qaq YP 73 59 (([.agg (Qad x).toArray]).map (Qa6 0 4))) H00 1
 (QkN x++[(38,Qan.pure (.bool false) [])]) 0 [] []) []=some (.bool false,
 [QaA []/\Qa3 YP J0 96 #[.agg #[.int .i64 x.slo,.int .i64 x.shi],.int .i64 1000000] (.bool false)]++QgL B x):=by kernel_rfl
theorem Qtg (B:Lo) (x:Qaa):Qbi (Qap YP (QaF YP) J0 B 6 1 (Qaq YP 73 59 (([.agg (Qad x).toArray]).map (Qa6 0 4))) H00 1
 (QjI x++[(33,Qan.pure (.bool false) [])]) 0 [] []) []=some (.bool false,
 [QaA []/\Qa3 YP J0 96 #[.agg #[.int .i64 x.olo,.int .i64 x.ohi],.int .i64 1000000] (.bool false)]++Qgu B x):=by kernel_rfl
theorem QtN (B:Lo) (x:Qaa):Qbi (Qap YP (QaF YP) J0 B 6 1 (Qaq YP 73 59 (([.agg (Qad x).toArray]).map (Qa6 0 4))) H00 1
 (Qlg x++[(28,Qan.pure (.bool false) [])]) 0 [] []) []=some (.bool false,
 [QaA []/\Qa3 YP J0 72 #[.int .i64 x.drift,.int .i64 0,.int .i64 1000] (.bool false)]++Qgs B x):=by kernel_rfl
theorem Qt6 (B:Lo) (x:Qaa):Qbi (Qap YP (QaF YP) J0 B 6 1 (Qaq YP 73 59 (([.agg (Qad x).toArray]).map (Qa6 0 4))) H00 1
 (Ql2 x++[(23,Qan.pure (.bool false) [])]) 0 [] []) []=some (.bool false,
 [QaA []/\Qa3 YP J0 96 #[.agg #[.int .i64 x.glo,.int .i64 x.ghi],.int .i64 2000] (.bool false)]++Qgq B x):=by kernel_rfl
theorem QuV (B:Lo) (x:Qaa):Qbi (Qap YP (QaF YP) J0 B 6 1 (Qaq YP 73 59 (([.agg (Qad x).toArray]).map (Qa6 0 4))) H00 1
 (Qk3 x++[(18,Qan.pure (.bool false) [])]) 0 [] []) []=some (.bool false,
 [QaA []/\Qa3 YP J0 72 #[.int .i64 x.worth,.int .i64 0,.int .i64 1000000] (.bool false)]++Qgx B x):=by kernel_rfl
theorem QsF (B:Lo) (x:Qaa):Qbi (Qap YP (QaF YP) J0 B 6 1 (Qaq YP 73 59 (([.agg (Qad x).toArray]).map (Qa6 0 4))) H00 1
 (QkH x++[(13,Qan.pure (.bool false) [])]) 0 [] []) []=some (.bool false,
 [QaA []/\Qa3 YP J0 95 #[.int .i64 x.goal] (.bool false)]++QgN B x):=by kernel_rfl
theorem QsN (B:Lo) (x:Qaa):Qbi (Qap YP (QaF YP) J0 B 6 1 (Qaq YP 73 59 (([.agg (Qad x).toArray]).map (Qa6 0 4))) H00 1
 (Qkf x++[(8,Qan.pure (.bool false) [])]) 0 [] []) []=some (.bool false,
 [QaA []/\Qa3 YP J0 95 #[.int .i64 x.room] (.bool false)]++Qgr B x):=by kernel_rfl
theorem Qqk (B:Lo) (x:Qaa):Qbi (Qap YP (QaF YP) J0 B 6 1 (Qaq YP 73 59 (([.agg (Qad x).toArray]).map (Qa6 0 4))) H00 1
 [(4,Qan.pure (.bool false) [])] 0 [] []) []=some (.bool false,
 [QaA []/\Qa3 YP J0 95 #[.int .i64 x.count] (.bool false)]):=by kernel_rfl
set_option maxHeartbeats 4000000 in
theorem Qx3 (x:Qaa)  {B:Lo} (hJ:∀w,B.has w->J0 w):EndsT YP B (Qaq YP 73 59 (([.agg (Qad x).toArray]).map (Qa6 0 4))) (.bool (QbH x)):=by
 cases q0:inB x.count 0 1000000 with
 | true=>
   have hp0:QaA (Qgr B x):=by
    exact ⟨⟨trivial,(by have t_:=QfX x.count;rw [q0] at t_;exact t_)⟩,trivial⟩
   cases q1:inB x.room 0 1000000 with
   | true=>
     have hp1:QaA (QgN B x):=by
      exact ⟨⟨trivial,(by have t_:=QfX x.room;rw [q1] at t_;exact t_)⟩,hp0⟩
     cases q2:inB x.goal 0 1000000 with
     | true=>
       have hp2:QaA (Qgx B x):=by
        exact ⟨⟨trivial,(by have t_:=QfX x.goal;rw [q2] at t_;exact t_)⟩,hp1⟩
       cases q3:inB x.worth 0 1000000 with
       | true=>
         have hp3:QaA (Qgq B x):=by
          exact ⟨⟨trivial,(by have t_:=pIn x.worth (0) (1000000);rw [q3] at t_;exact t_)⟩,hp2⟩
         cases q4:Qd2 x.glo x.ghi 0 2000 with
         | true=>
           have hp4:QaA (Qgs B x):=by
            exact ⟨⟨trivial,(by have t_:=QhK x.glo x.ghi (2000);rw [q4] at t_;exact t_)⟩,hp3⟩
           cases q5:inB x.drift 0 1000 with
           | true=>
             have hp5:QaA (Qgu B x):=by
              exact ⟨⟨trivial,(by have t_:=pIn x.drift (0) (1000);rw [q5] at t_;exact t_)⟩,hp4⟩
             cases q6:Qd2 x.olo x.ohi 0 1000000 with
             | true=>
               have hp6:QaA (QgL B x):=by
                exact ⟨⟨trivial,(by have t_:=QhK x.olo x.ohi (1000000);rw [q6] at t_;exact t_)⟩,hp5⟩
               cases q7:Qd2 x.slo x.shi 0 1000000 with
               | true=>
                 have hp7:QaA (Qg1 B x):=by
                  exact ⟨⟨trivial,(by have t_:=QhK x.slo x.shi (1000000);rw [q7] at t_;exact t_)⟩,hp6⟩
                 by_cases q8:(x.slo:Int)<=x.olo
                 ·have hp8:QaA (QgJ B x):=by
                   exact ⟨(Qdg q8),hp7⟩
                  by_cases q9:(x.shi:Int)<=x.ohi
                  ·exact (GoE.endsT okF hJ Qac GoE.start (QuZ B x)
                    ⟨(Qdg q9),hp8⟩).cast (by (simp [QbH, *];done))
                  ·exact (GoE.endsT okF hJ Qac GoE.start (QsJ B x)
                    ⟨(Qeh (Int.not_le.1 q9)),hp8⟩).cast (by (simp [QbH, *];done))
                 ·exact (GoE.endsT okF hJ Qac GoE.start (Qtf B x)
                   ⟨(Qeh (Int.not_le.1 q8)),hp7⟩).cast (by (simp [QbH, *];done))
               | false=>
                 exact (GoE.endsT okF hJ Qac GoE.start (QsX B x)
                  ⟨⟨trivial,(by have t_:=QhK x.slo x.shi (1000000);rw [q7] at t_;exact t_)⟩,hp6⟩).cast (by (simp [QbH, *];done))
             | false=>
               exact (GoE.endsT okF hJ Qac GoE.start (Qtg B x)
                ⟨⟨trivial,(by have t_:=QhK x.olo x.ohi (1000000);rw [q6] at t_;exact t_)⟩,hp5⟩).cast (by (simp [QbH, *];done))
           | false=>
             exact (GoE.endsT okF hJ Qac GoE.start (QtN B x)
              ⟨⟨trivial,(by have t_:=pIn x.drift (0) (1000);rw [q5] at t_;exact t_)⟩,hp4⟩).cast (by (simp [QbH, *];done))
         | false=>
           exact (GoE.endsT okF hJ Qac GoE.start (Qt6 B x)
            ⟨⟨trivial,(by have t_:=QhK x.glo x.ghi (2000);rw [q4] at t_;exact t_)⟩,hp3⟩).cast (by (simp [QbH, *];done))
       | false=>
         exact (GoE.endsT okF hJ Qac GoE.start (QuV B x)
          ⟨⟨trivial,(by have t_:=pIn x.worth (0) (1000000);rw [q3] at t_;exact t_)⟩,hp2⟩).cast (by (simp [QbH, *];done))
     | false=>
       exact (GoE.endsT okF hJ Qac GoE.start (QsF B x)
        ⟨⟨trivial,(by have t_:=QfX x.goal;rw [q2] at t_;exact t_)⟩,hp1⟩).cast (by (simp [QbH, *];done))
   | false=>
     exact (GoE.endsT okF hJ Qac GoE.start (QsN B x)
      ⟨⟨trivial,(by have t_:=QfX x.room;rw [q1] at t_;exact t_)⟩,hp0⟩).cast (by (simp [QbH, *];done))
 | false=>
   exact (GoE.endsT okF hJ Qac GoE.start (Qqk B x)
    ⟨⟨trivial,(by have t_:=QfX x.count;rw [q0] at t_;exact t_)⟩,trivial⟩).cast (by (simp [QbH, *];done))
theorem Qv8 (x:Qaa)  :Qa3 YP J0 73 #[.agg (Qad x).toArray] (.bool (QbH x)):=
 Qbr (ts:=[.agg (Qad x).toArray]) Qco (c0:=Qaq YP 73 59 (([.agg (Qad x).toArray]).map (Qa6 0 4))) (by kernel_rfl) (by kernel_rfl) fun B hJ=> Qx3 x  hJ
def Qft (B:Lo) (r:Qae) (k:Int):List Prop:=[wq ((↑r.places.length:Int) - 1)=(↑r.places.length:Int) - 1]++([]:List Prop)
def Qiu (r:Qae) (k:Int):Qaw:=[(6,hvI ((↑r.places.length:Int) - 1))]
theorem Qrf (B:Lo) (r:Qae) (k:Int):Qbi (Qap YP (QaF YP) J0 B 6 1 (Qaq YP 70 11 (([.agg (Qar r).toArray,.int .i64 k]).map (Qa6 0 4))) H00 1
 (Qiu r k++[(7,Qan.pure (.bool true) [])]) 0 [] []) []=some (.bool true,
 [QaA []/\Qa3 YP J0 72 #[.int .i64 k,.int .i64 0,.int .i64 ((↑r.places.length:Int) - 1)] (.bool true)]++Qft B r k):=by kernel_rfl
theorem Qrp (B:Lo) (r:Qae) (k:Int):Qbi (Qap YP (QaF YP) J0 B 6 1 (Qaq YP 70 11 (([.agg (Qar r).toArray,.int .i64 k]).map (Qa6 0 4))) H00 1
 (Qiu r k++[(7,Qan.pure (.bool false) [])]) 0 [] []) []=some (.bool false,
 [QaA []/\Qa3 YP J0 72 #[.int .i64 k,.int .i64 0,.int .i64 ((↑r.places.length:Int) - 1)] (.bool false)]++Qft B r k):=by kernel_rfl
set_option maxHeartbeats 4000000 in
theorem Qs0 (r:Qae) (k:Int)  (hfacts:r.places.length<=9223372036854775807) {B:Lo} (hJ:∀w,B.has w->J0 w):EndsT YP B (Qaq YP 70 11 (([.agg (Qar r).toArray,.int .i64 k]).map (Qa6 0 4))) (.bool (inB k 0 (r.places.length - 1))):=by
 have hp0:QaA (Qft B r k):=by
  exact ⟨(Qbj (by omega) (by omega)),trivial⟩
 cases q0:inB k 0 ((↑r.places.length:Int) - 1) with
 | true=>
   exact (GoE.endsT okF hJ Qac GoE.start (Qrf B r k)
    ⟨⟨trivial,(by have t_:=pIn (k) (0) ((↑r.places.length:Int) - 1);rw [q0] at t_;exact t_)⟩,hp0⟩).cast (by rfl)
 | false=>
   exact (GoE.endsT okF hJ Qac GoE.start (Qrp B r k)
    ⟨⟨trivial,(by have t_:=pIn (k) (0) ((↑r.places.length:Int) - 1);rw [q0] at t_;exact t_)⟩,hp0⟩).cast (by rfl)
theorem Qr2 (r:Qae) (k:Int)  :Qa3 YP J0 70 #[.agg (Qar r).toArray,.int .i64 k] (.bool (inB k 0 (r.places.length - 1))):=
 Qcy (ts:=[.agg (Qar r).toArray,.int .i64 k]) (r.places.length<=9223372036854775807) (fun _ _ ht=> ht.ln2 (i:=0) (j:=0) rfl rfl) Qco (c0:=Qaq YP 70 11 (([.agg (Qar r).toArray,.int .i64 k]).map (Qa6 0 4))) (by kernel_rfl) (by kernel_rfl) fun hfacts B hJ=> Qs0 r k  hfacts hJ
def QbY (r:Qae) (i:Int):List Value:=[pA 2 0,Qa1 1 (slT r.places.length (Qai Qad r.places)),.int .i64 (↑r.places.length:Int),.int .i64 i]
def Qbn (r:Qae) (i:Int):List Obj:=[Obj.cells #[Qa1 1 (slT r.places.length (Qai Qad r.places)),.int .i64 r.miss,.int .i64 r.seasons] 24]
def QbX:List Item:=([.code [1,1,0,1,0,0],.inLoop [1,1,0,1,0,0],.inBlock 0,.code [1,1,1]]).map (it (QaU YP 50))
def QwJ (B:Lo) (c0:CF) (r:Qae) (i:Int):Prop:=∃dJ:Nat->Value,(∀t,QbB (dJ t))/\GoE YP B c0 H00 1 (QaL 50 52 (([1,23,24,25]:List Nat).zip (QbY r i)) dJ QbX) (QaG (Qbn r i)) (2+(Qbn r i).length) []
def QfV (r:Qae) (i:Int):Array Value:=#[.int .i64 (Qaa.count (r.places.getD i.toNat default)),.int .i64 (Qaa.room (r.places.getD i.toNat default)),.int .i64 (Qaa.glo (r.places.getD i.toNat default)),.int .i64 (Qaa.ghi (r.places.getD i.toNat default)),.int .i64 (Qaa.drift (r.places.getD i.toNat default)),.int .i64 (Qaa.into (r.places.getD i.toNat default)),.int .i64 (Qaa.olo (r.places.getD i.toNat default)),.int .i64 (Qaa.ohi (r.places.getD i.toNat default)),.int .i64 (Qaa.slo (r.places.getD i.toNat default)),.int .i64 (Qaa.shi (r.places.getD i.toNat default)),.int .i64 (Qaa.goal (r.places.getD i.toNat default)),.int .i64 (Qaa.worth (r.places.getD i.toNat default))]
def QhY (B:Lo) (r:Qae) (i:Int) (dJ0:Nat->Value):List Prop:=[i=(↑i.toNat:Int)/\Int.toNat i < List.length r.places/\Array.extract (Qai Qad r.places) (Int.toNat i * TypeInfo.size Try.t54) (Int.toNat i * TypeInfo.size Try.t54+TypeInfo.size Try.t54)=(QfV r i),ltq i (↑r.places.length:Int)=true]++([]:List Prop)
def Qm7 (r:Qae) (i:Int) (dJ0:Nat->Value):Qaw:=[(0,hvT),(2,Qan.tidx i.toNat (QfV r i))]
def QhE (B:Lo) (r:Qae) (i:Int) (dJ0:Nat->Value):List Prop:=[QaA []/\Qa3 YP J0 73 #[.agg (QfV r i)] (.bool true)]++QhY B r i dJ0
def Qma (r:Qae) (i:Int) (dJ0:Nat->Value):Qaw:=Qm7 r i dJ0++[(8,Qan.pure (.bool true) [])]
def QhS (B:Lo) (r:Qae) (i:Int) (dJ0:Nat->Value):List Prop:=[(!eqq (Qaa.into (r.places.getD i.toNat default)) (-1))=true]++QhE B r i dJ0
def Qmc (r:Qae) (i:Int) (dJ0:Nat->Value):Qaw:=Qma r i dJ0++[(13,hvT)]
def Qic (B:Lo) (r:Qae) (i:Int) (dJ0:Nat->Value):List Prop:=[QaA []/\Qa3 YP J0 70 #[.agg #[slT r.places.length (Qai Qad r.places),.int .i64 r.miss,.int .i64 r.seasons],.int .i64 (Qaa.into (r.places.getD i.toNat default))] (.bool true)]++QhS B r i dJ0
def Qmn (r:Qae) (i:Int) (dJ0:Nat->Value):Qaw:=Qmc r i dJ0++[(18,Qan.pure (.bool true) [])]
theorem QwD (B:Lo) (r:Qae) (i:Int) (dJ0:Nat->Value):Qbi (Qap YP (QaF YP) J0 B 16 1 (QaL 50 52 (([1,23,24,25]:List Nat).zip (QbY r i)) dJ0 QbX) (QaG (Qbn r i)) (2+(Qbn r i).length)
 (Qmn r i dJ0++[(26,hvT)]) 0 [] []) []=some (.bool false,
 [eqq (Qaa.into (r.places.getD i.toNat default)) i=true]++Qic B r i dJ0):=by kernel_rfl
theorem Qxi (B:Lo) (r:Qae) (i:Int) (dJ0:Nat->Value):landM (Qap YP (QaF YP) J0 B 16 1 (QaL 50 52 (([1,23,24,25]:List Nat).zip (QbY r i)) dJ0 QbX) (QaG (Qbn r i)) (2+(Qbn r i).length)
 (Qmn r i dJ0++[(26,hvF),(28,hvI (i+1))]) 0 [] []) [1,23,24,25] [(2,KS.auto)] []=some ⟨50,52,QbX,[],.run,none,QbY r (i+1),Qbn r (i+1),
 [wq (i+1)=i+1,eqq (Qaa.into (r.places.getD i.toNat default)) i=false]++Qic B r i dJ0⟩:=by kernel_rfl
theorem QwV (B:Lo) (r:Qae) (i:Int) (dJ0:Nat->Value):Qbi (Qap YP (QaF YP) J0 B 16 1 (QaL 50 52 (([1,23,24,25]:List Nat).zip (QbY r i)) dJ0 QbX) (QaG (Qbn r i)) (2+(Qbn r i).length)
 (Qmc r i dJ0++[(18,Qan.pure (.bool false) [])]) 0 [] []) []=some (.bool false,
 [QaA []/\Qa3 YP J0 70 #[.agg #[slT r.places.length (Qai Qad r.places),.int .i64 r.miss,.int .i64 r.seasons],.int .i64 (Qaa.into (r.places.getD i.toNat default))] (.bool false)]++QhS B r i dJ0):=by kernel_rfl
def QhT (B:Lo) (r:Qae) (i:Int) (dJ0:Nat->Value):List Prop:=[(!eqq (Qaa.into (r.places.getD i.toNat default)) (-1))=false]++QhE B r i dJ0
def Qmo (r:Qae) (i:Int) (dJ0:Nat->Value):Qaw:=Qma r i dJ0++[(13,hvF)]
theorem QwI (B:Lo) (r:Qae) (i:Int) (dJ0:Nat->Value):Qbi (Qap YP (QaF YP) J0 B 16 1 (QaL 50 52 (([1,23,24,25]:List Nat).zip (QbY r i)) dJ0 QbX) (QaG (Qbn r i)) (2+(Qbn r i).length)
 (Qmo r i dJ0++[(26,hvT)]) 0 [] []) []=some (.bool false,
 [eqq (Qaa.into (r.places.getD i.toNat default)) i=true]++QhT B r i dJ0):=by kernel_rfl
theorem Qx1 (B:Lo) (r:Qae) (i:Int) (dJ0:Nat->Value):landM (Qap YP (QaF YP) J0 B 16 1 (QaL 50 52 (([1,23,24,25]:List Nat).zip (QbY r i)) dJ0 QbX) (QaG (Qbn r i)) (2+(Qbn r i).length)
 (Qmo r i dJ0++[(26,hvF),(28,hvI (i+1))]) 0 [] []) [1,23,24,25] [(2,KS.auto)] []=some ⟨50,52,QbX,[],.run,none,QbY r (i+1),Qbn r (i+1),
 [wq (i+1)=i+1,eqq (Qaa.into (r.places.getD i.toNat default)) i=false]++QhT B r i dJ0⟩:=by kernel_rfl
theorem Qxw (B:Lo) (r:Qae) (i:Int) (dJ0:Nat->Value):Qbi (Qap YP (QaF YP) J0 B 16 1 (QaL 50 52 (([1,23,24,25]:List Nat).zip (QbY r i)) dJ0 QbX) (QaG (Qbn r i)) (2+(Qbn r i).length)
 (Qm7 r i dJ0++[(8,Qan.pure (.bool false) [])]) 0 [] []) []=some (.bool false,
 [QaA []/\Qa3 YP J0 73 #[.agg (QfV r i)] (.bool false)]++QhY B r i dJ0):=by kernel_rfl
theorem QxN (B:Lo) (r:Qae) (i:Int) (dJ0:Nat->Value):Qbi (Qap YP (QaF YP) J0 B 9 1 (QaL 50 52 (([1,23,24,25]:List Nat).zip (QbY r i)) dJ0 QbX) (QaG (Qbn r i)) (2+(Qbn r i).length)
 [(0,hvF)] 0 [] []) []=some (.bool true,
 [ltq i (↑r.places.length:Int)=false]):=by kernel_rfl
def Qin (B:Lo) (r:Qae):List Prop:=[QaA []/\Qa3 YP J0 72 #[.int .i64 (↑r.places.length:Int),.int .i64 1,.int .i64 4] (.bool true)]++([]:List Prop)
def Qms (r:Qae):Qaw:=[(5,Qan.pure (.bool true) [])]
def QhN (B:Lo) (r:Qae):List Prop:=[QaA []/\Qa3 YP J0 72 #[.int .i64 r.miss,.int .i64 0,.int .i64 2000] (.bool true)]++Qin B r
def Qmi (r:Qae):Qaw:=Qms r++[(10,Qan.pure (.bool true) [])]
theorem Qxm (B:Lo) (r:Qae):landM (Qap YP (QaF YP) J0 B 12 1 (Qaq YP 50 52 (([.agg (Qar r).toArray]).map (Qa6 0 4))) H00 1
 (Qmi r++[(16,Qan.pure (.bool true) [])]) 0 [] []) [1,23,24,25] [(1,KS.auto)] []=some ⟨50,52,QbX,[],.run,none,QbY r (0),Qbn r (0),
 [QaA []/\Qa3 YP J0 72 #[.int .i64 r.seasons,.int .i64 1,.int .i64 4] (.bool true)]++QhN B r⟩:=by kernel_rfl
theorem QxF (B:Lo) (r:Qae):Qbi (Qap YP (QaF YP) J0 B 10 1 (Qaq YP 50 52 (([.agg (Qar r).toArray]).map (Qa6 0 4))) H00 1
 (Qmi r++[(16,Qan.pure (.bool false) [])]) 0 [] []) []=some (.bool false,
 [QaA []/\Qa3 YP J0 72 #[.int .i64 r.seasons,.int .i64 1,.int .i64 4] (.bool false)]++QhN B r):=by kernel_rfl
theorem QwZ (B:Lo) (r:Qae):Qbi (Qap YP (QaF YP) J0 B 10 1 (Qaq YP 50 52 (([.agg (Qar r).toArray]).map (Qa6 0 4))) H00 1
 (Qms r++[(10,Qan.pure (.bool false) [])]) 0 [] []) []=some (.bool false,
 [QaA []/\Qa3 YP J0 72 #[.int .i64 r.miss,.int .i64 0,.int .i64 2000] (.bool false)]++Qin B r):=by kernel_rfl
theorem Qsz (B:Lo) (r:Qae):Qbi (Qap YP (QaF YP) J0 B 10 1 (Qaq YP 50 52 (([.agg (Qar r).toArray]).map (Qa6 0 4))) H00 1
 [(5,Qan.pure (.bool false) [])] 0 [] []) []=some (.bool false,
 [QaA []/\Qa3 YP J0 72 #[.int .i64 (↑r.places.length:Int),.int .i64 1,.int .i64 4] (.bool false)]):=by kernel_rfl
set_option maxHeartbeats 4000000 in
theorem QwF (r:Qae)  (hfacts:r.places.length<=9223372036854775807) {B:Lo} (hJ:∀w,B.has w->J0 w) {c0:CF}:∀m:Nat,(∀(i:Int),r.places.length - i.toNat=m->∀(h0:0<=i),QwJ B c0 r i->EndsT YP B c0 (.bool (Qfe r.places i))):=by
 intro m0;induction m0 using Nat.strongRecOn with
 | _ m0 ih0=>
   intro i hm0 h0 ⟨dJ0,hdJ0,hg0⟩;by_cases q0:(i:Int) < ((↑r.places.length:Int))
   ·have hp0:QaA (QhY B r i dJ0):=by
     have s2:=QaM (ps:=r.places) q0;exact ⟨⟨by omega,by omega,(Qat (z:=12) (fun _=> rfl) (by omega))⟩,⟨(Qbw q0),trivial⟩⟩
    cases q1:QbH (r.places.getD i.toNat default) with
    | true=>
      have hp1:QaA (QhE B r i dJ0):=by
       have s2:=QaM (ps:=r.places) q0;exact ⟨⟨trivial,(by have t_:=Qv8 (r.places.getD i.toNat default);rw [q1] at t_;exact t_)⟩,hp0⟩
      by_cases q2:(Qaa.into (r.places.getD i.toNat default):Int)≠(-1)
      ·have hp2:QaA (QhS B r i dJ0):=by
        exact ⟨(Qej q2),hp1⟩
       cases q3:inB (Qaa.into (r.places.getD i.toNat default)) 0 ((↑r.places.length:Int) - 1) with
       | true=>
         have hp3:QaA (Qic B r i dJ0):=by
          have s2:=QaM (ps:=r.places) q0;exact ⟨⟨trivial,(by have t_:=Qr2 (r) (Qaa.into (r.places.getD i.toNat default));rw [q3] at t_;exact t_)⟩,hp2⟩
         by_cases q4:(Qaa.into (r.places.getD i.toNat default):Int)=(i)
         ·have s2:=QaM (ps:=r.places) q0;exact (GoE.endsT okF hJ Qac hg0 (QwD B r i dJ0)
           ⟨(Qii q4),hp3⟩).cast (by (rw [s2];simp_all [QbN,Qhe];done))
         ·have s2:=QaM (ps:=r.places) q0;exact ((ih0 _ (by omega)) (i+1) rfl (by omega)
           (hg0.landM okF hJ Qac (Qxi B r i dJ0)
           ⟨(Qbj (by omega) (by omega)),⟨(QhA q4),hp3⟩⟩ (by kernel_rfl) (by kernel_rfl))).cast (by (rw [s2];simp_all [QbN,Qhe];done))
       | false=>
         have s2:=QaM (ps:=r.places) q0;exact (GoE.endsT okF hJ Qac hg0 (QwV B r i dJ0)
          ⟨⟨trivial,(by have t_:=Qr2 (r) (Qaa.into (r.places.getD i.toNat default));rw [q3] at t_;exact t_)⟩,hp2⟩).cast (by (rw [s2];simp_all [QbN,Qhe];done))
      ·have hp4:QaA (QhT B r i dJ0):=by
        exact ⟨(Qep (Decidable.of_not_not q2)),hp1⟩
       by_cases q3:(Qaa.into (r.places.getD i.toNat default):Int)=(i)
       ·have s2:=QaM (ps:=r.places) q0;have s2:=QcU (ps:=r.places) (i:=i) (by omega);exact (GoE.endsT okF hJ Qac hg0 (QwI B r i dJ0)
         ⟨(Qii q3),hp4⟩).cast (by (rw [s2];simp_all [QbN,Qhe];done))
       ·have s2:=QaM (ps:=r.places) q0;exact ((ih0 _ (by omega)) (i+1) rfl (by omega)
         (hg0.landM okF hJ Qac (Qx1 B r i dJ0)
         ⟨(Qbj (by omega) (by omega)),⟨(QhA q3),hp4⟩⟩ (by kernel_rfl) (by kernel_rfl))).cast (by (rw [s2];simp_all [QbN,Qhe];done))
    | false=>
      have s2:=QaM (ps:=r.places) q0;exact (GoE.endsT okF hJ Qac hg0 (Qxw B r i dJ0)
       ⟨⟨trivial,(by have t_:=Qv8 (r.places.getD i.toNat default);rw [q1] at t_;exact t_)⟩,hp0⟩).cast (by (rw [s2];simp_all [QbN,Qhe];done))
   ·have s2:=QcU (ps:=r.places) (i:=i) (by omega);exact (GoE.endsT okF hJ Qac hg0 (QxN B r i dJ0)
     ⟨(Qby (Int.not_lt.1 q0)),trivial⟩).cast (by (rw [s2];done))
set_option maxHeartbeats 4000000 in
theorem Q0y (r:Qae)  (hfacts:r.places.length<=9223372036854775807) {B:Lo} (hJ:∀w,B.has w->J0 w):EndsT YP B (Qaq YP 50 52 (([.agg (Qar r).toArray]).map (Qa6 0 4))) (.bool (Qav r)):=by
 cases q0:inB (↑r.places.length:Int) 1 4 with
 | true=>
   have hp5:QaA (Qin B r):=by
    exact ⟨⟨trivial,(by have t_:=pIn ((↑r.places.length:Int)) (1) (4);rw [q0] at t_;exact t_)⟩,trivial⟩
   cases q1:inB r.miss 0 2000 with
   | true=>
     have hp6:QaA (QhN B r):=by
      exact ⟨⟨trivial,(by have t_:=pIn r.miss (0) (2000);rw [q1] at t_;exact t_)⟩,hp5⟩
     cases q2:inB r.seasons 1 4 with
     | true=>
       exact ((QwF r hfacts hJ _) (0) rfl (by omega)
        (GoE.start.landM okF hJ Qac (Qxm B r)
        ⟨⟨trivial,(by have t_:=pIn r.seasons (1) (4);rw [q2] at t_;exact t_)⟩,hp6⟩ (by kernel_rfl) (by kernel_rfl))).cast (by (simp only [Qav,QhL];simp [*];done))
     | false=>
       exact (GoE.endsT okF hJ Qac GoE.start (QxF B r)
        ⟨⟨trivial,(by have t_:=pIn r.seasons (1) (4);rw [q2] at t_;exact t_)⟩,hp6⟩).cast (by (simp only [Qav,QhL];simp [*];done))
   | false=>
     exact (GoE.endsT okF hJ Qac GoE.start (QwZ B r)
      ⟨⟨trivial,(by have t_:=pIn r.miss (0) (2000);rw [q1] at t_;exact t_)⟩,hp5⟩).cast (by (simp only [Qav,QhL];simp [*];done))
 | false=>
   exact (GoE.endsT okF hJ Qac GoE.start (Qsz B r)
    ⟨⟨trivial,(by have t_:=pIn ((↑r.places.length:Int)) (1) (4);rw [q0] at t_;exact t_)⟩,trivial⟩).cast (by (simp only [Qav,QhL];simp [*];done))
theorem QzQ (r:Qae)  :Qa3 YP J0 50 #[.agg (Qar r).toArray] (.bool (Qav r)):=
 Qcy (ts:=[.agg (Qar r).toArray]) (r.places.length<=9223372036854775807) (fun _ _ ht=> ht.ln2 (i:=0) (j:=0) rfl rfl) Qco (c0:=Qaq YP 50 52 (([.agg (Qar r).toArray]).map (Qa6 0 4))) (by kernel_rfl) (by kernel_rfl) fun hfacts B hJ=> Q0y r  hfacts hJ
def Qb5 (r:Qae) (i:Int):List Value:=[pA 2 0,.int .i64 i]
def QaV (r:Qae) (i:Int):List Obj:=[Obj.cells #[Qa1 1 (slT r.places.length (Qai Qad r.places)),.int .i64 r.miss,.int .i64 r.seasons] 24]
def Qb4:List Item:=([.code [1,0,1,0,0],.inLoop [1,0,1,0,0],.inBlock 0,.code [1,1]]).map (it (QaU YP 20))
def Q0X (B:Lo) (c0:CF) (r:Qae) (i:Int):Prop:=∃dJ:Nat->Value,(∀t,QbB (dJ t))/\GoE YP B c0 H00 1 (QaL 20 111 (([1,3]:List Nat).zip (Qb5 r i)) dJ Qb4) (QaG (QaV r i)) (2+(QaV r i).length) []
def QmY (B:Lo) (r:Qae) (i:Int) (dJ0:Nat->Value):List Prop:=[i=(↑i.toNat:Int)/\Int.toNat i < List.length r.places/\Array.extract (Qai Qad r.places) (Int.toNat i * TypeInfo.size Try.t54) (Int.toNat i * TypeInfo.size Try.t54+TypeInfo.size Try.t54)=#[.int .i64 (Qaa.count (r.places.getD i.toNat default)),.int .i64 (Qaa.room (r.places.getD i.toNat default)),.int .i64 (Qaa.glo (r.places.getD i.toNat default)),.int .i64 (Qaa.ghi (r.places.getD i.toNat default)),.int .i64 (Qaa.drift (r.places.getD i.toNat default)),.int .i64 (Qaa.into (r.places.getD i.toNat default)),.int .i64 (Qaa.olo (r.places.getD i.toNat default)),.int .i64 (Qaa.ohi (r.places.getD i.toNat default)),.int .i64 (Qaa.slo (r.places.getD i.toNat default)),.int .i64 (Qaa.shi (r.places.getD i.toNat default)),.int .i64 (Qaa.goal (r.places.getD i.toNat default)),.int .i64 (Qaa.worth (r.places.getD i.toNat default))],ltq i (↑r.places.length:Int)=true]++([]:List Prop)
def QvF (r:Qae) (i:Int) (dJ0:Nat->Value):Qaw:=[(4,hvT),(8,Qan.tidx i.toNat #[.int .i64 (Qaa.count (r.places.getD i.toNat default)),.int .i64 (Qaa.room (r.places.getD i.toNat default)),.int .i64 (Qaa.glo (r.places.getD i.toNat default)),.int .i64 (Qaa.ghi (r.places.getD i.toNat default)),.int .i64 (Qaa.drift (r.places.getD i.toNat default)),.int .i64 (Qaa.into (r.places.getD i.toNat default)),.int .i64 (Qaa.olo (r.places.getD i.toNat default)),.int .i64 (Qaa.ohi (r.places.getD i.toNat default)),.int .i64 (Qaa.slo (r.places.getD i.toNat default)),.int .i64 (Qaa.shi (r.places.getD i.toNat default)),.int .i64 (Qaa.goal (r.places.getD i.toNat default)),.int .i64 (Qaa.worth (r.places.getD i.toNat default))])]
def Qop (B:Lo) (r:Qae) (i:Int) (dJ0:Nat->Value):List Prop:=[QaA []/\Qa3 YP J0 55 #[.int .i64 (Qaa.count (r.places.getD i.toNat default)),.int .i64 0,.int .i64 1000000] (.bool true)]++QmY B r i dJ0
def Qwh (r:Qae) (i:Int) (dJ0:Nat->Value):Qaw:=QvF r i dJ0++[(14,Qan.pure (.bool true) [])]
def Qpg (B:Lo) (r:Qae) (i:Int) (dJ0:Nat->Value):List Prop:=[QaA []/\Qa3 YP J0 55 #[.int .i64 (Qaa.room (r.places.getD i.toNat default)),.int .i64 0,.int .i64 1000000] (.bool true)]++Qop B r i dJ0
def QvC (r:Qae) (i:Int) (dJ0:Nat->Value):Qaw:=Qwh r i dJ0++[(19,Qan.pure (.bool true) [])]
def QoW (B:Lo) (r:Qae) (i:Int) (dJ0:Nat->Value):List Prop:=[QaA []/\Qa3 YP J0 55 #[.int .i64 (Qaa.goal (r.places.getD i.toNat default)),.int .i64 0,.int .i64 1000000] (.bool true)]++Qpg B r i dJ0
def Qwf (r:Qae) (i:Int) (dJ0:Nat->Value):Qaw:=QvC r i dJ0++[(25,Qan.pure (.bool true) [])]
def QoU (B:Lo) (r:Qae) (i:Int) (dJ0:Nat->Value):List Prop:=[QaA []/\Qa3 YP J0 56 #[.agg #[.int .i64 (Qaa.glo (r.places.getD i.toNat default)),.int .i64 (Qaa.ghi (r.places.getD i.toNat default))],.int .i64 2000] (.bool true)]++QoW B r i dJ0
def Qvt (r:Qae) (i:Int) (dJ0:Nat->Value):Qaw:=Qwf r i dJ0++[(31,Qan.pure (.bool true) [])]
def Qnz (B:Lo) (r:Qae) (i:Int) (dJ0:Nat->Value):List Prop:=[wq ((↑r.places.length:Int) - 1)=(↑r.places.length:Int) - 1,QaA []/\Qa3 YP J0 55 #[.int .i64 (Qaa.drift (r.places.getD i.toNat default)),.int .i64 0,.int .i64 1000] (.bool true)]++QoU B r i dJ0
def QvA (r:Qae) (i:Int) (dJ0:Nat->Value):Qaw:=Qvt r i dJ0++[(37,Qan.pure (.bool true) []),(46,hvI ((↑r.places.length:Int) - 1))]
def Qov (B:Lo) (r:Qae) (i:Int) (dJ0:Nat->Value):List Prop:=[QaA []/\Qa3 YP J0 55 #[.int .i64 (Qaa.into (r.places.getD i.toNat default)),.int .i64 (-1),.int .i64 ((↑r.places.length:Int) - 1)] (.bool true)]++Qnz B r i dJ0
def Qwq (r:Qae) (i:Int) (dJ0:Nat->Value):Qaw:=QvA r i dJ0++[(47,Qan.pure (.bool true) [])]
theorem Q1r (B:Lo) (r:Qae) (i:Int) (dJ0:Nat->Value):Qbi (Qap YP (QaF YP) J0 B 16 1 (QaL 20 111 (([1,3]:List Nat).zip (Qb5 r i)) dJ0 Qb4) (QaG (QaV r i)) (2+(QaV r i).length)
 (Qwq r i dJ0++[(54,hvT)]) 0 [] []) []=some (.bool false,
 [eqq (Qaa.into (r.places.getD i.toNat default)) i=true]++Qov B r i dJ0):=by kernel_rfl
def QoN (B:Lo) (r:Qae) (i:Int) (dJ0:Nat->Value):List Prop:=[eqq (Qaa.into (r.places.getD i.toNat default)) i=false]++Qov B r i dJ0
def Qwl (r:Qae) (i:Int) (dJ0:Nat->Value):Qaw:=Qwq r i dJ0++[(54,hvF)]
def Qpa (B:Lo) (r:Qae) (i:Int) (dJ0:Nat->Value):List Prop:=[QaA []/\Qa3 YP J0 56 #[.agg #[.int .i64 (Qaa.olo (r.places.getD i.toNat default)),.int .i64 (Qaa.ohi (r.places.getD i.toNat default))],.int .i64 1000000] (.bool true)]++QoN B r i dJ0
def Qv9 (r:Qae) (i:Int) (dJ0:Nat->Value):Qaw:=Qwl r i dJ0++[(59,Qan.pure (.bool true) [])]
def Qn2 (B:Lo) (r:Qae) (i:Int) (dJ0:Nat->Value):List Prop:=[QaA []/\Qa3 YP J0 56 #[.agg #[.int .i64 (Qaa.slo (r.places.getD i.toNat default)),.int .i64 (Qaa.shi (r.places.getD i.toNat default))],.int .i64 1000000] (.bool true)]++Qpa B r i dJ0
def Qvy (r:Qae) (i:Int) (dJ0:Nat->Value):Qaw:=Qv9 r i dJ0++[(65,Qan.pure (.bool true) [])]
theorem Q1o (B:Lo) (r:Qae) (i:Int) (dJ0:Nat->Value):Qbi (Qap YP (QaF YP) J0 B 16 1 (QaL 20 111 (([1,3]:List Nat).zip (Qb5 r i)) dJ0 Qb4) (QaG (QaV r i)) (2+(QaV r i).length)
 (Qvy r i dJ0++[(75,hvT)]) 0 [] []) []=some (.bool false,
 [ltq (Qaa.olo (r.places.getD i.toNat default)) (Qaa.slo (r.places.getD i.toNat default))=true]++Qn2 B r i dJ0):=by kernel_rfl
def Qkw (B:Lo) (r:Qae) (i:Int) (dJ0:Nat->Value):List Prop:=[ltq (Qaa.olo (r.places.getD i.toNat default)) (Qaa.slo (r.places.getD i.toNat default))=false]++Qn2 B r i dJ0
def QqR (r:Qae) (i:Int) (dJ0:Nat->Value):Qaw:=Qvy r i dJ0++[(75,hvF)]
theorem Q2I (B:Lo) (r:Qae) (i:Int) (dJ0:Nat->Value):Qbi (Qap YP (QaF YP) J0 B 16 1 (QaL 20 111 (([1,3]:List Nat).zip (Qb5 r i)) dJ0 Qb4) (QaG (QaV r i)) (2+(QaV r i).length)
 (QqR r i dJ0++[(84,hvT)]) 0 [] []) []=some (.bool false,
 [ltq (Qaa.ohi (r.places.getD i.toNat default)) (Qaa.shi (r.places.getD i.toNat default))=true]++Qkw B r i dJ0):=by kernel_rfl
def Qli (B:Lo) (r:Qae) (i:Int) (dJ0:Nat->Value):List Prop:=[ltq (Qaa.ohi (r.places.getD i.toNat default)) (Qaa.shi (r.places.getD i.toNat default))=false]++Qkw B r i dJ0
def Qru (r:Qae) (i:Int) (dJ0:Nat->Value):Qaw:=QqR r i dJ0++[(84,hvF)]
theorem Q2R (B:Lo) (r:Qae) (i:Int) (dJ0:Nat->Value):landM (Qap YP (QaF YP) J0 B 16 1 (QaL 20 111 (([1,3]:List Nat).zip (Qb5 r i)) dJ0 Qb4) (QaG (QaV r i)) (2+(QaV r i).length)
 (Qru r i dJ0++[(89,Qan.pure (.bool true) []),(93,hvI (i+1))]) 0 [] []) [1,3] [(2,KS.auto)] []=some ⟨20,111,Qb4,[],.run,none,Qb5 r (i+1),QaV r (i+1),
 [wq (i+1)=i+1,QaA []/\Qa3 YP J0 55 #[.int .i64 (Qaa.worth (r.places.getD i.toNat default)),.int .i64 0,.int .i64 1000000] (.bool true)]++Qli B r i dJ0⟩:=by kernel_rfl
theorem Q2l (B:Lo) (r:Qae) (i:Int) (dJ0:Nat->Value):Qbi (Qap YP (QaF YP) J0 B 16 1 (QaL 20 111 (([1,3]:List Nat).zip (Qb5 r i)) dJ0 Qb4) (QaG (QaV r i)) (2+(QaV r i).length)
 (Qru r i dJ0++[(89,Qan.pure (.bool false) [])]) 0 [] []) []=some (.bool false,
 [QaA []/\Qa3 YP J0 55 #[.int .i64 (Qaa.worth (r.places.getD i.toNat default)),.int .i64 0,.int .i64 1000000] (.bool false)]++Qli B r i dJ0):=by kernel_rfl
theorem Q2L (B:Lo) (r:Qae) (i:Int) (dJ0:Nat->Value):Qbi (Qap YP (QaF YP) J0 B 16 1 (QaL 20 111 (([1,3]:List Nat).zip (Qb5 r i)) dJ0 Qb4) (QaG (QaV r i)) (2+(QaV r i).length)
 (Qv9 r i dJ0++[(65,Qan.pure (.bool false) [])]) 0 [] []) []=some (.bool false,
 [QaA []/\Qa3 YP J0 56 #[.agg #[.int .i64 (Qaa.slo (r.places.getD i.toNat default)),.int .i64 (Qaa.shi (r.places.getD i.toNat default))],.int .i64 1000000] (.bool false)]++Qpa B r i dJ0):=by kernel_rfl
theorem Q2z (B:Lo) (r:Qae) (i:Int) (dJ0:Nat->Value):Qbi (Qap YP (QaF YP) J0 B 16 1 (QaL 20 111 (([1,3]:List Nat).zip (Qb5 r i)) dJ0 Qb4) (QaG (QaV r i)) (2+(QaV r i).length)
 (Qwl r i dJ0++[(59,Qan.pure (.bool false) [])]) 0 [] []) []=some (.bool false,
 [QaA []/\Qa3 YP J0 56 #[.agg #[.int .i64 (Qaa.olo (r.places.getD i.toNat default)),.int .i64 (Qaa.ohi (r.places.getD i.toNat default))],.int .i64 1000000] (.bool false)]++QoN B r i dJ0):=by kernel_rfl
theorem Q29 (B:Lo) (r:Qae) (i:Int) (dJ0:Nat->Value):Qbi (Qap YP (QaF YP) J0 B 16 1 (QaL 20 111 (([1,3]:List Nat).zip (Qb5 r i)) dJ0 Qb4) (QaG (QaV r i)) (2+(QaV r i).length)
 (QvA r i dJ0++[(47,Qan.pure (.bool false) [])]) 0 [] []) []=some (.bool false,
 [QaA []/\Qa3 YP J0 55 #[.int .i64 (Qaa.into (r.places.getD i.toNat default)),.int .i64 (-1),.int .i64 ((↑r.places.length:Int) - 1)] (.bool false)]++Qnz B r i dJ0):=by kernel_rfl
theorem Q1O (B:Lo) (r:Qae) (i:Int) (dJ0:Nat->Value):Qbi (Qap YP (QaF YP) J0 B 16 1 (QaL 20 111 (([1,3]:List Nat).zip (Qb5 r i)) dJ0 Qb4) (QaG (QaV r i)) (2+(QaV r i).length)
 (Qvt r i dJ0++[(37,Qan.pure (.bool false) [])]) 0 [] []) []=some (.bool false,
 [QaA []/\Qa3 YP J0 55 #[.int .i64 (Qaa.drift (r.places.getD i.toNat default)),.int .i64 0,.int .i64 1000] (.bool false)]++QoU B r i dJ0):=by kernel_rfl
theorem Q14 (B:Lo) (r:Qae) (i:Int) (dJ0:Nat->Value):Qbi (Qap YP (QaF YP) J0 B 16 1 (QaL 20 111 (([1,3]:List Nat).zip (Qb5 r i)) dJ0 Qb4) (QaG (QaV r i)) (2+(QaV r i).length)
 (Qwf r i dJ0++[(31,Qan.pure (.bool false) [])]) 0 [] []) []=some (.bool false,
 [QaA []/\Qa3 YP J0 56 #[.agg #[.int .i64 (Qaa.glo (r.places.getD i.toNat default)),.int .i64 (Qaa.ghi (r.places.getD i.toNat default))],.int .i64 2000] (.bool false)]++QoW B r i dJ0):=by kernel_rfl
theorem Qyw (B:Lo) (r:Qae) (i:Int) (dJ0:Nat->Value):Qbi (Qap YP (QaF YP) J0 B 16 1 (QaL 20 111 (([1,3]:List Nat).zip (Qb5 r i)) dJ0 Qb4) (QaG (QaV r i)) (2+(QaV r i).length)
 (QvC r i dJ0++[(25,Qan.pure (.bool false) [])]) 0 [] []) []=some (.bool false,
 [QaA []/\Qa3 YP J0 55 #[.int .i64 (Qaa.goal (r.places.getD i.toNat default)),.int .i64 0,.int .i64 1000000] (.bool false)]++Qpg B r i dJ0):=by kernel_rfl
theorem Qza (B:Lo) (r:Qae) (i:Int) (dJ0:Nat->Value):Qbi (Qap YP (QaF YP) J0 B 16 1 (QaL 20 111 (([1,3]:List Nat).zip (Qb5 r i)) dJ0 Qb4) (QaG (QaV r i)) (2+(QaV r i).length)
 (Qwh r i dJ0++[(19,Qan.pure (.bool false) [])]) 0 [] []) []=some (.bool false,
 [QaA []/\Qa3 YP J0 55 #[.int .i64 (Qaa.room (r.places.getD i.toNat default)),.int .i64 0,.int .i64 1000000] (.bool false)]++Qop B r i dJ0):=by kernel_rfl
theorem QzA (B:Lo) (r:Qae) (i:Int) (dJ0:Nat->Value):Qbi (Qap YP (QaF YP) J0 B 16 1 (QaL 20 111 (([1,3]:List Nat).zip (Qb5 r i)) dJ0 Qb4) (QaG (QaV r i)) (2+(QaV r i).length)
 (QvF r i dJ0++[(14,Qan.pure (.bool false) [])]) 0 [] []) []=some (.bool false,
 [QaA []/\Qa3 YP J0 55 #[.int .i64 (Qaa.count (r.places.getD i.toNat default)),.int .i64 0,.int .i64 1000000] (.bool false)]++QmY B r i dJ0):=by kernel_rfl
def QjX (B:Lo) (r:Qae) (i:Int) (dJ0:Nat->Value):List Prop:=[ltq i (↑r.places.length:Int)=false]++([]:List Prop)
def QpA (r:Qae) (i:Int) (dJ0:Nat->Value):Qaw:=[(4,hvF)]
def Ql3 (B:Lo) (r:Qae) (i:Int) (dJ0:Nat->Value):List Prop:=[QaA []/\Qa3 YP J0 55 #[.int .i64 (↑r.places.length:Int),.int .i64 1,.int .i64 4] (.bool true)]++QjX B r i dJ0
def Qq9 (r:Qae) (i:Int) (dJ0:Nat->Value):Qaw:=QpA r i dJ0++[(8,Qan.pure (.bool true) [])]
def QlC (B:Lo) (r:Qae) (i:Int) (dJ0:Nat->Value):List Prop:=[QaA []/\Qa3 YP J0 55 #[.int .i64 r.miss,.int .i64 0,.int .i64 2000] (.bool true)]++Ql3 B r i dJ0
def Qr9 (r:Qae) (i:Int) (dJ0:Nat->Value):Qaw:=Qq9 r i dJ0++[(12,Qan.pure (.bool true) [])]
theorem Q0m (B:Lo) (r:Qae) (i:Int) (dJ0:Nat->Value):Qbi (Qap YP (QaF YP) J0 B 9 1 (QaL 20 111 (([1,3]:List Nat).zip (Qb5 r i)) dJ0 Qb4) (QaG (QaV r i)) (2+(QaV r i).length)
 (Qr9 r i dJ0++[(17,Qan.pure (.bool true) [])]) 0 [] []) []=some (.bool true,
 [QaA []/\Qa3 YP J0 55 #[.int .i64 r.seasons,.int .i64 1,.int .i64 4] (.bool true)]++QlC B r i dJ0):=by kernel_rfl
theorem Qy6 (B:Lo) (r:Qae) (i:Int) (dJ0:Nat->Value):Qbi (Qap YP (QaF YP) J0 B 9 1 (QaL 20 111 (([1,3]:List Nat).zip (Qb5 r i)) dJ0 Qb4) (QaG (QaV r i)) (2+(QaV r i).length)
 (Qr9 r i dJ0++[(17,Qan.pure (.bool false) [])]) 0 [] []) []=some (.bool false,
 [QaA []/\Qa3 YP J0 55 #[.int .i64 r.seasons,.int .i64 1,.int .i64 4] (.bool false)]++QlC B r i dJ0):=by kernel_rfl
theorem Q0p (B:Lo) (r:Qae) (i:Int) (dJ0:Nat->Value):Qbi (Qap YP (QaF YP) J0 B 9 1 (QaL 20 111 (([1,3]:List Nat).zip (Qb5 r i)) dJ0 Qb4) (QaG (QaV r i)) (2+(QaV r i).length)
 (Qq9 r i dJ0++[(12,Qan.pure (.bool false) [])]) 0 [] []) []=some (.bool false,
 [QaA []/\Qa3 YP J0 55 #[.int .i64 r.miss,.int .i64 0,.int .i64 2000] (.bool false)]++Ql3 B r i dJ0):=by kernel_rfl
theorem QzW (B:Lo) (r:Qae) (i:Int) (dJ0:Nat->Value):Qbi (Qap YP (QaF YP) J0 B 9 1 (QaL 20 111 (([1,3]:List Nat).zip (Qb5 r i)) dJ0 Qb4) (QaG (QaV r i)) (2+(QaV r i).length)
 (QpA r i dJ0++[(8,Qan.pure (.bool false) [])]) 0 [] []) []=some (.bool false,
 [QaA []/\Qa3 YP J0 55 #[.int .i64 (↑r.places.length:Int),.int .i64 1,.int .i64 4] (.bool false)]++QjX B r i dJ0):=by kernel_rfl
theorem Qzw (B:Lo) (r:Qae):landM (Qap YP (QaF YP) J0 B 7 1 (Qaq YP 20 111 (([.agg (Qar r).toArray]).map (Qa6 0 4))) H00 1
 [] 0 [] []) [1,3] [(1,KS.auto)] []=some ⟨20,111,Qb4,[],.run,none,Qb5 r (0),QaV r (0),
 []⟩:=by kernel_rfl
set_option maxHeartbeats 4000000 in
theorem Q1c (r:Qae)  (hfacts:r.places.length<=9223372036854775807) {B:Lo} (hJ:∀w,B.has w->J0 w) {c0:CF}:∀m:Nat,(∀(i:Int),r.places.length - i.toNat=m->∀(h0:0<=i),Q0X B c0 r i->EndsT YP B c0 (.bool (Qfe r.places i && QhL r))):=by
 intro m0;induction m0 using Nat.strongRecOn with
 | _ m0 ih0=>
   intro i hm0 h0 ⟨dJ0,hdJ0,hg0⟩;have s3:=Q4k (n:=r.places.length) (v:=(r.places.getD i.toNat default).into) (by omega);by_cases q0:(i:Int) < ((↑r.places.length:Int))
   ·have hp0:QaA (QmY B r i dJ0):=by
     have s2:=QaM (ps:=r.places) q0;exact ⟨⟨by omega,by omega,(Qat (z:=12) (fun _=> rfl) (by omega))⟩,⟨(Qbw q0),trivial⟩⟩
    cases q1:inB (Qaa.count (r.places.getD i.toNat default)) 0 1000000 with
    | true=>
      have hp1:QaA (Qop B r i dJ0):=by
       have s2:=QaM (ps:=r.places) q0;exact ⟨⟨trivial,(by have t_:=rin (Qaa.count (r.places.getD i.toNat default)) (0) (1000000);rw [q1] at t_;exact t_)⟩,hp0⟩
      cases q2:inB (Qaa.room (r.places.getD i.toNat default)) 0 1000000 with
      | true=>
        have hp2:QaA (Qpg B r i dJ0):=by
         have s2:=QaM (ps:=r.places) q0;exact ⟨⟨trivial,(by have t_:=rin (Qaa.room (r.places.getD i.toNat default)) (0) (1000000);rw [q2] at t_;exact t_)⟩,hp1⟩
        cases q3:inB (Qaa.goal (r.places.getD i.toNat default)) 0 1000000 with
        | true=>
          have hp3:QaA (QoW B r i dJ0):=by
           have s2:=QaM (ps:=r.places) q0;exact ⟨⟨trivial,(by have t_:=rin (Qaa.goal (r.places.getD i.toNat default)) (0) (1000000);rw [q3] at t_;exact t_)⟩,hp2⟩
          cases q4:Qd2 (Qaa.glo (r.places.getD i.toNat default)) (Qaa.ghi (r.places.getD i.toNat default)) 0 2000 with
          | true=>
            have hp4:QaA (QoU B r i dJ0):=by
             have s2:=QaM (ps:=r.places) q0;exact ⟨⟨trivial,(by have t_:=QwX (Qaa.glo (r.places.getD i.toNat default)) (Qaa.ghi (r.places.getD i.toNat default)) (2000);rw [q4] at t_;exact t_)⟩,hp3⟩
            cases q5:inB (Qaa.drift (r.places.getD i.toNat default)) 0 1000 with
            | true=>
              have hp5:QaA (Qnz B r i dJ0):=by
               have s2:=QaM (ps:=r.places) q0;exact ⟨(Qbj (by omega) (by omega)),⟨⟨trivial,(by have t_:=rin (Qaa.drift (r.places.getD i.toNat default)) (0) (1000);rw [q5] at t_;exact t_)⟩,hp4⟩⟩
              cases q6:inB (Qaa.into (r.places.getD i.toNat default)) (-1) ((↑r.places.length:Int) - 1) with
              | true=>
                have hp6:QaA (Qov B r i dJ0):=by
                 have s2:=QaM (ps:=r.places) q0;exact ⟨⟨trivial,(by have t_:=rin (Qaa.into (r.places.getD i.toNat default)) (-1) ((↑r.places.length:Int) - 1);rw [q6] at t_;exact t_)⟩,hp5⟩
                by_cases q7:(Qaa.into (r.places.getD i.toNat default):Int)=(i)
                ·have s2:=QaM (ps:=r.places) q0;exact (GoE.endsT okF hJ Qac hg0 (Q1r B r i dJ0)
                  ⟨(Qii q7),hp6⟩).cast (by (rw [s2];rw [s3] at *;simp_all [QbN,QbH];done))
                ·have hp7:QaA (QoN B r i dJ0):=by
                  exact ⟨(QhA q7),hp6⟩
                 cases q8:Qd2 (Qaa.olo (r.places.getD i.toNat default)) (Qaa.ohi (r.places.getD i.toNat default)) 0 1000000 with
                 | true=>
                   have hp8:QaA (Qpa B r i dJ0):=by
                    have s2:=QaM (ps:=r.places) q0;exact ⟨⟨trivial,(by have t_:=QwX (Qaa.olo (r.places.getD i.toNat default)) (Qaa.ohi (r.places.getD i.toNat default)) (1000000);rw [q8] at t_;exact t_)⟩,hp7⟩
                   cases q9:Qd2 (Qaa.slo (r.places.getD i.toNat default)) (Qaa.shi (r.places.getD i.toNat default)) 0 1000000 with
                   | true=>
                     have hp9:QaA (Qn2 B r i dJ0):=by
                      have s2:=QaM (ps:=r.places) q0;exact ⟨⟨trivial,(by have t_:=QwX (Qaa.slo (r.places.getD i.toNat default)) (Qaa.shi (r.places.getD i.toNat default)) (1000000);rw [q9] at t_;exact t_)⟩,hp8⟩
                     by_cases q10:(Qaa.olo (r.places.getD i.toNat default):Int) < (Qaa.slo (r.places.getD i.toNat default))
                     ·have s2:=QaM (ps:=r.places) q0;exact (GoE.endsT okF hJ Qac hg0 (Q1o B r i dJ0)
                       ⟨(Qbw q10),hp9⟩).cast (by (rw [s2];rw [s3] at *;simp_all [QbN,QbH];omega))
                     ·have hp10:QaA (Qkw B r i dJ0):=by
                       exact ⟨(Qby (Int.not_lt.1 q10)),hp9⟩
                      by_cases q11:(Qaa.ohi (r.places.getD i.toNat default):Int) < (Qaa.shi (r.places.getD i.toNat default))
                      ·have s2:=QaM (ps:=r.places) q0;exact (GoE.endsT okF hJ Qac hg0 (Q2I B r i dJ0)
                        ⟨(Qbw q11),hp10⟩).cast (by (rw [s2];rw [s3] at *;simp_all [QbN,QbH];omega))
                      ·have hp11:QaA (Qli B r i dJ0):=by
                        exact ⟨(Qby (Int.not_lt.1 q11)),hp10⟩
                       cases q12:inB (Qaa.worth (r.places.getD i.toNat default)) 0 1000000 with
                       | true=>
                         have s2:=QaM (ps:=r.places) q0;exact ((ih0 _ (by omega)) (i+1) rfl (by omega)
                          (hg0.landM okF hJ Qac (Q2R B r i dJ0)
                          ⟨(Qbj (by omega) (by omega)),⟨⟨trivial,(by have t_:=rin (Qaa.worth (r.places.getD i.toNat default)) (0) (1000000);rw [q12] at t_;exact t_)⟩,hp11⟩⟩ (by kernel_rfl) (by kernel_rfl))).cast (by (rw [s2];rw [s3] at *;simp_all [QbN,QbH];done))
                       | false=>
                         have s2:=QaM (ps:=r.places) q0;exact (GoE.endsT okF hJ Qac hg0 (Q2l B r i dJ0)
                          ⟨⟨trivial,(by have t_:=rin (Qaa.worth (r.places.getD i.toNat default)) (0) (1000000);rw [q12] at t_;exact t_)⟩,hp11⟩).cast (by (rw [s2];rw [s3] at *;simp_all [QbN,QbH];done))
                   | false=>
                     have s2:=QaM (ps:=r.places) q0;exact (GoE.endsT okF hJ Qac hg0 (Q2L B r i dJ0)
                      ⟨⟨trivial,(by have t_:=QwX (Qaa.slo (r.places.getD i.toNat default)) (Qaa.shi (r.places.getD i.toNat default)) (1000000);rw [q9] at t_;exact t_)⟩,hp8⟩).cast (by (rw [s2];rw [s3] at *;simp_all [QbN,QbH];done))
                 | false=>
                   have s2:=QaM (ps:=r.places) q0;exact (GoE.endsT okF hJ Qac hg0 (Q2z B r i dJ0)
                    ⟨⟨trivial,(by have t_:=QwX (Qaa.olo (r.places.getD i.toNat default)) (Qaa.ohi (r.places.getD i.toNat default)) (1000000);rw [q8] at t_;exact t_)⟩,hp7⟩).cast (by (rw [s2];rw [s3] at *;simp_all [QbN,QbH];done))
              | false=>
                have s2:=QaM (ps:=r.places) q0;exact (GoE.endsT okF hJ Qac hg0 (Q29 B r i dJ0)
                 ⟨⟨trivial,(by have t_:=rin (Qaa.into (r.places.getD i.toNat default)) (-1) ((↑r.places.length:Int) - 1);rw [q6] at t_;exact t_)⟩,hp5⟩).cast (by (rw [s2];rw [s3] at *;simp_all [QbN,QbH];done))
            | false=>
              have s2:=QaM (ps:=r.places) q0;exact (GoE.endsT okF hJ Qac hg0 (Q1O B r i dJ0)
               ⟨⟨trivial,(by have t_:=rin (Qaa.drift (r.places.getD i.toNat default)) (0) (1000);rw [q5] at t_;exact t_)⟩,hp4⟩).cast (by (rw [s2];rw [s3] at *;simp_all [QbN,QbH];done))
          | false=>
            have s2:=QaM (ps:=r.places) q0;exact (GoE.endsT okF hJ Qac hg0 (Q14 B r i dJ0)
             ⟨⟨trivial,(by have t_:=QwX (Qaa.glo (r.places.getD i.toNat default)) (Qaa.ghi (r.places.getD i.toNat default)) (2000);rw [q4] at t_;exact t_)⟩,hp3⟩).cast (by (rw [s2];rw [s3] at *;simp_all [QbN,QbH];done))
        | false=>
          have s2:=QaM (ps:=r.places) q0;exact (GoE.endsT okF hJ Qac hg0 (Qyw B r i dJ0)
           ⟨⟨trivial,(by have t_:=rin (Qaa.goal (r.places.getD i.toNat default)) (0) (1000000);rw [q3] at t_;exact t_)⟩,hp2⟩).cast (by (rw [s2];rw [s3] at *;simp_all [QbN,QbH];done))
      | false=>
        have s2:=QaM (ps:=r.places) q0;exact (GoE.endsT okF hJ Qac hg0 (Qza B r i dJ0)
         ⟨⟨trivial,(by have t_:=rin (Qaa.room (r.places.getD i.toNat default)) (0) (1000000);rw [q2] at t_;exact t_)⟩,hp1⟩).cast (by (rw [s2];rw [s3] at *;simp_all [QbN,QbH];done))
    | false=>
      have s2:=QaM (ps:=r.places) q0;exact (GoE.endsT okF hJ Qac hg0 (QzA B r i dJ0)
       ⟨⟨trivial,(by have t_:=rin (Qaa.count (r.places.getD i.toNat default)) (0) (1000000);rw [q1] at t_;exact t_)⟩,hp0⟩).cast (by (rw [s2];rw [s3] at *;simp_all [QbN,QbH];done))
   ·have hp12:QaA (QjX B r i dJ0):=by
     exact ⟨(Qby (Int.not_lt.1 q0)),trivial⟩
    cases q1:inB (↑r.places.length:Int) 1 4 with
    | true=>
      have hp13:QaA (Ql3 B r i dJ0):=by
       have s2:=QcU (ps:=r.places) (i:=i) (by omega);exact ⟨⟨trivial,(by have t_:=rin ((↑r.places.length:Int)) (1) (4);rw [q1] at t_;exact t_)⟩,hp12⟩
      cases q2:inB r.miss 0 2000 with
      | true=>
        have hp14:QaA (QlC B r i dJ0):=by
         have s2:=QcU (ps:=r.places) (i:=i) (by omega);exact ⟨⟨trivial,(by have t_:=rin r.miss (0) (2000);rw [q2] at t_;exact t_)⟩,hp13⟩
        cases q3:inB r.seasons 1 4 with
        | true=>
          have s2:=QcU (ps:=r.places) (i:=i) (by omega);exact (GoE.endsT okF hJ Qac hg0 (Q0m B r i dJ0)
           ⟨⟨trivial,(by have t_:=rin r.seasons (1) (4);rw [q3] at t_;exact t_)⟩,hp14⟩).cast (by (rw [s2];simp_all [QhL];done))
        | false=>
          have s2:=QcU (ps:=r.places) (i:=i) (by omega);exact (GoE.endsT okF hJ Qac hg0 (Qy6 B r i dJ0)
           ⟨⟨trivial,(by have t_:=rin r.seasons (1) (4);rw [q3] at t_;exact t_)⟩,hp14⟩).cast (by (rw [s2];simp_all [QhL];done))
      | false=>
        have s2:=QcU (ps:=r.places) (i:=i) (by omega);exact (GoE.endsT okF hJ Qac hg0 (Q0p B r i dJ0)
         ⟨⟨trivial,(by have t_:=rin r.miss (0) (2000);rw [q2] at t_;exact t_)⟩,hp13⟩).cast (by (rw [s2];simp_all [QhL];done))
    | false=>
      have s2:=QcU (ps:=r.places) (i:=i) (by omega);exact (GoE.endsT okF hJ Qac hg0 (QzW B r i dJ0)
       ⟨⟨trivial,(by have t_:=rin ((↑r.places.length:Int)) (1) (4);rw [q1] at t_;exact t_)⟩,hp12⟩).cast (by (rw [s2];simp_all [QhL];done))
set_option maxHeartbeats 4000000 in
theorem Q4w (r:Qae)  (hfacts:r.places.length<=9223372036854775807) {B:Lo} (hJ:∀w,B.has w->J0 w):EndsT YP B (Qaq YP 20 111 (([.agg (Qar r).toArray]).map (Qa6 0 4))) (.bool (Qav r)):=by
 exact ((Q1c r hfacts hJ _) (0) rfl (by omega)
  (GoE.start.landM okF hJ Qac (Qzw B r)
  trivial (by kernel_rfl) (by kernel_rfl))).cast (by (simp only [Qav];rw [Bool.and_comm];done))
theorem Q5e (r:Qae)  :Qa3 YP J0 20 #[.agg (Qar r).toArray] (.bool (Qav r)):=
 Qcy (ts:=[.agg (Qar r).toArray]) (r.places.length<=9223372036854775807) (fun _ _ ht=> ht.ln2 (i:=0) (j:=0) rfl rfl) Qco (c0:=Qaq YP 20 111 (([.agg (Qar r).toArray]).map (Qa6 0 4))) (by kernel_rfl) (by kernel_rfl) fun hfacts B hJ=> Q4w r  hfacts hJ
end
end Go.Proofs.Ytncjjangllkokaa

namespace Go.Proofs.Ytncjjangllkokaa
open Go Go.CE Go.RowKit
noncomputable section
set_option maxRecDepth 100000
theorem Q5f:((Qew 0:Nat):Int)=1:=rfl
theorem QyW {i:Int} (h:0<=i):((Qew (i+1):Nat):Int)=2 * ((Qew i:Nat):Int):=by
 unfold Qew;rw [show (i+1).toNat=i.toNat+1 by omega,Nat.pow_succ];omega
def hasB (n k:Int):Bool:=n.toNat.testBit k.toNat
theorem Q20 {n k:Int} (hn:0<=n) (hk:1<=k):hasB n k=hasB (n / 2) (k - 1):=by
 unfold hasB;obtain ⟨j,hj⟩:∃j,k.toNat=j+1:=⟨k.toNat - 1,by omega⟩
 rw [hj,show (k - 1).toNat=j by omega,Nat.testBit_succ,show (n / 2).toNat=n.toNat / 2 by omega]
theorem Q5V {n:Int} (hn:0<=n):hasB n 0=decide (n % 2=1):=by
 unfold hasB;rw [show (0:Int).toNat=0 from rfl,Nat.testBit_zero];exact decide_eq_decide.2 (by omega)
theorem Qul {n k:Int}:decide (((Q1H ((QrC n k:Nat):Int) 1:Nat):Int)=1)=hasB n k:=by
 unfold hasB Q1H QrC;rw [Int.toNat_natCast,show (1:Int).toNat=1 from rfl,Nat.and_one_is_mod,Nat.shiftRight_eq_div_pow,Nat.testBit_eq_decide_div_mod_eq];exact decide_eq_decide.2 (by omega)
def QaY (r:Qae) (plan:List Int):List Value:=[slP r.places,.int .i64 r.miss,.int .i64 r.seasons,.int .i64 (plan.getD 0 0),.int .i64 (plan.getD 1 0),.int .i64 (plan.getD 2 0),.int .i64 (plan.getD 3 0)]
theorem Qa8 {r:Qae} {plan:List Int} (h:QaO r plan=true):plan.length=r.seasons/\∀x∈plan,0<=x/\x < Qew r.places.length:=by
 simp only [QaO,YB,decide_eq_true_iff,List.all_eq_true,QhJ] at h;exact ⟨h.1,fun x hx=> by have:=h.2 x hx;omega⟩
def Qhg (r:Qae) (s i:Int):List Value:=[pA 2 0,.int .i64 s,.int .i64 i]
def Qen (r:Qae) (s i:Int):List Obj:=[Obj.cells #[Qa1 1 (slT r.places.length (Qai Qad r.places)),.int .i64 r.miss,.int .i64 r.seasons] 24]
def QgS:List Item:=([.code [1,1,0,1,0,0],.inLoop [1,1,0,1,0,0],.inBlock 0,.code [1,1,1]]).map (it (QaU YP 69))
def Q1N (B:Lo) (c0:CF) (r:Qae) (s i:Int):Prop:=∃dJ:Nat->Value,(∀t,QbB (dJ t))/\GoE YP B c0 H00 1 (QaL 69 15 (([1,3,4]:List Nat).zip (Qhg r s i)) dJ QgS) (QaG (Qen r s i)) (2+(Qen r s i).length) []
theorem Q1d (B:Lo) (r:Qae) (s i:Int) (dJ0:Nat->Value):landM (Qap YP (QaF YP) J0 B 11 1 (QaL 69 15 (([1,3,4]:List Nat).zip (Qhg r s i)) dJ0 QgS) (QaG (Qen r s i)) (2+(Qen r s i).length)
 [(4,hvT),(6,hvI (2 * s)),(9,hvI (i+1))] 0 [] []) [1,3,4] [(2,KS.auto)] []=some ⟨69,15,QgS,[],.run,none,Qhg r (2 * s) (i+1),Qen r (2 * s) (i+1),
 [wq (i+1)=i+1,wq (2 * s)=2 * s,ltq i (↑r.places.length:Int)=true]⟩:=by kernel_rfl
theorem Q2b (B:Lo) (r:Qae) (s i:Int) (dJ0:Nat->Value):Qbi (Qap YP (QaF YP) J0 B 9 1 (QaL 69 15 (([1,3,4]:List Nat).zip (Qhg r s i)) dJ0 QgS) (QaG (Qen r s i)) (2+(Qen r s i).length)
 [(4,hvF)] 0 [] []) []=some (.int .i64 s,
 [ltq i (↑r.places.length:Int)=false]):=by kernel_rfl
theorem Q2A (B:Lo) (r:Qae):landM (Qap YP (QaF YP) J0 B 9 1 (Qaq YP 69 15 (([.agg (Qar r).toArray]).map (Qa6 0 4))) H00 1
 [] 0 [] []) [1,3,4] [(1,KS.auto)] []=some ⟨69,15,QgS,[],.run,none,Qhg r (1) (0),Qen r (1) (0),
 []⟩:=by kernel_rfl
set_option maxHeartbeats 4000000 in
theorem Q28 (r:Qae) (hn:r.places.length<=61) {B:Lo} (hJ:∀w,B.has w->J0 w) {c0:CF}:∀m:Nat,(∀(s i:Int),r.places.length - i.toNat=m->∀(h0:0<=i) (h1:i<=r.places.length) (hs:s=((Qew i:Nat):Int)),Q1N B c0 r s i->EndsT YP B c0 (.int .i64 ((Qew r.places.length:Nat):Int))):=by
 intro m0;induction m0 using Nat.strongRecOn with
 | _ m0 ih0=>
   intro s i hm0 h0 h1 hs ⟨dJ0,hdJ0,hg0⟩;have e1:=Qg6 (n:=i) (by omega);have e2:=QyW (i:=i) h0;by_cases q0:(i:Int) < ((↑r.places.length:Int))
   ·have e3:=Qg6 (n:=i+1) (by omega);exact ((ih0 _ (by omega)) (2 * s) (i+1) rfl (by omega) (by omega) (by omega)
     (hg0.landM okF hJ Qac (Q1d B r s i dJ0)
     ⟨(Qbj (by omega) (by omega)),⟨(Qbj (by omega) (by omega)),⟨(Qbw q0),trivial⟩⟩⟩ (by kernel_rfl) (by kernel_rfl))).cast (by rfl)
   ·have e3:=Qg6 (n:=i+1) (by omega);exact (GoE.endsT okF hJ Qac hg0 (Q2b B r s i dJ0)
     ⟨(Qby (Int.not_lt.1 q0)),trivial⟩).cast (by (rw [hs,show i=r.places.length by omega];done))
set_option maxHeartbeats 4000000 in
theorem Q3D (r:Qae) (hn:r.places.length<=61) {B:Lo} (hJ:∀w,B.has w->J0 w):EndsT YP B (Qaq YP 69 15 (([.agg (Qar r).toArray]).map (Qa6 0 4))) (.int .i64 ((Qew r.places.length:Nat):Int)):=by
 exact ((Q28 r hn hJ _) (1) (0) rfl (by omega) (by omega) (by exact Q5f.symm)
  (GoE.start.landM okF hJ Qac (Q2A B r)
  trivial (by kernel_rfl) (by kernel_rfl))).cast (by rfl)
theorem Q6j (r:Qae) (hn:r.places.length<=61):Qa3 YP J0 69 #[.agg (Qar r).toArray] (.int .i64 ((Qew r.places.length:Nat):Int)):=
 Qbr (ts:=[.agg (Qar r).toArray]) Qco (c0:=Qaq YP 69 15 (([.agg (Qar r).toArray]).map (Qa6 0 4))) (by kernel_rfl) (by kernel_rfl) fun B hJ=> Q3D r hn hJ
def QeM (r:Qae) (plan:List Int) (i:Int):List Value:=[Qa1 1 (slT plan.length (Qai QaZ plan)),pA 2 0,.int .i64 i]
def QcJ (r:Qae) (plan:List Int) (i:Int):List Obj:=[Obj.cells #[Qa1 1 (slT r.places.length (Qai Qad r.places)),.int .i64 r.miss,.int .i64 r.seasons] 24]
def QeR:List Item:=([.code [1,0,1,0,0],.inLoop [1,0,1,0,0],.inBlock 0,.code [1,1]]).map (it (QaU YP 41))
def Q12 (B:Lo) (c0:CF) (r:Qae) (plan:List Int) (i:Int):Prop:=∃dJ:Nat->Value,(∀t,QbB (dJ t))/\GoE YP B c0 H00 1 (QaL 41 26 (([1,2,5]:List Nat).zip (QeM r plan i)) dJ QeR) (QaG (QcJ r plan i)) (2+(QcJ r plan i).length) []
def QnV (B:Lo) (r:Qae) (plan:List Int) (i:Int) (dJ0:Nat->Value):List Prop:=[wq ((↑(Qew (↑r.places.length:Int)):Int) - 1)=(↑(Qew (↑r.places.length:Int)):Int) - 1,QaA []/\Qa3 YP J0 69 #[.agg #[slT r.places.length (Qai Qad r.places),.int .i64 r.miss,.int .i64 r.seasons]] (.int .i64 (↑(Qew (↑r.places.length:Int)):Int)),i=(↑i.toNat:Int)/\Int.toNat i < List.length plan/\Array.extract (Qai QaZ plan) (Int.toNat i * TypeInfo.size Try.t3) (Int.toNat i * TypeInfo.size Try.t3+TypeInfo.size Try.t3)=#[.int .i64 (plan.getD i.toNat default)],ltq i (↑plan.length:Int)=true]++([]:List Prop)
def Qws (r:Qae) (plan:List Int) (i:Int) (dJ0:Nat->Value):Qaw:=[(3,hvT),(6,Qan.tidx i.toNat #[.int .i64 (plan.getD i.toNat default)]),(9,Qan.pure (.int .i64 (↑(Qew (↑r.places.length:Int)):Int)) []),(10,hvI ((↑(Qew (↑r.places.length:Int)):Int) - 1))]
theorem Q1V (B:Lo) (r:Qae) (plan:List Int) (i:Int) (dJ0:Nat->Value):landM (Qap YP (QaF YP) J0 B 14 1 (QaL 41 26 (([1,2,5]:List Nat).zip (QeM r plan i)) dJ0 QeR) (QaG (QcJ r plan i)) (2+(QcJ r plan i).length)
 (Qws r plan i dJ0++[(11,Qan.pure (.bool true) []),(14,hvI (i+1))]) 0 [] []) [1,2,5] [(2,KS.auto)] []=some ⟨41,26,QeR,[],.run,none,QeM r plan (i+1),QcJ r plan (i+1),
 [wq (i+1)=i+1,QaA []/\Qa3 YP J0 55 #[.int .i64 (plan.getD i.toNat default),.int .i64 0,.int .i64 ((↑(Qew (↑r.places.length:Int)):Int) - 1)] (.bool true)]++QnV B r plan i dJ0⟩:=by kernel_rfl
theorem Q1a (B:Lo) (r:Qae) (plan:List Int) (i:Int) (dJ0:Nat->Value):Qbi (Qap YP (QaF YP) J0 B 14 1 (QaL 41 26 (([1,2,5]:List Nat).zip (QeM r plan i)) dJ0 QeR) (QaG (QcJ r plan i)) (2+(QcJ r plan i).length)
 (Qws r plan i dJ0++[(11,Qan.pure (.bool false) [])]) 0 [] []) []=some (.bool false,
 [QaA []/\Qa3 YP J0 55 #[.int .i64 (plan.getD i.toNat default),.int .i64 0,.int .i64 ((↑(Qew (↑r.places.length:Int)):Int) - 1)] (.bool false)]++QnV B r plan i dJ0):=by kernel_rfl
def Qom (B:Lo) (r:Qae) (plan:List Int) (i:Int) (dJ0:Nat->Value):List Prop:=[ltq i (↑plan.length:Int)=false]++([]:List Prop)
def Qv2 (r:Qae) (plan:List Int) (i:Int) (dJ0:Nat->Value):Qaw:=[(3,hvF)]
theorem Q2Q (B:Lo) (r:Qae) (plan:List Int) (i:Int) (dJ0:Nat->Value):Qbi (Qap YP (QaF YP) J0 B 9 1 (QaL 41 26 (([1,2,5]:List Nat).zip (QeM r plan i)) dJ0 QeR) (QaG (QcJ r plan i)) (2+(QcJ r plan i).length)
 (Qv2 r plan i dJ0++[(8,hvT)]) 0 [] []) []=some (.bool true,
 [eqq (↑plan.length:Int) r.seasons=true]++Qom B r plan i dJ0):=by kernel_rfl
theorem Q0V (B:Lo) (r:Qae) (plan:List Int) (i:Int) (dJ0:Nat->Value):Qbi (Qap YP (QaF YP) J0 B 9 1 (QaL 41 26 (([1,2,5]:List Nat).zip (QeM r plan i)) dJ0 QeR) (QaG (QcJ r plan i)) (2+(QcJ r plan i).length)
 (Qv2 r plan i dJ0++[(8,hvF)]) 0 [] []) []=some (.bool false,
 [eqq (↑plan.length:Int) r.seasons=false]++Qom B r plan i dJ0):=by kernel_rfl
theorem Q1M (B:Lo) (r:Qae) (plan:List Int):landM (Qap YP (QaF YP) J0 B 7 1 (Qaq YP 41 26 (([.agg (Qar r).toArray,slI plan]).map (Qa6 0 4))) H00 1
 [] 0 [] []) [1,2,5] [(1,KS.auto)] []=some ⟨41,26,QeR,[],.run,none,QeM r plan (0),QcJ r plan (0),
 []⟩:=by kernel_rfl
set_option maxHeartbeats 4000000 in
theorem Q10 (r:Qae) (plan:List Int) (hn:r.places.length<=61) (hfacts:plan.length<=9223372036854775807) {B:Lo} (hJ:∀w,B.has w->J0 w) {c0:CF}:∀m:Nat,(∀(i:Int),plan.length - i.toNat=m->∀(h0:0<=i),Q12 B c0 r plan i->EndsT YP B c0 (.bool ((plan.drop i.toNat).all (fun x=> inB x 0 (((Qew r.places.length:Nat):Int) - 1)) && decide (plan.length=r.seasons)))):=by
 intro m0;induction m0 using Nat.strongRecOn with
 | _ m0 ih0=>
   intro i hm0 h0 ⟨dJ0,hdJ0,hg0⟩;have e1:=Qg6 (n:=r.places.length) (by omega);have e1:=Qg6 (n:=r.places.length) (by omega);by_cases q0:(i:Int) < ((↑plan.length:Int))
   ·have hp0:QaA (QnV B r plan i dJ0):=by
     have s2:=Qdc (l:=plan) (p:=fun x=> inB x 0 (((Qew r.places.length:Nat):Int) - 1)) h0 q0;exact ⟨(Qbj (by omega) (by omega)),⟨⟨trivial,Q6j (r) (by with_reducible assumption)⟩,⟨⟨by omega,by omega,(Qat (z:=1) (fun _=> rfl) (by omega))⟩,⟨(Qbw q0),trivial⟩⟩⟩⟩
    cases q1:inB (plan.getD i.toNat default) 0 ((↑(Qew (↑r.places.length:Int)):Int) - 1) with
    | true=>
      have s2:=Qdc (l:=plan) (p:=fun x=> inB x 0 (((Qew r.places.length:Nat):Int) - 1)) h0 q0;exact ((ih0 _ (by omega)) (i+1) rfl (by omega)
       (hg0.landM okF hJ Qac (Q1V B r plan i dJ0)
       ⟨(Qbj (by omega) (by omega)),⟨⟨trivial,(by have t_:=rin (plan.getD i.toNat default) (0) ((↑(Qew (↑r.places.length:Int)):Int) - 1);rw [q1] at t_;exact t_)⟩,hp0⟩⟩ (by kernel_rfl) (by kernel_rfl))).cast (by (rw [s2];simp_all;done))
    | false=>
      have s2:=Qdc (l:=plan) (p:=fun x=> inB x 0 (((Qew r.places.length:Nat):Int) - 1)) h0 q0;exact (GoE.endsT okF hJ Qac hg0 (Q1a B r plan i dJ0)
       ⟨⟨trivial,(by have t_:=rin (plan.getD i.toNat default) (0) ((↑(Qew (↑r.places.length:Int)):Int) - 1);rw [q1] at t_;exact t_)⟩,hp0⟩).cast (by (rw [s2];simp_all;done))
   ·have hp1:QaA (Qom B r plan i dJ0):=by
     exact ⟨(Qby (Int.not_lt.1 q0)),trivial⟩
    by_cases q1:((↑plan.length:Int):Int)=r.seasons
    ·have s2:=Qhp (l:=plan) (p:=fun x=> inB x 0 (((Qew r.places.length:Nat):Int) - 1)) (i:=i) (by omega);exact (GoE.endsT okF hJ Qac hg0 (Q2Q B r plan i dJ0)
      ⟨(Qii q1),hp1⟩).cast (by (rw [s2];simp [*];done))
    ·have s2:=Qhp (l:=plan) (p:=fun x=> inB x 0 (((Qew r.places.length:Nat):Int) - 1)) (i:=i) (by omega);exact (GoE.endsT okF hJ Qac hg0 (Q0V B r plan i dJ0)
      ⟨(QhA q1),hp1⟩).cast (by (rw [s2];simp [*];done))
set_option maxHeartbeats 4000000 in
theorem Q34 (r:Qae) (plan:List Int) (hn:r.places.length<=61) (hfacts:plan.length<=9223372036854775807) {B:Lo} (hJ:∀w,B.has w->J0 w):EndsT YP B (Qaq YP 41 26 (([.agg (Qar r).toArray,slI plan]).map (Qa6 0 4))) (.bool (QaO r plan)):=by
 have e1:=Qg6 (n:=r.places.length) (by omega);exact ((Q10 r plan hn hfacts hJ _) (0) rfl (by omega)
  (GoE.start.landM okF hJ Qac (Q1M B r plan)
  trivial (by kernel_rfl) (by kernel_rfl))).cast (by (simp [QaO,Bool.and_comm];done))
theorem Q5y (r:Qae) (plan:List Int) (hn:r.places.length<=61):Qa3 YP J0 41 #[.agg (Qar r).toArray,slI plan] (.bool (QaO r plan)):=
 Qcy (ts:=[.agg (Qar r).toArray,slI plan]) (plan.length<=9223372036854775807) (fun _ _ ht=> ht.ln (i:=1) rfl) Qco (c0:=Qaq YP 41 26 (([.agg (Qar r).toArray,slI plan]).map (Qa6 0 4))) (by kernel_rfl) (by kernel_rfl) fun hfacts B hJ=> Q34 r plan hn hfacts hJ
def Qh8 (n k:Int) (x i:Int):List Value:=[.int .i64 x,.int .i64 k,.int .i64 i]
def Qes (n k:Int) (x i:Int):List Obj:=[]
def QhO:List Item:=([.code [1,0,1,0,0],.inLoop [1,0,1,0,0],.inBlock 0,.code [1,1]]).map (it (QaU YP 47))
def Q35 (B:Lo) (c0:CF) (n k:Int) (x i:Int):Prop:=∃dJ:Nat->Value,(∀t,QbB (dJ t))/\GoE YP B c0 H00 1 (QaL 47 16 (([0,1,5]:List Nat).zip (Qh8 n k x i)) dJ QhO) (QaG (Qes n k x i)) (2+(Qes n k x i).length) []
theorem Q4b (B:Lo) (n k:Int) (x i:Int) (dJ0:Nat->Value):landM (Qap YP (QaF YP) J0 B 11 1 (QaL 47 16 (([0,1,5]:List Nat).zip (Qh8 n k x i)) dJ0 QhO) (QaG (Qes n k x i)) (2+(Qes n k x i).length)
 [(2,hvT),(4,hvI (Int.tdiv x 2)),(7,hvI (i+1))] 0 [] []) [0,1,5] [] []=some ⟨47,16,QhO,[],.run,none,Qh8 n k (Int.tdiv x 2) (i+1),Qes n k (Int.tdiv x 2) (i+1),
 [wq (i+1)=i+1,IntKind.wrap .i64 (Int.tdiv x 2)=Int.tdiv x 2,ltq i k=true]⟩:=by kernel_rfl
def Qs9 (B:Lo) (n k:Int) (x i:Int) (dJ0:Nat->Value):List Prop:=[ltq i k=false]++([]:List Prop)
def Q0v (n k:Int) (x i:Int) (dJ0:Nat->Value):Qaw:=[(2,hvF)]
theorem Q3M (B:Lo) (n k:Int) (x i:Int) (dJ0:Nat->Value):Qbi (Qap YP (QaF YP) J0 B 9 1 (QaL 47 16 (([0,1,5]:List Nat).zip (Qh8 n k x i)) dJ0 QhO) (QaG (Qes n k x i)) (2+(Qes n k x i).length)
 (Q0v n k x i dJ0++[(5,hvT)]) 0 [] []) []=some (.bool true,
 [eqq (Int.tmod x 2) 1=true]++Qs9 B n k x i dJ0):=by kernel_rfl
theorem Q3Y (B:Lo) (n k:Int) (x i:Int) (dJ0:Nat->Value):Qbi (Qap YP (QaF YP) J0 B 9 1 (QaL 47 16 (([0,1,5]:List Nat).zip (Qh8 n k x i)) dJ0 QhO) (QaG (Qes n k x i)) (2+(Qes n k x i).length)
 (Q0v n k x i dJ0++[(5,hvF)]) 0 [] []) []=some (.bool false,
 [eqq (Int.tmod x 2) 1=false]++Qs9 B n k x i dJ0):=by kernel_rfl
theorem Q3K (B:Lo) (n k:Int):landM (Qap YP (QaF YP) J0 B 7 1 (Qaq YP 47 16 (([.int .i64 n,.int .i64 k]).map (Qa6 0 4))) H00 1
 [] 0 [] []) [0,1,5] [] []=some ⟨47,16,QhO,[],.run,none,Qh8 n k (n) (0),Qes n k (n) (0),
 []⟩:=by kernel_rfl
set_option maxHeartbeats 4000000 in
theorem Q4h (n k:Int) (hn:0<=n/\n<=1000000000) (hk:0<=k/\k<=1000000000) {B:Lo} (hJ:∀w,B.has w->J0 w) {c0:CF}:∀m:Nat,(∀(x i:Int),(k - i).toNat=m->∀(h0:0<=i) (h1:i<=k) (h2:0<=x/\x<=1000000000) (hx:hasB x (k - i)=hasB n k),Q35 B c0 n k x i->EndsT YP B c0 (.bool (hasB n k))):=by
 intro m0;induction m0 using Nat.strongRecOn with
 | _ m0 ih0=>
   intro x i hm0 h0 h1 h2 hx ⟨dJ0,hdJ0,hg0⟩;have e1:x.tdiv 2=x / 2:=Int.tdiv_eq_ediv_of_nonneg h2.1;have e2:x.tmod 2=x % 2:=Int.tmod_eq_emod_of_nonneg h2.1;have e4:=Q5V (n:=x) h2.1;by_cases q0:(i:Int) < (k)
   ·have e3:=Q20 (n:=x) (k:=k - i) h2.1 (by omega);exact ((ih0 _ (by omega)) (Int.tdiv x 2) (i+1) rfl (by omega) (by omega) (by omega) (by (rw [<-hx,e3,e1,show k - (i+1)=k - i - 1 by omega];done))
     (hg0.landM okF hJ Qac (Q4b B n k x i dJ0)
     ⟨(Qbj (by omega) (by omega)),⟨(QkE (by omega) (by omega)),⟨(Qbw q0),trivial⟩⟩⟩ (by kernel_rfl) (by kernel_rfl))).cast (by rfl)
   ·have hp0:QaA (Qs9 B n k x i dJ0):=by
     exact ⟨(Qby (Int.not_lt.1 q0)),trivial⟩
    by_cases q1:(Int.tmod x 2:Int)=(1)
    ·exact (GoE.endsT okF hJ Qac hg0 (Q3M B n k x i dJ0)
      ⟨(Qii q1),hp0⟩).cast (by (rw [<-hx,show k - i=0 by omega,e4];simp [*];omega))
    ·exact (GoE.endsT okF hJ Qac hg0 (Q3Y B n k x i dJ0)
      ⟨(QhA q1),hp0⟩).cast (by (rw [<-hx,show k - i=0 by omega,e4];simp [*];omega))
set_option maxHeartbeats 4000000 in
theorem Q5s (n k:Int) (hn:0<=n/\n<=1000000000) (hk:0<=k/\k<=1000000000) {B:Lo} (hJ:∀w,B.has w->J0 w):EndsT YP B (Qaq YP 47 16 (([.int .i64 n,.int .i64 k]).map (Qa6 0 4))) (.bool (hasB n k)):=by
 exact ((Q4h n k hn hk hJ _) (n) (0) rfl (by omega) (by omega) (by with_reducible assumption) (by (simp_all;done))
  (GoE.start.landM okF hJ Qac (Q3K B n k)
  trivial (by kernel_rfl) (by kernel_rfl))).cast (by rfl)
theorem Q6v (n k:Int) (hn:0<=n/\n<=1000000000) (hk:0<=k/\k<=1000000000):Qa3 YP J0 47 #[.int .i64 n,.int .i64 k] (.bool (hasB n k)):=
 Qbr (ts:=[.int .i64 n,.int .i64 k]) Qco (c0:=Qaq YP 47 16 (([.int .i64 n,.int .i64 k]).map (Qa6 0 4))) (by kernel_rfl) (by kernel_rfl) fun B hJ=> Q5s n k hn hk hJ
def Qih (B:Lo) (r:Qae) (plan:List Int):List Prop:=[wq ((↑(Qew (↑r.places.length:Int)):Int) - 1)=(↑(Qew (↑r.places.length:Int)):Int) - 1,Qs1 YP BinOp.shl 3 (.int .i64 1) (QcO {len:=16000,tr:=Tri.set 14 Tri.lf 14 (.int .i64 (↑r.places.length:Int))} 14) (.int .i64 (↑(Qew (↑r.places.length:Int)):Int)),eqq (↑plan.length:Int) r.seasons=true]++([]:List Prop)
def QlY (r:Qae) (plan:List Int):Qaw:=[(6,hvT),(12,Qan.bin (.int .i64 (↑(Qew (↑r.places.length:Int)):Int))),(13,hvI ((↑(Qew (↑r.places.length:Int)):Int) - 1))]
theorem QwC (B:Lo) (r:Qae) (plan:List Int):Qbi (Qap YP (QaF YP) J0 B 6 1 (Qaq YP 51 19 (([.agg (Qar r).toArray,slI plan]).map (Qa6 0 4))) H00 1
 (QlY r plan++[(14,Qan.pure (.bool true) [])]) 0 [] []) []=some (.bool true,
 [QaA []/\Qa3 YP J0 74 #[slT plan.length (Qai QaZ plan),.int .i64 0,.int .i64 ((↑(Qew (↑r.places.length:Int)):Int) - 1)] (.bool true)]++Qih B r plan):=by kernel_rfl
theorem QwG (B:Lo) (r:Qae) (plan:List Int):Qbi (Qap YP (QaF YP) J0 B 6 1 (Qaq YP 51 19 (([.agg (Qar r).toArray,slI plan]).map (Qa6 0 4))) H00 1
 (QlY r plan++[(14,Qan.pure (.bool false) [])]) 0 [] []) []=some (.bool false,
 [QaA []/\Qa3 YP J0 74 #[slT plan.length (Qai QaZ plan),.int .i64 0,.int .i64 ((↑(Qew (↑r.places.length:Int)):Int) - 1)] (.bool false)]++Qih B r plan):=by kernel_rfl
theorem Qwv (B:Lo) (r:Qae) (plan:List Int):Qbi (Qap YP (QaF YP) J0 B 6 1 (Qaq YP 51 19 (([.agg (Qar r).toArray,slI plan]).map (Qa6 0 4))) H00 1
 [(6,hvF)] 0 [] []) []=some (.bool false,
 [eqq (↑plan.length:Int) r.seasons=false]):=by kernel_rfl
set_option maxHeartbeats 4000000 in
theorem Qy5 (r:Qae) (plan:List Int) (hn:r.places.length<=61) (hfacts:plan.length<=9223372036854775807) {B:Lo} (hJ:∀w,B.has w->J0 w):EndsT YP B (Qaq YP 51 19 (([.agg (Qar r).toArray,slI plan]).map (Qa6 0 4))) (.bool (QaO r plan)):=by
 have e1:=Qg6 (n:=r.places.length) (by omega);by_cases q0:((↑plan.length:Int):Int)=r.seasons
 ·have hp0:QaA (Qih B r plan):=by
   exact ⟨(Qbj (by omega) (by omega)),⟨(Q2m (by omega) (by omega)),⟨(Qii q0),trivial⟩⟩⟩
  cases q1:List.all plan fun x=> inB x 0 ((↑(Qew (↑r.places.length:Int)):Int) - 1) with
  | true=>
    exact (GoE.endsT okF hJ Qac GoE.start (QwC B r plan)
     ⟨⟨trivial,(by have t_:=Q2T (plan) (0) ((↑(Qew (↑r.places.length:Int)):Int) - 1);rw [q1] at t_;exact t_)⟩,hp0⟩).cast (by (simp [QaO, *];done))
  | false=>
    exact (GoE.endsT okF hJ Qac GoE.start (QwG B r plan)
     ⟨⟨trivial,(by have t_:=Q2T (plan) (0) ((↑(Qew (↑r.places.length:Int)):Int) - 1);rw [q1] at t_;exact t_)⟩,hp0⟩).cast (by (simp [QaO, *];done))
 ·exact (GoE.endsT okF hJ Qac GoE.start (Qwv B r plan)
   ⟨(QhA q0),trivial⟩).cast (by (simp [QaO, *];done))
theorem Qz2 (r:Qae) (plan:List Int) (hn:r.places.length<=61):Qa3 YP J0 51 #[.agg (Qar r).toArray,slI plan] (.bool (QaO r plan)):=
 Qcy (ts:=[.agg (Qar r).toArray,slI plan]) (plan.length<=9223372036854775807) (fun _ _ ht=> ht.ln (i:=1) rfl) Qco (c0:=Qaq YP 51 19 (([.agg (Qar r).toArray,slI plan]).map (Qa6 0 4))) (by kernel_rfl) (by kernel_rfl) fun hfacts B hJ=> Qy5 r plan hn hfacts hJ
theorem QqG (B:Lo) (r:Qae) (plan:List Int):Qbi (Qap YP (QaF YP) J0 B 10 1 (Qaq YP 52 13 (([.agg (Qar r).toArray,slI plan]).map (Qa6 0 4))) H00 1
 [(9,Qan.tcpy #[Qa1 0 (slT r.places.length (Qai Qad r.places)),.int .i64 r.miss,.int .i64 r.seasons,.int .i64 (plan.getD 0 default),.int .i64 (plan.getD 1 default),.int .i64 (plan.getD 2 default),.int .i64 (plan.getD 3 default)])] 0 [] []) []=some (.agg #[slT r.places.length (Qai Qad r.places),.int .i64 r.miss,.int .i64 r.seasons,.int .i64 (plan.getD 0 default),.int .i64 (plan.getD 1 default),.int .i64 (plan.getD 2 default),.int .i64 (plan.getD 3 default)],
 [0 < List.length plan/\3+Nat.min plan.length 4 * TypeInfo.size Try.t3<=Array.size #[Qa1 0 (slT r.places.length (Qai Qad r.places)),.int .i64 r.miss,.int .i64 r.seasons,.int .i64 0,.int .i64 0,.int .i64 0,.int .i64 0]/\Nat.min plan.length 4 * TypeInfo.size Try.t3<=Array.size (Qai QaZ plan)/\(Array.all (Qai QaZ plan) fun v=> simple v || Qd4 v)=true/\ones (Array.map (Qc5 0) (Array.extract (Qai QaZ plan) 0 (Nat.min plan.length 4 * TypeInfo.size Try.t3)))=true/\splice #[Qa1 0 (slT r.places.length (Qai Qad r.places)),.int .i64 r.miss,.int .i64 r.seasons,.int .i64 0,.int .i64 0,.int .i64 0,.int .i64 0] 3 (Array.map (Qc5 0) (Array.extract (Qai QaZ plan) 0 (Nat.min plan.length 4 * TypeInfo.size Try.t3)))=#[Qa1 0 (slT r.places.length (Qai Qad r.places)),.int .i64 r.miss,.int .i64 r.seasons,.int .i64 (plan.getD 0 default),.int .i64 (plan.getD 1 default),.int .i64 (plan.getD 2 default),.int .i64 (plan.getD 3 default)]]):=by kernel_rfl
set_option maxHeartbeats 4000000 in
theorem Qsu (r:Qae) (plan:List Int) (h0:0 < plan.length) (hl:plan.length<=4) {B:Lo} (hJ:∀w,B.has w->J0 w):EndsT YP B (Qaq YP 52 13 (([.agg (Qar r).toArray,slI plan]).map (Qa6 0 4))) (.agg (QaY r plan).toArray):=by
 exact (GoE.endsT okF hJ Qac GoE.start (QqG B r plan)
  ⟨(Qwm (fun _=> rfl) rfl (by omega) (by omega) rfl (YL rfl) rfl),trivial⟩).cast (by rfl)
theorem Q0x (r:Qae) (plan:List Int) (h0:0 < plan.length) (hl:plan.length<=4):Qa3 YP J0 52 #[.agg (Qar r).toArray,slI plan] (.agg (QaY r plan).toArray):=
 Qbr (ts:=[.agg (Qar r).toArray,slI plan]) Qco (c0:=Qaq YP 52 13 (([.agg (Qar r).toArray,slI plan]).map (Qa6 0 4))) (by kernel_rfl) (by kernel_rfl) fun B hJ=> Qsu r plan h0 hl hJ
theorem QyR (B:Lo) (r:Qae):Qbi (Qap YP (QaF YP) J0 B 6 1 (Qaq YP 15 7 (([.agg (Qar r).toArray]).map (Qa6 0 4))) H00 1
 [(5,hvT)] 0 [] []) []=some (.bool true,
 [(!ltq 8 (↑r.places.length:Int))=true]):=by kernel_rfl
theorem QyZ (B:Lo) (r:Qae):Qbi (Qap YP (QaF YP) J0 B 6 1 (Qaq YP 15 7 (([.agg (Qar r).toArray]).map (Qa6 0 4))) H00 1
 [(5,hvF)] 0 [] []) []=some (.bool false,
 [(!ltq 8 (↑r.places.length:Int))=false]):=by kernel_rfl
set_option maxHeartbeats 4000000 in
theorem Q0S (r:Qae)  (hfacts:r.places.length<=9223372036854775807) {B:Lo} (hJ:∀w,B.has w->J0 w):EndsT YP B (Qaq YP 15 7 (([.agg (Qar r).toArray]).map (Qa6 0 4))) (.bool (decide (r.places.length<=8))):=by
 by_cases q0:((↑r.places.length:Int):Int)<=(8)
 ·exact (GoE.endsT okF hJ Qac GoE.start (QyR B r)
   ⟨(Qdg q0),trivial⟩).cast (by (simp_all [];omega))
 ·exact (GoE.endsT okF hJ Qac GoE.start (QyZ B r)
   ⟨(Qeh (Int.not_le.1 q0)),trivial⟩).cast (by (simp_all [];omega))
theorem QjN (r:Qae)  :Qa3 YP J0 15 #[.agg (Qar r).toArray] (.bool (decide (r.places.length<=8))):=
 Qcy (ts:=[.agg (Qar r).toArray]) (r.places.length<=9223372036854775807) (fun _ _ ht=> ht.ln2 (i:=0) (j:=0) rfl rfl) Qco (c0:=Qaq YP 15 7 (([.agg (Qar r).toArray]).map (Qa6 0 4))) (by kernel_rfl) (by kernel_rfl) fun hfacts B hJ=> Q0S r  hfacts hJ
def Qhm (r:Qae):Array Value:=#[slT r.places.length (Qai Qad r.places),.int .i64 r.miss,.int .i64 r.seasons]
def Qls (B:Lo) (r:Qae) (plan:List Int):List Prop:=[QaA []/\Qa3 YP J0 20 #[.agg (Qhm r)] (.bool true)]++([]:List Prop)
def Qqh (r:Qae) (plan:List Int):Qaw:=[(3,Qan.pure (.bool true) [])]
theorem QzL (B:Lo) (r:Qae) (plan:List Int):Qbi (Qap YP (QaF YP) J0 B 6 1 (Qaq YP 21 12 (([.agg (Qar r).toArray,slI plan]).map (Qa6 0 4))) H00 1
 (Qqh r plan++[(7,Qan.pure (.bool true) [])]) 0 [] []) []=some (.bool true,
 [QaA []/\Qa3 YP J0 41 #[.agg (Qhm r),slT plan.length (Qai QaZ plan)] (.bool true)]++Qls B r plan):=by kernel_rfl
theorem Qzn (B:Lo) (r:Qae) (plan:List Int):Qbi (Qap YP (QaF YP) J0 B 6 1 (Qaq YP 21 12 (([.agg (Qar r).toArray,slI plan]).map (Qa6 0 4))) H00 1
 (Qqh r plan++[(7,Qan.pure (.bool false) [])]) 0 [] []) []=some (.bool false,
 [QaA []/\Qa3 YP J0 41 #[.agg (Qhm r),slT plan.length (Qai QaZ plan)] (.bool false)]++Qls B r plan):=by kernel_rfl
theorem Q0g (B:Lo) (r:Qae) (plan:List Int):Qbi (Qap YP (QaF YP) J0 B 6 1 (Qaq YP 21 12 (([.agg (Qar r).toArray,slI plan]).map (Qa6 0 4))) H00 1
 [(3,Qan.pure (.bool false) [])] 0 [] []) []=some (.bool false,
 [QaA []/\Qa3 YP J0 20 #[.agg (Qhm r)] (.bool false)]):=by kernel_rfl
set_option maxHeartbeats 4000000 in
theorem Q2o (r:Qae) (plan:List Int)  {B:Lo} (hJ:∀w,B.has w->J0 w):EndsT YP B (Qaq YP 21 12 (([.agg (Qar r).toArray,slI plan]).map (Qa6 0 4))) (.bool (Qav r && QaO r plan)):=by
 cases q0:Qav r with
 | true=>
   have hp0:QaA (Qls B r plan):=by
    have hsz:=(Qau (Qal ‹Qav r=true›).1).1;exact ⟨⟨trivial,(by have t_:=Q5e (r);rw [q0] at t_;exact t_)⟩,trivial⟩
   cases q1:QaO r plan with
   | true=>
     have hsz:=(Qau (Qal ‹Qav r=true›).1).1;exact (GoE.endsT okF hJ Qac GoE.start (QzL B r plan)
      ⟨⟨trivial,(by have t_:=Q5y (r) (plan) (by omega);rw [q1] at t_;exact t_)⟩,hp0⟩).cast (by rfl)
   | false=>
     have hsz:=(Qau (Qal ‹Qav r=true›).1).1;exact (GoE.endsT okF hJ Qac GoE.start (Qzn B r plan)
      ⟨⟨trivial,(by have t_:=Q5y (r) (plan) (by omega);rw [q1] at t_;exact t_)⟩,hp0⟩).cast (by rfl)
 | false=>
   exact (GoE.endsT okF hJ Qac GoE.start (Q0g B r plan)
    ⟨⟨trivial,(by have t_:=Q5e (r);rw [q0] at t_;exact t_)⟩,trivial⟩).cast (by rfl)
theorem Qv4 (r:Qae) (plan:List Int)  :Qa3 YP J0 21 #[.agg (Qar r).toArray,slI plan] (.bool (Qav r && QaO r plan)):=
 Qbr (ts:=[.agg (Qar r).toArray,slI plan]) Qco (c0:=Qaq YP 21 12 (([.agg (Qar r).toArray,slI plan]).map (Qa6 0 4))) (by kernel_rfl) (by kernel_rfl) fun B hJ=> Q2o r plan  hJ
end
end Go.Proofs.Ytncjjangllkokaa

