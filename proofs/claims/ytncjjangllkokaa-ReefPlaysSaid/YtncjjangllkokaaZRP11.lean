/- Reef: small functions, of the program and the reference. -/
import Derived.Test.YtncjjangllkokaaZRP10
set_option linter.all false
namespace Go.Proofs.Ytncjjangllkokaa
open Go Go.CE Go.RowKit
noncomputable section
set_option maxRecDepth 100000
def inB (x lo hi:Int):Bool:=decide (lo<=x) && decide (x<=hi)
theorem Qhz {x lo hi:Int}:inB x lo hi=true<->lo<=x/\x<=hi:=by simp [inB]
structure Span where
 lo:Int
 hi:Int
deriving Inhabited
def QaA (s:Span):List Value:=[.int .i64 s.lo,.int .i64 s.hi]
abbrev QpS (xs:List Span):Value:=slT xs.length (Qae QaA xs)
def Qdt (a b lo hi:Int):Bool:=decide (lo<=a) && (decide (a<=b) && decide (b<=hi))
theorem QvT {a b lo hi:Int}:Qdt a b lo hi=true<->lo<=a/\a<=b/\b<=hi:=by simp [Qdt]
theorem QeA {α:Type} [Inhabited α] {l:List α} {i:Int} {p:α->Bool} (h0:0<=i) (h:i < l.length):(l.drop i.toNat).all p=(p (l.getD i.toNat default) && (l.drop (i+1).toNat).all p):=by
 obtain ⟨k,rfl⟩:∃k:Nat,i=k:=⟨i.toNat,by omega⟩
 have hk:k < l.length:=by omega
 have e1:((k:Int)).toNat=k:=by omega
 have e2:((k:Int)+1).toNat=k+1:=by omega
 rw [e1,e2,List.drop_eq_getElem_cons hk,List.all_cons];simp [List.getD_eq_getElem?_getD,hk]
theorem QgY {α:Type} {l:List α} {i:Int} {p:α->Bool} (h:l.length<=i):(l.drop i.toNat).all p=true:=by
 rw [List.drop_eq_nil_of_le (by omega)];rfl
theorem QrW {p:Int->Bool} {a b:Int} (h:(upI a b).all p=true) {k:Int} (h1:a<=k) (h2:k < b):p k=true:=by
 refine List.all_eq_true.1 h k ?_;unfold upI;exact List.mem_map.2 ⟨(k - a).toNat,List.mem_range.2 (by omega),by omega⟩
def QiD {α β:Type} (f:α->β) (x0:β) (xs:List α) (i:Int):List β:=(xs.take i.toNat).map f++List.replicate (xs.length - i.toNat) x0
theorem Qsq {α β:Type} {f:α->β} {x0:β} {xs:List α}:List.replicate xs.length x0=QiD f x0 xs 0:=by simp [QiD]
theorem QjI {α β:Type} {f:α->β} {x0:β} {xs:List α} {i:Int}:(QiD f x0 xs i).length=xs.length:=by simp [QiD];omega
theorem Qjw {α β:Type} [Inhabited α] {f:α->β} {x0:β} {xs:List α} {i:Int} (h0:0<=i) (h:i < xs.length):(QiD f x0 xs i).set i.toNat (f (xs.getD i.toNat default))=QiD f x0 xs (i+1):=by
 obtain ⟨k,rfl⟩:∃k:Nat,i=k:=⟨i.toNat,by omega⟩
 have hk:k < xs.length:=by omega
 have e1:((k:Int)).toNat=k:=by omega
 have e2:((k:Int)+1).toNat=k+1:=by omega
 unfold QiD;rw [e1,e2];have hl:((xs.take k).map f).length=k:=by simp;omega
 rw [List.set_append_right _ _ (by omega),hl,Nat.sub_self];have er:xs.length - k=(xs.length - (k+1))+1:=by omega
 rw [er,List.replicate_succ,List.set_cons_zero];have et:xs.take (k+1)=xs.take k++[xs[k]]:=by rw [List.take_succ_eq_append_getElem hk]
 rw [et,List.map_append,List.append_assoc];simp [List.getD_eq_getElem?_getD,hk]
theorem Qjt {α β:Type} {f:α->β} {x0:β} {xs:List α} {i:Int} (h:xs.length<=i):QiD f x0 xs i=xs.map f:=by
 unfold QiD;rw [List.take_of_length_le (by omega),show xs.length - i.toNat=0 by omega];simp
theorem Qso {β:Type} {e:β->List Value} {ys zs:List β} {n:Nat} (h:ys=zs) (hn:n=zs.length):slT n (Qae e ys)=slT zs.length (Qae e zs):=by subst h hn;rfl
def Q0I:List Int->Int
 | []=> 0
 | x::l=> x+Q0I l
def QvN (B:Lo) (x lo hi:Int):List Prop:=[(!ltq x lo)=true]++([]:List Prop)
def Q0Z (x lo hi:Int):Qax:=[(3,hvT)]
theorem Q3F (B:Lo) (x lo hi:Int):Qbd (Qam YP (Qa3 YP) J0 B 6 1 (Qaj YP 55 15 (([.int .i64 x,.int .i64 lo,.int .i64 hi]).map (Qau 0 4))) H00 1
 (Q0Z x lo hi++[(7,hvT)]) 0 [] []) []=some (.bool true,
 [(!ltq hi x)=true]++QvN B x lo hi):=by kernel_rfl
theorem Q3r (B:Lo) (x lo hi:Int):Qbd (Qam YP (Qa3 YP) J0 B 6 1 (Qaj YP 55 15 (([.int .i64 x,.int .i64 lo,.int .i64 hi]).map (Qau 0 4))) H00 1
 (Q0Z x lo hi++[(7,hvF)]) 0 [] []) []=some (.bool false,
 [(!ltq hi x)=false]++QvN B x lo hi):=by kernel_rfl
theorem Q3G (B:Lo) (x lo hi:Int):Qbd (Qam YP (Qa3 YP) J0 B 6 1 (Qaj YP 55 15 (([.int .i64 x,.int .i64 lo,.int .i64 hi]).map (Qau 0 4))) H00 1
 [(3,hvF)] 0 [] []) []=some (.bool false,
 [(!ltq x lo)=false]):=by kernel_rfl
set_option maxHeartbeats 4000000 in
theorem Q4l (x lo hi:Int)  {B:Lo} (hJ:∀w,B.has w->J0 w):EndsT YP B (Qaj YP 55 15 (([.int .i64 x,.int .i64 lo,.int .i64 hi]).map (Qau 0 4))) (.bool (inB x lo hi)):=by
 by_cases q0:(lo:Int)<=(x)
 ·have hp0:Qa2 (QvN B x lo hi):=by
   exact ⟨(Qd2 q0),trivial⟩
  by_cases q1:(x:Int)<=(hi)
  ·exact (GoE.endsT okF hJ Qab GoE.start (Q3F B x lo hi)
    ⟨(Qd2 q1),hp0⟩).cast (by (simp [inB, *];done))
  ·exact (GoE.endsT okF hJ Qab GoE.start (Q3r B x lo hi)
    ⟨(Qd3 (Int.not_le.1 q1)),hp0⟩).cast (by (simp [inB, *];done))
 ·exact (GoE.endsT okF hJ Qab GoE.start (Q3G B x lo hi)
   ⟨(Qd3 (Int.not_le.1 q0)),trivial⟩).cast (by (simp [inB, *];done))
theorem rin (x lo hi:Int)  :Qaw YP J0 55 #[.int .i64 x,.int .i64 lo,.int .i64 hi] (.bool (inB x lo hi)):=
 QaV (ts:=[.int .i64 x,.int .i64 lo,.int .i64 hi]) QbS (c0:=Qaj YP 55 15 (([.int .i64 x,.int .i64 lo,.int .i64 hi]).map (Qau 0 4))) (by kernel_rfl) (by kernel_rfl) fun B hJ=> Q4l x lo hi  hJ
def Qor (B:Lo) (a b most:Int):List Prop:=[(!ltq a 0)=true]++([]:List Prop)
def Qtj (a b most:Int):Qax:=[(4,hvT)]
def QnO (B:Lo) (a b most:Int):List Prop:=[(!ltq b a)=true]++Qor B a b most
def QsF (a b most:Int):Qax:=Qtj a b most++[(10,hvT)]
theorem Qy5 (B:Lo) (a b most:Int):Qbd (Qam YP (Qa3 YP) J0 B 6 1 (Qaj YP 56 21 (([.agg #[.int .i64 a,.int .i64 b],.int .i64 most]).map (Qau 0 4))) H00 1
 (QsF a b most++[(16,hvT)]) 0 [] []) []=some (.bool true,
 [(!ltq most b)=true]++QnO B a b most):=by kernel_rfl
theorem QzP (B:Lo) (a b most:Int):Qbd (Qam YP (Qa3 YP) J0 B 6 1 (Qaj YP 56 21 (([.agg #[.int .i64 a,.int .i64 b],.int .i64 most]).map (Qau 0 4))) H00 1
 (QsF a b most++[(16,hvF)]) 0 [] []) []=some (.bool false,
 [(!ltq most b)=false]++QnO B a b most):=by kernel_rfl
theorem Qyu (B:Lo) (a b most:Int):Qbd (Qam YP (Qa3 YP) J0 B 6 1 (Qaj YP 56 21 (([.agg #[.int .i64 a,.int .i64 b],.int .i64 most]).map (Qau 0 4))) H00 1
 (Qtj a b most++[(10,hvF)]) 0 [] []) []=some (.bool false,
 [(!ltq b a)=false]++Qor B a b most):=by kernel_rfl
theorem Q0z (B:Lo) (a b most:Int):Qbd (Qam YP (Qa3 YP) J0 B 6 1 (Qaj YP 56 21 (([.agg #[.int .i64 a,.int .i64 b],.int .i64 most]).map (Qau 0 4))) H00 1
 [(4,hvF)] 0 [] []) []=some (.bool false,
 [(!ltq a 0)=false]):=by kernel_rfl
set_option maxHeartbeats 4000000 in
theorem Q2n (a b most:Int)  {B:Lo} (hJ:∀w,B.has w->J0 w):EndsT YP B (Qaj YP 56 21 (([.agg #[.int .i64 a,.int .i64 b],.int .i64 most]).map (Qau 0 4))) (.bool (Qdt a b 0 most)):=by
 by_cases q0:(0:Int)<=(a)
 ·have hp0:Qa2 (Qor B a b most):=by
   exact ⟨(Qd2 q0),trivial⟩
  by_cases q1:(a:Int)<=(b)
  ·have hp1:Qa2 (QnO B a b most):=by
    exact ⟨(Qd2 q1),hp0⟩
   by_cases q2:(b:Int)<=(most)
   ·exact (GoE.endsT okF hJ Qab GoE.start (Qy5 B a b most)
     ⟨(Qd2 q2),hp1⟩).cast (by (simp [Qdt, *];done))
   ·exact (GoE.endsT okF hJ Qab GoE.start (QzP B a b most)
     ⟨(Qd3 (Int.not_le.1 q2)),hp1⟩).cast (by (simp [Qdt, *];done))
  ·exact (GoE.endsT okF hJ Qab GoE.start (Qyu B a b most)
    ⟨(Qd3 (Int.not_le.1 q1)),hp0⟩).cast (by (simp [Qdt, *];done))
 ·exact (GoE.endsT okF hJ Qab GoE.start (Q0z B a b most)
   ⟨(Qd3 (Int.not_le.1 q0)),trivial⟩).cast (by (simp [Qdt, *];done))
theorem QuF (a b most:Int)  :Qaw YP J0 56 #[.agg #[.int .i64 a,.int .i64 b],.int .i64 most] (.bool (Qdt a b 0 most)):=
 QaV (ts:=[.agg #[.int .i64 a,.int .i64 b],.int .i64 most]) QbS (c0:=Qaj YP 56 21 (([.agg #[.int .i64 a,.int .i64 b],.int .i64 most]).map (Qau 0 4))) (by kernel_rfl) (by kernel_rfl) fun B hJ=> Q2n a b most  hJ
def Qwk (B:Lo) (n lo hi:Int):List Prop:=[(!ltq n lo)=true]++([]:List Prop)
def Q0L (n lo hi:Int):Qax:=[(3,hvT)]
theorem Q2P (B:Lo) (n lo hi:Int):Qbd (Qam YP (Qa3 YP) J0 B 6 1 (Qaj YP 72 15 (([.int .i64 n,.int .i64 lo,.int .i64 hi]).map (Qau 0 4))) H00 1
 (Q0L n lo hi++[(7,hvT)]) 0 [] []) []=some (.bool true,
 [(!ltq hi n)=true]++Qwk B n lo hi):=by kernel_rfl
theorem Q3c (B:Lo) (n lo hi:Int):Qbd (Qam YP (Qa3 YP) J0 B 6 1 (Qaj YP 72 15 (([.int .i64 n,.int .i64 lo,.int .i64 hi]).map (Qau 0 4))) H00 1
 (Q0L n lo hi++[(7,hvF)]) 0 [] []) []=some (.bool false,
 [(!ltq hi n)=false]++Qwk B n lo hi):=by kernel_rfl
theorem Q3b (B:Lo) (n lo hi:Int):Qbd (Qam YP (Qa3 YP) J0 B 6 1 (Qaj YP 72 15 (([.int .i64 n,.int .i64 lo,.int .i64 hi]).map (Qau 0 4))) H00 1
 [(3,hvF)] 0 [] []) []=some (.bool false,
 [(!ltq n lo)=false]):=by kernel_rfl
set_option maxHeartbeats 4000000 in
theorem Q4f (n lo hi:Int)  {B:Lo} (hJ:∀w,B.has w->J0 w):EndsT YP B (Qaj YP 72 15 (([.int .i64 n,.int .i64 lo,.int .i64 hi]).map (Qau 0 4))) (.bool (inB n lo hi)):=by
 by_cases q0:(lo:Int)<=(n)
 ·have hp0:Qa2 (Qwk B n lo hi):=by
   exact ⟨(Qd2 q0),trivial⟩
  by_cases q1:(n:Int)<=(hi)
  ·exact (GoE.endsT okF hJ Qab GoE.start (Q2P B n lo hi)
    ⟨(Qd2 q1),hp0⟩).cast (by (simp [inB, *];done))
  ·exact (GoE.endsT okF hJ Qab GoE.start (Q3c B n lo hi)
    ⟨(Qd3 (Int.not_le.1 q1)),hp0⟩).cast (by (simp [inB, *];done))
 ·exact (GoE.endsT okF hJ Qab GoE.start (Q3b B n lo hi)
   ⟨(Qd3 (Int.not_le.1 q0)),trivial⟩).cast (by (simp [inB, *];done))
theorem pIn (n lo hi:Int)  :Qaw YP J0 72 #[.int .i64 n,.int .i64 lo,.int .i64 hi] (.bool (inB n lo hi)):=
 QaV (ts:=[.int .i64 n,.int .i64 lo,.int .i64 hi]) QbS (c0:=Qaj YP 72 15 (([.int .i64 n,.int .i64 lo,.int .i64 hi]).map (Qau 0 4))) (by kernel_rfl) (by kernel_rfl) fun B hJ=> Q4f n lo hi  hJ
def Qe3 (xs:List Int) (lo hi:Int) (i:Int):List Value:=[.int .i64 lo,.int .i64 hi,Qaq 1 (slT xs.length (Qae Qav xs)),.int .i64 (↑xs.length:Int),.int .i64 i]
def Qc1 (xs:List Int) (lo hi:Int) (i:Int):List Obj:=[]
def Qe8:List Item:=([.code [1,0,1,0,0],.inLoop [1,0,1,0,0],.inBlock 0,.code [1,1]]).map (it (QaB YP 74))
def Qxq (B:Lo) (c0:CF) (xs:List Int) (lo hi:Int) (i:Int):Prop:=∃dJ:Nat->Value,(∀t,Qbi (dJ t))/\GoE YP B c0 H00 1 (Qa8 74 21 (([1,2,9,10,11]:List Nat).zip (Qe3 xs lo hi i)) dJ Qe8) (Qa6 (Qc1 xs lo hi i)) (2+(Qc1 xs lo hi i).length) []
def Qka (B:Lo) (xs:List Int) (lo hi:Int) (i:Int) (dJ0:Nat->Value):List Prop:=[i=(↑i.toNat:Int)/\Int.toNat i < List.length xs/\Array.extract (Qae Qav xs) (Int.toNat i * TypeInfo.size Try.t3) (Int.toNat i * TypeInfo.size Try.t3+TypeInfo.size Try.t3)=#[.int .i64 (xs.getD i.toNat default)],ltq i (↑xs.length:Int)=true]++([]:List Prop)
def QoA (xs:List Int) (lo hi:Int) (i:Int) (dJ0:Nat->Value):Qax:=[(0,hvT),(1,Qai.tidx i.toNat #[.int .i64 (xs.getD i.toNat default)])]
theorem QwZ (B:Lo) (xs:List Int) (lo hi:Int) (i:Int) (dJ0:Nat->Value):landM (Qam YP (Qa3 YP) J0 B 16 1 (Qa8 74 21 (([1,2,9,10,11]:List Nat).zip (Qe3 xs lo hi i)) dJ0 Qe8) (Qa6 (Qc1 xs lo hi i)) (2+(Qc1 xs lo hi i).length)
 (QoA xs lo hi i dJ0++[(7,Qai.pure (.bool true) []),(9,hvI (i+1))]) 0 [] []) [1,2,9,10,11] [] []=some ⟨74,21,Qe8,[],.run,none,Qe3 xs lo hi (i+1),Qc1 xs lo hi (i+1),
 [wq (i+1)=i+1,Qa2 []/\Qaw YP J0 72 #[.int .i64 (xs.getD i.toNat default),.int .i64 lo,.int .i64 hi] (.bool true)]++Qka B xs lo hi i dJ0⟩:=by kernel_rfl
theorem QwS (B:Lo) (xs:List Int) (lo hi:Int) (i:Int) (dJ0:Nat->Value):Qbd (Qam YP (Qa3 YP) J0 B 16 1 (Qa8 74 21 (([1,2,9,10,11]:List Nat).zip (Qe3 xs lo hi i)) dJ0 Qe8) (Qa6 (Qc1 xs lo hi i)) (2+(Qc1 xs lo hi i).length)
 (QoA xs lo hi i dJ0++[(7,Qai.pure (.bool false) [])]) 0 [] []) []=some (.bool false,
 [Qa2 []/\Qaw YP J0 72 #[.int .i64 (xs.getD i.toNat default),.int .i64 lo,.int .i64 hi] (.bool false)]++Qka B xs lo hi i dJ0):=by kernel_rfl
theorem QxS (B:Lo) (xs:List Int) (lo hi:Int) (i:Int) (dJ0:Nat->Value):Qbd (Qam YP (Qa3 YP) J0 B 9 1 (Qa8 74 21 (([1,2,9,10,11]:List Nat).zip (Qe3 xs lo hi i)) dJ0 Qe8) (Qa6 (Qc1 xs lo hi i)) (2+(Qc1 xs lo hi i).length)
 [(0,hvF)] 0 [] []) []=some (.bool true,
 [ltq i (↑xs.length:Int)=false]):=by kernel_rfl
theorem QxN (B:Lo) (xs:List Int) (lo hi:Int):landM (Qam YP (Qa3 YP) J0 B 7 1 (Qaj YP 74 21 (([slI xs,.int .i64 lo,.int .i64 hi]).map (Qau 0 4))) H00 1
 [] 0 [] []) [1,2,9,10,11] [] []=some ⟨74,21,Qe8,[],.run,none,Qe3 xs lo hi (0),Qc1 xs lo hi (0),
 []⟩:=by kernel_rfl
set_option maxHeartbeats 4000000 in
theorem Qvz (xs:List Int) (lo hi:Int)  (hfacts:xs.length<=9223372036854775807) {B:Lo} (hJ:∀w,B.has w->J0 w) {c0:CF}:∀m:Nat,(∀(i:Int),xs.length - i.toNat=m->∀(h0:0<=i),Qxq B c0 xs lo hi i->EndsT YP B c0 (.bool ((xs.drop i.toNat).all (fun x=> inB x lo hi)))):=by
 intro m0;induction m0 using Nat.strongRecOn with
 | _ m0 ih0=>
   intro i hm0 h0 ⟨dJ0,hdJ0,hg0⟩;by_cases q0:(i:Int) < ((↑xs.length:Int))
   ·have hp0:Qa2 (Qka B xs lo hi i dJ0):=by
     exact ⟨⟨by omega,by omega,(Qal (z:=1) (fun _=> rfl) (by omega))⟩,⟨(QbD q0),trivial⟩⟩
    cases q1:inB (xs.getD i.toNat default) lo hi with
    | true=>
      exact ((ih0 _ (by omega)) (i+1) rfl (by omega)
       (hg0.landM okF hJ Qab (QwZ B xs lo hi i dJ0)
       ⟨(QaH (by omega) (by omega)),⟨⟨trivial,(by have t_:=pIn (xs.getD i.toNat default) (lo) (hi);rw [q1] at t_;exact t_)⟩,hp0⟩⟩ (by kernel_rfl) (by kernel_rfl))).cast (by (rw [QsO (i:=i)];(· simp_all);(· omega);(· omega)))
    | false=>
      exact (GoE.endsT okF hJ Qab hg0 (QwS B xs lo hi i dJ0)
       ⟨⟨trivial,(by have t_:=pIn (xs.getD i.toNat default) (lo) (hi);rw [q1] at t_;exact t_)⟩,hp0⟩).cast (by (rw [QsO (i:=i)];(· simp_all);(· omega);(· omega)))
   ·exact (GoE.endsT okF hJ Qab hg0 (QxS B xs lo hi i dJ0)
     ⟨(QbI (Int.not_lt.1 q0)),trivial⟩).cast (by (rw [QyK (i:=i)];(· simp_all);(· omega)))
set_option maxHeartbeats 4000000 in
theorem QyB (xs:List Int) (lo hi:Int)  (hfacts:xs.length<=9223372036854775807) {B:Lo} (hJ:∀w,B.has w->J0 w):EndsT YP B (Qaj YP 74 21 (([slI xs,.int .i64 lo,.int .i64 hi]).map (Qau 0 4))) (.bool (xs.all (fun x=> inB x lo hi))):=by
 exact ((Qvz xs lo hi hfacts hJ _) (0) rfl (by omega)
  (GoE.start.landM okF hJ Qab (QxN B xs lo hi)
  trivial (by kernel_rfl) (by kernel_rfl))).cast (by rfl)
theorem Q1k (xs:List Int) (lo hi:Int)  :Qaw YP J0 74 #[slI xs,.int .i64 lo,.int .i64 hi] (.bool (xs.all (fun x=> inB x lo hi))):=
 QbY (ts:=[slI xs,.int .i64 lo,.int .i64 hi]) (xs.length<=9223372036854775807) (fun _ _ ht=> ht.ln (i:=0) rfl) QbS (c0:=Qaj YP 74 21 (([slI xs,.int .i64 lo,.int .i64 hi]).map (Qau 0 4))) (by kernel_rfl) (by kernel_rfl) fun hfacts B hJ=> QyB xs lo hi  hfacts hJ
theorem QtU (B:Lo) (n a b:Int):Qbd (Qam YP (Qa3 YP) J0 B 6 1 (Qaj YP 101 11 (([.int .i64 n,.agg #[.int .i64 a,.int .i64 b]]).map (Qau 0 4))) H00 1
 [(7,Qai.pure (.bool true) [])] 0 [] []) []=some (.bool true,
 [Qa2 []/\Qaw YP J0 72 #[.int .i64 n,.int .i64 a,.int .i64 b] (.bool true)]):=by kernel_rfl
theorem QtS (B:Lo) (n a b:Int):Qbd (Qam YP (Qa3 YP) J0 B 6 1 (Qaj YP 101 11 (([.int .i64 n,.agg #[.int .i64 a,.int .i64 b]]).map (Qau 0 4))) H00 1
 [(7,Qai.pure (.bool false) [])] 0 [] []) []=some (.bool false,
 [Qa2 []/\Qaw YP J0 72 #[.int .i64 n,.int .i64 a,.int .i64 b] (.bool false)]):=by kernel_rfl
set_option maxHeartbeats 4000000 in
theorem QxP (n a b:Int)  {B:Lo} (hJ:∀w,B.has w->J0 w):EndsT YP B (Qaj YP 101 11 (([.int .i64 n,.agg #[.int .i64 a,.int .i64 b]]).map (Qau 0 4))) (.bool (inB n a b)):=by
 cases q0:inB n a b with
 | true=>
   exact (GoE.endsT okF hJ Qab GoE.start (QtU B n a b)
    ⟨⟨trivial,(by have t_:=pIn (n) (a) (b);rw [q0] at t_;exact t_)⟩,trivial⟩).cast (by rfl)
 | false=>
   exact (GoE.endsT okF hJ Qab GoE.start (QtS B n a b)
    ⟨⟨trivial,(by have t_:=pIn (n) (a) (b);rw [q0] at t_;exact t_)⟩,trivial⟩).cast (by rfl)
theorem Qye (n a b:Int)  :Qaw YP J0 101 #[.int .i64 n,.agg #[.int .i64 a,.int .i64 b]] (.bool (inB n a b)):=
 QaV (ts:=[.int .i64 n,.agg #[.int .i64 a,.int .i64 b]]) QbS (c0:=Qaj YP 101 11 (([.int .i64 n,.agg #[.int .i64 a,.int .i64 b]]).map (Qau 0 4))) (by kernel_rfl) (by kernel_rfl) fun B hJ=> QxP n a b  hJ
def Qfm (B:Lo) (a b lo hi:Int):List Prop:=[(!ltq a lo)=true]++([]:List Prop)
def Qi9 (a b lo hi:Int):Qax:=[(5,hvT)]
def Qff (B:Lo) (a b lo hi:Int):List Prop:=[(!ltq b a)=true]++Qfm B a b lo hi
def Qih (a b lo hi:Int):Qax:=Qi9 a b lo hi++[(11,hvT)]
theorem Qpr (B:Lo) (a b lo hi:Int):Qbd (Qam YP (Qa3 YP) J0 B 6 1 (Qaj YP 114 24 (([.agg #[.int .i64 a,.int .i64 b],.int .i64 lo,.int .i64 hi]).map (Qau 0 4))) H00 1
 (Qih a b lo hi++[(17,hvT)]) 0 [] []) []=some (.bool true,
 [(!ltq hi b)=true]++Qff B a b lo hi):=by kernel_rfl
theorem QpM (B:Lo) (a b lo hi:Int):Qbd (Qam YP (Qa3 YP) J0 B 6 1 (Qaj YP 114 24 (([.agg #[.int .i64 a,.int .i64 b],.int .i64 lo,.int .i64 hi]).map (Qau 0 4))) H00 1
 (Qih a b lo hi++[(17,hvF)]) 0 [] []) []=some (.bool false,
 [(!ltq hi b)=false]++Qff B a b lo hi):=by kernel_rfl
theorem QoM (B:Lo) (a b lo hi:Int):Qbd (Qam YP (Qa3 YP) J0 B 6 1 (Qaj YP 114 24 (([.agg #[.int .i64 a,.int .i64 b],.int .i64 lo,.int .i64 hi]).map (Qau 0 4))) H00 1
 (Qi9 a b lo hi++[(11,hvF)]) 0 [] []) []=some (.bool false,
 [(!ltq b a)=false]++Qfm B a b lo hi):=by kernel_rfl
theorem QoO (B:Lo) (a b lo hi:Int):Qbd (Qam YP (Qa3 YP) J0 B 6 1 (Qaj YP 114 24 (([.agg #[.int .i64 a,.int .i64 b],.int .i64 lo,.int .i64 hi]).map (Qau 0 4))) H00 1
 [(5,hvF)] 0 [] []) []=some (.bool false,
 [(!ltq a lo)=false]):=by kernel_rfl
set_option maxHeartbeats 4000000 in
theorem Qrf (a b lo hi:Int)  {B:Lo} (hJ:∀w,B.has w->J0 w):EndsT YP B (Qaj YP 114 24 (([.agg #[.int .i64 a,.int .i64 b],.int .i64 lo,.int .i64 hi]).map (Qau 0 4))) (.bool (Qdt a b lo hi)):=by
 by_cases q0:(lo:Int)<=(a)
 ·have hp0:Qa2 (Qfm B a b lo hi):=by
   exact ⟨(Qd2 q0),trivial⟩
  by_cases q1:(a:Int)<=(b)
  ·have hp1:Qa2 (Qff B a b lo hi):=by
    exact ⟨(Qd2 q1),hp0⟩
   by_cases q2:(b:Int)<=(hi)
   ·exact (GoE.endsT okF hJ Qab GoE.start (Qpr B a b lo hi)
     ⟨(Qd2 q2),hp1⟩).cast (by (simp [Qdt, *];done))
   ·exact (GoE.endsT okF hJ Qab GoE.start (QpM B a b lo hi)
     ⟨(Qd3 (Int.not_le.1 q2)),hp1⟩).cast (by (simp [Qdt, *];done))
  ·exact (GoE.endsT okF hJ Qab GoE.start (QoM B a b lo hi)
    ⟨(Qd3 (Int.not_le.1 q1)),hp0⟩).cast (by (simp [Qdt, *];done))
 ·exact (GoE.endsT okF hJ Qab GoE.start (QoO B a b lo hi)
   ⟨(Qd3 (Int.not_le.1 q0)),trivial⟩).cast (by (simp [Qdt, *];done))
theorem QoQ (a b lo hi:Int)  :Qaw YP J0 114 #[.agg #[.int .i64 a,.int .i64 b],.int .i64 lo,.int .i64 hi] (.bool (Qdt a b lo hi)):=
 QaV (ts:=[.agg #[.int .i64 a,.int .i64 b],.int .i64 lo,.int .i64 hi]) QbS (c0:=Qaj YP 114 24 (([.agg #[.int .i64 a,.int .i64 b],.int .i64 lo,.int .i64 hi]).map (Qau 0 4))) (by kernel_rfl) (by kernel_rfl) fun B hJ=> Qrf a b lo hi  hJ
theorem Quu (B:Lo) (a b most:Int):Qbd (Qam YP (Qa3 YP) J0 B 6 1 (Qaj YP 96 8 (([.agg #[.int .i64 a,.int .i64 b],.int .i64 most]).map (Qau 0 4))) H00 1
 [(4,Qai.pure (.bool true) [])] 0 [] []) []=some (.bool true,
 [Qa2 []/\Qaw YP J0 114 #[.agg #[.int .i64 a,.int .i64 b],.int .i64 0,.int .i64 most] (.bool true)]):=by kernel_rfl
theorem Quq (B:Lo) (a b most:Int):Qbd (Qam YP (Qa3 YP) J0 B 6 1 (Qaj YP 96 8 (([.agg #[.int .i64 a,.int .i64 b],.int .i64 most]).map (Qau 0 4))) H00 1
 [(4,Qai.pure (.bool false) [])] 0 [] []) []=some (.bool false,
 [Qa2 []/\Qaw YP J0 114 #[.agg #[.int .i64 a,.int .i64 b],.int .i64 0,.int .i64 most] (.bool false)]):=by kernel_rfl
set_option maxHeartbeats 4000000 in
theorem Qvu (a b most:Int)  {B:Lo} (hJ:∀w,B.has w->J0 w):EndsT YP B (Qaj YP 96 8 (([.agg #[.int .i64 a,.int .i64 b],.int .i64 most]).map (Qau 0 4))) (.bool (Qdt a b 0 most)):=by
 cases q0:Qdt a b 0 most with
 | true=>
   exact (GoE.endsT okF hJ Qab GoE.start (Quu B a b most)
    ⟨⟨trivial,(by have t_:=QoQ (a) (b) (0) (most);rw [q0] at t_;exact t_)⟩,trivial⟩).cast (by rfl)
 | false=>
   exact (GoE.endsT okF hJ Qab GoE.start (Quq B a b most)
    ⟨⟨trivial,(by have t_:=QoQ (a) (b) (0) (most);rw [q0] at t_;exact t_)⟩,trivial⟩).cast (by rfl)
theorem Qh0 (a b most:Int)  :Qaw YP J0 96 #[.agg #[.int .i64 a,.int .i64 b],.int .i64 most] (.bool (Qdt a b 0 most)):=
 QaV (ts:=[.agg #[.int .i64 a,.int .i64 b],.int .i64 most]) QbS (c0:=Qaj YP 96 8 (([.agg #[.int .i64 a,.int .i64 b],.int .i64 most]).map (Qau 0 4))) (by kernel_rfl) (by kernel_rfl) fun B hJ=> Qvu a b most  hJ
theorem Q0s (B:Lo) (a r:Int):Qbd (Qam YP (Qa3 YP) J0 B 6 1 (Qaj YP 115 9 (([.int .i64 a,.int .i64 r]).map (Qau 0 4))) H00 1
 [(3,hvI (a * r)),(4,hvI (Int.tdiv (a * r) 1000))] 0 [] []) []=some (.int .i64 (Int.tdiv (a * r) 1000),
 [IntKind.wrap .i64 (Int.tdiv (a * r) 1000)=Int.tdiv (a * r) 1000,wq (a * r)=a * r]):=by kernel_rfl
set_option maxHeartbeats 4000000 in
theorem Q1T (a r:Int) (ha:0<=a/\a<=1000000000000) (hr:0<=r/\r<=1000000) {B:Lo} (hJ:∀w,B.has w->J0 w):EndsT YP B (Qaj YP 115 9 (([.int .i64 a,.int .i64 r]).map (Qau 0 4))) (.int .i64 ((a * r).tdiv 1000)):=by
 have e0:0<=a * r:=Int.mul_nonneg ha.1 hr.1;have e1:a * r<=1000000000000 * 1000000:=Int.mul_le_mul ha.2 hr.2 hr.1 (by omega);have e2:(a * r).tdiv 1000=(a * r) / 1000:=Int.tdiv_eq_ediv_of_nonneg e0;exact (GoE.endsT okF hJ Qab GoE.start (Q0s B a r)
  ⟨(Qfl (by omega) (by omega)),⟨(QaH (by omega) (by omega)),trivial⟩⟩).cast (by rfl)
theorem Q1Y (a r:Int) (ha:0<=a/\a<=1000000000000) (hr:0<=r/\r<=1000000):Qaw YP J0 115 #[.int .i64 a,.int .i64 r] (.int .i64 ((a * r).tdiv 1000)):=
 QaV (ts:=[.int .i64 a,.int .i64 r]) QbS (c0:=Qaj YP 115 9 (([.int .i64 a,.int .i64 r]).map (Qau 0 4))) (by kernel_rfl) (by kernel_rfl) fun B hJ=> Q1T a r ha hr hJ
theorem Qml (B:Lo) (a r:Int):Qbd (Qam YP (Qa3 YP) J0 B 6 1 (Qaj YP 100 10 (([.int .i64 a,.int .i64 r]).map (Qau 0 4))) H00 1
 [(4,Qai.pure (.int .i64 (Int.tdiv (a * r) 1000)) []),(5,hvI (a+Int.tdiv (a * r) 1000))] 0 [] []) []=some (.int .i64 (a+Int.tdiv (a * r) 1000),
 [wq (a+Int.tdiv (a * r) 1000)=a+Int.tdiv (a * r) 1000,Qa2 []/\Qaw YP J0 115 #[.int .i64 a,.int .i64 r] (.int .i64 (Int.tdiv (a * r) 1000))]):=by kernel_rfl
set_option maxHeartbeats 4000000 in
theorem Qpd (a r:Int) (ha:0<=a/\a<=1000000000000) (hr:0<=r/\r<=1000000) {B:Lo} (hJ:∀w,B.has w->J0 w):EndsT YP B (Qaj YP 100 10 (([.int .i64 a,.int .i64 r]).map (Qau 0 4))) (.int .i64 (a+(a * r).tdiv 1000)):=by
 have e0:0<=a * r:=Int.mul_nonneg ha.1 hr.1;have e1:a * r<=1000000000000 * 1000000:=Int.mul_le_mul ha.2 hr.2 hr.1 (by omega);have e2:(a * r).tdiv 1000=(a * r) / 1000:=Int.tdiv_eq_ediv_of_nonneg e0;exact (GoE.endsT okF hJ Qab GoE.start (Qml B a r)
  ⟨(QaH (by omega) (by omega)),⟨⟨trivial,Q1Y (a) (r) (by with_reducible assumption) (by with_reducible assumption)⟩,trivial⟩⟩).cast (by rfl)
theorem Qvb (a r:Int) (ha:0<=a/\a<=1000000000000) (hr:0<=r/\r<=1000000):Qaw YP J0 100 #[.int .i64 a,.int .i64 r] (.int .i64 (a+(a * r).tdiv 1000)):=
 QaV (ts:=[.int .i64 a,.int .i64 r]) QbS (c0:=Qaj YP 100 10 (([.int .i64 a,.int .i64 r]).map (Qau 0 4))) (by kernel_rfl) (by kernel_rfl) fun B hJ=> Qpd a r ha hr hJ
theorem Qql (B:Lo) (n:Int):Qbd (Qam YP (Qa3 YP) J0 B 6 1 (Qaj YP 95 5 (([.int .i64 n]).map (Qau 0 4))) H00 1
 [(2,Qai.pure (.bool true) [])] 0 [] []) []=some (.bool true,
 [Qa2 []/\Qaw YP J0 72 #[.int .i64 n,.int .i64 0,.int .i64 1000000] (.bool true)]):=by kernel_rfl
theorem QrR (B:Lo) (n:Int):Qbd (Qam YP (Qa3 YP) J0 B 6 1 (Qaj YP 95 5 (([.int .i64 n]).map (Qau 0 4))) H00 1
 [(2,Qai.pure (.bool false) [])] 0 [] []) []=some (.bool false,
 [Qa2 []/\Qaw YP J0 72 #[.int .i64 n,.int .i64 0,.int .i64 1000000] (.bool false)]):=by kernel_rfl
set_option maxHeartbeats 4000000 in
theorem Qvg (n:Int)  {B:Lo} (hJ:∀w,B.has w->J0 w):EndsT YP B (Qaj YP 95 5 (([.int .i64 n]).map (Qau 0 4))) (.bool (inB n 0 1000000)):=by
 cases q0:inB n 0 1000000 with
 | true=>
   exact (GoE.endsT okF hJ Qab GoE.start (Qql B n)
    ⟨⟨trivial,(by have t_:=pIn (n) (0) (1000000);rw [q0] at t_;exact t_)⟩,trivial⟩).cast (by rfl)
 | false=>
   exact (GoE.endsT okF hJ Qab GoE.start (QrR B n)
    ⟨⟨trivial,(by have t_:=pIn (n) (0) (1000000);rw [q0] at t_;exact t_)⟩,trivial⟩).cast (by rfl)
theorem QfB (n:Int)  :Qaw YP J0 95 #[.int .i64 n] (.bool (inB n 0 1000000)):=
 QaV (ts:=[.int .i64 n]) QbS (c0:=Qaj YP 95 5 (([.int .i64 n]).map (Qau 0 4))) (by kernel_rfl) (by kernel_rfl) fun B hJ=> Qvg n  hJ
end
end Go.Proofs.Ytncjjangllkokaa

namespace Go.Proofs.Ytncjjangllkokaa
open Go Go.CE Go.RowKit
noncomputable section
set_option maxRecDepth 100000
structure Qaa where
 count:Int
 room:Int
 glo:Int
 ghi:Int
 drift:Int
 into:Int
 olo:Int
 ohi:Int
 slo:Int
 shi:Int
 goal:Int
 worth:Int
deriving Inhabited
structure Qaf where
 places:List Qaa
 miss:Int
 seasons:Int
deriving Inhabited
structure Qah where
 starts:List Int
 grows:List (List Int)
 takes:List (List Int)
deriving Inhabited
def Qad (c:Qaa):List Value:=[.int .i64 c.count,.int .i64 c.room,.int .i64 c.glo,.int .i64 c.ghi,.int .i64 c.drift,.int .i64 c.into,.int .i64 c.olo,.int .i64 c.ohi,.int .i64 c.slo,.int .i64 c.shi,.int .i64 c.goal,.int .i64 c.worth]
abbrev slP (xs:List Qaa):Value:=slT xs.length (Qae Qad xs)
def Qak (r:Qaf):List Value:=[slP r.places,.int .i64 r.miss,.int .i64 r.seasons]
def Qb5 (x:Qaa):Bool:=inB x.count 0 1000000 && (inB x.room 0 1000000 && (inB x.goal 0 1000000 && (inB x.worth 0 1000000 && (Qdt x.glo x.ghi 0 2000 && (inB x.drift 0 1000 && (Qdt x.olo x.ohi 0 1000000 && (Qdt x.slo x.shi 0 1000000 && (decide (x.slo<=x.olo) && decide (x.shi<=x.ohi)))))))))
def Qhg (n v:Int):Bool:=decide (v= -1) || inB v 0 (n - 1)
theorem Q1Q {n v:Int} (h:0<=n):inB v (-1) (n - 1)=Qhg n v:=by
 unfold Qhg inB;by_cases e:v= -1
 ·subst e;simp;omega
 ·simp [e];by_cases h1:0<=v
  ·simp [h1];omega
  ·have:¬(-1<=v):=by omega
   simp [this,h1]
def QbA (n i:Int) (x:Qaa):Bool:=Qb5 x && (Qhg n x.into && !decide (x.into=i))
def Qf6 (ps:List Qaa) (i:Int):Bool:=(upI i ps.length).all fun k=> QbA ps.length k (ps.getD k.toNat default)
def QhL (r:Qaf):Bool:=inB r.places.length 1 4 && (inB r.miss 0 2000 && inB r.seasons 1 4)
def Qbm (r:Qaf):Bool:=QhL r && Qf6 r.places 0
def QbN (r:Qaf) (plan:List Int):Bool:=decide (plan.length=r.seasons) && plan.all fun x=> inB x 0 (((Qe0 r.places.length:Nat):Int) - 1)
theorem QaM {ps:List Qaa} {i:Int} (h:i < ps.length):Qf6 ps i=(QbA ps.length i (ps.getD i.toNat default) && Qf6 ps (i+1)):=by
 unfold Qf6;rw [Qn5 h,List.all_cons]
theorem QdB {ps:List Qaa} {i:Int} (h:ps.length<=i):Qf6 ps i=true:=by
 unfold Qf6;rw [Qnd h];rfl
theorem Qdc {x:Qaa} (h:Qb5 x=true):(0<=x.count/\x.count<=1000000)/\(0<=x.room/\x.room<=1000000)/\(0<=x.goal/\x.goal<=1000000)/\(0<=x.worth/\x.worth<=1000000)/\(0<=x.glo/\x.glo<=x.ghi/\x.ghi<=2000)/\(0<=x.drift/\x.drift<=1000)/\(0<=x.olo/\x.olo<=x.ohi/\x.ohi<=1000000)/\(0<=x.slo/\x.slo<=x.shi/\x.shi<=1000000)/\x.slo<=x.olo/\x.shi<=x.ohi:=by
 simp only [Qb5,YB,Qhz,QvT,decide_eq_true_iff] at h;omega
theorem Qbj {r:Qaf} (h:QhL r=true):(1<=r.places.length/\r.places.length<=4)/\(0<=r.miss/\r.miss<=2000)/\(1<=r.seasons/\r.seasons<=4):=by
 simp only [QhL,YB,Qhz] at h;omega
theorem QaL {r:Qaf} (h:Qbm r=true):QhL r=true/\∀k:Int,0<=k->k < r.places.length->Qb5 (r.places.getD k.toNat default)=true/\Qhg r.places.length (r.places.getD k.toNat default).into=true/\(r.places.getD k.toNat default).into≠k:=by
 simp only [Qbm,YB] at h;refine ⟨h.1,fun k h0 h1=> ?_⟩;have:=QrW h.2 h0 h1;simp only [QbA,YB,Bool.not_eq_true',decide_eq_false_iff_not] at this;exact ⟨this.1,this.2.1,this.2.2⟩
def Qgi (B:Lo) (x:Qaa):List Prop:=[Qa2 []/\Qaw YP J0 95 #[.int .i64 x.count] (.bool true)]++([]:List Prop)
def QjZ (x:Qaa):Qax:=[(4,Qai.pure (.bool true) [])]
def Qg6 (B:Lo) (x:Qaa):List Prop:=[Qa2 []/\Qaw YP J0 95 #[.int .i64 x.room] (.bool true)]++Qgi B x
def Qld (x:Qaa):Qax:=QjZ x++[(8,Qai.pure (.bool true) [])]
def Qgm (B:Lo) (x:Qaa):List Prop:=[Qa2 []/\Qaw YP J0 95 #[.int .i64 x.goal] (.bool true)]++Qg6 B x
def Qjl (x:Qaa):Qax:=Qld x++[(13,Qai.pure (.bool true) [])]
def Qgu (B:Lo) (x:Qaa):List Prop:=[Qa2 []/\Qaw YP J0 72 #[.int .i64 x.worth,.int .i64 0,.int .i64 1000000] (.bool true)]++Qgm B x
def QkN (x:Qaa):Qax:=Qjl x++[(18,Qai.pure (.bool true) [])]
def Qg3 (B:Lo) (x:Qaa):List Prop:=[Qa2 []/\Qaw YP J0 96 #[.agg #[.int .i64 x.glo,.int .i64 x.ghi],.int .i64 2000] (.bool true)]++Qgu B x
def QkB (x:Qaa):Qax:=QkN x++[(23,Qai.pure (.bool true) [])]
def Qgz (B:Lo) (x:Qaa):List Prop:=[Qa2 []/\Qaw YP J0 72 #[.int .i64 x.drift,.int .i64 0,.int .i64 1000] (.bool true)]++Qg3 B x
def Qjy (x:Qaa):Qax:=QkB x++[(28,Qai.pure (.bool true) [])]
def Qg7 (B:Lo) (x:Qaa):List Prop:=[Qa2 []/\Qaw YP J0 96 #[.agg #[.int .i64 x.olo,.int .i64 x.ohi],.int .i64 1000000] (.bool true)]++Qgz B x
def Qlp (x:Qaa):Qax:=Qjy x++[(33,Qai.pure (.bool true) [])]
def Qgr (B:Lo) (x:Qaa):List Prop:=[Qa2 []/\Qaw YP J0 96 #[.agg #[.int .i64 x.slo,.int .i64 x.shi],.int .i64 1000000] (.bool true)]++Qg7 B x
def Qjv (x:Qaa):Qax:=Qlp x++[(38,Qai.pure (.bool true) [])]
def Qgv (B:Lo) (x:Qaa):List Prop:=[(!ltq x.olo x.slo)=true]++Qgr B x
def Qll (x:Qaa):Qax:=Qjv x++[(47,hvT)]
theorem QqI (B:Lo) (x:Qaa):Qbd (Qam YP (Qa3 YP) J0 B 6 1 (Qaj YP 73 59 (([.agg (Qad x).toArray]).map (Qau 0 4))) H00 1
 (Qll x++[(56,hvT)]) 0 [] []) []=some (.bool true,
 [(!ltq x.ohi x.shi)=true]++Qgv B x):=by kernel_rfl
theorem Qsx (B:Lo) (x:Qaa):Qbd (Qam YP (Qa3 YP) J0 B 6 1 (Qaj YP 73 59 (([.agg (Qad x).toArray]).map (Qau 0 4))) H00 1
 (Qll x++[(56,hvF)]) 0 [] []) []=some (.bool false,
 [(!ltq x.ohi x.shi)=false]++Qgv B x):=by kernel_rfl
theorem Qrq (B:Lo) (x:Qaa):Qbd (Qam YP (Qa3 YP) J0 B 6 1 (Qaj YP 73 59 (([.agg (Qad x).toArray]).map (Qau 0 4))) H00 1
 (Qjv x++[(47,hvF)]) 0 [] []) []=some (.bool false,
 [(!ltq x.olo x.slo)=false]++Qgr B x):=by kernel_rfl
theorem Qse (B:Lo) (x:Qaa):Qbd (Qam YP (Qa3 YP) J0 B 6 1 (Qaj YP 73 59 (([.agg (Qad x).toArray]).map (Qau 0 4))) H00 1
 (Qlp x++[(38,Qai.pure (.bool false) [])]) 0 [] []) []=some (.bool false,
 [Qa2 []/\Qaw YP J0 96 #[.agg #[.int .i64 x.slo,.int .i64 x.shi],.int .i64 1000000] (.bool false)]++Qg7 B x):=by kernel_rfl
theorem Qrv (B:Lo) (x:Qaa):Qbd (Qam YP (Qa3 YP) J0 B 6 1 (Qaj YP 73 59 (([.agg (Qad x).toArray]).map (Qau 0 4))) H00 1
 (Qjy x++[(33,Qai.pure (.bool false) [])]) 0 [] []) []=some (.bool false,
 [Qa2 []/\Qaw YP J0 96 #[.agg #[.int .i64 x.olo,.int .i64 x.ohi],.int .i64 1000000] (.bool false)]++Qgz B x):=by kernel_rfl
theorem Qre (B:Lo) (x:Qaa):Qbd (Qam YP (Qa3 YP) J0 B 6 1 (Qaj YP 73 59 (([.agg (Qad x).toArray]).map (Qau 0 4))) H00 1
 (QkB x++[(28,Qai.pure (.bool false) [])]) 0 [] []) []=some (.bool false,
 [Qa2 []/\Qaw YP J0 72 #[.int .i64 x.drift,.int .i64 0,.int .i64 1000] (.bool false)]++Qg3 B x):=by kernel_rfl
theorem Qqo (B:Lo) (x:Qaa):Qbd (Qam YP (Qa3 YP) J0 B 6 1 (Qaj YP 73 59 (([.agg (Qad x).toArray]).map (Qau 0 4))) H00 1
 (QkN x++[(23,Qai.pure (.bool false) [])]) 0 [] []) []=some (.bool false,
 [Qa2 []/\Qaw YP J0 96 #[.agg #[.int .i64 x.glo,.int .i64 x.ghi],.int .i64 2000] (.bool false)]++Qgu B x):=by kernel_rfl
theorem Qqu (B:Lo) (x:Qaa):Qbd (Qam YP (Qa3 YP) J0 B 6 1 (Qaj YP 73 59 (([.agg (Qad x).toArray]).map (Qau 0 4))) H00 1
 (Qjl x++[(18,Qai.pure (.bool false) [])]) 0 [] []) []=some (.bool false,
 [Qa2 []/\Qaw YP J0 72 #[.int .i64 x.worth,.int .i64 0,.int .i64 1000000] (.bool false)]++Qgm B x):=by kernel_rfl
theorem Qqn (B:Lo) (x:Qaa):Qbd (Qam YP (Qa3 YP) J0 B 6 1 (Qaj YP 73 59 (([.agg (Qad x).toArray]).map (Qau 0 4))) H00 1
 (Qld x++[(13,Qai.pure (.bool false) [])]) 0 [] []) []=some (.bool false,
 [Qa2 []/\Qaw YP J0 95 #[.int .i64 x.goal] (.bool false)]++Qg6 B x):=by kernel_rfl
theorem QrH (B:Lo) (x:Qaa):Qbd (Qam YP (Qa3 YP) J0 B 6 1 (Qaj YP 73 59 (([.agg (Qad x).toArray]).map (Qau 0 4))) H00 1
 (QjZ x++[(8,Qai.pure (.bool false) [])]) 0 [] []) []=some (.bool false,
 [Qa2 []/\Qaw YP J0 95 #[.int .i64 x.room] (.bool false)]++Qgi B x):=by kernel_rfl
theorem QoX (B:Lo) (x:Qaa):Qbd (Qam YP (Qa3 YP) J0 B 6 1 (Qaj YP 73 59 (([.agg (Qad x).toArray]).map (Qau 0 4))) H00 1
 [(4,Qai.pure (.bool false) [])] 0 [] []) []=some (.bool false,
 [Qa2 []/\Qaw YP J0 95 #[.int .i64 x.count] (.bool false)]):=by kernel_rfl
set_option maxHeartbeats 4000000 in
theorem QtG (x:Qaa)  {B:Lo} (hJ:∀w,B.has w->J0 w):EndsT YP B (Qaj YP 73 59 (([.agg (Qad x).toArray]).map (Qau 0 4))) (.bool (Qb5 x)):=by
 cases q0:inB x.count 0 1000000 with
 | true=>
   have hp0:Qa2 (Qgi B x):=by
    exact ⟨⟨trivial,(by have t_:=QfB x.count;rw [q0] at t_;exact t_)⟩,trivial⟩
   cases q1:inB x.room 0 1000000 with
   | true=>
     have hp1:Qa2 (Qg6 B x):=by
      exact ⟨⟨trivial,(by have t_:=QfB x.room;rw [q1] at t_;exact t_)⟩,hp0⟩
     cases q2:inB x.goal 0 1000000 with
     | true=>
       have hp2:Qa2 (Qgm B x):=by
        exact ⟨⟨trivial,(by have t_:=QfB x.goal;rw [q2] at t_;exact t_)⟩,hp1⟩
       cases q3:inB x.worth 0 1000000 with
       | true=>
         have hp3:Qa2 (Qgu B x):=by
          exact ⟨⟨trivial,(by have t_:=pIn x.worth (0) (1000000);rw [q3] at t_;exact t_)⟩,hp2⟩
         cases q4:Qdt x.glo x.ghi 0 2000 with
         | true=>
           have hp4:Qa2 (Qg3 B x):=by
            exact ⟨⟨trivial,(by have t_:=Qh0 x.glo x.ghi (2000);rw [q4] at t_;exact t_)⟩,hp3⟩
           cases q5:inB x.drift 0 1000 with
           | true=>
             have hp5:Qa2 (Qgz B x):=by
              exact ⟨⟨trivial,(by have t_:=pIn x.drift (0) (1000);rw [q5] at t_;exact t_)⟩,hp4⟩
             cases q6:Qdt x.olo x.ohi 0 1000000 with
             | true=>
               have hp6:Qa2 (Qg7 B x):=by
                exact ⟨⟨trivial,(by have t_:=Qh0 x.olo x.ohi (1000000);rw [q6] at t_;exact t_)⟩,hp5⟩
               cases q7:Qdt x.slo x.shi 0 1000000 with
               | true=>
                 have hp7:Qa2 (Qgr B x):=by
                  exact ⟨⟨trivial,(by have t_:=Qh0 x.slo x.shi (1000000);rw [q7] at t_;exact t_)⟩,hp6⟩
                 by_cases q8:(x.slo:Int)<=x.olo
                 ·have hp8:Qa2 (Qgv B x):=by
                   exact ⟨(Qd2 q8),hp7⟩
                  by_cases q9:(x.shi:Int)<=x.ohi
                  ·exact (GoE.endsT okF hJ Qab GoE.start (QqI B x)
                    ⟨(Qd2 q9),hp8⟩).cast (by (simp [Qb5, *];done))
                  ·exact (GoE.endsT okF hJ Qab GoE.start (Qsx B x)
                    ⟨(Qd3 (Int.not_le.1 q9)),hp8⟩).cast (by (simp [Qb5, *];done))
                 ·exact (GoE.endsT okF hJ Qab GoE.start (Qrq B x)
                   ⟨(Qd3 (Int.not_le.1 q8)),hp7⟩).cast (by (simp [Qb5, *];done))
               | false=>
                 exact (GoE.endsT okF hJ Qab GoE.start (Qse B x)
                  ⟨⟨trivial,(by have t_:=Qh0 x.slo x.shi (1000000);rw [q7] at t_;exact t_)⟩,hp6⟩).cast (by (simp [Qb5, *];done))
             | false=>
               exact (GoE.endsT okF hJ Qab GoE.start (Qrv B x)
                ⟨⟨trivial,(by have t_:=Qh0 x.olo x.ohi (1000000);rw [q6] at t_;exact t_)⟩,hp5⟩).cast (by (simp [Qb5, *];done))
           | false=>
             exact (GoE.endsT okF hJ Qab GoE.start (Qre B x)
              ⟨⟨trivial,(by have t_:=pIn x.drift (0) (1000);rw [q5] at t_;exact t_)⟩,hp4⟩).cast (by (simp [Qb5, *];done))
         | false=>
           exact (GoE.endsT okF hJ Qab GoE.start (Qqo B x)
            ⟨⟨trivial,(by have t_:=Qh0 x.glo x.ghi (2000);rw [q4] at t_;exact t_)⟩,hp3⟩).cast (by (simp [Qb5, *];done))
       | false=>
         exact (GoE.endsT okF hJ Qab GoE.start (Qqu B x)
          ⟨⟨trivial,(by have t_:=pIn x.worth (0) (1000000);rw [q3] at t_;exact t_)⟩,hp2⟩).cast (by (simp [Qb5, *];done))
     | false=>
       exact (GoE.endsT okF hJ Qab GoE.start (Qqn B x)
        ⟨⟨trivial,(by have t_:=QfB x.goal;rw [q2] at t_;exact t_)⟩,hp1⟩).cast (by (simp [Qb5, *];done))
   | false=>
     exact (GoE.endsT okF hJ Qab GoE.start (QrH B x)
      ⟨⟨trivial,(by have t_:=QfB x.room;rw [q1] at t_;exact t_)⟩,hp0⟩).cast (by (simp [Qb5, *];done))
 | false=>
   exact (GoE.endsT okF hJ Qab GoE.start (QoX B x)
    ⟨⟨trivial,(by have t_:=QfB x.count;rw [q0] at t_;exact t_)⟩,trivial⟩).cast (by (simp [Qb5, *];done))
theorem QsI (x:Qaa)  :Qaw YP J0 73 #[.agg (Qad x).toArray] (.bool (Qb5 x)):=
 QaV (ts:=[.agg (Qad x).toArray]) QbS (c0:=Qaj YP 73 59 (([.agg (Qad x).toArray]).map (Qau 0 4))) (by kernel_rfl) (by kernel_rfl) fun B hJ=> QtG x  hJ
def Qf5 (B:Lo) (r:Qaf) (k:Int):List Prop:=[wq ((↑r.places.length:Int) - 1)=(↑r.places.length:Int) - 1]++([]:List Prop)
def Qi3 (r:Qaf) (k:Int):Qax:=[(6,hvI ((↑r.places.length:Int) - 1))]
theorem QoL (B:Lo) (r:Qaf) (k:Int):Qbd (Qam YP (Qa3 YP) J0 B 6 1 (Qaj YP 70 11 (([.agg (Qak r).toArray,.int .i64 k]).map (Qau 0 4))) H00 1
 (Qi3 r k++[(7,Qai.pure (.bool true) [])]) 0 [] []) []=some (.bool true,
 [Qa2 []/\Qaw YP J0 72 #[.int .i64 k,.int .i64 0,.int .i64 ((↑r.places.length:Int) - 1)] (.bool true)]++Qf5 B r k):=by kernel_rfl
theorem Qp5 (B:Lo) (r:Qaf) (k:Int):Qbd (Qam YP (Qa3 YP) J0 B 6 1 (Qaj YP 70 11 (([.agg (Qak r).toArray,.int .i64 k]).map (Qau 0 4))) H00 1
 (Qi3 r k++[(7,Qai.pure (.bool false) [])]) 0 [] []) []=some (.bool false,
 [Qa2 []/\Qaw YP J0 72 #[.int .i64 k,.int .i64 0,.int .i64 ((↑r.places.length:Int) - 1)] (.bool false)]++Qf5 B r k):=by kernel_rfl
set_option maxHeartbeats 4000000 in
theorem Qq3 (r:Qaf) (k:Int)  (hfacts:r.places.length<=9223372036854775807) {B:Lo} (hJ:∀w,B.has w->J0 w):EndsT YP B (Qaj YP 70 11 (([.agg (Qak r).toArray,.int .i64 k]).map (Qau 0 4))) (.bool (inB k 0 (r.places.length - 1))):=by
 have hp0:Qa2 (Qf5 B r k):=by
  exact ⟨(QaH (by omega) (by omega)),trivial⟩
 cases q0:inB k 0 ((↑r.places.length:Int) - 1) with
 | true=>
   exact (GoE.endsT okF hJ Qab GoE.start (QoL B r k)
    ⟨⟨trivial,(by have t_:=pIn (k) (0) ((↑r.places.length:Int) - 1);rw [q0] at t_;exact t_)⟩,hp0⟩).cast (by rfl)
 | false=>
   exact (GoE.endsT okF hJ Qab GoE.start (Qp5 B r k)
    ⟨⟨trivial,(by have t_:=pIn (k) (0) ((↑r.places.length:Int) - 1);rw [q0] at t_;exact t_)⟩,hp0⟩).cast (by rfl)
theorem Qp7 (r:Qaf) (k:Int)  :Qaw YP J0 70 #[.agg (Qak r).toArray,.int .i64 k] (.bool (inB k 0 (r.places.length - 1))):=
 QbY (ts:=[.agg (Qak r).toArray,.int .i64 k]) (r.places.length<=9223372036854775807) (fun _ _ ht=> ht.ln2 (i:=0) (j:=0) rfl rfl) QbS (c0:=Qaj YP 70 11 (([.agg (Qak r).toArray,.int .i64 k]).map (Qau 0 4))) (by kernel_rfl) (by kernel_rfl) fun hfacts B hJ=> Qq3 r k  hfacts hJ
def QbM (r:Qaf) (i:Int):List Value:=[pA 2 0,Qaq 1 (slT r.places.length (Qae Qad r.places)),.int .i64 (↑r.places.length:Int),.int .i64 i]
def QaY (r:Qaf) (i:Int):List Obj:=[Obj.cells #[Qaq 1 (slT r.places.length (Qae Qad r.places)),.int .i64 r.miss,.int .i64 r.seasons] 24]
def QbO:List Item:=([.code [1,1,0,1,0,0],.inLoop [1,1,0,1,0,0],.inBlock 0,.code [1,1,1]]).map (it (QaB YP 50))
def QtF (B:Lo) (c0:CF) (r:Qaf) (i:Int):Prop:=∃dJ:Nat->Value,(∀t,Qbi (dJ t))/\GoE YP B c0 H00 1 (Qa8 50 52 (([1,23,24,25]:List Nat).zip (QbM r i)) dJ QbO) (Qa6 (QaY r i)) (2+(QaY r i).length) []
def QfJ (r:Qaf) (i:Int):Array Value:=#[.int .i64 (Qaa.count (r.places.getD i.toNat default)),.int .i64 (Qaa.room (r.places.getD i.toNat default)),.int .i64 (Qaa.glo (r.places.getD i.toNat default)),.int .i64 (Qaa.ghi (r.places.getD i.toNat default)),.int .i64 (Qaa.drift (r.places.getD i.toNat default)),.int .i64 (Qaa.into (r.places.getD i.toNat default)),.int .i64 (Qaa.olo (r.places.getD i.toNat default)),.int .i64 (Qaa.ohi (r.places.getD i.toNat default)),.int .i64 (Qaa.slo (r.places.getD i.toNat default)),.int .i64 (Qaa.shi (r.places.getD i.toNat default)),.int .i64 (Qaa.goal (r.places.getD i.toNat default)),.int .i64 (Qaa.worth (r.places.getD i.toNat default))]
def QhO (B:Lo) (r:Qaf) (i:Int) (dJ0:Nat->Value):List Prop:=[i=(↑i.toNat:Int)/\Int.toNat i < List.length r.places/\Array.extract (Qae Qad r.places) (Int.toNat i * TypeInfo.size Try.t54) (Int.toNat i * TypeInfo.size Try.t54+TypeInfo.size Try.t54)=(QfJ r i),ltq i (↑r.places.length:Int)=true]++([]:List Prop)
def Ql8 (r:Qaf) (i:Int) (dJ0:Nat->Value):Qax:=[(0,hvT),(2,Qai.tidx i.toNat (QfJ r i))]
def QhC (B:Lo) (r:Qaf) (i:Int) (dJ0:Nat->Value):List Prop:=[Qa2 []/\Qaw YP J0 73 #[.agg (QfJ r i)] (.bool true)]++QhO B r i dJ0
def QlI (r:Qaf) (i:Int) (dJ0:Nat->Value):Qax:=Ql8 r i dJ0++[(8,Qai.pure (.bool true) [])]
def QhE (B:Lo) (r:Qaf) (i:Int) (dJ0:Nat->Value):List Prop:=[(!eqq (Qaa.into (r.places.getD i.toNat default)) (-1))=true]++QhC B r i dJ0
def QlR (r:Qaf) (i:Int) (dJ0:Nat->Value):Qax:=QlI r i dJ0++[(13,hvT)]
def Qh2 (B:Lo) (r:Qaf) (i:Int) (dJ0:Nat->Value):List Prop:=[Qa2 []/\Qaw YP J0 70 #[.agg #[slT r.places.length (Qae Qad r.places),.int .i64 r.miss,.int .i64 r.seasons],.int .i64 (Qaa.into (r.places.getD i.toNat default))] (.bool true)]++QhE B r i dJ0
def QlX (r:Qaf) (i:Int) (dJ0:Nat->Value):Qax:=QlR r i dJ0++[(18,Qai.pure (.bool true) [])]
theorem Quj (B:Lo) (r:Qaf) (i:Int) (dJ0:Nat->Value):Qbd (Qam YP (Qa3 YP) J0 B 16 1 (Qa8 50 52 (([1,23,24,25]:List Nat).zip (QbM r i)) dJ0 QbO) (Qa6 (QaY r i)) (2+(QaY r i).length)
 (QlX r i dJ0++[(26,hvT)]) 0 [] []) []=some (.bool false,
 [eqq (Qaa.into (r.places.getD i.toNat default)) i=true]++Qh2 B r i dJ0):=by kernel_rfl
theorem Qu8 (B:Lo) (r:Qaf) (i:Int) (dJ0:Nat->Value):landM (Qam YP (Qa3 YP) J0 B 16 1 (Qa8 50 52 (([1,23,24,25]:List Nat).zip (QbM r i)) dJ0 QbO) (Qa6 (QaY r i)) (2+(QaY r i).length)
 (QlX r i dJ0++[(26,hvF),(28,hvI (i+1))]) 0 [] []) [1,23,24,25] [(2,KS.auto)] []=some ⟨50,52,QbO,[],.run,none,QbM r (i+1),QaY r (i+1),
 [wq (i+1)=i+1,eqq (Qaa.into (r.places.getD i.toNat default)) i=false]++Qh2 B r i dJ0⟩:=by kernel_rfl
theorem QtZ (B:Lo) (r:Qaf) (i:Int) (dJ0:Nat->Value):Qbd (Qam YP (Qa3 YP) J0 B 16 1 (Qa8 50 52 (([1,23,24,25]:List Nat).zip (QbM r i)) dJ0 QbO) (Qa6 (QaY r i)) (2+(QaY r i).length)
 (QlR r i dJ0++[(18,Qai.pure (.bool false) [])]) 0 [] []) []=some (.bool false,
 [Qa2 []/\Qaw YP J0 70 #[.agg #[slT r.places.length (Qae Qad r.places),.int .i64 r.miss,.int .i64 r.seasons],.int .i64 (Qaa.into (r.places.getD i.toNat default))] (.bool false)]++QhE B r i dJ0):=by kernel_rfl
def QhG (B:Lo) (r:Qaf) (i:Int) (dJ0:Nat->Value):List Prop:=[(!eqq (Qaa.into (r.places.getD i.toNat default)) (-1))=false]++QhC B r i dJ0
def QlB (r:Qaf) (i:Int) (dJ0:Nat->Value):Qax:=QlI r i dJ0++[(13,hvF)]
theorem Qvm (B:Lo) (r:Qaf) (i:Int) (dJ0:Nat->Value):Qbd (Qam YP (Qa3 YP) J0 B 16 1 (Qa8 50 52 (([1,23,24,25]:List Nat).zip (QbM r i)) dJ0 QbO) (Qa6 (QaY r i)) (2+(QaY r i).length)
 (QlB r i dJ0++[(26,hvT)]) 0 [] []) []=some (.bool false,
 [eqq (Qaa.into (r.places.getD i.toNat default)) i=true]++QhG B r i dJ0):=by kernel_rfl
theorem Quk (B:Lo) (r:Qaf) (i:Int) (dJ0:Nat->Value):landM (Qam YP (Qa3 YP) J0 B 16 1 (Qa8 50 52 (([1,23,24,25]:List Nat).zip (QbM r i)) dJ0 QbO) (Qa6 (QaY r i)) (2+(QaY r i).length)
 (QlB r i dJ0++[(26,hvF),(28,hvI (i+1))]) 0 [] []) [1,23,24,25] [(2,KS.auto)] []=some ⟨50,52,QbO,[],.run,none,QbM r (i+1),QaY r (i+1),
 [wq (i+1)=i+1,eqq (Qaa.into (r.places.getD i.toNat default)) i=false]++QhG B r i dJ0⟩:=by kernel_rfl
theorem Qu2 (B:Lo) (r:Qaf) (i:Int) (dJ0:Nat->Value):Qbd (Qam YP (Qa3 YP) J0 B 16 1 (Qa8 50 52 (([1,23,24,25]:List Nat).zip (QbM r i)) dJ0 QbO) (Qa6 (QaY r i)) (2+(QaY r i).length)
 (Ql8 r i dJ0++[(8,Qai.pure (.bool false) [])]) 0 [] []) []=some (.bool false,
 [Qa2 []/\Qaw YP J0 73 #[.agg (QfJ r i)] (.bool false)]++QhO B r i dJ0):=by kernel_rfl
theorem Qvc (B:Lo) (r:Qaf) (i:Int) (dJ0:Nat->Value):Qbd (Qam YP (Qa3 YP) J0 B 9 1 (Qa8 50 52 (([1,23,24,25]:List Nat).zip (QbM r i)) dJ0 QbO) (Qa6 (QaY r i)) (2+(QaY r i).length)
 [(0,hvF)] 0 [] []) []=some (.bool true,
 [ltq i (↑r.places.length:Int)=false]):=by kernel_rfl
def QhH (B:Lo) (r:Qaf):List Prop:=[Qa2 []/\Qaw YP J0 72 #[.int .i64 (↑r.places.length:Int),.int .i64 1,.int .i64 4] (.bool true)]++([]:List Prop)
def QlN (r:Qaf):Qax:=[(5,Qai.pure (.bool true) [])]
def QhN (B:Lo) (r:Qaf):List Prop:=[Qa2 []/\Qaw YP J0 72 #[.int .i64 r.miss,.int .i64 0,.int .i64 2000] (.bool true)]++QhH B r
def Ql5 (r:Qaf):Qax:=QlN r++[(10,Qai.pure (.bool true) [])]
theorem Qug (B:Lo) (r:Qaf):landM (Qam YP (Qa3 YP) J0 B 12 1 (Qaj YP 50 52 (([.agg (Qak r).toArray]).map (Qau 0 4))) H00 1
 (Ql5 r++[(16,Qai.pure (.bool true) [])]) 0 [] []) [1,23,24,25] [(1,KS.auto)] []=some ⟨50,52,QbO,[],.run,none,QbM r (0),QaY r (0),
 [Qa2 []/\Qaw YP J0 72 #[.int .i64 r.seasons,.int .i64 1,.int .i64 4] (.bool true)]++QhN B r⟩:=by kernel_rfl
theorem Qu9 (B:Lo) (r:Qaf):Qbd (Qam YP (Qa3 YP) J0 B 10 1 (Qaj YP 50 52 (([.agg (Qak r).toArray]).map (Qau 0 4))) H00 1
 (Ql5 r++[(16,Qai.pure (.bool false) [])]) 0 [] []) []=some (.bool false,
 [Qa2 []/\Qaw YP J0 72 #[.int .i64 r.seasons,.int .i64 1,.int .i64 4] (.bool false)]++QhN B r):=by kernel_rfl
theorem QtW (B:Lo) (r:Qaf):Qbd (Qam YP (Qa3 YP) J0 B 10 1 (Qaj YP 50 52 (([.agg (Qak r).toArray]).map (Qau 0 4))) H00 1
 (QlN r++[(10,Qai.pure (.bool false) [])]) 0 [] []) []=some (.bool false,
 [Qa2 []/\Qaw YP J0 72 #[.int .i64 r.miss,.int .i64 0,.int .i64 2000] (.bool false)]++QhH B r):=by kernel_rfl
theorem Qsl (B:Lo) (r:Qaf):Qbd (Qam YP (Qa3 YP) J0 B 10 1 (Qaj YP 50 52 (([.agg (Qak r).toArray]).map (Qau 0 4))) H00 1
 [(5,Qai.pure (.bool false) [])] 0 [] []) []=some (.bool false,
 [Qa2 []/\Qaw YP J0 72 #[.int .i64 (↑r.places.length:Int),.int .i64 1,.int .i64 4] (.bool false)]):=by kernel_rfl
set_option maxHeartbeats 4000000 in
theorem QuL (r:Qaf)  (hfacts:r.places.length<=9223372036854775807) {B:Lo} (hJ:∀w,B.has w->J0 w) {c0:CF}:∀m:Nat,(∀(i:Int),r.places.length - i.toNat=m->∀(h0:0<=i),QtF B c0 r i->EndsT YP B c0 (.bool (Qf6 r.places i))):=by
 intro m0;induction m0 using Nat.strongRecOn with
 | _ m0 ih0=>
   intro i hm0 h0 ⟨dJ0,hdJ0,hg0⟩;by_cases q0:(i:Int) < ((↑r.places.length:Int))
   ·have hp0:Qa2 (QhO B r i dJ0):=by
     exact ⟨⟨by omega,by omega,(Qal (z:=12) (fun _=> rfl) (by omega))⟩,⟨(QbD q0),trivial⟩⟩
    cases q1:Qb5 (r.places.getD i.toNat default) with
    | true=>
      have hp1:Qa2 (QhC B r i dJ0):=by
       exact ⟨⟨trivial,(by have t_:=QsI (r.places.getD i.toNat default);rw [q1] at t_;exact t_)⟩,hp0⟩
      by_cases q2:(Qaa.into (r.places.getD i.toNat default):Int)≠(-1)
      ·have hp2:Qa2 (QhE B r i dJ0):=by
        exact ⟨(QgM q2),hp1⟩
       cases q3:inB (Qaa.into (r.places.getD i.toNat default)) 0 ((↑r.places.length:Int) - 1) with
       | true=>
         have hp3:Qa2 (Qh2 B r i dJ0):=by
          exact ⟨⟨trivial,(by have t_:=Qp7 (r) (Qaa.into (r.places.getD i.toNat default));rw [q3] at t_;exact t_)⟩,hp2⟩
         by_cases q4:(Qaa.into (r.places.getD i.toNat default):Int)=(i)
         ·have s2:=QaM (ps:=r.places) q0;exact (GoE.endsT okF hJ Qab hg0 (Quj B r i dJ0)
           ⟨(QnZ q4),hp3⟩).cast (by (rw [s2];simp_all [QbA,Qhg];done))
         ·have s2:=QaM (ps:=r.places) q0;exact ((ih0 _ (by omega)) (i+1) rfl (by omega)
           (hg0.landM okF hJ Qab (Qu8 B r i dJ0)
           ⟨(QaH (by omega) (by omega)),⟨(Qnt q4),hp3⟩⟩ (by kernel_rfl) (by kernel_rfl))).cast (by (rw [s2];simp_all [QbA,Qhg];done))
       | false=>
         have s2:=QaM (ps:=r.places) q0;exact (GoE.endsT okF hJ Qab hg0 (QtZ B r i dJ0)
          ⟨⟨trivial,(by have t_:=Qp7 (r) (Qaa.into (r.places.getD i.toNat default));rw [q3] at t_;exact t_)⟩,hp2⟩).cast (by (rw [s2];simp_all [QbA,Qhg];done))
      ·have hp4:Qa2 (QhG B r i dJ0):=by
        exact ⟨(QeW (Decidable.of_not_not q2)),hp1⟩
       by_cases q3:(Qaa.into (r.places.getD i.toNat default):Int)=(i)
       ·have s2:=QaM (ps:=r.places) q0;have s2:=QdB (ps:=r.places) (i:=i) (by omega);exact (GoE.endsT okF hJ Qab hg0 (Qvm B r i dJ0)
         ⟨(QnZ q3),hp4⟩).cast (by (rw [s2];simp_all [QbA,Qhg];done))
       ·have s2:=QaM (ps:=r.places) q0;exact ((ih0 _ (by omega)) (i+1) rfl (by omega)
         (hg0.landM okF hJ Qab (Quk B r i dJ0)
         ⟨(QaH (by omega) (by omega)),⟨(Qnt q3),hp4⟩⟩ (by kernel_rfl) (by kernel_rfl))).cast (by (rw [s2];simp_all [QbA,Qhg];done))
    | false=>
      have s2:=QaM (ps:=r.places) q0;exact (GoE.endsT okF hJ Qab hg0 (Qu2 B r i dJ0)
       ⟨⟨trivial,(by have t_:=QsI (r.places.getD i.toNat default);rw [q1] at t_;exact t_)⟩,hp0⟩).cast (by (rw [s2];simp_all [QbA,Qhg];done))
   ·have s2:=QdB (ps:=r.places) (i:=i) (by omega);exact (GoE.endsT okF hJ Qab hg0 (Qvc B r i dJ0)
     ⟨(QbI (Int.not_lt.1 q0)),trivial⟩).cast (by (rw [s2];done))
set_option maxHeartbeats 4000000 in
theorem QxV (r:Qaf)  (hfacts:r.places.length<=9223372036854775807) {B:Lo} (hJ:∀w,B.has w->J0 w):EndsT YP B (Qaj YP 50 52 (([.agg (Qak r).toArray]).map (Qau 0 4))) (.bool (Qbm r)):=by
 cases q0:inB (↑r.places.length:Int) 1 4 with
 | true=>
   have hp5:Qa2 (QhH B r):=by
    exact ⟨⟨trivial,(by have t_:=pIn ((↑r.places.length:Int)) (1) (4);rw [q0] at t_;exact t_)⟩,trivial⟩
   cases q1:inB r.miss 0 2000 with
   | true=>
     have hp6:Qa2 (QhN B r):=by
      exact ⟨⟨trivial,(by have t_:=pIn r.miss (0) (2000);rw [q1] at t_;exact t_)⟩,hp5⟩
     cases q2:inB r.seasons 1 4 with
     | true=>
       exact ((QuL r hfacts hJ _) (0) rfl (by omega)
        (GoE.start.landM okF hJ Qab (Qug B r)
        ⟨⟨trivial,(by have t_:=pIn r.seasons (1) (4);rw [q2] at t_;exact t_)⟩,hp6⟩ (by kernel_rfl) (by kernel_rfl))).cast (by (simp only [Qbm,QhL];simp [*];done))
     | false=>
       exact (GoE.endsT okF hJ Qab GoE.start (Qu9 B r)
        ⟨⟨trivial,(by have t_:=pIn r.seasons (1) (4);rw [q2] at t_;exact t_)⟩,hp6⟩).cast (by (simp only [Qbm,QhL];simp [*];done))
   | false=>
     exact (GoE.endsT okF hJ Qab GoE.start (QtW B r)
      ⟨⟨trivial,(by have t_:=pIn r.miss (0) (2000);rw [q1] at t_;exact t_)⟩,hp5⟩).cast (by (simp only [Qbm,QhL];simp [*];done))
 | false=>
   exact (GoE.endsT okF hJ Qab GoE.start (Qsl B r)
    ⟨⟨trivial,(by have t_:=pIn ((↑r.places.length:Int)) (1) (4);rw [q0] at t_;exact t_)⟩,trivial⟩).cast (by (simp only [Qbm,QhL];simp [*];done))
theorem Qyl (r:Qaf)  :Qaw YP J0 50 #[.agg (Qak r).toArray] (.bool (Qbm r)):=
 QbY (ts:=[.agg (Qak r).toArray]) (r.places.length<=9223372036854775807) (fun _ _ ht=> ht.ln2 (i:=0) (j:=0) rfl rfl) QbS (c0:=Qaj YP 50 52 (([.agg (Qak r).toArray]).map (Qau 0 4))) (by kernel_rfl) (by kernel_rfl) fun hfacts B hJ=> QxV r  hfacts hJ
def Qbw (r:Qaf) (i:Int):List Value:=[pA 2 0,.int .i64 i]
def QaD (r:Qaf) (i:Int):List Obj:=[Obj.cells #[Qaq 1 (slT r.places.length (Qae Qad r.places)),.int .i64 r.miss,.int .i64 r.seasons] 24]
def Qbu:List Item:=([.code [1,0,1,0,0],.inLoop [1,0,1,0,0],.inBlock 0,.code [1,1]]).map (it (QaB YP 20))
def Qy0 (B:Lo) (c0:CF) (r:Qaf) (i:Int):Prop:=∃dJ:Nat->Value,(∀t,Qbi (dJ t))/\GoE YP B c0 H00 1 (Qa8 20 111 (([1,3]:List Nat).zip (Qbw r i)) dJ Qbu) (Qa6 (QaD r i)) (2+(QaD r i).length) []
def Qmq (B:Lo) (r:Qaf) (i:Int) (dJ0:Nat->Value):List Prop:=[i=(↑i.toNat:Int)/\Int.toNat i < List.length r.places/\Array.extract (Qae Qad r.places) (Int.toNat i * TypeInfo.size Try.t54) (Int.toNat i * TypeInfo.size Try.t54+TypeInfo.size Try.t54)=#[.int .i64 (Qaa.count (r.places.getD i.toNat default)),.int .i64 (Qaa.room (r.places.getD i.toNat default)),.int .i64 (Qaa.glo (r.places.getD i.toNat default)),.int .i64 (Qaa.ghi (r.places.getD i.toNat default)),.int .i64 (Qaa.drift (r.places.getD i.toNat default)),.int .i64 (Qaa.into (r.places.getD i.toNat default)),.int .i64 (Qaa.olo (r.places.getD i.toNat default)),.int .i64 (Qaa.ohi (r.places.getD i.toNat default)),.int .i64 (Qaa.slo (r.places.getD i.toNat default)),.int .i64 (Qaa.shi (r.places.getD i.toNat default)),.int .i64 (Qaa.goal (r.places.getD i.toNat default)),.int .i64 (Qaa.worth (r.places.getD i.toNat default))],ltq i (↑r.places.length:Int)=true]++([]:List Prop)
def Qtv (r:Qaf) (i:Int) (dJ0:Nat->Value):Qax:=[(4,hvT),(8,Qai.tidx i.toNat #[.int .i64 (Qaa.count (r.places.getD i.toNat default)),.int .i64 (Qaa.room (r.places.getD i.toNat default)),.int .i64 (Qaa.glo (r.places.getD i.toNat default)),.int .i64 (Qaa.ghi (r.places.getD i.toNat default)),.int .i64 (Qaa.drift (r.places.getD i.toNat default)),.int .i64 (Qaa.into (r.places.getD i.toNat default)),.int .i64 (Qaa.olo (r.places.getD i.toNat default)),.int .i64 (Qaa.ohi (r.places.getD i.toNat default)),.int .i64 (Qaa.slo (r.places.getD i.toNat default)),.int .i64 (Qaa.shi (r.places.getD i.toNat default)),.int .i64 (Qaa.goal (r.places.getD i.toNat default)),.int .i64 (Qaa.worth (r.places.getD i.toNat default))])]
def Qni (B:Lo) (r:Qaf) (i:Int) (dJ0:Nat->Value):List Prop:=[Qa2 []/\Qaw YP J0 55 #[.int .i64 (Qaa.count (r.places.getD i.toNat default)),.int .i64 0,.int .i64 1000000] (.bool true)]++Qmq B r i dJ0
def Qs8 (r:Qaf) (i:Int) (dJ0:Nat->Value):Qax:=Qtv r i dJ0++[(14,Qai.pure (.bool true) [])]
def QmK (B:Lo) (r:Qaf) (i:Int) (dJ0:Nat->Value):List Prop:=[Qa2 []/\Qaw YP J0 55 #[.int .i64 (Qaa.room (r.places.getD i.toNat default)),.int .i64 0,.int .i64 1000000] (.bool true)]++Qni B r i dJ0
def Qtf (r:Qaf) (i:Int) (dJ0:Nat->Value):Qax:=Qs8 r i dJ0++[(19,Qai.pure (.bool true) [])]
def Qng (B:Lo) (r:Qaf) (i:Int) (dJ0:Nat->Value):List Prop:=[Qa2 []/\Qaw YP J0 55 #[.int .i64 (Qaa.goal (r.places.getD i.toNat default)),.int .i64 0,.int .i64 1000000] (.bool true)]++QmK B r i dJ0
def QsA (r:Qaf) (i:Int) (dJ0:Nat->Value):Qax:=Qtf r i dJ0++[(25,Qai.pure (.bool true) [])]
def Qol (B:Lo) (r:Qaf) (i:Int) (dJ0:Nat->Value):List Prop:=[Qa2 []/\Qaw YP J0 56 #[.agg #[.int .i64 (Qaa.glo (r.places.getD i.toNat default)),.int .i64 (Qaa.ghi (r.places.getD i.toNat default))],.int .i64 2000] (.bool true)]++Qng B r i dJ0
def Qtq (r:Qaf) (i:Int) (dJ0:Nat->Value):Qax:=QsA r i dJ0++[(31,Qai.pure (.bool true) [])]
def Qmx (B:Lo) (r:Qaf) (i:Int) (dJ0:Nat->Value):List Prop:=[wq ((↑r.places.length:Int) - 1)=(↑r.places.length:Int) - 1,Qa2 []/\Qaw YP J0 55 #[.int .i64 (Qaa.drift (r.places.getD i.toNat default)),.int .i64 0,.int .i64 1000] (.bool true)]++Qol B r i dJ0
def QsL (r:Qaf) (i:Int) (dJ0:Nat->Value):Qax:=Qtq r i dJ0++[(37,Qai.pure (.bool true) []),(46,hvI ((↑r.places.length:Int) - 1))]
def Qoh (B:Lo) (r:Qaf) (i:Int) (dJ0:Nat->Value):List Prop:=[Qa2 []/\Qaw YP J0 55 #[.int .i64 (Qaa.into (r.places.getD i.toNat default)),.int .i64 (-1),.int .i64 ((↑r.places.length:Int) - 1)] (.bool true)]++Qmx B r i dJ0
def Qt1 (r:Qaf) (i:Int) (dJ0:Nat->Value):Qax:=QsL r i dJ0++[(47,Qai.pure (.bool true) [])]
theorem Qyq (B:Lo) (r:Qaf) (i:Int) (dJ0:Nat->Value):Qbd (Qam YP (Qa3 YP) J0 B 16 1 (Qa8 20 111 (([1,3]:List Nat).zip (Qbw r i)) dJ0 Qbu) (Qa6 (QaD r i)) (2+(QaD r i).length)
 (Qt1 r i dJ0++[(54,hvT)]) 0 [] []) []=some (.bool false,
 [eqq (Qaa.into (r.places.getD i.toNat default)) i=true]++Qoh B r i dJ0):=by kernel_rfl
def Qm9 (B:Lo) (r:Qaf) (i:Int) (dJ0:Nat->Value):List Prop:=[eqq (Qaa.into (r.places.getD i.toNat default)) i=false]++Qoh B r i dJ0
def Qtc (r:Qaf) (i:Int) (dJ0:Nat->Value):Qax:=Qt1 r i dJ0++[(54,hvF)]
def Qm7 (B:Lo) (r:Qaf) (i:Int) (dJ0:Nat->Value):List Prop:=[Qa2 []/\Qaw YP J0 56 #[.agg #[.int .i64 (Qaa.olo (r.places.getD i.toNat default)),.int .i64 (Qaa.ohi (r.places.getD i.toNat default))],.int .i64 1000000] (.bool true)]++Qm9 B r i dJ0
def Qty (r:Qaf) (i:Int) (dJ0:Nat->Value):Qax:=Qtc r i dJ0++[(59,Qai.pure (.bool true) [])]
def Qmo (B:Lo) (r:Qaf) (i:Int) (dJ0:Nat->Value):List Prop:=[Qa2 []/\Qaw YP J0 56 #[.agg #[.int .i64 (Qaa.slo (r.places.getD i.toNat default)),.int .i64 (Qaa.shi (r.places.getD i.toNat default))],.int .i64 1000000] (.bool true)]++Qm7 B r i dJ0
def Qs5 (r:Qaf) (i:Int) (dJ0:Nat->Value):Qax:=Qty r i dJ0++[(65,Qai.pure (.bool true) [])]
theorem QyJ (B:Lo) (r:Qaf) (i:Int) (dJ0:Nat->Value):Qbd (Qam YP (Qa3 YP) J0 B 16 1 (Qa8 20 111 (([1,3]:List Nat).zip (Qbw r i)) dJ0 Qbu) (Qa6 (QaD r i)) (2+(QaD r i).length)
 (Qs5 r i dJ0++[(75,hvT)]) 0 [] []) []=some (.bool false,
 [ltq (Qaa.olo (r.places.getD i.toNat default)) (Qaa.slo (r.places.getD i.toNat default))=true]++Qmo B r i dJ0):=by kernel_rfl
def Qjp (B:Lo) (r:Qaf) (i:Int) (dJ0:Nat->Value):List Prop:=[ltq (Qaa.olo (r.places.getD i.toNat default)) (Qaa.slo (r.places.getD i.toNat default))=false]++Qmo B r i dJ0
def QoN (r:Qaf) (i:Int) (dJ0:Nat->Value):Qax:=Qs5 r i dJ0++[(75,hvF)]
theorem QzL (B:Lo) (r:Qaf) (i:Int) (dJ0:Nat->Value):Qbd (Qam YP (Qa3 YP) J0 B 16 1 (Qa8 20 111 (([1,3]:List Nat).zip (Qbw r i)) dJ0 Qbu) (Qa6 (QaD r i)) (2+(QaD r i).length)
 (QoN r i dJ0++[(84,hvT)]) 0 [] []) []=some (.bool false,
 [ltq (Qaa.ohi (r.places.getD i.toNat default)) (Qaa.shi (r.places.getD i.toNat default))=true]++Qjp B r i dJ0):=by kernel_rfl
def QkY (B:Lo) (r:Qaf) (i:Int) (dJ0:Nat->Value):List Prop:=[ltq (Qaa.ohi (r.places.getD i.toNat default)) (Qaa.shi (r.places.getD i.toNat default))=false]++Qjp B r i dJ0
def Qpt (r:Qaf) (i:Int) (dJ0:Nat->Value):Qax:=QoN r i dJ0++[(84,hvF)]
theorem Qzz (B:Lo) (r:Qaf) (i:Int) (dJ0:Nat->Value):landM (Qam YP (Qa3 YP) J0 B 16 1 (Qa8 20 111 (([1,3]:List Nat).zip (Qbw r i)) dJ0 Qbu) (Qa6 (QaD r i)) (2+(QaD r i).length)
 (Qpt r i dJ0++[(89,Qai.pure (.bool true) []),(93,hvI (i+1))]) 0 [] []) [1,3] [(2,KS.auto)] []=some ⟨20,111,Qbu,[],.run,none,Qbw r (i+1),QaD r (i+1),
 [wq (i+1)=i+1,Qa2 []/\Qaw YP J0 55 #[.int .i64 (Qaa.worth (r.places.getD i.toNat default)),.int .i64 0,.int .i64 1000000] (.bool true)]++QkY B r i dJ0⟩:=by kernel_rfl
theorem Qz5 (B:Lo) (r:Qaf) (i:Int) (dJ0:Nat->Value):Qbd (Qam YP (Qa3 YP) J0 B 16 1 (Qa8 20 111 (([1,3]:List Nat).zip (Qbw r i)) dJ0 Qbu) (Qa6 (QaD r i)) (2+(QaD r i).length)
 (Qpt r i dJ0++[(89,Qai.pure (.bool false) [])]) 0 [] []) []=some (.bool false,
 [Qa2 []/\Qaw YP J0 55 #[.int .i64 (Qaa.worth (r.places.getD i.toNat default)),.int .i64 0,.int .i64 1000000] (.bool false)]++QkY B r i dJ0):=by kernel_rfl
theorem QyW (B:Lo) (r:Qaf) (i:Int) (dJ0:Nat->Value):Qbd (Qam YP (Qa3 YP) J0 B 16 1 (Qa8 20 111 (([1,3]:List Nat).zip (Qbw r i)) dJ0 Qbu) (Qa6 (QaD r i)) (2+(QaD r i).length)
 (Qty r i dJ0++[(65,Qai.pure (.bool false) [])]) 0 [] []) []=some (.bool false,
 [Qa2 []/\Qaw YP J0 56 #[.agg #[.int .i64 (Qaa.slo (r.places.getD i.toNat default)),.int .i64 (Qaa.shi (r.places.getD i.toNat default))],.int .i64 1000000] (.bool false)]++Qm7 B r i dJ0):=by kernel_rfl
theorem Qzp (B:Lo) (r:Qaf) (i:Int) (dJ0:Nat->Value):Qbd (Qam YP (Qa3 YP) J0 B 16 1 (Qa8 20 111 (([1,3]:List Nat).zip (Qbw r i)) dJ0 Qbu) (Qa6 (QaD r i)) (2+(QaD r i).length)
 (Qtc r i dJ0++[(59,Qai.pure (.bool false) [])]) 0 [] []) []=some (.bool false,
 [Qa2 []/\Qaw YP J0 56 #[.agg #[.int .i64 (Qaa.olo (r.places.getD i.toNat default)),.int .i64 (Qaa.ohi (r.places.getD i.toNat default))],.int .i64 1000000] (.bool false)]++Qm9 B r i dJ0):=by kernel_rfl
theorem Qzi (B:Lo) (r:Qaf) (i:Int) (dJ0:Nat->Value):Qbd (Qam YP (Qa3 YP) J0 B 16 1 (Qa8 20 111 (([1,3]:List Nat).zip (Qbw r i)) dJ0 Qbu) (Qa6 (QaD r i)) (2+(QaD r i).length)
 (QsL r i dJ0++[(47,Qai.pure (.bool false) [])]) 0 [] []) []=some (.bool false,
 [Qa2 []/\Qaw YP J0 55 #[.int .i64 (Qaa.into (r.places.getD i.toNat default)),.int .i64 (-1),.int .i64 ((↑r.places.length:Int) - 1)] (.bool false)]++Qmx B r i dJ0):=by kernel_rfl
theorem Qz4 (B:Lo) (r:Qaf) (i:Int) (dJ0:Nat->Value):Qbd (Qam YP (Qa3 YP) J0 B 16 1 (Qa8 20 111 (([1,3]:List Nat).zip (Qbw r i)) dJ0 Qbu) (Qa6 (QaD r i)) (2+(QaD r i).length)
 (Qtq r i dJ0++[(37,Qai.pure (.bool false) [])]) 0 [] []) []=some (.bool false,
 [Qa2 []/\Qaw YP J0 55 #[.int .i64 (Qaa.drift (r.places.getD i.toNat default)),.int .i64 0,.int .i64 1000] (.bool false)]++Qol B r i dJ0):=by kernel_rfl
theorem QyG (B:Lo) (r:Qaf) (i:Int) (dJ0:Nat->Value):Qbd (Qam YP (Qa3 YP) J0 B 16 1 (Qa8 20 111 (([1,3]:List Nat).zip (Qbw r i)) dJ0 Qbu) (Qa6 (QaD r i)) (2+(QaD r i).length)
 (QsA r i dJ0++[(31,Qai.pure (.bool false) [])]) 0 [] []) []=some (.bool false,
 [Qa2 []/\Qaw YP J0 56 #[.agg #[.int .i64 (Qaa.glo (r.places.getD i.toNat default)),.int .i64 (Qaa.ghi (r.places.getD i.toNat default))],.int .i64 2000] (.bool false)]++Qng B r i dJ0):=by kernel_rfl
theorem Qw6 (B:Lo) (r:Qaf) (i:Int) (dJ0:Nat->Value):Qbd (Qam YP (Qa3 YP) J0 B 16 1 (Qa8 20 111 (([1,3]:List Nat).zip (Qbw r i)) dJ0 Qbu) (Qa6 (QaD r i)) (2+(QaD r i).length)
 (Qtf r i dJ0++[(25,Qai.pure (.bool false) [])]) 0 [] []) []=some (.bool false,
 [Qa2 []/\Qaw YP J0 55 #[.int .i64 (Qaa.goal (r.places.getD i.toNat default)),.int .i64 0,.int .i64 1000000] (.bool false)]++QmK B r i dJ0):=by kernel_rfl
theorem Qw3 (B:Lo) (r:Qaf) (i:Int) (dJ0:Nat->Value):Qbd (Qam YP (Qa3 YP) J0 B 16 1 (Qa8 20 111 (([1,3]:List Nat).zip (Qbw r i)) dJ0 Qbu) (Qa6 (QaD r i)) (2+(QaD r i).length)
 (Qs8 r i dJ0++[(19,Qai.pure (.bool false) [])]) 0 [] []) []=some (.bool false,
 [Qa2 []/\Qaw YP J0 55 #[.int .i64 (Qaa.room (r.places.getD i.toNat default)),.int .i64 0,.int .i64 1000000] (.bool false)]++Qni B r i dJ0):=by kernel_rfl
theorem Qwe (B:Lo) (r:Qaf) (i:Int) (dJ0:Nat->Value):Qbd (Qam YP (Qa3 YP) J0 B 16 1 (Qa8 20 111 (([1,3]:List Nat).zip (Qbw r i)) dJ0 Qbu) (Qa6 (QaD r i)) (2+(QaD r i).length)
 (Qtv r i dJ0++[(14,Qai.pure (.bool false) [])]) 0 [] []) []=some (.bool false,
 [Qa2 []/\Qaw YP J0 55 #[.int .i64 (Qaa.count (r.places.getD i.toNat default)),.int .i64 0,.int .i64 1000000] (.bool false)]++Qmq B r i dJ0):=by kernel_rfl
def QjC (B:Lo) (r:Qaf) (i:Int) (dJ0:Nat->Value):List Prop:=[ltq i (↑r.places.length:Int)=false]++([]:List Prop)
def Qp6 (r:Qaf) (i:Int) (dJ0:Nat->Value):Qax:=[(4,hvF)]
def QjR (B:Lo) (r:Qaf) (i:Int) (dJ0:Nat->Value):List Prop:=[Qa2 []/\Qaw YP J0 55 #[.int .i64 (↑r.places.length:Int),.int .i64 1,.int .i64 4] (.bool true)]++QjC B r i dJ0
def QpK (r:Qaf) (i:Int) (dJ0:Nat->Value):Qax:=Qp6 r i dJ0++[(8,Qai.pure (.bool true) [])]
def QjJ (B:Lo) (r:Qaf) (i:Int) (dJ0:Nat->Value):List Prop:=[Qa2 []/\Qaw YP J0 55 #[.int .i64 r.miss,.int .i64 0,.int .i64 2000] (.bool true)]++QjR B r i dJ0
def Qpf (r:Qaf) (i:Int) (dJ0:Nat->Value):Qax:=QpK r i dJ0++[(12,Qai.pure (.bool true) [])]
theorem QvK (B:Lo) (r:Qaf) (i:Int) (dJ0:Nat->Value):Qbd (Qam YP (Qa3 YP) J0 B 9 1 (Qa8 20 111 (([1,3]:List Nat).zip (Qbw r i)) dJ0 Qbu) (Qa6 (QaD r i)) (2+(QaD r i).length)
 (Qpf r i dJ0++[(17,Qai.pure (.bool true) [])]) 0 [] []) []=some (.bool true,
 [Qa2 []/\Qaw YP J0 55 #[.int .i64 r.seasons,.int .i64 1,.int .i64 4] (.bool true)]++QjJ B r i dJ0):=by kernel_rfl
theorem QxO (B:Lo) (r:Qaf) (i:Int) (dJ0:Nat->Value):Qbd (Qam YP (Qa3 YP) J0 B 9 1 (Qa8 20 111 (([1,3]:List Nat).zip (Qbw r i)) dJ0 Qbu) (Qa6 (QaD r i)) (2+(QaD r i).length)
 (Qpf r i dJ0++[(17,Qai.pure (.bool false) [])]) 0 [] []) []=some (.bool false,
 [Qa2 []/\Qaw YP J0 55 #[.int .i64 r.seasons,.int .i64 1,.int .i64 4] (.bool false)]++QjJ B r i dJ0):=by kernel_rfl
theorem QxG (B:Lo) (r:Qaf) (i:Int) (dJ0:Nat->Value):Qbd (Qam YP (Qa3 YP) J0 B 9 1 (Qa8 20 111 (([1,3]:List Nat).zip (Qbw r i)) dJ0 Qbu) (Qa6 (QaD r i)) (2+(QaD r i).length)
 (QpK r i dJ0++[(12,Qai.pure (.bool false) [])]) 0 [] []) []=some (.bool false,
 [Qa2 []/\Qaw YP J0 55 #[.int .i64 r.miss,.int .i64 0,.int .i64 2000] (.bool false)]++QjR B r i dJ0):=by kernel_rfl
theorem QwI (B:Lo) (r:Qaf) (i:Int) (dJ0:Nat->Value):Qbd (Qam YP (Qa3 YP) J0 B 9 1 (Qa8 20 111 (([1,3]:List Nat).zip (Qbw r i)) dJ0 Qbu) (Qa6 (QaD r i)) (2+(QaD r i).length)
 (Qp6 r i dJ0++[(8,Qai.pure (.bool false) [])]) 0 [] []) []=some (.bool false,
 [Qa2 []/\Qaw YP J0 55 #[.int .i64 (↑r.places.length:Int),.int .i64 1,.int .i64 4] (.bool false)]++QjC B r i dJ0):=by kernel_rfl
theorem QvQ (B:Lo) (r:Qaf):landM (Qam YP (Qa3 YP) J0 B 7 1 (Qaj YP 20 111 (([.agg (Qak r).toArray]).map (Qau 0 4))) H00 1
 [] 0 [] []) [1,3] [(1,KS.auto)] []=some ⟨20,111,Qbu,[],.run,none,Qbw r (0),QaD r (0),
 []⟩:=by kernel_rfl
set_option maxHeartbeats 4000000 in
theorem QyT (r:Qaf)  (hfacts:r.places.length<=9223372036854775807) {B:Lo} (hJ:∀w,B.has w->J0 w) {c0:CF}:∀m:Nat,(∀(i:Int),r.places.length - i.toNat=m->∀(h0:0<=i),Qy0 B c0 r i->EndsT YP B c0 (.bool (Qf6 r.places i && QhL r))):=by
 intro m0;induction m0 using Nat.strongRecOn with
 | _ m0 ih0=>
   intro i hm0 h0 ⟨dJ0,hdJ0,hg0⟩;have s3:=Q1Q (n:=r.places.length) (v:=(r.places.getD i.toNat default).into) (by omega);by_cases q0:(i:Int) < ((↑r.places.length:Int))
   ·have hp0:Qa2 (Qmq B r i dJ0):=by
     exact ⟨⟨by omega,by omega,(Qal (z:=12) (fun _=> rfl) (by omega))⟩,⟨(QbD q0),trivial⟩⟩
    cases q1:inB (Qaa.count (r.places.getD i.toNat default)) 0 1000000 with
    | true=>
      have hp1:Qa2 (Qni B r i dJ0):=by
       exact ⟨⟨trivial,(by have t_:=rin (Qaa.count (r.places.getD i.toNat default)) (0) (1000000);rw [q1] at t_;exact t_)⟩,hp0⟩
      cases q2:inB (Qaa.room (r.places.getD i.toNat default)) 0 1000000 with
      | true=>
        have hp2:Qa2 (QmK B r i dJ0):=by
         exact ⟨⟨trivial,(by have t_:=rin (Qaa.room (r.places.getD i.toNat default)) (0) (1000000);rw [q2] at t_;exact t_)⟩,hp1⟩
        cases q3:inB (Qaa.goal (r.places.getD i.toNat default)) 0 1000000 with
        | true=>
          have hp3:Qa2 (Qng B r i dJ0):=by
           exact ⟨⟨trivial,(by have t_:=rin (Qaa.goal (r.places.getD i.toNat default)) (0) (1000000);rw [q3] at t_;exact t_)⟩,hp2⟩
          cases q4:Qdt (Qaa.glo (r.places.getD i.toNat default)) (Qaa.ghi (r.places.getD i.toNat default)) 0 2000 with
          | true=>
            have hp4:Qa2 (Qol B r i dJ0):=by
             exact ⟨⟨trivial,(by have t_:=QuF (Qaa.glo (r.places.getD i.toNat default)) (Qaa.ghi (r.places.getD i.toNat default)) (2000);rw [q4] at t_;exact t_)⟩,hp3⟩
            cases q5:inB (Qaa.drift (r.places.getD i.toNat default)) 0 1000 with
            | true=>
              have hp5:Qa2 (Qmx B r i dJ0):=by
               exact ⟨(QaH (by omega) (by omega)),⟨⟨trivial,(by have t_:=rin (Qaa.drift (r.places.getD i.toNat default)) (0) (1000);rw [q5] at t_;exact t_)⟩,hp4⟩⟩
              cases q6:inB (Qaa.into (r.places.getD i.toNat default)) (-1) ((↑r.places.length:Int) - 1) with
              | true=>
                have hp6:Qa2 (Qoh B r i dJ0):=by
                 exact ⟨⟨trivial,(by have t_:=rin (Qaa.into (r.places.getD i.toNat default)) (-1) ((↑r.places.length:Int) - 1);rw [q6] at t_;exact t_)⟩,hp5⟩
                by_cases q7:(Qaa.into (r.places.getD i.toNat default):Int)=(i)
                ·have s2:=QaM (ps:=r.places) q0;exact (GoE.endsT okF hJ Qab hg0 (Qyq B r i dJ0)
                  ⟨(QnZ q7),hp6⟩).cast (by (rw [s2];rw [s3] at *;simp_all [QbA,Qb5];done))
                ·have hp7:Qa2 (Qm9 B r i dJ0):=by
                  exact ⟨(Qnt q7),hp6⟩
                 cases q8:Qdt (Qaa.olo (r.places.getD i.toNat default)) (Qaa.ohi (r.places.getD i.toNat default)) 0 1000000 with
                 | true=>
                   have hp8:Qa2 (Qm7 B r i dJ0):=by
                    exact ⟨⟨trivial,(by have t_:=QuF (Qaa.olo (r.places.getD i.toNat default)) (Qaa.ohi (r.places.getD i.toNat default)) (1000000);rw [q8] at t_;exact t_)⟩,hp7⟩
                   cases q9:Qdt (Qaa.slo (r.places.getD i.toNat default)) (Qaa.shi (r.places.getD i.toNat default)) 0 1000000 with
                   | true=>
                     have hp9:Qa2 (Qmo B r i dJ0):=by
                      exact ⟨⟨trivial,(by have t_:=QuF (Qaa.slo (r.places.getD i.toNat default)) (Qaa.shi (r.places.getD i.toNat default)) (1000000);rw [q9] at t_;exact t_)⟩,hp8⟩
                     by_cases q10:(Qaa.olo (r.places.getD i.toNat default):Int) < (Qaa.slo (r.places.getD i.toNat default))
                     ·have s2:=QaM (ps:=r.places) q0;exact (GoE.endsT okF hJ Qab hg0 (QyJ B r i dJ0)
                       ⟨(QbD q10),hp9⟩).cast (by (rw [s2];rw [s3] at *;simp_all [QbA,Qb5];omega))
                     ·have hp10:Qa2 (Qjp B r i dJ0):=by
                       exact ⟨(QbI (Int.not_lt.1 q10)),hp9⟩
                      by_cases q11:(Qaa.ohi (r.places.getD i.toNat default):Int) < (Qaa.shi (r.places.getD i.toNat default))
                      ·have s2:=QaM (ps:=r.places) q0;exact (GoE.endsT okF hJ Qab hg0 (QzL B r i dJ0)
                        ⟨(QbD q11),hp10⟩).cast (by (rw [s2];rw [s3] at *;simp_all [QbA,Qb5];omega))
                      ·have hp11:Qa2 (QkY B r i dJ0):=by
                        exact ⟨(QbI (Int.not_lt.1 q11)),hp10⟩
                       cases q12:inB (Qaa.worth (r.places.getD i.toNat default)) 0 1000000 with
                       | true=>
                         have s2:=QaM (ps:=r.places) q0;exact ((ih0 _ (by omega)) (i+1) rfl (by omega)
                          (hg0.landM okF hJ Qab (Qzz B r i dJ0)
                          ⟨(QaH (by omega) (by omega)),⟨⟨trivial,(by have t_:=rin (Qaa.worth (r.places.getD i.toNat default)) (0) (1000000);rw [q12] at t_;exact t_)⟩,hp11⟩⟩ (by kernel_rfl) (by kernel_rfl))).cast (by (rw [s2];rw [s3] at *;simp_all [QbA,Qb5];done))
                       | false=>
                         have s2:=QaM (ps:=r.places) q0;exact (GoE.endsT okF hJ Qab hg0 (Qz5 B r i dJ0)
                          ⟨⟨trivial,(by have t_:=rin (Qaa.worth (r.places.getD i.toNat default)) (0) (1000000);rw [q12] at t_;exact t_)⟩,hp11⟩).cast (by (rw [s2];rw [s3] at *;simp_all [QbA,Qb5];done))
                   | false=>
                     have s2:=QaM (ps:=r.places) q0;exact (GoE.endsT okF hJ Qab hg0 (QyW B r i dJ0)
                      ⟨⟨trivial,(by have t_:=QuF (Qaa.slo (r.places.getD i.toNat default)) (Qaa.shi (r.places.getD i.toNat default)) (1000000);rw [q9] at t_;exact t_)⟩,hp8⟩).cast (by (rw [s2];rw [s3] at *;simp_all [QbA,Qb5];done))
                 | false=>
                   have s2:=QaM (ps:=r.places) q0;exact (GoE.endsT okF hJ Qab hg0 (Qzp B r i dJ0)
                    ⟨⟨trivial,(by have t_:=QuF (Qaa.olo (r.places.getD i.toNat default)) (Qaa.ohi (r.places.getD i.toNat default)) (1000000);rw [q8] at t_;exact t_)⟩,hp7⟩).cast (by (rw [s2];rw [s3] at *;simp_all [QbA,Qb5];done))
              | false=>
                have s2:=QaM (ps:=r.places) q0;exact (GoE.endsT okF hJ Qab hg0 (Qzi B r i dJ0)
                 ⟨⟨trivial,(by have t_:=rin (Qaa.into (r.places.getD i.toNat default)) (-1) ((↑r.places.length:Int) - 1);rw [q6] at t_;exact t_)⟩,hp5⟩).cast (by (rw [s2];rw [s3] at *;simp_all [QbA,Qb5];done))
            | false=>
              have s2:=QaM (ps:=r.places) q0;exact (GoE.endsT okF hJ Qab hg0 (Qz4 B r i dJ0)
               ⟨⟨trivial,(by have t_:=rin (Qaa.drift (r.places.getD i.toNat default)) (0) (1000);rw [q5] at t_;exact t_)⟩,hp4⟩).cast (by (rw [s2];rw [s3] at *;simp_all [QbA,Qb5];done))
          | false=>
            have s2:=QaM (ps:=r.places) q0;exact (GoE.endsT okF hJ Qab hg0 (QyG B r i dJ0)
             ⟨⟨trivial,(by have t_:=QuF (Qaa.glo (r.places.getD i.toNat default)) (Qaa.ghi (r.places.getD i.toNat default)) (2000);rw [q4] at t_;exact t_)⟩,hp3⟩).cast (by (rw [s2];rw [s3] at *;simp_all [QbA,Qb5];done))
        | false=>
          have s2:=QaM (ps:=r.places) q0;exact (GoE.endsT okF hJ Qab hg0 (Qw6 B r i dJ0)
           ⟨⟨trivial,(by have t_:=rin (Qaa.goal (r.places.getD i.toNat default)) (0) (1000000);rw [q3] at t_;exact t_)⟩,hp2⟩).cast (by (rw [s2];rw [s3] at *;simp_all [QbA,Qb5];done))
      | false=>
        have s2:=QaM (ps:=r.places) q0;exact (GoE.endsT okF hJ Qab hg0 (Qw3 B r i dJ0)
         ⟨⟨trivial,(by have t_:=rin (Qaa.room (r.places.getD i.toNat default)) (0) (1000000);rw [q2] at t_;exact t_)⟩,hp1⟩).cast (by (rw [s2];rw [s3] at *;simp_all [QbA,Qb5];done))
    | false=>
      have s2:=QaM (ps:=r.places) q0;exact (GoE.endsT okF hJ Qab hg0 (Qwe B r i dJ0)
       ⟨⟨trivial,(by have t_:=rin (Qaa.count (r.places.getD i.toNat default)) (0) (1000000);rw [q1] at t_;exact t_)⟩,hp0⟩).cast (by (rw [s2];rw [s3] at *;simp_all [QbA,Qb5];done))
   ·have hp12:Qa2 (QjC B r i dJ0):=by
     exact ⟨(QbI (Int.not_lt.1 q0)),trivial⟩
    cases q1:inB (↑r.places.length:Int) 1 4 with
    | true=>
      have hp13:Qa2 (QjR B r i dJ0):=by
       exact ⟨⟨trivial,(by have t_:=rin ((↑r.places.length:Int)) (1) (4);rw [q1] at t_;exact t_)⟩,hp12⟩
      cases q2:inB r.miss 0 2000 with
      | true=>
        have hp14:Qa2 (QjJ B r i dJ0):=by
         exact ⟨⟨trivial,(by have t_:=rin r.miss (0) (2000);rw [q2] at t_;exact t_)⟩,hp13⟩
        cases q3:inB r.seasons 1 4 with
        | true=>
          have s2:=QdB (ps:=r.places) (i:=i) (by omega);exact (GoE.endsT okF hJ Qab hg0 (QvK B r i dJ0)
           ⟨⟨trivial,(by have t_:=rin r.seasons (1) (4);rw [q3] at t_;exact t_)⟩,hp14⟩).cast (by (rw [s2];simp_all [QhL];done))
        | false=>
          have s2:=QdB (ps:=r.places) (i:=i) (by omega);exact (GoE.endsT okF hJ Qab hg0 (QxO B r i dJ0)
           ⟨⟨trivial,(by have t_:=rin r.seasons (1) (4);rw [q3] at t_;exact t_)⟩,hp14⟩).cast (by (rw [s2];simp_all [QhL];done))
      | false=>
        have s2:=QdB (ps:=r.places) (i:=i) (by omega);exact (GoE.endsT okF hJ Qab hg0 (QxG B r i dJ0)
         ⟨⟨trivial,(by have t_:=rin r.miss (0) (2000);rw [q2] at t_;exact t_)⟩,hp13⟩).cast (by (rw [s2];simp_all [QhL];done))
    | false=>
      have s2:=QdB (ps:=r.places) (i:=i) (by omega);exact (GoE.endsT okF hJ Qab hg0 (QwI B r i dJ0)
       ⟨⟨trivial,(by have t_:=rin ((↑r.places.length:Int)) (1) (4);rw [q1] at t_;exact t_)⟩,hp12⟩).cast (by (rw [s2];simp_all [QhL];done))
set_option maxHeartbeats 4000000 in
theorem Q1U (r:Qaf)  (hfacts:r.places.length<=9223372036854775807) {B:Lo} (hJ:∀w,B.has w->J0 w):EndsT YP B (Qaj YP 20 111 (([.agg (Qak r).toArray]).map (Qau 0 4))) (.bool (Qbm r)):=by
 exact ((QyT r hfacts hJ _) (0) rfl (by omega)
  (GoE.start.landM okF hJ Qab (QvQ B r)
  trivial (by kernel_rfl) (by kernel_rfl))).cast (by (simp only [Qbm];rw [Bool.and_comm];done))
theorem Q2S (r:Qaf)  :Qaw YP J0 20 #[.agg (Qak r).toArray] (.bool (Qbm r)):=
 QbY (ts:=[.agg (Qak r).toArray]) (r.places.length<=9223372036854775807) (fun _ _ ht=> ht.ln2 (i:=0) (j:=0) rfl rfl) QbS (c0:=Qaj YP 20 111 (([.agg (Qak r).toArray]).map (Qau 0 4))) (by kernel_rfl) (by kernel_rfl) fun hfacts B hJ=> Q1U r  hfacts hJ
end
end Go.Proofs.Ytncjjangllkokaa

namespace Go.Proofs.Ytncjjangllkokaa
open Go Go.CE Go.RowKit
noncomputable section
set_option maxRecDepth 100000
theorem Q3l:((Qe0 0:Nat):Int)=1:=rfl
theorem Qxs {i:Int} (h:0<=i):((Qe0 (i+1):Nat):Int)=2 * ((Qe0 i:Nat):Int):=by
 unfold Qe0;rw [show (i+1).toNat=i.toNat+1 by omega,Nat.pow_succ];omega
def hasB (n k:Int):Bool:=n.toNat.testBit k.toNat
theorem Qz7 {n k:Int} (hn:0<=n) (hk:1<=k):hasB n k=hasB (n / 2) (k - 1):=by
 unfold hasB;obtain ⟨j,hj⟩:∃j,k.toNat=j+1:=⟨k.toNat - 1,by omega⟩
 rw [hj,show (k - 1).toNat=j by omega,Nat.testBit_succ,show (n / 2).toNat=n.toNat / 2 by omega]
theorem Q42 {n:Int} (hn:0<=n):hasB n 0=decide (n % 2=1):=by
 unfold hasB;rw [show (0:Int).toNat=0 from rfl,Nat.testBit_zero];exact decide_eq_decide.2 (by omega)
theorem QxE {n k:Int}:decide (((Q03 ((QpT n k:Nat):Int) 1:Nat):Int)=1)=hasB n k:=by
 unfold hasB Q03 QpT;rw [Int.toNat_natCast,show (1:Int).toNat=1 from rfl,Nat.and_one_is_mod,Nat.shiftRight_eq_div_pow,Nat.testBit_eq_decide_div_mod_eq];exact decide_eq_decide.2 (by omega)
def QaG (r:Qaf) (plan:List Int):List Value:=[slP r.places,.int .i64 r.miss,.int .i64 r.seasons,.int .i64 (plan.getD 0 0),.int .i64 (plan.getD 1 0),.int .i64 (plan.getD 2 0),.int .i64 (plan.getD 3 0)]
theorem QdA {r:Qaf} {plan:List Int} (h:QbN r plan=true):plan.length=r.seasons/\∀x∈plan,0<=x/\x < Qe0 r.places.length:=by
 simp only [QbN,YB,decide_eq_true_iff,List.all_eq_true,Qhz] at h;exact ⟨h.1,fun x hx=> by have:=h.2 x hx;omega⟩
def QgH (r:Qaf) (s i:Int):List Value:=[pA 2 0,.int .i64 s,.int .i64 i]
def Qek (r:Qaf) (s i:Int):List Obj:=[Obj.cells #[Qaq 1 (slT r.places.length (Qae Qad r.places)),.int .i64 r.miss,.int .i64 r.seasons] 24]
def Qhn:List Item:=([.code [1,1,0,1,0,0],.inLoop [1,1,0,1,0,0],.inBlock 0,.code [1,1,1]]).map (it (QaB YP 69))
def Qzw (B:Lo) (c0:CF) (r:Qaf) (s i:Int):Prop:=∃dJ:Nat->Value,(∀t,Qbi (dJ t))/\GoE YP B c0 H00 1 (Qa8 69 15 (([1,3,4]:List Nat).zip (QgH r s i)) dJ Qhn) (Qa6 (Qek r s i)) (2+(Qek r s i).length) []
theorem QyI (B:Lo) (r:Qaf) (s i:Int) (dJ0:Nat->Value):landM (Qam YP (Qa3 YP) J0 B 11 1 (Qa8 69 15 (([1,3,4]:List Nat).zip (QgH r s i)) dJ0 Qhn) (Qa6 (Qek r s i)) (2+(Qek r s i).length)
 [(4,hvT),(6,hvI (2 * s)),(9,hvI (i+1))] 0 [] []) [1,3,4] [(2,KS.auto)] []=some ⟨69,15,Qhn,[],.run,none,QgH r (2 * s) (i+1),Qek r (2 * s) (i+1),
 [wq (i+1)=i+1,wq (2 * s)=2 * s,ltq i (↑r.places.length:Int)=true]⟩:=by kernel_rfl
theorem Qz2 (B:Lo) (r:Qaf) (s i:Int) (dJ0:Nat->Value):Qbd (Qam YP (Qa3 YP) J0 B 9 1 (Qa8 69 15 (([1,3,4]:List Nat).zip (QgH r s i)) dJ0 Qhn) (Qa6 (Qek r s i)) (2+(Qek r s i).length)
 [(4,hvF)] 0 [] []) []=some (.int .i64 s,
 [ltq i (↑r.places.length:Int)=false]):=by kernel_rfl
theorem QyZ (B:Lo) (r:Qaf):landM (Qam YP (Qa3 YP) J0 B 9 1 (Qaj YP 69 15 (([.agg (Qak r).toArray]).map (Qau 0 4))) H00 1
 [] 0 [] []) [1,3,4] [(1,KS.auto)] []=some ⟨69,15,Qhn,[],.run,none,QgH r (1) (0),Qek r (1) (0),
 []⟩:=by kernel_rfl
set_option maxHeartbeats 4000000 in
theorem Qys (r:Qaf) (hn:r.places.length<=61) {B:Lo} (hJ:∀w,B.has w->J0 w) {c0:CF}:∀m:Nat,(∀(s i:Int),r.places.length - i.toNat=m->∀(h0:0<=i) (h1:i<=r.places.length) (hs:s=((Qe0 i:Nat):Int)),Qzw B c0 r s i->EndsT YP B c0 (.int .i64 ((Qe0 r.places.length:Nat):Int))):=by
 intro m0;induction m0 using Nat.strongRecOn with
 | _ m0 ih0=>
   intro s i hm0 h0 h1 hs ⟨dJ0,hdJ0,hg0⟩;have e1:=QnT (n:=i) (by omega);have e2:=Qxs (i:=i) h0;by_cases q0:(i:Int) < ((↑r.places.length:Int))
   ·have e3:=QnT (n:=i+1) (by omega);exact ((ih0 _ (by omega)) (2 * s) (i+1) rfl (by omega) (by omega) (by omega)
     (hg0.landM okF hJ Qab (QyI B r s i dJ0)
     ⟨(QaH (by omega) (by omega)),⟨(QaH (by omega) (by omega)),⟨(QbD q0),trivial⟩⟩⟩ (by kernel_rfl) (by kernel_rfl))).cast (by rfl)
   ·exact (GoE.endsT okF hJ Qab hg0 (Qz2 B r s i dJ0)
     ⟨(QbI (Int.not_lt.1 q0)),trivial⟩).cast (by (rw [hs,show i=r.places.length by omega];done))
set_option maxHeartbeats 4000000 in
theorem Q22 (r:Qaf) (hn:r.places.length<=61) {B:Lo} (hJ:∀w,B.has w->J0 w):EndsT YP B (Qaj YP 69 15 (([.agg (Qak r).toArray]).map (Qau 0 4))) (.int .i64 ((Qe0 r.places.length:Nat):Int)):=by
 exact ((Qys r hn hJ _) (1) (0) rfl (by omega) (by omega) (by exact Q3l.symm)
  (GoE.start.landM okF hJ Qab (QyZ B r)
  trivial (by kernel_rfl) (by kernel_rfl))).cast (by rfl)
theorem Q41 (r:Qaf) (hn:r.places.length<=61):Qaw YP J0 69 #[.agg (Qak r).toArray] (.int .i64 ((Qe0 r.places.length:Nat):Int)):=
 QaV (ts:=[.agg (Qak r).toArray]) QbS (c0:=Qaj YP 69 15 (([.agg (Qak r).toArray]).map (Qau 0 4))) (by kernel_rfl) (by kernel_rfl) fun B hJ=> Q22 r hn hJ
def QeK (r:Qaf) (plan:List Int) (i:Int):List Value:=[Qaq 1 (slT plan.length (Qae Qav plan)),pA 2 0,.int .i64 i]
def Qc8 (r:Qaf) (plan:List Int) (i:Int):List Obj:=[Obj.cells #[Qaq 1 (slT r.places.length (Qae Qad r.places)),.int .i64 r.miss,.int .i64 r.seasons] 24]
def QeH:List Item:=([.code [1,0,1,0,0],.inLoop [1,0,1,0,0],.inBlock 0,.code [1,1]]).map (it (QaB YP 41))
def Qz0 (B:Lo) (c0:CF) (r:Qaf) (plan:List Int) (i:Int):Prop:=∃dJ:Nat->Value,(∀t,Qbi (dJ t))/\GoE YP B c0 H00 1 (Qa8 41 26 (([1,2,5]:List Nat).zip (QeK r plan i)) dJ QeH) (Qa6 (Qc8 r plan i)) (2+(Qc8 r plan i).length) []
def Qnn (B:Lo) (r:Qaf) (plan:List Int) (i:Int) (dJ0:Nat->Value):List Prop:=[wq ((↑(Qe0 (↑r.places.length:Int)):Int) - 1)=(↑(Qe0 (↑r.places.length:Int)):Int) - 1,Qa2 []/\Qaw YP J0 69 #[.agg #[slT r.places.length (Qae Qad r.places),.int .i64 r.miss,.int .i64 r.seasons]] (.int .i64 (↑(Qe0 (↑r.places.length:Int)):Int)),i=(↑i.toNat:Int)/\Int.toNat i < List.length plan/\Array.extract (Qae Qav plan) (Int.toNat i * TypeInfo.size Try.t3) (Int.toNat i * TypeInfo.size Try.t3+TypeInfo.size Try.t3)=#[.int .i64 (plan.getD i.toNat default)],ltq i (↑plan.length:Int)=true]++([]:List Prop)
def QsY (r:Qaf) (plan:List Int) (i:Int) (dJ0:Nat->Value):Qax:=[(3,hvT),(6,Qai.tidx i.toNat #[.int .i64 (plan.getD i.toNat default)]),(9,Qai.pure (.int .i64 (↑(Qe0 (↑r.places.length:Int)):Int)) []),(10,hvI ((↑(Qe0 (↑r.places.length:Int)):Int) - 1))]
theorem QyO (B:Lo) (r:Qaf) (plan:List Int) (i:Int) (dJ0:Nat->Value):landM (Qam YP (Qa3 YP) J0 B 14 1 (Qa8 41 26 (([1,2,5]:List Nat).zip (QeK r plan i)) dJ0 QeH) (Qa6 (Qc8 r plan i)) (2+(Qc8 r plan i).length)
 (QsY r plan i dJ0++[(11,Qai.pure (.bool true) []),(14,hvI (i+1))]) 0 [] []) [1,2,5] [(2,KS.auto)] []=some ⟨41,26,QeH,[],.run,none,QeK r plan (i+1),Qc8 r plan (i+1),
 [wq (i+1)=i+1,Qa2 []/\Qaw YP J0 55 #[.int .i64 (plan.getD i.toNat default),.int .i64 0,.int .i64 ((↑(Qe0 (↑r.places.length:Int)):Int) - 1)] (.bool true)]++Qnn B r plan i dJ0⟩:=by kernel_rfl
theorem Q0a (B:Lo) (r:Qaf) (plan:List Int) (i:Int) (dJ0:Nat->Value):Qbd (Qam YP (Qa3 YP) J0 B 14 1 (Qa8 41 26 (([1,2,5]:List Nat).zip (QeK r plan i)) dJ0 QeH) (Qa6 (Qc8 r plan i)) (2+(Qc8 r plan i).length)
 (QsY r plan i dJ0++[(11,Qai.pure (.bool false) [])]) 0 [] []) []=some (.bool false,
 [Qa2 []/\Qaw YP J0 55 #[.int .i64 (plan.getD i.toNat default),.int .i64 0,.int .i64 ((↑(Qe0 (↑r.places.length:Int)):Int) - 1)] (.bool false)]++Qnn B r plan i dJ0):=by kernel_rfl
def Qn9 (B:Lo) (r:Qaf) (plan:List Int) (i:Int) (dJ0:Nat->Value):List Prop:=[ltq i (↑plan.length:Int)=false]++([]:List Prop)
def Qta (r:Qaf) (plan:List Int) (i:Int) (dJ0:Nat->Value):Qax:=[(3,hvF)]
theorem QzU (B:Lo) (r:Qaf) (plan:List Int) (i:Int) (dJ0:Nat->Value):Qbd (Qam YP (Qa3 YP) J0 B 9 1 (Qa8 41 26 (([1,2,5]:List Nat).zip (QeK r plan i)) dJ0 QeH) (Qa6 (Qc8 r plan i)) (2+(Qc8 r plan i).length)
 (Qta r plan i dJ0++[(8,hvT)]) 0 [] []) []=some (.bool true,
 [eqq (↑plan.length:Int) r.seasons=true]++Qn9 B r plan i dJ0):=by kernel_rfl
theorem QzF (B:Lo) (r:Qaf) (plan:List Int) (i:Int) (dJ0:Nat->Value):Qbd (Qam YP (Qa3 YP) J0 B 9 1 (Qa8 41 26 (([1,2,5]:List Nat).zip (QeK r plan i)) dJ0 QeH) (Qa6 (Qc8 r plan i)) (2+(Qc8 r plan i).length)
 (Qta r plan i dJ0++[(8,hvF)]) 0 [] []) []=some (.bool false,
 [eqq (↑plan.length:Int) r.seasons=false]++Qn9 B r plan i dJ0):=by kernel_rfl
theorem QzV (B:Lo) (r:Qaf) (plan:List Int):landM (Qam YP (Qa3 YP) J0 B 7 1 (Qaj YP 41 26 (([.agg (Qak r).toArray,slI plan]).map (Qau 0 4))) H00 1
 [] 0 [] []) [1,2,5] [(1,KS.auto)] []=some ⟨41,26,QeH,[],.run,none,QeK r plan (0),Qc8 r plan (0),
 []⟩:=by kernel_rfl
set_option maxHeartbeats 4000000 in
theorem QzC (r:Qaf) (plan:List Int) (hn:r.places.length<=61) (hfacts:plan.length<=9223372036854775807) {B:Lo} (hJ:∀w,B.has w->J0 w) {c0:CF}:∀m:Nat,(∀(i:Int),plan.length - i.toNat=m->∀(h0:0<=i),Qz0 B c0 r plan i->EndsT YP B c0 (.bool ((plan.drop i.toNat).all (fun x=> inB x 0 (((Qe0 r.places.length:Nat):Int) - 1)) && decide (plan.length=r.seasons)))):=by
 intro m0;induction m0 using Nat.strongRecOn with
 | _ m0 ih0=>
   intro i hm0 h0 ⟨dJ0,hdJ0,hg0⟩;have e1:=QnT (n:=r.places.length) (by omega);by_cases q0:(i:Int) < ((↑plan.length:Int))
   ·have hp0:Qa2 (Qnn B r plan i dJ0):=by
     exact ⟨(QaH (by omega) (by omega)),⟨⟨trivial,Q41 (r) (by with_reducible assumption)⟩,⟨⟨by omega,by omega,(Qal (z:=1) (fun _=> rfl) (by omega))⟩,⟨(QbD q0),trivial⟩⟩⟩⟩
    cases q1:inB (plan.getD i.toNat default) 0 ((↑(Qe0 (↑r.places.length:Int)):Int) - 1) with
    | true=>
      have s2:=QeA (l:=plan) (p:=fun x=> inB x 0 (((Qe0 r.places.length:Nat):Int) - 1)) h0 q0;exact ((ih0 _ (by omega)) (i+1) rfl (by omega)
       (hg0.landM okF hJ Qab (QyO B r plan i dJ0)
       ⟨(QaH (by omega) (by omega)),⟨⟨trivial,(by have t_:=rin (plan.getD i.toNat default) (0) ((↑(Qe0 (↑r.places.length:Int)):Int) - 1);rw [q1] at t_;exact t_)⟩,hp0⟩⟩ (by kernel_rfl) (by kernel_rfl))).cast (by (rw [s2];simp_all;done))
    | false=>
      have s2:=QeA (l:=plan) (p:=fun x=> inB x 0 (((Qe0 r.places.length:Nat):Int) - 1)) h0 q0;exact (GoE.endsT okF hJ Qab hg0 (Q0a B r plan i dJ0)
       ⟨⟨trivial,(by have t_:=rin (plan.getD i.toNat default) (0) ((↑(Qe0 (↑r.places.length:Int)):Int) - 1);rw [q1] at t_;exact t_)⟩,hp0⟩).cast (by (rw [s2];simp_all;done))
   ·have hp1:Qa2 (Qn9 B r plan i dJ0):=by
     exact ⟨(QbI (Int.not_lt.1 q0)),trivial⟩
    by_cases q1:((↑plan.length:Int):Int)=r.seasons
    ·have s2:=QgY (l:=plan) (p:=fun x=> inB x 0 (((Qe0 r.places.length:Nat):Int) - 1)) (i:=i) (by omega);exact (GoE.endsT okF hJ Qab hg0 (QzU B r plan i dJ0)
      ⟨(QnZ q1),hp1⟩).cast (by (rw [s2];simp [*];done))
    ·have s2:=QgY (l:=plan) (p:=fun x=> inB x 0 (((Qe0 r.places.length:Nat):Int) - 1)) (i:=i) (by omega);exact (GoE.endsT okF hJ Qab hg0 (QzF B r plan i dJ0)
      ⟨(Qnt q1),hp1⟩).cast (by (rw [s2];simp [*];done))
set_option maxHeartbeats 4000000 in
theorem Q25 (r:Qaf) (plan:List Int) (hn:r.places.length<=61) (hfacts:plan.length<=9223372036854775807) {B:Lo} (hJ:∀w,B.has w->J0 w):EndsT YP B (Qaj YP 41 26 (([.agg (Qak r).toArray,slI plan]).map (Qau 0 4))) (.bool (QbN r plan)):=by
 exact ((QzC r plan hn hfacts hJ _) (0) rfl (by omega)
  (GoE.start.landM okF hJ Qab (QzV B r plan)
  trivial (by kernel_rfl) (by kernel_rfl))).cast (by (simp [QbN,Bool.and_comm];done))
theorem Q3P (r:Qaf) (plan:List Int) (hn:r.places.length<=61):Qaw YP J0 41 #[.agg (Qak r).toArray,slI plan] (.bool (QbN r plan)):=
 QbY (ts:=[.agg (Qak r).toArray,slI plan]) (plan.length<=9223372036854775807) (fun _ _ ht=> ht.ln (i:=1) rfl) QbS (c0:=Qaj YP 41 26 (([.agg (Qak r).toArray,slI plan]).map (Qau 0 4))) (by kernel_rfl) (by kernel_rfl) fun hfacts B hJ=> Q25 r plan hn hfacts hJ
def Qhv (n k:Int) (x i:Int):List Value:=[.int .i64 x,.int .i64 k,.int .i64 i]
def Qen (n k:Int) (x i:Int):List Obj:=[]
def Qhx:List Item:=([.code [1,0,1,0,0],.inLoop [1,0,1,0,0],.inBlock 0,.code [1,1]]).map (it (QaB YP 47))
def Q1Z (B:Lo) (c0:CF) (n k:Int) (x i:Int):Prop:=∃dJ:Nat->Value,(∀t,Qbi (dJ t))/\GoE YP B c0 H00 1 (Qa8 47 16 (([0,1,5]:List Nat).zip (Qhv n k x i)) dJ Qhx) (Qa6 (Qen n k x i)) (2+(Qen n k x i).length) []
theorem Q2k (B:Lo) (n k:Int) (x i:Int) (dJ0:Nat->Value):landM (Qam YP (Qa3 YP) J0 B 11 1 (Qa8 47 16 (([0,1,5]:List Nat).zip (Qhv n k x i)) dJ0 Qhx) (Qa6 (Qen n k x i)) (2+(Qen n k x i).length)
 [(2,hvT),(4,hvI (Int.tdiv x 2)),(7,hvI (i+1))] 0 [] []) [0,1,5] [] []=some ⟨47,16,Qhx,[],.run,none,Qhv n k (Int.tdiv x 2) (i+1),Qen n k (Int.tdiv x 2) (i+1),
 [wq (i+1)=i+1,IntKind.wrap .i64 (Int.tdiv x 2)=Int.tdiv x 2,ltq i k=true]⟩:=by kernel_rfl
def Qsm (B:Lo) (n k:Int) (x i:Int) (dJ0:Nat->Value):List Prop:=[ltq i k=false]++([]:List Prop)
def QvB (n k:Int) (x i:Int) (dJ0:Nat->Value):Qax:=[(2,hvF)]
theorem Q2d (B:Lo) (n k:Int) (x i:Int) (dJ0:Nat->Value):Qbd (Qam YP (Qa3 YP) J0 B 9 1 (Qa8 47 16 (([0,1,5]:List Nat).zip (Qhv n k x i)) dJ0 Qhx) (Qa6 (Qen n k x i)) (2+(Qen n k x i).length)
 (QvB n k x i dJ0++[(5,hvT)]) 0 [] []) []=some (.bool true,
 [eqq (Int.tmod x 2) 1=true]++Qsm B n k x i dJ0):=by kernel_rfl
theorem Q13 (B:Lo) (n k:Int) (x i:Int) (dJ0:Nat->Value):Qbd (Qam YP (Qa3 YP) J0 B 9 1 (Qa8 47 16 (([0,1,5]:List Nat).zip (Qhv n k x i)) dJ0 Qhx) (Qa6 (Qen n k x i)) (2+(Qen n k x i).length)
 (QvB n k x i dJ0++[(5,hvF)]) 0 [] []) []=some (.bool false,
 [eqq (Int.tmod x 2) 1=false]++Qsm B n k x i dJ0):=by kernel_rfl
theorem Q2c (B:Lo) (n k:Int):landM (Qam YP (Qa3 YP) J0 B 7 1 (Qaj YP 47 16 (([.int .i64 n,.int .i64 k]).map (Qau 0 4))) H00 1
 [] 0 [] []) [0,1,5] [] []=some ⟨47,16,Qhx,[],.run,none,Qhv n k (n) (0),Qen n k (n) (0),
 []⟩:=by kernel_rfl
set_option maxHeartbeats 4000000 in
theorem Q2l (n k:Int) (hn:0<=n/\n<=1000000000) (hk:0<=k/\k<=1000000000) {B:Lo} (hJ:∀w,B.has w->J0 w) {c0:CF}:∀m:Nat,(∀(x i:Int),(k - i).toNat=m->∀(h0:0<=i) (h1:i<=k) (h2:0<=x/\x<=1000000000) (hx:hasB x (k - i)=hasB n k),Q1Z B c0 n k x i->EndsT YP B c0 (.bool (hasB n k))):=by
 intro m0;induction m0 using Nat.strongRecOn with
 | _ m0 ih0=>
   intro x i hm0 h0 h1 h2 hx ⟨dJ0,hdJ0,hg0⟩;have e1:x.tdiv 2=x / 2:=Int.tdiv_eq_ediv_of_nonneg h2.1;have e2:x.tmod 2=x % 2:=Int.tmod_eq_emod_of_nonneg h2.1;have e4:=Q42 (n:=x) h2.1;by_cases q0:(i:Int) < (k)
   ·have e3:=Qz7 (n:=x) (k:=k - i) h2.1 (by omega);exact ((ih0 _ (by omega)) (Int.tdiv x 2) (i+1) rfl (by omega) (by omega) (by omega) (by (rw [<-hx,e3,e1,show k - (i+1)=k - i - 1 by omega];done))
     (hg0.landM okF hJ Qab (Q2k B n k x i dJ0)
     ⟨(QaH (by omega) (by omega)),⟨(Qfl (by omega) (by omega)),⟨(QbD q0),trivial⟩⟩⟩ (by kernel_rfl) (by kernel_rfl))).cast (by rfl)
   ·have hp0:Qa2 (Qsm B n k x i dJ0):=by
     exact ⟨(QbI (Int.not_lt.1 q0)),trivial⟩
    by_cases q1:(Int.tmod x 2:Int)=(1)
    ·exact (GoE.endsT okF hJ Qab hg0 (Q2d B n k x i dJ0)
      ⟨(QnZ q1),hp0⟩).cast (by (rw [<-hx,show k - i=0 by omega,e4];simp [*];omega))
    ·exact (GoE.endsT okF hJ Qab hg0 (Q13 B n k x i dJ0)
      ⟨(Qnt q1),hp0⟩).cast (by (rw [<-hx,show k - i=0 by omega,e4];simp [*];omega))
set_option maxHeartbeats 4000000 in
theorem Q3j (n k:Int) (hn:0<=n/\n<=1000000000) (hk:0<=k/\k<=1000000000) {B:Lo} (hJ:∀w,B.has w->J0 w):EndsT YP B (Qaj YP 47 16 (([.int .i64 n,.int .i64 k]).map (Qau 0 4))) (.bool (hasB n k)):=by
 exact ((Q2l n k hn hk hJ _) (n) (0) rfl (by omega) (by omega) (by with_reducible assumption) (by (simp_all;done))
  (GoE.start.landM okF hJ Qab (Q2c B n k)
  trivial (by kernel_rfl) (by kernel_rfl))).cast (by rfl)
theorem Q48 (n k:Int) (hn:0<=n/\n<=1000000000) (hk:0<=k/\k<=1000000000):Qaw YP J0 47 #[.int .i64 n,.int .i64 k] (.bool (hasB n k)):=
 QaV (ts:=[.int .i64 n,.int .i64 k]) QbS (c0:=Qaj YP 47 16 (([.int .i64 n,.int .i64 k]).map (Qau 0 4))) (by kernel_rfl) (by kernel_rfl) fun B hJ=> Q3j n k hn hk hJ
def QhA (B:Lo) (r:Qaf) (plan:List Int):List Prop:=[wq ((↑(Qe0 (↑r.places.length:Int)):Int) - 1)=(↑(Qe0 (↑r.places.length:Int)):Int) - 1,Qrs YP BinOp.shl 3 (.int .i64 1) (Qch {len:=16000,tr:=Tri.set 14 Tri.lf 14 (.int .i64 (↑r.places.length:Int))} 14) (.int .i64 (↑(Qe0 (↑r.places.length:Int)):Int)),eqq (↑plan.length:Int) r.seasons=true]++([]:List Prop)
def QlD (r:Qaf) (plan:List Int):Qax:=[(6,hvT),(12,Qai.bin (.int .i64 (↑(Qe0 (↑r.places.length:Int)):Int))),(13,hvI ((↑(Qe0 (↑r.places.length:Int)):Int) - 1))]
theorem QtN (B:Lo) (r:Qaf) (plan:List Int):Qbd (Qam YP (Qa3 YP) J0 B 6 1 (Qaj YP 51 19 (([.agg (Qak r).toArray,slI plan]).map (Qau 0 4))) H00 1
 (QlD r plan++[(14,Qai.pure (.bool true) [])]) 0 [] []) []=some (.bool true,
 [Qa2 []/\Qaw YP J0 74 #[slT plan.length (Qae Qav plan),.int .i64 0,.int .i64 ((↑(Qe0 (↑r.places.length:Int)):Int) - 1)] (.bool true)]++QhA B r plan):=by kernel_rfl
theorem QtK (B:Lo) (r:Qaf) (plan:List Int):Qbd (Qam YP (Qa3 YP) J0 B 6 1 (Qaj YP 51 19 (([.agg (Qak r).toArray,slI plan]).map (Qau 0 4))) H00 1
 (QlD r plan++[(14,Qai.pure (.bool false) [])]) 0 [] []) []=some (.bool false,
 [Qa2 []/\Qaw YP J0 74 #[slT plan.length (Qae Qav plan),.int .i64 0,.int .i64 ((↑(Qe0 (↑r.places.length:Int)):Int) - 1)] (.bool false)]++QhA B r plan):=by kernel_rfl
theorem Qu6 (B:Lo) (r:Qaf) (plan:List Int):Qbd (Qam YP (Qa3 YP) J0 B 6 1 (Qaj YP 51 19 (([.agg (Qak r).toArray,slI plan]).map (Qau 0 4))) H00 1
 [(6,hvF)] 0 [] []) []=some (.bool false,
 [eqq (↑plan.length:Int) r.seasons=false]):=by kernel_rfl
set_option maxHeartbeats 4000000 in
theorem QxQ (r:Qaf) (plan:List Int) (hn:r.places.length<=61) (hfacts:plan.length<=9223372036854775807) {B:Lo} (hJ:∀w,B.has w->J0 w):EndsT YP B (Qaj YP 51 19 (([.agg (Qak r).toArray,slI plan]).map (Qau 0 4))) (.bool (QbN r plan)):=by
 have e1:=QnT (n:=r.places.length) (by omega);by_cases q0:((↑plan.length:Int):Int)=r.seasons
 ·have hp0:Qa2 (QhA B r plan):=by
   exact ⟨(QaH (by omega) (by omega)),⟨(Qzo (by omega) (by omega)),⟨(QnZ q0),trivial⟩⟩⟩
  cases q1:List.all plan fun x=> inB x 0 ((↑(Qe0 (↑r.places.length:Int)):Int) - 1) with
  | true=>
    exact (GoE.endsT okF hJ Qab GoE.start (QtN B r plan)
     ⟨⟨trivial,(by have t_:=Q1k (plan) (0) ((↑(Qe0 (↑r.places.length:Int)):Int) - 1);rw [q1] at t_;exact t_)⟩,hp0⟩).cast (by (simp [QbN, *];done))
  | false=>
    exact (GoE.endsT okF hJ Qab GoE.start (QtK B r plan)
     ⟨⟨trivial,(by have t_:=Q1k (plan) (0) ((↑(Qe0 (↑r.places.length:Int)):Int) - 1);rw [q1] at t_;exact t_)⟩,hp0⟩).cast (by (simp [QbN, *];done))
 ·exact (GoE.endsT okF hJ Qab GoE.start (Qu6 B r plan)
   ⟨(Qnt q0),trivial⟩).cast (by (simp [QbN, *];done))
theorem Qx3 (r:Qaf) (plan:List Int) (hn:r.places.length<=61):Qaw YP J0 51 #[.agg (Qak r).toArray,slI plan] (.bool (QbN r plan)):=
 QbY (ts:=[.agg (Qak r).toArray,slI plan]) (plan.length<=9223372036854775807) (fun _ _ ht=> ht.ln (i:=1) rfl) QbS (c0:=Qaj YP 51 19 (([.agg (Qak r).toArray,slI plan]).map (Qau 0 4))) (by kernel_rfl) (by kernel_rfl) fun hfacts B hJ=> QxQ r plan hn hfacts hJ
theorem QoR (B:Lo) (r:Qaf) (plan:List Int):Qbd (Qam YP (Qa3 YP) J0 B 10 1 (Qaj YP 52 13 (([.agg (Qak r).toArray,slI plan]).map (Qau 0 4))) H00 1
 [(9,Qai.tcpy #[Qaq 0 (slT r.places.length (Qae Qad r.places)),.int .i64 r.miss,.int .i64 r.seasons,.int .i64 (plan.getD 0 default),.int .i64 (plan.getD 1 default),.int .i64 (plan.getD 2 default),.int .i64 (plan.getD 3 default)])] 0 [] []) []=some (.agg #[slT r.places.length (Qae Qad r.places),.int .i64 r.miss,.int .i64 r.seasons,.int .i64 (plan.getD 0 default),.int .i64 (plan.getD 1 default),.int .i64 (plan.getD 2 default),.int .i64 (plan.getD 3 default)],
 [0 < List.length plan/\3+Nat.min plan.length 4 * TypeInfo.size Try.t3<=Array.size #[Qaq 0 (slT r.places.length (Qae Qad r.places)),.int .i64 r.miss,.int .i64 r.seasons,.int .i64 0,.int .i64 0,.int .i64 0,.int .i64 0]/\Nat.min plan.length 4 * TypeInfo.size Try.t3<=Array.size (Qae Qav plan)/\(Array.all (Qae Qav plan) fun v=> simple v || QcT v)=true/\ones (Array.map (Qce 0) (Array.extract (Qae Qav plan) 0 (Nat.min plan.length 4 * TypeInfo.size Try.t3)))=true/\splice #[Qaq 0 (slT r.places.length (Qae Qad r.places)),.int .i64 r.miss,.int .i64 r.seasons,.int .i64 0,.int .i64 0,.int .i64 0,.int .i64 0] 3 (Array.map (Qce 0) (Array.extract (Qae Qav plan) 0 (Nat.min plan.length 4 * TypeInfo.size Try.t3)))=#[Qaq 0 (slT r.places.length (Qae Qad r.places)),.int .i64 r.miss,.int .i64 r.seasons,.int .i64 (plan.getD 0 default),.int .i64 (plan.getD 1 default),.int .i64 (plan.getD 2 default),.int .i64 (plan.getD 3 default)]]):=by kernel_rfl
set_option maxHeartbeats 4000000 in
theorem Qsi (r:Qaf) (plan:List Int) (h0:0 < plan.length) (hl:plan.length<=4) {B:Lo} (hJ:∀w,B.has w->J0 w):EndsT YP B (Qaj YP 52 13 (([.agg (Qak r).toArray,slI plan]).map (Qau 0 4))) (.agg (QaG r plan).toArray):=by
 exact (GoE.endsT okF hJ Qab GoE.start (QoR B r plan)
  ⟨(QsB (fun _=> rfl) rfl (by omega) (by omega) rfl (YL rfl) rfl),trivial⟩).cast (by rfl)
theorem QxH (r:Qaf) (plan:List Int) (h0:0 < plan.length) (hl:plan.length<=4):Qaw YP J0 52 #[.agg (Qak r).toArray,slI plan] (.agg (QaG r plan).toArray):=
 QaV (ts:=[.agg (Qak r).toArray,slI plan]) QbS (c0:=Qaj YP 52 13 (([.agg (Qak r).toArray,slI plan]).map (Qau 0 4))) (by kernel_rfl) (by kernel_rfl) fun B hJ=> Qsi r plan h0 hl hJ
theorem Qxl (B:Lo) (r:Qaf):Qbd (Qam YP (Qa3 YP) J0 B 6 1 (Qaj YP 15 7 (([.agg (Qak r).toArray]).map (Qau 0 4))) H00 1
 [(5,hvT)] 0 [] []) []=some (.bool true,
 [(!ltq 8 (↑r.places.length:Int))=true]):=by kernel_rfl
theorem QwK (B:Lo) (r:Qaf):Qbd (Qam YP (Qa3 YP) J0 B 6 1 (Qaj YP 15 7 (([.agg (Qak r).toArray]).map (Qau 0 4))) H00 1
 [(5,hvF)] 0 [] []) []=some (.bool false,
 [(!ltq 8 (↑r.places.length:Int))=false]):=by kernel_rfl
set_option maxHeartbeats 4000000 in
theorem Q01 (r:Qaf)  (hfacts:r.places.length<=9223372036854775807) {B:Lo} (hJ:∀w,B.has w->J0 w):EndsT YP B (Qaj YP 15 7 (([.agg (Qak r).toArray]).map (Qau 0 4))) (.bool (decide (r.places.length<=8))):=by
 by_cases q0:((↑r.places.length:Int):Int)<=(8)
 ·exact (GoE.endsT okF hJ Qab GoE.start (Qxl B r)
   ⟨(Qd2 q0),trivial⟩).cast (by (simp_all [];omega))
 ·exact (GoE.endsT okF hJ Qab GoE.start (QwK B r)
   ⟨(Qd3 (Int.not_le.1 q0)),trivial⟩).cast (by (simp_all [];omega))
theorem Q0W (r:Qaf)  :Qaw YP J0 15 #[.agg (Qak r).toArray] (.bool (decide (r.places.length<=8))):=
 QbY (ts:=[.agg (Qak r).toArray]) (r.places.length<=9223372036854775807) (fun _ _ ht=> ht.ln2 (i:=0) (j:=0) rfl rfl) QbS (c0:=Qaj YP 15 7 (([.agg (Qak r).toArray]).map (Qau 0 4))) (by kernel_rfl) (by kernel_rfl) fun hfacts B hJ=> Q01 r  hfacts hJ
def Qhi (r:Qaf):Array Value:=#[slT r.places.length (Qae Qad r.places),.int .i64 r.miss,.int .i64 r.seasons]
def Qk3 (B:Lo) (r:Qaf) (plan:List Int):List Prop:=[Qa2 []/\Qaw YP J0 20 #[.agg (Qhi r)] (.bool true)]++([]:List Prop)
def Qpv (r:Qaf) (plan:List Int):Qax:=[(3,Qai.pure (.bool true) [])]
theorem Qwa (B:Lo) (r:Qaf) (plan:List Int):Qbd (Qam YP (Qa3 YP) J0 B 6 1 (Qaj YP 21 12 (([.agg (Qak r).toArray,slI plan]).map (Qau 0 4))) H00 1
 (Qpv r plan++[(7,Qai.pure (.bool true) [])]) 0 [] []) []=some (.bool true,
 [Qa2 []/\Qaw YP J0 41 #[.agg (Qhi r),slT plan.length (Qae Qav plan)] (.bool true)]++Qk3 B r plan):=by kernel_rfl
theorem QxX (B:Lo) (r:Qaf) (plan:List Int):Qbd (Qam YP (Qa3 YP) J0 B 6 1 (Qaj YP 21 12 (([.agg (Qak r).toArray,slI plan]).map (Qau 0 4))) H00 1
 (Qpv r plan++[(7,Qai.pure (.bool false) [])]) 0 [] []) []=some (.bool false,
 [Qa2 []/\Qaw YP J0 41 #[.agg (Qhi r),slT plan.length (Qae Qav plan)] (.bool false)]++Qk3 B r plan):=by kernel_rfl
theorem QvX (B:Lo) (r:Qaf) (plan:List Int):Qbd (Qam YP (Qa3 YP) J0 B 6 1 (Qaj YP 21 12 (([.agg (Qak r).toArray,slI plan]).map (Qau 0 4))) H00 1
 [(3,Qai.pure (.bool false) [])] 0 [] []) []=some (.bool false,
 [Qa2 []/\Qaw YP J0 20 #[.agg (Qhi r)] (.bool false)]):=by kernel_rfl
set_option maxHeartbeats 4000000 in
theorem QzI (r:Qaf) (plan:List Int)  {B:Lo} (hJ:∀w,B.has w->J0 w):EndsT YP B (Qaj YP 21 12 (([.agg (Qak r).toArray,slI plan]).map (Qau 0 4))) (.bool (Qbm r && QbN r plan)):=by
 cases q0:Qbm r with
 | true=>
   have hp0:Qa2 (Qk3 B r plan):=by
    exact ⟨⟨trivial,(by have t_:=Q2S (r);rw [q0] at t_;exact t_)⟩,trivial⟩
   cases q1:QbN r plan with
   | true=>
     have hsz:=(Qbj (QaL ‹Qbm r=true›).1).1;exact (GoE.endsT okF hJ Qab GoE.start (Qwa B r plan)
      ⟨⟨trivial,(by have t_:=Q3P (r) (plan) (by omega);rw [q1] at t_;exact t_)⟩,hp0⟩).cast (by rfl)
   | false=>
     have hsz:=(Qbj (QaL ‹Qbm r=true›).1).1;exact (GoE.endsT okF hJ Qab GoE.start (QxX B r plan)
      ⟨⟨trivial,(by have t_:=Q3P (r) (plan) (by omega);rw [q1] at t_;exact t_)⟩,hp0⟩).cast (by rfl)
 | false=>
   exact (GoE.endsT okF hJ Qab GoE.start (QvX B r plan)
    ⟨⟨trivial,(by have t_:=Q2S (r);rw [q0] at t_;exact t_)⟩,trivial⟩).cast (by rfl)
theorem Qtl (r:Qaf) (plan:List Int)  :Qaw YP J0 21 #[.agg (Qak r).toArray,slI plan] (.bool (Qbm r && QbN r plan)):=
 QaV (ts:=[.agg (Qak r).toArray,slI plan]) QbS (c0:=Qaj YP 21 12 (([.agg (Qak r).toArray,slI plan]).map (Qau 0 4))) (by kernel_rfl) (by kernel_rfl) fun B hJ=> QzI r plan  hJ
end
end Go.Proofs.Ytncjjangllkokaa

