/- Loads as defined. -/
import Derived.Test.YtiabgkiccaodmaaGreatZMO11
set_option linter.all false
namespace Go.Proofs.YtiabgkiccaodmaaGreat
open Go Go.CE Go.RowKit
noncomputable section
set_option maxRecDepth 100000
def Qel (things:Int):List Int->Int->Bool
 | [],_=> true
 | n::l,least=> inB n least (things - 1) && Qel things l (n+1)
def QfW:List Int->Int
 | []=> 0
 | x::l=> x+QfW l
theorem QcH {things least i:Int} {l:List Int} (h0:0<=i) (h:i < l.length):Qel things (l.drop i.toNat) least=(inB (l.getD i.toNat default) least (things - 1) && Qel things (l.drop (i+1).toNat) (l.getD i.toNat default+1)):=by
 obtain ⟨k,rfl⟩:∃k:Nat,i=k:=⟨i.toNat,by omega⟩
 have hk:k < l.length:=by omega
 have e1:((k:Int)).toNat=k:=by omega
 have e2:((k:Int)+1).toNat=k+1:=by omega
 rw [e1,e2,List.drop_eq_getElem_cons hk];simp [Qel,List.getD_eq_getElem?_getD,hk]
theorem QmG {things least i:Int} {l:List Int} (h:l.length<=i):Qel things (l.drop i.toNat) least=true:=by
 rw [List.drop_eq_nil_of_le (by omega)];rfl
theorem Q12 {i:Int} {l:List Int} (h0:0<=i) (h:i < l.length):QfW (l.drop i.toNat)=l.getD i.toNat default+QfW (l.drop (i+1).toNat):=by
 obtain ⟨k,rfl⟩:∃k:Nat,i=k:=⟨i.toNat,by omega⟩
 have hk:k < l.length:=by omega
 have e1:((k:Int)).toNat=k:=by omega
 have e2:((k:Int)+1).toNat=k+1:=by omega
 rw [e1,e2,List.drop_eq_getElem_cons hk];simp [QfW,List.getD_eq_getElem?_getD,hk]
theorem Q3g {i:Int} {l:List Int} (h:l.length<=i):QfW (l.drop i.toNat)=0:=by
 rw [List.drop_eq_nil_of_le (by omega)];rfl
theorem Qa6 {α:Type} [Inhabited α] {l:List α} {i:Int} (h0:0<=i) (h:i < l.length):l.getD i.toNat default∈l:=by
 have hk:i.toNat < l.length:=by omega
 rw [List.getD_eq_getElem?_getD,List.getElem?_eq_getElem hk];exact List.getElem_mem hk
theorem Qjv {things:Int}:∀{l:List Int} {least:Int},Qel things l least=true->0<=least->∀x∈l,0<=x/\x < things
 | [],_,_,_,x,hx=> by simp at hx
 | n::l,least,h,h0,x,hx=> by
   simp only [Qel,YB,Qa4] at h;rcases List.mem_cons.1 hx with rfl | hx
   ·omega
   ·exact Qjv h.2 (by omega) x hx
theorem QjG {k:Nat} (hk:k<=61):∀(l:List Int) (s:Int),(∀x∈l,0<=x/\x < k)->0<=s->s < 2 ^ k->0<=QaW l s/\QaW l s < 2 ^ k
 | [],s,_,h0,h1=> ⟨h0,h1⟩
 | n::l,s,h,h0,h1=> by
   have hn:=h n (by simp);exact QjG hk l (QpO s n) (fun x hx=> h x (by simp [hx])) (Int.natCast_nonneg _) (Q0y h0 h1 (by omega))
theorem QlY {s:Int} {k:Nat} (h0:0<=s) (h1:s < 2 ^ k):Qc5 s<=k:=by
 unfold Qc5;by_cases hs:s=0
 ·rw [if_pos hs];omega
 ·rw [if_neg hs];obtain ⟨b,rfl⟩:∃b:Nat,s=b:=⟨s.toNat,by omega⟩
  have hb:b≠0:=by omega
  have h2:b < 2 ^ k:=by
   have e:(2:Int) ^ k=((2 ^ k:Nat):Int):=by rw [Int.natCast_pow];rfl
   rw [e] at h1;exact_mod_cast h1
  have:=(Nat.log2_lt hb).2 h2;rw [Int.toNat_natCast];omega
theorem Qdi {α:Type} [Inhabited α] {s n:Int} {xs:List α} (hn:0<=n) (hx:Qc5 s<=xs.length):∀x∈Qay s xs n,x∈xs:=by
 intro x h;unfold Qay at h;obtain ⟨k,hk,rfl⟩:=List.mem_map.1 h;have hk:=(List.mem_filter.1 hk).1;unfold upI at hk;obtain ⟨j,hj,rfl⟩:=List.mem_map.1 hk;have:=List.mem_range.1 hj;exact Qa6 (by omega) (by omega)
theorem QiN {α:Type} [Inhabited α] {s n:Int} {xs:List α} (hn:0<=n):((Qay s xs n).length:Int)<=max 0 (Qc5 s - n):=by
 unfold Qay;rw [List.length_map];have:=List.length_filter_le (QkK s) (upI n (Qc5 s));have e:(upI n (Qc5 s)).length=(Qc5 s - n).toNat:=by simp [upI]
 omega
theorem Qbv {s:Qaa} (h:Qa7 s=true):s.lots.length<=6/\∀l∈s.lots,Qoh s.stock.length l=true:=by
 simp only [Qa7,Qpv,YB,decide_eq_true_iff,List.all_eq_true] at h;exact ⟨h.2.2.2.2.2.1.1,h.2.2.2.2.2.1.2⟩
theorem QdF {k:Nat} {l:Qak} (h:Qoh k l=true):l.goods.length=k/\(∀g∈l.goods,0<=g.lo/\g.lo<=g.hi/\g.hi<=100000)/\0<=l.weight/\l.weight<=100000/\0<=l.cost/\l.cost<=1000000:=by
 simp only [Qoh,QcK,Qbw,YB,decide_eq_true_iff,List.all_eq_true,Qa4] at h;exact ⟨h.1,h.2.1,h.2.2.1.1,h.2.2.1.2,h.2.2.2.1,h.2.2.2.2⟩
def QtQ (s:Qaa) (load:Int):Bool:=decide (QfW ((Qay load s.lots 0).map Qak.weight)<=s.hold)
def Qcz (s:Qaa) (load:List Int):Bool:=Qel s.lots.length load 0 && QtQ s (QaW load 0)
def QcC (xs:List Int) (things:Int) (least i:Int):List Value:=[.int .i64 things,.int .i64 least,Qat 1 (slT xs.length (Qad Qav xs)),.int .i64 (↑xs.length:Int),.int .i64 i]
def Qbx (xs:List Int) (things:Int) (least i:Int):List Obj:=[]
def QcF:List Item:=([.code [1,1,0,1,0,0],.inLoop [1,1,0,1,0,0],.inBlock 0,.code [1,1,1]]).map (it (Qaq YP 115))
def Qn3 (B:Lo) (c0:CF) (xs:List Int) (things:Int) (least i:Int):Prop:=∃dJ:Nat->Value,(∀t,Qbg (dJ t))/\GoE YP B c0 H00 1 (Qa3 115 23 (([1,5,8,9,10]:List Nat).zip (QcC xs things least i)) dJ QcF) (Qa1 (Qbx xs things least i)) (2+(Qbx xs things least i).length) []
def Qf0 (B:Lo) (xs:List Int) (things:Int) (least i:Int) (dJ0:Nat->Value):List Prop:=[wq (things - 1)=things - 1,i=(↑i.toNat:Int)/\Int.toNat i < List.length xs/\Array.extract (Qad Qav xs) (Int.toNat i * TypeInfo.size Tryz.t3) (Int.toNat i * TypeInfo.size Tryz.t3+TypeInfo.size Tryz.t3)=#[.int .i64 (xs.getD i.toNat default)],ltq i (↑xs.length:Int)=true]++([]:List Prop)
def Qh7 (xs:List Int) (things:Int) (least i:Int) (dJ0:Nat->Value):Qan:=[(0,hvT),(1,Qaf.tidx i.toNat #[.int .i64 (xs.getD i.toNat default)]),(7,hvI (things - 1))]
theorem QnG (B:Lo) (xs:List Int) (things:Int) (least i:Int) (dJ0:Nat->Value):landM (Qah YP (Qau YP) J0 B 18 1 (Qa3 115 23 (([1,5,8,9,10]:List Nat).zip (QcC xs things least i)) dJ0 QcF) (Qa1 (Qbx xs things least i)) (2+(Qbx xs things least i).length)
 (Qh7 xs things least i dJ0++[(8,Qaf.pure (.bool true) []),(11,hvI (xs.getD i.toNat default+1)),(13,hvI (i+1))]) 0 [] []) [1,5,8,9,10] [] []=some ⟨115,23,QcF,[],.run,none,QcC xs things (xs.getD i.toNat default+1) (i+1),Qbx xs things (xs.getD i.toNat default+1) (i+1),
 [wq (i+1)=i+1,wq (xs.getD i.toNat default+1)=xs.getD i.toNat default+1,Qas []/\Qai YP J0 76 #[.int .i64 (xs.getD i.toNat default),.int .i64 least,.int .i64 (things - 1)] (.bool true)]++Qf0 B xs things least i dJ0⟩:=by kernel_rfl
theorem Qn6 (B:Lo) (xs:List Int) (things:Int) (least i:Int) (dJ0:Nat->Value):QaF (Qah YP (Qau YP) J0 B 17 1 (Qa3 115 23 (([1,5,8,9,10]:List Nat).zip (QcC xs things least i)) dJ0 QcF) (Qa1 (Qbx xs things least i)) (2+(Qbx xs things least i).length)
 (Qh7 xs things least i dJ0++[(8,Qaf.pure (.bool false) [])]) 0 [] []) []=some (.bool false,
 [Qas []/\Qai YP J0 76 #[.int .i64 (xs.getD i.toNat default),.int .i64 least,.int .i64 (things - 1)] (.bool false)]++Qf0 B xs things least i dJ0):=by kernel_rfl
theorem Qn2 (B:Lo) (xs:List Int) (things:Int) (least i:Int) (dJ0:Nat->Value):QaF (Qah YP (Qau YP) J0 B 9 1 (Qa3 115 23 (([1,5,8,9,10]:List Nat).zip (QcC xs things least i)) dJ0 QcF) (Qa1 (Qbx xs things least i)) (2+(Qbx xs things least i).length)
 [(0,hvF)] 0 [] []) []=some (.bool true,
 [ltq i (↑xs.length:Int)=false]):=by kernel_rfl
theorem Qnz (B:Lo) (xs:List Int) (things:Int):landM (Qah YP (Qau YP) J0 B 9 1 (Qae YP 115 23 (([slI xs,.int .i64 things]).map (Qal 0 4))) H00 1
 [] 0 [] []) [1,5,8,9,10] [] []=some ⟨115,23,QcF,[],.run,none,QcC xs things (0) (0),Qbx xs things (0) (0),
 []⟩:=by kernel_rfl
set_option maxHeartbeats 4000000 in
theorem Qn9 (xs:List Int) (things:Int) (ht0:0<=things/\things<=1000000) (hfacts:xs.length<=9223372036854775807) {B:Lo} (hJ:∀w,B.has w->J0 w) {c0:CF}:∀m:Nat,(∀(least i:Int),xs.length - i.toNat=m->∀(h0:0<=i) (h1:0<=least/\least<=1000000),Qn3 B c0 xs things least i->EndsT YP B c0 (.bool (Qel things (xs.drop i.toNat) least))):=by
 intro m0;induction m0 using Nat.strongRecOn with
 | _ m0 ih0=>
   intro least i hm0 h0 h1 ⟨dJ0,hdJ0,hg0⟩;by_cases q0:(i:Int) < ((↑xs.length:Int))
   ·have hp0:Qas (Qf0 B xs things least i dJ0):=by
     have s2:=QcH (things:=things) (least:=least) (l:=xs) h0 q0;exact ⟨(QaR (by omega) (by omega)),⟨⟨by omega,by omega,(Qao (z:=1) (fun _=> rfl) (by omega))⟩,⟨(Qbq q0),trivial⟩⟩⟩
    cases q1:inB (xs.getD i.toNat default) least (things - 1) with
    | true=>
      have s2:=QcH (things:=things) (least:=least) (l:=xs) h0 q0;have g1:=Qa4.1 ‹inB _ least _=true›;exact ((ih0 _ (by omega)) (xs.getD i.toNat default+1) (i+1) rfl (by omega) (by omega)
       (hg0.landM okF hJ Qab (QnG B xs things least i dJ0)
       ⟨(QaR (by omega) (by omega)),⟨(QaR (by omega) (by omega)),⟨⟨trivial,(by have t_:=pIn (xs.getD i.toNat default) (least) (things - 1);rw [q1] at t_;exact t_)⟩,hp0⟩⟩⟩ (by kernel_rfl) (by kernel_rfl))).cast (by (rw [s2];simp_all;done))
    | false=>
      have s2:=QcH (things:=things) (least:=least) (l:=xs) h0 q0;exact (GoE.endsT okF hJ Qab hg0 (Qn6 B xs things least i dJ0)
       ⟨⟨trivial,(by have t_:=pIn (xs.getD i.toNat default) (least) (things - 1);rw [q1] at t_;exact t_)⟩,hp0⟩).cast (by (rw [s2];simp_all;done))
   ·have s2:=QmG (things:=things) (least:=least) (l:=xs) (i:=i) (by omega);exact (GoE.endsT okF hJ Qab hg0 (Qn2 B xs things least i dJ0)
     ⟨(Qbj (Int.not_lt.1 q0)),trivial⟩).cast (by (rw [s2];done))
set_option maxHeartbeats 4000000 in
theorem Qo7 (xs:List Int) (things:Int) (ht0:0<=things/\things<=1000000) (hfacts:xs.length<=9223372036854775807) {B:Lo} (hJ:∀w,B.has w->J0 w):EndsT YP B (Qae YP 115 23 (([slI xs,.int .i64 things]).map (Qal 0 4))) (.bool (Qel things xs 0)):=by
 exact ((Qn9 xs things ht0 hfacts hJ _) (0) (0) rfl (by omega) (by omega)
  (GoE.start.landM okF hJ Qab (Qnz B xs things)
  trivial (by kernel_rfl) (by kernel_rfl))).cast (by rfl)
theorem Qmr (xs:List Int) (things:Int) (ht0:0<=things/\things<=1000000):Qai YP J0 115 #[slI xs,.int .i64 things] (.bool (Qel things xs 0)):=
 Qcv (ts:=[slI xs,.int .i64 things]) (xs.length<=9223372036854775807) (fun _ _ ht=> ht.ln (i:=0) rfl) Qbn (c0:=Qae YP 115 23 (([slI xs,.int .i64 things]).map (Qal 0 4))) (by kernel_rfl) (by kernel_rfl) fun hfacts B hJ=> Qo7 xs things ht0 hfacts hJ
def Qnl (xs:List Int) (acc i:Int):List Value:=[.int .i64 acc,Qat 1 (slT xs.length (Qad Qav xs)),.int .i64 (↑xs.length:Int),.int .i64 i]
def QgL (xs:List Int) (acc i:Int):List Obj:=[]
def QmK:List Item:=([.code [1,1,0,1,0,0],.inLoop [1,1,0,1,0,0],.inBlock 0,.code [1,1,1]]).map (it (Qaq YP 124))
def Q5i (B:Lo) (c0:CF) (xs:List Int) (acc i:Int):Prop:=∃dJ:Nat->Value,(∀t,Qbg (dJ t))/\GoE YP B c0 H00 1 (Qa3 124 17 (([3,6,7,8]:List Nat).zip (Qnl xs acc i)) dJ QmK) (Qa1 (QgL xs acc i)) (2+(QgL xs acc i).length) []
theorem Q5u (B:Lo) (xs:List Int) (acc i:Int) (dJ0:Nat->Value):landM (Qah YP (Qau YP) J0 B 13 1 (Qa3 124 17 (([3,6,7,8]:List Nat).zip (Qnl xs acc i)) dJ0 QmK) (Qa1 (QgL xs acc i)) (2+(QgL xs acc i).length)
 [(0,hvT),(1,Qaf.tidx i.toNat #[.int .i64 (xs.getD i.toNat default)]),(6,hvI (acc+xs.getD i.toNat default)),(8,hvI (i+1))] 0 [] []) [3,6,7,8] [] []=some ⟨124,17,QmK,[],.run,none,Qnl xs (acc+xs.getD i.toNat default) (i+1),QgL xs (acc+xs.getD i.toNat default) (i+1),
 [wq (i+1)=i+1,wq (acc+xs.getD i.toNat default)=acc+xs.getD i.toNat default,i=(↑i.toNat:Int)/\Int.toNat i < List.length xs/\Array.extract (Qad Qav xs) (Int.toNat i * TypeInfo.size Tryz.t3) (Int.toNat i * TypeInfo.size Tryz.t3+TypeInfo.size Tryz.t3)=#[.int .i64 (xs.getD i.toNat default)],ltq i (↑xs.length:Int)=true]⟩:=by kernel_rfl
theorem Q54 (B:Lo) (xs:List Int) (acc i:Int) (dJ0:Nat->Value):QaF (Qah YP (Qau YP) J0 B 9 1 (Qa3 124 17 (([3,6,7,8]:List Nat).zip (Qnl xs acc i)) dJ0 QmK) (Qa1 (QgL xs acc i)) (2+(QgL xs acc i).length)
 [(0,hvF)] 0 [] []) []=some (.int .i64 acc,
 [ltq i (↑xs.length:Int)=false]):=by kernel_rfl
theorem Q5l (B:Lo) (xs:List Int):landM (Qah YP (Qau YP) J0 B 9 1 (Qae YP 124 17 (([slI xs]).map (Qal 0 4))) H00 1
 [] 0 [] []) [3,6,7,8] [] []=some ⟨124,17,QmK,[],.run,none,Qnl xs (0) (0),QgL xs (0) (0),
 []⟩:=by kernel_rfl
set_option maxHeartbeats 4000000 in
theorem Q5b (xs:List Int) (hx:∀x∈xs,-1000000000<=x/\x<=1000000000) (hl:xs.length<=1000) {B:Lo} (hJ:∀w,B.has w->J0 w) {c0:CF}:∀m:Nat,(∀(acc i:Int),xs.length - i.toNat=m->∀(h0:0<=i) (h1: -1000000000 * i<=acc/\acc<=1000000000 * i),Q5i B c0 xs acc i->EndsT YP B c0 (.int .i64 (acc+QfW (xs.drop i.toNat)))):=by
 intro m0;induction m0 using Nat.strongRecOn with
 | _ m0 ih0=>
   intro acc i hm0 h0 h1 ⟨dJ0,hdJ0,hg0⟩;by_cases q0:(i:Int) < ((↑xs.length:Int))
   ·have s2:=Q12 (l:=xs) h0 q0;have g1:=hx _ (Qa6 h0 q0);exact ((ih0 _ (by omega)) (acc+xs.getD i.toNat default) (i+1) rfl (by omega) (by omega)
     (hg0.landM okF hJ Qab (Q5u B xs acc i dJ0)
     ⟨(QaR (by omega) (by omega)),⟨(QaR (by omega) (by omega)),⟨⟨by omega,by omega,(Qao (z:=1) (fun _=> rfl) (by omega))⟩,⟨(Qbq q0),trivial⟩⟩⟩⟩ (by kernel_rfl) (by kernel_rfl))).cast (by (rw [s2,Int.add_assoc];done))
   ·have s2:=Q3g (l:=xs) (i:=i) (by omega);exact (GoE.endsT okF hJ Qab hg0 (Q54 B xs acc i dJ0)
     ⟨(Qbj (Int.not_lt.1 q0)),trivial⟩).cast (by (rw [s2];simp;done))
set_option maxHeartbeats 4000000 in
theorem Q68 (xs:List Int) (hx:∀x∈xs,-1000000000<=x/\x<=1000000000) (hl:xs.length<=1000) {B:Lo} (hJ:∀w,B.has w->J0 w):EndsT YP B (Qae YP 124 17 (([slI xs]).map (Qal 0 4))) (.int .i64 (QfW xs)):=by
 exact ((Q5b xs hx hl hJ _) (0) (0) rfl (by omega) (by omega)
  (GoE.start.landM okF hJ Qab (Q5l B xs)
  trivial (by kernel_rfl) (by kernel_rfl))).cast (by (simp [*];done))
theorem Q8x (xs:List Int) (hx:∀x∈xs,-1000000000<=x/\x<=1000000000) (hl:xs.length<=1000):Qai YP J0 124 #[slI xs] (.int .i64 (QfW xs)):=
 Qa5 (ts:=[slI xs]) Qbn (c0:=Qae YP 124 17 (([slI xs]).map (Qal 0 4))) (by kernel_rfl) (by kernel_rfl) fun B hJ=> Q68 xs hx hl hJ
def Qp7 (B:Lo) (s:Qaa) (load:Int):List Prop:=[Qas []/\Qai YP J0 124 #[slT (List.length (List.map Qak.weight (Qay load s.lots 0))) (Qad Qav (List.map Qak.weight (Qay load s.lots 0)))] (.int .i64 (QfW (List.map Qak.weight (Qay load s.lots 0)))),Qas []/\Qai YP J0 92 #[slT (List.length (Qay load s.lots 0)) (Qad Qam (Qay load s.lots 0)),Value.func (Fn.func 140) #[] #[]] (slT (List.length (List.map Qak.weight (Qay load s.lots 0))) (Qad Qav (List.map Qak.weight (Qay load s.lots 0)))),Qas []/\Qai YP J0 139 #[.int .i64 load,slT s.lots.length (Qad Qam s.lots)] (slT (List.length (Qay load s.lots 0)) (Qad Qam (Qay load s.lots 0)))]++([]:List Prop)
def Qus (s:Qaa) (load:Int):Qan:=[(5,Qaf.pure (slT (List.length (Qay load s.lots 0)) (Qad Qam (Qay load s.lots 0))) []),(6,Qaf.pure (slT (List.length (List.map Qak.weight (Qay load s.lots 0))) (Qad Qav (List.map Qak.weight (Qay load s.lots 0)))) []),(9,Qaf.pure (.int .i64 (QfW (List.map Qak.weight (Qay load s.lots 0)))) [])]
theorem Q4l (B:Lo) (s:Qaa) (load:Int):QaF (Qah YP (Qau YP) J0 B 8 1 (Qae YP 96 16 (([.agg (Qap s).toArray,.int .i64 load]).map (Qal 0 4))) H00 1
 (Qus s load++[(12,hvT)]) 0 [] []) []=some (.bool true,
 [(!ltq s.hold (QfW (List.map Qak.weight (Qay load s.lots 0))))=true]++Qp7 B s load):=by kernel_rfl
theorem Q2y (B:Lo) (s:Qaa) (load:Int):QaF (Qah YP (Qau YP) J0 B 8 1 (Qae YP 96 16 (([.agg (Qap s).toArray,.int .i64 load]).map (Qal 0 4))) H00 1
 (Qus s load++[(12,hvF)]) 0 [] []) []=some (.bool false,
 [(!ltq s.hold (QfW (List.map Qak.weight (Qay load s.lots 0))))=false]++Qp7 B s load):=by kernel_rfl
set_option maxHeartbeats 4000000 in
theorem Q5k (s:Qaa) (load:Int) (hs:Qa7 s=true) (h0:0<=load) (h1:load < 64) (hx:Qc5 load<=s.lots.length) {B:Lo} (hJ:∀w,B.has w->J0 w):EndsT YP B (Qae YP 96 16 (([.agg (Qap s).toArray,.int .i64 load]).map (Qal 0 4))) (.bool (QtQ s load)):=by
 have hm:=Qbv hs;have hw:∀x∈(Qay load s.lots 0).map Qak.weight,-1000000000<=x/\x<=1000000000:=fun x h=> by obtain ⟨l,hl,rfl⟩:=List.mem_map.1 h;have:=QdF (hm.2 l (Qdi (Int.le_refl _) hx l hl));omega
 have hll:=QiN (s:=load) (n:=0) (xs:=s.lots) (Int.le_refl _);have hw2:((Qay load s.lots 0).map Qak.weight).length<=1000:=by rw [List.length_map];omega
 have hp0:Qas (Qp7 B s load):=by
  exact ⟨⟨trivial,Q8x (List.map Qak.weight (Qay load s.lots 0)) (by with_reducible assumption) (by with_reducible assumption)⟩,⟨⟨trivial,Q63 (Qay load s.lots 0) (by omega)⟩,⟨⟨trivial,Q7y (load) s.lots (by with_reducible assumption) (by with_reducible assumption) (by with_reducible assumption)⟩,trivial⟩⟩⟩
 by_cases q0:(QfW (List.map Qak.weight (Qay load s.lots 0)):Int)<=s.hold
 ·exact (GoE.endsT okF hJ Qab GoE.start (Q4l B s load)
   ⟨(Qcq q0),hp0⟩).cast (by (simp [QtQ, *];done))
 ·exact (GoE.endsT okF hJ Qab GoE.start (Q2y B s load)
   ⟨(Qcn (Int.not_le.1 q0)),hp0⟩).cast (by (simp [QtQ, *];done))
theorem Q6Y (s:Qaa) (load:Int) (hs:Qa7 s=true) (h0:0<=load) (h1:load < 64) (hx:Qc5 load<=s.lots.length):Qai YP J0 96 #[.agg (Qap s).toArray,.int .i64 load] (.bool (QtQ s load)):=
 Qa5 (ts:=[.agg (Qap s).toArray,.int .i64 load]) Qbn (c0:=Qae YP 96 16 (([.agg (Qap s).toArray,.int .i64 load]).map (Qal 0 4))) (by kernel_rfl) (by kernel_rfl) fun B hJ=> Q5k s load hs h0 h1 hx hJ
def QjY (B:Lo) (s:Qaa) (load:List Int):List Prop:=[Qas []/\Qai YP J0 116 #[slT load.length (Qad Qav load)] (.int .i64 (QaW load 0)),Qas []/\Qai YP J0 115 #[slT load.length (Qad Qav load),.int .i64 (↑s.lots.length:Int)] (.bool true)]++([]:List Prop)
def Qou (s:Qaa) (load:List Int):Qan:=[(6,Qaf.pure (.bool true) []),(10,Qaf.pure (.int .i64 (QaW load 0)) [])]
theorem Qwo (B:Lo) (s:Qaa) (load:List Int):QaF (Qah YP (Qau YP) J0 B 6 1 (Qae YP 80 16 (([.agg (Qap s).toArray,slI load]).map (Qal 0 4))) H00 1
 (Qou s load++[(11,Qaf.pure (.bool true) [])]) 0 [] []) []=some (.bool true,
 [Qas []/\Qai YP J0 96 #[.agg #[slT s.stock.length (Qad Qav s.stock),slT s.use.length (Qad Qaz s.use),.int .i64 s.glo,.int .i64 s.ghi,slT s.lots.length (Qad Qam s.lots),.int .i64 s.hold],.int .i64 (QaW load 0)] (.bool true)]++QjY B s load):=by kernel_rfl
theorem QvS (B:Lo) (s:Qaa) (load:List Int):QaF (Qah YP (Qau YP) J0 B 6 1 (Qae YP 80 16 (([.agg (Qap s).toArray,slI load]).map (Qal 0 4))) H00 1
 (Qou s load++[(11,Qaf.pure (.bool false) [])]) 0 [] []) []=some (.bool false,
 [Qas []/\Qai YP J0 96 #[.agg #[slT s.stock.length (Qad Qav s.stock),slT s.use.length (Qad Qaz s.use),.int .i64 s.glo,.int .i64 s.ghi,slT s.lots.length (Qad Qam s.lots),.int .i64 s.hold],.int .i64 (QaW load 0)] (.bool false)]++QjY B s load):=by kernel_rfl
theorem Qvt (B:Lo) (s:Qaa) (load:List Int):QaF (Qah YP (Qau YP) J0 B 6 1 (Qae YP 80 16 (([.agg (Qap s).toArray,slI load]).map (Qal 0 4))) H00 1
 [(6,Qaf.pure (.bool false) [])] 0 [] []) []=some (.bool false,
 [Qas []/\Qai YP J0 115 #[slT load.length (Qad Qav load),.int .i64 (↑s.lots.length:Int)] (.bool false)]):=by kernel_rfl
set_option maxHeartbeats 4000000 in
theorem Qzm (s:Qaa) (load:List Int) (hs:Qa7 s=true) {B:Lo} (hJ:∀w,B.has w->J0 w):EndsT YP B (Qae YP 80 16 (([.agg (Qap s).toArray,slI load]).map (Qal 0 4))) (.bool (Qcz s load)):=by
 have hm:=Qbv hs;cases q0:Qel (↑s.lots.length:Int) load 0 with
 | true=>
   have hp0:Qas (QjY B s load):=by
    have g1:=Qjv ‹Qel s.lots.length load 0=true› (Int.le_refl 0);have g2:∀x∈load,0<=x/\x<=61:=fun x h=> by have:=g1 x h;omega
    have g3:=QjG (k:=s.lots.length) (by omega) load 0 g1 (Int.le_refl 0) (Int.pow_pos (by decide));have g4:QaW load 0 < 64:=Int.lt_of_lt_of_le g3.2 (by have:(2:Nat) ^ s.lots.length<=2 ^ 6:=Nat.pow_le_pow_right (by decide) (by omega);have e:(2:Int) ^ s.lots.length=((2 ^ s.lots.length:Nat):Int):=by {rw [Int.natCast_pow];rfl};rw [e];omega);have g5:=QlY g3.1 g3.2;have g6:=g3.1;exact ⟨⟨trivial,pOf (load) (by with_reducible assumption)⟩,⟨⟨trivial,(by have t_:=Qmr (load) ((↑s.lots.length:Int)) (by omega);rw [q0] at t_;exact t_)⟩,trivial⟩⟩
   cases q1:QtQ s (QaW load 0) with
   | true=>
     have g1:=Qjv ‹Qel s.lots.length load 0=true› (Int.le_refl 0);have g2:∀x∈load,0<=x/\x<=61:=fun x h=> by have:=g1 x h;omega
     have g3:=QjG (k:=s.lots.length) (by omega) load 0 g1 (Int.le_refl 0) (Int.pow_pos (by decide));have g4:QaW load 0 < 64:=Int.lt_of_lt_of_le g3.2 (by have:(2:Nat) ^ s.lots.length<=2 ^ 6:=Nat.pow_le_pow_right (by decide) (by omega);have e:(2:Int) ^ s.lots.length=((2 ^ s.lots.length:Nat):Int):=by {rw [Int.natCast_pow];rfl};rw [e];omega);have g5:=QlY g3.1 g3.2;have g6:=g3.1;exact (GoE.endsT okF hJ Qab GoE.start (Qwo B s load)
      ⟨⟨trivial,(by have t_:=Q6Y (s) (QaW load 0) (by with_reducible assumption) (by with_reducible assumption) (by with_reducible assumption) (by with_reducible assumption);rw [q1] at t_;exact t_)⟩,hp0⟩).cast (by (simp [Qcz, *];done))
   | false=>
     have g1:=Qjv ‹Qel s.lots.length load 0=true› (Int.le_refl 0);have g2:∀x∈load,0<=x/\x<=61:=fun x h=> by have:=g1 x h;omega
     have g3:=QjG (k:=s.lots.length) (by omega) load 0 g1 (Int.le_refl 0) (Int.pow_pos (by decide));have g4:QaW load 0 < 64:=Int.lt_of_lt_of_le g3.2 (by have:(2:Nat) ^ s.lots.length<=2 ^ 6:=Nat.pow_le_pow_right (by decide) (by omega);have e:(2:Int) ^ s.lots.length=((2 ^ s.lots.length:Nat):Int):=by {rw [Int.natCast_pow];rfl};rw [e];omega);have g5:=QlY g3.1 g3.2;have g6:=g3.1;exact (GoE.endsT okF hJ Qab GoE.start (QvS B s load)
      ⟨⟨trivial,(by have t_:=Q6Y (s) (QaW load 0) (by with_reducible assumption) (by with_reducible assumption) (by with_reducible assumption) (by with_reducible assumption);rw [q1] at t_;exact t_)⟩,hp0⟩).cast (by (simp [Qcz, *];done))
 | false=>
   exact (GoE.endsT okF hJ Qab GoE.start (Qvt B s load)
    ⟨⟨trivial,(by have t_:=Qmr (load) ((↑s.lots.length:Int)) (by omega);rw [q0] at t_;exact t_)⟩,trivial⟩).cast (by (simp [Qcz, *];done))
theorem Q0C (s:Qaa) (load:List Int) (hs:Qa7 s=true):Qai YP J0 80 #[.agg (Qap s).toArray,slI load] (.bool (Qcz s load)):=
 Qa5 (ts:=[.agg (Qap s).toArray,slI load]) Qbn (c0:=Qae YP 80 16 (([.agg (Qap s).toArray,slI load]).map (Qal 0 4))) (by kernel_rfl) (by kernel_rfl) fun B hJ=> Qzm s load hs hJ
end
end Go.Proofs.YtiabgkiccaodmaaGreat

namespace Go.Proofs.YtiabgkiccaodmaaGreat
open Go Go.CE Go.RowKit
set_option maxRecDepth 100000
structure QaJ where
 uses:List Int
 gaps:List Int
 goods:List Row
deriving Inhabited
abbrev slR (xs:List Row):Value:=slT xs.length (Qad Qax xs)
def QeH (t:QaJ):List Value:=[slI t.uses,slI t.gaps,slR t.goods]
def Q8r (ns:List Int) (ss:List Span) (i:Int):Bool:=(upI i ns.length).all fun k=> inB (ns.getD k.toNat default) (ss.getD k.toNat default).lo (ss.getD k.toNat default).hi
def Qgb (ns:List Int) (ss:List Span):Bool:=decide (ns.length=ss.length) && Q8r ns ss 0
def Q8s (s:Qaa) (all:List Row) (i:Int):Bool:=(upI i s.lots.length).all fun k=> Qgb (all.getD k.toNat default) (s.lots.getD k.toNat default).goods
def Qos (s:Qaa) (all:List Row):Bool:=decide (all.length=s.lots.length) && Q8s s all 0
def QtK (s:Qaa) (days:Int) (gaps:List Int):Bool:=decide (gaps.length<=300) && (gaps.all (fun x=> inB x s.glo s.ghi) && decide (days<=QfW gaps))
def Qft (s:Qaa) (days:Int) (t:QaJ):Bool:=Qgb t.uses s.use && (QtK s days t.gaps && Qos s t.goods)
theorem Qbt {s:Qaa} (h:Qa7 s=true):1<=s.glo/\s.glo<=s.ghi/\s.ghi<=60:=by
 simp only [Qa7,Qbw,YB,decide_eq_true_iff] at h;exact ⟨h.2.2.2.2.1.1,h.2.2.2.2.1.2.1,h.2.2.2.2.1.2.2⟩
end Go.Proofs.YtiabgkiccaodmaaGreat

namespace Go.Proofs.YtiabgkiccaodmaaGreat
open Go Go.CE Go.RowKit
set_option maxRecDepth 100000
def QaE (s:Qaa) (load days:Int):List Value:=Qap s++[.int .i64 load,.int .i64 days]
def Qgu (days:Int):List Int->Int->List Bool->List Bool
 | [],_,bs=> bs
 | g::l,day,bs=> Qgu days l (day+g) (bif decide (day+g < days) then bs.set (day+g).toNat true else bs)
theorem QjQ {days:Int}:∀(l:List Int) (day:Int) (bs:List Bool),(Qgu days l day bs).length=bs.length
 | [],_,_=> rfl
 | g::l,day,bs=> by
   simp only [Qgu];rw [QjQ l];cases decide (day+g < days) <;> simp
theorem QhF {days day:Int} {l:List Int} {i:Int} {bs:List Bool} (h0:0<=i) (h:i < l.length):Qgu days (l.drop i.toNat) day bs=Qgu days (l.drop (i+1).toNat) (day+l.getD i.toNat default) (bif decide (day+l.getD i.toNat default < days) then bs.set (day+l.getD i.toNat default).toNat true else bs):=by
 obtain ⟨k,rfl⟩:∃k:Nat,i=k:=⟨i.toNat,by omega⟩
 have hk:k < l.length:=by omega
 have e1:((k:Int)).toNat=k:=by omega
 have e2:((k:Int)+1).toNat=k+1:=by omega
 rw [e1,e2,List.drop_eq_getElem_cons hk];simp [Qgu,List.getD_eq_getElem?_getD,hk]
theorem Qwi {days day:Int} {l:List Int} {i:Int} {bs:List Bool} (h:l.length<=i):Qgu days (l.drop i.toNat) day bs=bs:=by
 rw [List.drop_eq_nil_of_le (by omega)];rfl
def QcL (days:Int) (gaps:List Int):List Bool:=Qgu days gaps 0 (List.replicate days.toNat false)
theorem Qss (B:Lo) (s:Qaa) (load:List Int) (days:Int):QaF (Qah YP (Qau YP) J0 B 6 1 (Qae YP 83 12 (([.agg (Qap s).toArray,slI load,.int .i64 days]).map (Qal 0 4))) H00 1
 [(4,Qaf.pure (.int .i64 (QaW load 0)) [])] 0 [] []) []=some (.agg #[slT s.stock.length (Qad Qav s.stock),slT s.use.length (Qad Qaz s.use),.int .i64 s.glo,.int .i64 s.ghi,slT s.lots.length (Qad Qam s.lots),.int .i64 s.hold,.int .i64 (QaW load 0),.int .i64 days],
 [Qas []/\Qai YP J0 116 #[slT load.length (Qad Qav load)] (.int .i64 (QaW load 0))]):=by kernel_rfl
set_option maxHeartbeats 4000000 in
theorem QsH (s:Qaa) (load:List Int) (days:Int) (hx:∀x∈load,0<=x/\x<=61) {B:Lo} (hJ:∀w,B.has w->J0 w):EndsT YP B (Qae YP 83 12 (([.agg (Qap s).toArray,slI load,.int .i64 days]).map (Qal 0 4))) (.agg (QaE s (QaW load 0) days).toArray):=by
 exact (GoE.endsT okF hJ Qab GoE.start (Qss B s load days)
  ⟨⟨trivial,pOf (load) (by with_reducible assumption)⟩,trivial⟩).cast (by rfl)
theorem Qz5 (s:Qaa) (load:List Int) (days:Int) (hx:∀x∈load,0<=x/\x<=61):Qai YP J0 83 #[.agg (Qap s).toArray,slI load,.int .i64 days] (.agg (QaE s (QaW load 0) days).toArray):=
 Qa5 (ts:=[.agg (Qap s).toArray,slI load,.int .i64 days]) Qbn (c0:=Qae YP 83 12 (([.agg (Qap s).toArray,slI load,.int .i64 days]).map (Qal 0 4))) (by kernel_rfl) (by kernel_rfl) fun B hJ=> QsH s load days hx hJ
def Qfb (s:Qaa) (load days:Int) (gaps:List Int) (day i:Int) (bs:List Bool):List Value:=[pA 2 0,.slice (some {block:=3,off:=0}) days.toNat 1,.int .i64 day,Qat 1 (slT gaps.length (Qad Qav gaps)),.int .i64 (↑gaps.length:Int),.int .i64 i]
def QcU (s:Qaa) (load days:Int) (gaps:List Int) (day i:Int) (bs:List Bool):List Obj:=[Obj.cells #[Qat 1 (slT s.stock.length (Qad Qav s.stock)),Qat 1 (slT s.use.length (Qad Qaz s.use)),.int .i64 s.glo,.int .i64 s.ghi,Qat 1 (slT s.lots.length (Qad Qam s.lots)),.int .i64 s.hold,.int .i64 load,.int .i64 days] 122,.cells (Qad Qgw bs) 4 (0,0)]
noncomputable def Qfg:List Item:=([.code [1,1,1,0,1,0,0],.inLoop [1,1,1,0,1,0,0],.inBlock 0,.code [1,1,1,1]]).map (it (Qaq YP 120))
def QzY (B:Lo) (c0:CF) (s:Qaa) (load days:Int) (gaps:List Int) (day i:Int) (bs:List Bool):Prop:=∃dJ:Nat->Value,(∀t,Qbg (dJ t))/\GoE YP B c0 H00 1 (Qa3 120 30 (([2,5,6,12,13,14]:List Nat).zip (Qfb s load days gaps day i bs)) dJ Qfg) (Qa1 (QcU s load days gaps day i bs)) (2+(QcU s load days gaps day i bs).length) []
noncomputable def Qnm (B:Lo) (s:Qaa) (load days:Int) (gaps:List Int) (day i:Int) (bs:List Bool) (dJ0:Nat->Value):List Prop:=[wq (day+gaps.getD i.toNat default)=day+gaps.getD i.toNat default,i=(↑i.toNat:Int)/\Int.toNat i < List.length gaps/\Array.extract (Qad Qav gaps) (Int.toNat i * TypeInfo.size Tryz.t3) (Int.toNat i * TypeInfo.size Tryz.t3+TypeInfo.size Tryz.t3)=#[.int .i64 (gaps.getD i.toNat default)],ltq i (↑gaps.length:Int)=true]++([]:List Prop)
noncomputable def Qsc (s:Qaa) (load days:Int) (gaps:List Int) (day i:Int) (bs:List Bool) (dJ0:Nat->Value):Qan:=[(0,hvT),(1,Qaf.tidx i.toNat #[.int .i64 (gaps.getD i.toNat default)]),(6,hvI (day+gaps.getD i.toNat default))]
theorem Q1J (B:Lo) (s:Qaa) (load days:Int) (gaps:List Int) (day i:Int) (bs:List Bool) (dJ0:Nat->Value):landM (Qah YP (Qau YP) J0 B 18 1 (Qa3 120 30 (([2,5,6,12,13,14]:List Nat).zip (Qfb s load days gaps day i bs)) dJ0 Qfg) (Qa1 (QcU s load days gaps day i bs)) (2+(QcU s load days gaps day i bs).length)
 (Qsc s load days gaps day i bs dJ0++[(11,hvT),(14,Qaf.old (Hint.idx (Int.toNat (day+gaps.getD i.toNat default)))),(15,Qaf.old (Hint.st (Qad Qgw (List.set bs (Int.toNat (day+gaps.getD i.toNat default)) true)))),(16,hvI (i+1))]) 0 [] []) [2,5,6,12,13,14] [(2,KS.auto),(3,KS.cells [] (Qad Qgw (List.set bs (Int.toNat (day+gaps.getD i.toNat default)) true)))] []=some ⟨120,30,Qfg,[],.run,none,Qfb s load days gaps (day+gaps.getD i.toNat default) (i+1) (List.set bs (Int.toNat (day+gaps.getD i.toNat default)) true),QcU s load days gaps (day+gaps.getD i.toNat default) (i+1) (List.set bs (Int.toNat (day+gaps.getD i.toNat default)) true),
 [Qdd 1 [] (Qad Qgw (List.set bs (Int.toNat (day+gaps.getD i.toNat default)) true)) (Qad Qgw (List.set bs (Int.toNat (day+gaps.getD i.toNat default)) true)),wq (i+1)=i+1,0+Int.toNat (day+gaps.getD i.toNat default) * 1+TypeInfo.size Tryz.t4<=Array.size (Qad Qgw bs)/\splice (Qad Qgw bs) (0+Int.toNat (day+gaps.getD i.toNat default) * 1) (Value.cells (.bool true))=Qad Qgw (List.set bs (Int.toNat (day+gaps.getD i.toNat default)) true),day+gaps.getD i.toNat default=(↑(Int.toNat (day+gaps.getD i.toNat default)):Int)/\Int.toNat (day+gaps.getD i.toNat default) < Int.toNat days,ltq (day+gaps.getD i.toNat default) days=true]++Qnm B s load days gaps day i bs dJ0⟩:=by kernel_rfl
theorem Qzc (B:Lo) (s:Qaa) (load days:Int) (gaps:List Int) (day i:Int) (bs:List Bool) (dJ0:Nat->Value):landM (Qah YP (Qau YP) J0 B 18 1 (Qa3 120 30 (([2,5,6,12,13,14]:List Nat).zip (Qfb s load days gaps day i bs)) dJ0 Qfg) (Qa1 (QcU s load days gaps day i bs)) (2+(QcU s load days gaps day i bs).length)
 (Qsc s load days gaps day i bs dJ0++[(11,hvF),(12,hvI (i+1))]) 0 [] []) [2,5,6,12,13,14] [(2,KS.auto),(3,KS.cells [] (Qad Qgw bs))] []=some ⟨120,30,Qfg,[],.run,none,Qfb s load days gaps (day+gaps.getD i.toNat default) (i+1) (bs),QcU s load days gaps (day+gaps.getD i.toNat default) (i+1) (bs),
 [Qdd 1 [] (Qad Qgw bs) (Qad Qgw bs),wq (i+1)=i+1,ltq (day+gaps.getD i.toNat default) days=false]++Qnm B s load days gaps day i bs dJ0⟩:=by kernel_rfl
theorem Q0b (B:Lo) (s:Qaa) (load days:Int) (gaps:List Int) (day i:Int) (bs:List Bool) (dJ0:Nat->Value):QaF (Qah YP (Qau YP) J0 B 9 1 (Qa3 120 30 (([2,5,6,12,13,14]:List Nat).zip (Qfb s load days gaps day i bs)) dJ0 Qfg) (Qa1 (QcU s load days gaps day i bs)) (2+(QcU s load days gaps day i bs).length)
 [(0,hvF)] 0 [] []) [{k:=3,rs:=[],cs:=Qad Qgw bs}]=some (slT days.toNat (Fz.cs {k:=3,rs:=[],cs:=Qad Qgw bs}),
 [Qbl (Fz.rs {k:=3,rs:=[],cs:=Qad Qgw bs}) (Qad Qgw bs) (Fz.cs {k:=3,rs:=[],cs:=Qad Qgw bs}),ltq i (↑gaps.length:Int)=false]):=by kernel_rfl
theorem Q0d (B:Lo) (s:Qaa) (load days:Int) (gaps:List Int):landM (Qah YP (Qau YP) J0 B 11 1 (Qae YP 120 30 (([.agg (QaE s load days).toArray,slI gaps]).map (Qal 0 4))) H00 1
 [(4,Qaf.old (Hint.mk days.toNat (Qad (QbL [.bool false]) (List.replicate days.toNat ()))))] 0 [] []) [2,5,6,12,13,14] [(1,KS.auto),(2,KS.rows [] [] (Qad Qgw (List.replicate days.toNat false)))] []=some ⟨120,30,Qfg,[],.run,none,Qfb s load days gaps (0) (0) (List.replicate days.toNat false),QcU s load days gaps (0) (0) (List.replicate days.toNat false),
 [Qbu 1 [] [] (Qad (QbL [.bool false]) (List.replicate days.toNat ())) (Qad Qgw (List.replicate days.toNat false)),Qgh YP 127 (QbV {len:=16000,tr:=Tri.set 14 Tri.lf 10 (.int .i64 days)} 10) (QbV {len:=16000,tr:=Tri.set 14 Tri.lf 10 (.int .i64 days)} 10)=some (4,Qad (QbL [.bool false]) (List.replicate days.toNat ()),Int.toNat days,TypeInfo.size Tryz.t4)]⟩:=by kernel_rfl
set_option maxHeartbeats 4000000 in
theorem QyP (s:Qaa) (load days:Int) (gaps:List Int) (hd:0<=days/\days<=300) (hg:∀x∈gaps,0<=x/\x<=60) (hl:gaps.length<=300) {B:Lo} (hJ:∀w,B.has w->J0 w) {c0:CF}:∀m:Nat,(∀(day i:Int) (bs:List Bool),gaps.length - i.toNat=m->∀(h0:0<=i) (h1:0<=day/\day<=60 * i) (hb:bs.length=days.toNat),QzY B c0 s load days gaps day i bs->EndsT YP B c0 (slB (Qgu days (gaps.drop i.toNat) day bs))):=by
 intro m0;induction m0 using Nat.strongRecOn with
 | _ m0 ih0=>
   intro day i bs hm0 h0 h1 hb ⟨dJ0,hdJ0,hg0⟩;by_cases q0:(i:Int) < ((↑gaps.length:Int))
   ·have hp0:Qas (Qnm B s load days gaps day i bs dJ0):=by
     have s2:=QhF (days:=days) (day:=day) (bs:=bs) (l:=gaps) h0 q0;have g1:=hg _ (Qa6 h0 q0);exact ⟨(QaR (by omega) (by omega)),⟨⟨by omega,by omega,(Qao (z:=1) (fun _=> rfl) (by omega))⟩,⟨(Qbq q0),trivial⟩⟩⟩
    by_cases q1:(day+gaps.getD i.toNat default:Int) < (days)
    ·have s2:=QhF (days:=days) (day:=day) (bs:=bs) (l:=gaps) h0 q0;have g1:=hg _ (Qa6 h0 q0);rw [decide_eq_true q1,cond_true] at s2;exact ((ih0 _ (by omega)) (day+gaps.getD i.toNat default) (i+1) (List.set bs (Int.toNat (day+gaps.getD i.toNat default)) true) rfl (by omega) (by omega) (by (rw [List.length_set];exact hb))
      (hg0.landM okF hJ Qab (Q1J B s load days gaps day i bs dJ0)
      ⟨(QaO (QaT (fun x=> List.all_eq_true.1 (by rfl)))),⟨(QaR (by omega) (by omega)),⟨(by exact Qfr (z:=1) (fun _=> rfl) (by omega) rfl rfl),⟨⟨by omega,by omega⟩,⟨(Qbq q1),hp0⟩⟩⟩⟩⟩ (by kernel_rfl) (by kernel_rfl))).cast (by (rw [s2];done))
    ·have s2:=QhF (days:=days) (day:=day) (bs:=bs) (l:=gaps) h0 q0;have g1:=hg _ (Qa6 h0 q0);rw [decide_eq_false q1,cond_false] at s2;exact ((ih0 _ (by omega)) (day+gaps.getD i.toNat default) (i+1) (bs) rfl (by omega) (by omega) (by with_reducible assumption)
      (hg0.landM okF hJ Qab (Qzc B s load days gaps day i bs dJ0)
      ⟨(QaO (QaT (fun x=> List.all_eq_true.1 (by rfl)))),⟨(QaR (by omega) (by omega)),⟨(Qbj (Int.not_lt.1 q1)),hp0⟩⟩⟩ (by kernel_rfl) (by kernel_rfl))).cast (by (rw [s2];done))
   ·have s2:=Qwi (days:=days) (day:=day) (bs:=bs) (l:=gaps) (i:=i) (by omega);exact (GoE.endsT okF hJ Qab hg0 (Q0b B s load days gaps day i bs dJ0)
     ⟨(QaC (fun x=> List.all_eq_true.1 (by rfl))),⟨(Qbj (Int.not_lt.1 q0)),trivial⟩⟩).cast (by (rw [s2];exact Qf7 rfl (by omega)))
set_option maxHeartbeats 4000000 in
theorem Q2v (s:Qaa) (load days:Int) (gaps:List Int) (hd:0<=days/\days<=300) (hg:∀x∈gaps,0<=x/\x<=60) (hl:gaps.length<=300) {B:Lo} (hJ:∀w,B.has w->J0 w):EndsT YP B (Qae YP 120 30 (([.agg (QaE s load days).toArray,slI gaps]).map (Qal 0 4))) (slB (QcL days gaps)):=by
 exact ((QyP s load days gaps hd hg hl hJ _) (0) (0) (List.replicate days.toNat false) rfl (by omega) (by omega) (by (rw [List.length_replicate];done))
  (GoE.start.landM okF hJ Qab (Q0d B s load days gaps)
  ⟨(by exact (QbQ (by exact ⟨(.simple rfl),trivial⟩) _)),⟨(Qgs (bytes:=1) (by kernel_rfl) (by omega) (by omega) (by omega)),trivial⟩⟩ (by kernel_rfl) (by kernel_rfl))).cast (by rfl)
theorem Q7v (s:Qaa) (load days:Int) (gaps:List Int) (hd:0<=days/\days<=300) (hg:∀x∈gaps,0<=x/\x<=60) (hl:gaps.length<=300):Qai YP J0 120 #[.agg (QaE s load days).toArray,slI gaps] (slB (QcL days gaps)):=
 Qa5 (ts:=[.agg (QaE s load days).toArray,slI gaps]) Qbn (c0:=Qae YP 120 30 (([.agg (QaE s load days).toArray,slI gaps]).map (Qal 0 4))) (by kernel_rfl) (by kernel_rfl) fun B hJ=> Q2v s load days gaps hd hg hl hJ
end Go.Proofs.YtiabgkiccaodmaaGreat

namespace Go.Proofs.YtiabgkiccaodmaaGreat
open Go Go.CE Go.RowKit
noncomputable section
set_option maxRecDepth 100000
theorem QtP {p:Int->Bool} {a b:Int} (h:(upI a b).all p=true) {k:Int} (h1:a<=k) (h2:k < b):p k=true:=by
 refine List.all_eq_true.1 h k ?_;unfold upI;exact List.mem_map.2 ⟨(k - a).toNat,List.mem_range.2 (by omega),by omega⟩
theorem Qcu {b:Int}:(upI 0 b).length=b.toNat:=by simp [upI]
theorem Qgo {b i:Int} (h0:0<=i) (h:i < b):(upI 0 b).getD i.toNat default=i:=by
 have hk:i.toNat < (upI 0 b).length:=by rw [Qcu];omega
 rw [List.getD_eq_getElem?_getD,List.getElem?_eq_getElem hk];simp [upI];omega
theorem QpK {α:Type} [Inhabited α] {l:List α} {x:α} (h:x∈l):∃i:Int,0<=i/\i < l.length/\l.getD i.toNat default=x:=by
 obtain ⟨k,hk,rfl⟩:=List.getElem_of_mem h;exact ⟨k,by omega,by omega,by simp [List.getD_eq_getElem?_getD,hk]⟩
theorem Qc1 {ns:List Int} {ss:List Span} (h:Qgb ns ss=true):ns.length=ss.length/\∀k:Int,0<=k->k < ns.length->(ss.getD k.toNat default).lo<=ns.getD k.toNat default/\ns.getD k.toNat default<=(ss.getD k.toNat default).hi:=by
 simp only [Qgb,YB,decide_eq_true_iff] at h;exact ⟨h.1,fun k h0 h1=> Qa4.1 (QtP h.2 h0 h1)⟩
theorem Qhw {s:Qaa} {all:List Row} (hs:Qa7 s=true) (h:Qos s all=true):all.length=s.lots.length/\∀r∈all,r.length=s.stock.length/\∀x∈r,0<=x/\x<=100000:=by
 simp only [Qos,YB,decide_eq_true_iff] at h;obtain ⟨hl,hg⟩:=h;refine ⟨hl,fun r hr=> ?_⟩;obtain ⟨i,h0,h1,rfl⟩:=QpK hr;have hi:i < s.lots.length:=by omega
 obtain ⟨a,b⟩:=Qc1 (QtP hg h0 hi);have hlot:=(Qbv hs).2 _ (Qa6 h0 hi);obtain ⟨c,d,_⟩:=QdF hlot;refine ⟨a.trans c,fun x hx=> ?_⟩;obtain ⟨j,j0,j1,rfl⟩:=QpK hx;have:=b j j0 j1;have:=d _ (Qa6 (l:=(s.lots.getD i.toNat default).goods) j0 (by omega));omega
theorem Qov {m:Int}:∀{l:List Int},(∀x∈l,0<=x/\x<=m)->0<=QfW l/\QfW l<=m * l.length
 | [],_=> by simp [QfW]
 | x::l,h=> by
   have h1:=h x (by simp);have h2:=Qov (l:=l) fun y hy=> h y (by simp [hy])
   have e:m * ((l.length:Int)+1)=m * l.length+m:=by rw [Int.mul_add,Int.mul_one]
   simp only [QfW,List.length_cons,Int.natCast_add,Int.natCast_one];omega
theorem QaV {s:Qaa} (h:Qa7 s=true):(1<=s.stock.length/\s.stock.length<=4)/\(∀x∈s.stock,0<=x/\x<=100000)/\s.use.length=s.stock.length/\∀u∈s.use,0<=u.lo/\u.lo<=u.hi/\u.hi<=1000:=by
 simp only [Qa7,QcK,Qbw,YB,decide_eq_true_iff,List.all_eq_true,Qa4] at h;exact ⟨by omega,h.2.1,h.2.2.1,h.2.2.2.1⟩
def Quq (load:Int) (goods:List Row) (k:Int):Int:=QfW ((Qay load goods 0).map fun r=> r.getD k.toNat default)
def Qs3 (s:Qaa) (load days:Int) (t:QaJ) (k:Int):Gd:=⟨s.stock.getD k.toNat default,t.uses.getD k.toNat default,Quq load t.goods k,QcL days t.gaps⟩
def Qci (s:Qaa) (load days:Int) (t:QaJ):List Gd:=(upI 0 s.stock.length).map (Qs3 s load days t)
abbrev slG (xs:List Gd):Value:=slT xs.length (Qad Qcy xs)
def Qpa (s:Qaa) (load days:Int) (t:QaJ) (i:Int):List Gd:=Qgx (Qs3 s load days t) ⟨0,0,0,[]⟩ (upI 0 s.stock.length) i
theorem QlJ {s:Qaa} {load days:Int} {t:QaJ} {i:Int}:(Qpa s load days t i).length=s.stock.length:=by
 unfold Qpa;rw [QdQ,Qcu];omega
theorem Q5v {s:Qaa} {load days:Int} {t:QaJ}:List.replicate s.stock.length (⟨0,0,0,[]⟩:Gd)=Qpa s load days t 0:=by
 unfold Qpa;rw [<-Qgj,Qcu];rfl
theorem Qz8 {s:Qaa} {load days:Int} {t:QaJ} {i:Int} (h0:0<=i) (h:i < s.stock.length):(Qpa s load days t i).set i.toNat (Qs3 s load days t i)=Qpa s load days t (i+1):=by
 have:=QdM (f:=Qs3 s load days t) (x0:=⟨0,0,0,[]⟩) (xs:=upI 0 s.stock.length) (i:=i) h0 (by rw [Qcu];omega);rw [Qgo h0 h] at this;exact this
theorem Q1V {s:Qaa} {load days:Int} {t:QaJ} {i:Int} (h:s.stock.length<=i):Qpa s load days t i=Qci s load days t:=QdS (by rw [Qcu];omega)
theorem QyS {s:Qaa} {load days:Int} {t:QaJ} (hs:Qa7 s=true) (ht:Qft s days t=true) (hd:0<=days/\days<=300) (h0:0<=load) (h1:load < 64) (hx:Qc5 load<=s.lots.length):∀g∈Qci s load days t,gdB g:=by
 intro g hg;obtain ⟨k,hk,rfl⟩:=List.mem_map.1 hg;obtain ⟨i,i0,i1,rfl⟩:=QpK hk;rw [Qcu] at i1;rw [Qgo i0 (by omega)];simp only [Qft,YB] at ht;obtain ⟨⟨hl1,hl2⟩,hst,hul,hu⟩:=QaV hs;obtain ⟨a,b⟩:=Qc1 ht.1;obtain ⟨rl,rr⟩:=Qhw hs ht.2.2;have f1:=hst _ (Qa6 (l:=s.stock) i0 (by omega));have f2:=hu _ (Qa6 (l:=s.use) i0 (by omega));have f3:=b i i0 (by omega);have f4:∀x∈(Qay load t.goods 0).map (fun r=> r.getD i.toNat default),0<=x/\x<=100000:=fun x hx'=> by
  obtain ⟨r,hr,rfl⟩:=List.mem_map.1 hx';obtain ⟨q1,q2⟩:=rr r (Qdi (Int.le_refl _) (by omega) r hr);exact q2 _ (Qa6 i0 (by omega))
 have f5:=Qov f4;have f6:=QiN (s:=load) (n:=0) (xs:=t.goods) (Int.le_refl _);have f7:=Qf3 h0 h1;rw [List.length_map] at f5;have f8:(QcL days t.gaps).length=days.toNat:=by unfold QcL;rw [QjQ,List.length_replicate]
 unfold gdB Qs3;simp only [Quq];refine ⟨by omega,by omega,by omega,by omega,by omega,by omega,by omega⟩
def Qha (s:Qaa) (load days:Int) (t:QaJ) (i:Int) (ys:List Gd):List Value:=[pA 2 0,pA 3 0,Qat 1 (slT (List.length (QcL days t.gaps)) (Qad Qgw (QcL days t.gaps))),Qat 1 (slT (List.length (Qay load t.goods 0)) (Qad Qax (Qay load t.goods 0))),.slice (some {block:=4,off:=0}) s.stock.length 4,.int .i64 (↑s.stock.length:Int),.int .i64 i]
def Qe4 (s:Qaa) (load days:Int) (t:QaJ) (i:Int) (ys:List Gd):List Obj:=[Obj.cells #[Qat 1 (slT s.stock.length (Qad Qav s.stock)),Qat 1 (slT s.use.length (Qad Qaz s.use)),.int .i64 s.glo,.int .i64 s.ghi,Qat 1 (slT s.lots.length (Qad Qam s.lots)),.int .i64 s.hold,.int .i64 load,.int .i64 days] 122,Obj.cells #[Qat 1 (slT t.uses.length (Qad Qav t.uses)),Qat 1 (slT t.gaps.length (Qad Qav t.gaps)),Qat 1 (slT t.goods.length (Qad Qax t.goods))] 65,.cells (Qad (QaG 1 Qcy) ys) 129 (0,0)]
def Qg9:List Item:=([.code [1,1,1,1,0,1,0,0],.inLoop [1,1,1,1,0,1,0,0],.inBlock 0,.code [1,1,1,1,1]]).map (it (Qaq YP 84))
def Qzp (B:Lo) (c0:CF) (s:Qaa) (load days:Int) (t:QaJ) (i:Int) (ys:List Gd):Prop:=∃dJ:Nat->Value,(∀t,Qbg (dJ t))/\GoE YP B c0 H00 1 (Qa3 84 52 (([2,3,5,6,7,25,26]:List Nat).zip (Qha s load days t i ys)) dJ Qg9) (Qa1 (Qe4 s load days t i ys)) (2+(Qe4 s load days t i ys).length) []
def Qdq (s:Qaa) (load days:Int) (t:QaJ) (i:Int) (ys:List Gd) (dJ0:Nat->Value):Qar:=[(5,Obj.cells #[.int .i64 i] 3),(0,Obj.coro none),(1,Obj.coro none),(2,Obj.cells #[Qat 1 (slT s.stock.length (Qad Qav s.stock)),Qat 1 (slT s.use.length (Qad Qaz s.use)),.int .i64 s.glo,.int .i64 s.ghi,Qat 1 (slT s.lots.length (Qad Qam s.lots)),.int .i64 s.hold,.int .i64 load,.int .i64 days] 122),(3,Obj.cells #[Qat 1 (slT t.uses.length (Qad Qav t.uses)),Qat 1 (slT t.gaps.length (Qad Qav t.gaps)),Qat 1 (slT t.goods.length (Qad Qax t.goods))] 65),(4,Obj.cells (Qad (QaG 1 Qcy) ys) 129)]
def QfT (s:Qaa) (load days:Int) (t:QaJ) (i:Int) (ys:List Gd) (dJ0:Nat->Value):CF:=⟨122,ofList 26 [Qat 1 (slT (List.length (Qay load t.goods 0)) (Qad Qax (Qay load t.goods 0))),Value.func (Fn.func 123) #[] #[pA 5 0]],[Item.code (Qaq YP 122)],[],.run,none⟩
def Qe2 (s:Qaa) (load days:Int) (t:QaJ) (i:Int) (ys:List Gd) (dJ0:Nat->Value) (j:Int) (zs:List Int):List Value:=[Value.func (Fn.func 123) #[] #[pA 5 0],.slice (some {block:=7,off:=0}) (List.length (Qay load t.goods 0)) 1,Qat 1 (slT (List.length (Qay load t.goods 0)) (Qad Qax (Qay load t.goods 0))),.int .i64 (↑(List.length (Qay load t.goods 0)):Int),.int .i64 j]
def QeA (s:Qaa) (load days:Int) (t:QaJ) (i:Int) (ys:List Gd) (dJ0:Nat->Value) (j:Int) (zs:List Int):List Obj:=[]
def Qcw (s:Qaa) (load days:Int) (t:QaJ) (i:Int) (ys:List Gd) (dJ0:Nat->Value) (j:Int) (zs:List Int):List Obj:=[.cells (Qad Qav zs) 3 (0,0)]
def Qe7:List Item:=([.code [1,1,0,1,0,0],.inLoop [1,1,0,1,0,0],.inBlock 0,.code [1,1,1]]).map (it (Qaq YP 122))
def Qhe (s:Qaa) (load days:Int) (t:QaJ) (i:Int) (ys:List Gd) (dJ0:Nat->Value) (j:Int) (zs:List Int) (dJ1:Nat->Value):Qar:=[(6,Obj.coro none),(7,Obj.cells (Qad Qav zs) 3),(5,Obj.cells #[.int .i64 i] 3),(0,Obj.coro none),(1,Obj.coro none),(2,Obj.cells #[Qat 1 (slT s.stock.length (Qad Qav s.stock)),Qat 1 (slT s.use.length (Qad Qaz s.use)),.int .i64 s.glo,.int .i64 s.ghi,Qat 1 (slT s.lots.length (Qad Qam s.lots)),.int .i64 s.hold,.int .i64 load,.int .i64 days] 122),(3,Obj.cells #[Qat 1 (slT t.uses.length (Qad Qav t.uses)),Qat 1 (slT t.gaps.length (Qad Qav t.gaps)),Qat 1 (slT t.goods.length (Qad Qax t.goods))] 65),(4,Obj.cells (Qad (QaG 1 Qcy) ys) 129)]
def Qjc (s:Qaa) (load days:Int) (t:QaJ) (i:Int) (ys:List Gd) (dJ0:Nat->Value) (j:Int) (zs:List Int) (dJ1:Nat->Value):CF:=⟨123,ofList 8 [Qat 1 (slT (List.length (List.getD (Qay load t.goods 0) j.toNat default)) (Qad Qav (List.getD (Qay load t.goods 0) j.toNat default))),pA 5 0],[Item.code (Qaq YP 123)],[],.run,none⟩
def Qf9 (days:Int) (t:QaJ):Value:=(slT (List.length (QcL days t.gaps)) (Qad Qgw (QcL days t.gaps)))
theorem Qz7 (B:Lo) (s:Qaa) (load days:Int) (t:QaJ) (i:Int) (ys:List Gd) (dJ0:Nat->Value) (j:Int) (zs:List Int) (dJ1:Nat->Value):CE.finK 8 (Qah YP (Qau YP) J0 B 6 8 (Qjc s load days t i ys dJ0 j zs dJ1) (Qhe s load days t i ys dJ0 j zs dJ1) 8
 [(3,Qaf.tidx i.toNat #[.int .i64 (List.getD (List.getD (Qay load t.goods 0) j.toNat default) i.toNat default)])] 0 [] []) [] [] []=some (OO.ret (.int .i64 (List.getD (List.getD (Qay load t.goods 0) j.toNat default) i.toNat default)),[],[],
 [i=(↑i.toNat:Int)/\Int.toNat i < List.length (List.getD (Qay load t.goods 0) j.toNat default)/\Array.extract (Qad Qav (List.getD (Qay load t.goods 0) j.toNat default)) (Int.toNat i * TypeInfo.size Tryz.t3) (Int.toNat i * TypeInfo.size Tryz.t3+TypeInfo.size Tryz.t3)=#[.int .i64 (List.getD (List.getD (Qay load t.goods 0) j.toNat default) i.toNat default)]]):=by kernel_rfl
theorem Q0Z (B:Lo) (s:Qaa) (load days:Int) (t:QaJ) (i:Int) (ys:List Gd) (dJ0:Nat->Value) (j:Int) (zs:List Int) (dJ1:Nat->Value):CE.landA 6 (Qah YP (Qau YP) J0 B 13 6 (Qc6 (none) 122 26 (([1,5,11,12,13]:List Nat).zip (Qe2 s load days t i ys dJ0 j zs)) dJ1 Qe7) (QbM (Qdq s load days t i ys dJ0) 6 (([]:List Nat).zip (QeA s load days t i ys dJ0 j zs)) (Qcw s load days t i ys dJ0 j zs)) (6+1+(Qcw s load days t i ys dJ0 j zs).length)
 [(0,hvT),(2,Qaf.tidx j.toNat #[slT (List.length (List.getD (Qay load t.goods 0) j.toNat default)) (Qad Qav (List.getD (Qay load t.goods 0) j.toNat default))]),(10,Qaf.call (List.range 8) (OO.ret (.int .i64 (List.getD (List.getD (Qay load t.goods 0) j.toNat default) i.toNat default))) ([]++(8,Qbc)::QaA 9 []) 9 []),(11,Qaf.old (Hint.idx j.toNat)),(12,Qaf.old (Hint.st (Qad Qav (List.set zs j.toNat (List.getD (List.getD (Qay load t.goods 0) j.toNat default) i.toNat default))))),(13,hvI (j+1))] 0 [] []) [1,5,11,12,13] [] [(7,KS.cells [] (Qad Qav (List.set zs j.toNat (List.getD (List.getD (Qay load t.goods 0) j.toNat default) i.toNat default))))] []=some ⟨122,26,Qe7,[],.run,none,Qe2 s load days t i ys dJ0 (j+1) (List.set zs j.toNat (List.getD (List.getD (Qay load t.goods 0) j.toNat default) i.toNat default)),([]:List Nat).zip (QeA s load days t i ys dJ0 (j+1) (List.set zs j.toNat (List.getD (List.getD (Qay load t.goods 0) j.toNat default) i.toNat default))),Qcw s load days t i ys dJ0 (j+1) (List.set zs j.toNat (List.getD (List.getD (Qay load t.goods 0) j.toNat default) i.toNat default)),
 [Qdd 6 [] (Qad Qav (List.set zs j.toNat (List.getD (List.getD (Qay load t.goods 0) j.toNat default) i.toNat default))) (Qad Qav (List.set zs j.toNat (List.getD (List.getD (Qay load t.goods 0) j.toNat default) i.toNat default))),wq (j+1)=j+1,0+Int.toNat j * 1+TypeInfo.size Tryz.t3<=Array.size (Qad Qav zs)/\splice (Qad Qav zs) (0+Int.toNat j * 1) (Value.cells (QbV {len:=16000,tr:=Tri.set 14 (Tri.set 14 Tri.lf 22 (.int .i64 (List.getD (List.getD (Qay load t.goods 0) j.toNat default) i.toNat default))) 23 (.pointer (some {block:=7,off:=0+Int.toNat j * 1}))} 22))=Qad Qav (List.set zs j.toNat (List.getD (List.getD (Qay load t.goods 0) j.toNat default) i.toNat default)),j=(↑j.toNat:Int)/\Int.toNat j < List.length (Qay load t.goods 0),FJ YP B (Qjc s load days t i ys dJ0 j zs dJ1) (Qhe s load days t i ys dJ0 j zs dJ1) 8 (OO.ret (.int .i64 (List.getD (List.getD (Qay load t.goods 0) j.toNat default) i.toNat default))) (([]++((8,Qbc)::QaA (8+1) []))++Qhe s load days t i ys dJ0 j zs dJ1) 9 (List.range 8) [],j=(↑j.toNat:Int)/\Int.toNat j < List.length (Qay load t.goods 0)/\Array.extract (Qad Qax (Qay load t.goods 0)) (Int.toNat j * TypeInfo.size Tryz.t22) (Int.toNat j * TypeInfo.size Tryz.t22+TypeInfo.size Tryz.t22)=#[slT (List.length (List.getD (Qay load t.goods 0) j.toNat default)) (Qad Qav (List.getD (Qay load t.goods 0) j.toNat default))],ltq j (↑(List.length (Qay load t.goods 0)):Int)=true]⟩:=by kernel_rfl
theorem Q0J (B:Lo) (s:Qaa) (load days:Int) (t:QaJ) (i:Int) (ys:List Gd) (dJ0:Nat->Value) (j:Int) (zs:List Int) (dJ1:Nat->Value):CE.finK 6 (Qah YP (Qau YP) J0 B 9 6 (Qc6 (none) 122 26 (([1,5,11,12,13]:List Nat).zip (Qe2 s load days t i ys dJ0 j zs)) dJ1 Qe7) (QbM (Qdq s load days t i ys dJ0) 6 (([]:List Nat).zip (QeA s load days t i ys dJ0 j zs)) (Qcw s load days t i ys dJ0 j zs)) (6+1+(Qcw s load days t i ys dJ0 j zs).length)
 [(0,hvF)] 0 [] []) [] [] [{k:=7,rs:=[],cs:=Qad Qav zs}]=some (OO.ret (Qat 6 (slT (List.length (Qay load t.goods 0)) (Fz.cs {k:=7,rs:=[],cs:=Qad Qav zs}))),[],[],
 [Qbl (Fz.rs {k:=7,rs:=[],cs:=Qad Qav zs}) (Qad Qav zs) (Fz.cs {k:=7,rs:=[],cs:=Qad Qav zs}),ltq j (↑(List.length (Qay load t.goods 0)):Int)=false]):=by kernel_rfl
set_option maxHeartbeats 4000000 in
theorem Qqy (s:Qaa) (load days:Int) (t:QaJ) (i:Int) (ys:List Gd) (dJ0:Nat->Value) (hs:Qa7 s=true) (ht:Qft s days t=true) (hd:0<=days/\days<=300) (h0:0<=load) (h1:load < 64) (hx:Qc5 load<=s.lots.length) (i0:0<=i) (hy:ys=Qpa s load days t i) (hdJ0:∀t,Qbg (dJ0 t)) (q0:(i:Int) < ((↑s.stock.length:Int))) {B:Lo} (hJ:∀w,B.has w->J0 w):∀m:Nat,(∀(j:Int) (zs:List Int),(Qay load t.goods 0).length - j.toNat=m->∀(j0:0<=j) (hz:zs=Qgx (fun (r:Row)=> r.getD i.toNat default) 0 (Qay load t.goods 0) j),(∃dJ1:Nat->Value,(∀t,Qbg (dJ1 t))/\GoE YP B (QfT s load days t i ys dJ0) (Qdq s load days t i ys dJ0) 6 (Qc6 (none) 122 26 (([1,5,11,12,13]:List Nat).zip (Qe2 s load days t i ys dJ0 j zs)) dJ1 Qe7) (QbM (Qdq s load days t i ys dJ0) 6 (([]:List Nat).zip (QeA s load days t i ys dJ0 j zs)) (Qcw s load days t i ys dJ0 j zs)) (6+1+(Qcw s load days t i ys dJ0 j zs).length) ([]:List Nat))->FinK YP B (QfT s load days t i ys dJ0) (Qdq s load days t i ys dJ0) 6 (.ret (Qat 6 (slI ((Qay load t.goods 0).map fun r=> r.getD i.toNat default)))) (([]:List Nat).zip ([])) ([]) ([]:List Nat)):=by
 intro m1;induction m1 using Nat.strongRecOn with
 | _ m1 ih1=>
   intro j zs hm1 j0 hz ⟨dJ1,hdJ1,hg1⟩;have ht':=ht;simp only [Qft,QtK,YB,decide_eq_true_iff,List.all_eq_true,Qa4] at ht';have hgp:=Qbt hs;have hst:=QaV hs;have hrows:=Qhw hs ht'.2.2;have hus:=(Qc1 ht'.1).1;have hgg:∀x∈t.gaps,0<=x/\x<=60:=fun x h=> by have:=ht'.2.1.2.1 x h;omega
   have hgl:t.gaps.length<=300:=ht'.2.1.1;have hpx:Qc5 load<=t.goods.length:=by omega
   have hpl:=QiN (s:=load) (n:=0) (xs:=t.goods) (Int.le_refl _);have hl6:=Qf3 h0 h1;have hyl:ys.length=s.stock.length:=by rw [hy];exact QlJ
   have hzl:zs.length=(Qay load t.goods 0).length:=by rw [hz];exact QdQ
   have hyl:ys.length=s.stock.length:=by rw [hy];exact QlJ
   have hri:∀r∈Qay load t.goods 0,i < r.length:=fun r h=> by have:=(hrows.2 r (Qdi (Int.le_refl _) hpx r h)).1;omega
   by_cases q1:(j:Int) < ((↑(List.length (Qay load t.goods 0)):Int))
   ·have rj1:FJ YP B (Qjc s load days t i ys dJ0 j zs dJ1) (Qhe s load days t i ys dJ0 j zs dJ1) 8 (OO.ret (.int .i64 (List.getD (List.getD (Qay load t.goods 0) j.toNat default) i.toNat default))) (([]++((8,Qbc)::QaA (8+1) []))++Qhe s load days t i ys dJ0 j zs dJ1) 9 (List.range 8) []:=by
     have hri:∀r∈Qay load t.goods 0,i < r.length:=fun r h=> by have:=(hrows.2 r (Qdi (Int.le_refl _) hpx r h)).1;omega
     have hrx:∀x∈(Qay load t.goods 0).map (fun r=> r.getD i.toNat default),-1000000000<=x/\x<=1000000000:=fun x h=> by obtain ⟨r,hr,rfl⟩:=List.mem_map.1 h;obtain ⟨a,b⟩:=hrows.2 r (Qdi (Int.le_refl _) hpx r hr);have:=b _ (Qa6 (l:=r) i0 (by omega));omega
     have hrl:((Qay load t.goods 0).map (fun r=> r.getD i.toNat default)).length<=1000:=by rw [List.length_map];omega
     have hrj:=hri _ (Qa6 j0 (by assumption));exact FinK.fjB (GoE.finK okF hJ Qab (Qaj (by kernel_rfl)) (Qag (by kernel_rfl)) ((GoE.refl (P:=YP) (B:=B) (c0:=Qjc s load days t i ys dJ0 j zs dJ1) (Qaj (by kernel_rfl))).widen (Wf:=((([]):List (Nat×KS)).map (·.1))) (by simp) (Qag (by kernel_rfl))) (Qz7 B s load days t i ys dJ0 j zs dJ1)
      ⟨⟨by omega,by omega,(Qao (z:=1) (fun _=> rfl) (by omega))⟩,trivial⟩) (ex:=[7,4]) (by kernel_rfl) ⟨trivial,⟨(Quh (t:=3) (fl:=(0,0)) (fun x=> List.all_eq_true.1 (by rfl))),⟨trivial,⟨trivial,⟨trivial,⟨trivial,⟨trivial,⟨(QeU (t:=129) (fl:=(0,0)) (Qb1 (fun _=> rfl)) (by decide)),trivial⟩⟩⟩⟩⟩⟩⟩⟩
    have hri:∀r∈Qay load t.goods 0,i < r.length:=fun r h=> by have:=(hrows.2 r (Qdi (Int.le_refl _) hpx r h)).1;omega
    have hrx:∀x∈(Qay load t.goods 0).map (fun r=> r.getD i.toNat default),-1000000000<=x/\x<=1000000000:=fun x h=> by obtain ⟨r,hr,rfl⟩:=List.mem_map.1 h;obtain ⟨a,b⟩:=hrows.2 r (Qdi (Int.le_refl _) hpx r hr);have:=b _ (Qa6 (l:=r) i0 (by omega));omega
    have hrl:((Qay load t.goods 0).map (fun r=> r.getD i.toNat default)).length<=1000:=by rw [List.length_map];omega
    have hrj:=hri _ (Qa6 j0 (by assumption));exact ((ih1 _ (by omega)) (j+1) (List.set zs j.toNat (List.getD (List.getD (Qay load t.goods 0) j.toNat default) i.toNat default)) rfl (by omega) (by (subst hz;exact QdM (f:=fun (r:Row)=> r.getD i.toNat default) j0 q1))
     (GoE.landA okF hJ Qab (Qaj (by kernel_rfl)) (Qag (by kernel_rfl)) hg1 (Q0Z B s load days t i ys dJ0 j zs dJ1)
     ⟨(QaO (QaT (fun x=> List.all_eq_true.1 (by rfl)))),⟨(QaR (by omega) (by omega)),⟨(by exact Qfr (z:=1) (fun _=> rfl) (by omega) rfl rfl),⟨⟨by omega,by omega⟩,⟨rj1,⟨⟨by omega,by omega,(Qao (z:=1) (fun _=> rfl) (by omega))⟩,⟨(Qbq q1),trivial⟩⟩⟩⟩⟩⟩⟩ (by kernel_rfl) (by kernel_rfl) (fun l hl=> by cases hl <;> decide))).cast (by rfl) (by rfl) (by rfl)
   ·have hri:∀r∈Qay load t.goods 0,i < r.length:=fun r h=> by have:=(hrows.2 r (Qdi (Int.le_refl _) hpx r h)).1;omega
    have hrx:∀x∈(Qay load t.goods 0).map (fun r=> r.getD i.toNat default),-1000000000<=x/\x<=1000000000:=fun x h=> by obtain ⟨r,hr,rfl⟩:=List.mem_map.1 h;obtain ⟨a,b⟩:=hrows.2 r (Qdi (Int.le_refl _) hpx r hr);have:=b _ (Qa6 (l:=r) i0 (by omega));omega
    have hrl:((Qay load t.goods 0).map (fun r=> r.getD i.toNat default)).length<=1000:=by rw [List.length_map];omega
    exact (GoE.finK okF hJ Qab (Qaj (by kernel_rfl)) (Qag (by kernel_rfl)) hg1 (Q0J B s load days t i ys dJ0 j zs dJ1)
     ⟨(QaC (fun x=> List.all_eq_true.1 (by rfl))),⟨(Qbj (Int.not_lt.1 q1)),trivial⟩⟩).cast (by exact congrArg (fun v=> OO.ret (Qat 6 v)) (Qf7 (hz.trans (QdS (by omega))) (by simp))) (by rfl) (by rfl)

theorem Q1T (B:Lo) (s:Qaa) (load days:Int) (t:QaJ) (i:Int) (ys:List Gd) (dJ0:Nat->Value):CE.landA 6 (Qah YP (Qau YP) J0 B 9 6 (QfT s load days t i ys dJ0) (Qdq s load days t i ys dJ0) 6
 [(3,Qaf.old (Hint.mk (List.length (Qay load t.goods 0)) (Qad (QbL [.int .i64 0]) (List.replicate (List.length (Qay load t.goods 0)) ()))))] 0 [] []) [1,5,11,12,13] [] [(6,KS.rows [] [] (Qad Qav (List.replicate (List.length (Qay load t.goods 0)) 0)))] []=some ⟨122,26,Qe7,[],.run,none,Qe2 s load days t i ys dJ0 (0) (List.replicate (List.length (Qay load t.goods 0)) 0),([]:List Nat).zip (QeA s load days t i ys dJ0 (0) (List.replicate (List.length (Qay load t.goods 0)) 0)),Qcw s load days t i ys dJ0 (0) (List.replicate (List.length (Qay load t.goods 0)) 0),
 [Qbu 6 [] [] (Qad (QbL [.int .i64 0]) (List.replicate (List.length (Qay load t.goods 0)) ())) (Qad Qav (List.replicate (List.length (Qay load t.goods 0)) 0)),Qgh YP 22 (QbV {len:=16000,tr:=Tri.set 14 Tri.lf 9 (.int .i64 (↑(List.length (Qay load t.goods 0)):Int))} 9) (QbV {len:=16000,tr:=Tri.set 14 Tri.lf 9 (.int .i64 (↑(List.length (Qay load t.goods 0)):Int))} 9)=some (3,Qad (QbL [.int .i64 0]) (List.replicate (List.length (Qay load t.goods 0)) ()),List.length (Qay load t.goods 0),TypeInfo.size Tryz.t3)]⟩:=by kernel_rfl
theorem Q0e (B:Lo) (s:Qaa) (load days:Int) (t:QaJ) (i:Int) (ys:List Gd) (dJ0:Nat->Value):landM (Qah YP (Qau YP) J0 B 15 1 (Qa3 84 52 (([2,3,5,6,7,25,26]:List Nat).zip (Qha s load days t i ys)) dJ0 Qg9) (Qa1 (Qe4 s load days t i ys)) (2+(Qe4 s load days t i ys).length)
 [(0,hvT),(6,Qaf.call (List.range 6) (OO.ret (Qat 6 (slT (List.length (List.map (fun r=> r.getD i.toNat default) (Qay load t.goods 0))) (Qad Qav (List.map (fun r=> r.getD i.toNat default) (Qay load t.goods 0)))))) ([]++(6,Qbc)::QaA 7 []) 7 []),(14,Qaf.tidx i.toNat #[.int .i64 (s.stock.getD i.toNat default)]),(19,Qaf.tidx i.toNat #[.int .i64 (t.uses.getD i.toNat default)]),(22,Qaf.pure (.int .i64 (QfW (List.map (fun r=> r.getD i.toNat default) (Qay load t.goods 0)))) []),(25,Qaf.old (Hint.idx i.toNat)),(26,Qaf.old (Hint.st (splice (Qad (QaG 1 Qcy) ys) (0+Int.toNat i * 4) #[.int .i64 (s.stock.getD i.toNat default),.int .i64 (t.uses.getD i.toNat default),.int .i64 (QfW (List.map (fun r=> r.getD i.toNat default) (Qay load t.goods 0))),Qat 1 (Qf9 days t)]))),(27,hvI (i+1))] 0 [] []) [2,3,5,6,7,25,26] [(2,KS.auto),(3,KS.auto),(4,KS.rows [(1,1)] [] (Qad (QaG 1 Qcy) (List.set ys i.toNat {stock:=s.stock.getD i.toNat default,use:=t.uses.getD i.toNat default,br:=QfW (List.map (fun r=> r.getD i.toNat default) (Qay load t.goods 0)),ships:=QcL days t.gaps})))] []=some ⟨84,52,Qg9,[],.run,none,Qha s load days t (i+1) (List.set ys i.toNat {stock:=s.stock.getD i.toNat default,use:=t.uses.getD i.toNat default,br:=QfW (List.map (fun r=> r.getD i.toNat default) (Qay load t.goods 0)),ships:=QcL days t.gaps}),Qe4 s load days t (i+1) (List.set ys i.toNat {stock:=s.stock.getD i.toNat default,use:=t.uses.getD i.toNat default,br:=QfW (List.map (fun r=> r.getD i.toNat default) (Qay load t.goods 0)),ships:=QcL days t.gaps}),
 [Qbu 1 [(1,1)] [] (splice (Qad (QaG 1 Qcy) ys) (0+Int.toNat i * 4) #[.int .i64 (s.stock.getD i.toNat default),.int .i64 (t.uses.getD i.toNat default),.int .i64 (QfW (List.map (fun r=> r.getD i.toNat default) (Qay load t.goods 0))),Qat 1 (Qf9 days t)]) (Qad (QaG 1 Qcy) (List.set ys i.toNat {stock:=s.stock.getD i.toNat default,use:=t.uses.getD i.toNat default,br:=QfW (List.map (fun r=> r.getD i.toNat default) (Qay load t.goods 0)),ships:=QcL days t.gaps})),wq (i+1)=i+1,0+Int.toNat i * 4+TypeInfo.size Tryz.t129<=Array.size (Qad (QaG 1 Qcy) ys)/\splice (Qad (QaG 1 Qcy) ys) (0+Int.toNat i * 4) (Value.cells (QbV {len:=16000,tr:=Tri.set 14 (Tri.set 14 Tri.lf 48 (.agg #[.int .i64 (s.stock.getD i.toNat default),.int .i64 (t.uses.getD i.toNat default),.int .i64 (QfW (List.map (fun r=> r.getD i.toNat default) (Qay load t.goods 0))),Qat 1 (Qf9 days t)])) 49 (.pointer (some {block:=4,off:=0+Int.toNat i * 4}))} 48))=splice (Qad (QaG 1 Qcy) ys) (0+Int.toNat i * 4) #[.int .i64 (s.stock.getD i.toNat default),.int .i64 (t.uses.getD i.toNat default),.int .i64 (QfW (List.map (fun r=> r.getD i.toNat default) (Qay load t.goods 0))),Qat 1 (Qf9 days t)],i=(↑i.toNat:Int)/\Int.toNat i < List.length s.stock,Qas []/\Qai YP J0 124 #[slT (List.length (List.map (fun r=> r.getD i.toNat default) (Qay load t.goods 0))) (Qad Qav (List.map (fun r=> r.getD i.toNat default) (Qay load t.goods 0)))] (.int .i64 (QfW (List.map (fun r=> r.getD i.toNat default) (Qay load t.goods 0)))),i=(↑i.toNat:Int)/\Int.toNat i < List.length t.uses/\Array.extract (Qad Qav t.uses) (Int.toNat i * TypeInfo.size Tryz.t3) (Int.toNat i * TypeInfo.size Tryz.t3+TypeInfo.size Tryz.t3)=#[.int .i64 (t.uses.getD i.toNat default)],i=(↑i.toNat:Int)/\Int.toNat i < List.length s.stock/\Array.extract (Qad Qav s.stock) (Int.toNat i * TypeInfo.size Tryz.t3) (Int.toNat i * TypeInfo.size Tryz.t3+TypeInfo.size Tryz.t3)=#[.int .i64 (s.stock.getD i.toNat default)],FJ YP B (QfT s load days t i ys dJ0) (Qdq s load days t i ys dJ0) 6 (OO.ret (Qat 6 (slT (List.length (List.map (fun r=> r.getD i.toNat default) (Qay load t.goods 0))) (Qad Qav (List.map (fun r=> r.getD i.toNat default) (Qay load t.goods 0)))))) (([]++((6,Qbc)::QaA (6+1) []))++Qdq s load days t i ys dJ0) 7 (List.range 6) [],ltq i (↑s.stock.length:Int)=true]⟩:=by kernel_rfl
theorem QyK (B:Lo) (s:Qaa) (load days:Int) (t:QaJ) (i:Int) (ys:List Gd) (dJ0:Nat->Value):QaF (Qah YP (Qau YP) J0 B 9 1 (Qa3 84 52 (([2,3,5,6,7,25,26]:List Nat).zip (Qha s load days t i ys)) dJ0 Qg9) (Qa1 (Qe4 s load days t i ys)) (2+(Qe4 s load days t i ys).length)
 [(0,hvF)] 0 [] []) [{k:=4,rs:=[1],cs:=Qad Qcy ys}]=some (slT s.stock.length (Fz.cs {k:=4,rs:=[1],cs:=Qad Qcy ys}),
 [Qbl (Fz.rs {k:=4,rs:=[1],cs:=Qad Qcy ys}) (Qad (QaG 1 Qcy) ys) (Fz.cs {k:=4,rs:=[1],cs:=Qad Qcy ys}),ltq i (↑s.stock.length:Int)=false]):=by kernel_rfl
theorem Qyc (B:Lo) (s:Qaa) (load days:Int) (t:QaJ):landM (Qah YP (Qau YP) J0 B 13 1 (Qae YP 84 52 (([.agg (QaE s load days).toArray,.agg (QeH t).toArray]).map (Qal 0 4))) H00 1
 [(6,Qaf.pure (Qf9 days t) []),(12,Qaf.pure (slT (List.length (Qay load t.goods 0)) (Qad Qax (Qay load t.goods 0))) []),(18,Qaf.old (Hint.mk s.stock.length (Qad (QbL [.int .i64 0,.int .i64 0,.int .i64 0,.slice none 0 0]) (List.replicate s.stock.length ()))))] 0 [] []) [2,3,5,6,7,25,26] [(1,KS.auto),(2,KS.auto),(5,KS.rows [] [] (Qad (QaG 1 Qcy) (List.replicate s.stock.length {stock:=0,use:=0,br:=0,ships:=[]})))] []=some ⟨84,52,Qg9,[],.run,none,Qha s load days t (0) (List.replicate s.stock.length {stock:=0,use:=0,br:=0,ships:=[]}),Qe4 s load days t (0) (List.replicate s.stock.length {stock:=0,use:=0,br:=0,ships:=[]}),
 [Qbu 1 [] [] (Qad (QbL [.int .i64 0,.int .i64 0,.int .i64 0,.slice none 0 0]) (List.replicate s.stock.length ())) (Qad (QaG 1 Qcy) (List.replicate s.stock.length {stock:=0,use:=0,br:=0,ships:=[]})),Qgh YP 119 (QbV {len:=16000,tr:=Tri.set 14 Tri.lf 22 (.int .i64 (↑s.stock.length:Int))} 22) (QbV {len:=16000,tr:=Tri.set 14 Tri.lf 22 (.int .i64 (↑s.stock.length:Int))} 22)=some (129,Qad (QbL [.int .i64 0,.int .i64 0,.int .i64 0,.slice none 0 0]) (List.replicate s.stock.length ()),List.length s.stock,TypeInfo.size Tryz.t129),Qas []/\Qai YP J0 121 #[.int .i64 load,slT t.goods.length (Qad Qax t.goods)] (slT (List.length (Qay load t.goods 0)) (Qad Qax (Qay load t.goods 0))),Qas []/\Qai YP J0 120 #[.agg #[slT s.stock.length (Qad Qav s.stock),slT s.use.length (Qad Qaz s.use),.int .i64 s.glo,.int .i64 s.ghi,slT s.lots.length (Qad Qam s.lots),.int .i64 s.hold,.int .i64 load,.int .i64 days],slT t.gaps.length (Qad Qav t.gaps)] (Qf9 days t)]⟩:=by kernel_rfl
set_option maxHeartbeats 4000000 in
theorem QxN (s:Qaa) (load days:Int) (t:QaJ) (hs:Qa7 s=true) (ht:Qft s days t=true) (hd:0<=days/\days<=300) (h0:0<=load) (h1:load < 64) (hx:Qc5 load<=s.lots.length) {B:Lo} (hJ:∀w,B.has w->J0 w) {c0:CF}:∀m:Nat,(∀(i:Int) (ys:List Gd),s.stock.length - i.toNat=m->∀(i0:0<=i) (hy:ys=Qpa s load days t i),Qzp B c0 s load days t i ys->EndsT YP B c0 (slG (Qci s load days t))):=by
 intro m0;induction m0 using Nat.strongRecOn with
 | _ m0 ih0=>
   intro i ys hm0 i0 hy ⟨dJ0,hdJ0,hg0⟩;have ht':=ht;simp only [Qft,QtK,YB,decide_eq_true_iff,List.all_eq_true,Qa4] at ht';have hgp:=Qbt hs;have hst:=QaV hs;have hrows:=Qhw hs ht'.2.2;have hus:=(Qc1 ht'.1).1;have hgg:∀x∈t.gaps,0<=x/\x<=60:=fun x h=> by have:=ht'.2.1.2.1 x h;omega
   have hgl:t.gaps.length<=300:=ht'.2.1.1;have hpx:Qc5 load<=t.goods.length:=by omega
   have hpl:=QiN (s:=load) (n:=0) (xs:=t.goods) (Int.le_refl _);have hl6:=Qf3 h0 h1;have hyl:ys.length=s.stock.length:=by rw [hy];exact QlJ
   by_cases q0:(i:Int) < ((↑s.stock.length:Int))
   ·have rj0:FJ YP B (QfT s load days t i ys dJ0) (Qdq s load days t i ys dJ0) 6 (OO.ret (Qat 6 (slT (List.length (List.map (fun r=> r.getD i.toNat default) (Qay load t.goods 0))) (Qad Qav (List.map (fun r=> r.getD i.toNat default) (Qay load t.goods 0)))))) (([]++((6,Qbc)::QaA (6+1) []))++Qdq s load days t i ys dJ0) 7 (List.range 6) []:=by
     have hri:∀r∈Qay load t.goods 0,i < r.length:=fun r h=> by have:=(hrows.2 r (Qdi (Int.le_refl _) hpx r h)).1;omega
     have hrx:∀x∈(Qay load t.goods 0).map (fun r=> r.getD i.toNat default),-1000000000<=x/\x<=1000000000:=fun x h=> by obtain ⟨r,hr,rfl⟩:=List.mem_map.1 h;obtain ⟨a,b⟩:=hrows.2 r (Qdi (Int.le_refl _) hpx r hr);have:=b _ (Qa6 (l:=r) i0 (by omega));omega
     have hrl:((Qay load t.goods 0).map (fun r=> r.getD i.toNat default)).length<=1000:=by rw [List.length_map];omega
     exact FinK.fjB ((Qqy s load days t i ys dJ0 hs ht hd h0 h1 hx i0 hy hdJ0 q0 hJ _) (0) (List.replicate (List.length (Qay load t.goods 0)) 0) rfl (by omega) (by exact Qgj)
      (GoE.landA okF hJ Qab (Qaj (by kernel_rfl)) (Qag (by kernel_rfl)) ((GoE.refl (P:=YP) (B:=B) (c0:=QfT s load days t i ys dJ0) (Qaj (by kernel_rfl))).widen (Wf:=((([]):List (Nat×KS)).map (·.1))) (by simp) (Qag (by kernel_rfl))) (Q1T B s load days t i ys dJ0)
      ⟨(by exact (QbQ (by exact ⟨(.simple rfl),trivial⟩) _)),⟨(Qgs (bytes:=8) (by kernel_rfl) (by omega) (by omega) (by omega)),trivial⟩⟩ (by kernel_rfl) (by kernel_rfl) (fun l hl=> by cases hl <;> decide))) (ex:=[4]) (by kernel_rfl) ⟨trivial,⟨trivial,⟨trivial,⟨trivial,⟨trivial,⟨(QeU (t:=129) (fl:=(0,0)) (Qb1 (fun _=> rfl)) (by decide)),trivial⟩⟩⟩⟩⟩⟩
    have hri:∀r∈Qay load t.goods 0,i < r.length:=fun r h=> by have:=(hrows.2 r (Qdi (Int.le_refl _) hpx r h)).1;omega
    have hrx:∀x∈(Qay load t.goods 0).map (fun r=> r.getD i.toNat default),-1000000000<=x/\x<=1000000000:=fun x h=> by obtain ⟨r,hr,rfl⟩:=List.mem_map.1 h;obtain ⟨a,b⟩:=hrows.2 r (Qdi (Int.le_refl _) hpx r hr);have:=b _ (Qa6 (l:=r) i0 (by omega));omega
    have hrl:((Qay load t.goods 0).map (fun r=> r.getD i.toNat default)).length<=1000:=by rw [List.length_map];omega
    exact ((ih0 _ (by omega)) (i+1) (List.set ys i.toNat {stock:=s.stock.getD i.toNat default,use:=t.uses.getD i.toNat default,br:=QfW (List.map (fun r=> r.getD i.toNat default) (Qay load t.goods 0)),ships:=QcL days t.gaps}) rfl (by omega) (by (subst hy;exact Qz8 i0 q0))
     (hg0.landM okF hJ Qab (Q0e B s load days t i ys dJ0)
     (by exact ⟨(by exact (QhO (z:=4) (fun _=> rfl) (Qb9 (Qb1 (fun _=> rfl)) (List.Mem.head _)) (by omega) (by exact ⟨(.simple rfl),⟨(.simple rfl),⟨(.simple rfl),⟨(.reg (List.Mem.head _) rfl),trivial⟩⟩⟩⟩))),⟨(QaR (by omega) (by omega)),⟨⟨(by exact Q3c (z:=4) (fun _=> rfl) (by omega) rfl),rfl⟩,⟨⟨by omega,by omega⟩,⟨⟨trivial,Q8x (List.map (fun r=> r.getD i.toNat default) (Qay load t.goods 0)) (by with_reducible assumption) (by with_reducible assumption)⟩,⟨⟨by omega,by omega,(Qao (z:=1) (fun _=> rfl) (by omega))⟩,⟨⟨by omega,by omega,(Qao (z:=1) (fun _=> rfl) (by omega))⟩,⟨rj0,⟨(Qbq q0),trivial⟩⟩⟩⟩⟩⟩⟩⟩⟩) (by kernel_rfl) (by kernel_rfl))).cast (by rfl)
   ·have hrl:((Qay load t.goods 0).map (fun r=> r.getD i.toNat default)).length<=1000:=by rw [List.length_map];omega
    exact (GoE.endsT okF hJ Qab hg0 (QyK B s load days t i ys dJ0)
     ⟨(QeE (Qb1 (fun _=> rfl)) (List.Mem.head _)),⟨(Qbj (Int.not_lt.1 q0)),trivial⟩⟩).cast (by exact Qf7 (hy.trans (Q1V (by omega))) (by simp [Qci,Qcu]))
set_option maxHeartbeats 4000000 in
theorem Q2l (s:Qaa) (load days:Int) (t:QaJ) (hs:Qa7 s=true) (ht:Qft s days t=true) (hd:0<=days/\days<=300) (h0:0<=load) (h1:load < 64) (hx:Qc5 load<=s.lots.length) {B:Lo} (hJ:∀w,B.has w->J0 w):EndsT YP B (Qae YP 84 52 (([.agg (QaE s load days).toArray,.agg (QeH t).toArray]).map (Qal 0 4))) (slG (Qci s load days t)):=by
 have ht':=ht;simp only [Qft,QtK,YB,decide_eq_true_iff,List.all_eq_true,Qa4] at ht';have hgp:=Qbt hs;have hst:=QaV hs;have hrows:=Qhw hs ht'.2.2;have hus:=(Qc1 ht'.1).1;have hgg:∀x∈t.gaps,0<=x/\x<=60:=fun x h=> by have:=ht'.2.1.2.1 x h;omega
 have hgl:t.gaps.length<=300:=ht'.2.1.1;have hpx:Qc5 load<=t.goods.length:=by omega
 have hpl:=QiN (s:=load) (n:=0) (xs:=t.goods) (Int.le_refl _);have hl6:=Qf3 h0 h1;exact ((QxN s load days t hs ht hd h0 h1 hx hJ _) (0) (List.replicate s.stock.length {stock:=0,use:=0,br:=0,ships:=[]}) rfl (by omega) (by exact Q5v)
  (GoE.start.landM okF hJ Qab (Qyc B s load days t)
  (by exact ⟨(by exact (QbQ (by exact ⟨(.simple rfl),⟨(.simple rfl),⟨(.simple rfl),⟨.nil,trivial⟩⟩⟩⟩) _)),⟨(Qgs (bytes:=48) (by kernel_rfl) (by omega) (by omega) (by omega)),⟨⟨trivial,Q7q (load) t.goods (by with_reducible assumption) (by with_reducible assumption) (by with_reducible assumption)⟩,⟨⟨trivial,Q7v (s) (load) (days) t.gaps (by with_reducible assumption) (by with_reducible assumption) (by with_reducible assumption)⟩,trivial⟩⟩⟩⟩) (by kernel_rfl) (by kernel_rfl))).cast (by rfl)
theorem Q45 (s:Qaa) (load days:Int) (t:QaJ) (hs:Qa7 s=true) (ht:Qft s days t=true) (hd:0<=days/\days<=300) (h0:0<=load) (h1:load < 64) (hx:Qc5 load<=s.lots.length):Qai YP J0 84 #[.agg (QaE s load days).toArray,.agg (QeH t).toArray] (slG (Qci s load days t)):=
 Qa5 (ts:=[.agg (QaE s load days).toArray,.agg (QeH t).toArray]) Qbn (c0:=Qae YP 84 52 (([.agg (QaE s load days).toArray,.agg (QeH t).toArray]).map (Qal 0 4))) (by kernel_rfl) (by kernel_rfl) fun B hJ=> Q2l s load days t hs ht hd h0 h1 hx hJ
end
end Go.Proofs.YtiabgkiccaodmaaGreat

namespace Go.Proofs.YtiabgkiccaodmaaGreat
open Go Go.CE Go.RowKit
set_option maxRecDepth 100000
def QaL (g:Gd):Int:=Qbk g.use g.br g.ships 0 g.stock
theorem Qhs {s:Qaa} {load:List Int} (hs:Qa7 s=true) (h:Qcz s load=true):(∀x∈load,0<=x/\x<=61)/\0<=QaW load 0/\QaW load 0 < 64/\Qc5 (QaW load 0)<=s.lots.length:=by
 have hm:=Qbv hs;simp only [Qcz,YB] at h;have g1:=Qjv h.1 (Int.le_refl 0);have g3:=QjG (k:=s.lots.length) (by omega) load 0 g1 (Int.le_refl 0) (Int.pow_pos (by decide));refine ⟨fun x hx=> by have:=g1 x hx;omega,g3.1, ?_,QlY g3.1 g3.2⟩;refine Int.lt_of_lt_of_le g3.2 ?_;have h1:(2:Nat) ^ s.lots.length<=2 ^ 6:=Nat.pow_le_pow_right (by decide) (by omega);have e:(2:Int) ^ s.lots.length=((2 ^ s.lots.length:Nat):Int):=by rw [Int.natCast_pow];rfl
 rw [e];omega
def Qg3 (xs:List Gd) (i:Int) (ys:List Int):List Value:=[Value.func (Fn.func 125) #[] #[],.slice (some {block:=2,off:=0}) xs.length 1,Qat 1 (slT xs.length (Qad Qcy xs)),.int .i64 (↑xs.length:Int),.int .i64 i]
def Qe9 (xs:List Gd) (i:Int) (ys:List Int):List Obj:=[.cells (Qad Qav ys) 3 (0,0)]
noncomputable def Qhg:List Item:=([.code [1,1,0,1,0,0],.inLoop [1,1,0,1,0,0],.inBlock 0,.code [1,1,1]]).map (it (Qaq YP 86))
def Q1a (B:Lo) (c0:CF) (xs:List Gd) (i:Int) (ys:List Int):Prop:=∃dJ:Nat->Value,(∀t,Qbg (dJ t))/\GoE YP B c0 H00 1 (Qa3 86 26 (([1,5,11,12,13]:List Nat).zip (Qg3 xs i ys)) dJ Qhg) (Qa1 (Qe9 xs i ys)) (2+(Qe9 xs i ys).length) []
noncomputable def Qnq (xs:List Gd) (i:Int):Array Value:=#[.int .i64 (Gd.stock (xs.getD i.toNat default)),.int .i64 (Gd.use (xs.getD i.toNat default)),.int .i64 (Gd.br (xs.getD i.toNat default)),slT (List.length (Gd.ships (xs.getD i.toNat default))) (Qad Qgw (Gd.ships (xs.getD i.toNat default)))]
theorem Q0Q (B:Lo) (xs:List Gd) (i:Int) (ys:List Int) (dJ0:Nat->Value):landM (Qah YP (Qau YP) J0 B 13 1 (Qa3 86 26 (([1,5,11,12,13]:List Nat).zip (Qg3 xs i ys)) dJ0 Qhg) (Qa1 (Qe9 xs i ys)) (2+(Qe9 xs i ys).length)
 [(0,hvT),(2,Qaf.tidx i.toNat (Qnq xs i)),(11,Qaf.pure (.int .i64 (Qbk (Gd.use (xs.getD i.toNat default)) (Gd.br (xs.getD i.toNat default)) (Gd.ships (xs.getD i.toNat default)) 0 (Gd.stock (xs.getD i.toNat default)))) []),(12,Qaf.old (Hint.idx i.toNat)),(13,Qaf.old (Hint.st (Qad Qav (List.set ys i.toNat (Qbk (Gd.use (xs.getD i.toNat default)) (Gd.br (xs.getD i.toNat default)) (Gd.ships (xs.getD i.toNat default)) 0 (Gd.stock (xs.getD i.toNat default))))))),(14,hvI (i+1))] 0 [] []) [1,5,11,12,13] [(2,KS.cells [] (Qad Qav (List.set ys i.toNat (Qbk (Gd.use (xs.getD i.toNat default)) (Gd.br (xs.getD i.toNat default)) (Gd.ships (xs.getD i.toNat default)) 0 (Gd.stock (xs.getD i.toNat default))))))] []=some ⟨86,26,Qhg,[],.run,none,Qg3 xs (i+1) (List.set ys i.toNat (Qbk (Gd.use (xs.getD i.toNat default)) (Gd.br (xs.getD i.toNat default)) (Gd.ships (xs.getD i.toNat default)) 0 (Gd.stock (xs.getD i.toNat default)))),Qe9 xs (i+1) (List.set ys i.toNat (Qbk (Gd.use (xs.getD i.toNat default)) (Gd.br (xs.getD i.toNat default)) (Gd.ships (xs.getD i.toNat default)) 0 (Gd.stock (xs.getD i.toNat default)))),
 [Qdd 1 [] (Qad Qav (List.set ys i.toNat (Qbk (Gd.use (xs.getD i.toNat default)) (Gd.br (xs.getD i.toNat default)) (Gd.ships (xs.getD i.toNat default)) 0 (Gd.stock (xs.getD i.toNat default))))) (Qad Qav (List.set ys i.toNat (Qbk (Gd.use (xs.getD i.toNat default)) (Gd.br (xs.getD i.toNat default)) (Gd.ships (xs.getD i.toNat default)) 0 (Gd.stock (xs.getD i.toNat default))))),wq (i+1)=i+1,0+Int.toNat i * 1+TypeInfo.size Tryz.t3<=Array.size (Qad Qav ys)/\splice (Qad Qav ys) (0+Int.toNat i * 1) (Value.cells (QbV {len:=16000,tr:=Tri.set 14 (Tri.set 14 Tri.lf 22 (.int .i64 (Qbk (Gd.use (xs.getD i.toNat default)) (Gd.br (xs.getD i.toNat default)) (Gd.ships (xs.getD i.toNat default)) 0 (Gd.stock (xs.getD i.toNat default))))) 23 (.pointer (some {block:=2,off:=0+Int.toNat i * 1}))} 22))=Qad Qav (List.set ys i.toNat (Qbk (Gd.use (xs.getD i.toNat default)) (Gd.br (xs.getD i.toNat default)) (Gd.ships (xs.getD i.toNat default)) 0 (Gd.stock (xs.getD i.toNat default)))),i=(↑i.toNat:Int)/\Int.toNat i < List.length xs,Qas []/\Qai YP J0 125 #[.agg (Qnq xs i)] (.int .i64 (Qbk (Gd.use (xs.getD i.toNat default)) (Gd.br (xs.getD i.toNat default)) (Gd.ships (xs.getD i.toNat default)) 0 (Gd.stock (xs.getD i.toNat default)))),i=(↑i.toNat:Int)/\Int.toNat i < List.length xs/\Array.extract (Qad Qcy xs) (Int.toNat i * TypeInfo.size Tryz.t129) (Int.toNat i * TypeInfo.size Tryz.t129+TypeInfo.size Tryz.t129)=(Qnq xs i),ltq i (↑xs.length:Int)=true]⟩:=by kernel_rfl
theorem Q0c (B:Lo) (xs:List Gd) (i:Int) (ys:List Int) (dJ0:Nat->Value):QaF (Qah YP (Qau YP) J0 B 9 1 (Qa3 86 26 (([1,5,11,12,13]:List Nat).zip (Qg3 xs i ys)) dJ0 Qhg) (Qa1 (Qe9 xs i ys)) (2+(Qe9 xs i ys).length)
 [(0,hvF)] 0 [] []) [{k:=2,rs:=[],cs:=Qad Qav ys}]=some (slT xs.length (Fz.cs {k:=2,rs:=[],cs:=Qad Qav ys}),
 [Qbl (Fz.rs {k:=2,rs:=[],cs:=Qad Qav ys}) (Qad Qav ys) (Fz.cs {k:=2,rs:=[],cs:=Qad Qav ys}),ltq i (↑xs.length:Int)=false]):=by kernel_rfl
theorem Qzn (B:Lo) (xs:List Gd):landM (Qah YP (Qau YP) J0 B 9 1 (Qae YP 86 26 (([slG xs,.func (.func 125) #[] #[]]).map (Qal 0 4))) H00 1
 [(3,Qaf.old (Hint.mk xs.length (Qad (QbL [.int .i64 0]) (List.replicate xs.length ()))))] 0 [] []) [1,5,11,12,13] [(1,KS.rows [] [] (Qad Qav (List.replicate xs.length 0)))] []=some ⟨86,26,Qhg,[],.run,none,Qg3 xs (0) (List.replicate xs.length 0),Qe9 xs (0) (List.replicate xs.length 0),
 [Qbu 1 [] [] (Qad (QbL [.int .i64 0]) (List.replicate xs.length ())) (Qad Qav (List.replicate xs.length 0)),Qgh YP 22 (QbV {len:=16000,tr:=Tri.set 14 Tri.lf 9 (.int .i64 (↑xs.length:Int))} 9) (QbV {len:=16000,tr:=Tri.set 14 Tri.lf 9 (.int .i64 (↑xs.length:Int))} 9)=some (3,Qad (QbL [.int .i64 0]) (List.replicate xs.length ()),List.length xs,TypeInfo.size Tryz.t3)]⟩:=by kernel_rfl
set_option maxHeartbeats 4000000 in
theorem Q0o (xs:List Gd) (hn:xs.length<=1000000) (hg:∀g∈xs,gdB g) {B:Lo} (hJ:∀w,B.has w->J0 w) {c0:CF}:∀m:Nat,(∀(i:Int) (ys:List Int),(xs.length - i.toNat)=m->∀(h0:0<=i) (hy:ys=Qgx QaL 0 xs i),Q1a B c0 xs i ys->EndsT YP B c0 (slI (xs.map QaL))):=by
 intro m0;induction m0 using Nat.strongRecOn with
 | _ m0 ih0=>
   intro i ys hm0 h0 hy ⟨dJ0,hdJ0,hg0⟩;have hyl:ys.length=xs.length:=by rw [hy];exact QdQ
   by_cases q0:(i:Int) < ((↑xs.length:Int))
   ·have hgi:=hg _ (Qa6 h0 q0);exact ((ih0 _ (by omega)) (i+1) (List.set ys i.toNat (Qbk (Gd.use (xs.getD i.toNat default)) (Gd.br (xs.getD i.toNat default)) (Gd.ships (xs.getD i.toNat default)) 0 (Gd.stock (xs.getD i.toNat default)))) rfl (by omega) (by (subst hy;exact QdM (f:=QaL) h0 q0))
     (hg0.landM okF hJ Qab (Q0Q B xs i ys dJ0)
     ⟨(QaO (QaT (fun x=> List.all_eq_true.1 (by rfl)))),⟨(QaR (by omega) (by omega)),⟨(by exact Qfr (z:=1) (fun _=> rfl) (by omega) rfl rfl),⟨⟨by omega,by omega⟩,⟨⟨trivial,Qye (xs.getD i.toNat default) (by with_reducible assumption)⟩,⟨⟨by omega,by omega,(Qao (z:=4) (fun _=> rfl) (by omega))⟩,⟨(Qbq q0),trivial⟩⟩⟩⟩⟩⟩⟩ (by kernel_rfl) (by kernel_rfl))).cast (by rfl)
   ·exact (GoE.endsT okF hJ Qab hg0 (Q0c B xs i ys dJ0)
     ⟨(QaC (fun x=> List.all_eq_true.1 (by rfl))),⟨(Qbj (Int.not_lt.1 q0)),trivial⟩⟩).cast (by exact Qf7 (hy.trans (QdS (by omega))) (by simp))
set_option maxHeartbeats 4000000 in
theorem Q2u (xs:List Gd) (hn:xs.length<=1000000) (hg:∀g∈xs,gdB g) {B:Lo} (hJ:∀w,B.has w->J0 w):EndsT YP B (Qae YP 86 26 (([slG xs,.func (.func 125) #[] #[]]).map (Qal 0 4))) (slI (xs.map QaL)):=by
 exact ((Q0o xs hn hg hJ _) (0) (List.replicate xs.length 0) rfl (by omega) (by exact Qgj)
  (GoE.start.landM okF hJ Qab (Qzn B xs)
  ⟨(by exact (QbQ (by exact ⟨(.simple rfl),trivial⟩) _)),⟨(Qgs (bytes:=8) (by kernel_rfl) (by omega) (by omega) (by omega)),trivial⟩⟩ (by kernel_rfl) (by kernel_rfl))).cast (by rfl)
theorem Q6G (xs:List Gd) (hn:xs.length<=1000000) (hg:∀g∈xs,gdB g):Qai YP J0 86 #[slG xs,.func (.func 125) #[] #[]] (slI (xs.map QaL)):=
 Qa5 (ts:=[slG xs,.func (.func 125) #[] #[]]) Qbn (c0:=Qae YP 86 26 (([slG xs,.func (.func 125) #[] #[]]).map (Qal 0 4))) (by kernel_rfl) (by kernel_rfl) fun B hJ=> Q2u xs hn hg hJ
theorem Qps (B:Lo) (xs:List Gd):QaF (Qah YP (Qau YP) J0 B 6 1 (Qae YP 85 5 (([slG xs]).map (Qal 0 4))) H00 1
 [(2,Qaf.pure (slT (List.length (List.map QaL xs)) (Qad Qav (List.map QaL xs))) [])] 0 [] []) []=some (slT (List.length (List.map QaL xs)) (Qad Qav (List.map QaL xs)),
 [Qas []/\Qai YP J0 86 #[slT xs.length (Qad Qcy xs),Value.func (Fn.func 125) #[] #[]] (slT (List.length (List.map QaL xs)) (Qad Qav (List.map QaL xs)))]):=by kernel_rfl
set_option maxHeartbeats 4000000 in
theorem Qs2 (xs:List Gd) (hn:xs.length<=1000000) (hg:∀g∈xs,gdB g) {B:Lo} (hJ:∀w,B.has w->J0 w):EndsT YP B (Qae YP 85 5 (([slG xs]).map (Qal 0 4))) (slI (xs.map QaL)):=by
 exact (GoE.endsT okF hJ Qab GoE.start (Qps B xs)
  ⟨⟨trivial,Q6G (xs) (by with_reducible assumption) (by with_reducible assumption)⟩,trivial⟩).cast (by rfl)
theorem Qoo (xs:List Gd) (hn:xs.length<=1000000) (hg:∀g∈xs,gdB g):Qai YP J0 85 #[slG xs] (slI (xs.map QaL)):=
 Qa5 (ts:=[slG xs]) Qbn (c0:=Qae YP 85 5 (([slG xs]).map (Qal 0 4))) (by kernel_rfl) (by kernel_rfl) fun B hJ=> Qs2 xs hn hg hJ
end Go.Proofs.YtiabgkiccaodmaaGreat

