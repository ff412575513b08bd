/- Loads as defined. -/
import Derived.Test.YtiabgkiccaodmaaGreatZTN11
set_option linter.all false
namespace Go.Proofs.YtiabgkiccaodmaaGreat
open Go Go.CE Go.RowKit
noncomputable section
set_option maxRecDepth 100000
def QdS (things:Int):List Int->Int->Bool
 | [],_=> true
 | n::l,least=> inB n least (things - 1) && QdS things l (n+1)
def Qel:List Int->Int
 | []=> 0
 | x::l=> x+Qel l
theorem Qc7 {things least i:Int} {l:List Int} (h0:0<=i) (h:i < l.length):QdS things (l.drop i.toNat) least=(inB (l.getD i.toNat default) least (things - 1) && QdS things (l.drop (i+1).toNat) (l.getD i.toNat default+1)):=by
 obtain ⟨k,rfl⟩:∃k:Nat,i=k:=⟨i.toNat,by omega⟩
 have hk:k < l.length:=by omega
 have e1:((k:Int)).toNat=k:=by omega
 have e2:((k:Int)+1).toNat=k+1:=by omega
 rw [e1,e2,List.drop_eq_getElem_cons hk]
 simp [QdS,List.getD_eq_getElem?_getD,hk]
theorem QlG {things least i:Int} {l:List Int} (h:l.length<=i):QdS things (l.drop i.toNat) least=true:=by
 rw [List.drop_eq_nil_of_le (by omega)];rfl
theorem Qib {i:Int} {l:List Int} (h0:0<=i) (h:i < l.length):Qel (l.drop i.toNat)=l.getD i.toNat default+Qel (l.drop (i+1).toNat):=by
 obtain ⟨k,rfl⟩:∃k:Nat,i=k:=⟨i.toNat,by omega⟩
 have hk:k < l.length:=by omega
 have e1:((k:Int)).toNat=k:=by omega
 have e2:((k:Int)+1).toNat=k+1:=by omega
 rw [e1,e2,List.drop_eq_getElem_cons hk]
 simp [Qel,List.getD_eq_getElem?_getD,hk]
theorem QnD {i:Int} {l:List Int} (h:l.length<=i):Qel (l.drop i.toNat)=0:=by
 rw [List.drop_eq_nil_of_le (by omega)];rfl
theorem QaJ {α:Type} [Inhabited α] {l:List α} {i:Int} (h0:0<=i) (h:i < l.length):l.getD i.toNat default∈l:=by
 have hk:i.toNat < l.length:=by omega
 rw [List.getD_eq_getElem?_getD,List.getElem?_eq_getElem hk];exact List.getElem_mem hk
theorem QiW {things:Int}:∀{l:List Int} {least:Int},QdS things l least=true->0<=least->∀x∈l,0<=x/\x < things
 | [],_,_,_,x,hx=> by simp at hx
 | n::l,least,h,h0,x,hx=> by
   simp only [QdS,Bool.and_eq_true,QaP] at h
   rcases List.mem_cons.1 hx with rfl | hx
   ·omega
   ·exact QiW h.2 (by omega) x hx
theorem Qjf {k:Nat} (hk:k<=61):∀(l:List Int) (s:Int),(∀x∈l,0<=x/\x < k)->0<=s->s < 2 ^ k->0<=QaF l s/\QaF l s < 2 ^ k
 | [],s,_,h0,h1=> ⟨h0,h1⟩
 | n::l,s,h,h0,h1=> by
   have hn:=h n (by simp)
   exact Qjf hk l (Qo4 s n) (fun x hx=> h x (by simp [hx])) (Int.natCast_nonneg _) (Qy0 h0 h1 (by omega))
theorem QlO {s:Int} {k:Nat} (h0:0<=s) (h1:s < 2 ^ k):Qcs s<=k:=by
 unfold Qcs
 by_cases hs:s=0
 ·rw [if_pos hs];omega
 ·rw [if_neg hs]
  obtain ⟨b,rfl⟩:∃b:Nat,s=b:=⟨s.toNat,by omega⟩
  have hb:b≠0:=by omega
  have h2:b < 2 ^ k:=by
   have e:(2:Int) ^ k=((2 ^ k:Nat):Int):=by rw [Int.natCast_pow];rfl
   rw [e] at h1;exact_mod_cast h1
  have:=(Nat.log2_lt hb).2 h2
  rw [Int.toNat_natCast];omega
theorem QcY {α:Type} [Inhabited α] {s n:Int} {xs:List α} (hn:0<=n) (hx:Qcs s<=xs.length):∀x∈Qav s xs n,x∈xs:=by
 intro x h
 unfold Qav at h
 obtain ⟨k,hk,rfl⟩:=List.mem_map.1 h
 have hk:=(List.mem_filter.1 hk).1
 unfold upI at hk
 obtain ⟨j,hj,rfl⟩:=List.mem_map.1 hk
 have:=List.mem_range.1 hj
 exact QaJ (by omega) (by omega)
theorem Qix {α:Type} [Inhabited α] {s n:Int} {xs:List α} (hn:0<=n):((Qav s xs n).length:Int)<=max 0 (Qcs s - n):=by
 unfold Qav
 rw [List.length_map]
 have:=List.length_filter_le (QjP s) (upI n (Qcs s))
 have e:(upI n (Qcs s)).length=(Qcs s - n).toNat:=by simp [upI]
 omega
theorem QaL {s:Qaa} (h:Qa0 s=true):s.lots.length<=6/\∀l∈s.lots,QmE s.stock.length l=true:=by
 simp only [Qa0,QpZ,Bool.and_eq_true,decide_eq_true_iff,List.all_eq_true] at h
 exact ⟨h.2.2.2.2.2.1.1,h.2.2.2.2.2.1.2⟩
theorem Qc1 {k:Nat} {l:Qag} (h:QmE k l=true):l.goods.length=k/\(∀g∈l.goods,0<=g.lo/\g.lo<=g.hi/\g.hi<=100000)/\0<=l.weight/\l.weight<=100000/\0<=l.cost/\l.cost<=1000000:=by
 simp only [QmE,QcE,Qb6,Bool.and_eq_true,decide_eq_true_iff,List.all_eq_true,QaP] at h
 exact ⟨h.1,h.2.1,h.2.2.1.1,h.2.2.1.2,h.2.2.2.1,h.2.2.2.2⟩
def Qru (s:Qaa) (load:Int):Bool:=decide (Qel ((Qav load s.lots 0).map Qag.weight)<=s.hold)
def QcF (s:Qaa) (load:List Int):Bool:=QdS s.lots.length load 0 && Qru s (QaF load 0)
def Qc6 (xs:List Int) (things:Int) (least i:Int):List Value:=[.int .i64 things,.int .i64 least,Qay 1 (slT xs.length (Qac Qa1 xs)),.int .i64 (↑xs.length:Int),.int .i64 i]
def Qbm (xs:List Int) (things:Int) (least i:Int):List Obj:=[]
def Qc9:List Item:=([.code [1,1,0,1,0,0],.inLoop [1,1,0,1,0,0],.inBlock 0,.code [1,1,1]]).map (it (Qan Tryz.prog 115))
def Qm0 (B:Lo) (c0:CF) (xs:List Int) (things:Int) (least i:Int):Prop:=∃dJ:Nat->Value,(∀t,Qbb (dJ t))/\GoE Tryz.prog B c0 H00 1 (Qa4 115 23 (([1,5,8,9,10]:List Nat).zip (Qc6 xs things least i)) dJ Qc9) (Qa3 (Qbm xs things least i)) (2+(Qbm xs things least i).length) []
def Qfm (B:Lo) (xs:List Int) (things:Int) (least i:Int) (dJ0:Nat->Value):List Prop:=[wq (things - 1)=things - 1,i=(↑i.toNat:Int)/\Int.toNat i < List.length xs/\Array.extract (Qac Qa1 xs) (Int.toNat i * TypeInfo.size Tryz.t3) (Int.toNat i * TypeInfo.size Tryz.t3+TypeInfo.size Tryz.t3)=#[.int .i64 (xs.getD i.toNat default)],ltq i (↑xs.length:Int)=true]++([]:List Prop)
def Qhh (xs:List Int) (things:Int) (least i:Int) (dJ0:Nat->Value):Qap:=[(0,hvT),(1,Qai.tidx i.toNat #[.int .i64 (xs.getD i.toNat default)]),(7,hvI (things - 1))]
theorem Qmx (B:Lo) (xs:List Int) (things:Int) (least i:Int) (dJ0:Nat->Value):landM (Qak Tryz.prog (Qaw Tryz.prog) J0 B 18 1 (Qa4 115 23 (([1,5,8,9,10]:List Nat).zip (Qc6 xs things least i)) dJ0 Qc9) (Qa3 (Qbm xs things least i)) (2+(Qbm xs things least i).length)
 (Qhh xs things least i dJ0++[(8,Qai.pure (.bool true) []),(11,hvI (xs.getD i.toNat default+1)),(13,hvI (i+1))]) 0 [] []) [1,5,8,9,10] [] []=some ⟨115,23,Qc9,[],.run,none,Qc6 xs things (xs.getD i.toNat default+1) (i+1),Qbm xs things (xs.getD i.toNat default+1) (i+1),
 [wq (i+1)=i+1,wq (xs.getD i.toNat default+1)=xs.getD i.toNat default+1,Qaz []/\Qao Tryz.prog J0 76 #[.int .i64 (xs.getD i.toNat default),.int .i64 least,.int .i64 (things - 1)] (.bool true)]++Qfm B xs things least i dJ0⟩:=by kernel_rfl
theorem Qm4 (B:Lo) (xs:List Int) (things:Int) (least i:Int) (dJ0:Nat->Value):QaK (Qak Tryz.prog (Qaw Tryz.prog) J0 B 17 1 (Qa4 115 23 (([1,5,8,9,10]:List Nat).zip (Qc6 xs things least i)) dJ0 Qc9) (Qa3 (Qbm xs things least i)) (2+(Qbm xs things least i).length)
 (Qhh xs things least i dJ0++[(8,Qai.pure (.bool false) [])]) 0 [] []) []=some (.bool false,
 [Qaz []/\Qao Tryz.prog J0 76 #[.int .i64 (xs.getD i.toNat default),.int .i64 least,.int .i64 (things - 1)] (.bool false)]++Qfm B xs things least i dJ0):=by kernel_rfl
theorem Qmw (B:Lo) (xs:List Int) (things:Int) (least i:Int) (dJ0:Nat->Value):QaK (Qak Tryz.prog (Qaw Tryz.prog) J0 B 9 1 (Qa4 115 23 (([1,5,8,9,10]:List Nat).zip (Qc6 xs things least i)) dJ0 Qc9) (Qa3 (Qbm xs things least i)) (2+(Qbm xs things least i).length)
 [(0,hvF)] 0 [] []) []=some (.bool true,
 [ltq i (↑xs.length:Int)=false]):=by kernel_rfl
theorem Qm6 (B:Lo) (xs:List Int) (things:Int):landM (Qak Tryz.prog (Qaw Tryz.prog) J0 B 9 1 (Qae Tryz.prog 115 23 (([slI xs,.int .i64 things]).map (Qam 0 4))) H00 1
 [] 0 [] []) [1,5,8,9,10] [] []=some ⟨115,23,Qc9,[],.run,none,Qc6 xs things (0) (0),Qbm xs things (0) (0),
 []⟩:=by kernel_rfl
set_option maxHeartbeats 4000000 in
theorem Qmy (xs:List Int) (things:Int) (ht0:0<=things/\things<=1000000) (hfacts:xs.length<=9223372036854775807) {B:Lo} (hJ:∀w,B.has w->J0 w) {c0:CF}:∀m:Nat,(∀(least i:Int),xs.length - i.toNat=m->∀(h0:0<=i) (h1:0<=least/\least<=1000000),Qm0 B c0 xs things least i->EndsT Tryz.prog B c0 (.bool (QdS things (xs.drop i.toNat) least))):=by
 intro m0
 induction m0 using Nat.strongRecOn with
 | _ m0 ih0=>
   intro least i hm0 h0 h1 ⟨dJ0,hdJ0,hg0⟩
   by_cases q0:(i:Int) < ((↑xs.length:Int))
   ·
    have hp0:Qaz (Qfm B xs things least i dJ0):=by
     have s2:=Qc7 (things:=things) (least:=least) (l:=xs) h0 q0
     exact ⟨(QaV (by omega) (by omega)),⟨⟨by omega,by omega,(Qaj (z:=1) (fun _=> rfl) (by omega))⟩,⟨(Qbn q0),trivial⟩⟩⟩
    cases q1:inB (xs.getD i.toNat default) least (things - 1) with
    | true=>
      have s2:=Qc7 (things:=things) (least:=least) (l:=xs) h0 q0
      have g1:=QaP.1 ‹inB _ least _=true›
      exact ((ih0 _ (by omega)) (xs.getD i.toNat default+1) (i+1) rfl (by omega) (by omega)
       (hg0.landM okF hJ Qab (Qmx B xs things least i dJ0)
       ⟨(QaV (by omega) (by omega)),⟨(QaV (by omega) (by omega)),⟨⟨trivial,(by have t_:=pIn (xs.getD i.toNat default) (least) (things - 1);rw [q1] at t_;exact t_)⟩,hp0⟩⟩⟩ (by kernel_rfl) (by kernel_rfl))).cast (by (rw [s2];simp_all;done))
    | false=>
      have s2:=Qc7 (things:=things) (least:=least) (l:=xs) h0 q0
      exact (GoE.endsT okF hJ Qab hg0 (Qm4 B xs things least i dJ0)
       ⟨⟨trivial,(by have t_:=pIn (xs.getD i.toNat default) (least) (things - 1);rw [q1] at t_;exact t_)⟩,hp0⟩).cast (by (rw [s2];simp_all;done))
   ·
    have s2:=QlG (things:=things) (least:=least) (l:=xs) (i:=i) (by omega)
    exact (GoE.endsT okF hJ Qab hg0 (Qmw B xs things least i dJ0)
     ⟨(Qbk (Int.not_lt.1 q0)),trivial⟩).cast (by (rw [s2];done))
set_option maxHeartbeats 4000000 in
theorem QnQ (xs:List Int) (things:Int) (ht0:0<=things/\things<=1000000) (hfacts:xs.length<=9223372036854775807) {B:Lo} (hJ:∀w,B.has w->J0 w):EndsT Tryz.prog B (Qae Tryz.prog 115 23 (([slI xs,.int .i64 things]).map (Qam 0 4))) (.bool (QdS things xs 0)):=by
 exact ((Qmy xs things ht0 hfacts hJ _) (0) (0) rfl (by omega) (by omega)
  (GoE.start.landM okF hJ Qab (Qm6 B xs things)
  trivial (by kernel_rfl) (by kernel_rfl))).cast (by rfl)
theorem Qkc (xs:List Int) (things:Int) (ht0:0<=things/\things<=1000000):Qao Tryz.prog J0 115 #[slI xs,.int .i64 things] (.bool (QdS things xs 0)):=
 QbW (ts:=[slI xs,.int .i64 things]) (xs.length<=9223372036854775807) (fun _ _ ht=> ht.ln (i:=0) rfl) Qbr (c0:=Qae Tryz.prog 115 23 (([slI xs,.int .i64 things]).map (Qam 0 4))) (by kernel_rfl) (by kernel_rfl) fun hfacts B hJ=> QnQ xs things ht0 hfacts hJ
def QkW (xs:List Int) (acc i:Int):List Value:=[.int .i64 acc,Qay 1 (slT xs.length (Qac Qa1 xs)),.int .i64 (↑xs.length:Int),.int .i64 i]
def Qgm (xs:List Int) (acc i:Int):List Obj:=[]
def Ql4:List Item:=([.code [1,1,0,1,0,0],.inLoop [1,1,0,1,0,0],.inBlock 0,.code [1,1,1]]).map (it (Qan Tryz.prog 124))
def Q2i (B:Lo) (c0:CF) (xs:List Int) (acc i:Int):Prop:=∃dJ:Nat->Value,(∀t,Qbb (dJ t))/\GoE Tryz.prog B c0 H00 1 (Qa4 124 17 (([3,6,7,8]:List Nat).zip (QkW xs acc i)) dJ Ql4) (Qa3 (Qgm xs acc i)) (2+(Qgm xs acc i).length) []
theorem Q3f (B:Lo) (xs:List Int) (acc i:Int) (dJ0:Nat->Value):landM (Qak Tryz.prog (Qaw Tryz.prog) J0 B 13 1 (Qa4 124 17 (([3,6,7,8]:List Nat).zip (QkW xs acc i)) dJ0 Ql4) (Qa3 (Qgm xs acc i)) (2+(Qgm xs acc i).length)
 [(0,hvT),(1,Qai.tidx i.toNat #[.int .i64 (xs.getD i.toNat default)]),(6,hvI (acc+xs.getD i.toNat default)),(8,hvI (i+1))] 0 [] []) [3,6,7,8] [] []=some ⟨124,17,Ql4,[],.run,none,QkW xs (acc+xs.getD i.toNat default) (i+1),Qgm xs (acc+xs.getD i.toNat default) (i+1),
 [wq (i+1)=i+1,wq (acc+xs.getD i.toNat default)=acc+xs.getD i.toNat default,i=(↑i.toNat:Int)/\Int.toNat i < List.length xs/\Array.extract (Qac Qa1 xs) (Int.toNat i * TypeInfo.size Tryz.t3) (Int.toNat i * TypeInfo.size Tryz.t3+TypeInfo.size Tryz.t3)=#[.int .i64 (xs.getD i.toNat default)],ltq i (↑xs.length:Int)=true]⟩:=by kernel_rfl
theorem Q2Y (B:Lo) (xs:List Int) (acc i:Int) (dJ0:Nat->Value):QaK (Qak Tryz.prog (Qaw Tryz.prog) J0 B 9 1 (Qa4 124 17 (([3,6,7,8]:List Nat).zip (QkW xs acc i)) dJ0 Ql4) (Qa3 (Qgm xs acc i)) (2+(Qgm xs acc i).length)
 [(0,hvF)] 0 [] []) []=some (.int .i64 acc,
 [ltq i (↑xs.length:Int)=false]):=by kernel_rfl
theorem Q1W (B:Lo) (xs:List Int):landM (Qak Tryz.prog (Qaw Tryz.prog) J0 B 9 1 (Qae Tryz.prog 124 17 (([slI xs]).map (Qam 0 4))) H00 1
 [] 0 [] []) [3,6,7,8] [] []=some ⟨124,17,Ql4,[],.run,none,QkW xs (0) (0),Qgm xs (0) (0),
 []⟩:=by kernel_rfl
set_option maxHeartbeats 4000000 in
theorem Q1X (xs:List Int) (hx:∀x∈xs,-1000000000<=x/\x<=1000000000) (hl:xs.length<=1000) {B:Lo} (hJ:∀w,B.has w->J0 w) {c0:CF}:∀m:Nat,(∀(acc i:Int),xs.length - i.toNat=m->∀(h0:0<=i) (h1: -1000000000 * i<=acc/\acc<=1000000000 * i),Q2i B c0 xs acc i->EndsT Tryz.prog B c0 (.int .i64 (acc+Qel (xs.drop i.toNat)))):=by
 intro m0
 induction m0 using Nat.strongRecOn with
 | _ m0 ih0=>
   intro acc i hm0 h0 h1 ⟨dJ0,hdJ0,hg0⟩
   by_cases q0:(i:Int) < ((↑xs.length:Int))
   ·
    have s2:=Qib (l:=xs) h0 q0
    have g1:=hx _ (QaJ h0 q0)
    exact ((ih0 _ (by omega)) (acc+xs.getD i.toNat default) (i+1) rfl (by omega) (by omega)
     (hg0.landM okF hJ Qab (Q3f B xs acc i dJ0)
     ⟨(QaV (by omega) (by omega)),⟨(QaV (by omega) (by omega)),⟨⟨by omega,by omega,(Qaj (z:=1) (fun _=> rfl) (by omega))⟩,⟨(Qbn q0),trivial⟩⟩⟩⟩ (by kernel_rfl) (by kernel_rfl))).cast (by (rw [s2,Int.add_assoc];done))
   ·
    have s2:=QnD (l:=xs) (i:=i) (by omega)
    exact (GoE.endsT okF hJ Qab hg0 (Q2Y B xs acc i dJ0)
     ⟨(Qbk (Int.not_lt.1 q0)),trivial⟩).cast (by (rw [s2];simp;done))
set_option maxHeartbeats 4000000 in
theorem Q4g (xs:List Int) (hx:∀x∈xs,-1000000000<=x/\x<=1000000000) (hl:xs.length<=1000) {B:Lo} (hJ:∀w,B.has w->J0 w):EndsT Tryz.prog B (Qae Tryz.prog 124 17 (([slI xs]).map (Qam 0 4))) (.int .i64 (Qel xs)):=by
 exact ((Q1X xs hx hl hJ _) (0) (0) rfl (by omega) (by omega)
  (GoE.start.landM okF hJ Qab (Q1W B xs)
  trivial (by kernel_rfl) (by kernel_rfl))).cast (by (simp [*];done))
theorem Q5h (xs:List Int) (hx:∀x∈xs,-1000000000<=x/\x<=1000000000) (hl:xs.length<=1000):Qao Tryz.prog J0 124 #[slI xs] (.int .i64 (Qel xs)):=
 Qa8 (ts:=[slI xs]) Qbr (c0:=Qae Tryz.prog 124 17 (([slI xs]).map (Qam 0 4))) (by kernel_rfl) (by kernel_rfl) fun B hJ=> Q4g xs hx hl hJ
def Qor (B:Lo) (s:Qaa) (load:Int):List Prop:=[Qaz []/\Qao Tryz.prog J0 124 #[slT (List.length (List.map Qag.weight (Qav load s.lots 0))) (Qac Qa1 (List.map Qag.weight (Qav load s.lots 0)))] (.int .i64 (Qel (List.map Qag.weight (Qav load s.lots 0)))),Qaz []/\Qao Tryz.prog J0 92 #[slT (List.length (Qav load s.lots 0)) (Qac Qaq (Qav load s.lots 0)),Value.func (Fn.func 140) #[] #[]] (slT (List.length (List.map Qag.weight (Qav load s.lots 0))) (Qac Qa1 (List.map Qag.weight (Qav load s.lots 0)))),Qaz []/\Qao Tryz.prog J0 139 #[.int .i64 load,slT s.lots.length (Qac Qaq s.lots)] (slT (List.length (Qav load s.lots 0)) (Qac Qaq (Qav load s.lots 0)))]++([]:List Prop)
def Qs8 (s:Qaa) (load:Int):Qap:=[(5,Qai.pure (slT (List.length (Qav load s.lots 0)) (Qac Qaq (Qav load s.lots 0))) []),(6,Qai.pure (slT (List.length (List.map Qag.weight (Qav load s.lots 0))) (Qac Qa1 (List.map Qag.weight (Qav load s.lots 0)))) []),(9,Qai.pure (.int .i64 (Qel (List.map Qag.weight (Qav load s.lots 0)))) [])]
theorem Qz7 (B:Lo) (s:Qaa) (load:Int):QaK (Qak Tryz.prog (Qaw Tryz.prog) J0 B 8 1 (Qae Tryz.prog 96 16 (([.agg (Qah s).toArray,.int .i64 load]).map (Qam 0 4))) H00 1
 (Qs8 s load++[(12,hvT)]) 0 [] []) []=some (.bool true,
 [(!ltq s.hold (Qel (List.map Qag.weight (Qav load s.lots 0))))=true]++Qor B s load):=by kernel_rfl
theorem Q0I (B:Lo) (s:Qaa) (load:Int):QaK (Qak Tryz.prog (Qaw Tryz.prog) J0 B 8 1 (Qae Tryz.prog 96 16 (([.agg (Qah s).toArray,.int .i64 load]).map (Qam 0 4))) H00 1
 (Qs8 s load++[(12,hvF)]) 0 [] []) []=some (.bool false,
 [(!ltq s.hold (Qel (List.map Qag.weight (Qav load s.lots 0))))=false]++Qor B s load):=by kernel_rfl
set_option maxHeartbeats 4000000 in
theorem Q2I (s:Qaa) (load:Int) (hs:Qa0 s=true) (h0:0<=load) (h1:load < 64) (hx:Qcs load<=s.lots.length) {B:Lo} (hJ:∀w,B.has w->J0 w):EndsT Tryz.prog B (Qae Tryz.prog 96 16 (([.agg (Qah s).toArray,.int .i64 load]).map (Qam 0 4))) (.bool (Qru s load)):=by
 have hm:=QaL hs
 have hw:∀x∈(Qav load s.lots 0).map Qag.weight,-1000000000<=x/\x<=1000000000:=fun x h=> by obtain ⟨l,hl,rfl⟩:=List.mem_map.1 h;have:=Qc1 (hm.2 l (QcY (Int.le_refl _) hx l hl));omega
 have hll:=Qix (s:=load) (n:=0) (xs:=s.lots) (Int.le_refl _)
 have hw2:((Qav load s.lots 0).map Qag.weight).length<=1000:=by rw [List.length_map];omega
 have hp0:Qaz (Qor B s load):=by
  exact ⟨⟨trivial,Q5h (List.map Qag.weight (Qav load s.lots 0)) (by with_reducible assumption) (by with_reducible assumption)⟩,⟨⟨trivial,Q3V (Qav load s.lots 0) (by omega)⟩,⟨⟨trivial,Q3A (load) s.lots (by with_reducible assumption) (by with_reducible assumption) (by with_reducible assumption)⟩,trivial⟩⟩⟩
 by_cases q0:(Qel (List.map Qag.weight (Qav load s.lots 0)):Int)<=s.hold
 ·
  exact (GoE.endsT okF hJ Qab GoE.start (Qz7 B s load)
   ⟨(QbE q0),hp0⟩).cast (by (simp [Qru, *];done))
 ·
  exact (GoE.endsT okF hJ Qab GoE.start (Q0I B s load)
   ⟨(QbD (Int.not_le.1 q0)),hp0⟩).cast (by (simp [Qru, *];done))
theorem Q3O (s:Qaa) (load:Int) (hs:Qa0 s=true) (h0:0<=load) (h1:load < 64) (hx:Qcs load<=s.lots.length):Qao Tryz.prog J0 96 #[.agg (Qah s).toArray,.int .i64 load] (.bool (Qru s load)):=
 Qa8 (ts:=[.agg (Qah s).toArray,.int .i64 load]) Qbr (c0:=Qae Tryz.prog 96 16 (([.agg (Qah s).toArray,.int .i64 load]).map (Qam 0 4))) (by kernel_rfl) (by kernel_rfl) fun B hJ=> Q2I s load hs h0 h1 hx hJ
def QiQ (B:Lo) (s:Qaa) (load:List Int):List Prop:=[Qaz []/\Qao Tryz.prog J0 116 #[slT load.length (Qac Qa1 load)] (.int .i64 (QaF load 0)),Qaz []/\Qao Tryz.prog J0 115 #[slT load.length (Qac Qa1 load),.int .i64 (↑s.lots.length:Int)] (.bool true)]++([]:List Prop)
def Qnb (s:Qaa) (load:List Int):Qap:=[(6,Qai.pure (.bool true) []),(10,Qai.pure (.int .i64 (QaF load 0)) [])]
theorem Qvk (B:Lo) (s:Qaa) (load:List Int):QaK (Qak Tryz.prog (Qaw Tryz.prog) J0 B 6 1 (Qae Tryz.prog 80 16 (([.agg (Qah s).toArray,slI load]).map (Qam 0 4))) H00 1
 (Qnb s load++[(11,Qai.pure (.bool true) [])]) 0 [] []) []=some (.bool true,
 [Qaz []/\Qao Tryz.prog J0 96 #[.agg #[slT s.stock.length (Qac Qa1 s.stock),slT s.use.length (Qac QaD s.use),.int .i64 s.glo,.int .i64 s.ghi,slT s.lots.length (Qac Qaq s.lots),.int .i64 s.hold],.int .i64 (QaF load 0)] (.bool true)]++QiQ B s load):=by kernel_rfl
theorem Qu0 (B:Lo) (s:Qaa) (load:List Int):QaK (Qak Tryz.prog (Qaw Tryz.prog) J0 B 6 1 (Qae Tryz.prog 80 16 (([.agg (Qah s).toArray,slI load]).map (Qam 0 4))) H00 1
 (Qnb s load++[(11,Qai.pure (.bool false) [])]) 0 [] []) []=some (.bool false,
 [Qaz []/\Qao Tryz.prog J0 96 #[.agg #[slT s.stock.length (Qac Qa1 s.stock),slT s.use.length (Qac QaD s.use),.int .i64 s.glo,.int .i64 s.ghi,slT s.lots.length (Qac Qaq s.lots),.int .i64 s.hold],.int .i64 (QaF load 0)] (.bool false)]++QiQ B s load):=by kernel_rfl
theorem QuM (B:Lo) (s:Qaa) (load:List Int):QaK (Qak Tryz.prog (Qaw Tryz.prog) J0 B 6 1 (Qae Tryz.prog 80 16 (([.agg (Qah s).toArray,slI load]).map (Qam 0 4))) H00 1
 [(6,Qai.pure (.bool false) [])] 0 [] []) []=some (.bool false,
 [Qaz []/\Qao Tryz.prog J0 115 #[slT load.length (Qac Qa1 load),.int .i64 (↑s.lots.length:Int)] (.bool false)]):=by kernel_rfl
set_option maxHeartbeats 4000000 in
theorem Qy4 (s:Qaa) (load:List Int) (hs:Qa0 s=true) {B:Lo} (hJ:∀w,B.has w->J0 w):EndsT Tryz.prog B (Qae Tryz.prog 80 16 (([.agg (Qah s).toArray,slI load]).map (Qam 0 4))) (.bool (QcF s load)):=by
 have hm:=QaL hs
 cases q0:QdS (↑s.lots.length:Int) load 0 with
 | true=>
   have hp0:Qaz (QiQ B s load):=by
    have g1:=QiW ‹QdS s.lots.length load 0=true› (Int.le_refl 0)
    have g2:∀x∈load,0<=x/\x<=61:=fun x h=> by have:=g1 x h;omega
    have g3:=Qjf (k:=s.lots.length) (by omega) load 0 g1 (Int.le_refl 0) (Int.pow_pos (by decide))
    have g4:QaF load 0 < 64:=Int.lt_of_lt_of_le g3.2 (by have:(2:Nat) ^ s.lots.length<=2 ^ 6:=Nat.pow_le_pow_right (by decide) (by omega);have e:(2:Int) ^ s.lots.length=((2 ^ s.lots.length:Nat):Int):=by {rw [Int.natCast_pow];rfl};rw [e];omega)
    have g5:=QlO g3.1 g3.2
    have g6:=g3.1
    exact ⟨⟨trivial,pOf (load) (by with_reducible assumption)⟩,⟨⟨trivial,(by have t_:=Qkc (load) ((↑s.lots.length:Int)) (by omega);rw [q0] at t_;exact t_)⟩,trivial⟩⟩
   cases q1:Qru s (QaF load 0) with
   | true=>
     have g1:=QiW ‹QdS s.lots.length load 0=true› (Int.le_refl 0)
     have g2:∀x∈load,0<=x/\x<=61:=fun x h=> by have:=g1 x h;omega
     have g3:=Qjf (k:=s.lots.length) (by omega) load 0 g1 (Int.le_refl 0) (Int.pow_pos (by decide))
     have g4:QaF load 0 < 64:=Int.lt_of_lt_of_le g3.2 (by have:(2:Nat) ^ s.lots.length<=2 ^ 6:=Nat.pow_le_pow_right (by decide) (by omega);have e:(2:Int) ^ s.lots.length=((2 ^ s.lots.length:Nat):Int):=by {rw [Int.natCast_pow];rfl};rw [e];omega)
     have g5:=QlO g3.1 g3.2
     have g6:=g3.1
     exact (GoE.endsT okF hJ Qab GoE.start (Qvk B s load)
      ⟨⟨trivial,(by have t_:=Q3O (s) (QaF load 0) (by with_reducible assumption) (by with_reducible assumption) (by with_reducible assumption) (by with_reducible assumption);rw [q1] at t_;exact t_)⟩,hp0⟩).cast (by (simp [QcF, *];done))
   | false=>
     have g1:=QiW ‹QdS s.lots.length load 0=true› (Int.le_refl 0)
     have g2:∀x∈load,0<=x/\x<=61:=fun x h=> by have:=g1 x h;omega
     have g3:=Qjf (k:=s.lots.length) (by omega) load 0 g1 (Int.le_refl 0) (Int.pow_pos (by decide))
     have g4:QaF load 0 < 64:=Int.lt_of_lt_of_le g3.2 (by have:(2:Nat) ^ s.lots.length<=2 ^ 6:=Nat.pow_le_pow_right (by decide) (by omega);have e:(2:Int) ^ s.lots.length=((2 ^ s.lots.length:Nat):Int):=by {rw [Int.natCast_pow];rfl};rw [e];omega)
     have g5:=QlO g3.1 g3.2
     have g6:=g3.1
     exact (GoE.endsT okF hJ Qab GoE.start (Qu0 B s load)
      ⟨⟨trivial,(by have t_:=Q3O (s) (QaF load 0) (by with_reducible assumption) (by with_reducible assumption) (by with_reducible assumption) (by with_reducible assumption);rw [q1] at t_;exact t_)⟩,hp0⟩).cast (by (simp [QcF, *];done))
 | false=>
   exact (GoE.endsT okF hJ Qab GoE.start (QuM B s load)
    ⟨⟨trivial,(by have t_:=Qkc (load) ((↑s.lots.length:Int)) (by omega);rw [q0] at t_;exact t_)⟩,trivial⟩).cast (by (simp [QcF, *];done))
theorem Qns (s:Qaa) (load:List Int) (hs:Qa0 s=true):Qao Tryz.prog J0 80 #[.agg (Qah s).toArray,slI load] (.bool (QcF s load)):=
 Qa8 (ts:=[.agg (Qah s).toArray,slI load]) Qbr (c0:=Qae Tryz.prog 80 16 (([.agg (Qah s).toArray,slI load]).map (Qam 0 4))) (by kernel_rfl) (by kernel_rfl) fun B hJ=> Qy4 s load hs hJ
end
end Go.Proofs.YtiabgkiccaodmaaGreat

namespace Go.Proofs.YtiabgkiccaodmaaGreat
open Go Go.CE Go.RowKit
noncomputable section
set_option maxRecDepth 100000
structure Qad where
 uses:List Int
 gaps:List Int
 goods:List Row
deriving Inhabited
abbrev slR (xs:List Row):Value:=slT xs.length (Qac Qas xs)
def Qa2 (t:Qad):List Value:=[slI t.uses,slI t.gaps,slR t.goods]
def Qsb (ns:List Int) (ss:List Span) (i:Int):Bool:=(upI i ns.length).all fun k=> inB (ns.getD k.toNat default) (ss.getD k.toNat default).lo (ss.getD k.toNat default).hi
theorem QdJ {ns:List Int} {ss:List Span} {i:Int} (h:i < ns.length):Qsb ns ss i=(inB (ns.getD i.toNat default) (ss.getD i.toNat default).lo (ss.getD i.toNat default).hi && Qsb ns ss (i+1)):=by
 unfold Qsb;rw [Qej h];rfl
theorem Qn4 {ns:List Int} {ss:List Span} {i:Int} (h:ns.length<=i):Qsb ns ss i=true:=by unfold Qsb;rw [Qgl h];rfl
def Qcb (ns:List Int) (ss:List Span):Bool:=decide (ns.length=ss.length) && Qsb ns ss 0
def Qwy (s:Qaa) (all:List Row) (i:Int):Bool:=(upI i s.lots.length).all fun k=> Qcb (all.getD k.toNat default) (s.lots.getD k.toNat default).goods
theorem Ql6 {s:Qaa} {all:List Row} {i:Int} (h:i < s.lots.length):Qwy s all i=(Qcb (all.getD i.toNat default) (s.lots.getD i.toNat default).goods && Qwy s all (i+1)):=by
 unfold Qwy;rw [Qej h];rfl
theorem Q16 {s:Qaa} {all:List Row} {i:Int} (h:s.lots.length<=i):Qwy s all i=true:=by unfold Qwy;rw [Qgl h];rfl
def Qf3 (s:Qaa) (all:List Row):Bool:=decide (all.length=s.lots.length) && Qwy s all 0
def Qhy (s:Qaa) (days:Int) (gaps:List Int):Bool:=decide (gaps.length<=300) && (gaps.all (fun x=> inB x s.glo s.ghi) && decide (days<=Qel gaps))
def Qbv (s:Qaa) (days:Int) (t:Qad):Bool:=Qcb t.uses s.use && (Qhy s days t.gaps && Qf3 s t.goods)
theorem QaS {s:Qaa} (h:Qa0 s=true):1<=s.glo/\s.glo<=s.ghi/\s.ghi<=60:=by
 simp only [Qa0,Qb6,Bool.and_eq_true,decide_eq_true_iff] at h
 exact ⟨h.2.2.2.2.1.1,h.2.2.2.2.1.2.1,h.2.2.2.2.1.2.2⟩
def QdX (ns:List Int) (ss:List Span) (i:Int):List Value:=[Qay 1 (slT ss.length (Qac QaD ss)),Qay 1 (slT ns.length (Qac Qa1 ns)),.int .i64 (↑ns.length:Int),.int .i64 i]
def Qcf (ns:List Int) (ss:List Span) (i:Int):List Obj:=[]
def Qeb:List Item:=([.code [1,1,0,1,0,0],.inLoop [1,1,0,1,0,0],.inBlock 0,.code [1,1,1]]).map (it (Qan Tryz.prog 117))
def QrP (B:Lo) (c0:CF) (ns:List Int) (ss:List Span) (i:Int):Prop:=∃dJ:Nat->Value,(∀t,Qbb (dJ t))/\GoE Tryz.prog B c0 H00 1 (Qa4 117 27 (([1,12,13,14]:List Nat).zip (QdX ns ss i)) dJ Qeb) (Qa3 (Qcf ns ss i)) (2+(Qcf ns ss i).length) []
def QfQ (ss:List Span) (i:Int):Array Value:=#[.int .i64 (Span.lo (ss.getD i.toNat default)),.int .i64 (Span.hi (ss.getD i.toNat default))]
def Qh3 (B:Lo) (ns:List Int) (ss:List Span) (i:Int) (dJ0:Nat->Value):List Prop:=[i=(↑i.toNat:Int)/\Int.toNat i < List.length ss/\Array.extract (Qac QaD ss) (Int.toNat i * TypeInfo.size Tryz.t25) (Int.toNat i * TypeInfo.size Tryz.t25+TypeInfo.size Tryz.t25)=(QfQ ss i),i=(↑i.toNat:Int)/\Int.toNat i < List.length ns/\Array.extract (Qac Qa1 ns) (Int.toNat i * TypeInfo.size Tryz.t3) (Int.toNat i * TypeInfo.size Tryz.t3+TypeInfo.size Tryz.t3)=#[.int .i64 (ns.getD i.toNat default)],ltq i (↑ns.length:Int)=true]++([]:List Prop)
def Qlg (ns:List Int) (ss:List Span) (i:Int) (dJ0:Nat->Value):Qap:=[(0,hvT),(2,Qai.tidx i.toNat #[.int .i64 (ns.getD i.toNat default)]),(9,Qai.tidx i.toNat (QfQ ss i))]
theorem QrH (B:Lo) (ns:List Int) (ss:List Span) (i:Int) (dJ0:Nat->Value):landM (Qak Tryz.prog (Qaw Tryz.prog) J0 B 16 1 (Qa4 117 27 (([1,12,13,14]:List Nat).zip (QdX ns ss i)) dJ0 Qeb) (Qa3 (Qcf ns ss i)) (2+(Qcf ns ss i).length)
 (Qlg ns ss i dJ0++[(11,Qai.pure (.bool true) []),(13,hvI (i+1))]) 0 [] []) [1,12,13,14] [] []=some ⟨117,27,Qeb,[],.run,none,QdX ns ss (i+1),Qcf ns ss (i+1),
 [wq (i+1)=i+1,Qaz []/\Qao Tryz.prog J0 73 #[.int .i64 (ns.getD i.toNat default),.agg (QfQ ss i)] (.bool true)]++Qh3 B ns ss i dJ0⟩:=by kernel_rfl
theorem Qrq (B:Lo) (ns:List Int) (ss:List Span) (i:Int) (dJ0:Nat->Value):QaK (Qak Tryz.prog (Qaw Tryz.prog) J0 B 16 1 (Qa4 117 27 (([1,12,13,14]:List Nat).zip (QdX ns ss i)) dJ0 Qeb) (Qa3 (Qcf ns ss i)) (2+(Qcf ns ss i).length)
 (Qlg ns ss i dJ0++[(11,Qai.pure (.bool false) [])]) 0 [] []) []=some (.bool false,
 [Qaz []/\Qao Tryz.prog J0 73 #[.int .i64 (ns.getD i.toNat default),.agg (QfQ ss i)] (.bool false)]++Qh3 B ns ss i dJ0):=by kernel_rfl
theorem Qsx (B:Lo) (ns:List Int) (ss:List Span) (i:Int) (dJ0:Nat->Value):QaK (Qak Tryz.prog (Qaw Tryz.prog) J0 B 9 1 (Qa4 117 27 (([1,12,13,14]:List Nat).zip (QdX ns ss i)) dJ0 Qeb) (Qa3 (Qcf ns ss i)) (2+(Qcf ns ss i).length)
 [(0,hvF)] 0 [] []) []=some (.bool true,
 [ltq i (↑ns.length:Int)=false]):=by kernel_rfl
theorem Qrp (B:Lo) (ns:List Int) (ss:List Span):QaK (Qak Tryz.prog (Qaw Tryz.prog) J0 B 10 1 (Qae Tryz.prog 117 27 (([slI ns,Qms ss]).map (Qam 0 4))) H00 1
 [(5,hvT)] 0 [] []) []=some (.bool false,
 [(!eqq (↑ns.length:Int) (↑ss.length:Int))=true]):=by kernel_rfl
theorem Qs2 (B:Lo) (ns:List Int) (ss:List Span):landM (Qak Tryz.prog (Qaw Tryz.prog) J0 B 12 1 (Qae Tryz.prog 117 27 (([slI ns,Qms ss]).map (Qam 0 4))) H00 1
 [(5,hvF)] 0 [] []) [1,12,13,14] [] []=some ⟨117,27,Qeb,[],.run,none,QdX ns ss (0),Qcf ns ss (0),
 [(!eqq (↑ns.length:Int) (↑ss.length:Int))=false]⟩:=by kernel_rfl
set_option maxHeartbeats 4000000 in
theorem QrJ (ns:List Int) (ss:List Span)  (hfacts:ns.length<=9223372036854775807/\ss.length<=9223372036854775807) {B:Lo} (hJ:∀w,B.has w->J0 w) {c0:CF}:∀m:Nat,(∀(i:Int),ns.length - i.toNat=m->∀(h0:0<=i) (hl:ns.length=ss.length),QrP B c0 ns ss i->EndsT Tryz.prog B c0 (.bool (Qsb ns ss i))):=by
 intro m0
 induction m0 using Nat.strongRecOn with
 | _ m0 ih0=>
   intro i hm0 h0 hl ⟨dJ0,hdJ0,hg0⟩
   by_cases q0:(i:Int) < ((↑ns.length:Int))
   ·
    have hp0:Qaz (Qh3 B ns ss i dJ0):=by
     have s2:=QdJ (ns:=ns) (ss:=ss) q0
     exact ⟨⟨by omega,by omega,(Qaj (z:=2) (fun _=> rfl) (by omega))⟩,⟨⟨by omega,by omega,(Qaj (z:=1) (fun _=> rfl) (by omega))⟩,⟨(Qbn q0),trivial⟩⟩⟩
    cases q1:inB (ns.getD i.toNat default) (Span.lo (ss.getD i.toNat default)) (Span.hi (ss.getD i.toNat default)) with
    | true=>
      have s2:=QdJ (ns:=ns) (ss:=ss) q0
      exact ((ih0 _ (by omega)) (i+1) rfl (by omega) (by with_reducible assumption)
       (hg0.landM okF hJ Qab (QrH B ns ss i dJ0)
       ⟨(QaV (by omega) (by omega)),⟨⟨trivial,(by have t_:=QwP (ns.getD i.toNat default) (Span.lo (ss.getD i.toNat default)) (Span.hi (ss.getD i.toNat default));rw [q1] at t_;exact t_)⟩,hp0⟩⟩ (by kernel_rfl) (by kernel_rfl))).cast (by (rw [s2];simp_all;done))
    | false=>
      have s2:=QdJ (ns:=ns) (ss:=ss) q0
      exact (GoE.endsT okF hJ Qab hg0 (Qrq B ns ss i dJ0)
       ⟨⟨trivial,(by have t_:=QwP (ns.getD i.toNat default) (Span.lo (ss.getD i.toNat default)) (Span.hi (ss.getD i.toNat default));rw [q1] at t_;exact t_)⟩,hp0⟩).cast (by (rw [s2];simp_all;done))
   ·
    have s2:=Qn4 (ns:=ns) (ss:=ss) (i:=i) (by omega)
    exact (GoE.endsT okF hJ Qab hg0 (Qsx B ns ss i dJ0)
     ⟨(Qbk (Int.not_lt.1 q0)),trivial⟩).cast (by (rw [s2];done))
set_option maxHeartbeats 4000000 in
theorem Quc (ns:List Int) (ss:List Span)  (hfacts:ns.length<=9223372036854775807/\ss.length<=9223372036854775807) {B:Lo} (hJ:∀w,B.has w->J0 w):EndsT Tryz.prog B (Qae Tryz.prog 117 27 (([slI ns,Qms ss]).map (Qam 0 4))) (.bool (Qcb ns ss)):=by
 by_cases q0:((↑ns.length:Int):Int)≠((↑ss.length:Int))
 ·
  exact (GoE.endsT okF hJ Qab GoE.start (Qrp B ns ss)
   ⟨(Qju q0),trivial⟩).cast (by (simp only [Qcb];rw [decide_eq_false (by omega)];rfl))
 ·
  exact ((QrJ ns ss hfacts hJ _) (0) rfl (by omega) (by omega)
   (GoE.start.landM okF hJ Qab (Qs2 B ns ss)
   ⟨(Qjn (Decidable.of_not_not q0)),trivial⟩ (by kernel_rfl) (by kernel_rfl))).cast (by (simp only [Qcb];rw [decide_eq_true (by omega)];rfl))
theorem QjH (ns:List Int) (ss:List Span)  :Qao Tryz.prog J0 117 #[slI ns,Qms ss] (.bool (Qcb ns ss)):=
 QbW (ts:=[slI ns,Qms ss]) (ns.length<=9223372036854775807/\ss.length<=9223372036854775807) (fun _ _ ht=> ⟨ht.ln (i:=0) rfl,ht.ln (i:=1) rfl⟩) Qbr (c0:=Qae Tryz.prog 117 27 (([slI ns,Qms ss]).map (Qam 0 4))) (by kernel_rfl) (by kernel_rfl) fun hfacts B hJ=> Quc ns ss  hfacts hJ
def QhA (B:Lo) (s:Qaa) (days:Int) (gaps:List Int):List Prop:=[(!ltq 300 (↑gaps.length:Int))=true]++([]:List Prop)
def Qlf (s:Qaa) (days:Int) (gaps:List Int):Qap:=[(4,hvT)]
def Qhw (B:Lo) (s:Qaa) (days:Int) (gaps:List Int):List Prop:=[Qaz []/\Qao Tryz.prog J0 124 #[slT gaps.length (Qac Qa1 gaps)] (.int .i64 (Qel gaps)),Qaz []/\Qao Tryz.prog J0 100 #[slT gaps.length (Qac Qa1 gaps),.int .i64 s.glo,.int .i64 s.ghi] (.bool true)]++QhA B s days gaps
def Ql2 (s:Qaa) (days:Int) (gaps:List Int):Qap:=Qlf s days gaps++[(13,Qai.pure (.bool true) []),(17,Qai.pure (.int .i64 (Qel gaps)) [])]
theorem QrY (B:Lo) (s:Qaa) (days:Int) (gaps:List Int):QaK (Qak Tryz.prog (Qaw Tryz.prog) J0 B 6 1 (Qae Tryz.prog 118 26 (([.agg (Qah s).toArray,.int .i64 days,slI gaps]).map (Qam 0 4))) H00 1
 (Ql2 s days gaps++[(19,hvT)]) 0 [] []) []=some (.bool true,
 [(!ltq (Qel gaps) days)=true]++Qhw B s days gaps):=by kernel_rfl
theorem QrX (B:Lo) (s:Qaa) (days:Int) (gaps:List Int):QaK (Qak Tryz.prog (Qaw Tryz.prog) J0 B 6 1 (Qae Tryz.prog 118 26 (([.agg (Qah s).toArray,.int .i64 days,slI gaps]).map (Qam 0 4))) H00 1
 (Ql2 s days gaps++[(19,hvF)]) 0 [] []) []=some (.bool false,
 [(!ltq (Qel gaps) days)=false]++Qhw B s days gaps):=by kernel_rfl
theorem Qso (B:Lo) (s:Qaa) (days:Int) (gaps:List Int):QaK (Qak Tryz.prog (Qaw Tryz.prog) J0 B 6 1 (Qae Tryz.prog 118 26 (([.agg (Qah s).toArray,.int .i64 days,slI gaps]).map (Qam 0 4))) H00 1
 (Qlf s days gaps++[(13,Qai.pure (.bool false) [])]) 0 [] []) []=some (.bool false,
 [Qaz []/\Qao Tryz.prog J0 100 #[slT gaps.length (Qac Qa1 gaps),.int .i64 s.glo,.int .i64 s.ghi] (.bool false)]++QhA B s days gaps):=by kernel_rfl
theorem QrA (B:Lo) (s:Qaa) (days:Int) (gaps:List Int):QaK (Qak Tryz.prog (Qaw Tryz.prog) J0 B 6 1 (Qae Tryz.prog 118 26 (([.agg (Qah s).toArray,.int .i64 days,slI gaps]).map (Qam 0 4))) H00 1
 [(4,hvF)] 0 [] []) []=some (.bool false,
 [(!ltq 300 (↑gaps.length:Int))=false]):=by kernel_rfl
set_option maxHeartbeats 4000000 in
theorem Qva (s:Qaa) (days:Int) (gaps:List Int) (hs:Qa0 s=true) (hfacts:gaps.length<=9223372036854775807) {B:Lo} (hJ:∀w,B.has w->J0 w):EndsT Tryz.prog B (Qae Tryz.prog 118 26 (([.agg (Qah s).toArray,.int .i64 days,slI gaps]).map (Qam 0 4))) (.bool (Qhy s days gaps)):=by
 have hg:=QaS hs
 by_cases q0:((↑gaps.length:Int):Int)<=(300)
 ·
  have hp0:Qaz (QhA B s days gaps):=by
   exact ⟨(QbE q0),trivial⟩
  cases q1:List.all gaps fun x=> inB x s.glo s.ghi with
  | true=>
    have hp1:Qaz (Qhw B s days gaps):=by
     have hx:∀x∈gaps,-1000000000<=x/\x<=1000000000:=fun x h=> by have:=QaP.1 (List.all_eq_true.1 ‹gaps.all (fun x=> inB x s.glo s.ghi)=true› x h);omega
     exact ⟨⟨trivial,Q5h (gaps) (by with_reducible assumption) (by omega)⟩,⟨⟨trivial,(by have t_:=Qt6 (gaps) s.glo s.ghi;rw [q1] at t_;exact t_)⟩,hp0⟩⟩
    by_cases q2:(days:Int)<=(Qel gaps)
    ·
     have hx:∀x∈gaps,-1000000000<=x/\x<=1000000000:=fun x h=> by have:=QaP.1 (List.all_eq_true.1 ‹gaps.all (fun x=> inB x s.glo s.ghi)=true› x h);omega
     exact (GoE.endsT okF hJ Qab GoE.start (QrY B s days gaps)
      ⟨(QbE q2),hp1⟩).cast (by (simp_all [Qhy];omega))
    ·
     have hx:∀x∈gaps,-1000000000<=x/\x<=1000000000:=fun x h=> by have:=QaP.1 (List.all_eq_true.1 ‹gaps.all (fun x=> inB x s.glo s.ghi)=true› x h);omega
     exact (GoE.endsT okF hJ Qab GoE.start (QrX B s days gaps)
      ⟨(QbD (Int.not_le.1 q2)),hp1⟩).cast (by (simp [Qhy, *];done))
  | false=>
    exact (GoE.endsT okF hJ Qab GoE.start (Qso B s days gaps)
     ⟨⟨trivial,(by have t_:=Qt6 (gaps) s.glo s.ghi;rw [q1] at t_;exact t_)⟩,hp0⟩).cast (by (simp [Qhy, *];done))
 ·
  exact (GoE.endsT okF hJ Qab GoE.start (QrA B s days gaps)
   ⟨(QbD (Int.not_le.1 q0)),trivial⟩).cast (by (simp_all [Qhy];omega))
theorem Qtx (s:Qaa) (days:Int) (gaps:List Int) (hs:Qa0 s=true):Qao Tryz.prog J0 118 #[.agg (Qah s).toArray,.int .i64 days,slI gaps] (.bool (Qhy s days gaps)):=
 QbW (ts:=[.agg (Qah s).toArray,.int .i64 days,slI gaps]) (gaps.length<=9223372036854775807) (fun _ _ ht=> ht.ln (i:=2) rfl) Qbr (c0:=Qae Tryz.prog 118 26 (([.agg (Qah s).toArray,.int .i64 days,slI gaps]).map (Qam 0 4))) (by kernel_rfl) (by kernel_rfl) fun hfacts B hJ=> Qva s days gaps hs hfacts hJ
def Qd1 (s:Qaa) (all:List Row) (i:Int):List Value:=[Qay 1 (slT all.length (Qac Qas all)),Qay 1 (slT s.lots.length (Qac Qaq s.lots)),.int .i64 (↑s.lots.length:Int),.int .i64 i]
def QbI (s:Qaa) (all:List Row) (i:Int):List Obj:=[]
def Qd3:List Item:=([.code [1,1,0,1,0,0],.inLoop [1,1,0,1,0,0],.inBlock 0,.code [1,1,1]]).map (it (Qan Tryz.prog 119))
def QoQ (B:Lo) (c0:CF) (s:Qaa) (all:List Row) (i:Int):Prop:=∃dJ:Nat->Value,(∀t,Qbb (dJ t))/\GoE Tryz.prog B c0 H00 1 (Qa4 119 30 (([1,14,15,16]:List Nat).zip (Qd1 s all i)) dJ Qd3) (Qa3 (QbI s all i)) (2+(QbI s all i).length) []
def QgP (B:Lo) (s:Qaa) (all:List Row) (i:Int) (dJ0:Nat->Value):List Prop:=[i=(↑i.toNat:Int)/\Int.toNat i < List.length all/\Array.extract (Qac Qas all) (Int.toNat i * TypeInfo.size Tryz.t22) (Int.toNat i * TypeInfo.size Tryz.t22+TypeInfo.size Tryz.t22)=#[slT (List.length (all.getD i.toNat default)) (Qac Qa1 (all.getD i.toNat default))],i=(↑i.toNat:Int)/\Int.toNat i < List.length s.lots/\Array.extract (Qac Qaq s.lots) (Int.toNat i * TypeInfo.size Tryz.t118) (Int.toNat i * TypeInfo.size Tryz.t118+TypeInfo.size Tryz.t118)=#[slT (List.length (Qag.goods (s.lots.getD i.toNat default))) (Qac QaD (Qag.goods (s.lots.getD i.toNat default))),.int .i64 (Qag.weight (s.lots.getD i.toNat default)),.int .i64 (Qag.cost (s.lots.getD i.toNat default))],ltq i (↑s.lots.length:Int)=true]++([]:List Prop)
def Qj2 (s:Qaa) (all:List Row) (i:Int) (dJ0:Nat->Value):Qap:=[(0,hvT),(2,Qai.tidx i.toNat #[slT (List.length (Qag.goods (s.lots.getD i.toNat default))) (Qac QaD (Qag.goods (s.lots.getD i.toNat default))),.int .i64 (Qag.weight (s.lots.getD i.toNat default)),.int .i64 (Qag.cost (s.lots.getD i.toNat default))]),(9,Qai.tidx i.toNat #[slT (List.length (all.getD i.toNat default)) (Qac Qa1 (all.getD i.toNat default))])]
theorem QqS (B:Lo) (s:Qaa) (all:List Row) (i:Int) (dJ0:Nat->Value):landM (Qak Tryz.prog (Qaw Tryz.prog) J0 B 16 1 (Qa4 119 30 (([1,14,15,16]:List Nat).zip (Qd1 s all i)) dJ0 Qd3) (Qa3 (QbI s all i)) (2+(QbI s all i).length)
 (Qj2 s all i dJ0++[(13,Qai.pure (.bool true) []),(15,hvI (i+1))]) 0 [] []) [1,14,15,16] [] []=some ⟨119,30,Qd3,[],.run,none,Qd1 s all (i+1),QbI s all (i+1),
 [wq (i+1)=i+1,Qaz []/\Qao Tryz.prog J0 117 #[slT (List.length (all.getD i.toNat default)) (Qac Qa1 (all.getD i.toNat default)),slT (List.length (Qag.goods (s.lots.getD i.toNat default))) (Qac QaD (Qag.goods (s.lots.getD i.toNat default)))] (.bool true)]++QgP B s all i dJ0⟩:=by kernel_rfl
theorem QqV (B:Lo) (s:Qaa) (all:List Row) (i:Int) (dJ0:Nat->Value):QaK (Qak Tryz.prog (Qaw Tryz.prog) J0 B 16 1 (Qa4 119 30 (([1,14,15,16]:List Nat).zip (Qd1 s all i)) dJ0 Qd3) (Qa3 (QbI s all i)) (2+(QbI s all i).length)
 (Qj2 s all i dJ0++[(13,Qai.pure (.bool false) [])]) 0 [] []) []=some (.bool false,
 [Qaz []/\Qao Tryz.prog J0 117 #[slT (List.length (all.getD i.toNat default)) (Qac Qa1 (all.getD i.toNat default)),slT (List.length (Qag.goods (s.lots.getD i.toNat default))) (Qac QaD (Qag.goods (s.lots.getD i.toNat default)))] (.bool false)]++QgP B s all i dJ0):=by kernel_rfl
theorem Qqg (B:Lo) (s:Qaa) (all:List Row) (i:Int) (dJ0:Nat->Value):QaK (Qak Tryz.prog (Qaw Tryz.prog) J0 B 9 1 (Qa4 119 30 (([1,14,15,16]:List Nat).zip (Qd1 s all i)) dJ0 Qd3) (Qa3 (QbI s all i)) (2+(QbI s all i).length)
 [(0,hvF)] 0 [] []) []=some (.bool true,
 [ltq i (↑s.lots.length:Int)=false]):=by kernel_rfl
theorem Qpi (B:Lo) (s:Qaa) (all:List Row):QaK (Qak Tryz.prog (Qaw Tryz.prog) J0 B 10 1 (Qae Tryz.prog 119 30 (([.agg (Qah s).toArray,slR all]).map (Qam 0 4))) H00 1
 [(7,hvT)] 0 [] []) []=some (.bool false,
 [(!eqq (↑all.length:Int) (↑s.lots.length:Int))=true]):=by kernel_rfl
theorem QqR (B:Lo) (s:Qaa) (all:List Row):landM (Qak Tryz.prog (Qaw Tryz.prog) J0 B 12 1 (Qae Tryz.prog 119 30 (([.agg (Qah s).toArray,slR all]).map (Qam 0 4))) H00 1
 [(7,hvF)] 0 [] []) [1,14,15,16] [] []=some ⟨119,30,Qd3,[],.run,none,Qd1 s all (0),QbI s all (0),
 [(!eqq (↑all.length:Int) (↑s.lots.length:Int))=false]⟩:=by kernel_rfl
set_option maxHeartbeats 4000000 in
theorem QqO (s:Qaa) (all:List Row)  (hfacts:all.length<=9223372036854775807/\s.lots.length<=9223372036854775807) {B:Lo} (hJ:∀w,B.has w->J0 w) {c0:CF}:∀m:Nat,(∀(i:Int),s.lots.length - i.toNat=m->∀(h0:0<=i) (hl:all.length=s.lots.length),QoQ B c0 s all i->EndsT Tryz.prog B c0 (.bool (Qwy s all i))):=by
 intro m0
 induction m0 using Nat.strongRecOn with
 | _ m0 ih0=>
   intro i hm0 h0 hl ⟨dJ0,hdJ0,hg0⟩
   by_cases q0:(i:Int) < ((↑s.lots.length:Int))
   ·
    have hp0:Qaz (QgP B s all i dJ0):=by
     have s2:=Ql6 (s:=s) (all:=all) q0
     exact ⟨⟨by omega,by omega,(Qaj (z:=1) (fun _=> rfl) (by omega))⟩,⟨⟨by omega,by omega,(Qaj (z:=3) (fun _=> rfl) (by omega))⟩,⟨(Qbn q0),trivial⟩⟩⟩
    cases q1:Qcb (all.getD i.toNat default) (Qag.goods (s.lots.getD i.toNat default)) with
    | true=>
      have s2:=Ql6 (s:=s) (all:=all) q0
      exact ((ih0 _ (by omega)) (i+1) rfl (by omega) (by with_reducible assumption)
       (hg0.landM okF hJ Qab (QqS B s all i dJ0)
       ⟨(QaV (by omega) (by omega)),⟨⟨trivial,(by have t_:=QjH (all.getD i.toNat default) (Qag.goods (s.lots.getD i.toNat default));rw [q1] at t_;exact t_)⟩,hp0⟩⟩ (by kernel_rfl) (by kernel_rfl))).cast (by (rw [s2];simp_all;done))
    | false=>
      have s2:=Ql6 (s:=s) (all:=all) q0
      exact (GoE.endsT okF hJ Qab hg0 (QqV B s all i dJ0)
       ⟨⟨trivial,(by have t_:=QjH (all.getD i.toNat default) (Qag.goods (s.lots.getD i.toNat default));rw [q1] at t_;exact t_)⟩,hp0⟩).cast (by (rw [s2];simp_all;done))
   ·
    have s2:=Q16 (s:=s) (all:=all) (i:=i) (by omega)
    exact (GoE.endsT okF hJ Qab hg0 (Qqg B s all i dJ0)
     ⟨(Qbk (Int.not_lt.1 q0)),trivial⟩).cast (by (rw [s2];done))
set_option maxHeartbeats 4000000 in
theorem Qr2 (s:Qaa) (all:List Row)  (hfacts:all.length<=9223372036854775807/\s.lots.length<=9223372036854775807) {B:Lo} (hJ:∀w,B.has w->J0 w):EndsT Tryz.prog B (Qae Tryz.prog 119 30 (([.agg (Qah s).toArray,slR all]).map (Qam 0 4))) (.bool (Qf3 s all)):=by
 by_cases q0:((↑all.length:Int):Int)≠((↑s.lots.length:Int))
 ·
  exact (GoE.endsT okF hJ Qab GoE.start (Qpi B s all)
   ⟨(Qju q0),trivial⟩).cast (by (simp only [Qf3];rw [decide_eq_false (by omega)];rfl))
 ·
  exact ((QqO s all hfacts hJ _) (0) rfl (by omega) (by omega)
   (GoE.start.landM okF hJ Qab (QqR B s all)
   ⟨(Qjn (Decidable.of_not_not q0)),trivial⟩ (by kernel_rfl) (by kernel_rfl))).cast (by (simp only [Qf3];rw [decide_eq_true (by omega)];rfl))
theorem Qp7 (s:Qaa) (all:List Row)  :Qao Tryz.prog J0 119 #[.agg (Qah s).toArray,slR all] (.bool (Qf3 s all)):=
 QbW (ts:=[.agg (Qah s).toArray,slR all]) (all.length<=9223372036854775807/\s.lots.length<=9223372036854775807) (fun _ _ ht=> ⟨ht.ln (i:=1) rfl,ht.ln2 (i:=0) (j:=4) rfl rfl⟩) Qbr (c0:=Qae Tryz.prog 119 30 (([.agg (Qah s).toArray,slR all]).map (Qam 0 4))) (by kernel_rfl) (by kernel_rfl) fun hfacts B hJ=> Qr2 s all  hfacts hJ
def Qga (s:Qaa):Array Value:=#[slT s.stock.length (Qac Qa1 s.stock),slT s.use.length (Qac QaD s.use),.int .i64 s.glo,.int .i64 s.ghi,slT s.lots.length (Qac Qaq s.lots),.int .i64 s.hold]
def QhB (B:Lo) (s:Qaa) (days:Int) (t:Qad):List Prop:=[Qaz []/\Qao Tryz.prog J0 117 #[slT t.uses.length (Qac Qa1 t.uses),slT s.use.length (Qac QaD s.use)] (.bool true)]++([]:List Prop)
def Qlq (s:Qaa) (days:Int) (t:Qad):Qap:=[(7,Qai.pure (.bool true) [])]
def Qh5 (B:Lo) (s:Qaa) (days:Int) (t:Qad):List Prop:=[Qaz []/\Qao Tryz.prog J0 118 #[.agg (Qga s),.int .i64 days,slT t.gaps.length (Qac Qa1 t.gaps)] (.bool true)]++QhB B s days t
def Qmd (s:Qaa) (days:Int) (t:Qad):Qap:=Qlq s days t++[(13,Qai.pure (.bool true) [])]
theorem Qro (B:Lo) (s:Qaa) (days:Int) (t:Qad):QaK (Qak Tryz.prog (Qaw Tryz.prog) J0 B 6 1 (Qae Tryz.prog 82 25 (([.agg (Qah s).toArray,.int .i64 days,.agg (Qa2 t).toArray]).map (Qam 0 4))) H00 1
 (Qmd s days t++[(19,Qai.pure (.bool true) [])]) 0 [] []) []=some (.bool true,
 [Qaz []/\Qao Tryz.prog J0 119 #[.agg (Qga s),slT t.goods.length (Qac Qas t.goods)] (.bool true)]++Qh5 B s days t):=by kernel_rfl
theorem Qs0 (B:Lo) (s:Qaa) (days:Int) (t:Qad):QaK (Qak Tryz.prog (Qaw Tryz.prog) J0 B 6 1 (Qae Tryz.prog 82 25 (([.agg (Qah s).toArray,.int .i64 days,.agg (Qa2 t).toArray]).map (Qam 0 4))) H00 1
 (Qmd s days t++[(19,Qai.pure (.bool false) [])]) 0 [] []) []=some (.bool false,
 [Qaz []/\Qao Tryz.prog J0 119 #[.agg (Qga s),slT t.goods.length (Qac Qas t.goods)] (.bool false)]++Qh5 B s days t):=by kernel_rfl
theorem QrM (B:Lo) (s:Qaa) (days:Int) (t:Qad):QaK (Qak Tryz.prog (Qaw Tryz.prog) J0 B 6 1 (Qae Tryz.prog 82 25 (([.agg (Qah s).toArray,.int .i64 days,.agg (Qa2 t).toArray]).map (Qam 0 4))) H00 1
 (Qlq s days t++[(13,Qai.pure (.bool false) [])]) 0 [] []) []=some (.bool false,
 [Qaz []/\Qao Tryz.prog J0 118 #[.agg (Qga s),.int .i64 days,slT t.gaps.length (Qac Qa1 t.gaps)] (.bool false)]++QhB B s days t):=by kernel_rfl
theorem QrL (B:Lo) (s:Qaa) (days:Int) (t:Qad):QaK (Qak Tryz.prog (Qaw Tryz.prog) J0 B 6 1 (Qae Tryz.prog 82 25 (([.agg (Qah s).toArray,.int .i64 days,.agg (Qa2 t).toArray]).map (Qam 0 4))) H00 1
 [(7,Qai.pure (.bool false) [])] 0 [] []) []=some (.bool false,
 [Qaz []/\Qao Tryz.prog J0 117 #[slT t.uses.length (Qac Qa1 t.uses),slT s.use.length (Qac QaD s.use)] (.bool false)]):=by kernel_rfl
set_option maxHeartbeats 4000000 in
theorem Qvj (s:Qaa) (days:Int) (t:Qad) (hs:Qa0 s=true) {B:Lo} (hJ:∀w,B.has w->J0 w):EndsT Tryz.prog B (Qae Tryz.prog 82 25 (([.agg (Qah s).toArray,.int .i64 days,.agg (Qa2 t).toArray]).map (Qam 0 4))) (.bool (Qbv s days t)):=by
 cases q0:Qcb t.uses s.use with
 | true=>
   have hp0:Qaz (QhB B s days t):=by
    exact ⟨⟨trivial,(by have t_:=QjH t.uses s.use;rw [q0] at t_;exact t_)⟩,trivial⟩
   cases q1:Qhy s days t.gaps with
   | true=>
     have hp1:Qaz (Qh5 B s days t):=by
      exact ⟨⟨trivial,(by have t_:=Qtx (s) (days) t.gaps (by with_reducible assumption);rw [q1] at t_;exact t_)⟩,hp0⟩
     cases q2:Qf3 s t.goods with
     | true=>
       exact (GoE.endsT okF hJ Qab GoE.start (Qro B s days t)
        ⟨⟨trivial,(by have t_:=Qp7 (s) t.goods;rw [q2] at t_;exact t_)⟩,hp1⟩).cast (by (simp [Qbv, *];done))
     | false=>
       exact (GoE.endsT okF hJ Qab GoE.start (Qs0 B s days t)
        ⟨⟨trivial,(by have t_:=Qp7 (s) t.goods;rw [q2] at t_;exact t_)⟩,hp1⟩).cast (by (simp [Qbv, *];done))
   | false=>
     exact (GoE.endsT okF hJ Qab GoE.start (QrM B s days t)
      ⟨⟨trivial,(by have t_:=Qtx (s) (days) t.gaps (by with_reducible assumption);rw [q1] at t_;exact t_)⟩,hp0⟩).cast (by (simp [Qbv, *];done))
 | false=>
   exact (GoE.endsT okF hJ Qab GoE.start (QrL B s days t)
    ⟨⟨trivial,(by have t_:=QjH t.uses s.use;rw [q0] at t_;exact t_)⟩,trivial⟩).cast (by (simp [Qbv, *];done))
theorem Qto (s:Qaa) (days:Int) (t:Qad) (hs:Qa0 s=true):Qao Tryz.prog J0 82 #[.agg (Qah s).toArray,.int .i64 days,.agg (Qa2 t).toArray] (.bool (Qbv s days t)):=
 Qa8 (ts:=[.agg (Qah s).toArray,.int .i64 days,.agg (Qa2 t).toArray]) Qbr (c0:=Qae Tryz.prog 82 25 (([.agg (Qah s).toArray,.int .i64 days,.agg (Qa2 t).toArray]).map (Qam 0 4))) (by kernel_rfl) (by kernel_rfl) fun B hJ=> Qvj s days t hs hJ
end
end Go.Proofs.YtiabgkiccaodmaaGreat

namespace Go.Proofs.YtiabgkiccaodmaaGreat
open Go Go.CE Go.RowKit
set_option maxRecDepth 100000
def Qa7 (s:Qaa) (load days:Int):List Value:=Qah s++[.int .i64 load,.int .i64 days]
def Qgf (days:Int):List Int->Int->List Bool->List Bool
 | [],_,bs=> bs
 | g::l,day,bs=> Qgf days l (day+g) (bif decide (day+g < days) then bs.set (day+g).toNat true else bs)
theorem Qjc {days:Int}:∀(l:List Int) (day:Int) (bs:List Bool),(Qgf days l day bs).length=bs.length
 | [],_,_=> rfl
 | g::l,day,bs=> by
   simp only [Qgf];rw [Qjc l]
   cases decide (day+g < days) <;> simp
theorem Qhq {days day:Int} {l:List Int} {i:Int} {bs:List Bool} (h0:0<=i) (h:i < l.length):Qgf days (l.drop i.toNat) day bs=Qgf days (l.drop (i+1).toNat) (day+l.getD i.toNat default) (bif decide (day+l.getD i.toNat default < days) then bs.set (day+l.getD i.toNat default).toNat true else bs):=by
 obtain ⟨k,rfl⟩:∃k:Nat,i=k:=⟨i.toNat,by omega⟩
 have hk:k < l.length:=by omega
 have e1:((k:Int)).toNat=k:=by omega
 have e2:((k:Int)+1).toNat=k+1:=by omega
 rw [e1,e2,List.drop_eq_getElem_cons hk]
 simp [Qgf,List.getD_eq_getElem?_getD,hk]
theorem Qvv {days day:Int} {l:List Int} {i:Int} {bs:List Bool} (h:l.length<=i):Qgf days (l.drop i.toNat) day bs=bs:=by
 rw [List.drop_eq_nil_of_le (by omega)];rfl
def QcC (days:Int) (gaps:List Int):List Bool:=Qgf days gaps 0 (List.replicate days.toNat false)
theorem Qqy (B:Lo) (s:Qaa) (load:List Int) (days:Int):QaK (Qak Tryz.prog (Qaw Tryz.prog) J0 B 6 1 (Qae Tryz.prog 83 12 (([.agg (Qah s).toArray,slI load,.int .i64 days]).map (Qam 0 4))) H00 1
 [(4,Qai.pure (.int .i64 (QaF load 0)) [])] 0 [] []) []=some (.agg #[slT s.stock.length (Qac Qa1 s.stock),slT s.use.length (Qac QaD s.use),.int .i64 s.glo,.int .i64 s.ghi,slT s.lots.length (Qac Qaq s.lots),.int .i64 s.hold,.int .i64 (QaF load 0),.int .i64 days],
 [Qaz []/\Qao Tryz.prog J0 116 #[slT load.length (Qac Qa1 load)] (.int .i64 (QaF load 0))]):=by kernel_rfl
set_option maxHeartbeats 4000000 in
theorem Qrl (s:Qaa) (load:List Int) (days:Int) (hx:∀x∈load,0<=x/\x<=61) {B:Lo} (hJ:∀w,B.has w->J0 w):EndsT Tryz.prog B (Qae Tryz.prog 83 12 (([.agg (Qah s).toArray,slI load,.int .i64 days]).map (Qam 0 4))) (.agg (Qa7 s (QaF load 0) days).toArray):=by
 exact (GoE.endsT okF hJ Qab GoE.start (Qqy B s load days)
  ⟨⟨trivial,pOf (load) (by with_reducible assumption)⟩,trivial⟩).cast (by rfl)
theorem Qpz (s:Qaa) (load:List Int) (days:Int) (hx:∀x∈load,0<=x/\x<=61):Qao Tryz.prog J0 83 #[.agg (Qah s).toArray,slI load,.int .i64 days] (.agg (Qa7 s (QaF load 0) days).toArray):=
 Qa8 (ts:=[.agg (Qah s).toArray,slI load,.int .i64 days]) Qbr (c0:=Qae Tryz.prog 83 12 (([.agg (Qah s).toArray,slI load,.int .i64 days]).map (Qam 0 4))) (by kernel_rfl) (by kernel_rfl) fun B hJ=> Qrl s load days hx hJ
def QeZ (s:Qaa) (load days:Int) (gaps:List Int) (day i:Int) (bs:List Bool):List Value:=[pA 2 0,.slice (some {block:=3,off:=0}) days.toNat 1,.int .i64 day,Qay 1 (slT gaps.length (Qac Qa1 gaps)),.int .i64 (↑gaps.length:Int),.int .i64 i]
def QcS (s:Qaa) (load days:Int) (gaps:List Int) (day i:Int) (bs:List Bool):List Obj:=[Obj.cells #[Qay 1 (slT s.stock.length (Qac Qa1 s.stock)),Qay 1 (slT s.use.length (Qac QaD s.use)),.int .i64 s.glo,.int .i64 s.ghi,Qay 1 (slT s.lots.length (Qac Qaq s.lots)),.int .i64 s.hold,.int .i64 load,.int .i64 days] 122,.cells (Qac Qe5 bs) 4 (0,0)]
noncomputable def QeS:List Item:=([.code [1,1,1,0,1,0,0],.inLoop [1,1,1,0,1,0,0],.inBlock 0,.code [1,1,1,1]]).map (it (Qan Tryz.prog 120))
def Qwc (B:Lo) (c0:CF) (s:Qaa) (load days:Int) (gaps:List Int) (day i:Int) (bs:List Bool):Prop:=∃dJ:Nat->Value,(∀t,Qbb (dJ t))/\GoE Tryz.prog B c0 H00 1 (Qa4 120 30 (([2,5,6,12,13,14]:List Nat).zip (QeZ s load days gaps day i bs)) dJ QeS) (Qa3 (QcS s load days gaps day i bs)) (2+(QcS s load days gaps day i bs).length) []
noncomputable def QlW (B:Lo) (s:Qaa) (load days:Int) (gaps:List Int) (day i:Int) (bs:List Bool) (dJ0:Nat->Value):List Prop:=[wq (day+gaps.getD i.toNat default)=day+gaps.getD i.toNat default,i=(↑i.toNat:Int)/\Int.toNat i < List.length gaps/\Array.extract (Qac Qa1 gaps) (Int.toNat i * TypeInfo.size Tryz.t3) (Int.toNat i * TypeInfo.size Tryz.t3+TypeInfo.size Tryz.t3)=#[.int .i64 (gaps.getD i.toNat default)],ltq i (↑gaps.length:Int)=true]++([]:List Prop)
noncomputable def Qqp (s:Qaa) (load days:Int) (gaps:List Int) (day i:Int) (bs:List Bool) (dJ0:Nat->Value):Qap:=[(0,hvT),(1,Qai.tidx i.toNat #[.int .i64 (gaps.getD i.toNat default)]),(6,hvI (day+gaps.getD i.toNat default))]
theorem Qxa (B:Lo) (s:Qaa) (load days:Int) (gaps:List Int) (day i:Int) (bs:List Bool) (dJ0:Nat->Value):landM (Qak Tryz.prog (Qaw Tryz.prog) J0 B 18 1 (Qa4 120 30 (([2,5,6,12,13,14]:List Nat).zip (QeZ s load days gaps day i bs)) dJ0 QeS) (Qa3 (QcS s load days gaps day i bs)) (2+(QcS s load days gaps day i bs).length)
 (Qqp s load days gaps day i bs dJ0++[(11,hvT),(14,Qai.old (Hint.idx (Int.toNat (day+gaps.getD i.toNat default)))),(15,Qai.old (Hint.st (Qac Qe5 (List.set bs (Int.toNat (day+gaps.getD i.toNat default)) true)))),(16,hvI (i+1))]) 0 [] []) [2,5,6,12,13,14] [(2,KS.auto),(3,KS.cells [] (Qac Qe5 (List.set bs (Int.toNat (day+gaps.getD i.toNat default)) true)))] []=some ⟨120,30,QeS,[],.run,none,QeZ s load days gaps (day+gaps.getD i.toNat default) (i+1) (List.set bs (Int.toNat (day+gaps.getD i.toNat default)) true),QcS s load days gaps (day+gaps.getD i.toNat default) (i+1) (List.set bs (Int.toNat (day+gaps.getD i.toNat default)) true),
 [QeR 1 [] (Qac Qe5 (List.set bs (Int.toNat (day+gaps.getD i.toNat default)) true)) (Qac Qe5 (List.set bs (Int.toNat (day+gaps.getD i.toNat default)) true)),wq (i+1)=i+1,0+Int.toNat (day+gaps.getD i.toNat default) * 1+TypeInfo.size Tryz.t4<=Array.size (Qac Qe5 bs)/\splice (Qac Qe5 bs) (0+Int.toNat (day+gaps.getD i.toNat default) * 1) (Value.cells (.bool true))=Qac Qe5 (List.set bs (Int.toNat (day+gaps.getD i.toNat default)) true),day+gaps.getD i.toNat default=(↑(Int.toNat (day+gaps.getD i.toNat default)):Int)/\Int.toNat (day+gaps.getD i.toNat default) < Int.toNat days,ltq (day+gaps.getD i.toNat default) days=true]++QlW B s load days gaps day i bs dJ0⟩:=by kernel_rfl
theorem Qx2 (B:Lo) (s:Qaa) (load days:Int) (gaps:List Int) (day i:Int) (bs:List Bool) (dJ0:Nat->Value):landM (Qak Tryz.prog (Qaw Tryz.prog) J0 B 18 1 (Qa4 120 30 (([2,5,6,12,13,14]:List Nat).zip (QeZ s load days gaps day i bs)) dJ0 QeS) (Qa3 (QcS s load days gaps day i bs)) (2+(QcS s load days gaps day i bs).length)
 (Qqp s load days gaps day i bs dJ0++[(11,hvF),(12,hvI (i+1))]) 0 [] []) [2,5,6,12,13,14] [(2,KS.auto),(3,KS.cells [] (Qac Qe5 bs))] []=some ⟨120,30,QeS,[],.run,none,QeZ s load days gaps (day+gaps.getD i.toNat default) (i+1) (bs),QcS s load days gaps (day+gaps.getD i.toNat default) (i+1) (bs),
 [QeR 1 [] (Qac Qe5 bs) (Qac Qe5 bs),wq (i+1)=i+1,ltq (day+gaps.getD i.toNat default) days=false]++QlW B s load days gaps day i bs dJ0⟩:=by kernel_rfl
theorem QvM (B:Lo) (s:Qaa) (load days:Int) (gaps:List Int) (day i:Int) (bs:List Bool) (dJ0:Nat->Value):QaK (Qak Tryz.prog (Qaw Tryz.prog) J0 B 9 1 (Qa4 120 30 (([2,5,6,12,13,14]:List Nat).zip (QeZ s load days gaps day i bs)) dJ0 QeS) (Qa3 (QcS s load days gaps day i bs)) (2+(QcS s load days gaps day i bs).length)
 [(0,hvF)] 0 [] []) [{k:=3,rs:=[],cs:=Qac Qe5 bs}]=some (slT days.toNat (Fz.cs {k:=3,rs:=[],cs:=Qac Qe5 bs}),
 [Qct (Fz.rs {k:=3,rs:=[],cs:=Qac Qe5 bs}) (Qac Qe5 bs) (Fz.cs {k:=3,rs:=[],cs:=Qac Qe5 bs}),ltq i (↑gaps.length:Int)=false]):=by kernel_rfl
theorem Qyj (B:Lo) (s:Qaa) (load days:Int) (gaps:List Int):landM (Qak Tryz.prog (Qaw Tryz.prog) J0 B 11 1 (Qae Tryz.prog 120 30 (([.agg (Qa7 s load days).toArray,slI gaps]).map (Qam 0 4))) H00 1
 [(4,Qai.old (Hint.mk days.toNat (Qac (Qb5 [.bool false]) (List.replicate days.toNat ()))))] 0 [] []) [2,5,6,12,13,14] [(1,KS.auto),(2,KS.rows [] [] (Qac Qe5 (List.replicate days.toNat false)))] []=some ⟨120,30,QeS,[],.run,none,QeZ s load days gaps (0) (0) (List.replicate days.toNat false),QcS s load days gaps (0) (0) (List.replicate days.toNat false),
 [Qbi 1 [] [] (Qac (Qb5 [.bool false]) (List.replicate days.toNat ())) (Qac Qe5 (List.replicate days.toNat false)),Qf6 Tryz.prog 127 (QbR {len:=16000,tr:=Tri.set 14 Tri.lf 10 (.int .i64 days)} 10) (QbR {len:=16000,tr:=Tri.set 14 Tri.lf 10 (.int .i64 days)} 10)=some (4,Qac (Qb5 [.bool false]) (List.replicate days.toNat ()),Int.toNat days,TypeInfo.size Tryz.t4)]⟩:=by kernel_rfl
set_option maxHeartbeats 4000000 in
theorem QvW (s:Qaa) (load days:Int) (gaps:List Int) (hd:0<=days/\days<=300) (hg:∀x∈gaps,0<=x/\x<=60) (hl:gaps.length<=300) {B:Lo} (hJ:∀w,B.has w->J0 w) {c0:CF}:∀m:Nat,(∀(day i:Int) (bs:List Bool),gaps.length - i.toNat=m->∀(h0:0<=i) (h1:0<=day/\day<=60 * i) (hb:bs.length=days.toNat),Qwc B c0 s load days gaps day i bs->EndsT Tryz.prog B c0 (slB (Qgf days (gaps.drop i.toNat) day bs))):=by
 intro m0
 induction m0 using Nat.strongRecOn with
 | _ m0 ih0=>
   intro day i bs hm0 h0 h1 hb ⟨dJ0,hdJ0,hg0⟩
   by_cases q0:(i:Int) < ((↑gaps.length:Int))
   ·
    have hp0:Qaz (QlW B s load days gaps day i bs dJ0):=by
     have s2:=Qhq (days:=days) (day:=day) (bs:=bs) (l:=gaps) h0 q0
     have g1:=hg _ (QaJ h0 q0)
     exact ⟨(QaV (by omega) (by omega)),⟨⟨by omega,by omega,(Qaj (z:=1) (fun _=> rfl) (by omega))⟩,⟨(Qbn q0),trivial⟩⟩⟩
    by_cases q1:(day+gaps.getD i.toNat default:Int) < (days)
    ·
     have s2:=Qhq (days:=days) (day:=day) (bs:=bs) (l:=gaps) h0 q0
     have g1:=hg _ (QaJ h0 q0)
     rw [decide_eq_true q1,cond_true] at s2
     exact ((ih0 _ (by omega)) (day+gaps.getD i.toNat default) (i+1) (List.set bs (Int.toNat (day+gaps.getD i.toNat default)) true) rfl (by omega) (by omega) (by (rw [List.length_set];exact hb))
      (hg0.landM okF hJ Qab (Qxa B s load days gaps day i bs dJ0)
      ⟨(QaY (Qbj (fun x=> List.all_eq_true.1 (by rfl)))),⟨(QaV (by omega) (by omega)),⟨(by exact Qfb (z:=1) (fun _=> rfl) (by omega) rfl rfl),⟨⟨by omega,by omega⟩,⟨(Qbn q1),hp0⟩⟩⟩⟩⟩ (by kernel_rfl) (by kernel_rfl))).cast (by (rw [s2];done))
    ·
     have s2:=Qhq (days:=days) (day:=day) (bs:=bs) (l:=gaps) h0 q0
     have g1:=hg _ (QaJ h0 q0)
     rw [decide_eq_false q1,cond_false] at s2
     exact ((ih0 _ (by omega)) (day+gaps.getD i.toNat default) (i+1) (bs) rfl (by omega) (by omega) (by with_reducible assumption)
      (hg0.landM okF hJ Qab (Qx2 B s load days gaps day i bs dJ0)
      ⟨(QaY (Qbj (fun x=> List.all_eq_true.1 (by rfl)))),⟨(QaV (by omega) (by omega)),⟨(Qbk (Int.not_lt.1 q1)),hp0⟩⟩⟩ (by kernel_rfl) (by kernel_rfl))).cast (by (rw [s2];done))
   ·
    have s2:=Qvv (days:=days) (day:=day) (bs:=bs) (l:=gaps) (i:=i) (by omega)
    exact (GoE.endsT okF hJ Qab hg0 (QvM B s load days gaps day i bs dJ0)
     ⟨(Qcg (fun x=> List.all_eq_true.1 (by rfl))),⟨(Qbk (Int.not_lt.1 q0)),trivial⟩⟩).cast (by (rw [s2];exact QeM rfl (by omega)))
set_option maxHeartbeats 4000000 in
theorem Q0H (s:Qaa) (load days:Int) (gaps:List Int) (hd:0<=days/\days<=300) (hg:∀x∈gaps,0<=x/\x<=60) (hl:gaps.length<=300) {B:Lo} (hJ:∀w,B.has w->J0 w):EndsT Tryz.prog B (Qae Tryz.prog 120 30 (([.agg (Qa7 s load days).toArray,slI gaps]).map (Qam 0 4))) (slB (QcC days gaps)):=by
 exact ((QvW s load days gaps hd hg hl hJ _) (0) (0) (List.replicate days.toNat false) rfl (by omega) (by omega) (by (rw [List.length_replicate];done))
  (GoE.start.landM okF hJ Qab (Qyj B s load days gaps)
  ⟨(by exact (QbA (by exact ⟨(.simple rfl),trivial⟩) _)),⟨(QfE (bytes:=1) (by kernel_rfl) (by omega) (by omega) (by omega)),trivial⟩⟩ (by kernel_rfl) (by kernel_rfl))).cast (by rfl)
theorem Q4z (s:Qaa) (load days:Int) (gaps:List Int) (hd:0<=days/\days<=300) (hg:∀x∈gaps,0<=x/\x<=60) (hl:gaps.length<=300):Qao Tryz.prog J0 120 #[.agg (Qa7 s load days).toArray,slI gaps] (slB (QcC days gaps)):=
 Qa8 (ts:=[.agg (Qa7 s load days).toArray,slI gaps]) Qbr (c0:=Qae Tryz.prog 120 30 (([.agg (Qa7 s load days).toArray,slI gaps]).map (Qam 0 4))) (by kernel_rfl) (by kernel_rfl) fun B hJ=> Q0H s load days gaps hd hg hl hJ
end Go.Proofs.YtiabgkiccaodmaaGreat

namespace Go.Proofs.YtiabgkiccaodmaaGreat
open Go Go.CE Go.RowKit
noncomputable section
set_option maxRecDepth 100000
theorem Qs1 {p:Int->Bool} {a b:Int} (h:(upI a b).all p=true) {k:Int} (h1:a<=k) (h2:k < b):p k=true:=by
 refine List.all_eq_true.1 h k ?_
 unfold upI
 exact List.mem_map.2 ⟨(k - a).toNat,List.mem_range.2 (by omega),by omega⟩
theorem QbM {b:Int}:(upI 0 b).length=b.toNat:=by simp [upI]
theorem Qif {b i:Int} (h0:0<=i) (h:i < b):(upI 0 b).getD i.toNat default=i:=by
 have hk:i.toNat < (upI 0 b).length:=by rw [QbM];omega
 rw [List.getD_eq_getElem?_getD,List.getElem?_eq_getElem hk]
 simp [upI];omega
theorem QnO {α:Type} [Inhabited α] {l:List α} {x:α} (h:x∈l):∃i:Int,0<=i/\i < l.length/\l.getD i.toNat default=x:=by
 obtain ⟨k,hk,rfl⟩:=List.getElem_of_mem h
 exact ⟨k,by omega,by omega,by simp [List.getD_eq_getElem?_getD,hk]⟩
theorem Qcu {ns:List Int} {ss:List Span} (h:Qcb ns ss=true):ns.length=ss.length/\∀k:Int,0<=k->k < ns.length->(ss.getD k.toNat default).lo<=ns.getD k.toNat default/\ns.getD k.toNat default<=(ss.getD k.toNat default).hi:=by
 simp only [Qcb,Bool.and_eq_true,decide_eq_true_iff] at h
 exact ⟨h.1,fun k h0 h1=> QaP.1 (Qs1 h.2 h0 h1)⟩
theorem QgV {s:Qaa} {all:List Row} (hs:Qa0 s=true) (h:Qf3 s all=true):all.length=s.lots.length/\∀r∈all,r.length=s.stock.length/\∀x∈r,0<=x/\x<=100000:=by
 simp only [Qf3,Bool.and_eq_true,decide_eq_true_iff] at h
 obtain ⟨hl,hg⟩:=h
 refine ⟨hl,fun r hr=> ?_⟩
 obtain ⟨i,h0,h1,rfl⟩:=QnO hr
 have hi:i < s.lots.length:=by omega
 obtain ⟨a,b⟩:=Qcu (Qs1 hg h0 hi)
 have hlot:=(QaL hs).2 _ (QaJ h0 hi)
 obtain ⟨c,d,_⟩:=Qc1 hlot
 refine ⟨a.trans c,fun x hx=> ?_⟩
 obtain ⟨j,j0,j1,rfl⟩:=QnO hx
 have:=b j j0 j1
 have:=d _ (QaJ (l:=(s.lots.getD i.toNat default).goods) j0 (by omega))
 omega
theorem Qna {m:Int}:∀{l:List Int},(∀x∈l,0<=x/\x<=m)->0<=Qel l/\Qel l<=m * l.length
 | [],_=> by simp [Qel]
 | x::l,h=> by
   have h1:=h x (by simp)
   have h2:=Qna (l:=l) fun y hy=> h y (by simp [hy])
   have e:m * ((l.length:Int)+1)=m * l.length+m:=by rw [Int.mul_add,Int.mul_one]
   simp only [Qel,List.length_cons,Int.natCast_add,Int.natCast_one]
   omega
theorem Qa5 {s:Qaa} (h:Qa0 s=true):(1<=s.stock.length/\s.stock.length<=4)/\(∀x∈s.stock,0<=x/\x<=100000)/\s.use.length=s.stock.length/\∀u∈s.use,0<=u.lo/\u.lo<=u.hi/\u.hi<=1000:=by
 simp only [Qa0,QcE,Qb6,Bool.and_eq_true,decide_eq_true_iff,List.all_eq_true,QaP] at h
 exact ⟨by omega,h.2.1,h.2.2.1,h.2.2.2.1⟩
def QhU (load:Int) (goods:List Row) (k:Int):Int:=Qel ((Qav load goods 0).map fun r=> r.getD k.toNat default)
def Qm3 (s:Qaa) (load days:Int) (t:Qad) (k:Int):Gd:=⟨s.stock.getD k.toNat default,t.uses.getD k.toNat default,QhU load t.goods k,QcC days t.gaps⟩
def QaI (s:Qaa) (load days:Int) (t:Qad):List Gd:=(upI 0 s.stock.length).map (Qm3 s load days t)
abbrev slG (xs:List Gd):Value:=slT xs.length (Qac QbB xs)
def Qot (s:Qaa) (load days:Int) (t:Qad) (i:Int):List Gd:=QfU (Qm3 s load days t) ⟨0,0,0,[]⟩ (upI 0 s.stock.length) i
theorem QkU {s:Qaa} {load days:Int} {t:Qad} {i:Int}:(Qot s load days t i).length=s.stock.length:=by
 unfold Qot;rw [Qdl,QbM];omega
theorem Q2u {s:Qaa} {load days:Int} {t:Qad}:List.replicate s.stock.length (⟨0,0,0,[]⟩:Gd)=Qot s load days t 0:=by
 unfold Qot;rw [<-Qfq,QbM];rfl
theorem QxJ {s:Qaa} {load days:Int} {t:Qad} {i:Int} (h0:0<=i) (h:i < s.stock.length):(Qot s load days t i).set i.toNat (Qm3 s load days t i)=Qot s load days t (i+1):=by
 have:=Qdh (f:=Qm3 s load days t) (x0:=⟨0,0,0,[]⟩) (xs:=upI 0 s.stock.length) (i:=i) h0 (by rw [QbM];omega)
 rw [Qif h0 h] at this
 exact this
theorem Qwu {s:Qaa} {load days:Int} {t:Qad} {i:Int} (h:s.stock.length<=i):Qot s load days t i=QaI s load days t:=Qda (by rw [QbM];omega)
theorem QuB {s:Qaa} {load days:Int} {t:Qad} (hs:Qa0 s=true) (ht:Qbv s days t=true) (hd:0<=days/\days<=300) (h0:0<=load) (h1:load < 64) (hx:Qcs load<=s.lots.length):∀g∈QaI s load days t,gdB g:=by
 intro g hg
 obtain ⟨k,hk,rfl⟩:=List.mem_map.1 hg
 obtain ⟨i,i0,i1,rfl⟩:=QnO hk
 rw [QbM] at i1
 rw [Qif i0 (by omega)]
 simp only [Qbv,Bool.and_eq_true] at ht
 obtain ⟨⟨hl1,hl2⟩,hst,hul,hu⟩:=Qa5 hs
 obtain ⟨a,b⟩:=Qcu ht.1
 obtain ⟨rl,rr⟩:=QgV hs ht.2.2
 have f1:=hst _ (QaJ (l:=s.stock) i0 (by omega))
 have f2:=hu _ (QaJ (l:=s.use) i0 (by omega))
 have f3:=b i i0 (by omega)
 have f4:∀x∈(Qav load t.goods 0).map (fun r=> r.getD i.toNat default),0<=x/\x<=100000:=fun x hx'=> by
  obtain ⟨r,hr,rfl⟩:=List.mem_map.1 hx'
  obtain ⟨q1,q2⟩:=rr r (QcY (Int.le_refl _) (by omega) r hr)
  exact q2 _ (QaJ i0 (by omega))
 have f5:=Qna f4
 have f6:=Qix (s:=load) (n:=0) (xs:=t.goods) (Int.le_refl _)
 have f7:=Qfo h0 h1
 rw [List.length_map] at f5
 have f8:(QcC days t.gaps).length=days.toNat:=by unfold QcC;rw [Qjc,List.length_replicate]
 unfold gdB Qm3
 simp only [QhU]
 refine ⟨by omega,by omega,by omega,by omega,by omega,by omega,by omega⟩
def Qg8 (s:Qaa) (load days:Int) (t:Qad) (i:Int) (ys:List Gd):List Value:=[pA 2 0,pA 3 0,Qay 1 (slT (List.length (QcC days t.gaps)) (Qac Qe5 (QcC days t.gaps))),Qay 1 (slT (List.length (Qav load t.goods 0)) (Qac Qas (Qav load t.goods 0))),.slice (some {block:=4,off:=0}) s.stock.length 4,.int .i64 (↑s.stock.length:Int),.int .i64 i]
def Qew (s:Qaa) (load days:Int) (t:Qad) (i:Int) (ys:List Gd):List Obj:=[Obj.cells #[Qay 1 (slT s.stock.length (Qac Qa1 s.stock)),Qay 1 (slT s.use.length (Qac QaD s.use)),.int .i64 s.glo,.int .i64 s.ghi,Qay 1 (slT s.lots.length (Qac Qaq s.lots)),.int .i64 s.hold,.int .i64 load,.int .i64 days] 122,Obj.cells #[Qay 1 (slT t.uses.length (Qac Qa1 t.uses)),Qay 1 (slT t.gaps.length (Qac Qa1 t.gaps)),Qay 1 (slT t.goods.length (Qac Qas t.goods))] 65,.cells (Qac (Qa9 1 QbB) ys) 129 (0,0)]
def QgF:List Item:=([.code [1,1,1,1,0,1,0,0],.inLoop [1,1,1,1,0,1,0,0],.inBlock 0,.code [1,1,1,1,1]]).map (it (Qan Tryz.prog 84))
def Qy8 (B:Lo) (c0:CF) (s:Qaa) (load days:Int) (t:Qad) (i:Int) (ys:List Gd):Prop:=∃dJ:Nat->Value,(∀t,Qbb (dJ t))/\GoE Tryz.prog B c0 H00 1 (Qa4 84 52 (([2,3,5,6,7,25,26]:List Nat).zip (Qg8 s load days t i ys)) dJ QgF) (Qa3 (Qew s load days t i ys)) (2+(Qew s load days t i ys).length) []
def Qde (s:Qaa) (load days:Int) (t:Qad) (i:Int) (ys:List Gd) (dJ0:Nat->Value):Qar:=[(5,Obj.cells #[.int .i64 i] 3),(0,Obj.coro none),(1,Obj.coro none),(2,Obj.cells #[Qay 1 (slT s.stock.length (Qac Qa1 s.stock)),Qay 1 (slT s.use.length (Qac QaD s.use)),.int .i64 s.glo,.int .i64 s.ghi,Qay 1 (slT s.lots.length (Qac Qaq s.lots)),.int .i64 s.hold,.int .i64 load,.int .i64 days] 122),(3,Obj.cells #[Qay 1 (slT t.uses.length (Qac Qa1 t.uses)),Qay 1 (slT t.gaps.length (Qac Qa1 t.gaps)),Qay 1 (slT t.goods.length (Qac Qas t.goods))] 65),(4,Obj.cells (Qac (Qa9 1 QbB) ys) 129)]
def QfC (s:Qaa) (load days:Int) (t:Qad) (i:Int) (ys:List Gd) (dJ0:Nat->Value):CF:=⟨122,ofList 26 [Qay 1 (slT (List.length (Qav load t.goods 0)) (Qac Qas (Qav load t.goods 0))),Value.func (Fn.func 123) #[] #[pA 5 0]],[Item.code (Qan Tryz.prog 122)],[],.run,none⟩
def Qet (s:Qaa) (load days:Int) (t:Qad) (i:Int) (ys:List Gd) (dJ0:Nat->Value) (j:Int) (zs:List Int):List Value:=[Value.func (Fn.func 123) #[] #[pA 5 0],.slice (some {block:=7,off:=0}) (List.length (Qav load t.goods 0)) 1,Qay 1 (slT (List.length (Qav load t.goods 0)) (Qac Qas (Qav load t.goods 0))),.int .i64 (↑(List.length (Qav load t.goods 0)):Int),.int .i64 j]
def Qex (s:Qaa) (load days:Int) (t:Qad) (i:Int) (ys:List Gd) (dJ0:Nat->Value) (j:Int) (zs:List Int):List Obj:=[]
def Qcq (s:Qaa) (load days:Int) (t:Qad) (i:Int) (ys:List Gd) (dJ0:Nat->Value) (j:Int) (zs:List Int):List Obj:=[.cells (Qac Qa1 zs) 3 (0,0)]
def Qe2:List Item:=([.code [1,1,0,1,0,0],.inLoop [1,1,0,1,0,0],.inBlock 0,.code [1,1,1]]).map (it (Qan Tryz.prog 122))
def QgD (s:Qaa) (load days:Int) (t:Qad) (i:Int) (ys:List Gd) (dJ0:Nat->Value) (j:Int) (zs:List Int) (dJ1:Nat->Value):Qar:=[(6,Obj.coro none),(7,Obj.cells (Qac Qa1 zs) 3),(5,Obj.cells #[.int .i64 i] 3),(0,Obj.coro none),(1,Obj.coro none),(2,Obj.cells #[Qay 1 (slT s.stock.length (Qac Qa1 s.stock)),Qay 1 (slT s.use.length (Qac QaD s.use)),.int .i64 s.glo,.int .i64 s.ghi,Qay 1 (slT s.lots.length (Qac Qaq s.lots)),.int .i64 s.hold,.int .i64 load,.int .i64 days] 122),(3,Obj.cells #[Qay 1 (slT t.uses.length (Qac Qa1 t.uses)),Qay 1 (slT t.gaps.length (Qac Qa1 t.gaps)),Qay 1 (slT t.goods.length (Qac Qas t.goods))] 65),(4,Obj.cells (Qac (Qa9 1 QbB) ys) 129)]
def QhW (s:Qaa) (load days:Int) (t:Qad) (i:Int) (ys:List Gd) (dJ0:Nat->Value) (j:Int) (zs:List Int) (dJ1:Nat->Value):CF:=⟨123,ofList 8 [Qay 1 (slT (List.length (List.getD (Qav load t.goods 0) j.toNat default)) (Qac Qa1 (List.getD (Qav load t.goods 0) j.toNat default))),pA 5 0],[Item.code (Qan Tryz.prog 123)],[],.run,none⟩
def Qf4 (days:Int) (t:Qad):Value:=(slT (List.length (QcC days t.gaps)) (Qac Qe5 (QcC days t.gaps)))
theorem QwR (B:Lo) (s:Qaa) (load days:Int) (t:Qad) (i:Int) (ys:List Gd) (dJ0:Nat->Value) (j:Int) (zs:List Int) (dJ1:Nat->Value):CE.finK 8 (Qak Tryz.prog (Qaw Tryz.prog) J0 B 6 8 (QhW s load days t i ys dJ0 j zs dJ1) (QgD s load days t i ys dJ0 j zs dJ1) 8
 [(3,Qai.tidx i.toNat #[.int .i64 (List.getD (List.getD (Qav load t.goods 0) j.toNat default) i.toNat default)])] 0 [] []) [] [] []=some (OO.ret (.int .i64 (List.getD (List.getD (Qav load t.goods 0) j.toNat default) i.toNat default)),[],[],
 [i=(↑i.toNat:Int)/\Int.toNat i < List.length (List.getD (Qav load t.goods 0) j.toNat default)/\Array.extract (Qac Qa1 (List.getD (Qav load t.goods 0) j.toNat default)) (Int.toNat i * TypeInfo.size Tryz.t3) (Int.toNat i * TypeInfo.size Tryz.t3+TypeInfo.size Tryz.t3)=#[.int .i64 (List.getD (List.getD (Qav load t.goods 0) j.toNat default) i.toNat default)]]):=by kernel_rfl
theorem QxK (B:Lo) (s:Qaa) (load days:Int) (t:Qad) (i:Int) (ys:List Gd) (dJ0:Nat->Value) (j:Int) (zs:List Int) (dJ1:Nat->Value):CE.landA 6 (Qak Tryz.prog (Qaw Tryz.prog) J0 B 13 6 (QbX (none) 122 26 (([1,5,11,12,13]:List Nat).zip (Qet s load days t i ys dJ0 j zs)) dJ1 Qe2) (Qbx (Qde s load days t i ys dJ0) 6 (([]:List Nat).zip (Qex s load days t i ys dJ0 j zs)) (Qcq s load days t i ys dJ0 j zs)) (6+1+(Qcq s load days t i ys dJ0 j zs).length)
 [(0,hvT),(2,Qai.tidx j.toNat #[slT (List.length (List.getD (Qav load t.goods 0) j.toNat default)) (Qac Qa1 (List.getD (Qav load t.goods 0) j.toNat default))]),(10,Qai.call (List.range 8) (OO.ret (.int .i64 (List.getD (List.getD (Qav load t.goods 0) j.toNat default) i.toNat default))) ([]++(8,Qbq)::QaG 9 []) 9 []),(11,Qai.old (Hint.idx j.toNat)),(12,Qai.old (Hint.st (Qac Qa1 (List.set zs j.toNat (List.getD (List.getD (Qav load t.goods 0) j.toNat default) i.toNat default))))),(13,hvI (j+1))] 0 [] []) [1,5,11,12,13] [] [(7,KS.cells [] (Qac Qa1 (List.set zs j.toNat (List.getD (List.getD (Qav load t.goods 0) j.toNat default) i.toNat default))))] []=some ⟨122,26,Qe2,[],.run,none,Qet s load days t i ys dJ0 (j+1) (List.set zs j.toNat (List.getD (List.getD (Qav load t.goods 0) j.toNat default) i.toNat default)),([]:List Nat).zip (Qex s load days t i ys dJ0 (j+1) (List.set zs j.toNat (List.getD (List.getD (Qav load t.goods 0) j.toNat default) i.toNat default))),Qcq s load days t i ys dJ0 (j+1) (List.set zs j.toNat (List.getD (List.getD (Qav load t.goods 0) j.toNat default) i.toNat default)),
 [QeR 6 [] (Qac Qa1 (List.set zs j.toNat (List.getD (List.getD (Qav load t.goods 0) j.toNat default) i.toNat default))) (Qac Qa1 (List.set zs j.toNat (List.getD (List.getD (Qav load t.goods 0) j.toNat default) i.toNat default))),wq (j+1)=j+1,0+Int.toNat j * 1+TypeInfo.size Tryz.t3<=Array.size (Qac Qa1 zs)/\splice (Qac Qa1 zs) (0+Int.toNat j * 1) (Value.cells (QbR {len:=16000,tr:=Tri.set 14 (Tri.set 14 Tri.lf 22 (.int .i64 (List.getD (List.getD (Qav load t.goods 0) j.toNat default) i.toNat default))) 23 (.pointer (some {block:=7,off:=0+Int.toNat j * 1}))} 22))=Qac Qa1 (List.set zs j.toNat (List.getD (List.getD (Qav load t.goods 0) j.toNat default) i.toNat default)),j=(↑j.toNat:Int)/\Int.toNat j < List.length (Qav load t.goods 0),FJ Tryz.prog B (QhW s load days t i ys dJ0 j zs dJ1) (QgD s load days t i ys dJ0 j zs dJ1) 8 (OO.ret (.int .i64 (List.getD (List.getD (Qav load t.goods 0) j.toNat default) i.toNat default))) (([]++((8,Qbq)::QaG (8+1) []))++QgD s load days t i ys dJ0 j zs dJ1) 9 (List.range 8) [],j=(↑j.toNat:Int)/\Int.toNat j < List.length (Qav load t.goods 0)/\Array.extract (Qac Qas (Qav load t.goods 0)) (Int.toNat j * TypeInfo.size Tryz.t22) (Int.toNat j * TypeInfo.size Tryz.t22+TypeInfo.size Tryz.t22)=#[slT (List.length (List.getD (Qav load t.goods 0) j.toNat default)) (Qac Qa1 (List.getD (Qav load t.goods 0) j.toNat default))],ltq j (↑(List.length (Qav load t.goods 0)):Int)=true]⟩:=by kernel_rfl
theorem QwS (B:Lo) (s:Qaa) (load days:Int) (t:Qad) (i:Int) (ys:List Gd) (dJ0:Nat->Value) (j:Int) (zs:List Int) (dJ1:Nat->Value):CE.finK 6 (Qak Tryz.prog (Qaw Tryz.prog) J0 B 9 6 (QbX (none) 122 26 (([1,5,11,12,13]:List Nat).zip (Qet s load days t i ys dJ0 j zs)) dJ1 Qe2) (Qbx (Qde s load days t i ys dJ0) 6 (([]:List Nat).zip (Qex s load days t i ys dJ0 j zs)) (Qcq s load days t i ys dJ0 j zs)) (6+1+(Qcq s load days t i ys dJ0 j zs).length)
 [(0,hvF)] 0 [] []) [] [] [{k:=7,rs:=[],cs:=Qac Qa1 zs}]=some (OO.ret (Qay 6 (slT (List.length (Qav load t.goods 0)) (Fz.cs {k:=7,rs:=[],cs:=Qac Qa1 zs}))),[],[],
 [Qct (Fz.rs {k:=7,rs:=[],cs:=Qac Qa1 zs}) (Qac Qa1 zs) (Fz.cs {k:=7,rs:=[],cs:=Qac Qa1 zs}),ltq j (↑(List.length (Qav load t.goods 0)):Int)=false]):=by kernel_rfl
set_option maxHeartbeats 4000000 in
theorem QoB (s:Qaa) (load days:Int) (t:Qad) (i:Int) (ys:List Gd) (dJ0:Nat->Value) (hs:Qa0 s=true) (ht:Qbv s days t=true) (hd:0<=days/\days<=300) (h0:0<=load) (h1:load < 64) (hx:Qcs load<=s.lots.length) (i0:0<=i) (hy:ys=Qot s load days t i) (hdJ0:∀t,Qbb (dJ0 t)) (q0:(i:Int) < ((↑s.stock.length:Int))) {B:Lo} (hJ:∀w,B.has w->J0 w):∀m:Nat,(∀(j:Int) (zs:List Int),(Qav load t.goods 0).length - j.toNat=m->∀(j0:0<=j) (hz:zs=QfU (fun (r:Row)=> r.getD i.toNat default) 0 (Qav load t.goods 0) j),(∃dJ1:Nat->Value,(∀t,Qbb (dJ1 t))/\GoE Tryz.prog B (QfC s load days t i ys dJ0) (Qde s load days t i ys dJ0) 6 (QbX (none) 122 26 (([1,5,11,12,13]:List Nat).zip (Qet s load days t i ys dJ0 j zs)) dJ1 Qe2) (Qbx (Qde s load days t i ys dJ0) 6 (([]:List Nat).zip (Qex s load days t i ys dJ0 j zs)) (Qcq s load days t i ys dJ0 j zs)) (6+1+(Qcq s load days t i ys dJ0 j zs).length) ([]:List Nat))->FinK Tryz.prog B (QfC s load days t i ys dJ0) (Qde s load days t i ys dJ0) 6 (.ret (Qay 6 (slI ((Qav load t.goods 0).map fun r=> r.getD i.toNat default)))) (([]:List Nat).zip ([])) ([]) ([]:List Nat)):=by
 intro m1
 induction m1 using Nat.strongRecOn with
 | _ m1 ih1=>
   intro j zs hm1 j0 hz ⟨dJ1,hdJ1,hg1⟩
   have ht':=ht;simp only [Qbv,Qhy,Bool.and_eq_true,decide_eq_true_iff,List.all_eq_true,QaP] at ht'
   have hgp:=QaS hs
   have hst:=Qa5 hs
   have hrows:=QgV hs ht'.2.2
   have hus:=(Qcu ht'.1).1
   have hgg:∀x∈t.gaps,0<=x/\x<=60:=fun x h=> by have:=ht'.2.1.2.1 x h;omega
   have hgl:t.gaps.length<=300:=ht'.2.1.1
   have hpx:Qcs load<=t.goods.length:=by omega
   have hpl:=Qix (s:=load) (n:=0) (xs:=t.goods) (Int.le_refl _)
   have hl6:=Qfo h0 h1
   have hyl:ys.length=s.stock.length:=by rw [hy];exact QkU
   have hzl:zs.length=(Qav load t.goods 0).length:=by rw [hz];exact Qdl
   have hyl:ys.length=s.stock.length:=by rw [hy];exact QkU
   have hri:∀r∈Qav load t.goods 0,i < r.length:=fun r h=> by have:=(hrows.2 r (QcY (Int.le_refl _) hpx r h)).1;omega
   by_cases q1:(j:Int) < ((↑(List.length (Qav load t.goods 0)):Int))
   ·
    have rj1:FJ Tryz.prog B (QhW s load days t i ys dJ0 j zs dJ1) (QgD s load days t i ys dJ0 j zs dJ1) 8 (OO.ret (.int .i64 (List.getD (List.getD (Qav load t.goods 0) j.toNat default) i.toNat default))) (([]++((8,Qbq)::QaG (8+1) []))++QgD s load days t i ys dJ0 j zs dJ1) 9 (List.range 8) []:=by
     have hri:∀r∈Qav load t.goods 0,i < r.length:=fun r h=> by have:=(hrows.2 r (QcY (Int.le_refl _) hpx r h)).1;omega
     have hrx:∀x∈(Qav load t.goods 0).map (fun r=> r.getD i.toNat default),-1000000000<=x/\x<=1000000000:=fun x h=> by obtain ⟨r,hr,rfl⟩:=List.mem_map.1 h;obtain ⟨a,b⟩:=hrows.2 r (QcY (Int.le_refl _) hpx r hr);have:=b _ (QaJ (l:=r) i0 (by omega));omega
     have hrl:((Qav load t.goods 0).map (fun r=> r.getD i.toNat default)).length<=1000:=by rw [List.length_map];omega
     have hrj:=hri _ (QaJ j0 (by assumption))
     exact FinK.fjB (GoE.finK okF hJ Qab (Qal (by kernel_rfl)) (Qaf (by kernel_rfl)) ((GoE.refl (P:=Tryz.prog) (B:=B) (c0:=QhW s load days t i ys dJ0 j zs dJ1) (Qal (by kernel_rfl))).widen (Wf:=((([]):List (Nat×KS)).map (·.1))) (by simp) (Qaf (by kernel_rfl))) (QwR B s load days t i ys dJ0 j zs dJ1)
      ⟨⟨by omega,by omega,(Qaj (z:=1) (fun _=> rfl) (by omega))⟩,trivial⟩) (ex:=[7,4]) (by kernel_rfl) ⟨trivial,⟨(QtE (t:=3) (fl:=(0,0)) (fun x=> List.all_eq_true.1 (by rfl))),⟨trivial,⟨trivial,⟨trivial,⟨trivial,⟨trivial,⟨(QeG (t:=129) (fl:=(0,0)) (Qbt (fun _=> rfl)) (by decide)),trivial⟩⟩⟩⟩⟩⟩⟩⟩
    have hri:∀r∈Qav load t.goods 0,i < r.length:=fun r h=> by have:=(hrows.2 r (QcY (Int.le_refl _) hpx r h)).1;omega
    have hrx:∀x∈(Qav load t.goods 0).map (fun r=> r.getD i.toNat default),-1000000000<=x/\x<=1000000000:=fun x h=> by obtain ⟨r,hr,rfl⟩:=List.mem_map.1 h;obtain ⟨a,b⟩:=hrows.2 r (QcY (Int.le_refl _) hpx r hr);have:=b _ (QaJ (l:=r) i0 (by omega));omega
    have hrl:((Qav load t.goods 0).map (fun r=> r.getD i.toNat default)).length<=1000:=by rw [List.length_map];omega
    have hrj:=hri _ (QaJ j0 (by assumption))
    exact ((ih1 _ (by omega)) (j+1) (List.set zs j.toNat (List.getD (List.getD (Qav load t.goods 0) j.toNat default) i.toNat default)) rfl (by omega) (by (subst hz;exact Qdh (f:=fun (r:Row)=> r.getD i.toNat default) j0 q1))
     (GoE.landA okF hJ Qab (Qal (by kernel_rfl)) (Qaf (by kernel_rfl)) hg1 (QxK B s load days t i ys dJ0 j zs dJ1)
     ⟨(QaY (Qbj (fun x=> List.all_eq_true.1 (by rfl)))),⟨(QaV (by omega) (by omega)),⟨(by exact Qfb (z:=1) (fun _=> rfl) (by omega) rfl rfl),⟨⟨by omega,by omega⟩,⟨rj1,⟨⟨by omega,by omega,(Qaj (z:=1) (fun _=> rfl) (by omega))⟩,⟨(Qbn q1),trivial⟩⟩⟩⟩⟩⟩⟩ (by kernel_rfl) (by kernel_rfl) (fun l hl=> by cases hl <;> decide))).cast (by rfl) (by rfl) (by rfl)
   ·
    have hri:∀r∈Qav load t.goods 0,i < r.length:=fun r h=> by have:=(hrows.2 r (QcY (Int.le_refl _) hpx r h)).1;omega
    have hrx:∀x∈(Qav load t.goods 0).map (fun r=> r.getD i.toNat default),-1000000000<=x/\x<=1000000000:=fun x h=> by obtain ⟨r,hr,rfl⟩:=List.mem_map.1 h;obtain ⟨a,b⟩:=hrows.2 r (QcY (Int.le_refl _) hpx r hr);have:=b _ (QaJ (l:=r) i0 (by omega));omega
    have hrl:((Qav load t.goods 0).map (fun r=> r.getD i.toNat default)).length<=1000:=by rw [List.length_map];omega
    exact (GoE.finK okF hJ Qab (Qal (by kernel_rfl)) (Qaf (by kernel_rfl)) hg1 (QwS B s load days t i ys dJ0 j zs dJ1)
     ⟨(Qcg (fun x=> List.all_eq_true.1 (by rfl))),⟨(Qbk (Int.not_lt.1 q1)),trivial⟩⟩).cast (by exact congrArg (fun v=> OO.ret (Qay 6 v)) (QeM (hz.trans (Qda (by omega))) (by simp))) (by rfl) (by rfl)

theorem Qxh (B:Lo) (s:Qaa) (load days:Int) (t:Qad) (i:Int) (ys:List Gd) (dJ0:Nat->Value):CE.landA 6 (Qak Tryz.prog (Qaw Tryz.prog) J0 B 9 6 (QfC s load days t i ys dJ0) (Qde s load days t i ys dJ0) 6
 [(3,Qai.old (Hint.mk (List.length (Qav load t.goods 0)) (Qac (Qb5 [.int .i64 0]) (List.replicate (List.length (Qav load t.goods 0)) ()))))] 0 [] []) [1,5,11,12,13] [] [(6,KS.rows [] [] (Qac Qa1 (List.replicate (List.length (Qav load t.goods 0)) 0)))] []=some ⟨122,26,Qe2,[],.run,none,Qet s load days t i ys dJ0 (0) (List.replicate (List.length (Qav load t.goods 0)) 0),([]:List Nat).zip (Qex s load days t i ys dJ0 (0) (List.replicate (List.length (Qav load t.goods 0)) 0)),Qcq s load days t i ys dJ0 (0) (List.replicate (List.length (Qav load t.goods 0)) 0),
 [Qbi 6 [] [] (Qac (Qb5 [.int .i64 0]) (List.replicate (List.length (Qav load t.goods 0)) ())) (Qac Qa1 (List.replicate (List.length (Qav load t.goods 0)) 0)),Qf6 Tryz.prog 22 (QbR {len:=16000,tr:=Tri.set 14 Tri.lf 9 (.int .i64 (↑(List.length (Qav load t.goods 0)):Int))} 9) (QbR {len:=16000,tr:=Tri.set 14 Tri.lf 9 (.int .i64 (↑(List.length (Qav load t.goods 0)):Int))} 9)=some (3,Qac (Qb5 [.int .i64 0]) (List.replicate (List.length (Qav load t.goods 0)) ()),List.length (Qav load t.goods 0),TypeInfo.size Tryz.t3)]⟩:=by kernel_rfl
theorem Qzn (B:Lo) (s:Qaa) (load days:Int) (t:Qad) (i:Int) (ys:List Gd) (dJ0:Nat->Value):landM (Qak Tryz.prog (Qaw Tryz.prog) J0 B 15 1 (Qa4 84 52 (([2,3,5,6,7,25,26]:List Nat).zip (Qg8 s load days t i ys)) dJ0 QgF) (Qa3 (Qew s load days t i ys)) (2+(Qew s load days t i ys).length)
 [(0,hvT),(6,Qai.call (List.range 6) (OO.ret (Qay 6 (slT (List.length (List.map (fun r=> r.getD i.toNat default) (Qav load t.goods 0))) (Qac Qa1 (List.map (fun r=> r.getD i.toNat default) (Qav load t.goods 0)))))) ([]++(6,Qbq)::QaG 7 []) 7 []),(14,Qai.tidx i.toNat #[.int .i64 (s.stock.getD i.toNat default)]),(19,Qai.tidx i.toNat #[.int .i64 (t.uses.getD i.toNat default)]),(22,Qai.pure (.int .i64 (Qel (List.map (fun r=> r.getD i.toNat default) (Qav load t.goods 0)))) []),(25,Qai.old (Hint.idx i.toNat)),(26,Qai.old (Hint.st (splice (Qac (Qa9 1 QbB) ys) (0+Int.toNat i * 4) #[.int .i64 (s.stock.getD i.toNat default),.int .i64 (t.uses.getD i.toNat default),.int .i64 (Qel (List.map (fun r=> r.getD i.toNat default) (Qav load t.goods 0))),Qay 1 (Qf4 days t)]))),(27,hvI (i+1))] 0 [] []) [2,3,5,6,7,25,26] [(2,KS.auto),(3,KS.auto),(4,KS.rows [(1,1)] [] (Qac (Qa9 1 QbB) (List.set ys i.toNat {stock:=s.stock.getD i.toNat default,use:=t.uses.getD i.toNat default,br:=Qel (List.map (fun r=> r.getD i.toNat default) (Qav load t.goods 0)),ships:=QcC days t.gaps})))] []=some ⟨84,52,QgF,[],.run,none,Qg8 s load days t (i+1) (List.set ys i.toNat {stock:=s.stock.getD i.toNat default,use:=t.uses.getD i.toNat default,br:=Qel (List.map (fun r=> r.getD i.toNat default) (Qav load t.goods 0)),ships:=QcC days t.gaps}),Qew s load days t (i+1) (List.set ys i.toNat {stock:=s.stock.getD i.toNat default,use:=t.uses.getD i.toNat default,br:=Qel (List.map (fun r=> r.getD i.toNat default) (Qav load t.goods 0)),ships:=QcC days t.gaps}),
 [Qbi 1 [(1,1)] [] (splice (Qac (Qa9 1 QbB) ys) (0+Int.toNat i * 4) #[.int .i64 (s.stock.getD i.toNat default),.int .i64 (t.uses.getD i.toNat default),.int .i64 (Qel (List.map (fun r=> r.getD i.toNat default) (Qav load t.goods 0))),Qay 1 (Qf4 days t)]) (Qac (Qa9 1 QbB) (List.set ys i.toNat {stock:=s.stock.getD i.toNat default,use:=t.uses.getD i.toNat default,br:=Qel (List.map (fun r=> r.getD i.toNat default) (Qav load t.goods 0)),ships:=QcC days t.gaps})),wq (i+1)=i+1,0+Int.toNat i * 4+TypeInfo.size Tryz.t129<=Array.size (Qac (Qa9 1 QbB) ys)/\splice (Qac (Qa9 1 QbB) ys) (0+Int.toNat i * 4) (Value.cells (QbR {len:=16000,tr:=Tri.set 14 (Tri.set 14 Tri.lf 48 (.agg #[.int .i64 (s.stock.getD i.toNat default),.int .i64 (t.uses.getD i.toNat default),.int .i64 (Qel (List.map (fun r=> r.getD i.toNat default) (Qav load t.goods 0))),Qay 1 (Qf4 days t)])) 49 (.pointer (some {block:=4,off:=0+Int.toNat i * 4}))} 48))=splice (Qac (Qa9 1 QbB) ys) (0+Int.toNat i * 4) #[.int .i64 (s.stock.getD i.toNat default),.int .i64 (t.uses.getD i.toNat default),.int .i64 (Qel (List.map (fun r=> r.getD i.toNat default) (Qav load t.goods 0))),Qay 1 (Qf4 days t)],i=(↑i.toNat:Int)/\Int.toNat i < List.length s.stock,Qaz []/\Qao Tryz.prog J0 124 #[slT (List.length (List.map (fun r=> r.getD i.toNat default) (Qav load t.goods 0))) (Qac Qa1 (List.map (fun r=> r.getD i.toNat default) (Qav load t.goods 0)))] (.int .i64 (Qel (List.map (fun r=> r.getD i.toNat default) (Qav load t.goods 0)))),i=(↑i.toNat:Int)/\Int.toNat i < List.length t.uses/\Array.extract (Qac Qa1 t.uses) (Int.toNat i * TypeInfo.size Tryz.t3) (Int.toNat i * TypeInfo.size Tryz.t3+TypeInfo.size Tryz.t3)=#[.int .i64 (t.uses.getD i.toNat default)],i=(↑i.toNat:Int)/\Int.toNat i < List.length s.stock/\Array.extract (Qac Qa1 s.stock) (Int.toNat i * TypeInfo.size Tryz.t3) (Int.toNat i * TypeInfo.size Tryz.t3+TypeInfo.size Tryz.t3)=#[.int .i64 (s.stock.getD i.toNat default)],FJ Tryz.prog B (QfC s load days t i ys dJ0) (Qde s load days t i ys dJ0) 6 (OO.ret (Qay 6 (slT (List.length (List.map (fun r=> r.getD i.toNat default) (Qav load t.goods 0))) (Qac Qa1 (List.map (fun r=> r.getD i.toNat default) (Qav load t.goods 0)))))) (([]++((6,Qbq)::QaG (6+1) []))++Qde s load days t i ys dJ0) 7 (List.range 6) [],ltq i (↑s.stock.length:Int)=true]⟩:=by kernel_rfl
theorem Qxy (B:Lo) (s:Qaa) (load days:Int) (t:Qad) (i:Int) (ys:List Gd) (dJ0:Nat->Value):QaK (Qak Tryz.prog (Qaw Tryz.prog) J0 B 9 1 (Qa4 84 52 (([2,3,5,6,7,25,26]:List Nat).zip (Qg8 s load days t i ys)) dJ0 QgF) (Qa3 (Qew s load days t i ys)) (2+(Qew s load days t i ys).length)
 [(0,hvF)] 0 [] []) [{k:=4,rs:=[1],cs:=Qac QbB ys}]=some (slT s.stock.length (Fz.cs {k:=4,rs:=[1],cs:=Qac QbB ys}),
 [Qct (Fz.rs {k:=4,rs:=[1],cs:=Qac QbB ys}) (Qac (Qa9 1 QbB) ys) (Fz.cs {k:=4,rs:=[1],cs:=Qac QbB ys}),ltq i (↑s.stock.length:Int)=false]):=by kernel_rfl
theorem Qyq (B:Lo) (s:Qaa) (load days:Int) (t:Qad):landM (Qak Tryz.prog (Qaw Tryz.prog) J0 B 13 1 (Qae Tryz.prog 84 52 (([.agg (Qa7 s load days).toArray,.agg (Qa2 t).toArray]).map (Qam 0 4))) H00 1
 [(6,Qai.pure (Qf4 days t) []),(12,Qai.pure (slT (List.length (Qav load t.goods 0)) (Qac Qas (Qav load t.goods 0))) []),(18,Qai.old (Hint.mk s.stock.length (Qac (Qb5 [.int .i64 0,.int .i64 0,.int .i64 0,.slice none 0 0]) (List.replicate s.stock.length ()))))] 0 [] []) [2,3,5,6,7,25,26] [(1,KS.auto),(2,KS.auto),(5,KS.rows [] [] (Qac (Qa9 1 QbB) (List.replicate s.stock.length {stock:=0,use:=0,br:=0,ships:=[]})))] []=some ⟨84,52,QgF,[],.run,none,Qg8 s load days t (0) (List.replicate s.stock.length {stock:=0,use:=0,br:=0,ships:=[]}),Qew s load days t (0) (List.replicate s.stock.length {stock:=0,use:=0,br:=0,ships:=[]}),
 [Qbi 1 [] [] (Qac (Qb5 [.int .i64 0,.int .i64 0,.int .i64 0,.slice none 0 0]) (List.replicate s.stock.length ())) (Qac (Qa9 1 QbB) (List.replicate s.stock.length {stock:=0,use:=0,br:=0,ships:=[]})),Qf6 Tryz.prog 119 (QbR {len:=16000,tr:=Tri.set 14 Tri.lf 22 (.int .i64 (↑s.stock.length:Int))} 22) (QbR {len:=16000,tr:=Tri.set 14 Tri.lf 22 (.int .i64 (↑s.stock.length:Int))} 22)=some (129,Qac (Qb5 [.int .i64 0,.int .i64 0,.int .i64 0,.slice none 0 0]) (List.replicate s.stock.length ()),List.length s.stock,TypeInfo.size Tryz.t129),Qaz []/\Qao Tryz.prog J0 121 #[.int .i64 load,slT t.goods.length (Qac Qas t.goods)] (slT (List.length (Qav load t.goods 0)) (Qac Qas (Qav load t.goods 0))),Qaz []/\Qao Tryz.prog J0 120 #[.agg #[slT s.stock.length (Qac Qa1 s.stock),slT s.use.length (Qac QaD s.use),.int .i64 s.glo,.int .i64 s.ghi,slT s.lots.length (Qac Qaq s.lots),.int .i64 s.hold,.int .i64 load,.int .i64 days],slT t.gaps.length (Qac Qa1 t.gaps)] (Qf4 days t)]⟩:=by kernel_rfl
set_option maxHeartbeats 4000000 in
theorem QvO (s:Qaa) (load days:Int) (t:Qad) (hs:Qa0 s=true) (ht:Qbv s days t=true) (hd:0<=days/\days<=300) (h0:0<=load) (h1:load < 64) (hx:Qcs load<=s.lots.length) {B:Lo} (hJ:∀w,B.has w->J0 w) {c0:CF}:∀m:Nat,(∀(i:Int) (ys:List Gd),s.stock.length - i.toNat=m->∀(i0:0<=i) (hy:ys=Qot s load days t i),Qy8 B c0 s load days t i ys->EndsT Tryz.prog B c0 (slG (QaI s load days t))):=by
 intro m0
 induction m0 using Nat.strongRecOn with
 | _ m0 ih0=>
   intro i ys hm0 i0 hy ⟨dJ0,hdJ0,hg0⟩
   have ht':=ht;simp only [Qbv,Qhy,Bool.and_eq_true,decide_eq_true_iff,List.all_eq_true,QaP] at ht'
   have hgp:=QaS hs
   have hst:=Qa5 hs
   have hrows:=QgV hs ht'.2.2
   have hus:=(Qcu ht'.1).1
   have hgg:∀x∈t.gaps,0<=x/\x<=60:=fun x h=> by have:=ht'.2.1.2.1 x h;omega
   have hgl:t.gaps.length<=300:=ht'.2.1.1
   have hpx:Qcs load<=t.goods.length:=by omega
   have hpl:=Qix (s:=load) (n:=0) (xs:=t.goods) (Int.le_refl _)
   have hl6:=Qfo h0 h1
   have hyl:ys.length=s.stock.length:=by rw [hy];exact QkU
   by_cases q0:(i:Int) < ((↑s.stock.length:Int))
   ·
    have rj0:FJ Tryz.prog B (QfC s load days t i ys dJ0) (Qde s load days t i ys dJ0) 6 (OO.ret (Qay 6 (slT (List.length (List.map (fun r=> r.getD i.toNat default) (Qav load t.goods 0))) (Qac Qa1 (List.map (fun r=> r.getD i.toNat default) (Qav load t.goods 0)))))) (([]++((6,Qbq)::QaG (6+1) []))++Qde s load days t i ys dJ0) 7 (List.range 6) []:=by
     have hri:∀r∈Qav load t.goods 0,i < r.length:=fun r h=> by have:=(hrows.2 r (QcY (Int.le_refl _) hpx r h)).1;omega
     have hrx:∀x∈(Qav load t.goods 0).map (fun r=> r.getD i.toNat default),-1000000000<=x/\x<=1000000000:=fun x h=> by obtain ⟨r,hr,rfl⟩:=List.mem_map.1 h;obtain ⟨a,b⟩:=hrows.2 r (QcY (Int.le_refl _) hpx r hr);have:=b _ (QaJ (l:=r) i0 (by omega));omega
     have hrl:((Qav load t.goods 0).map (fun r=> r.getD i.toNat default)).length<=1000:=by rw [List.length_map];omega
     exact FinK.fjB ((QoB s load days t i ys dJ0 hs ht hd h0 h1 hx i0 hy hdJ0 q0 hJ _) (0) (List.replicate (List.length (Qav load t.goods 0)) 0) rfl (by omega) (by exact Qfq)
      (GoE.landA okF hJ Qab (Qal (by kernel_rfl)) (Qaf (by kernel_rfl)) ((GoE.refl (P:=Tryz.prog) (B:=B) (c0:=QfC s load days t i ys dJ0) (Qal (by kernel_rfl))).widen (Wf:=((([]):List (Nat×KS)).map (·.1))) (by simp) (Qaf (by kernel_rfl))) (Qxh B s load days t i ys dJ0)
      ⟨(by exact (QbA (by exact ⟨(.simple rfl),trivial⟩) _)),⟨(QfE (bytes:=8) (by kernel_rfl) (by omega) (by omega) (by omega)),trivial⟩⟩ (by kernel_rfl) (by kernel_rfl) (fun l hl=> by cases hl <;> decide))) (ex:=[4]) (by kernel_rfl) ⟨trivial,⟨trivial,⟨trivial,⟨trivial,⟨trivial,⟨(QeG (t:=129) (fl:=(0,0)) (Qbt (fun _=> rfl)) (by decide)),trivial⟩⟩⟩⟩⟩⟩
    have hri:∀r∈Qav load t.goods 0,i < r.length:=fun r h=> by have:=(hrows.2 r (QcY (Int.le_refl _) hpx r h)).1;omega
    have hrx:∀x∈(Qav load t.goods 0).map (fun r=> r.getD i.toNat default),-1000000000<=x/\x<=1000000000:=fun x h=> by obtain ⟨r,hr,rfl⟩:=List.mem_map.1 h;obtain ⟨a,b⟩:=hrows.2 r (QcY (Int.le_refl _) hpx r hr);have:=b _ (QaJ (l:=r) i0 (by omega));omega
    have hrl:((Qav load t.goods 0).map (fun r=> r.getD i.toNat default)).length<=1000:=by rw [List.length_map];omega
    exact ((ih0 _ (by omega)) (i+1) (List.set ys i.toNat {stock:=s.stock.getD i.toNat default,use:=t.uses.getD i.toNat default,br:=Qel (List.map (fun r=> r.getD i.toNat default) (Qav load t.goods 0)),ships:=QcC days t.gaps}) rfl (by omega) (by (subst hy;exact QxJ i0 q0))
     (hg0.landM okF hJ Qab (Qzn B s load days t i ys dJ0)
     (by exact ⟨(by exact (Qh9 (z:=4) (fun _=> rfl) (Qb1 (Qbt (fun _=> rfl)) (List.Mem.head _)) (by omega) (by exact ⟨(.simple rfl),⟨(.simple rfl),⟨(.simple rfl),⟨(.reg (List.Mem.head _) rfl),trivial⟩⟩⟩⟩))),⟨(QaV (by omega) (by omega)),⟨⟨(by exact Q17 (z:=4) (fun _=> rfl) (by omega) rfl),rfl⟩,⟨⟨by omega,by omega⟩,⟨⟨trivial,Q5h (List.map (fun r=> r.getD i.toNat default) (Qav load t.goods 0)) (by with_reducible assumption) (by with_reducible assumption)⟩,⟨⟨by omega,by omega,(Qaj (z:=1) (fun _=> rfl) (by omega))⟩,⟨⟨by omega,by omega,(Qaj (z:=1) (fun _=> rfl) (by omega))⟩,⟨rj0,⟨(Qbn q0),trivial⟩⟩⟩⟩⟩⟩⟩⟩⟩) (by kernel_rfl) (by kernel_rfl))).cast (by rfl)
   ·
    have hrl:((Qav load t.goods 0).map (fun r=> r.getD i.toNat default)).length<=1000:=by rw [List.length_map];omega
    exact (GoE.endsT okF hJ Qab hg0 (Qxy B s load days t i ys dJ0)
     ⟨(Qe0 (Qbt (fun _=> rfl)) (List.Mem.head _)),⟨(Qbk (Int.not_lt.1 q0)),trivial⟩⟩).cast (by exact QeM (hy.trans (Qwu (by omega))) (by simp [QaI,QbM]))
set_option maxHeartbeats 4000000 in
theorem Q1j (s:Qaa) (load days:Int) (t:Qad) (hs:Qa0 s=true) (ht:Qbv s days t=true) (hd:0<=days/\days<=300) (h0:0<=load) (h1:load < 64) (hx:Qcs load<=s.lots.length) {B:Lo} (hJ:∀w,B.has w->J0 w):EndsT Tryz.prog B (Qae Tryz.prog 84 52 (([.agg (Qa7 s load days).toArray,.agg (Qa2 t).toArray]).map (Qam 0 4))) (slG (QaI s load days t)):=by
 have ht':=ht;simp only [Qbv,Qhy,Bool.and_eq_true,decide_eq_true_iff,List.all_eq_true,QaP] at ht'
 have hgp:=QaS hs
 have hst:=Qa5 hs
 have hrows:=QgV hs ht'.2.2
 have hus:=(Qcu ht'.1).1
 have hgg:∀x∈t.gaps,0<=x/\x<=60:=fun x h=> by have:=ht'.2.1.2.1 x h;omega
 have hgl:t.gaps.length<=300:=ht'.2.1.1
 have hpx:Qcs load<=t.goods.length:=by omega
 have hpl:=Qix (s:=load) (n:=0) (xs:=t.goods) (Int.le_refl _)
 have hl6:=Qfo h0 h1
 exact ((QvO s load days t hs ht hd h0 h1 hx hJ _) (0) (List.replicate s.stock.length {stock:=0,use:=0,br:=0,ships:=[]}) rfl (by omega) (by exact Q2u)
  (GoE.start.landM okF hJ Qab (Qyq B s load days t)
  (by exact ⟨(by exact (QbA (by exact ⟨(.simple rfl),⟨(.simple rfl),⟨(.simple rfl),⟨.nil,trivial⟩⟩⟩⟩) _)),⟨(QfE (bytes:=48) (by kernel_rfl) (by omega) (by omega) (by omega)),⟨⟨trivial,Q4m (load) t.goods (by with_reducible assumption) (by with_reducible assumption) (by with_reducible assumption)⟩,⟨⟨trivial,Q4z (s) (load) (days) t.gaps (by with_reducible assumption) (by with_reducible assumption) (by with_reducible assumption)⟩,trivial⟩⟩⟩⟩) (by kernel_rfl) (by kernel_rfl))).cast (by rfl)
theorem Qxt (s:Qaa) (load days:Int) (t:Qad) (hs:Qa0 s=true) (ht:Qbv s days t=true) (hd:0<=days/\days<=300) (h0:0<=load) (h1:load < 64) (hx:Qcs load<=s.lots.length):Qao Tryz.prog J0 84 #[.agg (Qa7 s load days).toArray,.agg (Qa2 t).toArray] (slG (QaI s load days t)):=
 Qa8 (ts:=[.agg (Qa7 s load days).toArray,.agg (Qa2 t).toArray]) Qbr (c0:=Qae Tryz.prog 84 52 (([.agg (Qa7 s load days).toArray,.agg (Qa2 t).toArray]).map (Qam 0 4))) (by kernel_rfl) (by kernel_rfl) fun B hJ=> Q1j s load days t hs ht hd h0 h1 hx hJ
end
end Go.Proofs.YtiabgkiccaodmaaGreat

