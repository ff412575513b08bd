/- Loads as defined. -/
import Derived.Test.YtiabgkiccaodmaaGreatZSH11
set_option linter.all false
namespace Go.Proofs.YtiabgkiccaodmaaGreat
open Go Go.CE Go.RowKit
noncomputable section
set_option maxRecDepth 100000
def Qeh (things:Int):List Int->Int->Bool
 | [],_=> true
 | n::l,least=> inB n least (things - 1) && Qeh things l (n+1)
def QfG:List Int->Int
 | []=> 0
 | x::l=> x+QfG l
theorem QcB {things least i:Int} {l:List Int} (h0:0<=i) (h:i < l.length):Qeh things (l.drop i.toNat) least=(inB (l.getD i.toNat default) least (things - 1) && Qeh things (l.drop (i+1).toNat) (l.getD i.toNat default+1)):=by
 obtain ⟨k,rfl⟩:∃k:Nat,i=k:=⟨i.toNat,by omega⟩
 have hk:k < l.length:=by omega
 have e1:((k:Int)).toNat=k:=by omega
 have e2:((k:Int)+1).toNat=k+1:=by omega
 rw [e1,e2,List.drop_eq_getElem_cons hk];simp [Qeh,List.getD_eq_getElem?_getD,hk]
theorem Qnw {things least i:Int} {l:List Int} (h:l.length<=i):Qeh things (l.drop i.toNat) least=true:=by
 rw [List.drop_eq_nil_of_le (by omega)];rfl
theorem Q04 {i:Int} {l:List Int} (h0:0<=i) (h:i < l.length):QfG (l.drop i.toNat)=l.getD i.toNat default+QfG (l.drop (i+1).toNat):=by
 obtain ⟨k,rfl⟩:∃k:Nat,i=k:=⟨i.toNat,by omega⟩
 have hk:k < l.length:=by omega
 have e1:((k:Int)).toNat=k:=by omega
 have e2:((k:Int)+1).toNat=k+1:=by omega
 rw [e1,e2,List.drop_eq_getElem_cons hk];simp [QfG,List.getD_eq_getElem?_getD,hk]
theorem Q2g {i:Int} {l:List Int} (h:l.length<=i):QfG (l.drop i.toNat)=0:=by
 rw [List.drop_eq_nil_of_le (by omega)];rfl
theorem QaH {α:Type} [Inhabited α] {l:List α} {i:Int} (h0:0<=i) (h:i < l.length):l.getD i.toNat default∈l:=by
 have hk:i.toNat < l.length:=by omega
 rw [List.getD_eq_getElem?_getD,List.getElem?_eq_getElem hk];exact List.getElem_mem hk
theorem QjT {things:Int}:∀{l:List Int} {least:Int},Qeh things l least=true->0<=least->∀x∈l,0<=x/\x < things
 | [],_,_,_,x,hx=> by simp at hx
 | n::l,least,h,h0,x,hx=> by
   simp only [Qeh,YB,QaU] at h;rcases List.mem_cons.1 hx with rfl | hx
   ·omega
   ·exact QjT h.2 (by omega) x hx
theorem Qkd {k:Nat} (hk:k<=61):∀(l:List Int) (s:Int),(∀x∈l,0<=x/\x < k)->0<=s->s < 2 ^ k->0<=QaG l s/\QaG l s < 2 ^ k
 | [],s,_,h0,h1=> ⟨h0,h1⟩
 | n::l,s,h,h0,h1=> by
   have hn:=h n (by simp);exact Qkd hk l (QpI s n) (fun x hx=> h x (by simp [hx])) (Int.natCast_nonneg _) (Qyh h0 h1 (by omega))
theorem QlD {s:Int} {k:Nat} (h0:0<=s) (h1:s < 2 ^ k):QcF s<=k:=by
 unfold QcF;by_cases hs:s=0
 ·rw [if_pos hs];omega
 ·rw [if_neg hs];obtain ⟨b,rfl⟩:∃b:Nat,s=b:=⟨s.toNat,by omega⟩
  have hb:b≠0:=by omega
  have h2:b < 2 ^ k:=by
   have e:(2:Int) ^ k=((2 ^ k:Nat):Int):=by rw [Int.natCast_pow];rfl
   rw [e] at h1;exact_mod_cast h1
  have:=(Nat.log2_lt hb).2 h2;rw [Int.toNat_natCast];omega
theorem Qde {α:Type} [Inhabited α] {s n:Int} {xs:List α} (hn:0<=n) (hx:QcF s<=xs.length):∀x∈Qa8 s xs n,x∈xs:=by
 intro x h;unfold Qa8 at h;obtain ⟨k,hk,rfl⟩:=List.mem_map.1 h;have hk:=(List.mem_filter.1 hk).1;unfold upI at hk;obtain ⟨j,hj,rfl⟩:=List.mem_map.1 hk;have:=List.mem_range.1 hj;exact QaH (by omega) (by omega)
theorem QiF {α:Type} [Inhabited α] {s n:Int} {xs:List α} (hn:0<=n):((Qa8 s xs n).length:Int)<=max 0 (QcF s - n):=by
 unfold Qa8;rw [List.length_map];have:=List.length_filter_le (Qle s) (upI n (QcF s));have e:(upI n (QcF s)).length=(QcF s - n).toNat:=by simp [upI]
 omega
theorem Qav {s:Qaa} (h:Qa3 s=true):s.lots.length<=6/\∀l∈s.lots,Qoo s.stock.length l=true:=by
 simp only [Qa3,Qsd,YB,decide_eq_true_iff,List.all_eq_true] at h;exact ⟨h.2.2.2.2.2.1.1,h.2.2.2.2.2.1.2⟩
theorem QdW {k:Nat} {l:Qad} (h:Qoo k l=true):l.goods.length=k/\(∀g∈l.goods,0<=g.lo/\g.lo<=g.hi/\g.hi<=100000)/\0<=l.weight/\l.weight<=100000/\0<=l.cost/\l.cost<=1000000:=by
 simp only [Qoo,QcK,QbE,YB,decide_eq_true_iff,List.all_eq_true,QaU] at h;exact ⟨h.1,h.2.1,h.2.2.1.1,h.2.2.1.2,h.2.2.2.1,h.2.2.2.2⟩
def QsI (s:Qaa) (load:Int):Bool:=decide (QfG ((Qa8 load s.lots 0).map Qad.weight)<=s.hold)
def Qck (s:Qaa) (load:List Int):Bool:=Qeh s.lots.length load 0 && QsI s (QaG load 0)
def QcE (xs:List Int) (things:Int) (least i:Int):List Value:=[.int .i64 things,.int .i64 least,Qa4 1 (slT xs.length (Qac Qal xs)),.int .i64 (↑xs.length:Int),.int .i64 i]
def Qby (xs:List Int) (things:Int) (least i:Int):List Obj:=[]
def QcC:List Item:=([.code [1,1,0,1,0,0],.inLoop [1,1,0,1,0,0],.inBlock 0,.code [1,1,1]]).map (it (Qar YP 115))
def QnH (B:Lo) (c0:CF) (xs:List Int) (things:Int) (least i:Int):Prop:=∃dJ:Nat->Value,(∀t,Qbc (dJ t))/\GoE YP B c0 H00 1 (Qa9 115 23 (([1,5,8,9,10]:List Nat).zip (QcE xs things least i)) dJ QcC) (Qa5 (Qby xs things least i)) (2+(Qby xs things least i).length) []
def QfH (B:Lo) (xs:List Int) (things:Int) (least i:Int) (dJ0:Nat->Value):List Prop:=[wq (things - 1)=things - 1,i=(↑i.toNat:Int)/\Int.toNat i < List.length xs/\Array.extract (Qac Qal xs) (Int.toNat i * TypeInfo.size Tryz.t3) (Int.toNat i * TypeInfo.size Tryz.t3+TypeInfo.size Tryz.t3)=#[.int .i64 (xs.getD i.toNat default)],ltq i (↑xs.length:Int)=true]++([]:List Prop)
def QhR (xs:List Int) (things:Int) (least i:Int) (dJ0:Nat->Value):Qaz:=[(0,hvT),(1,Qaf.tidx i.toNat #[.int .i64 (xs.getD i.toNat default)]),(7,hvI (things - 1))]
theorem Qn2 (B:Lo) (xs:List Int) (things:Int) (least i:Int) (dJ0:Nat->Value):landM (Qam YP (Qa1 YP) J0 B 18 1 (Qa9 115 23 (([1,5,8,9,10]:List Nat).zip (QcE xs things least i)) dJ0 QcC) (Qa5 (Qby xs things least i)) (2+(Qby xs things least i).length)
 (QhR xs things least i dJ0++[(8,Qaf.pure (.bool true) []),(11,hvI (xs.getD i.toNat default+1)),(13,hvI (i+1))]) 0 [] []) [1,5,8,9,10] [] []=some ⟨115,23,QcC,[],.run,none,QcE xs things (xs.getD i.toNat default+1) (i+1),Qby xs things (xs.getD i.toNat default+1) (i+1),
 [wq (i+1)=i+1,wq (xs.getD i.toNat default+1)=xs.getD i.toNat default+1,QaA []/\Qaq YP J0 76 #[.int .i64 (xs.getD i.toNat default),.int .i64 least,.int .i64 (things - 1)] (.bool true)]++QfH B xs things least i dJ0⟩:=by kernel_rfl
theorem QnF (B:Lo) (xs:List Int) (things:Int) (least i:Int) (dJ0:Nat->Value):QaY (Qam YP (Qa1 YP) J0 B 17 1 (Qa9 115 23 (([1,5,8,9,10]:List Nat).zip (QcE xs things least i)) dJ0 QcC) (Qa5 (Qby xs things least i)) (2+(Qby xs things least i).length)
 (QhR xs things least i dJ0++[(8,Qaf.pure (.bool false) [])]) 0 [] []) []=some (.bool false,
 [QaA []/\Qaq YP J0 76 #[.int .i64 (xs.getD i.toNat default),.int .i64 least,.int .i64 (things - 1)] (.bool false)]++QfH B xs things least i dJ0):=by kernel_rfl
theorem Qn4 (B:Lo) (xs:List Int) (things:Int) (least i:Int) (dJ0:Nat->Value):QaY (Qam YP (Qa1 YP) J0 B 9 1 (Qa9 115 23 (([1,5,8,9,10]:List Nat).zip (QcE xs things least i)) dJ0 QcC) (Qa5 (Qby xs things least i)) (2+(Qby xs things least i).length)
 [(0,hvF)] 0 [] []) []=some (.bool true,
 [ltq i (↑xs.length:Int)=false]):=by kernel_rfl
theorem Qn6 (B:Lo) (xs:List Int) (things:Int):landM (Qam YP (Qa1 YP) J0 B 9 1 (Qaj YP 115 23 (([slI xs,.int .i64 things]).map (Qat 0 4))) H00 1
 [] 0 [] []) [1,5,8,9,10] [] []=some ⟨115,23,QcC,[],.run,none,QcE xs things (0) (0),Qby xs things (0) (0),
 []⟩:=by kernel_rfl
set_option maxHeartbeats 4000000 in
theorem QnC (xs:List Int) (things:Int) (ht0:0<=things/\things<=1000000) (hfacts:xs.length<=9223372036854775807) {B:Lo} (hJ:∀w,B.has w->J0 w) {c0:CF}:∀m:Nat,(∀(least i:Int),xs.length - i.toNat=m->∀(h0:0<=i) (h1:0<=least/\least<=1000000),QnH B c0 xs things least i->EndsT YP B c0 (.bool (Qeh things (xs.drop i.toNat) least))):=by
 intro m0;induction m0 using Nat.strongRecOn with
 | _ m0 ih0=>
   intro least i hm0 h0 h1 ⟨dJ0,hdJ0,hg0⟩;by_cases q0:(i:Int) < ((↑xs.length:Int))
   ·have hp0:QaA (QfH B xs things least i dJ0):=by
     have s2:=QcB (things:=things) (least:=least) (l:=xs) h0 q0;exact ⟨(QaL (by omega) (by omega)),⟨⟨by omega,by omega,(Qae (z:=1) (fun _=> rfl) (by omega))⟩,⟨(QaW q0),trivial⟩⟩⟩
    cases q1:inB (xs.getD i.toNat default) least (things - 1) with
    | true=>
      have s2:=QcB (things:=things) (least:=least) (l:=xs) h0 q0;have g1:=QaU.1 ‹inB _ least _=true›;exact ((ih0 _ (by omega)) (xs.getD i.toNat default+1) (i+1) rfl (by omega) (by omega)
       (hg0.landM okF hJ Qab (Qn2 B xs things least i dJ0)
       ⟨(QaL (by omega) (by omega)),⟨(QaL (by omega) (by omega)),⟨⟨trivial,(by have t_:=pIn (xs.getD i.toNat default) (least) (things - 1);rw [q1] at t_;exact t_)⟩,hp0⟩⟩⟩ (by kernel_rfl) (by kernel_rfl))).cast (by (rw [s2];simp_all;done))
    | false=>
      have s2:=QcB (things:=things) (least:=least) (l:=xs) h0 q0;exact (GoE.endsT okF hJ Qab hg0 (QnF B xs things least i dJ0)
       ⟨⟨trivial,(by have t_:=pIn (xs.getD i.toNat default) (least) (things - 1);rw [q1] at t_;exact t_)⟩,hp0⟩).cast (by (rw [s2];simp_all;done))
   ·have s2:=Qnw (things:=things) (least:=least) (l:=xs) (i:=i) (by omega);exact (GoE.endsT okF hJ Qab hg0 (Qn4 B xs things least i dJ0)
     ⟨(Qbh (Int.not_lt.1 q0)),trivial⟩).cast (by (rw [s2];done))
set_option maxHeartbeats 4000000 in
theorem QoT (xs:List Int) (things:Int) (ht0:0<=things/\things<=1000000) (hfacts:xs.length<=9223372036854775807) {B:Lo} (hJ:∀w,B.has w->J0 w):EndsT YP B (Qaj YP 115 23 (([slI xs,.int .i64 things]).map (Qat 0 4))) (.bool (Qeh things xs 0)):=by
 exact ((QnC xs things ht0 hfacts hJ _) (0) (0) rfl (by omega) (by omega)
  (GoE.start.landM okF hJ Qab (Qn6 B xs things)
  trivial (by kernel_rfl) (by kernel_rfl))).cast (by rfl)
theorem Ql1 (xs:List Int) (things:Int) (ht0:0<=things/\things<=1000000):Qaq YP J0 115 #[slI xs,.int .i64 things] (.bool (Qeh things xs 0)):=
 Qcw (ts:=[slI xs,.int .i64 things]) (xs.length<=9223372036854775807) (fun _ _ ht=> ht.ln (i:=0) rfl) Qbw (c0:=Qaj YP 115 23 (([slI xs,.int .i64 things]).map (Qat 0 4))) (by kernel_rfl) (by kernel_rfl) fun hfacts B hJ=> QoT xs things ht0 hfacts hJ
def QlM (xs:List Int) (acc i:Int):List Value:=[.int .i64 acc,Qa4 1 (slT xs.length (Qac Qal xs)),.int .i64 (↑xs.length:Int),.int .i64 i]
def QgY (xs:List Int) (acc i:Int):List Obj:=[]
def QlO:List Item:=([.code [1,1,0,1,0,0],.inLoop [1,1,0,1,0,0],.inBlock 0,.code [1,1,1]]).map (it (Qar YP 124))
def Q4B (B:Lo) (c0:CF) (xs:List Int) (acc i:Int):Prop:=∃dJ:Nat->Value,(∀t,Qbc (dJ t))/\GoE YP B c0 H00 1 (Qa9 124 17 (([3,6,7,8]:List Nat).zip (QlM xs acc i)) dJ QlO) (Qa5 (QgY xs acc i)) (2+(QgY xs acc i).length) []
theorem Q4j (B:Lo) (xs:List Int) (acc i:Int) (dJ0:Nat->Value):landM (Qam YP (Qa1 YP) J0 B 13 1 (Qa9 124 17 (([3,6,7,8]:List Nat).zip (QlM xs acc i)) dJ0 QlO) (Qa5 (QgY xs acc i)) (2+(QgY xs acc i).length)
 [(0,hvT),(1,Qaf.tidx i.toNat #[.int .i64 (xs.getD i.toNat default)]),(6,hvI (acc+xs.getD i.toNat default)),(8,hvI (i+1))] 0 [] []) [3,6,7,8] [] []=some ⟨124,17,QlO,[],.run,none,QlM xs (acc+xs.getD i.toNat default) (i+1),QgY xs (acc+xs.getD i.toNat default) (i+1),
 [wq (i+1)=i+1,wq (acc+xs.getD i.toNat default)=acc+xs.getD i.toNat default,i=(↑i.toNat:Int)/\Int.toNat i < List.length xs/\Array.extract (Qac Qal xs) (Int.toNat i * TypeInfo.size Tryz.t3) (Int.toNat i * TypeInfo.size Tryz.t3+TypeInfo.size Tryz.t3)=#[.int .i64 (xs.getD i.toNat default)],ltq i (↑xs.length:Int)=true]⟩:=by kernel_rfl
theorem Q44 (B:Lo) (xs:List Int) (acc i:Int) (dJ0:Nat->Value):QaY (Qam YP (Qa1 YP) J0 B 9 1 (Qa9 124 17 (([3,6,7,8]:List Nat).zip (QlM xs acc i)) dJ0 QlO) (Qa5 (QgY xs acc i)) (2+(QgY xs acc i).length)
 [(0,hvF)] 0 [] []) []=some (.int .i64 acc,
 [ltq i (↑xs.length:Int)=false]):=by kernel_rfl
theorem Q4k (B:Lo) (xs:List Int):landM (Qam YP (Qa1 YP) J0 B 9 1 (Qaj YP 124 17 (([slI xs]).map (Qat 0 4))) H00 1
 [] 0 [] []) [3,6,7,8] [] []=some ⟨124,17,QlO,[],.run,none,QlM xs (0) (0),QgY xs (0) (0),
 []⟩:=by kernel_rfl
set_option maxHeartbeats 4000000 in
theorem Q4y (xs:List Int) (hx:∀x∈xs,-1000000000<=x/\x<=1000000000) (hl:xs.length<=1000) {B:Lo} (hJ:∀w,B.has w->J0 w) {c0:CF}:∀m:Nat,(∀(acc i:Int),xs.length - i.toNat=m->∀(h0:0<=i) (h1: -1000000000 * i<=acc/\acc<=1000000000 * i),Q4B B c0 xs acc i->EndsT YP B c0 (.int .i64 (acc+QfG (xs.drop i.toNat)))):=by
 intro m0;induction m0 using Nat.strongRecOn with
 | _ m0 ih0=>
   intro acc i hm0 h0 h1 ⟨dJ0,hdJ0,hg0⟩;by_cases q0:(i:Int) < ((↑xs.length:Int))
   ·have s2:=Q04 (l:=xs) h0 q0;have g1:=hx _ (QaH h0 q0);exact ((ih0 _ (by omega)) (acc+xs.getD i.toNat default) (i+1) rfl (by omega) (by omega)
     (hg0.landM okF hJ Qab (Q4j B xs acc i dJ0)
     ⟨(QaL (by omega) (by omega)),⟨(QaL (by omega) (by omega)),⟨⟨by omega,by omega,(Qae (z:=1) (fun _=> rfl) (by omega))⟩,⟨(QaW q0),trivial⟩⟩⟩⟩ (by kernel_rfl) (by kernel_rfl))).cast (by (rw [s2,Int.add_assoc];done))
   ·have s2:=Q2g (l:=xs) (i:=i) (by omega);exact (GoE.endsT okF hJ Qab hg0 (Q44 B xs acc i dJ0)
     ⟨(Qbh (Int.not_lt.1 q0)),trivial⟩).cast (by (rw [s2];simp;done))
set_option maxHeartbeats 4000000 in
theorem Q6d (xs:List Int) (hx:∀x∈xs,-1000000000<=x/\x<=1000000000) (hl:xs.length<=1000) {B:Lo} (hJ:∀w,B.has w->J0 w):EndsT YP B (Qaj YP 124 17 (([slI xs]).map (Qat 0 4))) (.int .i64 (QfG xs)):=by
 exact ((Q4y xs hx hl hJ _) (0) (0) rfl (by omega) (by omega)
  (GoE.start.landM okF hJ Qab (Q4k B xs)
  trivial (by kernel_rfl) (by kernel_rfl))).cast (by (simp [*];done))
theorem Q6T (xs:List Int) (hx:∀x∈xs,-1000000000<=x/\x<=1000000000) (hl:xs.length<=1000):Qaq YP J0 124 #[slI xs] (.int .i64 (QfG xs)):=
 QaE (ts:=[slI xs]) Qbw (c0:=Qaj YP 124 17 (([slI xs]).map (Qat 0 4))) (by kernel_rfl) (by kernel_rfl) fun B hJ=> Q6d xs hx hl hJ
def QoR (B:Lo) (s:Qaa) (load:Int):List Prop:=[QaA []/\Qaq YP J0 124 #[slT (List.length (List.map Qad.weight (Qa8 load s.lots 0))) (Qac Qal (List.map Qad.weight (Qa8 load s.lots 0)))] (.int .i64 (QfG (List.map Qad.weight (Qa8 load s.lots 0)))),QaA []/\Qaq YP J0 92 #[slT (List.length (Qa8 load s.lots 0)) (Qac Qap (Qa8 load s.lots 0)),Value.func (Fn.func 140) #[] #[]] (slT (List.length (List.map Qad.weight (Qa8 load s.lots 0))) (Qac Qal (List.map Qad.weight (Qa8 load s.lots 0)))),QaA []/\Qaq YP J0 139 #[.int .i64 load,slT s.lots.length (Qac Qap s.lots)] (slT (List.length (Qa8 load s.lots 0)) (Qac Qap (Qa8 load s.lots 0)))]++([]:List Prop)
def QuI (s:Qaa) (load:Int):Qaz:=[(5,Qaf.pure (slT (List.length (Qa8 load s.lots 0)) (Qac Qap (Qa8 load s.lots 0))) []),(6,Qaf.pure (slT (List.length (List.map Qad.weight (Qa8 load s.lots 0))) (Qac Qal (List.map Qad.weight (Qa8 load s.lots 0)))) []),(9,Qaf.pure (.int .i64 (QfG (List.map Qad.weight (Qa8 load s.lots 0)))) [])]
theorem Q29 (B:Lo) (s:Qaa) (load:Int):QaY (Qam YP (Qa1 YP) J0 B 8 1 (Qaj YP 96 16 (([.agg (Qah s).toArray,.int .i64 load]).map (Qat 0 4))) H00 1
 (QuI s load++[(12,hvT)]) 0 [] []) []=some (.bool true,
 [(!ltq s.hold (QfG (List.map Qad.weight (Qa8 load s.lots 0))))=true]++QoR B s load):=by kernel_rfl
theorem Q23 (B:Lo) (s:Qaa) (load:Int):QaY (Qam YP (Qa1 YP) J0 B 8 1 (Qaj YP 96 16 (([.agg (Qah s).toArray,.int .i64 load]).map (Qat 0 4))) H00 1
 (QuI s load++[(12,hvF)]) 0 [] []) []=some (.bool false,
 [(!ltq s.hold (QfG (List.map Qad.weight (Qa8 load s.lots 0))))=false]++QoR B s load):=by kernel_rfl
set_option maxHeartbeats 4000000 in
theorem Q4d (s:Qaa) (load:Int) (hs:Qa3 s=true) (h0:0<=load) (h1:load < 64) (hx:QcF load<=s.lots.length) {B:Lo} (hJ:∀w,B.has w->J0 w):EndsT YP B (Qaj YP 96 16 (([.agg (Qah s).toArray,.int .i64 load]).map (Qat 0 4))) (.bool (QsI s load)):=by
 have hm:=Qav hs;have hw:∀x∈(Qa8 load s.lots 0).map Qad.weight,-1000000000<=x/\x<=1000000000:=fun x h=> by obtain ⟨l,hl,rfl⟩:=List.mem_map.1 h;have:=QdW (hm.2 l (Qde (Int.le_refl _) hx l hl));omega
 have hll:=QiF (s:=load) (n:=0) (xs:=s.lots) (Int.le_refl _);have hw2:((Qa8 load s.lots 0).map Qad.weight).length<=1000:=by rw [List.length_map];omega
 have hp0:QaA (QoR B s load):=by
  exact ⟨⟨trivial,Q6T (List.map Qad.weight (Qa8 load s.lots 0)) (by with_reducible assumption) (by with_reducible assumption)⟩,⟨⟨trivial,Q5I (Qa8 load s.lots 0) (by omega)⟩,⟨⟨trivial,Q6w (load) s.lots (by with_reducible assumption) (by with_reducible assumption) (by with_reducible assumption)⟩,trivial⟩⟩⟩
 by_cases q0:(QfG (List.map Qad.weight (Qa8 load s.lots 0)):Int)<=s.hold
 ·exact (GoE.endsT okF hJ Qab GoE.start (Q29 B s load)
   ⟨(Qdj q0),hp0⟩).cast (by (simp [QsI, *];done))
 ·exact (GoE.endsT okF hJ Qab GoE.start (Q23 B s load)
   ⟨(Qdi (Int.not_le.1 q0)),hp0⟩).cast (by (simp [QsI, *];done))
theorem Q6o (s:Qaa) (load:Int) (hs:Qa3 s=true) (h0:0<=load) (h1:load < 64) (hx:QcF load<=s.lots.length):Qaq YP J0 96 #[.agg (Qah s).toArray,.int .i64 load] (.bool (QsI s load)):=
 QaE (ts:=[.agg (Qah s).toArray,.int .i64 load]) Qbw (c0:=Qaj YP 96 16 (([.agg (Qah s).toArray,.int .i64 load]).map (Qat 0 4))) (by kernel_rfl) (by kernel_rfl) fun B hJ=> Q4d s load hs h0 h1 hx hJ
def Qkp (B:Lo) (s:Qaa) (load:List Int):List Prop:=[QaA []/\Qaq YP J0 116 #[slT load.length (Qac Qal load)] (.int .i64 (QaG load 0)),QaA []/\Qaq YP J0 115 #[slT load.length (Qac Qal load),.int .i64 (↑s.lots.length:Int)] (.bool true)]++([]:List Prop)
def QnU (s:Qaa) (load:List Int):Qaz:=[(6,Qaf.pure (.bool true) []),(10,Qaf.pure (.int .i64 (QaG load 0)) [])]
theorem QvC (B:Lo) (s:Qaa) (load:List Int):QaY (Qam YP (Qa1 YP) J0 B 6 1 (Qaj YP 80 16 (([.agg (Qah s).toArray,slI load]).map (Qat 0 4))) H00 1
 (QnU s load++[(11,Qaf.pure (.bool true) [])]) 0 [] []) []=some (.bool true,
 [QaA []/\Qaq YP J0 96 #[.agg #[slT s.stock.length (Qac Qal s.stock),slT s.use.length (Qac Qa7 s.use),.int .i64 s.glo,.int .i64 s.ghi,slT s.lots.length (Qac Qap s.lots),.int .i64 s.hold],.int .i64 (QaG load 0)] (.bool true)]++Qkp B s load):=by kernel_rfl
theorem Qvy (B:Lo) (s:Qaa) (load:List Int):QaY (Qam YP (Qa1 YP) J0 B 6 1 (Qaj YP 80 16 (([.agg (Qah s).toArray,slI load]).map (Qat 0 4))) H00 1
 (QnU s load++[(11,Qaf.pure (.bool false) [])]) 0 [] []) []=some (.bool false,
 [QaA []/\Qaq YP J0 96 #[.agg #[slT s.stock.length (Qac Qal s.stock),slT s.use.length (Qac Qa7 s.use),.int .i64 s.glo,.int .i64 s.ghi,slT s.lots.length (Qac Qap s.lots),.int .i64 s.hold],.int .i64 (QaG load 0)] (.bool false)]++Qkp B s load):=by kernel_rfl
theorem Qva (B:Lo) (s:Qaa) (load:List Int):QaY (Qam YP (Qa1 YP) J0 B 6 1 (Qaj YP 80 16 (([.agg (Qah s).toArray,slI load]).map (Qat 0 4))) H00 1
 [(6,Qaf.pure (.bool false) [])] 0 [] []) []=some (.bool false,
 [QaA []/\Qaq YP J0 115 #[slT load.length (Qac Qal load),.int .i64 (↑s.lots.length:Int)] (.bool false)]):=by kernel_rfl
set_option maxHeartbeats 4000000 in
theorem QxO (s:Qaa) (load:List Int) (hs:Qa3 s=true) {B:Lo} (hJ:∀w,B.has w->J0 w):EndsT YP B (Qaj YP 80 16 (([.agg (Qah s).toArray,slI load]).map (Qat 0 4))) (.bool (Qck s load)):=by
 have hm:=Qav hs;cases q0:Qeh (↑s.lots.length:Int) load 0 with
 | true=>
   have hp0:QaA (Qkp B s load):=by
    have g1:=QjT ‹Qeh s.lots.length load 0=true› (Int.le_refl 0);have g2:∀x∈load,0<=x/\x<=61:=fun x h=> by have:=g1 x h;omega
    have g3:=Qkd (k:=s.lots.length) (by omega) load 0 g1 (Int.le_refl 0) (Int.pow_pos (by decide));have g4:QaG load 0 < 64:=Int.lt_of_lt_of_le g3.2 (by have:(2:Nat) ^ s.lots.length<=2 ^ 6:=Nat.pow_le_pow_right (by decide) (by omega);have e:(2:Int) ^ s.lots.length=((2 ^ s.lots.length:Nat):Int):=by {rw [Int.natCast_pow];rfl};rw [e];omega);have g5:=QlD g3.1 g3.2;have g6:=g3.1;exact ⟨⟨trivial,pOf (load) (by with_reducible assumption)⟩,⟨⟨trivial,(by have t_:=Ql1 (load) ((↑s.lots.length:Int)) (by omega);rw [q0] at t_;exact t_)⟩,trivial⟩⟩
   cases q1:QsI s (QaG load 0) with
   | true=>
     have g1:=QjT ‹Qeh s.lots.length load 0=true› (Int.le_refl 0);have g2:∀x∈load,0<=x/\x<=61:=fun x h=> by have:=g1 x h;omega
     have g3:=Qkd (k:=s.lots.length) (by omega) load 0 g1 (Int.le_refl 0) (Int.pow_pos (by decide));have g4:QaG load 0 < 64:=Int.lt_of_lt_of_le g3.2 (by have:(2:Nat) ^ s.lots.length<=2 ^ 6:=Nat.pow_le_pow_right (by decide) (by omega);have e:(2:Int) ^ s.lots.length=((2 ^ s.lots.length:Nat):Int):=by {rw [Int.natCast_pow];rfl};rw [e];omega);have g5:=QlD g3.1 g3.2;have g6:=g3.1;exact (GoE.endsT okF hJ Qab GoE.start (QvC B s load)
      ⟨⟨trivial,(by have t_:=Q6o (s) (QaG load 0) (by with_reducible assumption) (by with_reducible assumption) (by with_reducible assumption) (by with_reducible assumption);rw [q1] at t_;exact t_)⟩,hp0⟩).cast (by (simp [Qck, *];done))
   | false=>
     have g1:=QjT ‹Qeh s.lots.length load 0=true› (Int.le_refl 0);have g2:∀x∈load,0<=x/\x<=61:=fun x h=> by have:=g1 x h;omega
     have g3:=Qkd (k:=s.lots.length) (by omega) load 0 g1 (Int.le_refl 0) (Int.pow_pos (by decide));have g4:QaG load 0 < 64:=Int.lt_of_lt_of_le g3.2 (by have:(2:Nat) ^ s.lots.length<=2 ^ 6:=Nat.pow_le_pow_right (by decide) (by omega);have e:(2:Int) ^ s.lots.length=((2 ^ s.lots.length:Nat):Int):=by {rw [Int.natCast_pow];rfl};rw [e];omega);have g5:=QlD g3.1 g3.2;have g6:=g3.1;exact (GoE.endsT okF hJ Qab GoE.start (Qvy B s load)
      ⟨⟨trivial,(by have t_:=Q6o (s) (QaG load 0) (by with_reducible assumption) (by with_reducible assumption) (by with_reducible assumption) (by with_reducible assumption);rw [q1] at t_;exact t_)⟩,hp0⟩).cast (by (simp [Qck, *];done))
 | false=>
   exact (GoE.endsT okF hJ Qab GoE.start (Qva B s load)
    ⟨⟨trivial,(by have t_:=Ql1 (load) ((↑s.lots.length:Int)) (by omega);rw [q0] at t_;exact t_)⟩,trivial⟩).cast (by (simp [Qck, *];done))
theorem QoL (s:Qaa) (load:List Int) (hs:Qa3 s=true):Qaq YP J0 80 #[.agg (Qah s).toArray,slI load] (.bool (Qck s load)):=
 QaE (ts:=[.agg (Qah s).toArray,slI load]) Qbw (c0:=Qaj YP 80 16 (([.agg (Qah s).toArray,slI load]).map (Qat 0 4))) (by kernel_rfl) (by kernel_rfl) fun B hJ=> QxO s load hs hJ
end
end Go.Proofs.YtiabgkiccaodmaaGreat

namespace Go.Proofs.YtiabgkiccaodmaaGreat
open Go Go.CE Go.RowKit
noncomputable section
set_option maxRecDepth 100000
structure Qao where
 uses:List Int
 gaps:List Int
 goods:List Row
deriving Inhabited
abbrev slR (xs:List Row):Value:=slT xs.length (Qac Qa0 xs)
def QaC (t:Qao):List Value:=[slI t.uses,slI t.gaps,slR t.goods]
def Q3D (ns:List Int) (ss:List Span) (i:Int):Bool:=(upI i ns.length).all fun k=> inB (ns.getD k.toNat default) (ss.getD k.toNat default).lo (ss.getD k.toNat default).hi
theorem QlV {ns:List Int} {ss:List Span} {i:Int} (h:i < ns.length):Q3D ns ss i=(inB (ns.getD i.toNat default) (ss.getD i.toNat default).lo (ss.getD i.toNat default).hi && Q3D ns ss (i+1)):=by
 unfold Q3D;rw [QeL h];rfl
theorem Q1q {ns:List Int} {ss:List Span} {i:Int} (h:ns.length<=i):Q3D ns ss i=true:=by unfold Q3D;rw [Qiu h];rfl
def QcJ (ns:List Int) (ss:List Span):Bool:=decide (ns.length=ss.length) && Q3D ns ss 0
def Q39 (s:Qaa) (all:List Row) (i:Int):Bool:=(upI i s.lots.length).all fun k=> QcJ (all.getD k.toNat default) (s.lots.getD k.toNat default).goods
theorem QmO {s:Qaa} {all:List Row} {i:Int} (h:i < s.lots.length):Q39 s all i=(QcJ (all.getD i.toNat default) (s.lots.getD i.toNat default).goods && Q39 s all (i+1)):=by
 unfold Q39;rw [QeL h];rfl
theorem Q2L {s:Qaa} {all:List Row} {i:Int} (h:s.lots.length<=i):Q39 s all i=true:=by unfold Q39;rw [Qiu h];rfl
def QhW (s:Qaa) (all:List Row):Bool:=decide (all.length=s.lots.length) && Q39 s all 0
def Qhl (s:Qaa) (days:Int) (gaps:List Int):Bool:=decide (gaps.length<=300) && (gaps.all (fun x=> inB x s.glo s.ghi) && decide (days<=QfG gaps))
def Qb7 (s:Qaa) (days:Int) (t:Qao):Bool:=QcJ t.uses s.use && (Qhl s days t.gaps && QhW s t.goods)
theorem Qaw {s:Qaa} (h:Qa3 s=true):1<=s.glo/\s.glo<=s.ghi/\s.ghi<=60:=by
 simp only [Qa3,QbE,YB,decide_eq_true_iff] at h;exact ⟨h.2.2.2.2.1.1,h.2.2.2.2.1.2.1,h.2.2.2.2.1.2.2⟩
def Qen (ns:List Int) (ss:List Span) (i:Int):List Value:=[Qa4 1 (slT ss.length (Qac Qa7 ss)),Qa4 1 (slT ns.length (Qac Qal ns)),.int .i64 (↑ns.length:Int),.int .i64 i]
def Qcs (ns:List Int) (ss:List Span) (i:Int):List Obj:=[]
def Qel:List Item:=([.code [1,1,0,1,0,0],.inLoop [1,1,0,1,0,0],.inBlock 0,.code [1,1,1]]).map (it (Qar YP 117))
def QsX (B:Lo) (c0:CF) (ns:List Int) (ss:List Span) (i:Int):Prop:=∃dJ:Nat->Value,(∀t,Qbc (dJ t))/\GoE YP B c0 H00 1 (Qa9 117 27 (([1,12,13,14]:List Nat).zip (Qen ns ss i)) dJ Qel) (Qa5 (Qcs ns ss i)) (2+(Qcs ns ss i).length) []
def Qg8 (ss:List Span) (i:Int):Array Value:=#[.int .i64 (Span.lo (ss.getD i.toNat default)),.int .i64 (Span.hi (ss.getD i.toNat default))]
def Qil (B:Lo) (ns:List Int) (ss:List Span) (i:Int) (dJ0:Nat->Value):List Prop:=[i=(↑i.toNat:Int)/\Int.toNat i < List.length ss/\Array.extract (Qac Qa7 ss) (Int.toNat i * TypeInfo.size Tryz.t25) (Int.toNat i * TypeInfo.size Tryz.t25+TypeInfo.size Tryz.t25)=(Qg8 ss i),i=(↑i.toNat:Int)/\Int.toNat i < List.length ns/\Array.extract (Qac Qal ns) (Int.toNat i * TypeInfo.size Tryz.t3) (Int.toNat i * TypeInfo.size Tryz.t3+TypeInfo.size Tryz.t3)=#[.int .i64 (ns.getD i.toNat default)],ltq i (↑ns.length:Int)=true]++([]:List Prop)
def QmH (ns:List Int) (ss:List Span) (i:Int) (dJ0:Nat->Value):Qaz:=[(0,hvT),(2,Qaf.tidx i.toNat #[.int .i64 (ns.getD i.toNat default)]),(9,Qaf.tidx i.toNat (Qg8 ss i))]
theorem Qt7 (B:Lo) (ns:List Int) (ss:List Span) (i:Int) (dJ0:Nat->Value):landM (Qam YP (Qa1 YP) J0 B 16 1 (Qa9 117 27 (([1,12,13,14]:List Nat).zip (Qen ns ss i)) dJ0 Qel) (Qa5 (Qcs ns ss i)) (2+(Qcs ns ss i).length)
 (QmH ns ss i dJ0++[(11,Qaf.pure (.bool true) []),(13,hvI (i+1))]) 0 [] []) [1,12,13,14] [] []=some ⟨117,27,Qel,[],.run,none,Qen ns ss (i+1),Qcs ns ss (i+1),
 [wq (i+1)=i+1,QaA []/\Qaq YP J0 73 #[.int .i64 (ns.getD i.toNat default),.agg (Qg8 ss i)] (.bool true)]++Qil B ns ss i dJ0⟩:=by kernel_rfl
theorem Qtf (B:Lo) (ns:List Int) (ss:List Span) (i:Int) (dJ0:Nat->Value):QaY (Qam YP (Qa1 YP) J0 B 16 1 (Qa9 117 27 (([1,12,13,14]:List Nat).zip (Qen ns ss i)) dJ0 Qel) (Qa5 (Qcs ns ss i)) (2+(Qcs ns ss i).length)
 (QmH ns ss i dJ0++[(11,Qaf.pure (.bool false) [])]) 0 [] []) []=some (.bool false,
 [QaA []/\Qaq YP J0 73 #[.int .i64 (ns.getD i.toNat default),.agg (Qg8 ss i)] (.bool false)]++Qil B ns ss i dJ0):=by kernel_rfl
theorem Qt8 (B:Lo) (ns:List Int) (ss:List Span) (i:Int) (dJ0:Nat->Value):QaY (Qam YP (Qa1 YP) J0 B 9 1 (Qa9 117 27 (([1,12,13,14]:List Nat).zip (Qen ns ss i)) dJ0 Qel) (Qa5 (Qcs ns ss i)) (2+(Qcs ns ss i).length)
 [(0,hvF)] 0 [] []) []=some (.bool true,
 [ltq i (↑ns.length:Int)=false]):=by kernel_rfl
theorem QsE (B:Lo) (ns:List Int) (ss:List Span):QaY (Qam YP (Qa1 YP) J0 B 10 1 (Qaj YP 117 27 (([slI ns,Qnl ss]).map (Qat 0 4))) H00 1
 [(5,hvT)] 0 [] []) []=some (.bool false,
 [(!eqq (↑ns.length:Int) (↑ss.length:Int))=true]):=by kernel_rfl
theorem QsN (B:Lo) (ns:List Int) (ss:List Span):landM (Qam YP (Qa1 YP) J0 B 12 1 (Qaj YP 117 27 (([slI ns,Qnl ss]).map (Qat 0 4))) H00 1
 [(5,hvF)] 0 [] []) [1,12,13,14] [] []=some ⟨117,27,Qel,[],.run,none,Qen ns ss (0),Qcs ns ss (0),
 [(!eqq (↑ns.length:Int) (↑ss.length:Int))=false]⟩:=by kernel_rfl
set_option maxHeartbeats 4000000 in
theorem Qs9 (ns:List Int) (ss:List Span)  (hfacts:ns.length<=9223372036854775807/\ss.length<=9223372036854775807) {B:Lo} (hJ:∀w,B.has w->J0 w) {c0:CF}:∀m:Nat,(∀(i:Int),ns.length - i.toNat=m->∀(h0:0<=i) (hl:ns.length=ss.length),QsX B c0 ns ss i->EndsT YP B c0 (.bool (Q3D ns ss i))):=by
 intro m0;induction m0 using Nat.strongRecOn with
 | _ m0 ih0=>
   intro i hm0 h0 hl ⟨dJ0,hdJ0,hg0⟩;by_cases q0:(i:Int) < ((↑ns.length:Int))
   ·have hp0:QaA (Qil B ns ss i dJ0):=by
     have s2:=QlV (ns:=ns) (ss:=ss) q0;exact ⟨⟨by omega,by omega,(Qae (z:=2) (fun _=> rfl) (by omega))⟩,⟨⟨by omega,by omega,(Qae (z:=1) (fun _=> rfl) (by omega))⟩,⟨(QaW q0),trivial⟩⟩⟩
    cases q1:inB (ns.getD i.toNat default) (Span.lo (ss.getD i.toNat default)) (Span.hi (ss.getD i.toNat default)) with
    | true=>
      have s2:=QlV (ns:=ns) (ss:=ss) q0;exact ((ih0 _ (by omega)) (i+1) rfl (by omega) (by with_reducible assumption)
       (hg0.landM okF hJ Qab (Qt7 B ns ss i dJ0)
       ⟨(QaL (by omega) (by omega)),⟨⟨trivial,(by have t_:=Qxg (ns.getD i.toNat default) (Span.lo (ss.getD i.toNat default)) (Span.hi (ss.getD i.toNat default));rw [q1] at t_;exact t_)⟩,hp0⟩⟩ (by kernel_rfl) (by kernel_rfl))).cast (by (rw [s2];simp_all;done))
    | false=>
      have s2:=QlV (ns:=ns) (ss:=ss) q0;exact (GoE.endsT okF hJ Qab hg0 (Qtf B ns ss i dJ0)
       ⟨⟨trivial,(by have t_:=Qxg (ns.getD i.toNat default) (Span.lo (ss.getD i.toNat default)) (Span.hi (ss.getD i.toNat default));rw [q1] at t_;exact t_)⟩,hp0⟩).cast (by (rw [s2];simp_all;done))
   ·have s2:=Q1q (ns:=ns) (ss:=ss) (i:=i) (by omega);exact (GoE.endsT okF hJ Qab hg0 (Qt8 B ns ss i dJ0)
     ⟨(Qbh (Int.not_lt.1 q0)),trivial⟩).cast (by (rw [s2];done))
set_option maxHeartbeats 4000000 in
theorem Qvi (ns:List Int) (ss:List Span)  (hfacts:ns.length<=9223372036854775807/\ss.length<=9223372036854775807) {B:Lo} (hJ:∀w,B.has w->J0 w):EndsT YP B (Qaj YP 117 27 (([slI ns,Qnl ss]).map (Qat 0 4))) (.bool (QcJ ns ss)):=by
 by_cases q0:((↑ns.length:Int):Int)≠((↑ss.length:Int))
 ·exact (GoE.endsT okF hJ Qab GoE.start (QsE B ns ss)
   ⟨(QmQ q0),trivial⟩).cast (by (simp only [QcJ];rw [decide_eq_false (by omega)];rfl))
 ·exact ((Qs9 ns ss hfacts hJ _) (0) rfl (by omega) (by omega)
   (GoE.start.landM okF hJ Qab (QsN B ns ss)
   ⟨(QmC (Decidable.of_not_not q0)),trivial⟩ (by kernel_rfl) (by kernel_rfl))).cast (by (simp only [QcJ];rw [decide_eq_true (by omega)];rfl))
theorem Qlj (ns:List Int) (ss:List Span)  :Qaq YP J0 117 #[slI ns,Qnl ss] (.bool (QcJ ns ss)):=
 Qcw (ts:=[slI ns,Qnl ss]) (ns.length<=9223372036854775807/\ss.length<=9223372036854775807) (fun _ _ ht=> ⟨ht.ln (i:=0) rfl,ht.ln (i:=1) rfl⟩) Qbw (c0:=Qaj YP 117 27 (([slI ns,Qnl ss]).map (Qat 0 4))) (by kernel_rfl) (by kernel_rfl) fun hfacts B hJ=> Qvi ns ss  hfacts hJ
def Qia (B:Lo) (s:Qaa) (days:Int) (gaps:List Int):List Prop:=[(!ltq 300 (↑gaps.length:Int))=true]++([]:List Prop)
def QlE (s:Qaa) (days:Int) (gaps:List Int):Qaz:=[(4,hvT)]
def Qip (B:Lo) (s:Qaa) (days:Int) (gaps:List Int):List Prop:=[QaA []/\Qaq YP J0 124 #[slT gaps.length (Qac Qal gaps)] (.int .i64 (QfG gaps)),QaA []/\Qaq YP J0 100 #[slT gaps.length (Qac Qal gaps),.int .i64 s.glo,.int .i64 s.ghi] (.bool true)]++Qia B s days gaps
def Qmb (s:Qaa) (days:Int) (gaps:List Int):Qaz:=QlE s days gaps++[(13,Qaf.pure (.bool true) []),(17,Qaf.pure (.int .i64 (QfG gaps)) [])]
theorem Qs6 (B:Lo) (s:Qaa) (days:Int) (gaps:List Int):QaY (Qam YP (Qa1 YP) J0 B 6 1 (Qaj YP 118 26 (([.agg (Qah s).toArray,.int .i64 days,slI gaps]).map (Qat 0 4))) H00 1
 (Qmb s days gaps++[(19,hvT)]) 0 [] []) []=some (.bool true,
 [(!ltq (QfG gaps) days)=true]++Qip B s days gaps):=by kernel_rfl
theorem QsU (B:Lo) (s:Qaa) (days:Int) (gaps:List Int):QaY (Qam YP (Qa1 YP) J0 B 6 1 (Qaj YP 118 26 (([.agg (Qah s).toArray,.int .i64 days,slI gaps]).map (Qat 0 4))) H00 1
 (Qmb s days gaps++[(19,hvF)]) 0 [] []) []=some (.bool false,
 [(!ltq (QfG gaps) days)=false]++Qip B s days gaps):=by kernel_rfl
theorem Qt4 (B:Lo) (s:Qaa) (days:Int) (gaps:List Int):QaY (Qam YP (Qa1 YP) J0 B 6 1 (Qaj YP 118 26 (([.agg (Qah s).toArray,.int .i64 days,slI gaps]).map (Qat 0 4))) H00 1
 (QlE s days gaps++[(13,Qaf.pure (.bool false) [])]) 0 [] []) []=some (.bool false,
 [QaA []/\Qaq YP J0 100 #[slT gaps.length (Qac Qal gaps),.int .i64 s.glo,.int .i64 s.ghi] (.bool false)]++Qia B s days gaps):=by kernel_rfl
theorem Qs7 (B:Lo) (s:Qaa) (days:Int) (gaps:List Int):QaY (Qam YP (Qa1 YP) J0 B 6 1 (Qaj YP 118 26 (([.agg (Qah s).toArray,.int .i64 days,slI gaps]).map (Qat 0 4))) H00 1
 [(4,hvF)] 0 [] []) []=some (.bool false,
 [(!ltq 300 (↑gaps.length:Int))=false]):=by kernel_rfl
set_option maxHeartbeats 4000000 in
theorem Qwv (s:Qaa) (days:Int) (gaps:List Int) (hs:Qa3 s=true) (hfacts:gaps.length<=9223372036854775807) {B:Lo} (hJ:∀w,B.has w->J0 w):EndsT YP B (Qaj YP 118 26 (([.agg (Qah s).toArray,.int .i64 days,slI gaps]).map (Qat 0 4))) (.bool (Qhl s days gaps)):=by
 have hg:=Qaw hs;by_cases q0:((↑gaps.length:Int):Int)<=(300)
 ·have hp0:QaA (Qia B s days gaps):=by
   exact ⟨(Qdj q0),trivial⟩
  cases q1:List.all gaps fun x=> inB x s.glo s.ghi with
  | true=>
    have hp1:QaA (Qip B s days gaps):=by
     have hx:∀x∈gaps,-1000000000<=x/\x<=1000000000:=fun x h=> by have:=QaU.1 (List.all_eq_true.1 ‹gaps.all (fun x=> inB x s.glo s.ghi)=true› x h);omega
     exact ⟨⟨trivial,Q6T (gaps) (by with_reducible assumption) (by omega)⟩,⟨⟨trivial,(by have t_:=QuH (gaps) s.glo s.ghi;rw [q1] at t_;exact t_)⟩,hp0⟩⟩
    by_cases q2:(days:Int)<=(QfG gaps)
    ·have hx:∀x∈gaps,-1000000000<=x/\x<=1000000000:=fun x h=> by have:=QaU.1 (List.all_eq_true.1 ‹gaps.all (fun x=> inB x s.glo s.ghi)=true› x h);omega
     exact (GoE.endsT okF hJ Qab GoE.start (Qs6 B s days gaps)
      ⟨(Qdj q2),hp1⟩).cast (by (simp_all [Qhl];omega))
    ·have hx:∀x∈gaps,-1000000000<=x/\x<=1000000000:=fun x h=> by have:=QaU.1 (List.all_eq_true.1 ‹gaps.all (fun x=> inB x s.glo s.ghi)=true› x h);omega
     exact (GoE.endsT okF hJ Qab GoE.start (QsU B s days gaps)
      ⟨(Qdi (Int.not_le.1 q2)),hp1⟩).cast (by (simp [Qhl, *];done))
  | false=>
    exact (GoE.endsT okF hJ Qab GoE.start (Qt4 B s days gaps)
     ⟨⟨trivial,(by have t_:=QuH (gaps) s.glo s.ghi;rw [q1] at t_;exact t_)⟩,hp0⟩).cast (by (simp [Qhl, *];done))
 ·exact (GoE.endsT okF hJ Qab GoE.start (Qs7 B s days gaps)
   ⟨(Qdi (Int.not_le.1 q0)),trivial⟩).cast (by (simp_all [Qhl];omega))
theorem QuK (s:Qaa) (days:Int) (gaps:List Int) (hs:Qa3 s=true):Qaq YP J0 118 #[.agg (Qah s).toArray,.int .i64 days,slI gaps] (.bool (Qhl s days gaps)):=
 Qcw (ts:=[.agg (Qah s).toArray,.int .i64 days,slI gaps]) (gaps.length<=9223372036854775807) (fun _ _ ht=> ht.ln (i:=2) rfl) Qbw (c0:=Qaj YP 118 26 (([.agg (Qah s).toArray,.int .i64 days,slI gaps]).map (Qat 0 4))) (by kernel_rfl) (by kernel_rfl) fun hfacts B hJ=> Qwv s days gaps hs hfacts hJ
def QdE (s:Qaa) (all:List Row) (i:Int):List Value:=[Qa4 1 (slT all.length (Qac Qa0 all)),Qa4 1 (slT s.lots.length (Qac Qap s.lots)),.int .i64 (↑s.lots.length:Int),.int .i64 i]
def QbO (s:Qaa) (all:List Row) (i:Int):List Obj:=[]
def QdD:List Item:=([.code [1,1,0,1,0,0],.inLoop [1,1,0,1,0,0],.inBlock 0,.code [1,1,1]]).map (it (Qar YP 119))
def QpN (B:Lo) (c0:CF) (s:Qaa) (all:List Row) (i:Int):Prop:=∃dJ:Nat->Value,(∀t,Qbc (dJ t))/\GoE YP B c0 H00 1 (Qa9 119 30 (([1,14,15,16]:List Nat).zip (QdE s all i)) dJ QdD) (Qa5 (QbO s all i)) (2+(QbO s all i).length) []
def QgH (B:Lo) (s:Qaa) (all:List Row) (i:Int) (dJ0:Nat->Value):List Prop:=[i=(↑i.toNat:Int)/\Int.toNat i < List.length all/\Array.extract (Qac Qa0 all) (Int.toNat i * TypeInfo.size Tryz.t22) (Int.toNat i * TypeInfo.size Tryz.t22+TypeInfo.size Tryz.t22)=#[slT (List.length (all.getD i.toNat default)) (Qac Qal (all.getD i.toNat default))],i=(↑i.toNat:Int)/\Int.toNat i < List.length s.lots/\Array.extract (Qac Qap s.lots) (Int.toNat i * TypeInfo.size Tryz.t118) (Int.toNat i * TypeInfo.size Tryz.t118+TypeInfo.size Tryz.t118)=#[slT (List.length (Qad.goods (s.lots.getD i.toNat default))) (Qac Qa7 (Qad.goods (s.lots.getD i.toNat default))),.int .i64 (Qad.weight (s.lots.getD i.toNat default)),.int .i64 (Qad.cost (s.lots.getD i.toNat default))],ltq i (↑s.lots.length:Int)=true]++([]:List Prop)
def QkE (s:Qaa) (all:List Row) (i:Int) (dJ0:Nat->Value):Qaz:=[(0,hvT),(2,Qaf.tidx i.toNat #[slT (List.length (Qad.goods (s.lots.getD i.toNat default))) (Qac Qa7 (Qad.goods (s.lots.getD i.toNat default))),.int .i64 (Qad.weight (s.lots.getD i.toNat default)),.int .i64 (Qad.cost (s.lots.getD i.toNat default))]),(9,Qaf.tidx i.toNat #[slT (List.length (all.getD i.toNat default)) (Qac Qal (all.getD i.toNat default))])]
theorem QrO (B:Lo) (s:Qaa) (all:List Row) (i:Int) (dJ0:Nat->Value):landM (Qam YP (Qa1 YP) J0 B 16 1 (Qa9 119 30 (([1,14,15,16]:List Nat).zip (QdE s all i)) dJ0 QdD) (Qa5 (QbO s all i)) (2+(QbO s all i).length)
 (QkE s all i dJ0++[(13,Qaf.pure (.bool true) []),(15,hvI (i+1))]) 0 [] []) [1,14,15,16] [] []=some ⟨119,30,QdD,[],.run,none,QdE s all (i+1),QbO s all (i+1),
 [wq (i+1)=i+1,QaA []/\Qaq YP J0 117 #[slT (List.length (all.getD i.toNat default)) (Qac Qal (all.getD i.toNat default)),slT (List.length (Qad.goods (s.lots.getD i.toNat default))) (Qac Qa7 (Qad.goods (s.lots.getD i.toNat default)))] (.bool true)]++QgH B s all i dJ0⟩:=by kernel_rfl
theorem Qrh (B:Lo) (s:Qaa) (all:List Row) (i:Int) (dJ0:Nat->Value):QaY (Qam YP (Qa1 YP) J0 B 16 1 (Qa9 119 30 (([1,14,15,16]:List Nat).zip (QdE s all i)) dJ0 QdD) (Qa5 (QbO s all i)) (2+(QbO s all i).length)
 (QkE s all i dJ0++[(13,Qaf.pure (.bool false) [])]) 0 [] []) []=some (.bool false,
 [QaA []/\Qaq YP J0 117 #[slT (List.length (all.getD i.toNat default)) (Qac Qal (all.getD i.toNat default)),slT (List.length (Qad.goods (s.lots.getD i.toNat default))) (Qac Qa7 (Qad.goods (s.lots.getD i.toNat default)))] (.bool false)]++QgH B s all i dJ0):=by kernel_rfl
theorem QqN (B:Lo) (s:Qaa) (all:List Row) (i:Int) (dJ0:Nat->Value):QaY (Qam YP (Qa1 YP) J0 B 9 1 (Qa9 119 30 (([1,14,15,16]:List Nat).zip (QdE s all i)) dJ0 QdD) (Qa5 (QbO s all i)) (2+(QbO s all i).length)
 [(0,hvF)] 0 [] []) []=some (.bool true,
 [ltq i (↑s.lots.length:Int)=false]):=by kernel_rfl
theorem Qqh (B:Lo) (s:Qaa) (all:List Row):QaY (Qam YP (Qa1 YP) J0 B 10 1 (Qaj YP 119 30 (([.agg (Qah s).toArray,slR all]).map (Qat 0 4))) H00 1
 [(7,hvT)] 0 [] []) []=some (.bool false,
 [(!eqq (↑all.length:Int) (↑s.lots.length:Int))=true]):=by kernel_rfl
theorem Qq6 (B:Lo) (s:Qaa) (all:List Row):landM (Qam YP (Qa1 YP) J0 B 12 1 (Qaj YP 119 30 (([.agg (Qah s).toArray,slR all]).map (Qat 0 4))) H00 1
 [(7,hvF)] 0 [] []) [1,14,15,16] [] []=some ⟨119,30,QdD,[],.run,none,QdE s all (0),QbO s all (0),
 [(!eqq (↑all.length:Int) (↑s.lots.length:Int))=false]⟩:=by kernel_rfl
set_option maxHeartbeats 4000000 in
theorem Qr8 (s:Qaa) (all:List Row)  (hfacts:all.length<=9223372036854775807/\s.lots.length<=9223372036854775807) {B:Lo} (hJ:∀w,B.has w->J0 w) {c0:CF}:∀m:Nat,(∀(i:Int),s.lots.length - i.toNat=m->∀(h0:0<=i) (hl:all.length=s.lots.length),QpN B c0 s all i->EndsT YP B c0 (.bool (Q39 s all i))):=by
 intro m0;induction m0 using Nat.strongRecOn with
 | _ m0 ih0=>
   intro i hm0 h0 hl ⟨dJ0,hdJ0,hg0⟩;by_cases q0:(i:Int) < ((↑s.lots.length:Int))
   ·have hp0:QaA (QgH B s all i dJ0):=by
     have s2:=QmO (s:=s) (all:=all) q0;exact ⟨⟨by omega,by omega,(Qae (z:=1) (fun _=> rfl) (by omega))⟩,⟨⟨by omega,by omega,(Qae (z:=3) (fun _=> rfl) (by omega))⟩,⟨(QaW q0),trivial⟩⟩⟩
    cases q1:QcJ (all.getD i.toNat default) (Qad.goods (s.lots.getD i.toNat default)) with
    | true=>
      have s2:=QmO (s:=s) (all:=all) q0;exact ((ih0 _ (by omega)) (i+1) rfl (by omega) (by with_reducible assumption)
       (hg0.landM okF hJ Qab (QrO B s all i dJ0)
       ⟨(QaL (by omega) (by omega)),⟨⟨trivial,(by have t_:=Qlj (all.getD i.toNat default) (Qad.goods (s.lots.getD i.toNat default));rw [q1] at t_;exact t_)⟩,hp0⟩⟩ (by kernel_rfl) (by kernel_rfl))).cast (by (rw [s2];simp_all;done))
    | false=>
      have s2:=QmO (s:=s) (all:=all) q0;exact (GoE.endsT okF hJ Qab hg0 (Qrh B s all i dJ0)
       ⟨⟨trivial,(by have t_:=Qlj (all.getD i.toNat default) (Qad.goods (s.lots.getD i.toNat default));rw [q1] at t_;exact t_)⟩,hp0⟩).cast (by (rw [s2];simp_all;done))
   ·have s2:=Q2L (s:=s) (all:=all) (i:=i) (by omega);exact (GoE.endsT okF hJ Qab hg0 (QqN B s all i dJ0)
     ⟨(Qbh (Int.not_lt.1 q0)),trivial⟩).cast (by (rw [s2];done))
set_option maxHeartbeats 4000000 in
theorem Qsy (s:Qaa) (all:List Row)  (hfacts:all.length<=9223372036854775807/\s.lots.length<=9223372036854775807) {B:Lo} (hJ:∀w,B.has w->J0 w):EndsT YP B (Qaj YP 119 30 (([.agg (Qah s).toArray,slR all]).map (Qat 0 4))) (.bool (QhW s all)):=by
 by_cases q0:((↑all.length:Int):Int)≠((↑s.lots.length:Int))
 ·exact (GoE.endsT okF hJ Qab GoE.start (Qqh B s all)
   ⟨(QmQ q0),trivial⟩).cast (by (simp only [QhW];rw [decide_eq_false (by omega)];rfl))
 ·exact ((Qr8 s all hfacts hJ _) (0) rfl (by omega) (by omega)
   (GoE.start.landM okF hJ Qab (Qq6 B s all)
   ⟨(QmC (Decidable.of_not_not q0)),trivial⟩ (by kernel_rfl) (by kernel_rfl))).cast (by (simp only [QhW];rw [decide_eq_true (by omega)];rfl))
theorem Qrj (s:Qaa) (all:List Row)  :Qaq YP J0 119 #[.agg (Qah s).toArray,slR all] (.bool (QhW s all)):=
 Qcw (ts:=[.agg (Qah s).toArray,slR all]) (all.length<=9223372036854775807/\s.lots.length<=9223372036854775807) (fun _ _ ht=> ⟨ht.ln (i:=1) rfl,ht.ln2 (i:=0) (j:=4) rfl rfl⟩) Qbw (c0:=Qaj YP 119 30 (([.agg (Qah s).toArray,slR all]).map (Qat 0 4))) (by kernel_rfl) (by kernel_rfl) fun hfacts B hJ=> Qsy s all  hfacts hJ
def Qg2 (s:Qaa):Array Value:=#[slT s.stock.length (Qac Qal s.stock),slT s.use.length (Qac Qa7 s.use),.int .i64 s.glo,.int .i64 s.ghi,slT s.lots.length (Qac Qap s.lots),.int .i64 s.hold]
def Qit (B:Lo) (s:Qaa) (days:Int) (t:Qao):List Prop:=[QaA []/\Qaq YP J0 117 #[slT t.uses.length (Qac Qal t.uses),slT s.use.length (Qac Qa7 s.use)] (.bool true)]++([]:List Prop)
def Ql8 (s:Qaa) (days:Int) (t:Qao):Qaz:=[(7,Qaf.pure (.bool true) [])]
def Qio (B:Lo) (s:Qaa) (days:Int) (t:Qao):List Prop:=[QaA []/\Qaq YP J0 118 #[.agg (Qg2 s),.int .i64 days,slT t.gaps.length (Qac Qal t.gaps)] (.bool true)]++Qit B s days t
def Qlo (s:Qaa) (days:Int) (t:Qao):Qaz:=Ql8 s days t++[(13,Qaf.pure (.bool true) [])]
theorem Qty (B:Lo) (s:Qaa) (days:Int) (t:Qao):QaY (Qam YP (Qa1 YP) J0 B 6 1 (Qaj YP 82 25 (([.agg (Qah s).toArray,.int .i64 days,.agg (QaC t).toArray]).map (Qat 0 4))) H00 1
 (Qlo s days t++[(19,Qaf.pure (.bool true) [])]) 0 [] []) []=some (.bool true,
 [QaA []/\Qaq YP J0 119 #[.agg (Qg2 s),slT t.goods.length (Qac Qa0 t.goods)] (.bool true)]++Qio B s days t):=by kernel_rfl
theorem QsD (B:Lo) (s:Qaa) (days:Int) (t:Qao):QaY (Qam YP (Qa1 YP) J0 B 6 1 (Qaj YP 82 25 (([.agg (Qah s).toArray,.int .i64 days,.agg (QaC t).toArray]).map (Qat 0 4))) H00 1
 (Qlo s days t++[(19,Qaf.pure (.bool false) [])]) 0 [] []) []=some (.bool false,
 [QaA []/\Qaq YP J0 119 #[.agg (Qg2 s),slT t.goods.length (Qac Qa0 t.goods)] (.bool false)]++Qio B s days t):=by kernel_rfl
theorem QsW (B:Lo) (s:Qaa) (days:Int) (t:Qao):QaY (Qam YP (Qa1 YP) J0 B 6 1 (Qaj YP 82 25 (([.agg (Qah s).toArray,.int .i64 days,.agg (QaC t).toArray]).map (Qat 0 4))) H00 1
 (Ql8 s days t++[(13,Qaf.pure (.bool false) [])]) 0 [] []) []=some (.bool false,
 [QaA []/\Qaq YP J0 118 #[.agg (Qg2 s),.int .i64 days,slT t.gaps.length (Qac Qal t.gaps)] (.bool false)]++Qit B s days t):=by kernel_rfl
theorem Qs2 (B:Lo) (s:Qaa) (days:Int) (t:Qao):QaY (Qam YP (Qa1 YP) J0 B 6 1 (Qaj YP 82 25 (([.agg (Qah s).toArray,.int .i64 days,.agg (QaC t).toArray]).map (Qat 0 4))) H00 1
 [(7,Qaf.pure (.bool false) [])] 0 [] []) []=some (.bool false,
 [QaA []/\Qaq YP J0 117 #[slT t.uses.length (Qac Qal t.uses),slT s.use.length (Qac Qa7 s.use)] (.bool false)]):=by kernel_rfl
set_option maxHeartbeats 4000000 in
theorem Qv5 (s:Qaa) (days:Int) (t:Qao) (hs:Qa3 s=true) {B:Lo} (hJ:∀w,B.has w->J0 w):EndsT YP B (Qaj YP 82 25 (([.agg (Qah s).toArray,.int .i64 days,.agg (QaC t).toArray]).map (Qat 0 4))) (.bool (Qb7 s days t)):=by
 cases q0:QcJ t.uses s.use with
 | true=>
   have hp0:QaA (Qit B s days t):=by
    exact ⟨⟨trivial,(by have t_:=Qlj t.uses s.use;rw [q0] at t_;exact t_)⟩,trivial⟩
   cases q1:Qhl s days t.gaps with
   | true=>
     have hp1:QaA (Qio B s days t):=by
      exact ⟨⟨trivial,(by have t_:=QuK (s) (days) t.gaps (by with_reducible assumption);rw [q1] at t_;exact t_)⟩,hp0⟩
     cases q2:QhW s t.goods with
     | true=>
       exact (GoE.endsT okF hJ Qab GoE.start (Qty B s days t)
        ⟨⟨trivial,(by have t_:=Qrj (s) t.goods;rw [q2] at t_;exact t_)⟩,hp1⟩).cast (by (simp [Qb7, *];done))
     | false=>
       exact (GoE.endsT okF hJ Qab GoE.start (QsD B s days t)
        ⟨⟨trivial,(by have t_:=Qrj (s) t.goods;rw [q2] at t_;exact t_)⟩,hp1⟩).cast (by (simp [Qb7, *];done))
   | false=>
     exact (GoE.endsT okF hJ Qab GoE.start (QsW B s days t)
      ⟨⟨trivial,(by have t_:=QuK (s) (days) t.gaps (by with_reducible assumption);rw [q1] at t_;exact t_)⟩,hp0⟩).cast (by (simp [Qb7, *];done))
 | false=>
   exact (GoE.endsT okF hJ Qab GoE.start (Qs2 B s days t)
    ⟨⟨trivial,(by have t_:=Qlj t.uses s.use;rw [q0] at t_;exact t_)⟩,trivial⟩).cast (by (simp [Qb7, *];done))
theorem Qui (s:Qaa) (days:Int) (t:Qao) (hs:Qa3 s=true):Qaq YP J0 82 #[.agg (Qah s).toArray,.int .i64 days,.agg (QaC t).toArray] (.bool (Qb7 s days t)):=
 QaE (ts:=[.agg (Qah s).toArray,.int .i64 days,.agg (QaC t).toArray]) Qbw (c0:=Qaj YP 82 25 (([.agg (Qah s).toArray,.int .i64 days,.agg (QaC t).toArray]).map (Qat 0 4))) (by kernel_rfl) (by kernel_rfl) fun B hJ=> Qv5 s days t hs hJ
end
end Go.Proofs.YtiabgkiccaodmaaGreat

namespace Go.Proofs.YtiabgkiccaodmaaGreat
open Go Go.CE Go.RowKit
set_option maxRecDepth 100000
def QaI (s:Qaa) (load days:Int):List Value:=Qah s++[.int .i64 load,.int .i64 days]
def QgD (days:Int):List Int->Int->List Bool->List Bool
 | [],_,bs=> bs
 | g::l,day,bs=> QgD days l (day+g) (bif decide (day+g < days) then bs.set (day+g).toNat true else bs)
theorem QjK {days:Int}:∀(l:List Int) (day:Int) (bs:List Bool),(QgD days l day bs).length=bs.length
 | [],_,_=> rfl
 | g::l,day,bs=> by
   simp only [QgD];rw [QjK l];cases decide (day+g < days) <;> simp
theorem Qiv {days day:Int} {l:List Int} {i:Int} {bs:List Bool} (h0:0<=i) (h:i < l.length):QgD days (l.drop i.toNat) day bs=QgD days (l.drop (i+1).toNat) (day+l.getD i.toNat default) (bif decide (day+l.getD i.toNat default < days) then bs.set (day+l.getD i.toNat default).toNat true else bs):=by
 obtain ⟨k,rfl⟩:∃k:Nat,i=k:=⟨i.toNat,by omega⟩
 have hk:k < l.length:=by omega
 have e1:((k:Int)).toNat=k:=by omega
 have e2:((k:Int)+1).toNat=k+1:=by omega
 rw [e1,e2,List.drop_eq_getElem_cons hk];simp [QgD,List.getD_eq_getElem?_getD,hk]
theorem QwA {days day:Int} {l:List Int} {i:Int} {bs:List Bool} (h:l.length<=i):QgD days (l.drop i.toNat) day bs=bs:=by
 rw [List.drop_eq_nil_of_le (by omega)];rfl
def QdH (days:Int) (gaps:List Int):List Bool:=QgD days gaps 0 (List.replicate days.toNat false)
theorem QqT (B:Lo) (s:Qaa) (load:List Int) (days:Int):QaY (Qam YP (Qa1 YP) J0 B 6 1 (Qaj YP 83 12 (([.agg (Qah s).toArray,slI load,.int .i64 days]).map (Qat 0 4))) H00 1
 [(4,Qaf.pure (.int .i64 (QaG load 0)) [])] 0 [] []) []=some (.agg #[slT s.stock.length (Qac Qal s.stock),slT s.use.length (Qac Qa7 s.use),.int .i64 s.glo,.int .i64 s.ghi,slT s.lots.length (Qac Qap s.lots),.int .i64 s.hold,.int .i64 (QaG load 0),.int .i64 days],
 [QaA []/\Qaq YP J0 116 #[slT load.length (Qac Qal load)] (.int .i64 (QaG load 0))]):=by kernel_rfl
set_option maxHeartbeats 4000000 in
theorem Qsw (s:Qaa) (load:List Int) (days:Int) (hx:∀x∈load,0<=x/\x<=61) {B:Lo} (hJ:∀w,B.has w->J0 w):EndsT YP B (Qaj YP 83 12 (([.agg (Qah s).toArray,slI load,.int .i64 days]).map (Qat 0 4))) (.agg (QaI s (QaG load 0) days).toArray):=by
 exact (GoE.endsT okF hJ Qab GoE.start (QqT B s load days)
  ⟨⟨trivial,pOf (load) (by with_reducible assumption)⟩,trivial⟩).cast (by rfl)
theorem QrT (s:Qaa) (load:List Int) (days:Int) (hx:∀x∈load,0<=x/\x<=61):Qaq YP J0 83 #[.agg (Qah s).toArray,slI load,.int .i64 days] (.agg (QaI s (QaG load 0) days).toArray):=
 QaE (ts:=[.agg (Qah s).toArray,slI load,.int .i64 days]) Qbw (c0:=Qaj YP 83 12 (([.agg (Qah s).toArray,slI load,.int .i64 days]).map (Qat 0 4))) (by kernel_rfl) (by kernel_rfl) fun B hJ=> Qsw s load days hx hJ
def Qfb (s:Qaa) (load days:Int) (gaps:List Int) (day i:Int) (bs:List Bool):List Value:=[pA 2 0,.slice (some {block:=3,off:=0}) days.toNat 1,.int .i64 day,Qa4 1 (slT gaps.length (Qac Qal gaps)),.int .i64 (↑gaps.length:Int),.int .i64 i]
def QcZ (s:Qaa) (load days:Int) (gaps:List Int) (day i:Int) (bs:List Bool):List Obj:=[Obj.cells #[Qa4 1 (slT s.stock.length (Qac Qal s.stock)),Qa4 1 (slT s.use.length (Qac Qa7 s.use)),.int .i64 s.glo,.int .i64 s.ghi,Qa4 1 (slT s.lots.length (Qac Qap s.lots)),.int .i64 s.hold,.int .i64 load,.int .i64 days] 122,.cells (Qac QeI bs) 4 (0,0)]
noncomputable def Qfg:List Item:=([.code [1,1,1,0,1,0,0],.inLoop [1,1,1,0,1,0,0],.inBlock 0,.code [1,1,1,1]]).map (it (Qar YP 120))
def QwS (B:Lo) (c0:CF) (s:Qaa) (load days:Int) (gaps:List Int) (day i:Int) (bs:List Bool):Prop:=∃dJ:Nat->Value,(∀t,Qbc (dJ t))/\GoE YP B c0 H00 1 (Qa9 120 30 (([2,5,6,12,13,14]:List Nat).zip (Qfb s load days gaps day i bs)) dJ Qfg) (Qa5 (QcZ s load days gaps day i bs)) (2+(QcZ s load days gaps day i bs).length) []
noncomputable def Qnz (B:Lo) (s:Qaa) (load days:Int) (gaps:List Int) (day i:Int) (bs:List Bool) (dJ0:Nat->Value):List Prop:=[wq (day+gaps.getD i.toNat default)=day+gaps.getD i.toNat default,i=(↑i.toNat:Int)/\Int.toNat i < List.length gaps/\Array.extract (Qac Qal gaps) (Int.toNat i * TypeInfo.size Tryz.t3) (Int.toNat i * TypeInfo.size Tryz.t3+TypeInfo.size Tryz.t3)=#[.int .i64 (gaps.getD i.toNat default)],ltq i (↑gaps.length:Int)=true]++([]:List Prop)
noncomputable def QpP (s:Qaa) (load days:Int) (gaps:List Int) (day i:Int) (bs:List Bool) (dJ0:Nat->Value):Qaz:=[(0,hvT),(1,Qaf.tidx i.toNat #[.int .i64 (gaps.getD i.toNat default)]),(6,hvI (day+gaps.getD i.toNat default))]
theorem Qy9 (B:Lo) (s:Qaa) (load days:Int) (gaps:List Int) (day i:Int) (bs:List Bool) (dJ0:Nat->Value):landM (Qam YP (Qa1 YP) J0 B 18 1 (Qa9 120 30 (([2,5,6,12,13,14]:List Nat).zip (Qfb s load days gaps day i bs)) dJ0 Qfg) (Qa5 (QcZ s load days gaps day i bs)) (2+(QcZ s load days gaps day i bs).length)
 (QpP s load days gaps day i bs dJ0++[(11,hvT),(14,Qaf.old (Hint.idx (Int.toNat (day+gaps.getD i.toNat default)))),(15,Qaf.old (Hint.st (Qac QeI (List.set bs (Int.toNat (day+gaps.getD i.toNat default)) true)))),(16,hvI (i+1))]) 0 [] []) [2,5,6,12,13,14] [(2,KS.auto),(3,KS.cells [] (Qac QeI (List.set bs (Int.toNat (day+gaps.getD i.toNat default)) true)))] []=some ⟨120,30,Qfg,[],.run,none,Qfb s load days gaps (day+gaps.getD i.toNat default) (i+1) (List.set bs (Int.toNat (day+gaps.getD i.toNat default)) true),QcZ s load days gaps (day+gaps.getD i.toNat default) (i+1) (List.set bs (Int.toNat (day+gaps.getD i.toNat default)) true),
 [QaF 1 [] (Qac QeI (List.set bs (Int.toNat (day+gaps.getD i.toNat default)) true)) (Qac QeI (List.set bs (Int.toNat (day+gaps.getD i.toNat default)) true)),wq (i+1)=i+1,0+Int.toNat (day+gaps.getD i.toNat default) * 1+TypeInfo.size Tryz.t4<=Array.size (Qac QeI bs)/\splice (Qac QeI bs) (0+Int.toNat (day+gaps.getD i.toNat default) * 1) (Value.cells (.bool true))=Qac QeI (List.set bs (Int.toNat (day+gaps.getD i.toNat default)) true),day+gaps.getD i.toNat default=(↑(Int.toNat (day+gaps.getD i.toNat default)):Int)/\Int.toNat (day+gaps.getD i.toNat default) < Int.toNat days,ltq (day+gaps.getD i.toNat default) days=true]++Qnz B s load days gaps day i bs dJ0⟩:=by kernel_rfl
theorem QyX (B:Lo) (s:Qaa) (load days:Int) (gaps:List Int) (day i:Int) (bs:List Bool) (dJ0:Nat->Value):landM (Qam YP (Qa1 YP) J0 B 18 1 (Qa9 120 30 (([2,5,6,12,13,14]:List Nat).zip (Qfb s load days gaps day i bs)) dJ0 Qfg) (Qa5 (QcZ s load days gaps day i bs)) (2+(QcZ s load days gaps day i bs).length)
 (QpP s load days gaps day i bs dJ0++[(11,hvF),(12,hvI (i+1))]) 0 [] []) [2,5,6,12,13,14] [(2,KS.auto),(3,KS.cells [] (Qac QeI bs))] []=some ⟨120,30,Qfg,[],.run,none,Qfb s load days gaps (day+gaps.getD i.toNat default) (i+1) (bs),QcZ s load days gaps (day+gaps.getD i.toNat default) (i+1) (bs),
 [QaF 1 [] (Qac QeI bs) (Qac QeI bs),wq (i+1)=i+1,ltq (day+gaps.getD i.toNat default) days=false]++Qnz B s load days gaps day i bs dJ0⟩:=by kernel_rfl
theorem QzO (B:Lo) (s:Qaa) (load days:Int) (gaps:List Int) (day i:Int) (bs:List Bool) (dJ0:Nat->Value):QaY (Qam YP (Qa1 YP) J0 B 9 1 (Qa9 120 30 (([2,5,6,12,13,14]:List Nat).zip (Qfb s load days gaps day i bs)) dJ0 Qfg) (Qa5 (QcZ s load days gaps day i bs)) (2+(QcZ s load days gaps day i bs).length)
 [(0,hvF)] 0 [] []) [{k:=3,rs:=[],cs:=Qac QeI bs}]=some (slT days.toNat (Fz.cs {k:=3,rs:=[],cs:=Qac QeI bs}),
 [Qbj (Fz.rs {k:=3,rs:=[],cs:=Qac QeI bs}) (Qac QeI bs) (Fz.cs {k:=3,rs:=[],cs:=Qac QeI bs}),ltq i (↑gaps.length:Int)=false]):=by kernel_rfl
theorem Qy2 (B:Lo) (s:Qaa) (load days:Int) (gaps:List Int):landM (Qam YP (Qa1 YP) J0 B 11 1 (Qaj YP 120 30 (([.agg (QaI s load days).toArray,slI gaps]).map (Qat 0 4))) H00 1
 [(4,Qaf.old (Hint.mk days.toNat (Qac (QbD [.bool false]) (List.replicate days.toNat ()))))] 0 [] []) [2,5,6,12,13,14] [(1,KS.auto),(2,KS.rows [] [] (Qac QeI (List.replicate days.toNat false)))] []=some ⟨120,30,Qfg,[],.run,none,Qfb s load days gaps (0) (0) (List.replicate days.toNat false),QcZ s load days gaps (0) (0) (List.replicate days.toNat false),
 [QaX 1 [] [] (Qac (QbD [.bool false]) (List.replicate days.toNat ())) (Qac QeI (List.replicate days.toNat false)),QfK YP 127 (Qcd {len:=16000,tr:=Tri.set 14 Tri.lf 10 (.int .i64 days)} 10) (Qcd {len:=16000,tr:=Tri.set 14 Tri.lf 10 (.int .i64 days)} 10)=some (4,Qac (QbD [.bool false]) (List.replicate days.toNat ()),Int.toNat days,TypeInfo.size Tryz.t4)]⟩:=by kernel_rfl
set_option maxHeartbeats 4000000 in
theorem QxX (s:Qaa) (load days:Int) (gaps:List Int) (hd:0<=days/\days<=300) (hg:∀x∈gaps,0<=x/\x<=60) (hl:gaps.length<=300) {B:Lo} (hJ:∀w,B.has w->J0 w) {c0:CF}:∀m:Nat,(∀(day i:Int) (bs:List Bool),gaps.length - i.toNat=m->∀(h0:0<=i) (h1:0<=day/\day<=60 * i) (hb:bs.length=days.toNat),QwS B c0 s load days gaps day i bs->EndsT YP B c0 (slB (QgD days (gaps.drop i.toNat) day bs))):=by
 intro m0;induction m0 using Nat.strongRecOn with
 | _ m0 ih0=>
   intro day i bs hm0 h0 h1 hb ⟨dJ0,hdJ0,hg0⟩;by_cases q0:(i:Int) < ((↑gaps.length:Int))
   ·have hp0:QaA (Qnz B s load days gaps day i bs dJ0):=by
     have s2:=Qiv (days:=days) (day:=day) (bs:=bs) (l:=gaps) h0 q0;have g1:=hg _ (QaH h0 q0);exact ⟨(QaL (by omega) (by omega)),⟨⟨by omega,by omega,(Qae (z:=1) (fun _=> rfl) (by omega))⟩,⟨(QaW q0),trivial⟩⟩⟩
    by_cases q1:(day+gaps.getD i.toNat default:Int) < (days)
    ·have s2:=Qiv (days:=days) (day:=day) (bs:=bs) (l:=gaps) h0 q0;have g1:=hg _ (QaH h0 q0);rw [decide_eq_true q1,cond_true] at s2;exact ((ih0 _ (by omega)) (day+gaps.getD i.toNat default) (i+1) (List.set bs (Int.toNat (day+gaps.getD i.toNat default)) true) rfl (by omega) (by omega) (by (rw [List.length_set];exact hb))
      (hg0.landM okF hJ Qab (Qy9 B s load days gaps day i bs dJ0)
      ⟨(Qan (Qas (fun x=> List.all_eq_true.1 (by rfl)))),⟨(QaL (by omega) (by omega)),⟨(by exact Qf0 (z:=1) (fun _=> rfl) (by omega) rfl rfl),⟨⟨by omega,by omega⟩,⟨(QaW q1),hp0⟩⟩⟩⟩⟩ (by kernel_rfl) (by kernel_rfl))).cast (by (rw [s2];done))
    ·have s2:=Qiv (days:=days) (day:=day) (bs:=bs) (l:=gaps) h0 q0;have g1:=hg _ (QaH h0 q0);rw [decide_eq_false q1,cond_false] at s2;exact ((ih0 _ (by omega)) (day+gaps.getD i.toNat default) (i+1) (bs) rfl (by omega) (by omega) (by with_reducible assumption)
      (hg0.landM okF hJ Qab (QyX B s load days gaps day i bs dJ0)
      ⟨(Qan (Qas (fun x=> List.all_eq_true.1 (by rfl)))),⟨(QaL (by omega) (by omega)),⟨(Qbh (Int.not_lt.1 q1)),hp0⟩⟩⟩ (by kernel_rfl) (by kernel_rfl))).cast (by (rw [s2];done))
   ·have s2:=QwA (days:=days) (day:=day) (bs:=bs) (l:=gaps) (i:=i) (by omega);exact (GoE.endsT okF hJ Qab hg0 (QzO B s load days gaps day i bs dJ0)
     ⟨(QaD (fun x=> List.all_eq_true.1 (by rfl))),⟨(Qbh (Int.not_lt.1 q0)),trivial⟩⟩).cast (by (rw [s2];exact Qfn rfl (by omega)))
set_option maxHeartbeats 4000000 in
theorem Q1r (s:Qaa) (load days:Int) (gaps:List Int) (hd:0<=days/\days<=300) (hg:∀x∈gaps,0<=x/\x<=60) (hl:gaps.length<=300) {B:Lo} (hJ:∀w,B.has w->J0 w):EndsT YP B (Qaj YP 120 30 (([.agg (QaI s load days).toArray,slI gaps]).map (Qat 0 4))) (slB (QdH days gaps)):=by
 exact ((QxX s load days gaps hd hg hl hJ _) (0) (0) (List.replicate days.toNat false) rfl (by omega) (by omega) (by (rw [List.length_replicate];done))
  (GoE.start.landM okF hJ Qab (Qy2 B s load days gaps)
  ⟨(by exact (QbJ (by exact ⟨(.simple rfl),trivial⟩) _)),⟨(QfS (bytes:=1) (by kernel_rfl) (by omega) (by omega) (by omega)),trivial⟩⟩ (by kernel_rfl) (by kernel_rfl))).cast (by rfl)
theorem Q57 (s:Qaa) (load days:Int) (gaps:List Int) (hd:0<=days/\days<=300) (hg:∀x∈gaps,0<=x/\x<=60) (hl:gaps.length<=300):Qaq YP J0 120 #[.agg (QaI s load days).toArray,slI gaps] (slB (QdH days gaps)):=
 QaE (ts:=[.agg (QaI s load days).toArray,slI gaps]) Qbw (c0:=Qaj YP 120 30 (([.agg (QaI s load days).toArray,slI gaps]).map (Qat 0 4))) (by kernel_rfl) (by kernel_rfl) fun B hJ=> Q1r s load days gaps hd hg hl hJ
end Go.Proofs.YtiabgkiccaodmaaGreat

namespace Go.Proofs.YtiabgkiccaodmaaGreat
open Go Go.CE Go.RowKit
noncomputable section
set_option maxRecDepth 100000
theorem QxZ {p:Int->Bool} {a b:Int} (h:(upI a b).all p=true) {k:Int} (h1:a<=k) (h2:k < b):p k=true:=by
 refine List.all_eq_true.1 h k ?_;unfold upI;exact List.mem_map.2 ⟨(k - a).toNat,List.mem_range.2 (by omega),by omega⟩
theorem QbI {b:Int}:(upI 0 b).length=b.toNat:=by simp [upI]
theorem Qh9 {b i:Int} (h0:0<=i) (h:i < b):(upI 0 b).getD i.toNat default=i:=by
 have hk:i.toNat < (upI 0 b).length:=by rw [QbI];omega
 rw [List.getD_eq_getElem?_getD,List.getElem?_eq_getElem hk];simp [upI];omega
theorem Qpp {α:Type} [Inhabited α] {l:List α} {x:α} (h:x∈l):∃i:Int,0<=i/\i < l.length/\l.getD i.toNat default=x:=by
 obtain ⟨k,hk,rfl⟩:=List.getElem_of_mem h;exact ⟨k,by omega,by omega,by simp [List.getD_eq_getElem?_getD,hk]⟩
theorem QbN {ns:List Int} {ss:List Span} (h:QcJ ns ss=true):ns.length=ss.length/\∀k:Int,0<=k->k < ns.length->(ss.getD k.toNat default).lo<=ns.getD k.toNat default/\ns.getD k.toNat default<=(ss.getD k.toNat default).hi:=by
 simp only [QcJ,YB,decide_eq_true_iff] at h;exact ⟨h.1,fun k h0 h1=> QaU.1 (QxZ h.2 h0 h1)⟩
theorem Qee {s:Qaa} {all:List Row} (hs:Qa3 s=true) (h:QhW s all=true):all.length=s.lots.length/\∀r∈all,r.length=s.stock.length/\∀x∈r,0<=x/\x<=100000:=by
 simp only [QhW,YB,decide_eq_true_iff] at h;obtain ⟨hl,hg⟩:=h;refine ⟨hl,fun r hr=> ?_⟩;obtain ⟨i,h0,h1,rfl⟩:=Qpp hr;have hi:i < s.lots.length:=by omega
 obtain ⟨a,b⟩:=QbN (QxZ hg h0 hi);have hlot:=(Qav hs).2 _ (QaH h0 hi);obtain ⟨c,d,_⟩:=QdW hlot;refine ⟨a.trans c,fun x hx=> ?_⟩;obtain ⟨j,j0,j1,rfl⟩:=Qpp hx;have:=b j j0 j1;have:=d _ (QaH (l:=(s.lots.getD i.toNat default).goods) j0 (by omega));omega
theorem Qom {m:Int}:∀{l:List Int},(∀x∈l,0<=x/\x<=m)->0<=QfG l/\QfG l<=m * l.length
 | [],_=> by simp [QfG]
 | x::l,h=> by
   have h1:=h x (by simp);have h2:=Qom (l:=l) fun y hy=> h y (by simp [hy])
   have e:m * ((l.length:Int)+1)=m * l.length+m:=by rw [Int.mul_add,Int.mul_one]
   simp only [QfG,List.length_cons,Int.natCast_add,Int.natCast_one];omega
theorem Qai {s:Qaa} (h:Qa3 s=true):(1<=s.stock.length/\s.stock.length<=4)/\(∀x∈s.stock,0<=x/\x<=100000)/\s.use.length=s.stock.length/\∀u∈s.use,0<=u.lo/\u.lo<=u.hi/\u.hi<=1000:=by
 simp only [Qa3,QcK,QbE,YB,decide_eq_true_iff,List.all_eq_true,QaU] at h;exact ⟨by omega,h.2.1,h.2.2.1,h.2.2.2.1⟩
def Qjx (load:Int) (goods:List Row) (k:Int):Int:=QfG ((Qa8 load goods 0).map fun r=> r.getD k.toNat default)
def QeW (s:Qaa) (load days:Int) (t:Qao) (k:Int):Gd:=⟨s.stock.getD k.toNat default,t.uses.getD k.toNat default,Qjx load t.goods k,QdH days t.gaps⟩
def Qbb (s:Qaa) (load days:Int) (t:Qao):List Gd:=(upI 0 s.stock.length).map (QeW s load days t)
abbrev slG (xs:List Gd):Value:=slT xs.length (Qac QbL xs)
def Qoq (s:Qaa) (load days:Int) (t:Qao) (i:Int):List Gd:=Qg1 (QeW s load days t) ⟨0,0,0,[]⟩ (upI 0 s.stock.length) i
theorem Qmw {s:Qaa} {load days:Int} {t:Qao} {i:Int}:(Qoq s load days t i).length=s.stock.length:=by
 unfold Qoq;rw [Qdz,QbI];omega
theorem Q3X {s:Qaa} {load days:Int} {t:Qao}:List.replicate s.stock.length (⟨0,0,0,[]⟩:Gd)=Qoq s load days t 0:=by
 unfold Qoq;rw [<-QfE,QbI];rfl
theorem QzZ {s:Qaa} {load days:Int} {t:Qao} {i:Int} (h0:0<=i) (h:i < s.stock.length):(Qoq s load days t i).set i.toNat (QeW s load days t i)=Qoq s load days t (i+1):=by
 have:=Qd0 (f:=QeW s load days t) (x0:=⟨0,0,0,[]⟩) (xs:=upI 0 s.stock.length) (i:=i) h0 (by rw [QbI];omega);rw [Qh9 h0 h] at this;exact this
theorem QzP {s:Qaa} {load days:Int} {t:Qao} {i:Int} (h:s.stock.length<=i):Qoq s load days t i=Qbb s load days t:=Qdp (by rw [QbI];omega)
theorem Qzn {s:Qaa} {load days:Int} {t:Qao} (hs:Qa3 s=true) (ht:Qb7 s days t=true) (hd:0<=days/\days<=300) (h0:0<=load) (h1:load < 64) (hx:QcF load<=s.lots.length):∀g∈Qbb s load days t,gdB g:=by
 intro g hg;obtain ⟨k,hk,rfl⟩:=List.mem_map.1 hg;obtain ⟨i,i0,i1,rfl⟩:=Qpp hk;rw [QbI] at i1;rw [Qh9 i0 (by omega)];simp only [Qb7,YB] at ht;obtain ⟨⟨hl1,hl2⟩,hst,hul,hu⟩:=Qai hs;obtain ⟨a,b⟩:=QbN ht.1;obtain ⟨rl,rr⟩:=Qee hs ht.2.2;have f1:=hst _ (QaH (l:=s.stock) i0 (by omega));have f2:=hu _ (QaH (l:=s.use) i0 (by omega));have f3:=b i i0 (by omega);have f4:∀x∈(Qa8 load t.goods 0).map (fun r=> r.getD i.toNat default),0<=x/\x<=100000:=fun x hx'=> by
  obtain ⟨r,hr,rfl⟩:=List.mem_map.1 hx';obtain ⟨q1,q2⟩:=rr r (Qde (Int.le_refl _) (by omega) r hr);exact q2 _ (QaH i0 (by omega))
 have f5:=Qom f4;have f6:=QiF (s:=load) (n:=0) (xs:=t.goods) (Int.le_refl _);have f7:=QfI h0 h1;rw [List.length_map] at f5;have f8:(QdH days t.gaps).length=days.toNat:=by unfold QdH;rw [QjK,List.length_replicate]
 unfold gdB QeW;simp only [Qjx];refine ⟨by omega,by omega,by omega,by omega,by omega,by omega,by omega⟩
def QgQ (s:Qaa) (load days:Int) (t:Qao) (i:Int) (ys:List Gd):List Value:=[pA 2 0,pA 3 0,Qa4 1 (slT (List.length (QdH days t.gaps)) (Qac QeI (QdH days t.gaps))),Qa4 1 (slT (List.length (Qa8 load t.goods 0)) (Qac Qa0 (Qa8 load t.goods 0))),.slice (some {block:=4,off:=0}) s.stock.length 4,.int .i64 (↑s.stock.length:Int),.int .i64 i]
def Qe8 (s:Qaa) (load days:Int) (t:Qao) (i:Int) (ys:List Gd):List Obj:=[Obj.cells #[Qa4 1 (slT s.stock.length (Qac Qal s.stock)),Qa4 1 (slT s.use.length (Qac Qa7 s.use)),.int .i64 s.glo,.int .i64 s.ghi,Qa4 1 (slT s.lots.length (Qac Qap s.lots)),.int .i64 s.hold,.int .i64 load,.int .i64 days] 122,Obj.cells #[Qa4 1 (slT t.uses.length (Qac Qal t.uses)),Qa4 1 (slT t.gaps.length (Qac Qal t.gaps)),Qa4 1 (slT t.goods.length (Qac Qa0 t.goods))] 65,.cells (Qac (Qa6 1 QbL) ys) 129 (0,0)]
def Qhc:List Item:=([.code [1,1,1,1,0,1,0,0],.inLoop [1,1,1,1,0,1,0,0],.inBlock 0,.code [1,1,1,1,1]]).map (it (Qar YP 84))
def QyG (B:Lo) (c0:CF) (s:Qaa) (load days:Int) (t:Qao) (i:Int) (ys:List Gd):Prop:=∃dJ:Nat->Value,(∀t,Qbc (dJ t))/\GoE YP B c0 H00 1 (Qa9 84 52 (([2,3,5,6,7,25,26]:List Nat).zip (QgQ s load days t i ys)) dJ Qhc) (Qa5 (Qe8 s load days t i ys)) (2+(Qe8 s load days t i ys).length) []
def Qdl (s:Qaa) (load days:Int) (t:Qao) (i:Int) (ys:List Gd) (dJ0:Nat->Value):Qax:=[(5,Obj.cells #[.int .i64 i] 3),(0,Obj.coro none),(1,Obj.coro none),(2,Obj.cells #[Qa4 1 (slT s.stock.length (Qac Qal s.stock)),Qa4 1 (slT s.use.length (Qac Qa7 s.use)),.int .i64 s.glo,.int .i64 s.ghi,Qa4 1 (slT s.lots.length (Qac Qap s.lots)),.int .i64 s.hold,.int .i64 load,.int .i64 days] 122),(3,Obj.cells #[Qa4 1 (slT t.uses.length (Qac Qal t.uses)),Qa4 1 (slT t.gaps.length (Qac Qal t.gaps)),Qa4 1 (slT t.goods.length (Qac Qa0 t.goods))] 65),(4,Obj.cells (Qac (Qa6 1 QbL) ys) 129)]
def Qgg (s:Qaa) (load days:Int) (t:Qao) (i:Int) (ys:List Gd) (dJ0:Nat->Value):CF:=⟨122,ofList 26 [Qa4 1 (slT (List.length (Qa8 load t.goods 0)) (Qac Qa0 (Qa8 load t.goods 0))),Value.func (Fn.func 123) #[] #[pA 5 0]],[Item.code (Qar YP 122)],[],.run,none⟩
def Qe6 (s:Qaa) (load days:Int) (t:Qao) (i:Int) (ys:List Gd) (dJ0:Nat->Value) (j:Int) (zs:List Int):List Value:=[Value.func (Fn.func 123) #[] #[pA 5 0],.slice (some {block:=7,off:=0}) (List.length (Qa8 load t.goods 0)) 1,Qa4 1 (slT (List.length (Qa8 load t.goods 0)) (Qac Qa0 (Qa8 load t.goods 0))),.int .i64 (↑(List.length (Qa8 load t.goods 0)):Int),.int .i64 j]
def QeE (s:Qaa) (load days:Int) (t:Qao) (i:Int) (ys:List Gd) (dJ0:Nat->Value) (j:Int) (zs:List Int):List Obj:=[]
def Qc0 (s:Qaa) (load days:Int) (t:Qao) (i:Int) (ys:List Gd) (dJ0:Nat->Value) (j:Int) (zs:List Int):List Obj:=[.cells (Qac Qal zs) 3 (0,0)]
def Qe3:List Item:=([.code [1,1,0,1,0,0],.inLoop [1,1,0,1,0,0],.inBlock 0,.code [1,1,1]]).map (it (Qar YP 122))
def Qhv (s:Qaa) (load days:Int) (t:Qao) (i:Int) (ys:List Gd) (dJ0:Nat->Value) (j:Int) (zs:List Int) (dJ1:Nat->Value):Qax:=[(6,Obj.coro none),(7,Obj.cells (Qac Qal zs) 3),(5,Obj.cells #[.int .i64 i] 3),(0,Obj.coro none),(1,Obj.coro none),(2,Obj.cells #[Qa4 1 (slT s.stock.length (Qac Qal s.stock)),Qa4 1 (slT s.use.length (Qac Qa7 s.use)),.int .i64 s.glo,.int .i64 s.ghi,Qa4 1 (slT s.lots.length (Qac Qap s.lots)),.int .i64 s.hold,.int .i64 load,.int .i64 days] 122),(3,Obj.cells #[Qa4 1 (slT t.uses.length (Qac Qal t.uses)),Qa4 1 (slT t.gaps.length (Qac Qal t.gaps)),Qa4 1 (slT t.goods.length (Qac Qa0 t.goods))] 65),(4,Obj.cells (Qac (Qa6 1 QbL) ys) 129)]
def Qj5 (s:Qaa) (load days:Int) (t:Qao) (i:Int) (ys:List Gd) (dJ0:Nat->Value) (j:Int) (zs:List Int) (dJ1:Nat->Value):CF:=⟨123,ofList 8 [Qa4 1 (slT (List.length (List.getD (Qa8 load t.goods 0) j.toNat default)) (Qac Qal (List.getD (Qa8 load t.goods 0) j.toNat default))),pA 5 0],[Item.code (Qar YP 123)],[],.run,none⟩
def QfO (days:Int) (t:Qao):Value:=(slT (List.length (QdH days t.gaps)) (Qac QeI (QdH days t.gaps)))
theorem QyE (B:Lo) (s:Qaa) (load days:Int) (t:Qao) (i:Int) (ys:List Gd) (dJ0:Nat->Value) (j:Int) (zs:List Int) (dJ1:Nat->Value):CE.finK 8 (Qam YP (Qa1 YP) J0 B 6 8 (Qj5 s load days t i ys dJ0 j zs dJ1) (Qhv s load days t i ys dJ0 j zs dJ1) 8
 [(3,Qaf.tidx i.toNat #[.int .i64 (List.getD (List.getD (Qa8 load t.goods 0) j.toNat default) i.toNat default)])] 0 [] []) [] [] []=some (OO.ret (.int .i64 (List.getD (List.getD (Qa8 load t.goods 0) j.toNat default) i.toNat default)),[],[],
 [i=(↑i.toNat:Int)/\Int.toNat i < List.length (List.getD (Qa8 load t.goods 0) j.toNat default)/\Array.extract (Qac Qal (List.getD (Qa8 load t.goods 0) j.toNat default)) (Int.toNat i * TypeInfo.size Tryz.t3) (Int.toNat i * TypeInfo.size Tryz.t3+TypeInfo.size Tryz.t3)=#[.int .i64 (List.getD (List.getD (Qa8 load t.goods 0) j.toNat default) i.toNat default)]]):=by kernel_rfl
theorem Qxf (B:Lo) (s:Qaa) (load days:Int) (t:Qao) (i:Int) (ys:List Gd) (dJ0:Nat->Value) (j:Int) (zs:List Int) (dJ1:Nat->Value):CE.landA 6 (Qam YP (Qa1 YP) J0 B 13 6 (Qco (none) 122 26 (([1,5,11,12,13]:List Nat).zip (Qe6 s load days t i ys dJ0 j zs)) dJ1 Qe3) (Qb5 (Qdl s load days t i ys dJ0) 6 (([]:List Nat).zip (QeE s load days t i ys dJ0 j zs)) (Qc0 s load days t i ys dJ0 j zs)) (6+1+(Qc0 s load days t i ys dJ0 j zs).length)
 [(0,hvT),(2,Qaf.tidx j.toNat #[slT (List.length (List.getD (Qa8 load t.goods 0) j.toNat default)) (Qac Qal (List.getD (Qa8 load t.goods 0) j.toNat default))]),(10,Qaf.call (List.range 8) (OO.ret (.int .i64 (List.getD (List.getD (Qa8 load t.goods 0) j.toNat default) i.toNat default))) ([]++(8,Qb0)::QaR 9 []) 9 []),(11,Qaf.old (Hint.idx j.toNat)),(12,Qaf.old (Hint.st (Qac Qal (List.set zs j.toNat (List.getD (List.getD (Qa8 load t.goods 0) j.toNat default) i.toNat default))))),(13,hvI (j+1))] 0 [] []) [1,5,11,12,13] [] [(7,KS.cells [] (Qac Qal (List.set zs j.toNat (List.getD (List.getD (Qa8 load t.goods 0) j.toNat default) i.toNat default))))] []=some ⟨122,26,Qe3,[],.run,none,Qe6 s load days t i ys dJ0 (j+1) (List.set zs j.toNat (List.getD (List.getD (Qa8 load t.goods 0) j.toNat default) i.toNat default)),([]:List Nat).zip (QeE s load days t i ys dJ0 (j+1) (List.set zs j.toNat (List.getD (List.getD (Qa8 load t.goods 0) j.toNat default) i.toNat default))),Qc0 s load days t i ys dJ0 (j+1) (List.set zs j.toNat (List.getD (List.getD (Qa8 load t.goods 0) j.toNat default) i.toNat default)),
 [QaF 6 [] (Qac Qal (List.set zs j.toNat (List.getD (List.getD (Qa8 load t.goods 0) j.toNat default) i.toNat default))) (Qac Qal (List.set zs j.toNat (List.getD (List.getD (Qa8 load t.goods 0) j.toNat default) i.toNat default))),wq (j+1)=j+1,0+Int.toNat j * 1+TypeInfo.size Tryz.t3<=Array.size (Qac Qal zs)/\splice (Qac Qal zs) (0+Int.toNat j * 1) (Value.cells (Qcd {len:=16000,tr:=Tri.set 14 (Tri.set 14 Tri.lf 22 (.int .i64 (List.getD (List.getD (Qa8 load t.goods 0) j.toNat default) i.toNat default))) 23 (.pointer (some {block:=7,off:=0+Int.toNat j * 1}))} 22))=Qac Qal (List.set zs j.toNat (List.getD (List.getD (Qa8 load t.goods 0) j.toNat default) i.toNat default)),j=(↑j.toNat:Int)/\Int.toNat j < List.length (Qa8 load t.goods 0),FJ YP B (Qj5 s load days t i ys dJ0 j zs dJ1) (Qhv s load days t i ys dJ0 j zs dJ1) 8 (OO.ret (.int .i64 (List.getD (List.getD (Qa8 load t.goods 0) j.toNat default) i.toNat default))) (([]++((8,Qb0)::QaR (8+1) []))++Qhv s load days t i ys dJ0 j zs dJ1) 9 (List.range 8) [],j=(↑j.toNat:Int)/\Int.toNat j < List.length (Qa8 load t.goods 0)/\Array.extract (Qac Qa0 (Qa8 load t.goods 0)) (Int.toNat j * TypeInfo.size Tryz.t22) (Int.toNat j * TypeInfo.size Tryz.t22+TypeInfo.size Tryz.t22)=#[slT (List.length (List.getD (Qa8 load t.goods 0) j.toNat default)) (Qac Qal (List.getD (Qa8 load t.goods 0) j.toNat default))],ltq j (↑(List.length (Qa8 load t.goods 0)):Int)=true]⟩:=by kernel_rfl
theorem Qz1 (B:Lo) (s:Qaa) (load days:Int) (t:Qao) (i:Int) (ys:List Gd) (dJ0:Nat->Value) (j:Int) (zs:List Int) (dJ1:Nat->Value):CE.finK 6 (Qam YP (Qa1 YP) J0 B 9 6 (Qco (none) 122 26 (([1,5,11,12,13]:List Nat).zip (Qe6 s load days t i ys dJ0 j zs)) dJ1 Qe3) (Qb5 (Qdl s load days t i ys dJ0) 6 (([]:List Nat).zip (QeE s load days t i ys dJ0 j zs)) (Qc0 s load days t i ys dJ0 j zs)) (6+1+(Qc0 s load days t i ys dJ0 j zs).length)
 [(0,hvF)] 0 [] []) [] [] [{k:=7,rs:=[],cs:=Qac Qal zs}]=some (OO.ret (Qa4 6 (slT (List.length (Qa8 load t.goods 0)) (Fz.cs {k:=7,rs:=[],cs:=Qac Qal zs}))),[],[],
 [Qbj (Fz.rs {k:=7,rs:=[],cs:=Qac Qal zs}) (Qac Qal zs) (Fz.cs {k:=7,rs:=[],cs:=Qac Qal zs}),ltq j (↑(List.length (Qa8 load t.goods 0)):Int)=false]):=by kernel_rfl
set_option maxHeartbeats 4000000 in
theorem QrA (s:Qaa) (load days:Int) (t:Qao) (i:Int) (ys:List Gd) (dJ0:Nat->Value) (hs:Qa3 s=true) (ht:Qb7 s days t=true) (hd:0<=days/\days<=300) (h0:0<=load) (h1:load < 64) (hx:QcF load<=s.lots.length) (i0:0<=i) (hy:ys=Qoq s load days t i) (hdJ0:∀t,Qbc (dJ0 t)) (q0:(i:Int) < ((↑s.stock.length:Int))) {B:Lo} (hJ:∀w,B.has w->J0 w):∀m:Nat,(∀(j:Int) (zs:List Int),(Qa8 load t.goods 0).length - j.toNat=m->∀(j0:0<=j) (hz:zs=Qg1 (fun (r:Row)=> r.getD i.toNat default) 0 (Qa8 load t.goods 0) j),(∃dJ1:Nat->Value,(∀t,Qbc (dJ1 t))/\GoE YP B (Qgg s load days t i ys dJ0) (Qdl s load days t i ys dJ0) 6 (Qco (none) 122 26 (([1,5,11,12,13]:List Nat).zip (Qe6 s load days t i ys dJ0 j zs)) dJ1 Qe3) (Qb5 (Qdl s load days t i ys dJ0) 6 (([]:List Nat).zip (QeE s load days t i ys dJ0 j zs)) (Qc0 s load days t i ys dJ0 j zs)) (6+1+(Qc0 s load days t i ys dJ0 j zs).length) ([]:List Nat))->FinK YP B (Qgg s load days t i ys dJ0) (Qdl s load days t i ys dJ0) 6 (.ret (Qa4 6 (slI ((Qa8 load t.goods 0).map fun r=> r.getD i.toNat default)))) (([]:List Nat).zip ([])) ([]) ([]:List Nat)):=by
 intro m1;induction m1 using Nat.strongRecOn with
 | _ m1 ih1=>
   intro j zs hm1 j0 hz ⟨dJ1,hdJ1,hg1⟩;have ht':=ht;simp only [Qb7,Qhl,YB,decide_eq_true_iff,List.all_eq_true,QaU] at ht';have hgp:=Qaw hs;have hst:=Qai hs;have hrows:=Qee hs ht'.2.2;have hus:=(QbN ht'.1).1;have hgg:∀x∈t.gaps,0<=x/\x<=60:=fun x h=> by have:=ht'.2.1.2.1 x h;omega
   have hgl:t.gaps.length<=300:=ht'.2.1.1;have hpx:QcF load<=t.goods.length:=by omega
   have hpl:=QiF (s:=load) (n:=0) (xs:=t.goods) (Int.le_refl _);have hl6:=QfI h0 h1;have hyl:ys.length=s.stock.length:=by rw [hy];exact Qmw
   have hzl:zs.length=(Qa8 load t.goods 0).length:=by rw [hz];exact Qdz
   have hyl:ys.length=s.stock.length:=by rw [hy];exact Qmw
   have hri:∀r∈Qa8 load t.goods 0,i < r.length:=fun r h=> by have:=(hrows.2 r (Qde (Int.le_refl _) hpx r h)).1;omega
   by_cases q1:(j:Int) < ((↑(List.length (Qa8 load t.goods 0)):Int))
   ·have rj1:FJ YP B (Qj5 s load days t i ys dJ0 j zs dJ1) (Qhv s load days t i ys dJ0 j zs dJ1) 8 (OO.ret (.int .i64 (List.getD (List.getD (Qa8 load t.goods 0) j.toNat default) i.toNat default))) (([]++((8,Qb0)::QaR (8+1) []))++Qhv s load days t i ys dJ0 j zs dJ1) 9 (List.range 8) []:=by
     have hri:∀r∈Qa8 load t.goods 0,i < r.length:=fun r h=> by have:=(hrows.2 r (Qde (Int.le_refl _) hpx r h)).1;omega
     have hrx:∀x∈(Qa8 load t.goods 0).map (fun r=> r.getD i.toNat default),-1000000000<=x/\x<=1000000000:=fun x h=> by obtain ⟨r,hr,rfl⟩:=List.mem_map.1 h;obtain ⟨a,b⟩:=hrows.2 r (Qde (Int.le_refl _) hpx r hr);have:=b _ (QaH (l:=r) i0 (by omega));omega
     have hrl:((Qa8 load t.goods 0).map (fun r=> r.getD i.toNat default)).length<=1000:=by rw [List.length_map];omega
     have hrj:=hri _ (QaH j0 (by assumption));exact FinK.fjB (GoE.finK okF hJ Qab (Qau (by kernel_rfl)) (Qak (by kernel_rfl)) ((GoE.refl (P:=YP) (B:=B) (c0:=Qj5 s load days t i ys dJ0 j zs dJ1) (Qau (by kernel_rfl))).widen (Wf:=((([]):List (Nat×KS)).map (·.1))) (by simp) (Qak (by kernel_rfl))) (QyE B s load days t i ys dJ0 j zs dJ1)
      ⟨⟨by omega,by omega,(Qae (z:=1) (fun _=> rfl) (by omega))⟩,trivial⟩) (ex:=[7,4]) (by kernel_rfl) ⟨trivial,⟨(Qu5 (t:=3) (fl:=(0,0)) (fun x=> List.all_eq_true.1 (by rfl))),⟨trivial,⟨trivial,⟨trivial,⟨trivial,⟨trivial,⟨(QeZ (t:=129) (fl:=(0,0)) (QaQ (fun _=> rfl)) (by decide)),trivial⟩⟩⟩⟩⟩⟩⟩⟩
    have hri:∀r∈Qa8 load t.goods 0,i < r.length:=fun r h=> by have:=(hrows.2 r (Qde (Int.le_refl _) hpx r h)).1;omega
    have hrx:∀x∈(Qa8 load t.goods 0).map (fun r=> r.getD i.toNat default),-1000000000<=x/\x<=1000000000:=fun x h=> by obtain ⟨r,hr,rfl⟩:=List.mem_map.1 h;obtain ⟨a,b⟩:=hrows.2 r (Qde (Int.le_refl _) hpx r hr);have:=b _ (QaH (l:=r) i0 (by omega));omega
    have hrl:((Qa8 load t.goods 0).map (fun r=> r.getD i.toNat default)).length<=1000:=by rw [List.length_map];omega
    have hrj:=hri _ (QaH j0 (by assumption));exact ((ih1 _ (by omega)) (j+1) (List.set zs j.toNat (List.getD (List.getD (Qa8 load t.goods 0) j.toNat default) i.toNat default)) rfl (by omega) (by (subst hz;exact Qd0 (f:=fun (r:Row)=> r.getD i.toNat default) j0 q1))
     (GoE.landA okF hJ Qab (Qau (by kernel_rfl)) (Qak (by kernel_rfl)) hg1 (Qxf B s load days t i ys dJ0 j zs dJ1)
     ⟨(Qan (Qas (fun x=> List.all_eq_true.1 (by rfl)))),⟨(QaL (by omega) (by omega)),⟨(by exact Qf0 (z:=1) (fun _=> rfl) (by omega) rfl rfl),⟨⟨by omega,by omega⟩,⟨rj1,⟨⟨by omega,by omega,(Qae (z:=1) (fun _=> rfl) (by omega))⟩,⟨(QaW q1),trivial⟩⟩⟩⟩⟩⟩⟩ (by kernel_rfl) (by kernel_rfl) (fun l hl=> by cases hl <;> decide))).cast (by rfl) (by rfl) (by rfl)
   ·have hri:∀r∈Qa8 load t.goods 0,i < r.length:=fun r h=> by have:=(hrows.2 r (Qde (Int.le_refl _) hpx r h)).1;omega
    have hrx:∀x∈(Qa8 load t.goods 0).map (fun r=> r.getD i.toNat default),-1000000000<=x/\x<=1000000000:=fun x h=> by obtain ⟨r,hr,rfl⟩:=List.mem_map.1 h;obtain ⟨a,b⟩:=hrows.2 r (Qde (Int.le_refl _) hpx r hr);have:=b _ (QaH (l:=r) i0 (by omega));omega
    have hrl:((Qa8 load t.goods 0).map (fun r=> r.getD i.toNat default)).length<=1000:=by rw [List.length_map];omega
    exact (GoE.finK okF hJ Qab (Qau (by kernel_rfl)) (Qak (by kernel_rfl)) hg1 (Qz1 B s load days t i ys dJ0 j zs dJ1)
     ⟨(QaD (fun x=> List.all_eq_true.1 (by rfl))),⟨(Qbh (Int.not_lt.1 q1)),trivial⟩⟩).cast (by exact congrArg (fun v=> OO.ret (Qa4 6 v)) (Qfn (hz.trans (Qdp (by omega))) (by simp))) (by rfl) (by rfl)

theorem Q0a (B:Lo) (s:Qaa) (load days:Int) (t:Qao) (i:Int) (ys:List Gd) (dJ0:Nat->Value):CE.landA 6 (Qam YP (Qa1 YP) J0 B 9 6 (Qgg s load days t i ys dJ0) (Qdl s load days t i ys dJ0) 6
 [(3,Qaf.old (Hint.mk (List.length (Qa8 load t.goods 0)) (Qac (QbD [.int .i64 0]) (List.replicate (List.length (Qa8 load t.goods 0)) ()))))] 0 [] []) [1,5,11,12,13] [] [(6,KS.rows [] [] (Qac Qal (List.replicate (List.length (Qa8 load t.goods 0)) 0)))] []=some ⟨122,26,Qe3,[],.run,none,Qe6 s load days t i ys dJ0 (0) (List.replicate (List.length (Qa8 load t.goods 0)) 0),([]:List Nat).zip (QeE s load days t i ys dJ0 (0) (List.replicate (List.length (Qa8 load t.goods 0)) 0)),Qc0 s load days t i ys dJ0 (0) (List.replicate (List.length (Qa8 load t.goods 0)) 0),
 [QaX 6 [] [] (Qac (QbD [.int .i64 0]) (List.replicate (List.length (Qa8 load t.goods 0)) ())) (Qac Qal (List.replicate (List.length (Qa8 load t.goods 0)) 0)),QfK YP 22 (Qcd {len:=16000,tr:=Tri.set 14 Tri.lf 9 (.int .i64 (↑(List.length (Qa8 load t.goods 0)):Int))} 9) (Qcd {len:=16000,tr:=Tri.set 14 Tri.lf 9 (.int .i64 (↑(List.length (Qa8 load t.goods 0)):Int))} 9)=some (3,Qac (QbD [.int .i64 0]) (List.replicate (List.length (Qa8 load t.goods 0)) ()),List.length (Qa8 load t.goods 0),TypeInfo.size Tryz.t3)]⟩:=by kernel_rfl
theorem Q0f (B:Lo) (s:Qaa) (load days:Int) (t:Qao) (i:Int) (ys:List Gd) (dJ0:Nat->Value):landM (Qam YP (Qa1 YP) J0 B 15 1 (Qa9 84 52 (([2,3,5,6,7,25,26]:List Nat).zip (QgQ s load days t i ys)) dJ0 Qhc) (Qa5 (Qe8 s load days t i ys)) (2+(Qe8 s load days t i ys).length)
 [(0,hvT),(6,Qaf.call (List.range 6) (OO.ret (Qa4 6 (slT (List.length (List.map (fun r=> r.getD i.toNat default) (Qa8 load t.goods 0))) (Qac Qal (List.map (fun r=> r.getD i.toNat default) (Qa8 load t.goods 0)))))) ([]++(6,Qb0)::QaR 7 []) 7 []),(14,Qaf.tidx i.toNat #[.int .i64 (s.stock.getD i.toNat default)]),(19,Qaf.tidx i.toNat #[.int .i64 (t.uses.getD i.toNat default)]),(22,Qaf.pure (.int .i64 (QfG (List.map (fun r=> r.getD i.toNat default) (Qa8 load t.goods 0)))) []),(25,Qaf.old (Hint.idx i.toNat)),(26,Qaf.old (Hint.st (splice (Qac (Qa6 1 QbL) ys) (0+Int.toNat i * 4) #[.int .i64 (s.stock.getD i.toNat default),.int .i64 (t.uses.getD i.toNat default),.int .i64 (QfG (List.map (fun r=> r.getD i.toNat default) (Qa8 load t.goods 0))),Qa4 1 (QfO days t)]))),(27,hvI (i+1))] 0 [] []) [2,3,5,6,7,25,26] [(2,KS.auto),(3,KS.auto),(4,KS.rows [(1,1)] [] (Qac (Qa6 1 QbL) (List.set ys i.toNat {stock:=s.stock.getD i.toNat default,use:=t.uses.getD i.toNat default,br:=QfG (List.map (fun r=> r.getD i.toNat default) (Qa8 load t.goods 0)),ships:=QdH days t.gaps})))] []=some ⟨84,52,Qhc,[],.run,none,QgQ s load days t (i+1) (List.set ys i.toNat {stock:=s.stock.getD i.toNat default,use:=t.uses.getD i.toNat default,br:=QfG (List.map (fun r=> r.getD i.toNat default) (Qa8 load t.goods 0)),ships:=QdH days t.gaps}),Qe8 s load days t (i+1) (List.set ys i.toNat {stock:=s.stock.getD i.toNat default,use:=t.uses.getD i.toNat default,br:=QfG (List.map (fun r=> r.getD i.toNat default) (Qa8 load t.goods 0)),ships:=QdH days t.gaps}),
 [QaX 1 [(1,1)] [] (splice (Qac (Qa6 1 QbL) ys) (0+Int.toNat i * 4) #[.int .i64 (s.stock.getD i.toNat default),.int .i64 (t.uses.getD i.toNat default),.int .i64 (QfG (List.map (fun r=> r.getD i.toNat default) (Qa8 load t.goods 0))),Qa4 1 (QfO days t)]) (Qac (Qa6 1 QbL) (List.set ys i.toNat {stock:=s.stock.getD i.toNat default,use:=t.uses.getD i.toNat default,br:=QfG (List.map (fun r=> r.getD i.toNat default) (Qa8 load t.goods 0)),ships:=QdH days t.gaps})),wq (i+1)=i+1,0+Int.toNat i * 4+TypeInfo.size Tryz.t129<=Array.size (Qac (Qa6 1 QbL) ys)/\splice (Qac (Qa6 1 QbL) ys) (0+Int.toNat i * 4) (Value.cells (Qcd {len:=16000,tr:=Tri.set 14 (Tri.set 14 Tri.lf 48 (.agg #[.int .i64 (s.stock.getD i.toNat default),.int .i64 (t.uses.getD i.toNat default),.int .i64 (QfG (List.map (fun r=> r.getD i.toNat default) (Qa8 load t.goods 0))),Qa4 1 (QfO days t)])) 49 (.pointer (some {block:=4,off:=0+Int.toNat i * 4}))} 48))=splice (Qac (Qa6 1 QbL) ys) (0+Int.toNat i * 4) #[.int .i64 (s.stock.getD i.toNat default),.int .i64 (t.uses.getD i.toNat default),.int .i64 (QfG (List.map (fun r=> r.getD i.toNat default) (Qa8 load t.goods 0))),Qa4 1 (QfO days t)],i=(↑i.toNat:Int)/\Int.toNat i < List.length s.stock,QaA []/\Qaq YP J0 124 #[slT (List.length (List.map (fun r=> r.getD i.toNat default) (Qa8 load t.goods 0))) (Qac Qal (List.map (fun r=> r.getD i.toNat default) (Qa8 load t.goods 0)))] (.int .i64 (QfG (List.map (fun r=> r.getD i.toNat default) (Qa8 load t.goods 0)))),i=(↑i.toNat:Int)/\Int.toNat i < List.length t.uses/\Array.extract (Qac Qal t.uses) (Int.toNat i * TypeInfo.size Tryz.t3) (Int.toNat i * TypeInfo.size Tryz.t3+TypeInfo.size Tryz.t3)=#[.int .i64 (t.uses.getD i.toNat default)],i=(↑i.toNat:Int)/\Int.toNat i < List.length s.stock/\Array.extract (Qac Qal s.stock) (Int.toNat i * TypeInfo.size Tryz.t3) (Int.toNat i * TypeInfo.size Tryz.t3+TypeInfo.size Tryz.t3)=#[.int .i64 (s.stock.getD i.toNat default)],FJ YP B (Qgg s load days t i ys dJ0) (Qdl s load days t i ys dJ0) 6 (OO.ret (Qa4 6 (slT (List.length (List.map (fun r=> r.getD i.toNat default) (Qa8 load t.goods 0))) (Qac Qal (List.map (fun r=> r.getD i.toNat default) (Qa8 load t.goods 0)))))) (([]++((6,Qb0)::QaR (6+1) []))++Qdl s load days t i ys dJ0) 7 (List.range 6) [],ltq i (↑s.stock.length:Int)=true]⟩:=by kernel_rfl
theorem QxF (B:Lo) (s:Qaa) (load days:Int) (t:Qao) (i:Int) (ys:List Gd) (dJ0:Nat->Value):QaY (Qam YP (Qa1 YP) J0 B 9 1 (Qa9 84 52 (([2,3,5,6,7,25,26]:List Nat).zip (QgQ s load days t i ys)) dJ0 Qhc) (Qa5 (Qe8 s load days t i ys)) (2+(Qe8 s load days t i ys).length)
 [(0,hvF)] 0 [] []) [{k:=4,rs:=[1],cs:=Qac QbL ys}]=some (slT s.stock.length (Fz.cs {k:=4,rs:=[1],cs:=Qac QbL ys}),
 [Qbj (Fz.rs {k:=4,rs:=[1],cs:=Qac QbL ys}) (Qac (Qa6 1 QbL) ys) (Fz.cs {k:=4,rs:=[1],cs:=Qac QbL ys}),ltq i (↑s.stock.length:Int)=false]):=by kernel_rfl
theorem Qz0 (B:Lo) (s:Qaa) (load days:Int) (t:Qao):landM (Qam YP (Qa1 YP) J0 B 13 1 (Qaj YP 84 52 (([.agg (QaI s load days).toArray,.agg (QaC t).toArray]).map (Qat 0 4))) H00 1
 [(6,Qaf.pure (QfO days t) []),(12,Qaf.pure (slT (List.length (Qa8 load t.goods 0)) (Qac Qa0 (Qa8 load t.goods 0))) []),(18,Qaf.old (Hint.mk s.stock.length (Qac (QbD [.int .i64 0,.int .i64 0,.int .i64 0,.slice none 0 0]) (List.replicate s.stock.length ()))))] 0 [] []) [2,3,5,6,7,25,26] [(1,KS.auto),(2,KS.auto),(5,KS.rows [] [] (Qac (Qa6 1 QbL) (List.replicate s.stock.length {stock:=0,use:=0,br:=0,ships:=[]})))] []=some ⟨84,52,Qhc,[],.run,none,QgQ s load days t (0) (List.replicate s.stock.length {stock:=0,use:=0,br:=0,ships:=[]}),Qe8 s load days t (0) (List.replicate s.stock.length {stock:=0,use:=0,br:=0,ships:=[]}),
 [QaX 1 [] [] (Qac (QbD [.int .i64 0,.int .i64 0,.int .i64 0,.slice none 0 0]) (List.replicate s.stock.length ())) (Qac (Qa6 1 QbL) (List.replicate s.stock.length {stock:=0,use:=0,br:=0,ships:=[]})),QfK YP 119 (Qcd {len:=16000,tr:=Tri.set 14 Tri.lf 22 (.int .i64 (↑s.stock.length:Int))} 22) (Qcd {len:=16000,tr:=Tri.set 14 Tri.lf 22 (.int .i64 (↑s.stock.length:Int))} 22)=some (129,Qac (QbD [.int .i64 0,.int .i64 0,.int .i64 0,.slice none 0 0]) (List.replicate s.stock.length ()),List.length s.stock,TypeInfo.size Tryz.t129),QaA []/\Qaq YP J0 121 #[.int .i64 load,slT t.goods.length (Qac Qa0 t.goods)] (slT (List.length (Qa8 load t.goods 0)) (Qac Qa0 (Qa8 load t.goods 0))),QaA []/\Qaq YP J0 120 #[.agg #[slT s.stock.length (Qac Qal s.stock),slT s.use.length (Qac Qa7 s.use),.int .i64 s.glo,.int .i64 s.ghi,slT s.lots.length (Qac Qap s.lots),.int .i64 s.hold,.int .i64 load,.int .i64 days],slT t.gaps.length (Qac Qal t.gaps)] (QfO days t)]⟩:=by kernel_rfl
set_option maxHeartbeats 4000000 in
theorem Q0r (s:Qaa) (load days:Int) (t:Qao) (hs:Qa3 s=true) (ht:Qb7 s days t=true) (hd:0<=days/\days<=300) (h0:0<=load) (h1:load < 64) (hx:QcF load<=s.lots.length) {B:Lo} (hJ:∀w,B.has w->J0 w) {c0:CF}:∀m:Nat,(∀(i:Int) (ys:List Gd),s.stock.length - i.toNat=m->∀(i0:0<=i) (hy:ys=Qoq s load days t i),QyG B c0 s load days t i ys->EndsT YP B c0 (slG (Qbb s load days t))):=by
 intro m0;induction m0 using Nat.strongRecOn with
 | _ m0 ih0=>
   intro i ys hm0 i0 hy ⟨dJ0,hdJ0,hg0⟩;have ht':=ht;simp only [Qb7,Qhl,YB,decide_eq_true_iff,List.all_eq_true,QaU] at ht';have hgp:=Qaw hs;have hst:=Qai hs;have hrows:=Qee hs ht'.2.2;have hus:=(QbN ht'.1).1;have hgg:∀x∈t.gaps,0<=x/\x<=60:=fun x h=> by have:=ht'.2.1.2.1 x h;omega
   have hgl:t.gaps.length<=300:=ht'.2.1.1;have hpx:QcF load<=t.goods.length:=by omega
   have hpl:=QiF (s:=load) (n:=0) (xs:=t.goods) (Int.le_refl _);have hl6:=QfI h0 h1;have hyl:ys.length=s.stock.length:=by rw [hy];exact Qmw
   by_cases q0:(i:Int) < ((↑s.stock.length:Int))
   ·have rj0:FJ YP B (Qgg s load days t i ys dJ0) (Qdl s load days t i ys dJ0) 6 (OO.ret (Qa4 6 (slT (List.length (List.map (fun r=> r.getD i.toNat default) (Qa8 load t.goods 0))) (Qac Qal (List.map (fun r=> r.getD i.toNat default) (Qa8 load t.goods 0)))))) (([]++((6,Qb0)::QaR (6+1) []))++Qdl s load days t i ys dJ0) 7 (List.range 6) []:=by
     have hri:∀r∈Qa8 load t.goods 0,i < r.length:=fun r h=> by have:=(hrows.2 r (Qde (Int.le_refl _) hpx r h)).1;omega
     have hrx:∀x∈(Qa8 load t.goods 0).map (fun r=> r.getD i.toNat default),-1000000000<=x/\x<=1000000000:=fun x h=> by obtain ⟨r,hr,rfl⟩:=List.mem_map.1 h;obtain ⟨a,b⟩:=hrows.2 r (Qde (Int.le_refl _) hpx r hr);have:=b _ (QaH (l:=r) i0 (by omega));omega
     have hrl:((Qa8 load t.goods 0).map (fun r=> r.getD i.toNat default)).length<=1000:=by rw [List.length_map];omega
     exact FinK.fjB ((QrA s load days t i ys dJ0 hs ht hd h0 h1 hx i0 hy hdJ0 q0 hJ _) (0) (List.replicate (List.length (Qa8 load t.goods 0)) 0) rfl (by omega) (by exact QfE)
      (GoE.landA okF hJ Qab (Qau (by kernel_rfl)) (Qak (by kernel_rfl)) ((GoE.refl (P:=YP) (B:=B) (c0:=Qgg s load days t i ys dJ0) (Qau (by kernel_rfl))).widen (Wf:=((([]):List (Nat×KS)).map (·.1))) (by simp) (Qak (by kernel_rfl))) (Q0a B s load days t i ys dJ0)
      ⟨(by exact (QbJ (by exact ⟨(.simple rfl),trivial⟩) _)),⟨(QfS (bytes:=8) (by kernel_rfl) (by omega) (by omega) (by omega)),trivial⟩⟩ (by kernel_rfl) (by kernel_rfl) (fun l hl=> by cases hl <;> decide))) (ex:=[4]) (by kernel_rfl) ⟨trivial,⟨trivial,⟨trivial,⟨trivial,⟨trivial,⟨(QeZ (t:=129) (fl:=(0,0)) (QaQ (fun _=> rfl)) (by decide)),trivial⟩⟩⟩⟩⟩⟩
    have hri:∀r∈Qa8 load t.goods 0,i < r.length:=fun r h=> by have:=(hrows.2 r (Qde (Int.le_refl _) hpx r h)).1;omega
    have hrx:∀x∈(Qa8 load t.goods 0).map (fun r=> r.getD i.toNat default),-1000000000<=x/\x<=1000000000:=fun x h=> by obtain ⟨r,hr,rfl⟩:=List.mem_map.1 h;obtain ⟨a,b⟩:=hrows.2 r (Qde (Int.le_refl _) hpx r hr);have:=b _ (QaH (l:=r) i0 (by omega));omega
    have hrl:((Qa8 load t.goods 0).map (fun r=> r.getD i.toNat default)).length<=1000:=by rw [List.length_map];omega
    exact ((ih0 _ (by omega)) (i+1) (List.set ys i.toNat {stock:=s.stock.getD i.toNat default,use:=t.uses.getD i.toNat default,br:=QfG (List.map (fun r=> r.getD i.toNat default) (Qa8 load t.goods 0)),ships:=QdH days t.gaps}) rfl (by omega) (by (subst hy;exact QzZ i0 q0))
     (hg0.landM okF hJ Qab (Q0f B s load days t i ys dJ0)
     (by exact ⟨(by exact (Qih (z:=4) (fun _=> rfl) (QaK (QaQ (fun _=> rfl)) (List.Mem.head _)) (by omega) (by exact ⟨(.simple rfl),⟨(.simple rfl),⟨(.simple rfl),⟨(.reg (List.Mem.head _) rfl),trivial⟩⟩⟩⟩))),⟨(QaL (by omega) (by omega)),⟨⟨(by exact Q1v (z:=4) (fun _=> rfl) (by omega) rfl),rfl⟩,⟨⟨by omega,by omega⟩,⟨⟨trivial,Q6T (List.map (fun r=> r.getD i.toNat default) (Qa8 load t.goods 0)) (by with_reducible assumption) (by with_reducible assumption)⟩,⟨⟨by omega,by omega,(Qae (z:=1) (fun _=> rfl) (by omega))⟩,⟨⟨by omega,by omega,(Qae (z:=1) (fun _=> rfl) (by omega))⟩,⟨rj0,⟨(QaW q0),trivial⟩⟩⟩⟩⟩⟩⟩⟩⟩) (by kernel_rfl) (by kernel_rfl))).cast (by rfl)
   ·have hrl:((Qa8 load t.goods 0).map (fun r=> r.getD i.toNat default)).length<=1000:=by rw [List.length_map];omega
    exact (GoE.endsT okF hJ Qab hg0 (QxF B s load days t i ys dJ0)
     ⟨(Qcl (QaQ (fun _=> rfl)) (List.Mem.head _)),⟨(Qbh (Int.not_lt.1 q0)),trivial⟩⟩).cast (by exact Qfn (hy.trans (QzP (by omega))) (by simp [Qbb,QbI]))
set_option maxHeartbeats 4000000 in
theorem Q1e (s:Qaa) (load days:Int) (t:Qao) (hs:Qa3 s=true) (ht:Qb7 s days t=true) (hd:0<=days/\days<=300) (h0:0<=load) (h1:load < 64) (hx:QcF load<=s.lots.length) {B:Lo} (hJ:∀w,B.has w->J0 w):EndsT YP B (Qaj YP 84 52 (([.agg (QaI s load days).toArray,.agg (QaC t).toArray]).map (Qat 0 4))) (slG (Qbb s load days t)):=by
 have ht':=ht;simp only [Qb7,Qhl,YB,decide_eq_true_iff,List.all_eq_true,QaU] at ht';have hgp:=Qaw hs;have hst:=Qai hs;have hrows:=Qee hs ht'.2.2;have hus:=(QbN ht'.1).1;have hgg:∀x∈t.gaps,0<=x/\x<=60:=fun x h=> by have:=ht'.2.1.2.1 x h;omega
 have hgl:t.gaps.length<=300:=ht'.2.1.1;have hpx:QcF load<=t.goods.length:=by omega
 have hpl:=QiF (s:=load) (n:=0) (xs:=t.goods) (Int.le_refl _);have hl6:=QfI h0 h1;exact ((Q0r s load days t hs ht hd h0 h1 hx hJ _) (0) (List.replicate s.stock.length {stock:=0,use:=0,br:=0,ships:=[]}) rfl (by omega) (by exact Q3X)
  (GoE.start.landM okF hJ Qab (Qz0 B s load days t)
  (by exact ⟨(by exact (QbJ (by exact ⟨(.simple rfl),⟨(.simple rfl),⟨(.simple rfl),⟨.nil,trivial⟩⟩⟩⟩) _)),⟨(QfS (bytes:=48) (by kernel_rfl) (by omega) (by omega) (by omega)),⟨⟨trivial,Q6u (load) t.goods (by with_reducible assumption) (by with_reducible assumption) (by with_reducible assumption)⟩,⟨⟨trivial,Q57 (s) (load) (days) t.gaps (by with_reducible assumption) (by with_reducible assumption) (by with_reducible assumption)⟩,trivial⟩⟩⟩⟩) (by kernel_rfl) (by kernel_rfl))).cast (by rfl)
theorem Qzx (s:Qaa) (load days:Int) (t:Qao) (hs:Qa3 s=true) (ht:Qb7 s days t=true) (hd:0<=days/\days<=300) (h0:0<=load) (h1:load < 64) (hx:QcF load<=s.lots.length):Qaq YP J0 84 #[.agg (QaI s load days).toArray,.agg (QaC t).toArray] (slG (Qbb s load days t)):=
 QaE (ts:=[.agg (QaI s load days).toArray,.agg (QaC t).toArray]) Qbw (c0:=Qaj YP 84 52 (([.agg (QaI s load days).toArray,.agg (QaC t).toArray]).map (Qat 0 4))) (by kernel_rfl) (by kernel_rfl) fun B hJ=> Q1e s load days t hs ht hd h0 h1 hx hJ
end
end Go.Proofs.YtiabgkiccaodmaaGreat

