/- The reference's goods that are kept. -/
import Derived.Test.YtiabgkiccaodmaaGreatZRD12
import Derived.Test.YtiabgkiccaodmaaGreatZRD09
import Derived.Test.YtiabgkiccaodmaaGreatZRD11
set_option linter.all false
namespace Go.Proofs.YtiabgkiccaodmaaGreat
open Go Go.CE Go.RowKit
noncomputable section
set_option maxRecDepth 100000
def Qfi (day:Int):List Int->Int->Bool
 | [],_=> false
 | g::l,s=> decide (s+g=day) || Qfi day l (s+g)
theorem Qi6 {day s i:Int} {l:List Int} (h0:0<=i) (h:i < l.length):Qfi day (l.drop i.toNat) s=(decide (s+l.getD i.toNat default=day) || Qfi day (l.drop (i+1).toNat) (s+l.getD i.toNat default)):=by
 obtain ⟨k,rfl⟩:∃k:Nat,i=k:=⟨i.toNat,by omega⟩
 have hk:k < l.length:=by omega
 have e1:((k:Int)).toNat=k:=by omega
 have e2:((k:Int)+1).toNat=k+1:=by omega
 rw [e1,e2,List.drop_eq_getElem_cons hk];simp [Qfi,List.getD_eq_getElem?_getD,hk]
theorem Qwx {day s i:Int} {l:List Int} (h:l.length<=i):Qfi day (l.drop i.toNat) s=false:=by
 rw [List.drop_eq_nil_of_le (by omega)];rfl
def Qee (t:Qaf) (kind:Int) (l:List Int):Int:=QeO (l.map fun x=> (t.goods.getD x.toNat default).getD kind.toNat default)
theorem Q1t {t:Qaf} {kind i:Int} {l:List Int} (h0:0<=i) (h:i < l.length):Qee t kind (l.drop i.toNat)=(t.goods.getD (l.getD i.toNat default).toNat default).getD kind.toNat default+Qee t kind (l.drop (i+1).toNat):=by
 obtain ⟨k,rfl⟩:∃k:Nat,i=k:=⟨i.toNat,by omega⟩
 have hk:k < l.length:=by omega
 have e1:((k:Int)).toNat=k:=by omega
 have e2:((k:Int)+1).toNat=k+1:=by omega
 unfold Qee;rw [e1,e2,List.drop_eq_getElem_cons hk,List.map_cons];simp [QeO,List.getD_eq_getElem?_getD,hk]
theorem QpK {t:Qaf} {kind i:Int} {l:List Int} (h:l.length<=i):Qee t kind (l.drop i.toNat)=0:=by
 rw [List.drop_eq_nil_of_le (by omega)];rfl
def Qcn (use br:Int) (comes:Int->Bool):List Int->Int×Int->Int×Int
 | [],st=> st
 | d::ds,st=> Qcn use br comes ds (if (st.2+if comes d=true then br else 0) < use/\st.1 < 0 then d else st.1,if 0 < (st.2+if comes d=true then br else 0) - use then (st.2+if comes d=true then br else 0) - use else 0)
def Q5v (use br:Int) (comes:Int->Bool) (days d w L:Int):Int×Int:=Qcn use br comes (upI (d+1) days) (if L < use/\w < 0 then d else w,if 0 < L - use then L - use else 0)
theorem Qh3 {use br days d w s:Int} {comes:Int->Bool} (h:d < days):Qcn use br comes (upI d days) (w,s)=Q5v use br comes days d w (s+if comes d=true then br else 0):=by
 rw [QdW h];rfl
theorem Q1M {use br days d w s:Int} {comes:Int->Bool} (h:days<=d):Qcn use br comes (upI d days) (w,s)=(w,s):=by
 rw [QgG h];rfl
theorem kD {use br days d w L w' s':Int} {comes:Int->Bool} (h1:(if L < use/\w < 0 then d else w)=w') (h2:(if 0 < L - use then L - use else 0)=s'):Qcn use br comes (upI (d+1) days) (w',s')=Q5v use br comes days d w L:=by subst h1 h2;rfl
def Qn0 (p:Int×Int):Value:=.tuple #[.int .i64 p.1,.int .i64 p.2]
def Qd7 (t:Qaf) (kind ration:Int):Int:=(t.uses.getD kind.toNat default * ration+999).tdiv 1000
def QaW (t:Qaf) (d:Int):Bool:=Qfi d t.gaps 0
def Qgf (t:Qaf) (day:Int) (s i:Int):List Value:=[.int .i64 day,pA 2 0,.int .i64 s,.int .i64 i]
def Qdw (t:Qaf) (day:Int) (s i:Int):List Obj:=[Obj.cells #[Qa0 1 (slT t.uses.length (Qac Qat t.uses)),Qa0 1 (slT t.gaps.length (Qac Qat t.gaps)),Qa0 1 (slT t.goods.length (Qac Qaw t.goods))] 65]
def Qgo:List Item:=([.code [1,1,0,1,0,0],.inLoop [1,1,0,1,0,0],.inBlock 0,.code [1,1,1]]).map (it (Qaq YP 88))
def Q0p (B:Lo) (c0:CF) (t:Qaf) (day:Int) (s i:Int):Prop:=∃dJ:Nat->Value,(∀t,Qbd (dJ t))/\GoE YP B c0 H00 1 (Qa8 88 24 (([1,2,5,6]:List Nat).zip (Qgf t day s i)) dJ Qgo) (Qa6 (Qdw t day s i)) (2+(Qdw t day s i).length) []
def Ql2 (B:Lo) (t:Qaf) (day:Int) (s i:Int) (dJ0:Nat->Value):List Prop:=[wq (s+t.gaps.getD i.toNat default)=s+t.gaps.getD i.toNat default,i=(↑i.toNat:Int)/\Int.toNat i < List.length t.gaps/\Array.extract (Qac Qat t.gaps) (Int.toNat i * TypeInfo.size Tryz.t3) (Int.toNat i * TypeInfo.size Tryz.t3+TypeInfo.size Tryz.t3)=#[.int .i64 (t.gaps.getD i.toNat default)],ltq i (↑t.gaps.length:Int)=true]++([]:List Prop)
def Qqe (t:Qaf) (day:Int) (s i:Int) (dJ0:Nat->Value):Qas:=[(4,hvT),(9,Qai.tidx i.toNat #[.int .i64 (t.gaps.getD i.toNat default)]),(11,hvI (s+t.gaps.getD i.toNat default))]
theorem Qy0 (B:Lo) (t:Qaf) (day:Int) (s i:Int) (dJ0:Nat->Value):QaU (Qal YP (Qa1 YP) J0 B 16 1 (Qa8 88 24 (([1,2,5,6]:List Nat).zip (Qgf t day s i)) dJ0 Qgo) (Qa6 (Qdw t day s i)) (2+(Qdw t day s i).length)
 (Qqe t day s i dJ0++[(15,hvT)]) 0 [] []) []=some (.bool true,
 [eqq (s+t.gaps.getD i.toNat default) day=true]++Ql2 B t day s i dJ0):=by kernel_rfl
theorem QzJ (B:Lo) (t:Qaf) (day:Int) (s i:Int) (dJ0:Nat->Value):landM (Qal YP (Qa1 YP) J0 B 16 1 (Qa8 88 24 (([1,2,5,6]:List Nat).zip (Qgf t day s i)) dJ0 Qgo) (Qa6 (Qdw t day s i)) (2+(Qdw t day s i).length)
 (Qqe t day s i dJ0++[(15,hvF),(17,hvI (i+1))]) 0 [] []) [1,2,5,6] [(2,KS.auto)] []=some ⟨88,24,Qgo,[],.run,none,Qgf t day (s+t.gaps.getD i.toNat default) (i+1),Qdw t day (s+t.gaps.getD i.toNat default) (i+1),
 [wq (i+1)=i+1,eqq (s+t.gaps.getD i.toNat default) day=false]++Ql2 B t day s i dJ0⟩:=by kernel_rfl
theorem Q1y (B:Lo) (t:Qaf) (day:Int) (s i:Int) (dJ0:Nat->Value):QaU (Qal YP (Qa1 YP) J0 B 9 1 (Qa8 88 24 (([1,2,5,6]:List Nat).zip (Qgf t day s i)) dJ0 Qgo) (Qa6 (Qdw t day s i)) (2+(Qdw t day s i).length)
 [(4,hvF)] 0 [] []) []=some (.bool false,
 [ltq i (↑t.gaps.length:Int)=false]):=by kernel_rfl
theorem Q03 (B:Lo) (t:Qaf) (day:Int):landM (Qal YP (Qa1 YP) J0 B 9 1 (Qaj YP 88 24 (([.agg (Qa4 t).toArray,.int .i64 day]).map (Qao 0 4))) H00 1
 [] 0 [] []) [1,2,5,6] [(1,KS.auto)] []=some ⟨88,24,Qgo,[],.run,none,Qgf t day (0) (0),Qdw t day (0) (0),
 []⟩:=by kernel_rfl
set_option maxHeartbeats 4000000 in
theorem QyB (t:Qaf) (day:Int) (hg:∀x∈t.gaps,0<=x/\x<=60) (hl:t.gaps.length<=300) {B:Lo} (hJ:∀w,B.has w->J0 w) {c0:CF}:∀m:Nat,(∀(s i:Int),t.gaps.length - i.toNat=m->∀(h0:0<=i) (h1:0<=s/\s<=60 * i),Q0p B c0 t day s i->EndsT YP B c0 (.bool (Qfi day (t.gaps.drop i.toNat) s))):=by
 intro m0;induction m0 using Nat.strongRecOn with
 | _ m0 ih0=>
   intro s i hm0 h0 h1 ⟨dJ0,hdJ0,hg0⟩;by_cases q0:(i:Int) < ((↑t.gaps.length:Int))
   ·have hp0:Qa3 (Ql2 B t day s i dJ0):=by
     have s2:=Qi6 (day:=day) (s:=s) (l:=t.gaps) h0 q0;have g1:=hg _ (QaF h0 q0);exact ⟨(QaQ (by omega) (by omega)),⟨⟨by omega,by omega,(Qag (z:=1) (fun _=> rfl) (by omega))⟩,⟨(Qbe q0),trivial⟩⟩⟩
    by_cases q1:(s+t.gaps.getD i.toNat default:Int)=(day)
    ·have s2:=Qi6 (day:=day) (s:=s) (l:=t.gaps) h0 q0;have g1:=hg _ (QaF h0 q0);exact (GoE.endsT okF hJ Qab hg0 (Qy0 B t day s i dJ0)
      ⟨(Qmk q1),hp0⟩).cast (by (rw [s2,decide_eq_true (by assumption)];rfl))
    ·have s2:=Qi6 (day:=day) (s:=s) (l:=t.gaps) h0 q0;have g1:=hg _ (QaF h0 q0);exact ((ih0 _ (by omega)) (s+t.gaps.getD i.toNat default) (i+1) rfl (by omega) (by omega)
      (hg0.landM okF hJ Qab (QzJ B t day s i dJ0)
      ⟨(QaQ (by omega) (by omega)),⟨(Qlu q1),hp0⟩⟩ (by kernel_rfl) (by kernel_rfl))).cast (by (rw [s2,decide_eq_false (by assumption)];rfl))
   ·have s2:=Qwx (day:=day) (s:=s) (l:=t.gaps) (i:=i) (by omega);exact (GoE.endsT okF hJ Qab hg0 (Q1y B t day s i dJ0)
     ⟨(Qbj (Int.not_lt.1 q0)),trivial⟩).cast (by (rw [s2];done))
set_option maxHeartbeats 4000000 in
theorem Q2y (t:Qaf) (day:Int) (hg:∀x∈t.gaps,0<=x/\x<=60) (hl:t.gaps.length<=300) {B:Lo} (hJ:∀w,B.has w->J0 w):EndsT YP B (Qaj YP 88 24 (([.agg (Qa4 t).toArray,.int .i64 day]).map (Qao 0 4))) (.bool (QaW t day)):=by
 exact ((QyB t day hg hl hJ _) (0) (0) rfl (by omega) (by omega)
  (GoE.start.landM okF hJ Qab (Q03 B t day)
  trivial (by kernel_rfl) (by kernel_rfl))).cast (by rfl)
theorem Q4g (t:Qaf) (day:Int) (hg:∀x∈t.gaps,0<=x/\x<=60) (hl:t.gaps.length<=300):Qam YP J0 88 #[.agg (Qa4 t).toArray,.int .i64 day] (.bool (QaW t day)):=
 QaG (ts:=[.agg (Qa4 t).toArray,.int .i64 day]) Qb1 (c0:=Qaj YP 88 24 (([.agg (Qa4 t).toArray,.int .i64 day]).map (Qao 0 4))) (by kernel_rfl) (by kernel_rfl) fun B hJ=> Q2y t day hg hl hJ
def Qdj (s:Qaa) (load:List Int) (days:Int) (t:Qaf) (kind ration:Int) (d stock w:Int):List Value:=[Qa0 1 (slT load.length (Qac Qat load)),.int .i64 days,.int .i64 kind,pA 2 0,.int .i64 stock,.int .i64 w,.int .i64 (Int.tdiv (t.uses.getD kind.toNat default * ration+999) 1000),.int .i64 d]
def QbP (s:Qaa) (load:List Int) (days:Int) (t:Qaf) (kind ration:Int) (d stock w:Int):List Obj:=[Obj.cells #[Qa0 1 (slT t.uses.length (Qac Qat t.uses)),Qa0 1 (slT t.gaps.length (Qac Qat t.gaps)),Qa0 1 (slT t.goods.length (Qac Qaw t.goods))] 65]
def Qdl:List Item:=([.code [1,1,1,0,1,0,0],.inLoop [1,1,1,0,1,0,0],.inBlock 0,.code [1,1,1,1]]).map (it (Qaq YP 41))
def Q2e (B:Lo) (c0:CF) (s:Qaa) (load:List Int) (days:Int) (t:Qaf) (kind ration:Int) (d stock w:Int):Prop:=∃dJ:Nat->Value,(∀t,Qbd (dJ t))/\GoE YP B c0 H00 1 (Qa8 41 74 (([1,2,4,9,14,15,16,17]:List Nat).zip (Qdj s load days t kind ration d stock w)) dJ Qdl) (Qa6 (QbP s load days t kind ration d stock w)) (2+(QbP s load days t kind ration d stock w).length) []
def Qg6 (s:Qaa) (load:List Int) (days:Int) (t:Qaf) (kind ration:Int) (d i stock w:Int):List Value:=[Qa0 1 (slT load.length (Qac Qat load)),.int .i64 days,.int .i64 kind,pA 2 0,.int .i64 stock,.int .i64 w,.int .i64 (Int.tdiv (t.uses.getD kind.toNat default * ration+999) 1000),.int .i64 d,.int .i64 i]
def Qd2 (s:Qaa) (load:List Int) (days:Int) (t:Qaf) (kind ration:Int) (d i stock w:Int):List Obj:=[Obj.cells #[Qa0 1 (slT t.uses.length (Qac Qat t.uses)),Qa0 1 (slT t.gaps.length (Qac Qat t.gaps)),Qa0 1 (slT t.goods.length (Qac Qaw t.goods))] 65]
def Qg2:List Item:=([.code [1,1,1,0,1,0,0,1,0,0,0,1,0,1,0,0],.inLoop [1,1,1,0,1,0,0,1,0,0,0,1,0,1,0,0],.inBlock 2,.code [1,1,1,0,1,0,0,1,0,0,1],.inBlock 1,.code [1,1,1,0,1,0,0,1,1],.inLoop [1,1,1,0,1,0,0],.inBlock 0,.code [1,1,1,1]]).map (it (Qaq YP 41))
def Q3x (B:Lo) (c0:CF) (s:Qaa) (load:List Int) (days:Int) (t:Qaf) (kind ration:Int) (d i stock w:Int):Prop:=∃dJ:Nat->Value,(∀t,Qbd (dJ t))/\GoE YP B c0 H00 1 (Qa8 41 74 (([1,2,4,9,14,15,16,17,18]:List Nat).zip (Qg6 s load days t kind ration d i stock w)) dJ Qg2) (Qa6 (Qd2 s load days t kind ration d i stock w)) (2+(Qd2 s load days t kind ration d i stock w).length) []
def QpT (B:Lo) (s:Qaa) (load:List Int) (days:Int) (t:Qaf) (kind ration:Int) (d stock w:Int) (dJ0:Nat->Value):List Prop:=[ltq d days=true]++([]:List Prop)
def Qvf (s:Qaa) (load:List Int) (days:Int) (t:Qaf) (kind ration:Int) (d stock w:Int) (dJ0:Nat->Value):Qas:=[(2,hvT)]
theorem Q2O (B:Lo) (s:Qaa) (load:List Int) (days:Int) (t:Qaf) (kind ration:Int) (d stock w:Int) (dJ0:Nat->Value):landM (Qal YP (Qa1 YP) J0 B 15 1 (Qa8 41 74 (([1,2,4,9,14,15,16,17]:List Nat).zip (Qdj s load days t kind ration d stock w)) dJ0 Qdl) (Qa6 (QbP s load days t kind ration d stock w)) (2+(QbP s load days t kind ration d stock w).length)
 (Qvf s load days t kind ration d stock w dJ0++[(5,Qai.pure (.bool true) [])]) 0 [] []) [1,2,4,9,14,15,16,17,18] [(2,KS.auto)] []=some ⟨41,74,Qg2,[],.run,none,Qg6 s load days t kind ration (d) (0) (stock) (w),Qd2 s load days t kind ration (d) (0) (stock) (w),
 [Qa3 []/\Qam YP J0 88 #[.agg #[slT t.uses.length (Qac Qat t.uses),slT t.gaps.length (Qac Qat t.gaps),slT t.goods.length (Qac Qaw t.goods)],.int .i64 d] (.bool true)]++QpT B s load days t kind ration d stock w dJ0⟩:=by kernel_rfl
def Qpy (B:Lo) (s:Qaa) (load:List Int) (days:Int) (t:Qaf) (kind ration:Int) (d stock w:Int) (dJ0:Nat->Value):List Prop:=[Qa3 []/\Qam YP J0 88 #[.agg #[slT t.uses.length (Qac Qat t.uses),slT t.gaps.length (Qac Qat t.gaps),slT t.goods.length (Qac Qaw t.goods)],.int .i64 d] (.bool false)]++QpT B s load days t kind ration d stock w dJ0
def QuM (s:Qaa) (load:List Int) (days:Int) (t:Qaf) (kind ration:Int) (d stock w:Int) (dJ0:Nat->Value):Qas:=Qvf s load days t kind ration d stock w dJ0++[(5,Qai.pure (.bool false) [])]
def QoM (B:Lo) (s:Qaa) (load:List Int) (days:Int) (t:Qaf) (kind ration:Int) (d stock w:Int) (dJ0:Nat->Value):List Prop:=[ltq stock (Int.tdiv (t.uses.getD kind.toNat default * ration+999) 1000)=true]++Qpy B s load days t kind ration d stock w dJ0
def Qu4 (s:Qaa) (load:List Int) (days:Int) (t:Qaf) (kind ration:Int) (d stock w:Int) (dJ0:Nat->Value):Qas:=QuM s load days t kind ration d stock w dJ0++[(8,hvT)]
theorem Q2K (B:Lo) (s:Qaa) (load:List Int) (days:Int) (t:Qaf) (kind ration:Int) (d stock w:Int) (dJ0:Nat->Value):landM (Qal YP (Qa1 YP) J0 B 21 1 (Qa8 41 74 (([1,2,4,9,14,15,16,17]:List Nat).zip (Qdj s load days t kind ration d stock w)) dJ0 Qdl) (Qa6 (QbP s load days t kind ration d stock w)) (2+(QbP s load days t kind ration d stock w).length)
 (Qu4 s load days t kind ration d stock w dJ0++[(11,hvT),(17,hvI (stock - Int.tdiv (t.uses.getD kind.toNat default * ration+999) 1000)),(21,hvI (d+1))]) 0 [] []) [1,2,4,9,14,15,16,17] [(2,KS.auto)] []=some ⟨41,74,Qdl,[],.run,none,Qdj s load days t kind ration (d+1) (if stock - Int.tdiv (t.uses.getD kind.toNat default * ration+999) 1000 > 0 then stock - Int.tdiv (t.uses.getD kind.toNat default * ration+999) 1000 else 0) (d),QbP s load days t kind ration (d+1) (if stock - Int.tdiv (t.uses.getD kind.toNat default * ration+999) 1000 > 0 then stock - Int.tdiv (t.uses.getD kind.toNat default * ration+999) 1000 else 0) (d),
 [wq (d+1)=d+1,wq (stock - Int.tdiv (t.uses.getD kind.toNat default * ration+999) 1000)=stock - Int.tdiv (t.uses.getD kind.toNat default * ration+999) 1000,ltq w 0=true]++QoM B s load days t kind ration d stock w dJ0⟩:=by kernel_rfl
theorem Q2w (B:Lo) (s:Qaa) (load:List Int) (days:Int) (t:Qaf) (kind ration:Int) (d stock w:Int) (dJ0:Nat->Value):landM (Qal YP (Qa1 YP) J0 B 21 1 (Qa8 41 74 (([1,2,4,9,14,15,16,17]:List Nat).zip (Qdj s load days t kind ration d stock w)) dJ0 Qdl) (Qa6 (QbP s load days t kind ration d stock w)) (2+(QbP s load days t kind ration d stock w).length)
 (Qu4 s load days t kind ration d stock w dJ0++[(11,hvF),(15,hvI (stock - Int.tdiv (t.uses.getD kind.toNat default * ration+999) 1000)),(19,hvI (d+1))]) 0 [] []) [1,2,4,9,14,15,16,17] [(2,KS.auto)] []=some ⟨41,74,Qdl,[],.run,none,Qdj s load days t kind ration (d+1) (if stock - Int.tdiv (t.uses.getD kind.toNat default * ration+999) 1000 > 0 then stock - Int.tdiv (t.uses.getD kind.toNat default * ration+999) 1000 else 0) (w),QbP s load days t kind ration (d+1) (if stock - Int.tdiv (t.uses.getD kind.toNat default * ration+999) 1000 > 0 then stock - Int.tdiv (t.uses.getD kind.toNat default * ration+999) 1000 else 0) (w),
 [wq (d+1)=d+1,wq (stock - Int.tdiv (t.uses.getD kind.toNat default * ration+999) 1000)=stock - Int.tdiv (t.uses.getD kind.toNat default * ration+999) 1000,ltq w 0=false]++QoM B s load days t kind ration d stock w dJ0⟩:=by kernel_rfl
theorem Q3G (B:Lo) (s:Qaa) (load:List Int) (days:Int) (t:Qaf) (kind ration:Int) (d stock w:Int) (dJ0:Nat->Value):landM (Qal YP (Qa1 YP) J0 B 21 1 (Qa8 41 74 (([1,2,4,9,14,15,16,17]:List Nat).zip (Qdj s load days t kind ration d stock w)) dJ0 Qdl) (Qa6 (QbP s load days t kind ration d stock w)) (2+(QbP s load days t kind ration d stock w).length)
 (QuM s load days t kind ration d stock w dJ0++[(8,hvF),(15,hvI (stock - Int.tdiv (t.uses.getD kind.toNat default * ration+999) 1000)),(19,hvI (d+1))]) 0 [] []) [1,2,4,9,14,15,16,17] [(2,KS.auto)] []=some ⟨41,74,Qdl,[],.run,none,Qdj s load days t kind ration (d+1) (if stock - Int.tdiv (t.uses.getD kind.toNat default * ration+999) 1000 > 0 then stock - Int.tdiv (t.uses.getD kind.toNat default * ration+999) 1000 else 0) (w),QbP s load days t kind ration (d+1) (if stock - Int.tdiv (t.uses.getD kind.toNat default * ration+999) 1000 > 0 then stock - Int.tdiv (t.uses.getD kind.toNat default * ration+999) 1000 else 0) (w),
 [wq (d+1)=d+1,wq (stock - Int.tdiv (t.uses.getD kind.toNat default * ration+999) 1000)=stock - Int.tdiv (t.uses.getD kind.toNat default * ration+999) 1000,ltq stock (Int.tdiv (t.uses.getD kind.toNat default * ration+999) 1000)=false]++Qpy B s load days t kind ration d stock w dJ0⟩:=by kernel_rfl
theorem Q3t (B:Lo) (s:Qaa) (load:List Int) (days:Int) (t:Qaf) (kind ration:Int) (d stock w:Int) (dJ0:Nat->Value):QaU (Qal YP (Qa1 YP) J0 B 9 1 (Qa8 41 74 (([1,2,4,9,14,15,16,17]:List Nat).zip (Qdj s load days t kind ration d stock w)) dJ0 Qdl) (Qa6 (QbP s load days t kind ration d stock w)) (2+(QbP s load days t kind ration d stock w).length)
 [(2,hvF)] 0 [] []) []=some (.tuple #[.int .i64 w,.int .i64 stock],
 [ltq d days=false]):=by kernel_rfl
theorem Q2j (B:Lo) (s:Qaa) (load:List Int) (days:Int) (t:Qaf) (kind ration:Int) (d i stock w:Int) (dJ0:Nat->Value):landM (Qal YP (Qa1 YP) J0 B 11 1 (Qa8 41 74 (([1,2,4,9,14,15,16,17,18]:List Nat).zip (Qg6 s load days t kind ration d i stock w)) dJ0 Qg2) (Qa6 (Qd2 s load days t kind ration d i stock w)) (2+(Qd2 s load days t kind ration d i stock w).length)
 [(3,hvT),(9,Qai.tidx i.toNat #[.int .i64 (load.getD i.toNat default)]),(11,Qai.tidx (Int.toNat (load.getD i.toNat default)) #[slT (List.length (t.goods.getD (Int.toNat (load.getD i.toNat default)) default)) (Qac Qat (t.goods.getD (Int.toNat (load.getD i.toNat default)) default))]),(14,Qai.tidx kind.toNat #[.int .i64 (List.getD (t.goods.getD (Int.toNat (load.getD i.toNat default)) default) kind.toNat default)]),(16,hvI (stock+List.getD (t.goods.getD (Int.toNat (load.getD i.toNat default)) default) kind.toNat default)),(19,hvI (i+1))] 0 [] []) [1,2,4,9,14,15,16,17,18] [(2,KS.auto)] []=some ⟨41,74,Qg2,[],.run,none,Qg6 s load days t kind ration (d) (i+1) (stock+List.getD (t.goods.getD (Int.toNat (load.getD i.toNat default)) default) kind.toNat default) (w),Qd2 s load days t kind ration (d) (i+1) (stock+List.getD (t.goods.getD (Int.toNat (load.getD i.toNat default)) default) kind.toNat default) (w),
 [wq (i+1)=i+1,wq (stock+List.getD (t.goods.getD (Int.toNat (load.getD i.toNat default)) default) kind.toNat default)=stock+List.getD (t.goods.getD (Int.toNat (load.getD i.toNat default)) default) kind.toNat default,kind=(↑kind.toNat:Int)/\Int.toNat kind < List.length (t.goods.getD (Int.toNat (load.getD i.toNat default)) default)/\Array.extract (Qac Qat (t.goods.getD (Int.toNat (load.getD i.toNat default)) default)) (Int.toNat kind * TypeInfo.size Tryz.t3) (Int.toNat kind * TypeInfo.size Tryz.t3+TypeInfo.size Tryz.t3)=#[.int .i64 (List.getD (t.goods.getD (Int.toNat (load.getD i.toNat default)) default) kind.toNat default)],load.getD i.toNat default=(↑(Int.toNat (load.getD i.toNat default)):Int)/\Int.toNat (load.getD i.toNat default) < List.length t.goods/\Array.extract (Qac Qaw t.goods) (Int.toNat (load.getD i.toNat default) * TypeInfo.size Tryz.t22) (Int.toNat (load.getD i.toNat default) * TypeInfo.size Tryz.t22+TypeInfo.size Tryz.t22)=#[slT (List.length (t.goods.getD (Int.toNat (load.getD i.toNat default)) default)) (Qac Qat (t.goods.getD (Int.toNat (load.getD i.toNat default)) default))],i=(↑i.toNat:Int)/\Int.toNat i < List.length load/\Array.extract (Qac Qat load) (Int.toNat i * TypeInfo.size Tryz.t3) (Int.toNat i * TypeInfo.size Tryz.t3+TypeInfo.size Tryz.t3)=#[.int .i64 (load.getD i.toNat default)],ltq i (↑load.length:Int)=true]⟩:=by kernel_rfl
def QpO (B:Lo) (s:Qaa) (load:List Int) (days:Int) (t:Qaf) (kind ration:Int) (d i stock w:Int) (dJ0:Nat->Value):List Prop:=[ltq i (↑load.length:Int)=false]++([]:List Prop)
def Qvk (s:Qaa) (load:List Int) (days:Int) (t:Qaf) (kind ration:Int) (d i stock w:Int) (dJ0:Nat->Value):Qas:=[(3,hvF)]
def Qpp (B:Lo) (s:Qaa) (load:List Int) (days:Int) (t:Qaf) (kind ration:Int) (d i stock w:Int) (dJ0:Nat->Value):List Prop:=[ltq stock (Int.tdiv (t.uses.getD kind.toNat default * ration+999) 1000)=true]++QpO B s load days t kind ration d i stock w dJ0
def Qvl (s:Qaa) (load:List Int) (days:Int) (t:Qaf) (kind ration:Int) (d i stock w:Int) (dJ0:Nat->Value):Qas:=Qvk s load days t kind ration d i stock w dJ0++[(6,hvT)]
theorem Q2s (B:Lo) (s:Qaa) (load:List Int) (days:Int) (t:Qaf) (kind ration:Int) (d i stock w:Int) (dJ0:Nat->Value):landM (Qal YP (Qa1 YP) J0 B 14 1 (Qa8 41 74 (([1,2,4,9,14,15,16,17,18]:List Nat).zip (Qg6 s load days t kind ration d i stock w)) dJ0 Qg2) (Qa6 (Qd2 s load days t kind ration d i stock w)) (2+(Qd2 s load days t kind ration d i stock w).length)
 (Qvl s load days t kind ration d i stock w dJ0++[(9,hvT),(15,hvI (stock - Int.tdiv (t.uses.getD kind.toNat default * ration+999) 1000)),(19,hvI (d+1))]) 0 [] []) [1,2,4,9,14,15,16,17] [(2,KS.auto)] []=some ⟨41,74,Qdl,[],.run,none,Qdj s load days t kind ration (d+1) (if stock - Int.tdiv (t.uses.getD kind.toNat default * ration+999) 1000 > 0 then stock - Int.tdiv (t.uses.getD kind.toNat default * ration+999) 1000 else 0) (d),QbP s load days t kind ration (d+1) (if stock - Int.tdiv (t.uses.getD kind.toNat default * ration+999) 1000 > 0 then stock - Int.tdiv (t.uses.getD kind.toNat default * ration+999) 1000 else 0) (d),
 [wq (d+1)=d+1,wq (stock - Int.tdiv (t.uses.getD kind.toNat default * ration+999) 1000)=stock - Int.tdiv (t.uses.getD kind.toNat default * ration+999) 1000,ltq w 0=true]++Qpp B s load days t kind ration d i stock w dJ0⟩:=by kernel_rfl
theorem Q1T (B:Lo) (s:Qaa) (load:List Int) (days:Int) (t:Qaf) (kind ration:Int) (d i stock w:Int) (dJ0:Nat->Value):landM (Qal YP (Qa1 YP) J0 B 14 1 (Qa8 41 74 (([1,2,4,9,14,15,16,17,18]:List Nat).zip (Qg6 s load days t kind ration d i stock w)) dJ0 Qg2) (Qa6 (Qd2 s load days t kind ration d i stock w)) (2+(Qd2 s load days t kind ration d i stock w).length)
 (Qvl s load days t kind ration d i stock w dJ0++[(9,hvF),(13,hvI (stock - Int.tdiv (t.uses.getD kind.toNat default * ration+999) 1000)),(17,hvI (d+1))]) 0 [] []) [1,2,4,9,14,15,16,17] [(2,KS.auto)] []=some ⟨41,74,Qdl,[],.run,none,Qdj s load days t kind ration (d+1) (if stock - Int.tdiv (t.uses.getD kind.toNat default * ration+999) 1000 > 0 then stock - Int.tdiv (t.uses.getD kind.toNat default * ration+999) 1000 else 0) (w),QbP s load days t kind ration (d+1) (if stock - Int.tdiv (t.uses.getD kind.toNat default * ration+999) 1000 > 0 then stock - Int.tdiv (t.uses.getD kind.toNat default * ration+999) 1000 else 0) (w),
 [wq (d+1)=d+1,wq (stock - Int.tdiv (t.uses.getD kind.toNat default * ration+999) 1000)=stock - Int.tdiv (t.uses.getD kind.toNat default * ration+999) 1000,ltq w 0=false]++Qpp B s load days t kind ration d i stock w dJ0⟩:=by kernel_rfl
theorem Q3j (B:Lo) (s:Qaa) (load:List Int) (days:Int) (t:Qaf) (kind ration:Int) (d i stock w:Int) (dJ0:Nat->Value):landM (Qal YP (Qa1 YP) J0 B 14 1 (Qa8 41 74 (([1,2,4,9,14,15,16,17,18]:List Nat).zip (Qg6 s load days t kind ration d i stock w)) dJ0 Qg2) (Qa6 (Qd2 s load days t kind ration d i stock w)) (2+(Qd2 s load days t kind ration d i stock w).length)
 (Qvk s load days t kind ration d i stock w dJ0++[(6,hvF),(13,hvI (stock - Int.tdiv (t.uses.getD kind.toNat default * ration+999) 1000)),(17,hvI (d+1))]) 0 [] []) [1,2,4,9,14,15,16,17] [(2,KS.auto)] []=some ⟨41,74,Qdl,[],.run,none,Qdj s load days t kind ration (d+1) (if stock - Int.tdiv (t.uses.getD kind.toNat default * ration+999) 1000 > 0 then stock - Int.tdiv (t.uses.getD kind.toNat default * ration+999) 1000 else 0) (w),QbP s load days t kind ration (d+1) (if stock - Int.tdiv (t.uses.getD kind.toNat default * ration+999) 1000 > 0 then stock - Int.tdiv (t.uses.getD kind.toNat default * ration+999) 1000 else 0) (w),
 [wq (d+1)=d+1,wq (stock - Int.tdiv (t.uses.getD kind.toNat default * ration+999) 1000)=stock - Int.tdiv (t.uses.getD kind.toNat default * ration+999) 1000,ltq stock (Int.tdiv (t.uses.getD kind.toNat default * ration+999) 1000)=false]++QpO B s load days t kind ration d i stock w dJ0⟩:=by kernel_rfl
theorem Q37 (B:Lo) (s:Qaa) (load:List Int) (days:Int) (t:Qaf) (kind ration:Int):landM (Qal YP (Qa1 YP) J0 B 11 1 (Qaj YP 41 74 (([.agg (Qah s).toArray,slI load,.int .i64 days,.agg (Qa4 t).toArray,.int .i64 kind,.int .i64 ration]).map (Qao 0 4))) H00 1
 [(7,Qai.tidx kind.toNat #[.int .i64 (s.stock.getD kind.toNat default)]),(14,Qai.tidx kind.toNat #[.int .i64 (t.uses.getD kind.toNat default)]),(17,hvI (t.uses.getD kind.toNat default * ration)),(18,hvI (t.uses.getD kind.toNat default * ration+999)),(19,hvI (Int.tdiv (t.uses.getD kind.toNat default * ration+999) 1000))] 0 [] []) [1,2,4,9,14,15,16,17] [(2,KS.auto)] []=some ⟨41,74,Qdl,[],.run,none,Qdj s load days t kind ration (0) (s.stock.getD kind.toNat default) (-1),QbP s load days t kind ration (0) (s.stock.getD kind.toNat default) (-1),
 [IntKind.wrap .i64 (Int.tdiv (t.uses.getD kind.toNat default * ration+999) 1000)=Int.tdiv (t.uses.getD kind.toNat default * ration+999) 1000,wq (t.uses.getD kind.toNat default * ration+999)=t.uses.getD kind.toNat default * ration+999,wq (t.uses.getD kind.toNat default * ration)=t.uses.getD kind.toNat default * ration,kind=(↑kind.toNat:Int)/\Int.toNat kind < List.length t.uses/\Array.extract (Qac Qat t.uses) (Int.toNat kind * TypeInfo.size Tryz.t3) (Int.toNat kind * TypeInfo.size Tryz.t3+TypeInfo.size Tryz.t3)=#[.int .i64 (t.uses.getD kind.toNat default)],kind=(↑kind.toNat:Int)/\Int.toNat kind < List.length s.stock/\Array.extract (Qac Qat s.stock) (Int.toNat kind * TypeInfo.size Tryz.t3) (Int.toNat kind * TypeInfo.size Tryz.t3+TypeInfo.size Tryz.t3)=#[.int .i64 (s.stock.getD kind.toNat default)]]⟩:=by kernel_rfl
set_option maxHeartbeats 4000000 in
theorem Q20 (s:Qaa) (load:List Int) (days:Int) (t:Qaf) (kind ration:Int) (hs:Qav s=true) (hl:load.length<=10) (hx:∀x∈load,0<=x/\x < s.lots.length) (ht:Qbn s days t=true) (hd:0<=days/\days<=300) (hk:0<=kind/\kind < s.stock.length) (hr:0<=ration/\ration<=1001) {B:Lo} (hJ:∀w,B.has w->J0 w) {c0:CF}:∀m:Nat,(∀(d stock w:Int),(days - d).toNat * 20=m->∀(d0:0<=d) (s0:0<=stock/\stock<=100000+1000000 * d) (w0: -1<=w/\w<=300),Q2e B c0 s load days t kind ration d stock w->EndsT YP B c0 (Qn0 (Qcn (Qd7 t kind ration) (Qee t kind load) (QaW t) (upI d days) (w,stock))))/\(∀(d i stock w:Int),(days - d).toNat * 20 - 15+(load.length - i.toNat)=m->∀(d0:0<=d) (d1:d < days) (i0:0<=i) (i1:i<=load.length) (s0:0<=stock/\stock<=100000+1000000 * d+100000 * i) (w0: -1<=w/\w<=300),Q3x B c0 s load days t kind ration d i stock w->EndsT YP B c0 (Qn0 (Q5v (Qd7 t kind ration) (Qee t kind load) (QaW t) days d w (stock+Qee t kind (load.drop i.toNat))))):=by
 intro m0;induction m0 using Nat.strongRecOn with
 | _ m0 ih0=>
   refine ⟨?_, ?_⟩
   ·intro d stock w hm0 d0 s0 w0 ⟨dJ0,hdJ0,hg0⟩;have ht':=ht;simp only [Qbn,QjB,YB,decide_eq_true_iff,List.all_eq_true,QaA] at ht';have hgp:=Qa5 hs;have hst:=Qar hs;have hrows:=Qeo hs ht'.2.2;have hus:=(Qbz ht'.1)
    have hgg:∀x∈t.gaps,0<=x/\x<=60:=fun x h=> by have:=ht'.2.1.2.1 x h;omega
    have hgl:t.gaps.length<=300:=ht'.2.1.1;have hu1:=hus.2 kind hk.1 (by omega);have hu2:=hst.2.2.2 _ (QaF (l:=s.use) hk.1 (by omega));have hs1:=hst.2.1 _ (QaF (l:=s.stock) hk.1 hk.2);have hu3:0<=t.uses.getD kind.toNat default * ration:=Int.mul_nonneg (by omega) (by omega);have hu4:t.uses.getD kind.toNat default * ration<=1000 * 1001:=Int.mul_le_mul (by omega) (by omega) (by omega) (by omega);have hu5:(t.uses.getD kind.toNat default * ration+999).tdiv 1000=(t.uses.getD kind.toNat default * ration+999) / 1000:=Int.tdiv_eq_ediv_of_nonneg (by omega);have hU:Qd7 t kind ration=(t.uses.getD kind.toNat default * ration+999).tdiv 1000:=rfl;by_cases q0:(d:Int) < (days)
    ·have hp0:Qa3 (QpT B s load days t kind ration d stock w dJ0):=by
      exact ⟨(Qbe q0),trivial⟩
     cases q1:QaW t d with
     | true=>
       have s2:=Qh3 (use:=Qd7 t kind ration) (br:=Qee t kind load) (comes:=QaW t) (days:=days) (d:=d) (w:=w) (s:=stock) (by omega);have hc:(if QaW t d=true then Qee t kind load else 0)=Qee t kind load:=if_pos ‹QaW t d=true›;exact ((ih0 _ (by omega)).2 (d) (0) (stock) (w) rfl (by with_reducible assumption) (by with_reducible assumption) (by omega) (by omega) (by omega) (by with_reducible assumption)
        (hg0.landM okF hJ Qab (Q2O B s load days t kind ration d stock w dJ0)
        ⟨⟨trivial,(by have t_:=Q4g (t) (d) (by with_reducible assumption) (by with_reducible assumption);rw [q1] at t_;exact t_)⟩,hp0⟩ (by kernel_rfl) (by kernel_rfl))).cast (by (rw [s2,hc];rfl))
     | false=>
       have hp1:Qa3 (Qpy B s load days t kind ration d stock w dJ0):=by
        have s2:=Qh3 (use:=Qd7 t kind ration) (br:=Qee t kind load) (comes:=QaW t) (days:=days) (d:=d) (w:=w) (s:=stock) (by omega);have hc:(if QaW t d=true then Qee t kind load else 0)=0:=if_neg (by rw [‹QaW t d=false›];decide);exact ⟨⟨trivial,(by have t_:=Q4g (t) (d) (by with_reducible assumption) (by with_reducible assumption);rw [q1] at t_;exact t_)⟩,hp0⟩
       by_cases q2:(stock:Int) < (Int.tdiv (t.uses.getD kind.toNat default * ration+999) 1000)
       ·have hp2:Qa3 (QoM B s load days t kind ration d stock w dJ0):=by
         exact ⟨(Qbe q2),hp1⟩
        by_cases q3:(w:Int) < (0)
        ·have s2:=Qh3 (use:=Qd7 t kind ration) (br:=Qee t kind load) (comes:=QaW t) (days:=days) (d:=d) (w:=w) (s:=stock) (by omega);have hc:(if QaW t d=true then Qee t kind load else 0)=0:=if_neg (by rw [‹QaW t d=false›];decide);exact ((ih0 _ (by omega)).1 (d+1) (if stock - Int.tdiv (t.uses.getD kind.toNat default * ration+999) 1000 > 0 then stock - Int.tdiv (t.uses.getD kind.toNat default * ration+999) 1000 else 0) (d) rfl (by omega) (by omega) (by omega)
          (hg0.landM okF hJ Qab (Q2K B s load days t kind ration d stock w dJ0)
          ⟨(QaQ (by omega) (by omega)),⟨(QaQ (by omega) (by omega)),⟨(Qbe q3),hp2⟩⟩⟩ (by kernel_rfl) (by kernel_rfl))).cast (by (rw [s2,hc];exact congrArg Qn0 (kD (by split <;> omega) (by split <;> omega))))
        ·have s2:=Qh3 (use:=Qd7 t kind ration) (br:=Qee t kind load) (comes:=QaW t) (days:=days) (d:=d) (w:=w) (s:=stock) (by omega);have hc:(if QaW t d=true then Qee t kind load else 0)=0:=if_neg (by rw [‹QaW t d=false›];decide);exact ((ih0 _ (by omega)).1 (d+1) (if stock - Int.tdiv (t.uses.getD kind.toNat default * ration+999) 1000 > 0 then stock - Int.tdiv (t.uses.getD kind.toNat default * ration+999) 1000 else 0) (w) rfl (by omega) (by omega) (by with_reducible assumption)
          (hg0.landM okF hJ Qab (Q2w B s load days t kind ration d stock w dJ0)
          ⟨(QaQ (by omega) (by omega)),⟨(QaQ (by omega) (by omega)),⟨(Qbj (Int.not_lt.1 q3)),hp2⟩⟩⟩ (by kernel_rfl) (by kernel_rfl))).cast (by (rw [s2,hc];exact congrArg Qn0 (kD (by split <;> omega) (by split <;> omega))))
       ·have s2:=Qh3 (use:=Qd7 t kind ration) (br:=Qee t kind load) (comes:=QaW t) (days:=days) (d:=d) (w:=w) (s:=stock) (by omega);have hc:(if QaW t d=true then Qee t kind load else 0)=0:=if_neg (by rw [‹QaW t d=false›];decide);exact ((ih0 _ (by omega)).1 (d+1) (if stock - Int.tdiv (t.uses.getD kind.toNat default * ration+999) 1000 > 0 then stock - Int.tdiv (t.uses.getD kind.toNat default * ration+999) 1000 else 0) (w) rfl (by omega) (by omega) (by with_reducible assumption)
         (hg0.landM okF hJ Qab (Q3G B s load days t kind ration d stock w dJ0)
         ⟨(QaQ (by omega) (by omega)),⟨(QaQ (by omega) (by omega)),⟨(Qbj (Int.not_lt.1 q2)),hp1⟩⟩⟩ (by kernel_rfl) (by kernel_rfl))).cast (by (rw [s2,hc];exact congrArg Qn0 (kD (by split <;> omega) (by split <;> omega))))
    ·have s2:=Q1M (use:=Qd7 t kind ration) (br:=Qee t kind load) (comes:=QaW t) (days:=days) (d:=d) (w:=w) (s:=stock) (by omega);exact (GoE.endsT okF hJ Qab hg0 (Q3t B s load days t kind ration d stock w dJ0)
      ⟨(Qbj (Int.not_lt.1 q0)),trivial⟩).cast (by (rw [s2];rfl))
   ·intro d i stock w hm0 d0 d1 i0 i1 s0 w0 ⟨dJ0,hdJ0,hg0⟩;have ht':=ht;simp only [Qbn,QjB,YB,decide_eq_true_iff,List.all_eq_true,QaA] at ht';have hgp:=Qa5 hs;have hst:=Qar hs;have hrows:=Qeo hs ht'.2.2;have hus:=(Qbz ht'.1)
    have hgg:∀x∈t.gaps,0<=x/\x<=60:=fun x h=> by have:=ht'.2.1.2.1 x h;omega
    have hgl:t.gaps.length<=300:=ht'.2.1.1;have hu1:=hus.2 kind hk.1 (by omega);have hu2:=hst.2.2.2 _ (QaF (l:=s.use) hk.1 (by omega));have hs1:=hst.2.1 _ (QaF (l:=s.stock) hk.1 hk.2);have hu3:0<=t.uses.getD kind.toNat default * ration:=Int.mul_nonneg (by omega) (by omega);have hu4:t.uses.getD kind.toNat default * ration<=1000 * 1001:=Int.mul_le_mul (by omega) (by omega) (by omega) (by omega);have hu5:(t.uses.getD kind.toNat default * ration+999).tdiv 1000=(t.uses.getD kind.toNat default * ration+999) / 1000:=Int.tdiv_eq_ediv_of_nonneg (by omega);have hU:Qd7 t kind ration=(t.uses.getD kind.toNat default * ration+999).tdiv 1000:=rfl;by_cases q0:(i:Int) < ((↑load.length:Int))
    ·have s2:=Q1t (t:=t) (kind:=kind) (l:=load) i0 q0;have g1:=hx _ (QaF i0 q0);have g2:=hrows.2 _ (QaF (l:=t.goods) (i:=load.getD i.toNat default) g1.1 (by omega));have g3:=g2.2 _ (QaF (l:=t.goods.getD (load.getD i.toNat default).toNat default) (i:=kind) hk.1 (by omega));exact ((ih0 _ (by omega)).2 (d) (i+1) (stock+List.getD (t.goods.getD (Int.toNat (load.getD i.toNat default)) default) kind.toNat default) (w) rfl (by with_reducible assumption) (by with_reducible assumption) (by omega) (by omega) (by omega) (by with_reducible assumption)
      (hg0.landM okF hJ Qab (Q2j B s load days t kind ration d i stock w dJ0)
      ⟨(QaQ (by omega) (by omega)),⟨(QaQ (by omega) (by omega)),⟨⟨by first | omega | (split <;> omega),by first | omega | (split <;> omega),(Qag (z:=1) (fun _=> rfl) (by omega))⟩,⟨⟨by first | omega | (split <;> omega),by first | omega | (split <;> omega),(Qag (z:=1) (fun _=> rfl) (by omega))⟩,⟨⟨by first | omega | (split <;> omega),by first | omega | (split <;> omega),(Qag (z:=1) (fun _=> rfl) (by omega))⟩,⟨(Qbe q0),trivial⟩⟩⟩⟩⟩⟩ (by kernel_rfl) (by kernel_rfl))).cast (by (rw [s2,<-Int.add_assoc];done))
    ·have hp3:Qa3 (QpO B s load days t kind ration d i stock w dJ0):=by
      exact ⟨(Qbj (Int.not_lt.1 q0)),trivial⟩
     by_cases q1:(stock:Int) < (Int.tdiv (t.uses.getD kind.toNat default * ration+999) 1000)
     ·have hp4:Qa3 (Qpp B s load days t kind ration d i stock w dJ0):=by
       exact ⟨(Qbe q1),hp3⟩
      by_cases q2:(w:Int) < (0)
      ·have s2:=QpK (t:=t) (kind:=kind) (l:=load) (i:=i) (by omega);exact ((ih0 _ (by omega)).1 (d+1) (if stock - Int.tdiv (t.uses.getD kind.toNat default * ration+999) 1000 > 0 then stock - Int.tdiv (t.uses.getD kind.toNat default * ration+999) 1000 else 0) (d) rfl (by omega) (by omega) (by omega)
        (hg0.landM okF hJ Qab (Q2s B s load days t kind ration d i stock w dJ0)
        ⟨(QaQ (by omega) (by omega)),⟨(QaQ (by omega) (by omega)),⟨(Qbe q2),hp4⟩⟩⟩ (by kernel_rfl) (by kernel_rfl))).cast (by (rw [s2];exact congrArg Qn0 (kD (by split <;> omega) (by split <;> omega))))
      ·have s2:=QpK (t:=t) (kind:=kind) (l:=load) (i:=i) (by omega);exact ((ih0 _ (by omega)).1 (d+1) (if stock - Int.tdiv (t.uses.getD kind.toNat default * ration+999) 1000 > 0 then stock - Int.tdiv (t.uses.getD kind.toNat default * ration+999) 1000 else 0) (w) rfl (by omega) (by omega) (by with_reducible assumption)
        (hg0.landM okF hJ Qab (Q1T B s load days t kind ration d i stock w dJ0)
        ⟨(QaQ (by omega) (by omega)),⟨(QaQ (by omega) (by omega)),⟨(Qbj (Int.not_lt.1 q2)),hp4⟩⟩⟩ (by kernel_rfl) (by kernel_rfl))).cast (by (rw [s2];exact congrArg Qn0 (kD (by split <;> omega) (by split <;> omega))))
     ·have s2:=QpK (t:=t) (kind:=kind) (l:=load) (i:=i) (by omega);exact ((ih0 _ (by omega)).1 (d+1) (if stock - Int.tdiv (t.uses.getD kind.toNat default * ration+999) 1000 > 0 then stock - Int.tdiv (t.uses.getD kind.toNat default * ration+999) 1000 else 0) (w) rfl (by omega) (by omega) (by with_reducible assumption)
       (hg0.landM okF hJ Qab (Q3j B s load days t kind ration d i stock w dJ0)
       ⟨(QaQ (by omega) (by omega)),⟨(QaQ (by omega) (by omega)),⟨(Qbj (Int.not_lt.1 q1)),hp3⟩⟩⟩ (by kernel_rfl) (by kernel_rfl))).cast (by (rw [s2];exact congrArg Qn0 (kD (by split <;> omega) (by split <;> omega))))
set_option maxHeartbeats 4000000 in
theorem Q50 (s:Qaa) (load:List Int) (days:Int) (t:Qaf) (kind ration:Int) (hs:Qav s=true) (hl:load.length<=10) (hx:∀x∈load,0<=x/\x < s.lots.length) (ht:Qbn s days t=true) (hd:0<=days/\days<=300) (hk:0<=kind/\kind < s.stock.length) (hr:0<=ration/\ration<=1001) {B:Lo} (hJ:∀w,B.has w->J0 w):EndsT YP B (Qaj YP 41 74 (([.agg (Qah s).toArray,slI load,.int .i64 days,.agg (Qa4 t).toArray,.int .i64 kind,.int .i64 ration]).map (Qao 0 4))) (Qn0 (Qcn (Qd7 t kind ration) (Qee t kind load) (QaW t) (upI 0 days) (-1,s.stock.getD kind.toNat default))):=by
 have ht':=ht;simp only [Qbn,QjB,YB,decide_eq_true_iff,List.all_eq_true,QaA] at ht';have hgp:=Qa5 hs;have hst:=Qar hs;have hrows:=Qeo hs ht'.2.2;have hus:=(Qbz ht'.1)
 have hgg:∀x∈t.gaps,0<=x/\x<=60:=fun x h=> by have:=ht'.2.1.2.1 x h;omega
 have hgl:t.gaps.length<=300:=ht'.2.1.1;have hu1:=hus.2 kind hk.1 (by omega);have hu2:=hst.2.2.2 _ (QaF (l:=s.use) hk.1 (by omega));have hs1:=hst.2.1 _ (QaF (l:=s.stock) hk.1 hk.2);have hu3:0<=t.uses.getD kind.toNat default * ration:=Int.mul_nonneg (by omega) (by omega);have hu4:t.uses.getD kind.toNat default * ration<=1000 * 1001:=Int.mul_le_mul (by omega) (by omega) (by omega) (by omega);have hu5:(t.uses.getD kind.toNat default * ration+999).tdiv 1000=(t.uses.getD kind.toNat default * ration+999) / 1000:=Int.tdiv_eq_ediv_of_nonneg (by omega);have hU:Qd7 t kind ration=(t.uses.getD kind.toNat default * ration+999).tdiv 1000:=rfl;exact ((Q20 s load days t kind ration hs hl hx ht hd hk hr hJ _).1 (0) (s.stock.getD kind.toNat default) (-1) rfl (by omega) (by omega) (by omega)
  (GoE.start.landM okF hJ Qab (Q37 B s load days t kind ration)
  ⟨(Qgz (by omega) (by omega)),⟨(QaQ (by omega) (by omega)),⟨(QaQ (by omega) (by omega)),⟨⟨by omega,by omega,(Qag (z:=1) (fun _=> rfl) (by omega))⟩,⟨⟨by omega,by omega,(Qag (z:=1) (fun _=> rfl) (by omega))⟩,trivial⟩⟩⟩⟩⟩ (by kernel_rfl) (by kernel_rfl))).cast (by rfl)
theorem Q65 (s:Qaa) (load:List Int) (days:Int) (t:Qaf) (kind ration:Int) (hs:Qav s=true) (hl:load.length<=10) (hx:∀x∈load,0<=x/\x < s.lots.length) (ht:Qbn s days t=true) (hd:0<=days/\days<=300) (hk:0<=kind/\kind < s.stock.length) (hr:0<=ration/\ration<=1001):Qam YP J0 41 #[.agg (Qah s).toArray,slI load,.int .i64 days,.agg (Qa4 t).toArray,.int .i64 kind,.int .i64 ration] (Qn0 (Qcn (Qd7 t kind ration) (Qee t kind load) (QaW t) (upI 0 days) (-1,s.stock.getD kind.toNat default))):=
 QaG (ts:=[.agg (Qah s).toArray,slI load,.int .i64 days,.agg (Qa4 t).toArray,.int .i64 kind,.int .i64 ration]) Qb1 (c0:=Qaj YP 41 74 (([.agg (Qah s).toArray,slI load,.int .i64 days,.agg (Qa4 t).toArray,.int .i64 kind,.int .i64 ration]).map (Qao 0 4))) (by kernel_rfl) (by kernel_rfl) fun B hJ=> Q50 s load days t kind ration hs hl hx ht hd hk hr hJ
end
end Go.Proofs.YtiabgkiccaodmaaGreat

namespace Go.Proofs.YtiabgkiccaodmaaGreat
open Go Go.CE Go.RowKit
theorem Qx0 {a b c:Int} (h1:a<=b) (h2:b<=c):upI a c=upI a b++upI b c:=by
 obtain ⟨n,hn⟩:∃n:Nat,b=a+n:=⟨(b - a).toNat,by omega⟩
 subst hn;induction n generalizing a with
 | zero=> rw [QgG (a:=a) (b:=a+((0:Nat):Int)) (by omega),show a+((0:Nat):Int)=a by omega];rfl
 | succ n ih=>
   rw [QdW (a:=a) (b:=c) (by omega),QdW (a:=a) (b:=a+((n+1:Nat):Int)) (by omega),show a+((n+1:Nat):Int)=(a+1)+(n:Int) by omega,ih (by omega) (by omega)];rfl
theorem Qhl {a b x:Int} (h:x∈upI a b):a<=x/\x < b:=by
 unfold upI at h;obtain ⟨k,hk,rfl⟩:=List.mem_map.1 h;have:=List.mem_range.1 hk;omega
theorem Q0N {s x n:Int} (hs:0<=s) (hx:0<=x) (hn:0<=n):Qlg (QpV s x) n=(Qlg s n || decide (x=n)):=by
 rw [Qpq,Qpq];unfold QpV orN QuL;rw [Int.toNat_natCast,Int.toNat_natCast,Nat.testBit_or,Nat.testBit_two_pow];congr 1;exact decide_eq_decide.2 (by omega)
theorem Q6o {s n:Int}:0<=QpV s n:=Int.natCast_nonneg _
theorem QsD {n:Int} (hn:0<=n):∀(l:List Int) (s:Int),(∀x∈l,0<=x)->0<=s->Qlg (QbL l s) n=(Qlg s n || l.contains n)
 | [],s,_,_=> by simp [QbL]
 | x::l,s,h,hs=> by
   rw [QbL,QsD hn l (QpV s x) (fun y hy=> h y (by simp [hy])) Q6o,Q0N hs (h x (by simp)) hn,List.contains_cons,Bool.or_assoc];congr 1;congr 1;by_cases e:x=n
   ·subst e;simp
   ·rw [decide_eq_false e];symm;exact beq_eq_false_iff_ne.2 (Ne.symm e)
theorem Q00 {n:Int}:Qlg 0 n=false:=by rw [Qpq];simp
theorem Q3u {s n:Int} (h0:0<=s) (hn:Qcz s<=n):Qlg s n=false:=by
 rw [Qpq];refine Nat.testBit_lt_two_pow ?_;unfold Qcz at hn;by_cases hs:s=0
 ·subst hs;exact Nat.two_pow_pos _
 ·rw [if_neg hs] at hn;have hb:s.toNat≠0:=by omega
  have:s.toNat < 2 ^ (s.toNat.log2+1):=Nat.lt_log2_self;exact Nat.lt_of_lt_of_le this (Nat.pow_le_pow_right (by decide) (by omega))
theorem QhB {things:Int}:∀{l:List Int} {least:Int},Qef things l least=true->∀x∈l,least<=x/\x < things
 | [],_,_,x,hx=> by simp at hx
 | n::l,least,h,x,hx=> by
   simp only [Qef,YB,QaA] at h;rcases List.mem_cons.1 hx with rfl | hx
   ·omega
   ·have:=QhB h.2 x hx;omega
theorem Qtw {things:Int}:∀(m:Nat) (l:List Int) (least:Int),(things - least).toNat=m->Qef things l least=true->(upI least things).filter (fun n=> l.contains n)=l:=by
 intro m;induction m with
 | zero=>
   intro l least hm h;rw [QgG (by omega)];cases l with
   | nil=> rfl
   | cons x l=> have:=QhB h x (by simp);omega
 | succ m ih=>
   intro l least hm h;cases l with
   | nil=> simp
   | cons x l=>
     have hx:=QhB h x (by simp);rw [QdW (by omega)];by_cases e:least=x
     ·subst e;rw [List.filter_cons_of_pos (by simp)];simp only [Qef,YB] at h;congr 1;refine (List.filter_congr fun n hn=> ?_).trans (ih l (least+1) (by omega) h.2);have:=(Qhl hn).1;rw [List.contains_cons,beq_eq_false_iff_ne.2 (by omega),Bool.false_or]
     ·have hne:(x::l).contains least=false:=by
       cases hc:(x::l).contains least with
       | false=> rfl
       | true=>
         have hm2:least∈x::l:=List.contains_iff_mem.1 hc;simp only [Qef,YB,QaA] at h;rcases List.mem_cons.1 hm2 with rfl | hm2
         ·exact absurd rfl e
         ·have:=QhB h.2 least hm2;omega
      rw [List.filter_cons_of_neg (by rw [hne];decide)];refine ih (x::l) (least+1) (by omega) ?_;simp only [Qef,YB,QaA] at h ⊢;exact ⟨by omega,h.2⟩
theorem QqW {α:Type} [Inhabited α] {xs:List α} {load:List Int} {things:Nat} (ht:things<=61) (h:Qef things load 0=true):Qa2 (QbL load 0) xs 0=load.map fun x=> xs.getD x.toNat default:=by
 have hin:=Qki h (Int.le_refl 0);have hlt:=QjX ht load 0 hin (Int.le_refl 0) (Int.pow_pos (by decide));have hle:=Qmh hlt.1 hlt.2;have h0:0<=Qcz (QbL load 0):=by unfold Qcz;split <;> omega
 have e1:(upI 0 (Qcz (QbL load 0))).filter (Qlg (QbL load 0))=(upI 0 things).filter (Qlg (QbL load 0)):=by
  rw [Qx0 (a:=0) (b:=Qcz (QbL load 0)) (c:=things) h0 hle,List.filter_append];have:(upI (Qcz (QbL load 0)) things).filter (Qlg (QbL load 0))=[]:=by
   rw [List.filter_eq_nil_iff];intro n hn;rw [Q3u hlt.1 (Qhl hn).1];decide
  rw [this,List.append_nil]
 have e2:(upI 0 things).filter (Qlg (QbL load 0))=load:=by
  refine (List.filter_congr fun n hn=> ?_).trans (Qtw _ load 0 rfl h);rw [QsD (Qhl hn).1 load 0 (fun x hx=> (hin x hx).1) (Int.le_refl 0),Q00,Bool.false_or]
 unfold Qa2;rw [e1,e2]
theorem Q52 {s:Qaa} {load:List Int} (hs:Qav s=true):(Qef s.lots.length load 0 && decide (Q39 s load<=s.hold))=Qbl s load:=by
 have hm:=Qay hs;unfold Qbl QtW Q39;cases h:Qef s.lots.length load 0 with
 | false=> rfl
 | true=> rw [QqW (by omega) h,List.map_map];rfl
theorem Qop {s:Qaa} {t:Qaf} {load:List Int} {k:Int} (hs:Qav s=true) (h:Qbl s load=true):Qc7 (QbL load 0) t.goods k=Qee t k load:=by
 have hm:=Qay hs;simp only [Qbl,YB] at h;unfold Qc7 Qee;rw [QqW (by omega) h.1,List.map_map];rfl
theorem QqL {days:Int}:∀(l:List Int) (day:Int) (bs:List Bool) (d:Int),(∀g∈l,0<=g)->0<=day->bs.length=days.toNat->0<=d->d < days->(QgT days l day bs).getD d.toNat default=(bs.getD d.toNat default || Qfi d l day)
 | [],day,bs,d,_,_,_,_,_=> by simp [QgT,Qfi]
 | g::l,day,bs,d,h,h0,hb,d0,d1=> by
   have hg:=h g (by simp);simp only [QgT,Qfi];rw [QqL l (day+g) _ d (fun x hx=> h x (by simp [hx])) (by omega) (by cases decide (day+g < days) <;> simp [hb]) d0 d1,<-Bool.or_assoc];congr 1;have hk:d.toNat < bs.length:=by omega
   by_cases e:day+g < days
   ·rw [decide_eq_true e,cond_true];simp only [List.getD_eq_getElem?_getD,List.getElem?_set];by_cases e2:day+g=d
    ·rw [if_pos (by omega),decide_eq_true e2,if_pos (by omega)];simp
    ·rw [if_neg (by omega),decide_eq_false e2,Bool.or_false]
   ·rw [decide_eq_false e,cond_false,decide_eq_false (by omega),Bool.or_false]
theorem QjQ {days d:Int} {gaps:List Int} (h:∀g∈gaps,0<=g) (d0:0<=d) (d1:d < days):(Qb3 days gaps).getD d.toNat default=Qfi d gaps 0:=by
 unfold Qb3;rw [QqL gaps 0 _ d h (Int.le_refl 0) (by simp) d0 d1];have hk:d.toNat < days.toNat:=by omega
 simp [List.getD_eq_getElem?_getD,hk]
theorem Qtq {use br:Int} {comes:Int->Bool}:∀(cs:List Bool) (d left w:Int),0<=d->(∀j:Nat,j < cs.length->comes (d+j)=cs.getD j default)->Qcn use br comes (upI d (d+cs.length)) (w,left)=(if w < 0/\0<=QaK use br cs d left then QaK use br cs d left else w,QiW use br cs left)
 | [],d,left,w,h0,_=> by
   rw [QgG (by simp)];simp [Qcn,QaK,QiW]
 | c::cs,d,left,w,h0,h=> by
   have hc:comes d=c:=by have:=h 0 (by simp);simpa using this
   rw [QdW (by simp;omega),show d+((c::cs).length:Int)=(d+1)+cs.length by simp;omega];simp only [Qcn];rw [hc];have eL:(left+if c=true then br else 0)=left+bif c then br else 0:=by cases c <;> rfl
   have f1:QaK use br (c::cs) d left=bif decide ((left+bif c then br else 0) < use) then d else QaK use br cs (d+1) (Qjh use (left+bif c then br else 0)):=rfl;have f2:QiW use br (c::cs) left=QiW use br cs (Qjh use (left+bif c then br else 0)):=rfl;rw [eL,f1,f2];generalize (left+bif c then br else 0:Int)=L at *;have hs:(if 0 < L - use then L - use else 0)=Qjh use L:=by unfold Qjh;split <;> split <;> omega
   rw [hs,Qtq cs (d+1) (Qjh use L) _ (by omega) (fun j hj=> by
    have:=h (j+1) (by simp;omega);rw [show d+((j+1:Nat):Int)=d+1+(j:Int) by omega] at this;rw [this];simp)]
   have hor:=QfY (use:=use) (br:=br) cs (d+1) (Qjh use L) (by omega);by_cases e:L < use
   ·rw [decide_eq_true e,cond_true];by_cases hw:w < 0
    ·rw [if_pos (show L < use/\w < 0 from ⟨e,hw⟩),if_neg (by omega),if_pos (by omega)]
    ·rw [if_neg (show ¬(L < use/\w < 0) by omega),if_neg (by omega),if_neg (by omega)]
   ·rw [decide_eq_false e,cond_false,if_neg (show ¬(L < use/\w < 0) by omega)]
theorem QzW {s:Qaa} {load:List Int} {days:Int} {t:Qaf} {k:Int} (hs:Qav s=true) (hl:Qbl s load=true) (ht:Qbn s days t=true) (hd:0<=days/\days<=300):
 Qcn (Qd7 t k 1000) (Qee t k load) (QaW t) (upI 0 days) (-1,s.stock.getD k.toNat default)=(QaO (QsJ s (QbL load 0) days t k),Q5X (QsJ s (QbL load 0) days t k)):=by
 have ht':=ht;simp only [Qbn,QjB,YB,decide_eq_true_iff,List.all_eq_true,QaA] at ht';have hgp:=Qa5 hs;have hlen:(Qb3 days t.gaps).length=days.toNat:=by unfold Qb3;rw [Qgc,List.length_replicate]
 have hu:Qd7 t k 1000=t.uses.getD k.toNat default:=by
  have hnn:0<=t.uses.getD k.toNat default:=by
   by_cases hk:k.toNat < t.uses.length
   ·have hus:=Qbz ht'.1;have h1:=hus.2 k.toNat (by omega) (by omega);have h2:=(Qar hs).2.2.2 _ (QaF (l:=s.use) (i:=(k.toNat:Int)) (by omega) (by omega));rw [Int.toNat_natCast] at h1 h2;omega
   ·rw [List.getD_eq_getElem?_getD,List.getElem?_eq_none (by omega)];exact Int.le_refl _
  unfold Qd7;rw [Int.tdiv_eq_ediv_of_nonneg (by omega)];omega
 have hk:=Qtq (use:=Qd7 t k 1000) (br:=Qee t k load) (comes:=QaW t) (Qb3 days t.gaps) 0 (s.stock.getD k.toNat default) (-1) (Int.le_refl 0) (fun j hj=> by
  have:=QjQ (days:=days) (d:=(j:Int)) (gaps:=t.gaps) (fun g hg=> by have:=ht'.2.1.2.1 g hg;omega) (by omega) (by omega);rw [Int.zero_add,<-Int.toNat_natCast j,this];rfl)
 rw [hlen,show (0:Int)+(days.toNat:Int)=days by omega] at hk;rw [hk,hu,<-Qop hs hl];have hor:=QfY (use:=t.uses.getD k.toNat default) (br:=Qc7 (QbL load 0) t.goods k) (Qb3 days t.gaps) 0 (s.stock.getD k.toNat default) (Int.le_refl 0);unfold QaO Q5X QsJ;simp only;congr 1;split <;> omega
theorem Quc {s:Qaa} {load days k:Int} {t:Qaf} (h0:0<=k) (h1:k < s.stock.length):(QaD s load days t).getD k.toNat default=QsJ s load days t k:=by
 have hk:k.toNat < (upI 0 (s.stock.length:Int)).length:=by rw [Qdm];omega
 have e:=Qja h0 h1;rw [List.getD_eq_getElem?_getD,List.getElem?_eq_getElem hk] at e;unfold QaD;rw [List.getD_eq_getElem?_getD,List.getElem?_map,List.getElem?_eq_getElem hk];simp only [Option.map_some,Option.getD_some] at e ⊢;rw [e]
theorem QgK {s:Qaa} {load days:Int} {t:Qaf}:(QaD s load days t).length=s.stock.length:=by simp [QaD,Qdm]
theorem Qu9 {s:Qaa} {load days k:Int} {t:Qaf} {f:Gd->Int} (h0:0<=k) (h1:k < s.stock.length):((QaD s load days t).map f).getD k.toNat default=f (QsJ s load days t k):=by
 have hk:k.toNat < (QaD s load days t).length:=by rw [QgK];omega
 have e:=Quc (s:=s) (load:=load) (days:=days) (t:=t) h0 h1;rw [List.getD_eq_getElem?_getD,List.getElem?_eq_getElem hk] at e;rw [List.getD_eq_getElem?_getD,List.getElem?_map,List.getElem?_eq_getElem hk];simp only [Option.map_some,Option.getD_some] at e ⊢;rw [e]
end Go.Proofs.YtiabgkiccaodmaaGreat

namespace Go.Proofs.YtiabgkiccaodmaaGreat
open Go Go.CE Go.RowKit
noncomputable section
set_option maxRecDepth 100000
theorem Q0d (s:Qaa) (hb:∀l∈s.lots,l.goods.length<=8):Qam YP J0 44 #[.agg (Qah s).toArray] (.bool (Qav s)):=by
 have h:=Q5K s hb;rw [QxU] at h;exact h
theorem Q4j (s:Qaa) (load:List Int) (hs:Qav s=true) (hl:load.length<=10):Qam YP J0 56 #[.agg (Qah s).toArray,slI load] (.bool (Qbl s load)):=by
 have h:=Q7u s load hs hl;rw [Q52 hs] at h;exact h
theorem Q1m (s:Qaa) (days:Int) (t:Qaf) (hs:Qav s=true):Qam YP J0 40 #[.agg (Qah s).toArray,.int .i64 days,.agg (Qa4 t).toArray] (.bool (Qbn s days t)):=by
 have h:=Q6J s days t hs;rw [Qz9 hs] at h;exact h
def QhU (s:Qaa):Array Value:=#[slT s.stock.length (Qac Qat s.stock),slT s.use.length (Qac Qa9 s.use),.int .i64 s.glo,.int .i64 s.ghi,slT s.lots.length (Qac Qan s.lots),.int .i64 s.hold]
def Qkh (B:Lo) (s:Qaa) (load:List Int) (days:Int):List Prop:=[Qa3 []/\Qam YP J0 44 #[.agg (QhU s)] (.bool true)]++([]:List Prop)
def QnR (s:Qaa) (load:List Int) (days:Int):Qas:=[(3,Qai.pure (.bool true) [])]
def Qka (B:Lo) (s:Qaa) (load:List Int) (days:Int):List Prop:=[Qa3 []/\Qam YP J0 56 #[.agg (QhU s),slT load.length (Qac Qat load)] (.bool true)]++Qkh B s load days
def Qom (s:Qaa) (load:List Int) (days:Int):Qas:=QnR s load days++[(7,Qai.pure (.bool true) [])]
theorem QwK (B:Lo) (s:Qaa) (load:List Int) (days:Int):QaU (Qal YP (Qa1 YP) J0 B 6 1 (Qaj YP 39 18 (([.agg (Qah s).toArray,slI load,.int .i64 days]).map (Qao 0 4))) H00 1
 (Qom s load days++[(11,Qai.pure (.bool true) [])]) 0 [] []) []=some (.bool true,
 [Qa3 []/\Qam YP J0 52 #[.int .i64 days] (.bool true)]++Qka B s load days):=by kernel_rfl
theorem QwL (B:Lo) (s:Qaa) (load:List Int) (days:Int):QaU (Qal YP (Qa1 YP) J0 B 6 1 (Qaj YP 39 18 (([.agg (Qah s).toArray,slI load,.int .i64 days]).map (Qao 0 4))) H00 1
 (Qom s load days++[(11,Qai.pure (.bool false) [])]) 0 [] []) []=some (.bool false,
 [Qa3 []/\Qam YP J0 52 #[.int .i64 days] (.bool false)]++Qka B s load days):=by kernel_rfl
theorem Qxs (B:Lo) (s:Qaa) (load:List Int) (days:Int):QaU (Qal YP (Qa1 YP) J0 B 6 1 (Qaj YP 39 18 (([.agg (Qah s).toArray,slI load,.int .i64 days]).map (Qao 0 4))) H00 1
 (QnR s load days++[(7,Qai.pure (.bool false) [])]) 0 [] []) []=some (.bool false,
 [Qa3 []/\Qam YP J0 56 #[.agg (QhU s),slT load.length (Qac Qat load)] (.bool false)]++Qkh B s load days):=by kernel_rfl
theorem Qv5 (B:Lo) (s:Qaa) (load:List Int) (days:Int):QaU (Qal YP (Qa1 YP) J0 B 6 1 (Qaj YP 39 18 (([.agg (Qah s).toArray,slI load,.int .i64 days]).map (Qao 0 4))) H00 1
 [(3,Qai.pure (.bool false) [])] 0 [] []) []=some (.bool false,
 [Qa3 []/\Qam YP J0 44 #[.agg (QhU s)] (.bool false)]):=by kernel_rfl
set_option maxHeartbeats 4000000 in
theorem QzR (s:Qaa) (load:List Int) (days:Int) (hb:∀l∈s.lots,l.goods.length<=8) (hl:load.length<=10) {B:Lo} (hJ:∀w,B.has w->J0 w):EndsT YP B (Qaj YP 39 18 (([.agg (Qah s).toArray,slI load,.int .i64 days]).map (Qao 0 4))) (.bool (Qav s && (Qbl s load && inB days 0 300))):=by
 cases q0:Qav s with
 | true=>
   have hp0:Qa3 (Qkh B s load days):=by
    exact ⟨⟨trivial,(by have t_:=Q0d (s) (by with_reducible assumption);rw [q0] at t_;exact t_)⟩,trivial⟩
   cases q1:Qbl s load with
   | true=>
     have hp1:Qa3 (Qka B s load days):=by
      exact ⟨⟨trivial,(by have t_:=Q4j (s) (load) (by with_reducible assumption) (by with_reducible assumption);rw [q1] at t_;exact t_)⟩,hp0⟩
     cases q2:inB days 0 300 with
     | true=>
       exact (GoE.endsT okF hJ Qab GoE.start (QwK B s load days)
        ⟨⟨trivial,(by have t_:=Q6n (days);rw [q2] at t_;exact t_)⟩,hp1⟩).cast (by rfl)
     | false=>
       exact (GoE.endsT okF hJ Qab GoE.start (QwL B s load days)
        ⟨⟨trivial,(by have t_:=Q6n (days);rw [q2] at t_;exact t_)⟩,hp1⟩).cast (by rfl)
   | false=>
     exact (GoE.endsT okF hJ Qab GoE.start (Qxs B s load days)
      ⟨⟨trivial,(by have t_:=Q4j (s) (load) (by with_reducible assumption) (by with_reducible assumption);rw [q1] at t_;exact t_)⟩,hp0⟩).cast (by rfl)
 | false=>
   exact (GoE.endsT okF hJ Qab GoE.start (Qv5 B s load days)
    ⟨⟨trivial,(by have t_:=Q0d (s) (by with_reducible assumption);rw [q0] at t_;exact t_)⟩,trivial⟩).cast (by rfl)
theorem QgF (s:Qaa) (load:List Int) (days:Int) (hb:∀l∈s.lots,l.goods.length<=8) (hl:load.length<=10):Qam YP J0 39 #[.agg (Qah s).toArray,slI load,.int .i64 days] (.bool (Qav s && (Qbl s load && inB days 0 300))):=
 QaG (ts:=[.agg (Qah s).toArray,slI load,.int .i64 days]) Qb1 (c0:=Qaj YP 39 18 (([.agg (Qah s).toArray,slI load,.int .i64 days]).map (Qao 0 4))) (by kernel_rfl) (by kernel_rfl) fun B hJ=> QzR s load days hb hl hJ
def Qcw (t:Qaf) (i:Int):List Value:=[pA 2 0,.int .i64 i]
def Qbf (t:Qaf) (i:Int):List Obj:=[Obj.cells #[Qa0 1 (slT t.uses.length (Qac Qat t.uses)),Qa0 1 (slT t.gaps.length (Qac Qat t.gaps)),Qa0 1 (slT t.goods.length (Qac Qaw t.goods))] 65]
def Qcs:List Item:=([.code [1,0,1,0,0],.inLoop [1,0,1,0,0],.inBlock 0,.code [1,1]]).map (it (Qaq YP 37))
def QyR (B:Lo) (c0:CF) (t:Qaf) (i:Int):Prop:=∃dJ:Nat->Value,(∀t,Qbd (dJ t))/\GoE YP B c0 H00 1 (Qa8 37 38 (([1,3]:List Nat).zip (Qcw t i)) dJ Qcs) (Qa6 (Qbf t i)) (2+(Qbf t i).length) []
def Qmy (B:Lo) (t:Qaf) (i:Int) (dJ0:Nat->Value):List Prop:=[ltq i (↑t.goods.length:Int)=true]++([]:List Prop)
def Qsv (t:Qaf) (i:Int) (dJ0:Nat->Value):Qas:=[(4,hvT)]
def QlB (B:Lo) (t:Qaf) (i:Int) (dJ0:Nat->Value):List Prop:=[i=(↑i.toNat:Int)/\Int.toNat i < List.length t.goods/\Array.extract (Qac Qaw t.goods) (Int.toNat i * TypeInfo.size Tryz.t22) (Int.toNat i * TypeInfo.size Tryz.t22+TypeInfo.size Tryz.t22)=#[slT (List.length (t.goods.getD i.toNat default)) (Qac Qat (t.goods.getD i.toNat default))],ltq i 12=true]++Qmy B t i dJ0
def Qqv (t:Qaf) (i:Int) (dJ0:Nat->Value):Qas:=Qsv t i dJ0++[(7,hvT),(12,Qai.tidx i.toNat #[slT (List.length (t.goods.getD i.toNat default)) (Qac Qat (t.goods.getD i.toNat default))])]
theorem QyH (B:Lo) (t:Qaf) (i:Int) (dJ0:Nat->Value):QaU (Qal YP (Qa1 YP) J0 B 14 1 (Qa8 37 38 (([1,3]:List Nat).zip (Qcw t i)) dJ0 Qcs) (Qa6 (Qbf t i)) (2+(Qbf t i).length)
 (Qqv t i dJ0++[(15,hvT)]) 0 [] []) []=some (.bool false,
 [ltq 8 (↑(List.length (t.goods.getD i.toNat default)):Int)=true]++QlB B t i dJ0):=by kernel_rfl
theorem QzC (B:Lo) (t:Qaf) (i:Int) (dJ0:Nat->Value):landM (Qal YP (Qa1 YP) J0 B 14 1 (Qa8 37 38 (([1,3]:List Nat).zip (Qcw t i)) dJ0 Qcs) (Qa6 (Qbf t i)) (2+(Qbf t i).length)
 (Qqv t i dJ0++[(15,hvF),(17,hvI (i+1))]) 0 [] []) [1,3] [(2,KS.auto)] []=some ⟨37,38,Qcs,[],.run,none,Qcw t (i+1),Qbf t (i+1),
 [wq (i+1)=i+1,ltq 8 (↑(List.length (t.goods.getD i.toNat default)):Int)=false]++QlB B t i dJ0⟩:=by kernel_rfl
def Qn7 (B:Lo) (t:Qaf) (i:Int) (dJ0:Nat->Value):List Prop:=[ltq i 12=false]++Qmy B t i dJ0
def QrD (t:Qaf) (i:Int) (dJ0:Nat->Value):Qas:=Qsv t i dJ0++[(7,hvF)]
def Qm8 (B:Lo) (t:Qaf) (i:Int) (dJ0:Nat->Value):List Prop:=[(!ltq 8 (↑t.uses.length:Int))=true]++Qn7 B t i dJ0
def Qrn (t:Qaf) (i:Int) (dJ0:Nat->Value):Qas:=QrD t i dJ0++[(12,hvT)]
def QmM (B:Lo) (t:Qaf) (i:Int) (dJ0:Nat->Value):List Prop:=[(!ltq 9 (↑t.goods.length:Int))=true]++Qm8 B t i dJ0
def Qs0 (t:Qaf) (i:Int) (dJ0:Nat->Value):Qas:=Qrn t i dJ0++[(17,hvT)]
theorem Q0b (B:Lo) (t:Qaf) (i:Int) (dJ0:Nat->Value):QaU (Qal YP (Qa1 YP) J0 B 9 1 (Qa8 37 38 (([1,3]:List Nat).zip (Qcw t i)) dJ0 Qcs) (Qa6 (Qbf t i)) (2+(Qbf t i).length)
 (Qs0 t i dJ0++[(23,hvT)]) 0 [] []) []=some (.bool true,
 [(!ltq 310 (↑t.gaps.length:Int))=true]++QmM B t i dJ0):=by kernel_rfl
theorem Q05 (B:Lo) (t:Qaf) (i:Int) (dJ0:Nat->Value):QaU (Qal YP (Qa1 YP) J0 B 9 1 (Qa8 37 38 (([1,3]:List Nat).zip (Qcw t i)) dJ0 Qcs) (Qa6 (Qbf t i)) (2+(Qbf t i).length)
 (Qs0 t i dJ0++[(23,hvF)]) 0 [] []) []=some (.bool false,
 [(!ltq 310 (↑t.gaps.length:Int))=false]++QmM B t i dJ0):=by kernel_rfl
theorem Q0w (B:Lo) (t:Qaf) (i:Int) (dJ0:Nat->Value):QaU (Qal YP (Qa1 YP) J0 B 9 1 (Qa8 37 38 (([1,3]:List Nat).zip (Qcw t i)) dJ0 Qcs) (Qa6 (Qbf t i)) (2+(Qbf t i).length)
 (Qrn t i dJ0++[(17,hvF)]) 0 [] []) []=some (.bool false,
 [(!ltq 9 (↑t.goods.length:Int))=false]++Qm8 B t i dJ0):=by kernel_rfl
theorem QxY (B:Lo) (t:Qaf) (i:Int) (dJ0:Nat->Value):QaU (Qal YP (Qa1 YP) J0 B 9 1 (Qa8 37 38 (([1,3]:List Nat).zip (Qcw t i)) dJ0 Qcs) (Qa6 (Qbf t i)) (2+(Qbf t i).length)
 (QrD t i dJ0++[(12,hvF)]) 0 [] []) []=some (.bool false,
 [(!ltq 8 (↑t.uses.length:Int))=false]++Qn7 B t i dJ0):=by kernel_rfl
def Qmn (B:Lo) (t:Qaf) (i:Int) (dJ0:Nat->Value):List Prop:=[ltq i (↑t.goods.length:Int)=false]++([]:List Prop)
def Qsp (t:Qaf) (i:Int) (dJ0:Nat->Value):Qas:=[(4,hvF)]
def QmZ (B:Lo) (t:Qaf) (i:Int) (dJ0:Nat->Value):List Prop:=[(!ltq 8 (↑t.uses.length:Int))=true]++Qmn B t i dJ0
def Qrr (t:Qaf) (i:Int) (dJ0:Nat->Value):Qas:=Qsp t i dJ0++[(12,hvT)]
def QmF (B:Lo) (t:Qaf) (i:Int) (dJ0:Nat->Value):List Prop:=[(!ltq 9 (↑t.goods.length:Int))=true]++QmZ B t i dJ0
def QrN (t:Qaf) (i:Int) (dJ0:Nat->Value):Qas:=Qrr t i dJ0++[(17,hvT)]
theorem Q1n (B:Lo) (t:Qaf) (i:Int) (dJ0:Nat->Value):QaU (Qal YP (Qa1 YP) J0 B 9 1 (Qa8 37 38 (([1,3]:List Nat).zip (Qcw t i)) dJ0 Qcs) (Qa6 (Qbf t i)) (2+(Qbf t i).length)
 (QrN t i dJ0++[(23,hvT)]) 0 [] []) []=some (.bool true,
 [(!ltq 310 (↑t.gaps.length:Int))=true]++QmF B t i dJ0):=by kernel_rfl
theorem Q0U (B:Lo) (t:Qaf) (i:Int) (dJ0:Nat->Value):QaU (Qal YP (Qa1 YP) J0 B 9 1 (Qa8 37 38 (([1,3]:List Nat).zip (Qcw t i)) dJ0 Qcs) (Qa6 (Qbf t i)) (2+(Qbf t i).length)
 (QrN t i dJ0++[(23,hvF)]) 0 [] []) []=some (.bool false,
 [(!ltq 310 (↑t.gaps.length:Int))=false]++QmF B t i dJ0):=by kernel_rfl
theorem Qzk (B:Lo) (t:Qaf) (i:Int) (dJ0:Nat->Value):QaU (Qal YP (Qa1 YP) J0 B 9 1 (Qa8 37 38 (([1,3]:List Nat).zip (Qcw t i)) dJ0 Qcs) (Qa6 (Qbf t i)) (2+(Qbf t i).length)
 (Qrr t i dJ0++[(17,hvF)]) 0 [] []) []=some (.bool false,
 [(!ltq 9 (↑t.goods.length:Int))=false]++QmZ B t i dJ0):=by kernel_rfl
theorem Q0H (B:Lo) (t:Qaf) (i:Int) (dJ0:Nat->Value):QaU (Qal YP (Qa1 YP) J0 B 9 1 (Qa8 37 38 (([1,3]:List Nat).zip (Qcw t i)) dJ0 Qcs) (Qa6 (Qbf t i)) (2+(Qbf t i).length)
 (Qsp t i dJ0++[(12,hvF)]) 0 [] []) []=some (.bool false,
 [(!ltq 8 (↑t.uses.length:Int))=false]++Qmn B t i dJ0):=by kernel_rfl
theorem Qx6 (B:Lo) (t:Qaf):landM (Qal YP (Qa1 YP) J0 B 7 1 (Qaj YP 37 38 (([.agg (Qa4 t).toArray]).map (Qao 0 4))) H00 1
 [] 0 [] []) [1,3] [(1,KS.auto)] []=some ⟨37,38,Qcs,[],.run,none,Qcw t (0),Qbf t (0),
 []⟩:=by kernel_rfl
set_option maxHeartbeats 4000000 in
theorem Q0g (t:Qaf)  (hfacts:t.uses.length<=9223372036854775807/\t.gaps.length<=9223372036854775807/\t.goods.length<=9223372036854775807) {B:Lo} (hJ:∀w,B.has w->J0 w) {c0:CF}:∀m:Nat,(∀(i:Int),t.goods.length - i.toNat=m->∀(h0:0<=i),QyR B c0 t i->EndsT YP B c0 (.bool (((t.goods.take 12).drop i.toNat).all (fun l=> decide (l.length<=8)) && (decide (t.uses.length<=8) && (decide (t.goods.length<=9) && decide (t.gaps.length<=310)))))):=by
 intro m0;induction m0 using Nat.strongRecOn with
 | _ m0 ih0=>
   intro i hm0 h0 ⟨dJ0,hdJ0,hg0⟩;by_cases q0:(i:Int) < ((↑t.goods.length:Int))
   ·have hp0:Qa3 (Qmy B t i dJ0):=by
     exact ⟨(Qbe q0),trivial⟩
    by_cases q1:(i:Int) < (12)
    ·have hp1:Qa3 (QlB B t i dJ0):=by
      have s2:=Qbq (l:=t.goods.take 12) (p:=fun l=> decide (l.length<=8)) h0 (by rw [List.length_take];omega);have e3:(t.goods.take 12).getD i.toNat default=t.goods.getD i.toNat default:=by simp only [List.getD_eq_getElem?_getD];rw [List.getElem?_take_of_lt (by omega)]
      rw [e3] at s2;exact ⟨⟨by omega,by omega,(Qag (z:=1) (fun _=> rfl) (by omega))⟩,⟨(Qbe q1),hp0⟩⟩
     by_cases q2:(8:Int) < ((↑(List.length (t.goods.getD i.toNat default)):Int))
     ·have s2:=Qbq (l:=t.goods.take 12) (p:=fun l=> decide (l.length<=8)) h0 (by rw [List.length_take];omega);have e3:(t.goods.take 12).getD i.toNat default=t.goods.getD i.toNat default:=by simp only [List.getD_eq_getElem?_getD];rw [List.getElem?_take_of_lt (by omega)]
      rw [e3] at s2;rw [decide_eq_false (by omega)] at s2;exact (GoE.endsT okF hJ Qab hg0 (QyH B t i dJ0)
       ⟨(Qbe q2),hp1⟩).cast (by (simp only [s2,Bool.true_and,Bool.false_and];done))
     ·have s2:=Qbq (l:=t.goods.take 12) (p:=fun l=> decide (l.length<=8)) h0 (by rw [List.length_take];omega);have e3:(t.goods.take 12).getD i.toNat default=t.goods.getD i.toNat default:=by simp only [List.getD_eq_getElem?_getD];rw [List.getElem?_take_of_lt (by omega)]
      rw [e3] at s2;rw [decide_eq_true (by omega)] at s2;exact ((ih0 _ (by omega)) (i+1) rfl (by omega)
       (hg0.landM okF hJ Qab (QzC B t i dJ0)
       ⟨(QaQ (by omega) (by omega)),⟨(Qbj (Int.not_lt.1 q2)),hp1⟩⟩ (by kernel_rfl) (by kernel_rfl))).cast (by (simp only [s2,Bool.true_and,Bool.false_and];done))
    ·have hp2:Qa3 (Qn7 B t i dJ0):=by
      exact ⟨(Qbj (Int.not_lt.1 q1)),hp0⟩
     by_cases q2:((↑t.uses.length:Int):Int)<=(8)
     ·have hp3:Qa3 (Qm8 B t i dJ0):=by
       exact ⟨(Qca q2),hp2⟩
      by_cases q3:((↑t.goods.length:Int):Int)<=(9)
      ·have hp4:Qa3 (QmM B t i dJ0):=by
        exact ⟨(Qca q3),hp3⟩
       by_cases q4:((↑t.gaps.length:Int):Int)<=(310)
       ·have s2:=Qbq (l:=t.goods.take 12) (p:=fun l=> decide (l.length<=8)) h0 (by rw [List.length_take];omega);have e3:(t.goods.take 12).getD i.toNat default=t.goods.getD i.toNat default:=by simp only [List.getD_eq_getElem?_getD];rw [List.getElem?_take_of_lt (by omega)]
        rw [e3] at s2;rw [decide_eq_true (by omega)] at s2;have s2:=QaL (l:=t.goods.take 12) (p:=fun l=> decide (l.length<=8)) (i:=i) (by rw [List.length_take];omega);exact (GoE.endsT okF hJ Qab hg0 (Q0b B t i dJ0)
         ⟨(Qca q4),hp4⟩).cast (by (simp only [s2,Bool.true_and];simp_all;omega))
       ·have s2:=Qbq (l:=t.goods.take 12) (p:=fun l=> decide (l.length<=8)) h0 (by rw [List.length_take];omega);have e3:(t.goods.take 12).getD i.toNat default=t.goods.getD i.toNat default:=by simp only [List.getD_eq_getElem?_getD];rw [List.getElem?_take_of_lt (by omega)]
        rw [e3] at s2;rw [decide_eq_true (by omega)] at s2;have s2:=QaL (l:=t.goods.take 12) (p:=fun l=> decide (l.length<=8)) (i:=i) (by rw [List.length_take];omega);exact (GoE.endsT okF hJ Qab hg0 (Q05 B t i dJ0)
         ⟨(Qcb (Int.not_le.1 q4)),hp4⟩).cast (by (simp only [s2,Bool.true_and];simp_all;omega))
      ·have s2:=QaL (l:=t.goods.take 12) (p:=fun l=> decide (l.length<=8)) (i:=i) (by rw [List.length_take];omega);exact (GoE.endsT okF hJ Qab hg0 (Q0w B t i dJ0)
        ⟨(Qcb (Int.not_le.1 q3)),hp3⟩).cast (by (simp only [s2,Bool.true_and];simp_all;omega))
     ·have s2:=QaL (l:=t.goods.take 12) (p:=fun l=> decide (l.length<=8)) (i:=i) (by rw [List.length_take];omega);exact (GoE.endsT okF hJ Qab hg0 (QxY B t i dJ0)
       ⟨(Qcb (Int.not_le.1 q2)),hp2⟩).cast (by (simp only [s2,Bool.true_and];simp_all;omega))
   ·have hp5:Qa3 (Qmn B t i dJ0):=by
     exact ⟨(Qbj (Int.not_lt.1 q0)),trivial⟩
    by_cases q1:((↑t.uses.length:Int):Int)<=(8)
    ·have hp6:Qa3 (QmZ B t i dJ0):=by
      exact ⟨(Qca q1),hp5⟩
     by_cases q2:((↑t.goods.length:Int):Int)<=(9)
     ·have hp7:Qa3 (QmF B t i dJ0):=by
       exact ⟨(Qca q2),hp6⟩
      by_cases q3:((↑t.gaps.length:Int):Int)<=(310)
      ·have s2:=QaL (l:=t.goods.take 12) (p:=fun l=> decide (l.length<=8)) (i:=i) (by rw [List.length_take];omega);exact (GoE.endsT okF hJ Qab hg0 (Q1n B t i dJ0)
        ⟨(Qca q3),hp7⟩).cast (by (simp only [s2,Bool.true_and];simp_all;omega))
      ·have s2:=QaL (l:=t.goods.take 12) (p:=fun l=> decide (l.length<=8)) (i:=i) (by rw [List.length_take];omega);exact (GoE.endsT okF hJ Qab hg0 (Q0U B t i dJ0)
        ⟨(Qcb (Int.not_le.1 q3)),hp7⟩).cast (by (simp only [s2,Bool.true_and];simp_all;omega))
     ·have s2:=QaL (l:=t.goods.take 12) (p:=fun l=> decide (l.length<=8)) (i:=i) (by rw [List.length_take];omega);exact (GoE.endsT okF hJ Qab hg0 (Qzk B t i dJ0)
       ⟨(Qcb (Int.not_le.1 q2)),hp6⟩).cast (by (simp only [s2,Bool.true_and];simp_all;omega))
    ·have s2:=QaL (l:=t.goods.take 12) (p:=fun l=> decide (l.length<=8)) (i:=i) (by rw [List.length_take];omega);exact (GoE.endsT okF hJ Qab hg0 (Q0H B t i dJ0)
      ⟨(Qcb (Int.not_le.1 q1)),hp5⟩).cast (by (simp only [s2,Bool.true_and];simp_all;omega))
set_option maxHeartbeats 4000000 in
theorem Q27 (t:Qaf)  (hfacts:t.uses.length<=9223372036854775807/\t.gaps.length<=9223372036854775807/\t.goods.length<=9223372036854775807) {B:Lo} (hJ:∀w,B.has w->J0 w):EndsT YP B (Qaj YP 37 38 (([.agg (Qa4 t).toArray]).map (Qao 0 4))) (.bool (((t.goods.take 12).all fun l=> decide (l.length<=8)) && (decide (t.uses.length<=8) && (decide (t.goods.length<=9) && decide (t.gaps.length<=310))))):=by
 exact ((Q0g t hfacts hJ _) (0) rfl (by omega)
  (GoE.start.landM okF hJ Qab (Qx6 B t)
  trivial (by kernel_rfl) (by kernel_rfl))).cast (by rfl)
theorem Q6l (t:Qaf)  :Qam YP J0 37 #[.agg (Qa4 t).toArray] (.bool (((t.goods.take 12).all fun l=> decide (l.length<=8)) && (decide (t.uses.length<=8) && (decide (t.goods.length<=9) && decide (t.gaps.length<=310))))):=
 Qct (ts:=[.agg (Qa4 t).toArray]) (t.uses.length<=9223372036854775807/\t.gaps.length<=9223372036854775807/\t.goods.length<=9223372036854775807) (fun _ _ ht=> ⟨ht.ln2 (i:=0) (j:=0) rfl rfl,ht.ln2 (i:=0) (j:=1) rfl rfl,ht.ln2 (i:=0) (j:=2) rfl rfl⟩) Qb1 (c0:=Qaj YP 37 38 (([.agg (Qa4 t).toArray]).map (Qao 0 4))) (by kernel_rfl) (by kernel_rfl) fun hfacts B hJ=> Q27 t  hfacts hJ
def QbB (s:Qaa):Bool:=((s.lots.take 12).all fun l=> decide (l.goods.length<=8)) && (decide (s.stock.length<=8) && (decide (s.use.length<=8) && decide (s.lots.length<=9)))
theorem QaC {s:Qaa} (h:QbB s=true):∀l∈s.lots,l.goods.length<=8:=by
 simp only [QbB,YB,decide_eq_true_iff,List.all_eq_true] at h;intro l hl;refine h.1 l ?_;rw [List.take_of_length_le (by omega)];exact hl
theorem QoB (s:Qaa):Qam YP J0 36 #[.agg (Qah s).toArray] (.bool (QbB s)):=Q6h s
def Q3Q (t:Qaf):Bool:=((t.goods.take 12).all fun l=> decide (l.length<=8)) && (decide (t.uses.length<=8) && (decide (t.goods.length<=9) && decide (t.gaps.length<=310)))
theorem Qzb (t:Qaf):Qam YP J0 37 #[.agg (Qa4 t).toArray] (.bool (Q3Q t)):=Q6l t
end
end Go.Proofs.YtiabgkiccaodmaaGreat

namespace Go.Proofs.YtiabgkiccaodmaaGreat
open Go Go.CE Go.RowKit
def Q6A:Sh:=shS [.slice Qvp,.int,.int]
def QmN:Sh:=shS [.slice .int,.slice Qvp,Qvp,.slice Q6A,.int]
def QlV:Sh:=shS [.slice .int,.slice .int,.slice (.slice .int)]
theorem Q5j {cs:List Value} (h:Q6A.ok cs):∃l:Qae,cs=Qan l:=by
 obtain ⟨_,_,rfl,h1,_,_,rfl,⟨a,_,rfl⟩,_,_,rfl,⟨b,_,rfl⟩,rfl⟩:=h;obtain ⟨ss,rfl⟩:=QeP (fun _=> Qp6) h1;exact ⟨⟨ss,a,b⟩,rfl⟩
theorem Q43 {cs:List Value} (h:Sh.ok (.slice .int) cs):∃l:Row,cs=Qaw l:=by
 obtain ⟨xs,rfl⟩:=QeP (fun _=> Qq8) h;exact ⟨xs,rfl⟩
theorem QyA {v:Value} (h:QmN.arg v):∃s:Qaa,v=.agg (Qah s).toArray:=by
 obtain ⟨cs,rfl,h⟩:=h;obtain ⟨_,_,rfl,h1,_,_,rfl,h2,_,_,rfl,h3,_,_,rfl,h4,_,_,rfl,⟨f,_,rfl⟩,rfl⟩:=h;obtain ⟨xs,rfl⟩:=QeP (fun _=> Qq8) h1;obtain ⟨us,rfl⟩:=QeP (fun _=> Qp6) h2;obtain ⟨g,rfl⟩:=Qp6 h3;obtain ⟨ls,rfl⟩:=QeP (fun _=> Q5j) h4;exact ⟨⟨xs,us,g.lo,g.hi,ls,f⟩,rfl⟩
theorem Qzh {v:Value} (h:QlV.arg v):∃t:Qaf,v=.agg (Qa4 t).toArray:=by
 obtain ⟨cs,rfl,h⟩:=h;obtain ⟨_,_,rfl,h1,_,_,rfl,h2,_,_,rfl,h3,rfl⟩:=h;obtain ⟨xs,rfl⟩:=QeP (fun _=> Qq8) h1;obtain ⟨ys,rfl⟩:=QeP (fun _=> Qq8) h2;obtain ⟨zs,rfl⟩:=QeP (fun _=> Q43) h3;exact ⟨⟨xs,ys,zs⟩,rfl⟩
theorem Q2J {v:Value} (h:Sh.arg (.slice .int) v):∃xs:List Int,v=slI xs:=by
 obtain ⟨xs,hx⟩:=QeP (fun _=> Qq8) (show Sh.ok (.slice .int) [v] from h);exact ⟨xs,by simpa using hx⟩
end Go.Proofs.YtiabgkiccaodmaaGreat

namespace Go.Proofs.YtiabgkiccaodmaaGreat
open Go Go.CE Go.RowKit
noncomputable section
set_option maxRecDepth 100000
def Qgm (xs:List Span) (i:Int) (ys:List Int):List Value:=[Value.func (Fn.func 103) #[] #[],.slice (some {block:=2,off:=0}) xs.length 1,Qa0 1 (slT xs.length (Qac Qa9 xs)),.int .i64 (↑xs.length:Int),.int .i64 i]
def QdG (xs:List Span) (i:Int) (ys:List Int):List Obj:=[.cells (Qac Qat ys) 3 (0,0)]
def Qgg:List Item:=([.code [1,1,0,1,0,0],.inLoop [1,1,0,1,0,0],.inBlock 0,.code [1,1,1]]).map (it (Qaq YP 160))
def Qw4 (B:Lo) (c0:CF) (xs:List Span) (i:Int) (ys:List Int):Prop:=∃dJ:Nat->Value,(∀t,Qbd (dJ t))/\GoE YP B c0 H00 1 (Qa8 160 26 (([1,5,11,12,13]:List Nat).zip (Qgm xs i ys)) dJ Qgg) (Qa6 (QdG xs i ys)) (2+(QdG xs i ys).length) []
def Qks (xs:List Span) (i:Int):Array Value:=#[.int .i64 (Span.lo (xs.getD i.toNat default)),.int .i64 (Span.hi (xs.getD i.toNat default))]
theorem Qxi (B:Lo) (xs:List Span) (i:Int) (ys:List Int) (dJ0:Nat->Value):landM (Qal YP (Qa1 YP) J0 B 13 1 (Qa8 160 26 (([1,5,11,12,13]:List Nat).zip (Qgm xs i ys)) dJ0 Qgg) (Qa6 (QdG xs i ys)) (2+(QdG xs i ys).length)
 [(0,hvT),(2,Qai.tidx i.toNat (Qks xs i)),(11,Qai.pure (.int .i64 (Span.hi (xs.getD i.toNat default))) []),(12,Qai.old (Hint.idx i.toNat)),(13,Qai.old (Hint.st (Qac Qat (List.set ys i.toNat (Span.hi (xs.getD i.toNat default)))))),(14,hvI (i+1))] 0 [] []) [1,5,11,12,13] [(2,KS.cells [] (Qac Qat (List.set ys i.toNat (Span.hi (xs.getD i.toNat default)))))] []=some ⟨160,26,Qgg,[],.run,none,Qgm xs (i+1) (List.set ys i.toNat (Span.hi (xs.getD i.toNat default))),QdG xs (i+1) (List.set ys i.toNat (Span.hi (xs.getD i.toNat default))),
 [Qbk 1 [] (Qac Qat (List.set ys i.toNat (Span.hi (xs.getD i.toNat default)))) (Qac Qat (List.set ys i.toNat (Span.hi (xs.getD i.toNat default)))),wq (i+1)=i+1,0+Int.toNat i * 1+TypeInfo.size Tryz.t3<=Array.size (Qac Qat ys)/\splice (Qac Qat ys) (0+Int.toNat i * 1) (Value.cells (Qch {len:=16000,tr:=Tri.set 14 (Tri.set 14 Tri.lf 22 (.int .i64 (Span.hi (xs.getD i.toNat default)))) 23 (.pointer (some {block:=2,off:=0+Int.toNat i * 1}))} 22))=Qac Qat (List.set ys i.toNat (Span.hi (xs.getD i.toNat default))),i=(↑i.toNat:Int)/\Int.toNat i < List.length xs,Qa3 []/\Qam YP J0 103 #[.agg (Qks xs i)] (.int .i64 (Span.hi (xs.getD i.toNat default))),i=(↑i.toNat:Int)/\Int.toNat i < List.length xs/\Array.extract (Qac Qa9 xs) (Int.toNat i * TypeInfo.size Tryz.t25) (Int.toNat i * TypeInfo.size Tryz.t25+TypeInfo.size Tryz.t25)=(Qks xs i),ltq i (↑xs.length:Int)=true]⟩:=by kernel_rfl
theorem QwH (B:Lo) (xs:List Span) (i:Int) (ys:List Int) (dJ0:Nat->Value):QaU (Qal YP (Qa1 YP) J0 B 9 1 (Qa8 160 26 (([1,5,11,12,13]:List Nat).zip (Qgm xs i ys)) dJ0 Qgg) (Qa6 (QdG xs i ys)) (2+(QdG xs i ys).length)
 [(0,hvF)] 0 [] []) [{k:=2,rs:=[],cs:=Qac Qat ys}]=some (slT xs.length (Fz.cs {k:=2,rs:=[],cs:=Qac Qat ys}),
 [Qb6 (Fz.rs {k:=2,rs:=[],cs:=Qac Qat ys}) (Qac Qat ys) (Fz.cs {k:=2,rs:=[],cs:=Qac Qat ys}),ltq i (↑xs.length:Int)=false]):=by kernel_rfl
theorem Qv6 (B:Lo) (xs:List Span):landM (Qal YP (Qa1 YP) J0 B 9 1 (Qaj YP 160 26 (([Qqh xs,.func (.func 103) #[] #[]]).map (Qao 0 4))) H00 1
 [(3,Qai.old (Hint.mk xs.length (Qac (QbO [.int .i64 0]) (List.replicate xs.length ()))))] 0 [] []) [1,5,11,12,13] [(1,KS.rows [] [] (Qac Qat (List.replicate xs.length 0)))] []=some ⟨160,26,Qgg,[],.run,none,Qgm xs (0) (List.replicate xs.length 0),QdG xs (0) (List.replicate xs.length 0),
 [Qbg 1 [] [] (Qac (QbO [.int .i64 0]) (List.replicate xs.length ())) (Qac Qat (List.replicate xs.length 0)),Qg4 YP 22 (Qch {len:=16000,tr:=Tri.set 14 Tri.lf 9 (.int .i64 (↑xs.length:Int))} 9) (Qch {len:=16000,tr:=Tri.set 14 Tri.lf 9 (.int .i64 (↑xs.length:Int))} 9)=some (3,Qac (QbO [.int .i64 0]) (List.replicate xs.length ()),List.length xs,TypeInfo.size Tryz.t3)]⟩:=by kernel_rfl
set_option maxHeartbeats 4000000 in
theorem QvB (xs:List Span) (hn:xs.length<=1000000) {B:Lo} (hJ:∀w,B.has w->J0 w) {c0:CF}:∀m:Nat,(∀(i:Int) (ys:List Int),(xs.length - i.toNat)=m->∀(h0:0<=i) (hy:ys=QgV Span.hi 0 xs i),Qw4 B c0 xs i ys->EndsT YP B c0 (slI (xs.map Span.hi))):=by
 intro m0;induction m0 using Nat.strongRecOn with
 | _ m0 ih0=>
   intro i ys hm0 h0 hy ⟨dJ0,hdJ0,hg0⟩;have hyl:ys.length=xs.length:=by rw [hy];exact QdO
   by_cases q0:(i:Int) < ((↑xs.length:Int))
   ·exact ((ih0 _ (by omega)) (i+1) (List.set ys i.toNat (Span.hi (xs.getD i.toNat default))) rfl (by omega) (by (subst hy;exact QdH (f:=Span.hi) h0 q0))
     (hg0.landM okF hJ Qab (Qxi B xs i ys dJ0)
     ⟨(Qax (Qa7 (fun x=> List.all_eq_true.1 (by rfl)))),⟨(QaQ (by omega) (by omega)),⟨(by exact QgL (z:=1) (fun _=> rfl) (by omega) rfl rfl),⟨⟨by omega,by omega⟩,⟨⟨trivial,Q6H (Span.lo (xs.getD i.toNat default)) (Span.hi (xs.getD i.toNat default))⟩,⟨⟨by omega,by omega,(Qag (z:=2) (fun _=> rfl) (by omega))⟩,⟨(Qbe q0),trivial⟩⟩⟩⟩⟩⟩⟩ (by kernel_rfl) (by kernel_rfl))).cast (by rfl)
   ·exact (GoE.endsT okF hJ Qab hg0 (QwH B xs i ys dJ0)
     ⟨(Qba (fun x=> List.all_eq_true.1 (by rfl))),⟨(Qbj (Int.not_lt.1 q0)),trivial⟩⟩).cast (by exact QfN (hy.trans (QdS (by omega))) (by simp))
set_option maxHeartbeats 4000000 in
theorem QxG (xs:List Span) (hn:xs.length<=1000000) {B:Lo} (hJ:∀w,B.has w->J0 w):EndsT YP B (Qaj YP 160 26 (([Qqh xs,.func (.func 103) #[] #[]]).map (Qao 0 4))) (slI (xs.map Span.hi)):=by
 exact ((QvB xs hn hJ _) (0) (List.replicate xs.length 0) rfl (by omega) (by exact Qg0)
  (GoE.start.landM okF hJ Qab (Qv6 B xs)
  ⟨(by exact (QbV (by exact ⟨(.simple rfl),trivial⟩) _)),⟨(QgQ (bytes:=8) (by kernel_rfl) (by omega) (by omega) (by omega)),trivial⟩⟩ (by kernel_rfl) (by kernel_rfl))).cast (by rfl)
theorem Q0n (xs:List Span) (hn:xs.length<=1000000):Qam YP J0 160 #[Qqh xs,.func (.func 103) #[] #[]] (slI (xs.map Span.hi)):=
 QaG (ts:=[Qqh xs,.func (.func 103) #[] #[]]) Qb1 (c0:=Qaj YP 160 26 (([Qqh xs,.func (.func 103) #[] #[]]).map (Qao 0 4))) (by kernel_rfl) (by kernel_rfl) fun B hJ=> QxG xs hn hJ
def Qgn (xs:List Span) (i:Int) (ys:List Int):List Value:=[Value.func (Fn.func 104) #[] #[],.slice (some {block:=2,off:=0}) xs.length 1,Qa0 1 (slT xs.length (Qac Qa9 xs)),.int .i64 (↑xs.length:Int),.int .i64 i]
def Qd8 (xs:List Span) (i:Int) (ys:List Int):List Obj:=[.cells (Qac Qat ys) 3 (0,0)]
def QfV:List Item:=([.code [1,1,0,1,0,0],.inLoop [1,1,0,1,0,0],.inBlock 0,.code [1,1,1]]).map (it (Qaq YP 160))
def Qxn (B:Lo) (c0:CF) (xs:List Span) (i:Int) (ys:List Int):Prop:=∃dJ:Nat->Value,(∀t,Qbd (dJ t))/\GoE YP B c0 H00 1 (Qa8 160 26 (([1,5,11,12,13]:List Nat).zip (Qgn xs i ys)) dJ QfV) (Qa6 (Qd8 xs i ys)) (2+(Qd8 xs i ys).length) []
def Qk0 (xs:List Span) (i:Int):Array Value:=#[.int .i64 (Span.lo (xs.getD i.toNat default)),.int .i64 (Span.hi (xs.getD i.toNat default))]
theorem Qw9 (B:Lo) (xs:List Span) (i:Int) (ys:List Int) (dJ0:Nat->Value):landM (Qal YP (Qa1 YP) J0 B 13 1 (Qa8 160 26 (([1,5,11,12,13]:List Nat).zip (Qgn xs i ys)) dJ0 QfV) (Qa6 (Qd8 xs i ys)) (2+(Qd8 xs i ys).length)
 [(0,hvT),(2,Qai.tidx i.toNat (Qk0 xs i)),(11,Qai.pure (.int .i64 (Span.lo (xs.getD i.toNat default))) []),(12,Qai.old (Hint.idx i.toNat)),(13,Qai.old (Hint.st (Qac Qat (List.set ys i.toNat (Span.lo (xs.getD i.toNat default)))))),(14,hvI (i+1))] 0 [] []) [1,5,11,12,13] [(2,KS.cells [] (Qac Qat (List.set ys i.toNat (Span.lo (xs.getD i.toNat default)))))] []=some ⟨160,26,QfV,[],.run,none,Qgn xs (i+1) (List.set ys i.toNat (Span.lo (xs.getD i.toNat default))),Qd8 xs (i+1) (List.set ys i.toNat (Span.lo (xs.getD i.toNat default))),
 [Qbk 1 [] (Qac Qat (List.set ys i.toNat (Span.lo (xs.getD i.toNat default)))) (Qac Qat (List.set ys i.toNat (Span.lo (xs.getD i.toNat default)))),wq (i+1)=i+1,0+Int.toNat i * 1+TypeInfo.size Tryz.t3<=Array.size (Qac Qat ys)/\splice (Qac Qat ys) (0+Int.toNat i * 1) (Value.cells (Qch {len:=16000,tr:=Tri.set 14 (Tri.set 14 Tri.lf 22 (.int .i64 (Span.lo (xs.getD i.toNat default)))) 23 (.pointer (some {block:=2,off:=0+Int.toNat i * 1}))} 22))=Qac Qat (List.set ys i.toNat (Span.lo (xs.getD i.toNat default))),i=(↑i.toNat:Int)/\Int.toNat i < List.length xs,Qa3 []/\Qam YP J0 104 #[.agg (Qk0 xs i)] (.int .i64 (Span.lo (xs.getD i.toNat default))),i=(↑i.toNat:Int)/\Int.toNat i < List.length xs/\Array.extract (Qac Qa9 xs) (Int.toNat i * TypeInfo.size Tryz.t25) (Int.toNat i * TypeInfo.size Tryz.t25+TypeInfo.size Tryz.t25)=(Qk0 xs i),ltq i (↑xs.length:Int)=true]⟩:=by kernel_rfl
theorem Qxa (B:Lo) (xs:List Span) (i:Int) (ys:List Int) (dJ0:Nat->Value):QaU (Qal YP (Qa1 YP) J0 B 9 1 (Qa8 160 26 (([1,5,11,12,13]:List Nat).zip (Qgn xs i ys)) dJ0 QfV) (Qa6 (Qd8 xs i ys)) (2+(Qd8 xs i ys).length)
 [(0,hvF)] 0 [] []) [{k:=2,rs:=[],cs:=Qac Qat ys}]=some (slT xs.length (Fz.cs {k:=2,rs:=[],cs:=Qac Qat ys}),
 [Qb6 (Fz.rs {k:=2,rs:=[],cs:=Qac Qat ys}) (Qac Qat ys) (Fz.cs {k:=2,rs:=[],cs:=Qac Qat ys}),ltq i (↑xs.length:Int)=false]):=by kernel_rfl
theorem Qwe (B:Lo) (xs:List Span):landM (Qal YP (Qa1 YP) J0 B 9 1 (Qaj YP 160 26 (([Qqh xs,.func (.func 104) #[] #[]]).map (Qao 0 4))) H00 1
 [(3,Qai.old (Hint.mk xs.length (Qac (QbO [.int .i64 0]) (List.replicate xs.length ()))))] 0 [] []) [1,5,11,12,13] [(1,KS.rows [] [] (Qac Qat (List.replicate xs.length 0)))] []=some ⟨160,26,QfV,[],.run,none,Qgn xs (0) (List.replicate xs.length 0),Qd8 xs (0) (List.replicate xs.length 0),
 [Qbg 1 [] [] (Qac (QbO [.int .i64 0]) (List.replicate xs.length ())) (Qac Qat (List.replicate xs.length 0)),Qg4 YP 22 (Qch {len:=16000,tr:=Tri.set 14 Tri.lf 9 (.int .i64 (↑xs.length:Int))} 9) (Qch {len:=16000,tr:=Tri.set 14 Tri.lf 9 (.int .i64 (↑xs.length:Int))} 9)=some (3,Qac (QbO [.int .i64 0]) (List.replicate xs.length ()),List.length xs,TypeInfo.size Tryz.t3)]⟩:=by kernel_rfl
set_option maxHeartbeats 4000000 in
theorem QvX (xs:List Span) (hn:xs.length<=1000000) {B:Lo} (hJ:∀w,B.has w->J0 w) {c0:CF}:∀m:Nat,(∀(i:Int) (ys:List Int),(xs.length - i.toNat)=m->∀(h0:0<=i) (hy:ys=QgV Span.lo 0 xs i),Qxn B c0 xs i ys->EndsT YP B c0 (slI (xs.map Span.lo))):=by
 intro m0;induction m0 using Nat.strongRecOn with
 | _ m0 ih0=>
   intro i ys hm0 h0 hy ⟨dJ0,hdJ0,hg0⟩;have hyl:ys.length=xs.length:=by rw [hy];exact QdO
   by_cases q0:(i:Int) < ((↑xs.length:Int))
   ·exact ((ih0 _ (by omega)) (i+1) (List.set ys i.toNat (Span.lo (xs.getD i.toNat default))) rfl (by omega) (by (subst hy;exact QdH (f:=Span.lo) h0 q0))
     (hg0.landM okF hJ Qab (Qw9 B xs i ys dJ0)
     ⟨(Qax (Qa7 (fun x=> List.all_eq_true.1 (by rfl)))),⟨(QaQ (by omega) (by omega)),⟨(by exact QgL (z:=1) (fun _=> rfl) (by omega) rfl rfl),⟨⟨by omega,by omega⟩,⟨⟨trivial,Q78 (Span.lo (xs.getD i.toNat default)) (Span.hi (xs.getD i.toNat default))⟩,⟨⟨by omega,by omega,(Qag (z:=2) (fun _=> rfl) (by omega))⟩,⟨(Qbe q0),trivial⟩⟩⟩⟩⟩⟩⟩ (by kernel_rfl) (by kernel_rfl))).cast (by rfl)
   ·exact (GoE.endsT okF hJ Qab hg0 (Qxa B xs i ys dJ0)
     ⟨(Qba (fun x=> List.all_eq_true.1 (by rfl))),⟨(Qbj (Int.not_lt.1 q0)),trivial⟩⟩).cast (by exact QfN (hy.trans (QdS (by omega))) (by simp))
set_option maxHeartbeats 4000000 in
theorem Q1l (xs:List Span) (hn:xs.length<=1000000) {B:Lo} (hJ:∀w,B.has w->J0 w):EndsT YP B (Qaj YP 160 26 (([Qqh xs,.func (.func 104) #[] #[]]).map (Qao 0 4))) (slI (xs.map Span.lo)):=by
 exact ((QvX xs hn hJ _) (0) (List.replicate xs.length 0) rfl (by omega) (by exact Qg0)
  (GoE.start.landM okF hJ Qab (Qwe B xs)
  ⟨(by exact (QbV (by exact ⟨(.simple rfl),trivial⟩) _)),⟨(QgQ (bytes:=8) (by kernel_rfl) (by omega) (by omega) (by omega)),trivial⟩⟩ (by kernel_rfl) (by kernel_rfl))).cast (by rfl)
theorem QyV (xs:List Span) (hn:xs.length<=1000000):Qam YP J0 160 #[Qqh xs,.func (.func 104) #[] #[]] (slI (xs.map Span.lo)):=
 QaG (ts:=[Qqh xs,.func (.func 104) #[] #[]]) Qb1 (c0:=Qaj YP 160 26 (([Qqh xs,.func (.func 104) #[] #[]]).map (Qao 0 4))) (by kernel_rfl) (by kernel_rfl) fun B hJ=> Q1l xs hn hJ
theorem Qwl (B:Lo) (n d:Int):QaU (Qal YP (Qa1 YP) J0 B 6 1 (Qaj YP 132 11 (([.int .i64 n,.int .i64 d]).map (Qao 0 4))) H00 1
 [(3,hvI (n+d)),(4,hvI (n+d - 1)),(6,Qai.bin (.int .i64 (Int.tdiv (n+d - 1) d)))] 0 [] []) []=some (.int .i64 (Int.tdiv (n+d - 1) d),
 [QlY YP BinOp.quo 3 (Qch {len:=16000,tr:=Tri.set 14 (Tri.set 14 Tri.lf 9 (.int .i64 d)) 8 (.int .i64 (n+d - 1))} 8) (Qch {len:=16000,tr:=Tri.set 14 (Tri.set 14 Tri.lf 9 (.int .i64 d)) 8 (.int .i64 (n+d - 1))} 9) (.int .i64 (Int.tdiv (n+d - 1) d)),wq (n+d - 1)=n+d - 1,wq (n+d)=n+d]):=by kernel_rfl
set_option maxHeartbeats 4000000 in
theorem Qz4 (n d:Int) (hn:0<=n/\n<=2000000) (hd:1<=d/\d<=1000) {B:Lo} (hJ:∀w,B.has w->J0 w):EndsT YP B (Qaj YP 132 11 (([.int .i64 n,.int .i64 d]).map (Qao 0 4))) (.int .i64 ((n+d - 1).tdiv d)):=by
 have e1:(n+d - 1).tdiv d=(n+d - 1) / d:=Int.tdiv_eq_ediv_of_nonneg (by omega);have e2:(n+d - 1) / d<=n+d - 1:=Int.ediv_le_self _ (by omega);have e3:0<=(n+d - 1) / d:=Int.ediv_nonneg (by omega) (by omega);exact (GoE.endsT okF hJ Qab GoE.start (Qwl B n d)
  ⟨(Q5h (by omega) rfl (by omega) (by omega)),⟨(QaQ (by omega) (by omega)),⟨(QaQ (by omega) (by omega)),trivial⟩⟩⟩).cast (by rfl)
theorem Qp2 (n d:Int) (hn:0<=n/\n<=2000000) (hd:1<=d/\d<=1000):Qam YP J0 132 #[.int .i64 n,.int .i64 d] (.int .i64 ((n+d - 1).tdiv d)):=
 QaG (ts:=[.int .i64 n,.int .i64 d]) Qb1 (c0:=Qaj YP 132 11 (([.int .i64 n,.int .i64 d]).map (Qao 0 4))) (by kernel_rfl) (by kernel_rfl) fun B hJ=> Qz4 n d hn hd hJ
end
end Go.Proofs.YtiabgkiccaodmaaGreat

namespace Go.CE
open Go Go.RowKit

section
variable {P:Program} {F:FuncId->Bool} {T:Tm} {o:Oper} {H:Qau} {n:Nat}
theorem QnZ {t e:TypeId} {x lo:Operand} {b off m s z:Nat} {k:IntKind} {l:Int} (ho:o.op=.slice t x (some lo) none none) (hx:evC T x=some (.slice (some ⟨b,off,none⟩) m s)) (hl:evC T lo=some (.int k l)) (hu:und P t=some (.slice e)) (hz:Qf7 P e=some (z+1)) (h1:0 < l) (h2:l < m):
 opS P F Qb9 (fun _ _ _=> none) T o H n=some ⟨.ret (.slice (some ⟨b,off+l.toNat * (z+1),none⟩) (m - l.toNat) 0),H,n,[],[]⟩:=by
 have e1:Q11 m (some (.int k l)) none=some (l.toNat,m):=by
  simp only [Q11,bnd,decide_eq_true (show (0:Int)<=l by omega),decide_eq_true (show l<=(m:Int) by omega),Bool.and_self,cond_true]
 have e2:Nat.beq l.toNat 0=false:=by cases h:Nat.beq l.toNat 0 with
  | false=> rfl
  | true=> have:=YE h;omega
 have e3:Nat.blt l.toNat m=true:=Nat.ble_eq_true_of_le (show l.toNat+1<=m by omega);have e4:Qil P t (.slice (some ⟨b,off,none⟩) m s) (some (.int k l)) none=some (.slice (some ⟨b,off+l.toNat * (z+1),none⟩) (m - l.toNat) 0):=by
  simp only [Qil,hu,hz,e1,e2,e3,cond_true,cond_false]
 have e5:QmV P F (evC T) o H n=some ⟨.val (.slice (some ⟨b,off+l.toNat * (z+1),none⟩) (m - l.toNat) 0),H,n,[],[]⟩:=by
  unfold QmV cop;simp only [ho,hx,evo,hl,e4,mkPure,Option.map_some,List.all_nil,cond_true]
 unfold opS;simp only [ho,e5]
theorem QnU {t e:TypeId} {x hi:Operand} {b off m s z:Nat} {k:IntKind} {l:Int} (ho:o.op=.slice t x none (some hi) none) (hx:evC T x=some (.slice (some ⟨b,off,none⟩) m s)) (hl:evC T hi=some (.int k l)) (hu:und P t=some (.slice e)) (hz:Qf7 P e=some (z+1)) (h1:0<=l) (h2:l<=m):
 opS P F Qb9 (fun _ _ _=> none) T o H n=some ⟨.ret (.slice (some ⟨b,off,none⟩) l.toNat s),H,n,[],[]⟩:=by
 have e1:Q11 m none (some (.int k l))=some (0,l.toNat):=by
  simp only [Q11,bnd,decide_eq_true h1,decide_eq_true h2,Bool.and_self,cond_true]
 have e4:Qil P t (.slice (some ⟨b,off,none⟩) m s) none (some (.int k l))=some (.slice (some ⟨b,off,none⟩) l.toNat s):=by
  simp only [Qil,hu,hz,e1,show Nat.beq 0 0=true from rfl,cond_true]
 have e5:QmV P F (evC T) o H n=some ⟨.val (.slice (some ⟨b,off,none⟩) l.toNat s),H,n,[],[]⟩:=by
  unfold QmV cop;simp only [ho,hx,evo,hl,e4,mkPure,Option.map_some,List.all_nil,cond_true]
 unfold opS;simp only [ho,e5]
theorem QpE {c:Call} {s x:Operand} {t t2 e te:TypeId} {b off k s1 b2 off2 m s2 z q:Nat} {cs cs2 cs':Array Value} {te2:TypeId} {f2:Nat×Nat} {H':Qau} (ho:o.op=.call c) (hc:c.callee=.builtin .copy) (ha:c.args.toList=[s,x]) (hat:c.argTypes.toList=[t,t2])
 (hs:evC T s=some (.slice (some ⟨b,off,none⟩) k s1)) (hx:evC T x=some (.slice (some ⟨b2,off2,none⟩) m s2)) (hu:und P t=some (.slice e)) (hz:Qf7 P e=some z) (hb:Qaz H b=some (.cells cs te (0,0))) (hb2:Qaz H b2=some (.cells cs2 te2 f2)) (hn:b < n) (hn2:b2 < n)
 (hH:QgP H b (.cells cs' te (0,0))=H') (hq:q=Nat.min m k) (hf:off+q * z<=cs.size/\off2+q * z<=cs2.size/\ones (cs2.extract off2 (off2+q * z))=true/\splice cs off (cs2.extract off2 (off2+q * z))=cs'):
 opS P F Qb9 (fun _ _ _=> none) T o H n=some ⟨.ret (.int .i64 q),H',n,[b,b2],[b]⟩:=by
 obtain ⟨h1,h2,h3,h4⟩:=hf;subst hq hH h4;have e4:QtL P t H n (.slice (some ⟨b,off,none⟩) k s1) (.slice (some ⟨b2,off2,none⟩) m s2)=some ⟨.val (.int .i64 (Nat.min m k)),QgP H b (.cells (splice cs off (cs2.extract off2 (off2+Nat.min m k * z))) te (0,0)),n,[b,b2],[b]⟩:=by
  simp only [QtL,hu,hz,hb,hb2,h3,show Nat.ble (off+Nat.min m k * z) cs.size=true from Nat.ble_eq_true_of_le h1,show Nat.ble (off2+Nat.min m k * z) cs2.size=true from Nat.ble_eq_true_of_le h2,Bool.and_self,cond_true]
 have e5:QmV P F (evC T) o H n=some ⟨.val (.int .i64 (Nat.min m k)),QgP H b (.cells (splice cs off (cs2.extract off2 (off2+Nat.min m k * z))) te (0,0)),n,[b,b2],[b]⟩:=by
  unfold QmV cop;simp only [ho,hc,ha,hat,hs,hx,e4,List.all_cons,List.all_nil,show Nat.blt b n=true from Nat.ble_eq_true_of_le hn,show Nat.blt b2 n=true from Nat.ble_eq_true_of_le hn2,Bool.and_self,cond_true]
 unfold opS;simp only [ho,e5]
end
section
variable {P:Program} {F:FuncId->Bool} {T:Tm} {o:Oper} {H:Qau} {n:Nat}
end
theorem Qy6 {α:Type} {e:α->List Value} (h:∀x,(e x).all (·.oneCell')=true) (zs:List α) (i j:Nat):ones ((Qac e zs).extract i j)=true:=by
 unfold ones;rw [Array.all_eq_true'];intro v hv;have hv':v∈(Qac e zs).toList:=by
  have:=Array.mem_def.1 hv;rw [Array.toList_extract,List.extract_eq_take_drop] at this;exact List.mem_of_mem_drop (List.mem_of_mem_take this)
 simp only [Qac,List.mem_flatMap] at hv';obtain ⟨x,_,hx⟩:=hv';exact List.all_eq_true.1 (h x) v hx
def Qkc {α:Type} (ys:List α) (a:Nat) (zs:List α):List α:=ys.take a++zs++ys.drop (a+zs.length)
theorem Qqi {α:Type} {e:α->List Value} {z:Nat} (h:∀x,(e x).length=z):∀(zs:List α) (c:Nat),(zs.flatMap e).drop (c * z)=(zs.drop c).flatMap e:=by
 intro zs;induction zs with
 | nil=> intro c;simp
 | cons x zs ih=>
   intro c;cases c with
   | zero=> simp
   | succ c=>
     rw [List.flatMap_cons,List.drop_succ_cons,<-ih c,Nat.succ_mul,Nat.add_comm,List.drop_append];rw [List.drop_eq_nil_of_le (by rw [h];omega),List.nil_append,h];congr 1;omega
theorem Qso {α:Type} {e:α->List Value} {z:Nat} (h:∀x,(e x).length=z):∀(zs:List α) (q:Nat),(zs.flatMap e).take (q * z)=(zs.take q).flatMap e:=by
 intro zs;induction zs with
 | nil=> intro q;simp
 | cons x zs ih=>
   intro q;cases q with
   | zero=> simp
   | succ q=>
     rw [List.flatMap_cons,List.take_succ_cons,List.flatMap_cons,<-ih q,Nat.succ_mul,Nat.add_comm,List.take_append];rw [List.take_of_length_le (by rw [h];omega),h];congr 2;omega
theorem Q33 {α:Type} {e:α->List Value} {z:Nat} (h:∀x,(e x).length=z) (zs:List α) (c q:Nat):(Qac e zs).extract (c * z) (c * z+q * z)=Qac e ((zs.drop c).take q):=by
 apply Array.toList_inj.1;simp only [Qac,Array.toList_extract,List.extract_eq_take_drop,Qqi h];rw [show c * z+q * z - c * z=q * z by omega,Qso h]
theorem QeU {α:Type} {e:α->List Value} {xs:List α} {x:α} {cs:Array Value} (h:cs=(e x).toArray):Qac e xs++cs=Qac e (xs++[x]):=by
 rw [h];exact QeM
theorem Q2U {α:Type} {e:α->List Value} {z:Nat} (h:∀x,(e x).length=z) {ys zs:List α} {a:Nat}:splice (Qac e ys) (a * z) (Qac e zs)=Qac e (Qkc ys a zs):=by
 have hl:(zs.flatMap e).length=zs.length * z:=by
  have:=Qb7 (e:=e) (xs:=zs) h;simpa [Qac] using this
 apply Array.toList_inj.1;simp only [splice,Qac,Qkc,List.flatMap_append,Qso h];rw [hl,<-Nat.add_mul,Qqi h]
theorem QyD {α:Type} {e:α->List Value} {z:Nat} (h:∀x,(e x).length=z) (hs:∀x,(e x).all (·.oneCell')=true) {ys zs:List α} {a c q:Nat} (h1:a+q<=ys.length) (h2:c+q<=zs.length):
 a * z+q * z<=(Qac e ys).size/\c * z+q * z<=(Qac e zs).size/\ones ((Qac e zs).extract (c * z) (c * z+q * z))=true/\splice (Qac e ys) (a * z) ((Qac e zs).extract (c * z) (c * z+q * z))=Qac e (Qkc ys a ((zs.drop c).take q)):=by
 refine ⟨?_, ?_,Qy6 hs _ _ _, ?_⟩
 ·rw [Qb7 h,<-Nat.add_mul];exact Nat.mul_le_mul_right _ h1
 ·rw [Qb7 h,<-Nat.add_mul];exact Nat.mul_le_mul_right _ h2
 ·rw [Q33 h,Q2U h]
theorem QjU {α:Type} {e:α->List Value} {z:Nat} (h:∀x,(e x).length=z) (hs:∀x,(e x).all (·.oneCell')=true) {ys zs:List α} {a c q:Nat} (h1:a+q<=ys.length) (h2:c+q<=zs.length):
 0+a * z+q * z<=(Qac e ys).size/\0+c * z+q * z<=(Qac e zs).size/\ones ((Qac e zs).extract (0+c * z) (0+c * z+q * z))=true/\splice (Qac e ys) (0+a * z) ((Qac e zs).extract (0+c * z) (0+c * z+q * z))=Qac e (Qkc ys a ((zs.drop c).take q)):=by
 simp only [Nat.zero_add];exact QyD h hs h1 h2
def QgS {α:Type} (x x0:α) (n k:Nat):List α:=List.replicate k x++List.replicate (n - k) x0
theorem Qul {α:Type} {x x0:α} {n k:Nat} (h:k<=n):(QgS x x0 n k).length=n:=by simp [QgS];omega
theorem QuF {α:Type} {x x0:α} {n:Nat}:QgS x x0 n n=List.replicate n x:=by simp [QgS]
theorem QuZ {α:Type} {x x0:α} {n k q:Nat} (h:k+q<=n) (hq:q<=k):Qkc (QgS x x0 n k) k (((QgS x x0 n k).drop 0).take q)=QgS x x0 n (k+q):=by
 have e1:(QgS x x0 n k).take k=List.replicate k x:=by simp [QgS]
 have e2:((QgS x x0 n k).drop 0).take q=List.replicate q x:=by
  simp [QgS,List.take_append,Nat.min_eq_left hq];omega
 have e3:(QgS x x0 n k).drop (k+q)=List.replicate (n - (k+q)) x0:=by
  simp [QgS,List.drop_append,Nat.sub_sub]
 rw [e2,Qkc,e1,List.length_replicate,e3,QgS,List.append_assoc,<-List.replicate_append_replicate,List.append_assoc]
theorem Qx5 {α:Type} {x x0:α} {n q:Nat} (hq:q=min 1 n):Qkc (List.replicate n x0) 0 (([x].drop 0).take q)=QgS x x0 n q:=by
 subst hq;cases n with
 | zero=> simp [Qkc,QgS]
 | succ n=> simp [Qkc,QgS,show min 1 (n+1)=1 by omega]
def cpE (vs zs:List Value):Bool->List Value
 | true=> vs
 | false=> zs
theorem QrL {vs zs:List Value} {z q k:Nat} (hv:vs.length=z) (hz:zs.length=z) (hv1:vs.all (·.oneCell')=true) (hz1:zs.all (·.oneCell')=true) (hq:q=min 1 k):
 0+q * z<=(Qac (QbO zs) (List.replicate k ())).size/\0+q * z<=vs.toArray.size/\ones (vs.toArray.extract 0 (0+q * z))=true/\splice (Qac (QbO zs) (List.replicate k ())) 0 (vs.toArray.extract 0 (0+q * z))=Qac (cpE vs zs) (QgS true false k q):=by
 have e1:Qac (QbO zs) (List.replicate k ())=Qac (cpE vs zs) (List.replicate k false):=by
  simp [Qac,QbO,cpE,List.flatMap_replicate]
 have e2:vs.toArray=Qac (cpE vs zs) [true]:=by simp [Qac,cpE]
 have h:∀x,(cpE vs zs x).length=z:=fun x=> by cases x <;> assumption
 have hs:∀x,(cpE vs zs x).all (·.oneCell')=true:=fun x=> by cases x <;> assumption
 have:=QjU h hs (ys:=List.replicate k false) (zs:=[true]) (a:=0) (c:=0) (q:=q) (by simp;omega) (by simp;omega);rw [Qx5 hq] at this;rw [e1,e2];simpa using this
theorem Qz1 {α:Type} {e:α->List Value} {x:α} {zs:List Value} {n:Nat}:Qac (cpE (e x) zs) (List.replicate n true)=Qac e (List.replicate n x):=by
 simp [Qac,cpE,List.flatMap_replicate]
theorem QxN {fm:Nat->Option Obj} {xs:Array Value} (h:xs.all simple=true):TRv fm (.tuple xs) (.tuple xs):=by
 refine .tuple rfl fun i v v' h1 h2=> ?_
 rw [h1] at h2;cases h2;exact .simple (Array.all_eq_true'.1 h v (Array.mem_of_getElem? h1))
theorem QoW {P:Program} {F:FuncId->Bool} {J:World->Prop} (hF:∀g,F g=true->Qa1 P g=true) (hmix:P.follows .mixedOrders=true) {g:FuncId} {args:Array Value} {out:Value} {fuel:Nat} (hs:args.all simple=true) (ho:∀fm,TRv fm out out) (ho2:af out=true) (h:QrZ (Qnn P F Qb9 fuel g args (QfE 0 []) ([]:List (Array Value×TypeId)).length) out []=true):Qam P J g args out:=fun fm w args' _ _ ha=> by
 have e:args'=args:=by
  refine Array.ext ha.1.symm fun i h1 h2=> ?_
  have k1:args[i]? =some args[i]:=by simp [h2]
  have k2:args'[i]? =some args'[i]:=by simp [h1]
  exact (ha.2 i _ _ k1 k2).simple_eq (Array.all_eq_true'.1 hs _ (Array.getElem_mem h2))
 subst e;have hc:=Qnr hF hmix (at':=[]) (args':=args') h (w:=w) (I:=fun _=> True) (hI:=fun _ _ _ _=> trivial) (QaN _ _) trivial rfl (fun i x a h=> by simp at h) ⟨rfl,fun i v v' h1 h2=> by rw [h1] at h2;cases h2;exact QbW (Array.all_eq_true'.1 hs v (Array.mem_of_getElem? h1))⟩;refine hc.mono fun e w' ⟨v',n',H',μ',he,hp,hv,hb,hun,hbel⟩=> ⟨out,by rw [he,Qj8 ho2 hv],hbel,ho _⟩
end Go.CE
