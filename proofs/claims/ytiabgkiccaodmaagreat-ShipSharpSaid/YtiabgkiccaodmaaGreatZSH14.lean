/- The reference's goods that are kept. -/
import Derived.Test.YtiabgkiccaodmaaGreatZSH13
import Derived.Test.YtiabgkiccaodmaaGreatZSH09
set_option linter.all false
namespace Go.Proofs.YtiabgkiccaodmaaGreat
open Go Go.CE Go.RowKit
noncomputable section
set_option maxRecDepth 100000
def Qhp (day:Int):List Int->Int->Bool
 | [],_=> false
 | g::l,s=> decide (s+g=day) || Qhp day l (s+g)
theorem Qib {day s i:Int} {l:List Int} (h0:0<=i) (h:i < l.length):Qhp day (l.drop i.toNat) s=(decide (s+l.getD i.toNat default=day) || Qhp day (l.drop (i+1).toNat) (s+l.getD i.toNat default)):=by
 obtain ⟨k,rfl⟩:∃k:Nat,i=k:=⟨i.toNat,by omega⟩
 have hk:k < l.length:=by omega
 have e1:((k:Int)).toNat=k:=by omega
 have e2:((k:Int)+1).toNat=k+1:=by omega
 rw [e1,e2,List.drop_eq_getElem_cons hk];simp [Qhp,List.getD_eq_getElem?_getD,hk]
theorem Qvq {day s i:Int} {l:List Int} (h:l.length<=i):Qhp day (l.drop i.toNat) s=false:=by
 rw [List.drop_eq_nil_of_le (by omega)];rfl
def QkJ (t:Qao) (kind:Int) (l:List Int):Int:=QfG (l.map fun x=> (t.goods.getD x.toNat default).getD kind.toNat default)
theorem Qy8 {t:Qao} {kind i:Int} {l:List Int} (h0:0<=i) (h:i < l.length):QkJ t kind (l.drop i.toNat)=(t.goods.getD (l.getD i.toNat default).toNat default).getD kind.toNat default+QkJ t kind (l.drop (i+1).toNat):=by
 obtain ⟨k,rfl⟩:∃k:Nat,i=k:=⟨i.toNat,by omega⟩
 have hk:k < l.length:=by omega
 have e1:((k:Int)).toNat=k:=by omega
 have e2:((k:Int)+1).toNat=k+1:=by omega
 unfold QkJ;rw [e1,e2,List.drop_eq_getElem_cons hk,List.map_cons];simp [QfG,List.getD_eq_getElem?_getD,hk]
theorem Qos {t:Qao} {kind i:Int} {l:List Int} (h:l.length<=i):QkJ t kind (l.drop i.toNat)=0:=by
 rw [List.drop_eq_nil_of_le (by omega)];rfl
def QkL (use br:Int) (comes:Int->Bool):List Int->Int×Int->Int×Int
 | [],st=> st
 | d::ds,st=> QkL use br comes ds (if (st.2+if comes d=true then br else 0) < use/\st.1 < 0 then d else st.1,if 0 < (st.2+if comes d=true then br else 0) - use then (st.2+if comes d=true then br else 0) - use else 0)
def Q3Y (use br:Int) (comes:Int->Bool) (days d w L:Int):Int×Int:=QkL use br comes (upI (d+1) days) (if L < use/\w < 0 then d else w,if 0 < L - use then L - use else 0)
theorem QgX {use br days d w s:Int} {comes:Int->Bool} (h:d < days):QkL use br comes (upI d days) (w,s)=Q3Y use br comes days d w (s+if comes d=true then br else 0):=by
 rw [QeL h];rfl
theorem Q1x {use br days d w s:Int} {comes:Int->Bool} (h:days<=d):QkL use br comes (upI d days) (w,s)=(w,s):=by
 rw [Qiu h];rfl
theorem kD {use br days d w L w' s':Int} {comes:Int->Bool} (h1:(if L < use/\w < 0 then d else w)=w') (h2:(if 0 < L - use then L - use else 0)=s'):QkL use br comes (upI (d+1) days) (w',s')=Q3Y use br comes days d w L:=by subst h1 h2;rfl
def Qn8 (p:Int×Int):Value:=.tuple #[.int .i64 p.1,.int .i64 p.2]
def Qqx (t:Qao) (kind ration:Int):Int:=(t.uses.getD kind.toNat default * ration+999).tdiv 1000
def Qc5 (t:Qao) (d:Int):Bool:=Qhp d t.gaps 0
def QfW (t:Qao) (day:Int) (s i:Int):List Value:=[.int .i64 day,pA 2 0,.int .i64 s,.int .i64 i]
def Qdy (t:Qao) (day:Int) (s i:Int):List Obj:=[Obj.cells #[Qa4 1 (slT t.uses.length (Qac Qal t.uses)),Qa4 1 (slT t.gaps.length (Qac Qal t.gaps)),Qa4 1 (slT t.goods.length (Qac Qa0 t.goods))] 65]
def QfR:List Item:=([.code [1,1,0,1,0,0],.inLoop [1,1,0,1,0,0],.inBlock 0,.code [1,1,1]]).map (it (Qar YP 88))
def QwR (B:Lo) (c0:CF) (t:Qao) (day:Int) (s i:Int):Prop:=∃dJ:Nat->Value,(∀t,Qbc (dJ t))/\GoE YP B c0 H00 1 (Qa9 88 24 (([1,2,5,6]:List Nat).zip (QfW t day s i)) dJ QfR) (Qa5 (Qdy t day s i)) (2+(Qdy t day s i).length) []
def QlF (B:Lo) (t:Qao) (day:Int) (s i:Int) (dJ0:Nat->Value):List Prop:=[wq (s+t.gaps.getD i.toNat default)=s+t.gaps.getD i.toNat default,i=(↑i.toNat:Int)/\Int.toNat i < List.length t.gaps/\Array.extract (Qac Qal t.gaps) (Int.toNat i * TypeInfo.size Tryz.t3) (Int.toNat i * TypeInfo.size Tryz.t3+TypeInfo.size Tryz.t3)=#[.int .i64 (t.gaps.getD i.toNat default)],ltq i (↑t.gaps.length:Int)=true]++([]:List Prop)
def Qrw (t:Qao) (day:Int) (s i:Int) (dJ0:Nat->Value):Qaz:=[(4,hvT),(9,Qaf.tidx i.toNat #[.int .i64 (t.gaps.getD i.toNat default)]),(11,hvI (s+t.gaps.getD i.toNat default))]
theorem Qxo (B:Lo) (t:Qao) (day:Int) (s i:Int) (dJ0:Nat->Value):QaY (Qam YP (Qa1 YP) J0 B 16 1 (Qa9 88 24 (([1,2,5,6]:List Nat).zip (QfW t day s i)) dJ0 QfR) (Qa5 (Qdy t day s i)) (2+(Qdy t day s i).length)
 (Qrw t day s i dJ0++[(15,hvT)]) 0 [] []) []=some (.bool true,
 [eqq (s+t.gaps.getD i.toNat default) day=true]++QlF B t day s i dJ0):=by kernel_rfl
theorem QwZ (B:Lo) (t:Qao) (day:Int) (s i:Int) (dJ0:Nat->Value):landM (Qam YP (Qa1 YP) J0 B 16 1 (Qa9 88 24 (([1,2,5,6]:List Nat).zip (QfW t day s i)) dJ0 QfR) (Qa5 (Qdy t day s i)) (2+(Qdy t day s i).length)
 (Qrw t day s i dJ0++[(15,hvF),(17,hvI (i+1))]) 0 [] []) [1,2,5,6] [(2,KS.auto)] []=some ⟨88,24,QfR,[],.run,none,QfW t day (s+t.gaps.getD i.toNat default) (i+1),Qdy t day (s+t.gaps.getD i.toNat default) (i+1),
 [wq (i+1)=i+1,eqq (s+t.gaps.getD i.toNat default) day=false]++QlF B t day s i dJ0⟩:=by kernel_rfl
theorem Qyc (B:Lo) (t:Qao) (day:Int) (s i:Int) (dJ0:Nat->Value):QaY (Qam YP (Qa1 YP) J0 B 9 1 (Qa9 88 24 (([1,2,5,6]:List Nat).zip (QfW t day s i)) dJ0 QfR) (Qa5 (Qdy t day s i)) (2+(Qdy t day s i).length)
 [(4,hvF)] 0 [] []) []=some (.bool false,
 [ltq i (↑t.gaps.length:Int)=false]):=by kernel_rfl
theorem QyH (B:Lo) (t:Qao) (day:Int):landM (Qam YP (Qa1 YP) J0 B 9 1 (Qaj YP 88 24 (([.agg (QaC t).toArray,.int .i64 day]).map (Qat 0 4))) H00 1
 [] 0 [] []) [1,2,5,6] [(1,KS.auto)] []=some ⟨88,24,QfR,[],.run,none,QfW t day (0) (0),Qdy t day (0) (0),
 []⟩:=by kernel_rfl
set_option maxHeartbeats 4000000 in
theorem QxR (t:Qao) (day:Int) (hg:∀x∈t.gaps,0<=x/\x<=60) (hl:t.gaps.length<=300) {B:Lo} (hJ:∀w,B.has w->J0 w) {c0:CF}:∀m:Nat,(∀(s i:Int),t.gaps.length - i.toNat=m->∀(h0:0<=i) (h1:0<=s/\s<=60 * i),QwR B c0 t day s i->EndsT YP B c0 (.bool (Qhp day (t.gaps.drop i.toNat) s))):=by
 intro m0;induction m0 using Nat.strongRecOn with
 | _ m0 ih0=>
   intro s i hm0 h0 h1 ⟨dJ0,hdJ0,hg0⟩;by_cases q0:(i:Int) < ((↑t.gaps.length:Int))
   ·have hp0:QaA (QlF B t day s i dJ0):=by
     have s2:=Qib (day:=day) (s:=s) (l:=t.gaps) h0 q0;have g1:=hg _ (QaH h0 q0);exact ⟨(QaL (by omega) (by omega)),⟨⟨by omega,by omega,(Qae (z:=1) (fun _=> rfl) (by omega))⟩,⟨(QaW q0),trivial⟩⟩⟩
    by_cases q1:(s+t.gaps.getD i.toNat default:Int)=(day)
    ·have s2:=Qib (day:=day) (s:=s) (l:=t.gaps) h0 q0;have g1:=hg _ (QaH h0 q0);exact (GoE.endsT okF hJ Qab hg0 (Qxo B t day s i dJ0)
      ⟨(QuQ q1),hp0⟩).cast (by (rw [s2,decide_eq_true (by assumption)];rfl))
    ·have s2:=Qib (day:=day) (s:=s) (l:=t.gaps) h0 q0;have g1:=hg _ (QaH h0 q0);exact ((ih0 _ (by omega)) (s+t.gaps.getD i.toNat default) (i+1) rfl (by omega) (by omega)
      (hg0.landM okF hJ Qab (QwZ B t day s i dJ0)
      ⟨(QaL (by omega) (by omega)),⟨(Qw8 q1),hp0⟩⟩ (by kernel_rfl) (by kernel_rfl))).cast (by (rw [s2,decide_eq_false (by assumption)];rfl))
   ·have s2:=Qvq (day:=day) (s:=s) (l:=t.gaps) (i:=i) (by omega);exact (GoE.endsT okF hJ Qab hg0 (Qyc B t day s i dJ0)
     ⟨(Qbh (Int.not_lt.1 q0)),trivial⟩).cast (by (rw [s2];done))
set_option maxHeartbeats 4000000 in
theorem Q17 (t:Qao) (day:Int) (hg:∀x∈t.gaps,0<=x/\x<=60) (hl:t.gaps.length<=300) {B:Lo} (hJ:∀w,B.has w->J0 w):EndsT YP B (Qaj YP 88 24 (([.agg (QaC t).toArray,.int .i64 day]).map (Qat 0 4))) (.bool (Qc5 t day)):=by
 exact ((QxR t day hg hl hJ _) (0) (0) rfl (by omega) (by omega)
  (GoE.start.landM okF hJ Qab (QyH B t day)
  trivial (by kernel_rfl) (by kernel_rfl))).cast (by rfl)
theorem Q35 (t:Qao) (day:Int) (hg:∀x∈t.gaps,0<=x/\x<=60) (hl:t.gaps.length<=300):Qaq YP J0 88 #[.agg (QaC t).toArray,.int .i64 day] (.bool (Qc5 t day)):=
 QaE (ts:=[.agg (QaC t).toArray,.int .i64 day]) Qbw (c0:=Qaj YP 88 24 (([.agg (QaC t).toArray,.int .i64 day]).map (Qat 0 4))) (by kernel_rfl) (by kernel_rfl) fun B hJ=> Q17 t day hg hl hJ
def Qdg (s:Qaa) (load:List Int) (days:Int) (t:Qao) (kind ration:Int) (d stock w:Int):List Value:=[Qa4 1 (slT load.length (Qac Qal load)),.int .i64 days,.int .i64 kind,pA 2 0,.int .i64 stock,.int .i64 w,.int .i64 (Int.tdiv (t.uses.getD kind.toNat default * ration+999) 1000),.int .i64 d]
def QbM (s:Qaa) (load:List Int) (days:Int) (t:Qao) (kind ration:Int) (d stock w:Int):List Obj:=[Obj.cells #[Qa4 1 (slT t.uses.length (Qac Qal t.uses)),Qa4 1 (slT t.gaps.length (Qac Qal t.gaps)),Qa4 1 (slT t.goods.length (Qac Qa0 t.goods))] 65]
def Qdc:List Item:=([.code [1,1,1,0,1,0,0],.inLoop [1,1,1,0,1,0,0],.inBlock 0,.code [1,1,1,1]]).map (it (Qar YP 41))
def Q2D (B:Lo) (c0:CF) (s:Qaa) (load:List Int) (days:Int) (t:Qao) (kind ration:Int) (d stock w:Int):Prop:=∃dJ:Nat->Value,(∀t,Qbc (dJ t))/\GoE YP B c0 H00 1 (Qa9 41 74 (([1,2,4,9,14,15,16,17]:List Nat).zip (Qdg s load days t kind ration d stock w)) dJ Qdc) (Qa5 (QbM s load days t kind ration d stock w)) (2+(QbM s load days t kind ration d stock w).length) []
def Qg3 (s:Qaa) (load:List Int) (days:Int) (t:Qao) (kind ration:Int) (d i stock w:Int):List Value:=[Qa4 1 (slT load.length (Qac Qal load)),.int .i64 days,.int .i64 kind,pA 2 0,.int .i64 stock,.int .i64 w,.int .i64 (Int.tdiv (t.uses.getD kind.toNat default * ration+999) 1000),.int .i64 d,.int .i64 i]
def Qd2 (s:Qaa) (load:List Int) (days:Int) (t:Qao) (kind ration:Int) (d i stock w:Int):List Obj:=[Obj.cells #[Qa4 1 (slT t.uses.length (Qac Qal t.uses)),Qa4 1 (slT t.gaps.length (Qac Qal t.gaps)),Qa4 1 (slT t.goods.length (Qac Qa0 t.goods))] 65]
def Qgu:List Item:=([.code [1,1,1,0,1,0,0,1,0,0,0,1,0,1,0,0],.inLoop [1,1,1,0,1,0,0,1,0,0,0,1,0,1,0,0],.inBlock 2,.code [1,1,1,0,1,0,0,1,0,0,1],.inBlock 1,.code [1,1,1,0,1,0,0,1,1],.inLoop [1,1,1,0,1,0,0],.inBlock 0,.code [1,1,1,1]]).map (it (Qar YP 41))
def Q1y (B:Lo) (c0:CF) (s:Qaa) (load:List Int) (days:Int) (t:Qao) (kind ration:Int) (d i stock w:Int):Prop:=∃dJ:Nat->Value,(∀t,Qbc (dJ t))/\GoE YP B c0 H00 1 (Qa9 41 74 (([1,2,4,9,14,15,16,17,18]:List Nat).zip (Qg3 s load days t kind ration d i stock w)) dJ Qgu) (Qa5 (Qd2 s load days t kind ration d i stock w)) (2+(Qd2 s load days t kind ration d i stock w).length) []
def QoB (B:Lo) (s:Qaa) (load:List Int) (days:Int) (t:Qao) (kind ration:Int) (d stock w:Int) (dJ0:Nat->Value):List Prop:=[ltq d days=true]++([]:List Prop)
def QtL (s:Qaa) (load:List Int) (days:Int) (t:Qao) (kind ration:Int) (d stock w:Int) (dJ0:Nat->Value):Qaz:=[(2,hvT)]
theorem Q0C (B:Lo) (s:Qaa) (load:List Int) (days:Int) (t:Qao) (kind ration:Int) (d stock w:Int) (dJ0:Nat->Value):landM (Qam YP (Qa1 YP) J0 B 15 1 (Qa9 41 74 (([1,2,4,9,14,15,16,17]:List Nat).zip (Qdg s load days t kind ration d stock w)) dJ0 Qdc) (Qa5 (QbM s load days t kind ration d stock w)) (2+(QbM s load days t kind ration d stock w).length)
 (QtL s load days t kind ration d stock w dJ0++[(5,Qaf.pure (.bool true) [])]) 0 [] []) [1,2,4,9,14,15,16,17,18] [(2,KS.auto)] []=some ⟨41,74,Qgu,[],.run,none,Qg3 s load days t kind ration (d) (0) (stock) (w),Qd2 s load days t kind ration (d) (0) (stock) (w),
 [QaA []/\Qaq YP J0 88 #[.agg #[slT t.uses.length (Qac Qal t.uses),slT t.gaps.length (Qac Qal t.gaps),slT t.goods.length (Qac Qa0 t.goods)],.int .i64 d] (.bool true)]++QoB B s load days t kind ration d stock w dJ0⟩:=by kernel_rfl
def Qo8 (B:Lo) (s:Qaa) (load:List Int) (days:Int) (t:Qao) (kind ration:Int) (d stock w:Int) (dJ0:Nat->Value):List Prop:=[QaA []/\Qaq YP J0 88 #[.agg #[slT t.uses.length (Qac Qal t.uses),slT t.gaps.length (Qac Qal t.gaps),slT t.goods.length (Qac Qa0 t.goods)],.int .i64 d] (.bool false)]++QoB B s load days t kind ration d stock w dJ0
def Quf (s:Qaa) (load:List Int) (days:Int) (t:Qao) (kind ration:Int) (d stock w:Int) (dJ0:Nat->Value):Qaz:=QtL s load days t kind ration d stock w dJ0++[(5,Qaf.pure (.bool false) [])]
def QpC (B:Lo) (s:Qaa) (load:List Int) (days:Int) (t:Qao) (kind ration:Int) (d stock w:Int) (dJ0:Nat->Value):List Prop:=[ltq stock (Int.tdiv (t.uses.getD kind.toNat default * ration+999) 1000)=true]++Qo8 B s load days t kind ration d stock w dJ0
def QtG (s:Qaa) (load:List Int) (days:Int) (t:Qao) (kind ration:Int) (d stock w:Int) (dJ0:Nat->Value):Qaz:=Quf s load days t kind ration d stock w dJ0++[(8,hvT)]
theorem Q2F (B:Lo) (s:Qaa) (load:List Int) (days:Int) (t:Qao) (kind ration:Int) (d stock w:Int) (dJ0:Nat->Value):landM (Qam YP (Qa1 YP) J0 B 21 1 (Qa9 41 74 (([1,2,4,9,14,15,16,17]:List Nat).zip (Qdg s load days t kind ration d stock w)) dJ0 Qdc) (Qa5 (QbM s load days t kind ration d stock w)) (2+(QbM s load days t kind ration d stock w).length)
 (QtG s load days t kind ration d stock w dJ0++[(11,hvT),(17,hvI (stock - Int.tdiv (t.uses.getD kind.toNat default * ration+999) 1000)),(21,hvI (d+1))]) 0 [] []) [1,2,4,9,14,15,16,17] [(2,KS.auto)] []=some ⟨41,74,Qdc,[],.run,none,Qdg s load days t kind ration (d+1) (if stock - Int.tdiv (t.uses.getD kind.toNat default * ration+999) 1000 > 0 then stock - Int.tdiv (t.uses.getD kind.toNat default * ration+999) 1000 else 0) (d),QbM s load days t kind ration (d+1) (if stock - Int.tdiv (t.uses.getD kind.toNat default * ration+999) 1000 > 0 then stock - Int.tdiv (t.uses.getD kind.toNat default * ration+999) 1000 else 0) (d),
 [wq (d+1)=d+1,wq (stock - Int.tdiv (t.uses.getD kind.toNat default * ration+999) 1000)=stock - Int.tdiv (t.uses.getD kind.toNat default * ration+999) 1000,ltq w 0=true]++QpC B s load days t kind ration d stock w dJ0⟩:=by kernel_rfl
theorem Q1K (B:Lo) (s:Qaa) (load:List Int) (days:Int) (t:Qao) (kind ration:Int) (d stock w:Int) (dJ0:Nat->Value):landM (Qam YP (Qa1 YP) J0 B 21 1 (Qa9 41 74 (([1,2,4,9,14,15,16,17]:List Nat).zip (Qdg s load days t kind ration d stock w)) dJ0 Qdc) (Qa5 (QbM s load days t kind ration d stock w)) (2+(QbM s load days t kind ration d stock w).length)
 (QtG s load days t kind ration d stock w dJ0++[(11,hvF),(15,hvI (stock - Int.tdiv (t.uses.getD kind.toNat default * ration+999) 1000)),(19,hvI (d+1))]) 0 [] []) [1,2,4,9,14,15,16,17] [(2,KS.auto)] []=some ⟨41,74,Qdc,[],.run,none,Qdg s load days t kind ration (d+1) (if stock - Int.tdiv (t.uses.getD kind.toNat default * ration+999) 1000 > 0 then stock - Int.tdiv (t.uses.getD kind.toNat default * ration+999) 1000 else 0) (w),QbM s load days t kind ration (d+1) (if stock - Int.tdiv (t.uses.getD kind.toNat default * ration+999) 1000 > 0 then stock - Int.tdiv (t.uses.getD kind.toNat default * ration+999) 1000 else 0) (w),
 [wq (d+1)=d+1,wq (stock - Int.tdiv (t.uses.getD kind.toNat default * ration+999) 1000)=stock - Int.tdiv (t.uses.getD kind.toNat default * ration+999) 1000,ltq w 0=false]++QpC B s load days t kind ration d stock w dJ0⟩:=by kernel_rfl
theorem Q0B (B:Lo) (s:Qaa) (load:List Int) (days:Int) (t:Qao) (kind ration:Int) (d stock w:Int) (dJ0:Nat->Value):landM (Qam YP (Qa1 YP) J0 B 21 1 (Qa9 41 74 (([1,2,4,9,14,15,16,17]:List Nat).zip (Qdg s load days t kind ration d stock w)) dJ0 Qdc) (Qa5 (QbM s load days t kind ration d stock w)) (2+(QbM s load days t kind ration d stock w).length)
 (Quf s load days t kind ration d stock w dJ0++[(8,hvF),(15,hvI (stock - Int.tdiv (t.uses.getD kind.toNat default * ration+999) 1000)),(19,hvI (d+1))]) 0 [] []) [1,2,4,9,14,15,16,17] [(2,KS.auto)] []=some ⟨41,74,Qdc,[],.run,none,Qdg s load days t kind ration (d+1) (if stock - Int.tdiv (t.uses.getD kind.toNat default * ration+999) 1000 > 0 then stock - Int.tdiv (t.uses.getD kind.toNat default * ration+999) 1000 else 0) (w),QbM s load days t kind ration (d+1) (if stock - Int.tdiv (t.uses.getD kind.toNat default * ration+999) 1000 > 0 then stock - Int.tdiv (t.uses.getD kind.toNat default * ration+999) 1000 else 0) (w),
 [wq (d+1)=d+1,wq (stock - Int.tdiv (t.uses.getD kind.toNat default * ration+999) 1000)=stock - Int.tdiv (t.uses.getD kind.toNat default * ration+999) 1000,ltq stock (Int.tdiv (t.uses.getD kind.toNat default * ration+999) 1000)=false]++Qo8 B s load days t kind ration d stock w dJ0⟩:=by kernel_rfl
theorem Q2q (B:Lo) (s:Qaa) (load:List Int) (days:Int) (t:Qao) (kind ration:Int) (d stock w:Int) (dJ0:Nat->Value):QaY (Qam YP (Qa1 YP) J0 B 9 1 (Qa9 41 74 (([1,2,4,9,14,15,16,17]:List Nat).zip (Qdg s load days t kind ration d stock w)) dJ0 Qdc) (Qa5 (QbM s load days t kind ration d stock w)) (2+(QbM s load days t kind ration d stock w).length)
 [(2,hvF)] 0 [] []) []=some (.tuple #[.int .i64 w,.int .i64 stock],
 [ltq d days=false]):=by kernel_rfl
theorem Q13 (B:Lo) (s:Qaa) (load:List Int) (days:Int) (t:Qao) (kind ration:Int) (d i stock w:Int) (dJ0:Nat->Value):landM (Qam YP (Qa1 YP) J0 B 11 1 (Qa9 41 74 (([1,2,4,9,14,15,16,17,18]:List Nat).zip (Qg3 s load days t kind ration d i stock w)) dJ0 Qgu) (Qa5 (Qd2 s load days t kind ration d i stock w)) (2+(Qd2 s load days t kind ration d i stock w).length)
 [(3,hvT),(9,Qaf.tidx i.toNat #[.int .i64 (load.getD i.toNat default)]),(11,Qaf.tidx (Int.toNat (load.getD i.toNat default)) #[slT (List.length (t.goods.getD (Int.toNat (load.getD i.toNat default)) default)) (Qac Qal (t.goods.getD (Int.toNat (load.getD i.toNat default)) default))]),(14,Qaf.tidx kind.toNat #[.int .i64 (List.getD (t.goods.getD (Int.toNat (load.getD i.toNat default)) default) kind.toNat default)]),(16,hvI (stock+List.getD (t.goods.getD (Int.toNat (load.getD i.toNat default)) default) kind.toNat default)),(19,hvI (i+1))] 0 [] []) [1,2,4,9,14,15,16,17,18] [(2,KS.auto)] []=some ⟨41,74,Qgu,[],.run,none,Qg3 s load days t kind ration (d) (i+1) (stock+List.getD (t.goods.getD (Int.toNat (load.getD i.toNat default)) default) kind.toNat default) (w),Qd2 s load days t kind ration (d) (i+1) (stock+List.getD (t.goods.getD (Int.toNat (load.getD i.toNat default)) default) kind.toNat default) (w),
 [wq (i+1)=i+1,wq (stock+List.getD (t.goods.getD (Int.toNat (load.getD i.toNat default)) default) kind.toNat default)=stock+List.getD (t.goods.getD (Int.toNat (load.getD i.toNat default)) default) kind.toNat default,kind=(↑kind.toNat:Int)/\Int.toNat kind < List.length (t.goods.getD (Int.toNat (load.getD i.toNat default)) default)/\Array.extract (Qac Qal (t.goods.getD (Int.toNat (load.getD i.toNat default)) default)) (Int.toNat kind * TypeInfo.size Tryz.t3) (Int.toNat kind * TypeInfo.size Tryz.t3+TypeInfo.size Tryz.t3)=#[.int .i64 (List.getD (t.goods.getD (Int.toNat (load.getD i.toNat default)) default) kind.toNat default)],load.getD i.toNat default=(↑(Int.toNat (load.getD i.toNat default)):Int)/\Int.toNat (load.getD i.toNat default) < List.length t.goods/\Array.extract (Qac Qa0 t.goods) (Int.toNat (load.getD i.toNat default) * TypeInfo.size Tryz.t22) (Int.toNat (load.getD i.toNat default) * TypeInfo.size Tryz.t22+TypeInfo.size Tryz.t22)=#[slT (List.length (t.goods.getD (Int.toNat (load.getD i.toNat default)) default)) (Qac Qal (t.goods.getD (Int.toNat (load.getD i.toNat default)) default))],i=(↑i.toNat:Int)/\Int.toNat i < List.length load/\Array.extract (Qac Qal load) (Int.toNat i * TypeInfo.size Tryz.t3) (Int.toNat i * TypeInfo.size Tryz.t3+TypeInfo.size Tryz.t3)=#[.int .i64 (load.getD i.toNat default)],ltq i (↑load.length:Int)=true]⟩:=by kernel_rfl
def Qo4 (B:Lo) (s:Qaa) (load:List Int) (days:Int) (t:Qao) (kind ration:Int) (d i stock w:Int) (dJ0:Nat->Value):List Prop:=[ltq i (↑load.length:Int)=false]++([]:List Prop)
def QtX (s:Qaa) (load:List Int) (days:Int) (t:Qao) (kind ration:Int) (d i stock w:Int) (dJ0:Nat->Value):Qaz:=[(3,hvF)]
def QpD (B:Lo) (s:Qaa) (load:List Int) (days:Int) (t:Qao) (kind ration:Int) (d i stock w:Int) (dJ0:Nat->Value):List Prop:=[ltq stock (Int.tdiv (t.uses.getD kind.toNat default * ration+999) 1000)=true]++Qo4 B s load days t kind ration d i stock w dJ0
def Qu0 (s:Qaa) (load:List Int) (days:Int) (t:Qao) (kind ration:Int) (d i stock w:Int) (dJ0:Nat->Value):Qaz:=QtX s load days t kind ration d i stock w dJ0++[(6,hvT)]
theorem Q1W (B:Lo) (s:Qaa) (load:List Int) (days:Int) (t:Qao) (kind ration:Int) (d i stock w:Int) (dJ0:Nat->Value):landM (Qam YP (Qa1 YP) J0 B 14 1 (Qa9 41 74 (([1,2,4,9,14,15,16,17,18]:List Nat).zip (Qg3 s load days t kind ration d i stock w)) dJ0 Qgu) (Qa5 (Qd2 s load days t kind ration d i stock w)) (2+(Qd2 s load days t kind ration d i stock w).length)
 (Qu0 s load days t kind ration d i stock w dJ0++[(9,hvT),(15,hvI (stock - Int.tdiv (t.uses.getD kind.toNat default * ration+999) 1000)),(19,hvI (d+1))]) 0 [] []) [1,2,4,9,14,15,16,17] [(2,KS.auto)] []=some ⟨41,74,Qdc,[],.run,none,Qdg s load days t kind ration (d+1) (if stock - Int.tdiv (t.uses.getD kind.toNat default * ration+999) 1000 > 0 then stock - Int.tdiv (t.uses.getD kind.toNat default * ration+999) 1000 else 0) (d),QbM s load days t kind ration (d+1) (if stock - Int.tdiv (t.uses.getD kind.toNat default * ration+999) 1000 > 0 then stock - Int.tdiv (t.uses.getD kind.toNat default * ration+999) 1000 else 0) (d),
 [wq (d+1)=d+1,wq (stock - Int.tdiv (t.uses.getD kind.toNat default * ration+999) 1000)=stock - Int.tdiv (t.uses.getD kind.toNat default * ration+999) 1000,ltq w 0=true]++QpD B s load days t kind ration d i stock w dJ0⟩:=by kernel_rfl
theorem Q0Y (B:Lo) (s:Qaa) (load:List Int) (days:Int) (t:Qao) (kind ration:Int) (d i stock w:Int) (dJ0:Nat->Value):landM (Qam YP (Qa1 YP) J0 B 14 1 (Qa9 41 74 (([1,2,4,9,14,15,16,17,18]:List Nat).zip (Qg3 s load days t kind ration d i stock w)) dJ0 Qgu) (Qa5 (Qd2 s load days t kind ration d i stock w)) (2+(Qd2 s load days t kind ration d i stock w).length)
 (Qu0 s load days t kind ration d i stock w dJ0++[(9,hvF),(13,hvI (stock - Int.tdiv (t.uses.getD kind.toNat default * ration+999) 1000)),(17,hvI (d+1))]) 0 [] []) [1,2,4,9,14,15,16,17] [(2,KS.auto)] []=some ⟨41,74,Qdc,[],.run,none,Qdg s load days t kind ration (d+1) (if stock - Int.tdiv (t.uses.getD kind.toNat default * ration+999) 1000 > 0 then stock - Int.tdiv (t.uses.getD kind.toNat default * ration+999) 1000 else 0) (w),QbM s load days t kind ration (d+1) (if stock - Int.tdiv (t.uses.getD kind.toNat default * ration+999) 1000 > 0 then stock - Int.tdiv (t.uses.getD kind.toNat default * ration+999) 1000 else 0) (w),
 [wq (d+1)=d+1,wq (stock - Int.tdiv (t.uses.getD kind.toNat default * ration+999) 1000)=stock - Int.tdiv (t.uses.getD kind.toNat default * ration+999) 1000,ltq w 0=false]++QpD B s load days t kind ration d i stock w dJ0⟩:=by kernel_rfl
theorem Q2s (B:Lo) (s:Qaa) (load:List Int) (days:Int) (t:Qao) (kind ration:Int) (d i stock w:Int) (dJ0:Nat->Value):landM (Qam YP (Qa1 YP) J0 B 14 1 (Qa9 41 74 (([1,2,4,9,14,15,16,17,18]:List Nat).zip (Qg3 s load days t kind ration d i stock w)) dJ0 Qgu) (Qa5 (Qd2 s load days t kind ration d i stock w)) (2+(Qd2 s load days t kind ration d i stock w).length)
 (QtX s load days t kind ration d i stock w dJ0++[(6,hvF),(13,hvI (stock - Int.tdiv (t.uses.getD kind.toNat default * ration+999) 1000)),(17,hvI (d+1))]) 0 [] []) [1,2,4,9,14,15,16,17] [(2,KS.auto)] []=some ⟨41,74,Qdc,[],.run,none,Qdg s load days t kind ration (d+1) (if stock - Int.tdiv (t.uses.getD kind.toNat default * ration+999) 1000 > 0 then stock - Int.tdiv (t.uses.getD kind.toNat default * ration+999) 1000 else 0) (w),QbM s load days t kind ration (d+1) (if stock - Int.tdiv (t.uses.getD kind.toNat default * ration+999) 1000 > 0 then stock - Int.tdiv (t.uses.getD kind.toNat default * ration+999) 1000 else 0) (w),
 [wq (d+1)=d+1,wq (stock - Int.tdiv (t.uses.getD kind.toNat default * ration+999) 1000)=stock - Int.tdiv (t.uses.getD kind.toNat default * ration+999) 1000,ltq stock (Int.tdiv (t.uses.getD kind.toNat default * ration+999) 1000)=false]++Qo4 B s load days t kind ration d i stock w dJ0⟩:=by kernel_rfl
theorem Q0N (B:Lo) (s:Qaa) (load:List Int) (days:Int) (t:Qao) (kind ration:Int):landM (Qam YP (Qa1 YP) J0 B 11 1 (Qaj YP 41 74 (([.agg (Qah s).toArray,slI load,.int .i64 days,.agg (QaC t).toArray,.int .i64 kind,.int .i64 ration]).map (Qat 0 4))) H00 1
 [(7,Qaf.tidx kind.toNat #[.int .i64 (s.stock.getD kind.toNat default)]),(14,Qaf.tidx kind.toNat #[.int .i64 (t.uses.getD kind.toNat default)]),(17,hvI (t.uses.getD kind.toNat default * ration)),(18,hvI (t.uses.getD kind.toNat default * ration+999)),(19,hvI (Int.tdiv (t.uses.getD kind.toNat default * ration+999) 1000))] 0 [] []) [1,2,4,9,14,15,16,17] [(2,KS.auto)] []=some ⟨41,74,Qdc,[],.run,none,Qdg s load days t kind ration (0) (s.stock.getD kind.toNat default) (-1),QbM s load days t kind ration (0) (s.stock.getD kind.toNat default) (-1),
 [IntKind.wrap .i64 (Int.tdiv (t.uses.getD kind.toNat default * ration+999) 1000)=Int.tdiv (t.uses.getD kind.toNat default * ration+999) 1000,wq (t.uses.getD kind.toNat default * ration+999)=t.uses.getD kind.toNat default * ration+999,wq (t.uses.getD kind.toNat default * ration)=t.uses.getD kind.toNat default * ration,kind=(↑kind.toNat:Int)/\Int.toNat kind < List.length t.uses/\Array.extract (Qac Qal t.uses) (Int.toNat kind * TypeInfo.size Tryz.t3) (Int.toNat kind * TypeInfo.size Tryz.t3+TypeInfo.size Tryz.t3)=#[.int .i64 (t.uses.getD kind.toNat default)],kind=(↑kind.toNat:Int)/\Int.toNat kind < List.length s.stock/\Array.extract (Qac Qal s.stock) (Int.toNat kind * TypeInfo.size Tryz.t3) (Int.toNat kind * TypeInfo.size Tryz.t3+TypeInfo.size Tryz.t3)=#[.int .i64 (s.stock.getD kind.toNat default)]]⟩:=by kernel_rfl
set_option maxHeartbeats 4000000 in
theorem Q1s (s:Qaa) (load:List Int) (days:Int) (t:Qao) (kind ration:Int) (hs:Qa3 s=true) (hl:load.length<=10) (hx:∀x∈load,0<=x/\x < s.lots.length) (ht:Qb7 s days t=true) (hd:0<=days/\days<=300) (hk:0<=kind/\kind < s.stock.length) (hr:0<=ration/\ration<=1001) {B:Lo} (hJ:∀w,B.has w->J0 w) {c0:CF}:∀m:Nat,(∀(d stock w:Int),(days - d).toNat * 20=m->∀(d0:0<=d) (s0:0<=stock/\stock<=100000+1000000 * d) (w0: -1<=w/\w<=300),Q2D B c0 s load days t kind ration d stock w->EndsT YP B c0 (Qn8 (QkL (Qqx t kind ration) (QkJ t kind load) (Qc5 t) (upI d days) (w,stock))))/\(∀(d i stock w:Int),(days - d).toNat * 20 - 15+(load.length - i.toNat)=m->∀(d0:0<=d) (d1:d < days) (i0:0<=i) (i1:i<=load.length) (s0:0<=stock/\stock<=100000+1000000 * d+100000 * i) (w0: -1<=w/\w<=300),Q1y B c0 s load days t kind ration d i stock w->EndsT YP B c0 (Qn8 (Q3Y (Qqx t kind ration) (QkJ t kind load) (Qc5 t) days d w (stock+QkJ t kind (load.drop i.toNat))))):=by
 intro m0;induction m0 using Nat.strongRecOn with
 | _ m0 ih0=>
   refine ⟨?_, ?_⟩
   ·intro d stock w hm0 d0 s0 w0 ⟨dJ0,hdJ0,hg0⟩;have ht':=ht;simp only [Qb7,Qhl,YB,decide_eq_true_iff,List.all_eq_true,QaU] at ht';have hgp:=Qaw hs;have hst:=Qai hs;have hrows:=Qee hs ht'.2.2;have hus:=(QbN ht'.1)
    have hgg:∀x∈t.gaps,0<=x/\x<=60:=fun x h=> by have:=ht'.2.1.2.1 x h;omega
    have hgl:t.gaps.length<=300:=ht'.2.1.1;have hu1:=hus.2 kind hk.1 (by omega);have hu2:=hst.2.2.2 _ (QaH (l:=s.use) hk.1 (by omega));have hs1:=hst.2.1 _ (QaH (l:=s.stock) hk.1 hk.2);have hu3:0<=t.uses.getD kind.toNat default * ration:=Int.mul_nonneg (by omega) (by omega);have hu4:t.uses.getD kind.toNat default * ration<=1000 * 1001:=Int.mul_le_mul (by omega) (by omega) (by omega) (by omega);have hu5:(t.uses.getD kind.toNat default * ration+999).tdiv 1000=(t.uses.getD kind.toNat default * ration+999) / 1000:=Int.tdiv_eq_ediv_of_nonneg (by omega);have hU:Qqx t kind ration=(t.uses.getD kind.toNat default * ration+999).tdiv 1000:=rfl;by_cases q0:(d:Int) < (days)
    ·have hp0:QaA (QoB B s load days t kind ration d stock w dJ0):=by
      exact ⟨(QaW q0),trivial⟩
     cases q1:Qc5 t d with
     | true=>
       have s2:=QgX (use:=Qqx t kind ration) (br:=QkJ t kind load) (comes:=Qc5 t) (days:=days) (d:=d) (w:=w) (s:=stock) (by omega);have hc:(if Qc5 t d=true then QkJ t kind load else 0)=QkJ t kind load:=if_pos ‹Qc5 t d=true›;exact ((ih0 _ (by omega)).2 (d) (0) (stock) (w) rfl (by with_reducible assumption) (by with_reducible assumption) (by omega) (by omega) (by omega) (by with_reducible assumption)
        (hg0.landM okF hJ Qab (Q0C B s load days t kind ration d stock w dJ0)
        ⟨⟨trivial,(by have t_:=Q35 (t) (d) (by with_reducible assumption) (by with_reducible assumption);rw [q1] at t_;exact t_)⟩,hp0⟩ (by kernel_rfl) (by kernel_rfl))).cast (by (rw [s2,hc];rfl))
     | false=>
       have hp1:QaA (Qo8 B s load days t kind ration d stock w dJ0):=by
        have s2:=QgX (use:=Qqx t kind ration) (br:=QkJ t kind load) (comes:=Qc5 t) (days:=days) (d:=d) (w:=w) (s:=stock) (by omega);have hc:(if Qc5 t d=true then QkJ t kind load else 0)=0:=if_neg (by rw [‹Qc5 t d=false›];decide);exact ⟨⟨trivial,(by have t_:=Q35 (t) (d) (by with_reducible assumption) (by with_reducible assumption);rw [q1] at t_;exact t_)⟩,hp0⟩
       by_cases q2:(stock:Int) < (Int.tdiv (t.uses.getD kind.toNat default * ration+999) 1000)
       ·have hp2:QaA (QpC B s load days t kind ration d stock w dJ0):=by
         exact ⟨(QaW q2),hp1⟩
        by_cases q3:(w:Int) < (0)
        ·have s2:=QgX (use:=Qqx t kind ration) (br:=QkJ t kind load) (comes:=Qc5 t) (days:=days) (d:=d) (w:=w) (s:=stock) (by omega);have hc:(if Qc5 t d=true then QkJ t kind load else 0)=0:=if_neg (by rw [‹Qc5 t d=false›];decide);exact ((ih0 _ (by omega)).1 (d+1) (if stock - Int.tdiv (t.uses.getD kind.toNat default * ration+999) 1000 > 0 then stock - Int.tdiv (t.uses.getD kind.toNat default * ration+999) 1000 else 0) (d) rfl (by omega) (by omega) (by omega)
          (hg0.landM okF hJ Qab (Q2F B s load days t kind ration d stock w dJ0)
          ⟨(QaL (by omega) (by omega)),⟨(QaL (by omega) (by omega)),⟨(QaW q3),hp2⟩⟩⟩ (by kernel_rfl) (by kernel_rfl))).cast (by (rw [s2,hc];exact congrArg Qn8 (kD (by split <;> omega) (by split <;> omega))))
        ·have s2:=QgX (use:=Qqx t kind ration) (br:=QkJ t kind load) (comes:=Qc5 t) (days:=days) (d:=d) (w:=w) (s:=stock) (by omega);have hc:(if Qc5 t d=true then QkJ t kind load else 0)=0:=if_neg (by rw [‹Qc5 t d=false›];decide);exact ((ih0 _ (by omega)).1 (d+1) (if stock - Int.tdiv (t.uses.getD kind.toNat default * ration+999) 1000 > 0 then stock - Int.tdiv (t.uses.getD kind.toNat default * ration+999) 1000 else 0) (w) rfl (by omega) (by omega) (by with_reducible assumption)
          (hg0.landM okF hJ Qab (Q1K B s load days t kind ration d stock w dJ0)
          ⟨(QaL (by omega) (by omega)),⟨(QaL (by omega) (by omega)),⟨(Qbh (Int.not_lt.1 q3)),hp2⟩⟩⟩ (by kernel_rfl) (by kernel_rfl))).cast (by (rw [s2,hc];exact congrArg Qn8 (kD (by split <;> omega) (by split <;> omega))))
       ·have s2:=QgX (use:=Qqx t kind ration) (br:=QkJ t kind load) (comes:=Qc5 t) (days:=days) (d:=d) (w:=w) (s:=stock) (by omega);have hc:(if Qc5 t d=true then QkJ t kind load else 0)=0:=if_neg (by rw [‹Qc5 t d=false›];decide);exact ((ih0 _ (by omega)).1 (d+1) (if stock - Int.tdiv (t.uses.getD kind.toNat default * ration+999) 1000 > 0 then stock - Int.tdiv (t.uses.getD kind.toNat default * ration+999) 1000 else 0) (w) rfl (by omega) (by omega) (by with_reducible assumption)
         (hg0.landM okF hJ Qab (Q0B B s load days t kind ration d stock w dJ0)
         ⟨(QaL (by omega) (by omega)),⟨(QaL (by omega) (by omega)),⟨(Qbh (Int.not_lt.1 q2)),hp1⟩⟩⟩ (by kernel_rfl) (by kernel_rfl))).cast (by (rw [s2,hc];exact congrArg Qn8 (kD (by split <;> omega) (by split <;> omega))))
    ·have s2:=Q1x (use:=Qqx t kind ration) (br:=QkJ t kind load) (comes:=Qc5 t) (days:=days) (d:=d) (w:=w) (s:=stock) (by omega);exact (GoE.endsT okF hJ Qab hg0 (Q2q B s load days t kind ration d stock w dJ0)
      ⟨(Qbh (Int.not_lt.1 q0)),trivial⟩).cast (by (rw [s2];rfl))
   ·intro d i stock w hm0 d0 d1 i0 i1 s0 w0 ⟨dJ0,hdJ0,hg0⟩;have ht':=ht;simp only [Qb7,Qhl,YB,decide_eq_true_iff,List.all_eq_true,QaU] at ht';have hgp:=Qaw hs;have hst:=Qai hs;have hrows:=Qee hs ht'.2.2;have hus:=(QbN ht'.1)
    have hgg:∀x∈t.gaps,0<=x/\x<=60:=fun x h=> by have:=ht'.2.1.2.1 x h;omega
    have hgl:t.gaps.length<=300:=ht'.2.1.1;have hu1:=hus.2 kind hk.1 (by omega);have hu2:=hst.2.2.2 _ (QaH (l:=s.use) hk.1 (by omega));have hs1:=hst.2.1 _ (QaH (l:=s.stock) hk.1 hk.2);have hu3:0<=t.uses.getD kind.toNat default * ration:=Int.mul_nonneg (by omega) (by omega);have hu4:t.uses.getD kind.toNat default * ration<=1000 * 1001:=Int.mul_le_mul (by omega) (by omega) (by omega) (by omega);have hu5:(t.uses.getD kind.toNat default * ration+999).tdiv 1000=(t.uses.getD kind.toNat default * ration+999) / 1000:=Int.tdiv_eq_ediv_of_nonneg (by omega);have hU:Qqx t kind ration=(t.uses.getD kind.toNat default * ration+999).tdiv 1000:=rfl;by_cases q0:(i:Int) < ((↑load.length:Int))
    ·have s2:=Qy8 (t:=t) (kind:=kind) (l:=load) i0 q0;have g1:=hx _ (QaH i0 q0);have g2:=hrows.2 _ (QaH (l:=t.goods) (i:=load.getD i.toNat default) g1.1 (by omega));have g3:=g2.2 _ (QaH (l:=t.goods.getD (load.getD i.toNat default).toNat default) (i:=kind) hk.1 (by omega));exact ((ih0 _ (by omega)).2 (d) (i+1) (stock+List.getD (t.goods.getD (Int.toNat (load.getD i.toNat default)) default) kind.toNat default) (w) rfl (by with_reducible assumption) (by with_reducible assumption) (by omega) (by omega) (by omega) (by with_reducible assumption)
      (hg0.landM okF hJ Qab (Q13 B s load days t kind ration d i stock w dJ0)
      ⟨(QaL (by omega) (by omega)),⟨(QaL (by omega) (by omega)),⟨⟨by first | omega | (split <;> omega),by first | omega | (split <;> omega),(Qae (z:=1) (fun _=> rfl) (by omega))⟩,⟨⟨by first | omega | (split <;> omega),by first | omega | (split <;> omega),(Qae (z:=1) (fun _=> rfl) (by omega))⟩,⟨⟨by first | omega | (split <;> omega),by first | omega | (split <;> omega),(Qae (z:=1) (fun _=> rfl) (by omega))⟩,⟨(QaW q0),trivial⟩⟩⟩⟩⟩⟩ (by kernel_rfl) (by kernel_rfl))).cast (by (rw [s2,<-Int.add_assoc];done))
    ·have hp3:QaA (Qo4 B s load days t kind ration d i stock w dJ0):=by
      exact ⟨(Qbh (Int.not_lt.1 q0)),trivial⟩
     by_cases q1:(stock:Int) < (Int.tdiv (t.uses.getD kind.toNat default * ration+999) 1000)
     ·have hp4:QaA (QpD B s load days t kind ration d i stock w dJ0):=by
       exact ⟨(QaW q1),hp3⟩
      by_cases q2:(w:Int) < (0)
      ·have s2:=Qos (t:=t) (kind:=kind) (l:=load) (i:=i) (by omega);exact ((ih0 _ (by omega)).1 (d+1) (if stock - Int.tdiv (t.uses.getD kind.toNat default * ration+999) 1000 > 0 then stock - Int.tdiv (t.uses.getD kind.toNat default * ration+999) 1000 else 0) (d) rfl (by omega) (by omega) (by omega)
        (hg0.landM okF hJ Qab (Q1W B s load days t kind ration d i stock w dJ0)
        ⟨(QaL (by omega) (by omega)),⟨(QaL (by omega) (by omega)),⟨(QaW q2),hp4⟩⟩⟩ (by kernel_rfl) (by kernel_rfl))).cast (by (rw [s2];exact congrArg Qn8 (kD (by split <;> omega) (by split <;> omega))))
      ·have s2:=Qos (t:=t) (kind:=kind) (l:=load) (i:=i) (by omega);exact ((ih0 _ (by omega)).1 (d+1) (if stock - Int.tdiv (t.uses.getD kind.toNat default * ration+999) 1000 > 0 then stock - Int.tdiv (t.uses.getD kind.toNat default * ration+999) 1000 else 0) (w) rfl (by omega) (by omega) (by with_reducible assumption)
        (hg0.landM okF hJ Qab (Q0Y B s load days t kind ration d i stock w dJ0)
        ⟨(QaL (by omega) (by omega)),⟨(QaL (by omega) (by omega)),⟨(Qbh (Int.not_lt.1 q2)),hp4⟩⟩⟩ (by kernel_rfl) (by kernel_rfl))).cast (by (rw [s2];exact congrArg Qn8 (kD (by split <;> omega) (by split <;> omega))))
     ·have s2:=Qos (t:=t) (kind:=kind) (l:=load) (i:=i) (by omega);exact ((ih0 _ (by omega)).1 (d+1) (if stock - Int.tdiv (t.uses.getD kind.toNat default * ration+999) 1000 > 0 then stock - Int.tdiv (t.uses.getD kind.toNat default * ration+999) 1000 else 0) (w) rfl (by omega) (by omega) (by with_reducible assumption)
       (hg0.landM okF hJ Qab (Q2s B s load days t kind ration d i stock w dJ0)
       ⟨(QaL (by omega) (by omega)),⟨(QaL (by omega) (by omega)),⟨(Qbh (Int.not_lt.1 q1)),hp3⟩⟩⟩ (by kernel_rfl) (by kernel_rfl))).cast (by (rw [s2];exact congrArg Qn8 (kD (by split <;> omega) (by split <;> omega))))
set_option maxHeartbeats 4000000 in
theorem Q48 (s:Qaa) (load:List Int) (days:Int) (t:Qao) (kind ration:Int) (hs:Qa3 s=true) (hl:load.length<=10) (hx:∀x∈load,0<=x/\x < s.lots.length) (ht:Qb7 s days t=true) (hd:0<=days/\days<=300) (hk:0<=kind/\kind < s.stock.length) (hr:0<=ration/\ration<=1001) {B:Lo} (hJ:∀w,B.has w->J0 w):EndsT YP B (Qaj YP 41 74 (([.agg (Qah s).toArray,slI load,.int .i64 days,.agg (QaC t).toArray,.int .i64 kind,.int .i64 ration]).map (Qat 0 4))) (Qn8 (QkL (Qqx t kind ration) (QkJ t kind load) (Qc5 t) (upI 0 days) (-1,s.stock.getD kind.toNat default))):=by
 have ht':=ht;simp only [Qb7,Qhl,YB,decide_eq_true_iff,List.all_eq_true,QaU] at ht';have hgp:=Qaw hs;have hst:=Qai hs;have hrows:=Qee hs ht'.2.2;have hus:=(QbN ht'.1)
 have hgg:∀x∈t.gaps,0<=x/\x<=60:=fun x h=> by have:=ht'.2.1.2.1 x h;omega
 have hgl:t.gaps.length<=300:=ht'.2.1.1;have hu1:=hus.2 kind hk.1 (by omega);have hu2:=hst.2.2.2 _ (QaH (l:=s.use) hk.1 (by omega));have hs1:=hst.2.1 _ (QaH (l:=s.stock) hk.1 hk.2);have hu3:0<=t.uses.getD kind.toNat default * ration:=Int.mul_nonneg (by omega) (by omega);have hu4:t.uses.getD kind.toNat default * ration<=1000 * 1001:=Int.mul_le_mul (by omega) (by omega) (by omega) (by omega);have hu5:(t.uses.getD kind.toNat default * ration+999).tdiv 1000=(t.uses.getD kind.toNat default * ration+999) / 1000:=Int.tdiv_eq_ediv_of_nonneg (by omega);have hU:Qqx t kind ration=(t.uses.getD kind.toNat default * ration+999).tdiv 1000:=rfl;exact ((Q1s s load days t kind ration hs hl hx ht hd hk hr hJ _).1 (0) (s.stock.getD kind.toNat default) (-1) rfl (by omega) (by omega) (by omega)
  (GoE.start.landM okF hJ Qab (Q0N B s load days t kind ration)
  ⟨(Qin (by omega) (by omega)),⟨(QaL (by omega) (by omega)),⟨(QaL (by omega) (by omega)),⟨⟨by omega,by omega,(Qae (z:=1) (fun _=> rfl) (by omega))⟩,⟨⟨by omega,by omega,(Qae (z:=1) (fun _=> rfl) (by omega))⟩,trivial⟩⟩⟩⟩⟩ (by kernel_rfl) (by kernel_rfl))).cast (by rfl)
theorem Q6Y (s:Qaa) (load:List Int) (days:Int) (t:Qao) (kind ration:Int) (hs:Qa3 s=true) (hl:load.length<=10) (hx:∀x∈load,0<=x/\x < s.lots.length) (ht:Qb7 s days t=true) (hd:0<=days/\days<=300) (hk:0<=kind/\kind < s.stock.length) (hr:0<=ration/\ration<=1001):Qaq YP J0 41 #[.agg (Qah s).toArray,slI load,.int .i64 days,.agg (QaC t).toArray,.int .i64 kind,.int .i64 ration] (Qn8 (QkL (Qqx t kind ration) (QkJ t kind load) (Qc5 t) (upI 0 days) (-1,s.stock.getD kind.toNat default))):=
 QaE (ts:=[.agg (Qah s).toArray,slI load,.int .i64 days,.agg (QaC t).toArray,.int .i64 kind,.int .i64 ration]) Qbw (c0:=Qaj YP 41 74 (([.agg (Qah s).toArray,slI load,.int .i64 days,.agg (QaC t).toArray,.int .i64 kind,.int .i64 ration]).map (Qat 0 4))) (by kernel_rfl) (by kernel_rfl) fun B hJ=> Q48 s load days t kind ration hs hl hx ht hd hk hr hJ
end
end Go.Proofs.YtiabgkiccaodmaaGreat

namespace Go.Proofs.YtiabgkiccaodmaaGreat
open Go Go.CE Go.RowKit
theorem QvZ {a b c:Int} (h1:a<=b) (h2:b<=c):upI a c=upI a b++upI b c:=by
 obtain ⟨n,hn⟩:∃n:Nat,b=a+n:=⟨(b - a).toNat,by omega⟩
 subst hn;induction n generalizing a with
 | zero=> rw [Qiu (a:=a) (b:=a+((0:Nat):Int)) (by omega),show a+((0:Nat):Int)=a by omega];rfl
 | succ n ih=>
   rw [QeL (a:=a) (b:=c) (by omega),QeL (a:=a) (b:=a+((n+1:Nat):Int)) (by omega),show a+((n+1:Nat):Int)=(a+1)+(n:Int) by omega,ih (by omega) (by omega)];rfl
theorem Qo5 {a b x:Int} (h:x∈upI a b):a<=x/\x < b:=by
 unfold upI at h;obtain ⟨k,hk,rfl⟩:=List.mem_map.1 h;have:=List.mem_range.1 hk;omega
theorem QzM {s x n:Int} (hs:0<=s) (hx:0<=x) (hn:0<=n):Qle (QpI s x) n=(Qle s n || decide (x=n)):=by
 rw [Qox,Qox];unfold QpI orN Quw;rw [Int.toNat_natCast,Int.toNat_natCast,Nat.testBit_or,Nat.testBit_two_pow];congr 1;exact decide_eq_decide.2 (by omega)
theorem Q5n {s n:Int}:0<=QpI s n:=Int.natCast_nonneg _
theorem Qrk {n:Int} (hn:0<=n):∀(l:List Int) (s:Int),(∀x∈l,0<=x)->0<=s->Qle (QaG l s) n=(Qle s n || l.contains n)
 | [],s,_,_=> by simp [QaG]
 | x::l,s,h,hs=> by
   rw [QaG,Qrk hn l (QpI s x) (fun y hy=> h y (by simp [hy])) Q5n,QzM hs (h x (by simp)) hn,List.contains_cons,Bool.or_assoc];congr 1;congr 1;by_cases e:x=n
   ·subst e;simp
   ·rw [decide_eq_false e];symm;exact beq_eq_false_iff_ne.2 (Ne.symm e)
theorem Q0p {n:Int}:Qle 0 n=false:=by rw [Qox];simp
theorem Q15 {s n:Int} (h0:0<=s) (hn:QcF s<=n):Qle s n=false:=by
 rw [Qox];refine Nat.testBit_lt_two_pow ?_;unfold QcF at hn;by_cases hs:s=0
 ·subst hs;exact Nat.two_pow_pos _
 ·rw [if_neg hs] at hn;have hb:s.toNat≠0:=by omega
  have:s.toNat < 2 ^ (s.toNat.log2+1):=Nat.lt_log2_self;exact Nat.lt_of_lt_of_le this (Nat.pow_le_pow_right (by decide) (by omega))
theorem Qm7 {things:Int}:∀{l:List Int} {least:Int},Qeh things l least=true->∀x∈l,least<=x/\x < things
 | [],_,_,x,hx=> by simp at hx
 | n::l,least,h,x,hx=> by
   simp only [Qeh,YB,QaU] at h;rcases List.mem_cons.1 hx with rfl | hx
   ·omega
   ·have:=Qm7 h.2 x hx;omega
theorem Qta {things:Int}:∀(m:Nat) (l:List Int) (least:Int),(things - least).toNat=m->Qeh things l least=true->(upI least things).filter (fun n=> l.contains n)=l:=by
 intro m;induction m with
 | zero=>
   intro l least hm h;rw [Qiu (by omega)];cases l with
   | nil=> rfl
   | cons x l=> have:=Qm7 h x (by simp);omega
 | succ m ih=>
   intro l least hm h;cases l with
   | nil=> simp
   | cons x l=>
     have hx:=Qm7 h x (by simp);rw [QeL (by omega)];by_cases e:least=x
     ·subst e;rw [List.filter_cons_of_pos (by simp)];simp only [Qeh,YB] at h;congr 1;refine (List.filter_congr fun n hn=> ?_).trans (ih l (least+1) (by omega) h.2);have:=(Qo5 hn).1;rw [List.contains_cons,beq_eq_false_iff_ne.2 (by omega),Bool.false_or]
     ·have hne:(x::l).contains least=false:=by
       cases hc:(x::l).contains least with
       | false=> rfl
       | true=>
         have hm2:least∈x::l:=List.contains_iff_mem.1 hc;simp only [Qeh,YB,QaU] at h;rcases List.mem_cons.1 hm2 with rfl | hm2
         ·exact absurd rfl e
         ·have:=Qm7 h.2 least hm2;omega
      rw [List.filter_cons_of_neg (by rw [hne];decide)];refine ih (x::l) (least+1) (by omega) ?_;simp only [Qeh,YB,QaU] at h ⊢;exact ⟨by omega,h.2⟩
theorem QrZ {α:Type} [Inhabited α] {xs:List α} {load:List Int} {things:Nat} (ht:things<=61) (h:Qeh things load 0=true):Qa8 (QaG load 0) xs 0=load.map fun x=> xs.getD x.toNat default:=by
 have hin:=QjT h (Int.le_refl 0);have hlt:=Qkd ht load 0 hin (Int.le_refl 0) (Int.pow_pos (by decide));have hle:=QlD hlt.1 hlt.2;have h0:0<=QcF (QaG load 0):=by unfold QcF;split <;> omega
 have e1:(upI 0 (QcF (QaG load 0))).filter (Qle (QaG load 0))=(upI 0 things).filter (Qle (QaG load 0)):=by
  rw [QvZ (a:=0) (b:=QcF (QaG load 0)) (c:=things) h0 hle,List.filter_append];have:(upI (QcF (QaG load 0)) things).filter (Qle (QaG load 0))=[]:=by
   rw [List.filter_eq_nil_iff];intro n hn;rw [Q15 hlt.1 (Qo5 hn).1];decide
  rw [this,List.append_nil]
 have e2:(upI 0 things).filter (Qle (QaG load 0))=load:=by
  refine (List.filter_congr fun n hn=> ?_).trans (Qta _ load 0 rfl h);rw [Qrk (Qo5 hn).1 load 0 (fun x hx=> (hin x hx).1) (Int.le_refl 0),Q0p,Bool.false_or]
 unfold Qa8;rw [e1,e2]
theorem Q4u {s:Qaa} {load:List Int} (hs:Qa3 s=true):(Qeh s.lots.length load 0 && decide (Q2f s load<=s.hold))=Qck s load:=by
 have hm:=Qav hs;unfold Qck QsI Q2f;cases h:Qeh s.lots.length load 0 with
 | false=> rfl
 | true=> rw [QrZ (by omega) h,List.map_map];rfl
theorem QvV {s:Qaa} {t:Qao} {load:List Int} {k:Int} (hs:Qa3 s=true) (h:Qck s load=true):Qjx (QaG load 0) t.goods k=QkJ t k load:=by
 have hm:=Qav hs;simp only [Qck,YB] at h;unfold Qjx QkJ;rw [QrZ (by omega) h.1,List.map_map];rfl
theorem Qrl {days:Int}:∀(l:List Int) (day:Int) (bs:List Bool) (d:Int),(∀g∈l,0<=g)->0<=day->bs.length=days.toNat->0<=d->d < days->(QgD days l day bs).getD d.toNat default=(bs.getD d.toNat default || Qhp d l day)
 | [],day,bs,d,_,_,_,_,_=> by simp [QgD,Qhp]
 | g::l,day,bs,d,h,h0,hb,d0,d1=> by
   have hg:=h g (by simp);simp only [QgD,Qhp];rw [Qrl l (day+g) _ d (fun x hx=> h x (by simp [hx])) (by omega) (by cases decide (day+g < days) <;> simp [hb]) d0 d1,<-Bool.or_assoc];congr 1;have hk:d.toNat < bs.length:=by omega
   by_cases e:day+g < days
   ·rw [decide_eq_true e,cond_true];simp only [List.getD_eq_getElem?_getD,List.getElem?_set];by_cases e2:day+g=d
    ·rw [if_pos (by omega),decide_eq_true e2,if_pos (by omega)];simp
    ·rw [if_neg (by omega),decide_eq_false e2,Bool.or_false]
   ·rw [decide_eq_false e,cond_false,decide_eq_false (by omega),Bool.or_false]
theorem QvI {days d:Int} {gaps:List Int} (h:∀g∈gaps,0<=g) (d0:0<=d) (d1:d < days):(QdH days gaps).getD d.toNat default=Qhp d gaps 0:=by
 unfold QdH;rw [Qrl gaps 0 _ d h (Int.le_refl 0) (by simp) d0 d1];have hk:d.toNat < days.toNat:=by omega
 simp [List.getD_eq_getElem?_getD,hk]
theorem QyS {use br:Int} {comes:Int->Bool}:∀(cs:List Bool) (d left w:Int),0<=d->(∀j:Nat,j < cs.length->comes (d+j)=cs.getD j default)->QkL use br comes (upI d (d+cs.length)) (w,left)=(if w < 0/\0<=Qbx use br cs d left then Qbx use br cs d left else w,Qds use br cs left)
 | [],d,left,w,h0,_=> by
   rw [Qiu (by simp)];simp [QkL,Qbx,Qds]
 | c::cs,d,left,w,h0,h=> by
   have hc:comes d=c:=by have:=h 0 (by simp);simpa using this
   rw [QeL (by simp;omega),show d+((c::cs).length:Int)=(d+1)+cs.length by simp;omega];simp only [QkL];rw [hc];have eL:(left+if c=true then br else 0)=left+bif c then br else 0:=by cases c <;> rfl
   have f1:Qbx use br (c::cs) d left=bif decide ((left+bif c then br else 0) < use) then d else Qbx use br cs (d+1) (Qn5 use (left+bif c then br else 0)):=rfl;have f2:Qds use br (c::cs) left=Qds use br cs (Qn5 use (left+bif c then br else 0)):=rfl;rw [eL,f1,f2];generalize (left+bif c then br else 0:Int)=L at *;have hs:(if 0 < L - use then L - use else 0)=Qn5 use L:=by unfold Qn5;split <;> split <;> omega
   rw [hs,QyS cs (d+1) (Qn5 use L) _ (by omega) (fun j hj=> by
    have:=h (j+1) (by simp;omega);rw [show d+((j+1:Nat):Int)=d+1+(j:Int) by omega] at this;rw [this];simp)]
   have hor:=Qjn (use:=use) (br:=br) cs (d+1) (Qn5 use L) (by omega);by_cases e:L < use
   ·rw [decide_eq_true e,cond_true];by_cases hw:w < 0
    ·rw [if_pos (show L < use/\w < 0 from ⟨e,hw⟩),if_neg (by omega),if_pos (by omega)]
    ·rw [if_neg (show ¬(L < use/\w < 0) by omega),if_neg (by omega),if_neg (by omega)]
   ·rw [decide_eq_false e,cond_false,if_neg (show ¬(L < use/\w < 0) by omega)]
theorem QxC {s:Qaa} {load:List Int} {days:Int} {t:Qao} {k:Int} (hs:Qa3 s=true) (hl:Qck s load=true) (ht:Qb7 s days t=true) (hd:0<=days/\days<=300):
 QkL (Qqx t k 1000) (QkJ t k load) (Qc5 t) (upI 0 days) (-1,s.stock.getD k.toNat default)=(Qay (QeW s (QaG load 0) days t k),QeG (QeW s (QaG load 0) days t k)):=by
 have ht':=ht;simp only [Qb7,Qhl,YB,decide_eq_true_iff,List.all_eq_true,QaU] at ht';have hgp:=Qaw hs;have hlen:(QdH days t.gaps).length=days.toNat:=by unfold QdH;rw [QjK,List.length_replicate]
 have hu:Qqx t k 1000=t.uses.getD k.toNat default:=by
  have hnn:0<=t.uses.getD k.toNat default:=by
   by_cases hk:k.toNat < t.uses.length
   ·have hus:=QbN ht'.1;have h1:=hus.2 k.toNat (by omega) (by omega);have h2:=(Qai hs).2.2.2 _ (QaH (l:=s.use) (i:=(k.toNat:Int)) (by omega) (by omega));rw [Int.toNat_natCast] at h1 h2;omega
   ·rw [List.getD_eq_getElem?_getD,List.getElem?_eq_none (by omega)];exact Int.le_refl _
  unfold Qqx;rw [Int.tdiv_eq_ediv_of_nonneg (by omega)];omega
 have hk:=QyS (use:=Qqx t k 1000) (br:=QkJ t k load) (comes:=Qc5 t) (QdH days t.gaps) 0 (s.stock.getD k.toNat default) (-1) (Int.le_refl 0) (fun j hj=> by
  have:=QvI (days:=days) (d:=(j:Int)) (gaps:=t.gaps) (fun g hg=> by have:=ht'.2.1.2.1 g hg;omega) (by omega) (by omega);rw [Int.zero_add,<-Int.toNat_natCast j,this];rfl)
 rw [hlen,show (0:Int)+(days.toNat:Int)=days by omega] at hk;rw [hk,hu,<-QvV hs hl];have hor:=Qjn (use:=t.uses.getD k.toNat default) (br:=Qjx (QaG load 0) t.goods k) (QdH days t.gaps) 0 (s.stock.getD k.toNat default) (Int.le_refl 0);unfold Qay QeG QeW;simp only;congr 1;split <;> omega
theorem Q4T {s:Qaa} {load days k:Int} {t:Qao} (h0:0<=k) (h1:k < s.stock.length):(Qbb s load days t).getD k.toNat default=QeW s load days t k:=by
 have hk:k.toNat < (upI 0 (s.stock.length:Int)).length:=by rw [QbI];omega
 have e:=Qh9 h0 h1;rw [List.getD_eq_getElem?_getD,List.getElem?_eq_getElem hk] at e;unfold Qbb;rw [List.getD_eq_getElem?_getD,List.getElem?_map,List.getElem?_eq_getElem hk];simp only [Option.map_some,Option.getD_some] at e ⊢;rw [e]
theorem Qfd {s:Qaa} {load days:Int} {t:Qao}:(Qbb s load days t).length=s.stock.length:=by simp [Qbb,QbI]
theorem Qfz {s:Qaa} {load days k:Int} {t:Qao} {f:Gd->Int} (h0:0<=k) (h1:k < s.stock.length):((Qbb s load days t).map f).getD k.toNat default=f (QeW s load days t k):=by
 have hk:k.toNat < (Qbb s load days t).length:=by rw [Qfd];omega
 have e:=Q4T (s:=s) (load:=load) (days:=days) (t:=t) h0 h1;rw [List.getD_eq_getElem?_getD,List.getElem?_eq_getElem hk] at e;rw [List.getD_eq_getElem?_getD,List.getElem?_map,List.getElem?_eq_getElem hk];simp only [Option.map_some,Option.getD_some] at e ⊢;rw [e]
end Go.Proofs.YtiabgkiccaodmaaGreat

namespace Go.Proofs.YtiabgkiccaodmaaGreat
open Go Go.CE Go.RowKit
noncomputable section
set_option maxRecDepth 100000
theorem QjM (s:Qaa) (hb:∀l∈s.lots,l.goods.length<=8):Qaq YP J0 44 #[.agg (Qah s).toArray] (.bool (Qa3 s)):=by
 have h:=Q5q s hb;rw [Qxx] at h;exact h
theorem Q34 (s:Qaa) (load:List Int) (hs:Qa3 s=true) (hl:load.length<=10):Qaq YP J0 56 #[.agg (Qah s).toArray,slI load] (.bool (Qck s load)):=by
 have h:=Q6Z s load hs hl;rw [Q4u hs] at h;exact h
def QhA (s:Qaa):Array Value:=#[slT s.stock.length (Qac Qal s.stock),slT s.use.length (Qac Qa7 s.use),.int .i64 s.glo,.int .i64 s.ghi,slT s.lots.length (Qac Qap s.lots),.int .i64 s.hold]
def Qkj (B:Lo) (s:Qaa) (load:List Int) (days:Int):List Prop:=[QaA []/\Qaq YP J0 44 #[.agg (QhA s)] (.bool true)]++([]:List Prop)
def QnW (s:Qaa) (load:List Int) (days:Int):Qaz:=[(3,Qaf.pure (.bool true) [])]
def QjU (B:Lo) (s:Qaa) (load:List Int) (days:Int):List Prop:=[QaA []/\Qaq YP J0 56 #[.agg (QhA s),slT load.length (Qac Qal load)] (.bool true)]++Qkj B s load days
def Qoi (s:Qaa) (load:List Int) (days:Int):Qaz:=QnW s load days++[(7,Qaf.pure (.bool true) [])]
theorem Qwr (B:Lo) (s:Qaa) (load:List Int) (days:Int):QaY (Qam YP (Qa1 YP) J0 B 6 1 (Qaj YP 39 18 (([.agg (Qah s).toArray,slI load,.int .i64 days]).map (Qat 0 4))) H00 1
 (Qoi s load days++[(11,Qaf.pure (.bool true) [])]) 0 [] []) []=some (.bool true,
 [QaA []/\Qaq YP J0 52 #[.int .i64 days] (.bool true)]++QjU B s load days):=by kernel_rfl
theorem Qwi (B:Lo) (s:Qaa) (load:List Int) (days:Int):QaY (Qam YP (Qa1 YP) J0 B 6 1 (Qaj YP 39 18 (([.agg (Qah s).toArray,slI load,.int .i64 days]).map (Qat 0 4))) H00 1
 (Qoi s load days++[(11,Qaf.pure (.bool false) [])]) 0 [] []) []=some (.bool false,
 [QaA []/\Qaq YP J0 52 #[.int .i64 days] (.bool false)]++QjU B s load days):=by kernel_rfl
theorem Qwd (B:Lo) (s:Qaa) (load:List Int) (days:Int):QaY (Qam YP (Qa1 YP) J0 B 6 1 (Qaj YP 39 18 (([.agg (Qah s).toArray,slI load,.int .i64 days]).map (Qat 0 4))) H00 1
 (QnW s load days++[(7,Qaf.pure (.bool false) [])]) 0 [] []) []=some (.bool false,
 [QaA []/\Qaq YP J0 56 #[.agg (QhA s),slT load.length (Qac Qal load)] (.bool false)]++Qkj B s load days):=by kernel_rfl
theorem Qwn (B:Lo) (s:Qaa) (load:List Int) (days:Int):QaY (Qam YP (Qa1 YP) J0 B 6 1 (Qaj YP 39 18 (([.agg (Qah s).toArray,slI load,.int .i64 days]).map (Qat 0 4))) H00 1
 [(3,Qaf.pure (.bool false) [])] 0 [] []) []=some (.bool false,
 [QaA []/\Qaq YP J0 44 #[.agg (QhA s)] (.bool false)]):=by kernel_rfl
set_option maxHeartbeats 4000000 in
theorem QzF (s:Qaa) (load:List Int) (days:Int) (hb:∀l∈s.lots,l.goods.length<=8) (hl:load.length<=10) {B:Lo} (hJ:∀w,B.has w->J0 w):EndsT YP B (Qaj YP 39 18 (([.agg (Qah s).toArray,slI load,.int .i64 days]).map (Qat 0 4))) (.bool (Qa3 s && (Qck s load && inB days 0 300))):=by
 cases q0:Qa3 s with
 | true=>
   have hp0:QaA (Qkj B s load days):=by
    exact ⟨⟨trivial,(by have t_:=QjM (s) (by with_reducible assumption);rw [q0] at t_;exact t_)⟩,trivial⟩
   cases q1:Qck s load with
   | true=>
     have hp1:QaA (QjU B s load days):=by
      exact ⟨⟨trivial,(by have t_:=Q34 (s) (load) (by with_reducible assumption) (by with_reducible assumption);rw [q1] at t_;exact t_)⟩,hp0⟩
     cases q2:inB days 0 300 with
     | true=>
       exact (GoE.endsT okF hJ Qab GoE.start (Qwr B s load days)
        ⟨⟨trivial,(by have t_:=Q6s (days);rw [q2] at t_;exact t_)⟩,hp1⟩).cast (by rfl)
     | false=>
       exact (GoE.endsT okF hJ Qab GoE.start (Qwi B s load days)
        ⟨⟨trivial,(by have t_:=Q6s (days);rw [q2] at t_;exact t_)⟩,hp1⟩).cast (by rfl)
   | false=>
     exact (GoE.endsT okF hJ Qab GoE.start (Qwd B s load days)
      ⟨⟨trivial,(by have t_:=Q34 (s) (load) (by with_reducible assumption) (by with_reducible assumption);rw [q1] at t_;exact t_)⟩,hp0⟩).cast (by rfl)
 | false=>
   exact (GoE.endsT okF hJ Qab GoE.start (Qwn B s load days)
    ⟨⟨trivial,(by have t_:=QjM (s) (by with_reducible assumption);rw [q0] at t_;exact t_)⟩,trivial⟩).cast (by rfl)
theorem Qhm (s:Qaa) (load:List Int) (days:Int) (hb:∀l∈s.lots,l.goods.length<=8) (hl:load.length<=10):Qaq YP J0 39 #[.agg (Qah s).toArray,slI load,.int .i64 days] (.bool (Qa3 s && (Qck s load && inB days 0 300))):=
 QaE (ts:=[.agg (Qah s).toArray,slI load,.int .i64 days]) Qbw (c0:=Qaj YP 39 18 (([.agg (Qah s).toArray,slI load,.int .i64 days]).map (Qat 0 4))) (by kernel_rfl) (by kernel_rfl) fun B hJ=> QzF s load days hb hl hJ
def QcH (s:Qaa):Bool:=((s.lots.take 12).all fun l=> decide (l.goods.length<=8)) && (decide (s.stock.length<=8) && (decide (s.use.length<=8) && decide (s.lots.length<=9)))
theorem QaV {s:Qaa} (h:QcH s=true):∀l∈s.lots,l.goods.length<=8:=by
 simp only [QcH,YB,decide_eq_true_iff,List.all_eq_true] at h;intro l hl;refine h.1 l ?_;rw [List.take_of_length_le (by omega)];exact hl
theorem Qpx (s:Qaa):Qaq YP J0 36 #[.agg (Qah s).toArray] (.bool (QcH s)):=Q50 s
end
end Go.Proofs.YtiabgkiccaodmaaGreat

namespace Go.Proofs.YtiabgkiccaodmaaGreat
open Go Go.CE Go.RowKit
def Q5Z:Sh:=shS [.slice Quu,.int,.int]
def QmN:Sh:=shS [.slice .int,.slice Quu,Quu,.slice Q5Z,.int]
theorem Q4F {cs:List Value} (h:Q5Z.ok cs):∃l:Qad,cs=Qap l:=by
 obtain ⟨_,_,rfl,h1,_,_,rfl,⟨a,_,rfl⟩,_,_,rfl,⟨b,_,rfl⟩,rfl⟩:=h;obtain ⟨ss,rfl⟩:=Qjw (fun _=> Qph) h1;exact ⟨⟨ss,a,b⟩,rfl⟩
theorem Qxq {v:Value} (h:QmN.arg v):∃s:Qaa,v=.agg (Qah s).toArray:=by
 obtain ⟨cs,rfl,h⟩:=h;obtain ⟨_,_,rfl,h1,_,_,rfl,h2,_,_,rfl,h3,_,_,rfl,h4,_,_,rfl,⟨f,_,rfl⟩,rfl⟩:=h;obtain ⟨xs,rfl⟩:=Qjw (fun _=> Q3K) h1;obtain ⟨us,rfl⟩:=Qjw (fun _=> Qph) h2;obtain ⟨g,rfl⟩:=Qph h3;obtain ⟨ls,rfl⟩:=Qjw (fun _=> Q4F) h4;exact ⟨⟨xs,us,g.lo,g.hi,ls,f⟩,rfl⟩
theorem Q14 {v:Value} (h:Sh.arg (.slice .int) v):∃xs:List Int,v=slI xs:=by
 obtain ⟨xs,hx⟩:=Qjw (fun _=> Q3K) (show Sh.ok (.slice .int) [v] from h);exact ⟨xs,by simpa using hx⟩
end Go.Proofs.YtiabgkiccaodmaaGreat

namespace Go.Proofs.YtiabgkiccaodmaaGreat
open Go Go.CE Go.RowKit
noncomputable section
set_option maxRecDepth 100000
def Qgi (xs:List Span) (i:Int) (ys:List Int):List Value:=[Value.func (Fn.func 103) #[] #[],.slice (some {block:=2,off:=0}) xs.length 1,Qa4 1 (slT xs.length (Qac Qa7 xs)),.int .i64 (↑xs.length:Int),.int .i64 i]
def QdC (xs:List Span) (i:Int) (ys:List Int):List Obj:=[.cells (Qac Qal ys) 3 (0,0)]
def Qgn:List Item:=([.code [1,1,0,1,0,0],.inLoop [1,1,0,1,0,0],.inBlock 0,.code [1,1,1]]).map (it (Qar YP 160))
def Qvf (B:Lo) (c0:CF) (xs:List Span) (i:Int) (ys:List Int):Prop:=∃dJ:Nat->Value,(∀t,Qbc (dJ t))/\GoE YP B c0 H00 1 (Qa9 160 26 (([1,5,11,12,13]:List Nat).zip (Qgi xs i ys)) dJ Qgn) (Qa5 (QdC xs i ys)) (2+(QdC xs i ys).length) []
def QjE (xs:List Span) (i:Int):Array Value:=#[.int .i64 (Span.lo (xs.getD i.toNat default)),.int .i64 (Span.hi (xs.getD i.toNat default))]
theorem QvW (B:Lo) (xs:List Span) (i:Int) (ys:List Int) (dJ0:Nat->Value):landM (Qam YP (Qa1 YP) J0 B 13 1 (Qa9 160 26 (([1,5,11,12,13]:List Nat).zip (Qgi xs i ys)) dJ0 Qgn) (Qa5 (QdC xs i ys)) (2+(QdC xs i ys).length)
 [(0,hvT),(2,Qaf.tidx i.toNat (QjE xs i)),(11,Qaf.pure (.int .i64 (Span.hi (xs.getD i.toNat default))) []),(12,Qaf.old (Hint.idx i.toNat)),(13,Qaf.old (Hint.st (Qac Qal (List.set ys i.toNat (Span.hi (xs.getD i.toNat default)))))),(14,hvI (i+1))] 0 [] []) [1,5,11,12,13] [(2,KS.cells [] (Qac Qal (List.set ys i.toNat (Span.hi (xs.getD i.toNat default)))))] []=some ⟨160,26,Qgn,[],.run,none,Qgi xs (i+1) (List.set ys i.toNat (Span.hi (xs.getD i.toNat default))),QdC xs (i+1) (List.set ys i.toNat (Span.hi (xs.getD i.toNat default))),
 [QaF 1 [] (Qac Qal (List.set ys i.toNat (Span.hi (xs.getD i.toNat default)))) (Qac Qal (List.set ys i.toNat (Span.hi (xs.getD i.toNat default)))),wq (i+1)=i+1,0+Int.toNat i * 1+TypeInfo.size Tryz.t3<=Array.size (Qac Qal ys)/\splice (Qac Qal ys) (0+Int.toNat i * 1) (Value.cells (Qcd {len:=16000,tr:=Tri.set 14 (Tri.set 14 Tri.lf 22 (.int .i64 (Span.hi (xs.getD i.toNat default)))) 23 (.pointer (some {block:=2,off:=0+Int.toNat i * 1}))} 22))=Qac Qal (List.set ys i.toNat (Span.hi (xs.getD i.toNat default))),i=(↑i.toNat:Int)/\Int.toNat i < List.length xs,QaA []/\Qaq YP J0 103 #[.agg (QjE xs i)] (.int .i64 (Span.hi (xs.getD i.toNat default))),i=(↑i.toNat:Int)/\Int.toNat i < List.length xs/\Array.extract (Qac Qa7 xs) (Int.toNat i * TypeInfo.size Tryz.t25) (Int.toNat i * TypeInfo.size Tryz.t25+TypeInfo.size Tryz.t25)=(QjE xs i),ltq i (↑xs.length:Int)=true]⟩:=by kernel_rfl
theorem Qv8 (B:Lo) (xs:List Span) (i:Int) (ys:List Int) (dJ0:Nat->Value):QaY (Qam YP (Qa1 YP) J0 B 9 1 (Qa9 160 26 (([1,5,11,12,13]:List Nat).zip (Qgi xs i ys)) dJ0 Qgn) (Qa5 (QdC xs i ys)) (2+(QdC xs i ys).length)
 [(0,hvF)] 0 [] []) [{k:=2,rs:=[],cs:=Qac Qal ys}]=some (slT xs.length (Fz.cs {k:=2,rs:=[],cs:=Qac Qal ys}),
 [Qbj (Fz.rs {k:=2,rs:=[],cs:=Qac Qal ys}) (Qac Qal ys) (Fz.cs {k:=2,rs:=[],cs:=Qac Qal ys}),ltq i (↑xs.length:Int)=false]):=by kernel_rfl
theorem QvA (B:Lo) (xs:List Span):landM (Qam YP (Qa1 YP) J0 B 9 1 (Qaj YP 160 26 (([Qnl xs,.func (.func 103) #[] #[]]).map (Qat 0 4))) H00 1
 [(3,Qaf.old (Hint.mk xs.length (Qac (QbD [.int .i64 0]) (List.replicate xs.length ()))))] 0 [] []) [1,5,11,12,13] [(1,KS.rows [] [] (Qac Qal (List.replicate xs.length 0)))] []=some ⟨160,26,Qgn,[],.run,none,Qgi xs (0) (List.replicate xs.length 0),QdC xs (0) (List.replicate xs.length 0),
 [QaX 1 [] [] (Qac (QbD [.int .i64 0]) (List.replicate xs.length ())) (Qac Qal (List.replicate xs.length 0)),QfK YP 22 (Qcd {len:=16000,tr:=Tri.set 14 Tri.lf 9 (.int .i64 (↑xs.length:Int))} 9) (Qcd {len:=16000,tr:=Tri.set 14 Tri.lf 9 (.int .i64 (↑xs.length:Int))} 9)=some (3,Qac (QbD [.int .i64 0]) (List.replicate xs.length ()),List.length xs,TypeInfo.size Tryz.t3)]⟩:=by kernel_rfl
set_option maxHeartbeats 4000000 in
theorem Qwb (xs:List Span) (hn:xs.length<=1000000) {B:Lo} (hJ:∀w,B.has w->J0 w) {c0:CF}:∀m:Nat,(∀(i:Int) (ys:List Int),(xs.length - i.toNat)=m->∀(h0:0<=i) (hy:ys=Qg1 Span.hi 0 xs i),Qvf B c0 xs i ys->EndsT YP B c0 (slI (xs.map Span.hi))):=by
 intro m0;induction m0 using Nat.strongRecOn with
 | _ m0 ih0=>
   intro i ys hm0 h0 hy ⟨dJ0,hdJ0,hg0⟩;have hyl:ys.length=xs.length:=by rw [hy];exact Qdz
   by_cases q0:(i:Int) < ((↑xs.length:Int))
   ·exact ((ih0 _ (by omega)) (i+1) (List.set ys i.toNat (Span.hi (xs.getD i.toNat default))) rfl (by omega) (by (subst hy;exact Qd0 (f:=Span.hi) h0 q0))
     (hg0.landM okF hJ Qab (QvW B xs i ys dJ0)
     ⟨(Qan (Qas (fun x=> List.all_eq_true.1 (by rfl)))),⟨(QaL (by omega) (by omega)),⟨(by exact Qf0 (z:=1) (fun _=> rfl) (by omega) rfl rfl),⟨⟨by omega,by omega⟩,⟨⟨trivial,Q5P (Span.lo (xs.getD i.toNat default)) (Span.hi (xs.getD i.toNat default))⟩,⟨⟨by omega,by omega,(Qae (z:=2) (fun _=> rfl) (by omega))⟩,⟨(QaW q0),trivial⟩⟩⟩⟩⟩⟩⟩ (by kernel_rfl) (by kernel_rfl))).cast (by rfl)
   ·exact (GoE.endsT okF hJ Qab hg0 (Qv8 B xs i ys dJ0)
     ⟨(QaD (fun x=> List.all_eq_true.1 (by rfl))),⟨(Qbh (Int.not_lt.1 q0)),trivial⟩⟩).cast (by exact Qfn (hy.trans (Qdp (by omega))) (by simp))
set_option maxHeartbeats 4000000 in
theorem Qz7 (xs:List Span) (hn:xs.length<=1000000) {B:Lo} (hJ:∀w,B.has w->J0 w):EndsT YP B (Qaj YP 160 26 (([Qnl xs,.func (.func 103) #[] #[]]).map (Qat 0 4))) (slI (xs.map Span.hi)):=by
 exact ((Qwb xs hn hJ _) (0) (List.replicate xs.length 0) rfl (by omega) (by exact QfE)
  (GoE.start.landM okF hJ Qab (QvA B xs)
  ⟨(by exact (QbJ (by exact ⟨(.simple rfl),trivial⟩) _)),⟨(QfS (bytes:=8) (by kernel_rfl) (by omega) (by omega) (by omega)),trivial⟩⟩ (by kernel_rfl) (by kernel_rfl))).cast (by rfl)
theorem QzS (xs:List Span) (hn:xs.length<=1000000):Qaq YP J0 160 #[Qnl xs,.func (.func 103) #[] #[]] (slI (xs.map Span.hi)):=
 QaE (ts:=[Qnl xs,.func (.func 103) #[] #[]]) Qbw (c0:=Qaj YP 160 26 (([Qnl xs,.func (.func 103) #[] #[]]).map (Qat 0 4))) (by kernel_rfl) (by kernel_rfl) fun B hJ=> Qz7 xs hn hJ
def Qgc (xs:List Span) (i:Int) (ys:List Int):List Value:=[Value.func (Fn.func 104) #[] #[],.slice (some {block:=2,off:=0}) xs.length 1,Qa4 1 (slT xs.length (Qac Qa7 xs)),.int .i64 (↑xs.length:Int),.int .i64 i]
def QdG (xs:List Span) (i:Int) (ys:List Int):List Obj:=[.cells (Qac Qal ys) 3 (0,0)]
def Qgb:List Item:=([.code [1,1,0,1,0,0],.inLoop [1,1,0,1,0,0],.inBlock 0,.code [1,1,1]]).map (it (Qar YP 160))
def Qw6 (B:Lo) (c0:CF) (xs:List Span) (i:Int) (ys:List Int):Prop:=∃dJ:Nat->Value,(∀t,Qbc (dJ t))/\GoE YP B c0 H00 1 (Qa9 160 26 (([1,5,11,12,13]:List Nat).zip (Qgc xs i ys)) dJ Qgb) (Qa5 (QdG xs i ys)) (2+(QdG xs i ys).length) []
def QjS (xs:List Span) (i:Int):Array Value:=#[.int .i64 (Span.lo (xs.getD i.toNat default)),.int .i64 (Span.hi (xs.getD i.toNat default))]
theorem Qv4 (B:Lo) (xs:List Span) (i:Int) (ys:List Int) (dJ0:Nat->Value):landM (Qam YP (Qa1 YP) J0 B 13 1 (Qa9 160 26 (([1,5,11,12,13]:List Nat).zip (Qgc xs i ys)) dJ0 Qgb) (Qa5 (QdG xs i ys)) (2+(QdG xs i ys).length)
 [(0,hvT),(2,Qaf.tidx i.toNat (QjS xs i)),(11,Qaf.pure (.int .i64 (Span.lo (xs.getD i.toNat default))) []),(12,Qaf.old (Hint.idx i.toNat)),(13,Qaf.old (Hint.st (Qac Qal (List.set ys i.toNat (Span.lo (xs.getD i.toNat default)))))),(14,hvI (i+1))] 0 [] []) [1,5,11,12,13] [(2,KS.cells [] (Qac Qal (List.set ys i.toNat (Span.lo (xs.getD i.toNat default)))))] []=some ⟨160,26,Qgb,[],.run,none,Qgc xs (i+1) (List.set ys i.toNat (Span.lo (xs.getD i.toNat default))),QdG xs (i+1) (List.set ys i.toNat (Span.lo (xs.getD i.toNat default))),
 [QaF 1 [] (Qac Qal (List.set ys i.toNat (Span.lo (xs.getD i.toNat default)))) (Qac Qal (List.set ys i.toNat (Span.lo (xs.getD i.toNat default)))),wq (i+1)=i+1,0+Int.toNat i * 1+TypeInfo.size Tryz.t3<=Array.size (Qac Qal ys)/\splice (Qac Qal ys) (0+Int.toNat i * 1) (Value.cells (Qcd {len:=16000,tr:=Tri.set 14 (Tri.set 14 Tri.lf 22 (.int .i64 (Span.lo (xs.getD i.toNat default)))) 23 (.pointer (some {block:=2,off:=0+Int.toNat i * 1}))} 22))=Qac Qal (List.set ys i.toNat (Span.lo (xs.getD i.toNat default))),i=(↑i.toNat:Int)/\Int.toNat i < List.length xs,QaA []/\Qaq YP J0 104 #[.agg (QjS xs i)] (.int .i64 (Span.lo (xs.getD i.toNat default))),i=(↑i.toNat:Int)/\Int.toNat i < List.length xs/\Array.extract (Qac Qa7 xs) (Int.toNat i * TypeInfo.size Tryz.t25) (Int.toNat i * TypeInfo.size Tryz.t25+TypeInfo.size Tryz.t25)=(QjS xs i),ltq i (↑xs.length:Int)=true]⟩:=by kernel_rfl
theorem QvX (B:Lo) (xs:List Span) (i:Int) (ys:List Int) (dJ0:Nat->Value):QaY (Qam YP (Qa1 YP) J0 B 9 1 (Qa9 160 26 (([1,5,11,12,13]:List Nat).zip (Qgc xs i ys)) dJ0 Qgb) (Qa5 (QdG xs i ys)) (2+(QdG xs i ys).length)
 [(0,hvF)] 0 [] []) [{k:=2,rs:=[],cs:=Qac Qal ys}]=some (slT xs.length (Fz.cs {k:=2,rs:=[],cs:=Qac Qal ys}),
 [Qbj (Fz.rs {k:=2,rs:=[],cs:=Qac Qal ys}) (Qac Qal ys) (Fz.cs {k:=2,rs:=[],cs:=Qac Qal ys}),ltq i (↑xs.length:Int)=false]):=by kernel_rfl
theorem Qvz (B:Lo) (xs:List Span):landM (Qam YP (Qa1 YP) J0 B 9 1 (Qaj YP 160 26 (([Qnl xs,.func (.func 104) #[] #[]]).map (Qat 0 4))) H00 1
 [(3,Qaf.old (Hint.mk xs.length (Qac (QbD [.int .i64 0]) (List.replicate xs.length ()))))] 0 [] []) [1,5,11,12,13] [(1,KS.rows [] [] (Qac Qal (List.replicate xs.length 0)))] []=some ⟨160,26,Qgb,[],.run,none,Qgc xs (0) (List.replicate xs.length 0),QdG xs (0) (List.replicate xs.length 0),
 [QaX 1 [] [] (Qac (QbD [.int .i64 0]) (List.replicate xs.length ())) (Qac Qal (List.replicate xs.length 0)),QfK YP 22 (Qcd {len:=16000,tr:=Tri.set 14 Tri.lf 9 (.int .i64 (↑xs.length:Int))} 9) (Qcd {len:=16000,tr:=Tri.set 14 Tri.lf 9 (.int .i64 (↑xs.length:Int))} 9)=some (3,Qac (QbD [.int .i64 0]) (List.replicate xs.length ()),List.length xs,TypeInfo.size Tryz.t3)]⟩:=by kernel_rfl
set_option maxHeartbeats 4000000 in
theorem QuP (xs:List Span) (hn:xs.length<=1000000) {B:Lo} (hJ:∀w,B.has w->J0 w) {c0:CF}:∀m:Nat,(∀(i:Int) (ys:List Int),(xs.length - i.toNat)=m->∀(h0:0<=i) (hy:ys=Qg1 Span.lo 0 xs i),Qw6 B c0 xs i ys->EndsT YP B c0 (slI (xs.map Span.lo))):=by
 intro m0;induction m0 using Nat.strongRecOn with
 | _ m0 ih0=>
   intro i ys hm0 h0 hy ⟨dJ0,hdJ0,hg0⟩;have hyl:ys.length=xs.length:=by rw [hy];exact Qdz
   by_cases q0:(i:Int) < ((↑xs.length:Int))
   ·exact ((ih0 _ (by omega)) (i+1) (List.set ys i.toNat (Span.lo (xs.getD i.toNat default))) rfl (by omega) (by (subst hy;exact Qd0 (f:=Span.lo) h0 q0))
     (hg0.landM okF hJ Qab (Qv4 B xs i ys dJ0)
     ⟨(Qan (Qas (fun x=> List.all_eq_true.1 (by rfl)))),⟨(QaL (by omega) (by omega)),⟨(by exact Qf0 (z:=1) (fun _=> rfl) (by omega) rfl rfl),⟨⟨by omega,by omega⟩,⟨⟨trivial,Q7k (Span.lo (xs.getD i.toNat default)) (Span.hi (xs.getD i.toNat default))⟩,⟨⟨by omega,by omega,(Qae (z:=2) (fun _=> rfl) (by omega))⟩,⟨(QaW q0),trivial⟩⟩⟩⟩⟩⟩⟩ (by kernel_rfl) (by kernel_rfl))).cast (by rfl)
   ·exact (GoE.endsT okF hJ Qab hg0 (QvX B xs i ys dJ0)
     ⟨(QaD (fun x=> List.all_eq_true.1 (by rfl))),⟨(Qbh (Int.not_lt.1 q0)),trivial⟩⟩).cast (by exact Qfn (hy.trans (Qdp (by omega))) (by simp))
set_option maxHeartbeats 4000000 in
theorem QzG (xs:List Span) (hn:xs.length<=1000000) {B:Lo} (hJ:∀w,B.has w->J0 w):EndsT YP B (Qaj YP 160 26 (([Qnl xs,.func (.func 104) #[] #[]]).map (Qat 0 4))) (slI (xs.map Span.lo)):=by
 exact ((QuP xs hn hJ _) (0) (List.replicate xs.length 0) rfl (by omega) (by exact QfE)
  (GoE.start.landM okF hJ Qab (Qvz B xs)
  ⟨(by exact (QbJ (by exact ⟨(.simple rfl),trivial⟩) _)),⟨(QfS (bytes:=8) (by kernel_rfl) (by omega) (by omega) (by omega)),trivial⟩⟩ (by kernel_rfl) (by kernel_rfl))).cast (by rfl)
theorem Qx4 (xs:List Span) (hn:xs.length<=1000000):Qaq YP J0 160 #[Qnl xs,.func (.func 104) #[] #[]] (slI (xs.map Span.lo)):=
 QaE (ts:=[Qnl xs,.func (.func 104) #[] #[]]) Qbw (c0:=Qaj YP 160 26 (([Qnl xs,.func (.func 104) #[] #[]]).map (Qat 0 4))) (by kernel_rfl) (by kernel_rfl) fun B hJ=> QzG xs hn hJ
theorem QwB (B:Lo) (n d:Int):QaY (Qam YP (Qa1 YP) J0 B 6 1 (Qaj YP 132 11 (([.int .i64 n,.int .i64 d]).map (Qat 0 4))) H00 1
 [(3,hvI (n+d)),(4,hvI (n+d - 1)),(6,Qaf.bin (.int .i64 (Int.tdiv (n+d - 1) d)))] 0 [] []) []=some (.int .i64 (Int.tdiv (n+d - 1) d),
 [Qm1 YP BinOp.quo 3 (Qcd {len:=16000,tr:=Tri.set 14 (Tri.set 14 Tri.lf 9 (.int .i64 d)) 8 (.int .i64 (n+d - 1))} 8) (Qcd {len:=16000,tr:=Tri.set 14 (Tri.set 14 Tri.lf 9 (.int .i64 d)) 8 (.int .i64 (n+d - 1))} 9) (.int .i64 (Int.tdiv (n+d - 1) d)),wq (n+d - 1)=n+d - 1,wq (n+d)=n+d]):=by kernel_rfl
set_option maxHeartbeats 4000000 in
theorem Q0j (n d:Int) (hn:0<=n/\n<=2000000) (hd:1<=d/\d<=1000) {B:Lo} (hJ:∀w,B.has w->J0 w):EndsT YP B (Qaj YP 132 11 (([.int .i64 n,.int .i64 d]).map (Qat 0 4))) (.int .i64 ((n+d - 1).tdiv d)):=by
 have e1:(n+d - 1).tdiv d=(n+d - 1) / d:=Int.tdiv_eq_ediv_of_nonneg (by omega);have e2:(n+d - 1) / d<=n+d - 1:=Int.ediv_le_self _ (by omega);have e3:0<=(n+d - 1) / d:=Int.ediv_nonneg (by omega) (by omega);exact (GoE.endsT okF hJ Qab GoE.start (QwB B n d)
  ⟨(Q4D (by omega) rfl (by omega) (by omega)),⟨(QaL (by omega) (by omega)),⟨(QaL (by omega) (by omega)),trivial⟩⟩⟩).cast (by rfl)
theorem QzK (n d:Int) (hn:0<=n/\n<=2000000) (hd:1<=d/\d<=1000):Qaq YP J0 132 #[.int .i64 n,.int .i64 d] (.int .i64 ((n+d - 1).tdiv d)):=
 QaE (ts:=[.int .i64 n,.int .i64 d]) Qbw (c0:=Qaj YP 132 11 (([.int .i64 n,.int .i64 d]).map (Qat 0 4))) (by kernel_rfl) (by kernel_rfl) fun B hJ=> Q0j n d hn hd hJ
end
end Go.Proofs.YtiabgkiccaodmaaGreat

namespace Go.CE
open Go Go.RowKit

section
variable {P:Program} {F:FuncId->Bool} {T:Tm} {o:Oper} {H:Qax} {n:Nat}
theorem QnZ {t e:TypeId} {x lo:Operand} {b off m s z:Nat} {k:IntKind} {l:Int} (ho:o.op=.slice t x (some lo) none none) (hx:evC T x=some (.slice (some ⟨b,off,none⟩) m s)) (hl:evC T lo=some (.int k l)) (hu:und P t=some (.slice e)) (hz:QfD P e=some (z+1)) (h1:0 < l) (h2:l < m):
 opS P F Qb4 (fun _ _ _=> none) T o H n=some ⟨.ret (.slice (some ⟨b,off+l.toNat * (z+1),none⟩) (m - l.toNat) 0),H,n,[],[]⟩:=by
 have e1:Q05 m (some (.int k l)) none=some (l.toNat,m):=by
  simp only [Q05,bnd,decide_eq_true (show (0:Int)<=l by omega),decide_eq_true (show l<=(m:Int) by omega),Bool.and_self,cond_true]
 have e2:Nat.beq l.toNat 0=false:=by cases h:Nat.beq l.toNat 0 with
  | false=> rfl
  | true=> have:=YE h;omega
 have e3:Nat.blt l.toNat m=true:=Nat.ble_eq_true_of_le (show l.toNat+1<=m by omega);have e4:QhT P t (.slice (some ⟨b,off,none⟩) m s) (some (.int k l)) none=some (.slice (some ⟨b,off+l.toNat * (z+1),none⟩) (m - l.toNat) 0):=by
  simp only [QhT,hu,hz,e1,e2,e3,cond_true,cond_false]
 have e5:Ql7 P F (evC T) o H n=some ⟨.val (.slice (some ⟨b,off+l.toNat * (z+1),none⟩) (m - l.toNat) 0),H,n,[],[]⟩:=by
  unfold Ql7 cop;simp only [ho,hx,evo,hl,e4,mkPure,Option.map_some,List.all_nil,cond_true]
 unfold opS;simp only [ho,e5]
theorem QnY {t e:TypeId} {x hi:Operand} {b off m s z:Nat} {k:IntKind} {l:Int} (ho:o.op=.slice t x none (some hi) none) (hx:evC T x=some (.slice (some ⟨b,off,none⟩) m s)) (hl:evC T hi=some (.int k l)) (hu:und P t=some (.slice e)) (hz:QfD P e=some (z+1)) (h1:0<=l) (h2:l<=m):
 opS P F Qb4 (fun _ _ _=> none) T o H n=some ⟨.ret (.slice (some ⟨b,off,none⟩) l.toNat s),H,n,[],[]⟩:=by
 have e1:Q05 m none (some (.int k l))=some (0,l.toNat):=by
  simp only [Q05,bnd,decide_eq_true h1,decide_eq_true h2,Bool.and_self,cond_true]
 have e4:QhT P t (.slice (some ⟨b,off,none⟩) m s) none (some (.int k l))=some (.slice (some ⟨b,off,none⟩) l.toNat s):=by
  simp only [QhT,hu,hz,e1,show Nat.beq 0 0=true from rfl,cond_true]
 have e5:Ql7 P F (evC T) o H n=some ⟨.val (.slice (some ⟨b,off,none⟩) l.toNat s),H,n,[],[]⟩:=by
  unfold Ql7 cop;simp only [ho,hx,evo,hl,e4,mkPure,Option.map_some,List.all_nil,cond_true]
 unfold opS;simp only [ho,e5]
theorem Qpq {c:Call} {s x:Operand} {t t2 e te:TypeId} {b off k s1 b2 off2 m s2 z q:Nat} {cs cs2 cs':Array Value} {te2:TypeId} {f2:Nat×Nat} {H':Qax} (ho:o.op=.call c) (hc:c.callee=.builtin .copy) (ha:c.args.toList=[s,x]) (hat:c.argTypes.toList=[t,t2])
 (hs:evC T s=some (.slice (some ⟨b,off,none⟩) k s1)) (hx:evC T x=some (.slice (some ⟨b2,off2,none⟩) m s2)) (hu:und P t=some (.slice e)) (hz:QfD P e=some z) (hb:Qa2 H b=some (.cells cs te (0,0))) (hb2:Qa2 H b2=some (.cells cs2 te2 f2)) (hn:b < n) (hn2:b2 < n)
 (hH:QgC H b (.cells cs' te (0,0))=H') (hq:q=Nat.min m k) (hf:off+q * z<=cs.size/\off2+q * z<=cs2.size/\ones (cs2.extract off2 (off2+q * z))=true/\splice cs off (cs2.extract off2 (off2+q * z))=cs'):
 opS P F Qb4 (fun _ _ _=> none) T o H n=some ⟨.ret (.int .i64 q),H',n,[b,b2],[b]⟩:=by
 obtain ⟨h1,h2,h3,h4⟩:=hf;subst hq hH h4;have e4:Qtq P t H n (.slice (some ⟨b,off,none⟩) k s1) (.slice (some ⟨b2,off2,none⟩) m s2)=some ⟨.val (.int .i64 (Nat.min m k)),QgC H b (.cells (splice cs off (cs2.extract off2 (off2+Nat.min m k * z))) te (0,0)),n,[b,b2],[b]⟩:=by
  simp only [Qtq,hu,hz,hb,hb2,h3,show Nat.ble (off+Nat.min m k * z) cs.size=true from Nat.ble_eq_true_of_le h1,show Nat.ble (off2+Nat.min m k * z) cs2.size=true from Nat.ble_eq_true_of_le h2,Bool.and_self,cond_true]
 have e5:Ql7 P F (evC T) o H n=some ⟨.val (.int .i64 (Nat.min m k)),QgC H b (.cells (splice cs off (cs2.extract off2 (off2+Nat.min m k * z))) te (0,0)),n,[b,b2],[b]⟩:=by
  unfold Ql7 cop;simp only [ho,hc,ha,hat,hs,hx,e4,List.all_cons,List.all_nil,show Nat.blt b n=true from Nat.ble_eq_true_of_le hn,show Nat.blt b2 n=true from Nat.ble_eq_true_of_le hn2,Bool.and_self,cond_true]
 unfold opS;simp only [ho,e5]
end
section
variable {P:Program} {F:FuncId->Bool} {T:Tm} {o:Oper} {H:Qax} {n:Nat}
end
theorem Q0c {α:Type} {e:α->List Value} (h:∀x,(e x).all (·.oneCell')=true) (zs:List α) (i j:Nat):ones ((Qac e zs).extract i j)=true:=by
 unfold ones;rw [Array.all_eq_true'];intro v hv;have hv':v∈(Qac e zs).toList:=by
  have:=Array.mem_def.1 hv;rw [Array.toList_extract,List.extract_eq_take_drop] at this;exact List.mem_of_mem_drop (List.mem_of_mem_take this)
 simp only [Qac,List.mem_flatMap] at hv';obtain ⟨x,_,hx⟩:=hv';exact List.all_eq_true.1 (h x) v hx
def Qkk {α:Type} (ys:List α) (a:Nat) (zs:List α):List α:=ys.take a++zs++ys.drop (a+zs.length)
theorem QqQ {α:Type} {e:α->List Value} {z:Nat} (h:∀x,(e x).length=z):∀(zs:List α) (c:Nat),(zs.flatMap e).drop (c * z)=(zs.drop c).flatMap e:=by
 intro zs;induction zs with
 | nil=> intro c;simp
 | cons x zs ih=>
   intro c;cases c with
   | zero=> simp
   | succ c=>
     rw [List.flatMap_cons,List.drop_succ_cons,<-ih c,Nat.succ_mul,Nat.add_comm,List.drop_append];rw [List.drop_eq_nil_of_le (by rw [h];omega),List.nil_append,h];congr 1;omega
theorem QpK {α:Type} {e:α->List Value} {z:Nat} (h:∀x,(e x).length=z):∀(zs:List α) (q:Nat),(zs.flatMap e).take (q * z)=(zs.take q).flatMap e:=by
 intro zs;induction zs with
 | nil=> intro q;simp
 | cons x zs ih=>
   intro q;cases q with
   | zero=> simp
   | succ q=>
     rw [List.flatMap_cons,List.take_succ_cons,List.flatMap_cons,<-ih q,Nat.succ_mul,Nat.add_comm,List.take_append];rw [List.take_of_length_le (by rw [h];omega),h];congr 2;omega
theorem Q1M {α:Type} {e:α->List Value} {z:Nat} (h:∀x,(e x).length=z) (zs:List α) (c q:Nat):(Qac e zs).extract (c * z) (c * z+q * z)=Qac e ((zs.drop c).take q):=by
 apply Array.toList_inj.1;simp only [Qac,Array.toList_extract,List.extract_eq_take_drop,QqQ h];rw [show c * z+q * z - c * z=q * z by omega,QpK h]
theorem QbS {α:Type} {e:α->List Value} {xs:List α} {x:α} {cs:Array Value} (h:cs=(e x).toArray):Qac e xs++cs=Qac e (xs++[x]):=by
 rw [h];exact Qcb
theorem Q3q {α:Type} {e:α->List Value} {z:Nat} (h:∀x,(e x).length=z) {ys zs:List α} {a:Nat}:splice (Qac e ys) (a * z) (Qac e zs)=Qac e (Qkk ys a zs):=by
 have hl:(zs.flatMap e).length=zs.length * z:=by
  have:=Qbf (e:=e) (xs:=zs) h;simpa [Qac] using this
 apply Array.toList_inj.1;simp only [splice,Qac,Qkk,List.flatMap_append,QpK h];rw [hl,<-Nat.add_mul,QqQ h]
theorem Qxs {α:Type} {e:α->List Value} {z:Nat} (h:∀x,(e x).length=z) (hs:∀x,(e x).all (·.oneCell')=true) {ys zs:List α} {a c q:Nat} (h1:a+q<=ys.length) (h2:c+q<=zs.length):
 a * z+q * z<=(Qac e ys).size/\c * z+q * z<=(Qac e zs).size/\ones ((Qac e zs).extract (c * z) (c * z+q * z))=true/\splice (Qac e ys) (a * z) ((Qac e zs).extract (c * z) (c * z+q * z))=Qac e (Qkk ys a ((zs.drop c).take q)):=by
 refine ⟨?_, ?_,Q0c hs _ _ _, ?_⟩
 ·rw [Qbf h,<-Nat.add_mul];exact Nat.mul_le_mul_right _ h1
 ·rw [Qbf h,<-Nat.add_mul];exact Nat.mul_le_mul_right _ h2
 ·rw [Q1M h,Q3q h]
theorem QjH {α:Type} {e:α->List Value} {z:Nat} (h:∀x,(e x).length=z) (hs:∀x,(e x).all (·.oneCell')=true) {ys zs:List α} {a c q:Nat} (h1:a+q<=ys.length) (h2:c+q<=zs.length):
 0+a * z+q * z<=(Qac e ys).size/\0+c * z+q * z<=(Qac e zs).size/\ones ((Qac e zs).extract (0+c * z) (0+c * z+q * z))=true/\splice (Qac e ys) (0+a * z) ((Qac e zs).extract (0+c * z) (0+c * z+q * z))=Qac e (Qkk ys a ((zs.drop c).take q)):=by
 simp only [Nat.zero_add];exact Qxs h hs h1 h2
def QgA {α:Type} (x x0:α) (n k:Nat):List α:=List.replicate k x++List.replicate (n - k) x0
theorem QtS {α:Type} {x x0:α} {n k:Nat} (h:k<=n):(QgA x x0 n k).length=n:=by simp [QgA];omega
theorem QtM {α:Type} {x x0:α} {n:Nat}:QgA x x0 n n=List.replicate n x:=by simp [QgA]
theorem QuB {α:Type} {x x0:α} {n k q:Nat} (h:k+q<=n) (hq:q<=k):Qkk (QgA x x0 n k) k (((QgA x x0 n k).drop 0).take q)=QgA x x0 n (k+q):=by
 have e1:(QgA x x0 n k).take k=List.replicate k x:=by simp [QgA]
 have e2:((QgA x x0 n k).drop 0).take q=List.replicate q x:=by
  simp [QgA,List.take_append,Nat.min_eq_left hq];omega
 have e3:(QgA x x0 n k).drop (k+q)=List.replicate (n - (k+q)) x0:=by
  simp [QgA,List.drop_append,Nat.sub_sub]
 rw [e2,Qkk,e1,List.length_replicate,e3,QgA,List.append_assoc,<-List.replicate_append_replicate,List.append_assoc]
theorem QvL {α:Type} {x x0:α} {n q:Nat} (hq:q=min 1 n):Qkk (List.replicate n x0) 0 (([x].drop 0).take q)=QgA x x0 n q:=by
 subst hq;cases n with
 | zero=> simp [Qkk,QgA]
 | succ n=> simp [Qkk,QgA,show min 1 (n+1)=1 by omega]
def cpE (vs zs:List Value):Bool->List Value
 | true=> vs
 | false=> zs
theorem QpR {vs zs:List Value} {z q k:Nat} (hv:vs.length=z) (hz:zs.length=z) (hv1:vs.all (·.oneCell')=true) (hz1:zs.all (·.oneCell')=true) (hq:q=min 1 k):
 0+q * z<=(Qac (QbD zs) (List.replicate k ())).size/\0+q * z<=vs.toArray.size/\ones (vs.toArray.extract 0 (0+q * z))=true/\splice (Qac (QbD zs) (List.replicate k ())) 0 (vs.toArray.extract 0 (0+q * z))=Qac (cpE vs zs) (QgA true false k q):=by
 have e1:Qac (QbD zs) (List.replicate k ())=Qac (cpE vs zs) (List.replicate k false):=by
  simp [Qac,QbD,cpE,List.flatMap_replicate]
 have e2:vs.toArray=Qac (cpE vs zs) [true]:=by simp [Qac,cpE]
 have h:∀x,(cpE vs zs x).length=z:=fun x=> by cases x <;> assumption
 have hs:∀x,(cpE vs zs x).all (·.oneCell')=true:=fun x=> by cases x <;> assumption
 have:=QjH h hs (ys:=List.replicate k false) (zs:=[true]) (a:=0) (c:=0) (q:=q) (by simp;omega) (by simp;omega);rw [QvL hq] at this;rw [e1,e2];simpa using this
theorem Qxb {α:Type} {e:α->List Value} {x:α} {zs:List Value} {n:Nat}:Qac (cpE (e x) zs) (List.replicate n true)=Qac e (List.replicate n x):=by
 simp [Qac,cpE,List.flatMap_replicate]
theorem Qxa {fm:Nat->Option Obj} {xs:Array Value} (h:xs.all simple=true):TRv fm (.tuple xs) (.tuple xs):=by
 refine .tuple rfl fun i v v' h1 h2=> ?_
 rw [h1] at h2;cases h2;exact .simple (Array.all_eq_true'.1 h v (Array.mem_of_getElem? h1))
theorem Qpt {P:Program} {F:FuncId->Bool} {J:World->Prop} (hF:∀g,F g=true->Qa1 P g=true) (hmix:P.follows .mixedOrders=true) {g:FuncId} {args:Array Value} {out:Value} {fuel:Nat} (hs:args.all simple=true) (ho:∀fm,TRv fm out out) (ho2:af out=true) (h:Qq4 (QmR P F Qb4 fuel g args (Qft 0 []) ([]:List (Array Value×TypeId)).length) out []=true):Qaq P J g args out:=fun fm w args' _ _ ha=> by
 have e:args'=args:=by
  refine Array.ext ha.1.symm fun i h1 h2=> ?_
  have k1:args[i]? =some args[i]:=by simp [h2]
  have k2:args'[i]? =some args'[i]:=by simp [h1]
  exact (ha.2 i _ _ k1 k2).simple_eq (Array.all_eq_true'.1 hs _ (Array.getElem_mem h2))
 subst e;have hc:=Qnm hF hmix (at':=[]) (args':=args') h (w:=w) (I:=fun _=> True) (hI:=fun _ _ _ _=> trivial) (QaP _ _) trivial rfl (fun i x a h=> by simp at h) ⟨rfl,fun i v v' h1 h2=> by rw [h1] at h2;cases h2;exact QbX (Array.all_eq_true'.1 hs v (Array.mem_of_getElem? h1))⟩;refine hc.mono fun e w' ⟨v',n',H',μ',he,hp,hv,hb,hun,hbel⟩=> ⟨out,by rw [he,QiO ho2 hv],hbel,ho _⟩
end Go.CE
