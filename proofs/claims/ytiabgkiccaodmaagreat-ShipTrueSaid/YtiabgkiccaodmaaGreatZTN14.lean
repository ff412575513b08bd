/- The reference's loads, truths, and goods that are kept. -/
import Derived.Test.YtiabgkiccaodmaaGreatZTN13
import Derived.Test.YtiabgkiccaodmaaGreatZTN09
set_option linter.all false
namespace Go.Proofs.YtiabgkiccaodmaaGreat
open Go Go.CE Go.RowKit
noncomputable section
set_option maxRecDepth 100000
def QcM (l:List Int) (i:Int):Int:=if 0 < i then l.getD (i - 1).toNat default else -1
def Q0a (s:Qaa) (l:List Int):Int:=Qel (l.map fun x=> (s.lots.getD x.toNat default).weight)
theorem QeQ {s:Qaa} {i:Int} {l:List Int} (h0:0<=i) (h:i < l.length):Q0a s (l.drop i.toNat)=(s.lots.getD (l.getD i.toNat default).toNat default).weight+Q0a s (l.drop (i+1).toNat):=by
 obtain ⟨k,rfl⟩:∃k:Nat,i=k:=⟨i.toNat,by omega⟩
 have hk:k < l.length:=by omega
 have e1:((k:Int)).toNat=k:=by omega
 have e2:((k:Int)+1).toNat=k+1:=by omega
 unfold Q0a
 rw [e1,e2,List.drop_eq_getElem_cons hk,List.map_cons]
 simp [Qel,List.getD_eq_getElem?_getD,hk]
theorem Qtv {s:Qaa} {i:Int} {l:List Int} (h:l.length<=i):Q0a s (l.drop i.toNat)=0:=by
 rw [List.drop_eq_nil_of_le (by omega)];rfl
theorem Qrz {l:List Int} {i:Int} (h0:0<=i):QcM l (i+1)=l.getD i.toNat default:=by
 unfold QcM;rw [if_pos (by omega),show i+1 - 1=i by omega]
theorem Q3E {x lo hi:Int} (q:inB x lo hi=false):¬(lo<=x/\x<=hi):=fun h=> by rw [QaP.2 h] at q;cases q
theorem Q5i {x lo hi:Int} (h:¬(lo<=x/\x<=hi)):inB x lo hi=false:=by
 cases hc:inB x lo hi with
 | false=> rfl
 | true=> exact absurd (QaP.1 hc) h
def Qek (s:Qaa) (load:List Int) (w i:Int):List Value:=[Qay 1 (slT load.length (Qac Qa1 load)),pA 2 0,.int .i64 w,.int .i64 i]
def QbZ (s:Qaa) (load:List Int) (w i:Int):List Obj:=[Obj.cells #[Qay 1 (slT s.stock.length (Qac Qa1 s.stock)),Qay 1 (slT s.use.length (Qac QaD s.use)),.int .i64 s.glo,.int .i64 s.ghi,Qay 1 (slT s.lots.length (Qac Qaq s.lots)),.int .i64 s.hold] 62]
def Qed:List Item:=([.code [1,1,0,1,0,0],.inLoop [1,1,0,1,0,0],.inBlock 0,.code [1,1,1]]).map (it (Qan Tryz.prog 56))
def Q1t (B:Lo) (c0:CF) (s:Qaa) (load:List Int) (w i:Int):Prop:=∃dJ:Nat->Value,(∀t,Qbb (dJ t))/\GoE Tryz.prog B c0 H00 1 (Qa4 56 54 (([1,2,5,6]:List Nat).zip (Qek s load w i)) dJ Qed) (Qa3 (QbZ s load w i)) (2+(QbZ s load w i).length) []
def QjG (s:Qaa) (load:List Int) (i:Int):Array Value:=#[slT (List.length (Qag.goods (s.lots.getD (Int.toNat (load.getD i.toNat default)) default))) (Qac QaD (Qag.goods (s.lots.getD (Int.toNat (load.getD i.toNat default)) default))),.int .i64 (Qag.weight (s.lots.getD (Int.toNat (load.getD i.toNat default)) default)),.int .i64 (Qag.cost (s.lots.getD (Int.toNat (load.getD i.toNat default)) default))]
def Qn2 (B:Lo) (s:Qaa) (load:List Int) (w i:Int) (dJ0:Nat->Value):List Prop:=[wq ((↑s.lots.length:Int) - 1)=(↑s.lots.length:Int) - 1,i=(↑i.toNat:Int)/\Int.toNat i < List.length load/\Array.extract (Qac Qa1 load) (Int.toNat i * TypeInfo.size Tryz.t3) (Int.toNat i * TypeInfo.size Tryz.t3+TypeInfo.size Tryz.t3)=#[.int .i64 (load.getD i.toNat default)],ltq i (↑load.length:Int)=true]++([]:List Prop)
def QsJ (s:Qaa) (load:List Int) (w i:Int) (dJ0:Nat->Value):Qap:=[(3,hvT),(6,Qai.tidx i.toNat #[.int .i64 (load.getD i.toNat default)]),(11,hvI ((↑s.lots.length:Int) - 1))]
def QnN (B:Lo) (s:Qaa) (load:List Int) (w i:Int) (dJ0:Nat->Value):List Prop:=[Qaz []/\Qao Tryz.prog J0 69 #[.int .i64 (load.getD i.toNat default),.int .i64 0,.int .i64 ((↑s.lots.length:Int) - 1)] (.bool true)]++Qn2 B s load w i dJ0
def QtB (s:Qaa) (load:List Int) (w i:Int) (dJ0:Nat->Value):Qap:=QsJ s load w i dJ0++[(12,Qai.pure (.bool true) [])]
def Qnp (B:Lo) (s:Qaa) (load:List Int) (w i:Int) (dJ0:Nat->Value):List Prop:=[i - 1=(↑(Int.toNat (i - 1)):Int)/\Int.toNat (i - 1) < List.length load/\Array.extract (Qac Qa1 load) (Int.toNat (i - 1) * TypeInfo.size Tryz.t3) (Int.toNat (i - 1) * TypeInfo.size Tryz.t3+TypeInfo.size Tryz.t3)=#[.int .i64 (load.getD (Int.toNat (i - 1)) default)],wq (i - 1)=i - 1,i=(↑i.toNat:Int)/\Int.toNat i < List.length load/\Array.extract (Qac Qa1 load) (Int.toNat i * TypeInfo.size Tryz.t3) (Int.toNat i * TypeInfo.size Tryz.t3+TypeInfo.size Tryz.t3)=#[.int .i64 (load.getD i.toNat default)],ltq 0 i=true]++QnN B s load w i dJ0
def Qtu (s:Qaa) (load:List Int) (w i:Int) (dJ0:Nat->Value):Qap:=QtB s load w i dJ0++[(16,hvT),(20,Qai.tidx i.toNat #[.int .i64 (load.getD i.toNat default)]),(24,hvI (i - 1)),(25,Qai.tidx (Int.toNat (i - 1)) #[.int .i64 (load.getD (Int.toNat (i - 1)) default)])]
theorem QzA (B:Lo) (s:Qaa) (load:List Int) (w i:Int) (dJ0:Nat->Value):QaK (Qak Tryz.prog (Qaw Tryz.prog) J0 B 15 1 (Qa4 56 54 (([1,2,5,6]:List Nat).zip (Qek s load w i)) dJ0 Qed) (Qa3 (QbZ s load w i)) (2+(QbZ s load w i).length)
 (Qtu s load w i dJ0++[(27,hvT)]) 0 [] []) []=some (.bool false,
 [(!ltq (load.getD (Int.toNat (i - 1)) default) (load.getD i.toNat default))=true]++Qnp B s load w i dJ0):=by kernel_rfl
theorem QzO (B:Lo) (s:Qaa) (load:List Int) (w i:Int) (dJ0:Nat->Value):landM (Qak Tryz.prog (Qaw Tryz.prog) J0 B 16 1 (Qa4 56 54 (([1,2,5,6]:List Nat).zip (Qek s load w i)) dJ0 Qed) (Qa3 (QbZ s load w i)) (2+(QbZ s load w i).length)
 (Qtu s load w i dJ0++[(27,hvF),(35,Qai.tidx i.toNat #[.int .i64 (load.getD i.toNat default)]),(37,Qai.tidx (Int.toNat (load.getD i.toNat default)) (QjG s load i)),(40,hvI (w+Qag.weight (s.lots.getD (Int.toNat (load.getD i.toNat default)) default))),(43,hvI (i+1))]) 0 [] []) [1,2,5,6] [(2,KS.auto)] []=some ⟨56,54,Qed,[],.run,none,Qek s load (w+Qag.weight (s.lots.getD (Int.toNat (load.getD i.toNat default)) default)) (i+1),QbZ s load (w+Qag.weight (s.lots.getD (Int.toNat (load.getD i.toNat default)) default)) (i+1),
 [wq (i+1)=i+1,wq (w+Qag.weight (s.lots.getD (Int.toNat (load.getD i.toNat default)) default))=w+Qag.weight (s.lots.getD (Int.toNat (load.getD i.toNat default)) default),load.getD i.toNat default=(↑(Int.toNat (load.getD i.toNat default)):Int)/\Int.toNat (load.getD i.toNat default) < List.length s.lots/\Array.extract (Qac Qaq s.lots) (Int.toNat (load.getD i.toNat default) * TypeInfo.size Tryz.t118) (Int.toNat (load.getD i.toNat default) * TypeInfo.size Tryz.t118+TypeInfo.size Tryz.t118)=(QjG s load i),i=(↑i.toNat:Int)/\Int.toNat i < List.length load/\Array.extract (Qac Qa1 load) (Int.toNat i * TypeInfo.size Tryz.t3) (Int.toNat i * TypeInfo.size Tryz.t3+TypeInfo.size Tryz.t3)=#[.int .i64 (load.getD i.toNat default)],(!ltq (load.getD (Int.toNat (i - 1)) default) (load.getD i.toNat default))=false]++Qnp B s load w i dJ0⟩:=by kernel_rfl
theorem QzN (B:Lo) (s:Qaa) (load:List Int) (w i:Int) (dJ0:Nat->Value):landM (Qak Tryz.prog (Qaw Tryz.prog) J0 B 16 1 (Qa4 56 54 (([1,2,5,6]:List Nat).zip (Qek s load w i)) dJ0 Qed) (Qa3 (QbZ s load w i)) (2+(QbZ s load w i).length)
 (QtB s load w i dJ0++[(16,hvF),(35,Qai.tidx i.toNat #[.int .i64 (load.getD i.toNat default)]),(37,Qai.tidx (Int.toNat (load.getD i.toNat default)) (QjG s load i)),(40,hvI (w+Qag.weight (s.lots.getD (Int.toNat (load.getD i.toNat default)) default))),(43,hvI (i+1))]) 0 [] []) [1,2,5,6] [(2,KS.auto)] []=some ⟨56,54,Qed,[],.run,none,Qek s load (w+Qag.weight (s.lots.getD (Int.toNat (load.getD i.toNat default)) default)) (i+1),QbZ s load (w+Qag.weight (s.lots.getD (Int.toNat (load.getD i.toNat default)) default)) (i+1),
 [wq (i+1)=i+1,wq (w+Qag.weight (s.lots.getD (Int.toNat (load.getD i.toNat default)) default))=w+Qag.weight (s.lots.getD (Int.toNat (load.getD i.toNat default)) default),load.getD i.toNat default=(↑(Int.toNat (load.getD i.toNat default)):Int)/\Int.toNat (load.getD i.toNat default) < List.length s.lots/\Array.extract (Qac Qaq s.lots) (Int.toNat (load.getD i.toNat default) * TypeInfo.size Tryz.t118) (Int.toNat (load.getD i.toNat default) * TypeInfo.size Tryz.t118+TypeInfo.size Tryz.t118)=(QjG s load i),i=(↑i.toNat:Int)/\Int.toNat i < List.length load/\Array.extract (Qac Qa1 load) (Int.toNat i * TypeInfo.size Tryz.t3) (Int.toNat i * TypeInfo.size Tryz.t3+TypeInfo.size Tryz.t3)=#[.int .i64 (load.getD i.toNat default)],ltq 0 i=false]++QnN B s load w i dJ0⟩:=by kernel_rfl
theorem QzS (B:Lo) (s:Qaa) (load:List Int) (w i:Int) (dJ0:Nat->Value):QaK (Qak Tryz.prog (Qaw Tryz.prog) J0 B 15 1 (Qa4 56 54 (([1,2,5,6]:List Nat).zip (Qek s load w i)) dJ0 Qed) (Qa3 (QbZ s load w i)) (2+(QbZ s load w i).length)
 (QsJ s load w i dJ0++[(12,Qai.pure (.bool false) [])]) 0 [] []) []=some (.bool false,
 [Qaz []/\Qao Tryz.prog J0 69 #[.int .i64 (load.getD i.toNat default),.int .i64 0,.int .i64 ((↑s.lots.length:Int) - 1)] (.bool false)]++Qn2 B s load w i dJ0):=by kernel_rfl
def Qnk (B:Lo) (s:Qaa) (load:List Int) (w i:Int) (dJ0:Nat->Value):List Prop:=[ltq i (↑load.length:Int)=false]++([]:List Prop)
def Qtq (s:Qaa) (load:List Int) (w i:Int) (dJ0:Nat->Value):Qap:=[(3,hvF)]
theorem Q1x (B:Lo) (s:Qaa) (load:List Int) (w i:Int) (dJ0:Nat->Value):QaK (Qak Tryz.prog (Qaw Tryz.prog) J0 B 9 1 (Qa4 56 54 (([1,2,5,6]:List Nat).zip (Qek s load w i)) dJ0 Qed) (Qa3 (QbZ s load w i)) (2+(QbZ s load w i).length)
 (Qtq s load w i dJ0++[(7,hvT)]) 0 [] []) []=some (.bool true,
 [(!ltq s.hold w)=true]++Qnk B s load w i dJ0):=by kernel_rfl
theorem Q15 (B:Lo) (s:Qaa) (load:List Int) (w i:Int) (dJ0:Nat->Value):QaK (Qak Tryz.prog (Qaw Tryz.prog) J0 B 9 1 (Qa4 56 54 (([1,2,5,6]:List Nat).zip (Qek s load w i)) dJ0 Qed) (Qa3 (QbZ s load w i)) (2+(QbZ s load w i).length)
 (Qtq s load w i dJ0++[(7,hvF)]) 0 [] []) []=some (.bool false,
 [(!ltq s.hold w)=false]++Qnk B s load w i dJ0):=by kernel_rfl
theorem Q1c (B:Lo) (s:Qaa) (load:List Int):landM (Qak Tryz.prog (Qaw Tryz.prog) J0 B 9 1 (Qae Tryz.prog 56 54 (([.agg (Qah s).toArray,slI load]).map (Qam 0 4))) H00 1
 [] 0 [] []) [1,2,5,6] [(1,KS.auto)] []=some ⟨56,54,Qed,[],.run,none,Qek s load (0) (0),QbZ s load (0) (0),
 []⟩:=by kernel_rfl
set_option maxHeartbeats 4000000 in
theorem Q13 (s:Qaa) (load:List Int) (hs:Qa0 s=true) (hl:load.length<=10) {B:Lo} (hJ:∀w,B.has w->J0 w) {c0:CF}:∀m:Nat,(∀(w i:Int),load.length - i.toNat=m->∀(h0:0<=i) (h1:0<=w/\w<=100000 * i) (hp: -1<=QcM load i),Q1t B c0 s load w i->EndsT Tryz.prog B c0 (.bool (QdS s.lots.length (load.drop i.toNat) (QcM load i+1) && decide (w+Q0a s (load.drop i.toNat)<=s.hold)))):=by
 intro m0
 induction m0 using Nat.strongRecOn with
 | _ m0 ih0=>
   intro w i hm0 h0 h1 hp ⟨dJ0,hdJ0,hg0⟩
   have hm:=QaL hs
   have g3:=Qrz (l:=load) h0
   by_cases q0:(i:Int) < ((↑load.length:Int))
   ·
    have hp0:Qaz (Qn2 B s load w i dJ0):=by
     have s2:=Qc7 (things:=s.lots.length) (least:=QcM load i+1) (l:=load) h0 q0
     have s3:=QeQ (s:=s) h0 q0
     exact ⟨(QaV (by omega) (by omega)),⟨⟨by omega,by omega,(Qaj (z:=1) (fun _=> rfl) (by omega))⟩,⟨(Qbn q0),trivial⟩⟩⟩
    cases q1:inB (load.getD i.toNat default) 0 ((↑s.lots.length:Int) - 1) with
    | true=>
      have hp1:Qaz (QnN B s load w i dJ0):=by
       have s2:=Qc7 (things:=s.lots.length) (least:=QcM load i+1) (l:=load) h0 q0
       have s3:=QeQ (s:=s) h0 q0
       have g1:=QaP.1 ‹inB (load.getD i.toNat default) 0 _=true›
       have g2:=Qc1 (hm.2 _ (QaJ (l:=s.lots) (i:=load.getD i.toNat default) (by omega) (by omega)))
       exact ⟨⟨trivial,(by have t_:=rin (load.getD i.toNat default) (0) ((↑s.lots.length:Int) - 1);rw [q1] at t_;exact t_)⟩,hp0⟩
      by_cases q2:(0:Int) < (i)
      ·
       have hp2:Qaz (Qnp B s load w i dJ0):=by
        have s2:=Qc7 (things:=s.lots.length) (least:=QcM load i+1) (l:=load) h0 q0
        have s3:=QeQ (s:=s) h0 q0
        have g1:=QaP.1 ‹inB (load.getD i.toNat default) 0 _=true›
        have g2:=Qc1 (hm.2 _ (QaJ (l:=s.lots) (i:=load.getD i.toNat default) (by omega) (by omega)))
        have pv:QcM load i=load.getD (i - 1).toNat default:=if_pos ‹0 < i›
        exact ⟨⟨by omega,by omega,(Qaj (z:=1) (fun _=> rfl) (by omega))⟩,⟨(QaV (by omega) (by omega)),⟨⟨by omega,by omega,(Qaj (z:=1) (fun _=> rfl) (by omega))⟩,⟨(Qbn q2),hp1⟩⟩⟩⟩
       by_cases q3:(load.getD i.toNat default:Int)<=(load.getD (Int.toNat (i - 1)) default)
       ·
        have s2:=Qc7 (things:=s.lots.length) (least:=QcM load i+1) (l:=load) h0 q0
        have s3:=QeQ (s:=s) h0 q0
        have g1:=QaP.1 ‹inB (load.getD i.toNat default) 0 _=true›
        have g2:=Qc1 (hm.2 _ (QaJ (l:=s.lots) (i:=load.getD i.toNat default) (by omega) (by omega)))
        have pv:QcM load i=load.getD (i - 1).toNat default:=if_pos ‹0 < i›
        have et:inB (load.getD i.toNat default) (QcM load i+1) ((s.lots.length:Int) - 1)=false:=Q5i (by omega)
        exact (GoE.endsT okF hJ Qab hg0 (QzA B s load w i dJ0)
         ⟨(QbE q3),hp2⟩).cast (by (rw [s2,et];rfl))
       ·
        have s2:=Qc7 (things:=s.lots.length) (least:=QcM load i+1) (l:=load) h0 q0
        have s3:=QeQ (s:=s) h0 q0
        have g1:=QaP.1 ‹inB (load.getD i.toNat default) 0 _=true›
        have g2:=Qc1 (hm.2 _ (QaJ (l:=s.lots) (i:=load.getD i.toNat default) (by omega) (by omega)))
        have pv:QcM load i=load.getD (i - 1).toNat default:=if_pos ‹0 < i›
        have et:inB (load.getD i.toNat default) (QcM load i+1) ((s.lots.length:Int) - 1)=true:=QaP.2 (by omega)
        exact ((ih0 _ (by omega)) (w+Qag.weight (s.lots.getD (Int.toNat (load.getD i.toNat default)) default)) (i+1) rfl (by omega) (by omega) (by omega)
         (hg0.landM okF hJ Qab (QzO B s load w i dJ0)
         ⟨(QaV (by omega) (by omega)),⟨(QaV (by omega) (by omega)),⟨⟨by omega,by omega,(Qaj (z:=3) (fun _=> rfl) (by omega))⟩,⟨⟨by omega,by omega,(Qaj (z:=1) (fun _=> rfl) (by omega))⟩,⟨(QbD (Int.not_le.1 q3)),hp2⟩⟩⟩⟩⟩ (by kernel_rfl) (by kernel_rfl))).cast (by (rw [s2,s3,et,g3,Int.add_assoc];rfl))
      ·
       have s2:=Qc7 (things:=s.lots.length) (least:=QcM load i+1) (l:=load) h0 q0
       have s3:=QeQ (s:=s) h0 q0
       have g1:=QaP.1 ‹inB (load.getD i.toNat default) 0 _=true›
       have g2:=Qc1 (hm.2 _ (QaJ (l:=s.lots) (i:=load.getD i.toNat default) (by omega) (by omega)))
       have pv:QcM load i= -1:=if_neg ‹¬0 < i›
       have et:inB (load.getD i.toNat default) (QcM load i+1) ((s.lots.length:Int) - 1)=true:=QaP.2 (by omega)
       exact ((ih0 _ (by omega)) (w+Qag.weight (s.lots.getD (Int.toNat (load.getD i.toNat default)) default)) (i+1) rfl (by omega) (by omega) (by omega)
        (hg0.landM okF hJ Qab (QzN B s load w i dJ0)
        ⟨(QaV (by omega) (by omega)),⟨(QaV (by omega) (by omega)),⟨⟨by omega,by omega,(Qaj (z:=3) (fun _=> rfl) (by omega))⟩,⟨⟨by omega,by omega,(Qaj (z:=1) (fun _=> rfl) (by omega))⟩,⟨(Qbk (Int.not_lt.1 q2)),hp1⟩⟩⟩⟩⟩ (by kernel_rfl) (by kernel_rfl))).cast (by (rw [s2,s3,et,g3,Int.add_assoc];rfl))
    | false=>
      have s2:=Qc7 (things:=s.lots.length) (least:=QcM load i+1) (l:=load) h0 q0
      have s3:=QeQ (s:=s) h0 q0
      have g1n:¬(0<=load.getD i.toNat default/\load.getD i.toNat default<=(s.lots.length:Int) - 1):=Q3E ‹inB (load.getD i.toNat default) 0 _=false›
      have et:inB (load.getD i.toNat default) (QcM load i+1) ((s.lots.length:Int) - 1)=false:=Q5i (by omega)
      exact (GoE.endsT okF hJ Qab hg0 (QzS B s load w i dJ0)
       ⟨⟨trivial,(by have t_:=rin (load.getD i.toNat default) (0) ((↑s.lots.length:Int) - 1);rw [q1] at t_;exact t_)⟩,hp0⟩).cast (by (rw [s2,et];rfl))
   ·
    have hp3:Qaz (Qnk B s load w i dJ0):=by
     exact ⟨(Qbk (Int.not_lt.1 q0)),trivial⟩
    by_cases q1:(w:Int)<=s.hold
    ·
     have s2:=QlG (things:=s.lots.length) (least:=QcM load i+1) (l:=load) (i:=i) (by omega)
     have s3:=Qtv (s:=s) (l:=load) (i:=i) (by omega)
     exact (GoE.endsT okF hJ Qab hg0 (Q1x B s load w i dJ0)
      ⟨(QbE q1),hp3⟩).cast (by (rw [s2,s3];simp_all;done))
    ·
     have s2:=QlG (things:=s.lots.length) (least:=QcM load i+1) (l:=load) (i:=i) (by omega)
     have s3:=Qtv (s:=s) (l:=load) (i:=i) (by omega)
     exact (GoE.endsT okF hJ Qab hg0 (Q15 B s load w i dJ0)
      ⟨(QbD (Int.not_le.1 q1)),hp3⟩).cast (by (rw [s2,s3];simp_all;done))
set_option maxHeartbeats 4000000 in
theorem Q2d (s:Qaa) (load:List Int) (hs:Qa0 s=true) (hl:load.length<=10) {B:Lo} (hJ:∀w,B.has w->J0 w):EndsT Tryz.prog B (Qae Tryz.prog 56 54 (([.agg (Qah s).toArray,slI load]).map (Qam 0 4))) (.bool (QdS s.lots.length load 0 && decide (Q0a s load<=s.hold))):=by
 have hm:=QaL hs
 exact ((Q13 s load hs hl hJ _) (0) (0) rfl (by omega) (by omega) (by (simp [QcM];done))
  (GoE.start.landM okF hJ Qab (Q1c B s load)
  trivial (by kernel_rfl) (by kernel_rfl))).cast (by simp [QcM])
theorem Q5b (s:Qaa) (load:List Int) (hs:Qa0 s=true) (hl:load.length<=10):Qao Tryz.prog J0 56 #[.agg (Qah s).toArray,slI load] (.bool (QdS s.lots.length load 0 && decide (Q0a s load<=s.hold))):=
 Qa8 (ts:=[.agg (Qah s).toArray,slI load]) Qbr (c0:=Qae Tryz.prog 56 54 (([.agg (Qah s).toArray,slI load]).map (Qam 0 4))) (by kernel_rfl) (by kernel_rfl) fun B hJ=> Q2d s load hs hl hJ
theorem Q0m (B:Lo) (n:Int):QaK (Qak Tryz.prog (Qaw Tryz.prog) J0 B 6 1 (Qae Tryz.prog 52 5 (([.int .i64 n]).map (Qam 0 4))) H00 1
 [(2,Qai.pure (.bool true) [])] 0 [] []) []=some (.bool true,
 [Qaz []/\Qao Tryz.prog J0 69 #[.int .i64 n,.int .i64 0,.int .i64 300] (.bool true)]):=by kernel_rfl
theorem Q01 (B:Lo) (n:Int):QaK (Qak Tryz.prog (Qaw Tryz.prog) J0 B 6 1 (Qae Tryz.prog 52 5 (([.int .i64 n]).map (Qam 0 4))) H00 1
 [(2,Qai.pure (.bool false) [])] 0 [] []) []=some (.bool false,
 [Qaz []/\Qao Tryz.prog J0 69 #[.int .i64 n,.int .i64 0,.int .i64 300] (.bool false)]):=by kernel_rfl
set_option maxHeartbeats 4000000 in
theorem Q2l (n:Int)  {B:Lo} (hJ:∀w,B.has w->J0 w):EndsT Tryz.prog B (Qae Tryz.prog 52 5 (([.int .i64 n]).map (Qam 0 4))) (.bool (inB n 0 300)):=by
 cases q0:inB n 0 300 with
 | true=>
   exact (GoE.endsT okF hJ Qab GoE.start (Q0m B n)
    ⟨⟨trivial,(by have t_:=rin (n) (0) (300);rw [q0] at t_;exact t_)⟩,trivial⟩).cast (by rfl)
 | false=>
   exact (GoE.endsT okF hJ Qab GoE.start (Q01 B n)
    ⟨⟨trivial,(by have t_:=rin (n) (0) (300);rw [q0] at t_;exact t_)⟩,trivial⟩).cast (by rfl)
theorem Q3Y (n:Int)  :Qao Tryz.prog J0 52 #[.int .i64 n] (.bool (inB n 0 300)):=
 Qa8 (ts:=[.int .i64 n]) Qbr (c0:=Qae Tryz.prog 52 5 (([.int .i64 n]).map (Qam 0 4))) (by kernel_rfl) (by kernel_rfl) fun B hJ=> Q2l n  hJ
def QlI (s:Qaa) (all:List Row) (i:Int):Bool:=(upI i all.length).all fun k=> decide ((all.getD k.toNat default).length=s.stock.length) && Qsb (all.getD k.toNat default) (s.lots.getD k.toNat default).goods 0
theorem Qi8 {s:Qaa} {all:List Row} {i:Int} (h:i < all.length):QlI s all i=((decide ((all.getD i.toNat default).length=s.stock.length) && Qsb (all.getD i.toNat default) (s.lots.getD i.toNat default).goods 0) && QlI s all (i+1)):=by
 unfold QlI;rw [Qej h];rfl
theorem Qwv {s:Qaa} {all:List Row} {i:Int} (h:all.length<=i):QlI s all i=true:=by unfold QlI;rw [Qgl h];rfl
def QhT (s:Qaa) (days:Int) (t:Qad):Bool:=(decide (t.uses.length=s.stock.length) && (decide (t.goods.length=s.lots.length) && decide (t.gaps.length<=300))) && (Qsb t.uses s.use 0 && (QlI s t.goods 0 && (t.gaps.all (fun x=> inB x s.glo s.ghi) && decide (days<=Qel t.gaps))))
theorem QvQ {s:Qaa} {days:Int} {t:Qad} (hs:Qa0 s=true):QhT s days t=Qbv s days t:=by
 have hu:s.use.length=s.stock.length:=(Qa5 hs).2.2.1
 have hl:=(QaL hs).2
 by_cases hg:t.goods.length=s.lots.length
 ·have e:QlI s t.goods 0=Qwy s t.goods 0:=by
   unfold QlI Qwy
   rw [hg]
   have key:∀l:List Int,(∀k∈l,0<=k/\k < s.lots.length)->l.all (fun k=> decide ((t.goods.getD k.toNat default).length=s.stock.length) && Qsb (t.goods.getD k.toNat default) (s.lots.getD k.toNat default).goods 0)=l.all fun k=> Qcb (t.goods.getD k.toNat default) (s.lots.getD k.toNat default).goods:=by
    intro l
    induction l with
    | nil=> intro _;rfl
    | cons k l ih=>
      intro h
      have hk:=h k (by simp)
      have h1:=(Qc1 (hl _ (QaJ (l:=s.lots) hk.1 hk.2))).1
      rw [List.all_cons,List.all_cons,ih fun q hq=> h q (by simp [hq])]
      unfold Qcb
      rw [h1]
   refine key _ fun k hk=> ?_
   unfold upI at hk
   obtain ⟨q,hq,rfl⟩:=List.mem_map.1 hk
   have:=List.mem_range.1 hq
   omega
  unfold QhT Qbv Qcb Qhy Qf3
  rw [e,hu,hg]
  cases decide (t.uses.length=s.stock.length) <;> cases decide (t.gaps.length<=300) <;> cases Qsb t.uses s.use 0 <;> cases Qwy s t.goods 0 <;> simp
 ·unfold QhT Qbv Qf3
  rw [decide_eq_false hg]
  simp
def wtR (l:List Row):Nat:=(l.map fun x=> x.length+2).sum
theorem Qn1 {l:List Row} {i:Int} (h0:0<=i) (h:i < l.length):wtR (l.drop i.toNat)=(l.getD i.toNat default).length+2+wtR (l.drop (i+1).toNat):=by
 obtain ⟨k,rfl⟩:∃k:Nat,i=k:=⟨i.toNat,by omega⟩
 have hk:k < l.length:=by omega
 have e1:((k:Int)).toNat=k:=by omega
 have e2:((k:Int)+1).toNat=k+1:=by omega
 rw [e1,e2,List.drop_eq_getElem_cons hk]
 unfold wtR
 rw [List.map_cons,List.sum_cons]
 simp [List.getD_eq_getElem?_getD,hk]
def Qf1 (s:Qaa) (days:Int) (t:Qad) (i:Int):List Value:=[.int .i64 days,pA 2 0,pA 3 0,.int .i64 i]
def Qdc (s:Qaa) (days:Int) (t:Qad) (i:Int):List Obj:=[Obj.cells #[Qay 1 (slT s.stock.length (Qac Qa1 s.stock)),Qay 1 (slT s.use.length (Qac QaD s.use)),.int .i64 s.glo,.int .i64 s.ghi,Qay 1 (slT s.lots.length (Qac Qaq s.lots)),.int .i64 s.hold] 62,Obj.cells #[Qay 1 (slT t.uses.length (Qac Qa1 t.uses)),Qay 1 (slT t.gaps.length (Qac Qa1 t.gaps)),Qay 1 (slT t.goods.length (Qac Qas t.goods))] 65]
def QfK:List Item:=([.code [1,1,0,1,0,0],.inLoop [1,1,0,1,0,0],.inBlock 0,.code [1,1,1]]).map (it (Qan Tryz.prog 40))
def QwE (B:Lo) (c0:CF) (s:Qaa) (days:Int) (t:Qad) (i:Int):Prop:=∃dJ:Nat->Value,(∀t,Qbb (dJ t))/\GoE Tryz.prog B c0 H00 1 (Qa4 40 141 (([1,3,5,7]:List Nat).zip (Qf1 s days t i)) dJ QfK) (Qa3 (Qdc s days t i)) (2+(Qdc s days t i).length) []
def Qf9 (s:Qaa) (days:Int) (t:Qad) (i:Int):List Value:=[.int .i64 days,pA 2 0,pA 3 0,.int .i64 i]
def Qdj (s:Qaa) (days:Int) (t:Qad) (i:Int):List Obj:=[Obj.cells #[Qay 1 (slT s.stock.length (Qac Qa1 s.stock)),Qay 1 (slT s.use.length (Qac QaD s.use)),.int .i64 s.glo,.int .i64 s.ghi,Qay 1 (slT s.lots.length (Qac Qaq s.lots)),.int .i64 s.hold] 62,Obj.cells #[Qay 1 (slT t.uses.length (Qac Qa1 t.uses)),Qay 1 (slT t.gaps.length (Qac Qa1 t.gaps)),Qay 1 (slT t.goods.length (Qac Qas t.goods))] 65]
def QfH:List Item:=([.code [1,1,1,0,1,0,0],.inLoop [1,1,1,0,1,0,0],.inBlock 2,.code [1,1,1,1]]).map (it (Qan Tryz.prog 40))
def Qyz (B:Lo) (c0:CF) (s:Qaa) (days:Int) (t:Qad) (i:Int):Prop:=∃dJ:Nat->Value,(∀t,Qbb (dJ t))/\GoE Tryz.prog B c0 H00 1 (Qa4 40 141 (([1,3,5,8]:List Nat).zip (Qf9 s days t i)) dJ QfH) (Qa3 (Qdj s days t i)) (2+(Qdj s days t i).length) []
def Qf2 (s:Qaa) (days:Int) (t:Qad) (i k:Int):List Value:=[.int .i64 days,pA 2 0,pA 3 0,.int .i64 i,.int .i64 k]
def Qdp (s:Qaa) (days:Int) (t:Qad) (i k:Int):List Obj:=[Obj.cells #[Qay 1 (slT s.stock.length (Qac Qa1 s.stock)),Qay 1 (slT s.use.length (Qac QaD s.use)),.int .i64 s.glo,.int .i64 s.ghi,Qay 1 (slT s.lots.length (Qac Qaq s.lots)),.int .i64 s.hold] 62,Obj.cells #[Qay 1 (slT t.uses.length (Qac Qa1 t.uses)),Qay 1 (slT t.gaps.length (Qac Qa1 t.gaps)),Qay 1 (slT t.goods.length (Qac Qas t.goods))] 65]
def QfB:List Item:=([.code [1,1,1,0,1,0,0,1,0,0,1,1,0,0],.inLoop [1,1,1,0,1,0,0,1,0,0,1,1,0,0],.inBlock 4,.inBlock 3,.code [1,1,1,0,1,0,0,1,1],.inLoop [1,1,1,0,1,0,0],.inBlock 2,.code [1,1,1,1]]).map (it (Qan Tryz.prog 40))
def QxU (B:Lo) (c0:CF) (s:Qaa) (days:Int) (t:Qad) (i k:Int):Prop:=∃dJ:Nat->Value,(∀t,Qbb (dJ t))/\GoE Tryz.prog B c0 H00 1 (Qa4 40 141 (([1,3,5,8,9]:List Nat).zip (Qf2 s days t i k)) dJ QfB) (Qa3 (Qdp s days t i k)) (2+(Qdp s days t i k).length) []
def QeT (s:Qaa) (days:Int) (t:Qad) (sum i:Int):List Value:=[.int .i64 days,pA 2 0,pA 3 0,.int .i64 sum,.int .i64 i]
def Qc0 (s:Qaa) (days:Int) (t:Qad) (sum i:Int):List Obj:=[Obj.cells #[Qay 1 (slT s.stock.length (Qac Qa1 s.stock)),Qay 1 (slT s.use.length (Qac QaD s.use)),.int .i64 s.glo,.int .i64 s.ghi,Qay 1 (slT s.lots.length (Qac Qaq s.lots)),.int .i64 s.hold] 62,Obj.cells #[Qay 1 (slT t.uses.length (Qac Qa1 t.uses)),Qay 1 (slT t.gaps.length (Qac Qa1 t.gaps)),Qay 1 (slT t.goods.length (Qac Qas t.goods))] 65]
def QeY:List Item:=([.code [1,1,1,1,1,0,1,0,0],.inLoop [1,1,1,1,1,0,1,0,0],.inBlock 6,.code [1,1,1,1,1,1]]).map (it (Qan Tryz.prog 40))
def Qzk (B:Lo) (c0:CF) (s:Qaa) (days:Int) (t:Qad) (sum i:Int):Prop:=∃dJ:Nat->Value,(∀t,Qbb (dJ t))/\GoE Tryz.prog B c0 H00 1 (Qa4 40 141 (([1,3,5,11,12]:List Nat).zip (QeT s days t sum i)) dJ QeY) (Qa3 (Qc0 s days t sum i)) (2+(Qc0 s days t sum i).length) []
def QkI (B:Lo) (s:Qaa) (days:Int) (t:Qad) (i:Int) (dJ0:Nat->Value):List Prop:=[i=(↑i.toNat:Int)/\Int.toNat i < List.length s.use/\Array.extract (Qac QaD s.use) (Int.toNat i * TypeInfo.size Tryz.t25) (Int.toNat i * TypeInfo.size Tryz.t25+TypeInfo.size Tryz.t25)=#[.int .i64 (Span.lo (s.use.getD i.toNat default)),.int .i64 (Span.hi (s.use.getD i.toNat default))],i=(↑i.toNat:Int)/\Int.toNat i < List.length s.use/\Array.extract (Qac QaD s.use) (Int.toNat i * TypeInfo.size Tryz.t25) (Int.toNat i * TypeInfo.size Tryz.t25+TypeInfo.size Tryz.t25)=#[.int .i64 (Span.lo (s.use.getD i.toNat default)),.int .i64 (Span.hi (s.use.getD i.toNat default))],i=(↑i.toNat:Int)/\Int.toNat i < List.length t.uses/\Array.extract (Qac Qa1 t.uses) (Int.toNat i * TypeInfo.size Tryz.t3) (Int.toNat i * TypeInfo.size Tryz.t3+TypeInfo.size Tryz.t3)=#[.int .i64 (t.uses.getD i.toNat default)],ltq i (↑t.uses.length:Int)=true]++([]:List Prop)
def Qpg (s:Qaa) (days:Int) (t:Qad) (i:Int) (dJ0:Nat->Value):Qap:=[(4,hvT),(8,Qai.tidx i.toNat #[.int .i64 (t.uses.getD i.toNat default)]),(13,Qai.tidx i.toNat #[.int .i64 (Span.lo (s.use.getD i.toNat default)),.int .i64 (Span.hi (s.use.getD i.toNat default))]),(19,Qai.tidx i.toNat #[.int .i64 (Span.lo (s.use.getD i.toNat default)),.int .i64 (Span.hi (s.use.getD i.toNat default))])]
theorem Qxq (B:Lo) (s:Qaa) (days:Int) (t:Qad) (i:Int) (dJ0:Nat->Value):landM (Qak Tryz.prog (Qaw Tryz.prog) J0 B 14 1 (Qa4 40 141 (([1,3,5,7]:List Nat).zip (Qf1 s days t i)) dJ0 QfK) (Qa3 (Qdc s days t i)) (2+(Qdc s days t i).length)
 (Qpg s days t i dJ0++[(22,Qai.pure (.bool true) []),(25,hvI (i+1))]) 0 [] []) [1,3,5,7] [(2,KS.auto),(3,KS.auto)] []=some ⟨40,141,QfK,[],.run,none,Qf1 s days t (i+1),Qdc s days t (i+1),
 [wq (i+1)=i+1,Qaz []/\Qao Tryz.prog J0 69 #[.int .i64 (t.uses.getD i.toNat default),.int .i64 (Span.lo (s.use.getD i.toNat default)),.int .i64 (Span.hi (s.use.getD i.toNat default))] (.bool true)]++QkI B s days t i dJ0⟩:=by kernel_rfl
theorem Qyl (B:Lo) (s:Qaa) (days:Int) (t:Qad) (i:Int) (dJ0:Nat->Value):QaK (Qak Tryz.prog (Qaw Tryz.prog) J0 B 14 1 (Qa4 40 141 (([1,3,5,7]:List Nat).zip (Qf1 s days t i)) dJ0 QfK) (Qa3 (Qdc s days t i)) (2+(Qdc s days t i).length)
 (Qpg s days t i dJ0++[(22,Qai.pure (.bool false) [])]) 0 [] []) []=some (.bool false,
 [Qaz []/\Qao Tryz.prog J0 69 #[.int .i64 (t.uses.getD i.toNat default),.int .i64 (Span.lo (s.use.getD i.toNat default)),.int .i64 (Span.hi (s.use.getD i.toNat default))] (.bool false)]++QkI B s days t i dJ0):=by kernel_rfl
theorem QyC (B:Lo) (s:Qaa) (days:Int) (t:Qad) (i:Int) (dJ0:Nat->Value):landM (Qak Tryz.prog (Qaw Tryz.prog) J0 B 10 1 (Qa4 40 141 (([1,3,5,7]:List Nat).zip (Qf1 s days t i)) dJ0 QfK) (Qa3 (Qdc s days t i)) (2+(Qdc s days t i).length)
 [(4,hvF)] 0 [] []) [1,3,5,8] [(2,KS.auto),(3,KS.auto)] []=some ⟨40,141,QfH,[],.run,none,Qf9 s days t (0),Qdj s days t (0),
 [ltq i (↑t.uses.length:Int)=false]⟩:=by kernel_rfl
def Qkg (B:Lo) (s:Qaa) (days:Int) (t:Qad) (i:Int) (dJ0:Nat->Value):List Prop:=[i=(↑i.toNat:Int)/\Int.toNat i < List.length t.goods/\Array.extract (Qac Qas t.goods) (Int.toNat i * TypeInfo.size Tryz.t22) (Int.toNat i * TypeInfo.size Tryz.t22+TypeInfo.size Tryz.t22)=#[slT (List.length (t.goods.getD i.toNat default)) (Qac Qa1 (t.goods.getD i.toNat default))],ltq i (↑t.goods.length:Int)=true]++([]:List Prop)
def Qqm (s:Qaa) (days:Int) (t:Qad) (i:Int) (dJ0:Nat->Value):Qap:=[(4,hvT),(8,Qai.tidx i.toNat #[slT (List.length (t.goods.getD i.toNat default)) (Qac Qa1 (t.goods.getD i.toNat default))])]
theorem QyN (B:Lo) (s:Qaa) (days:Int) (t:Qad) (i:Int) (dJ0:Nat->Value):QaK (Qak Tryz.prog (Qaw Tryz.prog) J0 B 15 1 (Qa4 40 141 (([1,3,5,8]:List Nat).zip (Qf9 s days t i)) dJ0 QfH) (Qa3 (Qdj s days t i)) (2+(Qdj s days t i).length)
 (Qqm s days t i dJ0++[(14,hvT)]) 0 [] []) []=some (.bool false,
 [(!eqq (↑(List.length (t.goods.getD i.toNat default)):Int) (↑s.stock.length:Int))=true]++Qkg B s days t i dJ0):=by kernel_rfl
theorem QyZ (B:Lo) (s:Qaa) (days:Int) (t:Qad) (i:Int) (dJ0:Nat->Value):landM (Qak Tryz.prog (Qaw Tryz.prog) J0 B 16 1 (Qa4 40 141 (([1,3,5,8]:List Nat).zip (Qf9 s days t i)) dJ0 QfH) (Qa3 (Qdj s days t i)) (2+(Qdj s days t i).length)
 (Qqm s days t i dJ0++[(14,hvF)]) 0 [] []) [1,3,5,8,9] [(2,KS.auto),(3,KS.auto)] []=some ⟨40,141,QfB,[],.run,none,Qf2 s days t (i) (0),Qdp s days t (i) (0),
 [(!eqq (↑(List.length (t.goods.getD i.toNat default)):Int) (↑s.stock.length:Int))=false]++Qkg B s days t i dJ0⟩:=by kernel_rfl
theorem Qxr (B:Lo) (s:Qaa) (days:Int) (t:Qad) (i:Int) (dJ0:Nat->Value):landM (Qak Tryz.prog (Qaw Tryz.prog) J0 B 12 1 (Qa4 40 141 (([1,3,5,8]:List Nat).zip (Qf9 s days t i)) dJ0 QfH) (Qa3 (Qdj s days t i)) (2+(Qdj s days t i).length)
 [(4,hvF)] 0 [] []) [1,3,5,11,12] [(2,KS.auto),(3,KS.auto)] []=some ⟨40,141,QeY,[],.run,none,QeT s days t (0) (0),Qc0 s days t (0) (0),
 [ltq i (↑t.goods.length:Int)=false]⟩:=by kernel_rfl
def QlX (B:Lo) (s:Qaa) (days:Int) (t:Qad) (i k:Int) (dJ0:Nat->Value):List Prop:=[i=(↑i.toNat:Int)/\Int.toNat i < List.length t.goods/\Array.extract (Qac Qas t.goods) (Int.toNat i * TypeInfo.size Tryz.t22) (Int.toNat i * TypeInfo.size Tryz.t22+TypeInfo.size Tryz.t22)=#[slT (List.length (t.goods.getD i.toNat default)) (Qac Qa1 (t.goods.getD i.toNat default))]]++([]:List Prop)
def Qqr (s:Qaa) (days:Int) (t:Qad) (i k:Int) (dJ0:Nat->Value):Qap:=[(4,Qai.tidx i.toNat #[slT (List.length (t.goods.getD i.toNat default)) (Qac Qa1 (t.goods.getD i.toNat default))])]
def Qk9 (B:Lo) (s:Qaa) (days:Int) (t:Qad) (i k:Int) (dJ0:Nat->Value):List Prop:=[k=(↑k.toNat:Int)/\Int.toNat k < List.length (t.goods.getD i.toNat default)/\Array.extract (Qac Qa1 (t.goods.getD i.toNat default)) (Int.toNat k * TypeInfo.size Tryz.t3) (Int.toNat k * TypeInfo.size Tryz.t3+TypeInfo.size Tryz.t3)=#[.int .i64 (List.getD (t.goods.getD i.toNat default) k.toNat default)],i=(↑i.toNat:Int)/\Int.toNat i < List.length t.goods/\Array.extract (Qac Qas t.goods) (Int.toNat i * TypeInfo.size Tryz.t22) (Int.toNat i * TypeInfo.size Tryz.t22+TypeInfo.size Tryz.t22)=#[slT (List.length (t.goods.getD i.toNat default)) (Qac Qa1 (t.goods.getD i.toNat default))],k=(↑k.toNat:Int)/\Int.toNat k < List.length (Qag.goods (s.lots.getD i.toNat default))/\Array.extract (Qac QaD (Qag.goods (s.lots.getD i.toNat default))) (Int.toNat k * TypeInfo.size Tryz.t25) (Int.toNat k * TypeInfo.size Tryz.t25+TypeInfo.size Tryz.t25)=#[.int .i64 (Span.lo (List.getD (Qag.goods (s.lots.getD i.toNat default)) k.toNat default)),.int .i64 (Span.hi (List.getD (Qag.goods (s.lots.getD i.toNat default)) k.toNat default))],i=(↑i.toNat:Int)/\Int.toNat i < List.length s.lots/\Array.extract (Qac Qaq s.lots) (Int.toNat i * TypeInfo.size Tryz.t118) (Int.toNat i * TypeInfo.size Tryz.t118+TypeInfo.size Tryz.t118)=#[slT (List.length (Qag.goods (s.lots.getD i.toNat default))) (Qac QaD (Qag.goods (s.lots.getD i.toNat default))),.int .i64 (Qag.weight (s.lots.getD i.toNat default)),.int .i64 (Qag.cost (s.lots.getD i.toNat default))],ltq k (↑(List.length (t.goods.getD i.toNat default)):Int)=true]++QlX B s days t i k dJ0
def QpQ (s:Qaa) (days:Int) (t:Qad) (i k:Int) (dJ0:Nat->Value):Qap:=Qqr s days t i k dJ0++[(7,hvT),(11,Qai.tidx i.toNat #[slT (List.length (Qag.goods (s.lots.getD i.toNat default))) (Qac QaD (Qag.goods (s.lots.getD i.toNat default))),.int .i64 (Qag.weight (s.lots.getD i.toNat default)),.int .i64 (Qag.cost (s.lots.getD i.toNat default))]),(15,Qai.tidx k.toNat #[.int .i64 (Span.lo (List.getD (Qag.goods (s.lots.getD i.toNat default)) k.toNat default)),.int .i64 (Span.hi (List.getD (Qag.goods (s.lots.getD i.toNat default)) k.toNat default))]),(22,Qai.tidx i.toNat #[slT (List.length (t.goods.getD i.toNat default)) (Qac Qa1 (t.goods.getD i.toNat default))]),(25,Qai.tidx k.toNat #[.int .i64 (List.getD (t.goods.getD i.toNat default) k.toNat default)])]
theorem Qxw (B:Lo) (s:Qaa) (days:Int) (t:Qad) (i k:Int) (dJ0:Nat->Value):landM (Qak Tryz.prog (Qaw Tryz.prog) J0 B 16 1 (Qa4 40 141 (([1,3,5,8,9]:List Nat).zip (Qf2 s days t i k)) dJ0 QfB) (Qa3 (Qdp s days t i k)) (2+(Qdp s days t i k).length)
 (QpQ s days t i k dJ0++[(31,Qai.pure (.bool true) []),(34,hvI (k+1))]) 0 [] []) [1,3,5,8,9] [(2,KS.auto),(3,KS.auto)] []=some ⟨40,141,QfB,[],.run,none,Qf2 s days t (i) (k+1),Qdp s days t (i) (k+1),
 [wq (k+1)=k+1,Qaz []/\Qao Tryz.prog J0 69 #[.int .i64 (List.getD (t.goods.getD i.toNat default) k.toNat default),.int .i64 (Span.lo (List.getD (Qag.goods (s.lots.getD i.toNat default)) k.toNat default)),.int .i64 (Span.hi (List.getD (Qag.goods (s.lots.getD i.toNat default)) k.toNat default))] (.bool true)]++Qk9 B s days t i k dJ0⟩:=by kernel_rfl
theorem Qwt (B:Lo) (s:Qaa) (days:Int) (t:Qad) (i k:Int) (dJ0:Nat->Value):QaK (Qak Tryz.prog (Qaw Tryz.prog) J0 B 16 1 (Qa4 40 141 (([1,3,5,8,9]:List Nat).zip (Qf2 s days t i k)) dJ0 QfB) (Qa3 (Qdp s days t i k)) (2+(Qdp s days t i k).length)
 (QpQ s days t i k dJ0++[(31,Qai.pure (.bool false) [])]) 0 [] []) []=some (.bool false,
 [Qaz []/\Qao Tryz.prog J0 69 #[.int .i64 (List.getD (t.goods.getD i.toNat default) k.toNat default),.int .i64 (Span.lo (List.getD (Qag.goods (s.lots.getD i.toNat default)) k.toNat default)),.int .i64 (Span.hi (List.getD (Qag.goods (s.lots.getD i.toNat default)) k.toNat default))] (.bool false)]++Qk9 B s days t i k dJ0):=by kernel_rfl
theorem Qza (B:Lo) (s:Qaa) (days:Int) (t:Qad) (i k:Int) (dJ0:Nat->Value):landM (Qak Tryz.prog (Qaw Tryz.prog) J0 B 8 1 (Qa4 40 141 (([1,3,5,8,9]:List Nat).zip (Qf2 s days t i k)) dJ0 QfB) (Qa3 (Qdp s days t i k)) (2+(Qdp s days t i k).length)
 (Qqr s days t i k dJ0++[(7,hvF),(9,hvI (i+1))]) 0 [] []) [1,3,5,8] [(2,KS.auto),(3,KS.auto)] []=some ⟨40,141,QfH,[],.run,none,Qf9 s days t (i+1),Qdj s days t (i+1),
 [wq (i+1)=i+1,ltq k (↑(List.length (t.goods.getD i.toNat default)):Int)=false]++QlX B s days t i k dJ0⟩:=by kernel_rfl
def QkK (B:Lo) (s:Qaa) (days:Int) (t:Qad) (sum i:Int) (dJ0:Nat->Value):List Prop:=[i=(↑i.toNat:Int)/\Int.toNat i < List.length t.gaps/\Array.extract (Qac Qa1 t.gaps) (Int.toNat i * TypeInfo.size Tryz.t3) (Int.toNat i * TypeInfo.size Tryz.t3+TypeInfo.size Tryz.t3)=#[.int .i64 (t.gaps.getD i.toNat default)],ltq i (↑t.gaps.length:Int)=true]++([]:List Prop)
def Qpq (s:Qaa) (days:Int) (t:Qad) (sum i:Int) (dJ0:Nat->Value):Qap:=[(4,hvT),(8,Qai.tidx i.toNat #[.int .i64 (t.gaps.getD i.toNat default)])]
theorem Qw4 (B:Lo) (s:Qaa) (days:Int) (t:Qad) (sum i:Int) (dJ0:Nat->Value):landM (Qak Tryz.prog (Qaw Tryz.prog) J0 B 16 1 (Qa4 40 141 (([1,3,5,11,12]:List Nat).zip (QeT s days t sum i)) dJ0 QeY) (Qa3 (Qc0 s days t sum i)) (2+(Qc0 s days t sum i).length)
 (Qpq s days t sum i dJ0++[(16,Qai.pure (.bool true) []),(22,Qai.tidx i.toNat #[.int .i64 (t.gaps.getD i.toNat default)]),(24,hvI (sum+t.gaps.getD i.toNat default)),(27,hvI (i+1))]) 0 [] []) [1,3,5,11,12] [(2,KS.auto),(3,KS.auto)] []=some ⟨40,141,QeY,[],.run,none,QeT s days t (sum+t.gaps.getD i.toNat default) (i+1),Qc0 s days t (sum+t.gaps.getD i.toNat default) (i+1),
 [wq (i+1)=i+1,wq (sum+t.gaps.getD i.toNat default)=sum+t.gaps.getD i.toNat default,i=(↑i.toNat:Int)/\Int.toNat i < List.length t.gaps/\Array.extract (Qac Qa1 t.gaps) (Int.toNat i * TypeInfo.size Tryz.t3) (Int.toNat i * TypeInfo.size Tryz.t3+TypeInfo.size Tryz.t3)=#[.int .i64 (t.gaps.getD i.toNat default)],Qaz []/\Qao Tryz.prog J0 69 #[.int .i64 (t.gaps.getD i.toNat default),.int .i64 s.glo,.int .i64 s.ghi] (.bool true)]++QkK B s days t sum i dJ0⟩:=by kernel_rfl
theorem QuQ (B:Lo) (s:Qaa) (days:Int) (t:Qad) (sum i:Int) (dJ0:Nat->Value):QaK (Qak Tryz.prog (Qaw Tryz.prog) J0 B 15 1 (Qa4 40 141 (([1,3,5,11,12]:List Nat).zip (QeT s days t sum i)) dJ0 QeY) (Qa3 (Qc0 s days t sum i)) (2+(Qc0 s days t sum i).length)
 (Qpq s days t sum i dJ0++[(16,Qai.pure (.bool false) [])]) 0 [] []) []=some (.bool false,
 [Qaz []/\Qao Tryz.prog J0 69 #[.int .i64 (t.gaps.getD i.toNat default),.int .i64 s.glo,.int .i64 s.ghi] (.bool false)]++QkK B s days t sum i dJ0):=by kernel_rfl
def Ql7 (B:Lo) (s:Qaa) (days:Int) (t:Qad) (sum i:Int) (dJ0:Nat->Value):List Prop:=[ltq i (↑t.gaps.length:Int)=false]++([]:List Prop)
def Qqa (s:Qaa) (days:Int) (t:Qad) (sum i:Int) (dJ0:Nat->Value):Qap:=[(4,hvF)]
theorem QuF (B:Lo) (s:Qaa) (days:Int) (t:Qad) (sum i:Int) (dJ0:Nat->Value):QaK (Qak Tryz.prog (Qaw Tryz.prog) J0 B 9 1 (Qa4 40 141 (([1,3,5,11,12]:List Nat).zip (QeT s days t sum i)) dJ0 QeY) (Qa3 (Qc0 s days t sum i)) (2+(Qc0 s days t sum i).length)
 (Qqa s days t sum i dJ0++[(7,hvT)]) 0 [] []) []=some (.bool true,
 [(!ltq sum days)=true]++Ql7 B s days t sum i dJ0):=by kernel_rfl
theorem QtL (B:Lo) (s:Qaa) (days:Int) (t:Qad) (sum i:Int) (dJ0:Nat->Value):QaK (Qak Tryz.prog (Qaw Tryz.prog) J0 B 9 1 (Qa4 40 141 (([1,3,5,11,12]:List Nat).zip (QeT s days t sum i)) dJ0 QeY) (Qa3 (Qc0 s days t sum i)) (2+(Qc0 s days t sum i).length)
 (Qqa s days t sum i dJ0++[(7,hvF)]) 0 [] []) []=some (.bool false,
 [(!ltq sum days)=false]++Ql7 B s days t sum i dJ0):=by kernel_rfl
theorem QuD (B:Lo) (s:Qaa) (days:Int) (t:Qad):QaK (Qak Tryz.prog (Qaw Tryz.prog) J0 B 10 1 (Qae Tryz.prog 40 141 (([.agg (Qah s).toArray,.int .i64 days,.agg (Qa2 t).toArray]).map (Qam 0 4))) H00 1
 [(9,hvT)] 0 [] []) []=some (.bool false,
 [(!eqq (↑t.uses.length:Int) (↑s.stock.length:Int))=true]):=by kernel_rfl
def Qkx (B:Lo) (s:Qaa) (days:Int) (t:Qad):List Prop:=[(!eqq (↑t.uses.length:Int) (↑s.stock.length:Int))=false]++([]:List Prop)
def QoV (s:Qaa) (days:Int) (t:Qad):Qap:=[(9,hvF)]
theorem Qu2 (B:Lo) (s:Qaa) (days:Int) (t:Qad):QaK (Qak Tryz.prog (Qaw Tryz.prog) J0 B 10 1 (Qae Tryz.prog 40 141 (([.agg (Qah s).toArray,.int .i64 days,.agg (Qa2 t).toArray]).map (Qam 0 4))) H00 1
 (QoV s days t++[(17,hvT)]) 0 [] []) []=some (.bool false,
 [(!eqq (↑t.goods.length:Int) (↑s.lots.length:Int))=true]++Qkx B s days t):=by kernel_rfl
def Qln (B:Lo) (s:Qaa) (days:Int) (t:Qad):List Prop:=[(!eqq (↑t.goods.length:Int) (↑s.lots.length:Int))=false]++Qkx B s days t
def Qrg (s:Qaa) (days:Int) (t:Qad):Qap:=QoV s days t++[(17,hvF)]
theorem QvC (B:Lo) (s:Qaa) (days:Int) (t:Qad):QaK (Qak Tryz.prog (Qaw Tryz.prog) J0 B 10 1 (Qae Tryz.prog 40 141 (([.agg (Qah s).toArray,.int .i64 days,.agg (Qa2 t).toArray]).map (Qam 0 4))) H00 1
 (Qrg s days t++[(23,hvT)]) 0 [] []) []=some (.bool false,
 [ltq 300 (↑t.gaps.length:Int)=true]++Qln B s days t):=by kernel_rfl
theorem Quj (B:Lo) (s:Qaa) (days:Int) (t:Qad):landM (Qak Tryz.prog (Qaw Tryz.prog) J0 B 12 1 (Qae Tryz.prog 40 141 (([.agg (Qah s).toArray,.int .i64 days,.agg (Qa2 t).toArray]).map (Qam 0 4))) H00 1
 (Qrg s days t++[(23,hvF)]) 0 [] []) [1,3,5,7] [(1,KS.auto),(2,KS.auto)] []=some ⟨40,141,QfK,[],.run,none,Qf1 s days t (0),Qdc s days t (0),
 [ltq 300 (↑t.gaps.length:Int)=false]++Qln B s days t⟩:=by kernel_rfl
set_option maxHeartbeats 4000000 in
theorem Qxj (s:Qaa) (days:Int) (t:Qad) (hs:Qa0 s=true) (hfacts:t.uses.length<=9223372036854775807/\t.gaps.length<=9223372036854775807/\t.goods.length<=9223372036854775807) {B:Lo} (hJ:∀w,B.has w->J0 w) {c0:CF}:∀m:Nat,(∀(i:Int),(t.uses.length - i.toNat)+wtR t.goods+t.gaps.length+9=m->∀(h0:0<=i) (e1:t.uses.length=s.stock.length) (e2:t.goods.length=s.lots.length) (e3:t.gaps.length<=300),QwE B c0 s days t i->EndsT Tryz.prog B c0 (.bool (Qsb t.uses s.use i && (QlI s t.goods 0 && (t.gaps.all (fun x=> inB x s.glo s.ghi) && decide (days<=Qel t.gaps))))))/\(∀(i:Int),wtR (t.goods.drop i.toNat)+t.gaps.length+8=m->∀(h0:0<=i) (e1:t.uses.length=s.stock.length) (e2:t.goods.length=s.lots.length) (e3:t.gaps.length<=300),Qyz B c0 s days t i->EndsT Tryz.prog B c0 (.bool (QlI s t.goods i && (t.gaps.all (fun x=> inB x s.glo s.ghi) && decide (days<=Qel t.gaps)))))/\(∀(i k:Int),((t.goods.getD i.toNat default).length - k.toNat)+wtR (t.goods.drop (i+1).toNat)+t.gaps.length+9=m->∀(h0:0<=i) (h1:i < t.goods.length) (k0:0<=k) (hr:(t.goods.getD i.toNat default).length=s.stock.length) (e1:t.uses.length=s.stock.length) (e2:t.goods.length=s.lots.length) (e3:t.gaps.length<=300),QxU B c0 s days t i k->EndsT Tryz.prog B c0 (.bool (Qsb (t.goods.getD i.toNat default) (s.lots.getD i.toNat default).goods k && (QlI s t.goods (i+1) && (t.gaps.all (fun x=> inB x s.glo s.ghi) && decide (days<=Qel t.gaps))))))/\(∀(sum i:Int),(t.gaps.length - i.toNat)=m->∀(h0:0<=i) (h1:0<=sum/\sum<=60 * i) (e1:t.uses.length=s.stock.length) (e2:t.goods.length=s.lots.length) (e3:t.gaps.length<=300),Qzk B c0 s days t sum i->EndsT Tryz.prog B c0 (.bool ((t.gaps.drop i.toNat).all (fun x=> inB x s.glo s.ghi) && decide (days<=sum+Qel (t.gaps.drop i.toNat))))):=by
 intro m0
 induction m0 using Nat.strongRecOn with
 | _ m0 ih0=>
   refine ⟨?_, ?_, ?_, ?_⟩
   ·intro i hm0 h0 e1 e2 e3 ⟨dJ0,hdJ0,hg0⟩
    have hm:=QaL hs
    have hgp:=QaS hs
    have hst:=Qa5 hs
    by_cases q0:(i:Int) < ((↑t.uses.length:Int))
    ·
     have hp0:Qaz (QkI B s days t i dJ0):=by
      have s2:=QdJ (ns:=t.uses) (ss:=s.use) q0
      exact ⟨⟨by omega,by omega,(Qaj (z:=2) (fun _=> rfl) (by omega))⟩,⟨⟨by omega,by omega,(Qaj (z:=2) (fun _=> rfl) (by omega))⟩,⟨⟨by omega,by omega,(Qaj (z:=1) (fun _=> rfl) (by omega))⟩,⟨(Qbn q0),trivial⟩⟩⟩⟩
     cases q1:inB (t.uses.getD i.toNat default) (Span.lo (s.use.getD i.toNat default)) (Span.hi (s.use.getD i.toNat default)) with
     | true=>
       have s2:=QdJ (ns:=t.uses) (ss:=s.use) q0
       exact ((ih0 _ (by (first | omega | (simp only [Int.toNat_zero,List.drop_zero];omega)))).1 (i+1) rfl (by omega) (by with_reducible assumption) (by with_reducible assumption) (by with_reducible assumption)
        (hg0.landM okF hJ Qab (Qxq B s days t i dJ0)
        ⟨(QaV (by omega) (by omega)),⟨⟨trivial,(by have t_:=rin (t.uses.getD i.toNat default) (Span.lo (s.use.getD i.toNat default)) (Span.hi (s.use.getD i.toNat default));rw [q1] at t_;exact t_)⟩,hp0⟩⟩ (by kernel_rfl) (by kernel_rfl))).cast (by (rw [s2,q1];rfl))
     | false=>
       have s2:=QdJ (ns:=t.uses) (ss:=s.use) q0
       exact (GoE.endsT okF hJ Qab hg0 (Qyl B s days t i dJ0)
        ⟨⟨trivial,(by have t_:=rin (t.uses.getD i.toNat default) (Span.lo (s.use.getD i.toNat default)) (Span.hi (s.use.getD i.toNat default));rw [q1] at t_;exact t_)⟩,hp0⟩).cast (by (rw [s2,q1];rfl))
    ·
     have s2:=Qn4 (ns:=t.uses) (ss:=s.use) (i:=i) (by omega)
     exact ((ih0 _ (by (first | omega | (simp only [Int.toNat_zero,List.drop_zero];omega)))).2.1 (0) rfl (by omega) (by with_reducible assumption) (by with_reducible assumption) (by with_reducible assumption)
      (hg0.landM okF hJ Qab (QyC B s days t i dJ0)
      ⟨(Qbk (Int.not_lt.1 q0)),trivial⟩ (by kernel_rfl) (by kernel_rfl))).cast (by (rw [s2];rfl))
   ·intro i hm0 h0 e1 e2 e3 ⟨dJ0,hdJ0,hg0⟩
    have hm:=QaL hs
    have hgp:=QaS hs
    have hst:=Qa5 hs
    by_cases q0:(i:Int) < ((↑t.goods.length:Int))
    ·
     have hp1:Qaz (Qkg B s days t i dJ0):=by
      have s2:=Qi8 (s:=s) (all:=t.goods) q0
      have s3:=Qn1 (l:=t.goods) h0 q0
      exact ⟨⟨by omega,by omega,(Qaj (z:=1) (fun _=> rfl) (by omega))⟩,⟨(Qbn q0),trivial⟩⟩
     by_cases q1:((↑(List.length (t.goods.getD i.toNat default)):Int):Int)≠((↑s.stock.length:Int))
     ·
      have s2:=Qi8 (s:=s) (all:=t.goods) q0
      have s3:=Qn1 (l:=t.goods) h0 q0
      rw [decide_eq_false (by omega)] at s2
      exact (GoE.endsT okF hJ Qab hg0 (QyN B s days t i dJ0)
       ⟨(Qju q1),hp1⟩).cast (by (rw [s2];rfl))
     ·
      have s2:=Qi8 (s:=s) (all:=t.goods) q0
      have s3:=Qn1 (l:=t.goods) h0 q0
      rw [decide_eq_true (by omega)] at s2
      exact ((ih0 _ (by omega)).2.2.1 (i) (0) rfl (by with_reducible assumption) (by with_reducible assumption) (by omega) (by omega) (by with_reducible assumption) (by with_reducible assumption) (by with_reducible assumption)
       (hg0.landM okF hJ Qab (QyZ B s days t i dJ0)
       ⟨(Qjn (Decidable.of_not_not q1)),hp1⟩ (by kernel_rfl) (by kernel_rfl))).cast (by (rw [s2];simp [Bool.and_assoc];done))
    ·
     have s2:=Qwv (s:=s) (all:=t.goods) (i:=i) (by omega)
     exact ((ih0 _ (by omega)).2.2.2 (0) (0) rfl (by omega) (by omega) (by with_reducible assumption) (by with_reducible assumption) (by with_reducible assumption)
      (hg0.landM okF hJ Qab (Qxr B s days t i dJ0)
      ⟨(Qbk (Int.not_lt.1 q0)),trivial⟩ (by kernel_rfl) (by kernel_rfl))).cast (by (rw [s2];simp [Bool.and_assoc];done))
   ·intro i k hm0 h0 h1 k0 hr e1 e2 e3 ⟨dJ0,hdJ0,hg0⟩
    have hm:=QaL hs
    have hgp:=QaS hs
    have hst:=Qa5 hs
    have hlt:=(Qc1 (hm.2 _ (QaJ (l:=s.lots) (i:=i) h0 (by omega)))).1
    have hp2:Qaz (QlX B s days t i k dJ0):=by
     exact ⟨⟨by omega,by omega,(Qaj (z:=1) (fun _=> rfl) (by omega))⟩,trivial⟩
    by_cases q0:(k:Int) < ((↑(List.length (t.goods.getD i.toNat default)):Int))
    ·
     have hp3:Qaz (Qk9 B s days t i k dJ0):=by
      have s2:=QdJ (ns:=t.goods.getD i.toNat default) (ss:=(s.lots.getD i.toNat default).goods) q0
      exact ⟨⟨by omega,by omega,(Qaj (z:=1) (fun _=> rfl) (by omega))⟩,⟨⟨by omega,by omega,(Qaj (z:=1) (fun _=> rfl) (by omega))⟩,⟨⟨by omega,by omega,(Qaj (z:=2) (fun _=> rfl) (by omega))⟩,⟨⟨by omega,by omega,(Qaj (z:=3) (fun _=> rfl) (by omega))⟩,⟨(Qbn q0),hp2⟩⟩⟩⟩⟩
     cases q1:inB (List.getD (t.goods.getD i.toNat default) k.toNat default) (Span.lo (List.getD (Qag.goods (s.lots.getD i.toNat default)) k.toNat default)) (Span.hi (List.getD (Qag.goods (s.lots.getD i.toNat default)) k.toNat default)) with
     | true=>
       have s2:=QdJ (ns:=t.goods.getD i.toNat default) (ss:=(s.lots.getD i.toNat default).goods) q0
       exact ((ih0 _ (by omega)).2.2.1 (i) (k+1) rfl (by with_reducible assumption) (by with_reducible assumption) (by omega) (by with_reducible assumption) (by with_reducible assumption) (by with_reducible assumption) (by with_reducible assumption)
        (hg0.landM okF hJ Qab (Qxw B s days t i k dJ0)
        ⟨(QaV (by omega) (by omega)),⟨⟨trivial,(by have t_:=rin (List.getD (t.goods.getD i.toNat default) k.toNat default) (Span.lo (List.getD (Qag.goods (s.lots.getD i.toNat default)) k.toNat default)) (Span.hi (List.getD (Qag.goods (s.lots.getD i.toNat default)) k.toNat default));rw [q1] at t_;exact t_)⟩,hp3⟩⟩ (by kernel_rfl) (by kernel_rfl))).cast (by (rw [s2,q1];rfl))
     | false=>
       have s2:=QdJ (ns:=t.goods.getD i.toNat default) (ss:=(s.lots.getD i.toNat default).goods) q0
       exact (GoE.endsT okF hJ Qab hg0 (Qwt B s days t i k dJ0)
        ⟨⟨trivial,(by have t_:=rin (List.getD (t.goods.getD i.toNat default) k.toNat default) (Span.lo (List.getD (Qag.goods (s.lots.getD i.toNat default)) k.toNat default)) (Span.hi (List.getD (Qag.goods (s.lots.getD i.toNat default)) k.toNat default));rw [q1] at t_;exact t_)⟩,hp3⟩).cast (by (rw [s2,q1];rfl))
    ·
     have s2:=Qn4 (ns:=t.goods.getD i.toNat default) (ss:=(s.lots.getD i.toNat default).goods) (i:=k) (by omega)
     exact ((ih0 _ (by omega)).2.1 (i+1) rfl (by omega) (by with_reducible assumption) (by with_reducible assumption) (by with_reducible assumption)
      (hg0.landM okF hJ Qab (Qza B s days t i k dJ0)
      ⟨(QaV (by omega) (by omega)),⟨(Qbk (Int.not_lt.1 q0)),hp2⟩⟩ (by kernel_rfl) (by kernel_rfl))).cast (by (rw [s2];rfl))
   ·intro sum i hm0 h0 h1 e1 e2 e3 ⟨dJ0,hdJ0,hg0⟩
    have hm:=QaL hs
    have hgp:=QaS hs
    have hst:=Qa5 hs
    by_cases q0:(i:Int) < ((↑t.gaps.length:Int))
    ·
     have hp4:Qaz (QkK B s days t sum i dJ0):=by
      have s2:=Qba (l:=t.gaps) (p:=fun x=> inB x s.glo s.ghi) h0 q0
      have s3:=Qib (l:=t.gaps) h0 q0
      exact ⟨⟨by omega,by omega,(Qaj (z:=1) (fun _=> rfl) (by omega))⟩,⟨(Qbn q0),trivial⟩⟩
     cases q1:inB (t.gaps.getD i.toNat default) s.glo s.ghi with
     | true=>
       have s2:=Qba (l:=t.gaps) (p:=fun x=> inB x s.glo s.ghi) h0 q0
       have s3:=Qib (l:=t.gaps) h0 q0
       have g1:=QaP.1 ‹inB (t.gaps.getD i.toNat default) _ _=true›
       exact ((ih0 _ (by omega)).2.2.2 (sum+t.gaps.getD i.toNat default) (i+1) rfl (by omega) (by omega) (by with_reducible assumption) (by with_reducible assumption) (by with_reducible assumption)
        (hg0.landM okF hJ Qab (Qw4 B s days t sum i dJ0)
        ⟨(QaV (by omega) (by omega)),⟨(QaV (by omega) (by omega)),⟨⟨by omega,by omega,(Qaj (z:=1) (fun _=> rfl) (by omega))⟩,⟨⟨trivial,(by have t_:=rin (t.gaps.getD i.toNat default) s.glo s.ghi;rw [q1] at t_;exact t_)⟩,hp4⟩⟩⟩⟩ (by kernel_rfl) (by kernel_rfl))).cast (by (simp only [s2,s3,q1,Int.add_assoc,Bool.true_and,Bool.false_and];done))
     | false=>
       have s2:=Qba (l:=t.gaps) (p:=fun x=> inB x s.glo s.ghi) h0 q0
       have s3:=Qib (l:=t.gaps) h0 q0
       exact (GoE.endsT okF hJ Qab hg0 (QuQ B s days t sum i dJ0)
        ⟨⟨trivial,(by have t_:=rin (t.gaps.getD i.toNat default) s.glo s.ghi;rw [q1] at t_;exact t_)⟩,hp4⟩).cast (by (simp only [s2,s3,q1,Int.add_assoc,Bool.true_and,Bool.false_and];done))
    ·
     have hp5:Qaz (Ql7 B s days t sum i dJ0):=by
      exact ⟨(Qbk (Int.not_lt.1 q0)),trivial⟩
     by_cases q1:(days:Int)<=(sum)
     ·
      have s2:=QaB (l:=t.gaps) (p:=fun x=> inB x s.glo s.ghi) (i:=i) (by omega)
      have s3:=QnD (l:=t.gaps) (i:=i) (by omega)
      exact (GoE.endsT okF hJ Qab hg0 (QuF B s days t sum i dJ0)
       ⟨(QbE q1),hp5⟩).cast (by (simp only [s2,s3,Bool.true_and];simp_all;done))
     ·
      have s2:=QaB (l:=t.gaps) (p:=fun x=> inB x s.glo s.ghi) (i:=i) (by omega)
      have s3:=QnD (l:=t.gaps) (i:=i) (by omega)
      exact (GoE.endsT okF hJ Qab hg0 (QtL B s days t sum i dJ0)
       ⟨(QbD (Int.not_le.1 q1)),hp5⟩).cast (by (simp only [s2,s3,Bool.true_and];simp_all;done))
set_option maxHeartbeats 4000000 in
theorem Q0J (s:Qaa) (days:Int) (t:Qad) (hs:Qa0 s=true) (hfacts:t.uses.length<=9223372036854775807/\t.gaps.length<=9223372036854775807/\t.goods.length<=9223372036854775807) {B:Lo} (hJ:∀w,B.has w->J0 w):EndsT Tryz.prog B (Qae Tryz.prog 40 141 (([.agg (Qah s).toArray,.int .i64 days,.agg (Qa2 t).toArray]).map (Qam 0 4))) (.bool (QhT s days t)):=by
 have hm:=QaL hs
 have hgp:=QaS hs
 have hst:=Qa5 hs
 by_cases q0:((↑t.uses.length:Int):Int)≠((↑s.stock.length:Int))
 ·
  exact (GoE.endsT okF hJ Qab GoE.start (QuD B s days t)
   ⟨(Qju q0),trivial⟩).cast (by (simp only [QhT,decide_eq_false (show ¬t.uses.length=s.stock.length by omega),Bool.false_and];done))
 ·
  have hp6:Qaz (Qkx B s days t):=by
   exact ⟨(Qjn (Decidable.of_not_not q0)),trivial⟩
  by_cases q1:((↑t.goods.length:Int):Int)≠((↑s.lots.length:Int))
  ·
   exact (GoE.endsT okF hJ Qab GoE.start (Qu2 B s days t)
    ⟨(Qju q1),hp6⟩).cast (by (simp only [QhT,decide_eq_false (show ¬t.goods.length=s.lots.length by omega),Bool.false_and,Bool.and_false];done))
  ·
   have hp7:Qaz (Qln B s days t):=by
    exact ⟨(Qjn (Decidable.of_not_not q1)),hp6⟩
   by_cases q2:(300:Int) < ((↑t.gaps.length:Int))
   ·
    exact (GoE.endsT okF hJ Qab GoE.start (QvC B s days t)
     ⟨(Qbn q2),hp7⟩).cast (by (simp only [QhT,decide_eq_false (show ¬t.gaps.length<=300 by omega),Bool.false_and,Bool.and_false];done))
   ·
    exact ((Qxj s days t hs hfacts hJ _).1 (0) rfl (by omega) (by omega) (by omega) (by omega)
     (GoE.start.landM okF hJ Qab (Quj B s days t)
     ⟨(Qbk (Int.not_lt.1 q2)),hp7⟩ (by kernel_rfl) (by kernel_rfl))).cast (by (simp only [QhT,decide_eq_true (show t.uses.length=s.stock.length by omega),decide_eq_true (show t.goods.length=s.lots.length by omega),decide_eq_true (show t.gaps.length<=300 by omega),Bool.true_and];done))
theorem Q3X (s:Qaa) (days:Int) (t:Qad) (hs:Qa0 s=true):Qao Tryz.prog J0 40 #[.agg (Qah s).toArray,.int .i64 days,.agg (Qa2 t).toArray] (.bool (QhT s days t)):=
 QbW (ts:=[.agg (Qah s).toArray,.int .i64 days,.agg (Qa2 t).toArray]) (t.uses.length<=9223372036854775807/\t.gaps.length<=9223372036854775807/\t.goods.length<=9223372036854775807) (fun _ _ ht=> ⟨ht.ln2 (i:=2) (j:=0) rfl rfl,ht.ln2 (i:=2) (j:=1) rfl rfl,ht.ln2 (i:=2) (j:=2) rfl rfl⟩) Qbr (c0:=Qae Tryz.prog 40 141 (([.agg (Qah s).toArray,.int .i64 days,.agg (Qa2 t).toArray]).map (Qam 0 4))) (by kernel_rfl) (by kernel_rfl) fun hfacts B hJ=> Q0J s days t hs hfacts hJ
end
end Go.Proofs.YtiabgkiccaodmaaGreat

namespace Go.Proofs.YtiabgkiccaodmaaGreat
open Go Go.CE Go.RowKit
set_option maxRecDepth 100000
def Qid (day:Int):List Int->Int->Bool
 | [],_=> false
 | g::l,s=> decide (s+g=day) || Qid day l (s+g)
end Go.Proofs.YtiabgkiccaodmaaGreat

namespace Go.Proofs.YtiabgkiccaodmaaGreat
open Go Go.CE Go.RowKit
theorem QuX {a b c:Int} (h1:a<=b) (h2:b<=c):upI a c=upI a b++upI b c:=by
 obtain ⟨n,hn⟩:∃n:Nat,b=a+n:=⟨(b - a).toNat,by omega⟩
 subst hn
 induction n generalizing a with
 | zero=> rw [Qgl (a:=a) (b:=a+((0:Nat):Int)) (by omega),show a+((0:Nat):Int)=a by omega];rfl
 | succ n ih=>
   rw [Qej (a:=a) (b:=c) (by omega),Qej (a:=a) (b:=a+((n+1:Nat):Int)) (by omega),show a+((n+1:Nat):Int)=(a+1)+(n:Int) by omega,ih (by omega) (by omega)]
   rfl
theorem Qgk {a b x:Int} (h:x∈upI a b):a<=x/\x < b:=by
 unfold upI at h
 obtain ⟨k,hk,rfl⟩:=List.mem_map.1 h
 have:=List.mem_range.1 hk
 omega
theorem QvR {s x n:Int} (hs:0<=s) (hx:0<=x) (hn:0<=n):QjP (Qo4 s x) n=(QjP s n || decide (x=n)):=by
 rw [QnC,QnC]
 unfold Qo4 orN QsK
 rw [Int.toNat_natCast,Int.toNat_natCast,Nat.testBit_or,Nat.testBit_two_pow]
 congr 1
 exact decide_eq_decide.2 (by omega)
theorem Q44 {s n:Int}:0<=Qo4 s n:=Int.natCast_nonneg _
theorem Qrc {n:Int} (hn:0<=n):∀(l:List Int) (s:Int),(∀x∈l,0<=x)->0<=s->QjP (QaF l s) n=(QjP s n || l.contains n)
 | [],s,_,_=> by simp [QaF]
 | x::l,s,h,hs=> by
   rw [QaF,Qrc hn l (Qo4 s x) (fun y hy=> h y (by simp [hy])) Q44,QvR hs (h x (by simp)) hn,List.contains_cons,Bool.or_assoc]
   congr 1
   congr 1
   by_cases e:x=n
   ·subst e;simp
   ·rw [decide_eq_false e];symm;exact beq_eq_false_iff_ne.2 (Ne.symm e)
theorem Qwp {n:Int}:QjP 0 n=false:=by rw [QnC];simp
theorem Q0x {s n:Int} (h0:0<=s) (hn:Qcs s<=n):QjP s n=false:=by
 rw [QnC]
 refine Nat.testBit_lt_two_pow ?_
 unfold Qcs at hn
 by_cases hs:s=0
 ·subst hs;exact Nat.two_pow_pos _
 ·rw [if_neg hs] at hn
  have hb:s.toNat≠0:=by omega
  have:s.toNat < 2 ^ (s.toNat.log2+1):=Nat.lt_log2_self
  exact Nat.lt_of_lt_of_le this (Nat.pow_le_pow_right (by decide) (by omega))
theorem Qoi {things:Int}:∀{l:List Int} {least:Int},QdS things l least=true->∀x∈l,least<=x/\x < things
 | [],_,_,x,hx=> by simp at hx
 | n::l,least,h,x,hx=> by
   simp only [QdS,Bool.and_eq_true,QaP] at h
   rcases List.mem_cons.1 hx with rfl | hx
   ·omega
   ·have:=Qoi h.2 x hx;omega
theorem Qry {things:Int}:∀(m:Nat) (l:List Int) (least:Int),(things - least).toNat=m->QdS things l least=true->(upI least things).filter (fun n=> l.contains n)=l:=by
 intro m
 induction m with
 | zero=>
   intro l least hm h
   rw [Qgl (by omega)]
   cases l with
   | nil=> rfl
   | cons x l=> have:=Qoi h x (by simp);omega
 | succ m ih=>
   intro l least hm h
   cases l with
   | nil=> simp
   | cons x l=>
     have hx:=Qoi h x (by simp)
     rw [Qej (by omega)]
     by_cases e:least=x
     ·subst e
      rw [List.filter_cons_of_pos (by simp)]
      simp only [QdS,Bool.and_eq_true] at h
      congr 1
      refine (List.filter_congr fun n hn=> ?_).trans (ih l (least+1) (by omega) h.2)
      have:=(Qgk hn).1
      rw [List.contains_cons,beq_eq_false_iff_ne.2 (by omega),Bool.false_or]
     ·have hne:(x::l).contains least=false:=by
       cases hc:(x::l).contains least with
       | false=> rfl
       | true=>
         have hm2:least∈x::l:=List.contains_iff_mem.1 hc
         simp only [QdS,Bool.and_eq_true,QaP] at h
         rcases List.mem_cons.1 hm2 with rfl | hm2
         ·exact absurd rfl e
         ·have:=Qoi h.2 least hm2;omega
      rw [List.filter_cons_of_neg (by rw [hne];decide)]
      refine ih (x::l) (least+1) (by omega) ?_
      simp only [QdS,Bool.and_eq_true,QaP] at h ⊢
      exact ⟨by omega,h.2⟩
theorem QxF {α:Type} [Inhabited α] {xs:List α} {load:List Int} {things:Nat} (ht:things<=61) (h:QdS things load 0=true):Qav (QaF load 0) xs 0=load.map fun x=> xs.getD x.toNat default:=by
 have hin:=QiW h (Int.le_refl 0)
 have hlt:=Qjf ht load 0 hin (Int.le_refl 0) (Int.pow_pos (by decide))
 have hle:=QlO hlt.1 hlt.2
 have h0:0<=Qcs (QaF load 0):=by unfold Qcs;split <;> omega
 have e1:(upI 0 (Qcs (QaF load 0))).filter (QjP (QaF load 0))=(upI 0 things).filter (QjP (QaF load 0)):=by
  rw [QuX (a:=0) (b:=Qcs (QaF load 0)) (c:=things) h0 hle,List.filter_append]
  have:(upI (Qcs (QaF load 0)) things).filter (QjP (QaF load 0))=[]:=by
   rw [List.filter_eq_nil_iff]
   intro n hn
   rw [Q0x hlt.1 (Qgk hn).1];decide
  rw [this,List.append_nil]
 have e2:(upI 0 things).filter (QjP (QaF load 0))=load:=by
  refine (List.filter_congr fun n hn=> ?_).trans (Qry _ load 0 rfl h)
  rw [Qrc (Qgk hn).1 load 0 (fun x hx=> (hin x hx).1) (Int.le_refl 0),Qwp,Bool.false_or]
 unfold Qav
 rw [e1,e2]
theorem Q22 {s:Qaa} {load:List Int} (hs:Qa0 s=true):(QdS s.lots.length load 0 && decide (Q0a s load<=s.hold))=QcF s load:=by
 have hm:=QaL hs
 unfold QcF Qru Q0a
 cases h:QdS s.lots.length load 0 with
 | false=> rfl
 | true=> rw [QxF (by omega) h,List.map_map];rfl
theorem Qpr {days:Int}:∀(l:List Int) (day:Int) (bs:List Bool) (d:Int),(∀g∈l,0<=g)->0<=day->bs.length=days.toNat->0<=d->d < days->(Qgf days l day bs).getD d.toNat default=(bs.getD d.toNat default || Qid d l day)
 | [],day,bs,d,_,_,_,_,_=> by simp [Qgf,Qid]
 | g::l,day,bs,d,h,h0,hb,d0,d1=> by
   have hg:=h g (by simp)
   simp only [Qgf,Qid]
   rw [Qpr l (day+g) _ d (fun x hx=> h x (by simp [hx])) (by omega) (by cases decide (day+g < days) <;> simp [hb]) d0 d1,<-Bool.or_assoc]
   congr 1
   have hk:d.toNat < bs.length:=by omega
   by_cases e:day+g < days
   ·rw [decide_eq_true e,cond_true]
    simp only [List.getD_eq_getElem?_getD,List.getElem?_set]
    by_cases e2:day+g=d
    ·rw [if_pos (by omega),decide_eq_true e2,if_pos (by omega)];simp
    ·rw [if_neg (by omega),decide_eq_false e2,Bool.or_false]
   ·rw [decide_eq_false e,cond_false,decide_eq_false (by omega),Bool.or_false]
theorem QuN {days d:Int} {gaps:List Int} (h:∀g∈gaps,0<=g) (d0:0<=d) (d1:d < days):(QcC days gaps).getD d.toNat default=Qid d gaps 0:=by
 unfold QcC
 rw [Qpr gaps 0 _ d h (Int.le_refl 0) (by simp) d0 d1]
 have hk:d.toNat < days.toNat:=by omega
 simp [List.getD_eq_getElem?_getD,hk]
theorem Q20 {s:Qaa} {load days k:Int} {t:Qad} (h0:0<=k) (h1:k < s.stock.length):(QaI s load days t).getD k.toNat default=Qm3 s load days t k:=by
 have hk:k.toNat < (upI 0 (s.stock.length:Int)).length:=by rw [QbM];omega
 have e:=Qif h0 h1
 rw [List.getD_eq_getElem?_getD,List.getElem?_eq_getElem hk] at e
 unfold QaI
 rw [List.getD_eq_getElem?_getD,List.getElem?_map,List.getElem?_eq_getElem hk]
 simp only [Option.map_some,Option.getD_some] at e ⊢
 rw [e]
theorem Qfl {s:Qaa} {load days:Int} {t:Qad}:(QaI s load days t).length=s.stock.length:=by simp [QaI,QbM]
theorem Qny {s:Qaa} {load days k:Int} {t:Qad} {f:Gd->Int} (h0:0<=k) (h1:k < s.stock.length):((QaI s load days t).map f).getD k.toNat default=f (Qm3 s load days t k):=by
 have hk:k.toNat < (QaI s load days t).length:=by rw [Qfl];omega
 have e:=Q20 (s:=s) (load:=load) (days:=days) (t:=t) h0 h1
 rw [List.getD_eq_getElem?_getD,List.getElem?_eq_getElem hk] at e
 rw [List.getD_eq_getElem?_getD,List.getElem?_map,List.getElem?_eq_getElem hk]
 simp only [Option.map_some,Option.getD_some] at e ⊢
 rw [e]
end Go.Proofs.YtiabgkiccaodmaaGreat

namespace Go.Proofs.YtiabgkiccaodmaaGreat
open Go Go.CE Go.RowKit
noncomputable section
set_option maxRecDepth 100000
theorem QxC (s:Qaa) (hb:∀l∈s.lots,l.goods.length<=8):Qao Tryz.prog J0 44 #[.agg (Qah s).toArray] (.bool (Qa0 s)):=by
 have h:=Q4a s hb;rw [QxD] at h;exact h
theorem Q1T (s:Qaa) (load:List Int) (hs:Qa0 s=true) (hl:load.length<=10):Qao Tryz.prog J0 56 #[.agg (Qah s).toArray,slI load] (.bool (QcF s load)):=by
 have h:=Q5b s load hs hl;rw [Q22 hs] at h;exact h
theorem Qyn (s:Qaa) (days:Int) (t:Qad) (hs:Qa0 s=true):Qao Tryz.prog J0 40 #[.agg (Qah s).toArray,.int .i64 days,.agg (Qa2 t).toArray] (.bool (Qbv s days t)):=by
 have h:=Q3X s days t hs;rw [QvQ hs] at h;exact h
def Qhd (s:Qaa):Array Value:=#[slT s.stock.length (Qac Qa1 s.stock),slT s.use.length (Qac QaD s.use),.int .i64 s.glo,.int .i64 s.ghi,slT s.lots.length (Qac Qaq s.lots),.int .i64 s.hold]
def QiG (B:Lo) (s:Qaa) (load:List Int) (days:Int):List Prop:=[Qaz []/\Qao Tryz.prog J0 44 #[.agg (Qhd s)] (.bool true)]++([]:List Prop)
def QmM (s:Qaa) (load:List Int) (days:Int):Qap:=[(3,Qai.pure (.bool true) [])]
def Qi4 (B:Lo) (s:Qaa) (load:List Int) (days:Int):List Prop:=[Qaz []/\Qao Tryz.prog J0 56 #[.agg (Qhd s),slT load.length (Qac Qa1 load)] (.bool true)]++QiG B s load days
def QmS (s:Qaa) (load:List Int) (days:Int):Qap:=QmM s load days++[(7,Qai.pure (.bool true) [])]
theorem Qvm (B:Lo) (s:Qaa) (load:List Int) (days:Int):QaK (Qak Tryz.prog (Qaw Tryz.prog) J0 B 6 1 (Qae Tryz.prog 39 18 (([.agg (Qah s).toArray,slI load,.int .i64 days]).map (Qam 0 4))) H00 1
 (QmS s load days++[(11,Qai.pure (.bool true) [])]) 0 [] []) []=some (.bool true,
 [Qaz []/\Qao Tryz.prog J0 52 #[.int .i64 days] (.bool true)]++Qi4 B s load days):=by kernel_rfl
theorem Qvp (B:Lo) (s:Qaa) (load:List Int) (days:Int):QaK (Qak Tryz.prog (Qaw Tryz.prog) J0 B 6 1 (Qae Tryz.prog 39 18 (([.agg (Qah s).toArray,slI load,.int .i64 days]).map (Qam 0 4))) H00 1
 (QmS s load days++[(11,Qai.pure (.bool false) [])]) 0 [] []) []=some (.bool false,
 [Qaz []/\Qao Tryz.prog J0 52 #[.int .i64 days] (.bool false)]++Qi4 B s load days):=by kernel_rfl
theorem QuI (B:Lo) (s:Qaa) (load:List Int) (days:Int):QaK (Qak Tryz.prog (Qaw Tryz.prog) J0 B 6 1 (Qae Tryz.prog 39 18 (([.agg (Qah s).toArray,slI load,.int .i64 days]).map (Qam 0 4))) H00 1
 (QmM s load days++[(7,Qai.pure (.bool false) [])]) 0 [] []) []=some (.bool false,
 [Qaz []/\Qao Tryz.prog J0 56 #[.agg (Qhd s),slT load.length (Qac Qa1 load)] (.bool false)]++QiG B s load days):=by kernel_rfl
theorem QtK (B:Lo) (s:Qaa) (load:List Int) (days:Int):QaK (Qak Tryz.prog (Qaw Tryz.prog) J0 B 6 1 (Qae Tryz.prog 39 18 (([.agg (Qah s).toArray,slI load,.int .i64 days]).map (Qam 0 4))) H00 1
 [(3,Qai.pure (.bool false) [])] 0 [] []) []=some (.bool false,
 [Qaz []/\Qao Tryz.prog J0 44 #[.agg (Qhd s)] (.bool false)]):=by kernel_rfl
set_option maxHeartbeats 4000000 in
theorem Qy5 (s:Qaa) (load:List Int) (days:Int) (hb:∀l∈s.lots,l.goods.length<=8) (hl:load.length<=10) {B:Lo} (hJ:∀w,B.has w->J0 w):EndsT Tryz.prog B (Qae Tryz.prog 39 18 (([.agg (Qah s).toArray,slI load,.int .i64 days]).map (Qam 0 4))) (.bool (Qa0 s && (QcF s load && inB days 0 300))):=by
 cases q0:Qa0 s with
 | true=>
   have hp0:Qaz (QiG B s load days):=by
    exact ⟨⟨trivial,(by have t_:=QxC (s) (by with_reducible assumption);rw [q0] at t_;exact t_)⟩,trivial⟩
   cases q1:QcF s load with
   | true=>
     have hp1:Qaz (Qi4 B s load days):=by
      exact ⟨⟨trivial,(by have t_:=Q1T (s) (load) (by with_reducible assumption) (by with_reducible assumption);rw [q1] at t_;exact t_)⟩,hp0⟩
     cases q2:inB days 0 300 with
     | true=>
       exact (GoE.endsT okF hJ Qab GoE.start (Qvm B s load days)
        ⟨⟨trivial,(by have t_:=Q3Y (days);rw [q2] at t_;exact t_)⟩,hp1⟩).cast (by rfl)
     | false=>
       exact (GoE.endsT okF hJ Qab GoE.start (Qvp B s load days)
        ⟨⟨trivial,(by have t_:=Q3Y (days);rw [q2] at t_;exact t_)⟩,hp1⟩).cast (by rfl)
   | false=>
     exact (GoE.endsT okF hJ Qab GoE.start (QuI B s load days)
      ⟨⟨trivial,(by have t_:=Q1T (s) (load) (by with_reducible assumption) (by with_reducible assumption);rw [q1] at t_;exact t_)⟩,hp0⟩).cast (by rfl)
 | false=>
   exact (GoE.endsT okF hJ Qab GoE.start (QtK B s load days)
    ⟨⟨trivial,(by have t_:=QxC (s) (by with_reducible assumption);rw [q0] at t_;exact t_)⟩,trivial⟩).cast (by rfl)
theorem Qo0 (s:Qaa) (load:List Int) (days:Int) (hb:∀l∈s.lots,l.goods.length<=8) (hl:load.length<=10):Qao Tryz.prog J0 39 #[.agg (Qah s).toArray,slI load,.int .i64 days] (.bool (Qa0 s && (QcF s load && inB days 0 300))):=
 Qa8 (ts:=[.agg (Qah s).toArray,slI load,.int .i64 days]) Qbr (c0:=Qae Tryz.prog 39 18 (([.agg (Qah s).toArray,slI load,.int .i64 days]).map (Qam 0 4))) (by kernel_rfl) (by kernel_rfl) fun B hJ=> Qy5 s load days hb hl hJ
def Qcp (t:Qad) (i:Int):List Value:=[pA 2 0,.int .i64 i]
def QaT (t:Qad) (i:Int):List Obj:=[Obj.cells #[Qay 1 (slT t.uses.length (Qac Qa1 t.uses)),Qay 1 (slT t.gaps.length (Qac Qa1 t.gaps)),Qay 1 (slT t.goods.length (Qac Qas t.goods))] 65]
def Qcn:List Item:=([.code [1,0,1,0,0],.inLoop [1,0,1,0,0],.inBlock 0,.code [1,1]]).map (it (Qan Tryz.prog 37))
def Qxk (B:Lo) (c0:CF) (t:Qad) (i:Int):Prop:=∃dJ:Nat->Value,(∀t,Qbb (dJ t))/\GoE Tryz.prog B c0 H00 1 (Qa4 37 38 (([1,3]:List Nat).zip (Qcp t i)) dJ Qcn) (Qa3 (QaT t i)) (2+(QaT t i).length) []
def Qmb (B:Lo) (t:Qad) (i:Int) (dJ0:Nat->Value):List Prop:=[ltq i (↑t.goods.length:Int)=true]++([]:List Prop)
def QoM (t:Qad) (i:Int) (dJ0:Nat->Value):Qap:=[(4,hvT)]
def Qme (B:Lo) (t:Qad) (i:Int) (dJ0:Nat->Value):List Prop:=[i=(↑i.toNat:Int)/\Int.toNat i < List.length t.goods/\Array.extract (Qac Qas t.goods) (Int.toNat i * TypeInfo.size Tryz.t22) (Int.toNat i * TypeInfo.size Tryz.t22+TypeInfo.size Tryz.t22)=#[slT (List.length (t.goods.getD i.toNat default)) (Qac Qa1 (t.goods.getD i.toNat default))],ltq i 12=true]++Qmb B t i dJ0
def Qqx (t:Qad) (i:Int) (dJ0:Nat->Value):Qap:=QoM t i dJ0++[(7,hvT),(12,Qai.tidx i.toNat #[slT (List.length (t.goods.getD i.toNat default)) (Qac Qa1 (t.goods.getD i.toNat default))])]
theorem QvN (B:Lo) (t:Qad) (i:Int) (dJ0:Nat->Value):QaK (Qak Tryz.prog (Qaw Tryz.prog) J0 B 14 1 (Qa4 37 38 (([1,3]:List Nat).zip (Qcp t i)) dJ0 Qcn) (Qa3 (QaT t i)) (2+(QaT t i).length)
 (Qqx t i dJ0++[(15,hvT)]) 0 [] []) []=some (.bool false,
 [ltq 8 (↑(List.length (t.goods.getD i.toNat default)):Int)=true]++Qme B t i dJ0):=by kernel_rfl
theorem Qz1 (B:Lo) (t:Qad) (i:Int) (dJ0:Nat->Value):landM (Qak Tryz.prog (Qaw Tryz.prog) J0 B 14 1 (Qa4 37 38 (([1,3]:List Nat).zip (Qcp t i)) dJ0 Qcn) (Qa3 (QaT t i)) (2+(QaT t i).length)
 (Qqx t i dJ0++[(15,hvF),(17,hvI (i+1))]) 0 [] []) [1,3] [(2,KS.auto)] []=some ⟨37,38,Qcn,[],.run,none,Qcp t (i+1),QaT t (i+1),
 [wq (i+1)=i+1,ltq 8 (↑(List.length (t.goods.getD i.toNat default)):Int)=false]++Qme B t i dJ0⟩:=by kernel_rfl
def Qkz (B:Lo) (t:Qad) (i:Int) (dJ0:Nat->Value):List Prop:=[ltq i 12=false]++Qmb B t i dJ0
def QpU (t:Qad) (i:Int) (dJ0:Nat->Value):Qap:=QoM t i dJ0++[(7,hvF)]
def Qkm (B:Lo) (t:Qad) (i:Int) (dJ0:Nat->Value):List Prop:=[(!ltq 8 (↑t.uses.length:Int))=true]++Qkz B t i dJ0
def Qqk (t:Qad) (i:Int) (dJ0:Nat->Value):Qap:=QpU t i dJ0++[(12,hvT)]
def QlD (B:Lo) (t:Qad) (i:Int) (dJ0:Nat->Value):List Prop:=[(!ltq 9 (↑t.goods.length:Int))=true]++Qkm B t i dJ0
def Qra (t:Qad) (i:Int) (dJ0:Nat->Value):Qap:=Qqk t i dJ0++[(17,hvT)]
theorem QwV (B:Lo) (t:Qad) (i:Int) (dJ0:Nat->Value):QaK (Qak Tryz.prog (Qaw Tryz.prog) J0 B 9 1 (Qa4 37 38 (([1,3]:List Nat).zip (Qcp t i)) dJ0 Qcn) (Qa3 (QaT t i)) (2+(QaT t i).length)
 (Qra t i dJ0++[(23,hvT)]) 0 [] []) []=some (.bool true,
 [(!ltq 310 (↑t.gaps.length:Int))=true]++QlD B t i dJ0):=by kernel_rfl
theorem QwG (B:Lo) (t:Qad) (i:Int) (dJ0:Nat->Value):QaK (Qak Tryz.prog (Qaw Tryz.prog) J0 B 9 1 (Qa4 37 38 (([1,3]:List Nat).zip (Qcp t i)) dJ0 Qcn) (Qa3 (QaT t i)) (2+(QaT t i).length)
 (Qra t i dJ0++[(23,hvF)]) 0 [] []) []=some (.bool false,
 [(!ltq 310 (↑t.gaps.length:Int))=false]++QlD B t i dJ0):=by kernel_rfl
theorem QyF (B:Lo) (t:Qad) (i:Int) (dJ0:Nat->Value):QaK (Qak Tryz.prog (Qaw Tryz.prog) J0 B 9 1 (Qa4 37 38 (([1,3]:List Nat).zip (Qcp t i)) dJ0 Qcn) (Qa3 (QaT t i)) (2+(QaT t i).length)
 (Qqk t i dJ0++[(17,hvF)]) 0 [] []) []=some (.bool false,
 [(!ltq 9 (↑t.goods.length:Int))=false]++Qkm B t i dJ0):=by kernel_rfl
theorem QyP (B:Lo) (t:Qad) (i:Int) (dJ0:Nat->Value):QaK (Qak Tryz.prog (Qaw Tryz.prog) J0 B 9 1 (Qa4 37 38 (([1,3]:List Nat).zip (Qcp t i)) dJ0 Qcn) (Qa3 (QaT t i)) (2+(QaT t i).length)
 (QpU t i dJ0++[(12,hvF)]) 0 [] []) []=some (.bool false,
 [(!ltq 8 (↑t.uses.length:Int))=false]++Qkz B t i dJ0):=by kernel_rfl
def Ql0 (B:Lo) (t:Qad) (i:Int) (dJ0:Nat->Value):List Prop:=[ltq i (↑t.goods.length:Int)=false]++([]:List Prop)
def Qqb (t:Qad) (i:Int) (dJ0:Nat->Value):Qap:=[(4,hvF)]
def Qkp (B:Lo) (t:Qad) (i:Int) (dJ0:Nat->Value):List Prop:=[(!ltq 8 (↑t.uses.length:Int))=true]++Ql0 B t i dJ0
def Qrb (t:Qad) (i:Int) (dJ0:Nat->Value):Qap:=Qqb t i dJ0++[(12,hvT)]
def Qly (B:Lo) (t:Qad) (i:Int) (dJ0:Nat->Value):List Prop:=[(!ltq 9 (↑t.goods.length:Int))=true]++Qkp B t i dJ0
def QpD (t:Qad) (i:Int) (dJ0:Nat->Value):Qap:=Qrb t i dJ0++[(17,hvT)]
theorem QvP (B:Lo) (t:Qad) (i:Int) (dJ0:Nat->Value):QaK (Qak Tryz.prog (Qaw Tryz.prog) J0 B 9 1 (Qa4 37 38 (([1,3]:List Nat).zip (Qcp t i)) dJ0 Qcn) (Qa3 (QaT t i)) (2+(QaT t i).length)
 (QpD t i dJ0++[(23,hvT)]) 0 [] []) []=some (.bool true,
 [(!ltq 310 (↑t.gaps.length:Int))=true]++Qly B t i dJ0):=by kernel_rfl
theorem QxN (B:Lo) (t:Qad) (i:Int) (dJ0:Nat->Value):QaK (Qak Tryz.prog (Qaw Tryz.prog) J0 B 9 1 (Qa4 37 38 (([1,3]:List Nat).zip (Qcp t i)) dJ0 Qcn) (Qa3 (QaT t i)) (2+(QaT t i).length)
 (QpD t i dJ0++[(23,hvF)]) 0 [] []) []=some (.bool false,
 [(!ltq 310 (↑t.gaps.length:Int))=false]++Qly B t i dJ0):=by kernel_rfl
theorem Qzr (B:Lo) (t:Qad) (i:Int) (dJ0:Nat->Value):QaK (Qak Tryz.prog (Qaw Tryz.prog) J0 B 9 1 (Qa4 37 38 (([1,3]:List Nat).zip (Qcp t i)) dJ0 Qcn) (Qa3 (QaT t i)) (2+(QaT t i).length)
 (Qrb t i dJ0++[(17,hvF)]) 0 [] []) []=some (.bool false,
 [(!ltq 9 (↑t.goods.length:Int))=false]++Qkp B t i dJ0):=by kernel_rfl
theorem Qyi (B:Lo) (t:Qad) (i:Int) (dJ0:Nat->Value):QaK (Qak Tryz.prog (Qaw Tryz.prog) J0 B 9 1 (Qa4 37 38 (([1,3]:List Nat).zip (Qcp t i)) dJ0 Qcn) (Qa3 (QaT t i)) (2+(QaT t i).length)
 (Qqb t i dJ0++[(12,hvF)]) 0 [] []) []=some (.bool false,
 [(!ltq 8 (↑t.uses.length:Int))=false]++Ql0 B t i dJ0):=by kernel_rfl
theorem Qum (B:Lo) (t:Qad):landM (Qak Tryz.prog (Qaw Tryz.prog) J0 B 7 1 (Qae Tryz.prog 37 38 (([.agg (Qa2 t).toArray]).map (Qam 0 4))) H00 1
 [] 0 [] []) [1,3] [(1,KS.auto)] []=some ⟨37,38,Qcn,[],.run,none,Qcp t (0),QaT t (0),
 []⟩:=by kernel_rfl
set_option maxHeartbeats 4000000 in
theorem QxT (t:Qad)  (hfacts:t.uses.length<=9223372036854775807/\t.gaps.length<=9223372036854775807/\t.goods.length<=9223372036854775807) {B:Lo} (hJ:∀w,B.has w->J0 w) {c0:CF}:∀m:Nat,(∀(i:Int),t.goods.length - i.toNat=m->∀(h0:0<=i),Qxk B c0 t i->EndsT Tryz.prog B c0 (.bool (((t.goods.take 12).drop i.toNat).all (fun l=> decide (l.length<=8)) && (decide (t.uses.length<=8) && (decide (t.goods.length<=9) && decide (t.gaps.length<=310)))))):=by
 intro m0
 induction m0 using Nat.strongRecOn with
 | _ m0 ih0=>
   intro i hm0 h0 ⟨dJ0,hdJ0,hg0⟩
   by_cases q0:(i:Int) < ((↑t.goods.length:Int))
   ·
    have hp0:Qaz (Qmb B t i dJ0):=by
     exact ⟨(Qbn q0),trivial⟩
    by_cases q1:(i:Int) < (12)
    ·
     have hp1:Qaz (Qme B t i dJ0):=by
      have s2:=Qba (l:=t.goods.take 12) (p:=fun l=> decide (l.length<=8)) h0 (by rw [List.length_take];omega)
      have e3:(t.goods.take 12).getD i.toNat default=t.goods.getD i.toNat default:=by simp only [List.getD_eq_getElem?_getD];rw [List.getElem?_take_of_lt (by omega)]
      rw [e3] at s2
      exact ⟨⟨by omega,by omega,(Qaj (z:=1) (fun _=> rfl) (by omega))⟩,⟨(Qbn q1),hp0⟩⟩
     by_cases q2:(8:Int) < ((↑(List.length (t.goods.getD i.toNat default)):Int))
     ·
      have s2:=Qba (l:=t.goods.take 12) (p:=fun l=> decide (l.length<=8)) h0 (by rw [List.length_take];omega)
      have e3:(t.goods.take 12).getD i.toNat default=t.goods.getD i.toNat default:=by simp only [List.getD_eq_getElem?_getD];rw [List.getElem?_take_of_lt (by omega)]
      rw [e3] at s2
      rw [decide_eq_false (by omega)] at s2
      exact (GoE.endsT okF hJ Qab hg0 (QvN B t i dJ0)
       ⟨(Qbn q2),hp1⟩).cast (by (simp only [s2,Bool.true_and,Bool.false_and];done))
     ·
      have s2:=Qba (l:=t.goods.take 12) (p:=fun l=> decide (l.length<=8)) h0 (by rw [List.length_take];omega)
      have e3:(t.goods.take 12).getD i.toNat default=t.goods.getD i.toNat default:=by simp only [List.getD_eq_getElem?_getD];rw [List.getElem?_take_of_lt (by omega)]
      rw [e3] at s2
      rw [decide_eq_true (by omega)] at s2
      exact ((ih0 _ (by omega)) (i+1) rfl (by omega)
       (hg0.landM okF hJ Qab (Qz1 B t i dJ0)
       ⟨(QaV (by omega) (by omega)),⟨(Qbk (Int.not_lt.1 q2)),hp1⟩⟩ (by kernel_rfl) (by kernel_rfl))).cast (by (simp only [s2,Bool.true_and,Bool.false_and];done))
    ·
     have hp2:Qaz (Qkz B t i dJ0):=by
      exact ⟨(Qbk (Int.not_lt.1 q1)),hp0⟩
     by_cases q2:((↑t.uses.length:Int):Int)<=(8)
     ·
      have hp3:Qaz (Qkm B t i dJ0):=by
       exact ⟨(QbE q2),hp2⟩
      by_cases q3:((↑t.goods.length:Int):Int)<=(9)
      ·
       have hp4:Qaz (QlD B t i dJ0):=by
        exact ⟨(QbE q3),hp3⟩
       by_cases q4:((↑t.gaps.length:Int):Int)<=(310)
       ·
        have s2:=Qba (l:=t.goods.take 12) (p:=fun l=> decide (l.length<=8)) h0 (by rw [List.length_take];omega)
        have e3:(t.goods.take 12).getD i.toNat default=t.goods.getD i.toNat default:=by simp only [List.getD_eq_getElem?_getD];rw [List.getElem?_take_of_lt (by omega)]
        rw [e3] at s2
        rw [decide_eq_true (by omega)] at s2
        have s2:=QaB (l:=t.goods.take 12) (p:=fun l=> decide (l.length<=8)) (i:=i) (by rw [List.length_take];omega)
        exact (GoE.endsT okF hJ Qab hg0 (QwV B t i dJ0)
         ⟨(QbE q4),hp4⟩).cast (by (simp only [s2,Bool.true_and];simp_all;omega))
       ·
        have s2:=Qba (l:=t.goods.take 12) (p:=fun l=> decide (l.length<=8)) h0 (by rw [List.length_take];omega)
        have e3:(t.goods.take 12).getD i.toNat default=t.goods.getD i.toNat default:=by simp only [List.getD_eq_getElem?_getD];rw [List.getElem?_take_of_lt (by omega)]
        rw [e3] at s2
        rw [decide_eq_true (by omega)] at s2
        have s2:=QaB (l:=t.goods.take 12) (p:=fun l=> decide (l.length<=8)) (i:=i) (by rw [List.length_take];omega)
        exact (GoE.endsT okF hJ Qab hg0 (QwG B t i dJ0)
         ⟨(QbD (Int.not_le.1 q4)),hp4⟩).cast (by (simp only [s2,Bool.true_and];simp_all;omega))
      ·
       have s2:=QaB (l:=t.goods.take 12) (p:=fun l=> decide (l.length<=8)) (i:=i) (by rw [List.length_take];omega)
       exact (GoE.endsT okF hJ Qab hg0 (QyF B t i dJ0)
        ⟨(QbD (Int.not_le.1 q3)),hp3⟩).cast (by (simp only [s2,Bool.true_and];simp_all;omega))
     ·
      have s2:=QaB (l:=t.goods.take 12) (p:=fun l=> decide (l.length<=8)) (i:=i) (by rw [List.length_take];omega)
      exact (GoE.endsT okF hJ Qab hg0 (QyP B t i dJ0)
       ⟨(QbD (Int.not_le.1 q2)),hp2⟩).cast (by (simp only [s2,Bool.true_and];simp_all;omega))
   ·
    have hp5:Qaz (Ql0 B t i dJ0):=by
     exact ⟨(Qbk (Int.not_lt.1 q0)),trivial⟩
    by_cases q1:((↑t.uses.length:Int):Int)<=(8)
    ·
     have hp6:Qaz (Qkp B t i dJ0):=by
      exact ⟨(QbE q1),hp5⟩
     by_cases q2:((↑t.goods.length:Int):Int)<=(9)
     ·
      have hp7:Qaz (Qly B t i dJ0):=by
       exact ⟨(QbE q2),hp6⟩
      by_cases q3:((↑t.gaps.length:Int):Int)<=(310)
      ·
       have s2:=QaB (l:=t.goods.take 12) (p:=fun l=> decide (l.length<=8)) (i:=i) (by rw [List.length_take];omega)
       exact (GoE.endsT okF hJ Qab hg0 (QvP B t i dJ0)
        ⟨(QbE q3),hp7⟩).cast (by (simp only [s2,Bool.true_and];simp_all;omega))
      ·
       have s2:=QaB (l:=t.goods.take 12) (p:=fun l=> decide (l.length<=8)) (i:=i) (by rw [List.length_take];omega)
       exact (GoE.endsT okF hJ Qab hg0 (QxN B t i dJ0)
        ⟨(QbD (Int.not_le.1 q3)),hp7⟩).cast (by (simp only [s2,Bool.true_and];simp_all;omega))
     ·
      have s2:=QaB (l:=t.goods.take 12) (p:=fun l=> decide (l.length<=8)) (i:=i) (by rw [List.length_take];omega)
      exact (GoE.endsT okF hJ Qab hg0 (Qzr B t i dJ0)
       ⟨(QbD (Int.not_le.1 q2)),hp6⟩).cast (by (simp only [s2,Bool.true_and];simp_all;omega))
    ·
     have s2:=QaB (l:=t.goods.take 12) (p:=fun l=> decide (l.length<=8)) (i:=i) (by rw [List.length_take];omega)
     exact (GoE.endsT okF hJ Qab hg0 (Qyi B t i dJ0)
      ⟨(QbD (Int.not_le.1 q1)),hp5⟩).cast (by (simp only [s2,Bool.true_and];simp_all;omega))
set_option maxHeartbeats 4000000 in
theorem QzE (t:Qad)  (hfacts:t.uses.length<=9223372036854775807/\t.gaps.length<=9223372036854775807/\t.goods.length<=9223372036854775807) {B:Lo} (hJ:∀w,B.has w->J0 w):EndsT Tryz.prog B (Qae Tryz.prog 37 38 (([.agg (Qa2 t).toArray]).map (Qam 0 4))) (.bool (((t.goods.take 12).all fun l=> decide (l.length<=8)) && (decide (t.uses.length<=8) && (decide (t.goods.length<=9) && decide (t.gaps.length<=310))))):=by
 exact ((QxT t hfacts hJ _) (0) rfl (by omega)
  (GoE.start.landM okF hJ Qab (Qum B t)
  trivial (by kernel_rfl) (by kernel_rfl))).cast (by rfl)
theorem Q4p (t:Qad)  :Qao Tryz.prog J0 37 #[.agg (Qa2 t).toArray] (.bool (((t.goods.take 12).all fun l=> decide (l.length<=8)) && (decide (t.uses.length<=8) && (decide (t.goods.length<=9) && decide (t.gaps.length<=310))))):=
 QbW (ts:=[.agg (Qa2 t).toArray]) (t.uses.length<=9223372036854775807/\t.gaps.length<=9223372036854775807/\t.goods.length<=9223372036854775807) (fun _ _ ht=> ⟨ht.ln2 (i:=0) (j:=0) rfl rfl,ht.ln2 (i:=0) (j:=1) rfl rfl,ht.ln2 (i:=0) (j:=2) rfl rfl⟩) Qbr (c0:=Qae Tryz.prog 37 38 (([.agg (Qa2 t).toArray]).map (Qam 0 4))) (by kernel_rfl) (by kernel_rfl) fun hfacts B hJ=> QzE t  hfacts hJ
def Qe6 (s:Qaa):Bool:=((s.lots.take 12).all fun l=> decide (l.goods.length<=8)) && (decide (s.stock.length<=8) && (decide (s.use.length<=8) && decide (s.lots.length<=9)))
theorem Qbp {s:Qaa} (h:Qe6 s=true):∀l∈s.lots,l.goods.length<=8:=by
 simp only [Qe6,Bool.and_eq_true,decide_eq_true_iff,List.all_eq_true] at h
 intro l hl
 refine h.1 l ?_
 rw [List.take_of_length_le (by omega)];exact hl
theorem Qww (s:Qaa):Qao Tryz.prog J0 36 #[.agg (Qah s).toArray] (.bool (Qe6 s)):=Q33 s
def Q1R (t:Qad):Bool:=((t.goods.take 12).all fun l=> decide (l.length<=8)) && (decide (t.uses.length<=8) && (decide (t.goods.length<=9) && decide (t.gaps.length<=310)))
theorem Qya (t:Qad):Qao Tryz.prog J0 37 #[.agg (Qa2 t).toArray] (.bool (Q1R t)):=Q4p t
end
end Go.Proofs.YtiabgkiccaodmaaGreat

namespace Go.Proofs.YtiabgkiccaodmaaGreat
open Go Go.CE Go.RowKit
def Q37:Sh:=shS [.slice Qth,.int,.int]
def Ql9:Sh:=shS [.slice .int,.slice Qth,Qth,.slice Q37,.int]
def Qkh:Sh:=shS [.slice .int,.slice .int,.slice (.slice .int)]
theorem Q3o {cs:List Value} (h:Q37.ok cs):∃l:Qag,cs=Qaq l:=by
 obtain ⟨_,_,rfl,h1,_,_,rfl,⟨a,_,rfl⟩,_,_,rfl,⟨b,_,rfl⟩,rfl⟩:=h
 obtain ⟨ss,rfl⟩:=Qe8 (fun _=> Qnv) h1
 exact ⟨⟨ss,a,b⟩,rfl⟩
theorem Q2L {cs:List Value} (h:Sh.ok (.slice .int) cs):∃l:Row,cs=Qas l:=by
 obtain ⟨xs,rfl⟩:=Qe8 (fun _=> Qqe) h
 exact ⟨xs,rfl⟩
theorem QyK {v:Value} (h:Ql9.arg v):∃s:Qaa,v=.agg (Qah s).toArray:=by
 obtain ⟨cs,rfl,h⟩:=h
 obtain ⟨_,_,rfl,h1,_,_,rfl,h2,_,_,rfl,h3,_,_,rfl,h4,_,_,rfl,⟨f,_,rfl⟩,rfl⟩:=h
 obtain ⟨xs,rfl⟩:=Qe8 (fun _=> Qqe) h1
 obtain ⟨us,rfl⟩:=Qe8 (fun _=> Qnv) h2
 obtain ⟨g,rfl⟩:=Qnv h3
 obtain ⟨ls,rfl⟩:=Qe8 (fun _=> Q3o) h4
 exact ⟨⟨xs,us,g.lo,g.hi,ls,f⟩,rfl⟩
theorem Qzx {v:Value} (h:Qkh.arg v):∃t:Qad,v=.agg (Qa2 t).toArray:=by
 obtain ⟨cs,rfl,h⟩:=h
 obtain ⟨_,_,rfl,h1,_,_,rfl,h2,_,_,rfl,h3,rfl⟩:=h
 obtain ⟨xs,rfl⟩:=Qe8 (fun _=> Qqe) h1
 obtain ⟨ys,rfl⟩:=Qe8 (fun _=> Qqe) h2
 obtain ⟨zs,rfl⟩:=Qe8 (fun _=> Q2L) h3
 exact ⟨⟨xs,ys,zs⟩,rfl⟩
theorem Q1l {v:Value} (h:Sh.arg (.slice .int) v):∃xs:List Int,v=slI xs:=by
 obtain ⟨xs,hx⟩:=Qe8 (fun _=> Qqe) (show Sh.ok (.slice .int) [v] from h)
 exact ⟨xs,by simpa using hx⟩
end Go.Proofs.YtiabgkiccaodmaaGreat

namespace Go.Proofs.YtiabgkiccaodmaaGreat
open Go Go.CE Go.RowKit
noncomputable section
set_option maxRecDepth 100000
def QfJ (xs:List Span) (i:Int) (ys:List Int):List Value:=[Value.func (Fn.func 103) #[] #[],.slice (some {block:=2,off:=0}) xs.length 1,Qay 1 (slT xs.length (Qac QaD xs)),.int .i64 (↑xs.length:Int),.int .i64 i]
def Qdy (xs:List Span) (i:Int) (ys:List Int):List Obj:=[.cells (Qac Qa1 ys) 3 (0,0)]
def Qft:List Item:=([.code [1,1,0,1,0,0],.inLoop [1,1,0,1,0,0],.inBlock 0,.code [1,1,1]]).map (it (Qan Tryz.prog 160))
def QtT (B:Lo) (c0:CF) (xs:List Span) (i:Int) (ys:List Int):Prop:=∃dJ:Nat->Value,(∀t,Qbb (dJ t))/\GoE Tryz.prog B c0 H00 1 (Qa4 160 26 (([1,5,11,12,13]:List Nat).zip (QfJ xs i ys)) dJ Qft) (Qa3 (Qdy xs i ys)) (2+(Qdy xs i ys).length) []
def QiB (xs:List Span) (i:Int):Array Value:=#[.int .i64 (Span.lo (xs.getD i.toNat default)),.int .i64 (Span.hi (xs.getD i.toNat default))]
theorem Quv (B:Lo) (xs:List Span) (i:Int) (ys:List Int) (dJ0:Nat->Value):landM (Qak Tryz.prog (Qaw Tryz.prog) J0 B 13 1 (Qa4 160 26 (([1,5,11,12,13]:List Nat).zip (QfJ xs i ys)) dJ0 Qft) (Qa3 (Qdy xs i ys)) (2+(Qdy xs i ys).length)
 [(0,hvT),(2,Qai.tidx i.toNat (QiB xs i)),(11,Qai.pure (.int .i64 (Span.hi (xs.getD i.toNat default))) []),(12,Qai.old (Hint.idx i.toNat)),(13,Qai.old (Hint.st (Qac Qa1 (List.set ys i.toNat (Span.hi (xs.getD i.toNat default)))))),(14,hvI (i+1))] 0 [] []) [1,5,11,12,13] [(2,KS.cells [] (Qac Qa1 (List.set ys i.toNat (Span.hi (xs.getD i.toNat default)))))] []=some ⟨160,26,Qft,[],.run,none,QfJ xs (i+1) (List.set ys i.toNat (Span.hi (xs.getD i.toNat default))),Qdy xs (i+1) (List.set ys i.toNat (Span.hi (xs.getD i.toNat default))),
 [QeR 1 [] (Qac Qa1 (List.set ys i.toNat (Span.hi (xs.getD i.toNat default)))) (Qac Qa1 (List.set ys i.toNat (Span.hi (xs.getD i.toNat default)))),wq (i+1)=i+1,0+Int.toNat i * 1+TypeInfo.size Tryz.t3<=Array.size (Qac Qa1 ys)/\splice (Qac Qa1 ys) (0+Int.toNat i * 1) (Value.cells (QbR {len:=16000,tr:=Tri.set 14 (Tri.set 14 Tri.lf 22 (.int .i64 (Span.hi (xs.getD i.toNat default)))) 23 (.pointer (some {block:=2,off:=0+Int.toNat i * 1}))} 22))=Qac Qa1 (List.set ys i.toNat (Span.hi (xs.getD i.toNat default))),i=(↑i.toNat:Int)/\Int.toNat i < List.length xs,Qaz []/\Qao Tryz.prog J0 103 #[.agg (QiB xs i)] (.int .i64 (Span.hi (xs.getD i.toNat default))),i=(↑i.toNat:Int)/\Int.toNat i < List.length xs/\Array.extract (Qac QaD xs) (Int.toNat i * TypeInfo.size Tryz.t25) (Int.toNat i * TypeInfo.size Tryz.t25+TypeInfo.size Tryz.t25)=(QiB xs i),ltq i (↑xs.length:Int)=true]⟩:=by kernel_rfl
theorem Qug (B:Lo) (xs:List Span) (i:Int) (ys:List Int) (dJ0:Nat->Value):QaK (Qak Tryz.prog (Qaw Tryz.prog) J0 B 9 1 (Qa4 160 26 (([1,5,11,12,13]:List Nat).zip (QfJ xs i ys)) dJ0 Qft) (Qa3 (Qdy xs i ys)) (2+(Qdy xs i ys).length)
 [(0,hvF)] 0 [] []) [{k:=2,rs:=[],cs:=Qac Qa1 ys}]=some (slT xs.length (Fz.cs {k:=2,rs:=[],cs:=Qac Qa1 ys}),
 [Qct (Fz.rs {k:=2,rs:=[],cs:=Qac Qa1 ys}) (Qac Qa1 ys) (Fz.cs {k:=2,rs:=[],cs:=Qac Qa1 ys}),ltq i (↑xs.length:Int)=false]):=by kernel_rfl
theorem QtP (B:Lo) (xs:List Span):landM (Qak Tryz.prog (Qaw Tryz.prog) J0 B 9 1 (Qae Tryz.prog 160 26 (([Qms xs,.func (.func 103) #[] #[]]).map (Qam 0 4))) H00 1
 [(3,Qai.old (Hint.mk xs.length (Qac (Qb5 [.int .i64 0]) (List.replicate xs.length ()))))] 0 [] []) [1,5,11,12,13] [(1,KS.rows [] [] (Qac Qa1 (List.replicate xs.length 0)))] []=some ⟨160,26,Qft,[],.run,none,QfJ xs (0) (List.replicate xs.length 0),Qdy xs (0) (List.replicate xs.length 0),
 [Qbi 1 [] [] (Qac (Qb5 [.int .i64 0]) (List.replicate xs.length ())) (Qac Qa1 (List.replicate xs.length 0)),Qf6 Tryz.prog 22 (QbR {len:=16000,tr:=Tri.set 14 Tri.lf 9 (.int .i64 (↑xs.length:Int))} 9) (QbR {len:=16000,tr:=Tri.set 14 Tri.lf 9 (.int .i64 (↑xs.length:Int))} 9)=some (3,Qac (Qb5 [.int .i64 0]) (List.replicate xs.length ()),List.length xs,TypeInfo.size Tryz.t3)]⟩:=by kernel_rfl
set_option maxHeartbeats 4000000 in
theorem QuW (xs:List Span) (hn:xs.length<=1000000) {B:Lo} (hJ:∀w,B.has w->J0 w) {c0:CF}:∀m:Nat,(∀(i:Int) (ys:List Int),(xs.length - i.toNat)=m->∀(h0:0<=i) (hy:ys=QfU Span.hi 0 xs i),QtT B c0 xs i ys->EndsT Tryz.prog B c0 (slI (xs.map Span.hi))):=by
 intro m0
 induction m0 using Nat.strongRecOn with
 | _ m0 ih0=>
   intro i ys hm0 h0 hy ⟨dJ0,hdJ0,hg0⟩
   have hyl:ys.length=xs.length:=by rw [hy];exact Qdl
   by_cases q0:(i:Int) < ((↑xs.length:Int))
   ·
    exact ((ih0 _ (by omega)) (i+1) (List.set ys i.toNat (Span.hi (xs.getD i.toNat default))) rfl (by omega) (by (subst hy;exact Qdh (f:=Span.hi) h0 q0))
     (hg0.landM okF hJ Qab (Quv B xs i ys dJ0)
     ⟨(QaY (Qbj (fun x=> List.all_eq_true.1 (by rfl)))),⟨(QaV (by omega) (by omega)),⟨(by exact Qfb (z:=1) (fun _=> rfl) (by omega) rfl rfl),⟨⟨by omega,by omega⟩,⟨⟨trivial,Q4k (Span.lo (xs.getD i.toNat default)) (Span.hi (xs.getD i.toNat default))⟩,⟨⟨by omega,by omega,(Qaj (z:=2) (fun _=> rfl) (by omega))⟩,⟨(Qbn q0),trivial⟩⟩⟩⟩⟩⟩⟩ (by kernel_rfl) (by kernel_rfl))).cast (by rfl)
   ·
    exact (GoE.endsT okF hJ Qab hg0 (Qug B xs i ys dJ0)
     ⟨(Qcg (fun x=> List.all_eq_true.1 (by rfl))),⟨(Qbk (Int.not_lt.1 q0)),trivial⟩⟩).cast (by exact QeM (hy.trans (Qda (by omega))) (by simp))
set_option maxHeartbeats 4000000 in
theorem QvU (xs:List Span) (hn:xs.length<=1000000) {B:Lo} (hJ:∀w,B.has w->J0 w):EndsT Tryz.prog B (Qae Tryz.prog 160 26 (([Qms xs,.func (.func 103) #[] #[]]).map (Qam 0 4))) (slI (xs.map Span.hi)):=by
 exact ((QuW xs hn hJ _) (0) (List.replicate xs.length 0) rfl (by omega) (by exact Qfq)
  (GoE.start.landM okF hJ Qab (QtP B xs)
  ⟨(by exact (QbA (by exact ⟨(.simple rfl),trivial⟩) _)),⟨(QfE (bytes:=8) (by kernel_rfl) (by omega) (by omega) (by omega)),trivial⟩⟩ (by kernel_rfl) (by kernel_rfl))).cast (by rfl)
theorem Qwe (xs:List Span) (hn:xs.length<=1000000):Qao Tryz.prog J0 160 #[Qms xs,.func (.func 103) #[] #[]] (slI (xs.map Span.hi)):=
 Qa8 (ts:=[Qms xs,.func (.func 103) #[] #[]]) Qbr (c0:=Qae Tryz.prog 160 26 (([Qms xs,.func (.func 103) #[] #[]]).map (Qam 0 4))) (by kernel_rfl) (by kernel_rfl) fun B hJ=> QvU xs hn hJ
def Qfv (xs:List Span) (i:Int) (ys:List Int):List Value:=[Value.func (Fn.func 104) #[] #[],.slice (some {block:=2,off:=0}) xs.length 1,Qay 1 (slT xs.length (Qac QaD xs)),.int .i64 (↑xs.length:Int),.int .i64 i]
def Qd4 (xs:List Span) (i:Int) (ys:List Int):List Obj:=[.cells (Qac Qa1 ys) 3 (0,0)]
def Qf5:List Item:=([.code [1,1,0,1,0,0],.inLoop [1,1,0,1,0,0],.inBlock 0,.code [1,1,1]]).map (it (Qan Tryz.prog 160))
def QuT (B:Lo) (c0:CF) (xs:List Span) (i:Int) (ys:List Int):Prop:=∃dJ:Nat->Value,(∀t,Qbb (dJ t))/\GoE Tryz.prog B c0 H00 1 (Qa4 160 26 (([1,5,11,12,13]:List Nat).zip (Qfv xs i ys)) dJ Qf5) (Qa3 (Qd4 xs i ys)) (2+(Qd4 xs i ys).length) []
def QiL (xs:List Span) (i:Int):Array Value:=#[.int .i64 (Span.lo (xs.getD i.toNat default)),.int .i64 (Span.hi (xs.getD i.toNat default))]
theorem Qvg (B:Lo) (xs:List Span) (i:Int) (ys:List Int) (dJ0:Nat->Value):landM (Qak Tryz.prog (Qaw Tryz.prog) J0 B 13 1 (Qa4 160 26 (([1,5,11,12,13]:List Nat).zip (Qfv xs i ys)) dJ0 Qf5) (Qa3 (Qd4 xs i ys)) (2+(Qd4 xs i ys).length)
 [(0,hvT),(2,Qai.tidx i.toNat (QiL xs i)),(11,Qai.pure (.int .i64 (Span.lo (xs.getD i.toNat default))) []),(12,Qai.old (Hint.idx i.toNat)),(13,Qai.old (Hint.st (Qac Qa1 (List.set ys i.toNat (Span.lo (xs.getD i.toNat default)))))),(14,hvI (i+1))] 0 [] []) [1,5,11,12,13] [(2,KS.cells [] (Qac Qa1 (List.set ys i.toNat (Span.lo (xs.getD i.toNat default)))))] []=some ⟨160,26,Qf5,[],.run,none,Qfv xs (i+1) (List.set ys i.toNat (Span.lo (xs.getD i.toNat default))),Qd4 xs (i+1) (List.set ys i.toNat (Span.lo (xs.getD i.toNat default))),
 [QeR 1 [] (Qac Qa1 (List.set ys i.toNat (Span.lo (xs.getD i.toNat default)))) (Qac Qa1 (List.set ys i.toNat (Span.lo (xs.getD i.toNat default)))),wq (i+1)=i+1,0+Int.toNat i * 1+TypeInfo.size Tryz.t3<=Array.size (Qac Qa1 ys)/\splice (Qac Qa1 ys) (0+Int.toNat i * 1) (Value.cells (QbR {len:=16000,tr:=Tri.set 14 (Tri.set 14 Tri.lf 22 (.int .i64 (Span.lo (xs.getD i.toNat default)))) 23 (.pointer (some {block:=2,off:=0+Int.toNat i * 1}))} 22))=Qac Qa1 (List.set ys i.toNat (Span.lo (xs.getD i.toNat default))),i=(↑i.toNat:Int)/\Int.toNat i < List.length xs,Qaz []/\Qao Tryz.prog J0 104 #[.agg (QiL xs i)] (.int .i64 (Span.lo (xs.getD i.toNat default))),i=(↑i.toNat:Int)/\Int.toNat i < List.length xs/\Array.extract (Qac QaD xs) (Int.toNat i * TypeInfo.size Tryz.t25) (Int.toNat i * TypeInfo.size Tryz.t25+TypeInfo.size Tryz.t25)=(QiL xs i),ltq i (↑xs.length:Int)=true]⟩:=by kernel_rfl
theorem QvB (B:Lo) (xs:List Span) (i:Int) (ys:List Int) (dJ0:Nat->Value):QaK (Qak Tryz.prog (Qaw Tryz.prog) J0 B 9 1 (Qa4 160 26 (([1,5,11,12,13]:List Nat).zip (Qfv xs i ys)) dJ0 Qf5) (Qa3 (Qd4 xs i ys)) (2+(Qd4 xs i ys).length)
 [(0,hvF)] 0 [] []) [{k:=2,rs:=[],cs:=Qac Qa1 ys}]=some (slT xs.length (Fz.cs {k:=2,rs:=[],cs:=Qac Qa1 ys}),
 [Qct (Fz.rs {k:=2,rs:=[],cs:=Qac Qa1 ys}) (Qac Qa1 ys) (Fz.cs {k:=2,rs:=[],cs:=Qac Qa1 ys}),ltq i (↑xs.length:Int)=false]):=by kernel_rfl
theorem Qvy (B:Lo) (xs:List Span):landM (Qak Tryz.prog (Qaw Tryz.prog) J0 B 9 1 (Qae Tryz.prog 160 26 (([Qms xs,.func (.func 104) #[] #[]]).map (Qam 0 4))) H00 1
 [(3,Qai.old (Hint.mk xs.length (Qac (Qb5 [.int .i64 0]) (List.replicate xs.length ()))))] 0 [] []) [1,5,11,12,13] [(1,KS.rows [] [] (Qac Qa1 (List.replicate xs.length 0)))] []=some ⟨160,26,Qf5,[],.run,none,Qfv xs (0) (List.replicate xs.length 0),Qd4 xs (0) (List.replicate xs.length 0),
 [Qbi 1 [] [] (Qac (Qb5 [.int .i64 0]) (List.replicate xs.length ())) (Qac Qa1 (List.replicate xs.length 0)),Qf6 Tryz.prog 22 (QbR {len:=16000,tr:=Tri.set 14 Tri.lf 9 (.int .i64 (↑xs.length:Int))} 9) (QbR {len:=16000,tr:=Tri.set 14 Tri.lf 9 (.int .i64 (↑xs.length:Int))} 9)=some (3,Qac (Qb5 [.int .i64 0]) (List.replicate xs.length ()),List.length xs,TypeInfo.size Tryz.t3)]⟩:=by kernel_rfl
set_option maxHeartbeats 4000000 in
theorem QuY (xs:List Span) (hn:xs.length<=1000000) {B:Lo} (hJ:∀w,B.has w->J0 w) {c0:CF}:∀m:Nat,(∀(i:Int) (ys:List Int),(xs.length - i.toNat)=m->∀(h0:0<=i) (hy:ys=QfU Span.lo 0 xs i),QuT B c0 xs i ys->EndsT Tryz.prog B c0 (slI (xs.map Span.lo))):=by
 intro m0
 induction m0 using Nat.strongRecOn with
 | _ m0 ih0=>
   intro i ys hm0 h0 hy ⟨dJ0,hdJ0,hg0⟩
   have hyl:ys.length=xs.length:=by rw [hy];exact Qdl
   by_cases q0:(i:Int) < ((↑xs.length:Int))
   ·
    exact ((ih0 _ (by omega)) (i+1) (List.set ys i.toNat (Span.lo (xs.getD i.toNat default))) rfl (by omega) (by (subst hy;exact Qdh (f:=Span.lo) h0 q0))
     (hg0.landM okF hJ Qab (Qvg B xs i ys dJ0)
     ⟨(QaY (Qbj (fun x=> List.all_eq_true.1 (by rfl)))),⟨(QaV (by omega) (by omega)),⟨(by exact Qfb (z:=1) (fun _=> rfl) (by omega) rfl rfl),⟨⟨by omega,by omega⟩,⟨⟨trivial,Q5m (Span.lo (xs.getD i.toNat default)) (Span.hi (xs.getD i.toNat default))⟩,⟨⟨by omega,by omega,(Qaj (z:=2) (fun _=> rfl) (by omega))⟩,⟨(Qbn q0),trivial⟩⟩⟩⟩⟩⟩⟩ (by kernel_rfl) (by kernel_rfl))).cast (by rfl)
   ·
    exact (GoE.endsT okF hJ Qab hg0 (QvB B xs i ys dJ0)
     ⟨(Qcg (fun x=> List.all_eq_true.1 (by rfl))),⟨(Qbk (Int.not_lt.1 q0)),trivial⟩⟩).cast (by exact QeM (hy.trans (Qda (by omega))) (by simp))
set_option maxHeartbeats 4000000 in
theorem Qy7 (xs:List Span) (hn:xs.length<=1000000) {B:Lo} (hJ:∀w,B.has w->J0 w):EndsT Tryz.prog B (Qae Tryz.prog 160 26 (([Qms xs,.func (.func 104) #[] #[]]).map (Qam 0 4))) (slI (xs.map Span.lo)):=by
 exact ((QuY xs hn hJ _) (0) (List.replicate xs.length 0) rfl (by omega) (by exact Qfq)
  (GoE.start.landM okF hJ Qab (Qvy B xs)
  ⟨(by exact (QbA (by exact ⟨(.simple rfl),trivial⟩) _)),⟨(QfE (bytes:=8) (by kernel_rfl) (by omega) (by omega) (by omega)),trivial⟩⟩ (by kernel_rfl) (by kernel_rfl))).cast (by rfl)
theorem QyT (xs:List Span) (hn:xs.length<=1000000):Qao Tryz.prog J0 160 #[Qms xs,.func (.func 104) #[] #[]] (slI (xs.map Span.lo)):=
 Qa8 (ts:=[Qms xs,.func (.func 104) #[] #[]]) Qbr (c0:=Qae Tryz.prog 160 26 (([Qms xs,.func (.func 104) #[] #[]]).map (Qam 0 4))) (by kernel_rfl) (by kernel_rfl) fun B hJ=> Qy7 xs hn hJ
theorem Qup (B:Lo) (n d:Int):QaK (Qak Tryz.prog (Qaw Tryz.prog) J0 B 6 1 (Qae Tryz.prog 132 11 (([.int .i64 n,.int .i64 d]).map (Qam 0 4))) H00 1
 [(3,hvI (n+d)),(4,hvI (n+d - 1)),(6,Qai.bin (.int .i64 (Int.tdiv (n+d - 1) d)))] 0 [] []) []=some (.int .i64 (Int.tdiv (n+d - 1) d),
 [QkX Tryz.prog BinOp.quo 3 (QbR {len:=16000,tr:=Tri.set 14 (Tri.set 14 Tri.lf 9 (.int .i64 d)) 8 (.int .i64 (n+d - 1))} 8) (QbR {len:=16000,tr:=Tri.set 14 (Tri.set 14 Tri.lf 9 (.int .i64 d)) 8 (.int .i64 (n+d - 1))} 9) (.int .i64 (Int.tdiv (n+d - 1) d)),wq (n+d - 1)=n+d - 1,wq (n+d)=n+d]):=by kernel_rfl
set_option maxHeartbeats 4000000 in
theorem Qxi (n d:Int) (hn:0<=n/\n<=2000000) (hd:1<=d/\d<=1000) {B:Lo} (hJ:∀w,B.has w->J0 w):EndsT Tryz.prog B (Qae Tryz.prog 132 11 (([.int .i64 n,.int .i64 d]).map (Qam 0 4))) (.int .i64 ((n+d - 1).tdiv d)):=by
 have e1:(n+d - 1).tdiv d=(n+d - 1) / d:=Int.tdiv_eq_ediv_of_nonneg (by omega)
 have e2:(n+d - 1) / d<=n+d - 1:=Int.ediv_le_self _ (by omega)
 have e3:0<=(n+d - 1) / d:=Int.ediv_nonneg (by omega) (by omega)
 exact (GoE.endsT okF hJ Qab GoE.start (Qup B n d)
  ⟨(Q2z (by omega) rfl (by omega) (by omega)),⟨(QaV (by omega) (by omega)),⟨(QaV (by omega) (by omega)),trivial⟩⟩⟩).cast (by rfl)
theorem QwH (n d:Int) (hn:0<=n/\n<=2000000) (hd:1<=d/\d<=1000):Qao Tryz.prog J0 132 #[.int .i64 n,.int .i64 d] (.int .i64 ((n+d - 1).tdiv d)):=
 Qa8 (ts:=[.int .i64 n,.int .i64 d]) Qbr (c0:=Qae Tryz.prog 132 11 (([.int .i64 n,.int .i64 d]).map (Qam 0 4))) (by kernel_rfl) (by kernel_rfl) fun B hJ=> Qxi n d hn hd hJ
end
end Go.Proofs.YtiabgkiccaodmaaGreat

namespace Go.CE
open Go Go.RowKit

section
variable {P:Program} {F:FuncId->Bool} {T:Tm} {o:Oper} {H:Qar} {n:Nat}
theorem QmW {t e:TypeId} {x lo:Operand} {b off m s z:Nat} {k:IntKind} {l:Int} (ho:o.op=.slice t x (some lo) none none) (hx:evC T x=some (.slice (some ⟨b,off,none⟩) m s)) (hl:evC T lo=some (.int k l)) (hu:und P t=some (.slice e)) (hz:Qfc P e=some (z+1)) (h1:0 < l) (h2:l < m):
 opS P F Qby (fun _ _ _=> none) T o H n=some ⟨.ret (.slice (some ⟨b,off+l.toNat * (z+1),none⟩) (m - l.toNat) 0),H,n,[],[]⟩:=by
 have e1:Qz5 m (some (.int k l)) none=some (l.toNat,m):=by
  simp only [Qz5,bnd,decide_eq_true (show (0:Int)<=l by omega),decide_eq_true (show l<=(m:Int) by omega),Bool.and_self,cond_true]
 have e2:Nat.beq l.toNat 0=false:=by cases h:Nat.beq l.toNat 0 with
  | false=> rfl
  | true=> have:=Nat.eq_of_beq_eq_true h;omega
 have e3:Nat.blt l.toNat m=true:=Nat.ble_eq_true_of_le (show l.toNat+1<=m by omega)
 have e4:Qhl P t (.slice (some ⟨b,off,none⟩) m s) (some (.int k l)) none=some (.slice (some ⟨b,off+l.toNat * (z+1),none⟩) (m - l.toNat) 0):=by
  simp only [Qhl,hu,hz,e1,e2,e3,cond_true,cond_false]
 have e5:Qmk P F (evC T) o H n=some ⟨.val (.slice (some ⟨b,off+l.toNat * (z+1),none⟩) (m - l.toNat) 0),H,n,[],[]⟩:=by
  unfold Qmk cop
  simp only [ho,hx,evo,hl,e4,mkPure,Option.map_some,List.all_nil,cond_true]
 unfold opS
 simp only [ho,e5]
theorem QmU {t e:TypeId} {x hi:Operand} {b off m s z:Nat} {k:IntKind} {l:Int} (ho:o.op=.slice t x none (some hi) none) (hx:evC T x=some (.slice (some ⟨b,off,none⟩) m s)) (hl:evC T hi=some (.int k l)) (hu:und P t=some (.slice e)) (hz:Qfc P e=some (z+1)) (h1:0<=l) (h2:l<=m):
 opS P F Qby (fun _ _ _=> none) T o H n=some ⟨.ret (.slice (some ⟨b,off,none⟩) l.toNat s),H,n,[],[]⟩:=by
 have e1:Qz5 m none (some (.int k l))=some (0,l.toNat):=by
  simp only [Qz5,bnd,decide_eq_true h1,decide_eq_true h2,Bool.and_self,cond_true]
 have e4:Qhl P t (.slice (some ⟨b,off,none⟩) m s) none (some (.int k l))=some (.slice (some ⟨b,off,none⟩) l.toNat s):=by
  simp only [Qhl,hu,hz,e1,show Nat.beq 0 0=true from rfl,cond_true]
 have e5:Qmk P F (evC T) o H n=some ⟨.val (.slice (some ⟨b,off,none⟩) l.toNat s),H,n,[],[]⟩:=by
  unfold Qmk cop
  simp only [ho,hx,evo,hl,e4,mkPure,Option.map_some,List.all_nil,cond_true]
 unfold opS
 simp only [ho,e5]
theorem QnM {c:Call} {s x:Operand} {t t2 e te:TypeId} {b off k s1 b2 off2 m s2 z q:Nat} {cs cs2 cs':Array Value} {te2:TypeId} {f2:Nat×Nat} {H':Qar} (ho:o.op=.call c) (hc:c.callee=.builtin .copy) (ha:c.args.toList=[s,x]) (hat:c.argTypes.toList=[t,t2])
 (hs:evC T s=some (.slice (some ⟨b,off,none⟩) k s1)) (hx:evC T x=some (.slice (some ⟨b2,off2,none⟩) m s2)) (hu:und P t=some (.slice e)) (hz:Qfc P e=some z) (hb:Qau H b=some (.cells cs te (0,0))) (hb2:Qau H b2=some (.cells cs2 te2 f2)) (hn:b < n) (hn2:b2 < n)
 (hH:Qgc H b (.cells cs' te (0,0))=H') (hq:q=Nat.min m k) (hf:off+q * z<=cs.size/\off2+q * z<=cs2.size/\ones (cs2.extract off2 (off2+q * z))=true/\splice cs off (cs2.extract off2 (off2+q * z))=cs'):
 opS P F Qby (fun _ _ _=> none) T o H n=some ⟨.ret (.int .i64 q),H',n,[b,b2],[b]⟩:=by
 obtain ⟨h1,h2,h3,h4⟩:=hf
 subst hq hH h4
 have e4:Qsf P t H n (.slice (some ⟨b,off,none⟩) k s1) (.slice (some ⟨b2,off2,none⟩) m s2)=some ⟨.val (.int .i64 (Nat.min m k)),Qgc H b (.cells (splice cs off (cs2.extract off2 (off2+Nat.min m k * z))) te (0,0)),n,[b,b2],[b]⟩:=by
  simp only [Qsf,hu,hz,hb,hb2,h3,show Nat.ble (off+Nat.min m k * z) cs.size=true from Nat.ble_eq_true_of_le h1,show Nat.ble (off2+Nat.min m k * z) cs2.size=true from Nat.ble_eq_true_of_le h2,Bool.and_self,cond_true]
 have e5:Qmk P F (evC T) o H n=some ⟨.val (.int .i64 (Nat.min m k)),Qgc H b (.cells (splice cs off (cs2.extract off2 (off2+Nat.min m k * z))) te (0,0)),n,[b,b2],[b]⟩:=by
  unfold Qmk cop
  simp only [ho,hc,ha,hat,hs,hx,e4,List.all_cons,List.all_nil,show Nat.blt b n=true from Nat.ble_eq_true_of_le hn,show Nat.blt b2 n=true from Nat.ble_eq_true_of_le hn2,Bool.and_self,cond_true]
 unfold opS
 simp only [ho,e5]
end
section
variable {P:Program} {F:FuncId->Bool} {T:Tm} {o:Oper} {H:Qar} {n:Nat}
end
theorem Qzh {α:Type} {e:α->List Value} (h:∀x,(e x).all (·.oneCell')=true) (zs:List α) (i j:Nat):ones ((Qac e zs).extract i j)=true:=by
 unfold ones
 rw [Array.all_eq_true']
 intro v hv
 have hv':v∈(Qac e zs).toList:=by
  have:=Array.mem_def.1 hv
  rw [Array.toList_extract,List.extract_eq_take_drop] at this
  exact List.mem_of_mem_drop (List.mem_of_mem_take this)
 simp only [Qac,List.mem_flatMap] at hv'
 obtain ⟨x,_,hx⟩:=hv'
 exact List.all_eq_true.1 (h x) v hx
def QiS {α:Type} (ys:List α) (a:Nat) (zs:List α):List α:=ys.take a++zs++ys.drop (a+zs.length)
theorem Qps {α:Type} {e:α->List Value} {z:Nat} (h:∀x,(e x).length=z):∀(zs:List α) (c:Nat),(zs.flatMap e).drop (c * z)=(zs.drop c).flatMap e:=by
 intro zs
 induction zs with
 | nil=> intro c;simp
 | cons x zs ih=>
   intro c
   cases c with
   | zero=> simp
   | succ c=>
     rw [List.flatMap_cons,List.drop_succ_cons,<-ih c,Nat.succ_mul,Nat.add_comm,List.drop_append]
     rw [List.drop_eq_nil_of_le (by rw [h];omega),List.nil_append,h]
     congr 1;omega
theorem Qqo {α:Type} {e:α->List Value} {z:Nat} (h:∀x,(e x).length=z):∀(zs:List α) (q:Nat),(zs.flatMap e).take (q * z)=(zs.take q).flatMap e:=by
 intro zs
 induction zs with
 | nil=> intro q;simp
 | cons x zs ih=>
   intro q
   cases q with
   | zero=> simp
   | succ q=>
     rw [List.flatMap_cons,List.take_succ_cons,List.flatMap_cons,<-ih q,Nat.succ_mul,Nat.add_comm,List.take_append]
     rw [List.take_of_length_le (by rw [h];omega),h]
     congr 2;omega
theorem Q0p {α:Type} {e:α->List Value} {z:Nat} (h:∀x,(e x).length=z) (zs:List α) (c q:Nat):(Qac e zs).extract (c * z) (c * z+q * z)=Qac e ((zs.drop c).take q):=by
 apply Array.toList_inj.1
 simp only [Qac,Array.toList_extract,List.extract_eq_take_drop,Qps h]
 rw [show c * z+q * z - c * z=q * z by omega,Qqo h]
theorem Q1a {α:Type} {e:α->List Value} {z:Nat} (h:∀x,(e x).length=z) {ys zs:List α} {a:Nat}:splice (Qac e ys) (a * z) (Qac e zs)=Qac e (QiS ys a zs):=by
 have hl:(zs.flatMap e).length=zs.length * z:=by
  have:=Qdk (e:=e) (xs:=zs) h
  simpa [Qac] using this
 apply Array.toList_inj.1
 simp only [splice,Qac,QiS,List.flatMap_append,Qqo h]
 rw [hl,<-Nat.add_mul,Qps h]
theorem Qyb {α:Type} {e:α->List Value} {z:Nat} (h:∀x,(e x).length=z) (hs:∀x,(e x).all (·.oneCell')=true) {ys zs:List α} {a c q:Nat} (h1:a+q<=ys.length) (h2:c+q<=zs.length):
 a * z+q * z<=(Qac e ys).size/\c * z+q * z<=(Qac e zs).size/\ones ((Qac e zs).extract (c * z) (c * z+q * z))=true/\splice (Qac e ys) (a * z) ((Qac e zs).extract (c * z) (c * z+q * z))=Qac e (QiS ys a ((zs.drop c).take q)):=by
 refine ⟨?_, ?_,Qzh hs _ _ _, ?_⟩
 ·rw [Qdk h,<-Nat.add_mul];exact Nat.mul_le_mul_right _ h1
 ·rw [Qdk h,<-Nat.add_mul];exact Nat.mul_le_mul_right _ h2
 ·rw [Q0p h,Q1a h]
theorem Qja {α:Type} {e:α->List Value} {z:Nat} (h:∀x,(e x).length=z) (hs:∀x,(e x).all (·.oneCell')=true) {ys zs:List α} {a c q:Nat} (h1:a+q<=ys.length) (h2:c+q<=zs.length):
 0+a * z+q * z<=(Qac e ys).size/\0+c * z+q * z<=(Qac e zs).size/\ones ((Qac e zs).extract (0+c * z) (0+c * z+q * z))=true/\splice (Qac e ys) (0+a * z) ((Qac e zs).extract (0+c * z) (0+c * z+q * z))=Qac e (QiS ys a ((zs.drop c).take q)):=by
 simp only [Nat.zero_add];exact Qyb h hs h1 h2
def Qgd {α:Type} (x x0:α) (n k:Nat):List α:=List.replicate k x++List.replicate (n - k) x0
theorem Qtw {α:Type} {x x0:α} {n k:Nat} (h:k<=n):(Qgd x x0 n k).length=n:=by simp [Qgd];omega
theorem Qt2 {α:Type} {x x0:α} {n:Nat}:Qgd x x0 n n=List.replicate n x:=by simp [Qgd]
theorem QsR {α:Type} {x x0:α} {n k q:Nat} (h:k+q<=n) (hq:q<=k):QiS (Qgd x x0 n k) k (((Qgd x x0 n k).drop 0).take q)=Qgd x x0 n (k+q):=by
 have e1:(Qgd x x0 n k).take k=List.replicate k x:=by simp [Qgd]
 have e2:((Qgd x x0 n k).drop 0).take q=List.replicate q x:=by
  simp [Qgd,List.take_append,Nat.min_eq_left hq];omega
 have e3:(Qgd x x0 n k).drop (k+q)=List.replicate (n - (k+q)) x0:=by
  simp [Qgd,List.drop_append,Nat.sub_sub]
 rw [e2,QiS,e1,List.length_replicate,e3,Qgd,List.append_assoc,<-List.replicate_append_replicate,List.append_assoc]
theorem Qvz {α:Type} {x x0:α} {n q:Nat} (hq:q=min 1 n):QiS (List.replicate n x0) 0 (([x].drop 0).take q)=Qgd x x0 n q:=by
 subst hq
 cases n with
 | zero=> simp [QiS,Qgd]
 | succ n=> simp [QiS,Qgd,show min 1 (n+1)=1 by omega]
def cpE (vs zs:List Value):Bool->List Value
 | true=> vs
 | false=> zs
theorem QoO {vs zs:List Value} {z q k:Nat} (hv:vs.length=z) (hz:zs.length=z) (hv1:vs.all (·.oneCell')=true) (hz1:zs.all (·.oneCell')=true) (hq:q=min 1 k):
 0+q * z<=(Qac (Qb5 zs) (List.replicate k ())).size/\0+q * z<=vs.toArray.size/\ones (vs.toArray.extract 0 (0+q * z))=true/\splice (Qac (Qb5 zs) (List.replicate k ())) 0 (vs.toArray.extract 0 (0+q * z))=Qac (cpE vs zs) (Qgd true false k q):=by
 have e1:Qac (Qb5 zs) (List.replicate k ())=Qac (cpE vs zs) (List.replicate k false):=by
  simp [Qac,Qb5,cpE,List.flatMap_replicate]
 have e2:vs.toArray=Qac (cpE vs zs) [true]:=by simp [Qac,cpE]
 have h:∀x,(cpE vs zs x).length=z:=fun x=> by cases x <;> assumption
 have hs:∀x,(cpE vs zs x).all (·.oneCell')=true:=fun x=> by cases x <;> assumption
 have:=Qja h hs (ys:=List.replicate k false) (zs:=[true]) (a:=0) (c:=0) (q:=q) (by simp;omega) (by simp;omega)
 rw [Qvz hq] at this
 rw [e1,e2]
 simpa using this
theorem Qze {α:Type} {e:α->List Value} {x:α} {zs:List Value} {n:Nat}:Qac (cpE (e x) zs) (List.replicate n true)=Qac e (List.replicate n x):=by
 simp [Qac,cpE,List.flatMap_replicate]
theorem Qwg {fm:Nat->Option Obj} {xs:Array Value} (h:xs.all simple=true):TRv fm (.tuple xs) (.tuple xs):=by
 refine .tuple rfl fun i v v' h1 h2=> ?_
 rw [h1] at h2;cases h2
 exact .simple (Array.all_eq_true'.1 h v (Array.mem_of_getElem? h1))
theorem Qni {P:Program} {F:FuncId->Bool} {J:World->Prop} (hF:∀g,F g=true->Qaw P g=true) (hmix:P.follows .mixedOrders=true) {g:FuncId} {args:Array Value} {out:Value} {fuel:Nat} (hs:args.all simple=true) (ho:∀fm,TRv fm out out) (ho2:af out=true) (h:Qqc (Ql3 P F Qby fuel g args (Qfh 0 []) ([]:List (Array Value×TypeId)).length) out []=true):Qao P J g args out:=fun fm w args' _ _ ha=> by
 have e:args'=args:=by
  refine Array.ext ha.1.symm fun i h1 h2=> ?_
  have k1:args[i]? =some args[i]:=by simp [h2]
  have k2:args'[i]? =some args'[i]:=by simp [h1]
  exact (ha.2 i _ _ k1 k2).simple_eq (Array.all_eq_true'.1 hs _ (Array.getElem_mem h2))
 subst e
 have hc:=Qlj hF hmix (at':=[]) (args':=args') h (w:=w) (I:=fun _=> True) (hI:=fun _ _ _ _=> trivial) (QaE _ _) trivial rfl (fun i x a h=> by simp at h) ⟨rfl,fun i v v' h1 h2=> by rw [h1] at h2;cases h2;exact QbP (Array.all_eq_true'.1 hs v (Array.mem_of_getElem? h1))⟩
 refine hc.mono fun e w' ⟨v',n',H',μ',he,hp,hv,hb,hun,hbel⟩=> ⟨out,by rw [he,Qis ho2 hv],hbel,ho _⟩
end Go.CE
