/- More stock, and ships that come earlier at the latest, never make a kind wanting earlier. -/
import Derived.Test.YtiabgkiccaodmaaGreatZMO14
set_option linter.all false
namespace Go.Proofs.YtiabgkiccaodmaaGreat
open Go Go.CE Go.RowKit
abbrev Q09 (s:Qaa) (more k:Int):Int:=if s.stock.getD k.toNat default+more < 100000 then s.stock.getD k.toNat default+more else 100000
abbrev QbA (s:Qaa) (sooner:Int):Int:=if s.ghi - sooner > s.glo then s.ghi - sooner else s.glo
def Qfm (s:Qaa) (more:Int):List Int:=(upI 0 s.stock.length).map (Q09 s more)
theorem Qmn {s:Qaa} {more:Int}:(Qfm s more).length=s.stock.length:=by simp [Qfm,Qcu]
theorem Qy1 {s:Qaa} {more k:Int} (h0:0<=k) (h1:k < s.stock.length):(Qfm s more).getD k.toNat default=Q09 s more k:=by
 unfold Qfm;rw [getD_map (by rw [Qcu];omega),Qgo h0 h1]
abbrev QbG (s:Qaa) (ks:List Int) (gh:Int):Qaa:=⟨ks,s.use,s.glo,gh,s.lots,s.hold⟩
theorem QuS {s:Qaa} {more sooner:Int} (hs:Qa7 s=true) (h0:0<=more) (h1:0<=sooner):Qa7 (QbG s (Qfm s more) (QbA s sooner))=true:=by
 have hst:=QaV hs;have hgp:=Qbt hs;have hlen:=Qmn (s:=s) (more:=more);simp only [Qa7,Qpv,YB,decide_eq_true_iff,List.all_eq_true,Qa4,QiO] at hs ⊢;rw [hlen];refine ⟨hs.1,fun x hx=> ?_,hs.2.2.1,hs.2.2.2.1, ?_,hs.2.2.2.2.2⟩
 ·obtain ⟨k,hk,rfl⟩:=List.mem_map.1 hx;have hk:=QlC.1 hk;have:=hst.2.1 _ (Qa6 (l:=s.stock) hk.1 hk.2);show 0<=(if s.stock.getD k.toNat default+more < 100000 then _ else _)/\(if s.stock.getD k.toNat default+more < 100000 then _ else _)<=100000;split <;> omega
 ·show 1<=s.glo/\s.glo<=(if s.ghi - sooner > s.glo then _ else _)/\(if s.ghi - sooner > s.glo then _ else _)<=60;split <;> omega
theorem Q35 {stock stock' use br days:Int} {gaps gaps':List Int} (hd:0<=days) (hst:stock<=stock') (hb:0<=br) (hg:∀h∈gaps,∀g∈gaps',g<=h) (h1:∀g∈gaps,1<=g) (h2:∀g∈gaps',1<=g) (hs:days<=QfW gaps'):
 0<=Qbk use br (QcL days gaps') 0 stock'->0<=Qbk use br (QcL days gaps) 0 stock/\Qbk use br (QcL days gaps) 0 stock<=Qbk use br (QcL days gaps') 0 stock':=by
 rw [Qoe h1 hd,Qoe h2 hd];have hp:=QuY days.toNat 0;rw [show (0:Int)+(days.toNat:Int)=days by omega] at hp;refine Qm3 _ (fun d hx=> ?_) (fun d hx=> (QhE hx).1) hp;have hd2:=QhE hx;have c:=Q49 hd2.2 gaps gaps' 0 0 hg h1 h2 (Int.le_refl _) (by omega);have m1:br * Qs5 gaps 0 d<=br * Qs5 gaps' 0 d:=Int.mul_le_mul_of_nonneg_left c hb;unfold Q7b;omega
theorem QuT {f g:Span->Int} {s:Qaa} {load days k more sooner:Int} (hf:QsR f) (hg:QsR g) (hgg:g ⟨s.glo,QbA s sooner⟩<=g ⟨s.glo,s.ghi⟩) (hs:Qa7 s=true) (hd:0<=days/\days<=300) (h0:0<=load) (h1:load < 64) (hx:Qc5 load<=s.lots.length) (k0:0<=k) (k1:k < s.stock.length) (m0:0<=more) (o0:0<=sooner)
 (h:0<=QaL (Qs3 (QbG s (Qfm s more) (QbA s sooner)) load days (Qa0 f g (QbG s (Qfm s more) (QbA s sooner)) days) k)):
 0<=QaL (Qs3 s load days (Qa0 f g s days) k)/\QaL (Qs3 s load days (Qa0 f g s days) k)<=QaL (Qs3 (QbG s (Qfm s more) (QbA s sooner)) load days (Qa0 f g (QbG s (Qfm s more) (QbA s sooner)) days) k):=by
 have hy:=QuS hs m0 o0;have hE:=Qdr hf hg hs hd;have hY:=Qdr hf hg hy hd;have aE:=QqJ hs hE;have aY:=QqJ hy hY;have hgp:=Qbt hs;have hst:=QaV hs;have n1:=Q8g (k:=k) hs hE hd h0 h1 hx k0 k1;simp only [gdB,Qs3] at n1;have hs1:=hst.2.1 _ (Qa6 (l:=s.stock) k0 k1);unfold QaL Qs3 at h ⊢;simp only at h ⊢;rw [Qy1 k0 k1] at h ⊢;refine Q35 hd.1 ?_ n1.2.2.2.2.1 (fun a ha b hb=> ?_) (fun a ha=> ?_) (fun b hb=> ?_) aY.2.2.1 h
 ·show s.stock.getD k.toNat default<=(if s.stock.getD k.toNat default+more < 100000 then _ else _)
  split <;> omega
 ·rw [Qst ha,Qst hb];exact hgg
 ·have:=aE.2.1 a ha;omega
 ·have h9:s.glo<=b:=(aY.2.1 b hb).1;omega
theorem Q3f {s:Qaa} {load days k more sooner:Int} (hs:Qa7 s=true) (hd:0<=days/\days<=300) (h0:0<=load) (h1:load < 64) (hx:Qc5 load<=s.lots.length) (k0:0<=k) (k1:k < s.stock.length) (m0:0<=more) (o0:0<=sooner):
 (0<=Q7a (QbG s (Qfm s more) (QbA s sooner)) load days k->0<=Q7a s load days k/\Q7a s load days k<=Q7a (QbG s (Qfm s more) (QbA s sooner)) load days k)/\(0<=QxY (QbG s (Qfm s more) (QbA s sooner)) load days k->0<=QxY s load days k/\QxY s load days k<=QxY (QbG s (Qfm s more) (QbA s sooner)) load days k):=by
 have hgp:=Qbt hs;refine ⟨QuT Qer Qex ?_ hs hd h0 h1 hx k0 k1 m0 o0,QuT Qex Qer ?_ hs hd h0 h1 hx k0 k1 m0 o0⟩
 ·show (if s.ghi - sooner > s.glo then s.ghi - sooner else s.glo)<=s.ghi;split <;> omega
 ·exact Int.le_refl _
theorem Qc4 {s:Qaa} {load:List Int} {days k more sooner:Int} (hs:Qa7 s=true) (hl:Qcz s load=true) (hd:0<=days/\days<=300) (k0:0<=k) (k1:k < s.stock.length) (m0:0<=more) (o0:0<=sooner):
 (0<=((QaH (QbG s (Qfm s more) (QbA s sooner)) (QaW load 0) days).getD k.toNat default).may->0<=((QaH s (QaW load 0) days).getD k.toNat default).may/\((QaH s (QaW load 0) days).getD k.toNat default).may<=((QaH (QbG s (Qfm s more) (QbA s sooner)) (QaW load 0) days).getD k.toNat default).may)/\
 (0<=((QaH (QbG s (Qfm s more) (QbA s sooner)) (QaW load 0) days).getD k.toNat default).must->0<=((QaH s (QaW load 0) days).getD k.toNat default).must/\((QaH s (QaW load 0) days).getD k.toNat default).must<=((QaH (QbG s (Qfm s more) (QbA s sooner)) (QaW load 0) days).getD k.toNat default).must):=by
 have g:=Qhs hs hl;have hlen:k < ((QbG s (Qfm s more) (QbA s sooner)).stock.length:Int):=by show k < ((Qfm s more).length:Int);rw [Qmn];exact k1
 rw [QuP k0 k1,QuP k0 hlen];exact Q3f hs hd g.2.1 g.2.2.1 g.2.2.2 k0 k1 m0 o0
theorem Qby {s:Qaa} {more k:Int} {ks:List Int} (h:¬k < s.stock.length) (hw:Qx8 (Q09 s more) (upI 0 s.stock.length) k ks):ks=Qfm s more:=Q6d (by rw [Qcu];omega) hw
theorem Qk9 {s:Qaa} {more sooner k:Int} {ks:List Int} (hs:Qa7 s=true) (m0:0<=more) (o0:0<=sooner) (h:¬k < s.stock.length) (hw:Qx8 (Q09 s more) (upI 0 s.stock.length) k ks) (hf:Qa7 (QbG s ks (QbA s sooner))=false):False:=by
 rw [Qby h hw,QuS hs m0 o0] at hf;cases hf
theorem Qte {s:Qaa} {sooner:Int} {ks load:List Int} (hl:Qcz s load=true) (hf:Qcz (QbG s ks (QbA s sooner)) load=false):False:=by
 rw [show Qcz (QbG s ks (QbA s sooner)) load=Qcz s load from rfl,hl] at hf;cases hf
theorem Qbe {s:Qaa} {more sooner days load:Int} {ks:List Int} (h:ks=Qfm s more):(QaH (QbG s ks (QbA s sooner)) load days).length=s.stock.length:=by
 rw [Qpy];show ks.length=_;rw [h,Qmn]
end Go.Proofs.YtiabgkiccaodmaaGreat
