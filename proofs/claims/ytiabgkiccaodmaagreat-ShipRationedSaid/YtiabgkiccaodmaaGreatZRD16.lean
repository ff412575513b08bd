/- Goods in any truth lie between those in the truths at the ends. -/
import Derived.Test.YtiabgkiccaodmaaGreatZRD15
set_option linter.all false
namespace Go.Proofs.YtiabgkiccaodmaaGreat
open Go Go.CE Go.RowKit
def QsL:List Int->Int->Int->Int
 | [],_,_=> 0
 | g::l,s,d=> (if s+g<=d then 1 else 0)+QsL l (s+g) d
theorem Quz:∀(l:List Int) (s d:Int),0<=QsL l s d
 | [],_,_=> Int.le_refl _
 | g::l,s,d=> by have:=Quz l (s+g) d;unfold QsL;split <;> omega
theorem Qzp:∀(l:List Int) (s d:Int),(∀g∈l,1<=g)->d<=s->QsL l s d=0
 | [],_,_,_,_=> rfl
 | g::l,s,d,h,hd=> by
   have hg:=h g (by simp);unfold QsL;rw [if_neg (by omega),Qzp l (s+g) d (fun x hx=> h x (by simp [hx])) (by omega)];rfl
theorem Qvh:∀(l:List Int) (s d:Int),(∀g∈l,1<=g)->QsL l s d=QsL l s (d - 1)+(if Qfi d l s=true then 1 else 0)
 | [],_,_,_=> rfl
 | g::l,s,d,h=> by
   have hl:∀x∈l,1<=x:=fun x hx=> h x (by simp [hx])
   have ih:=Qvh l (s+g) d hl;unfold QsL Qfi;by_cases e:s+g=d
   ·rw [decide_eq_true e,Bool.true_or,if_pos rfl,if_pos (by omega),if_neg (by omega),Qzp l (s+g) d hl (by omega),Qzp l (s+g) (d - 1) hl (by omega)];rfl
   ·rw [decide_eq_false e,Bool.false_or,ih];by_cases e2:s+g<=d
    ·rw [if_pos e2,if_pos (show s+g<=d - 1 by omega)];omega
    ·rw [if_neg e2,if_neg (show ¬s+g<=d - 1 by omega)];omega
theorem Q3M {days d:Int} (hd:d < days):∀(l l':List Int) (s s':Int),(∀h∈l,∀g∈l',g<=h)->(∀g∈l,1<=g)->(∀g∈l',1<=g)->s'<=s->days<=s'+QeO l'->QsL l s d<=QsL l' s' d
 | [],l',_,s',_,_,_,_,_=> Quz l' s' d
 | h::l,l',s,s',hh,h1,h2,hs,hsum=> by
   have hp:=h1 h (by simp);by_cases e:s+h<=d
   ·cases l' with
    | nil=> simp only [QeO] at hsum;omega
    | cons g l'=>
      have hg:=hh h (by simp) g (by simp);have hgp:=h2 g (by simp);have ih:=Q3M hd l l' (s+h) (s'+g) (fun a ha b hb=> hh a (by simp [ha]) b (by simp [hb])) (fun x hx=> h1 x (by simp [hx])) (fun x hx=> h2 x (by simp [hx])) (by omega) (by simp only [QeO] at hsum;omega);unfold QsL;rw [if_pos e,if_pos (by omega)];omega
   ·have e1:QsL (h::l) s d=(if s+h<=d then 1 else 0)+QsL l (s+h) d:=rfl;rw [e1,if_neg e,Qzp l (s+h) d (fun x hx=> h1 x (by simp [hx])) (by omega)];have:=Quz l' s' d;omega
def Qf9 (b:Int->Int):List Int->Int
 | []=> -1
 | d::l=> if b d < 0 then d else Qf9 b l
theorem QrP {use br:Int} {comes:Int->Bool} {b:Int->Int}:∀(cs:List Bool) (d left:Int),(∀j:Nat,j < cs.length->comes (d+j)=cs.getD j default)->(∀e,d<=e->b e=b (e - 1)+(if comes e=true then br else 0) - use)->left=b (d - 1)->QaK use br cs d left=Qf9 b (upI d (d+cs.length))
 | [],d,left,_,_,_=> by rw [QgG (by simp)];rfl
 | c::cs,d,left,h,hb,hl=> by
   have hc:comes d=c:=by have:=h 0 (by simp);simpa using this
   have h1:=hb d (Int.le_refl _);rw [QdW (by simp;omega),show d+((c::cs).length:Int)=(d+1)+cs.length by simp;omega];have f1:QaK use br (c::cs) d left=bif decide ((left+bif c then br else 0) < use) then d else QaK use br cs (d+1) (Qjh use (left+bif c then br else 0)):=rfl;have eL:(if comes d=true then br else 0)=bif c then br else 0:=by rw [hc];cases c <;> rfl
   rw [f1];rw [eL,<-hl] at h1;show _=if b d < 0 then d else Qf9 b (upI (d+1) ((d+1)+cs.length))
   by_cases e:(left+bif c then br else 0) < use
   ·rw [decide_eq_true e,cond_true,if_pos (by omega)]
   ·rw [decide_eq_false e,cond_false,if_neg (by omega)];refine QrP cs (d+1) _ (fun j hj=> ?_) (fun x hx=> hb x (by omega)) ?_
    ·have:=h (j+1) (by simp;omega);rw [show d+((j+1:Nat):Int)=d+1+(j:Int) by omega] at this;rw [this];simp
    ·rw [show d+1 - 1=d by omega,h1];unfold Qjh;split <;> omega
theorem Qm5 {b b':Int->Int}:∀l:List Int,(∀d∈l,b d<=b' d)->(∀d∈l,0<=d)->l.Pairwise (· < ·)->0<=Qf9 b' l->0<=Qf9 b l/\Qf9 b l<=Qf9 b' l
 | [],_,_,_,h=> by simp [Qf9] at h
 | d::l,h,h0,hp,hf=> by
   have h1:=h d (by simp);have h2:=h0 d (by simp);rw [List.pairwise_cons] at hp;unfold Qf9 at hf ⊢;by_cases e:b' d < 0
   ·rw [if_pos (by omega),if_pos e];omega
   ·rw [if_neg e] at hf ⊢;by_cases e2:b d < 0
    ·rw [if_pos e2];refine ⟨h2, ?_⟩;have:∀m:List Int,(∀x∈m,d < x)->0<=Qf9 b' m->d<=Qf9 b' m:=by
      intro m;induction m with
      | nil=> intro _ h;simp [Qf9] at h
      | cons x m ih=>
        intro hm h;unfold Qf9 at h ⊢;have:=hm x (by simp);split
        ·omega
        ·rename_i hn;rw [if_neg hn] at h;exact ih (fun y hy=> hm y (by simp [hy])) h
     exact this l hp.1 hf
    ·rw [if_neg e2];exact Qm5 l (fun x hx=> h x (by simp [hx])) (fun x hx=> h0 x (by simp [hx])) hp.2 hf
theorem Qu1:∀(n:Nat) (a:Int),(upI a (a+n)).Pairwise (· < ·)
 | 0,a=> by rw [QgG (by simp)];exact List.Pairwise.nil
 | n+1,a=> by
   rw [QdW (by omega),show a+((n+1:Nat):Int)=(a+1)+n by omega];exact List.Pairwise.cons (fun x hx=> by have:=Qhl hx;omega) (Qu1 n (a+1))
def Q68 (stock use br:Int) (gaps:List Int) (d:Int):Int:=stock+br * QsL gaps 0 d - use * (d+1)
theorem Qoj {stock use br days:Int} {gaps:List Int} (hg:∀g∈gaps,1<=g) (hd:0<=days):QaK use br (Qb3 days gaps) 0 stock=Qf9 (Q68 stock use br gaps) (upI 0 days):=by
 have hlen:(Qb3 days gaps).length=days.toNat:=by unfold Qb3;rw [Qgc,List.length_replicate]
 have h:=QrP (use:=use) (br:=br) (comes:=fun d=> Qfi d gaps 0) (b:=Q68 stock use br gaps) (Qb3 days gaps) 0 stock (fun j hj=> by
  have:=QjQ (days:=days) (d:=(j:Int)) (gaps:=gaps) (fun g hx=> by have:=hg g hx;omega) (by omega) (by omega);rw [Int.zero_add,<-this,Int.toNat_natCast]) (fun e he=> by
   unfold Q68;rw [Qvh gaps 0 e hg,Int.mul_add];have e2:use * (e - 1+1)=use * (e+1) - use:=by rw [show e - 1+1=e by omega,Int.mul_add];omega
   by_cases hc:Qfi e gaps 0=true
   ·rw [if_pos hc,if_pos hc];omega
   ·rw [if_neg hc,if_neg hc];omega) (by unfold Q68;rw [Qzp gaps 0 (0 - 1) hg (by omega)];simp)
 rw [h,hlen,show (0:Int)+(days.toNat:Int)=days by omega]
theorem Q2D {stock use br use' br' days:Int} {gaps gaps':List Int} (hd:0<=days) (hu:0<=use'/\use'<=use) (hb:0<=br/\br<=br') (hg:∀h∈gaps,∀g∈gaps',g<=h) (h1:∀g∈gaps,1<=g) (h2:∀g∈gaps',1<=g) (hs:days<=QeO gaps'):
 0<=QaK use' br' (Qb3 days gaps') 0 stock->0<=QaK use br (Qb3 days gaps) 0 stock/\QaK use br (Qb3 days gaps) 0 stock<=QaK use' br' (Qb3 days gaps') 0 stock:=by
 rw [Qoj h1 hd,Qoj h2 hd];have hp:=Qu1 days.toNat 0;rw [show (0:Int)+(days.toNat:Int)=days by omega] at hp;refine Qm5 _ (fun d hx=> ?_) (fun d hx=> (Qhl hx).1) hp;have hd2:=Qhl hx;have c:=Q3M hd2.2 gaps gaps' 0 0 hg h1 h2 (Int.le_refl _) (by omega);have m1:br * QsL gaps 0 d<=br' * QsL gaps' 0 d:=Int.mul_le_mul hb.2 c (Quz _ _ _) (by omega);have m2:use' * (d+1)<=use * (d+1):=Int.mul_le_mul_of_nonneg_right hu.2 (by omega);unfold Q68;omega
theorem Qqy {α:Type} {f g:α->Int}:∀l:List α,(∀x∈l,f x<=g x)->QeO (l.map f)<=QeO (l.map g)
 | [],_=> Int.le_refl _
 | x::l,h=> by
   have h1:=h x (by simp);have h2:=Qqy l fun y hy=> h y (by simp [hy])
   simp only [List.map_cons,QeO];omega
theorem QqP {s:Qaa} {load k:Int} {g g':List Row} (hx:Qcz load<=s.lots.length) (h:∀x:Int,0<=x->x < s.lots.length->(g.getD x.toNat default).getD k.toNat default<=(g'.getD x.toNat default).getD k.toNat default):Qc7 load g k<=Qc7 load g' k:=by
 unfold Qc7 Qa2;rw [List.map_map,List.map_map];refine Qqy _ fun x hm=> ?_
 have:=Qhl (List.mem_filter.1 hm).1;exact h x this.1 (by omega)
theorem Q1q {s:Qaa} {days:Int} {t:Qaf} (hs:Qav s=true) (ht:Qbn s days t=true):
 (∀k:Int,0<=k->k < s.stock.length->(s.use.getD k.toNat default).lo<=t.uses.getD k.toNat default/\t.uses.getD k.toNat default<=(s.use.getD k.toNat default).hi)/\(∀g∈t.gaps,s.glo<=g/\g<=s.ghi)/\days<=QeO t.gaps/\
 ∀x k:Int,0<=x->x < s.lots.length->0<=k->k < s.stock.length->((s.lots.getD x.toNat default).goods.getD k.toNat default).lo<=(t.goods.getD x.toNat default).getD k.toNat default/\(t.goods.getD x.toNat default).getD k.toNat default<=((s.lots.getD x.toNat default).goods.getD k.toNat default).hi:=by
 simp only [Qbn,QjB,QkK,YB,decide_eq_true_iff,List.all_eq_true,QaA] at ht;have h1:=Qbz ht.1;have hst:=Qar hs;refine ⟨fun k k0 k1=> h1.2 k k0 (by omega),ht.2.1.2.1,ht.2.1.2.2,fun x k x0 x1 k0 k1=> ?_⟩;have h2:=Qbz (Qtc ht.2.2.2 x0 x1);have h3:=Qcq ((Qay hs).2 _ (QaF (l:=s.lots) x0 x1));exact h2.2 k k0 (by omega)
theorem Qnd {f g:Span->Int} {s:Qaa} {days k:Int} (hs:Qav s=true) (_:0<=k) (k1:k < s.stock.length):(Qad f g s days).uses.getD k.toNat default=g (s.use.getD k.toNat default):=by
 have hst:=Qar hs;exact getD_map (by omega)
theorem Qr2 {f g:Span->Int} {s:Qaa} {days x k:Int} (hs:Qav s=true) (x0:0<=x) (x1:x < s.lots.length) (k0:0<=k) (k1:k < s.stock.length):((Qad f g s days).goods.getD x.toNat default).getD k.toNat default=f ((s.lots.getD x.toNat default).goods.getD k.toNat default):=by
 have h3:=Qcq ((Qay hs).2 _ (QaF (l:=s.lots) x0 x1));have e:(s.lots.map fun (l:Qae)=> (l.goods.map f:Row)).getD x.toNat default=(s.lots.getD x.toNat default).goods.map f:=getD_map (f:=fun (l:Qae)=> (l.goods.map f:Row)) (by omega);show ((s.lots.map fun (l:Qae)=> (l.goods.map f:Row)).getD x.toNat default).getD k.toNat default=_;rw [e];exact getD_map (by omega)
theorem QqN {f g:Span->Int} {s:Qaa} {days x:Int} (h:x∈(Qad f g s days).gaps):x=g ⟨s.glo,s.ghi⟩:=(List.mem_replicate.1 h).2
theorem Q2p {s:Qaa} {load days k:Int} {t:Qaf} (hs:Qav s=true) (ht:Qbn s days t=true) (hd:0<=days/\days<=300) (h0:0<=load) (h1:load < 64) (hx:Qcz load<=s.lots.length) (k0:0<=k) (k1:k < s.stock.length):gdB (QsJ s load days t k):=
 Qzz hs ht hd h0 h1 hx _ (List.mem_map.2 ⟨k,QtS.2 ⟨k0,k1⟩,rfl⟩)
end Go.Proofs.YtiabgkiccaodmaaGreat

namespace Go.Proofs.YtiabgkiccaodmaaGreat
open Go Go.CE Go.RowKit
noncomputable section
set_option maxRecDepth 100000
def Qgw (p:Int->Bool) (q:Int->Int) (a b u:Int):Int×Int:=
 if h:0<=a/\a < b then (if p ((a+b).tdiv 2)=true then Qgw p q a ((a+b).tdiv 2) (q ((a+b).tdiv 2)) else Qgw p q ((a+b).tdiv 2+1) b (q ((a+b).tdiv 2))) else (a,u)
termination_by (b - a).toNat
decreasing_by all_goals (have:=Int.tdiv_eq_ediv_of_nonneg (a:=a+b) (b:=2) (by omega);omega)
theorem Qo3 {a b:Int} (h0:0<=a) (h1:a < b):a<=(a+b).tdiv 2/\(a+b).tdiv 2 < b:=by
 have:=Int.tdiv_eq_ediv_of_nonneg (a:=a+b) (b:=2) (by omega);omega
theorem QpD {p:Int->Bool} {q:Int->Int} {a b u:Int} (h:a=b):Qgw p q a b u=(a,u):=by
 rw [Qgw,dif_neg (by omega)]
theorem QpN {p:Int->Bool} {q:Int->Int} {a b u:Int} (h0:0<=a) (h1:a < b) (hp:p ((a+b).tdiv 2)=true):Qgw p q a b u=Qgw p q a ((a+b).tdiv 2) (q ((a+b).tdiv 2)):=by
 rw [Qgw,dif_pos ⟨h0,h1⟩,if_pos hp]
theorem QtK {p:Int->Bool} {q:Int->Int} {a b u:Int} (h0:0<=a) (h1:a < b) (hp:p ((a+b).tdiv 2)=false):Qgw p q a b u=Qgw p q ((a+b).tdiv 2+1) b (q ((a+b).tdiv 2)):=by
 rw [Qgw,dif_pos ⟨h0,h1⟩,if_neg (by rw [hp];decide)]
theorem Qzi {p:Int->Bool} {q:Int->Int}:∀(n:Nat) (a b u:Int),(b - a).toNat=n->0<=a->a<=b->(∀r r',a<=r->r<=r'->r' < b->p r=true->p r'=true)->
 a<=(Qgw p q a b u).1/\(Qgw p q a b u).1<=b/\(∀r,a<=r->r < (Qgw p q a b u).1->p r=false)/\(∀r,(Qgw p q a b u).1<=r->r < b->p r=true):=by
 intro n;induction n using Nat.strongRecOn with
 | _ n ih=>
   intro a b u hn h0 h1 hm;by_cases e:a=b
   ·rw [QpD e];exact ⟨Int.le_refl _,h1,fun r h2 h3=> by omega,fun r h2 h3=> by omega⟩
   ·have hi:=Qo3 h0 (show a < b by omega);cases hp:p ((a+b).tdiv 2) with
    | true=>
      rw [QpN h0 (by omega) hp];have:=ih _ (by omega) a ((a+b).tdiv 2) (q ((a+b).tdiv 2)) rfl h0 hi.1 (fun r r' g1 g2 g3=> hm r r' g1 g2 (by omega));refine ⟨this.1,by omega,this.2.2.1,fun r h2 h3=> ?_⟩;by_cases e2:r < (a+b).tdiv 2
      ·exact this.2.2.2 r h2 e2
      ·exact hm _ r hi.1 (by omega) h3 hp
    | false=>
      rw [QtK h0 (by omega) hp];have:=ih _ (by omega) ((a+b).tdiv 2+1) b (q ((a+b).tdiv 2)) rfl (by omega) (by omega) (fun r r' g1 g2 g3=> hm r r' (by omega) g2 g3);refine ⟨by omega,this.2.1,fun r h2 h3=> ?_,this.2.2.2⟩;by_cases e2:(a+b).tdiv 2 < r
      ·exact this.2.2.1 r (by omega) h3
      ·cases hr:p r with
       | false=> rfl
       | true=> have:=hm r _ h2 (by omega) hi.2 hr;rw [hp] at this;cases this
theorem Qzo {p:Int->Bool} {q:Int->Int}:∀(n:Nat) (a b u:Int),(b - a).toNat=n->0<=a->a<=b->a<=(Qgw p q a b u).1/\(Qgw p q a b u).1<=b:=by
 intro n;induction n using Nat.strongRecOn with
 | _ n ih=>
   intro a b u hn h0 h1;by_cases e:a=b
   ·rw [QpD e];exact ⟨Int.le_refl _,h1⟩
   ·have hi:=Qo3 h0 (show a < b by omega);cases hp:p ((a+b).tdiv 2) with
    | true=> rw [QpN h0 (by omega) hp];have:=ih _ (by omega) a ((a+b).tdiv 2) (q ((a+b).tdiv 2)) rfl h0 hi.1;omega
    | false=> rw [QtK h0 (by omega) hp];have:=ih _ (by omega) ((a+b).tdiv 2+1) b (q ((a+b).tdiv 2)) rfl (by omega) (by omega);omega
def Qbo (u r:Int):Int:=(u * r+1000 - 1).tdiv 1000
def gdR (g:Gd) (r:Int):Gd:=⟨g.stock,Qbo g.use r,g.br,g.ships⟩
def QjS (g:Gd) (r:Int):Bool:= !decide (QaO (gdR g r)= -1)
theorem Qt4 {g:Gd} {r:Int}:QjS g r= !decide (QaK (Qbo g.use r) g.br g.ships 0 g.stock= -1):=rfl
theorem Qr4 (a u b:Int) (cs:List Bool) (hg:gdB ⟨a,u,b,cs⟩):Qam YP J0 133 #[.agg #[.int .i64 a,.int .i64 u,.int .i64 b,slB cs]] (.bool (decide (QaK u b cs 0 a= -1))):=Q3K ⟨a,u,b,cs⟩ hg
theorem Qo4 {u r:Int} (hu:0<=u/\u<=1000) (hr:0<=r/\r<=1001):0<=u * r/\u * r<=1001000/\0<=Qbo u r/\Qbo u r<=1002:=by
 have h1:0<=u * r:=Int.mul_nonneg hu.1 hr.1;have h2:u * r<=1000 * 1001:=Int.mul_le_mul hu.2 hr.2 hr.1 (by decide);have h3:Qbo u r=(u * r+1000 - 1) / 1000:=Int.tdiv_eq_ediv_of_nonneg (by omega);omega
theorem Q5G {a b:Int} (h0:0<=a) (h1:a<=b):a<=(a+b).tdiv 2/\(a+b).tdiv 2<=b:=by
 have:=Int.tdiv_eq_ediv_of_nonneg (a:=a+b) (b:=2) (by omega);omega
theorem Q6k {g:Gd} {r:Int} (hg:gdB g) (hu:0<=g.use/\g.use<=1000) (hr:0<=r/\r<=1001):gdB ⟨g.stock,(g.use * r+1000 - 1).tdiv 1000,g.br,g.ships⟩:=by
 have h:=Qo4 hu hr;have e:Qbo g.use r=(g.use * r+1000 - 1).tdiv 1000:=rfl;unfold gdB at hg ⊢;simp only;omega
theorem Q0z {g:Gd} {a b u:Int} (h0:0<=a) (h1:a < b) (h:decide (QaK ((g.use * (a+b).tdiv 2+1000 - 1).tdiv 1000) g.br g.ships 0 g.stock= -1)=false):Qgw (QjS g) (Qbo g.use) a b u=Qgw (QjS g) (Qbo g.use) a ((a+b).tdiv 2) ((g.use * (a+b).tdiv 2+1000 - 1).tdiv 1000):=
 QpN h0 h1 (by rw [Qt4,Qbo,h];rfl)
theorem Q3X {g:Gd} {a b u:Int} (h0:0<=a) (h1:a < b) (h:decide (QaK ((g.use * (a+b).tdiv 2+1000 - 1).tdiv 1000) g.br g.ships 0 g.stock= -1)=true):Qgw (QjS g) (Qbo g.use) a b u=Qgw (QjS g) (Qbo g.use) ((a+b).tdiv 2+1) b ((g.use * (a+b).tdiv 2+1000 - 1).tdiv 1000):=
 QtK h0 h1 (by rw [Qt4,Qbo,h];rfl)
abbrev QyK (s:Qaa) (load days kind:Int):Gd:=(QaD s load days (Qad Span.lo Span.hi s days)).getD kind.toNat default
theorem Qkv {s:Qaa} {load days kind:Int} (hs:Qav s=true) (hd:0<=days/\days<=300) (h0:0<=load) (h1:load < 64) (hx:Qcz load<=s.lots.length) (k0:0<=kind) (k1:kind < s.stock.length):
 gdB (QyK s load days kind)/\0<=(QyK s load days kind).use/\(QyK s load days kind).use<=1000:=by
 have hE:=QaI QaS QaR hs hd;have e:=Quc (s:=s) (load:=load) (days:=days) (t:=Qad Span.lo Span.hi s days) k0 k1;have hg:=Q2p (k:=kind) hs hE hd h0 h1 hx k0 k1;have ue:=Qnd (f:=Span.lo) (g:=Span.hi) (days:=days) hs k0 k1;have hst:=Qar hs;have hu:=hst.2.2.2 _ (QaF (l:=s.use) (i:=kind) k0 (by omega));refine ⟨by rw [show QyK s load days kind=_ from e];exact hg, ?_⟩;have eu:(QyK s load days kind).use=(s.use.getD kind.toNat default).hi:=by rw [show QyK s load days kind=_ from e];exact ue
 rw [eu];omega
def Qbx (s:Qaa) (load:List Int) (days kind:Int):Int:=(Qgw (QjS (QyK s (QbL load 0) days kind)) (Qbo (QyK s (QbL load 0) days kind).use) 0 1001 (QyK s (QbL load 0) days kind).use).1 - 1
def Qcu (s:Qaa) (load days kind:Int):Qau:=[(4,Obj.cells #[.int .i64 (Gd.use (List.getD (QaD s load days (Qad Span.lo Span.hi s days)) kind.toNat default))] 3),(3,Obj.cells #[.int .i64 (Gd.stock (List.getD (QaD s load days (Qad Span.lo Span.hi s days)) kind.toNat default)),.int .i64 (Gd.use (List.getD (QaD s load days (Qad Span.lo Span.hi s days)) kind.toNat default)),.int .i64 (Gd.br (List.getD (QaD s load days (Qad Span.lo Span.hi s days)) kind.toNat default)),Qa0 2 (slT (List.length (Gd.ships (List.getD (QaD s load days (Qad Span.lo Span.hi s days)) kind.toNat default))) (Qac Qel (Gd.ships (List.getD (QaD s load days (Qad Span.lo Span.hi s days)) kind.toNat default))))] 129),(2,Obj.coro none),(1,Obj.cells #[Qa0 0 (slT s.stock.length (Qac Qat s.stock)),Qa0 0 (slT s.use.length (Qac Qa9 s.use)),.int .i64 s.glo,.int .i64 s.ghi,Qa0 0 (slT s.lots.length (Qac Qan s.lots)),.int .i64 s.hold,.int .i64 load,.int .i64 days] 122),(0,Obj.coro none)]
def Qfc (s:Qaa) (load days kind:Int):CF:=⟨130,ofList 26 [.int .i64 1000,Value.func (Fn.func 131) #[] #[pA 4 0,pA 3 0]],[Item.code (Qaq YP 130)],[],.run,none⟩
def Qc5 (s:Qaa) (load days kind:Int) (a b u:Int):List Value:=[Value.func (Fn.func 131) #[] #[pA 4 0,pA 3 0],.int .i64 a,.int .i64 b]
def Qc3 (s:Qaa) (load days kind:Int) (a b u:Int):List Obj:=[.cells #[.int .i64 (List.getD (QaD s load days (Qad Span.lo Span.hi s days)) kind.toNat default).stock,.int .i64 u,.int .i64 (List.getD (QaD s load days (Qad Span.lo Span.hi s days)) kind.toNat default).br,Qa0 2 (slB (List.getD (QaD s load days (Qad Span.lo Span.hi s days)) kind.toNat default).ships)] 129 (0,0)]
def Qby (s:Qaa) (load days kind:Int) (a b u:Int):List Obj:=[]
def Qc6:List Item:=([.code [1,0,1,1,0,0,0],.inLoop [1,0,1,1,0,0,0],.inBlock 0,.code [1,0,1,1,1],.inScope [1,0]]).map (it (Qaq YP 130))
def QhS (s:Qaa) (load days kind:Int) (a b:Int):Array Value:=#[.int .i64 (Gd.stock (List.getD (QaD s load days (Qad Span.lo Span.hi s days)) kind.toNat default)),.int .i64 (Int.tdiv (Gd.use (List.getD (QaD s load days (Qad Span.lo Span.hi s days)) kind.toNat default) * Int.tdiv (a+b) 2+1000 - 1) 1000),.int .i64 (Gd.br (List.getD (QaD s load days (Qad Span.lo Span.hi s days)) kind.toNat default)),Qa0 2 (slT (List.length (Gd.ships (List.getD (QaD s load days (Qad Span.lo Span.hi s days)) kind.toNat default))) (Qac Qel (Gd.ships (List.getD (QaD s load days (Qad Span.lo Span.hi s days)) kind.toNat default))))]
def Qkl (B:Lo) (s:Qaa) (load days kind:Int) (a b u:Int) (dJ0:Nat->Value):List Prop:=[IntKind.wrap .i64 (Int.tdiv (a+b) 2)=Int.tdiv (a+b) 2,wq (a+b)=a+b]++([]:List Prop)
def Qo1 (s:Qaa) (load days kind:Int) (a b u:Int) (dJ0:Nat->Value):Qas:=[(2,hvI (a+b)),(3,hvI (Int.tdiv (a+b) 2))]
theorem Qxu (B:Lo) (s:Qaa) (load days kind:Int) (a b u:Int) (dJ0:Nat->Value):CE.finK 5 (Qal YP (Qa1 YP) J0 B 12 5 (Qco (none) 130 26 (([1,5,6]:List Nat).zip (Qc5 s load days kind a b u)) dJ0 Qc6) (QbC (Qcu s load days kind) 5 (([3]:List Nat).zip (Qc3 s load days kind a b u)) (Qby s load days kind a b u)) (5+1+(Qby s load days kind a b u).length)
 (Qo1 s load days kind a b u dJ0++[(7,hvT)]) 0 [] []) [(3,KS.auto)] [] []=some (OO.ret (.int .i64 a),[(3,Obj.cells #[.int .i64 (Gd.stock (List.getD (QaD s load days (Qad Span.lo Span.hi s days)) kind.toNat default)),.int .i64 u,.int .i64 (Gd.br (List.getD (QaD s load days (Qad Span.lo Span.hi s days)) kind.toNat default)),Qa0 2 (slT (List.length (Gd.ships (List.getD (QaD s load days (Qad Span.lo Span.hi s days)) kind.toNat default))) (Qac Qel (Gd.ships (List.getD (QaD s load days (Qad Span.lo Span.hi s days)) kind.toNat default))))] 129)],[],
 [eqq a b=true]++Qkl B s load days kind a b u dJ0):=by kernel_rfl
def QjL (B:Lo) (s:Qaa) (load days kind:Int) (a b u:Int) (dJ0:Nat->Value):List Prop:=[eqq a b=false]++Qkl B s load days kind a b u dJ0
def Qog (s:Qaa) (load days kind:Int) (a b u:Int) (dJ0:Nat->Value):Qas:=Qo1 s load days kind a b u dJ0++[(7,hvF)]
def QcM (s:Qaa) (load days kind:Int) (a b u:Int) (dJ0:Nat->Value):Qau:=[(3,Obj.cells #[.int .i64 (Gd.stock (List.getD (QaD s load days (Qad Span.lo Span.hi s days)) kind.toNat default)),.int .i64 u,.int .i64 (Gd.br (List.getD (QaD s load days (Qad Span.lo Span.hi s days)) kind.toNat default)),Qa0 2 (slT (List.length (Gd.ships (List.getD (QaD s load days (Qad Span.lo Span.hi s days)) kind.toNat default))) (Qac Qel (Gd.ships (List.getD (QaD s load days (Qad Span.lo Span.hi s days)) kind.toNat default))))] 129),(5,Obj.coro none),(4,Obj.cells #[.int .i64 (Gd.use (List.getD (QaD s load days (Qad Span.lo Span.hi s days)) kind.toNat default))] 3),(3,Obj.cells #[.int .i64 (Gd.stock (List.getD (QaD s load days (Qad Span.lo Span.hi s days)) kind.toNat default)),.int .i64 (Gd.use (List.getD (QaD s load days (Qad Span.lo Span.hi s days)) kind.toNat default)),.int .i64 (Gd.br (List.getD (QaD s load days (Qad Span.lo Span.hi s days)) kind.toNat default)),Qa0 2 (slT (List.length (Gd.ships (List.getD (QaD s load days (Qad Span.lo Span.hi s days)) kind.toNat default))) (Qac Qel (Gd.ships (List.getD (QaD s load days (Qad Span.lo Span.hi s days)) kind.toNat default))))] 129),(2,Obj.coro none),(1,Obj.cells #[Qa0 0 (slT s.stock.length (Qac Qat s.stock)),Qa0 0 (slT s.use.length (Qac Qa9 s.use)),.int .i64 s.glo,.int .i64 s.ghi,Qa0 0 (slT s.lots.length (Qac Qan s.lots)),.int .i64 s.hold,.int .i64 load,.int .i64 days] 122),(0,Obj.coro none)]
def QdE (s:Qaa) (load days kind:Int) (a b u:Int) (dJ0:Nat->Value):CF:=⟨131,ofList 13 [.int .i64 (Int.tdiv (a+b) 2),pA 4 0,pA 3 0],[Item.code (Qaq YP 131)],[],.run,none⟩
theorem Qxz (B:Lo) (s:Qaa) (load days kind:Int) (a b u:Int) (dJ0:Nat->Value):CE.finK 6 (Qal YP (Qa1 YP) J0 B 8 6 (QdE s load days kind a b u dJ0) (QcM s load days kind a b u dJ0) 6
 [(3,hvI (Gd.use (List.getD (QaD s load days (Qad Span.lo Span.hi s days)) kind.toNat default) * Int.tdiv (a+b) 2)),(4,Qai.pure (.int .i64 (Int.tdiv (Gd.use (List.getD (QaD s load days (Qad Span.lo Span.hi s days)) kind.toNat default) * Int.tdiv (a+b) 2+1000 - 1) 1000)) []),(8,Qai.pure (.bool true) [])] 0 [] []) [(3,KS.auto)] [] []=some (OO.ret (.bool false),[(3,Obj.cells #[.int .i64 (Gd.stock (List.getD (QaD s load days (Qad Span.lo Span.hi s days)) kind.toNat default)),.int .i64 (Int.tdiv (Gd.use (List.getD (QaD s load days (Qad Span.lo Span.hi s days)) kind.toNat default) * Int.tdiv (a+b) 2+1000 - 1) 1000),.int .i64 (Gd.br (List.getD (QaD s load days (Qad Span.lo Span.hi s days)) kind.toNat default)),Qa0 2 (slT (List.length (Gd.ships (List.getD (QaD s load days (Qad Span.lo Span.hi s days)) kind.toNat default))) (Qac Qel (Gd.ships (List.getD (QaD s load days (Qad Span.lo Span.hi s days)) kind.toNat default))))] 129)],[],
 [Qa3 []/\Qam YP J0 133 #[.agg #[.int .i64 (Gd.stock (List.getD (QaD s load days (Qad Span.lo Span.hi s days)) kind.toNat default)),.int .i64 (Int.tdiv (Gd.use (List.getD (QaD s load days (Qad Span.lo Span.hi s days)) kind.toNat default) * Int.tdiv (a+b) 2+1000 - 1) 1000),.int .i64 (Gd.br (List.getD (QaD s load days (Qad Span.lo Span.hi s days)) kind.toNat default)),slT (List.length (Gd.ships (List.getD (QaD s load days (Qad Span.lo Span.hi s days)) kind.toNat default))) (Qac Qel (Gd.ships (List.getD (QaD s load days (Qad Span.lo Span.hi s days)) kind.toNat default)))]] (.bool true),Qa3 []/\Qam YP J0 132 #[.int .i64 (Gd.use (List.getD (QaD s load days (Qad Span.lo Span.hi s days)) kind.toNat default) * Int.tdiv (a+b) 2),.int .i64 1000] (.int .i64 (Int.tdiv (Gd.use (List.getD (QaD s load days (Qad Span.lo Span.hi s days)) kind.toNat default) * Int.tdiv (a+b) 2+1000 - 1) 1000)),wq (Gd.use (List.getD (QaD s load days (Qad Span.lo Span.hi s days)) kind.toNat default) * Int.tdiv (a+b) 2)=Gd.use (List.getD (QaD s load days (Qad Span.lo Span.hi s days)) kind.toNat default) * Int.tdiv (a+b) 2]):=by kernel_rfl
theorem Qwr (B:Lo) (s:Qaa) (load days kind:Int) (a b u:Int) (dJ0:Nat->Value):CE.landA 5 (Qal YP (Qa1 YP) J0 B 14 5 (Qco (none) 130 26 (([1,5,6]:List Nat).zip (Qc5 s load days kind a b u)) dJ0 Qc6) (QbC (Qcu s load days kind) 5 (([3]:List Nat).zip (Qc3 s load days kind a b u)) (Qby s load days kind a b u)) (5+1+(Qby s load days kind a b u).length)
 (Qog s load days kind a b u dJ0++[(11,Qai.call (List.range 6) (OO.ret (.bool false)) ([(3,Obj.cells (QhS s load days kind a b) 129)]++(6,Qb2)::QaP 7 []) 7 [3]),(14,hvI (Int.tdiv (a+b) 2+1))]) 0 [] []) [1,5,6] [(3,KS.auto)] [] []=some ⟨130,26,Qc6,[],.run,none,Qc5 s load days kind (Int.tdiv (a+b) 2+1) (b) (Int.tdiv (Gd.use (List.getD (QaD s load days (Qad Span.lo Span.hi s days)) kind.toNat default) * Int.tdiv (a+b) 2+1000 - 1) 1000),([3]:List Nat).zip (Qc3 s load days kind (Int.tdiv (a+b) 2+1) (b) (Int.tdiv (Gd.use (List.getD (QaD s load days (Qad Span.lo Span.hi s days)) kind.toNat default) * Int.tdiv (a+b) 2+1000 - 1) 1000)),Qby s load days kind (Int.tdiv (a+b) 2+1) (b) (Int.tdiv (Gd.use (List.getD (QaD s load days (Qad Span.lo Span.hi s days)) kind.toNat default) * Int.tdiv (a+b) 2+1000 - 1) 1000),
 [wq (Int.tdiv (a+b) 2+1)=Int.tdiv (a+b) 2+1,FJ YP B (QdE s load days kind a b u dJ0) (QcM s load days kind a b u dJ0) 6 (OO.ret (.bool false)) (([(3,Obj.cells (QhS s load days kind a b) 129)]++((6,Qb2)::QaP (6+1) []))++QcM s load days kind a b u dJ0) 7 (List.range 6) [3]]++QjL B s load days kind a b u dJ0⟩:=by kernel_rfl
theorem Qv8 (B:Lo) (s:Qaa) (load days kind:Int) (a b u:Int) (dJ0:Nat->Value):CE.finK 6 (Qal YP (Qa1 YP) J0 B 8 6 (QdE s load days kind a b u dJ0) (QcM s load days kind a b u dJ0) 6
 [(3,hvI (Gd.use (List.getD (QaD s load days (Qad Span.lo Span.hi s days)) kind.toNat default) * Int.tdiv (a+b) 2)),(4,Qai.pure (.int .i64 (Int.tdiv (Gd.use (List.getD (QaD s load days (Qad Span.lo Span.hi s days)) kind.toNat default) * Int.tdiv (a+b) 2+1000 - 1) 1000)) []),(8,Qai.pure (.bool false) [])] 0 [] []) [(3,KS.auto)] [] []=some (OO.ret (.bool true),[(3,Obj.cells #[.int .i64 (Gd.stock (List.getD (QaD s load days (Qad Span.lo Span.hi s days)) kind.toNat default)),.int .i64 (Int.tdiv (Gd.use (List.getD (QaD s load days (Qad Span.lo Span.hi s days)) kind.toNat default) * Int.tdiv (a+b) 2+1000 - 1) 1000),.int .i64 (Gd.br (List.getD (QaD s load days (Qad Span.lo Span.hi s days)) kind.toNat default)),Qa0 2 (slT (List.length (Gd.ships (List.getD (QaD s load days (Qad Span.lo Span.hi s days)) kind.toNat default))) (Qac Qel (Gd.ships (List.getD (QaD s load days (Qad Span.lo Span.hi s days)) kind.toNat default))))] 129)],[],
 [Qa3 []/\Qam YP J0 133 #[.agg #[.int .i64 (Gd.stock (List.getD (QaD s load days (Qad Span.lo Span.hi s days)) kind.toNat default)),.int .i64 (Int.tdiv (Gd.use (List.getD (QaD s load days (Qad Span.lo Span.hi s days)) kind.toNat default) * Int.tdiv (a+b) 2+1000 - 1) 1000),.int .i64 (Gd.br (List.getD (QaD s load days (Qad Span.lo Span.hi s days)) kind.toNat default)),slT (List.length (Gd.ships (List.getD (QaD s load days (Qad Span.lo Span.hi s days)) kind.toNat default))) (Qac Qel (Gd.ships (List.getD (QaD s load days (Qad Span.lo Span.hi s days)) kind.toNat default)))]] (.bool false),Qa3 []/\Qam YP J0 132 #[.int .i64 (Gd.use (List.getD (QaD s load days (Qad Span.lo Span.hi s days)) kind.toNat default) * Int.tdiv (a+b) 2),.int .i64 1000] (.int .i64 (Int.tdiv (Gd.use (List.getD (QaD s load days (Qad Span.lo Span.hi s days)) kind.toNat default) * Int.tdiv (a+b) 2+1000 - 1) 1000)),wq (Gd.use (List.getD (QaD s load days (Qad Span.lo Span.hi s days)) kind.toNat default) * Int.tdiv (a+b) 2)=Gd.use (List.getD (QaD s load days (Qad Span.lo Span.hi s days)) kind.toNat default) * Int.tdiv (a+b) 2]):=by kernel_rfl
theorem QwS (B:Lo) (s:Qaa) (load days kind:Int) (a b u:Int) (dJ0:Nat->Value):CE.landA 5 (Qal YP (Qa1 YP) J0 B 14 5 (Qco (none) 130 26 (([1,5,6]:List Nat).zip (Qc5 s load days kind a b u)) dJ0 Qc6) (QbC (Qcu s load days kind) 5 (([3]:List Nat).zip (Qc3 s load days kind a b u)) (Qby s load days kind a b u)) (5+1+(Qby s load days kind a b u).length)
 (Qog s load days kind a b u dJ0++[(11,Qai.call (List.range 6) (OO.ret (.bool true)) ([(3,Obj.cells (QhS s load days kind a b) 129)]++(6,Qb2)::QaP 7 []) 7 [3])]) 0 [] []) [1,5,6] [(3,KS.auto)] [] []=some ⟨130,26,Qc6,[],.run,none,Qc5 s load days kind (a) (Int.tdiv (a+b) 2) (Int.tdiv (Gd.use (List.getD (QaD s load days (Qad Span.lo Span.hi s days)) kind.toNat default) * Int.tdiv (a+b) 2+1000 - 1) 1000),([3]:List Nat).zip (Qc3 s load days kind (a) (Int.tdiv (a+b) 2) (Int.tdiv (Gd.use (List.getD (QaD s load days (Qad Span.lo Span.hi s days)) kind.toNat default) * Int.tdiv (a+b) 2+1000 - 1) 1000)),Qby s load days kind (a) (Int.tdiv (a+b) 2) (Int.tdiv (Gd.use (List.getD (QaD s load days (Qad Span.lo Span.hi s days)) kind.toNat default) * Int.tdiv (a+b) 2+1000 - 1) 1000),
 [FJ YP B (QdE s load days kind a b u dJ0) (QcM s load days kind a b u dJ0) 6 (OO.ret (.bool true)) (([(3,Obj.cells (QhS s load days kind a b) 129)]++((6,Qb2)::QaP (6+1) []))++QcM s load days kind a b u dJ0) 7 (List.range 6) [3]]++QjL B s load days kind a b u dJ0⟩:=by kernel_rfl
set_option maxHeartbeats 4000000 in
theorem Qpr (s:Qaa) (load days kind:Int) (hs:Qav s=true) (hd:0<=days/\days<=300) (h0:0<=load) (h1:load < 64) (hx:Qcz load<=s.lots.length) (k0:0<=kind) (k1:kind < s.stock.length) {B:Lo} (hJ:∀w,B.has w->J0 w):∀m:Nat,(∀(a b u:Int),(b - a).toNat=m->∀(a0:0<=a) (ab:a<=b) (b1:b<=1001),(∃dJ0:Nat->Value,(∀t,Qbd (dJ0 t))/\GoE YP B (Qfc s load days kind) (Qcu s load days kind) 5 (Qco (none) 130 26 (([1,5,6]:List Nat).zip (Qc5 s load days kind a b u)) dJ0 Qc6) (QbC (Qcu s load days kind) 5 (([3]:List Nat).zip (Qc3 s load days kind a b u)) (Qby s load days kind a b u)) (5+1+(Qby s load days kind a b u).length) ([3]:List Nat))->FinK YP B (Qfc s load days kind) (Qcu s load days kind) 5 (.ret (.int .i64 (Qgw (QjS (List.getD (QaD s load days (Qad Span.lo Span.hi s days)) kind.toNat default)) (Qbo (List.getD (QaD s load days (Qad Span.lo Span.hi s days)) kind.toNat default).use) a b u).1)) (([3]:List Nat).zip ([.cells #[.int .i64 (List.getD (QaD s load days (Qad Span.lo Span.hi s days)) kind.toNat default).stock,.int .i64 (Qgw (QjS (List.getD (QaD s load days (Qad Span.lo Span.hi s days)) kind.toNat default)) (Qbo (List.getD (QaD s load days (Qad Span.lo Span.hi s days)) kind.toNat default).use) a b u).2,.int .i64 (List.getD (QaD s load days (Qad Span.lo Span.hi s days)) kind.toNat default).br,Qa0 2 (slB (List.getD (QaD s load days (Qad Span.lo Span.hi s days)) kind.toNat default).ships)] 129 (0,0)])) ([]) ([3]:List Nat)):=by
 intro m0;induction m0 using Nat.strongRecOn with
 | _ m0 ih0=>
   intro a b u hm0 a0 ab b1 ⟨dJ0,hdJ0,hg0⟩;have ht1:=QaI QaS QaR hs hd;have e1:=QgK (s:=s) (load:=load) (days:=days) (t:=Qad Span.lo Span.hi s days);have hf:=Qkv hs hd h0 h1 hx k0 k1;have hn:=Qzo (p:=QjS (List.getD (QaD s load days (Qad Span.lo Span.hi s days)) kind.toNat default)) (q:=Qbo (List.getD (QaD s load days (Qad Span.lo Span.hi s days)) kind.toNat default).use) _ 0 1001 (List.getD (QaD s load days (Qad Span.lo Span.hi s days)) kind.toNat default).use rfl (Int.le_refl _) (by decide);have hf:=Qkv hs hd h0 h1 hx k0 k1;have hl:=Q5G a0 ab;have hr:=Qo4 (u:=(List.getD (QaD s load days (Qad Span.lo Span.hi s days)) kind.toNat default).use) (r:=(a+b).tdiv 2) hf.2 (by omega);have hq:0<=(List.getD (QaD s load days (Qad Span.lo Span.hi s days)) kind.toNat default).use * (a+b).tdiv 2/\(List.getD (QaD s load days (Qad Span.lo Span.hi s days)) kind.toNat default).use * (a+b).tdiv 2<=2000000:=⟨hr.1,by omega⟩
   have hb:=Q6k (r:=(a+b).tdiv 2) hf.1 hf.2 (by omega);have hp0:Qa3 (Qkl B s load days kind a b u dJ0):=by
    exact ⟨(Qgz (by omega) (by omega)),⟨(QaQ (by omega) (by omega)),trivial⟩⟩
   by_cases q0:(a:Int)=(b)
   ·have s2:=QpD (p:=QjS (List.getD (QaD s load days (Qad Span.lo Span.hi s days)) kind.toNat default)) (q:=Qbo (List.getD (QaD s load days (Qad Span.lo Span.hi s days)) kind.toNat default).use) (u:=u) (show a=b by omega);exact (GoE.finK okF hJ Qab (Qap (by kernel_rfl)) (Qak (by kernel_rfl)) hg0 (Qxu B s load days kind a b u dJ0)
     ⟨(Qmk q0),hp0⟩).cast (by (rw [s2];done)) (by (rw [s2];rfl)) (by rfl)
   ·have hp1:Qa3 (QjL B s load days kind a b u dJ0):=by
     exact ⟨(Qlu q0),hp0⟩
    cases q1:decide (QaK (Int.tdiv (Gd.use (List.getD (QaD s load days (Qad Span.lo Span.hi s days)) kind.toNat default) * Int.tdiv (a+b) 2+1000 - 1) 1000) (Gd.br (List.getD (QaD s load days (Qad Span.lo Span.hi s days)) kind.toNat default)) (Gd.ships (List.getD (QaD s load days (Qad Span.lo Span.hi s days)) kind.toNat default)) 0 (Gd.stock (List.getD (QaD s load days (Qad Span.lo Span.hi s days)) kind.toNat default))= -1) with
    | true=>
      have rj1:FJ YP B (QdE s load days kind a b u dJ0) (QcM s load days kind a b u dJ0) 6 (OO.ret (.bool false)) (([(3,Obj.cells #[.int .i64 (Gd.stock (List.getD (QaD s load days (Qad Span.lo Span.hi s days)) kind.toNat default)),.int .i64 (Int.tdiv (Gd.use (List.getD (QaD s load days (Qad Span.lo Span.hi s days)) kind.toNat default) * Int.tdiv (a+b) 2+1000 - 1) 1000),.int .i64 (Gd.br (List.getD (QaD s load days (Qad Span.lo Span.hi s days)) kind.toNat default)),Qa0 2 (slT (List.length (Gd.ships (List.getD (QaD s load days (Qad Span.lo Span.hi s days)) kind.toNat default))) (Qac Qel (Gd.ships (List.getD (QaD s load days (Qad Span.lo Span.hi s days)) kind.toNat default))))] 129)]++((6,Qb2)::QaP (6+1) []))++QcM s load days kind a b u dJ0) 7 (List.range 6) [3]:=by
       have hm:=Qo3 a0 (show a < b by omega);have s2:=Q3X (u:=u) a0 (show a < b by omega) (by with_reducible assumption);exact FinK.fjB (GoE.finK okF hJ Qab (Qap (by kernel_rfl)) (Qak (by kernel_rfl)) ((GoE.refl (P:=YP) (B:=B) (c0:=QdE s load days kind a b u dJ0) (Qap (by kernel_rfl))).widen (Wf:=((([(3,KS.auto)]):List (Nat×KS)).map (·.1))) (by simp) (Qak (by kernel_rfl))) (Qxz B s load days kind a b u dJ0)
        ⟨⟨trivial,(by have t_:=Qr4 (Gd.stock (List.getD (QaD s load days (Qad Span.lo Span.hi s days)) kind.toNat default)) (Int.tdiv (Gd.use (List.getD (QaD s load days (Qad Span.lo Span.hi s days)) kind.toNat default) * Int.tdiv (a+b) 2+1000 - 1) 1000) (Gd.br (List.getD (QaD s load days (Qad Span.lo Span.hi s days)) kind.toNat default)) (Gd.ships (List.getD (QaD s load days (Qad Span.lo Span.hi s days)) kind.toNat default)) (by with_reducible assumption);rw [q1] at t_;exact t_)⟩,⟨⟨trivial,Qp2 (Gd.use (List.getD (QaD s load days (Qad Span.lo Span.hi s days)) kind.toNat default) * Int.tdiv (a+b) 2) (1000) (by with_reducible assumption) (by omega)⟩,⟨(QaQ (by omega) (by omega)),trivial⟩⟩⟩) (ex:=[]) (by kernel_rfl) (Qb4 _)
      have hm:=Qo3 a0 (show a < b by omega);have s2:=Q3X (u:=u) a0 (show a < b by omega) (by with_reducible assumption);exact ((ih0 _ (by omega)) (Int.tdiv (a+b) 2+1) (b) (Int.tdiv (Gd.use (List.getD (QaD s load days (Qad Span.lo Span.hi s days)) kind.toNat default) * Int.tdiv (a+b) 2+1000 - 1) 1000) rfl (by omega) (by omega) (by with_reducible assumption)
       (GoE.landA okF hJ Qab (Qap (by kernel_rfl)) (Qak (by kernel_rfl)) hg0 (Qwr B s load days kind a b u dJ0)
       ⟨(QaQ (by omega) (by omega)),⟨rj1,hp1⟩⟩ (by kernel_rfl) (by kernel_rfl) (fun l hl=> by cases hl <;> decide))).cast (by (rw [s2];done)) (by (rw [s2];done)) (by rfl)
    | false=>
      have rj1:FJ YP B (QdE s load days kind a b u dJ0) (QcM s load days kind a b u dJ0) 6 (OO.ret (.bool true)) (([(3,Obj.cells #[.int .i64 (Gd.stock (List.getD (QaD s load days (Qad Span.lo Span.hi s days)) kind.toNat default)),.int .i64 (Int.tdiv (Gd.use (List.getD (QaD s load days (Qad Span.lo Span.hi s days)) kind.toNat default) * Int.tdiv (a+b) 2+1000 - 1) 1000),.int .i64 (Gd.br (List.getD (QaD s load days (Qad Span.lo Span.hi s days)) kind.toNat default)),Qa0 2 (slT (List.length (Gd.ships (List.getD (QaD s load days (Qad Span.lo Span.hi s days)) kind.toNat default))) (Qac Qel (Gd.ships (List.getD (QaD s load days (Qad Span.lo Span.hi s days)) kind.toNat default))))] 129)]++((6,Qb2)::QaP (6+1) []))++QcM s load days kind a b u dJ0) 7 (List.range 6) [3]:=by
       have hm:=Qo3 a0 (show a < b by omega);have s2:=Q0z (u:=u) a0 (show a < b by omega) (by with_reducible assumption);exact FinK.fjB (GoE.finK okF hJ Qab (Qap (by kernel_rfl)) (Qak (by kernel_rfl)) ((GoE.refl (P:=YP) (B:=B) (c0:=QdE s load days kind a b u dJ0) (Qap (by kernel_rfl))).widen (Wf:=((([(3,KS.auto)]):List (Nat×KS)).map (·.1))) (by simp) (Qak (by kernel_rfl))) (Qv8 B s load days kind a b u dJ0)
        ⟨⟨trivial,(by have t_:=Qr4 (Gd.stock (List.getD (QaD s load days (Qad Span.lo Span.hi s days)) kind.toNat default)) (Int.tdiv (Gd.use (List.getD (QaD s load days (Qad Span.lo Span.hi s days)) kind.toNat default) * Int.tdiv (a+b) 2+1000 - 1) 1000) (Gd.br (List.getD (QaD s load days (Qad Span.lo Span.hi s days)) kind.toNat default)) (Gd.ships (List.getD (QaD s load days (Qad Span.lo Span.hi s days)) kind.toNat default)) (by with_reducible assumption);rw [q1] at t_;exact t_)⟩,⟨⟨trivial,Qp2 (Gd.use (List.getD (QaD s load days (Qad Span.lo Span.hi s days)) kind.toNat default) * Int.tdiv (a+b) 2) (1000) (by with_reducible assumption) (by omega)⟩,⟨(QaQ (by omega) (by omega)),trivial⟩⟩⟩) (ex:=[]) (by kernel_rfl) (Qb4 _)
      have hm:=Qo3 a0 (show a < b by omega);have s2:=Q0z (u:=u) a0 (show a < b by omega) (by with_reducible assumption);exact ((ih0 _ (by omega)) (a) (Int.tdiv (a+b) 2) (Int.tdiv (Gd.use (List.getD (QaD s load days (Qad Span.lo Span.hi s days)) kind.toNat default) * Int.tdiv (a+b) 2+1000 - 1) 1000) rfl (by with_reducible assumption) (by omega) (by omega)
       (GoE.landA okF hJ Qab (Qap (by kernel_rfl)) (Qak (by kernel_rfl)) hg0 (QwS B s load days kind a b u dJ0)
       ⟨rj1,hp1⟩ (by kernel_rfl) (by kernel_rfl) (fun l hl=> by cases hl <;> decide))).cast (by (rw [s2];done)) (by (rw [s2];done)) (by rfl)

theorem Qwp (B:Lo) (s:Qaa) (load days kind:Int):CE.landA 5 (Qal YP (Qa1 YP) J0 B 10 5 (Qfc s load days kind) (Qcu s load days kind) 5
 [] 0 [] []) [1,5,6] [(3,KS.auto)] [] []=some ⟨130,26,Qc6,[],.run,none,Qc5 s load days kind (0) (1001) (Gd.use (List.getD (QaD s load days (Qad Span.lo Span.hi s days)) kind.toNat default)),([3]:List Nat).zip (Qc3 s load days kind (0) (1001) (Gd.use (List.getD (QaD s load days (Qad Span.lo Span.hi s days)) kind.toNat default))),Qby s load days kind (0) (1001) (Gd.use (List.getD (QaD s load days (Qad Span.lo Span.hi s days)) kind.toNat default)),
 []⟩:=by kernel_rfl
theorem QvY (B:Lo) (s:Qaa) (load days kind:Int):QaU (Qal YP (Qa1 YP) J0 B 12 1 (Qaj YP 91 19 (([.agg (QaE s load days).toArray,.int .i64 kind]).map (Qao 0 4))) H00 1
 [(3,Qai.pure (slT (List.length (QaD s load days (Qad Span.lo Span.hi s days))) (Qac QbU (QaD s load days (Qad Span.lo Span.hi s days)))) []),(5,Qai.tidx kind.toNat #[.int .i64 (Gd.stock (List.getD (QaD s load days (Qad Span.lo Span.hi s days)) kind.toNat default)),.int .i64 (Gd.use (List.getD (QaD s load days (Qad Span.lo Span.hi s days)) kind.toNat default)),.int .i64 (Gd.br (List.getD (QaD s load days (Qad Span.lo Span.hi s days)) kind.toNat default)),slT (List.length (Gd.ships (List.getD (QaD s load days (Qad Span.lo Span.hi s days)) kind.toNat default))) (Qac Qel (Gd.ships (List.getD (QaD s load days (Qad Span.lo Span.hi s days)) kind.toNat default)))]),(14,Qai.call (List.range 5) (OO.ret (.int .i64 (Prod.fst (Qgw (QjS (List.getD (QaD s load days (Qad Span.lo Span.hi s days)) kind.toNat default)) (Qbo (Gd.use (List.getD (QaD s load days (Qad Span.lo Span.hi s days)) kind.toNat default))) 0 1001 (Gd.use (List.getD (QaD s load days (Qad Span.lo Span.hi s days)) kind.toNat default)))))) ([(3,Obj.cells #[.int .i64 (Gd.stock (List.getD (QaD s load days (Qad Span.lo Span.hi s days)) kind.toNat default)),.int .i64 (Prod.snd (Qgw (QjS (List.getD (QaD s load days (Qad Span.lo Span.hi s days)) kind.toNat default)) (Qbo (Gd.use (List.getD (QaD s load days (Qad Span.lo Span.hi s days)) kind.toNat default))) 0 1001 (Gd.use (List.getD (QaD s load days (Qad Span.lo Span.hi s days)) kind.toNat default)))),.int .i64 (Gd.br (List.getD (QaD s load days (Qad Span.lo Span.hi s days)) kind.toNat default)),Qa0 2 (slT (List.length (Gd.ships (List.getD (QaD s load days (Qad Span.lo Span.hi s days)) kind.toNat default))) (Qac Qel (Gd.ships (List.getD (QaD s load days (Qad Span.lo Span.hi s days)) kind.toNat default))))] 129)]++(5,Qb2)::QaP 6 []) 6 [3]),(17,hvI (Prod.fst (Qgw (QjS (List.getD (QaD s load days (Qad Span.lo Span.hi s days)) kind.toNat default)) (Qbo (Gd.use (List.getD (QaD s load days (Qad Span.lo Span.hi s days)) kind.toNat default))) 0 1001 (Gd.use (List.getD (QaD s load days (Qad Span.lo Span.hi s days)) kind.toNat default))) - 1))] 0 [] []) []=some (.int .i64 (Prod.fst (Qgw (QjS (List.getD (QaD s load days (Qad Span.lo Span.hi s days)) kind.toNat default)) (Qbo (Gd.use (List.getD (QaD s load days (Qad Span.lo Span.hi s days)) kind.toNat default))) 0 1001 (Gd.use (List.getD (QaD s load days (Qad Span.lo Span.hi s days)) kind.toNat default))) - 1),
 [wq (Prod.fst (Qgw (QjS (List.getD (QaD s load days (Qad Span.lo Span.hi s days)) kind.toNat default)) (Qbo (Gd.use (List.getD (QaD s load days (Qad Span.lo Span.hi s days)) kind.toNat default))) 0 1001 (Gd.use (List.getD (QaD s load days (Qad Span.lo Span.hi s days)) kind.toNat default))) - 1)=Prod.fst (Qgw (QjS (List.getD (QaD s load days (Qad Span.lo Span.hi s days)) kind.toNat default)) (Qbo (Gd.use (List.getD (QaD s load days (Qad Span.lo Span.hi s days)) kind.toNat default))) 0 1001 (Gd.use (List.getD (QaD s load days (Qad Span.lo Span.hi s days)) kind.toNat default))) - 1,FJ YP B (Qfc s load days kind) (Qcu s load days kind) 5 (OO.ret (.int .i64 (Prod.fst (Qgw (QjS (List.getD (QaD s load days (Qad Span.lo Span.hi s days)) kind.toNat default)) (Qbo (Gd.use (List.getD (QaD s load days (Qad Span.lo Span.hi s days)) kind.toNat default))) 0 1001 (Gd.use (List.getD (QaD s load days (Qad Span.lo Span.hi s days)) kind.toNat default)))))) (([(3,Obj.cells #[.int .i64 (Gd.stock (List.getD (QaD s load days (Qad Span.lo Span.hi s days)) kind.toNat default)),.int .i64 (Prod.snd (Qgw (QjS (List.getD (QaD s load days (Qad Span.lo Span.hi s days)) kind.toNat default)) (Qbo (Gd.use (List.getD (QaD s load days (Qad Span.lo Span.hi s days)) kind.toNat default))) 0 1001 (Gd.use (List.getD (QaD s load days (Qad Span.lo Span.hi s days)) kind.toNat default)))),.int .i64 (Gd.br (List.getD (QaD s load days (Qad Span.lo Span.hi s days)) kind.toNat default)),Qa0 2 (slT (List.length (Gd.ships (List.getD (QaD s load days (Qad Span.lo Span.hi s days)) kind.toNat default))) (Qac Qel (Gd.ships (List.getD (QaD s load days (Qad Span.lo Span.hi s days)) kind.toNat default))))] 129)]++((5,Qb2)::QaP (5+1) []))++Qcu s load days kind) 6 (List.range 5) [3],kind=(↑kind.toNat:Int)/\Int.toNat kind < List.length (QaD s load days (Qad Span.lo Span.hi s days))/\Array.extract (Qac QbU (QaD s load days (Qad Span.lo Span.hi s days))) (Int.toNat kind * TypeInfo.size Tryz.t129) (Int.toNat kind * TypeInfo.size Tryz.t129+TypeInfo.size Tryz.t129)=#[.int .i64 (Gd.stock (List.getD (QaD s load days (Qad Span.lo Span.hi s days)) kind.toNat default)),.int .i64 (Gd.use (List.getD (QaD s load days (Qad Span.lo Span.hi s days)) kind.toNat default)),.int .i64 (Gd.br (List.getD (QaD s load days (Qad Span.lo Span.hi s days)) kind.toNat default)),slT (List.length (Gd.ships (List.getD (QaD s load days (Qad Span.lo Span.hi s days)) kind.toNat default))) (Qac Qel (Gd.ships (List.getD (QaD s load days (Qad Span.lo Span.hi s days)) kind.toNat default)))],Qa3 []/\Qam YP J0 128 #[.agg #[slT s.stock.length (Qac Qat s.stock),slT s.use.length (Qac Qa9 s.use),.int .i64 s.glo,.int .i64 s.ghi,slT s.lots.length (Qac Qan s.lots),.int .i64 s.hold,.int .i64 load,.int .i64 days]] (slT (List.length (QaD s load days (Qad Span.lo Span.hi s days))) (Qac QbU (QaD s load days (Qad Span.lo Span.hi s days))))]):=by kernel_rfl
set_option maxHeartbeats 4000000 in
theorem Qzf (s:Qaa) (load days kind:Int) (hs:Qav s=true) (hd:0<=days/\days<=300) (h0:0<=load) (h1:load < 64) (hx:Qcz load<=s.lots.length) (k0:0<=kind) (k1:kind < s.stock.length) {B:Lo} (hJ:∀w,B.has w->J0 w):EndsT YP B (Qaj YP 91 19 (([.agg (QaE s load days).toArray,.int .i64 kind]).map (Qao 0 4))) (.int .i64 ((Qgw (QjS (List.getD (QaD s load days (Qad Span.lo Span.hi s days)) kind.toNat default)) (Qbo (List.getD (QaD s load days (Qad Span.lo Span.hi s days)) kind.toNat default).use) 0 1001 (List.getD (QaD s load days (Qad Span.lo Span.hi s days)) kind.toNat default).use).1 - 1)):=by
 have ht1:=QaI QaS QaR hs hd;have e1:=QgK (s:=s) (load:=load) (days:=days) (t:=Qad Span.lo Span.hi s days);have hf:=Qkv hs hd h0 h1 hx k0 k1;have hn:=Qzo (p:=QjS (List.getD (QaD s load days (Qad Span.lo Span.hi s days)) kind.toNat default)) (q:=Qbo (List.getD (QaD s load days (Qad Span.lo Span.hi s days)) kind.toNat default).use) _ 0 1001 (List.getD (QaD s load days (Qad Span.lo Span.hi s days)) kind.toNat default).use rfl (Int.le_refl _) (by decide);have rj0:FJ YP B (Qfc s load days kind) (Qcu s load days kind) 5 (OO.ret (.int .i64 (Prod.fst (Qgw (QjS (List.getD (QaD s load days (Qad Span.lo Span.hi s days)) kind.toNat default)) (Qbo (Gd.use (List.getD (QaD s load days (Qad Span.lo Span.hi s days)) kind.toNat default))) 0 1001 (Gd.use (List.getD (QaD s load days (Qad Span.lo Span.hi s days)) kind.toNat default)))))) (([(3,Obj.cells #[.int .i64 (Gd.stock (List.getD (QaD s load days (Qad Span.lo Span.hi s days)) kind.toNat default)),.int .i64 (Prod.snd (Qgw (QjS (List.getD (QaD s load days (Qad Span.lo Span.hi s days)) kind.toNat default)) (Qbo (Gd.use (List.getD (QaD s load days (Qad Span.lo Span.hi s days)) kind.toNat default))) 0 1001 (Gd.use (List.getD (QaD s load days (Qad Span.lo Span.hi s days)) kind.toNat default)))),.int .i64 (Gd.br (List.getD (QaD s load days (Qad Span.lo Span.hi s days)) kind.toNat default)),Qa0 2 (slT (List.length (Gd.ships (List.getD (QaD s load days (Qad Span.lo Span.hi s days)) kind.toNat default))) (Qac Qel (Gd.ships (List.getD (QaD s load days (Qad Span.lo Span.hi s days)) kind.toNat default))))] 129)]++((5,Qb2)::QaP (5+1) []))++Qcu s load days kind) 6 (List.range 5) [3]:=by
  exact FinK.fjB ((Qpr s load days kind hs hd h0 h1 hx k0 k1 hJ _) (0) (1001) (Gd.use (List.getD (QaD s load days (Qad Span.lo Span.hi s days)) kind.toNat default)) rfl (by omega) (by omega) (by omega)
   (GoE.landA okF hJ Qab (Qap (by kernel_rfl)) (Qak (by kernel_rfl)) ((GoE.refl (P:=YP) (B:=B) (c0:=Qfc s load days kind) (Qap (by kernel_rfl))).widen (Wf:=((([(3,KS.auto)]):List (Nat×KS)).map (·.1))) (by simp) (Qak (by kernel_rfl))) (Qwp B s load days kind)
   trivial (by kernel_rfl) (by kernel_rfl) (fun l hl=> by cases hl <;> decide))) (ex:=[]) (by kernel_rfl) (Qb4 _)
 exact (GoE.endsT okF hJ Qab GoE.start (QvY B s load days kind)
  ⟨(QaQ (by omega) (by omega)),⟨rj0,⟨⟨by omega,by omega,(Qag (z:=4) (fun _=> rfl) (by omega))⟩,⟨⟨trivial,QsH (s) (load) (days) (by with_reducible assumption) (by with_reducible assumption) (by with_reducible assumption) (by with_reducible assumption) (by with_reducible assumption)⟩,trivial⟩⟩⟩⟩).cast (by rfl)
theorem Q5a (s:Qaa) (load days kind:Int) (hs:Qav s=true) (hd:0<=days/\days<=300) (h0:0<=load) (h1:load < 64) (hx:Qcz load<=s.lots.length) (k0:0<=kind) (k1:kind < s.stock.length):Qam YP J0 91 #[.agg (QaE s load days).toArray,.int .i64 kind] (.int .i64 ((Qgw (QjS (List.getD (QaD s load days (Qad Span.lo Span.hi s days)) kind.toNat default)) (Qbo (List.getD (QaD s load days (Qad Span.lo Span.hi s days)) kind.toNat default).use) 0 1001 (List.getD (QaD s load days (Qad Span.lo Span.hi s days)) kind.toNat default).use).1 - 1)):=
 QaG (ts:=[.agg (QaE s load days).toArray,.int .i64 kind]) Qb1 (c0:=Qaj YP 91 19 (([.agg (QaE s load days).toArray,.int .i64 kind]).map (Qao 0 4))) (by kernel_rfl) (by kernel_rfl) fun B hJ=> Qzf s load days kind hs hd h0 h1 hx k0 k1 hJ
def Qkp (s:Qaa) (load:List Int) (days:Int):Array Value:=#[slT s.stock.length (Qac Qat s.stock),slT s.use.length (Qac Qa9 s.use),.int .i64 s.glo,.int .i64 s.ghi,slT s.lots.length (Qac Qan s.lots),.int .i64 s.hold,.int .i64 (QbL load 0),.int .i64 days]
def Qet (s:Qaa):Array Value:=#[slT s.stock.length (Qac Qat s.stock),slT s.use.length (Qac Qa9 s.use),.int .i64 s.glo,.int .i64 s.ghi,slT s.lots.length (Qac Qan s.lots),.int .i64 s.hold]
def Qkn (B:Lo) (s:Qaa) (load:List Int) (days kind:Int):List Prop:=[Qa3 []/\Qam YP J0 79 #[.agg (Qet s)] (.bool true)]++([]:List Prop)
def Qoi (s:Qaa) (load:List Int) (days kind:Int):Qas:=[(4,Qai.pure (.bool true) [])]
def Qk3 (B:Lo) (s:Qaa) (load:List Int) (days kind:Int):List Prop:=[Qa3 []/\Qam YP J0 80 #[.agg (Qet s),slT load.length (Qac Qat load)] (.bool true)]++Qkn B s load days kind
def Qod (s:Qaa) (load:List Int) (days kind:Int):Qas:=Qoi s load days kind++[(9,Qai.pure (.bool true) [])]
def Qky (B:Lo) (s:Qaa) (load:List Int) (days kind:Int):List Prop:=[Qa3 []/\Qam YP J0 81 #[.int .i64 days] (.bool true)]++Qk3 B s load days kind
def Qos (s:Qaa) (load:List Int) (days kind:Int):Qas:=Qod s load days kind++[(14,Qai.pure (.bool true) [])]
theorem QwA (B:Lo) (s:Qaa) (load:List Int) (days kind:Int):QaU (Qal YP (Qa1 YP) J0 B 11 1 (Qaj YP 48 36 (([.agg (Qah s).toArray,slI load,.int .i64 days,.int .i64 kind]).map (Qao 0 4))) H00 1
 (Qos s load days kind++[(20,Qai.pure (.bool true) []),(26,Qai.pure (.agg (Qkp s load days)) []),(28,Qai.pure (.int .i64 (Prod.fst (Qgw (QjS (List.getD (QaD s (QbL load 0) days (Qad Span.lo Span.hi s days)) kind.toNat default)) (Qbo (Gd.use (List.getD (QaD s (QbL load 0) days (Qad Span.lo Span.hi s days)) kind.toNat default))) 0 1001 (Gd.use (List.getD (QaD s (QbL load 0) days (Qad Span.lo Span.hi s days)) kind.toNat default))) - 1)) [])]) 0 [] []) []=some (.tuple #[.int .i64 (Prod.fst (Qgw (QjS (List.getD (QaD s (QbL load 0) days (Qad Span.lo Span.hi s days)) kind.toNat default)) (Qbo (Gd.use (List.getD (QaD s (QbL load 0) days (Qad Span.lo Span.hi s days)) kind.toNat default))) 0 1001 (Gd.use (List.getD (QaD s (QbL load 0) days (Qad Span.lo Span.hi s days)) kind.toNat default))) - 1),.int .i64 0],
 [Qa3 []/\Qam YP J0 91 #[.agg (Qkp s load days),.int .i64 kind] (.int .i64 (Prod.fst (Qgw (QjS (List.getD (QaD s (QbL load 0) days (Qad Span.lo Span.hi s days)) kind.toNat default)) (Qbo (Gd.use (List.getD (QaD s (QbL load 0) days (Qad Span.lo Span.hi s days)) kind.toNat default))) 0 1001 (Gd.use (List.getD (QaD s (QbL load 0) days (Qad Span.lo Span.hi s days)) kind.toNat default))) - 1)),Qa3 []/\Qam YP J0 83 #[.agg (Qet s),slT load.length (Qac Qat load),.int .i64 days] (.agg (Qkp s load days)),Qa3 []/\Qam YP J0 90 #[.agg (Qet s),.int .i64 kind] (.bool true)]++Qky B s load days kind):=by kernel_rfl
theorem Qxc (B:Lo) (s:Qaa) (load:List Int) (days kind:Int):QaU (Qal YP (Qa1 YP) J0 B 10 1 (Qaj YP 48 36 (([.agg (Qah s).toArray,slI load,.int .i64 days,.int .i64 kind]).map (Qao 0 4))) H00 1
 (Qos s load days kind++[(20,Qai.pure (.bool false) [])]) 0 [] []) []=some (.tuple #[.int .i64 0,.int .i64 2],
 [Qa3 []/\Qam YP J0 90 #[.agg (Qet s),.int .i64 kind] (.bool false)]++Qky B s load days kind):=by kernel_rfl
theorem Qwn (B:Lo) (s:Qaa) (load:List Int) (days kind:Int):QaU (Qal YP (Qa1 YP) J0 B 10 1 (Qaj YP 48 36 (([.agg (Qah s).toArray,slI load,.int .i64 days,.int .i64 kind]).map (Qao 0 4))) H00 1
 (Qod s load days kind++[(14,Qai.pure (.bool false) [])]) 0 [] []) []=some (.tuple #[.int .i64 0,.int .i64 2],
 [Qa3 []/\Qam YP J0 81 #[.int .i64 days] (.bool false)]++Qk3 B s load days kind):=by kernel_rfl
theorem Qws (B:Lo) (s:Qaa) (load:List Int) (days kind:Int):QaU (Qal YP (Qa1 YP) J0 B 10 1 (Qaj YP 48 36 (([.agg (Qah s).toArray,slI load,.int .i64 days,.int .i64 kind]).map (Qao 0 4))) H00 1
 (Qoi s load days kind++[(9,Qai.pure (.bool false) [])]) 0 [] []) []=some (.tuple #[.int .i64 0,.int .i64 2],
 [Qa3 []/\Qam YP J0 80 #[.agg (Qet s),slT load.length (Qac Qat load)] (.bool false)]++Qkn B s load days kind):=by kernel_rfl
theorem Qvy (B:Lo) (s:Qaa) (load:List Int) (days kind:Int):QaU (Qal YP (Qa1 YP) J0 B 10 1 (Qaj YP 48 36 (([.agg (Qah s).toArray,slI load,.int .i64 days,.int .i64 kind]).map (Qao 0 4))) H00 1
 [(4,Qai.pure (.bool false) [])] 0 [] []) []=some (.tuple #[.int .i64 0,.int .i64 2],
 [Qa3 []/\Qam YP J0 79 #[.agg (Qet s)] (.bool false)]):=by kernel_rfl
set_option maxHeartbeats 4000000 in
theorem Q0c (s:Qaa) (load:List Int) (days kind:Int)  {B:Lo} (hJ:∀w,B.has w->J0 w):EndsT YP B (Qaj YP 48 36 (([.agg (Qah s).toArray,slI load,.int .i64 days,.int .i64 kind]).map (Qao 0 4))) (.tuple #[.int .i64 (if Qav s && (Qbl s load && (inB days 0 300 && inB kind 0 (s.stock.length - 1))) then Qbx s load days kind else 0),.int .i64 (if Qav s && (Qbl s load && (inB days 0 300 && inB kind 0 (s.stock.length - 1))) then 0 else 2)]):=by
 cases q0:Qav s with
 | true=>
   have hp0:Qa3 (Qkn B s load days kind):=by
    exact ⟨⟨trivial,(by have t_:=Qlr (s);rw [q0] at t_;exact t_)⟩,trivial⟩
   cases q1:Qbl s load with
   | true=>
     have hp1:Qa3 (Qk3 B s load days kind):=by
      have g1:=QcG ‹Qav s=true› ‹Qbl s load=true›;have g5:=g1.1;have g6:=g1.2.2.1;have g7:=g1.2.2.2;have g8:=g1.2.1;exact ⟨⟨trivial,(by have t_:=QoF (s) (load) (by with_reducible assumption);rw [q1] at t_;exact t_)⟩,hp0⟩
     cases q2:inB days 0 300 with
     | true=>
       have hp2:Qa3 (Qky B s load days kind):=by
        have g1:=QcG ‹Qav s=true› ‹Qbl s load=true›;have g2:=QaA.1 ‹inB days 0 300=true›;have g5:=g1.1;have g6:=g1.2.2.1;have g7:=g1.2.2.2;have g8:=g1.2.1;exact ⟨⟨trivial,(by have t_:=Qlf (days);rw [q2] at t_;exact t_)⟩,hp1⟩
       cases q3:inB kind 0 ((↑s.stock.length:Int) - 1) with
       | true=>
         have g1:=QcG ‹Qav s=true› ‹Qbl s load=true›;have g2:=QaA.1 ‹inB days 0 300=true›;have g3:=QaA.1 ‹inB kind 0 _=true›;have g5:=g1.1;have g6:=g1.2.2.1;have g7:=g1.2.2.2;have g8:=g1.2.1;exact (GoE.endsT okF hJ Qab GoE.start (QwA B s load days kind)
          ⟨⟨trivial,Q5a (s) (QbL load 0) (days) (kind) (by with_reducible assumption) (by with_reducible assumption) (by with_reducible assumption) (by with_reducible assumption) (by with_reducible assumption) (by omega) (by omega)⟩,⟨⟨trivial,QsC (s) (load) (days) (by with_reducible assumption)⟩,⟨⟨trivial,(by have t_:=QxL (s) (kind);rw [q3] at t_;exact t_)⟩,hp2⟩⟩⟩).cast (by rfl)
       | false=>
         have g1:=QcG ‹Qav s=true› ‹Qbl s load=true›;have g2:=QaA.1 ‹inB days 0 300=true›;have g5:=g1.1;have g6:=g1.2.2.1;have g7:=g1.2.2.2;have g8:=g1.2.1;exact (GoE.endsT okF hJ Qab GoE.start (Qxc B s load days kind)
          ⟨⟨trivial,(by have t_:=QxL (s) (kind);rw [q3] at t_;exact t_)⟩,hp2⟩).cast (by rfl)
     | false=>
       have g1:=QcG ‹Qav s=true› ‹Qbl s load=true›;have g5:=g1.1;have g6:=g1.2.2.1;have g7:=g1.2.2.2;have g8:=g1.2.1;exact (GoE.endsT okF hJ Qab GoE.start (Qwn B s load days kind)
        ⟨⟨trivial,(by have t_:=Qlf (days);rw [q2] at t_;exact t_)⟩,hp1⟩).cast (by rfl)
   | false=>
     exact (GoE.endsT okF hJ Qab GoE.start (Qws B s load days kind)
      ⟨⟨trivial,(by have t_:=QoF (s) (load) (by with_reducible assumption);rw [q1] at t_;exact t_)⟩,hp0⟩).cast (by rfl)
 | false=>
   exact (GoE.endsT okF hJ Qab GoE.start (Qvy B s load days kind)
    ⟨⟨trivial,(by have t_:=Qlr (s);rw [q0] at t_;exact t_)⟩,trivial⟩).cast (by rfl)
theorem QjZ (s:Qaa) (load:List Int) (days kind:Int)  :Qam YP J0 48 #[.agg (Qah s).toArray,slI load,.int .i64 days,.int .i64 kind] (.tuple #[.int .i64 (if Qav s && (Qbl s load && (inB days 0 300 && inB kind 0 (s.stock.length - 1))) then Qbx s load days kind else 0),.int .i64 (if Qav s && (Qbl s load && (inB days 0 300 && inB kind 0 (s.stock.length - 1))) then 0 else 2)]):=
 QaG (ts:=[.agg (Qah s).toArray,slI load,.int .i64 days,.int .i64 kind]) Qb1 (c0:=Qaj YP 48 36 (([.agg (Qah s).toArray,slI load,.int .i64 days,.int .i64 kind]).map (Qao 0 4))) (by kernel_rfl) (by kernel_rfl) fun B hJ=> Q0c s load days kind  hJ
end
end Go.Proofs.YtiabgkiccaodmaaGreat

namespace Go.Proofs.YtiabgkiccaodmaaGreat
open Go Go.CE Go.RowKit
noncomputable section
set_option maxRecDepth 100000
def QiA (p:Int->Bool) (lo hi:Int):Int:=
 if h:lo < hi then (if p (hi - (hi - lo).tdiv 2)=true then QiA p (hi - (hi - lo).tdiv 2) hi else QiA p lo (hi - (hi - lo).tdiv 2 - 1)) else lo
termination_by (hi - lo).toNat
decreasing_by all_goals (have:=Int.tdiv_eq_ediv_of_nonneg (a:=hi - lo) (b:=2) (by omega);omega)
theorem Qp5 {lo hi:Int} (h1:lo < hi):lo < hi - (hi - lo).tdiv 2/\hi - (hi - lo).tdiv 2<=hi:=by
 have:=Int.tdiv_eq_ediv_of_nonneg (a:=hi - lo) (b:=2) (by omega);omega
theorem QuU {p:Int->Bool} {lo hi:Int} (h:hi<=lo):QiA p lo hi=lo:=by rw [QiA,dif_neg (by omega)]
theorem Qu5 {p:Int->Bool} {lo hi:Int} (h:lo < hi) (hp:p (hi - (hi - lo).tdiv 2)=true):QiA p lo hi=QiA p (hi - (hi - lo).tdiv 2) hi:=by
 rw [QiA,dif_pos h,if_pos hp]
theorem Qy8 {p:Int->Bool} {lo hi:Int} (h:lo < hi) (hp:p (hi - (hi - lo).tdiv 2)=false):QiA p lo hi=QiA p lo (hi - (hi - lo).tdiv 2 - 1):=by
 rw [QiA,dif_pos h,if_neg (by rw [hp];decide)]
theorem QpY {p:Int->Bool}:∀(n:Nat) (lo hi:Int),(hi - lo).toNat=n->lo<=hi->(∀r r',lo < r->r<=r'->r'<=hi->p r'=true->p r=true)->
 lo<=QiA p lo hi/\QiA p lo hi<=hi/\(∀r,lo < r->r<=QiA p lo hi->p r=true)/\(∀r,QiA p lo hi < r->r<=hi->p r=false):=by
 intro n;induction n using Nat.strongRecOn with
 | _ n ih=>
   intro lo hi hn h1 hm;by_cases e:hi<=lo
   ·rw [QuU e];exact ⟨Int.le_refl _,h1,fun r h2 h3=> by omega,fun r h2 h3=> by omega⟩
   ·have hi2:=Qp5 (show lo < hi by omega);cases hp:p (hi - (hi - lo).tdiv 2) with
    | true=>
      rw [Qu5 (by omega) hp];have:=ih _ (by omega) (hi - (hi - lo).tdiv 2) hi rfl hi2.2 (fun r r' g1 g2 g3=> hm r r' (by omega) g2 g3);refine ⟨by omega,this.2.1,fun r h2 h3=> ?_,this.2.2.2⟩;by_cases e2:hi - (hi - lo).tdiv 2 < r
      ·exact this.2.2.1 r e2 h3
      ·exact hm r _ h2 (by omega) hi2.2 hp
    | false=>
      rw [Qy8 (by omega) hp];have:=ih _ (by omega) lo (hi - (hi - lo).tdiv 2 - 1) rfl (by omega) (fun r r' g1 g2 g3=> hm r r' g1 g2 (by omega));refine ⟨this.1,by omega,this.2.2.1,fun r h2 h3=> ?_⟩;by_cases e2:r<=hi - (hi - lo).tdiv 2 - 1
      ·exact this.2.2.2 r h2 e2
      ·cases hr:p r with
       | false=> rfl
       | true=> have:=hm _ r hi2.1 (by omega) h3 hr;rw [hp] at this;cases this
theorem Q4A {p q:Int->Bool} {f:Int->Int} {u:Int} (hq:∀r,0<=r->r<=1000->q r= !p r) (h0:p 0=true) (hm:∀r r',0<=r->r<=r'->r'<=1000->p r'=true->p r=true):(Qgw q f 0 1001 u).1 - 1=QiA p 0 1000:=by
 have hA:=Qzi (p:=q) (q:=f) _ 0 1001 u rfl (Int.le_refl _) (by decide) (fun r r' g1 g2 g3 g4=> by
  rw [hq r (by omega) (by omega)] at g4;rw [hq r' (by omega) (by omega)];cases h:p r' with
  | false=> rfl
  | true=> rw [hm r r' g1 g2 (by omega) h] at g4;cases g4)
 have hB:=QpY (p:=p) _ 0 1000 rfl (by decide) (fun r r' g1 g2 g3 g4=> hm r r' (by omega) g2 g3 g4);generalize (Qgw q f 0 1001 u).1=A at *;generalize QiA p 0 1000=B at *;have hA1:1<=A:=by
  rcases Int.lt_or_le A 1 with h | h
  ·have:=hA.2.2.2 0 (by omega) (by decide);rw [hq 0 (by omega) (by decide),h0] at this;cases this
  ·exact h
 rcases Int.lt_trichotomy (A - 1) B with h | h | h
 ·have h1:=hA.2.2.2 B (by omega) (by omega);rw [hq B (by omega) (by omega)] at h1;by_cases e:B=0
  ·subst e;rw [h0] at h1;cases h1
  ·rw [hB.2.2.1 B (by omega) (Int.le_refl _)] at h1;cases h1
 ·exact h
 ·have h1:=hA.2.2.1 (A - 1) (by omega) (by omega);rw [hq _ (by omega) (by omega),hB.2.2.2 (A - 1) h (by omega)] at h1;cases h1
def Qei (s:Qaa) (load:List Int) (days kind r:Int):Bool:=decide ((Qcn (Qd7 (Qad Span.lo Span.hi s days) kind r) (Qee (Qad Span.lo Span.hi s days) kind load) (QaW (Qad Span.lo Span.hi s days)) (upI 0 days) (-1,s.stock.getD kind.toNat default)).1 < 0)
theorem Q1I {s:Qaa} {load:List Int} {days kind lo hi:Int} (h:lo < hi) (hp:(Qcn (Qd7 (Qad Span.lo Span.hi s days) kind (hi - (hi - lo).tdiv 2)) (Qee (Qad Span.lo Span.hi s days) kind load) (QaW (Qad Span.lo Span.hi s days)) (upI 0 days) (-1,s.stock.getD kind.toNat default)).1 < 0):QiA (Qei s load days kind) lo hi=QiA (Qei s load days kind) (hi - (hi - lo).tdiv 2) hi:=Qu5 h (decide_eq_true hp)
theorem Q4Y {s:Qaa} {load:List Int} {days kind lo hi:Int} (h:lo < hi) (hp:¬(Qcn (Qd7 (Qad Span.lo Span.hi s days) kind (hi - (hi - lo).tdiv 2)) (Qee (Qad Span.lo Span.hi s days) kind load) (QaW (Qad Span.lo Span.hi s days)) (upI 0 days) (-1,s.stock.getD kind.toNat default)).1 < 0):QiA (Qei s load days kind) lo hi=QiA (Qei s load days kind) lo (hi - (hi - lo).tdiv 2 - 1):=Qy8 h (decide_eq_false hp)
def Qer (s:Qaa) (load:List Int) (days kind:Int) (lo hi:Int):List Value:=[Qa0 1 (slT load.length (Qac Qat load)),.int .i64 days,.int .i64 kind,pA 2 0,.int .i64 lo,.int .i64 hi]
def Qcy (s:Qaa) (load:List Int) (days kind:Int) (lo hi:Int):List Obj:=[Obj.cells #[Qa0 1 (slT s.stock.length (Qac Qat s.stock)),Qa0 1 (slT s.use.length (Qac Qa9 s.use)),.int .i64 s.glo,.int .i64 s.ghi,Qa0 1 (slT s.lots.length (Qac Qan s.lots)),.int .i64 s.hold] 62]
def Qem:List Item:=([.code [1,1,0,0,0],.inLoop [1,1,0,0,0],.inBlock 0,.code [1,1,1]]).map (it (Qaq YP 50))
def Qv2 (B:Lo) (c0:CF) (s:Qaa) (load:List Int) (days kind:Int) (lo hi:Int):Prop:=∃dJ:Nat->Value,(∀t,Qbd (dJ t))/\GoE YP B c0 H00 1 (Qa8 50 41 (([1,2,3,4,9,10]:List Nat).zip (Qer s load days kind lo hi)) dJ Qem) (Qa6 (Qcy s load days kind lo hi)) (2+(Qcy s load days kind lo hi).length) []
def QjI (s:Qaa) (days:Int):Array Value:=#[slT (List.length (Qaf.uses (Qad Span.lo Span.hi s days))) (Qac Qat (Qaf.uses (Qad Span.lo Span.hi s days))),slT (List.length (Qaf.gaps (Qad Span.lo Span.hi s days))) (Qac Qat (Qaf.gaps (Qad Span.lo Span.hi s days))),slT (List.length (Qaf.goods (Qad Span.lo Span.hi s days))) (Qac Qaw (Qaf.goods (Qad Span.lo Span.hi s days)))]
def QjT (B:Lo) (s:Qaa) (load:List Int) (days kind:Int) (lo hi:Int) (dJ0:Nat->Value):List Prop:=[Qa3 []/\Qam YP J0 41 #[.agg #[slT s.stock.length (Qac Qat s.stock),slT s.use.length (Qac Qa9 s.use),.int .i64 s.glo,.int .i64 s.ghi,slT s.lots.length (Qac Qan s.lots),.int .i64 s.hold],slT load.length (Qac Qat load),.int .i64 days,.agg (QjI s days),.int .i64 kind,.int .i64 (hi - Int.tdiv (hi - lo) 2)] (.tuple #[.int .i64 (Prod.fst (Qcn (Qd7 (Qad Span.lo Span.hi s days) kind (hi - Int.tdiv (hi - lo) 2)) (Qee (Qad Span.lo Span.hi s days) kind load) (QaW (Qad Span.lo Span.hi s days)) (upI 0 days) (-1,s.stock.getD kind.toNat default))),.int .i64 (Prod.snd (Qcn (Qd7 (Qad Span.lo Span.hi s days) kind (hi - Int.tdiv (hi - lo) 2)) (Qee (Qad Span.lo Span.hi s days) kind load) (QaW (Qad Span.lo Span.hi s days)) (upI 0 days) (-1,s.stock.getD kind.toNat default)))]),Qa3 []/\Qam YP J0 47 #[.agg #[slT s.stock.length (Qac Qat s.stock),slT s.use.length (Qac Qa9 s.use),.int .i64 s.glo,.int .i64 s.ghi,slT s.lots.length (Qac Qan s.lots),.int .i64 s.hold],.int .i64 days,.bool true] (.agg (QjI s days)),wq (hi - Int.tdiv (hi - lo) 2)=hi - Int.tdiv (hi - lo) 2,IntKind.wrap .i64 (Int.tdiv (hi - lo) 2)=Int.tdiv (hi - lo) 2,wq (hi - lo)=hi - lo,ltq lo hi=true]++([]:List Prop)
def Qoz (s:Qaa) (load:List Int) (days kind:Int) (lo hi:Int) (dJ0:Nat->Value):Qas:=[(2,hvT),(6,hvI (hi - lo)),(7,hvI (Int.tdiv (hi - lo) 2)),(8,hvI (hi - Int.tdiv (hi - lo) 2)),(15,Qai.pure (.agg (QjI s days)) []),(18,Qai.pure (.tuple #[.int .i64 (Prod.fst (Qcn (Qd7 (Qad Span.lo Span.hi s days) kind (hi - Int.tdiv (hi - lo) 2)) (Qee (Qad Span.lo Span.hi s days) kind load) (QaW (Qad Span.lo Span.hi s days)) (upI 0 days) (-1,s.stock.getD kind.toNat default))),.int .i64 (Prod.snd (Qcn (Qd7 (Qad Span.lo Span.hi s days) kind (hi - Int.tdiv (hi - lo) 2)) (Qee (Qad Span.lo Span.hi s days) kind load) (QaW (Qad Span.lo Span.hi s days)) (upI 0 days) (-1,s.stock.getD kind.toNat default)))]) [])]
theorem QvK (B:Lo) (s:Qaa) (load:List Int) (days kind:Int) (lo hi:Int) (dJ0:Nat->Value):landM (Qal YP (Qa1 YP) J0 B 16 1 (Qa8 50 41 (([1,2,3,4,9,10]:List Nat).zip (Qer s load days kind lo hi)) dJ0 Qem) (Qa6 (Qcy s load days kind lo hi)) (2+(Qcy s load days kind lo hi).length)
 (Qoz s load days kind lo hi dJ0++[(25,hvT)]) 0 [] []) [1,2,3,4,9,10] [(2,KS.auto)] []=some ⟨50,41,Qem,[],.run,none,Qer s load days kind (hi - Int.tdiv (hi - lo) 2) (hi),Qcy s load days kind (hi - Int.tdiv (hi - lo) 2) (hi),
 [ltq (Prod.fst (Qcn (Qd7 (Qad Span.lo Span.hi s days) kind (hi - Int.tdiv (hi - lo) 2)) (Qee (Qad Span.lo Span.hi s days) kind load) (QaW (Qad Span.lo Span.hi s days)) (upI 0 days) (-1,s.stock.getD kind.toNat default))) 0=true]++QjT B s load days kind lo hi dJ0⟩:=by kernel_rfl
theorem Qv1 (B:Lo) (s:Qaa) (load:List Int) (days kind:Int) (lo hi:Int) (dJ0:Nat->Value):landM (Qal YP (Qa1 YP) J0 B 16 1 (Qa8 50 41 (([1,2,3,4,9,10]:List Nat).zip (Qer s load days kind lo hi)) dJ0 Qem) (Qa6 (Qcy s load days kind lo hi)) (2+(Qcy s load days kind lo hi).length)
 (Qoz s load days kind lo hi dJ0++[(25,hvF),(27,hvI (hi - Int.tdiv (hi - lo) 2 - 1))]) 0 [] []) [1,2,3,4,9,10] [(2,KS.auto)] []=some ⟨50,41,Qem,[],.run,none,Qer s load days kind (lo) (hi - Int.tdiv (hi - lo) 2 - 1),Qcy s load days kind (lo) (hi - Int.tdiv (hi - lo) 2 - 1),
 [wq (hi - Int.tdiv (hi - lo) 2 - 1)=hi - Int.tdiv (hi - lo) 2 - 1,ltq (Prod.fst (Qcn (Qd7 (Qad Span.lo Span.hi s days) kind (hi - Int.tdiv (hi - lo) 2)) (Qee (Qad Span.lo Span.hi s days) kind load) (QaW (Qad Span.lo Span.hi s days)) (upI 0 days) (-1,s.stock.getD kind.toNat default))) 0=false]++QjT B s load days kind lo hi dJ0⟩:=by kernel_rfl
theorem Qxf (B:Lo) (s:Qaa) (load:List Int) (days kind:Int) (lo hi:Int) (dJ0:Nat->Value):QaU (Qal YP (Qa1 YP) J0 B 9 1 (Qa8 50 41 (([1,2,3,4,9,10]:List Nat).zip (Qer s load days kind lo hi)) dJ0 Qem) (Qa6 (Qcy s load days kind lo hi)) (2+(Qcy s load days kind lo hi).length)
 [(2,hvF)] 0 [] []) []=some (.int .i64 lo,
 [ltq lo hi=false]):=by kernel_rfl
theorem Qx1 (B:Lo) (s:Qaa) (load:List Int) (days kind:Int):landM (Qal YP (Qa1 YP) J0 B 7 1 (Qaj YP 50 41 (([.agg (Qah s).toArray,slI load,.int .i64 days,.int .i64 kind]).map (Qao 0 4))) H00 1
 [] 0 [] []) [1,2,3,4,9,10] [(1,KS.auto)] []=some ⟨50,41,Qem,[],.run,none,Qer s load days kind (0) (1000),Qcy s load days kind (0) (1000),
 []⟩:=by kernel_rfl
set_option maxHeartbeats 4000000 in
theorem QvW (s:Qaa) (load:List Int) (days kind:Int) (hs:Qav s=true) (hl:Qbl s load=true) (hll:load.length<=10) (hd:0<=days/\days<=300) (hk:0<=kind/\kind < s.stock.length) {B:Lo} (hJ:∀w,B.has w->J0 w) {c0:CF}:∀m:Nat,(∀(lo hi:Int),(hi - lo).toNat=m->∀(l0:0<=lo) (lh:lo<=hi) (h1:hi<=1000),Qv2 B c0 s load days kind lo hi->EndsT YP B c0 (.int .i64 (QiA (Qei s load days kind) lo hi))):=by
 intro m0;induction m0 using Nat.strongRecOn with
 | _ m0 ih0=>
   intro lo hi hm0 l0 lh h1 ⟨dJ0,hdJ0,hg0⟩;have ht1:=QaI QaS QaR hs hd;have hn:=hl;simp only [Qbl,YB] at hn;have hx:=QhB hn.1;have ht1:=QaI QaS QaR hs hd;have hn:=hl;simp only [Qbl,YB] at hn;have hx:=QhB hn.1;by_cases q0:(lo:Int) < (hi)
   ·have hp0:Qa3 (QjT B s load days kind lo hi dJ0):=by
     have hm:=Qp5 (show lo < hi by omega);exact ⟨⟨trivial,Q65 (s) (load) (days) (Qad Span.lo Span.hi s days) (kind) (hi - Int.tdiv (hi - lo) 2) (by with_reducible assumption) (by with_reducible assumption) (by with_reducible assumption) (by with_reducible assumption) (by with_reducible assumption) (by with_reducible assumption) (by omega)⟩,⟨⟨trivial,Q5L (s) (days) (by with_reducible assumption) (by with_reducible assumption)⟩,⟨(QaQ (by omega) (by omega)),⟨(Qgz (by omega) (by omega)),⟨(QaQ (by omega) (by omega)),⟨(Qbe q0),trivial⟩⟩⟩⟩⟩⟩
    by_cases q1:(Prod.fst (Qcn (Qd7 (Qad Span.lo Span.hi s days) kind (hi - Int.tdiv (hi - lo) 2)) (Qee (Qad Span.lo Span.hi s days) kind load) (QaW (Qad Span.lo Span.hi s days)) (upI 0 days) (-1,s.stock.getD kind.toNat default)):Int) < (0)
    ·have hm:=Qp5 (show lo < hi by omega);have s2:=Q1I (s:=s) (load:=load) (days:=days) (kind:=kind) (show lo < hi by omega) (by with_reducible assumption);exact ((ih0 _ (by omega)) (hi - Int.tdiv (hi - lo) 2) (hi) rfl (by omega) (by omega) (by with_reducible assumption)
      (hg0.landM okF hJ Qab (QvK B s load days kind lo hi dJ0)
      ⟨(Qbe q1),hp0⟩ (by kernel_rfl) (by kernel_rfl))).cast (by (rw [s2];done))
    ·have hm:=Qp5 (show lo < hi by omega);have s2:=Q4Y (s:=s) (load:=load) (days:=days) (kind:=kind) (show lo < hi by omega) (by with_reducible assumption);exact ((ih0 _ (by omega)) (lo) (hi - Int.tdiv (hi - lo) 2 - 1) rfl (by with_reducible assumption) (by omega) (by omega)
      (hg0.landM okF hJ Qab (Qv1 B s load days kind lo hi dJ0)
      ⟨(QaQ (by omega) (by omega)),⟨(Qbj (Int.not_lt.1 q1)),hp0⟩⟩ (by kernel_rfl) (by kernel_rfl))).cast (by (rw [s2];done))
   ·have s2:=QuU (p:=Qei s load days kind) (show hi<=lo by omega);exact (GoE.endsT okF hJ Qab hg0 (Qxf B s load days kind lo hi dJ0)
     ⟨(Qbj (Int.not_lt.1 q0)),trivial⟩).cast (by (rw [s2];done))
set_option maxHeartbeats 4000000 in
theorem Q1p (s:Qaa) (load:List Int) (days kind:Int) (hs:Qav s=true) (hl:Qbl s load=true) (hll:load.length<=10) (hd:0<=days/\days<=300) (hk:0<=kind/\kind < s.stock.length) {B:Lo} (hJ:∀w,B.has w->J0 w):EndsT YP B (Qaj YP 50 41 (([.agg (Qah s).toArray,slI load,.int .i64 days,.int .i64 kind]).map (Qao 0 4))) (.int .i64 (QiA (Qei s load days kind) 0 1000)):=by
 have ht1:=QaI QaS QaR hs hd;have hn:=hl;simp only [Qbl,YB] at hn;have hx:=QhB hn.1;exact ((QvW s load days kind hs hl hll hd hk hJ _) (0) (1000) rfl (by omega) (by omega) (by omega)
  (GoE.start.landM okF hJ Qab (Qx1 B s load days kind)
  trivial (by kernel_rfl) (by kernel_rfl))).cast (by rfl)
theorem Q4R (s:Qaa) (load:List Int) (days kind:Int) (hs:Qav s=true) (hl:Qbl s load=true) (hll:load.length<=10) (hd:0<=days/\days<=300) (hk:0<=kind/\kind < s.stock.length):Qam YP J0 50 #[.agg (Qah s).toArray,slI load,.int .i64 days,.int .i64 kind] (.int .i64 (QiA (Qei s load days kind) 0 1000)):=
 QaG (ts:=[.agg (Qah s).toArray,slI load,.int .i64 days,.int .i64 kind]) Qb1 (c0:=Qaj YP 50 41 (([.agg (Qah s).toArray,slI load,.int .i64 days,.int .i64 kind]).map (Qao 0 4))) (by kernel_rfl) (by kernel_rfl) fun B hJ=> Q1p s load days kind hs hl hll hd hk hJ
end
end Go.Proofs.YtiabgkiccaodmaaGreat

namespace Go.Proofs.YtiabgkiccaodmaaGreat
open Go Go.CE Go.RowKit
theorem Quu {s:Qaa} {load:List Int} {days:Int} {t:Qaf} {k r:Int} (hs:Qav s=true) (hl:Qbl s load=true) (ht:Qbn s days t=true) (hd:0<=days/\days<=300):
 (Qcn (Qd7 t k r) (Qee t k load) (QaW t) (upI 0 days) (-1,s.stock.getD k.toNat default)).1=QaK (Qd7 t k r) (Qc7 (QbL load 0) t.goods k) (Qb3 days t.gaps) 0 (s.stock.getD k.toNat default):=by
 have ht':=ht;simp only [Qbn,QjB,YB,decide_eq_true_iff,List.all_eq_true,QaA] at ht';have hgp:=Qa5 hs;have hlen:(Qb3 days t.gaps).length=days.toNat:=by unfold Qb3;rw [Qgc,List.length_replicate]
 have hk:=Qtq (use:=Qd7 t k r) (br:=Qee t k load) (comes:=QaW t) (Qb3 days t.gaps) 0 (s.stock.getD k.toNat default) (-1) (Int.le_refl 0) (fun j hj=> by
  have:=QjQ (days:=days) (d:=(j:Int)) (gaps:=t.gaps) (fun g hg=> by have:=ht'.2.1.2.1 g hg;omega) (by omega) (by omega);rw [Int.zero_add,<-Int.toNat_natCast j,this];rfl)
 rw [hlen,show (0:Int)+(days.toNat:Int)=days by omega] at hk;rw [hk,<-Qop hs hl];have hor:=QfY (use:=Qd7 t k r) (br:=Qc7 (QbL load 0) t.goods k) (Qb3 days t.gaps) 0 (s.stock.getD k.toNat default) (Int.le_refl 0);simp only;split <;> omega
theorem Q0e {t t':Qaf} {k r r':Int} (h0:0<=t'.uses.getD k.toNat default) (hu:t'.uses.getD k.toNat default<=t.uses.getD k.toNat default) (r0:0<=r') (hr:r'<=r):0<=Qd7 t' k r'/\Qd7 t' k r'<=Qd7 t k r:=by
 have h1:0<=t'.uses.getD k.toNat default * r':=Int.mul_nonneg h0 r0;have h2:t'.uses.getD k.toNat default * r'<=t.uses.getD k.toNat default * r:=Int.mul_le_mul hu hr r0 (by omega);unfold Qd7;rw [Int.tdiv_eq_ediv_of_nonneg (by omega),Int.tdiv_eq_ediv_of_nonneg (by omega)];omega
theorem Qpj {s:Qaa} {load:List Int} {days k r:Int} (hs:Qav s=true) (hl:Qbl s load=true) (hd:0<=days/\days<=300):
 Qei s load days k r=decide (QaK (Qd7 (Qad Span.lo Span.hi s days) k r) (Qc7 (QbL load 0) (Qad Span.lo Span.hi s days).goods k) (Qb3 days (Qad Span.lo Span.hi s days).gaps) 0 (s.stock.getD k.toNat default) < 0):=by
 unfold Qei;rw [Quu hs hl (QaI QaS QaR hs hd) hd]
theorem Quj {s:Qaa} {load:List Int} {days k r r':Int} {t:Qaf} (hs:Qav s=true) (hl:Qbl s load=true) (ht:Qbn s days t=true) (hd:0<=days/\days<=300) (k0:0<=k) (k1:k < s.stock.length) (r0:0<=r') (hr:r'<=r) (h:Qei s load days k r=true):
 (Qcn (Qd7 t k r') (Qee t k load) (QaW t) (upI 0 days) (-1,s.stock.getD k.toNat default)).1 < 0:=by
 have hE:=QaI QaS QaR hs hd;have hL:=QcG hs hl;have a:=Q1q hs ht;have hgp:=Qa5 hs;have n1:=Q2p (k:=k) hs ht hd hL.2.1 hL.2.2.1 hL.2.2.2 k0 k1;have n2:=Q2p (k:=k) hs hE hd hL.2.1 hL.2.2.1 hL.2.2.2 k0 k1;simp only [gdB,QsJ] at n1 n2;have u:=a.1 k k0 k1;have ue:=Qnd (f:=Span.lo) (g:=Span.hi) (days:=days) hs k0 k1;rw [Qpj hs hl hd] at h;have h:=of_decide_eq_true h;rw [Quu hs hl ht hd];have m:=Q0e (t:=Qad Span.lo Span.hi s days) (t':=t) (k:=k) n1.2.2.1 (by rw [ue];exact u.2) r0 hr;rcases Int.lt_or_le (QaK (Qd7 t k r') (Qc7 (QbL load 0) t.goods k) (Qb3 days t.gaps) 0 (s.stock.getD k.toNat default)) 0 with h1 | h1
 ·exact h1
 ·have:=Q2D (stock:=s.stock.getD k.toNat default) hd.1 m ⟨n2.2.2.2.2.1,QqP (k:=k) (g:=(Qad Span.lo Span.hi s days).goods) (g':=t.goods) hL.2.2.2 (fun x x0 x1=> by rw [Qr2 hs x0 x1 k0 k1];exact (a.2.2.2 x k x0 x1 k0 k1).1)⟩ (gaps:=(Qad Span.lo Span.hi s days).gaps) (gaps':=t.gaps) (fun g hg' x hx'=> by rw [QqN hg'];exact (a.2.1 x hx').2) (fun g hg'=> by rw [QqN hg'];show 1<=s.ghi;omega) (fun g hg'=> by have:=a.2.1 g hg';omega) a.2.2.1 h1;omega
theorem QjE {s:Qaa} {load:List Int} {days k r r':Int} (hs:Qav s=true) (hl:Qbl s load=true) (hd:0<=days/\days<=300) (k0:0<=k) (k1:k < s.stock.length) (r0:0<=r') (hr:r'<=r) (h:Qei s load days k r=true):Qei s load days k r'=true:=
 decide_eq_true (Quj hs hl (QaI QaS QaR hs hd) hd k0 k1 r0 hr h)
theorem Qou {br:Int} (hb:0<=br):∀(cs:List Bool) (d left:Int),0<=left->QaK 0 br cs d left= -1
 | [],_,_,_=> rfl
 | c::cs,d,left,h=> by
   have hL:0<=left+bif c then br else 0:=by cases c <;> simp only [cond_true,cond_false] <;> omega
   show (bif decide ((left+bif c then br else 0) < 0) then d else QaK 0 br cs (d+1) (Qjh 0 (left+bif c then br else 0)))= -1;rw [decide_eq_false (by omega),cond_false];exact Qou hb cs _ _ (by unfold Qjh;split <;> omega)
theorem Qy4 {s:Qaa} {load:List Int} {days k:Int} (hs:Qav s=true) (hl:Qbl s load=true) (hd:0<=days/\days<=300) (k0:0<=k) (k1:k < s.stock.length):Qei s load days k 0=true:=by
 have hE:=QaI QaS QaR hs hd;have hL:=QcG hs hl;have n2:=Q2p (k:=k) hs hE hd hL.2.1 hL.2.2.1 hL.2.2.2 k0 k1;simp only [gdB,QsJ] at n2;rw [Qpj hs hl hd];have e:Qd7 (Qad Span.lo Span.hi s days) k 0=0:=by unfold Qd7;rw [Int.mul_zero];rfl
 rw [e,Qou n2.2.2.2.2.1 _ _ _ n2.1];rfl
theorem Q2M {s:Qaa} {load:List Int} {days k r:Int} (hs:Qav s=true) (hl:Qbl s load=true) (hd:0<=days/\days<=300) (k0:0<=k) (k1:k < s.stock.length):QjS (QyK s (QbL load 0) days k) r= !Qei s load days k r:=by
 have e:=Quc (s:=s) (load:=QbL load 0) (days:=days) (t:=Qad Span.lo Span.hi s days) k0 k1;rw [show QyK s (QbL load 0) days k=_ from e,Qt4,Qpj hs hl hd];have eu:Qbo (QsJ s (QbL load 0) days (Qad Span.lo Span.hi s days) k).use r=Qd7 (Qad Span.lo Span.hi s days) k r:=by
  show ((Qad Span.lo Span.hi s days).uses.getD k.toNat default * r+1000 - 1).tdiv 1000=_;unfold Qd7;congr 1;omega
 rw [eu];have hor:=QfY (use:=Qd7 (Qad Span.lo Span.hi s days) k r) (br:=Qc7 (QbL load 0) (Qad Span.lo Span.hi s days).goods k) (Qb3 days (Qad Span.lo Span.hi s days).gaps) 0 (s.stock.getD k.toNat default) (Int.le_refl 0);congr 1;exact decide_eq_decide.2 ⟨fun h=> by rw [show QaK (Qd7 (Qad Span.lo Span.hi s days) k r) (Qc7 (QbL load 0) (Qad Span.lo Span.hi s days).goods k) (Qb3 days (Qad Span.lo Span.hi s days).gaps) 0 (s.stock.getD k.toNat default)= -1 from h];decide,fun h=> by
  show QaK (Qd7 (Qad Span.lo Span.hi s days) k r) (Qc7 (QbL load 0) (Qad Span.lo Span.hi s days).goods k) (Qb3 days (Qad Span.lo Span.hi s days).gaps) 0 (s.stock.getD k.toNat default)= -1;omega⟩
theorem Qui {s:Qaa} {load:List Int} {days k:Int} (hs:Qav s=true) (hl:Qbl s load=true) (hd:0<=days/\days<=300) (k0:0<=k) (k1:k < s.stock.length):Qbx s load days k=QiA (Qei s load days k) 0 1000:=by
 unfold Qbx;exact Q4A (fun r _ _=> Q2M hs hl hd k0 k1) (Qy4 hs hl hd k0 k1) fun r r' g1 g2 g3 g4=> QjE hs hl hd k0 k1 g1 g2 g4
theorem QyC {s:Qaa} {load:List Int} {days k:Int} (hs:Qav s=true) (hl:Qbl s load=true) (hd:0<=days/\days<=300) (k0:0<=k) (k1:k < s.stock.length):
 0<=Qbx s load days k/\Qbx s load days k<=1000/\Qei s load days k (Qbx s load days k)=true/\(Qbx s load days k < 1000->Qei s load days k (Qbx s load days k+1)=false):=by
 have h:=QpY (p:=Qei s load days k) _ 0 1000 rfl (by decide) (fun r r' g1 g2 g3 g4=> QjE hs hl hd k0 k1 (by omega) g2 g4);rw [Qui hs hl hd k0 k1];refine ⟨h.1,h.2.1, ?_,fun hh=> h.2.2.2 _ (by omega) (by omega)⟩;by_cases e:QiA (Qei s load days k) 0 1000=0
 ·rw [e];exact Qy4 hs hl hd k0 k1
 ·exact h.2.2.1 _ (by omega) (Int.le_refl _)
theorem QwY {s:Qaa} {load:List Int} {days k:Int} (hs:Qav s=true) (hl:Qbl s load=true) (hd:0<=days/\days<=300):Qei s load days k 1000=decide (Q7l s (QbL load 0) days k < 0):=by
 unfold Qei;rw [QzW hs hl (QaI QaS QaR hs hd) hd];rfl
theorem QvE {s:Qaa} {load:List Int} {days k:Int} (hs:Qav s=true) (hl:Qbl s load=true) (hd:0<=days/\days<=300) (k0:0<=k) (k1:k < s.stock.length):Qbx s load days k=1000<->Q7l s (QbL load 0) days k < 0:=by
 have h:=QyC hs hl hd k0 k1;have w:=QwY (k:=k) hs hl hd;refine ⟨fun e=> ?_,fun e=> ?_⟩
 ·have h2:=h.2.2.1;rw [e,w] at h2;exact of_decide_eq_true h2
 ·rcases Int.lt_or_le (Qbx s load days k) 1000 with h2 | h2
  ·have h3:=h.2.2.2 h2;rw [decide_eq_true e] at w;rw [QjE hs hl hd k0 k1 (by omega) (by omega) w] at h3;cases h3
  ·omega
theorem Qb0 {s:Qaa} {load:List Int} {days k:Int} {t:Qaf} (hs:Qav s=true) (hl:Qbl s load=true) (ht:Qbn s days t=true) (hd:0<=days/\days<=300) (k0:0<=k) (k1:k < s.stock.length):
 0<=Qbx s load days k/\Qbx s load days k<=1000/\(Qbx s load days k=1000<->((QcN s (QbL load 0) days).getD k.toNat default).may < 0)/\
 (Qcn (Qd7 t k (Qbx s load days k)) (Qee t k load) (QaW t) (upI 0 days) (-1,s.stock.getD k.toNat default)).1 < 0/\
 (Qbx s load days k≠1000->0<=(Qcn (Qd7 (Qad Span.lo Span.hi s days) k (Qbx s load days k+1)) (Qee (Qad Span.lo Span.hi s days) k load) (QaW (Qad Span.lo Span.hi s days)) (upI 0 days) (-1,s.stock.getD k.toNat default)).1):=by
 have h:=QyC hs hl hd k0 k1;refine ⟨h.1,h.2.1, ?_,Quj hs hl ht hd k0 k1 h.1 (Int.le_refl _) h.2.2.1,fun e=> ?_⟩
 ·rw [QvE hs hl hd k0 k1,Q1E k0 k1];rfl
 ·have h2:=of_decide_eq_false (h.2.2.2 (by omega));omega
end Go.Proofs.YtiabgkiccaodmaaGreat
