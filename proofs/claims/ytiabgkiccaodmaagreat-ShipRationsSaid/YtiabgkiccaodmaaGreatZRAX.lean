/- ShipRations: whatever the input, it returns true, and each argument reads as it did. The row, from the walk. -/
import Derived.Test.YtiabgkiccaodmaaGreatZRA14
import Derived.Test.YtiabgkiccaodmaaGreatZRA13
import Derived.JoinedOf
import Derived.Test.YtiabgkiccaodmaaGreatRows
set_option linter.all false
namespace Go.Proofs.YtiabgkiccaodmaaGreat
open Go Go.CE Go.RowKit
def Qqx:List Int->Int->Int->Int
 | [],_,_=> 0
 | g::l,s,d=> (if s+g<=d then 1 else 0)+Qqx l (s+g) d
theorem Qsi:∀(l:List Int) (s d:Int),0<=Qqx l s d
 | [],_,_=> Int.le_refl _
 | g::l,s,d=> by have:=Qsi l (s+g) d;unfold Qqx;split <;> omega
theorem QxB:∀(l:List Int) (s d:Int),(∀g∈l,1<=g)->d<=s->Qqx l s d=0
 | [],_,_,_,_=> rfl
 | g::l,s,d,h,hd=> by
   have hg:=h g (by simp)
   unfold Qqx
   rw [if_neg (by omega),QxB l (s+g) d (fun x hx=> h x (by simp [hx])) (by omega)];rfl
theorem QrK:∀(l:List Int) (s d:Int),(∀g∈l,1<=g)->Qqx l s d=Qqx l s (d - 1)+(if QeD d l s=true then 1 else 0)
 | [],_,_,_=> rfl
 | g::l,s,d,h=> by
   have hl:∀x∈l,1<=x:=fun x hx=> h x (by simp [hx])
   have ih:=QrK l (s+g) d hl
   unfold Qqx QeD
   by_cases e:s+g=d
   ·rw [decide_eq_true e,Bool.true_or,if_pos rfl,if_pos (by omega),if_neg (by omega),QxB l (s+g) d hl (by omega),QxB l (s+g) (d - 1) hl (by omega)];rfl
   ·rw [decide_eq_false e,Bool.false_or,ih]
    by_cases e2:s+g<=d
    ·rw [if_pos e2,if_pos (show s+g<=d - 1 by omega)];omega
    ·rw [if_neg e2,if_neg (show ¬s+g<=d - 1 by omega)];omega
theorem Q09 {days d:Int} (hd:d < days):∀(l l':List Int) (s s':Int),(∀h∈l,∀g∈l',g<=h)->(∀g∈l,1<=g)->(∀g∈l',1<=g)->s'<=s->days<=s'+QeE l'->Qqx l s d<=Qqx l' s' d
 | [],l',_,s',_,_,_,_,_=> Qsi l' s' d
 | h::l,l',s,s',hh,h1,h2,hs,hsum=> by
   have hp:=h1 h (by simp)
   by_cases e:s+h<=d
   ·cases l' with
    | nil=> simp only [QeE] at hsum;omega
    | cons g l'=>
      have hg:=hh h (by simp) g (by simp)
      have hgp:=h2 g (by simp)
      have ih:=Q09 hd l l' (s+h) (s'+g) (fun a ha b hb=> hh a (by simp [ha]) b (by simp [hb])) (fun x hx=> h1 x (by simp [hx])) (fun x hx=> h2 x (by simp [hx])) (by omega) (by simp only [QeE] at hsum;omega)
      unfold Qqx
      rw [if_pos e,if_pos (by omega)];omega
   ·have e1:Qqx (h::l) s d=(if s+h<=d then 1 else 0)+Qqx l (s+h) d:=rfl
    rw [e1,if_neg e,QxB l (s+h) d (fun x hx=> h1 x (by simp [hx])) (by omega)]
    have:=Qsi l' s' d
    omega
def QeF (b:Int->Int):List Int->Int
 | []=> -1
 | d::l=> if b d < 0 then d else QeF b l
theorem Qqr {use br:Int} {comes:Int->Bool} {b:Int->Int}:∀(cs:List Bool) (d left:Int),(∀j:Nat,j < cs.length->comes (d+j)=cs.getD j default)->(∀e,d<=e->b e=b (e - 1)+(if comes e=true then br else 0) - use)->left=b (d - 1)->QaL use br cs d left=QeF b (upI d (d+cs.length))
 | [],d,left,_,_,_=> by rw [Qht (by simp)];rfl
 | c::cs,d,left,h,hb,hl=> by
   have hc:comes d=c:=by have:=h 0 (by simp);simpa using this
   have h1:=hb d (Int.le_refl _)
   rw [Qel (by simp;omega),show d+((c::cs).length:Int)=(d+1)+cs.length by simp;omega]
   have f1:QaL use br (c::cs) d left=bif decide ((left+bif c then br else 0) < use) then d else QaL use br cs (d+1) (QhW use (left+bif c then br else 0)):=rfl
   have eL:(if comes d=true then br else 0)=bif c then br else 0:=by rw [hc];cases c <;> rfl
   rw [f1]
   rw [eL,<-hl] at h1
   show _=if b d < 0 then d else QeF b (upI (d+1) ((d+1)+cs.length))
   by_cases e:(left+bif c then br else 0) < use
   ·rw [decide_eq_true e,cond_true,if_pos (by omega)]
   ·rw [decide_eq_false e,cond_false,if_neg (by omega)]
    refine Qqr cs (d+1) _ (fun j hj=> ?_) (fun x hx=> hb x (by omega)) ?_
    ·have:=h (j+1) (by simp;omega)
     rw [show d+((j+1:Nat):Int)=d+1+(j:Int) by omega] at this
     rw [this];simp
    ·rw [show d+1 - 1=d by omega,h1]
     unfold QhW;split <;> omega
theorem QkI {b b':Int->Int}:∀l:List Int,(∀d∈l,b d<=b' d)->(∀d∈l,0<=d)->l.Pairwise (· < ·)->0<=QeF b' l->0<=QeF b l/\QeF b l<=QeF b' l
 | [],_,_,_,h=> by simp [QeF] at h
 | d::l,h,h0,hp,hf=> by
   have h1:=h d (by simp)
   have h2:=h0 d (by simp)
   rw [List.pairwise_cons] at hp
   unfold QeF at hf ⊢
   by_cases e:b' d < 0
   ·rw [if_pos (by omega),if_pos e];omega
   ·rw [if_neg e] at hf ⊢
    by_cases e2:b d < 0
    ·rw [if_pos e2]
     refine ⟨h2, ?_⟩
     have:∀m:List Int,(∀x∈m,d < x)->0<=QeF b' m->d<=QeF b' m:=by
      intro m
      induction m with
      | nil=> intro _ h;simp [QeF] at h
      | cons x m ih=>
        intro hm h
        unfold QeF at h ⊢
        have:=hm x (by simp)
        split
        ·omega
        ·rename_i hn
         rw [if_neg hn] at h
         exact ih (fun y hy=> hm y (by simp [hy])) h
     exact this l hp.1 hf
    ·rw [if_neg e2]
     exact QkI l (fun x hx=> h x (by simp [hx])) (fun x hx=> h0 x (by simp [hx])) hp.2 hf
theorem Qss:∀(n:Nat) (a:Int),(upI a (a+n)).Pairwise (· < ·)
 | 0,a=> by rw [Qht (by simp)];exact List.Pairwise.nil
 | n+1,a=> by
   rw [Qel (by omega),show a+((n+1:Nat):Int)=(a+1)+n by omega]
   exact List.Pairwise.cons (fun x hx=> by have:=Qg0 hx;omega) (Qss n (a+1))
def Q3m (stock use br:Int) (gaps:List Int) (d:Int):Int:=stock+br * Qqx gaps 0 d - use * (d+1)
theorem QmR {stock use br days:Int} {gaps:List Int} (hg:∀g∈gaps,1<=g) (hd:0<=days):QaL use br (Qb1 days gaps) 0 stock=QeF (Q3m stock use br gaps) (upI 0 days):=by
 have hlen:(Qb1 days gaps).length=days.toNat:=by unfold Qb1;rw [QgS,List.length_replicate]
 have h:=Qqr (use:=use) (br:=br) (comes:=fun d=> QeD d gaps 0) (b:=Q3m stock use br gaps) (Qb1 days gaps) 0 stock (fun j hj=> by
  have:=Qmz (days:=days) (d:=(j:Int)) (gaps:=gaps) (fun g hx=> by have:=hg g hx;omega) (by omega) (by omega)
  rw [Int.zero_add,<-this,Int.toNat_natCast]) (fun e he=> by
   unfold Q3m
   rw [QrK gaps 0 e hg,Int.mul_add]
   have e2:use * (e - 1+1)=use * (e+1) - use:=by rw [show e - 1+1=e by omega,Int.mul_add];omega
   by_cases hc:QeD e gaps 0=true
   ·rw [if_pos hc,if_pos hc];omega
   ·rw [if_neg hc,if_neg hc];omega) (by unfold Q3m;rw [QxB gaps 0 (0 - 1) hg (by omega)];simp)
 rw [h,hlen,show (0:Int)+(days.toNat:Int)=days by omega]
theorem QzP {stock use br use' br' days:Int} {gaps gaps':List Int} (hd:0<=days) (hu:0<=use'/\use'<=use) (hb:0<=br/\br<=br') (hg:∀h∈gaps,∀g∈gaps',g<=h) (h1:∀g∈gaps,1<=g) (h2:∀g∈gaps',1<=g) (hs:days<=QeE gaps'):
 0<=QaL use' br' (Qb1 days gaps') 0 stock->0<=QaL use br (Qb1 days gaps) 0 stock/\QaL use br (Qb1 days gaps) 0 stock<=QaL use' br' (Qb1 days gaps') 0 stock:=by
 rw [QmR h1 hd,QmR h2 hd]
 have hp:=Qss days.toNat 0
 rw [show (0:Int)+(days.toNat:Int)=days by omega] at hp
 refine QkI _ (fun d hx=> ?_) (fun d hx=> (Qg0 hx).1) hp
 have hd2:=Qg0 hx
 have c:=Q09 hd2.2 gaps gaps' 0 0 hg h1 h2 (Int.le_refl _) (by omega)
 have m1:br * Qqx gaps 0 d<=br' * Qqx gaps' 0 d:=Int.mul_le_mul hb.2 c (Qsi _ _ _) (by omega)
 have m2:use' * (d+1)<=use * (d+1):=Int.mul_le_mul_of_nonneg_right hu.2 (by omega)
 unfold Q3m;omega
theorem Qql {α:Type} {f g:α->Int}:∀l:List α,(∀x∈l,f x<=g x)->QeE (l.map f)<=QeE (l.map g)
 | [],_=> Int.le_refl _
 | x::l,h=> by
   have h1:=h x (by simp)
   have h2:=Qql l fun y hy=> h y (by simp [hy])
   simp only [List.map_cons,QeE];omega
theorem Qph {s:Qaa} {load k:Int} {g g':List Row} (hx:Qcf load<=s.lots.length) (h:∀x:Int,0<=x->x < s.lots.length->(g.getD x.toNat default).getD k.toNat default<=(g'.getD x.toNat default).getD k.toNat default):Qcs load g k<=Qcs load g' k:=by
 unfold Qcs Qax
 rw [List.map_map,List.map_map]
 refine Qql _ fun x hm=> ?_
 have:=Qg0 (List.mem_filter.1 hm).1
 exact h x this.1 (by omega)
theorem Qxw {s:Qaa} {days:Int} {t:Qat} (hs:Qa8 s=true) (ht:Qc5 s days t=true):
 (∀k:Int,0<=k->k < s.stock.length->(s.use.getD k.toNat default).lo<=t.uses.getD k.toNat default/\t.uses.getD k.toNat default<=(s.use.getD k.toNat default).hi)/\(∀g∈t.gaps,s.glo<=g/\g<=s.ghi)/\days<=QeE t.gaps/\
 ∀x k:Int,0<=x->x < s.lots.length->0<=k->k < s.stock.length->((s.lots.getD x.toNat default).goods.getD k.toNat default).lo<=(t.goods.getD x.toNat default).getD k.toNat default/\(t.goods.getD x.toNat default).getD k.toNat default<=((s.lots.getD x.toNat default).goods.getD k.toNat default).hi:=by
 simp only [Qc5,QlU,QmG,Bool.and_eq_true,decide_eq_true_iff,List.all_eq_true,QaW] at ht
 have h1:=Qbt ht.1
 have hst:=Qav hs
 refine ⟨fun k k0 k1=> h1.2 k k0 (by omega),ht.2.1.2.1,ht.2.1.2.2,fun x k x0 x1 k0 k1=> ?_⟩
 have h2:=Qbt (QqL ht.2.2.2 x0 x1)
 have h3:=Qc6 ((Qa2 hs).2 _ (QaB (l:=s.lots) x0 x1))
 exact h2.2 k k0 (by omega)
theorem Ql7 {f g:Span->Int} {s:Qaa} {days k:Int} (hs:Qa8 s=true) (_:0<=k) (k1:k < s.stock.length):(Qae f g s days).uses.getD k.toNat default=g (s.use.getD k.toNat default):=by
 have hst:=Qav hs
 exact getD_map (by omega)
theorem Qpt {f g:Span->Int} {s:Qaa} {days x k:Int} (hs:Qa8 s=true) (x0:0<=x) (x1:x < s.lots.length) (k0:0<=k) (k1:k < s.stock.length):((Qae f g s days).goods.getD x.toNat default).getD k.toNat default=f ((s.lots.getD x.toNat default).goods.getD k.toNat default):=by
 have h3:=Qc6 ((Qa2 hs).2 _ (QaB (l:=s.lots) x0 x1))
 have e:(s.lots.map fun (l:Qad)=> (l.goods.map f:Row)).getD x.toNat default=(s.lots.getD x.toNat default).goods.map f:=getD_map (f:=fun (l:Qad)=> (l.goods.map f:Row)) (by omega)
 show ((s.lots.map fun (l:Qad)=> (l.goods.map f:Row)).getD x.toNat default).getD k.toNat default=_
 rw [e]
 exact getD_map (by omega)
theorem QoK {f g:Span->Int} {s:Qaa} {days x:Int} (h:x∈(Qae f g s days).gaps):x=g ⟨s.glo,s.ghi⟩:=(List.mem_replicate.1 h).2
theorem Qyv {s:Qaa} {load days k:Int} {t:Qat} (hs:Qa8 s=true) (ht:Qc5 s days t=true) (hd:0<=days/\days<=300) (h0:0<=load) (h1:load < 64) (hx:Qcf load<=s.lots.length) (k0:0<=k) (k1:k < s.stock.length):gdB (Qyi s load days t k):=
 Q4f hs ht hd h0 h1 hx _ (List.mem_map.2 ⟨k,QqF.2 ⟨k0,k1⟩,rfl⟩)
end Go.Proofs.YtiabgkiccaodmaaGreat

namespace Go.Proofs.YtiabgkiccaodmaaGreat
open Go Go.CE Go.RowKit
noncomputable section
set_option maxRecDepth 100000
def Qf2 (p:Int->Bool) (q:Int->Int) (a b u:Int):Int×Int:=
 if h:0<=a/\a < b then (if p ((a+b).tdiv 2)=true then Qf2 p q a ((a+b).tdiv 2) (q ((a+b).tdiv 2)) else Qf2 p q ((a+b).tdiv 2+1) b (q ((a+b).tdiv 2))) else (a,u)
termination_by (b - a).toNat
decreasing_by all_goals (have:=Int.tdiv_eq_ediv_of_nonneg (a:=a+b) (b:=2) (by omega);omega)
theorem QmI {a b:Int} (h0:0<=a) (h1:a < b):a<=(a+b).tdiv 2/\(a+b).tdiv 2 < b:=by
 have:=Int.tdiv_eq_ediv_of_nonneg (a:=a+b) (b:=2) (by omega);omega
theorem Qnp {p:Int->Bool} {q:Int->Int} {a b u:Int} (h:a=b):Qf2 p q a b u=(a,u):=by
 rw [Qf2,dif_neg (by omega)]
theorem QnB {p:Int->Bool} {q:Int->Int} {a b u:Int} (h0:0<=a) (h1:a < b) (hp:p ((a+b).tdiv 2)=true):Qf2 p q a b u=Qf2 p q a ((a+b).tdiv 2) (q ((a+b).tdiv 2)):=by
 rw [Qf2,dif_pos ⟨h0,h1⟩,if_pos hp]
theorem QqN {p:Int->Bool} {q:Int->Int} {a b u:Int} (h0:0<=a) (h1:a < b) (hp:p ((a+b).tdiv 2)=false):Qf2 p q a b u=Qf2 p q ((a+b).tdiv 2+1) b (q ((a+b).tdiv 2)):=by
 rw [Qf2,dif_pos ⟨h0,h1⟩,if_neg (by rw [hp];decide)]
theorem Qwy {p:Int->Bool} {q:Int->Int}:∀(n:Nat) (a b u:Int),(b - a).toNat=n->0<=a->a<=b->(∀r r',a<=r->r<=r'->r' < b->p r=true->p r'=true)->
 a<=(Qf2 p q a b u).1/\(Qf2 p q a b u).1<=b/\(∀r,a<=r->r < (Qf2 p q a b u).1->p r=false)/\(∀r,(Qf2 p q a b u).1<=r->r < b->p r=true):=by
 intro n
 induction n using Nat.strongRecOn with
 | _ n ih=>
   intro a b u hn h0 h1 hm
   by_cases e:a=b
   ·rw [Qnp e];exact ⟨Int.le_refl _,h1,fun r h2 h3=> by omega,fun r h2 h3=> by omega⟩
   ·have hi:=QmI h0 (show a < b by omega)
    cases hp:p ((a+b).tdiv 2) with
    | true=>
      rw [QnB h0 (by omega) hp]
      have:=ih _ (by omega) a ((a+b).tdiv 2) (q ((a+b).tdiv 2)) rfl h0 hi.1 (fun r r' g1 g2 g3=> hm r r' g1 g2 (by omega))
      refine ⟨this.1,by omega,this.2.2.1,fun r h2 h3=> ?_⟩
      by_cases e2:r < (a+b).tdiv 2
      ·exact this.2.2.2 r h2 e2
      ·exact hm _ r hi.1 (by omega) h3 hp
    | false=>
      rw [QqN h0 (by omega) hp]
      have:=ih _ (by omega) ((a+b).tdiv 2+1) b (q ((a+b).tdiv 2)) rfl (by omega) (by omega) (fun r r' g1 g2 g3=> hm r r' (by omega) g2 g3)
      refine ⟨by omega,this.2.1,fun r h2 h3=> ?_,this.2.2.2⟩
      by_cases e2:(a+b).tdiv 2 < r
      ·exact this.2.2.1 r (by omega) h3
      ·cases hr:p r with
       | false=> rfl
       | true=> have:=hm r _ h2 (by omega) hi.2 hr;rw [hp] at this;cases this
theorem Qv0 {p:Int->Bool} {q:Int->Int}:∀(n:Nat) (a b u:Int),(b - a).toNat=n->0<=a->a<=b->a<=(Qf2 p q a b u).1/\(Qf2 p q a b u).1<=b:=by
 intro n
 induction n using Nat.strongRecOn with
 | _ n ih=>
   intro a b u hn h0 h1
   by_cases e:a=b
   ·rw [Qnp e];exact ⟨Int.le_refl _,h1⟩
   ·have hi:=QmI h0 (show a < b by omega)
    cases hp:p ((a+b).tdiv 2) with
    | true=> rw [QnB h0 (by omega) hp];have:=ih _ (by omega) a ((a+b).tdiv 2) (q ((a+b).tdiv 2)) rfl h0 hi.1;omega
    | false=> rw [QqN h0 (by omega) hp];have:=ih _ (by omega) ((a+b).tdiv 2+1) b (q ((a+b).tdiv 2)) rfl (by omega) (by omega);omega
def Qba (u r:Int):Int:=(u * r+1000 - 1).tdiv 1000
def gdR (g:Gd) (r:Int):Gd:=⟨g.stock,Qba g.use r,g.br,g.ships⟩
def Qjh (g:Gd) (r:Int):Bool:= !decide (Q2w (gdR g r)= -1)
theorem QrF {g:Gd} {r:Int}:Qjh g r= !decide (QaL (Qba g.use r) g.br g.ships 0 g.stock= -1):=rfl
theorem QpY (a u b:Int) (cs:List Bool) (hg:gdB ⟨a,u,b,cs⟩):Qas Tryz.prog J0 133 #[.agg #[.int .i64 a,.int .i64 u,.int .i64 b,slB cs]] (.bool (decide (QaL u b cs 0 a= -1))):=QyK ⟨a,u,b,cs⟩ hg
theorem Qm8 {u r:Int} (hu:0<=u/\u<=1000) (hr:0<=r/\r<=1001):0<=u * r/\u * r<=1001000/\0<=Qba u r/\Qba u r<=1002:=by
 have h1:0<=u * r:=Int.mul_nonneg hu.1 hr.1
 have h2:u * r<=1000 * 1001:=Int.mul_le_mul hu.2 hr.2 hr.1 (by decide)
 have h3:Qba u r=(u * r+1000 - 1) / 1000:=Int.tdiv_eq_ediv_of_nonneg (by omega)
 omega
theorem Q3b {a b:Int} (h0:0<=a) (h1:a<=b):a<=(a+b).tdiv 2/\(a+b).tdiv 2<=b:=by
 have:=Int.tdiv_eq_ediv_of_nonneg (a:=a+b) (b:=2) (by omega);omega
theorem Q2P {g:Gd} {r:Int} (hg:gdB g) (hu:0<=g.use/\g.use<=1000) (hr:0<=r/\r<=1001):gdB ⟨g.stock,(g.use * r+1000 - 1).tdiv 1000,g.br,g.ships⟩:=by
 have h:=Qm8 hu hr
 have e:Qba g.use r=(g.use * r+1000 - 1).tdiv 1000:=rfl
 unfold gdB at hg ⊢
 simp only
 omega
theorem QxD {g:Gd} {a b u:Int} (h0:0<=a) (h1:a < b) (h:decide (QaL ((g.use * (a+b).tdiv 2+1000 - 1).tdiv 1000) g.br g.ships 0 g.stock= -1)=false):Qf2 (Qjh g) (Qba g.use) a b u=Qf2 (Qjh g) (Qba g.use) a ((a+b).tdiv 2) ((g.use * (a+b).tdiv 2+1000 - 1).tdiv 1000):=
 QnB h0 h1 (by rw [QrF,Qba,h];rfl)
theorem Q07 {g:Gd} {a b u:Int} (h0:0<=a) (h1:a < b) (h:decide (QaL ((g.use * (a+b).tdiv 2+1000 - 1).tdiv 1000) g.br g.ships 0 g.stock= -1)=true):Qf2 (Qjh g) (Qba g.use) a b u=Qf2 (Qjh g) (Qba g.use) ((a+b).tdiv 2+1) b ((g.use * (a+b).tdiv 2+1000 - 1).tdiv 1000):=
 QqN h0 h1 (by rw [QrF,Qba,h];rfl)
abbrev QuO (s:Qaa) (load days kind:Int):Gd:=(QaD s load days (Qae Span.lo Span.hi s days)).getD kind.toNat default
theorem QiI {s:Qaa} {load days kind:Int} (hs:Qa8 s=true) (hd:0<=days/\days<=300) (h0:0<=load) (h1:load < 64) (hx:Qcf load<=s.lots.length) (k0:0<=kind) (k1:kind < s.stock.length):
 gdB (QuO s load days kind)/\0<=(QuO s load days kind).use/\(QuO s load days kind).use<=1000:=by
 have hE:=Qcg QcZ Qda hs hd
 have e:=Qv2 (s:=s) (load:=load) (days:=days) (t:=Qae Span.lo Span.hi s days) k0 k1
 have hg:=Qyv (k:=kind) hs hE hd h0 h1 hx k0 k1
 have ue:=Ql7 (f:=Span.lo) (g:=Span.hi) (days:=days) hs k0 k1
 have hst:=Qav hs
 have hu:=hst.2.2.2 _ (QaB (l:=s.use) (i:=kind) k0 (by omega))
 refine ⟨by rw [show QuO s load days kind=_ from e];exact hg, ?_⟩
 have eu:(QuO s load days kind).use=(s.use.getD kind.toNat default).hi:=by rw [show QuO s load days kind=_ from e];exact ue
 rw [eu];omega
def Qni (s:Qaa) (load:List Int) (days kind:Int):Int:=(Qf2 (Qjh (QuO s (QcM load 0) days kind)) (Qba (QuO s (QcM load 0) days kind).use) 0 1001 (QuO s (QcM load 0) days kind).use).1 - 1
def QbU (s:Qaa) (load days kind:Int):Qap:=[(4,Obj.cells #[.int .i64 (Gd.use (List.getD (QaD s load days (Qae Span.lo Span.hi s days)) kind.toNat default))] 3),(3,Obj.cells #[.int .i64 (Gd.stock (List.getD (QaD s load days (Qae Span.lo Span.hi s days)) kind.toNat default)),.int .i64 (Gd.use (List.getD (QaD s load days (Qae Span.lo Span.hi s days)) kind.toNat default)),.int .i64 (Gd.br (List.getD (QaD s load days (Qae Span.lo Span.hi s days)) kind.toNat default)),Qa0 2 (slT (List.length (Gd.ships (List.getD (QaD s load days (Qae Span.lo Span.hi s days)) kind.toNat default))) (Qac QdM (Gd.ships (List.getD (QaD s load days (Qae Span.lo Span.hi s days)) kind.toNat default))))] 129),(2,Obj.coro none),(1,Obj.cells #[Qa0 0 (slT s.stock.length (Qac Qar s.stock)),Qa0 0 (slT s.use.length (Qac Qa6 s.use)),.int .i64 s.glo,.int .i64 s.ghi,Qa0 0 (slT s.lots.length (Qac Qam s.lots)),.int .i64 s.hold,.int .i64 load,.int .i64 days] 122),(0,Obj.coro none)]
def Qeu (s:Qaa) (load days kind:Int):CF:=⟨130,ofList 26 [.int .i64 1000,Value.func (Fn.func 131) #[] #[pA 4 0,pA 3 0]],[Item.code (Qal Tryz.prog 130)],[],.run,none⟩
def QbY (s:Qaa) (load days kind:Int) (a b u:Int):List Value:=[Value.func (Fn.func 131) #[] #[pA 4 0,pA 3 0],.int .i64 a,.int .i64 b]
def Qcd (s:Qaa) (load days kind:Int) (a b u:Int):List Obj:=[.cells #[.int .i64 (List.getD (QaD s load days (Qae Span.lo Span.hi s days)) kind.toNat default).stock,.int .i64 u,.int .i64 (List.getD (QaD s load days (Qae Span.lo Span.hi s days)) kind.toNat default).br,Qa0 2 (slB (List.getD (QaD s load days (Qae Span.lo Span.hi s days)) kind.toNat default).ships)] 129 (0,0)]
def Qbk (s:Qaa) (load days kind:Int) (a b u:Int):List Obj:=[]
def QbZ:List Item:=([.code [1,0,1,1,0,0,0],.inLoop [1,0,1,1,0,0,0],.inBlock 0,.code [1,0,1,1,1],.inScope [1,0]]).map (it (Qal Tryz.prog 130))
def QgO (s:Qaa) (load days kind:Int) (a b:Int):Array Value:=#[.int .i64 (Gd.stock (List.getD (QaD s load days (Qae Span.lo Span.hi s days)) kind.toNat default)),.int .i64 (Int.tdiv (Gd.use (List.getD (QaD s load days (Qae Span.lo Span.hi s days)) kind.toNat default) * Int.tdiv (a+b) 2+1000 - 1) 1000),.int .i64 (Gd.br (List.getD (QaD s load days (Qae Span.lo Span.hi s days)) kind.toNat default)),Qa0 2 (slT (List.length (Gd.ships (List.getD (QaD s load days (Qae Span.lo Span.hi s days)) kind.toNat default))) (Qac QdM (Gd.ships (List.getD (QaD s load days (Qae Span.lo Span.hi s days)) kind.toNat default))))]
def Qjj (B:Lo) (s:Qaa) (load days kind:Int) (a b u:Int) (dJ0:Nat->Value):List Prop:=[IntKind.wrap .i64 (Int.tdiv (a+b) 2)=Int.tdiv (a+b) 2,wq (a+b)=a+b]++([]:List Prop)
def QmE (s:Qaa) (load days kind:Int) (a b u:Int) (dJ0:Nat->Value):Qay:=[(2,hvI (a+b)),(3,hvI (Int.tdiv (a+b) 2))]
theorem Qu5 (B:Lo) (s:Qaa) (load days kind:Int) (a b u:Int) (dJ0:Nat->Value):CE.finK 5 (Qak Tryz.prog (Qa1 Tryz.prog) J0 B 12 5 (Qcw (none) 130 26 (([1,5,6]:List Nat).zip (QbY s load days kind a b u)) dJ0 QbZ) (QbE (QbU s load days kind) 5 (([3]:List Nat).zip (Qcd s load days kind a b u)) (Qbk s load days kind a b u)) (5+1+(Qbk s load days kind a b u).length)
 (QmE s load days kind a b u dJ0++[(7,hvT)]) 0 [] []) [(3,KS.auto)] [] []=some (OO.ret (.int .i64 a),[(3,Obj.cells #[.int .i64 (Gd.stock (List.getD (QaD s load days (Qae Span.lo Span.hi s days)) kind.toNat default)),.int .i64 u,.int .i64 (Gd.br (List.getD (QaD s load days (Qae Span.lo Span.hi s days)) kind.toNat default)),Qa0 2 (slT (List.length (Gd.ships (List.getD (QaD s load days (Qae Span.lo Span.hi s days)) kind.toNat default))) (Qac QdM (Gd.ships (List.getD (QaD s load days (Qae Span.lo Span.hi s days)) kind.toNat default))))] 129)],[],
 [eqq a b=true]++Qjj B s load days kind a b u dJ0):=by kernel_rfl
def Qje (B:Lo) (s:Qaa) (load days kind:Int) (a b u:Int) (dJ0:Nat->Value):List Prop:=[eqq a b=false]++Qjj B s load days kind a b u dJ0
def Qm5 (s:Qaa) (load days kind:Int) (a b u:Int) (dJ0:Nat->Value):Qay:=QmE s load days kind a b u dJ0++[(7,hvF)]
def Qcn (s:Qaa) (load days kind:Int) (a b u:Int) (dJ0:Nat->Value):Qap:=[(3,Obj.cells #[.int .i64 (Gd.stock (List.getD (QaD s load days (Qae Span.lo Span.hi s days)) kind.toNat default)),.int .i64 u,.int .i64 (Gd.br (List.getD (QaD s load days (Qae Span.lo Span.hi s days)) kind.toNat default)),Qa0 2 (slT (List.length (Gd.ships (List.getD (QaD s load days (Qae Span.lo Span.hi s days)) kind.toNat default))) (Qac QdM (Gd.ships (List.getD (QaD s load days (Qae Span.lo Span.hi s days)) kind.toNat default))))] 129),(5,Obj.coro none),(4,Obj.cells #[.int .i64 (Gd.use (List.getD (QaD s load days (Qae Span.lo Span.hi s days)) kind.toNat default))] 3),(3,Obj.cells #[.int .i64 (Gd.stock (List.getD (QaD s load days (Qae Span.lo Span.hi s days)) kind.toNat default)),.int .i64 (Gd.use (List.getD (QaD s load days (Qae Span.lo Span.hi s days)) kind.toNat default)),.int .i64 (Gd.br (List.getD (QaD s load days (Qae Span.lo Span.hi s days)) kind.toNat default)),Qa0 2 (slT (List.length (Gd.ships (List.getD (QaD s load days (Qae Span.lo Span.hi s days)) kind.toNat default))) (Qac QdM (Gd.ships (List.getD (QaD s load days (Qae Span.lo Span.hi s days)) kind.toNat default))))] 129),(2,Obj.coro none),(1,Obj.cells #[Qa0 0 (slT s.stock.length (Qac Qar s.stock)),Qa0 0 (slT s.use.length (Qac Qa6 s.use)),.int .i64 s.glo,.int .i64 s.ghi,Qa0 0 (slT s.lots.length (Qac Qam s.lots)),.int .i64 s.hold,.int .i64 load,.int .i64 days] 122),(0,Obj.coro none)]
def Qdf (s:Qaa) (load days kind:Int) (a b u:Int) (dJ0:Nat->Value):CF:=⟨131,ofList 13 [.int .i64 (Int.tdiv (a+b) 2),pA 4 0,pA 3 0],[Item.code (Qal Tryz.prog 131)],[],.run,none⟩
theorem QsF (B:Lo) (s:Qaa) (load days kind:Int) (a b u:Int) (dJ0:Nat->Value):CE.finK 6 (Qak Tryz.prog (Qa1 Tryz.prog) J0 B 8 6 (Qdf s load days kind a b u dJ0) (Qcn s load days kind a b u dJ0) 6
 [(3,hvI (Gd.use (List.getD (QaD s load days (Qae Span.lo Span.hi s days)) kind.toNat default) * Int.tdiv (a+b) 2)),(4,Qaj.pure (.int .i64 (Int.tdiv (Gd.use (List.getD (QaD s load days (Qae Span.lo Span.hi s days)) kind.toNat default) * Int.tdiv (a+b) 2+1000 - 1) 1000)) []),(8,Qaj.pure (.bool true) [])] 0 [] []) [(3,KS.auto)] [] []=some (OO.ret (.bool false),[(3,Obj.cells #[.int .i64 (Gd.stock (List.getD (QaD s load days (Qae Span.lo Span.hi s days)) kind.toNat default)),.int .i64 (Int.tdiv (Gd.use (List.getD (QaD s load days (Qae Span.lo Span.hi s days)) kind.toNat default) * Int.tdiv (a+b) 2+1000 - 1) 1000),.int .i64 (Gd.br (List.getD (QaD s load days (Qae Span.lo Span.hi s days)) kind.toNat default)),Qa0 2 (slT (List.length (Gd.ships (List.getD (QaD s load days (Qae Span.lo Span.hi s days)) kind.toNat default))) (Qac QdM (Gd.ships (List.getD (QaD s load days (Qae Span.lo Span.hi s days)) kind.toNat default))))] 129)],[],
 [Qa7 []/\Qas Tryz.prog J0 133 #[.agg #[.int .i64 (Gd.stock (List.getD (QaD s load days (Qae Span.lo Span.hi s days)) kind.toNat default)),.int .i64 (Int.tdiv (Gd.use (List.getD (QaD s load days (Qae Span.lo Span.hi s days)) kind.toNat default) * Int.tdiv (a+b) 2+1000 - 1) 1000),.int .i64 (Gd.br (List.getD (QaD s load days (Qae Span.lo Span.hi s days)) kind.toNat default)),slT (List.length (Gd.ships (List.getD (QaD s load days (Qae Span.lo Span.hi s days)) kind.toNat default))) (Qac QdM (Gd.ships (List.getD (QaD s load days (Qae Span.lo Span.hi s days)) kind.toNat default)))]] (.bool true),Qa7 []/\Qas Tryz.prog J0 132 #[.int .i64 (Gd.use (List.getD (QaD s load days (Qae Span.lo Span.hi s days)) kind.toNat default) * Int.tdiv (a+b) 2),.int .i64 1000] (.int .i64 (Int.tdiv (Gd.use (List.getD (QaD s load days (Qae Span.lo Span.hi s days)) kind.toNat default) * Int.tdiv (a+b) 2+1000 - 1) 1000)),wq (Gd.use (List.getD (QaD s load days (Qae Span.lo Span.hi s days)) kind.toNat default) * Int.tdiv (a+b) 2)=Gd.use (List.getD (QaD s load days (Qae Span.lo Span.hi s days)) kind.toNat default) * Int.tdiv (a+b) 2]):=by kernel_rfl
theorem QsI (B:Lo) (s:Qaa) (load days kind:Int) (a b u:Int) (dJ0:Nat->Value):CE.landA 5 (Qak Tryz.prog (Qa1 Tryz.prog) J0 B 14 5 (Qcw (none) 130 26 (([1,5,6]:List Nat).zip (QbY s load days kind a b u)) dJ0 QbZ) (QbE (QbU s load days kind) 5 (([3]:List Nat).zip (Qcd s load days kind a b u)) (Qbk s load days kind a b u)) (5+1+(Qbk s load days kind a b u).length)
 (Qm5 s load days kind a b u dJ0++[(11,Qaj.call (List.range 6) (OO.ret (.bool false)) ([(3,Obj.cells (QgO s load days kind a b) 129)]++(6,Qby)::QaK 7 []) 7 [3]),(14,hvI (Int.tdiv (a+b) 2+1))]) 0 [] []) [1,5,6] [(3,KS.auto)] [] []=some ⟨130,26,QbZ,[],.run,none,QbY s load days kind (Int.tdiv (a+b) 2+1) (b) (Int.tdiv (Gd.use (List.getD (QaD s load days (Qae Span.lo Span.hi s days)) kind.toNat default) * Int.tdiv (a+b) 2+1000 - 1) 1000),([3]:List Nat).zip (Qcd s load days kind (Int.tdiv (a+b) 2+1) (b) (Int.tdiv (Gd.use (List.getD (QaD s load days (Qae Span.lo Span.hi s days)) kind.toNat default) * Int.tdiv (a+b) 2+1000 - 1) 1000)),Qbk s load days kind (Int.tdiv (a+b) 2+1) (b) (Int.tdiv (Gd.use (List.getD (QaD s load days (Qae Span.lo Span.hi s days)) kind.toNat default) * Int.tdiv (a+b) 2+1000 - 1) 1000),
 [wq (Int.tdiv (a+b) 2+1)=Int.tdiv (a+b) 2+1,FJ Tryz.prog B (Qdf s load days kind a b u dJ0) (Qcn s load days kind a b u dJ0) 6 (OO.ret (.bool false)) (([(3,Obj.cells (QgO s load days kind a b) 129)]++((6,Qby)::QaK (6+1) []))++Qcn s load days kind a b u dJ0) 7 (List.range 6) [3]]++Qje B s load days kind a b u dJ0⟩:=by kernel_rfl
theorem QsY (B:Lo) (s:Qaa) (load days kind:Int) (a b u:Int) (dJ0:Nat->Value):CE.finK 6 (Qak Tryz.prog (Qa1 Tryz.prog) J0 B 8 6 (Qdf s load days kind a b u dJ0) (Qcn s load days kind a b u dJ0) 6
 [(3,hvI (Gd.use (List.getD (QaD s load days (Qae Span.lo Span.hi s days)) kind.toNat default) * Int.tdiv (a+b) 2)),(4,Qaj.pure (.int .i64 (Int.tdiv (Gd.use (List.getD (QaD s load days (Qae Span.lo Span.hi s days)) kind.toNat default) * Int.tdiv (a+b) 2+1000 - 1) 1000)) []),(8,Qaj.pure (.bool false) [])] 0 [] []) [(3,KS.auto)] [] []=some (OO.ret (.bool true),[(3,Obj.cells #[.int .i64 (Gd.stock (List.getD (QaD s load days (Qae Span.lo Span.hi s days)) kind.toNat default)),.int .i64 (Int.tdiv (Gd.use (List.getD (QaD s load days (Qae Span.lo Span.hi s days)) kind.toNat default) * Int.tdiv (a+b) 2+1000 - 1) 1000),.int .i64 (Gd.br (List.getD (QaD s load days (Qae Span.lo Span.hi s days)) kind.toNat default)),Qa0 2 (slT (List.length (Gd.ships (List.getD (QaD s load days (Qae Span.lo Span.hi s days)) kind.toNat default))) (Qac QdM (Gd.ships (List.getD (QaD s load days (Qae Span.lo Span.hi s days)) kind.toNat default))))] 129)],[],
 [Qa7 []/\Qas Tryz.prog J0 133 #[.agg #[.int .i64 (Gd.stock (List.getD (QaD s load days (Qae Span.lo Span.hi s days)) kind.toNat default)),.int .i64 (Int.tdiv (Gd.use (List.getD (QaD s load days (Qae Span.lo Span.hi s days)) kind.toNat default) * Int.tdiv (a+b) 2+1000 - 1) 1000),.int .i64 (Gd.br (List.getD (QaD s load days (Qae Span.lo Span.hi s days)) kind.toNat default)),slT (List.length (Gd.ships (List.getD (QaD s load days (Qae Span.lo Span.hi s days)) kind.toNat default))) (Qac QdM (Gd.ships (List.getD (QaD s load days (Qae Span.lo Span.hi s days)) kind.toNat default)))]] (.bool false),Qa7 []/\Qas Tryz.prog J0 132 #[.int .i64 (Gd.use (List.getD (QaD s load days (Qae Span.lo Span.hi s days)) kind.toNat default) * Int.tdiv (a+b) 2),.int .i64 1000] (.int .i64 (Int.tdiv (Gd.use (List.getD (QaD s load days (Qae Span.lo Span.hi s days)) kind.toNat default) * Int.tdiv (a+b) 2+1000 - 1) 1000)),wq (Gd.use (List.getD (QaD s load days (Qae Span.lo Span.hi s days)) kind.toNat default) * Int.tdiv (a+b) 2)=Gd.use (List.getD (QaD s load days (Qae Span.lo Span.hi s days)) kind.toNat default) * Int.tdiv (a+b) 2]):=by kernel_rfl
theorem Qtp (B:Lo) (s:Qaa) (load days kind:Int) (a b u:Int) (dJ0:Nat->Value):CE.landA 5 (Qak Tryz.prog (Qa1 Tryz.prog) J0 B 14 5 (Qcw (none) 130 26 (([1,5,6]:List Nat).zip (QbY s load days kind a b u)) dJ0 QbZ) (QbE (QbU s load days kind) 5 (([3]:List Nat).zip (Qcd s load days kind a b u)) (Qbk s load days kind a b u)) (5+1+(Qbk s load days kind a b u).length)
 (Qm5 s load days kind a b u dJ0++[(11,Qaj.call (List.range 6) (OO.ret (.bool true)) ([(3,Obj.cells (QgO s load days kind a b) 129)]++(6,Qby)::QaK 7 []) 7 [3])]) 0 [] []) [1,5,6] [(3,KS.auto)] [] []=some ⟨130,26,QbZ,[],.run,none,QbY s load days kind (a) (Int.tdiv (a+b) 2) (Int.tdiv (Gd.use (List.getD (QaD s load days (Qae Span.lo Span.hi s days)) kind.toNat default) * Int.tdiv (a+b) 2+1000 - 1) 1000),([3]:List Nat).zip (Qcd s load days kind (a) (Int.tdiv (a+b) 2) (Int.tdiv (Gd.use (List.getD (QaD s load days (Qae Span.lo Span.hi s days)) kind.toNat default) * Int.tdiv (a+b) 2+1000 - 1) 1000)),Qbk s load days kind (a) (Int.tdiv (a+b) 2) (Int.tdiv (Gd.use (List.getD (QaD s load days (Qae Span.lo Span.hi s days)) kind.toNat default) * Int.tdiv (a+b) 2+1000 - 1) 1000),
 [FJ Tryz.prog B (Qdf s load days kind a b u dJ0) (Qcn s load days kind a b u dJ0) 6 (OO.ret (.bool true)) (([(3,Obj.cells (QgO s load days kind a b) 129)]++((6,Qby)::QaK (6+1) []))++Qcn s load days kind a b u dJ0) 7 (List.range 6) [3]]++Qje B s load days kind a b u dJ0⟩:=by kernel_rfl
set_option maxHeartbeats 4000000 in
theorem Qnw (s:Qaa) (load days kind:Int) (hs:Qa8 s=true) (hd:0<=days/\days<=300) (h0:0<=load) (h1:load < 64) (hx:Qcf load<=s.lots.length) (k0:0<=kind) (k1:kind < s.stock.length) {B:Lo} (hJ:∀w,B.has w->J0 w):∀m:Nat,(∀(a b u:Int),(b - a).toNat=m->∀(a0:0<=a) (ab:a<=b) (b1:b<=1001),(∃dJ0:Nat->Value,(∀t,QaS (dJ0 t))/\GoE Tryz.prog B (Qeu s load days kind) (QbU s load days kind) 5 (Qcw (none) 130 26 (([1,5,6]:List Nat).zip (QbY s load days kind a b u)) dJ0 QbZ) (QbE (QbU s load days kind) 5 (([3]:List Nat).zip (Qcd s load days kind a b u)) (Qbk s load days kind a b u)) (5+1+(Qbk s load days kind a b u).length) ([3]:List Nat))->FinK Tryz.prog B (Qeu s load days kind) (QbU s load days kind) 5 (.ret (.int .i64 (Qf2 (Qjh (List.getD (QaD s load days (Qae Span.lo Span.hi s days)) kind.toNat default)) (Qba (List.getD (QaD s load days (Qae Span.lo Span.hi s days)) kind.toNat default).use) a b u).1)) (([3]:List Nat).zip ([.cells #[.int .i64 (List.getD (QaD s load days (Qae Span.lo Span.hi s days)) kind.toNat default).stock,.int .i64 (Qf2 (Qjh (List.getD (QaD s load days (Qae Span.lo Span.hi s days)) kind.toNat default)) (Qba (List.getD (QaD s load days (Qae Span.lo Span.hi s days)) kind.toNat default).use) a b u).2,.int .i64 (List.getD (QaD s load days (Qae Span.lo Span.hi s days)) kind.toNat default).br,Qa0 2 (slB (List.getD (QaD s load days (Qae Span.lo Span.hi s days)) kind.toNat default).ships)] 129 (0,0)])) ([]) ([3]:List Nat)):=by
 intro m0
 induction m0 using Nat.strongRecOn with
 | _ m0 ih0=>
   intro a b u hm0 a0 ab b1 ⟨dJ0,hdJ0,hg0⟩
   have ht1:=Qcg QcZ Qda hs hd
   have e1:=Qyb (s:=s) (load:=load) (days:=days) (t:=Qae Span.lo Span.hi s days)
   have hf:=QiI hs hd h0 h1 hx k0 k1
   have hn:=Qv0 (p:=Qjh (List.getD (QaD s load days (Qae Span.lo Span.hi s days)) kind.toNat default)) (q:=Qba (List.getD (QaD s load days (Qae Span.lo Span.hi s days)) kind.toNat default).use) _ 0 1001 (List.getD (QaD s load days (Qae Span.lo Span.hi s days)) kind.toNat default).use rfl (Int.le_refl _) (by decide)
   have hf:=QiI hs hd h0 h1 hx k0 k1
   have hl:=Q3b a0 ab
   have hr:=Qm8 (u:=(List.getD (QaD s load days (Qae Span.lo Span.hi s days)) kind.toNat default).use) (r:=(a+b).tdiv 2) hf.2 (by omega)
   have hq:0<=(List.getD (QaD s load days (Qae Span.lo Span.hi s days)) kind.toNat default).use * (a+b).tdiv 2/\(List.getD (QaD s load days (Qae Span.lo Span.hi s days)) kind.toNat default).use * (a+b).tdiv 2<=2000000:=⟨hr.1,by omega⟩
   have hb:=Q2P (r:=(a+b).tdiv 2) hf.1 hf.2 (by omega)
   have hp0:Qa7 (Qjj B s load days kind a b u dJ0):=by
    exact ⟨(Qgz (by omega) (by omega)),⟨(QaJ (by omega) (by omega)),trivial⟩⟩
   by_cases q0:(a:Int)=(b)
   ·
    have s2:=Qnp (p:=Qjh (List.getD (QaD s load days (Qae Span.lo Span.hi s days)) kind.toNat default)) (q:=Qba (List.getD (QaD s load days (Qae Span.lo Span.hi s days)) kind.toNat default).use) (u:=u) (show a=b by omega)
    exact (GoE.finK okF hJ Qab (Qan (by kernel_rfl)) (Qag (by kernel_rfl)) hg0 (Qu5 B s load days kind a b u dJ0)
     ⟨(Qnl q0),hp0⟩).cast (by (rw [s2];done)) (by (rw [s2];rfl)) (by rfl)
   ·
    have hp1:Qa7 (Qje B s load days kind a b u dJ0):=by
     exact ⟨(Qnq q0),hp0⟩
    cases q1:decide (QaL (Int.tdiv (Gd.use (List.getD (QaD s load days (Qae Span.lo Span.hi s days)) kind.toNat default) * Int.tdiv (a+b) 2+1000 - 1) 1000) (Gd.br (List.getD (QaD s load days (Qae Span.lo Span.hi s days)) kind.toNat default)) (Gd.ships (List.getD (QaD s load days (Qae Span.lo Span.hi s days)) kind.toNat default)) 0 (Gd.stock (List.getD (QaD s load days (Qae Span.lo Span.hi s days)) kind.toNat default))= -1) with
    | true=>
      have rj1:FJ Tryz.prog B (Qdf s load days kind a b u dJ0) (Qcn s load days kind a b u dJ0) 6 (OO.ret (.bool false)) (([(3,Obj.cells #[.int .i64 (Gd.stock (List.getD (QaD s load days (Qae Span.lo Span.hi s days)) kind.toNat default)),.int .i64 (Int.tdiv (Gd.use (List.getD (QaD s load days (Qae Span.lo Span.hi s days)) kind.toNat default) * Int.tdiv (a+b) 2+1000 - 1) 1000),.int .i64 (Gd.br (List.getD (QaD s load days (Qae Span.lo Span.hi s days)) kind.toNat default)),Qa0 2 (slT (List.length (Gd.ships (List.getD (QaD s load days (Qae Span.lo Span.hi s days)) kind.toNat default))) (Qac QdM (Gd.ships (List.getD (QaD s load days (Qae Span.lo Span.hi s days)) kind.toNat default))))] 129)]++((6,Qby)::QaK (6+1) []))++Qcn s load days kind a b u dJ0) 7 (List.range 6) [3]:=by
       have hm:=QmI a0 (show a < b by omega)
       have s2:=Q07 (u:=u) a0 (show a < b by omega) (by with_reducible assumption)
       exact FinK.fjB (GoE.finK okF hJ Qab (Qan (by kernel_rfl)) (Qag (by kernel_rfl)) ((GoE.refl (P:=Tryz.prog) (B:=B) (c0:=Qdf s load days kind a b u dJ0) (Qan (by kernel_rfl))).widen (Wf:=((([(3,KS.auto)]):List (Nat×KS)).map (·.1))) (by simp) (Qag (by kernel_rfl))) (QsF B s load days kind a b u dJ0)
        ⟨⟨trivial,(by have t_:=QpY (Gd.stock (List.getD (QaD s load days (Qae Span.lo Span.hi s days)) kind.toNat default)) (Int.tdiv (Gd.use (List.getD (QaD s load days (Qae Span.lo Span.hi s days)) kind.toNat default) * Int.tdiv (a+b) 2+1000 - 1) 1000) (Gd.br (List.getD (QaD s load days (Qae Span.lo Span.hi s days)) kind.toNat default)) (Gd.ships (List.getD (QaD s load days (Qae Span.lo Span.hi s days)) kind.toNat default)) (by with_reducible assumption);rw [q1] at t_;exact t_)⟩,⟨⟨trivial,Qr4 (Gd.use (List.getD (QaD s load days (Qae Span.lo Span.hi s days)) kind.toNat default) * Int.tdiv (a+b) 2) (1000) (by with_reducible assumption) (by omega)⟩,⟨(QaJ (by omega) (by omega)),trivial⟩⟩⟩) (ex:=[]) (by kernel_rfl) (Qb0 _)
      have hm:=QmI a0 (show a < b by omega)
      have s2:=Q07 (u:=u) a0 (show a < b by omega) (by with_reducible assumption)
      exact ((ih0 _ (by omega)) (Int.tdiv (a+b) 2+1) (b) (Int.tdiv (Gd.use (List.getD (QaD s load days (Qae Span.lo Span.hi s days)) kind.toNat default) * Int.tdiv (a+b) 2+1000 - 1) 1000) rfl (by omega) (by omega) (by with_reducible assumption)
       (GoE.landA okF hJ Qab (Qan (by kernel_rfl)) (Qag (by kernel_rfl)) hg0 (QsI B s load days kind a b u dJ0)
       ⟨(QaJ (by omega) (by omega)),⟨rj1,hp1⟩⟩ (by kernel_rfl) (by kernel_rfl) (fun l hl=> by cases hl <;> decide))).cast (by (rw [s2];done)) (by (rw [s2];done)) (by rfl)
    | false=>
      have rj1:FJ Tryz.prog B (Qdf s load days kind a b u dJ0) (Qcn s load days kind a b u dJ0) 6 (OO.ret (.bool true)) (([(3,Obj.cells #[.int .i64 (Gd.stock (List.getD (QaD s load days (Qae Span.lo Span.hi s days)) kind.toNat default)),.int .i64 (Int.tdiv (Gd.use (List.getD (QaD s load days (Qae Span.lo Span.hi s days)) kind.toNat default) * Int.tdiv (a+b) 2+1000 - 1) 1000),.int .i64 (Gd.br (List.getD (QaD s load days (Qae Span.lo Span.hi s days)) kind.toNat default)),Qa0 2 (slT (List.length (Gd.ships (List.getD (QaD s load days (Qae Span.lo Span.hi s days)) kind.toNat default))) (Qac QdM (Gd.ships (List.getD (QaD s load days (Qae Span.lo Span.hi s days)) kind.toNat default))))] 129)]++((6,Qby)::QaK (6+1) []))++Qcn s load days kind a b u dJ0) 7 (List.range 6) [3]:=by
       have hm:=QmI a0 (show a < b by omega)
       have s2:=QxD (u:=u) a0 (show a < b by omega) (by with_reducible assumption)
       exact FinK.fjB (GoE.finK okF hJ Qab (Qan (by kernel_rfl)) (Qag (by kernel_rfl)) ((GoE.refl (P:=Tryz.prog) (B:=B) (c0:=Qdf s load days kind a b u dJ0) (Qan (by kernel_rfl))).widen (Wf:=((([(3,KS.auto)]):List (Nat×KS)).map (·.1))) (by simp) (Qag (by kernel_rfl))) (QsY B s load days kind a b u dJ0)
        ⟨⟨trivial,(by have t_:=QpY (Gd.stock (List.getD (QaD s load days (Qae Span.lo Span.hi s days)) kind.toNat default)) (Int.tdiv (Gd.use (List.getD (QaD s load days (Qae Span.lo Span.hi s days)) kind.toNat default) * Int.tdiv (a+b) 2+1000 - 1) 1000) (Gd.br (List.getD (QaD s load days (Qae Span.lo Span.hi s days)) kind.toNat default)) (Gd.ships (List.getD (QaD s load days (Qae Span.lo Span.hi s days)) kind.toNat default)) (by with_reducible assumption);rw [q1] at t_;exact t_)⟩,⟨⟨trivial,Qr4 (Gd.use (List.getD (QaD s load days (Qae Span.lo Span.hi s days)) kind.toNat default) * Int.tdiv (a+b) 2) (1000) (by with_reducible assumption) (by omega)⟩,⟨(QaJ (by omega) (by omega)),trivial⟩⟩⟩) (ex:=[]) (by kernel_rfl) (Qb0 _)
      have hm:=QmI a0 (show a < b by omega)
      have s2:=QxD (u:=u) a0 (show a < b by omega) (by with_reducible assumption)
      exact ((ih0 _ (by omega)) (a) (Int.tdiv (a+b) 2) (Int.tdiv (Gd.use (List.getD (QaD s load days (Qae Span.lo Span.hi s days)) kind.toNat default) * Int.tdiv (a+b) 2+1000 - 1) 1000) rfl (by with_reducible assumption) (by omega) (by omega)
       (GoE.landA okF hJ Qab (Qan (by kernel_rfl)) (Qag (by kernel_rfl)) hg0 (Qtp B s load days kind a b u dJ0)
       ⟨rj1,hp1⟩ (by kernel_rfl) (by kernel_rfl) (fun l hl=> by cases hl <;> decide))).cast (by (rw [s2];done)) (by (rw [s2];done)) (by rfl)

theorem Qu0 (B:Lo) (s:Qaa) (load days kind:Int):CE.landA 5 (Qak Tryz.prog (Qa1 Tryz.prog) J0 B 10 5 (Qeu s load days kind) (QbU s load days kind) 5
 [] 0 [] []) [1,5,6] [(3,KS.auto)] [] []=some ⟨130,26,QbZ,[],.run,none,QbY s load days kind (0) (1001) (Gd.use (List.getD (QaD s load days (Qae Span.lo Span.hi s days)) kind.toNat default)),([3]:List Nat).zip (Qcd s load days kind (0) (1001) (Gd.use (List.getD (QaD s load days (Qae Span.lo Span.hi s days)) kind.toNat default))),Qbk s load days kind (0) (1001) (Gd.use (List.getD (QaD s load days (Qae Span.lo Span.hi s days)) kind.toNat default)),
 []⟩:=by kernel_rfl
theorem Qtd (B:Lo) (s:Qaa) (load days kind:Int):Qbb (Qak Tryz.prog (Qa1 Tryz.prog) J0 B 12 1 (Qai Tryz.prog 91 19 (([.agg (QaO s load days).toArray,.int .i64 kind]).map (Qaq 0 4))) H00 1
 [(3,Qaj.pure (slT (List.length (QaD s load days (Qae Span.lo Span.hi s days))) (Qac Qcv (QaD s load days (Qae Span.lo Span.hi s days)))) []),(5,Qaj.tidx kind.toNat #[.int .i64 (Gd.stock (List.getD (QaD s load days (Qae Span.lo Span.hi s days)) kind.toNat default)),.int .i64 (Gd.use (List.getD (QaD s load days (Qae Span.lo Span.hi s days)) kind.toNat default)),.int .i64 (Gd.br (List.getD (QaD s load days (Qae Span.lo Span.hi s days)) kind.toNat default)),slT (List.length (Gd.ships (List.getD (QaD s load days (Qae Span.lo Span.hi s days)) kind.toNat default))) (Qac QdM (Gd.ships (List.getD (QaD s load days (Qae Span.lo Span.hi s days)) kind.toNat default)))]),(14,Qaj.call (List.range 5) (OO.ret (.int .i64 (Prod.fst (Qf2 (Qjh (List.getD (QaD s load days (Qae Span.lo Span.hi s days)) kind.toNat default)) (Qba (Gd.use (List.getD (QaD s load days (Qae Span.lo Span.hi s days)) kind.toNat default))) 0 1001 (Gd.use (List.getD (QaD s load days (Qae Span.lo Span.hi s days)) kind.toNat default)))))) ([(3,Obj.cells #[.int .i64 (Gd.stock (List.getD (QaD s load days (Qae Span.lo Span.hi s days)) kind.toNat default)),.int .i64 (Prod.snd (Qf2 (Qjh (List.getD (QaD s load days (Qae Span.lo Span.hi s days)) kind.toNat default)) (Qba (Gd.use (List.getD (QaD s load days (Qae Span.lo Span.hi s days)) kind.toNat default))) 0 1001 (Gd.use (List.getD (QaD s load days (Qae Span.lo Span.hi s days)) kind.toNat default)))),.int .i64 (Gd.br (List.getD (QaD s load days (Qae Span.lo Span.hi s days)) kind.toNat default)),Qa0 2 (slT (List.length (Gd.ships (List.getD (QaD s load days (Qae Span.lo Span.hi s days)) kind.toNat default))) (Qac QdM (Gd.ships (List.getD (QaD s load days (Qae Span.lo Span.hi s days)) kind.toNat default))))] 129)]++(5,Qby)::QaK 6 []) 6 [3]),(17,hvI (Prod.fst (Qf2 (Qjh (List.getD (QaD s load days (Qae Span.lo Span.hi s days)) kind.toNat default)) (Qba (Gd.use (List.getD (QaD s load days (Qae Span.lo Span.hi s days)) kind.toNat default))) 0 1001 (Gd.use (List.getD (QaD s load days (Qae Span.lo Span.hi s days)) kind.toNat default))) - 1))] 0 [] []) []=some (.int .i64 (Prod.fst (Qf2 (Qjh (List.getD (QaD s load days (Qae Span.lo Span.hi s days)) kind.toNat default)) (Qba (Gd.use (List.getD (QaD s load days (Qae Span.lo Span.hi s days)) kind.toNat default))) 0 1001 (Gd.use (List.getD (QaD s load days (Qae Span.lo Span.hi s days)) kind.toNat default))) - 1),
 [wq (Prod.fst (Qf2 (Qjh (List.getD (QaD s load days (Qae Span.lo Span.hi s days)) kind.toNat default)) (Qba (Gd.use (List.getD (QaD s load days (Qae Span.lo Span.hi s days)) kind.toNat default))) 0 1001 (Gd.use (List.getD (QaD s load days (Qae Span.lo Span.hi s days)) kind.toNat default))) - 1)=Prod.fst (Qf2 (Qjh (List.getD (QaD s load days (Qae Span.lo Span.hi s days)) kind.toNat default)) (Qba (Gd.use (List.getD (QaD s load days (Qae Span.lo Span.hi s days)) kind.toNat default))) 0 1001 (Gd.use (List.getD (QaD s load days (Qae Span.lo Span.hi s days)) kind.toNat default))) - 1,FJ Tryz.prog B (Qeu s load days kind) (QbU s load days kind) 5 (OO.ret (.int .i64 (Prod.fst (Qf2 (Qjh (List.getD (QaD s load days (Qae Span.lo Span.hi s days)) kind.toNat default)) (Qba (Gd.use (List.getD (QaD s load days (Qae Span.lo Span.hi s days)) kind.toNat default))) 0 1001 (Gd.use (List.getD (QaD s load days (Qae Span.lo Span.hi s days)) kind.toNat default)))))) (([(3,Obj.cells #[.int .i64 (Gd.stock (List.getD (QaD s load days (Qae Span.lo Span.hi s days)) kind.toNat default)),.int .i64 (Prod.snd (Qf2 (Qjh (List.getD (QaD s load days (Qae Span.lo Span.hi s days)) kind.toNat default)) (Qba (Gd.use (List.getD (QaD s load days (Qae Span.lo Span.hi s days)) kind.toNat default))) 0 1001 (Gd.use (List.getD (QaD s load days (Qae Span.lo Span.hi s days)) kind.toNat default)))),.int .i64 (Gd.br (List.getD (QaD s load days (Qae Span.lo Span.hi s days)) kind.toNat default)),Qa0 2 (slT (List.length (Gd.ships (List.getD (QaD s load days (Qae Span.lo Span.hi s days)) kind.toNat default))) (Qac QdM (Gd.ships (List.getD (QaD s load days (Qae Span.lo Span.hi s days)) kind.toNat default))))] 129)]++((5,Qby)::QaK (5+1) []))++QbU s load days kind) 6 (List.range 5) [3],kind=(↑kind.toNat:Int)/\Int.toNat kind < List.length (QaD s load days (Qae Span.lo Span.hi s days))/\Array.extract (Qac Qcv (QaD s load days (Qae Span.lo Span.hi s days))) (Int.toNat kind * TypeInfo.size Tryz.t129) (Int.toNat kind * TypeInfo.size Tryz.t129+TypeInfo.size Tryz.t129)=#[.int .i64 (Gd.stock (List.getD (QaD s load days (Qae Span.lo Span.hi s days)) kind.toNat default)),.int .i64 (Gd.use (List.getD (QaD s load days (Qae Span.lo Span.hi s days)) kind.toNat default)),.int .i64 (Gd.br (List.getD (QaD s load days (Qae Span.lo Span.hi s days)) kind.toNat default)),slT (List.length (Gd.ships (List.getD (QaD s load days (Qae Span.lo Span.hi s days)) kind.toNat default))) (Qac QdM (Gd.ships (List.getD (QaD s load days (Qae Span.lo Span.hi s days)) kind.toNat default)))],Qa7 []/\Qas Tryz.prog J0 128 #[.agg #[slT s.stock.length (Qac Qar s.stock),slT s.use.length (Qac Qa6 s.use),.int .i64 s.glo,.int .i64 s.ghi,slT s.lots.length (Qac Qam s.lots),.int .i64 s.hold,.int .i64 load,.int .i64 days]] (slT (List.length (QaD s load days (Qae Span.lo Span.hi s days))) (Qac Qcv (QaD s load days (Qae Span.lo Span.hi s days))))]):=by kernel_rfl
set_option maxHeartbeats 4000000 in
theorem QxV (s:Qaa) (load days kind:Int) (hs:Qa8 s=true) (hd:0<=days/\days<=300) (h0:0<=load) (h1:load < 64) (hx:Qcf load<=s.lots.length) (k0:0<=kind) (k1:kind < s.stock.length) {B:Lo} (hJ:∀w,B.has w->J0 w):EndsT Tryz.prog B (Qai Tryz.prog 91 19 (([.agg (QaO s load days).toArray,.int .i64 kind]).map (Qaq 0 4))) (.int .i64 ((Qf2 (Qjh (List.getD (QaD s load days (Qae Span.lo Span.hi s days)) kind.toNat default)) (Qba (List.getD (QaD s load days (Qae Span.lo Span.hi s days)) kind.toNat default).use) 0 1001 (List.getD (QaD s load days (Qae Span.lo Span.hi s days)) kind.toNat default).use).1 - 1)):=by
 have ht1:=Qcg QcZ Qda hs hd
 have e1:=Qyb (s:=s) (load:=load) (days:=days) (t:=Qae Span.lo Span.hi s days)
 have hf:=QiI hs hd h0 h1 hx k0 k1
 have hn:=Qv0 (p:=Qjh (List.getD (QaD s load days (Qae Span.lo Span.hi s days)) kind.toNat default)) (q:=Qba (List.getD (QaD s load days (Qae Span.lo Span.hi s days)) kind.toNat default).use) _ 0 1001 (List.getD (QaD s load days (Qae Span.lo Span.hi s days)) kind.toNat default).use rfl (Int.le_refl _) (by decide)
 have rj0:FJ Tryz.prog B (Qeu s load days kind) (QbU s load days kind) 5 (OO.ret (.int .i64 (Prod.fst (Qf2 (Qjh (List.getD (QaD s load days (Qae Span.lo Span.hi s days)) kind.toNat default)) (Qba (Gd.use (List.getD (QaD s load days (Qae Span.lo Span.hi s days)) kind.toNat default))) 0 1001 (Gd.use (List.getD (QaD s load days (Qae Span.lo Span.hi s days)) kind.toNat default)))))) (([(3,Obj.cells #[.int .i64 (Gd.stock (List.getD (QaD s load days (Qae Span.lo Span.hi s days)) kind.toNat default)),.int .i64 (Prod.snd (Qf2 (Qjh (List.getD (QaD s load days (Qae Span.lo Span.hi s days)) kind.toNat default)) (Qba (Gd.use (List.getD (QaD s load days (Qae Span.lo Span.hi s days)) kind.toNat default))) 0 1001 (Gd.use (List.getD (QaD s load days (Qae Span.lo Span.hi s days)) kind.toNat default)))),.int .i64 (Gd.br (List.getD (QaD s load days (Qae Span.lo Span.hi s days)) kind.toNat default)),Qa0 2 (slT (List.length (Gd.ships (List.getD (QaD s load days (Qae Span.lo Span.hi s days)) kind.toNat default))) (Qac QdM (Gd.ships (List.getD (QaD s load days (Qae Span.lo Span.hi s days)) kind.toNat default))))] 129)]++((5,Qby)::QaK (5+1) []))++QbU s load days kind) 6 (List.range 5) [3]:=by
  exact FinK.fjB ((Qnw s load days kind hs hd h0 h1 hx k0 k1 hJ _) (0) (1001) (Gd.use (List.getD (QaD s load days (Qae Span.lo Span.hi s days)) kind.toNat default)) rfl (by omega) (by omega) (by omega)
   (GoE.landA okF hJ Qab (Qan (by kernel_rfl)) (Qag (by kernel_rfl)) ((GoE.refl (P:=Tryz.prog) (B:=B) (c0:=Qeu s load days kind) (Qan (by kernel_rfl))).widen (Wf:=((([(3,KS.auto)]):List (Nat×KS)).map (·.1))) (by simp) (Qag (by kernel_rfl))) (Qu0 B s load days kind)
   trivial (by kernel_rfl) (by kernel_rfl) (fun l hl=> by cases hl <;> decide))) (ex:=[]) (by kernel_rfl) (Qb0 _)
 exact (GoE.endsT okF hJ Qab GoE.start (Qtd B s load days kind)
  ⟨(QaJ (by omega) (by omega)),⟨rj0,⟨⟨by omega,by omega,(Qaf (z:=4) (fun _=> rfl) (by omega))⟩,⟨⟨trivial,QuZ (s) (load) (days) (by with_reducible assumption) (by with_reducible assumption) (by with_reducible assumption) (by with_reducible assumption) (by with_reducible assumption)⟩,trivial⟩⟩⟩⟩).cast (by rfl)
theorem Q1c (s:Qaa) (load days kind:Int) (hs:Qa8 s=true) (hd:0<=days/\days<=300) (h0:0<=load) (h1:load < 64) (hx:Qcf load<=s.lots.length) (k0:0<=kind) (k1:kind < s.stock.length):Qas Tryz.prog J0 91 #[.agg (QaO s load days).toArray,.int .i64 kind] (.int .i64 ((Qf2 (Qjh (List.getD (QaD s load days (Qae Span.lo Span.hi s days)) kind.toNat default)) (Qba (List.getD (QaD s load days (Qae Span.lo Span.hi s days)) kind.toNat default).use) 0 1001 (List.getD (QaD s load days (Qae Span.lo Span.hi s days)) kind.toNat default).use).1 - 1)):=
 QaE (ts:=[.agg (QaO s load days).toArray,.int .i64 kind]) Qb6 (c0:=Qai Tryz.prog 91 19 (([.agg (QaO s load days).toArray,.int .i64 kind]).map (Qaq 0 4))) (by kernel_rfl) (by kernel_rfl) fun B hJ=> QxV s load days kind hs hd h0 h1 hx k0 k1 hJ
def Qi5 (s:Qaa) (load:List Int) (days:Int):Array Value:=#[slT s.stock.length (Qac Qar s.stock),slT s.use.length (Qac Qa6 s.use),.int .i64 s.glo,.int .i64 s.ghi,slT s.lots.length (Qac Qam s.lots),.int .i64 s.hold,.int .i64 (QcM load 0),.int .i64 days]
def Qd6 (s:Qaa):Array Value:=#[slT s.stock.length (Qac Qar s.stock),slT s.use.length (Qac Qa6 s.use),.int .i64 s.glo,.int .i64 s.ghi,slT s.lots.length (Qac Qam s.lots),.int .i64 s.hold]
def QiD (B:Lo) (s:Qaa) (load:List Int) (days kind:Int):List Prop:=[Qa7 []/\Qas Tryz.prog J0 79 #[.agg (Qd6 s)] (.bool true)]++([]:List Prop)
def Qm1 (s:Qaa) (load:List Int) (days kind:Int):Qay:=[(4,Qaj.pure (.bool true) [])]
def QiM (B:Lo) (s:Qaa) (load:List Int) (days kind:Int):List Prop:=[Qa7 []/\Qas Tryz.prog J0 80 #[.agg (Qd6 s),slT load.length (Qac Qar load)] (.bool true)]++QiD B s load days kind
def QmF (s:Qaa) (load:List Int) (days kind:Int):Qay:=Qm1 s load days kind++[(9,Qaj.pure (.bool true) [])]
def Qjf (B:Lo) (s:Qaa) (load:List Int) (days kind:Int):List Prop:=[Qa7 []/\Qas Tryz.prog J0 81 #[.int .i64 days] (.bool true)]++QiM B s load days kind
def Qm4 (s:Qaa) (load:List Int) (days kind:Int):Qay:=QmF s load days kind++[(14,Qaj.pure (.bool true) [])]
theorem Qtc (B:Lo) (s:Qaa) (load:List Int) (days kind:Int):Qbb (Qak Tryz.prog (Qa1 Tryz.prog) J0 B 11 1 (Qai Tryz.prog 48 36 (([.agg (Qah s).toArray,slI load,.int .i64 days,.int .i64 kind]).map (Qaq 0 4))) H00 1
 (Qm4 s load days kind++[(20,Qaj.pure (.bool true) []),(26,Qaj.pure (.agg (Qi5 s load days)) []),(28,Qaj.pure (.int .i64 (Prod.fst (Qf2 (Qjh (List.getD (QaD s (QcM load 0) days (Qae Span.lo Span.hi s days)) kind.toNat default)) (Qba (Gd.use (List.getD (QaD s (QcM load 0) days (Qae Span.lo Span.hi s days)) kind.toNat default))) 0 1001 (Gd.use (List.getD (QaD s (QcM load 0) days (Qae Span.lo Span.hi s days)) kind.toNat default))) - 1)) [])]) 0 [] []) []=some (.tuple #[.int .i64 (Prod.fst (Qf2 (Qjh (List.getD (QaD s (QcM load 0) days (Qae Span.lo Span.hi s days)) kind.toNat default)) (Qba (Gd.use (List.getD (QaD s (QcM load 0) days (Qae Span.lo Span.hi s days)) kind.toNat default))) 0 1001 (Gd.use (List.getD (QaD s (QcM load 0) days (Qae Span.lo Span.hi s days)) kind.toNat default))) - 1),.int .i64 0],
 [Qa7 []/\Qas Tryz.prog J0 91 #[.agg (Qi5 s load days),.int .i64 kind] (.int .i64 (Prod.fst (Qf2 (Qjh (List.getD (QaD s (QcM load 0) days (Qae Span.lo Span.hi s days)) kind.toNat default)) (Qba (Gd.use (List.getD (QaD s (QcM load 0) days (Qae Span.lo Span.hi s days)) kind.toNat default))) 0 1001 (Gd.use (List.getD (QaD s (QcM load 0) days (Qae Span.lo Span.hi s days)) kind.toNat default))) - 1)),Qa7 []/\Qas Tryz.prog J0 83 #[.agg (Qd6 s),slT load.length (Qac Qar load),.int .i64 days] (.agg (Qi5 s load days)),Qa7 []/\Qas Tryz.prog J0 90 #[.agg (Qd6 s),.int .i64 kind] (.bool true)]++Qjf B s load days kind):=by kernel_rfl
theorem Qtn (B:Lo) (s:Qaa) (load:List Int) (days kind:Int):Qbb (Qak Tryz.prog (Qa1 Tryz.prog) J0 B 10 1 (Qai Tryz.prog 48 36 (([.agg (Qah s).toArray,slI load,.int .i64 days,.int .i64 kind]).map (Qaq 0 4))) H00 1
 (Qm4 s load days kind++[(20,Qaj.pure (.bool false) [])]) 0 [] []) []=some (.tuple #[.int .i64 0,.int .i64 2],
 [Qa7 []/\Qas Tryz.prog J0 90 #[.agg (Qd6 s),.int .i64 kind] (.bool false)]++Qjf B s load days kind):=by kernel_rfl
theorem Qty (B:Lo) (s:Qaa) (load:List Int) (days kind:Int):Qbb (Qak Tryz.prog (Qa1 Tryz.prog) J0 B 10 1 (Qai Tryz.prog 48 36 (([.agg (Qah s).toArray,slI load,.int .i64 days,.int .i64 kind]).map (Qaq 0 4))) H00 1
 (QmF s load days kind++[(14,Qaj.pure (.bool false) [])]) 0 [] []) []=some (.tuple #[.int .i64 0,.int .i64 2],
 [Qa7 []/\Qas Tryz.prog J0 81 #[.int .i64 days] (.bool false)]++QiM B s load days kind):=by kernel_rfl
theorem QsN (B:Lo) (s:Qaa) (load:List Int) (days kind:Int):Qbb (Qak Tryz.prog (Qa1 Tryz.prog) J0 B 10 1 (Qai Tryz.prog 48 36 (([.agg (Qah s).toArray,slI load,.int .i64 days,.int .i64 kind]).map (Qaq 0 4))) H00 1
 (Qm1 s load days kind++[(9,Qaj.pure (.bool false) [])]) 0 [] []) []=some (.tuple #[.int .i64 0,.int .i64 2],
 [Qa7 []/\Qas Tryz.prog J0 80 #[.agg (Qd6 s),slT load.length (Qac Qar load)] (.bool false)]++QiD B s load days kind):=by kernel_rfl
theorem QtR (B:Lo) (s:Qaa) (load:List Int) (days kind:Int):Qbb (Qak Tryz.prog (Qa1 Tryz.prog) J0 B 10 1 (Qai Tryz.prog 48 36 (([.agg (Qah s).toArray,slI load,.int .i64 days,.int .i64 kind]).map (Qaq 0 4))) H00 1
 [(4,Qaj.pure (.bool false) [])] 0 [] []) []=some (.tuple #[.int .i64 0,.int .i64 2],
 [Qa7 []/\Qas Tryz.prog J0 79 #[.agg (Qd6 s)] (.bool false)]):=by kernel_rfl
set_option maxHeartbeats 4000000 in
theorem Qwh (s:Qaa) (load:List Int) (days kind:Int)  {B:Lo} (hJ:∀w,B.has w->J0 w):EndsT Tryz.prog B (Qai Tryz.prog 48 36 (([.agg (Qah s).toArray,slI load,.int .i64 days,.int .i64 kind]).map (Qaq 0 4))) (.tuple #[.int .i64 (if Qa8 s && (QbV s load && (inB days 0 300 && inB kind 0 (s.stock.length - 1))) then Qni s load days kind else 0),.int .i64 (if Qa8 s && (QbV s load && (inB days 0 300 && inB kind 0 (s.stock.length - 1))) then 0 else 2)]):=by
 cases q0:Qa8 s with
 | true=>
   have hp0:Qa7 (QiD B s load days kind):=by
    exact ⟨⟨trivial,(by have t_:=QrT (s);rw [q0] at t_;exact t_)⟩,trivial⟩
   cases q1:QbV s load with
   | true=>
     have hp1:Qa7 (QiM B s load days kind):=by
      have g1:=QdE ‹Qa8 s=true› ‹QbV s load=true›
      have g5:=g1.1
      have g6:=g1.2.2.1
      have g7:=g1.2.2.2
      have g8:=g1.2.1
      exact ⟨⟨trivial,(by have t_:=Qxr (s) (load) (by with_reducible assumption);rw [q1] at t_;exact t_)⟩,hp0⟩
     cases q2:inB days 0 300 with
     | true=>
       have hp2:Qa7 (Qjf B s load days kind):=by
        have g1:=QdE ‹Qa8 s=true› ‹QbV s load=true›
        have g2:=QaW.1 ‹inB days 0 300=true›
        have g5:=g1.1
        have g6:=g1.2.2.1
        have g7:=g1.2.2.2
        have g8:=g1.2.1
        exact ⟨⟨trivial,(by have t_:=Qsg (days);rw [q2] at t_;exact t_)⟩,hp1⟩
       cases q3:inB kind 0 ((↑s.stock.length:Int) - 1) with
       | true=>
         have g1:=QdE ‹Qa8 s=true› ‹QbV s load=true›
         have g2:=QaW.1 ‹inB days 0 300=true›
         have g3:=QaW.1 ‹inB kind 0 _=true›
         have g5:=g1.1
         have g6:=g1.2.2.1
         have g7:=g1.2.2.2
         have g8:=g1.2.1
         exact (GoE.endsT okF hJ Qab GoE.start (Qtc B s load days kind)
          ⟨⟨trivial,Q1c (s) (QcM load 0) (days) (kind) (by with_reducible assumption) (by with_reducible assumption) (by with_reducible assumption) (by with_reducible assumption) (by with_reducible assumption) (by omega) (by omega)⟩,⟨⟨trivial,QwS (s) (load) (days) (by with_reducible assumption)⟩,⟨⟨trivial,(by have t_:=Qx2 (s) (kind);rw [q3] at t_;exact t_)⟩,hp2⟩⟩⟩).cast (by rfl)
       | false=>
         have g1:=QdE ‹Qa8 s=true› ‹QbV s load=true›
         have g2:=QaW.1 ‹inB days 0 300=true›
         have g5:=g1.1
         have g6:=g1.2.2.1
         have g7:=g1.2.2.2
         have g8:=g1.2.1
         exact (GoE.endsT okF hJ Qab GoE.start (Qtn B s load days kind)
          ⟨⟨trivial,(by have t_:=Qx2 (s) (kind);rw [q3] at t_;exact t_)⟩,hp2⟩).cast (by rfl)
     | false=>
       have g1:=QdE ‹Qa8 s=true› ‹QbV s load=true›
       have g5:=g1.1
       have g6:=g1.2.2.1
       have g7:=g1.2.2.2
       have g8:=g1.2.1
       exact (GoE.endsT okF hJ Qab GoE.start (Qty B s load days kind)
        ⟨⟨trivial,(by have t_:=Qsg (days);rw [q2] at t_;exact t_)⟩,hp1⟩).cast (by rfl)
   | false=>
     exact (GoE.endsT okF hJ Qab GoE.start (QsN B s load days kind)
      ⟨⟨trivial,(by have t_:=Qxr (s) (load) (by with_reducible assumption);rw [q1] at t_;exact t_)⟩,hp0⟩).cast (by rfl)
 | false=>
   exact (GoE.endsT okF hJ Qab GoE.start (QtR B s load days kind)
    ⟨⟨trivial,(by have t_:=QrT (s);rw [q0] at t_;exact t_)⟩,trivial⟩).cast (by rfl)
theorem Qlx (s:Qaa) (load:List Int) (days kind:Int)  :Qas Tryz.prog J0 48 #[.agg (Qah s).toArray,slI load,.int .i64 days,.int .i64 kind] (.tuple #[.int .i64 (if Qa8 s && (QbV s load && (inB days 0 300 && inB kind 0 (s.stock.length - 1))) then Qni s load days kind else 0),.int .i64 (if Qa8 s && (QbV s load && (inB days 0 300 && inB kind 0 (s.stock.length - 1))) then 0 else 2)]):=
 QaE (ts:=[.agg (Qah s).toArray,slI load,.int .i64 days,.int .i64 kind]) Qb6 (c0:=Qai Tryz.prog 48 36 (([.agg (Qah s).toArray,slI load,.int .i64 days,.int .i64 kind]).map (Qaq 0 4))) (by kernel_rfl) (by kernel_rfl) fun B hJ=> Qwh s load days kind  hJ
end
end Go.Proofs.YtiabgkiccaodmaaGreat

namespace Go.Proofs.YtiabgkiccaodmaaGreat
open Go Go.CE Go.RowKit
noncomputable section
set_option maxRecDepth 100000
def QhJ (p:Int->Bool) (lo hi:Int):Int:=
 if h:lo < hi then (if p (hi - (hi - lo).tdiv 2)=true then QhJ p (hi - (hi - lo).tdiv 2) hi else QhJ p lo (hi - (hi - lo).tdiv 2 - 1)) else lo
termination_by (hi - lo).toNat
decreasing_by all_goals (have:=Int.tdiv_eq_ediv_of_nonneg (a:=hi - lo) (b:=2) (by omega);omega)
theorem Qnz {lo hi:Int} (h1:lo < hi):lo < hi - (hi - lo).tdiv 2/\hi - (hi - lo).tdiv 2<=hi:=by
 have:=Int.tdiv_eq_ediv_of_nonneg (a:=hi - lo) (b:=2) (by omega);omega
theorem Qsu {p:Int->Bool} {lo hi:Int} (h:hi<=lo):QhJ p lo hi=lo:=by rw [QhJ,dif_neg (by omega)]
theorem Qsl {p:Int->Bool} {lo hi:Int} (h:lo < hi) (hp:p (hi - (hi - lo).tdiv 2)=true):QhJ p lo hi=QhJ p (hi - (hi - lo).tdiv 2) hi:=by
 rw [QhJ,dif_pos h,if_pos hp]
theorem Qw7 {p:Int->Bool} {lo hi:Int} (h:lo < hi) (hp:p (hi - (hi - lo).tdiv 2)=false):QhJ p lo hi=QhJ p lo (hi - (hi - lo).tdiv 2 - 1):=by
 rw [QhJ,dif_pos h,if_neg (by rw [hp];decide)]
theorem Qye {p:Int->Bool}:∀(n:Nat) (lo hi:Int),(hi - lo).toNat=n->lo<=hi->(∀r r',lo < r->r<=r'->r'<=hi->p r'=true->p r=true)->
 lo<=QhJ p lo hi/\QhJ p lo hi<=hi/\(∀r,lo < r->r<=QhJ p lo hi->p r=true)/\(∀r,QhJ p lo hi < r->r<=hi->p r=false):=by
 intro n
 induction n using Nat.strongRecOn with
 | _ n ih=>
   intro lo hi hn h1 hm
   by_cases e:hi<=lo
   ·rw [Qsu e];exact ⟨Int.le_refl _,h1,fun r h2 h3=> by omega,fun r h2 h3=> by omega⟩
   ·have hi2:=Qnz (show lo < hi by omega)
    cases hp:p (hi - (hi - lo).tdiv 2) with
    | true=>
      rw [Qsl (by omega) hp]
      have:=ih _ (by omega) (hi - (hi - lo).tdiv 2) hi rfl hi2.2 (fun r r' g1 g2 g3=> hm r r' (by omega) g2 g3)
      refine ⟨by omega,this.2.1,fun r h2 h3=> ?_,this.2.2.2⟩
      by_cases e2:hi - (hi - lo).tdiv 2 < r
      ·exact this.2.2.1 r e2 h3
      ·exact hm r _ h2 (by omega) hi2.2 hp
    | false=>
      rw [Qw7 (by omega) hp]
      have:=ih _ (by omega) lo (hi - (hi - lo).tdiv 2 - 1) rfl (by omega) (fun r r' g1 g2 g3=> hm r r' g1 g2 (by omega))
      refine ⟨this.1,by omega,this.2.2.1,fun r h2 h3=> ?_⟩
      by_cases e2:r<=hi - (hi - lo).tdiv 2 - 1
      ·exact this.2.2.2 r h2 e2
      ·cases hr:p r with
       | false=> rfl
       | true=> have:=hm _ r hi2.1 (by omega) h3 hr;rw [hp] at this;cases this
theorem Q1B {p q:Int->Bool} {f:Int->Int} {u:Int} (hq:∀r,0<=r->r<=1000->q r= !p r) (h0:p 0=true) (hm:∀r r',0<=r->r<=r'->r'<=1000->p r'=true->p r=true):(Qf2 q f 0 1001 u).1 - 1=QhJ p 0 1000:=by
 have hA:=Qwy (p:=q) (q:=f) _ 0 1001 u rfl (Int.le_refl _) (by decide) (fun r r' g1 g2 g3 g4=> by
  rw [hq r (by omega) (by omega)] at g4
  rw [hq r' (by omega) (by omega)]
  cases h:p r' with
  | false=> rfl
  | true=> rw [hm r r' g1 g2 (by omega) h] at g4;cases g4)
 have hB:=Qye (p:=p) _ 0 1000 rfl (by decide) (fun r r' g1 g2 g3 g4=> hm r r' (by omega) g2 g3 g4)
 generalize (Qf2 q f 0 1001 u).1=A at *
 generalize QhJ p 0 1000=B at *
 have hA1:1<=A:=by
  rcases Int.lt_or_le A 1 with h | h
  ·have:=hA.2.2.2 0 (by omega) (by decide);rw [hq 0 (by omega) (by decide),h0] at this;cases this
  ·exact h
 rcases Int.lt_trichotomy (A - 1) B with h | h | h
 ·have h1:=hA.2.2.2 B (by omega) (by omega)
  rw [hq B (by omega) (by omega)] at h1
  by_cases e:B=0
  ·subst e;rw [h0] at h1;cases h1
  ·rw [hB.2.2.1 B (by omega) (Int.le_refl _)] at h1;cases h1
 ·exact h
 ·have h1:=hA.2.2.1 (A - 1) (by omega) (by omega)
  rw [hq _ (by omega) (by omega),hB.2.2.2 (A - 1) h (by omega)] at h1
  cases h1
def QeW (s:Qaa) (load:List Int) (days kind r:Int):Bool:=decide ((Qe0 (Qfs (Qae Span.lo Span.hi s days) kind r) (QfS (Qae Span.lo Span.hi s days) kind load) (Qbs (Qae Span.lo Span.hi s days)) (upI 0 days) (-1,s.stock.getD kind.toNat default)).1 < 0)
theorem Qy3 {s:Qaa} {load:List Int} {days kind lo hi:Int} (h:lo < hi) (hp:(Qe0 (Qfs (Qae Span.lo Span.hi s days) kind (hi - (hi - lo).tdiv 2)) (QfS (Qae Span.lo Span.hi s days) kind load) (Qbs (Qae Span.lo Span.hi s days)) (upI 0 days) (-1,s.stock.getD kind.toNat default)).1 < 0):QhJ (QeW s load days kind) lo hi=QhJ (QeW s load days kind) (hi - (hi - lo).tdiv 2) hi:=Qsl h (decide_eq_true hp)
theorem Q2i {s:Qaa} {load:List Int} {days kind lo hi:Int} (h:lo < hi) (hp:¬(Qe0 (Qfs (Qae Span.lo Span.hi s days) kind (hi - (hi - lo).tdiv 2)) (QfS (Qae Span.lo Span.hi s days) kind load) (Qbs (Qae Span.lo Span.hi s days)) (upI 0 days) (-1,s.stock.getD kind.toNat default)).1 < 0):QhJ (QeW s load days kind) lo hi=QhJ (QeW s load days kind) lo (hi - (hi - lo).tdiv 2 - 1):=Qw7 h (decide_eq_false hp)
def QdH (s:Qaa) (load:List Int) (days kind:Int) (lo hi:Int):List Value:=[Qa0 1 (slT load.length (Qac Qar load)),.int .i64 days,.int .i64 kind,pA 2 0,.int .i64 lo,.int .i64 hi]
def QbR (s:Qaa) (load:List Int) (days kind:Int) (lo hi:Int):List Obj:=[Obj.cells #[Qa0 1 (slT s.stock.length (Qac Qar s.stock)),Qa0 1 (slT s.use.length (Qac Qa6 s.use)),.int .i64 s.glo,.int .i64 s.ghi,Qa0 1 (slT s.lots.length (Qac Qam s.lots)),.int .i64 s.hold] 62]
def QdI:List Item:=([.code [1,1,0,0,0],.inLoop [1,1,0,0,0],.inBlock 0,.code [1,1,1]]).map (it (Qal Tryz.prog 50))
def Qut (B:Lo) (c0:CF) (s:Qaa) (load:List Int) (days kind:Int) (lo hi:Int):Prop:=∃dJ:Nat->Value,(∀t,QaS (dJ t))/\GoE Tryz.prog B c0 H00 1 (Qa4 50 41 (([1,2,3,4,9,10]:List Nat).zip (QdH s load days kind lo hi)) dJ QdI) (Qa3 (QbR s load days kind lo hi)) (2+(QbR s load days kind lo hi).length) []
def Qjc (s:Qaa) (days:Int):Array Value:=#[slT (List.length (Qat.uses (Qae Span.lo Span.hi s days))) (Qac Qar (Qat.uses (Qae Span.lo Span.hi s days))),slT (List.length (Qat.gaps (Qae Span.lo Span.hi s days))) (Qac Qar (Qat.gaps (Qae Span.lo Span.hi s days))),slT (List.length (Qat.goods (Qae Span.lo Span.hi s days))) (Qac Qaz (Qat.goods (Qae Span.lo Span.hi s days)))]
def Qjn (B:Lo) (s:Qaa) (load:List Int) (days kind:Int) (lo hi:Int) (dJ0:Nat->Value):List Prop:=[Qa7 []/\Qas Tryz.prog J0 41 #[.agg #[slT s.stock.length (Qac Qar s.stock),slT s.use.length (Qac Qa6 s.use),.int .i64 s.glo,.int .i64 s.ghi,slT s.lots.length (Qac Qam s.lots),.int .i64 s.hold],slT load.length (Qac Qar load),.int .i64 days,.agg (Qjc s days),.int .i64 kind,.int .i64 (hi - Int.tdiv (hi - lo) 2)] (.tuple #[.int .i64 (Prod.fst (Qe0 (Qfs (Qae Span.lo Span.hi s days) kind (hi - Int.tdiv (hi - lo) 2)) (QfS (Qae Span.lo Span.hi s days) kind load) (Qbs (Qae Span.lo Span.hi s days)) (upI 0 days) (-1,s.stock.getD kind.toNat default))),.int .i64 (Prod.snd (Qe0 (Qfs (Qae Span.lo Span.hi s days) kind (hi - Int.tdiv (hi - lo) 2)) (QfS (Qae Span.lo Span.hi s days) kind load) (Qbs (Qae Span.lo Span.hi s days)) (upI 0 days) (-1,s.stock.getD kind.toNat default)))]),Qa7 []/\Qas Tryz.prog J0 47 #[.agg #[slT s.stock.length (Qac Qar s.stock),slT s.use.length (Qac Qa6 s.use),.int .i64 s.glo,.int .i64 s.ghi,slT s.lots.length (Qac Qam s.lots),.int .i64 s.hold],.int .i64 days,.bool true] (.agg (Qjc s days)),wq (hi - Int.tdiv (hi - lo) 2)=hi - Int.tdiv (hi - lo) 2,IntKind.wrap .i64 (Int.tdiv (hi - lo) 2)=Int.tdiv (hi - lo) 2,wq (hi - lo)=hi - lo,ltq lo hi=true]++([]:List Prop)
def Qmw (s:Qaa) (load:List Int) (days kind:Int) (lo hi:Int) (dJ0:Nat->Value):Qay:=[(2,hvT),(6,hvI (hi - lo)),(7,hvI (Int.tdiv (hi - lo) 2)),(8,hvI (hi - Int.tdiv (hi - lo) 2)),(15,Qaj.pure (.agg (Qjc s days)) []),(18,Qaj.pure (.tuple #[.int .i64 (Prod.fst (Qe0 (Qfs (Qae Span.lo Span.hi s days) kind (hi - Int.tdiv (hi - lo) 2)) (QfS (Qae Span.lo Span.hi s days) kind load) (Qbs (Qae Span.lo Span.hi s days)) (upI 0 days) (-1,s.stock.getD kind.toNat default))),.int .i64 (Prod.snd (Qe0 (Qfs (Qae Span.lo Span.hi s days) kind (hi - Int.tdiv (hi - lo) 2)) (QfS (Qae Span.lo Span.hi s days) kind load) (Qbs (Qae Span.lo Span.hi s days)) (upI 0 days) (-1,s.stock.getD kind.toNat default)))]) [])]
theorem Qu8 (B:Lo) (s:Qaa) (load:List Int) (days kind:Int) (lo hi:Int) (dJ0:Nat->Value):landM (Qak Tryz.prog (Qa1 Tryz.prog) J0 B 16 1 (Qa4 50 41 (([1,2,3,4,9,10]:List Nat).zip (QdH s load days kind lo hi)) dJ0 QdI) (Qa3 (QbR s load days kind lo hi)) (2+(QbR s load days kind lo hi).length)
 (Qmw s load days kind lo hi dJ0++[(25,hvT)]) 0 [] []) [1,2,3,4,9,10] [(2,KS.auto)] []=some ⟨50,41,QdI,[],.run,none,QdH s load days kind (hi - Int.tdiv (hi - lo) 2) (hi),QbR s load days kind (hi - Int.tdiv (hi - lo) 2) (hi),
 [ltq (Prod.fst (Qe0 (Qfs (Qae Span.lo Span.hi s days) kind (hi - Int.tdiv (hi - lo) 2)) (QfS (Qae Span.lo Span.hi s days) kind load) (Qbs (Qae Span.lo Span.hi s days)) (upI 0 days) (-1,s.stock.getD kind.toNat default))) 0=true]++Qjn B s load days kind lo hi dJ0⟩:=by kernel_rfl
theorem QtV (B:Lo) (s:Qaa) (load:List Int) (days kind:Int) (lo hi:Int) (dJ0:Nat->Value):landM (Qak Tryz.prog (Qa1 Tryz.prog) J0 B 16 1 (Qa4 50 41 (([1,2,3,4,9,10]:List Nat).zip (QdH s load days kind lo hi)) dJ0 QdI) (Qa3 (QbR s load days kind lo hi)) (2+(QbR s load days kind lo hi).length)
 (Qmw s load days kind lo hi dJ0++[(25,hvF),(27,hvI (hi - Int.tdiv (hi - lo) 2 - 1))]) 0 [] []) [1,2,3,4,9,10] [(2,KS.auto)] []=some ⟨50,41,QdI,[],.run,none,QdH s load days kind (lo) (hi - Int.tdiv (hi - lo) 2 - 1),QbR s load days kind (lo) (hi - Int.tdiv (hi - lo) 2 - 1),
 [wq (hi - Int.tdiv (hi - lo) 2 - 1)=hi - Int.tdiv (hi - lo) 2 - 1,ltq (Prod.fst (Qe0 (Qfs (Qae Span.lo Span.hi s days) kind (hi - Int.tdiv (hi - lo) 2)) (QfS (Qae Span.lo Span.hi s days) kind load) (Qbs (Qae Span.lo Span.hi s days)) (upI 0 days) (-1,s.stock.getD kind.toNat default))) 0=false]++Qjn B s load days kind lo hi dJ0⟩:=by kernel_rfl
theorem Qt7 (B:Lo) (s:Qaa) (load:List Int) (days kind:Int) (lo hi:Int) (dJ0:Nat->Value):Qbb (Qak Tryz.prog (Qa1 Tryz.prog) J0 B 9 1 (Qa4 50 41 (([1,2,3,4,9,10]:List Nat).zip (QdH s load days kind lo hi)) dJ0 QdI) (Qa3 (QbR s load days kind lo hi)) (2+(QbR s load days kind lo hi).length)
 [(2,hvF)] 0 [] []) []=some (.int .i64 lo,
 [ltq lo hi=false]):=by kernel_rfl
theorem Quf (B:Lo) (s:Qaa) (load:List Int) (days kind:Int):landM (Qak Tryz.prog (Qa1 Tryz.prog) J0 B 7 1 (Qai Tryz.prog 50 41 (([.agg (Qah s).toArray,slI load,.int .i64 days,.int .i64 kind]).map (Qaq 0 4))) H00 1
 [] 0 [] []) [1,2,3,4,9,10] [(1,KS.auto)] []=some ⟨50,41,QdI,[],.run,none,QdH s load days kind (0) (1000),QbR s load days kind (0) (1000),
 []⟩:=by kernel_rfl
set_option maxHeartbeats 4000000 in
theorem Qts (s:Qaa) (load:List Int) (days kind:Int) (hs:Qa8 s=true) (hl:QbV s load=true) (hll:load.length<=10) (hd:0<=days/\days<=300) (hk:0<=kind/\kind < s.stock.length) {B:Lo} (hJ:∀w,B.has w->J0 w) {c0:CF}:∀m:Nat,(∀(lo hi:Int),(hi - lo).toNat=m->∀(l0:0<=lo) (lh:lo<=hi) (h1:hi<=1000),Qut B c0 s load days kind lo hi->EndsT Tryz.prog B c0 (.int .i64 (QhJ (QeW s load days kind) lo hi))):=by
 intro m0
 induction m0 using Nat.strongRecOn with
 | _ m0 ih0=>
   intro lo hi hm0 l0 lh h1 ⟨dJ0,hdJ0,hg0⟩
   have ht1:=Qcg QcZ Qda hs hd
   have hn:=hl;simp only [QbV,Bool.and_eq_true] at hn;have hx:=Qhm hn.1
   have ht1:=Qcg QcZ Qda hs hd
   have hn:=hl;simp only [QbV,Bool.and_eq_true] at hn;have hx:=Qhm hn.1
   by_cases q0:(lo:Int) < (hi)
   ·
    have hp0:Qa7 (Qjn B s load days kind lo hi dJ0):=by
     have hm:=Qnz (show lo < hi by omega)
     exact ⟨⟨trivial,Q3P (s) (load) (days) (Qae Span.lo Span.hi s days) (kind) (hi - Int.tdiv (hi - lo) 2) (by with_reducible assumption) (by with_reducible assumption) (by with_reducible assumption) (by with_reducible assumption) (by with_reducible assumption) (by with_reducible assumption) (by omega)⟩,⟨⟨trivial,Q3S (s) (days) (by with_reducible assumption) (by with_reducible assumption)⟩,⟨(QaJ (by omega) (by omega)),⟨(Qgz (by omega) (by omega)),⟨(QaJ (by omega) (by omega)),⟨(Qbl q0),trivial⟩⟩⟩⟩⟩⟩
    by_cases q1:(Prod.fst (Qe0 (Qfs (Qae Span.lo Span.hi s days) kind (hi - Int.tdiv (hi - lo) 2)) (QfS (Qae Span.lo Span.hi s days) kind load) (Qbs (Qae Span.lo Span.hi s days)) (upI 0 days) (-1,s.stock.getD kind.toNat default)):Int) < (0)
    ·
     have hm:=Qnz (show lo < hi by omega)
     have s2:=Qy3 (s:=s) (load:=load) (days:=days) (kind:=kind) (show lo < hi by omega) (by with_reducible assumption)
     exact ((ih0 _ (by omega)) (hi - Int.tdiv (hi - lo) 2) (hi) rfl (by omega) (by omega) (by with_reducible assumption)
      (hg0.landM okF hJ Qab (Qu8 B s load days kind lo hi dJ0)
      ⟨(Qbl q1),hp0⟩ (by kernel_rfl) (by kernel_rfl))).cast (by (rw [s2];done))
    ·
     have hm:=Qnz (show lo < hi by omega)
     have s2:=Q2i (s:=s) (load:=load) (days:=days) (kind:=kind) (show lo < hi by omega) (by with_reducible assumption)
     exact ((ih0 _ (by omega)) (lo) (hi - Int.tdiv (hi - lo) 2 - 1) rfl (by with_reducible assumption) (by omega) (by omega)
      (hg0.landM okF hJ Qab (QtV B s load days kind lo hi dJ0)
      ⟨(QaJ (by omega) (by omega)),⟨(Qbq (Int.not_lt.1 q1)),hp0⟩⟩ (by kernel_rfl) (by kernel_rfl))).cast (by (rw [s2];done))
   ·
    have s2:=Qsu (p:=QeW s load days kind) (show hi<=lo by omega)
    exact (GoE.endsT okF hJ Qab hg0 (Qt7 B s load days kind lo hi dJ0)
     ⟨(Qbq (Int.not_lt.1 q0)),trivial⟩).cast (by (rw [s2];done))
set_option maxHeartbeats 4000000 in
theorem QvY (s:Qaa) (load:List Int) (days kind:Int) (hs:Qa8 s=true) (hl:QbV s load=true) (hll:load.length<=10) (hd:0<=days/\days<=300) (hk:0<=kind/\kind < s.stock.length) {B:Lo} (hJ:∀w,B.has w->J0 w):EndsT Tryz.prog B (Qai Tryz.prog 50 41 (([.agg (Qah s).toArray,slI load,.int .i64 days,.int .i64 kind]).map (Qaq 0 4))) (.int .i64 (QhJ (QeW s load days kind) 0 1000)):=by
 have ht1:=Qcg QcZ Qda hs hd
 have hn:=hl;simp only [QbV,Bool.and_eq_true] at hn;have hx:=Qhm hn.1
 exact ((Qts s load days kind hs hl hll hd hk hJ _) (0) (1000) rfl (by omega) (by omega) (by omega)
  (GoE.start.landM okF hJ Qab (Quf B s load days kind)
  trivial (by kernel_rfl) (by kernel_rfl))).cast (by rfl)
theorem Q14 (s:Qaa) (load:List Int) (days kind:Int) (hs:Qa8 s=true) (hl:QbV s load=true) (hll:load.length<=10) (hd:0<=days/\days<=300) (hk:0<=kind/\kind < s.stock.length):Qas Tryz.prog J0 50 #[.agg (Qah s).toArray,slI load,.int .i64 days,.int .i64 kind] (.int .i64 (QhJ (QeW s load days kind) 0 1000)):=
 QaE (ts:=[.agg (Qah s).toArray,slI load,.int .i64 days,.int .i64 kind]) Qb6 (c0:=Qai Tryz.prog 50 41 (([.agg (Qah s).toArray,slI load,.int .i64 days,.int .i64 kind]).map (Qaq 0 4))) (by kernel_rfl) (by kernel_rfl) fun B hJ=> QvY s load days kind hs hl hll hd hk hJ
end
end Go.Proofs.YtiabgkiccaodmaaGreat

namespace Go.Proofs.YtiabgkiccaodmaaGreat
open Go Go.CE Go.RowKit
theorem Qsq {s:Qaa} {load:List Int} {days:Int} {t:Qat} {k r:Int} (hs:Qa8 s=true) (hl:QbV s load=true) (ht:Qc5 s days t=true) (hd:0<=days/\days<=300):
 (Qe0 (Qfs t k r) (QfS t k load) (Qbs t) (upI 0 days) (-1,s.stock.getD k.toNat default)).1=QaL (Qfs t k r) (Qcs (QcM load 0) t.goods k) (Qb1 days t.gaps) 0 (s.stock.getD k.toNat default):=by
 have ht':=ht
 simp only [Qc5,QlU,Bool.and_eq_true,decide_eq_true_iff,List.all_eq_true,QaW] at ht'
 have hgp:=Qa9 hs
 have hlen:(Qb1 days t.gaps).length=days.toNat:=by unfold Qb1;rw [QgS,List.length_replicate]
 have hk:=Qwl (use:=Qfs t k r) (br:=QfS t k load) (comes:=Qbs t) (Qb1 days t.gaps) 0 (s.stock.getD k.toNat default) (-1) (Int.le_refl 0) (fun j hj=> by
  have:=Qmz (days:=days) (d:=(j:Int)) (gaps:=t.gaps) (fun g hg=> by have:=ht'.2.1.2.1 g hg;omega) (by omega) (by omega)
  rw [Int.zero_add,<-Int.toNat_natCast j,this];rfl)
 rw [hlen,show (0:Int)+(days.toNat:Int)=days by omega] at hk
 rw [hk,<-Qu6 hs hl]
 have hor:=Qgb (use:=Qfs t k r) (br:=Qcs (QcM load 0) t.goods k) (Qb1 days t.gaps) 0 (s.stock.getD k.toNat default) (Int.le_refl 0)
 simp only
 split <;> omega
theorem QxH {t t':Qat} {k r r':Int} (h0:0<=t'.uses.getD k.toNat default) (hu:t'.uses.getD k.toNat default<=t.uses.getD k.toNat default) (r0:0<=r') (hr:r'<=r):0<=Qfs t' k r'/\Qfs t' k r'<=Qfs t k r:=by
 have h1:0<=t'.uses.getD k.toNat default * r':=Int.mul_nonneg h0 r0
 have h2:t'.uses.getD k.toNat default * r'<=t.uses.getD k.toNat default * r:=Int.mul_le_mul hu hr r0 (by omega)
 unfold Qfs
 rw [Int.tdiv_eq_ediv_of_nonneg (by omega),Int.tdiv_eq_ediv_of_nonneg (by omega)]
 omega
theorem QnX {s:Qaa} {load:List Int} {days k r:Int} (hs:Qa8 s=true) (hl:QbV s load=true) (hd:0<=days/\days<=300):
 QeW s load days k r=decide (QaL (Qfs (Qae Span.lo Span.hi s days) k r) (Qcs (QcM load 0) (Qae Span.lo Span.hi s days).goods k) (Qb1 days (Qae Span.lo Span.hi s days).gaps) 0 (s.stock.getD k.toNat default) < 0):=by
 unfold QeW
 rw [Qsq hs hl (Qcg QcZ Qda hs hd) hd]
theorem Qy5 {s:Qaa} {load:List Int} {days k r r':Int} {t:Qat} (hs:Qa8 s=true) (hl:QbV s load=true) (ht:Qc5 s days t=true) (hd:0<=days/\days<=300) (k0:0<=k) (k1:k < s.stock.length) (r0:0<=r') (hr:r'<=r) (h:QeW s load days k r=true):
 (Qe0 (Qfs t k r') (QfS t k load) (Qbs t) (upI 0 days) (-1,s.stock.getD k.toNat default)).1 < 0:=by
 have hE:=Qcg QcZ Qda hs hd
 have hL:=QdE hs hl
 have a:=Qxw hs ht
 have hgp:=Qa9 hs
 have n1:=Qyv (k:=k) hs ht hd hL.2.1 hL.2.2.1 hL.2.2.2 k0 k1
 have n2:=Qyv (k:=k) hs hE hd hL.2.1 hL.2.2.1 hL.2.2.2 k0 k1
 simp only [gdB,Qyi] at n1 n2
 have u:=a.1 k k0 k1
 have ue:=Ql7 (f:=Span.lo) (g:=Span.hi) (days:=days) hs k0 k1
 rw [QnX hs hl hd] at h
 have h:=of_decide_eq_true h
 rw [Qsq hs hl ht hd]
 have m:=QxH (t:=Qae Span.lo Span.hi s days) (t':=t) (k:=k) n1.2.2.1 (by rw [ue];exact u.2) r0 hr
 rcases Int.lt_or_le (QaL (Qfs t k r') (Qcs (QcM load 0) t.goods k) (Qb1 days t.gaps) 0 (s.stock.getD k.toNat default)) 0 with h1 | h1
 ·exact h1
 ·have:=QzP (stock:=s.stock.getD k.toNat default) hd.1 m ⟨n2.2.2.2.2.1,Qph (k:=k) (g:=(Qae Span.lo Span.hi s days).goods) (g':=t.goods) hL.2.2.2 (fun x x0 x1=> by rw [Qpt hs x0 x1 k0 k1];exact (a.2.2.2 x k x0 x1 k0 k1).1)⟩ (gaps:=(Qae Span.lo Span.hi s days).gaps) (gaps':=t.gaps) (fun g hg' x hx'=> by rw [QoK hg'];exact (a.2.1 x hx').2) (fun g hg'=> by rw [QoK hg'];show 1<=s.ghi;omega) (fun g hg'=> by have:=a.2.1 g hg';omega) a.2.2.1 h1
  omega
theorem QtH {s:Qaa} {load:List Int} {days k r r':Int} (hs:Qa8 s=true) (hl:QbV s load=true) (hd:0<=days/\days<=300) (k0:0<=k) (k1:k < s.stock.length) (r0:0<=r') (hr:r'<=r) (h:QeW s load days k r=true):QeW s load days k r'=true:=
 decide_eq_true (Qy5 hs hl (Qcg QcZ Qda hs hd) hd k0 k1 r0 hr h)
theorem QmQ {br:Int} (hb:0<=br):∀(cs:List Bool) (d left:Int),0<=left->QaL 0 br cs d left= -1
 | [],_,_,_=> rfl
 | c::cs,d,left,h=> by
   have hL:0<=left+bif c then br else 0:=by cases c <;> simp only [cond_true,cond_false] <;> omega
   show (bif decide ((left+bif c then br else 0) < 0) then d else QaL 0 br cs (d+1) (QhW 0 (left+bif c then br else 0)))= -1
   rw [decide_eq_false (by omega),cond_false]
   exact QmQ hb cs _ _ (by unfold QhW;split <;> omega)
theorem Q0R {s:Qaa} {load:List Int} {days k:Int} (hs:Qa8 s=true) (hl:QbV s load=true) (hd:0<=days/\days<=300) (k0:0<=k) (k1:k < s.stock.length):QeW s load days k 0=true:=by
 have hE:=Qcg QcZ Qda hs hd
 have hL:=QdE hs hl
 have n2:=Qyv (k:=k) hs hE hd hL.2.1 hL.2.2.1 hL.2.2.2 k0 k1
 simp only [gdB,Qyi] at n2
 rw [QnX hs hl hd]
 have e:Qfs (Qae Span.lo Span.hi s days) k 0=0:=by unfold Qfs;rw [Int.mul_zero];rfl
 rw [e,QmQ n2.2.2.2.2.1 _ _ _ n2.1];rfl
theorem Qz3 {s:Qaa} {load:List Int} {days k r:Int} (hs:Qa8 s=true) (hl:QbV s load=true) (hd:0<=days/\days<=300) (k0:0<=k) (k1:k < s.stock.length):Qjh (QuO s (QcM load 0) days k) r= !QeW s load days k r:=by
 have e:=Qv2 (s:=s) (load:=QcM load 0) (days:=days) (t:=Qae Span.lo Span.hi s days) k0 k1
 rw [show QuO s (QcM load 0) days k=_ from e,QrF,QnX hs hl hd]
 have eu:Qba (Qyi s (QcM load 0) days (Qae Span.lo Span.hi s days) k).use r=Qfs (Qae Span.lo Span.hi s days) k r:=by
  show ((Qae Span.lo Span.hi s days).uses.getD k.toNat default * r+1000 - 1).tdiv 1000=_
  unfold Qfs
  congr 1
  omega
 rw [eu]
 have hor:=Qgb (use:=Qfs (Qae Span.lo Span.hi s days) k r) (br:=Qcs (QcM load 0) (Qae Span.lo Span.hi s days).goods k) (Qb1 days (Qae Span.lo Span.hi s days).gaps) 0 (s.stock.getD k.toNat default) (Int.le_refl 0)
 congr 1
 exact decide_eq_decide.2 ⟨fun h=> by rw [show QaL (Qfs (Qae Span.lo Span.hi s days) k r) (Qcs (QcM load 0) (Qae Span.lo Span.hi s days).goods k) (Qb1 days (Qae Span.lo Span.hi s days).gaps) 0 (s.stock.getD k.toNat default)= -1 from h];decide,fun h=> by
  show QaL (Qfs (Qae Span.lo Span.hi s days) k r) (Qcs (QcM load 0) (Qae Span.lo Span.hi s days).goods k) (Qb1 days (Qae Span.lo Span.hi s days).gaps) 0 (s.stock.getD k.toNat default)= -1
  omega⟩
theorem QxM {s:Qaa} {load:List Int} {days k:Int} (hs:Qa8 s=true) (hl:QbV s load=true) (hd:0<=days/\days<=300) (k0:0<=k) (k1:k < s.stock.length):Qni s load days k=QhJ (QeW s load days k) 0 1000:=by
 unfold Qni
 exact Q1B (fun r _ _=> Qz3 hs hl hd k0 k1) (Q0R hs hl hd k0 k1) fun r r' g1 g2 g3 g4=> QtH hs hl hd k0 k1 g1 g2 g4
end Go.Proofs.YtiabgkiccaodmaaGreat

namespace Go.Proofs.YtiabgkiccaodmaaGreat
open Go Go.CE Go.RowKit
noncomputable section
set_option maxRecDepth 100000
def QdJ (s:Qaa) (load:List Int) (days kind:Int):Array Value:=#[.agg #[slT s.stock.length (Qac Qar s.stock),slT s.use.length (Qac Qa6 s.use),.int .i64 s.glo,.int .i64 s.ghi,slT s.lots.length (Qac Qam s.lots),.int .i64 s.hold],slT load.length (Qac Qar load),.int .i64 days,.int .i64 kind]
def QeB (s:Qaa) (load:List Int) (days:Int):Array Value:=#[.agg #[slT s.stock.length (Qac Qar s.stock),slT s.use.length (Qac Qa6 s.use),.int .i64 s.glo,.int .i64 s.ghi,slT s.lots.length (Qac Qam s.lots),.int .i64 s.hold],slT load.length (Qac Qar load),.int .i64 days]
def QfF (s:Qaa):Array Value:=#[slT s.stock.length (Qac Qar s.stock),slT s.use.length (Qac Qa6 s.use),.int .i64 s.glo,.int .i64 s.ghi,slT s.lots.length (Qac Qam s.lots),.int .i64 s.hold]
def Qhy (B:Lo) (s:Qaa) (load:List Int) (days kind:Int):List Prop:=[Qa7 []/\Qas Tryz.prog J0 36 #[.agg (QfF s)] (.bool true)]++([]:List Prop)
def Qlh (s:Qaa) (load:List Int) (days kind:Int):Qay:=[(3,Qaj.pure (.bool true) [])]
theorem QqH (B:Lo) (s:Qaa) (load:List Int) (days kind:Int):Qbb (Qak Tryz.prog (Qa1 Tryz.prog) J0 B 10 1 (Qai Tryz.prog 11 62 (([.agg (Qah s).toArray,slI load,.int .i64 days,.int .i64 kind]).map (Qaq 0 4))) H00 1
 (Qlh s load days kind++[(8,hvT),(10,Qaj.pure (.bool true) [])]) 0 [] []) []=some (.bool true,
 [Qa7 []/\Qas Tryz.prog J0 17 #[] (.bool true),ltq 10 (↑load.length:Int)=true]++Qhy B s load days kind):=by kernel_rfl
def QdA (B:Lo) (s:Qaa) (load:List Int) (days kind:Int):List Prop:=[ltq 10 (↑load.length:Int)=false]++Qhy B s load days kind
def Qe8 (s:Qaa) (load:List Int) (days kind:Int):Qay:=Qlh s load days kind++[(8,hvF)]
def Qhk (B:Lo) (s:Qaa) (load:List Int) (days kind:Int):List Prop:=[Qa7 []/\Qas Tryz.prog J0 50 (QdJ s load days kind) (.int .i64 (QhJ (QeW s load days kind) 0 1000)),Qa7 []/\Qas Tryz.prog J0 49 #[.agg (QfF s),.int .i64 kind] (.bool true),Qa7 []/\Qas Tryz.prog J0 39 (QeB s load days) (.bool true),Qa7 []/\Qas Tryz.prog J0 48 (QdJ s load days kind) (.tuple #[.int .i64 (Qni s load days kind),.int .i64 0])]++QdA B s load days kind
def Qk0 (s:Qaa) (load:List Int) (days kind:Int):Qay:=Qe8 s load days kind++[(14,Qaj.pure (.tuple #[.int .i64 (Qni s load days kind),.int .i64 0]) []),(23,Qaj.pure (.bool true) []),(28,Qaj.pure (.bool true) []),(39,Qaj.pure (.int .i64 (QhJ (QeW s load days kind) 0 1000)) [])]
theorem Qrl (B:Lo) (s:Qaa) (load:List Int) (days kind:Int):Qbb (Qak Tryz.prog (Qa1 Tryz.prog) J0 B 18 1 (Qai Tryz.prog 11 62 (([.agg (Qah s).toArray,slI load,.int .i64 days,.int .i64 kind]).map (Qaq 0 4))) H00 1
 (Qk0 s load days kind++[(40,hvT),(43,Qaj.pure (.bool true) [])]) 0 [] []) []=some (.bool true,
 [Qa7 []/\Qas Tryz.prog J0 17 #[] (.bool true),eqq (Qni s load days kind) (QhJ (QeW s load days kind) 0 1000)=true]++Qhk B s load days kind):=by kernel_rfl
theorem QqE (B:Lo) (s:Qaa) (load:List Int) (days kind:Int):Qbb (Qak Tryz.prog (Qa1 Tryz.prog) J0 B 18 1 (Qai Tryz.prog 11 62 (([.agg (Qah s).toArray,slI load,.int .i64 days,.int .i64 kind]).map (Qaq 0 4))) H00 1
 (Qk0 s load days kind++[(40,hvF)]) 0 [] []) []=some (.bool false,
 [eqq (Qni s load days kind) (QhJ (QeW s load days kind) 0 1000)=false]++Qhk B s load days kind):=by kernel_rfl
theorem Qr9 (B:Lo) (s:Qaa) (load:List Int) (days kind:Int):Qbb (Qak Tryz.prog (Qa1 Tryz.prog) J0 B 17 1 (Qai Tryz.prog 11 62 (([.agg (Qah s).toArray,slI load,.int .i64 days,.int .i64 kind]).map (Qaq 0 4))) H00 1
 (Qe8 s load days kind++[(14,Qaj.pure (.tuple #[.int .i64 0,.int .i64 2]) []),(23,Qaj.pure (.bool true) []),(28,Qaj.pure (.bool false) []),(38,Qaj.pure (.bool true) [])]) 0 [] []) []=some (.bool true,
 [Qa7 []/\Qas Tryz.prog J0 17 #[] (.bool true),Qa7 []/\Qas Tryz.prog J0 49 #[.agg (QfF s),.int .i64 kind] (.bool false),Qa7 []/\Qas Tryz.prog J0 39 (QeB s load days) (.bool true),Qa7 []/\Qas Tryz.prog J0 48 (QdJ s load days kind) (.tuple #[.int .i64 0,.int .i64 2])]++QdA B s load days kind):=by kernel_rfl
theorem QqY (B:Lo) (s:Qaa) (load:List Int) (days kind:Int):Qbb (Qak Tryz.prog (Qa1 Tryz.prog) J0 B 17 1 (Qai Tryz.prog 11 62 (([.agg (Qah s).toArray,slI load,.int .i64 days,.int .i64 kind]).map (Qaq 0 4))) H00 1
 (Qe8 s load days kind++[(14,Qaj.pure (.tuple #[.int .i64 0,.int .i64 2]) []),(23,Qaj.pure (.bool false) []),(38,Qaj.pure (.bool true) [])]) 0 [] []) []=some (.bool true,
 [Qa7 []/\Qas Tryz.prog J0 17 #[] (.bool true),Qa7 []/\Qas Tryz.prog J0 39 (QeB s load days) (.bool false),Qa7 []/\Qas Tryz.prog J0 48 (QdJ s load days kind) (.tuple #[.int .i64 0,.int .i64 2])]++QdA B s load days kind):=by kernel_rfl
theorem Qq8 (B:Lo) (s:Qaa) (load:List Int) (days kind:Int):Qbb (Qak Tryz.prog (Qa1 Tryz.prog) J0 B 17 1 (Qai Tryz.prog 11 62 (([.agg (Qah s).toArray,slI load,.int .i64 days,.int .i64 kind]).map (Qaq 0 4))) H00 1
 (Qe8 s load days kind++[(14,Qaj.pure (.tuple #[.int .i64 0,.int .i64 2]) []),(23,Qaj.pure (.bool false) []),(38,Qaj.pure (.bool true) [])]) 0 [] []) []=some (.bool true,
 [Qa7 []/\Qas Tryz.prog J0 17 #[] (.bool true),Qa7 []/\Qas Tryz.prog J0 39 (QeB s load days) (.bool false),Qa7 []/\Qas Tryz.prog J0 48 (QdJ s load days kind) (.tuple #[.int .i64 0,.int .i64 2])]++QdA B s load days kind):=by kernel_rfl
theorem QqA (B:Lo) (s:Qaa) (load:List Int) (days kind:Int):Qbb (Qak Tryz.prog (Qa1 Tryz.prog) J0 B 17 1 (Qai Tryz.prog 11 62 (([.agg (Qah s).toArray,slI load,.int .i64 days,.int .i64 kind]).map (Qaq 0 4))) H00 1
 (Qe8 s load days kind++[(14,Qaj.pure (.tuple #[.int .i64 0,.int .i64 2]) []),(23,Qaj.pure (.bool false) []),(38,Qaj.pure (.bool true) [])]) 0 [] []) []=some (.bool true,
 [Qa7 []/\Qas Tryz.prog J0 17 #[] (.bool true),Qa7 []/\Qas Tryz.prog J0 39 (QeB s load days) (.bool false),Qa7 []/\Qas Tryz.prog J0 48 (QdJ s load days kind) (.tuple #[.int .i64 0,.int .i64 2])]++QdA B s load days kind):=by kernel_rfl
theorem Qqy (B:Lo) (s:Qaa) (load:List Int) (days kind:Int):Qbb (Qak Tryz.prog (Qa1 Tryz.prog) J0 B 10 1 (Qai Tryz.prog 11 62 (([.agg (Qah s).toArray,slI load,.int .i64 days,.int .i64 kind]).map (Qaq 0 4))) H00 1
 [(3,Qaj.pure (.bool false) []),(10,Qaj.pure (.bool true) [])] 0 [] []) []=some (.bool true,
 [Qa7 []/\Qas Tryz.prog J0 17 #[] (.bool true),Qa7 []/\Qas Tryz.prog J0 36 #[.agg (QfF s)] (.bool false)]):=by kernel_rfl
set_option maxHeartbeats 4000000 in
theorem Qta (s:Qaa) (load:List Int) (days kind:Int)  (hfacts:s.stock.length<=9223372036854775807) {B:Lo} (hJ:∀w,B.has w->J0 w):EndsT Tryz.prog B (Qai Tryz.prog 11 62 (([.agg (Qah s).toArray,slI load,.int .i64 days,.int .i64 kind]).map (Qaq 0 4))) (.bool true):=by
 cases q0:QfY s with
 | true=>
   have hp0:Qa7 (Qhy B s load days kind):=by
    have hb:=Qc3 ‹QfY s=true›
    exact ⟨⟨trivial,(by have t_:=Qxy (s);rw [q0] at t_;exact t_)⟩,trivial⟩
   by_cases q1:(10:Int) < ((↑load.length:Int))
   ·
    exact (GoE.endsT okF hJ Qab GoE.start (QqH B s load days kind)
     ⟨⟨trivial,known⟩,⟨(Qbl q1),hp0⟩⟩).cast rfl
   ·
    have hp1:Qa7 (QdA B s load days kind):=by
     exact ⟨(Qbq (Int.not_lt.1 q1)),hp0⟩
    cases q2:Qa8 s with
    | true=>
      cases q3:QbV s load with
      | true=>
        cases q4:inB days 0 300 with
        | true=>
          cases q5:inB kind 0 ((↑s.stock.length:Int) - 1) with
          | true=>
            have hp2:Qa7 (Qhk B s load days kind):=by
             have hb:=Qc3 ‹QfY s=true›
             have g2:=QaW.1 ‹inB days 0 300=true›
             have g3:=QaW.1 ‹inB kind 0 _=true›
             have g4:=QxM ‹Qa8 s=true› ‹QbV s load=true› g2 g3.1 (by omega)
             exact ⟨⟨trivial,Q14 (s) (load) (days) (kind) (by with_reducible assumption) (by with_reducible assumption) (by omega) (by with_reducible assumption) (by omega)⟩,⟨⟨trivial,(by have t_:=Q2V (s) (kind);rw [q5] at t_;exact t_)⟩,⟨⟨trivial,(by have t_:=Qlg (s) (load) (days) (by with_reducible assumption) (by omega);rw [q2,q3,q4] at t_;exact t_)⟩,⟨⟨trivial,(by have t_:=Qlx (s) (load) (days) (kind);rw [q2,q3,q4,q5] at t_;exact t_)⟩,hp1⟩⟩⟩⟩
            by_cases q6:(Qni s load days kind:Int)=(QhJ (QeW s load days kind) 0 1000)
            ·
             exact (GoE.endsT okF hJ Qab GoE.start (Qrl B s load days kind)
              ⟨⟨trivial,known⟩,⟨(Qnl q6),hp2⟩⟩).cast rfl
            ·
             have hb:=Qc3 ‹QfY s=true›
             have g2:=QaW.1 ‹inB days 0 300=true›
             have g3:=QaW.1 ‹inB kind 0 _=true›
             have g4:=QxM ‹Qa8 s=true› ‹QbV s load=true› g2 g3.1 (by omega)
             exact (GoE.endsT okF hJ Qab GoE.start (QqE B s load days kind)
              ⟨(Qnq q6),hp2⟩).cast (by (exfalso;omega))
          | false=>
            have hb:=Qc3 ‹QfY s=true›
            have g2:=QaW.1 ‹inB days 0 300=true›
            exact (GoE.endsT okF hJ Qab GoE.start (Qr9 B s load days kind)
             ⟨⟨trivial,known⟩,⟨⟨trivial,(by have t_:=Q2V (s) (kind);rw [q5] at t_;exact t_)⟩,⟨⟨trivial,(by have t_:=Qlg (s) (load) (days) (by with_reducible assumption) (by omega);rw [q2,q3,q4] at t_;exact t_)⟩,⟨⟨trivial,(by have t_:=Qlx (s) (load) (days) (kind);rw [q2,q3,q4,q5] at t_;exact t_)⟩,hp1⟩⟩⟩⟩).cast rfl
        | false=>
          have hb:=Qc3 ‹QfY s=true›
          exact (GoE.endsT okF hJ Qab GoE.start (QqY B s load days kind)
           ⟨⟨trivial,known⟩,⟨⟨trivial,(by have t_:=Qlg (s) (load) (days) (by with_reducible assumption) (by omega);rw [q2,q3,q4] at t_;exact t_)⟩,⟨⟨trivial,(by have t_:=Qlx (s) (load) (days) (kind);rw [q2,q3,q4] at t_;exact t_)⟩,hp1⟩⟩⟩).cast rfl
      | false=>
        have hb:=Qc3 ‹QfY s=true›
        exact (GoE.endsT okF hJ Qab GoE.start (Qq8 B s load days kind)
         ⟨⟨trivial,known⟩,⟨⟨trivial,(by have t_:=Qlg (s) (load) (days) (by with_reducible assumption) (by omega);rw [q2,q3] at t_;exact t_)⟩,⟨⟨trivial,(by have t_:=Qlx (s) (load) (days) (kind);rw [q2,q3] at t_;exact t_)⟩,hp1⟩⟩⟩).cast rfl
    | false=>
      have hb:=Qc3 ‹QfY s=true›
      exact (GoE.endsT okF hJ Qab GoE.start (QqA B s load days kind)
       ⟨⟨trivial,known⟩,⟨⟨trivial,(by have t_:=Qlg (s) (load) (days) (by with_reducible assumption) (by omega);rw [q2] at t_;exact t_)⟩,⟨⟨trivial,(by have t_:=Qlx (s) (load) (days) (kind);rw [q2] at t_;exact t_)⟩,hp1⟩⟩⟩).cast rfl
 | false=>
   exact (GoE.endsT okF hJ Qab GoE.start (Qqy B s load days kind)
    ⟨⟨trivial,known⟩,⟨⟨trivial,(by have t_:=Qxy (s);rw [q0] at t_;exact t_)⟩,trivial⟩⟩).cast rfl
theorem Qzq (s:Qaa) (load:List Int) (days kind:Int)  :Qas Tryz.prog J0 11 #[.agg (Qah s).toArray,slI load,.int .i64 days,.int .i64 kind] (.bool true):=
 Qc2 (ts:=[.agg (Qah s).toArray,slI load,.int .i64 days,.int .i64 kind]) (s.stock.length<=9223372036854775807) (fun _ _ ht=> ht.ln2 (i:=0) (j:=0) rfl rfl) Qb6 (c0:=Qai Tryz.prog 11 62 (([.agg (Qah s).toArray,slI load,.int .i64 days,.int .i64 kind]).map (Qaq 0 4))) (by kernel_rfl) (by kernel_rfl) fun hfacts B hJ=> Qta s load days kind  hfacts hJ
end
end Go.Proofs.YtiabgkiccaodmaaGreat

namespace Go.Proofs.YtiabgkiccaodmaaGreat
open Go Go.CE Go.RowKit
theorem Qrh:∀trs,QsD [Qku,.slice .int,.int,.int] trs->Qas Tryz.prog J0 11 trs.toArray (.bool true):=by
 rintro trs ⟨t0,_,rfl,h0,t1,_,rfl,h1,t2,_,rfl,h2,t3,_,rfl,h3,rfl⟩
 obtain ⟨s,rfl⟩:=QuL h0
 obtain ⟨l,rfl⟩:=Qyt h1
 obtain ⟨z,rfl⟩:=QwJ h2
 obtain ⟨k,rfl⟩:=QwJ h3
 exact Qzq s l z k
end Go.Proofs.YtiabgkiccaodmaaGreat

namespace Go.Proofs.YtiabgkiccaodmaaGreat
open Go Go.CE Go.ChangeShapes Go.WideShapes Go.RowKit
set_option maxRecDepth 100000 in
theorem Qh9 (os:Os) (started:os.Started) (H:Type) (enc:TypeId×Value->H):
 ReturnsInHanded {} Tryz.checked os 11 .any (Rows.shipRationsSpec.pre6 enc Tryz.prog Tryz.f11 Rows.shipRationsRow.domain false) (Rows.shipRationsSpec.post enc Tryz.prog Tryz.f11 false true false false):=by
 refine returnsInHanded_of_change (C:=Tryz.checked) (show ownKnob Tryz.prog.godebug=none by kernel_rfl) started (by kernel_rfl) Tryz.func11
  (ChangeSpec.witness6 (enc:=enc) (C:=Tryz.checked) false ⟨#[],#[Sh.zeroA Qku,Sh.zeroA (.slice .int),Sh.zeroA .int,Sh.zeroA .int],[]⟩ 8 (by kernel_rfl) (by kernel_rfl) (by kernel_rfl) (by kernel_rfl)) ?_
 intro W base args ds gs before hval0 hW _ _
 have hval:∀(j:Nat) t v,Tryz.f11.params[j]? =some t->args[j]? =some v->Value.okWide Tryz.prog W .any base t v:=hval0
 have hW':=hW
 obtain ⟨p,q,hA0,hV,rfl,_,_⟩:=hW
 obtain ⟨rfl,rfl⟩:=trodVars_none hV
 have hA1:DataW.TrodAll enc Tryz.prog W 0 (fun _=> true) true Tryz.f11.params.toList args.toList ds p:=hA0
 have hlt:∀x∈p,x.block < W.heap.size:=fun x hx=> hW'.lt x (by simpa using hx)
 have hch:QlZ Tryz.prog [Qku,(.slice .int),.int,.int] Tryz.f11.params.toList=true:=by kernel_rfl
 have hrd:(Tryz.f11.params.toList.all fun t=> Tryz.prog.readableRec t && decide (t < Tryz.prog.types.size))=true:=by kernel_rfl
 refine (Qzm (J:=J0) (ss:=[Qku,(.slice .int),.int,.int]) trivial hch hA1 (fun j t v h1 h2=> hval j t v (by simpa using h1) h2) Qrh).mono fun e W' ⟨he,hB⟩=> ?_
 subst he
 have hB2:=QhB (show laidOutB Tryz.prog=true by kernel_rfl) hB _ _ _ _ hrd hA1 hlt
 have hA:DataW.TrodAll enc Tryz.prog W 0 (fun _=> true) true Tryz.f11.params.toList args.toList ds p:=hA1
 rw [Tryz.params11] at hA
 simp only [List.toList_toArray] at hA
 have hA:=hA
 obtain ⟨v0,vs0,d0,ds0,p0,q0,_,rfl,_,h0,_⟩:=CE.trodAll_cons hA
 obtain ⟨v1,vs1,d1,ds1,p1,q1,_,rfl,_,h1,_⟩:=CE.trodAll_cons h0
 obtain ⟨v2,vs2,d2,ds2,p2,q2,_,rfl,_,h2,_⟩:=CE.trodAll_cons h1
 obtain ⟨v3,vs3,d3,ds3,p3,q3,_,rfl,_,h3,_⟩:=CE.trodAll_cons h2
 obtain ⟨_,rfl,_⟩:=CE.trodAll_nil h3
 exact ⟨_,rfl,_,_,_,[],_,[],hW',trodAll_mk1 (shut_bool Tryz.underlying4 _),hB2,rfl,hB.frame _,fun h=> by cases h⟩
theorem shipRations_row:Rows.ShipRationsSaid:=
 OpenClaim.holds_of_wide 11 Tryz.f11 rfl rfl rfl rfl rfl rfl rfl ⟨rfl,rfl,rfl,rfl,rfl⟩ rfl rfl rfl rfl rfl (by kernel_rfl) Tryz.func11 (by kernel_rfl)
  (of_decide_eq_true (by kernel_rfl)) (by unfold Func.isWrapper;first | (rw [if_pos (by decide+kernel)];kernel_rfl) | (rw [if_neg (by decide+kernel)];exact ⟨rfl,rfl⟩))
  (fun os started H enc _=> Qh9 os started H enc)
end Go.Proofs.YtiabgkiccaodmaaGreat
