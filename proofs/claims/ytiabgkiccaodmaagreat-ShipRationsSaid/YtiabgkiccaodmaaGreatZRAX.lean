/- ShipRations: whatever the input, it returns true, and each argument reads as it did. The row, from the walk. -/
import Derived.Test.YtiabgkiccaodmaaGreatZRA14
import Derived.Test.YtiabgkiccaodmaaGreatZRA13
import Derived.JoinedOf
import Derived.Test.YtiabgkiccaodmaaGreatRows
set_option linter.all false
namespace Go.Proofs.YtiabgkiccaodmaaGreat
open Go Go.CE Go.RowKit
def Qqx:List Int->Int->Int->Int
 | [],_,_=> 0
 | g::l,s,d=> (if s+g<=d then 1 else 0)+Qqx l (s+g) d
theorem QrK:∀(l:List Int) (s d:Int),0<=Qqx l s d
 | [],_,_=> Int.le_refl _
 | g::l,s,d=> by have:=QrK l (s+g) d;unfold Qqx;split <;> omega
theorem QwU:∀(l:List Int) (s d:Int),(∀g∈l,1<=g)->d<=s->Qqx l s d=0
 | [],_,_,_,_=> rfl
 | g::l,s,d,h,hd=> by
   have hg:=h g (by simp)
   unfold Qqx
   rw [if_neg (by omega),QwU l (s+g) d (fun x hx=> h x (by simp [hx])) (by omega)];rfl
theorem QrJ:∀(l:List Int) (s d:Int),(∀g∈l,1<=g)->Qqx l s d=Qqx l s (d - 1)+(if Qe5 d l s=true then 1 else 0)
 | [],_,_,_=> rfl
 | g::l,s,d,h=> by
   have hl:∀x∈l,1<=x:=fun x hx=> h x (by simp [hx])
   have ih:=QrJ l (s+g) d hl
   unfold Qqx Qe5
   by_cases e:s+g=d
   ·rw [decide_eq_true e,Bool.true_or,if_pos rfl,if_pos (by omega),if_neg (by omega),QwU l (s+g) d hl (by omega),QwU l (s+g) (d - 1) hl (by omega)];rfl
   ·rw [decide_eq_false e,Bool.false_or,ih]
    by_cases e2:s+g<=d
    ·rw [if_pos e2,if_pos (show s+g<=d - 1 by omega)];omega
    ·rw [if_neg e2,if_neg (show ¬s+g<=d - 1 by omega)];omega
theorem Q04 {days d:Int} (hd:d < days):∀(l l':List Int) (s s':Int),(∀h∈l,∀g∈l',g<=h)->(∀g∈l,1<=g)->(∀g∈l',1<=g)->s'<=s->days<=s'+QeE l'->Qqx l s d<=Qqx l' s' d
 | [],l',_,s',_,_,_,_,_=> QrK l' s' d
 | h::l,l',s,s',hh,h1,h2,hs,hsum=> by
   have hp:=h1 h (by simp)
   by_cases e:s+h<=d
   ·cases l' with
    | nil=> simp only [QeE] at hsum;omega
    | cons g l'=>
      have hg:=hh h (by simp) g (by simp)
      have hgp:=h2 g (by simp)
      have ih:=Q04 hd l l' (s+h) (s'+g) (fun a ha b hb=> hh a (by simp [ha]) b (by simp [hb])) (fun x hx=> h1 x (by simp [hx])) (fun x hx=> h2 x (by simp [hx])) (by omega) (by simp only [QeE] at hsum;omega)
      unfold Qqx
      rw [if_pos e,if_pos (by omega)];omega
   ·have e1:Qqx (h::l) s d=(if s+h<=d then 1 else 0)+Qqx l (s+h) d:=rfl
    rw [e1,if_neg e,QwU l (s+h) d (fun x hx=> h1 x (by simp [hx])) (by omega)]
    have:=QrK l' s' d
    omega
def QeK (b:Int->Int):List Int->Int
 | []=> -1
 | d::l=> if b d < 0 then d else QeK b l
theorem Qpq {use br:Int} {comes:Int->Bool} {b:Int->Int}:∀(cs:List Bool) (d left:Int),(∀j:Nat,j < cs.length->comes (d+j)=cs.getD j default)->(∀e,d<=e->b e=b (e - 1)+(if comes e=true then br else 0) - use)->left=b (d - 1)->QaL use br cs d left=QeK b (upI d (d+cs.length))
 | [],d,left,_,_,_=> by rw [Qh1 (by simp)];rfl
 | c::cs,d,left,h,hb,hl=> by
   have hc:comes d=c:=by have:=h 0 (by simp);simpa using this
   have h1:=hb d (Int.le_refl _)
   rw [Qem (by simp;omega),show d+((c::cs).length:Int)=(d+1)+cs.length by simp;omega]
   have f1:QaL use br (c::cs) d left=bif decide ((left+bif c then br else 0) < use) then d else QaL use br cs (d+1) (Qio use (left+bif c then br else 0)):=rfl
   have eL:(if comes d=true then br else 0)=bif c then br else 0:=by rw [hc];cases c <;> rfl
   rw [f1]
   rw [eL,<-hl] at h1
   show _=if b d < 0 then d else QeK b (upI (d+1) ((d+1)+cs.length))
   by_cases e:(left+bif c then br else 0) < use
   ·rw [decide_eq_true e,cond_true,if_pos (by omega)]
   ·rw [decide_eq_false e,cond_false,if_neg (by omega)]
    refine Qpq cs (d+1) _ (fun j hj=> ?_) (fun x hx=> hb x (by omega)) ?_
    ·have:=h (j+1) (by simp;omega)
     rw [show d+((j+1:Nat):Int)=d+1+(j:Int) by omega] at this
     rw [this];simp
    ·rw [show d+1 - 1=d by omega,h1]
     unfold Qio;split <;> omega
theorem Ql3 {b b':Int->Int}:∀l:List Int,(∀d∈l,b d<=b' d)->(∀d∈l,0<=d)->l.Pairwise (· < ·)->0<=QeK b' l->0<=QeK b l/\QeK b l<=QeK b' l
 | [],_,_,_,h=> by simp [QeK] at h
 | d::l,h,h0,hp,hf=> by
   have h1:=h d (by simp)
   have h2:=h0 d (by simp)
   rw [List.pairwise_cons] at hp
   unfold QeK at hf ⊢
   by_cases e:b' d < 0
   ·rw [if_pos (by omega),if_pos e];omega
   ·rw [if_neg e] at hf ⊢
    by_cases e2:b d < 0
    ·rw [if_pos e2]
     refine ⟨h2, ?_⟩
     have:∀m:List Int,(∀x∈m,d < x)->0<=QeK b' m->d<=QeK b' m:=by
      intro m
      induction m with
      | nil=> intro _ h;simp [QeK] at h
      | cons x m ih=>
        intro hm h
        unfold QeK at h ⊢
        have:=hm x (by simp)
        split
        ·omega
        ·rename_i hn
         rw [if_neg hn] at h
         exact ih (fun y hy=> hm y (by simp [hy])) h
     exact this l hp.1 hf
    ·rw [if_neg e2]
     exact Ql3 l (fun x hx=> h x (by simp [hx])) (fun x hx=> h0 x (by simp [hx])) hp.2 hf
theorem Qs3:∀(n:Nat) (a:Int),(upI a (a+n)).Pairwise (· < ·)
 | 0,a=> by rw [Qh1 (by simp)];exact List.Pairwise.nil
 | n+1,a=> by
   rw [Qem (by omega),show a+((n+1:Nat):Int)=(a+1)+n by omega]
   exact List.Pairwise.cons (fun x hx=> by have:=Qge hx;omega) (Qs3 n (a+1))
def Q2G (stock use br:Int) (gaps:List Int) (d:Int):Int:=stock+br * Qqx gaps 0 d - use * (d+1)
theorem QmS {stock use br days:Int} {gaps:List Int} (hg:∀g∈gaps,1<=g) (hd:0<=days):QaL use br (Qb2 days gaps) 0 stock=QeK (Q2G stock use br gaps) (upI 0 days):=by
 have hlen:(Qb2 days gaps).length=days.toNat:=by unfold Qb2;rw [QgO,List.length_replicate]
 have h:=Qpq (use:=use) (br:=br) (comes:=fun d=> Qe5 d gaps 0) (b:=Q2G stock use br gaps) (Qb2 days gaps) 0 stock (fun j hj=> by
  have:=QmM (days:=days) (d:=(j:Int)) (gaps:=gaps) (fun g hx=> by have:=hg g hx;omega) (by omega) (by omega)
  rw [Int.zero_add,<-this,Int.toNat_natCast]) (fun e he=> by
   unfold Q2G
   rw [QrJ gaps 0 e hg,Int.mul_add]
   have e2:use * (e - 1+1)=use * (e+1) - use:=by rw [show e - 1+1=e by omega,Int.mul_add];omega
   by_cases hc:Qe5 e gaps 0=true
   ·rw [if_pos hc,if_pos hc];omega
   ·rw [if_neg hc,if_neg hc];omega) (by unfold Q2G;rw [QwU gaps 0 (0 - 1) hg (by omega)];simp)
 rw [h,hlen,show (0:Int)+(days.toNat:Int)=days by omega]
theorem Qz2 {stock use br use' br' days:Int} {gaps gaps':List Int} (hd:0<=days) (hu:0<=use'/\use'<=use) (hb:0<=br/\br<=br') (hg:∀h∈gaps,∀g∈gaps',g<=h) (h1:∀g∈gaps,1<=g) (h2:∀g∈gaps',1<=g) (hs:days<=QeE gaps'):
 0<=QaL use' br' (Qb2 days gaps') 0 stock->0<=QaL use br (Qb2 days gaps) 0 stock/\QaL use br (Qb2 days gaps) 0 stock<=QaL use' br' (Qb2 days gaps') 0 stock:=by
 rw [QmS h1 hd,QmS h2 hd]
 have hp:=Qs3 days.toNat 0
 rw [show (0:Int)+(days.toNat:Int)=days by omega] at hp
 refine Ql3 _ (fun d hx=> ?_) (fun d hx=> (Qge hx).1) hp
 have hd2:=Qge hx
 have c:=Q04 hd2.2 gaps gaps' 0 0 hg h1 h2 (Int.le_refl _) (by omega)
 have m1:br * Qqx gaps 0 d<=br' * Qqx gaps' 0 d:=Int.mul_le_mul hb.2 c (QrK _ _ _) (by omega)
 have m2:use' * (d+1)<=use * (d+1):=Int.mul_le_mul_of_nonneg_right hu.2 (by omega)
 unfold Q2G;omega
theorem QoT {α:Type} {f g:α->Int}:∀l:List α,(∀x∈l,f x<=g x)->QeE (l.map f)<=QeE (l.map g)
 | [],_=> Int.le_refl _
 | x::l,h=> by
   have h1:=h x (by simp)
   have h2:=QoT l fun y hy=> h y (by simp [hy])
   simp only [List.map_cons,QeE];omega
theorem QpH {s:Qaa} {load k:Int} {g g':List Row} (hx:Qcf load<=s.lots.length) (h:∀x:Int,0<=x->x < s.lots.length->(g.getD x.toNat default).getD k.toNat default<=(g'.getD x.toNat default).getD k.toNat default):Qct load g k<=Qct load g' k:=by
 unfold Qct Qax
 rw [List.map_map,List.map_map]
 refine QoT _ fun x hm=> ?_
 have:=Qge (List.mem_filter.1 hm).1
 exact h x this.1 (by omega)
theorem QwM {s:Qaa} {days:Int} {t:Qat} (hs:Qa8 s=true) (ht:QcC s days t=true):
 (∀k:Int,0<=k->k < s.stock.length->(s.use.getD k.toNat default).lo<=t.uses.getD k.toNat default/\t.uses.getD k.toNat default<=(s.use.getD k.toNat default).hi)/\(∀g∈t.gaps,s.glo<=g/\g<=s.ghi)/\days<=QeE t.gaps/\
 ∀x k:Int,0<=x->x < s.lots.length->0<=k->k < s.stock.length->((s.lots.getD x.toNat default).goods.getD k.toNat default).lo<=(t.goods.getD x.toNat default).getD k.toNat default/\(t.goods.getD x.toNat default).getD k.toNat default<=((s.lots.getD x.toNat default).goods.getD k.toNat default).hi:=by
 simp only [QcC,QlW,QmD,Bool.and_eq_true,decide_eq_true_iff,List.all_eq_true,QaW] at ht
 have h1:=Qbt ht.1
 have hst:=Qav hs
 refine ⟨fun k k0 k1=> h1.2 k k0 (by omega),ht.2.1.2.1,ht.2.1.2.2,fun x k x0 x1 k0 k1=> ?_⟩
 have h2:=Qbt (QqY ht.2.2.2 x0 x1)
 have h3:=QcA ((Qa2 hs).2 _ (QaB (l:=s.lots) x0 x1))
 exact h2.2 k k0 (by omega)
theorem Qla {f g:Span->Int} {s:Qaa} {days k:Int} (hs:Qa8 s=true) (_:0<=k) (k1:k < s.stock.length):(Qae f g s days).uses.getD k.toNat default=g (s.use.getD k.toNat default):=by
 have hst:=Qav hs
 exact getD_map (by omega)
theorem QoF {f g:Span->Int} {s:Qaa} {days x k:Int} (hs:Qa8 s=true) (x0:0<=x) (x1:x < s.lots.length) (k0:0<=k) (k1:k < s.stock.length):((Qae f g s days).goods.getD x.toNat default).getD k.toNat default=f ((s.lots.getD x.toNat default).goods.getD k.toNat default):=by
 have h3:=QcA ((Qa2 hs).2 _ (QaB (l:=s.lots) x0 x1))
 have e:(s.lots.map fun (l:Qad)=> (l.goods.map f:Row)).getD x.toNat default=(s.lots.getD x.toNat default).goods.map f:=getD_map (f:=fun (l:Qad)=> (l.goods.map f:Row)) (by omega)
 show ((s.lots.map fun (l:Qad)=> (l.goods.map f:Row)).getD x.toNat default).getD k.toNat default=_
 rw [e]
 exact getD_map (by omega)
theorem QpW {f g:Span->Int} {s:Qaa} {days x:Int} (h:x∈(Qae f g s days).gaps):x=g ⟨s.glo,s.ghi⟩:=(List.mem_replicate.1 h).2
theorem Qyx {s:Qaa} {load days k:Int} {t:Qat} (hs:Qa8 s=true) (ht:QcC s days t=true) (hd:0<=days/\days<=300) (h0:0<=load) (h1:load < 64) (hx:Qcf load<=s.lots.length) (k0:0<=k) (k1:k < s.stock.length):gdB (Qyi s load days t k):=
 Q4a hs ht hd h0 h1 hx _ (List.mem_map.2 ⟨k,QqG.2 ⟨k0,k1⟩,rfl⟩)
end Go.Proofs.YtiabgkiccaodmaaGreat

namespace Go.Proofs.YtiabgkiccaodmaaGreat
open Go Go.CE Go.RowKit
noncomputable section
set_option maxRecDepth 100000
def Qf2 (p:Int->Bool) (q:Int->Int) (a b u:Int):Int×Int:=
 if h:0<=a/\a < b then (if p ((a+b).tdiv 2)=true then Qf2 p q a ((a+b).tdiv 2) (q ((a+b).tdiv 2)) else Qf2 p q ((a+b).tdiv 2+1) b (q ((a+b).tdiv 2))) else (a,u)
termination_by (b - a).toNat
decreasing_by all_goals (have:=Int.tdiv_eq_ediv_of_nonneg (a:=a+b) (b:=2) (by omega);omega)
theorem Qmt {a b:Int} (h0:0<=a) (h1:a < b):a<=(a+b).tdiv 2/\(a+b).tdiv 2 < b:=by
 have:=Int.tdiv_eq_ediv_of_nonneg (a:=a+b) (b:=2) (by omega);omega
theorem QnZ {p:Int->Bool} {q:Int->Int} {a b u:Int} (h:a=b):Qf2 p q a b u=(a,u):=by
 rw [Qf2,dif_neg (by omega)]
theorem QnG {p:Int->Bool} {q:Int->Int} {a b u:Int} (h0:0<=a) (h1:a < b) (hp:p ((a+b).tdiv 2)=true):Qf2 p q a b u=Qf2 p q a ((a+b).tdiv 2) (q ((a+b).tdiv 2)):=by
 rw [Qf2,dif_pos ⟨h0,h1⟩,if_pos hp]
theorem Qrq {p:Int->Bool} {q:Int->Int} {a b u:Int} (h0:0<=a) (h1:a < b) (hp:p ((a+b).tdiv 2)=false):Qf2 p q a b u=Qf2 p q ((a+b).tdiv 2+1) b (q ((a+b).tdiv 2)):=by
 rw [Qf2,dif_pos ⟨h0,h1⟩,if_neg (by rw [hp];decide)]
theorem QxZ {p:Int->Bool} {q:Int->Int}:∀(n:Nat) (a b u:Int),(b - a).toNat=n->0<=a->a<=b->(∀r r',a<=r->r<=r'->r' < b->p r=true->p r'=true)->
 a<=(Qf2 p q a b u).1/\(Qf2 p q a b u).1<=b/\(∀r,a<=r->r < (Qf2 p q a b u).1->p r=false)/\(∀r,(Qf2 p q a b u).1<=r->r < b->p r=true):=by
 intro n
 induction n using Nat.strongRecOn with
 | _ n ih=>
   intro a b u hn h0 h1 hm
   by_cases e:a=b
   ·rw [QnZ e];exact ⟨Int.le_refl _,h1,fun r h2 h3=> by omega,fun r h2 h3=> by omega⟩
   ·have hi:=Qmt h0 (show a < b by omega)
    cases hp:p ((a+b).tdiv 2) with
    | true=>
      rw [QnG h0 (by omega) hp]
      have:=ih _ (by omega) a ((a+b).tdiv 2) (q ((a+b).tdiv 2)) rfl h0 hi.1 (fun r r' g1 g2 g3=> hm r r' g1 g2 (by omega))
      refine ⟨this.1,by omega,this.2.2.1,fun r h2 h3=> ?_⟩
      by_cases e2:r < (a+b).tdiv 2
      ·exact this.2.2.2 r h2 e2
      ·exact hm _ r hi.1 (by omega) h3 hp
    | false=>
      rw [Qrq h0 (by omega) hp]
      have:=ih _ (by omega) ((a+b).tdiv 2+1) b (q ((a+b).tdiv 2)) rfl (by omega) (by omega) (fun r r' g1 g2 g3=> hm r r' (by omega) g2 g3)
      refine ⟨by omega,this.2.1,fun r h2 h3=> ?_,this.2.2.2⟩
      by_cases e2:(a+b).tdiv 2 < r
      ·exact this.2.2.1 r (by omega) h3
      ·cases hr:p r with
       | false=> rfl
       | true=> have:=hm r _ h2 (by omega) hi.2 hr;rw [hp] at this;cases this
theorem Qw0 {p:Int->Bool} {q:Int->Int}:∀(n:Nat) (a b u:Int),(b - a).toNat=n->0<=a->a<=b->a<=(Qf2 p q a b u).1/\(Qf2 p q a b u).1<=b:=by
 intro n
 induction n using Nat.strongRecOn with
 | _ n ih=>
   intro a b u hn h0 h1
   by_cases e:a=b
   ·rw [QnZ e];exact ⟨Int.le_refl _,h1⟩
   ·have hi:=Qmt h0 (show a < b by omega)
    cases hp:p ((a+b).tdiv 2) with
    | true=> rw [QnG h0 (by omega) hp];have:=ih _ (by omega) a ((a+b).tdiv 2) (q ((a+b).tdiv 2)) rfl h0 hi.1;omega
    | false=> rw [Qrq h0 (by omega) hp];have:=ih _ (by omega) ((a+b).tdiv 2+1) b (q ((a+b).tdiv 2)) rfl (by omega) (by omega);omega
def Qba (u r:Int):Int:=(u * r+1000 - 1).tdiv 1000
def gdR (g:Gd) (r:Int):Gd:=⟨g.stock,Qba g.use r,g.br,g.ships⟩
def QiP (g:Gd) (r:Int):Bool:= !decide (Q3d (gdR g r)= -1)
theorem QqZ {g:Gd} {r:Int}:QiP g r= !decide (QaL (Qba g.use r) g.br g.ships 0 g.stock= -1):=rfl
theorem QoY (a u b:Int) (cs:List Bool) (hg:gdB ⟨a,u,b,cs⟩):Qas Tryz.prog J0 133 #[.agg #[.int .i64 a,.int .i64 u,.int .i64 b,slB cs]] (.bool (decide (QaL u b cs 0 a= -1))):=QzE ⟨a,u,b,cs⟩ hg
theorem Qmy {u r:Int} (hu:0<=u/\u<=1000) (hr:0<=r/\r<=1001):0<=u * r/\u * r<=1001000/\0<=Qba u r/\Qba u r<=1002:=by
 have h1:0<=u * r:=Int.mul_nonneg hu.1 hr.1
 have h2:u * r<=1000 * 1001:=Int.mul_le_mul hu.2 hr.2 hr.1 (by decide)
 have h3:Qba u r=(u * r+1000 - 1) / 1000:=Int.tdiv_eq_ediv_of_nonneg (by omega)
 omega
theorem Q3k {a b:Int} (h0:0<=a) (h1:a<=b):a<=(a+b).tdiv 2/\(a+b).tdiv 2<=b:=by
 have:=Int.tdiv_eq_ediv_of_nonneg (a:=a+b) (b:=2) (by omega);omega
theorem Q2I {g:Gd} {r:Int} (hg:gdB g) (hu:0<=g.use/\g.use<=1000) (hr:0<=r/\r<=1001):gdB ⟨g.stock,(g.use * r+1000 - 1).tdiv 1000,g.br,g.ships⟩:=by
 have h:=Qmy hu hr
 have e:Qba g.use r=(g.use * r+1000 - 1).tdiv 1000:=rfl
 unfold gdB at hg ⊢
 simp only
 omega
theorem Qvt {g:Gd} {a b u:Int} (h0:0<=a) (h1:a < b) (h:decide (QaL ((g.use * (a+b).tdiv 2+1000 - 1).tdiv 1000) g.br g.ships 0 g.stock= -1)=false):Qf2 (QiP g) (Qba g.use) a b u=Qf2 (QiP g) (Qba g.use) a ((a+b).tdiv 2) ((g.use * (a+b).tdiv 2+1000 - 1).tdiv 1000):=
 QnG h0 h1 (by rw [QqZ,Qba,h];rfl)
theorem Q08 {g:Gd} {a b u:Int} (h0:0<=a) (h1:a < b) (h:decide (QaL ((g.use * (a+b).tdiv 2+1000 - 1).tdiv 1000) g.br g.ships 0 g.stock= -1)=true):Qf2 (QiP g) (Qba g.use) a b u=Qf2 (QiP g) (Qba g.use) ((a+b).tdiv 2+1) b ((g.use * (a+b).tdiv 2+1000 - 1).tdiv 1000):=
 Qrq h0 h1 (by rw [QqZ,Qba,h];rfl)
abbrev QwF (s:Qaa) (load days kind:Int):Gd:=(QaD s load days (Qae Span.lo Span.hi s days)).getD kind.toNat default
theorem QiE {s:Qaa} {load days kind:Int} (hs:Qa8 s=true) (hd:0<=days/\days<=300) (h0:0<=load) (h1:load < 64) (hx:Qcf load<=s.lots.length) (k0:0<=kind) (k1:kind < s.stock.length):
 gdB (QwF s load days kind)/\0<=(QwF s load days kind).use/\(QwF s load days kind).use<=1000:=by
 have hE:=Qcj QcZ Qda hs hd
 have e:=QwG (s:=s) (load:=load) (days:=days) (t:=Qae Span.lo Span.hi s days) k0 k1
 have hg:=Qyx (k:=kind) hs hE hd h0 h1 hx k0 k1
 have ue:=Qla (f:=Span.lo) (g:=Span.hi) (days:=days) hs k0 k1
 have hst:=Qav hs
 have hu:=hst.2.2.2 _ (QaB (l:=s.use) (i:=kind) k0 (by omega))
 refine ⟨by rw [show QwF s load days kind=_ from e];exact hg, ?_⟩
 have eu:(QwF s load days kind).use=(s.use.getD kind.toNat default).hi:=by rw [show QwF s load days kind=_ from e];exact ue
 rw [eu];omega
def QnJ (s:Qaa) (load:List Int) (days kind:Int):Int:=(Qf2 (QiP (QwF s (QcM load 0) days kind)) (Qba (QwF s (QcM load 0) days kind).use) 0 1001 (QwF s (QcM load 0) days kind).use).1 - 1
def QbU (s:Qaa) (load days kind:Int):Qap:=[(4,Obj.cells #[.int .i64 (Gd.use (List.getD (QaD s load days (Qae Span.lo Span.hi s days)) kind.toNat default))] 3),(3,Obj.cells #[.int .i64 (Gd.stock (List.getD (QaD s load days (Qae Span.lo Span.hi s days)) kind.toNat default)),.int .i64 (Gd.use (List.getD (QaD s load days (Qae Span.lo Span.hi s days)) kind.toNat default)),.int .i64 (Gd.br (List.getD (QaD s load days (Qae Span.lo Span.hi s days)) kind.toNat default)),Qa0 2 (slT (List.length (Gd.ships (List.getD (QaD s load days (Qae Span.lo Span.hi s days)) kind.toNat default))) (Qac QdL (Gd.ships (List.getD (QaD s load days (Qae Span.lo Span.hi s days)) kind.toNat default))))] 129),(2,Obj.coro none),(1,Obj.cells #[Qa0 0 (slT s.stock.length (Qac Qar s.stock)),Qa0 0 (slT s.use.length (Qac Qa6 s.use)),.int .i64 s.glo,.int .i64 s.ghi,Qa0 0 (slT s.lots.length (Qac Qam s.lots)),.int .i64 s.hold,.int .i64 load,.int .i64 days] 122),(0,Obj.coro none)]
def Qeu (s:Qaa) (load days kind:Int):CF:=⟨130,ofList 26 [.int .i64 1000,Value.func (Fn.func 131) #[] #[pA 4 0,pA 3 0]],[Item.code (Qal Tryz.prog 130)],[],.run,none⟩
def QbY (s:Qaa) (load days kind:Int) (a b u:Int):List Value:=[Value.func (Fn.func 131) #[] #[pA 4 0,pA 3 0],.int .i64 a,.int .i64 b]
def Qcc (s:Qaa) (load days kind:Int) (a b u:Int):List Obj:=[.cells #[.int .i64 (List.getD (QaD s load days (Qae Span.lo Span.hi s days)) kind.toNat default).stock,.int .i64 u,.int .i64 (List.getD (QaD s load days (Qae Span.lo Span.hi s days)) kind.toNat default).br,Qa0 2 (slB (List.getD (QaD s load days (Qae Span.lo Span.hi s days)) kind.toNat default).ships)] 129 (0,0)]
def Qbk (s:Qaa) (load days kind:Int) (a b u:Int):List Obj:=[]
def Qcd:List Item:=([.code [1,0,1,1,0,0,0],.inLoop [1,0,1,1,0,0,0],.inBlock 0,.code [1,0,1,1,1],.inScope [1,0]]).map (it (Qal Tryz.prog 130))
def QgK (s:Qaa) (load days kind:Int) (a b:Int):Array Value:=#[.int .i64 (Gd.stock (List.getD (QaD s load days (Qae Span.lo Span.hi s days)) kind.toNat default)),.int .i64 (Int.tdiv (Gd.use (List.getD (QaD s load days (Qae Span.lo Span.hi s days)) kind.toNat default) * Int.tdiv (a+b) 2+1000 - 1) 1000),.int .i64 (Gd.br (List.getD (QaD s load days (Qae Span.lo Span.hi s days)) kind.toNat default)),Qa0 2 (slT (List.length (Gd.ships (List.getD (QaD s load days (Qae Span.lo Span.hi s days)) kind.toNat default))) (Qac QdL (Gd.ships (List.getD (QaD s load days (Qae Span.lo Span.hi s days)) kind.toNat default))))]
def Qi9 (B:Lo) (s:Qaa) (load days kind:Int) (a b u:Int) (dJ0:Nat->Value):List Prop:=[IntKind.wrap .i64 (Int.tdiv (a+b) 2)=Int.tdiv (a+b) 2,wq (a+b)=a+b]++([]:List Prop)
def Qmv (s:Qaa) (load days kind:Int) (a b u:Int) (dJ0:Nat->Value):Qay:=[(2,hvI (a+b)),(3,hvI (Int.tdiv (a+b) 2))]
theorem QtT (B:Lo) (s:Qaa) (load days kind:Int) (a b u:Int) (dJ0:Nat->Value):CE.finK 5 (Qak Tryz.prog (Qa1 Tryz.prog) J0 B 12 5 (Qcw (none) 130 26 (([1,5,6]:List Nat).zip (QbY s load days kind a b u)) dJ0 Qcd) (QbG (QbU s load days kind) 5 (([3]:List Nat).zip (Qcc s load days kind a b u)) (Qbk s load days kind a b u)) (5+1+(Qbk s load days kind a b u).length)
 (Qmv s load days kind a b u dJ0++[(7,hvT)]) 0 [] []) [(3,KS.auto)] [] []=some (OO.ret (.int .i64 a),[(3,Obj.cells #[.int .i64 (Gd.stock (List.getD (QaD s load days (Qae Span.lo Span.hi s days)) kind.toNat default)),.int .i64 u,.int .i64 (Gd.br (List.getD (QaD s load days (Qae Span.lo Span.hi s days)) kind.toNat default)),Qa0 2 (slT (List.length (Gd.ships (List.getD (QaD s load days (Qae Span.lo Span.hi s days)) kind.toNat default))) (Qac QdL (Gd.ships (List.getD (QaD s load days (Qae Span.lo Span.hi s days)) kind.toNat default))))] 129)],[],
 [eqq a b=true]++Qi9 B s load days kind a b u dJ0):=by kernel_rfl
def Qje (B:Lo) (s:Qaa) (load days kind:Int) (a b u:Int) (dJ0:Nat->Value):List Prop:=[eqq a b=false]++Qi9 B s load days kind a b u dJ0
def Qm1 (s:Qaa) (load days kind:Int) (a b u:Int) (dJ0:Nat->Value):Qay:=Qmv s load days kind a b u dJ0++[(7,hvF)]
def Qco (s:Qaa) (load days kind:Int) (a b u:Int) (dJ0:Nat->Value):Qap:=[(3,Obj.cells #[.int .i64 (Gd.stock (List.getD (QaD s load days (Qae Span.lo Span.hi s days)) kind.toNat default)),.int .i64 u,.int .i64 (Gd.br (List.getD (QaD s load days (Qae Span.lo Span.hi s days)) kind.toNat default)),Qa0 2 (slT (List.length (Gd.ships (List.getD (QaD s load days (Qae Span.lo Span.hi s days)) kind.toNat default))) (Qac QdL (Gd.ships (List.getD (QaD s load days (Qae Span.lo Span.hi s days)) kind.toNat default))))] 129),(5,Obj.coro none),(4,Obj.cells #[.int .i64 (Gd.use (List.getD (QaD s load days (Qae Span.lo Span.hi s days)) kind.toNat default))] 3),(3,Obj.cells #[.int .i64 (Gd.stock (List.getD (QaD s load days (Qae Span.lo Span.hi s days)) kind.toNat default)),.int .i64 (Gd.use (List.getD (QaD s load days (Qae Span.lo Span.hi s days)) kind.toNat default)),.int .i64 (Gd.br (List.getD (QaD s load days (Qae Span.lo Span.hi s days)) kind.toNat default)),Qa0 2 (slT (List.length (Gd.ships (List.getD (QaD s load days (Qae Span.lo Span.hi s days)) kind.toNat default))) (Qac QdL (Gd.ships (List.getD (QaD s load days (Qae Span.lo Span.hi s days)) kind.toNat default))))] 129),(2,Obj.coro none),(1,Obj.cells #[Qa0 0 (slT s.stock.length (Qac Qar s.stock)),Qa0 0 (slT s.use.length (Qac Qa6 s.use)),.int .i64 s.glo,.int .i64 s.ghi,Qa0 0 (slT s.lots.length (Qac Qam s.lots)),.int .i64 s.hold,.int .i64 load,.int .i64 days] 122),(0,Obj.coro none)]
def Qdo (s:Qaa) (load days kind:Int) (a b u:Int) (dJ0:Nat->Value):CF:=⟨131,ofList 13 [.int .i64 (Int.tdiv (a+b) 2),pA 4 0,pA 3 0],[Item.code (Qal Tryz.prog 131)],[],.run,none⟩
theorem Qui (B:Lo) (s:Qaa) (load days kind:Int) (a b u:Int) (dJ0:Nat->Value):CE.finK 6 (Qak Tryz.prog (Qa1 Tryz.prog) J0 B 8 6 (Qdo s load days kind a b u dJ0) (Qco s load days kind a b u dJ0) 6
 [(3,hvI (Gd.use (List.getD (QaD s load days (Qae Span.lo Span.hi s days)) kind.toNat default) * Int.tdiv (a+b) 2)),(4,Qaj.pure (.int .i64 (Int.tdiv (Gd.use (List.getD (QaD s load days (Qae Span.lo Span.hi s days)) kind.toNat default) * Int.tdiv (a+b) 2+1000 - 1) 1000)) []),(8,Qaj.pure (.bool true) [])] 0 [] []) [(3,KS.auto)] [] []=some (OO.ret (.bool false),[(3,Obj.cells #[.int .i64 (Gd.stock (List.getD (QaD s load days (Qae Span.lo Span.hi s days)) kind.toNat default)),.int .i64 (Int.tdiv (Gd.use (List.getD (QaD s load days (Qae Span.lo Span.hi s days)) kind.toNat default) * Int.tdiv (a+b) 2+1000 - 1) 1000),.int .i64 (Gd.br (List.getD (QaD s load days (Qae Span.lo Span.hi s days)) kind.toNat default)),Qa0 2 (slT (List.length (Gd.ships (List.getD (QaD s load days (Qae Span.lo Span.hi s days)) kind.toNat default))) (Qac QdL (Gd.ships (List.getD (QaD s load days (Qae Span.lo Span.hi s days)) kind.toNat default))))] 129)],[],
 [Qa7 []/\Qas Tryz.prog J0 133 #[.agg #[.int .i64 (Gd.stock (List.getD (QaD s load days (Qae Span.lo Span.hi s days)) kind.toNat default)),.int .i64 (Int.tdiv (Gd.use (List.getD (QaD s load days (Qae Span.lo Span.hi s days)) kind.toNat default) * Int.tdiv (a+b) 2+1000 - 1) 1000),.int .i64 (Gd.br (List.getD (QaD s load days (Qae Span.lo Span.hi s days)) kind.toNat default)),slT (List.length (Gd.ships (List.getD (QaD s load days (Qae Span.lo Span.hi s days)) kind.toNat default))) (Qac QdL (Gd.ships (List.getD (QaD s load days (Qae Span.lo Span.hi s days)) kind.toNat default)))]] (.bool true),Qa7 []/\Qas Tryz.prog J0 132 #[.int .i64 (Gd.use (List.getD (QaD s load days (Qae Span.lo Span.hi s days)) kind.toNat default) * Int.tdiv (a+b) 2),.int .i64 1000] (.int .i64 (Int.tdiv (Gd.use (List.getD (QaD s load days (Qae Span.lo Span.hi s days)) kind.toNat default) * Int.tdiv (a+b) 2+1000 - 1) 1000)),wq (Gd.use (List.getD (QaD s load days (Qae Span.lo Span.hi s days)) kind.toNat default) * Int.tdiv (a+b) 2)=Gd.use (List.getD (QaD s load days (Qae Span.lo Span.hi s days)) kind.toNat default) * Int.tdiv (a+b) 2]):=by kernel_rfl
theorem QsL (B:Lo) (s:Qaa) (load days kind:Int) (a b u:Int) (dJ0:Nat->Value):CE.landA 5 (Qak Tryz.prog (Qa1 Tryz.prog) J0 B 14 5 (Qcw (none) 130 26 (([1,5,6]:List Nat).zip (QbY s load days kind a b u)) dJ0 Qcd) (QbG (QbU s load days kind) 5 (([3]:List Nat).zip (Qcc s load days kind a b u)) (Qbk s load days kind a b u)) (5+1+(Qbk s load days kind a b u).length)
 (Qm1 s load days kind a b u dJ0++[(11,Qaj.call (List.range 6) (OO.ret (.bool false)) ([(3,Obj.cells (QgK s load days kind a b) 129)]++(6,Qbu)::QaK 7 []) 7 [3]),(14,hvI (Int.tdiv (a+b) 2+1))]) 0 [] []) [1,5,6] [(3,KS.auto)] [] []=some ⟨130,26,Qcd,[],.run,none,QbY s load days kind (Int.tdiv (a+b) 2+1) (b) (Int.tdiv (Gd.use (List.getD (QaD s load days (Qae Span.lo Span.hi s days)) kind.toNat default) * Int.tdiv (a+b) 2+1000 - 1) 1000),([3]:List Nat).zip (Qcc s load days kind (Int.tdiv (a+b) 2+1) (b) (Int.tdiv (Gd.use (List.getD (QaD s load days (Qae Span.lo Span.hi s days)) kind.toNat default) * Int.tdiv (a+b) 2+1000 - 1) 1000)),Qbk s load days kind (Int.tdiv (a+b) 2+1) (b) (Int.tdiv (Gd.use (List.getD (QaD s load days (Qae Span.lo Span.hi s days)) kind.toNat default) * Int.tdiv (a+b) 2+1000 - 1) 1000),
 [wq (Int.tdiv (a+b) 2+1)=Int.tdiv (a+b) 2+1,FJ Tryz.prog B (Qdo s load days kind a b u dJ0) (Qco s load days kind a b u dJ0) 6 (OO.ret (.bool false)) (([(3,Obj.cells (QgK s load days kind a b) 129)]++((6,Qbu)::QaK (6+1) []))++Qco s load days kind a b u dJ0) 7 (List.range 6) [3]]++Qje B s load days kind a b u dJ0⟩:=by kernel_rfl
theorem Quw (B:Lo) (s:Qaa) (load days kind:Int) (a b u:Int) (dJ0:Nat->Value):CE.finK 6 (Qak Tryz.prog (Qa1 Tryz.prog) J0 B 8 6 (Qdo s load days kind a b u dJ0) (Qco s load days kind a b u dJ0) 6
 [(3,hvI (Gd.use (List.getD (QaD s load days (Qae Span.lo Span.hi s days)) kind.toNat default) * Int.tdiv (a+b) 2)),(4,Qaj.pure (.int .i64 (Int.tdiv (Gd.use (List.getD (QaD s load days (Qae Span.lo Span.hi s days)) kind.toNat default) * Int.tdiv (a+b) 2+1000 - 1) 1000)) []),(8,Qaj.pure (.bool false) [])] 0 [] []) [(3,KS.auto)] [] []=some (OO.ret (.bool true),[(3,Obj.cells #[.int .i64 (Gd.stock (List.getD (QaD s load days (Qae Span.lo Span.hi s days)) kind.toNat default)),.int .i64 (Int.tdiv (Gd.use (List.getD (QaD s load days (Qae Span.lo Span.hi s days)) kind.toNat default) * Int.tdiv (a+b) 2+1000 - 1) 1000),.int .i64 (Gd.br (List.getD (QaD s load days (Qae Span.lo Span.hi s days)) kind.toNat default)),Qa0 2 (slT (List.length (Gd.ships (List.getD (QaD s load days (Qae Span.lo Span.hi s days)) kind.toNat default))) (Qac QdL (Gd.ships (List.getD (QaD s load days (Qae Span.lo Span.hi s days)) kind.toNat default))))] 129)],[],
 [Qa7 []/\Qas Tryz.prog J0 133 #[.agg #[.int .i64 (Gd.stock (List.getD (QaD s load days (Qae Span.lo Span.hi s days)) kind.toNat default)),.int .i64 (Int.tdiv (Gd.use (List.getD (QaD s load days (Qae Span.lo Span.hi s days)) kind.toNat default) * Int.tdiv (a+b) 2+1000 - 1) 1000),.int .i64 (Gd.br (List.getD (QaD s load days (Qae Span.lo Span.hi s days)) kind.toNat default)),slT (List.length (Gd.ships (List.getD (QaD s load days (Qae Span.lo Span.hi s days)) kind.toNat default))) (Qac QdL (Gd.ships (List.getD (QaD s load days (Qae Span.lo Span.hi s days)) kind.toNat default)))]] (.bool false),Qa7 []/\Qas Tryz.prog J0 132 #[.int .i64 (Gd.use (List.getD (QaD s load days (Qae Span.lo Span.hi s days)) kind.toNat default) * Int.tdiv (a+b) 2),.int .i64 1000] (.int .i64 (Int.tdiv (Gd.use (List.getD (QaD s load days (Qae Span.lo Span.hi s days)) kind.toNat default) * Int.tdiv (a+b) 2+1000 - 1) 1000)),wq (Gd.use (List.getD (QaD s load days (Qae Span.lo Span.hi s days)) kind.toNat default) * Int.tdiv (a+b) 2)=Gd.use (List.getD (QaD s load days (Qae Span.lo Span.hi s days)) kind.toNat default) * Int.tdiv (a+b) 2]):=by kernel_rfl
theorem Qtk (B:Lo) (s:Qaa) (load days kind:Int) (a b u:Int) (dJ0:Nat->Value):CE.landA 5 (Qak Tryz.prog (Qa1 Tryz.prog) J0 B 14 5 (Qcw (none) 130 26 (([1,5,6]:List Nat).zip (QbY s load days kind a b u)) dJ0 Qcd) (QbG (QbU s load days kind) 5 (([3]:List Nat).zip (Qcc s load days kind a b u)) (Qbk s load days kind a b u)) (5+1+(Qbk s load days kind a b u).length)
 (Qm1 s load days kind a b u dJ0++[(11,Qaj.call (List.range 6) (OO.ret (.bool true)) ([(3,Obj.cells (QgK s load days kind a b) 129)]++(6,Qbu)::QaK 7 []) 7 [3])]) 0 [] []) [1,5,6] [(3,KS.auto)] [] []=some ⟨130,26,Qcd,[],.run,none,QbY s load days kind (a) (Int.tdiv (a+b) 2) (Int.tdiv (Gd.use (List.getD (QaD s load days (Qae Span.lo Span.hi s days)) kind.toNat default) * Int.tdiv (a+b) 2+1000 - 1) 1000),([3]:List Nat).zip (Qcc s load days kind (a) (Int.tdiv (a+b) 2) (Int.tdiv (Gd.use (List.getD (QaD s load days (Qae Span.lo Span.hi s days)) kind.toNat default) * Int.tdiv (a+b) 2+1000 - 1) 1000)),Qbk s load days kind (a) (Int.tdiv (a+b) 2) (Int.tdiv (Gd.use (List.getD (QaD s load days (Qae Span.lo Span.hi s days)) kind.toNat default) * Int.tdiv (a+b) 2+1000 - 1) 1000),
 [FJ Tryz.prog B (Qdo s load days kind a b u dJ0) (Qco s load days kind a b u dJ0) 6 (OO.ret (.bool true)) (([(3,Obj.cells (QgK s load days kind a b) 129)]++((6,Qbu)::QaK (6+1) []))++Qco s load days kind a b u dJ0) 7 (List.range 6) [3]]++Qje B s load days kind a b u dJ0⟩:=by kernel_rfl
set_option maxHeartbeats 4000000 in
theorem Qnj (s:Qaa) (load days kind:Int) (hs:Qa8 s=true) (hd:0<=days/\days<=300) (h0:0<=load) (h1:load < 64) (hx:Qcf load<=s.lots.length) (k0:0<=kind) (k1:kind < s.stock.length) {B:Lo} (hJ:∀w,B.has w->J0 w):∀m:Nat,(∀(a b u:Int),(b - a).toNat=m->∀(a0:0<=a) (ab:a<=b) (b1:b<=1001),(∃dJ0:Nat->Value,(∀t,QaS (dJ0 t))/\GoE Tryz.prog B (Qeu s load days kind) (QbU s load days kind) 5 (Qcw (none) 130 26 (([1,5,6]:List Nat).zip (QbY s load days kind a b u)) dJ0 Qcd) (QbG (QbU s load days kind) 5 (([3]:List Nat).zip (Qcc s load days kind a b u)) (Qbk s load days kind a b u)) (5+1+(Qbk s load days kind a b u).length) ([3]:List Nat))->FinK Tryz.prog B (Qeu s load days kind) (QbU s load days kind) 5 (.ret (.int .i64 (Qf2 (QiP (List.getD (QaD s load days (Qae Span.lo Span.hi s days)) kind.toNat default)) (Qba (List.getD (QaD s load days (Qae Span.lo Span.hi s days)) kind.toNat default).use) a b u).1)) (([3]:List Nat).zip ([.cells #[.int .i64 (List.getD (QaD s load days (Qae Span.lo Span.hi s days)) kind.toNat default).stock,.int .i64 (Qf2 (QiP (List.getD (QaD s load days (Qae Span.lo Span.hi s days)) kind.toNat default)) (Qba (List.getD (QaD s load days (Qae Span.lo Span.hi s days)) kind.toNat default).use) a b u).2,.int .i64 (List.getD (QaD s load days (Qae Span.lo Span.hi s days)) kind.toNat default).br,Qa0 2 (slB (List.getD (QaD s load days (Qae Span.lo Span.hi s days)) kind.toNat default).ships)] 129 (0,0)])) ([]) ([3]:List Nat)):=by
 intro m0
 induction m0 using Nat.strongRecOn with
 | _ m0 ih0=>
   intro a b u hm0 a0 ab b1 ⟨dJ0,hdJ0,hg0⟩
   have ht1:=Qcj QcZ Qda hs hd
   have e1:=QvB (s:=s) (load:=load) (days:=days) (t:=Qae Span.lo Span.hi s days)
   have hf:=QiE hs hd h0 h1 hx k0 k1
   have hn:=Qw0 (p:=QiP (List.getD (QaD s load days (Qae Span.lo Span.hi s days)) kind.toNat default)) (q:=Qba (List.getD (QaD s load days (Qae Span.lo Span.hi s days)) kind.toNat default).use) _ 0 1001 (List.getD (QaD s load days (Qae Span.lo Span.hi s days)) kind.toNat default).use rfl (Int.le_refl _) (by decide)
   have hf:=QiE hs hd h0 h1 hx k0 k1
   have hl:=Q3k a0 ab
   have hr:=Qmy (u:=(List.getD (QaD s load days (Qae Span.lo Span.hi s days)) kind.toNat default).use) (r:=(a+b).tdiv 2) hf.2 (by omega)
   have hq:0<=(List.getD (QaD s load days (Qae Span.lo Span.hi s days)) kind.toNat default).use * (a+b).tdiv 2/\(List.getD (QaD s load days (Qae Span.lo Span.hi s days)) kind.toNat default).use * (a+b).tdiv 2<=2000000:=⟨hr.1,by omega⟩
   have hb:=Q2I (r:=(a+b).tdiv 2) hf.1 hf.2 (by omega)
   have hp0:Qa7 (Qi9 B s load days kind a b u dJ0):=by
    exact ⟨(Qgg (by omega) (by omega)),⟨(QaJ (by omega) (by omega)),trivial⟩⟩
   by_cases q0:(a:Int)=(b)
   ·
    have s2:=QnZ (p:=QiP (List.getD (QaD s load days (Qae Span.lo Span.hi s days)) kind.toNat default)) (q:=Qba (List.getD (QaD s load days (Qae Span.lo Span.hi s days)) kind.toNat default).use) (u:=u) (show a=b by omega)
    exact (GoE.finK okF hJ Qab (Qan (by kernel_rfl)) (Qag (by kernel_rfl)) hg0 (QtT B s load days kind a b u dJ0)
     ⟨(Qn3 q0),hp0⟩).cast (by (rw [s2];done)) (by (rw [s2];rfl)) (by rfl)
   ·
    have hp1:Qa7 (Qje B s load days kind a b u dJ0):=by
     exact ⟨(QnT q0),hp0⟩
    cases q1:decide (QaL (Int.tdiv (Gd.use (List.getD (QaD s load days (Qae Span.lo Span.hi s days)) kind.toNat default) * Int.tdiv (a+b) 2+1000 - 1) 1000) (Gd.br (List.getD (QaD s load days (Qae Span.lo Span.hi s days)) kind.toNat default)) (Gd.ships (List.getD (QaD s load days (Qae Span.lo Span.hi s days)) kind.toNat default)) 0 (Gd.stock (List.getD (QaD s load days (Qae Span.lo Span.hi s days)) kind.toNat default))= -1) with
    | true=>
      have rj1:FJ Tryz.prog B (Qdo s load days kind a b u dJ0) (Qco s load days kind a b u dJ0) 6 (OO.ret (.bool false)) (([(3,Obj.cells #[.int .i64 (Gd.stock (List.getD (QaD s load days (Qae Span.lo Span.hi s days)) kind.toNat default)),.int .i64 (Int.tdiv (Gd.use (List.getD (QaD s load days (Qae Span.lo Span.hi s days)) kind.toNat default) * Int.tdiv (a+b) 2+1000 - 1) 1000),.int .i64 (Gd.br (List.getD (QaD s load days (Qae Span.lo Span.hi s days)) kind.toNat default)),Qa0 2 (slT (List.length (Gd.ships (List.getD (QaD s load days (Qae Span.lo Span.hi s days)) kind.toNat default))) (Qac QdL (Gd.ships (List.getD (QaD s load days (Qae Span.lo Span.hi s days)) kind.toNat default))))] 129)]++((6,Qbu)::QaK (6+1) []))++Qco s load days kind a b u dJ0) 7 (List.range 6) [3]:=by
       have hm:=Qmt a0 (show a < b by omega)
       have s2:=Q08 (u:=u) a0 (show a < b by omega) (by with_reducible assumption)
       exact FinK.fjB (GoE.finK okF hJ Qab (Qan (by kernel_rfl)) (Qag (by kernel_rfl)) ((GoE.refl (P:=Tryz.prog) (B:=B) (c0:=Qdo s load days kind a b u dJ0) (Qan (by kernel_rfl))).widen (Wf:=((([(3,KS.auto)]):List (Nat×KS)).map (·.1))) (by simp) (Qag (by kernel_rfl))) (Qui B s load days kind a b u dJ0)
        ⟨⟨trivial,(by have t_:=QoY (Gd.stock (List.getD (QaD s load days (Qae Span.lo Span.hi s days)) kind.toNat default)) (Int.tdiv (Gd.use (List.getD (QaD s load days (Qae Span.lo Span.hi s days)) kind.toNat default) * Int.tdiv (a+b) 2+1000 - 1) 1000) (Gd.br (List.getD (QaD s load days (Qae Span.lo Span.hi s days)) kind.toNat default)) (Gd.ships (List.getD (QaD s load days (Qae Span.lo Span.hi s days)) kind.toNat default)) (by with_reducible assumption);rw [q1] at t_;exact t_)⟩,⟨⟨trivial,QqU (Gd.use (List.getD (QaD s load days (Qae Span.lo Span.hi s days)) kind.toNat default) * Int.tdiv (a+b) 2) (1000) (by with_reducible assumption) (by omega)⟩,⟨(QaJ (by omega) (by omega)),trivial⟩⟩⟩) (ex:=[]) (by kernel_rfl) (Qb3 _)
      have hm:=Qmt a0 (show a < b by omega)
      have s2:=Q08 (u:=u) a0 (show a < b by omega) (by with_reducible assumption)
      exact ((ih0 _ (by omega)) (Int.tdiv (a+b) 2+1) (b) (Int.tdiv (Gd.use (List.getD (QaD s load days (Qae Span.lo Span.hi s days)) kind.toNat default) * Int.tdiv (a+b) 2+1000 - 1) 1000) rfl (by omega) (by omega) (by with_reducible assumption)
       (GoE.landA okF hJ Qab (Qan (by kernel_rfl)) (Qag (by kernel_rfl)) hg0 (QsL B s load days kind a b u dJ0)
       ⟨(QaJ (by omega) (by omega)),⟨rj1,hp1⟩⟩ (by kernel_rfl) (by kernel_rfl) (fun l hl=> by cases hl <;> decide))).cast (by (rw [s2];done)) (by (rw [s2];done)) (by rfl)
    | false=>
      have rj1:FJ Tryz.prog B (Qdo s load days kind a b u dJ0) (Qco s load days kind a b u dJ0) 6 (OO.ret (.bool true)) (([(3,Obj.cells #[.int .i64 (Gd.stock (List.getD (QaD s load days (Qae Span.lo Span.hi s days)) kind.toNat default)),.int .i64 (Int.tdiv (Gd.use (List.getD (QaD s load days (Qae Span.lo Span.hi s days)) kind.toNat default) * Int.tdiv (a+b) 2+1000 - 1) 1000),.int .i64 (Gd.br (List.getD (QaD s load days (Qae Span.lo Span.hi s days)) kind.toNat default)),Qa0 2 (slT (List.length (Gd.ships (List.getD (QaD s load days (Qae Span.lo Span.hi s days)) kind.toNat default))) (Qac QdL (Gd.ships (List.getD (QaD s load days (Qae Span.lo Span.hi s days)) kind.toNat default))))] 129)]++((6,Qbu)::QaK (6+1) []))++Qco s load days kind a b u dJ0) 7 (List.range 6) [3]:=by
       have hm:=Qmt a0 (show a < b by omega)
       have s2:=Qvt (u:=u) a0 (show a < b by omega) (by with_reducible assumption)
       exact FinK.fjB (GoE.finK okF hJ Qab (Qan (by kernel_rfl)) (Qag (by kernel_rfl)) ((GoE.refl (P:=Tryz.prog) (B:=B) (c0:=Qdo s load days kind a b u dJ0) (Qan (by kernel_rfl))).widen (Wf:=((([(3,KS.auto)]):List (Nat×KS)).map (·.1))) (by simp) (Qag (by kernel_rfl))) (Quw B s load days kind a b u dJ0)
        ⟨⟨trivial,(by have t_:=QoY (Gd.stock (List.getD (QaD s load days (Qae Span.lo Span.hi s days)) kind.toNat default)) (Int.tdiv (Gd.use (List.getD (QaD s load days (Qae Span.lo Span.hi s days)) kind.toNat default) * Int.tdiv (a+b) 2+1000 - 1) 1000) (Gd.br (List.getD (QaD s load days (Qae Span.lo Span.hi s days)) kind.toNat default)) (Gd.ships (List.getD (QaD s load days (Qae Span.lo Span.hi s days)) kind.toNat default)) (by with_reducible assumption);rw [q1] at t_;exact t_)⟩,⟨⟨trivial,QqU (Gd.use (List.getD (QaD s load days (Qae Span.lo Span.hi s days)) kind.toNat default) * Int.tdiv (a+b) 2) (1000) (by with_reducible assumption) (by omega)⟩,⟨(QaJ (by omega) (by omega)),trivial⟩⟩⟩) (ex:=[]) (by kernel_rfl) (Qb3 _)
      have hm:=Qmt a0 (show a < b by omega)
      have s2:=Qvt (u:=u) a0 (show a < b by omega) (by with_reducible assumption)
      exact ((ih0 _ (by omega)) (a) (Int.tdiv (a+b) 2) (Int.tdiv (Gd.use (List.getD (QaD s load days (Qae Span.lo Span.hi s days)) kind.toNat default) * Int.tdiv (a+b) 2+1000 - 1) 1000) rfl (by with_reducible assumption) (by omega) (by omega)
       (GoE.landA okF hJ Qab (Qan (by kernel_rfl)) (Qag (by kernel_rfl)) hg0 (Qtk B s load days kind a b u dJ0)
       ⟨rj1,hp1⟩ (by kernel_rfl) (by kernel_rfl) (fun l hl=> by cases hl <;> decide))).cast (by (rw [s2];done)) (by (rw [s2];done)) (by rfl)

theorem Qtl (B:Lo) (s:Qaa) (load days kind:Int):CE.landA 5 (Qak Tryz.prog (Qa1 Tryz.prog) J0 B 10 5 (Qeu s load days kind) (QbU s load days kind) 5
 [] 0 [] []) [1,5,6] [(3,KS.auto)] [] []=some ⟨130,26,Qcd,[],.run,none,QbY s load days kind (0) (1001) (Gd.use (List.getD (QaD s load days (Qae Span.lo Span.hi s days)) kind.toNat default)),([3]:List Nat).zip (Qcc s load days kind (0) (1001) (Gd.use (List.getD (QaD s load days (Qae Span.lo Span.hi s days)) kind.toNat default))),Qbk s load days kind (0) (1001) (Gd.use (List.getD (QaD s load days (Qae Span.lo Span.hi s days)) kind.toNat default)),
 []⟩:=by kernel_rfl
theorem QtL (B:Lo) (s:Qaa) (load days kind:Int):Qbd (Qak Tryz.prog (Qa1 Tryz.prog) J0 B 12 1 (Qai Tryz.prog 91 19 (([.agg (QaO s load days).toArray,.int .i64 kind]).map (Qaq 0 4))) H00 1
 [(3,Qaj.pure (slT (List.length (QaD s load days (Qae Span.lo Span.hi s days))) (Qac Qcv (QaD s load days (Qae Span.lo Span.hi s days)))) []),(5,Qaj.tidx kind.toNat #[.int .i64 (Gd.stock (List.getD (QaD s load days (Qae Span.lo Span.hi s days)) kind.toNat default)),.int .i64 (Gd.use (List.getD (QaD s load days (Qae Span.lo Span.hi s days)) kind.toNat default)),.int .i64 (Gd.br (List.getD (QaD s load days (Qae Span.lo Span.hi s days)) kind.toNat default)),slT (List.length (Gd.ships (List.getD (QaD s load days (Qae Span.lo Span.hi s days)) kind.toNat default))) (Qac QdL (Gd.ships (List.getD (QaD s load days (Qae Span.lo Span.hi s days)) kind.toNat default)))]),(14,Qaj.call (List.range 5) (OO.ret (.int .i64 (Prod.fst (Qf2 (QiP (List.getD (QaD s load days (Qae Span.lo Span.hi s days)) kind.toNat default)) (Qba (Gd.use (List.getD (QaD s load days (Qae Span.lo Span.hi s days)) kind.toNat default))) 0 1001 (Gd.use (List.getD (QaD s load days (Qae Span.lo Span.hi s days)) kind.toNat default)))))) ([(3,Obj.cells #[.int .i64 (Gd.stock (List.getD (QaD s load days (Qae Span.lo Span.hi s days)) kind.toNat default)),.int .i64 (Prod.snd (Qf2 (QiP (List.getD (QaD s load days (Qae Span.lo Span.hi s days)) kind.toNat default)) (Qba (Gd.use (List.getD (QaD s load days (Qae Span.lo Span.hi s days)) kind.toNat default))) 0 1001 (Gd.use (List.getD (QaD s load days (Qae Span.lo Span.hi s days)) kind.toNat default)))),.int .i64 (Gd.br (List.getD (QaD s load days (Qae Span.lo Span.hi s days)) kind.toNat default)),Qa0 2 (slT (List.length (Gd.ships (List.getD (QaD s load days (Qae Span.lo Span.hi s days)) kind.toNat default))) (Qac QdL (Gd.ships (List.getD (QaD s load days (Qae Span.lo Span.hi s days)) kind.toNat default))))] 129)]++(5,Qbu)::QaK 6 []) 6 [3]),(17,hvI (Prod.fst (Qf2 (QiP (List.getD (QaD s load days (Qae Span.lo Span.hi s days)) kind.toNat default)) (Qba (Gd.use (List.getD (QaD s load days (Qae Span.lo Span.hi s days)) kind.toNat default))) 0 1001 (Gd.use (List.getD (QaD s load days (Qae Span.lo Span.hi s days)) kind.toNat default))) - 1))] 0 [] []) []=some (.int .i64 (Prod.fst (Qf2 (QiP (List.getD (QaD s load days (Qae Span.lo Span.hi s days)) kind.toNat default)) (Qba (Gd.use (List.getD (QaD s load days (Qae Span.lo Span.hi s days)) kind.toNat default))) 0 1001 (Gd.use (List.getD (QaD s load days (Qae Span.lo Span.hi s days)) kind.toNat default))) - 1),
 [wq (Prod.fst (Qf2 (QiP (List.getD (QaD s load days (Qae Span.lo Span.hi s days)) kind.toNat default)) (Qba (Gd.use (List.getD (QaD s load days (Qae Span.lo Span.hi s days)) kind.toNat default))) 0 1001 (Gd.use (List.getD (QaD s load days (Qae Span.lo Span.hi s days)) kind.toNat default))) - 1)=Prod.fst (Qf2 (QiP (List.getD (QaD s load days (Qae Span.lo Span.hi s days)) kind.toNat default)) (Qba (Gd.use (List.getD (QaD s load days (Qae Span.lo Span.hi s days)) kind.toNat default))) 0 1001 (Gd.use (List.getD (QaD s load days (Qae Span.lo Span.hi s days)) kind.toNat default))) - 1,FJ Tryz.prog B (Qeu s load days kind) (QbU s load days kind) 5 (OO.ret (.int .i64 (Prod.fst (Qf2 (QiP (List.getD (QaD s load days (Qae Span.lo Span.hi s days)) kind.toNat default)) (Qba (Gd.use (List.getD (QaD s load days (Qae Span.lo Span.hi s days)) kind.toNat default))) 0 1001 (Gd.use (List.getD (QaD s load days (Qae Span.lo Span.hi s days)) kind.toNat default)))))) (([(3,Obj.cells #[.int .i64 (Gd.stock (List.getD (QaD s load days (Qae Span.lo Span.hi s days)) kind.toNat default)),.int .i64 (Prod.snd (Qf2 (QiP (List.getD (QaD s load days (Qae Span.lo Span.hi s days)) kind.toNat default)) (Qba (Gd.use (List.getD (QaD s load days (Qae Span.lo Span.hi s days)) kind.toNat default))) 0 1001 (Gd.use (List.getD (QaD s load days (Qae Span.lo Span.hi s days)) kind.toNat default)))),.int .i64 (Gd.br (List.getD (QaD s load days (Qae Span.lo Span.hi s days)) kind.toNat default)),Qa0 2 (slT (List.length (Gd.ships (List.getD (QaD s load days (Qae Span.lo Span.hi s days)) kind.toNat default))) (Qac QdL (Gd.ships (List.getD (QaD s load days (Qae Span.lo Span.hi s days)) kind.toNat default))))] 129)]++((5,Qbu)::QaK (5+1) []))++QbU s load days kind) 6 (List.range 5) [3],kind=(↑kind.toNat:Int)/\Int.toNat kind < List.length (QaD s load days (Qae Span.lo Span.hi s days))/\Array.extract (Qac Qcv (QaD s load days (Qae Span.lo Span.hi s days))) (Int.toNat kind * TypeInfo.size Tryz.t129) (Int.toNat kind * TypeInfo.size Tryz.t129+TypeInfo.size Tryz.t129)=#[.int .i64 (Gd.stock (List.getD (QaD s load days (Qae Span.lo Span.hi s days)) kind.toNat default)),.int .i64 (Gd.use (List.getD (QaD s load days (Qae Span.lo Span.hi s days)) kind.toNat default)),.int .i64 (Gd.br (List.getD (QaD s load days (Qae Span.lo Span.hi s days)) kind.toNat default)),slT (List.length (Gd.ships (List.getD (QaD s load days (Qae Span.lo Span.hi s days)) kind.toNat default))) (Qac QdL (Gd.ships (List.getD (QaD s load days (Qae Span.lo Span.hi s days)) kind.toNat default)))],Qa7 []/\Qas Tryz.prog J0 128 #[.agg #[slT s.stock.length (Qac Qar s.stock),slT s.use.length (Qac Qa6 s.use),.int .i64 s.glo,.int .i64 s.ghi,slT s.lots.length (Qac Qam s.lots),.int .i64 s.hold,.int .i64 load,.int .i64 days]] (slT (List.length (QaD s load days (Qae Span.lo Span.hi s days))) (Qac Qcv (QaD s load days (Qae Span.lo Span.hi s days))))]):=by kernel_rfl
set_option maxHeartbeats 4000000 in
theorem QuN (s:Qaa) (load days kind:Int) (hs:Qa8 s=true) (hd:0<=days/\days<=300) (h0:0<=load) (h1:load < 64) (hx:Qcf load<=s.lots.length) (k0:0<=kind) (k1:kind < s.stock.length) {B:Lo} (hJ:∀w,B.has w->J0 w):EndsT Tryz.prog B (Qai Tryz.prog 91 19 (([.agg (QaO s load days).toArray,.int .i64 kind]).map (Qaq 0 4))) (.int .i64 ((Qf2 (QiP (List.getD (QaD s load days (Qae Span.lo Span.hi s days)) kind.toNat default)) (Qba (List.getD (QaD s load days (Qae Span.lo Span.hi s days)) kind.toNat default).use) 0 1001 (List.getD (QaD s load days (Qae Span.lo Span.hi s days)) kind.toNat default).use).1 - 1)):=by
 have ht1:=Qcj QcZ Qda hs hd
 have e1:=QvB (s:=s) (load:=load) (days:=days) (t:=Qae Span.lo Span.hi s days)
 have hf:=QiE hs hd h0 h1 hx k0 k1
 have hn:=Qw0 (p:=QiP (List.getD (QaD s load days (Qae Span.lo Span.hi s days)) kind.toNat default)) (q:=Qba (List.getD (QaD s load days (Qae Span.lo Span.hi s days)) kind.toNat default).use) _ 0 1001 (List.getD (QaD s load days (Qae Span.lo Span.hi s days)) kind.toNat default).use rfl (Int.le_refl _) (by decide)
 have rj0:FJ Tryz.prog B (Qeu s load days kind) (QbU s load days kind) 5 (OO.ret (.int .i64 (Prod.fst (Qf2 (QiP (List.getD (QaD s load days (Qae Span.lo Span.hi s days)) kind.toNat default)) (Qba (Gd.use (List.getD (QaD s load days (Qae Span.lo Span.hi s days)) kind.toNat default))) 0 1001 (Gd.use (List.getD (QaD s load days (Qae Span.lo Span.hi s days)) kind.toNat default)))))) (([(3,Obj.cells #[.int .i64 (Gd.stock (List.getD (QaD s load days (Qae Span.lo Span.hi s days)) kind.toNat default)),.int .i64 (Prod.snd (Qf2 (QiP (List.getD (QaD s load days (Qae Span.lo Span.hi s days)) kind.toNat default)) (Qba (Gd.use (List.getD (QaD s load days (Qae Span.lo Span.hi s days)) kind.toNat default))) 0 1001 (Gd.use (List.getD (QaD s load days (Qae Span.lo Span.hi s days)) kind.toNat default)))),.int .i64 (Gd.br (List.getD (QaD s load days (Qae Span.lo Span.hi s days)) kind.toNat default)),Qa0 2 (slT (List.length (Gd.ships (List.getD (QaD s load days (Qae Span.lo Span.hi s days)) kind.toNat default))) (Qac QdL (Gd.ships (List.getD (QaD s load days (Qae Span.lo Span.hi s days)) kind.toNat default))))] 129)]++((5,Qbu)::QaK (5+1) []))++QbU s load days kind) 6 (List.range 5) [3]:=by
  exact FinK.fjB ((Qnj s load days kind hs hd h0 h1 hx k0 k1 hJ _) (0) (1001) (Gd.use (List.getD (QaD s load days (Qae Span.lo Span.hi s days)) kind.toNat default)) rfl (by omega) (by omega) (by omega)
   (GoE.landA okF hJ Qab (Qan (by kernel_rfl)) (Qag (by kernel_rfl)) ((GoE.refl (P:=Tryz.prog) (B:=B) (c0:=Qeu s load days kind) (Qan (by kernel_rfl))).widen (Wf:=((([(3,KS.auto)]):List (Nat×KS)).map (·.1))) (by simp) (Qag (by kernel_rfl))) (Qtl B s load days kind)
   trivial (by kernel_rfl) (by kernel_rfl) (fun l hl=> by cases hl <;> decide))) (ex:=[]) (by kernel_rfl) (Qb3 _)
 exact (GoE.endsT okF hJ Qab GoE.start (QtL B s load days kind)
  ⟨(QaJ (by omega) (by omega)),⟨rj0,⟨⟨by omega,by omega,(Qaf (z:=4) (fun _=> rfl) (by omega))⟩,⟨⟨trivial,QwC (s) (load) (days) (by with_reducible assumption) (by with_reducible assumption) (by with_reducible assumption) (by with_reducible assumption) (by with_reducible assumption)⟩,trivial⟩⟩⟩⟩).cast (by rfl)
theorem Q1Y (s:Qaa) (load days kind:Int) (hs:Qa8 s=true) (hd:0<=days/\days<=300) (h0:0<=load) (h1:load < 64) (hx:Qcf load<=s.lots.length) (k0:0<=kind) (k1:kind < s.stock.length):Qas Tryz.prog J0 91 #[.agg (QaO s load days).toArray,.int .i64 kind] (.int .i64 ((Qf2 (QiP (List.getD (QaD s load days (Qae Span.lo Span.hi s days)) kind.toNat default)) (Qba (List.getD (QaD s load days (Qae Span.lo Span.hi s days)) kind.toNat default).use) 0 1001 (List.getD (QaD s load days (Qae Span.lo Span.hi s days)) kind.toNat default).use).1 - 1)):=
 QaE (ts:=[.agg (QaO s load days).toArray,.int .i64 kind]) Qb8 (c0:=Qai Tryz.prog 91 19 (([.agg (QaO s load days).toArray,.int .i64 kind]).map (Qaq 0 4))) (by kernel_rfl) (by kernel_rfl) fun B hJ=> QuN s load days kind hs hd h0 h1 hx k0 k1 hJ
def Qjl (s:Qaa) (load:List Int) (days:Int):Array Value:=#[slT s.stock.length (Qac Qar s.stock),slT s.use.length (Qac Qa6 s.use),.int .i64 s.glo,.int .i64 s.ghi,slT s.lots.length (Qac Qam s.lots),.int .i64 s.hold,.int .i64 (QcM load 0),.int .i64 days]
def Qd3 (s:Qaa):Array Value:=#[slT s.stock.length (Qac Qar s.stock),slT s.use.length (Qac Qa6 s.use),.int .i64 s.glo,.int .i64 s.ghi,slT s.lots.length (Qac Qam s.lots),.int .i64 s.hold]
def QiR (B:Lo) (s:Qaa) (load:List Int) (days kind:Int):List Prop:=[Qa7 []/\Qas Tryz.prog J0 79 #[.agg (Qd3 s)] (.bool true)]++([]:List Prop)
def QmJ (s:Qaa) (load:List Int) (days kind:Int):Qay:=[(4,Qaj.pure (.bool true) [])]
def QiZ (B:Lo) (s:Qaa) (load:List Int) (days kind:Int):List Prop:=[Qa7 []/\Qas Tryz.prog J0 80 #[.agg (Qd3 s),slT load.length (Qac Qar load)] (.bool true)]++QiR B s load days kind
def QmR (s:Qaa) (load:List Int) (days kind:Int):Qay:=QmJ s load days kind++[(9,Qaj.pure (.bool true) [])]
def QiW (B:Lo) (s:Qaa) (load:List Int) (days kind:Int):List Prop:=[Qa7 []/\Qas Tryz.prog J0 81 #[.int .i64 days] (.bool true)]++QiZ B s load days kind
def QmN (s:Qaa) (load:List Int) (days kind:Int):Qay:=QmR s load days kind++[(14,Qaj.pure (.bool true) [])]
theorem Quu (B:Lo) (s:Qaa) (load:List Int) (days kind:Int):Qbd (Qak Tryz.prog (Qa1 Tryz.prog) J0 B 11 1 (Qai Tryz.prog 48 36 (([.agg (Qah s).toArray,slI load,.int .i64 days,.int .i64 kind]).map (Qaq 0 4))) H00 1
 (QmN s load days kind++[(20,Qaj.pure (.bool true) []),(26,Qaj.pure (.agg (Qjl s load days)) []),(28,Qaj.pure (.int .i64 (Prod.fst (Qf2 (QiP (List.getD (QaD s (QcM load 0) days (Qae Span.lo Span.hi s days)) kind.toNat default)) (Qba (Gd.use (List.getD (QaD s (QcM load 0) days (Qae Span.lo Span.hi s days)) kind.toNat default))) 0 1001 (Gd.use (List.getD (QaD s (QcM load 0) days (Qae Span.lo Span.hi s days)) kind.toNat default))) - 1)) [])]) 0 [] []) []=some (.tuple #[.int .i64 (Prod.fst (Qf2 (QiP (List.getD (QaD s (QcM load 0) days (Qae Span.lo Span.hi s days)) kind.toNat default)) (Qba (Gd.use (List.getD (QaD s (QcM load 0) days (Qae Span.lo Span.hi s days)) kind.toNat default))) 0 1001 (Gd.use (List.getD (QaD s (QcM load 0) days (Qae Span.lo Span.hi s days)) kind.toNat default))) - 1),.int .i64 0],
 [Qa7 []/\Qas Tryz.prog J0 91 #[.agg (Qjl s load days),.int .i64 kind] (.int .i64 (Prod.fst (Qf2 (QiP (List.getD (QaD s (QcM load 0) days (Qae Span.lo Span.hi s days)) kind.toNat default)) (Qba (Gd.use (List.getD (QaD s (QcM load 0) days (Qae Span.lo Span.hi s days)) kind.toNat default))) 0 1001 (Gd.use (List.getD (QaD s (QcM load 0) days (Qae Span.lo Span.hi s days)) kind.toNat default))) - 1)),Qa7 []/\Qas Tryz.prog J0 83 #[.agg (Qd3 s),slT load.length (Qac Qar load),.int .i64 days] (.agg (Qjl s load days)),Qa7 []/\Qas Tryz.prog J0 90 #[.agg (Qd3 s),.int .i64 kind] (.bool true)]++QiW B s load days kind):=by kernel_rfl
theorem QtU (B:Lo) (s:Qaa) (load:List Int) (days kind:Int):Qbd (Qak Tryz.prog (Qa1 Tryz.prog) J0 B 10 1 (Qai Tryz.prog 48 36 (([.agg (Qah s).toArray,slI load,.int .i64 days,.int .i64 kind]).map (Qaq 0 4))) H00 1
 (QmN s load days kind++[(20,Qaj.pure (.bool false) [])]) 0 [] []) []=some (.tuple #[.int .i64 0,.int .i64 2],
 [Qa7 []/\Qas Tryz.prog J0 90 #[.agg (Qd3 s),.int .i64 kind] (.bool false)]++QiW B s load days kind):=by kernel_rfl
theorem Qu8 (B:Lo) (s:Qaa) (load:List Int) (days kind:Int):Qbd (Qak Tryz.prog (Qa1 Tryz.prog) J0 B 10 1 (Qai Tryz.prog 48 36 (([.agg (Qah s).toArray,slI load,.int .i64 days,.int .i64 kind]).map (Qaq 0 4))) H00 1
 (QmR s load days kind++[(14,Qaj.pure (.bool false) [])]) 0 [] []) []=some (.tuple #[.int .i64 0,.int .i64 2],
 [Qa7 []/\Qas Tryz.prog J0 81 #[.int .i64 days] (.bool false)]++QiZ B s load days kind):=by kernel_rfl
theorem QsJ (B:Lo) (s:Qaa) (load:List Int) (days kind:Int):Qbd (Qak Tryz.prog (Qa1 Tryz.prog) J0 B 10 1 (Qai Tryz.prog 48 36 (([.agg (Qah s).toArray,slI load,.int .i64 days,.int .i64 kind]).map (Qaq 0 4))) H00 1
 (QmJ s load days kind++[(9,Qaj.pure (.bool false) [])]) 0 [] []) []=some (.tuple #[.int .i64 0,.int .i64 2],
 [Qa7 []/\Qas Tryz.prog J0 80 #[.agg (Qd3 s),slT load.length (Qac Qar load)] (.bool false)]++QiR B s load days kind):=by kernel_rfl
theorem QsQ (B:Lo) (s:Qaa) (load:List Int) (days kind:Int):Qbd (Qak Tryz.prog (Qa1 Tryz.prog) J0 B 10 1 (Qai Tryz.prog 48 36 (([.agg (Qah s).toArray,slI load,.int .i64 days,.int .i64 kind]).map (Qaq 0 4))) H00 1
 [(4,Qaj.pure (.bool false) [])] 0 [] []) []=some (.tuple #[.int .i64 0,.int .i64 2],
 [Qa7 []/\Qas Tryz.prog J0 79 #[.agg (Qd3 s)] (.bool false)]):=by kernel_rfl
set_option maxHeartbeats 4000000 in
theorem Qwa (s:Qaa) (load:List Int) (days kind:Int)  {B:Lo} (hJ:∀w,B.has w->J0 w):EndsT Tryz.prog B (Qai Tryz.prog 48 36 (([.agg (Qah s).toArray,slI load,.int .i64 days,.int .i64 kind]).map (Qaq 0 4))) (.tuple #[.int .i64 (if Qa8 s && (QbV s load && (inB days 0 300 && inB kind 0 (s.stock.length - 1))) then QnJ s load days kind else 0),.int .i64 (if Qa8 s && (QbV s load && (inB days 0 300 && inB kind 0 (s.stock.length - 1))) then 0 else 2)]):=by
 cases q0:Qa8 s with
 | true=>
   have hp0:Qa7 (QiR B s load days kind):=by
    exact ⟨⟨trivial,(by have t_:=QrG (s);rw [q0] at t_;exact t_)⟩,trivial⟩
   cases q1:QbV s load with
   | true=>
     have hp1:Qa7 (QiZ B s load days kind):=by
      have g1:=QdH ‹Qa8 s=true› ‹QbV s load=true›
      have g5:=g1.1
      have g6:=g1.2.2.1
      have g7:=g1.2.2.2
      have g8:=g1.2.1
      exact ⟨⟨trivial,(by have t_:=Qwv (s) (load) (by with_reducible assumption);rw [q1] at t_;exact t_)⟩,hp0⟩
     cases q2:inB days 0 300 with
     | true=>
       have hp2:Qa7 (QiW B s load days kind):=by
        have g1:=QdH ‹Qa8 s=true› ‹QbV s load=true›
        have g2:=QaW.1 ‹inB days 0 300=true›
        have g5:=g1.1
        have g6:=g1.2.2.1
        have g7:=g1.2.2.2
        have g8:=g1.2.1
        exact ⟨⟨trivial,(by have t_:=Qsc (days);rw [q2] at t_;exact t_)⟩,hp1⟩
       cases q3:inB kind 0 ((↑s.stock.length:Int) - 1) with
       | true=>
         have g1:=QdH ‹Qa8 s=true› ‹QbV s load=true›
         have g2:=QaW.1 ‹inB days 0 300=true›
         have g3:=QaW.1 ‹inB kind 0 _=true›
         have g5:=g1.1
         have g6:=g1.2.2.1
         have g7:=g1.2.2.2
         have g8:=g1.2.1
         exact (GoE.endsT okF hJ Qab GoE.start (Quu B s load days kind)
          ⟨⟨trivial,Q1Y (s) (QcM load 0) (days) (kind) (by with_reducible assumption) (by with_reducible assumption) (by with_reducible assumption) (by with_reducible assumption) (by with_reducible assumption) (by omega) (by omega)⟩,⟨⟨trivial,Qw5 (s) (load) (days) (by with_reducible assumption)⟩,⟨⟨trivial,(by have t_:=Qwi (s) (kind);rw [q3] at t_;exact t_)⟩,hp2⟩⟩⟩).cast (by rfl)
       | false=>
         have g1:=QdH ‹Qa8 s=true› ‹QbV s load=true›
         have g2:=QaW.1 ‹inB days 0 300=true›
         have g5:=g1.1
         have g6:=g1.2.2.1
         have g7:=g1.2.2.2
         have g8:=g1.2.1
         exact (GoE.endsT okF hJ Qab GoE.start (QtU B s load days kind)
          ⟨⟨trivial,(by have t_:=Qwi (s) (kind);rw [q3] at t_;exact t_)⟩,hp2⟩).cast (by rfl)
     | false=>
       have g1:=QdH ‹Qa8 s=true› ‹QbV s load=true›
       have g5:=g1.1
       have g6:=g1.2.2.1
       have g7:=g1.2.2.2
       have g8:=g1.2.1
       exact (GoE.endsT okF hJ Qab GoE.start (Qu8 B s load days kind)
        ⟨⟨trivial,(by have t_:=Qsc (days);rw [q2] at t_;exact t_)⟩,hp1⟩).cast (by rfl)
   | false=>
     exact (GoE.endsT okF hJ Qab GoE.start (QsJ B s load days kind)
      ⟨⟨trivial,(by have t_:=Qwv (s) (load) (by with_reducible assumption);rw [q1] at t_;exact t_)⟩,hp0⟩).cast (by rfl)
 | false=>
   exact (GoE.endsT okF hJ Qab GoE.start (QsQ B s load days kind)
    ⟨⟨trivial,(by have t_:=QrG (s);rw [q0] at t_;exact t_)⟩,trivial⟩).cast (by rfl)
theorem QkX (s:Qaa) (load:List Int) (days kind:Int)  :Qas Tryz.prog J0 48 #[.agg (Qah s).toArray,slI load,.int .i64 days,.int .i64 kind] (.tuple #[.int .i64 (if Qa8 s && (QbV s load && (inB days 0 300 && inB kind 0 (s.stock.length - 1))) then QnJ s load days kind else 0),.int .i64 (if Qa8 s && (QbV s load && (inB days 0 300 && inB kind 0 (s.stock.length - 1))) then 0 else 2)]):=
 QaE (ts:=[.agg (Qah s).toArray,slI load,.int .i64 days,.int .i64 kind]) Qb8 (c0:=Qai Tryz.prog 48 36 (([.agg (Qah s).toArray,slI load,.int .i64 days,.int .i64 kind]).map (Qaq 0 4))) (by kernel_rfl) (by kernel_rfl) fun B hJ=> Qwa s load days kind  hJ
end
end Go.Proofs.YtiabgkiccaodmaaGreat

namespace Go.Proofs.YtiabgkiccaodmaaGreat
open Go Go.CE Go.RowKit
noncomputable section
set_option maxRecDepth 100000
def QhB (p:Int->Bool) (lo hi:Int):Int:=
 if h:lo < hi then (if p (hi - (hi - lo).tdiv 2)=true then QhB p (hi - (hi - lo).tdiv 2) hi else QhB p lo (hi - (hi - lo).tdiv 2 - 1)) else lo
termination_by (hi - lo).toNat
decreasing_by all_goals (have:=Int.tdiv_eq_ediv_of_nonneg (a:=hi - lo) (b:=2) (by omega);omega)
theorem QnC {lo hi:Int} (h1:lo < hi):lo < hi - (hi - lo).tdiv 2/\hi - (hi - lo).tdiv 2<=hi:=by
 have:=Int.tdiv_eq_ediv_of_nonneg (a:=hi - lo) (b:=2) (by omega);omega
theorem Qs6 {p:Int->Bool} {lo hi:Int} (h:hi<=lo):QhB p lo hi=lo:=by rw [QhB,dif_neg (by omega)]
theorem QrI {p:Int->Bool} {lo hi:Int} (h:lo < hi) (hp:p (hi - (hi - lo).tdiv 2)=true):QhB p lo hi=QhB p (hi - (hi - lo).tdiv 2) hi:=by
 rw [QhB,dif_pos h,if_pos hp]
theorem QwX {p:Int->Bool} {lo hi:Int} (h:lo < hi) (hp:p (hi - (hi - lo).tdiv 2)=false):QhB p lo hi=QhB p lo (hi - (hi - lo).tdiv 2 - 1):=by
 rw [QhB,dif_pos h,if_neg (by rw [hp];decide)]
theorem QvG {p:Int->Bool}:∀(n:Nat) (lo hi:Int),(hi - lo).toNat=n->lo<=hi->(∀r r',lo < r->r<=r'->r'<=hi->p r'=true->p r=true)->
 lo<=QhB p lo hi/\QhB p lo hi<=hi/\(∀r,lo < r->r<=QhB p lo hi->p r=true)/\(∀r,QhB p lo hi < r->r<=hi->p r=false):=by
 intro n
 induction n using Nat.strongRecOn with
 | _ n ih=>
   intro lo hi hn h1 hm
   by_cases e:hi<=lo
   ·rw [Qs6 e];exact ⟨Int.le_refl _,h1,fun r h2 h3=> by omega,fun r h2 h3=> by omega⟩
   ·have hi2:=QnC (show lo < hi by omega)
    cases hp:p (hi - (hi - lo).tdiv 2) with
    | true=>
      rw [QrI (by omega) hp]
      have:=ih _ (by omega) (hi - (hi - lo).tdiv 2) hi rfl hi2.2 (fun r r' g1 g2 g3=> hm r r' (by omega) g2 g3)
      refine ⟨by omega,this.2.1,fun r h2 h3=> ?_,this.2.2.2⟩
      by_cases e2:hi - (hi - lo).tdiv 2 < r
      ·exact this.2.2.1 r e2 h3
      ·exact hm r _ h2 (by omega) hi2.2 hp
    | false=>
      rw [QwX (by omega) hp]
      have:=ih _ (by omega) lo (hi - (hi - lo).tdiv 2 - 1) rfl (by omega) (fun r r' g1 g2 g3=> hm r r' g1 g2 (by omega))
      refine ⟨this.1,by omega,this.2.2.1,fun r h2 h3=> ?_⟩
      by_cases e2:r<=hi - (hi - lo).tdiv 2 - 1
      ·exact this.2.2.2 r h2 e2
      ·cases hr:p r with
       | false=> rfl
       | true=> have:=hm _ r hi2.1 (by omega) h3 hr;rw [hp] at this;cases this
theorem Q0Y {p q:Int->Bool} {f:Int->Int} {u:Int} (hq:∀r,0<=r->r<=1000->q r= !p r) (h0:p 0=true) (hm:∀r r',0<=r->r<=r'->r'<=1000->p r'=true->p r=true):(Qf2 q f 0 1001 u).1 - 1=QhB p 0 1000:=by
 have hA:=QxZ (p:=q) (q:=f) _ 0 1001 u rfl (Int.le_refl _) (by decide) (fun r r' g1 g2 g3 g4=> by
  rw [hq r (by omega) (by omega)] at g4
  rw [hq r' (by omega) (by omega)]
  cases h:p r' with
  | false=> rfl
  | true=> rw [hm r r' g1 g2 (by omega) h] at g4;cases g4)
 have hB:=QvG (p:=p) _ 0 1000 rfl (by decide) (fun r r' g1 g2 g3 g4=> hm r r' (by omega) g2 g3 g4)
 generalize (Qf2 q f 0 1001 u).1=A at *
 generalize QhB p 0 1000=B at *
 have hA1:1<=A:=by
  rcases Int.lt_or_le A 1 with h | h
  ·have:=hA.2.2.2 0 (by omega) (by decide);rw [hq 0 (by omega) (by decide),h0] at this;cases this
  ·exact h
 rcases Int.lt_trichotomy (A - 1) B with h | h | h
 ·have h1:=hA.2.2.2 B (by omega) (by omega)
  rw [hq B (by omega) (by omega)] at h1
  by_cases e:B=0
  ·subst e;rw [h0] at h1;cases h1
  ·rw [hB.2.2.1 B (by omega) (Int.le_refl _)] at h1;cases h1
 ·exact h
 ·have h1:=hA.2.2.1 (A - 1) (by omega) (by omega)
  rw [hq _ (by omega) (by omega),hB.2.2.2 (A - 1) h (by omega)] at h1
  cases h1
def QeU (s:Qaa) (load:List Int) (days kind r:Int):Bool:=decide ((QeD (Qfs (Qae Span.lo Span.hi s days) kind r) (QfR (Qae Span.lo Span.hi s days) kind load) (Qbs (Qae Span.lo Span.hi s days)) (upI 0 days) (-1,s.stock.getD kind.toNat default)).1 < 0)
theorem Qyw {s:Qaa} {load:List Int} {days kind lo hi:Int} (h:lo < hi) (hp:(QeD (Qfs (Qae Span.lo Span.hi s days) kind (hi - (hi - lo).tdiv 2)) (QfR (Qae Span.lo Span.hi s days) kind load) (Qbs (Qae Span.lo Span.hi s days)) (upI 0 days) (-1,s.stock.getD kind.toNat default)).1 < 0):QhB (QeU s load days kind) lo hi=QhB (QeU s load days kind) (hi - (hi - lo).tdiv 2) hi:=QrI h (decide_eq_true hp)
theorem Q1x {s:Qaa} {load:List Int} {days kind lo hi:Int} (h:lo < hi) (hp:¬(QeD (Qfs (Qae Span.lo Span.hi s days) kind (hi - (hi - lo).tdiv 2)) (QfR (Qae Span.lo Span.hi s days) kind load) (Qbs (Qae Span.lo Span.hi s days)) (upI 0 days) (-1,s.stock.getD kind.toNat default)).1 < 0):QhB (QeU s load days kind) lo hi=QhB (QeU s load days kind) lo (hi - (hi - lo).tdiv 2 - 1):=QwX h (decide_eq_false hp)
def QdF (s:Qaa) (load:List Int) (days kind:Int) (lo hi:Int):List Value:=[Qa0 1 (slT load.length (Qac Qar load)),.int .i64 days,.int .i64 kind,pA 2 0,.int .i64 lo,.int .i64 hi]
def QbS (s:Qaa) (load:List Int) (days kind:Int) (lo hi:Int):List Obj:=[Obj.cells #[Qa0 1 (slT s.stock.length (Qac Qar s.stock)),Qa0 1 (slT s.use.length (Qac Qa6 s.use)),.int .i64 s.glo,.int .i64 s.ghi,Qa0 1 (slT s.lots.length (Qac Qam s.lots)),.int .i64 s.hold] 62]
def QdE:List Item:=([.code [1,1,0,0,0],.inLoop [1,1,0,0,0],.inBlock 0,.code [1,1,1]]).map (it (Qal Tryz.prog 50))
def QsG (B:Lo) (c0:CF) (s:Qaa) (load:List Int) (days kind:Int) (lo hi:Int):Prop:=∃dJ:Nat->Value,(∀t,QaS (dJ t))/\GoE Tryz.prog B c0 H00 1 (Qa4 50 41 (([1,2,3,4,9,10]:List Nat).zip (QdF s load days kind lo hi)) dJ QdE) (Qa3 (QbS s load days kind lo hi)) (2+(QbS s load days kind lo hi).length) []
def Qjd (s:Qaa) (days:Int):Array Value:=#[slT (List.length (Qat.uses (Qae Span.lo Span.hi s days))) (Qac Qar (Qat.uses (Qae Span.lo Span.hi s days))),slT (List.length (Qat.gaps (Qae Span.lo Span.hi s days))) (Qac Qar (Qat.gaps (Qae Span.lo Span.hi s days))),slT (List.length (Qat.goods (Qae Span.lo Span.hi s days))) (Qac Qaz (Qat.goods (Qae Span.lo Span.hi s days)))]
def QiD (B:Lo) (s:Qaa) (load:List Int) (days kind:Int) (lo hi:Int) (dJ0:Nat->Value):List Prop:=[Qa7 []/\Qas Tryz.prog J0 41 #[.agg #[slT s.stock.length (Qac Qar s.stock),slT s.use.length (Qac Qa6 s.use),.int .i64 s.glo,.int .i64 s.ghi,slT s.lots.length (Qac Qam s.lots),.int .i64 s.hold],slT load.length (Qac Qar load),.int .i64 days,.agg (Qjd s days),.int .i64 kind,.int .i64 (hi - Int.tdiv (hi - lo) 2)] (.tuple #[.int .i64 (Prod.fst (QeD (Qfs (Qae Span.lo Span.hi s days) kind (hi - Int.tdiv (hi - lo) 2)) (QfR (Qae Span.lo Span.hi s days) kind load) (Qbs (Qae Span.lo Span.hi s days)) (upI 0 days) (-1,s.stock.getD kind.toNat default))),.int .i64 (Prod.snd (QeD (Qfs (Qae Span.lo Span.hi s days) kind (hi - Int.tdiv (hi - lo) 2)) (QfR (Qae Span.lo Span.hi s days) kind load) (Qbs (Qae Span.lo Span.hi s days)) (upI 0 days) (-1,s.stock.getD kind.toNat default)))]),Qa7 []/\Qas Tryz.prog J0 47 #[.agg #[slT s.stock.length (Qac Qar s.stock),slT s.use.length (Qac Qa6 s.use),.int .i64 s.glo,.int .i64 s.ghi,slT s.lots.length (Qac Qam s.lots),.int .i64 s.hold],.int .i64 days,.bool true] (.agg (Qjd s days)),wq (hi - Int.tdiv (hi - lo) 2)=hi - Int.tdiv (hi - lo) 2,IntKind.wrap .i64 (Int.tdiv (hi - lo) 2)=Int.tdiv (hi - lo) 2,wq (hi - lo)=hi - lo,ltq lo hi=true]++([]:List Prop)
def QmL (s:Qaa) (load:List Int) (days kind:Int) (lo hi:Int) (dJ0:Nat->Value):Qay:=[(2,hvT),(6,hvI (hi - lo)),(7,hvI (Int.tdiv (hi - lo) 2)),(8,hvI (hi - Int.tdiv (hi - lo) 2)),(15,Qaj.pure (.agg (Qjd s days)) []),(18,Qaj.pure (.tuple #[.int .i64 (Prod.fst (QeD (Qfs (Qae Span.lo Span.hi s days) kind (hi - Int.tdiv (hi - lo) 2)) (QfR (Qae Span.lo Span.hi s days) kind load) (Qbs (Qae Span.lo Span.hi s days)) (upI 0 days) (-1,s.stock.getD kind.toNat default))),.int .i64 (Prod.snd (QeD (Qfs (Qae Span.lo Span.hi s days) kind (hi - Int.tdiv (hi - lo) 2)) (QfR (Qae Span.lo Span.hi s days) kind load) (Qbs (Qae Span.lo Span.hi s days)) (upI 0 days) (-1,s.stock.getD kind.toNat default)))]) [])]
theorem Qto (B:Lo) (s:Qaa) (load:List Int) (days kind:Int) (lo hi:Int) (dJ0:Nat->Value):landM (Qak Tryz.prog (Qa1 Tryz.prog) J0 B 16 1 (Qa4 50 41 (([1,2,3,4,9,10]:List Nat).zip (QdF s load days kind lo hi)) dJ0 QdE) (Qa3 (QbS s load days kind lo hi)) (2+(QbS s load days kind lo hi).length)
 (QmL s load days kind lo hi dJ0++[(25,hvT)]) 0 [] []) [1,2,3,4,9,10] [(2,KS.auto)] []=some ⟨50,41,QdE,[],.run,none,QdF s load days kind (hi - Int.tdiv (hi - lo) 2) (hi),QbS s load days kind (hi - Int.tdiv (hi - lo) 2) (hi),
 [ltq (Prod.fst (QeD (Qfs (Qae Span.lo Span.hi s days) kind (hi - Int.tdiv (hi - lo) 2)) (QfR (Qae Span.lo Span.hi s days) kind load) (Qbs (Qae Span.lo Span.hi s days)) (upI 0 days) (-1,s.stock.getD kind.toNat default))) 0=true]++QiD B s load days kind lo hi dJ0⟩:=by kernel_rfl
theorem Quh (B:Lo) (s:Qaa) (load:List Int) (days kind:Int) (lo hi:Int) (dJ0:Nat->Value):landM (Qak Tryz.prog (Qa1 Tryz.prog) J0 B 16 1 (Qa4 50 41 (([1,2,3,4,9,10]:List Nat).zip (QdF s load days kind lo hi)) dJ0 QdE) (Qa3 (QbS s load days kind lo hi)) (2+(QbS s load days kind lo hi).length)
 (QmL s load days kind lo hi dJ0++[(25,hvF),(27,hvI (hi - Int.tdiv (hi - lo) 2 - 1))]) 0 [] []) [1,2,3,4,9,10] [(2,KS.auto)] []=some ⟨50,41,QdE,[],.run,none,QdF s load days kind (lo) (hi - Int.tdiv (hi - lo) 2 - 1),QbS s load days kind (lo) (hi - Int.tdiv (hi - lo) 2 - 1),
 [wq (hi - Int.tdiv (hi - lo) 2 - 1)=hi - Int.tdiv (hi - lo) 2 - 1,ltq (Prod.fst (QeD (Qfs (Qae Span.lo Span.hi s days) kind (hi - Int.tdiv (hi - lo) 2)) (QfR (Qae Span.lo Span.hi s days) kind load) (Qbs (Qae Span.lo Span.hi s days)) (upI 0 days) (-1,s.stock.getD kind.toNat default))) 0=false]++QiD B s load days kind lo hi dJ0⟩:=by kernel_rfl
theorem QtE (B:Lo) (s:Qaa) (load:List Int) (days kind:Int) (lo hi:Int) (dJ0:Nat->Value):Qbd (Qak Tryz.prog (Qa1 Tryz.prog) J0 B 9 1 (Qa4 50 41 (([1,2,3,4,9,10]:List Nat).zip (QdF s load days kind lo hi)) dJ0 QdE) (Qa3 (QbS s load days kind lo hi)) (2+(QbS s load days kind lo hi).length)
 [(2,hvF)] 0 [] []) []=some (.int .i64 lo,
 [ltq lo hi=false]):=by kernel_rfl
theorem QsF (B:Lo) (s:Qaa) (load:List Int) (days kind:Int):landM (Qak Tryz.prog (Qa1 Tryz.prog) J0 B 7 1 (Qai Tryz.prog 50 41 (([.agg (Qah s).toArray,slI load,.int .i64 days,.int .i64 kind]).map (Qaq 0 4))) H00 1
 [] 0 [] []) [1,2,3,4,9,10] [(1,KS.auto)] []=some ⟨50,41,QdE,[],.run,none,QdF s load days kind (0) (1000),QbS s load days kind (0) (1000),
 []⟩:=by kernel_rfl
set_option maxHeartbeats 4000000 in
theorem Qu1 (s:Qaa) (load:List Int) (days kind:Int) (hs:Qa8 s=true) (hl:QbV s load=true) (hll:load.length<=10) (hd:0<=days/\days<=300) (hk:0<=kind/\kind < s.stock.length) {B:Lo} (hJ:∀w,B.has w->J0 w) {c0:CF}:∀m:Nat,(∀(lo hi:Int),(hi - lo).toNat=m->∀(l0:0<=lo) (lh:lo<=hi) (h1:hi<=1000),QsG B c0 s load days kind lo hi->EndsT Tryz.prog B c0 (.int .i64 (QhB (QeU s load days kind) lo hi))):=by
 intro m0
 induction m0 using Nat.strongRecOn with
 | _ m0 ih0=>
   intro lo hi hm0 l0 lh h1 ⟨dJ0,hdJ0,hg0⟩
   have ht1:=Qcj QcZ Qda hs hd
   have hn:=hl;simp only [QbV,Bool.and_eq_true] at hn;have hx:=Qhi hn.1
   have ht1:=Qcj QcZ Qda hs hd
   have hn:=hl;simp only [QbV,Bool.and_eq_true] at hn;have hx:=Qhi hn.1
   by_cases q0:(lo:Int) < (hi)
   ·
    have hp0:Qa7 (QiD B s load days kind lo hi dJ0):=by
     have hm:=QnC (show lo < hi by omega)
     exact ⟨⟨trivial,Q3U (s) (load) (days) (Qae Span.lo Span.hi s days) (kind) (hi - Int.tdiv (hi - lo) 2) (by with_reducible assumption) (by with_reducible assumption) (by with_reducible assumption) (by with_reducible assumption) (by with_reducible assumption) (by with_reducible assumption) (by omega)⟩,⟨⟨trivial,Q3I (s) (days) (by with_reducible assumption) (by with_reducible assumption)⟩,⟨(QaJ (by omega) (by omega)),⟨(Qgg (by omega) (by omega)),⟨(QaJ (by omega) (by omega)),⟨(Qbl q0),trivial⟩⟩⟩⟩⟩⟩
    by_cases q1:(Prod.fst (QeD (Qfs (Qae Span.lo Span.hi s days) kind (hi - Int.tdiv (hi - lo) 2)) (QfR (Qae Span.lo Span.hi s days) kind load) (Qbs (Qae Span.lo Span.hi s days)) (upI 0 days) (-1,s.stock.getD kind.toNat default)):Int) < (0)
    ·
     have hm:=QnC (show lo < hi by omega)
     have s2:=Qyw (s:=s) (load:=load) (days:=days) (kind:=kind) (show lo < hi by omega) (by with_reducible assumption)
     exact ((ih0 _ (by omega)) (hi - Int.tdiv (hi - lo) 2) (hi) rfl (by omega) (by omega) (by with_reducible assumption)
      (hg0.landM okF hJ Qab (Qto B s load days kind lo hi dJ0)
      ⟨(Qbl q1),hp0⟩ (by kernel_rfl) (by kernel_rfl))).cast (by (rw [s2];done))
    ·
     have hm:=QnC (show lo < hi by omega)
     have s2:=Q1x (s:=s) (load:=load) (days:=days) (kind:=kind) (show lo < hi by omega) (by with_reducible assumption)
     exact ((ih0 _ (by omega)) (lo) (hi - Int.tdiv (hi - lo) 2 - 1) rfl (by with_reducible assumption) (by omega) (by omega)
      (hg0.landM okF hJ Qab (Quh B s load days kind lo hi dJ0)
      ⟨(QaJ (by omega) (by omega)),⟨(Qbq (Int.not_lt.1 q1)),hp0⟩⟩ (by kernel_rfl) (by kernel_rfl))).cast (by (rw [s2];done))
   ·
    have s2:=Qs6 (p:=QeU s load days kind) (show hi<=lo by omega)
    exact (GoE.endsT okF hJ Qab hg0 (QtE B s load days kind lo hi dJ0)
     ⟨(Qbq (Int.not_lt.1 q0)),trivial⟩).cast (by (rw [s2];done))
set_option maxHeartbeats 4000000 in
theorem Qxn (s:Qaa) (load:List Int) (days kind:Int) (hs:Qa8 s=true) (hl:QbV s load=true) (hll:load.length<=10) (hd:0<=days/\days<=300) (hk:0<=kind/\kind < s.stock.length) {B:Lo} (hJ:∀w,B.has w->J0 w):EndsT Tryz.prog B (Qai Tryz.prog 50 41 (([.agg (Qah s).toArray,slI load,.int .i64 days,.int .i64 kind]).map (Qaq 0 4))) (.int .i64 (QhB (QeU s load days kind) 0 1000)):=by
 have ht1:=Qcj QcZ Qda hs hd
 have hn:=hl;simp only [QbV,Bool.and_eq_true] at hn;have hx:=Qhi hn.1
 exact ((Qu1 s load days kind hs hl hll hd hk hJ _) (0) (1000) rfl (by omega) (by omega) (by omega)
  (GoE.start.landM okF hJ Qab (QsF B s load days kind)
  trivial (by kernel_rfl) (by kernel_rfl))).cast (by rfl)
theorem Q0P (s:Qaa) (load:List Int) (days kind:Int) (hs:Qa8 s=true) (hl:QbV s load=true) (hll:load.length<=10) (hd:0<=days/\days<=300) (hk:0<=kind/\kind < s.stock.length):Qas Tryz.prog J0 50 #[.agg (Qah s).toArray,slI load,.int .i64 days,.int .i64 kind] (.int .i64 (QhB (QeU s load days kind) 0 1000)):=
 QaE (ts:=[.agg (Qah s).toArray,slI load,.int .i64 days,.int .i64 kind]) Qb8 (c0:=Qai Tryz.prog 50 41 (([.agg (Qah s).toArray,slI load,.int .i64 days,.int .i64 kind]).map (Qaq 0 4))) (by kernel_rfl) (by kernel_rfl) fun B hJ=> Qxn s load days kind hs hl hll hd hk hJ
end
end Go.Proofs.YtiabgkiccaodmaaGreat

namespace Go.Proofs.YtiabgkiccaodmaaGreat
open Go Go.CE Go.RowKit
theorem Qsn {s:Qaa} {load:List Int} {days:Int} {t:Qat} {k r:Int} (hs:Qa8 s=true) (hl:QbV s load=true) (ht:QcC s days t=true) (hd:0<=days/\days<=300):
 (QeD (Qfs t k r) (QfR t k load) (Qbs t) (upI 0 days) (-1,s.stock.getD k.toNat default)).1=QaL (Qfs t k r) (Qct (QcM load 0) t.goods k) (Qb2 days t.gaps) 0 (s.stock.getD k.toNat default):=by
 have ht':=ht
 simp only [QcC,QlW,Bool.and_eq_true,decide_eq_true_iff,List.all_eq_true,QaW] at ht'
 have hgp:=Qa9 hs
 have hlen:(Qb2 days t.gaps).length=days.toNat:=by unfold Qb2;rw [QgO,List.length_replicate]
 have hk:=QuI (use:=Qfs t k r) (br:=QfR t k load) (comes:=Qbs t) (Qb2 days t.gaps) 0 (s.stock.getD k.toNat default) (-1) (Int.le_refl 0) (fun j hj=> by
  have:=QmM (days:=days) (d:=(j:Int)) (gaps:=t.gaps) (fun g hg=> by have:=ht'.2.1.2.1 g hg;omega) (by omega) (by omega)
  rw [Int.zero_add,<-Int.toNat_natCast j,this];rfl)
 rw [hlen,show (0:Int)+(days.toNat:Int)=days by omega] at hk
 rw [hk,<-Qud hs hl]
 have hor:=QfZ (use:=Qfs t k r) (br:=Qct (QcM load 0) t.goods k) (Qb2 days t.gaps) 0 (s.stock.getD k.toNat default) (Int.le_refl 0)
 simp only
 split <;> omega
theorem Qxt {t t':Qat} {k r r':Int} (h0:0<=t'.uses.getD k.toNat default) (hu:t'.uses.getD k.toNat default<=t.uses.getD k.toNat default) (r0:0<=r') (hr:r'<=r):0<=Qfs t' k r'/\Qfs t' k r'<=Qfs t k r:=by
 have h1:0<=t'.uses.getD k.toNat default * r':=Int.mul_nonneg h0 r0
 have h2:t'.uses.getD k.toNat default * r'<=t.uses.getD k.toNat default * r:=Int.mul_le_mul hu hr r0 (by omega)
 unfold Qfs
 rw [Int.tdiv_eq_ediv_of_nonneg (by omega),Int.tdiv_eq_ediv_of_nonneg (by omega)]
 omega
theorem Qn4 {s:Qaa} {load:List Int} {days k r:Int} (hs:Qa8 s=true) (hl:QbV s load=true) (hd:0<=days/\days<=300):
 QeU s load days k r=decide (QaL (Qfs (Qae Span.lo Span.hi s days) k r) (Qct (QcM load 0) (Qae Span.lo Span.hi s days).goods k) (Qb2 days (Qae Span.lo Span.hi s days).gaps) 0 (s.stock.getD k.toNat default) < 0):=by
 unfold QeU
 rw [Qsn hs hl (Qcj QcZ Qda hs hd) hd]
theorem QzW {s:Qaa} {load:List Int} {days k r r':Int} {t:Qat} (hs:Qa8 s=true) (hl:QbV s load=true) (ht:QcC s days t=true) (hd:0<=days/\days<=300) (k0:0<=k) (k1:k < s.stock.length) (r0:0<=r') (hr:r'<=r) (h:QeU s load days k r=true):
 (QeD (Qfs t k r') (QfR t k load) (Qbs t) (upI 0 days) (-1,s.stock.getD k.toNat default)).1 < 0:=by
 have hE:=Qcj QcZ Qda hs hd
 have hL:=QdH hs hl
 have a:=QwM hs ht
 have hgp:=Qa9 hs
 have n1:=Qyx (k:=k) hs ht hd hL.2.1 hL.2.2.1 hL.2.2.2 k0 k1
 have n2:=Qyx (k:=k) hs hE hd hL.2.1 hL.2.2.1 hL.2.2.2 k0 k1
 simp only [gdB,Qyi] at n1 n2
 have u:=a.1 k k0 k1
 have ue:=Qla (f:=Span.lo) (g:=Span.hi) (days:=days) hs k0 k1
 rw [Qn4 hs hl hd] at h
 have h:=of_decide_eq_true h
 rw [Qsn hs hl ht hd]
 have m:=Qxt (t:=Qae Span.lo Span.hi s days) (t':=t) (k:=k) n1.2.2.1 (by rw [ue];exact u.2) r0 hr
 rcases Int.lt_or_le (QaL (Qfs t k r') (Qct (QcM load 0) t.goods k) (Qb2 days t.gaps) 0 (s.stock.getD k.toNat default)) 0 with h1 | h1
 ·exact h1
 ·have:=Qz2 (stock:=s.stock.getD k.toNat default) hd.1 m ⟨n2.2.2.2.2.1,QpH (k:=k) (g:=(Qae Span.lo Span.hi s days).goods) (g':=t.goods) hL.2.2.2 (fun x x0 x1=> by rw [QoF hs x0 x1 k0 k1];exact (a.2.2.2 x k x0 x1 k0 k1).1)⟩ (gaps:=(Qae Span.lo Span.hi s days).gaps) (gaps':=t.gaps) (fun g hg' x hx'=> by rw [QpW hg'];exact (a.2.1 x hx').2) (fun g hg'=> by rw [QpW hg'];show 1<=s.ghi;omega) (fun g hg'=> by have:=a.2.1 g hg';omega) a.2.2.1 h1
  omega
theorem QsP {s:Qaa} {load:List Int} {days k r r':Int} (hs:Qa8 s=true) (hl:QbV s load=true) (hd:0<=days/\days<=300) (k0:0<=k) (k1:k < s.stock.length) (r0:0<=r') (hr:r'<=r) (h:QeU s load days k r=true):QeU s load days k r'=true:=
 decide_eq_true (QzW hs hl (Qcj QcZ Qda hs hd) hd k0 k1 r0 hr h)
theorem QmW {br:Int} (hb:0<=br):∀(cs:List Bool) (d left:Int),0<=left->QaL 0 br cs d left= -1
 | [],_,_,_=> rfl
 | c::cs,d,left,h=> by
   have hL:0<=left+bif c then br else 0:=by cases c <;> simp only [cond_true,cond_false] <;> omega
   show (bif decide ((left+bif c then br else 0) < 0) then d else QaL 0 br cs (d+1) (Qio 0 (left+bif c then br else 0)))= -1
   rw [decide_eq_false (by omega),cond_false]
   exact QmW hb cs _ _ (by unfold Qio;split <;> omega)
theorem Q2k {s:Qaa} {load:List Int} {days k:Int} (hs:Qa8 s=true) (hl:QbV s load=true) (hd:0<=days/\days<=300) (k0:0<=k) (k1:k < s.stock.length):QeU s load days k 0=true:=by
 have hE:=Qcj QcZ Qda hs hd
 have hL:=QdH hs hl
 have n2:=Qyx (k:=k) hs hE hd hL.2.1 hL.2.2.1 hL.2.2.2 k0 k1
 simp only [gdB,Qyi] at n2
 rw [Qn4 hs hl hd]
 have e:Qfs (Qae Span.lo Span.hi s days) k 0=0:=by unfold Qfs;rw [Int.mul_zero];rfl
 rw [e,QmW n2.2.2.2.2.1 _ _ _ n2.1];rfl
theorem Qy2 {s:Qaa} {load:List Int} {days k r:Int} (hs:Qa8 s=true) (hl:QbV s load=true) (hd:0<=days/\days<=300) (k0:0<=k) (k1:k < s.stock.length):QiP (QwF s (QcM load 0) days k) r= !keepR s load days k r:=by
 have e:=QwG (s:=s) (load:=QcM load 0) (days:=days) (t:=Qae Span.lo Span.hi s days) k0 k1
 rw [show QwF s (QcM load 0) days k=_ from e,QqZ,Qn4 hs hl hd]
 have eu:Qba (Qyi s (QcM load 0) days (Qae Span.lo Span.hi s days) k).use r=Qfs (Qae Span.lo Span.hi s days) k r:=by
  show ((Qae Span.lo Span.hi s days).uses.getD k.toNat default * r+1000 - 1).tdiv 1000=_
  unfold Qfs
  congr 1
  omega
 rw [eu]
 have hor:=QfZ (use:=Qfs (Qae Span.lo Span.hi s days) k r) (br:=Qct (QcM load 0) (Qae Span.lo Span.hi s days).goods k) (Qb2 days (Qae Span.lo Span.hi s days).gaps) 0 (s.stock.getD k.toNat default) (Int.le_refl 0)
 congr 1
 exact decide_eq_decide.2 ⟨fun h=> by rw [show QaL (Qfs (Qae Span.lo Span.hi s days) k r) (Qct (QcM load 0) (Qae Span.lo Span.hi s days).goods k) (Qb2 days (Qae Span.lo Span.hi s days).gaps) 0 (s.stock.getD k.toNat default)= -1 from h];decide,fun h=> by
  show QaL (Qfs (Qae Span.lo Span.hi s days) k r) (Qct (QcM load 0) (Qae Span.lo Span.hi s days).goods k) (Qb2 days (Qae Span.lo Span.hi s days).gaps) 0 (s.stock.getD k.toNat default)= -1
  omega⟩
theorem Qwh {s:Qaa} {load:List Int} {days k:Int} (hs:Qa8 s=true) (hl:QbV s load=true) (hd:0<=days/\days<=300) (k0:0<=k) (k1:k < s.stock.length):QnJ s load days k=QhB (QeU s load days k) 0 1000:=by
 unfold QnJ
 exact Q0Y (fun r _ _=> Qy2 hs hl hd k0 k1) (Q2k hs hl hd k0 k1) fun r r' g1 g2 g3 g4=> QsP hs hl hd k0 k1 g1 g2 g4
end Go.Proofs.YtiabgkiccaodmaaGreat

namespace Go.Proofs.YtiabgkiccaodmaaGreat
open Go Go.CE Go.RowKit
noncomputable section
set_option maxRecDepth 100000
def QdB (s:Qaa) (load:List Int) (days kind:Int):Array Value:=#[.agg #[slT s.stock.length (Qac Qar s.stock),slT s.use.length (Qac Qa6 s.use),.int .i64 s.glo,.int .i64 s.ghi,slT s.lots.length (Qac Qam s.lots),.int .i64 s.hold],slT load.length (Qac Qar load),.int .i64 days,.int .i64 kind]
def Qe2 (s:Qaa) (load:List Int) (days:Int):Array Value:=#[.agg #[slT s.stock.length (Qac Qar s.stock),slT s.use.length (Qac Qa6 s.use),.int .i64 s.glo,.int .i64 s.ghi,slT s.lots.length (Qac Qam s.lots),.int .i64 s.hold],slT load.length (Qac Qar load),.int .i64 days]
def Qf8 (s:Qaa):Array Value:=#[slT s.stock.length (Qac Qar s.stock),slT s.use.length (Qac Qa6 s.use),.int .i64 s.glo,.int .i64 s.ghi,slT s.lots.length (Qac Qam s.lots),.int .i64 s.hold]
def Qh2 (B:Lo) (s:Qaa) (load:List Int) (days kind:Int):List Prop:=[Qa7 []/\Qas Tryz.prog J0 36 #[.agg (Qf8 s)] (.bool true)]++([]:List Prop)
def QjW (s:Qaa) (load:List Int) (days kind:Int):Qay:=[(3,Qaj.pure (.bool true) [])]
theorem Qrz (B:Lo) (s:Qaa) (load:List Int) (days kind:Int):Qbd (Qak Tryz.prog (Qa1 Tryz.prog) J0 B 10 1 (Qai Tryz.prog 11 62 (([.agg (Qah s).toArray,slI load,.int .i64 days,.int .i64 kind]).map (Qaq 0 4))) H00 1
 (QjW s load days kind++[(8,hvT),(10,Qaj.pure (.bool true) [])]) 0 [] []) []=some (.bool true,
 [Qa7 []/\Qas Tryz.prog J0 17 #[] (.bool true),ltq 10 (↑load.length:Int)=true]++Qh2 B s load days kind):=by kernel_rfl
def Qd7 (B:Lo) (s:Qaa) (load:List Int) (days kind:Int):List Prop:=[ltq 10 (↑load.length:Int)=false]++Qh2 B s load days kind
def Qe4 (s:Qaa) (load:List Int) (days kind:Int):Qay:=QjW s load days kind++[(8,hvF)]
def Qhl (B:Lo) (s:Qaa) (load:List Int) (days kind:Int):List Prop:=[Qa7 []/\Qas Tryz.prog J0 50 (QdB s load days kind) (.int .i64 (QhB (QeU s load days kind) 0 1000)),Qa7 []/\Qas Tryz.prog J0 49 #[.agg (Qf8 s),.int .i64 kind] (.bool true),Qa7 []/\Qas Tryz.prog J0 39 (Qe2 s load days) (.bool true),Qa7 []/\Qas Tryz.prog J0 48 (QdB s load days kind) (.tuple #[.int .i64 (QnJ s load days kind),.int .i64 0])]++Qd7 B s load days kind
def QkY (s:Qaa) (load:List Int) (days kind:Int):Qay:=Qe4 s load days kind++[(14,Qaj.pure (.tuple #[.int .i64 (QnJ s load days kind),.int .i64 0]) []),(23,Qaj.pure (.bool true) []),(28,Qaj.pure (.bool true) []),(39,Qaj.pure (.int .i64 (QhB (QeU s load days kind) 0 1000)) [])]
theorem Qrw (B:Lo) (s:Qaa) (load:List Int) (days kind:Int):Qbd (Qak Tryz.prog (Qa1 Tryz.prog) J0 B 18 1 (Qai Tryz.prog 11 62 (([.agg (Qah s).toArray,slI load,.int .i64 days,.int .i64 kind]).map (Qaq 0 4))) H00 1
 (QkY s load days kind++[(40,hvT),(43,Qaj.pure (.bool true) [])]) 0 [] []) []=some (.bool true,
 [Qa7 []/\Qas Tryz.prog J0 17 #[] (.bool true),eqq (QnJ s load days kind) (QhB (QeU s load days kind) 0 1000)=true]++Qhl B s load days kind):=by kernel_rfl
theorem QqM (B:Lo) (s:Qaa) (load:List Int) (days kind:Int):Qbd (Qak Tryz.prog (Qa1 Tryz.prog) J0 B 18 1 (Qai Tryz.prog 11 62 (([.agg (Qah s).toArray,slI load,.int .i64 days,.int .i64 kind]).map (Qaq 0 4))) H00 1
 (QkY s load days kind++[(40,hvF)]) 0 [] []) []=some (.bool false,
 [eqq (QnJ s load days kind) (QhB (QeU s load days kind) 0 1000)=false]++Qhl B s load days kind):=by kernel_rfl
theorem Qrc (B:Lo) (s:Qaa) (load:List Int) (days kind:Int):Qbd (Qak Tryz.prog (Qa1 Tryz.prog) J0 B 17 1 (Qai Tryz.prog 11 62 (([.agg (Qah s).toArray,slI load,.int .i64 days,.int .i64 kind]).map (Qaq 0 4))) H00 1
 (Qe4 s load days kind++[(14,Qaj.pure (.tuple #[.int .i64 0,.int .i64 2]) []),(23,Qaj.pure (.bool true) []),(28,Qaj.pure (.bool false) []),(38,Qaj.pure (.bool true) [])]) 0 [] []) []=some (.bool true,
 [Qa7 []/\Qas Tryz.prog J0 17 #[] (.bool true),Qa7 []/\Qas Tryz.prog J0 49 #[.agg (Qf8 s),.int .i64 kind] (.bool false),Qa7 []/\Qas Tryz.prog J0 39 (Qe2 s load days) (.bool true),Qa7 []/\Qas Tryz.prog J0 48 (QdB s load days kind) (.tuple #[.int .i64 0,.int .i64 2])]++Qd7 B s load days kind):=by kernel_rfl
theorem QqP (B:Lo) (s:Qaa) (load:List Int) (days kind:Int):Qbd (Qak Tryz.prog (Qa1 Tryz.prog) J0 B 17 1 (Qai Tryz.prog 11 62 (([.agg (Qah s).toArray,slI load,.int .i64 days,.int .i64 kind]).map (Qaq 0 4))) H00 1
 (Qe4 s load days kind++[(14,Qaj.pure (.tuple #[.int .i64 0,.int .i64 2]) []),(23,Qaj.pure (.bool false) []),(38,Qaj.pure (.bool true) [])]) 0 [] []) []=some (.bool true,
 [Qa7 []/\Qas Tryz.prog J0 17 #[] (.bool true),Qa7 []/\Qas Tryz.prog J0 39 (Qe2 s load days) (.bool false),Qa7 []/\Qas Tryz.prog J0 48 (QdB s load days kind) (.tuple #[.int .i64 0,.int .i64 2])]++Qd7 B s load days kind):=by kernel_rfl
theorem QrD (B:Lo) (s:Qaa) (load:List Int) (days kind:Int):Qbd (Qak Tryz.prog (Qa1 Tryz.prog) J0 B 17 1 (Qai Tryz.prog 11 62 (([.agg (Qah s).toArray,slI load,.int .i64 days,.int .i64 kind]).map (Qaq 0 4))) H00 1
 (Qe4 s load days kind++[(14,Qaj.pure (.tuple #[.int .i64 0,.int .i64 2]) []),(23,Qaj.pure (.bool false) []),(38,Qaj.pure (.bool true) [])]) 0 [] []) []=some (.bool true,
 [Qa7 []/\Qas Tryz.prog J0 17 #[] (.bool true),Qa7 []/\Qas Tryz.prog J0 39 (Qe2 s load days) (.bool false),Qa7 []/\Qas Tryz.prog J0 48 (QdB s load days kind) (.tuple #[.int .i64 0,.int .i64 2])]++Qd7 B s load days kind):=by kernel_rfl
theorem Qrd (B:Lo) (s:Qaa) (load:List Int) (days kind:Int):Qbd (Qak Tryz.prog (Qa1 Tryz.prog) J0 B 17 1 (Qai Tryz.prog 11 62 (([.agg (Qah s).toArray,slI load,.int .i64 days,.int .i64 kind]).map (Qaq 0 4))) H00 1
 (Qe4 s load days kind++[(14,Qaj.pure (.tuple #[.int .i64 0,.int .i64 2]) []),(23,Qaj.pure (.bool false) []),(38,Qaj.pure (.bool true) [])]) 0 [] []) []=some (.bool true,
 [Qa7 []/\Qas Tryz.prog J0 17 #[] (.bool true),Qa7 []/\Qas Tryz.prog J0 39 (Qe2 s load days) (.bool false),Qa7 []/\Qas Tryz.prog J0 48 (QdB s load days kind) (.tuple #[.int .i64 0,.int .i64 2])]++Qd7 B s load days kind):=by kernel_rfl
theorem QqO (B:Lo) (s:Qaa) (load:List Int) (days kind:Int):Qbd (Qak Tryz.prog (Qa1 Tryz.prog) J0 B 10 1 (Qai Tryz.prog 11 62 (([.agg (Qah s).toArray,slI load,.int .i64 days,.int .i64 kind]).map (Qaq 0 4))) H00 1
 [(3,Qaj.pure (.bool false) []),(10,Qaj.pure (.bool true) [])] 0 [] []) []=some (.bool true,
 [Qa7 []/\Qas Tryz.prog J0 17 #[] (.bool true),Qa7 []/\Qas Tryz.prog J0 36 #[.agg (Qf8 s)] (.bool false)]):=by kernel_rfl
set_option maxHeartbeats 4000000 in
theorem QsU (s:Qaa) (load:List Int) (days kind:Int)  (hfacts:s.stock.length<=9223372036854775807) {B:Lo} (hJ:∀w,B.has w->J0 w):EndsT Tryz.prog B (Qai Tryz.prog 11 62 (([.agg (Qah s).toArray,slI load,.int .i64 days,.int .i64 kind]).map (Qaq 0 4))) (.bool true):=by
 cases q0:Qgy s with
 | true=>
   have hp0:Qa7 (Qh2 B s load days kind):=by
    have hb:=QcG ‹Qgy s=true›
    exact ⟨⟨trivial,(by have t_:=Qvv (s);rw [q0] at t_;exact t_)⟩,trivial⟩
   by_cases q1:(10:Int) < ((↑load.length:Int))
   ·
    exact (GoE.endsT okF hJ Qab GoE.start (Qrz B s load days kind)
     ⟨⟨trivial,known⟩,⟨(Qbl q1),hp0⟩⟩).cast rfl
   ·
    have hp1:Qa7 (Qd7 B s load days kind):=by
     exact ⟨(Qbq (Int.not_lt.1 q1)),hp0⟩
    cases q2:Qa8 s with
    | true=>
      cases q3:QbV s load with
      | true=>
        cases q4:inB days 0 300 with
        | true=>
          cases q5:inB kind 0 ((↑s.stock.length:Int) - 1) with
          | true=>
            have hp2:Qa7 (Qhl B s load days kind):=by
             have hb:=QcG ‹Qgy s=true›
             have g2:=QaW.1 ‹inB days 0 300=true›
             have g3:=QaW.1 ‹inB kind 0 _=true›
             have g4:=Qwh ‹Qa8 s=true› ‹QbV s load=true› g2 g3.1 (by omega)
             exact ⟨⟨trivial,Q0P (s) (load) (days) (kind) (by with_reducible assumption) (by with_reducible assumption) (by omega) (by with_reducible assumption) (by omega)⟩,⟨⟨trivial,(by have t_:=Q2T (s) (kind);rw [q5] at t_;exact t_)⟩,⟨⟨trivial,(by have t_:=Qly (s) (load) (days) (by with_reducible assumption) (by omega);rw [q2,q3,q4] at t_;exact t_)⟩,⟨⟨trivial,(by have t_:=QkX (s) (load) (days) (kind);rw [q2,q3,q4,q5] at t_;exact t_)⟩,hp1⟩⟩⟩⟩
            by_cases q6:(QnJ s load days kind:Int)=(QhB (QeU s load days kind) 0 1000)
            ·
             exact (GoE.endsT okF hJ Qab GoE.start (Qrw B s load days kind)
              ⟨⟨trivial,known⟩,⟨(Qn3 q6),hp2⟩⟩).cast rfl
            ·
             have hb:=QcG ‹Qgy s=true›
             have g2:=QaW.1 ‹inB days 0 300=true›
             have g3:=QaW.1 ‹inB kind 0 _=true›
             have g4:=Qwh ‹Qa8 s=true› ‹QbV s load=true› g2 g3.1 (by omega)
             exact (GoE.endsT okF hJ Qab GoE.start (QqM B s load days kind)
              ⟨(QnT q6),hp2⟩).cast (by (exfalso;omega))
          | false=>
            have hb:=QcG ‹Qgy s=true›
            have g2:=QaW.1 ‹inB days 0 300=true›
            exact (GoE.endsT okF hJ Qab GoE.start (Qrc B s load days kind)
             ⟨⟨trivial,known⟩,⟨⟨trivial,(by have t_:=Q2T (s) (kind);rw [q5] at t_;exact t_)⟩,⟨⟨trivial,(by have t_:=Qly (s) (load) (days) (by with_reducible assumption) (by omega);rw [q2,q3,q4] at t_;exact t_)⟩,⟨⟨trivial,(by have t_:=QkX (s) (load) (days) (kind);rw [q2,q3,q4,q5] at t_;exact t_)⟩,hp1⟩⟩⟩⟩).cast rfl
        | false=>
          have hb:=QcG ‹Qgy s=true›
          exact (GoE.endsT okF hJ Qab GoE.start (QqP B s load days kind)
           ⟨⟨trivial,known⟩,⟨⟨trivial,(by have t_:=Qly (s) (load) (days) (by with_reducible assumption) (by omega);rw [q2,q3,q4] at t_;exact t_)⟩,⟨⟨trivial,(by have t_:=QkX (s) (load) (days) (kind);rw [q2,q3,q4] at t_;exact t_)⟩,hp1⟩⟩⟩).cast rfl
      | false=>
        have hb:=QcG ‹Qgy s=true›
        exact (GoE.endsT okF hJ Qab GoE.start (QrD B s load days kind)
         ⟨⟨trivial,known⟩,⟨⟨trivial,(by have t_:=Qly (s) (load) (days) (by with_reducible assumption) (by omega);rw [q2,q3] at t_;exact t_)⟩,⟨⟨trivial,(by have t_:=QkX (s) (load) (days) (kind);rw [q2,q3] at t_;exact t_)⟩,hp1⟩⟩⟩).cast rfl
    | false=>
      have hb:=QcG ‹Qgy s=true›
      exact (GoE.endsT okF hJ Qab GoE.start (Qrd B s load days kind)
       ⟨⟨trivial,known⟩,⟨⟨trivial,(by have t_:=Qly (s) (load) (days) (by with_reducible assumption) (by omega);rw [q2] at t_;exact t_)⟩,⟨⟨trivial,(by have t_:=QkX (s) (load) (days) (kind);rw [q2] at t_;exact t_)⟩,hp1⟩⟩⟩).cast rfl
 | false=>
   exact (GoE.endsT okF hJ Qab GoE.start (QqO B s load days kind)
    ⟨⟨trivial,known⟩,⟨⟨trivial,(by have t_:=Qvv (s);rw [q0] at t_;exact t_)⟩,trivial⟩⟩).cast rfl
theorem QyL (s:Qaa) (load:List Int) (days kind:Int)  :Qas Tryz.prog J0 11 #[.agg (Qah s).toArray,slI load,.int .i64 days,.int .i64 kind] (.bool true):=
 QcH (ts:=[.agg (Qah s).toArray,slI load,.int .i64 days,.int .i64 kind]) (s.stock.length<=9223372036854775807) (fun _ _ ht=> ht.ln2 (i:=0) (j:=0) rfl rfl) Qb8 (c0:=Qai Tryz.prog 11 62 (([.agg (Qah s).toArray,slI load,.int .i64 days,.int .i64 kind]).map (Qaq 0 4))) (by kernel_rfl) (by kernel_rfl) fun hfacts B hJ=> QsU s load days kind  hfacts hJ
end
end Go.Proofs.YtiabgkiccaodmaaGreat

namespace Go.Proofs.YtiabgkiccaodmaaGreat
open Go Go.CE Go.RowKit
theorem Qr2:∀trs,QrY [QjY,.slice .int,.int,.int] trs->Qas Tryz.prog J0 11 trs.toArray (.bool true):=by
 rintro trs ⟨t0,_,rfl,h0,t1,_,rfl,h1,t2,_,rfl,h2,t3,_,rfl,h3,rfl⟩
 obtain ⟨s,rfl⟩:=Qwg h0
 obtain ⟨l,rfl⟩:=Qyp h1
 obtain ⟨z,rfl⟩:=QvZ h2
 obtain ⟨k,rfl⟩:=QvZ h3
 exact QyL s l z k
end Go.Proofs.YtiabgkiccaodmaaGreat

namespace Go.Proofs.YtiabgkiccaodmaaGreat
open Go Go.CE Go.ChangeShapes Go.WideShapes Go.RowKit
set_option maxRecDepth 100000 in
theorem QhF (os:Os) (started:os.Started) (H:Type) (enc:TypeId×Value->H):
 ReturnsInHanded {} Tryz.checked os 11 .any (Rows.shipRationsSpec.pre6 enc Tryz.prog Tryz.f11 Rows.shipRationsRow.domain false) (Rows.shipRationsSpec.post enc Tryz.prog Tryz.f11 false true false false):=by
 refine returnsInHanded_of_change (C:=Tryz.checked) (show ownKnob Tryz.prog.godebug=none by kernel_rfl) started (by kernel_rfl) Tryz.func11
  (ChangeSpec.witness6 (enc:=enc) (C:=Tryz.checked) false ⟨#[],#[Sh.zeroA QjY,Sh.zeroA (.slice .int),Sh.zeroA .int,Sh.zeroA .int],[]⟩ 8 (by kernel_rfl) (by kernel_rfl) (by kernel_rfl) (by kernel_rfl)) ?_
 intro W base args ds gs before hval0 hW _ _
 have hval:∀(j:Nat) t v,Tryz.f11.params[j]? =some t->args[j]? =some v->Value.okWide Tryz.prog W .any base t v:=hval0
 have hW':=hW
 obtain ⟨p,q,hA0,hV,rfl,_,_⟩:=hW
 obtain ⟨rfl,rfl⟩:=trodVars_none hV
 have hA1:DataW.TrodAll enc Tryz.prog W 0 (fun _=> true) true Tryz.f11.params.toList args.toList ds p:=hA0
 have hlt:∀x∈p,x.block < W.heap.size:=fun x hx=> hW'.lt x (by simpa using hx)
 have hch:Ql0 Tryz.prog [QjY,(.slice .int),.int,.int] Tryz.f11.params.toList=true:=by kernel_rfl
 have hrd:(Tryz.f11.params.toList.all fun t=> Tryz.prog.readableRec t && decide (t < Tryz.prog.types.size))=true:=by kernel_rfl
 refine (QyI (J:=J0) (ss:=[QjY,(.slice .int),.int,.int]) trivial hch hA1 (fun j t v h1 h2=> hval j t v (by simpa using h1) h2) Qr2).mono fun e W' ⟨he,hB⟩=> ?_
 subst he
 have hB2:=QhH (show laidOutB Tryz.prog=true by kernel_rfl) hB _ _ _ _ hrd hA1 hlt
 have hA:DataW.TrodAll enc Tryz.prog W 0 (fun _=> true) true Tryz.f11.params.toList args.toList ds p:=hA1
 rw [Tryz.params11] at hA
 simp only [List.toList_toArray] at hA
 have hA:=hA
 obtain ⟨v0,vs0,d0,ds0,p0,q0,_,rfl,_,h0,_⟩:=CE.trodAll_cons hA
 obtain ⟨v1,vs1,d1,ds1,p1,q1,_,rfl,_,h1,_⟩:=CE.trodAll_cons h0
 obtain ⟨v2,vs2,d2,ds2,p2,q2,_,rfl,_,h2,_⟩:=CE.trodAll_cons h1
 obtain ⟨v3,vs3,d3,ds3,p3,q3,_,rfl,_,h3,_⟩:=CE.trodAll_cons h2
 obtain ⟨_,rfl,_⟩:=CE.trodAll_nil h3
 exact ⟨_,rfl,_,_,_,[],_,[],hW',trodAll_mk1 (shut_bool Tryz.underlying4 _),hB2,rfl,hB.frame _,fun h=> by cases h⟩
theorem shipRations_row:Rows.ShipRationsSaid:=
 OpenClaim.holds_of_wide 11 Tryz.f11 rfl rfl rfl rfl rfl rfl rfl ⟨rfl,rfl,rfl,rfl,rfl⟩ rfl rfl rfl rfl rfl (by kernel_rfl) Tryz.func11 (by kernel_rfl)
  (of_decide_eq_true (by kernel_rfl)) (by unfold Func.isWrapper;first | (rw [if_pos (by decide+kernel)];kernel_rfl) | (rw [if_neg (by decide+kernel)];exact ⟨rfl,rfl⟩))
  (fun os started H enc _=> QhF os started H enc)
end Go.Proofs.YtiabgkiccaodmaaGreat
