/- Reef: mathematics of the reference's seasons. -/
import Derived.Test.YtncjjangllkokaaZRP14
set_option linter.all false
namespace Go.Proofs.Ytncjjangllkokaa
open Go Go.CE Go.RowKit
theorem QiN {β:Type} {n i:Int} {g g':Int->β} {v:β} (h0:0<=i) (h:i < n) (hv:∀k,0<=k->k < n->(if k=i then v else g k)=g' k):(Qdp n g).set i.toNat v=Qdp n g':=by
 rw [QgF h0 h];exact Qbe hv
def Qoz (n:Int) (ps:List Qaa) (gs ts:List (List Int)) (f:F4) (s:Int):List RW:=(upI 0 s).map fun k=> ⟨ps.length,Qdp n (stF ps gs ts f (k.toNat+1)).at⟩
theorem Qyv {s:Int} (h:0<=s):upI 0 (s+1)=upI 0 s++[s]:=by
 unfold upI;rw [show (s+1 - 0).toNat=(s - 0).toNat+1 by omega,List.range_succ,List.map_append];congr 1;simp;omega
theorem Qdg {n s:Int} {ps:List Qaa} {gs ts:List (List Int)} {f:F4}:(Qoz n ps gs ts f s).length=s.toNat:=by simp [Qoz,upI]
theorem Qps {n s:Int} {ps:List Qaa} {gs ts:List (List Int)} {f:F4} (h:0<=s):Qoz n ps gs ts f (s+1)=Qoz n ps gs ts f s++[⟨ps.length,Qdp n (stF ps gs ts f (s.toNat+1)).at⟩]:=by
 unfold Qoz;rw [Qyv h,List.map_append];rfl
theorem Q2B {f:F4} {n:Nat} (h:n<=4):Qdp n f.at=f.list.take n:=by
 have:n=0\/n=1\/n=2\/n=3\/n=4:=by omega
 rcases this with rfl | rfl | rfl | rfl | rfl <;> rfl
theorem Q2E {n:Int} {ps:List Qaa} {gs ts:List (List Int)} {f:F4} {s:Int} (h:n<=s) (hs:s<=n) (h4:ps.length<=4):Qae QaN (Qoz ps.length ps gs ts f s)=Qae QaP (Qbk n ps gs ts f):=by
 have e:s=n:=by omega
 subst e;have e:Qoz ps.length ps gs ts f s=(upI 0 s).map fun k=> ⟨ps.length,Q0X ps gs ts f k⟩:=by
  unfold Qoz;refine List.map_congr_left fun k _=> ?_
  rw [Q2B h4];rfl
 rw [e];exact QqV _ _ _ fun k _=> QsK h4
section
variable {ps:List Qaa} {n:Int} {gs ts:List (List Int)} {f:F4} {l:List Int}
theorem QgQ {i:Int} (h0:0<=i) (h:i < 4):nth l i=(Qac l).at i:=by
 rcases QjU h0 h with rfl | rfl | rfl | rfl <;> rfl
theorem Qts (h:OkT ps n gs ts (Qac l)) {i:Int} (h0:0<=i) (h1:i < 4):0<=nth l i/\nth l i<=1000000000:=by
 have:=QcS h.hf h0 h1;rw [QgQ h0 h1];have:=h.hs;omega
theorem Qyh (h:OkT ps n gs ts (Qac l)) {i:Int} (h0:0<=i) (h1:i<=4):0<=Qa9 0 i (nth l)/\Qa9 0 i (nth l)<=4000000000:=by
 have:=QbL (g:=nth l) (K:=1000000000) i.toNat fun m m0 m1=> Qts h m0 (by omega)
 rw [show ((i.toNat:Nat):Int)=i by omega] at this;omega
theorem Q1g {g:Int->Int}:Qa9 0 2 g=g 0+g 1:=by rw [show (2:Int)=1+1 from rfl,QaC (by omega),Qo4]
theorem Q0N {g:Int->Int}:Qa9 0 3 g=g 0+g 1+g 2:=by rw [show (3:Int)=2+1 from rfl,QaC (by omega),Q1g]
theorem Q32 {g:Int->Int}:Qa9 0 4 g=g 0+g 1+g 2+g 3:=by rw [show (4:Int)=3+1 from rfl,QaC (by omega),Q0N]
def zB (n:Nat) (f:F4):Prop:=∀j:Int,n<=j->j < 4->f.at j=0
theorem Q0U {n:Nat} {f:F4} (hz:zB n f) (h0:1<=n) (h4:n<=4):Qa9 0 n f.at=f.sum:=by
 have e:f.sum=f.at 0+f.at 1+f.at 2+f.at 3:=rfl;have:n=1\/n=2\/n=3\/n=4:=by omega
 rcases this with rfl | rfl | rfl | rfl
 ·have a:=hz 1 (by omega) (by omega);have b:=hz 2 (by omega) (by omega);have c:=hz 3 (by omega) (by omega);have s:Qa9 0 ((1:Nat):Int) f.at=f.at 0:=Qo4;omega
 ·have b:=hz 2 (by omega) (by omega);have c:=hz 3 (by omega) (by omega);have s:Qa9 0 ((2:Nat):Int) f.at=f.at 0+f.at 1:=Q1g;omega
 ·have c:=hz 3 (by omega) (by omega);have s:Qa9 0 ((3:Nat):Int) f.at=f.at 0+f.at 1+f.at 2:=Q0N;omega
 ·have s:Qa9 0 ((4:Nat):Int) f.at=f.at 0+f.at 1+f.at 2+f.at 3:=Q32;omega
theorem QsX:zB l.length (Qac l):=fun j h0 h1=> by
 rw [<-QgQ (by omega) h1];unfold nth;rw [List.getD_eq_getElem?_getD,List.getElem?_eq_none (by omega)];rfl
theorem Qyc (h:OkT ps n gs ts (Qac l)) (hl:l.length=ps.length):Qa9 0 l.length (nth l)=(Qac l).sum:=by
 have h1:=h.hp.1;have h2:=h.n0;rw [<-Q0U QsX (by omega) (by omega)];unfold Qa9;congr 1;refine List.map_congr_left fun k hk=> ?_
 unfold upI at hk;obtain ⟨m,hm,rfl⟩:=List.mem_map.1 hk;have:=List.mem_range.1 hm;exact QgQ (by omega) (by omega)
theorem QtV (h4:l.length<=4):Qdp l.length (Qac l).at=l:=by
 have e:Qdp l.length (Qac l).at=Qdp l.length (fun k=> id (l.getD k.toNat default)):=Qbe fun k h0 h1=> (QgQ h0 (by omega)).symm
 rw [e,<-Qx8,List.map_id]
theorem Q4Q {g:List Int} (hz:zB ps.length f):zB ps.length (grE g ps f):=fun j h0 h1=> by
 unfold grE;rw [QhD (by omega) h1];unfold grI;rw [if_neg (by omega)];exact hz j h0 h1
theorem Q1c {g:Int->Int}:∀k:Nat,(∀m:Int,0<=m->m < k->g m=0)->Qa9 0 k g=0
 | 0,_=> Qcd (Int.le_refl _)
 | k+1,h=> by
   rw [show ((k+1:Nat):Int)=(k:Int)+1 by omega,QaC (by omega),Q1c k fun m m0 m1=> h m m0 (by omega),h k (by omega) (by omega)];rfl
theorem Q4O (hp:QkX ps) (hz:zB ps.length f):zB ps.length (drE ps f):=fun j h0 h1=> by
 unfold drE;rw [QhD (by omega) h1];unfold drI;rw [if_neg (by omega),Q1c ps.length fun m m0 m1=> if_neg fun e=> by
  have:=QcZ (hp.2 m m0 m1).2.2.1;omega,hz j h0 h1]
 rfl
theorem Q4M {g:List Int} (hz:zB ps.length f):zB ps.length (tkE g ps f):=fun j h0 h1=> by
 unfold tkE;rw [QhD (by omega) h1];unfold tkI;rw [if_neg (by omega)];exact hz j h0 h1
theorem Q4F (hp:QkX ps) (hz:zB ps.length f):∀k:Nat,zB ps.length (stF ps gs ts f k)
 | 0=> hz
 | k+1=> Q4M (Q4O hp (Q4Q (Q4F hp hz k)))
theorem Q3h {g:List Int} {j:Int} (h:0<=j):grI g ps f 0 j=f.at j:=by unfold grI;rw [if_neg (by omega)]
theorem Q2X {g:List Int} {j:Int} (h:0<=j):tkI g f 0 j=f.at j:=by unfold tkI;rw [if_neg (by omega)]
theorem Q3f {g:List Int} {i k:Int}:(if k=i then f.at i+Qbp g ps f i else grI g ps f i k)=grI g ps f (i+1) k:=by
 unfold grI;by_cases e:k=i
 ·subst e;rw [if_pos rfl,if_pos (by omega)]
 ·rw [if_neg e];by_cases e2:k < i
  ·rw [if_pos e2,if_pos (by omega)]
  ·rw [if_neg e2,if_neg (by omega)]
theorem Q3a {g:List Int} {i k:Int}:(if k=i then f.at i - Qbb g f i else tkI g f i k)=tkI g f (i+1) k:=by
 unfold tkI;by_cases e:k=i
 ·subst e;rw [if_pos rfl,if_pos (by omega)]
 ·rw [if_neg e];by_cases e2:k < i
  ·rw [if_pos e2,if_pos (by omega)]
  ·rw [if_neg e2,if_neg (by omega)]
theorem Q0C {g:List Int} {i w:Int} {m:Nat} (h0:0<=i) (h:i < m) (hw:w=f.at i+Qbp g ps f i):(Qdp m (grI g ps f i)).set i.toNat w=Qdp m (grI g ps f (i+1)):=QiN h0 h fun k _ _=> by rw [hw];exact Q3f
theorem Q0P {g:List Int} {i w:Int} {m:Nat} (h0:0<=i) (h:i < m) (hw:w=f.at i - Qbb g f i):(Qdp m (tkI g f i)).set i.toNat w=Qdp m (tkI g f (i+1)):=QiN h0 h fun k _ _=> by rw [hw];exact Q3a
theorem Qyg {i w:Int} {m:Nat} (h0:0<=i) (h:i < m) (hi:(plc ps i).into= -1) (hw:w=drI ps f i i - QcW ps f i):(Qdp m (drI ps f i)).set i.toNat w=Qdp m (drI ps f (i+1)):=QiN h0 h fun k k0 _=> by
 rw [hw,Qeg h0,hi,if_neg (show ¬(-1:Int)=k by omega)];by_cases e:k=i
 ·subst e;rw [if_pos rfl,if_pos rfl];omega
 ·rw [if_neg e,if_neg e];omega
theorem Q0E {i w v:Int} {m:Nat} (h0:0<=i) (h:i < m) (v0:0<=v) (v1:v < m) (hn:v≠i):((Qdp m (drI ps f i)).set i.toNat w).getD v.toNat default=drI ps f i v:=by
 rw [QgF h0 h,QaQ v0 v1,if_neg hn]
theorem Qxg {i w u v:Int} {m:Nat} (h0:0<=i) (h:i < m) (v0:0<=v) (v1:v < m) (hn:v≠i) (hi:(plc ps i).into=v) (hw:w=drI ps f i i - QcW ps f i) (hu:u=drI ps f i v+QcW ps f i):((Qdp m (drI ps f i)).set i.toNat w).set v.toNat u=Qdp m (drI ps f (i+1)):=by
 rw [QgF h0 h];refine QiN v0 v1 fun k k0 k1=> ?_
 rw [hw,hu,Qeg h0,hi];by_cases e:k=v
 ·subst e;rw [if_pos rfl,if_neg hn,if_pos rfl];omega
 ·rw [if_neg e,if_neg (show ¬v=k from fun q=> e q.symm)];by_cases e2:k=i
  ·subst e2;rw [if_pos rfl,if_pos rfl];omega
  ·rw [if_neg e2,if_neg e2];omega
theorem Qt8 {g:List Int} (h4:ps.length<=4):Qdp ps.length (grI g ps f ps.length)=Qdp ps.length (grE g ps f).at:=Qbe fun k h0 h1=> (QhD h0 (by omega)).symm
theorem Q0Q (h4:ps.length<=4):Qdp ps.length (drI ps f ps.length)=Qdp ps.length (drE ps f).at:=Qbe fun k h0 h1=> (QhD h0 (by omega)).symm
theorem Qs4 {g:List Int} (h4:ps.length<=4):Qdp ps.length (tkI g f ps.length)=Qdp ps.length (tkE g ps f).at:=Qbe fun k h0 h1=> (QhD h0 (by omega)).symm
end
end Go.Proofs.Ytncjjangllkokaa
