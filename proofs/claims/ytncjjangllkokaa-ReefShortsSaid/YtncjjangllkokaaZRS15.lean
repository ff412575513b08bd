/- Reef: what becomes of it in truth. -/
import Derived.Test.YtncjjangllkokaaZRS14
set_option linter.all false
open List renaming mem_cons_of_mem->Lw,flatMap_cons->L5,getD_eq_getElem?_getD->Lu,getElem?_eq_none->LL
open Int renaming le_refl->LW
open Inhabited renaming default->Le
namespace Go.Proofs.Ytncjjangllkokaa
open Go Go.CE Go.RowKit
set_option maxRecDepth 100000
abbrev XE(l:List Int):List Value:=[Zj l]
structure RW where
 n:Nat
 l:List Int
deriving Inhabited
def QJ(r:RW):List Value:=[QV r.n (Qf Qp r.l)]
def F4.list(f:F4):List Int:=[f.a,f.b,f.c,f.d]
def Z6(ps:List Qc)(gs ts:List (List Int))(f:F4):Nat->F4
 |0=>f
 |k+1=>Xn (gs.getD k Le) (ts.getD k Le) ps (Z6 ps gs ts f k)
def ZE(ps:List Qc)(gs ts:List (List Int))(f:F4)(m:Int):Int:=QW 0 ps.length (Z1 (gs.getD m.toNat Le) ps (Z6 ps gs ts f m.toNat))
def XU(ps:List Qc)(gs ts:List (List Int))(f:F4)(m:Int):Int:=QW 0 ps.length (Zt (ts.getD m.toNat Le) (bl ps (Vu (gs.getD m.toNat Le) ps (Z6 ps gs ts f m.toNat))))
def ZD(ps:List Qc)(gs ts:List (List Int))(f:F4)(m:Int):Int:=QW 0 ps.length (Zr ps (Vu (gs.getD m.toNat Le) ps (Z6 ps gs ts f m.toNat)))
def rv(ps:List Qc)(gs ts:List (List Int))(f:F4)(k:Int):List Int:=(Z6 ps gs ts f (k.toNat+1)).list.take ps.length
def Q8(n:Int)(ps:List Qc)(gs ts:List (List Int))(f:F4):List (List Int):=Z5 n fun k=>rv ps gs ts f k
theorem ru{ps:List Qc}{gs ts:List (List Int)}{f:F4}{k:Int}(h:ps.length<=4):(rv ps gs ts f k).length=ps.length:=by
 unfold rv F4.list;rw[List.length_take];simp;omega
theorem oC:∀(l:List Int) (g:Int->List Int) (n:Nat),(∀k∈l,(g k).length=n)->Qf QJ (l.map fun k=>⟨n,g k⟩)=Qf XE (l.map g)
 |[],_,_,_=>rfl
 |k::l,g,n,h=>by
  have ih:=oC l g n fun k hk=>h k (Lw _ hk)
  have e:QJ ⟨n,g k⟩=XE (g k):=by show [QV n (Qf Qp (g k))]=_;rw[<-h k (List.mem_cons_self ..)]
  unfold Qf at ih ⊢;rw[List.map_cons,List.map_cons,L5,L5,e];apply Array.ext';have ih':=congrArg Array.toList ih;simp only at ih' ⊢;rw[ih']
structure OkT (ps:List Qc) (n:Int) (gs ts:List (List Int)) (f:F4):Prop where
 hp:J3 ps
 n0:1<=ps.length
 s0:1<=n
 s4:n<=4
 hg:gs.length=n
 ht:ts.length=n
 rg:∀k:Nat,k<n->K8 ps.length (gs.getD k Le) 2000
 rt:∀k:Nat,k<n->K8 ps.length (ts.getD k Le) 1000000
 hf:PC f
 hs:f.sum<=1000000000
section
variable {ps:List Qc} {n:Int} {gs ts:List (List Int)} {f:F4}
theorem OkT.st(h:OkT ps n gs ts f):∀k:Nat,k<=n->PC (Z6 ps gs ts f k)/\(Z6 ps gs ts f k).sum<=f.sum+4000000*k
 |0,_=>⟨h.hf,by show f.sum<=_;omega⟩
 |k+1,hk=>by
  obtain⟨a,b⟩:=h.st k (by omega);have h4:=h.s4;have h9:=h.hs;have:=Hh h.hp (h.rg k (by omega)) (h.rt k (by omega)) a (by omega);exact⟨this.1,by show(Xn _ _ _ _).sum<=_;omega⟩
theorem OkT.born(h:OkT ps n gs ts f){m:Int}(h0:0<=m)(h1:m<n):0<=ZE ps gs ts f m/\ZE ps gs ts f m<=4000000:=by
 have hs:=h.st m.toNat (by omega);have h4:=h.hp.1;have:=Wq (g:=Z1 (gs.getD m.toNat Le) ps (Z6 ps gs ts f m.toNat)) (K:=1000000) ps.length fun k k0 k1=>Pw h.hp (h.rg m.toNat (by omega)) hs.1 k0 k1
 unfold ZE;omega
theorem OkT.gone(h:OkT ps n gs ts f){m:Int}(h0:0<=m)(h1:m<n):0<=ZD ps gs ts f m/\ZD ps gs ts f m<=400000000000:=by
 have hs:=h.st m.toNat (by omega);have h4:=h.hp.1;have h9:=h.hs;have h44:=h.s4;have hb:=mL h.hp (h.rg m.toNat (by omega)) hs.1 (by omega);have:=Wq (g:=Zr ps (Vu (gs.getD m.toNat Le) ps (Z6 ps gs ts f m.toNat))) (K:=100000000000) ps.length fun k k0 k1=>dn h.hp hb k0 k1
 unfold ZD;omega
theorem OkT.taken(h:OkT ps n gs ts f){m:Int}(h0:0<=m)(h1:m<n):0<=XU ps gs ts f m/\XU ps gs ts f m<=4000000:=by
 have hs:=h.st m.toNat (by omega);have h4:=h.hp.1;have h9:=h.hs;have h44:=h.s4;have hb:=mL h.hp (h.rg m.toNat (by omega)) hs.1 (by omega);have hd:=(qk h.hp hb).1;have:=Wq (g:=Zt (ts.getD m.toNat Le) (bl ps (Vu (gs.getD m.toNat Le) ps (Z6 ps gs ts f m.toNat)))) (K:=1000000) ps.length fun k k0 k1=>(fun q=>⟨q.1,q.2.2⟩) (Yb (h.rt m.toNat (by omega)) hd k0 k1 h4)
 unfold XU;omega
theorem OkT.sums(h:OkT ps n gs ts f){i:Int}(h0:0<=i)(h1:i<=n):(0<=QW 0 i (ZE ps gs ts f)/\QW 0 i (ZE ps gs ts f)<=16000000)/\(0<=QW 0 i (XU ps gs ts f)/\QW 0 i (XU ps gs ts f)<=16000000)/\(0<=QW 0 i (ZD ps gs ts f)/\QW 0 i (ZD ps gs ts f)<=1600000000000):=by
 have h4:=h.s4;have a:=Wq (g:=ZE ps gs ts f) (K:=4000000) i.toNat fun m m0 m1=>h.born m0 (by omega)
 have b:=Wq (g:=XU ps gs ts f) (K:=4000000) i.toNat fun m m0 m1=>h.taken m0 (by omega)
 have c:=Wq (g:=ZD ps gs ts f) (K:=400000000000) i.toNat fun m m0 m1=>h.gone m0 (by omega)
 rw[show((i.toNat:Nat):Int)=i by omega]at a b c;omega
end
theorem AA{g:Int->Int}:QW 0 1 g=g 0:=by rw[show(1:Int)=0+1 from rfl,QT (LW _),WT (LW _)];omega
def Qe(l:List Int):F4:=⟨l.getD 0 Le,l.getD 1 Le,l.getD 2 Le,l.getD 3 Le⟩
end Go.Proofs.Ytncjjangllkokaa

namespace Go.Proofs.Ytncjjangllkokaa
open Go Go.CE Go.RowKit
theorem b6{β:Type}{n i:Int}{g g':Int->β}{v:β}(h0:0<=i)(h:i<n)(hv:∀k,0<=k->k<n->(if k=i then v else g k)=g' k):(Z5 n g).set i.toNat v=Z5 n g':=by
 rw[b8 h0 h];exact ZG hv
def SH(n:Int)(ps:List Qc)(gs ts:List (List Int))(f:F4)(s:Int):List RW:=(JV 0 s).map fun k=>⟨ps.length,Z5 n (Z6 ps gs ts f (k.toNat+1)).at⟩
theorem Kz{s:Int}(h:0<=s):JV 0 (s+1)=JV 0 s++[s]:=by
 unfold JV;rw[show(s+1-0).toNat=(s-0).toNat+1 by omega,List.range_succ,List.map_append];congr 1;simp;omega
theorem VN{n s:Int}{ps:List Qc}{gs ts:List (List Int)}{f:F4}:(SH n ps gs ts f s).length=s.toNat:=by simp[SH,JV]
theorem nR{n s:Int}{ps:List Qc}{gs ts:List (List Int)}{f:F4}(h:0<=s):SH n ps gs ts f (s+1)=SH n ps gs ts f s++[⟨ps.length,Z5 n (Z6 ps gs ts f (s.toNat+1)).at⟩]:=by
 unfold SH;rw[Kz h,List.map_append];rfl
theorem yn{f:F4}{n:Nat}(h:n<=4):Z5 n f.at=f.list.take n:=by
 have:n=0\/n=1\/n=2\/n=3\/n=4:=by omega
 rcases this with rfl|rfl|rfl|rfl|rfl <;> rfl
theorem Fm{n:Int}{ps:List Qc}{gs ts:List (List Int)}{f:F4}{s:Int}(h:n<=s)(hs:s<=n)(h4:ps.length<=4):Qf QJ (SH ps.length ps gs ts f s)=Qf XE (Q8 n ps gs ts f):=by
 have e:s=n:=by omega
 subst e;have e:SH ps.length ps gs ts f s=(JV 0 s).map fun k=>⟨ps.length,rv ps gs ts f k⟩:=by
  unfold SH;refine List.map_congr_left fun k _=> ?_
  rw[yn h4];rfl
 rw[e];exact oC _ _ _ fun k _=>ru h4
section
variable {ps:List Qc} {n:Int} {gs ts:List (List Int)} {f:F4} {l:List Int}
theorem TA{i:Int}(h0:0<=i)(h:i<4):nth l i=(Qe l).at i:=by
 rcases bp h0 h with rfl|rfl|rfl|rfl <;> rfl
theorem qZ(h:OkT ps n gs ts (Qe l)){i:Int}(h0:0<=i)(h1:i<4):0<=nth l i/\nth l i<=1000000000:=by
 have:=Wp h.hf h0 h1;rw[TA h0 h1];have:=h.hs;omega
theorem y0(h:OkT ps n gs ts (Qe l)){i:Int}(h0:0<=i)(h1:i<=4):0<=QW 0 i (nth l)/\QW 0 i (nth l)<=4000000000:=by
 have:=Wq (g:=nth l) (K:=1000000000) i.toNat fun m m0 m1=>qZ h m0 (by omega)
 rw[show((i.toNat:Nat):Int)=i by omega]at this;omega
theorem A9{g:Int->Int}:QW 0 2 g=g 0+g 1:=by rw[show(2:Int)=1+1 from rfl,QT (by omega),AA]
theorem A8{g:Int->Int}:QW 0 3 g=g 0+g 1+g 2:=by rw[show(3:Int)=2+1 from rfl,QT (by omega),A9]
theorem GG{g:Int->Int}:QW 0 4 g=g 0+g 1+g 2+g 3:=by rw[show(4:Int)=3+1 from rfl,QT (by omega),A8]
def zB(n:Nat)(f:F4):Prop:=∀j:Int,n<=j->j<4->f.at j=0
theorem A7{n:Nat}{f:F4}(hz:zB n f)(h0:1<=n)(h4:n<=4):QW 0 n f.at=f.sum:=by
 have e:f.sum=f.at 0+f.at 1+f.at 2+f.at 3:=rfl;have:n=1\/n=2\/n=3\/n=4:=by omega
 rcases this with rfl|rfl|rfl|rfl
 ·have a:=hz 1 (by omega) (by omega);have b:=hz 2 (by omega) (by omega);have c:=hz 3 (by omega) (by omega);have s:QW 0 ((1:Nat):Int) f.at=f.at 0:=AA;omega
 ·have b:=hz 2 (by omega) (by omega);have c:=hz 3 (by omega) (by omega);have s:QW 0 ((2:Nat):Int) f.at=f.at 0+f.at 1:=A9;omega
 ·have c:=hz 3 (by omega) (by omega);have s:QW 0 ((3:Nat):Int) f.at=f.at 0+f.at 1+f.at 2:=A8;omega
 ·have s:QW 0 ((4:Nat):Int) f.at=f.at 0+f.at 1+f.at 2+f.at 3:=GG;omega
theorem qY:zB l.length (Qe l):=fun j h0 h1=>by
 rw[<-TA (by omega) h1];unfold nth;rw[Lu,LL (by omega)];rfl
theorem y1(h:OkT ps n gs ts (Qe l))(hl:l.length=ps.length):QW 0 l.length (nth l)=(Qe l).sum:=by
 have h1:=h.hp.1;have h2:=h.n0;rw[<-A7 qY (by omega) (by omega)];unfold QW;congr 1;refine List.map_congr_left fun k hk=> ?_
 unfold JV at hk;obtain⟨m,hm,rfl⟩:=List.mem_map.1 hk;have:=List.mem_range.1 hm;exact TA (by omega) (by omega)
theorem vv(h4:l.length<=4):Z5 l.length (Qe l).at=l:=by
 have e:Z5 l.length (Qe l).at=Z5 l.length (fun k=>id (l.getD k.toNat Le)):=ZG fun k h0 h1=>(TA h0 (by omega)).symm
 rw[e,<-aq,List.map_id]
theorem IL{g:List Int}(hz:zB ps.length f):zB ps.length (Vu g ps f):=fun j h0 h1=>by
 unfold Vu;rw[T9 (by omega) h1];unfold Xj;rw[if_neg (by omega)];exact hz j h0 h1
theorem AB{g:Int->Int}:∀k:Nat,(∀m:Int,0<=m->m<k->g m=0)->QW 0 k g=0
 |0,_=>WT (LW _)
 |k+1,h=>by
  rw[show((k+1:Nat):Int)=(k:Int)+1 by omega,QT (by omega),AB k fun m m0 m1=>h m m0 (by omega),h k (by omega) (by omega)];rfl
theorem IM(hp:J3 ps)(hz:zB ps.length f):zB ps.length (bl ps f):=fun j h0 h1=>by
 unfold bl;rw[T9 (by omega) h1];unfold Wb;rw[if_neg (by omega),AB ps.length fun m m0 m1=>if_neg fun e=>by
  have:=Ve (hp.2 m m0 m1).2.2.1;omega,hz j h0 h1]
 rfl
theorem IB{g:List Int}(hz:zB ps.length f):zB ps.length (Ef g ps f):=fun j h0 h1=>by
 unfold Ef;rw[T9 (by omega) h1];unfold YK;rw[if_neg (by omega)];exact hz j h0 h1
theorem HO(hp:J3 ps)(hz:zB ps.length f):∀k:Nat,zB ps.length (Z6 ps gs ts f k)
 |0=>hz
 |k+1=>IB (IM hp (IL (HO hp hz k)))
theorem Gz{g:List Int}{j:Int}(h:0<=j):Xj g ps f 0 j=f.at j:=by unfold Xj;rw[if_neg (by omega)]
theorem Gh{g:List Int}{j:Int}(h:0<=j):YK g f 0 j=f.at j:=by unfold YK;rw[if_neg (by omega)]
theorem H4{g:List Int}{i k:Int}:(if k=i then f.at i+Z1 g ps f i else Xj g ps f i k)=Xj g ps f (i+1) k:=by
 unfold Xj;by_cases e:k=i
 ·subst e;rw[if_pos rfl,if_pos (by omega)]
 ·rw[if_neg e];by_cases e2:k<i
  ·rw[if_pos e2,if_pos (by omega)]
  ·rw[if_neg e2,if_neg (by omega)]
theorem GF{g:List Int}{i k:Int}:(if k=i then f.at i-Zt g f i else YK g f i k)=YK g f (i+1) k:=by
 unfold YK;by_cases e:k=i
 ·subst e;rw[if_pos rfl,if_pos (by omega)]
 ·rw[if_neg e];by_cases e2:k<i
  ·rw[if_pos e2,if_pos (by omega)]
  ·rw[if_neg e2,if_neg (by omega)]
theorem Ds{g:List Int}{i w:Int}{m:Nat}(h0:0<=i)(h:i<m)(hw:w=f.at i+Z1 g ps f i):(Z5 m (Xj g ps f i)).set i.toNat w=Z5 m (Xj g ps f (i+1)):=b6 h0 h fun k _ _=>by rw[hw];exact H4
theorem A5{g:List Int}{i w:Int}{m:Nat}(h0:0<=i)(h:i<m)(hw:w=f.at i-Zt g f i):(Z5 m (YK g f i)).set i.toNat w=Z5 m (YK g f (i+1)):=b6 h0 h fun k _ _=>by rw[hw];exact GF
theorem yg{i w:Int}{m:Nat}(h0:0<=i)(h:i<m)(hi:(P2 ps i).QU= -1)(hw:w=Wb ps f i i-Vi ps f i):(Z5 m (Wb ps f i)).set i.toNat w=Z5 m (Wb ps f (i+1)):=b6 h0 h fun k k0 _=>by
 rw[hw,Y4 h0,hi,if_neg (show ¬(-1:Int)=k by omega)];by_cases e:k=i
 ·subst e;rw[if_pos rfl,if_pos rfl];omega
 ·rw[if_neg e,if_neg e];omega
theorem D6{i w v:Int}{m:Nat}(h0:0<=i)(h:i<m)(v0:0<=v)(v1:v<m)(hn:v≠i):((Z5 m (Wb ps f i)).set i.toNat w).getD v.toNat Le=Wb ps f i v:=by
 rw[b8 h0 h,X4 v0 v1,if_neg hn]
theorem yf{i w u v:Int}{m:Nat}(h0:0<=i)(h:i<m)(v0:0<=v)(v1:v<m)(hn:v≠i)(hi:(P2 ps i).QU=v)(hw:w=Wb ps f i i-Vi ps f i)(hu:u=Wb ps f i v+Vi ps f i):((Z5 m (Wb ps f i)).set i.toNat w).set v.toNat u=Z5 m (Wb ps f (i+1)):=by
 rw[b8 h0 h];refine b6 v0 v1 fun k k0 k1=> ?_
 rw[hw,hu,Y4 h0,hi];by_cases e:k=v
 ·subst e;rw[if_pos rfl,if_neg hn,if_pos rfl];omega
 ·rw[if_neg e,if_neg (show ¬v=k from fun q=>e q.symm)];by_cases e2:k=i
  ·subst e2;rw[if_pos rfl,if_pos rfl];omega
  ·rw[if_neg e2,if_neg e2];omega
theorem qd{g:List Int}(h4:ps.length<=4):Z5 ps.length (Xj g ps f ps.length)=Z5 ps.length (Vu g ps f).at:=ZG fun k h0 h1=>(T9 h0 (by omega)).symm
theorem D7(h4:ps.length<=4):Z5 ps.length (Wb ps f ps.length)=Z5 ps.length (bl ps f).at:=ZG fun k h0 h1=>(T9 h0 (by omega)).symm
theorem o6{g:List Int}(h4:ps.length<=4):Z5 ps.length (YK g f ps.length)=Z5 ps.length (Ef g ps f).at:=ZG fun k h0 h1=>(T9 h0 (by omega)).symm
end
end Go.Proofs.Ytncjjangllkokaa
