/- Reef: what becomes of it in truth. -/
import Derived.Test.YtncjjangllkokaaZRH13
import Derived.Test.YtncjjangllkokaaZRH07
import Derived.Test.YtncjjangllkokaaZRH10
set_option linter.all false
open List renaming replicate->Ln,getElem?_eq_none->LA,mem_cons_of_mem->Lw,flatMap_cons->LW,length->Lc,range->Lg,set->LM,length_set->LS,length_replicate->LF,getD_eq_getElem?_getD->Lq
open Int renaming le_refl->LR,toNat->Lb,tdiv_eq_ediv_of_nonneg->LO
open Array renaming size->LG,extract->Lh
open Nat renaming min->LU,strongRecOn->Lz,ble->LP,blt->Ls,beq->Lf
open List.Mem renaming head->Lj
open Inhabited renaming default->La
namespace Go.Proofs.Ytncjjangllkokaa
open Go Go.CE Go.RowKit
noncomputable section
set_option maxRecDepth 100000
abbrev XA(l:List Int):List Value:=[XH l]
structure RW where
 n:Nat
 l:List Int
deriving Inhabited
def X7(r:RW):List Value:=[QC r.n (Qe Q5 r.l)]
def F4.list(f:F4):List Int:=[f.a,f.b,f.c,f.d]
def aH(ps:List Qg)(gs ts:List (List Int))(f:F4):Nat->F4
 |0=>f
 |k+1=>Q3 (gs.getD k La) (ts.getD k La) ps (aH ps gs ts f k)
section
variable (n:Int)(ps:List Qg)(gs ts:List (List Int))(f:F4)(k i m:Int)
def Ym:Int:=Xn 0 ps.length (Wo (gs.getD m.toNat La) ps (aH ps gs ts f m.toNat))
def Va:Int:=Xn 0 ps.length (Z2 (ts.getD m.toNat La) (qM ps (aF (gs.getD m.toNat La) ps (aH ps gs ts f m.toNat))))
def Yj:Int:=Xn 0 ps.length (ZZ ps (aF (gs.getD m.toNat La) ps (aH ps gs ts f m.toNat)))
def mC:List Int:=(aH ps gs ts f (k.toNat+1)).list.take ps.length
def j8:List RW:=Ka n fun k=>if k<i then⟨ps.length,mC ps gs ts f k⟩else⟨0,[]⟩
def QW:List (List Int):=Ka n fun k=>mC ps gs ts f k
theorem NC{n:Int}{ps:List Qg}{gs ts:List (List Int)}{f:F4}:Ln n.toNat ⟨0,[]⟩=j8 n ps gs ts f 0:=by
 unfold j8;refine List.ext_getElem? fun k=> ?_
 by_cases hk:k<n.toNat
 ·rw[Jr hk,if_neg (by omega),List.getElem?_replicate,if_pos hk]
 ·rw[LA (by simp;omega),LA (by rw[Xk];omega)]
end
theorem rI{n i:Int}{ps:List Qg}{gs ts:List (List Int)}{f:F4}(h0:0<=i)(h:i<n):(j8 n ps gs ts f i).set i.toNat ⟨ps.length,mC ps gs ts f i⟩=j8 n ps gs ts f (i+1):=by
 unfold j8;rw[fw h0 h];refine W5 fun k g0 g1=> ?_
 by_cases e:k=i
 ·subst e;rw[if_pos rfl,if_pos (by omega)]
 ·rw[if_neg e];by_cases e2:k<i
  ·rw[if_pos e2,if_pos (by omega)]
  ·rw[if_neg e2,if_neg (by omega)]
theorem vF{ps:List Qg}{gs ts:List (List Int)}{f:F4}{k:Int}(h:ps.length<=4):(mC ps gs ts f k).length=ps.length:=by
 unfold mC F4.list;rw[List.length_take];simp;omega
theorem sI:∀(l:List Int) (g:Int->List Int) (n:Nat),(∀k∈l,(g k).length=n)->Qe X7 (l.map fun k=>⟨n,g k⟩)=Qe XA (l.map g)
 |[],_,_,_=>rfl
 |k::l,g,n,h=>by
  have ih:=sI l g n fun k hk=>h k (Lw _ hk)
  have e:X7 ⟨n,g k⟩=XA (g k):=by show [QC n (Qe Q5 (g k))]=_;rw[<-h k (List.mem_cons_self ..)]
  unfold Qe at ih ⊢;rw[List.map_cons,List.map_cons,LW,LW,e];apply Array.ext';have ih':=congrArg Array.toList ih;simp only at ih' ⊢;rw[ih']
theorem I1{n i:Int}{ps:List Qg}{gs ts:List (List Int)}{f:F4}(h:n<=i)(h4:ps.length<=4):Qe X7 (j8 n ps gs ts f i)=Qe XA (QW n ps gs ts f):=by
 have e:j8 n ps gs ts f i=(Yq 0 n).map fun k=>⟨ps.length,mC ps gs ts f k⟩:=W5 fun k g0 g1=>by rw[if_pos (by omega)]
 rw[e];exact sI _ _ _ fun k _=>vF h4
structure OkT (ps:List Qg) (n:Int) (gs ts:List (List Int)) (f:F4):Prop where
 hp:Sp ps
 n0:1<=ps.length
 s0:1<=n
 s4:n<=4
 hg:gs.length=n
 ht:ts.length=n
 rg:∀k:Nat,k<n->KD ps.length (gs.getD k La) 2000
 rt:∀k:Nat,k<n->KD ps.length (ts.getD k La) 1000000
 hf:R5 f
 hs:f.sum<=1000000000
section
variable {ps:List Qg} {n:Int} {gs ts:List (List Int)} {f:F4}
theorem OkT.st(h:OkT ps n gs ts f):∀k:Nat,k<=n->R5 (aH ps gs ts f k)/\(aH ps gs ts f k).sum<=f.sum+4000000*k
 |0,_=>⟨h.hf,by show f.sum<=_;omega⟩
 |k+1,hk=>by
  obtain⟨a,b⟩:=h.st k (by omega);have h4:=h.s4;have h9:=h.hs;have:=Qai h.hp (h.rg k (by omega)) (h.rt k (by omega)) a (by omega);exact⟨this.1,by show(Q3 _ _ _ _).sum<=_;omega⟩
theorem OkT.born(h:OkT ps n gs ts f){m:Int}(h0:0<=m)(h1:m<n):0<=Ym ps gs ts f m/\Ym ps gs ts f m<=4000000:=by
 have hs:=h.st m.toNat (by omega);have h4:=h.hp.1;have:=Kr (g:=Wo (gs.getD m.toNat La) ps (aH ps gs ts f m.toNat)) (K:=1000000) ps.length fun k k0 k1=>lP h.hp (h.rg m.toNat (by omega)) hs.1 k0 k1
 unfold Ym;omega
theorem OkT.gone(h:OkT ps n gs ts f){m:Int}(h0:0<=m)(h1:m<n):0<=Yj ps gs ts f m/\Yj ps gs ts f m<=400000000000:=by
 have hs:=h.st m.toNat (by omega);have h4:=h.hp.1;have h9:=h.hs;have h44:=h.s4;have hb:=NZ h.hp (h.rg m.toNat (by omega)) hs.1 (by omega);have:=Kr (g:=ZZ ps (aF (gs.getD m.toNat La) ps (aH ps gs ts f m.toNat))) (K:=100000000000) ps.length fun k k0 k1=>ui h.hp hb k0 k1
 unfold Yj;omega
theorem OkT.taken(h:OkT ps n gs ts f){m:Int}(h0:0<=m)(h1:m<n):0<=Va ps gs ts f m/\Va ps gs ts f m<=4000000:=by
 have hs:=h.st m.toNat (by omega);have h4:=h.hp.1;have h9:=h.hs;have h44:=h.s4;have hb:=NZ h.hp (h.rg m.toNat (by omega)) hs.1 (by omega);have hd:=(Qa1 h.hp hb).1;have:=Kr (g:=Z2 (ts.getD m.toNat La) (qM ps (aF (gs.getD m.toNat La) ps (aH ps gs ts f m.toNat)))) (K:=1000000) ps.length fun k k0 k1=>(fun q=>⟨q.1,q.2.2⟩) (ft (h.rt m.toNat (by omega)) hd k0 k1 h4)
 unfold Va;omega
theorem OkT.sums(h:OkT ps n gs ts f){i:Int}(h0:0<=i)(h1:i<=n):(0<=Xn 0 i (Ym ps gs ts f)/\Xn 0 i (Ym ps gs ts f)<=16000000)/\(0<=Xn 0 i (Va ps gs ts f)/\Xn 0 i (Va ps gs ts f)<=16000000)/\(0<=Xn 0 i (Yj ps gs ts f)/\Xn 0 i (Yj ps gs ts f)<=1600000000000):=by
 have h4:=h.s4;have a:=Kr (g:=Ym ps gs ts f) (K:=4000000) i.toNat fun m m0 m1=>h.born m0 (by omega)
 have b:=Kr (g:=Va ps gs ts f) (K:=4000000) i.toNat fun m m0 m1=>h.taken m0 (by omega)
 have c:=Kr (g:=Yj ps gs ts f) (K:=400000000000) i.toNat fun m m0 m1=>h.gone m0 (by omega)
 rw[show((i.toNat:Nat):Int)=i by omega]at a b c;omega
end
theorem I0{fa fb fc fd:Int}{ps:List Qg}{gs ts:List (List Int)}{f:F4}{i:Int}(h:(⟨fa,fb,fc,fd⟩:F4)=aH ps gs ts f i.toNat):(⟨ps.length,List.take ps.length [(Q3 (gs.getD i.toNat La) (ts.getD i.toNat La) ps ⟨fa,fb,fc,fd⟩).a,(Q3 (gs.getD i.toNat La) (ts.getD i.toNat La) ps ⟨fa,fb,fc,fd⟩).b,(Q3 (gs.getD i.toNat La) (ts.getD i.toNat La) ps ⟨fa,fb,fc,fd⟩).c,(Q3 (gs.getD i.toNat La) (ts.getD i.toNat La) ps ⟨fa,fb,fc,fd⟩).d]⟩:RW)=⟨ps.length,mC ps gs ts f i⟩:=by rw[h];rfl
theorem Bj{g:Int->Int}:Xn 0 1 g=g 0:=by rw[show(1:Int)=0+1 from rfl,Vb (LR _),PO (LR _)];omega
def Qu(l:List Int):F4:=⟨l.getD 0 La,l.getD 1 La,l.getD 2 La,l.getD 3 La⟩
section
variable (B:Lo)(c0:CF)(rf:Ql)(t:Ze)(i fa fb fc fd:Int)(g7 t8:List Int)(l0 l1 l2 l3:Int)(ys:List RW)(Qm:Nat->Value)
def aY(t:Ze)(i fa fb fc fd:Int)(g7 t8:List Int)(l0 l1 l2 l3:Int)(ys:List RW):List Value:=[pA 2 0,pA 3 0,pA 4 0,.slice (some {block:=5,off:=0}) (Lb rf.Qd) 1,YI rf.Qd,YI i]
def Rh(i fa fb fc fd:Int)(g7 t8:List Int)(l0 l1 l2 l3:Int)(ys:List RW):List Obj:=[Obj.cells #[Qw 1 (QC t.starts.length (Qe Q5 t.starts)),Qw 1 (QC t.grows.length (Qe XA t.grows)),Qw 1 (QC t.takes.length (Qe XA t.takes))] 42,Obj.cells #[YI 0,YI 0,YI 0,YI 0,YI 0] 45,.cells #[Qw 1 (KJ rf.Qb),YI rf.Qc,YI rf.Qd,YI fa,YI fb,YI fc,YI fd,Qw 1 (XH g7),Qw 1 (XH t8),YI l0,YI l1,YI l2,YI l3,YI 0] 120 (0,0),.cells (Qe (pushE 1 X7) ys) 25 (0,0)]
def aZ:List Item:=([.code [1,1,1,1,1,0,1,0,0],.inLoop [1,1,1,1,1,0,1,0,0],.inBlock 0,.code [1,1,1,1,1,1]]).map (it (QG YP 59))
def Iv:Prop:=∃dJ:Nat->Value,(∀t,Xi (dJ t))/\GoE YP B c0 XW 1 (QA 59 61 (([3,5,6,7,27,28]:List Nat).zip (aY rf t i fa fb fc fd g7 t8 l0 l1 l2 l3 ys)) dJ aZ) (Q9 (Rh rf t i fa fb fc fd g7 t8 l0 l1 l2 l3 ys)) (2+(Rh rf t i fa fb fc fd g7 t8 l0 l1 l2 l3 ys).length) []
def bf(Qm:Nat->Value):Qq:=[(4,Obj.cells #[Qw 6 (QC rf.Qb.length (Qe Qi rf.Qb)),YI rf.Qc,YI rf.Qd,YI (F4.a (Q3 (t.grows.getD i.toNat La) (t.takes.getD i.toNat La) rf.Qb {a:=fa,b:=fb,c:=fc,d:=fd})),YI (F4.b (Q3 (t.grows.getD i.toNat La) (t.takes.getD i.toNat La) rf.Qb {a:=fa,b:=fb,c:=fc,d:=fd})),YI (F4.c (Q3 (t.grows.getD i.toNat La) (t.takes.getD i.toNat La) rf.Qb {a:=fa,b:=fb,c:=fc,d:=fd})),YI (F4.d (Q3 (t.grows.getD i.toNat La) (t.takes.getD i.toNat La) rf.Qb {a:=fa,b:=fb,c:=fc,d:=fd})),Qw 6 (QC (Lc (t.grows.getD i.toNat La)) (Qe Q5 (t.grows.getD i.toNat La))),Qw 6 (QC (Lc (t.takes.getD i.toNat La)) (Qe Q5 (t.takes.getD i.toNat La))),YI l0,YI (l1+Xn 0 (↑rf.Qb.length:Int) (Wo (t.grows.getD i.toNat La) rf.Qb {a:=fa,b:=fb,c:=fc,d:=fd})),YI (l2+Xn 0 (↑rf.Qb.length:Int) (Z2 (t.takes.getD i.toNat La) (qM rf.Qb (aF (t.grows.getD i.toNat La) rf.Qb {a:=fa,b:=fb,c:=fc,d:=fd})))),YI (l3+Xn 0 (↑rf.Qb.length:Int) (ZZ rf.Qb (aF (t.grows.getD i.toNat La) rf.Qb {a:=fa,b:=fb,c:=fc,d:=fd}))),YI 0] 120),(6,Obj.coro none),(0,Obj.coro none),(1,Obj.coro none),(2,Obj.cells #[Qw 1 (QC t.starts.length (Qe Q5 t.starts)),Qw 1 (QC t.grows.length (Qe XA t.grows)),Qw 1 (QC t.takes.length (Qe XA t.takes))] 42),(3,Obj.cells #[YI 0,YI 0,YI 0,YI 0,YI 0] 45),(4,Obj.cells #[Qw 1 (QC rf.Qb.length (Qe Qi rf.Qb)),YI rf.Qc,YI rf.Qd,YI fa,YI fb,YI fc,YI fd,Qw 1 (QC g7.length (Qe Q5 g7)),Qw 1 (QC t8.length (Qe Q5 t8)),YI l0,YI l1,YI l2,YI l3,YI 0] 120),(5,Obj.cells (Qe (pushE 1 X7) ys) 25)]
def gu(t:Ze)(i fa fb fc fd:Int)(g7 t8:List Int)(l0 l1 l2 l3:Int)(ys:List RW)(Qm:Nat->Value):CF:=⟨87,ofList 8 [.slice (some {block:=4,off:=3}) rf.Qb.length 0],[Item.code (QG YP 87)],[],.run,none⟩
def Xm:=(t.grows.getD i.toNat La)
def X5:=(t.takes.getD i.toNat La)
def gh:Array Value:=let e:=Q3 (Xm t i) (X5 t i) rf.Qb {a:=fa,b:=fb,c:=fc,d:=fd};(Qe Q5 (List.take rf.Qb.length [e.a,e.b,e.c,e.d]))
def Xl:=(t.grows.getD 0 La)
def Xf:=(t.takes.getD 0 La)
def gi:Array Value:=let f:=t.starts;let e:=Q3 (Xl t) (Xf t) rf.Qb {a:=f.getD 0 La,b:=f.getD 1 La,c:=f.getD 2 La,d:=f.getD 3 La};(Qe Q5 (List.take rf.Qb.length [e.a,e.b,e.c,e.d]))
def nu:Value:=let g:=rf.Qb;let f:=t.starts;let e:=Q3 (Xl t) (Xf t) g {a:=f.getD 0 La,b:=f.getD 1 La,c:=f.getD 2 La,d:=f.getD 3 La};(Qw 8 (QC g.length (Fz.cs {k:=8,rs:=[],cs:=Qe Q5 (List.take g.length [e.a,e.b,e.c,e.d])})))
def VN:=(0+t.starts.getD 0 La+t.starts.getD 1 La+t.starts.getD 2 La+t.starts.getD 3 La)
def WE  :Array Value:=#[YI 0,YI 0,YI 0,YI 0,YI 0]
def WC:Array Value:=(Qe (Ue [.slice none 0 0]) (Ln (Lb rf.Qd) ()))
def YU:Value:=(QC rf.Qb.length (Qe Qi rf.Qb))
def Tc:Array Value:=let j:=Xf t;let i:=Xl t;let h:=rf.Qb;let k:=Lc h;let f:=t.starts;let g:=aF i h {a:=f.getD 0 La,b:=f.getD 1 La,c:=f.getD 2 La,d:=f.getD 3 La};let e:=Q3 i j h {a:=f.getD 0 La,b:=f.getD 1 La,c:=f.getD 2 La,d:=f.getD 3 La};#[Qw 7 (YU rf),YI rf.Qc,YI rf.Qd,YI e.a,YI e.b,YI e.c,YI e.d,Qw 7 (QC i.length (Qe Q5 i)),Qw 7 (QC j.length (Qe Q5 j)),YI (VN t),YI (0+Xn 0 (↑k:Int) (Wo i h {a:=f.getD 0 La,b:=f.getD 1 La,c:=f.getD 2 La,d:=f.getD 3 La})),YI (0+Xn 0 (↑k:Int) (Z2 j (qM h g))),YI (0+Xn 0 (↑k:Int) (ZZ h g)),YI 0]
def Tb:Array Value:=let j:=X5 t i;let g:=Xm t i;let f:=rf.Qb;let k:=Lc f;let h:=aF g f {a:=fa,b:=fb,c:=fc,d:=fd};let e:=Q3 g j f {a:=fa,b:=fb,c:=fc,d:=fd};#[Qw 6 (YU rf),YI rf.Qc,YI rf.Qd,YI e.a,YI e.b,YI e.c,YI e.d,Qw 6 (QC g.length (Qe Q5 g)),Qw 6 (QC j.length (Qe Q5 j)),YI l0,YI (l1+Xn 0 (↑k:Int) (Wo g f {a:=fa,b:=fb,c:=fc,d:=fd})),YI (l2+Xn 0 (↑k:Int) (Z2 j (qM f h))),YI (l3+Xn 0 (↑k:Int) (ZZ f h)),YI 0]
def PB:Array Value:=#[Qw 0 (YU rf),YI rf.Qc,YI rf.Qd]
def rE:Value:=let f:=rf.Qb;let e:=Q3 (Xm t i) (X5 t i) f {a:=fa,b:=fb,c:=fc,d:=fd};(Qw 7 (QC f.length (Fz.cs {k:=7,rs:=[],cs:=Qe Q5 (List.take f.length [e.a,e.b,e.c,e.d])})))
def rD:Array Value:=#[Qw 0 (YU rf),YI rf.Qc,YI rf.Qd,YI 0,YI 0,YI 0,YI 0,.slice none 0 0,.slice none 0 0,YI 0,YI 0,YI 0,YI 0,YI 0]
def PA:Value:=(.slice (some {block:=4,off:=3}) rf.Qb.length 0)
def Ta:=(t.starts.getD 0 La)
def SZ:=(t.starts.getD 1 La)
def SY:=(t.starts.getD 2 La)
def SX:=(t.starts.getD 3 La)
def SU:Array Value:=#[Qw 0 (YU rf),YI rf.Qc,YI rf.Qd,YI (Ta t),YI (SZ t),YI (SY t),YI (SX t),.slice none 0 0,.slice none 0 0,YI (VN t),YI 0,YI 0,YI 0,YI 0]
def rF:Array Value:=#[Qw 0 (YU rf),YI rf.Qc,YI rf.Qd,YI (Ta t),YI (SZ t),YI (SY t),YI (SX t),.slice none 0 0,.slice none 0 0,YI 0,YI 0,YI 0,YI 0,YI 0]
def cG:Value:=(QC rf.Qb.length (gi rf t))
def SW:Value:=(QC g7.length (Qe Q5 g7))
def SV:Value:=(QC t8.length (Qe Q5 t8))
def SS:Array Value:=#[Qw 1 (YU rf),YI rf.Qc,YI rf.Qd,YI fa,YI fb,YI fc,YI fd,Qw 1 (SW g7),Qw 1 (SV t8),YI l0,YI l1,YI l2,YI l3,YI 0]
def cF:Value:=(QC rf.Qb.length (gh rf t i fa fb fc fd))
def rC:Value:=(.slice (some {block:=7,off:=0}) rf.Qb.length 1)
def rB:Value:=(.slice (some {block:=8,off:=0}) rf.Qb.length 1)
def rA:Value:=(QC t.starts.length (Qe Q5 t.starts))
def PD:Array Value:=#[Qw 1 (rA t),Qw 1 (QC t.grows.length (Qe XA t.grows)),Qw 1 (QC t.takes.length (Qe XA t.takes))]
def PC:Array Value:=#[Qw 0 (rA t),Qw 0 (QC t.grows.length (Qe XA t.grows)),Qw 0 (QC t.takes.length (Qe XA t.takes))]
theorem Is:CE.finK 7 (Qo YP (Q1 YP) J0 B 11 7 (gu rf t i fa fb fc fd g7 t8 l0 l1 l2 l3 ys Qm) (bf rf t i fa fb fc fd g7 t8 l0 l1 l2 l3 ys Qm) 7
 [(5,Qh.eval {out:=OO.ret (rC rf),H:=[(7,Obj.cells (gh rf t i fa fb fc fd) 3),(4,Obj.cells (Tb rf t i fa fb fc fd l0 l1 l2 l3) 120),(6,Obj.coro none),(0,Obj.coro none),(1,Obj.coro none),(2,Obj.cells (PD t) 42),(3,Obj.cells WE 45),(4,Obj.cells (SS rf fa fb fc fd g7 t8 l0 l1 l2 l3) 120),(5,Obj.cells (Qe (pushE 1 X7) ys) 25)],n:=8,R:=[4],W:=[]})] 0 [] []) [] [] [{k:=7,rs:=[],cs:=Qe Q5 (List.take rf.Qb.length [F4.a (Q3 (Xm t i) (X5 t i) rf.Qb {a:=fa,b:=fb,c:=fc,d:=fd}),F4.b (Q3 (Xm t i) (X5 t i) rf.Qb {a:=fa,b:=fb,c:=fc,d:=fd}),F4.c (Q3 (Xm t i) (X5 t i) rf.Qb {a:=fa,b:=fb,c:=fc,d:=fd}),F4.d (Q3 (Xm t i) (X5 t i) rf.Qb {a:=fa,b:=fb,c:=fc,d:=fd})])}]=some (OO.ret (rE rf t i fa fb fc fd),[],[],
 [X8 (Fz.rs {k:=7,rs:=[],cs:=Qe Q5 (List.take rf.Qb.length [F4.a (Q3 (t.grows.getD i.toNat La) (t.takes.getD i.toNat La) rf.Qb {a:=fa,b:=fb,c:=fc,d:=fd}),F4.b (Q3 (t.grows.getD i.toNat La) (t.takes.getD i.toNat La) rf.Qb {a:=fa,b:=fb,c:=fc,d:=fd}),F4.c (Q3 (t.grows.getD i.toNat La) (t.takes.getD i.toNat La) rf.Qb {a:=fa,b:=fb,c:=fc,d:=fd}),F4.d (Q3 (t.grows.getD i.toNat La) (t.takes.getD i.toNat La) rf.Qb {a:=fa,b:=fb,c:=fc,d:=fd})])}) (gh rf t i fa fb fc fd) (Fz.cs {k:=7,rs:=[],cs:=Qe Q5 (List.take rf.Qb.length [F4.a (Q3 (t.grows.getD i.toNat La) (t.takes.getD i.toNat La) rf.Qb {a:=fa,b:=fb,c:=fc,d:=fd}),F4.b (Q3 (t.grows.getD i.toNat La) (t.takes.getD i.toNat La) rf.Qb {a:=fa,b:=fb,c:=fc,d:=fd}),F4.c (Q3 (t.grows.getD i.toNat La) (t.takes.getD i.toNat La) rf.Qb {a:=fa,b:=fb,c:=fc,d:=fd}),F4.d (Q3 (t.grows.getD i.toNat La) (t.takes.getD i.toNat La) rf.Qb {a:=fa,b:=fb,c:=fc,d:=fd})])}),di YP (Q1 YP) Xy (fun x x_1 x_2=>none) {len:=16000,tr:=Tri.set 14 (Tri.set 14 Tri.lf 6 (PA rf)) 5 (Value.chan (some 0))} {dst:=some 7,op:=Op.call {callee:=Callee.builtin Builtin.append,args:=#[Operand.tmp 5,Operand.tmp 6],argTypes:=#[25,25]},type:=25,pos:= "slices.go:362",after:=#[{on:=0,ground:=Ground.data},{on:=1,ground:=Ground.data}],guard:=none} [(4,Obj.cells (Tb rf t i fa fb fc fd l0 l1 l2 l3) 120),(6,Obj.coro none),(0,Obj.coro none),(1,Obj.coro none),(2,Obj.cells (PD t) 42),(3,Obj.cells WE 45),(4,Obj.cells (SS rf fa fb fc fd g7 t8 l0 l1 l2 l3) 120),(5,Obj.cells (Qe (pushE 1 X7) ys) 25)] 7=some {out:=OO.ret (rC rf),H:=[(7,Obj.cells (gh rf t i fa fb fc fd) 3),(4,Obj.cells (Tb rf t i fa fb fc fd l0 l1 l2 l3) 120),(6,Obj.coro none),(0,Obj.coro none),(1,Obj.coro none),(2,Obj.cells (PD t) 42),(3,Obj.cells WE 45),(4,Obj.cells (SS rf fa fb fc fd g7 t8 l0 l1 l2 l3) 120),(5,Obj.cells (Qe (pushE 1 X7) ys) 25)],n:=8,R:=[4],W:=[]}]):=by kernel_rfl
theorem Ir:landM (Qo YP (Q1 YP) J0 B 15 1 (QA 59 61 (([3,5,6,7,27,28]:List Nat).zip (aY rf t i fa fb fc fd g7 t8 l0 l1 l2 l3 ys)) Qm aZ) (Q9 (Rh rf t i fa fb fc fd g7 t8 l0 l1 l2 l3 ys)) (2+(Rh rf t i fa fb fc fd g7 t8 l0 l1 l2 l3 ys).length)
 [(0,Z5),(6,Qh.tidx i.toNat #[QC (Lc (Xm t i)) (Qe Q5 (Xm t i))]),(11,Qh.tidx i.toNat #[QC (Lc (X5 t i)) (Qe Q5 (X5 t i))]),(13,Qh.wri [4] [1] [false] [] (cJ rf.Qb rf.Qc rf.Qd fa fb fc fd (Qw 0 (SW g7)) (Qw 0 (SV t8)) (Xm t i) (X5 t i) l0 l1 l2 l3 0) (cI rf.Qb rf.Qc rf.Qd fa fb fc fd (Qw 0 (SW g7)) (Qw 0 (SV t8)) (Xm t i) (X5 t i) l0 l1 l2 l3 0) (cK rf.Qb rf.Qc rf.Qd fa fb fc fd (Qw 0 (SW g7)) (Qw 0 (SV t8)) (Xm t i) (X5 t i) l0 l1 l2 l3 0)),(21,Qh.eval {out:=OO.ret (PA rf),H:=[(4,Obj.cells (Tb rf t i fa fb fc fd l0 l1 l2 l3) 120),(6,Obj.coro none),(0,Obj.coro none),(1,Obj.coro none),(2,Obj.cells (PD t) 42),(3,Obj.cells WE 45),(4,Obj.cells (SS rf fa fb fc fd g7 t8 l0 l1 l2 l3) 120),(5,Obj.cells (Qe (pushE 1 X7) ys) 25)],n:=7,R:=[],W:=[]}),(22,Qh.call (Lg 7) (OO.ret (rE rf t i fa fb fc fd)) ([]++(7,Xx)::Xa 8 []) 8 []),(23,Qh.XD (Hint.idx i.toNat)),(24,Qh.XD (Hint.st (splice (Qe (pushE 1 X7) ys) (0+Lb i*1) #[Qw 7 (cF rf t i fa fb fc fd)]))),(25,Wy (i+1))] 0 [] []) [3,5,6,7,27,28] [(2,KS.auto),(3,KS.auto),(4,KS.auto),(5,KS.rows [(1,1),(7,1)] [] [] (Qe (pushE 1 X7) (LM ys i.toNat {n:=Lc rf.Qb,l:=List.take rf.Qb.length [F4.a (Q3 (Xm t i) (X5 t i) rf.Qb {a:=fa,b:=fb,c:=fc,d:=fd}),F4.b (Q3 (Xm t i) (X5 t i) rf.Qb {a:=fa,b:=fb,c:=fc,d:=fd}),F4.c (Q3 (Xm t i) (X5 t i) rf.Qb {a:=fa,b:=fb,c:=fc,d:=fd}),F4.d (Q3 (Xm t i) (X5 t i) rf.Qb {a:=fa,b:=fb,c:=fc,d:=fd})]})))] []=some ⟨59,61,aZ,[],.run,none,aY rf t (i+1) (F4.a (Q3 (Xm t i) (X5 t i) rf.Qb {a:=fa,b:=fb,c:=fc,d:=fd})) (F4.b (Q3 (Xm t i) (X5 t i) rf.Qb {a:=fa,b:=fb,c:=fc,d:=fd})) (F4.c (Q3 (Xm t i) (X5 t i) rf.Qb {a:=fa,b:=fb,c:=fc,d:=fd})) (F4.d (Q3 (Xm t i) (X5 t i) rf.Qb {a:=fa,b:=fb,c:=fc,d:=fd})) (Xm t i) (X5 t i) (l0) (l1+Xn 0 (↑rf.Qb.length:Int) (Wo (Xm t i) rf.Qb {a:=fa,b:=fb,c:=fc,d:=fd})) (l2+Xn 0 (↑rf.Qb.length:Int) (Z2 (X5 t i) (qM rf.Qb (aF (Xm t i) rf.Qb {a:=fa,b:=fb,c:=fc,d:=fd})))) (l3+Xn 0 (↑rf.Qb.length:Int) (ZZ rf.Qb (aF (Xm t i) rf.Qb {a:=fa,b:=fb,c:=fc,d:=fd}))) (LM ys i.toNat {n:=Lc rf.Qb,l:=List.take rf.Qb.length [F4.a (Q3 (Xm t i) (X5 t i) rf.Qb {a:=fa,b:=fb,c:=fc,d:=fd}),F4.b (Q3 (Xm t i) (X5 t i) rf.Qb {a:=fa,b:=fb,c:=fc,d:=fd}),F4.c (Q3 (Xm t i) (X5 t i) rf.Qb {a:=fa,b:=fb,c:=fc,d:=fd}),F4.d (Q3 (Xm t i) (X5 t i) rf.Qb {a:=fa,b:=fb,c:=fc,d:=fd})]}),Rh rf t (i+1) (F4.a (Q3 (Xm t i) (X5 t i) rf.Qb {a:=fa,b:=fb,c:=fc,d:=fd})) (F4.b (Q3 (Xm t i) (X5 t i) rf.Qb {a:=fa,b:=fb,c:=fc,d:=fd})) (F4.c (Q3 (Xm t i) (X5 t i) rf.Qb {a:=fa,b:=fb,c:=fc,d:=fd})) (F4.d (Q3 (Xm t i) (X5 t i) rf.Qb {a:=fa,b:=fb,c:=fc,d:=fd})) (Xm t i) (X5 t i) (l0) (l1+Xn 0 (↑rf.Qb.length:Int) (Wo (Xm t i) rf.Qb {a:=fa,b:=fb,c:=fc,d:=fd})) (l2+Xn 0 (↑rf.Qb.length:Int) (Z2 (X5 t i) (qM rf.Qb (aF (Xm t i) rf.Qb {a:=fa,b:=fb,c:=fc,d:=fd})))) (l3+Xn 0 (↑rf.Qb.length:Int) (ZZ rf.Qb (aF (Xm t i) rf.Qb {a:=fa,b:=fb,c:=fc,d:=fd}))) (LM ys i.toNat {n:=Lc rf.Qb,l:=List.take rf.Qb.length [F4.a (Q3 (Xm t i) (X5 t i) rf.Qb {a:=fa,b:=fb,c:=fc,d:=fd}),F4.b (Q3 (Xm t i) (X5 t i) rf.Qb {a:=fa,b:=fb,c:=fc,d:=fd}),F4.c (Q3 (Xm t i) (X5 t i) rf.Qb {a:=fa,b:=fb,c:=fc,d:=fd}),F4.d (Q3 (Xm t i) (X5 t i) rf.Qb {a:=fa,b:=fb,c:=fc,d:=fd})]}),
 [Xj 1 [(1,1),(7,1)] [] [] (splice (Qe (pushE 1 X7) ys) (0+Lb i*1) #[Qw 7 (cF rf t i fa fb fc fd)]) (Qe (pushE 1 X7) (LM ys i.toNat {n:=Lc rf.Qb,l:=List.take rf.Qb.length [F4.a (Q3 (t.grows.getD i.toNat La) (t.takes.getD i.toNat La) rf.Qb {a:=fa,b:=fb,c:=fc,d:=fd}),F4.b (Q3 (t.grows.getD i.toNat La) (t.takes.getD i.toNat La) rf.Qb {a:=fa,b:=fb,c:=fc,d:=fd}),F4.c (Q3 (t.grows.getD i.toNat La) (t.takes.getD i.toNat La) rf.Qb {a:=fa,b:=fb,c:=fc,d:=fd}),F4.d (Q3 (t.grows.getD i.toNat La) (t.takes.getD i.toNat La) rf.Qb {a:=fa,b:=fb,c:=fc,d:=fd})]})),wq (i+1)=i+1,0+Lb i*1+TypeInfo.size Try.t25<=LG (Qe (pushE 1 X7) ys)/\splice (Qe (pushE 1 X7) ys) (0+Lb i*1) (Value.cells (Zc {len:=16000,tr:=Tri.set 14 (Tri.set 14 Tri.lf 50 (Qw 7 (cF rf t i fa fb fc fd))) 51 (.pointer (some {block:=5,off:=0+Lb i*1}))} 50))=splice (Qe (pushE 1 X7) ys) (0+Lb i*1) #[Qw 7 (cF rf t i fa fb fc fd)],i=(↑i.toNat:Int)/\Lb i<Lb rf.Qd,FJ YP B (gu rf t i fa fb fc fd g7 t8 l0 l1 l2 l3 ys Qm) (bf rf t i fa fb fc fd g7 t8 l0 l1 l2 l3 ys Qm) 7 (OO.ret (Qw 7 (QC rf.Qb.length (Fz.cs {k:=7,rs:=[],cs:=Qe Q5 (List.take rf.Qb.length [F4.a (Q3 (t.grows.getD i.toNat La) (t.takes.getD i.toNat La) rf.Qb {a:=fa,b:=fb,c:=fc,d:=fd}),F4.b (Q3 (t.grows.getD i.toNat La) (t.takes.getD i.toNat La) rf.Qb {a:=fa,b:=fb,c:=fc,d:=fd}),F4.c (Q3 (t.grows.getD i.toNat La) (t.takes.getD i.toNat La) rf.Qb {a:=fa,b:=fb,c:=fc,d:=fd}),F4.d (Q3 (t.grows.getD i.toNat La) (t.takes.getD i.toNat La) rf.Qb {a:=fa,b:=fb,c:=fc,d:=fd})])})))) (([]++((7,Xx)::Xa (7+1) []))++bf rf t i fa fb fc fd g7 t8 l0 l1 l2 l3 ys Qm) 8 (Lg 7) [],di YP (Q1 YP) Xy (fun x x_1 x_2=>none) {len:=16000,tr:=Tri.set 14 (Tri.set 14 Tri.lf 48 (YI (↑rf.Qb.length:Int))) 44 (pA 4 3)} {dst:=some 49,op:=Op.slice 111 (Operand.tmp 44) none (some (Operand.tmp 48)) none,type:=25,pos:= "follow.go:33",after:=#[{on:=2,ground:=Ground.data},{on:=6,ground:=Ground.data}],guard:=none} [(4,Obj.cells (Tb rf t i fa fb fc fd l0 l1 l2 l3) 120),(6,Obj.coro none),(0,Obj.coro none),(1,Obj.coro none),(2,Obj.cells (PD t) 42),(3,Obj.cells WE 45),(4,Obj.cells (SS rf fa fb fc fd g7 t8 l0 l1 l2 l3) 120),(5,Obj.cells (Qe (pushE 1 X7) ys) 25)] 7=some {out:=OO.ret (PA rf),H:=[(4,Obj.cells (Tb rf t i fa fb fc fd l0 l1 l2 l3) 120),(6,Obj.coro none),(0,Obj.coro none),(1,Obj.coro none),(2,Obj.cells (PD t) 42),(3,Obj.cells WE 45),(4,Obj.cells (SS rf fa fb fc fd g7 t8 l0 l1 l2 l3) 120),(5,Obj.cells (Qe (pushE 1 X7) ys) 25)],n:=7,R:=[],W:=[]},Qr []/\lz rf.Qb rf.Qc rf.Qd (fa) (fb) (fc) (fd) (Qw 0 (SW g7)) (Qw 0 (SV t8)) (t.grows.getD i.toNat La) (t.takes.getD i.toNat La) (l0) (l1) (l2) (l3) (0),Kl i t.takes.length (Qe XA t.takes) Try.t25.size #[QC (Lc (t.takes.getD i.toNat La)) (Qe Q5 (t.takes.getD i.toNat La))],Kl i t.grows.length (Qe XA t.grows) Try.t25.size #[QC (Lc (t.grows.getD i.toNat La)) (Qe Q5 (t.grows.getD i.toNat La))],XC i rf.Qd=true]⟩:=by kernel_rfl
def bd(i fa fb fc fd:Int)(g7 t8:List Int)(l0 l1 l2 l3:Int)(ys:List RW)(Qm:Nat->Value):Qq:=[(0,Obj.coro none),(1,Obj.coro none),(2,Obj.cells #[Qw 1 (QC t.starts.length (Qe Q5 t.starts)),Qw 1 (QC t.grows.length (Qe XA t.grows)),Qw 1 (QC t.takes.length (Qe XA t.takes))] 42),(3,Obj.cells #[YI 0,YI 0,YI 0,YI 0,YI 0] 45),(4,Obj.cells #[Qw 1 (QC rf.Qb.length (Qe Qi rf.Qb)),YI rf.Qc,YI rf.Qd,YI fa,YI fb,YI fc,YI fd,Qw 1 (QC g7.length (Qe Q5 g7)),Qw 1 (QC t8.length (Qe Q5 t8)),YI l0,YI l1,YI l2,YI l3,YI 0] 120),(5,Obj.cells (Qe (pushE 1 X7) ys) 25)]
def gq(rf:Ql)(t:Ze)(i fa fb fc fd:Int)(g7 t8:List Int)(l0 l1 l2 l3:Int)(ys:List RW)(Qm:Nat->Value):CF:=⟨85,ofList 17 [.slice (some {block:=4,off:=3}) 4 0],[Item.code (QG YP 85)],[],.run,none⟩
theorem Iq(B:Lo)(rf:Ql)(t:Ze)(i fa fb fc fd:Int)(g7 t8:List Int)(l0 l1 l2 l3:Int)(ys:List RW)(Qm:Nat->Value):let a:=0+fa+fb+fc+fd;CE.finK 6 (Qo YP (Q1 YP) J0 B 70 6 (gq rf t i fa fb fc fd g7 t8 l0 l1 l2 l3 ys Qm) (bd rf t i fa fb fc fd g7 t8 l0 l1 l2 l3 ys Qm) 6
 [(11,Wy (0+fa)),(21,Wy (0+fa+fb)),(31,Wy (0+fa+fb+fc)),(41,Wy a)] 0 [] []) [] [] []=some (OO.ret (YI a),[],[],
 [wq a=0+fa+fb+fc+fd,wq (0+fa+fb+fc)=0+fa+fb+fc,wq (0+fa+fb)=0+fa+fb,wq (0+fa)=0+fa]):=by intro a;kernel_rfl
theorem Ip(B:Lo)(rf:Ql)(t:Ze)(i fa fb fc fd:Int)(g7 t8:List Int)(l0 l1 l2 l3:Int)(ys:List RW)(Qm:Nat->Value):let c:=Fz.cs {k:=5,rs:=[1],cs:=Qe X7 ys};let b:=Rh rf t i fa fb fc fd g7 t8 l0 l1 l2 l3 ys;let a:=OO.ret (YI (0+fa+fb+fc+fd));QO (Qo YP (Q1 YP) J0 B 11 1 (QA 59 61 (([3,5,6,7,27,28]:List Nat).zip (aY rf t i fa fb fc fd g7 t8 l0 l1 l2 l3 ys)) Qm aZ) (Q9 b) (2+b.length)
 [(0,ZW),(3,Qh.call (Lg 6) a ([]++(6,Xx)::Xa 7 []) 7 [])] 0 [] []) [{k:=5,rs:=[1],cs:=Qe X7 ys}]=some (.tuple #[QC (Lb rf.Qd) c,.agg #[YI l0,YI l1,YI l2,YI l3,YI (0+fa+fb+fc+fd)]],
 [X8 (Fz.rs {k:=5,rs:=[1],cs:=Qe X7 ys}) (Qe (pushE 1 X7) ys) c,FJ YP B (gq rf t i fa fb fc fd g7 t8 l0 l1 l2 l3 ys Qm) (bd rf t i fa fb fc fd g7 t8 l0 l1 l2 l3 ys Qm) 6 a (([]++((6,Xx)::Xa (6+1) []))++bd rf t i fa fb fc fd g7 t8 l0 l1 l2 l3 ys Qm) 7 (Lg 6) [],XC i rf.Qd=false]):=by intro c b a;kernel_rfl
def bc:Qq:=[(4,Obj.cells #[Qw 0 (QC rf.Qb.length (Qe Qi rf.Qb)),YI rf.Qc,YI rf.Qd,YI (t.starts.getD 0 La),YI (t.starts.getD 1 La),YI (t.starts.getD 2 La),YI (t.starts.getD 3 La),.slice none 0 0,.slice none 0 0,YI 0,YI 0,YI 0,YI 0,YI 0] 120),(3,Obj.cells #[YI 0,YI 0,YI 0,YI 0,YI 0] 45),(2,Obj.cells #[Qw 0 (QC t.starts.length (Qe Q5 t.starts)),Qw 0 (QC t.grows.length (Qe XA t.grows)),Qw 0 (QC t.takes.length (Qe XA t.takes))] 42),(1,Obj.cells #[Qw 0 (QC rf.Qb.length (Qe Qi rf.Qb)),YI rf.Qc,YI rf.Qd] 24),(0,Obj.coro none)]
def gp(rf:Ql)(t:Ze):CF:=⟨85,ofList 17 [.slice (some {block:=4,off:=3}) 4 0],[Item.code (QG YP 85)],[],.run,none⟩
theorem Io(B:Lo)(rf:Ql)(t:Ze):let a:=t.starts;let d:=0+a.getD 0 La;let c:=0+a.getD 0 La+a.getD 1 La;let b:=0+a.getD 0 La+a.getD 1 La+a.getD 2 La;CE.finK 5 (Qo YP (Q1 YP) J0 B 70 5 (gp rf t) (bc rf t) 5
 [(11,Wy d),(21,Wy c),(31,Wy b),(41,Wy (VN t))] 0 [] []) [] [] []=some (OO.ret (YI (VN t)),[],[],
 [wq (0+a.getD 0 La+a.getD 1 La+a.getD 2 La+a.getD 3 La)=0+a.getD 0 La+a.getD 1 La+a.getD 2 La+a.getD 3 La,wq b=0+a.getD 0 La+a.getD 1 La+a.getD 2 La,wq c=0+a.getD 0 La+a.getD 1 La,wq d=0+a.getD 0 La]):=by intro a d c b;kernel_rfl
def ba:Qq:=[(4,Obj.cells #[Qw 7 (QC rf.Qb.length (Qe Qi rf.Qb)),YI rf.Qc,YI rf.Qd,YI (F4.a (Q3 (t.grows.getD 0 La) (t.takes.getD 0 La) rf.Qb {a:=t.starts.getD 0 La,b:=t.starts.getD 1 La,c:=t.starts.getD 2 La,d:=t.starts.getD 3 La})),YI (F4.b (Q3 (t.grows.getD 0 La) (t.takes.getD 0 La) rf.Qb {a:=t.starts.getD 0 La,b:=t.starts.getD 1 La,c:=t.starts.getD 2 La,d:=t.starts.getD 3 La})),YI (F4.c (Q3 (t.grows.getD 0 La) (t.takes.getD 0 La) rf.Qb {a:=t.starts.getD 0 La,b:=t.starts.getD 1 La,c:=t.starts.getD 2 La,d:=t.starts.getD 3 La})),YI (F4.d (Q3 (t.grows.getD 0 La) (t.takes.getD 0 La) rf.Qb {a:=t.starts.getD 0 La,b:=t.starts.getD 1 La,c:=t.starts.getD 2 La,d:=t.starts.getD 3 La})),Qw 7 (QC (Lc (t.grows.getD 0 La)) (Qe Q5 (t.grows.getD 0 La))),Qw 7 (QC (Lc (t.takes.getD 0 La)) (Qe Q5 (t.takes.getD 0 La))),YI (0+t.starts.getD 0 La+t.starts.getD 1 La+t.starts.getD 2 La+t.starts.getD 3 La),YI (0+Xn 0 (↑rf.Qb.length:Int) (Wo (t.grows.getD 0 La) rf.Qb {a:=t.starts.getD 0 La,b:=t.starts.getD 1 La,c:=t.starts.getD 2 La,d:=t.starts.getD 3 La})),YI (0+Xn 0 (↑rf.Qb.length:Int) (Z2 (t.takes.getD 0 La) (qM rf.Qb (aF (t.grows.getD 0 La) rf.Qb {a:=t.starts.getD 0 La,b:=t.starts.getD 1 La,c:=t.starts.getD 2 La,d:=t.starts.getD 3 La})))),YI (0+Xn 0 (↑rf.Qb.length:Int) (ZZ rf.Qb (aF (t.grows.getD 0 La) rf.Qb {a:=t.starts.getD 0 La,b:=t.starts.getD 1 La,c:=t.starts.getD 2 La,d:=t.starts.getD 3 La}))),YI 0] 120),(7,Obj.coro none),(6,Obj.cells (Qe (Ue [.slice none 0 0]) (Ln (Lb rf.Qd) ())) 25),(5,Obj.coro none),(4,Obj.cells #[Qw 0 (QC rf.Qb.length (Qe Qi rf.Qb)),YI rf.Qc,YI rf.Qd,YI (t.starts.getD 0 La),YI (t.starts.getD 1 La),YI (t.starts.getD 2 La),YI (t.starts.getD 3 La),.slice none 0 0,.slice none 0 0,YI (0+t.starts.getD 0 La+t.starts.getD 1 La+t.starts.getD 2 La+t.starts.getD 3 La),YI 0,YI 0,YI 0,YI 0] 120),(3,Obj.cells #[YI 0,YI 0,YI 0,YI 0,YI 0] 45),(2,Obj.cells #[Qw 0 (QC t.starts.length (Qe Q5 t.starts)),Qw 0 (QC t.grows.length (Qe XA t.grows)),Qw 0 (QC t.takes.length (Qe XA t.takes))] 42),(1,Obj.cells #[Qw 0 (QC rf.Qb.length (Qe Qi rf.Qb)),YI rf.Qc,YI rf.Qd] 24),(0,Obj.coro none)]
def gj(t:Ze):CF:=⟨87,ofList 8 [.slice (some {block:=4,off:=3}) rf.Qb.length 0],[Item.code (QG YP 87)],[],.run,none⟩
theorem Im:CE.finK 8 (Qo YP (Q1 YP) J0 B 11 8 (gj rf t) (ba rf t) 8
 [(5,Qh.eval {out:=OO.ret (rB rf),H:=[(8,Obj.cells (gi rf t) 3),(4,Obj.cells (Tc rf t) 120),(7,Obj.coro none),(6,Obj.cells (WC rf) 25),(5,Obj.coro none),(4,Obj.cells (SU rf t) 120),(3,Obj.cells WE 45),(2,Obj.cells (PC t) 42),(1,Obj.cells (PB rf) 24),(0,Obj.coro none)],n:=9,R:=[4],W:=[]})] 0 [] []) [] [] [{k:=8,rs:=[],cs:=Qe Q5 (List.take rf.Qb.length [F4.a (Q3 (Xl t) (Xf t) rf.Qb {a:=t.starts.getD 0 La,b:=t.starts.getD 1 La,c:=t.starts.getD 2 La,d:=t.starts.getD 3 La}),F4.b (Q3 (Xl t) (Xf t) rf.Qb {a:=t.starts.getD 0 La,b:=t.starts.getD 1 La,c:=t.starts.getD 2 La,d:=t.starts.getD 3 La}),F4.c (Q3 (Xl t) (Xf t) rf.Qb {a:=t.starts.getD 0 La,b:=t.starts.getD 1 La,c:=t.starts.getD 2 La,d:=t.starts.getD 3 La}),F4.d (Q3 (Xl t) (Xf t) rf.Qb {a:=t.starts.getD 0 La,b:=t.starts.getD 1 La,c:=t.starts.getD 2 La,d:=t.starts.getD 3 La})])}]=some (OO.ret (nu rf t),[],[],
 [X8 (Fz.rs {k:=8,rs:=[],cs:=Qe Q5 (List.take rf.Qb.length [F4.a (Q3 (t.grows.getD 0 La) (t.takes.getD 0 La) rf.Qb {a:=t.starts.getD 0 La,b:=t.starts.getD 1 La,c:=t.starts.getD 2 La,d:=t.starts.getD 3 La}),F4.b (Q3 (t.grows.getD 0 La) (t.takes.getD 0 La) rf.Qb {a:=t.starts.getD 0 La,b:=t.starts.getD 1 La,c:=t.starts.getD 2 La,d:=t.starts.getD 3 La}),F4.c (Q3 (t.grows.getD 0 La) (t.takes.getD 0 La) rf.Qb {a:=t.starts.getD 0 La,b:=t.starts.getD 1 La,c:=t.starts.getD 2 La,d:=t.starts.getD 3 La}),F4.d (Q3 (t.grows.getD 0 La) (t.takes.getD 0 La) rf.Qb {a:=t.starts.getD 0 La,b:=t.starts.getD 1 La,c:=t.starts.getD 2 La,d:=t.starts.getD 3 La})])}) (gi rf t) (Fz.cs {k:=8,rs:=[],cs:=Qe Q5 (List.take rf.Qb.length [F4.a (Q3 (t.grows.getD 0 La) (t.takes.getD 0 La) rf.Qb {a:=t.starts.getD 0 La,b:=t.starts.getD 1 La,c:=t.starts.getD 2 La,d:=t.starts.getD 3 La}),F4.b (Q3 (t.grows.getD 0 La) (t.takes.getD 0 La) rf.Qb {a:=t.starts.getD 0 La,b:=t.starts.getD 1 La,c:=t.starts.getD 2 La,d:=t.starts.getD 3 La}),F4.c (Q3 (t.grows.getD 0 La) (t.takes.getD 0 La) rf.Qb {a:=t.starts.getD 0 La,b:=t.starts.getD 1 La,c:=t.starts.getD 2 La,d:=t.starts.getD 3 La}),F4.d (Q3 (t.grows.getD 0 La) (t.takes.getD 0 La) rf.Qb {a:=t.starts.getD 0 La,b:=t.starts.getD 1 La,c:=t.starts.getD 2 La,d:=t.starts.getD 3 La})])}),di YP (Q1 YP) Xy (fun x x_1 x_2=>none) {len:=16000,tr:=Tri.set 14 (Tri.set 14 Tri.lf 6 (PA rf)) 5 (Value.chan (some 0))} {dst:=some 7,op:=Op.call {callee:=Callee.builtin Builtin.append,args:=#[Operand.tmp 5,Operand.tmp 6],argTypes:=#[25,25]},type:=25,pos:= "slices.go:362",after:=#[{on:=0,ground:=Ground.data},{on:=1,ground:=Ground.data}],guard:=none} [(4,Obj.cells (Tc rf t) 120),(7,Obj.coro none),(6,Obj.cells (WC rf) 25),(5,Obj.coro none),(4,Obj.cells (SU rf t) 120),(3,Obj.cells WE 45),(2,Obj.cells (PC t) 42),(1,Obj.cells (PB rf) 24),(0,Obj.coro none)] 8=some {out:=OO.ret (rB rf),H:=[(8,Obj.cells (gi rf t) 3),(4,Obj.cells (Tc rf t) 120),(7,Obj.coro none),(6,Obj.cells (WC rf) 25),(5,Obj.coro none),(4,Obj.cells (SU rf t) 120),(3,Obj.cells WE 45),(2,Obj.cells (PC t) 42),(1,Obj.cells (PB rf) 24),(0,Obj.coro none)],n:=9,R:=[4],W:=[]}]):=by kernel_rfl
theorem Il:landM (Qo YP (Q1 YP) J0 B 30 1 (Qp YP 59 61 (([.agg (Qv rf).toArray,.agg #[XH t.starts,QC t.grows.length (Qe XA t.grows),QC t.takes.length (Qe XA t.takes)]]).map (Q2 0 4))) XW 1
 [(12,Qh.tcpy (rF rf t)),(15,Qh.call (Lg 5) (OO.ret (YI (VN t))) ([]++(5,Xx)::Xa 6 []) 6 []),(22,Qh.XD (Hint.mk (Lb rf.Qd) (WC rf))),(28,Z5),(34,Qh.tidx 0 #[QC (Lc (Xl t)) (Qe Q5 (Xl t))]),(39,Qh.tidx 0 #[QC (Lc (Xf t)) (Qe Q5 (Xf t))]),(41,Qh.wri [4] [0] [false] [] (cJ rf.Qb rf.Qc rf.Qd (Ta t) (SZ t) (SY t) (SX t) (.slice none 0 0) (.slice none 0 0) (Xl t) (Xf t) (VN t) 0 0 0 0) (cI rf.Qb rf.Qc rf.Qd (Ta t) (SZ t) (SY t) (SX t) (.slice none 0 0) (.slice none 0 0) (Xl t) (Xf t) (VN t) 0 0 0 0) (cK rf.Qb rf.Qc rf.Qd (Ta t) (SZ t) (SY t) (SX t) (.slice none 0 0) (.slice none 0 0) (Xl t) (Xf t) (VN t) 0 0 0 0)),(49,Qh.eval {out:=OO.ret (PA rf),H:=[(4,Obj.cells (Tc rf t) 120),(7,Obj.coro none),(6,Obj.cells (WC rf) 25),(5,Obj.coro none),(4,Obj.cells (SU rf t) 120),(3,Obj.cells WE 45),(2,Obj.cells (PC t) 42),(1,Obj.cells (PB rf) 24),(0,Obj.coro none)],n:=8,R:=[],W:=[]}),(50,Qh.call (Lg 8) (OO.ret (nu rf t)) ([]++(8,Xx)::Xa 9 []) 9 []),(51,Qh.XD (Hint.idx 0)),(52,Qh.XD (Hint.st (splice (WC rf) 0 #[Qw 8 (cG rf t)])))] 0 [] []) [3,5,6,7,27,28] [(2,KS.auto),(3,KS.auto),(4,KS.auto),(6,KS.rows [(8,1)] [] [] (Qe (pushE 1 X7) (LM (Ln (Lb rf.Qd) {n:=0,l:=[]}) 0 {n:=Lc rf.Qb,l:=List.take rf.Qb.length [F4.a (Q3 (Xl t) (Xf t) rf.Qb {a:=t.starts.getD 0 La,b:=t.starts.getD 1 La,c:=t.starts.getD 2 La,d:=t.starts.getD 3 La}),F4.b (Q3 (Xl t) (Xf t) rf.Qb {a:=t.starts.getD 0 La,b:=t.starts.getD 1 La,c:=t.starts.getD 2 La,d:=t.starts.getD 3 La}),F4.c (Q3 (Xl t) (Xf t) rf.Qb {a:=t.starts.getD 0 La,b:=t.starts.getD 1 La,c:=t.starts.getD 2 La,d:=t.starts.getD 3 La}),F4.d (Q3 (Xl t) (Xf t) rf.Qb {a:=t.starts.getD 0 La,b:=t.starts.getD 1 La,c:=t.starts.getD 2 La,d:=t.starts.getD 3 La})]})))] []=some ⟨59,61,aZ,[],.run,none,aY rf t (1) (F4.a (Q3 (Xl t) (Xf t) rf.Qb {a:=t.starts.getD 0 La,b:=t.starts.getD 1 La,c:=t.starts.getD 2 La,d:=t.starts.getD 3 La})) (F4.b (Q3 (Xl t) (Xf t) rf.Qb {a:=t.starts.getD 0 La,b:=t.starts.getD 1 La,c:=t.starts.getD 2 La,d:=t.starts.getD 3 La})) (F4.c (Q3 (Xl t) (Xf t) rf.Qb {a:=t.starts.getD 0 La,b:=t.starts.getD 1 La,c:=t.starts.getD 2 La,d:=t.starts.getD 3 La})) (F4.d (Q3 (Xl t) (Xf t) rf.Qb {a:=t.starts.getD 0 La,b:=t.starts.getD 1 La,c:=t.starts.getD 2 La,d:=t.starts.getD 3 La})) (Xl t) (Xf t) (VN t) (0+Xn 0 (↑rf.Qb.length:Int) (Wo (Xl t) rf.Qb {a:=t.starts.getD 0 La,b:=t.starts.getD 1 La,c:=t.starts.getD 2 La,d:=t.starts.getD 3 La})) (0+Xn 0 (↑rf.Qb.length:Int) (Z2 (Xf t) (qM rf.Qb (aF (Xl t) rf.Qb {a:=t.starts.getD 0 La,b:=t.starts.getD 1 La,c:=t.starts.getD 2 La,d:=t.starts.getD 3 La})))) (0+Xn 0 (↑rf.Qb.length:Int) (ZZ rf.Qb (aF (Xl t) rf.Qb {a:=t.starts.getD 0 La,b:=t.starts.getD 1 La,c:=t.starts.getD 2 La,d:=t.starts.getD 3 La}))) (LM (Ln (Lb rf.Qd) {n:=0,l:=[]}) 0 {n:=Lc rf.Qb,l:=List.take rf.Qb.length [F4.a (Q3 (Xl t) (Xf t) rf.Qb {a:=t.starts.getD 0 La,b:=t.starts.getD 1 La,c:=t.starts.getD 2 La,d:=t.starts.getD 3 La}),F4.b (Q3 (Xl t) (Xf t) rf.Qb {a:=t.starts.getD 0 La,b:=t.starts.getD 1 La,c:=t.starts.getD 2 La,d:=t.starts.getD 3 La}),F4.c (Q3 (Xl t) (Xf t) rf.Qb {a:=t.starts.getD 0 La,b:=t.starts.getD 1 La,c:=t.starts.getD 2 La,d:=t.starts.getD 3 La}),F4.d (Q3 (Xl t) (Xf t) rf.Qb {a:=t.starts.getD 0 La,b:=t.starts.getD 1 La,c:=t.starts.getD 2 La,d:=t.starts.getD 3 La})]}),Rh rf t (1) (F4.a (Q3 (Xl t) (Xf t) rf.Qb {a:=t.starts.getD 0 La,b:=t.starts.getD 1 La,c:=t.starts.getD 2 La,d:=t.starts.getD 3 La})) (F4.b (Q3 (Xl t) (Xf t) rf.Qb {a:=t.starts.getD 0 La,b:=t.starts.getD 1 La,c:=t.starts.getD 2 La,d:=t.starts.getD 3 La})) (F4.c (Q3 (Xl t) (Xf t) rf.Qb {a:=t.starts.getD 0 La,b:=t.starts.getD 1 La,c:=t.starts.getD 2 La,d:=t.starts.getD 3 La})) (F4.d (Q3 (Xl t) (Xf t) rf.Qb {a:=t.starts.getD 0 La,b:=t.starts.getD 1 La,c:=t.starts.getD 2 La,d:=t.starts.getD 3 La})) (Xl t) (Xf t) (VN t) (0+Xn 0 (↑rf.Qb.length:Int) (Wo (Xl t) rf.Qb {a:=t.starts.getD 0 La,b:=t.starts.getD 1 La,c:=t.starts.getD 2 La,d:=t.starts.getD 3 La})) (0+Xn 0 (↑rf.Qb.length:Int) (Z2 (Xf t) (qM rf.Qb (aF (Xl t) rf.Qb {a:=t.starts.getD 0 La,b:=t.starts.getD 1 La,c:=t.starts.getD 2 La,d:=t.starts.getD 3 La})))) (0+Xn 0 (↑rf.Qb.length:Int) (ZZ rf.Qb (aF (Xl t) rf.Qb {a:=t.starts.getD 0 La,b:=t.starts.getD 1 La,c:=t.starts.getD 2 La,d:=t.starts.getD 3 La}))) (LM (Ln (Lb rf.Qd) {n:=0,l:=[]}) 0 {n:=Lc rf.Qb,l:=List.take rf.Qb.length [F4.a (Q3 (Xl t) (Xf t) rf.Qb {a:=t.starts.getD 0 La,b:=t.starts.getD 1 La,c:=t.starts.getD 2 La,d:=t.starts.getD 3 La}),F4.b (Q3 (Xl t) (Xf t) rf.Qb {a:=t.starts.getD 0 La,b:=t.starts.getD 1 La,c:=t.starts.getD 2 La,d:=t.starts.getD 3 La}),F4.c (Q3 (Xl t) (Xf t) rf.Qb {a:=t.starts.getD 0 La,b:=t.starts.getD 1 La,c:=t.starts.getD 2 La,d:=t.starts.getD 3 La}),F4.d (Q3 (Xl t) (Xf t) rf.Qb {a:=t.starts.getD 0 La,b:=t.starts.getD 1 La,c:=t.starts.getD 2 La,d:=t.starts.getD 3 La})]}),
 [Xj 1 [(8,1)] [] [] (splice (WC rf) 0 #[Qw 8 (cG rf t)]) (Qe (pushE 1 X7) (LM (Ln (Lb rf.Qd) {n:=0,l:=[]}) 0 {n:=Lc rf.Qb,l:=List.take rf.Qb.length [F4.a (Q3 (t.grows.getD 0 La) (t.takes.getD 0 La) rf.Qb {a:=t.starts.getD 0 La,b:=t.starts.getD 1 La,c:=t.starts.getD 2 La,d:=t.starts.getD 3 La}),F4.b (Q3 (t.grows.getD 0 La) (t.takes.getD 0 La) rf.Qb {a:=t.starts.getD 0 La,b:=t.starts.getD 1 La,c:=t.starts.getD 2 La,d:=t.starts.getD 3 La}),F4.c (Q3 (t.grows.getD 0 La) (t.takes.getD 0 La) rf.Qb {a:=t.starts.getD 0 La,b:=t.starts.getD 1 La,c:=t.starts.getD 2 La,d:=t.starts.getD 3 La}),F4.d (Q3 (t.grows.getD 0 La) (t.takes.getD 0 La) rf.Qb {a:=t.starts.getD 0 La,b:=t.starts.getD 1 La,c:=t.starts.getD 2 La,d:=t.starts.getD 3 La})]})),0+TypeInfo.size Try.t25<=LG (WC rf)/\splice (WC rf) 0 (Value.cells (Zc {len:=16000,tr:=Tri.set 14 (Tri.set 14 Tri.lf 50 (Qw 8 (cG rf t))) 51 (pA 6 0)} 50))=splice (WC rf) 0 #[Qw 8 (cG rf t)],0=(↑0:Int)/\0<Lb rf.Qd,FJ YP B (gj rf t) (ba rf t) 8 (OO.ret (nu rf t)) (([]++((8,Xx)::Xa (8+1) []))++ba rf t) 9 (Lg 8) [],di YP (Q1 YP) Xy (fun x x_1 x_2=>none) {len:=16000,tr:=Tri.set 14 (Tri.set 14 Tri.lf 48 (YI (↑rf.Qb.length:Int))) 44 (pA 4 3)} {dst:=some 49,op:=Op.slice 111 (Operand.tmp 44) none (some (Operand.tmp 48)) none,type:=25,pos:= "follow.go:33",after:=#[{on:=2,ground:=Ground.data},{on:=6,ground:=Ground.data}],guard:=none} [(4,Obj.cells (Tc rf t) 120),(7,Obj.coro none),(6,Obj.cells (WC rf) 25),(5,Obj.coro none),(4,Obj.cells (SU rf t) 120),(3,Obj.cells WE 45),(2,Obj.cells (PC t) 42),(1,Obj.cells (PB rf) 24),(0,Obj.coro none)] 8=some {out:=OO.ret (PA rf),H:=[(4,Obj.cells (Tc rf t) 120),(7,Obj.coro none),(6,Obj.cells (WC rf) 25),(5,Obj.coro none),(4,Obj.cells (SU rf t) 120),(3,Obj.cells WE 45),(2,Obj.cells (PC t) 42),(1,Obj.cells (PB rf) 24),(0,Obj.coro none)],n:=8,R:=[],W:=[]},Qr []/\lz rf.Qb rf.Qc rf.Qd (t.starts.getD 0 La) (t.starts.getD 1 La) (t.starts.getD 2 La) (t.starts.getD 3 La) (.slice none 0 0) (.slice none 0 0) (t.grows.getD 0 La) (t.takes.getD 0 La) (0+t.starts.getD 0 La+t.starts.getD 1 La+t.starts.getD 2 La+t.starts.getD 3 La) (0) (0) (0) (0),0=(↑0:Int)/\0<Lc t.takes/\Lh (Qe XA t.takes) (0*TypeInfo.size Try.t25) (0*TypeInfo.size Try.t25+TypeInfo.size Try.t25)=#[QC (Lc (t.takes.getD 0 La)) (Qe Q5 (t.takes.getD 0 La))],0=(↑0:Int)/\0<Lc t.grows/\Lh (Qe XA t.grows) (0*TypeInfo.size Try.t25) (0*TypeInfo.size Try.t25+TypeInfo.size Try.t25)=#[QC (Lc (t.grows.getD 0 La)) (Qe Q5 (t.grows.getD 0 La))],XC 0 rf.Qd=true,Sg YP 40 (Zc {len:=16000,tr:=Tri.set 14 Tri.lf 23 (YI rf.Qd)} 23) (Zc {len:=16000,tr:=Tri.set 14 Tri.lf 23 (YI rf.Qd)} 23)=some (25,Qe (Ue [.slice none 0 0]) (Ln (Lb rf.Qd) ()),Lb rf.Qd,TypeInfo.size Try.t25),FJ YP B (gp rf t) (bc rf t) 5 (OO.ret (YI (0+t.starts.getD 0 La+t.starts.getD 1 La+t.starts.getD 2 La+t.starts.getD 3 La))) (([]++((5,Xx)::Xa (5+1) []))++bc rf t) 6 (Lg 5) [],0<Lc t.starts/\3+LU t.starts.length 4*TypeInfo.size Try.t3<=LG (rD rf)/\LU t.starts.length 4*TypeInfo.size Try.t3<=LG (Qe Q5 t.starts)/\(Array.all (Qe Q5 t.starts) fun v=>simple v || WU v)=true/\ones (Array.map (Wc 0) (Lh (Qe Q5 t.starts) 0 (LU t.starts.length 4*TypeInfo.size Try.t3)))=true/\splice (rD rf) 3 (Array.map (Wc 0) (Lh (Qe Q5 t.starts) 0 (LU t.starts.length 4*TypeInfo.size Try.t3)))=(rF rf t)]⟩:=by kernel_rfl
end
set_option maxHeartbeats 4000000 in
theorem Iu(rf:Ql)(t:Ze)(QE:OkT rf.Qb rf.Qd t.grows t.takes (Qu t.starts))(hl:t.starts.length=rf.Qb.length)(hn:1<=rf.Qb.length/\rf.Qb.length<=4)(hs4:1<=rf.Qd/\rf.Qd<=4){B:Lo}(hJ:∀w,B.has w->J0 w){c0:CF}:∀m:Nat,(∀(i fa fb fc fd:Int) (g7 t8:List Int) (l0 l1 l2 l3:Int) (ys:List RW),(rf.Qd-i).toNat=m->∀(h0:1<=i) (h1:i<=rf.Qd) (ea:fa=(aH rf.Qb t.grows t.takes (Qu t.starts) i.toNat).a) (eb:fb=(aH rf.Qb t.grows t.takes (Qu t.starts) i.toNat).b) (ec:fc=(aH rf.Qb t.grows t.takes (Qu t.starts) i.toNat).c) (ed:fd=(aH rf.Qb t.grows t.takes (Qu t.starts) i.toNat).d) (e0:l0=(Qu t.starts).sum) (e1:l1=Xn 0 i (Ym rf.Qb t.grows t.takes (Qu t.starts))) (e2:l2=Xn 0 i (Va rf.Qb t.grows t.takes (Qu t.starts))) (e3:l3=Xn 0 i (Yj rf.Qb t.grows t.takes (Qu t.starts))) (ey:ys=j8 rf.Qd rf.Qb t.grows t.takes (Qu t.starts) i),Iv B c0 rf t i fa fb fc fd g7 t8 l0 l1 l2 l3 ys->EndsT YP B c0 (.tuple #[QC (QW rf.Qd rf.Qb t.grows t.takes (Qu t.starts)).length (Qe XA (QW rf.Qd rf.Qb t.grows t.takes (Qu t.starts))),.agg #[YI (Qu t.starts).sum,YI (Xn 0 rf.Qd (Ym rf.Qb t.grows t.takes (Qu t.starts))),YI (Xn 0 rf.Qd (Va rf.Qb t.grows t.takes (Qu t.starts))),YI (Xn 0 rf.Qd (Yj rf.Qb t.grows t.takes (Qu t.starts))),YI (aH rf.Qb t.grows t.takes (Qu t.starts) rf.Qd.toNat).sum]])):=by
 intro m0;induction m0 using Lz with
 |_ m0 ih0=>
  intro i fa fb fc fd g7 t8 l0 l1 l2 l3 ys YA h0 h1 ea eb ec ed e0 e1 e2 e3 ey ⟨Qm,ZF,Xs⟩;have Jb:=QE.hg;have htn:=QE.ht;have hse0:(Qu t.starts).sum=t.starts.getD 0 La+t.starts.getD 1 La+t.starts.getD 2 La+t.starts.getD 3 La:=rfl;have ZB:=QE.st i.toNat (by omega);have hsu:=QE.sums (i:=i) (by omega) h1;have hpl:=QE.hp;have hy:ys.length=rf.Qd.toNat:=by rw[ey];exact Xk
  have hfe:R5 ⟨fa,fb,fc,fd⟩:=by rw[ea,eb,ec,ed];exact ZB.1
  have hse:F4.sum ⟨fa,fb,fc,fd⟩<=10000000000:=by rw[ea,eb,ec,ed];have:=QE.hs;have:(aH rf.Qb t.grows t.takes (Qu t.starts) i.toNat).sum<=_:=ZB.2;show(aH rf.Qb t.grows t.takes (Qu t.starts) i.toNat).sum<=_;omega
  have hnn:0<=fa/\0<=fb/\0<=fc/\0<=fd:=hfe.1;have hss:fa+fb+fc+fd<=10000000000:=hse;by_cases q0:(i:Int)<rf.Qd
  ·by_cases q1:(Lc rf.Qb:Int)=(0)
   ·exfalso
    (omega)
   ·have rj0:FJ YP B (gu rf t i fa fb fc fd g7 t8 l0 l1 l2 l3 ys Qm) (bf rf t i fa fb fc fd g7 t8 l0 l1 l2 l3 ys Qm) 7 (OO.ret (Qw 7 (QC rf.Qb.length (Fz.cs {k:=7,rs:=[],cs:=Qe Q5 (List.take rf.Qb.length [F4.a (Q3 (t.grows.getD i.toNat La) (t.takes.getD i.toNat La) rf.Qb {a:=fa,b:=fb,c:=fc,d:=fd}),F4.b (Q3 (t.grows.getD i.toNat La) (t.takes.getD i.toNat La) rf.Qb {a:=fa,b:=fb,c:=fc,d:=fd}),F4.c (Q3 (t.grows.getD i.toNat La) (t.takes.getD i.toNat La) rf.Qb {a:=fa,b:=fb,c:=fc,d:=fd}),F4.d (Q3 (t.grows.getD i.toNat La) (t.takes.getD i.toNat La) rf.Qb {a:=fa,b:=fb,c:=fc,d:=fd})])})))) (([]++((7,Xx)::Xa (7+1) []))++bf rf t i fa fb fc fd g7 t8 l0 l1 l2 l3 ys Qm) 8 (Lg 7) []:=by
     exact FinK.fjB (GoE.finK okF hJ Qf (Q6 (by kernel_rfl)) (Qy (by kernel_rfl)) ((GoE.refl (P:=YP) (B:=B) (c0:=gu rf t i fa fb fc fd g7 t8 l0 l1 l2 l3 ys Qm) (Q6 (by kernel_rfl))).widen (Wf:=((([]):List (Nat×KS)).map (·.1))) (by simp) (Qy (by kernel_rfl))) (Is B rf t i fa fb fc fd g7 t8 l0 l1 l2 l3 ys Qm)
      ⟨(Xc (fun x=>List.all_eq_true.1 (by rfl))),⟨(yJ (z:=0) (by':=8) rfl rfl rfl rfl rfl rfl rfl rfl (by kernel_rfl) rfl (by decide) ⟨by omega,(by unfold maxLen;omega),by omega,Eg (fs:=[F4.a (Q3 (t.grows.getD i.toNat La) (t.takes.getD i.toNat La) rf.Qb {a:=fa,b:=fb,c:=fc,d:=fd}),F4.b (Q3 (t.grows.getD i.toNat La) (t.takes.getD i.toNat La) rf.Qb {a:=fa,b:=fb,c:=fc,d:=fd}),F4.c (Q3 (t.grows.getD i.toNat La) (t.takes.getD i.toNat La) rf.Qb {a:=fa,b:=fb,c:=fc,d:=fd}),F4.d (Q3 (t.grows.getD i.toNat La) (t.takes.getD i.toNat La) rf.Qb {a:=fa,b:=fb,c:=fc,d:=fd})]) rfl (Nat.le_trans (m:=4) (by omega) (Nat.le_of_eq rfl)) (Nat.succ_pos _)⟩),trivial⟩⟩) (ex:=[5]) (by kernel_rfl) ⟨trivial,⟨trivial,⟨trivial,⟨trivial,⟨trivial,⟨trivial,⟨trivial,⟨(pU (t:=25) (fl:=(0,0)) (Xz (by exact fun _=>rfl)) (by decide)),trivial⟩⟩⟩⟩⟩⟩⟩⟩
    have hgi:=QE.rg i.toNat (by omega);have hti:=QE.rt i.toNat (by omega);have sn1:=Vb (i:=i) (g:=Ym rf.Qb t.grows t.takes (Qu t.starts)) (by omega);have sn2:=Vb (i:=i) (g:=Va rf.Qb t.grows t.takes (Qu t.starts)) (by omega);have sn3:=Vb (i:=i) (g:=Yj rf.Qb t.grows t.takes (Qu t.starts)) (by omega);have hsf:(⟨fa,fb,fc,fd⟩:F4)=(aH rf.Qb t.grows t.takes (Qu t.starts) i.toNat):=by rw[ea,eb,ec,ed]
    have hnx:aH rf.Qb t.grows t.takes (Qu t.starts) (i+1).toNat=Q3 (t.grows.getD i.toNat La) (t.takes.getD i.toNat La) rf.Qb ⟨fa,fb,fc,fd⟩:=by rw[hsf,show(i+1).toNat=i.toNat+1 by omega];rfl
    have hps:=rI (n:=rf.Qd) (i:=i) (ps:=rf.Qb) (gs:=t.grows) (ts:=t.takes) (f:=(Qu t.starts)) (by omega) (by omega);exact((ih0 _ (by omega)) (i+1) (F4.a (Q3 (t.grows.getD i.toNat La) (t.takes.getD i.toNat La) rf.Qb {a:=fa,b:=fb,c:=fc,d:=fd})) (F4.b (Q3 (t.grows.getD i.toNat La) (t.takes.getD i.toNat La) rf.Qb {a:=fa,b:=fb,c:=fc,d:=fd})) (F4.c (Q3 (t.grows.getD i.toNat La) (t.takes.getD i.toNat La) rf.Qb {a:=fa,b:=fb,c:=fc,d:=fd})) (F4.d (Q3 (t.grows.getD i.toNat La) (t.takes.getD i.toNat La) rf.Qb {a:=fa,b:=fb,c:=fc,d:=fd})) (t.grows.getD i.toNat La) (t.takes.getD i.toNat La) (l0) (l1+Xn 0 (↑rf.Qb.length:Int) (Wo (t.grows.getD i.toNat La) rf.Qb {a:=fa,b:=fb,c:=fc,d:=fd})) (l2+Xn 0 (↑rf.Qb.length:Int) (Z2 (t.takes.getD i.toNat La) (qM rf.Qb (aF (t.grows.getD i.toNat La) rf.Qb {a:=fa,b:=fb,c:=fc,d:=fd})))) (l3+Xn 0 (↑rf.Qb.length:Int) (ZZ rf.Qb (aF (t.grows.getD i.toNat La) rf.Qb {a:=fa,b:=fb,c:=fc,d:=fd}))) (LM ys i.toNat {n:=Lc rf.Qb,l:=List.take rf.Qb.length [F4.a (Q3 (t.grows.getD i.toNat La) (t.takes.getD i.toNat La) rf.Qb {a:=fa,b:=fb,c:=fc,d:=fd}),F4.b (Q3 (t.grows.getD i.toNat La) (t.takes.getD i.toNat La) rf.Qb {a:=fa,b:=fb,c:=fc,d:=fd}),F4.c (Q3 (t.grows.getD i.toNat La) (t.takes.getD i.toNat La) rf.Qb {a:=fa,b:=fb,c:=fc,d:=fd}),F4.d (Q3 (t.grows.getD i.toNat La) (t.takes.getD i.toNat La) rf.Qb {a:=fa,b:=fb,c:=fc,d:=fd})]}) rfl (by omega) (by omega) (by(rw[hnx];done)) (by(rw[hnx];done)) (by(rw[hnx];done)) (by(rw[hnx];done)) (by with_reducible assumption) (by(rw[hsf,sn1,e1];rfl)) (by(rw[hsf,sn2,e2];rfl)) (by(rw[hsf,sn3,e3];rfl)) (by(rw[ey,<-hps];exact congrArg (LM _ _) (I0 hsf)))
     (Xs.landM okF hJ Qf (Ir B rf t i fa fb fc fd g7 t8 l0 l1 l2 l3 ys Qm)
     (by exact⟨(by exact(cb (z:=1) (k:=Lb i) (fun _=>rfl) (Xe (Xz (by exact fun _=>rfl)) (Lj _)) (by omega) (by exact⟨(.Pj (List.Mem.tail _ (Lj _)) rfl),trivial⟩))),⟨(QY (by omega) (by omega)),⟨⟨(by exact fH (z:=1) (k:=Lb i) (fun _=>rfl) (by first|omega|(rw[LS];omega)|(rw[LF];omega)) rfl),rfl⟩,⟨⟨by omega,by omega⟩,⟨rj0,⟨(kg (l:=(↑rf.Qb.length:Int)) rfl rfl rfl rfl rfl rfl (by omega) (by omega)),⟨⟨trivial,DF rf.Qb rf.Qc rf.Qd (fa) (fb) (fc) (fd) (Qw 0 (QC g7.length (Qe Q5 g7))) (Qw 0 (QC t8.length (Qe Q5 t8))) (t.grows.getD i.toNat La) (t.takes.getD i.toNat La) (l0) (l1) (l2) (l3) (0) (by with_reducible assumption) (by with_reducible assumption) (by with_reducible assumption) (by with_reducible assumption) (by with_reducible assumption) (by omega) (by omega) (by omega)⟩,⟨⟨by omega,by omega,(Qs (z:=1) (fun _=>rfl) (by omega))⟩,⟨⟨by omega,by omega,(Qs (z:=1) (fun _=>rfl) (by omega))⟩,⟨(Xd q0),trivial⟩⟩⟩⟩⟩⟩⟩⟩⟩⟩) (by kernel_rfl) (by kernel_rfl))).cast (by rfl)
  ·have rj0:FJ YP B (gq rf t i fa fb fc fd g7 t8 l0 l1 l2 l3 ys Qm) (bd rf t i fa fb fc fd g7 t8 l0 l1 l2 l3 ys Qm) 6 (OO.ret (YI (0+fa+fb+fc+fd))) (([]++((6,Xx)::Xa (6+1) []))++bd rf t i fa fb fc fd g7 t8 l0 l1 l2 l3 ys Qm) 7 (Lg 6) []:=by
    exact FinK.fjB (GoE.finK okF hJ Qf (Q6 (by kernel_rfl)) (Qy (by kernel_rfl)) ((GoE.refl (P:=YP) (B:=B) (c0:=gq rf t i fa fb fc fd g7 t8 l0 l1 l2 l3 ys Qm) (Q6 (by kernel_rfl))).widen (Wf:=((([]):List (Nat×KS)).map (·.1))) (by simp) (Qy (by kernel_rfl))) (Iq B rf t i fa fb fc fd g7 t8 l0 l1 l2 l3 ys Qm)
     ⟨(QY (by omega) (by omega)),⟨(QY (by omega) (by omega)),⟨(QY (by omega) (by omega)),⟨(QY (by omega) (by omega)),trivial⟩⟩⟩⟩) (ex:=[5]) (by kernel_rfl) ⟨trivial,⟨trivial,⟨trivial,⟨trivial,⟨trivial,⟨(pU (t:=25) (fl:=(0,0)) (Xz (by exact fun _=>rfl)) (by decide)),trivial⟩⟩⟩⟩⟩⟩
   exact(GoE.endsT okF hJ Qf Xs (Ip B rf t i fa fb fc fd g7 t8 l0 l1 l2 l3 ys Qm)
    ⟨(ZS (Xz (by exact fun _=>rfl)) (Lj _)),⟨rj0,⟨(X9 (Int.not_lt.1 q0)),trivial⟩⟩⟩).cast (by((have en:i=rf.Qd:=(by omega));(have e9:=I1 (n:=rf.Qd) (i:=i) (ps:=rf.Qb) (gs:=t.grows) (ts:=t.takes) (f:=(Qu t.starts)) (by omega) (by omega));rw[ey,e9,e0,e1,e2,e3,ea,eb,ec,ed,en,show(QW rf.Qd rf.Qb t.grows t.takes (Qu t.starts)).length=rf.Qd.toNat from Xk,Int.zero_add];rfl))
set_option maxHeartbeats 4000000 in
theorem N9(rf:Ql)(t:Ze)(QE:OkT rf.Qb rf.Qd t.grows t.takes (Qu t.starts))(hl:t.starts.length=rf.Qb.length)(hn:1<=rf.Qb.length/\rf.Qb.length<=4)(hs4:1<=rf.Qd/\rf.Qd<=4){B:Lo}(hJ:∀w,B.has w->J0 w):EndsT YP B (Qp YP 59 61 (([.agg (Qv rf).toArray,.agg #[XH t.starts,QC t.grows.length (Qe XA t.grows),QC t.takes.length (Qe XA t.takes)]]).map (Q2 0 4))) (.tuple #[QC (QW rf.Qd rf.Qb t.grows t.takes (Qu t.starts)).length (Qe XA (QW rf.Qd rf.Qb t.grows t.takes (Qu t.starts))),.agg #[YI (Qu t.starts).sum,YI (Xn 0 rf.Qd (Ym rf.Qb t.grows t.takes (Qu t.starts))),YI (Xn 0 rf.Qd (Va rf.Qb t.grows t.takes (Qu t.starts))),YI (Xn 0 rf.Qd (Yj rf.Qb t.grows t.takes (Qu t.starts))),YI (aH rf.Qb t.grows t.takes (Qu t.starts) rf.Qd.toNat).sum]]):=by
 have hf0:R5 ⟨t.starts.getD 0 La,t.starts.getD 1 La,t.starts.getD 2 La,t.starts.getD 3 La⟩:=QE.hf;have hs0:F4.sum ⟨t.starts.getD 0 La,t.starts.getD 1 La,t.starts.getD 2 La,t.starts.getD 3 La⟩<=10000000000:=(fun h=>by show(Qu t.starts).sum<=_;omega) QE.hs;have hpl:=QE.hp;have Jb:=QE.hg;have htn:=QE.ht;have hga:=QE.rg 0 (by omega);have hta:=QE.rt 0 (by omega);have hnn:0<=t.starts.getD 0 La/\0<=t.starts.getD 1 La/\0<=t.starts.getD 2 La/\0<=t.starts.getD 3 La:=QE.hf.1;have hss:t.starts.getD 0 La+t.starts.getD 1 La+t.starts.getD 2 La+t.starts.getD 3 La<=10000000000:=hs0;have hse0:(Qu t.starts).sum=t.starts.getD 0 La+t.starts.getD 1 La+t.starts.getD 2 La+t.starts.getD 3 La:=rfl;have hb1:Xn 0 1 (Ym rf.Qb t.grows t.takes (Qu t.starts))=Xn 0 rf.Qb.length (Wo (t.grows.getD 0 La) rf.Qb ⟨t.starts.getD 0 La,t.starts.getD 1 La,t.starts.getD 2 La,t.starts.getD 3 La⟩):=Bj.trans rfl;have hb2:Xn 0 1 (Va rf.Qb t.grows t.takes (Qu t.starts))=Xn 0 rf.Qb.length (Z2 (t.takes.getD 0 La) (qM rf.Qb (aF (t.grows.getD 0 La) rf.Qb ⟨t.starts.getD 0 La,t.starts.getD 1 La,t.starts.getD 2 La,t.starts.getD 3 La⟩))):=Bj.trans rfl;have hb3:Xn 0 1 (Yj rf.Qb t.grows t.takes (Qu t.starts))=Xn 0 rf.Qb.length (ZZ rf.Qb (aF (t.grows.getD 0 La) rf.Qb ⟨t.starts.getD 0 La,t.starts.getD 1 La,t.starts.getD 2 La,t.starts.getD 3 La⟩)):=Bj.trans rfl;have rj0:FJ YP B (gp rf t) (bc rf t) 5 (OO.ret (YI (0+t.starts.getD 0 La+t.starts.getD 1 La+t.starts.getD 2 La+t.starts.getD 3 La))) (([]++((5,Xx)::Xa (5+1) []))++bc rf t) 6 (Lg 5) []:=by
  exact FinK.fjB (GoE.finK okF hJ Qf (Q6 (by kernel_rfl)) (Qy (by kernel_rfl)) ((GoE.refl (P:=YP) (B:=B) (c0:=gp rf t) (Q6 (by kernel_rfl))).widen (Wf:=((([]):List (Nat×KS)).map (·.1))) (by simp) (Qy (by kernel_rfl))) (Io B rf t)
   ⟨(QY (by omega) (by omega)),⟨(QY (by omega) (by omega)),⟨(QY (by omega) (by omega)),⟨(QY (by omega) (by omega)),trivial⟩⟩⟩⟩) (ex:=[]) (by kernel_rfl) (Vr _)
 by_cases q0:(0:Int)<rf.Qd
 ·by_cases q1:(Lc rf.Qb:Int)=(0)
  ·exfalso
   (omega)
  ·have rj1:FJ YP B (gj rf t) (ba rf t) 8 (OO.ret (Qw 8 (QC rf.Qb.length (Fz.cs {k:=8,rs:=[],cs:=Qe Q5 (List.take rf.Qb.length [F4.a (Q3 (t.grows.getD 0 La) (t.takes.getD 0 La) rf.Qb {a:=t.starts.getD 0 La,b:=t.starts.getD 1 La,c:=t.starts.getD 2 La,d:=t.starts.getD 3 La}),F4.b (Q3 (t.grows.getD 0 La) (t.takes.getD 0 La) rf.Qb {a:=t.starts.getD 0 La,b:=t.starts.getD 1 La,c:=t.starts.getD 2 La,d:=t.starts.getD 3 La}),F4.c (Q3 (t.grows.getD 0 La) (t.takes.getD 0 La) rf.Qb {a:=t.starts.getD 0 La,b:=t.starts.getD 1 La,c:=t.starts.getD 2 La,d:=t.starts.getD 3 La}),F4.d (Q3 (t.grows.getD 0 La) (t.takes.getD 0 La) rf.Qb {a:=t.starts.getD 0 La,b:=t.starts.getD 1 La,c:=t.starts.getD 2 La,d:=t.starts.getD 3 La})])})))) (([]++((8,Xx)::Xa (8+1) []))++ba rf t) 9 (Lg 8) []:=by
    exact FinK.fjB (GoE.finK okF hJ Qf (Q6 (by kernel_rfl)) (Qy (by kernel_rfl)) ((GoE.refl (P:=YP) (B:=B) (c0:=gj rf t) (Q6 (by kernel_rfl))).widen (Wf:=((([]):List (Nat×KS)).map (·.1))) (by simp) (Qy (by kernel_rfl))) (Im B rf t)
     ⟨(Xc (fun x=>List.all_eq_true.1 (by rfl))),⟨(yJ (z:=0) (by':=8) rfl rfl rfl rfl rfl rfl rfl rfl (by kernel_rfl) rfl (by decide) ⟨by omega,(by unfold maxLen;omega),by omega,Eg (fs:=[F4.a (Q3 (t.grows.getD 0 La) (t.takes.getD 0 La) rf.Qb {a:=t.starts.getD 0 La,b:=t.starts.getD 1 La,c:=t.starts.getD 2 La,d:=t.starts.getD 3 La}),F4.b (Q3 (t.grows.getD 0 La) (t.takes.getD 0 La) rf.Qb {a:=t.starts.getD 0 La,b:=t.starts.getD 1 La,c:=t.starts.getD 2 La,d:=t.starts.getD 3 La}),F4.c (Q3 (t.grows.getD 0 La) (t.takes.getD 0 La) rf.Qb {a:=t.starts.getD 0 La,b:=t.starts.getD 1 La,c:=t.starts.getD 2 La,d:=t.starts.getD 3 La}),F4.d (Q3 (t.grows.getD 0 La) (t.takes.getD 0 La) rf.Qb {a:=t.starts.getD 0 La,b:=t.starts.getD 1 La,c:=t.starts.getD 2 La,d:=t.starts.getD 3 La})]) rfl (Nat.le_trans (m:=4) (by omega) (Nat.le_of_eq rfl)) (Nat.succ_pos _)⟩),trivial⟩⟩) (ex:=[6]) (by kernel_rfl) ⟨trivial,⟨trivial,⟨(JX (t:=25) (fl:=(0,0)) (fun x=>List.all_eq_true.1 (by rfl))),⟨trivial,⟨trivial,⟨trivial,⟨trivial,⟨trivial,⟨trivial,trivial⟩⟩⟩⟩⟩⟩⟩⟩⟩
   exact((Iu rf t QE hl hn hs4 hJ _) (1) (F4.a (Q3 (t.grows.getD 0 La) (t.takes.getD 0 La) rf.Qb {a:=t.starts.getD 0 La,b:=t.starts.getD 1 La,c:=t.starts.getD 2 La,d:=t.starts.getD 3 La})) (F4.b (Q3 (t.grows.getD 0 La) (t.takes.getD 0 La) rf.Qb {a:=t.starts.getD 0 La,b:=t.starts.getD 1 La,c:=t.starts.getD 2 La,d:=t.starts.getD 3 La})) (F4.c (Q3 (t.grows.getD 0 La) (t.takes.getD 0 La) rf.Qb {a:=t.starts.getD 0 La,b:=t.starts.getD 1 La,c:=t.starts.getD 2 La,d:=t.starts.getD 3 La})) (F4.d (Q3 (t.grows.getD 0 La) (t.takes.getD 0 La) rf.Qb {a:=t.starts.getD 0 La,b:=t.starts.getD 1 La,c:=t.starts.getD 2 La,d:=t.starts.getD 3 La})) (t.grows.getD 0 La) (t.takes.getD 0 La) (0+t.starts.getD 0 La+t.starts.getD 1 La+t.starts.getD 2 La+t.starts.getD 3 La) (0+Xn 0 (↑rf.Qb.length:Int) (Wo (t.grows.getD 0 La) rf.Qb {a:=t.starts.getD 0 La,b:=t.starts.getD 1 La,c:=t.starts.getD 2 La,d:=t.starts.getD 3 La})) (0+Xn 0 (↑rf.Qb.length:Int) (Z2 (t.takes.getD 0 La) (qM rf.Qb (aF (t.grows.getD 0 La) rf.Qb {a:=t.starts.getD 0 La,b:=t.starts.getD 1 La,c:=t.starts.getD 2 La,d:=t.starts.getD 3 La})))) (0+Xn 0 (↑rf.Qb.length:Int) (ZZ rf.Qb (aF (t.grows.getD 0 La) rf.Qb {a:=t.starts.getD 0 La,b:=t.starts.getD 1 La,c:=t.starts.getD 2 La,d:=t.starts.getD 3 La}))) (LM (Ln (Lb rf.Qd) {n:=0,l:=[]}) 0 {n:=Lc rf.Qb,l:=List.take rf.Qb.length [F4.a (Q3 (t.grows.getD 0 La) (t.takes.getD 0 La) rf.Qb {a:=t.starts.getD 0 La,b:=t.starts.getD 1 La,c:=t.starts.getD 2 La,d:=t.starts.getD 3 La}),F4.b (Q3 (t.grows.getD 0 La) (t.takes.getD 0 La) rf.Qb {a:=t.starts.getD 0 La,b:=t.starts.getD 1 La,c:=t.starts.getD 2 La,d:=t.starts.getD 3 La}),F4.c (Q3 (t.grows.getD 0 La) (t.takes.getD 0 La) rf.Qb {a:=t.starts.getD 0 La,b:=t.starts.getD 1 La,c:=t.starts.getD 2 La,d:=t.starts.getD 3 La}),F4.d (Q3 (t.grows.getD 0 La) (t.takes.getD 0 La) rf.Qb {a:=t.starts.getD 0 La,b:=t.starts.getD 1 La,c:=t.starts.getD 2 La,d:=t.starts.getD 3 La})]}) rfl (by omega) (by omega) (by rfl) (by rfl) (by rfl) (by rfl) (by omega) (by omega) (by omega) (by omega) (by(rw[NC (n:=rf.Qd) (ps:=rf.Qb) (gs:=t.grows) (ts:=t.takes) (f:=(Qu t.starts))];exact rI (i:=0) (by omega) (by omega)))
    (GoE.start.landM okF hJ Qf (Il B rf t)
    (by exact⟨(by exact(cb (z:=1) (k:=0) (fun _=>rfl) (V2 (by exact⟨.nil,trivial⟩) _) (by(rw[LF];omega)) (by exact⟨(.Pj (Lj _) rfl),trivial⟩))),⟨⟨(by exact ly (z:=1) (k:=0) (fun _=>rfl) (by first|omega|(rw[LS];omega)|(rw[LF];omega))),rfl⟩,⟨⟨by omega,by omega⟩,⟨rj1,⟨(kg (l:=(↑rf.Qb.length:Int)) rfl rfl rfl rfl rfl rfl (by omega) (by omega)),⟨⟨trivial,DF rf.Qb rf.Qc rf.Qd (t.starts.getD 0 La) (t.starts.getD 1 La) (t.starts.getD 2 La) (t.starts.getD 3 La) (.slice none 0 0) (.slice none 0 0) (t.grows.getD 0 La) (t.takes.getD 0 La) (0+t.starts.getD 0 La+t.starts.getD 1 La+t.starts.getD 2 La+t.starts.getD 3 La) (0) (0) (0) (0) (by with_reducible assumption) (by with_reducible assumption) (by with_reducible assumption) (by with_reducible assumption) (by with_reducible assumption) (by omega) (by omega) (by omega)⟩,⟨⟨by omega,by omega,(Qs (z:=1) (fun _=>rfl) (by omega))⟩,⟨⟨by omega,by omega,(Qs (z:=1) (fun _=>rfl) (by omega))⟩,⟨(Xd q0),⟨(fg (bytes:=24) (by kernel_rfl) (by omega) (by omega) (by omega)),⟨rj0,⟨(ig (fun _=>rfl) rfl (by omega) (by omega) rfl (YL rfl) rfl),trivial⟩⟩⟩⟩⟩⟩⟩⟩⟩⟩⟩⟩) (by kernel_rfl) (by kernel_rfl))).cast (by rfl)
 ·exfalso
  (omega)
theorem QaY(rf:Ql)(t:Ze)(QE:OkT rf.Qb rf.Qd t.grows t.takes (Qu t.starts))(hl:t.starts.length=rf.Qb.length)(hn:1<=rf.Qb.length/\rf.Qb.length<=4)(hs4:1<=rf.Qd/\rf.Qd<=4):Qn YP J0 59 #[.agg (Qv rf).toArray,.agg #[XH t.starts,QC t.grows.length (Qe XA t.grows),QC t.takes.length (Qe XA t.takes)]] (.tuple #[QC (QW rf.Qd rf.Qb t.grows t.takes (Qu t.starts)).length (Qe XA (QW rf.Qd rf.Qb t.grows t.takes (Qu t.starts))),.agg #[YI (Qu t.starts).sum,YI (Xn 0 rf.Qd (Ym rf.Qb t.grows t.takes (Qu t.starts))),YI (Xn 0 rf.Qd (Va rf.Qb t.grows t.takes (Qu t.starts))),YI (Xn 0 rf.Qd (Yj rf.Qb t.grows t.takes (Qu t.starts))),YI (aH rf.Qb t.grows t.takes (Qu t.starts) rf.Qd.toNat).sum]]):=
 Xb (ts:=[.agg (Qv rf).toArray,.agg #[XH t.starts,QC t.grows.length (Qe XA t.grows),QC t.takes.length (Qe XA t.takes)]]) XZ (c0:=Qp YP 59 61 (([.agg (Qv rf).toArray,.agg #[XH t.starts,QC t.grows.length (Qe XA t.grows),QC t.takes.length (Qe XA t.takes)]]).map (Q2 0 4))) (by kernel_rfl) (by kernel_rfl) fun B hJ=>N9 rf t QE hl hn hs4 hJ
end
end Go.Proofs.Ytncjjangllkokaa

namespace Go.Proofs.Ytncjjangllkokaa
open Go Go.CE Go.RowKit
theorem PM{s:Int}(h:0<=s):Yq 0 (s+1)=Yq 0 s++[s]:=by
 unfold Yq;rw[show(s+1-0).toNat=(s-0).toNat+1 by omega,List.range_succ,List.map_append];congr 1;simp;omega
theorem Ot{f:F4}{n:Nat}(h:n<=4):Ka n f.at=f.list.take n:=by
 have:n=0\/n=1\/n=2\/n=3\/n=4:=by omega
 rcases this with rfl|rfl|rfl|rfl|rfl <;> rfl
section
variable {ps:List Qg} {n:Int} {gs ts:List (List Int)} {f:F4} {l:List Int}
end
end Go.Proofs.Ytncjjangllkokaa

namespace Go.Proofs.Ytncjjangllkokaa
open Go Go.CE Go.RowKit
set_option maxRecDepth 100000
end Go.Proofs.Ytncjjangllkokaa

namespace Go.Proofs.Ytncjjangllkokaa
open Go Go.CE Go.RowKit
noncomputable section
set_option maxRecDepth 100000
def vz(xs:List Int)(ss:List Span)(i:Int):Bool:=(Yq i xs.length).all fun k=>UI (xs.getD k.toNat La) (ss.getD k.toNat La).lo (ss.getD k.toNat La).hi
def aU(xs:List Int)(ss:List Span):Bool:=decide (xs.length=ss.length) && vz xs ss 0
theorem ix{xs:List Int}{ss:List Span}{i:Int}(h:i<xs.length):vz xs ss i=(UI (xs.getD i.toNat La) (ss.getD i.toNat La).lo (ss.getD i.toNat La).hi && vz xs ss (i+1)):=by
 unfold vz;rw[mr h,List.all_cons]
theorem GA{xs:List Int}{ss:List Span}{i:Int}(h:xs.length<=i):vz xs ss i=true:=by
 unfold vz;rw[lu h];rfl
def v9(rf:Ql)(Qa:List Int)(gs ts:List (List Int))(s:Int):Bool:=aU (gs.getD s.toNat La) (rf.Qb.map XI) && aU (ts.getD s.toNat La) (XE rf.Qb (Qa.getD s.toNat 0))
def fE(rf:Ql)(Qa:List Int)(gs ts:List (List Int))(i:Int):Bool:=(Yq i rf.Qd).all fun s=>v9 rf Qa gs ts s
theorem S5{rf:Ql}{Qa:List Int}{gs ts:List (List Int)}{i:Int}(h:i<rf.Qd):fE rf Qa gs ts i=(v9 rf Qa gs ts i && fE rf Qa gs ts (i+1)):=by
 unfold fE;rw[mr h,List.all_cons]
theorem GF{rf:Ql}{Qa:List Int}{gs ts:List (List Int)}{i:Int}(h:rf.Qd<=i):fE rf Qa gs ts i=true:=by
 unfold fE;rw[lu h];rfl
def Za(rf:Ql)(Qa:List Int)(t:Ze):Bool:=aU t.starts (rf.Qb.map (XB rf.Qc)) && (decide ((t.grows.length:Int)=rf.Qd) && (decide ((t.takes.length:Int)=rf.Qd) && fE rf Qa t.grows t.takes 0))
theorem iS{ps:List Qg}{f:Qg->Span}{i:Int}(h0:0<=i)(h:i<ps.length):(ps.map f).getD i.toNat La=f (ps.getD i.toNat La):=by
 have hk:i.toNat<ps.length:=by omega
 simp[Lq,hk]
section
variable (B:Lo)(c0:CF)(xs:List Int)(ss:List Span)(i:Int)(Qm:Nat->Value)
def Yb:List Value:=[Qw 1 (QC ss.length (Qe Qj ss)),Qw 1 (QC xs.length (Qe Q5 xs)),YI (↑xs.length:Int),YI i]
def Wu(xs:List Int)(ss:List Span)(i:Int):List Obj:=[]
def Yc:List Item:=([.code [1,1,0,1,0,0],.inLoop [1,1,0,1,0,0],.inBlock 0,.code [1,1,1]]).map (it (QG YP 81))
def yI:Prop:=∃dJ:Nat->Value,(∀t,Xi (dJ t))/\GoE YP B c0 XW 1 (QA 81 27 (([1,12,13,14]:List Nat).zip (Yb xs ss i)) dJ Yc) (Q9 (Wu xs ss i)) (2+(Wu xs ss i).length) []
def RU:Array Value:=#[YI (Span.lo (ss.getD i.toNat La)),YI (Span.hi (ss.getD i.toNat La))]
def bO(B:Lo)(xs:List Int)(ss:List Span)(i:Int)(Qm:Nat->Value):List Prop:=[Kl i ss.length (Qe Qj ss) Try.t38.size (RU ss i),Kl i xs.length (Qe Q5 xs) Try.t3.size #[YI (xs.getD i.toNat La)],XC i (↑xs.length:Int)=true]++([]:List Prop)
def ka(Qm:Nat->Value):Q7:=[(0,Z5),(2,Qh.tidx i.toNat #[YI (xs.getD i.toNat La)]),(9,Qh.tidx i.toNat (RU ss i))]
theorem yG:landM (Qo YP (Q1 YP) J0 B 16 1 (QA 81 27 (([1,12,13,14]:List Nat).zip (Yb xs ss i)) Qm Yc) (Q9 (Wu xs ss i)) (2+(Wu xs ss i).length)
 (ka xs ss i Qm++[(11,Qh.pure (.bool true) []),(13,Wy (i+1))]) 0 [] []) [1,12,13,14] [] []=some ⟨81,27,Yc,[],.run,none,Yb xs ss (i+1),Wu xs ss (i+1),
 [wq (i+1)=i+1,Qr []/\Qn YP J0 101 #[YI (xs.getD i.toNat La),.agg (RU ss i)] (.bool true)]++bO B xs ss i Qm⟩:=by kernel_rfl
theorem yF:QO (Qo YP (Q1 YP) J0 B 16 1 (QA 81 27 (([1,12,13,14]:List Nat).zip (Yb xs ss i)) Qm Yc) (Q9 (Wu xs ss i)) (2+(Wu xs ss i).length)
 (ka xs ss i Qm++[(11,Qh.pure (.bool false) [])]) 0 [] []) []=some (.bool false,
 [Qr []/\Qn YP J0 101 #[YI (xs.getD i.toNat La),.agg (RU ss i)] (.bool false)]++bO B xs ss i Qm):=by kernel_rfl
theorem yE:QO (Qo YP (Q1 YP) J0 B 9 1 (QA 81 27 (([1,12,13,14]:List Nat).zip (Yb xs ss i)) Qm Yc) (Q9 (Wu xs ss i)) (2+(Wu xs ss i).length)
 [(0,ZW)] 0 [] []) []=some (.bool true,
 [XC i (↑xs.length:Int)=false]):=by kernel_rfl
theorem yD:QO (Qo YP (Q1 YP) J0 B 10 1 (Qp YP 81 27 (([XH xs,YK ss]).map (Q2 0 4))) XW 1
 [(5,Z5)] 0 [] []) []=some (.bool false,
 [(!Yo (↑xs.length:Int) (↑ss.length:Int))=true]):=by kernel_rfl
theorem yC:landM (Qo YP (Q1 YP) J0 B 12 1 (Qp YP 81 27 (([XH xs,YK ss]).map (Q2 0 4))) XW 1
 [(5,ZW)] 0 [] []) [1,12,13,14] [] []=some ⟨81,27,Yc,[],.run,none,Yb xs ss (0),Wu xs ss (0),
 [(!Yo (↑xs.length:Int) (↑ss.length:Int))=false]⟩:=by kernel_rfl
end
set_option maxHeartbeats 4000000 in
theorem yH(xs:List Int)(ss:List Span)  (X2:xs.length<=9223372036854775807/\ss.length<=9223372036854775807){B:Lo}(hJ:∀w,B.has w->J0 w){c0:CF}:∀m:Nat,(∀(i:Int),xs.length-i.toNat=m->∀(h0:0<=i) (hle:xs.length=ss.length),yI B c0 xs ss i->EndsT YP B c0 (.bool (vz xs ss i))):=by
 intro m0;induction m0 using Lz with
 |_ m0 ih0=>
  intro i YA h0 hle ⟨Qm,ZF,Xs⟩;have hx:=X2.1;have hy:=X2.2;have hx:=X2.1;by_cases q0:(i:Int)<((↑xs.length:Int))
  ·have Vw:Qr (bO B xs ss i Qm):=by
    have s2:=ix (ss:=ss) q0;exact⟨⟨by omega,by omega,(Qs (z:=2) (fun _=>rfl) (by omega))⟩,⟨⟨by omega,by omega,(Qs (z:=1) (fun _=>rfl) (by omega))⟩,⟨(Xd q0),trivial⟩⟩⟩
   cases q1:UI (xs.getD i.toNat La) (Span.lo (ss.getD i.toNat La)) (Span.hi (ss.getD i.toNat La))with
   |true=>
    have s2:=ix (ss:=ss) q0;exact((ih0 _ (by omega)) (i+1) rfl (by omega) (by with_reducible assumption)
     (Xs.landM okF hJ Qf (yG B xs ss i Qm)
     ⟨(QY (by omega) (by omega)),⟨⟨trivial,(by have t_:=DL (xs.getD i.toNat La) (Span.lo (ss.getD i.toNat La)) (Span.hi (ss.getD i.toNat La));rw[q1]at t_;exact t_)⟩,Vw⟩⟩ (by kernel_rfl) (by kernel_rfl))).cast (by(rw[s2];simp_all;done))
   |false=>
    have s2:=ix (ss:=ss) q0;exact(GoE.endsT okF hJ Qf Xs (yF B xs ss i Qm)
     ⟨⟨trivial,(by have t_:=DL (xs.getD i.toNat La) (Span.lo (ss.getD i.toNat La)) (Span.hi (ss.getD i.toNat La));rw[q1]at t_;exact t_)⟩,Vw⟩).cast (by(rw[s2];simp_all;done))
  ·have s2:=GA (xs:=xs) (ss:=ss) (i:=i) (by omega);exact(GoE.endsT okF hJ Qf Xs (yE B xs ss i Qm)
    ⟨(X9 (Int.not_lt.1 q0)),trivial⟩).cast (by(rw[s2];done))
set_option maxHeartbeats 4000000 in
theorem Cm(xs:List Int)(ss:List Span)  (X2:xs.length<=9223372036854775807/\ss.length<=9223372036854775807){B:Lo}(hJ:∀w,B.has w->J0 w):EndsT YP B (Qp YP 81 27 (([XH xs,YK ss]).map (Q2 0 4))) (.bool (aU xs ss)):=by
 have hx:=X2.1;have hy:=X2.2;by_cases q0:((↑xs.length:Int):Int)≠((↑ss.length:Int))
 ·exact(GoE.endsT okF hJ Qf GoE.start (yD B xs ss)
   ⟨(KE q0),trivial⟩).cast (by(simp_all[aU];omega))
 ·exact((yH xs ss X2 hJ _) (0) rfl (by omega) (by omega)
   (GoE.start.landM okF hJ Qf (yC B xs ss)
   ⟨(KF (Decidable.of_not_not q0)),trivial⟩ (by kernel_rfl) (by kernel_rfl))).cast (by(simp_all[aU];omega))
theorem Tf(xs:List Int)(ss:List Span)  :Qn YP J0 81 #[XH xs,YK ss] (.bool (aU xs ss)):=
 Vd (ts:=[XH xs,YK ss]) (xs.length<=9223372036854775807/\ss.length<=9223372036854775807) (fun _ _ ht=>⟨ht.ln (i:=0) rfl,ht.ln (i:=1) rfl⟩) XZ (c0:=Qp YP 81 27 (([XH xs,YK ss]).map (Q2 0 4))) (by kernel_rfl) (by kernel_rfl) fun X2 B hJ=>Cm xs ss  X2 hJ
section
variable (B:Lo)(c0:CF)(rf:Ql)(Qa:List Int)(t:Ze)(i:Int)(Qm:Nat->Value)
def Ui(Qa:List Int)(t:Ze)(i:Int):List Value:=[pA 2 0,pA 3 0,YI rf.Qd,YI i]
def Vy(i:Int):List Obj:=[Obj.cells #[Qw 1 (QC rf.Qb.length (Qe Qi rf.Qb)),YI rf.Qc,YI rf.Qd,YI (Qa.getD 0 0),YI (Qa.getD 1 0),YI (Qa.getD 2 0),YI (Qa.getD 3 0)] 84,Obj.cells #[Qw 1 (QC t.starts.length (Qe Q5 t.starts)),Qw 1 (QC t.grows.length (Qe XA t.grows)),Qw 1 (QC t.takes.length (Qe XA t.takes))] 42]
def Uj:List Item:=([.code [1,1,0,1,0,0],.inLoop [1,1,0,1,0,0],.inBlock 0,.code [1,1,1]]).map (it (QG YP 58))
def xa:Prop:=∃dJ:Nat->Value,(∀t,Xi (dJ t))/\GoE YP B c0 XW 1 (QA 58 58 (([2,3,32,33]:List Nat).zip (Ui rf Qa t i)) dJ Uj) (Q9 (Vy rf Qa t i)) (2+(Vy rf Qa t i).length) []
def bj:Array Value:=#[QC rf.Qb.length (Qe Qi rf.Qb),YI rf.Qc,YI rf.Qd,YI (Qa.getD 0 0),YI (Qa.getD 1 0),YI (Qa.getD 2 0),YI (Qa.getD 3 0)]
def RL:=(List.map (XB rf.Qc) rf.Qb)
def jC:Array Value:=#[QC t.starts.length (Qe Q5 t.starts),QC (Lc (RL rf)) (Qe Qj (RL rf))]
def jB:Value:=(QC (Lc (RL rf)) (Qe Qj (RL rf)))
def RK:=(t.takes.getD i.toNat La)
def j9:Array Value:=#[QC (Lc (RK t i)) (Qe Q5 (RK t i))]
def RI:=(t.grows.getD i.toNat La)
def jA:Array Value:=#[QC (Lc (RI t i)) (Qe Q5 (RI t i))]
def Pv:=(XE rf.Qb (Qa.getD i.toNat 0))
def jE:Array Value:=#[QC (Lc (RK t i)) (Qe Q5 (RK t i)),QC (Lc (Pv rf Qa i)) (Qe Qj (Pv rf Qa i))]
def gz:Value:=(QC (Lc (Pv rf Qa i)) (Qe Qj (Pv rf Qa i)))
def Pu:=(List.map XI rf.Qb)
def jD:Array Value:=#[QC (Lc (RI t i)) (Qe Q5 (RI t i)),QC (Lc (Pu rf)) (Qe Qj (Pu rf))]
def gy:Value:=(QC (Lc (Pu rf)) (Qe Qj (Pu rf)))
def bo(B:Lo)(rf:Ql)(Qa:List Int)(t:Ze)(i:Int)(Qm:Nat->Value):List Prop:=[Qr []/\Qn YP J0 83 #[.agg (bj rf Qa)] (gy rf),Kl i t.grows.length (Qe XA t.grows) Try.t25.size (jA t i),XC i rf.Qd=true]++([]:List Prop)
def jJ(Qa:List Int)(t:Ze)(i:Int)(Qm:Nat->Value):Q7:=[(0,Z5),(6,Qh.tidx i.toNat (jA t i)),(9,Qh.pure (gy rf) [])]
def bn:List Prop:=[Qr []/\Qn YP J0 84 #[.agg (bj rf Qa),YI i] (gz rf Qa i),Kl i t.takes.length (Qe XA t.takes) Try.t25.size (j9 t i),Qr []/\Qn YP J0 81 (jD rf t i) (.bool true)]++bo B rf Qa t i Qm
def jI:Q7:=jJ rf Qa t i Qm++[(10,Qh.pure (.bool true) []),(16,Qh.tidx i.toNat (j9 t i)),(20,Qh.pure (gz rf Qa i) [])]
theorem wY(B:Lo)(rf:Ql)(Qa:List Int)(t:Ze)(i:Int)(Qm:Nat->Value):let a:=Vy rf Qa t i;landM (Qo YP (Q1 YP) J0 B 16 1 (QA 58 58 (([2,3,32,33]:List Nat).zip (Ui rf Qa t i)) Qm Uj) (Q9 a) (2+a.length)
 (jI rf Qa t i Qm++[(21,Qh.pure (.bool true) []),(24,Wy (i+1))]) 0 [] []) [2,3,32,33] [(2,KS.auto),(3,KS.auto)] []=some ⟨58,58,Uj,[],.run,none,Ui rf Qa t (i+1),Vy rf Qa t (i+1),
 [wq (i+1)=i+1,Qr []/\Qn YP J0 81 (jE rf Qa t i) (.bool true)]++bn B rf Qa t i Qm⟩:=by intro a;kernel_rfl
theorem wX(B:Lo)(rf:Ql)(Qa:List Int)(t:Ze)(i:Int)(Qm:Nat->Value):let a:=Vy rf Qa t i;QO (Qo YP (Q1 YP) J0 B 16 1 (QA 58 58 (([2,3,32,33]:List Nat).zip (Ui rf Qa t i)) Qm Uj) (Q9 a) (2+a.length)
 (jI rf Qa t i Qm++[(21,Qh.pure (.bool false) [])]) 0 [] []) []=some (.bool false,
 [Qr []/\Qn YP J0 81 (jE rf Qa t i) (.bool false)]++bn B rf Qa t i Qm):=by intro a;kernel_rfl
theorem wW(B:Lo)(rf:Ql)(Qa:List Int)(t:Ze)(i:Int)(Qm:Nat->Value):let a:=Vy rf Qa t i;QO (Qo YP (Q1 YP) J0 B 16 1 (QA 58 58 (([2,3,32,33]:List Nat).zip (Ui rf Qa t i)) Qm Uj) (Q9 a) (2+a.length)
 (jJ rf Qa t i Qm++[(10,Qh.pure (.bool false) [])]) 0 [] []) []=some (.bool false,
 [Qr []/\Qn YP J0 81 (jD rf t i) (.bool false)]++bo B rf Qa t i Qm):=by intro a;kernel_rfl
theorem wV(B:Lo)(rf:Ql)(Qa:List Int)(t:Ze)(i:Int)(Qm:Nat->Value):let a:=Vy rf Qa t i;QO (Qo YP (Q1 YP) J0 B 9 1 (QA 58 58 (([2,3,32,33]:List Nat).zip (Ui rf Qa t i)) Qm Uj) (Q9 a) (2+a.length)
 [(0,ZW)] 0 [] []) []=some (.bool true,
 [XC i rf.Qd=false]):=by intro a;kernel_rfl
def bm(B:Lo)(rf:Ql)(Qa:List Int)(t:Ze):List Prop:=[Qr []/\Qn YP J0 82 #[.agg (bj rf Qa)] (jB rf)]++([]:List Prop)
def jH(Qa:List Int)(t:Ze):Q7:=[(6,Qh.pure (jB rf) [])]
def bl:List Prop:=[Qr []/\Qn YP J0 81 (jC rf t) (.bool true)]++bm B rf Qa t
def jG:Q7:=jH rf Qa t++[(7,Qh.pure (.bool true) [])]
theorem wU:QO (Qo YP (Q1 YP) J0 B 10 1 (Qp YP 58 58 (([.agg (QF rf Qa).toArray,.agg #[XH t.starts,QC t.grows.length (Qe XA t.grows),QC t.takes.length (Qe XA t.takes)]]).map (Q2 0 4))) XW 1
 (jG rf Qa t++[(16,Z5)]) 0 [] []) []=some (.bool false,
 [(!Yo (↑t.grows.length:Int) rf.Qd)=true]++bl B rf Qa t):=by kernel_rfl
def bk:List Prop:=[(!Yo (↑t.grows.length:Int) rf.Qd)=false]++bl B rf Qa t
def jF:Q7:=jG rf Qa t++[(16,ZW)]
theorem wT:QO (Qo YP (Q1 YP) J0 B 10 1 (Qp YP 58 58 (([.agg (QF rf Qa).toArray,.agg #[XH t.starts,QC t.grows.length (Qe XA t.grows),QC t.takes.length (Qe XA t.takes)]]).map (Q2 0 4))) XW 1
 (jF rf Qa t++[(25,Z5)]) 0 [] []) []=some (.bool false,
 [(!Yo (↑t.takes.length:Int) rf.Qd)=true]++bk B rf Qa t):=by kernel_rfl
theorem wS:landM (Qo YP (Q1 YP) J0 B 12 1 (Qp YP 58 58 (([.agg (QF rf Qa).toArray,.agg #[XH t.starts,QC t.grows.length (Qe XA t.grows),QC t.takes.length (Qe XA t.takes)]]).map (Q2 0 4))) XW 1
 (jF rf Qa t++[(25,ZW)]) 0 [] []) [2,3,32,33] [(1,KS.auto),(2,KS.auto)] []=some ⟨58,58,Uj,[],.run,none,Ui rf Qa t (0),Vy rf Qa t (0),
 [(!Yo (↑t.takes.length:Int) rf.Qd)=false]++bk B rf Qa t⟩:=by kernel_rfl
theorem wR:QO (Qo YP (Q1 YP) J0 B 10 1 (Qp YP 58 58 (([.agg (QF rf Qa).toArray,.agg #[XH t.starts,QC t.grows.length (Qe XA t.grows),QC t.takes.length (Qe XA t.takes)]]).map (Q2 0 4))) XW 1
 (jH rf Qa t++[(7,Qh.pure (.bool false) [])]) 0 [] []) []=some (.bool false,
 [Qr []/\Qn YP J0 81 (jC rf t) (.bool false)]++bm B rf Qa t):=by kernel_rfl
end
set_option maxHeartbeats 4000000 in
theorem wZ(rf:Ql)(Qa:List Int)(t:Ze)(hr:QL rf=true)(hl:Qa.length<=4)(hp:∀j:Nat,0<=Qa.getD j 0/\Qa.getD j 0<=1000000){B:Lo}(hJ:∀w,B.has w->J0 w){c0:CF}:∀m:Nat,(∀(i:Int),(rf.Qd-i).toNat=m->∀(h0:0<=i) (hgl:(t.grows.length:Int)=rf.Qd) (htl:(t.takes.length:Int)=rf.Qd),xa B c0 rf Qa t i->EndsT YP B c0 (.bool (fE rf Qa t.grows t.takes i))):=by
 intro m0;induction m0 using Lz with
 |_ m0 ih0=>
  intro i YA h0 hgl htl ⟨Qm,ZF,Xs⟩;have ZA:=Q4 (QR hr).1;have hcs:=(fun k h0 h1=>(RH ((QR hr).2 k h0 h1).1).1)
  have ZA:=Q4 (QR hr).1;by_cases q0:(i:Int)<rf.Qd
  ·have Vw:Qr (bo B rf Qa t i Qm):=by
    have s2:=S5 (Qa:=Qa) (gs:=t.grows) (ts:=t.takes) q0;exact⟨⟨trivial,BR (rf) (Qa) (by omega)⟩,⟨⟨by omega,by omega,(Qs (z:=1) (fun _=>rfl) (by omega))⟩,⟨(Xd q0),trivial⟩⟩⟩
   cases q1:aU (t.grows.getD i.toNat La) (List.map XI rf.Qb)with
   |true=>
    have UP:Qr (bn B rf Qa t i Qm):=by
     have s2:=S5 (Qa:=Qa) (gs:=t.grows) (ts:=t.takes) q0;exact⟨⟨trivial,Bs (rf) (Qa) (i) (by omega) (by with_reducible assumption) (by with_reducible assumption) (by omega) (by with_reducible assumption)⟩,⟨⟨by omega,by omega,(Qs (z:=1) (fun _=>rfl) (by omega))⟩,⟨⟨trivial,(by have t_:=Tf (t.grows.getD i.toNat La) (List.map XI rf.Qb);rw[q1]at t_;exact t_)⟩,Vw⟩⟩⟩
    cases q2:aU (t.takes.getD i.toNat La) (XE rf.Qb (Qa.getD i.toNat 0))with
    |true=>
     have s2:=S5 (Qa:=Qa) (gs:=t.grows) (ts:=t.takes) q0;exact((ih0 _ (by omega)) (i+1) rfl (by omega) (by with_reducible assumption) (by with_reducible assumption)
      (Xs.landM okF hJ Qf (wY B rf Qa t i Qm)
      ⟨(QY (by omega) (by omega)),⟨⟨trivial,(by have t_:=Tf (t.takes.getD i.toNat La) (XE rf.Qb (Qa.getD i.toNat 0));rw[q2]at t_;exact t_)⟩,UP⟩⟩ (by kernel_rfl) (by kernel_rfl))).cast (by(rw[s2];simp_all[v9];done))
    |false=>
     have s2:=S5 (Qa:=Qa) (gs:=t.grows) (ts:=t.takes) q0;exact(GoE.endsT okF hJ Qf Xs (wX B rf Qa t i Qm)
      ⟨⟨trivial,(by have t_:=Tf (t.takes.getD i.toNat La) (XE rf.Qb (Qa.getD i.toNat 0));rw[q2]at t_;exact t_)⟩,UP⟩).cast (by(rw[s2];simp_all[v9];done))
   |false=>
    have s2:=S5 (Qa:=Qa) (gs:=t.grows) (ts:=t.takes) q0;exact(GoE.endsT okF hJ Qf Xs (wW B rf Qa t i Qm)
     ⟨⟨trivial,(by have t_:=Tf (t.grows.getD i.toNat La) (List.map XI rf.Qb);rw[q1]at t_;exact t_)⟩,Vw⟩).cast (by(rw[s2];simp_all[v9];done))
  ·have s2:=GF (rf:=rf) (Qa:=Qa) (gs:=t.grows) (ts:=t.takes) (i:=i) (by omega);exact(GoE.endsT okF hJ Qf Xs (wV B rf Qa t i Qm)
    ⟨(X9 (Int.not_lt.1 q0)),trivial⟩).cast (by(rw[s2];done))
set_option maxHeartbeats 4000000 in
theorem BA(rf:Ql)(Qa:List Int)(t:Ze)(hr:QL rf=true)(hl:Qa.length<=4)(hp:∀j:Nat,0<=Qa.getD j 0/\Qa.getD j 0<=1000000){B:Lo}(hJ:∀w,B.has w->J0 w):EndsT YP B (Qp YP 58 58 (([.agg (QF rf Qa).toArray,.agg #[XH t.starts,QC t.grows.length (Qe XA t.grows),QC t.takes.length (Qe XA t.takes)]]).map (Q2 0 4))) (.bool (Za rf Qa t)):=by
 have ZA:=Q4 (QR hr).1;have hcs:=(fun k h0 h1=>(RH ((QR hr).2 k h0 h1).1).1)
 have Pb:Qr (bm B rf Qa t):=by
  exact⟨⟨trivial,sW (rf) (Qa) (by omega) (by omega) (by with_reducible assumption)⟩,trivial⟩
 cases q0:aU t.starts (List.map (XB rf.Qc) rf.Qb)with
 |true=>
  have hp3:Qr (bl B rf Qa t):=by
   exact⟨⟨trivial,(by have t_:=Tf t.starts (List.map (XB rf.Qc) rf.Qb);rw[q0]at t_;exact t_)⟩,Pb⟩
  by_cases q1:((↑t.grows.length:Int):Int)≠rf.Qd
  ·exact(GoE.endsT okF hJ Qf GoE.start (wU B rf Qa t)
    ⟨(KE q1),hp3⟩).cast (by(simp only[Za];simp[*];done))
  ·have T5:Qr (bk B rf Qa t):=by
    exact⟨(KF (Decidable.of_not_not q1)),hp3⟩
   by_cases q2:((↑t.takes.length:Int):Int)≠rf.Qd
   ·exact(GoE.endsT okF hJ Qf GoE.start (wT B rf Qa t)
     ⟨(KE q2),T5⟩).cast (by(simp only[Za];simp[*];done))
   ·exact((wZ rf Qa t hr hl hp hJ _) (0) rfl (by omega) (by omega) (by omega)
     (GoE.start.landM okF hJ Qf (wS B rf Qa t)
     ⟨(KF (Decidable.of_not_not q2)),T5⟩ (by kernel_rfl) (by kernel_rfl))).cast (by(simp_all[Za];done))
 |false=>
  exact(GoE.endsT okF hJ Qf GoE.start (wR B rf Qa t)
   ⟨⟨trivial,(by have t_:=Tf t.starts (List.map (XB rf.Qc) rf.Qb);rw[q0]at t_;exact t_)⟩,Pb⟩).cast (by(simp only[Za];simp[*];done))
theorem xb(rf:Ql)(Qa:List Int)(t:Ze)(hr:QL rf=true)(hl:Qa.length<=4)(hp:∀j:Nat,0<=Qa.getD j 0/\Qa.getD j 0<=1000000):Qn YP J0 58 #[.agg (QF rf Qa).toArray,.agg #[XH t.starts,QC t.grows.length (Qe XA t.grows),QC t.takes.length (Qe XA t.takes)]] (.bool (Za rf Qa t)):=
 Xb (ts:=[.agg (QF rf Qa).toArray,.agg #[XH t.starts,QC t.grows.length (Qe XA t.grows),QC t.takes.length (Qe XA t.takes)]]) XZ (c0:=Qp YP 58 58 (([.agg (QF rf Qa).toArray,.agg #[XH t.starts,QC t.grows.length (Qe XA t.grows),QC t.takes.length (Qe XA t.takes)]]).map (Q2 0 4))) (by kernel_rfl) (by kernel_rfl) fun B hJ=>BA rf Qa t hr hl hp hJ
section
variable (x_:Qg)(B:Lo)(c0:CF)(rf:Ql)(Qa:List Int)(t:Ze)(s i:Int)(Qm:Nat->Value)
end
end
end Go.Proofs.Ytncjjangllkokaa

namespace Go.Proofs.Ytncjjangllkokaa
open Go Go.CE Go.RowKit
noncomputable section
set_option maxRecDepth 100000
theorem Qaf{n:Nat}(h:n<=4):((VJ n:Nat):Int)<=16:=by
 unfold VJ;have:n=0\/n=1\/n=2\/n=3\/n=4:=by omega
 rcases this with rfl|rfl|rfl|rfl|rfl <;> decide
theorem Zj{rf:Ql}{Qa:List Int}(hr:XM rf=true)(hp:Xo rf Qa=true)(j:Nat):0<=Qa.getD j 0/\Qa.getD j 0<=15:=by
 have h:=(XU hp).2;have h4:=Qaf (n:=rf.Qb.length) (by have:=Q4 (Q8 hr).1;omega);by_cases hj:j<Qa.length
 ·have e:Qa.getD j 0=Qa[j]:=by simp[Lq,hj]
  have:=h Qa[j] (List.getElem_mem hj);rw[e];omega
 ·rw[Lq,LA (by omega)];exact⟨LR _,by decide⟩
theorem cr{xs:List Int}{ss:List Span}(h:aU xs ss=true):xs.length=ss.length/\∀k:Int,0<=k->k<xs.length->(ss.getD k.toNat La).lo<=xs.getD k.toNat La/\xs.getD k.toNat La<=(ss.getD k.toNat La).hi:=by
 unfold aU at h;simp only[YB,decide_eq_true_iff]at h;exact⟨h.1,fun k h0 h1=>RY.1 (lQ h.2 h0 h1)⟩
theorem jr{rf:Ql}{Qa:List Int}{t:Ze}(h:Za rf Qa t=true):aU t.starts (rf.Qb.map (XB rf.Qc))=true/\(t.grows.length:Int)=rf.Qd/\(t.takes.length:Int)=rf.Qd/\∀s:Int,0<=s->s<rf.Qd->aU (t.grows.getD s.toNat La) (rf.Qb.map XI)=true/\aU (t.takes.getD s.toNat La) (XE rf.Qb (Qa.getD s.toNat 0))=true:=by
 unfold Za at h;simp only[YB,decide_eq_true_iff]at h;refine⟨h.1,h.2.1,h.2.2.1,fun s h0 h1=> ?_⟩;have:=lQ h.2.2.2 h0 h1;unfold v9 at this;simpa only[YB]using this
theorem sZ{rf:Ql}(hr:XM rf=true):Sp rf.Qb:=by
 have hs:=Q4 (Q8 hr).1;refine⟨by omega,fun k h0 h1=> ?_⟩;have h:=(Q8 hr).2 k h0 h1;have hp:=Zx h.1;exact⟨hp.2.1,hp.2.2.2.2.2.1,h.2.1,h.2.2⟩
theorem R8{ps:List Qg}{p k:Int}(h0:0<=k)(h:k<ps.length):(XE ps p).getD k.toNat La=UW p k (ps.getD k.toNat La):=XQ h0 h
theorem WS{ps:List Qg}{p:Int}:(XE ps p).length=ps.length:=by rw[XE,Xk];omega
theorem cn{rf:Ql}(hr:XM rf=true){p k:Int}(h0:0<=k)(h:k<rf.Qb.length):0<=(UW p k (rf.Qb.getD k.toNat La)).lo/\(UW p k (rf.Qb.getD k.toNat La)).lo<=(UW p k (rf.Qb.getD k.toNat La)).hi/\(UW p k (rf.Qb.getD k.toNat La)).hi<=1000000:=by
 have hp:=Zx ((Q8 hr).2 k h0 h).1;unfold UW;split
 ·exact hp.2.2.2.2.2.2.2.1
 ·exact hp.2.2.2.2.2.2.1
theorem al{rf:Ql}{Qa:List Int}{t:Ze}(hr:XM rf=true)(ht:Za rf Qa t=true):OkT rf.Qb rf.Qd t.grows t.takes (Qu t.starts)/\t.starts.length=rf.Qb.length:=by
 have hs:=Q4 (Q8 hr).1;obtain⟨h1,h2,h3,h4⟩:=jr ht;obtain⟨s1,s2⟩:=cr h1;rw[List.length_map]at s1;have st:∀k:Int,0<=k->k<4->0<=nth t.starts k/\nth t.starts k<=4000000:=fun k k0 k1=>by
  by_cases hk:k<rf.Qb.length
  ·have hp:=Zx ((Q8 hr).2 k k0 hk).1;have:=s2 k k0 (by omega);rw[iS k0 hk]at this;have hm:=Sq (a:=(rf.Qb.getD k.toNat La).count) (r:=rf.Qc) (by omega) (by omega);have hm2:(rf.Qb.getD k.toNat La).count*rf.Qc<=1000000*2000:=Int.mul_le_mul hp.1.2 hs.2.1.2 hs.2.1.1 (by omega);have e2:((rf.Qb.getD k.toNat La).count*rf.Qc).tdiv 1000=((rf.Qb.getD k.toNat La).count*rf.Qc) / 1000:=LO hm.1;simp only[XB,Zm]at this;unfold nth;omega
  ·unfold nth;rw[Lq,LA (by omega)];exact⟨LR _,by decide⟩
 have a0:=st 0 (by omega) (by omega);have a1:=st 1 (by omega) (by omega);have a2:=st 2 (by omega) (by omega);have a3:=st 3 (by omega) (by omega);have es:(Qu t.starts).sum=nth t.starts 0+nth t.starts 1+nth t.starts 2+nth t.starts 3:=rfl;refine⟨⟨sZ hr,by omega,by omega,by omega,h2,h3,fun k hk=> ?_,fun k hk=> ?_,⟨⟨a0.1,a1.1,a2.1,a3.1⟩,by omega⟩,by omega⟩,s1⟩
 ·obtain⟨g1,g2⟩:=cr (h4 k (by omega) hk).1;rw[List.length_map]at g1;simp only[Int.toNat_natCast]at g1 g2;refine⟨g1,fun j j0 j1=> ?_⟩;have hp:=Zx ((Q8 hr).2 j j0 (by omega)).1;have:=g2 j j0 (by rw[g1];exact j1);rw[iS j0 j1]at this;simp only[XI]at this;show 0<=(t.grows.getD k La).getD j.toNat La/\(t.grows.getD k La).getD j.toNat La<=2000;omega
 ·obtain⟨g1,g2⟩:=cr (h4 k (by omega) hk).2;rw[WS]at g1;simp only[Int.toNat_natCast]at g1 g2;refine⟨g1,fun j j0 j1=> ?_⟩;have:=g2 j j0 (by rw[g1];exact j1);rw[R8 j0 j1]at this;have hp:=cn hr (p:=Qa.getD k 0) j0 j1;show 0<=(t.takes.getD k La).getD j.toNat La/\(t.takes.getD k La).getD j.toNat La<=1000000;omega
abbrev Yv(xs:List (List Int)):Value:=QC xs.length (Qe XA xs)
section
variable (B:Lo)(rf:Ql)(Qa:List Int)(t:Ze)
def IH:Array Value:=let e:=t.takes;let d:=t.grows;let c:=rf.Qb;let b:=rf.Qd;let a:=Qu t.starts;#[YI a.sum,YI (Xn 0 b (Ym c d e a)),YI (Xn 0 b (Va c d e a)),YI (Xn 0 b (Yj c d e a)),YI (F4.sum (aH c d e a b.toNat))]
def gB:Array Value:=#[QC rf.Qb.length (Qe Qi rf.Qb),YI rf.Qc,YI rf.Qd,YI (Qa.getD 0 0),YI (Qa.getD 1 0),YI (Qa.getD 2 0),YI (Qa.getD 3 0)]
def gA:Array Value:=#[QC rf.Qb.length (Qe Qi rf.Qb),YI rf.Qc,YI rf.Qd]
def oe:Array Value:=#[QC t.starts.length (Qe Q5 t.starts),QC t.grows.length (Qe XA t.grows),QC t.takes.length (Qe XA t.takes)]
def od  :Array Value:=#[QC 0 #[],.agg #[YI 0,YI 0,YI 0,YI 0,YI 0],YI 2]
def IG:=(QW rf.Qd rf.Qb t.grows t.takes (Qu t.starts))
def oc:Array Value:=#[.agg (gA rf),QC Qa.length (Qe Q5 Qa)]
def oh(B:Lo)(rf:Ql)(Qa:List Int)(t:Ze):List Prop:=[Qr []/\Qn YP J0 50 #[.agg (gA rf)] (.bool true)]++([]:List Prop)
def yA(rf:Ql)(Qa:List Int)(t:Ze):Q7:=[(6,Qh.pure (.bool true) [])]
def og:List Prop:=[Qr []/\Qn YP J0 52 (oc rf Qa) (.agg (gB rf Qa)),Qr []/\Qn YP J0 51 (oc rf Qa) (.bool true)]++oh B rf Qa t
def y9:Q7:=yA rf Qa t++[(11,Qh.pure (.bool true) []),(17,Qh.pure (.agg (gB rf Qa)) [])]
theorem IL(B:Lo)(rf:Ql)(Qa:List Int)(t:Ze):let c:=IH rf t;let b:=IG rf t;let a:=QW rf.Qd rf.Qb t.grows t.takes (Qu t.starts);QO (Qo YP (Q1 YP) J0 B 13 1 (Qp YP 26 37 (([.agg (Qv rf).toArray,XH Qa,.agg #[XH t.starts,Yv t.grows,Yv t.takes]]).map (Q2 0 4))) XW 1
 (y9 rf Qa t++[(19,Qh.pure (.bool true) []),(24,Qh.pure (.tuple #[QC b.length (Qe XA b),.agg c]) [])]) 0 [] []) []=some (.tuple #[QC b.length (Qe XA b),.agg c,YI 0],
 [Qr []/\Qn YP J0 59 #[.agg (gA rf),.agg (oe t)] (.tuple #[QC a.length (Qe XA a),.agg c]),Qr []/\Qn YP J0 58 #[.agg (gB rf Qa),.agg (oe t)] (.bool true)]++og B rf Qa t):=by intro c b a;kernel_rfl
theorem IK:QO (Qo YP (Q1 YP) J0 B 10 1 (Qp YP 26 37 (([.agg (Qv rf).toArray,XH Qa,.agg #[XH t.starts,Yv t.grows,Yv t.takes]]).map (Q2 0 4))) XW 1
 (y9 rf Qa t++[(19,Qh.pure (.bool false) [])]) 0 [] []) []=some (.tuple od,
 [Qr []/\Qn YP J0 58 #[.agg (gB rf Qa),.agg (oe t)] (.bool false)]++og B rf Qa t):=by kernel_rfl
theorem IJ:QO (Qo YP (Q1 YP) J0 B 10 1 (Qp YP 26 37 (([.agg (Qv rf).toArray,XH Qa,.agg #[XH t.starts,Yv t.grows,Yv t.takes]]).map (Q2 0 4))) XW 1
 (yA rf Qa t++[(11,Qh.pure (.bool false) [])]) 0 [] []) []=some (.tuple od,
 [Qr []/\Qn YP J0 51 (oc rf Qa) (.bool false)]++oh B rf Qa t):=by kernel_rfl
theorem II:QO (Qo YP (Q1 YP) J0 B 10 1 (Qp YP 26 37 (([.agg (Qv rf).toArray,XH Qa,.agg #[XH t.starts,Yv t.grows,Yv t.takes]]).map (Q2 0 4))) XW 1
 [(6,Qh.pure (.bool false) [])] 0 [] []) []=some (.tuple od,
 [Qr []/\Qn YP J0 50 #[.agg (gA rf)] (.bool false)]):=by kernel_rfl
end
set_option maxHeartbeats 4000000 in
theorem NI(rf:Ql)(Qa:List Int)(t:Ze)  {B:Lo}(hJ:∀w,B.has w->J0 w):EndsT YP B (Qp YP 26 37 (([.agg (Qv rf).toArray,XH Qa,.agg #[XH t.starts,Yv t.grows,Yv t.takes]]).map (Q2 0 4))) (.tuple #[if QL rf && (Xo rf Qa && Za rf Qa t)then Yv (QW rf.Qd rf.Qb t.grows t.takes (Qu t.starts))else Yv [],.agg #[YI (if QL rf && (Xo rf Qa && Za rf Qa t)then(Qu t.starts).sum else 0),YI (if QL rf && (Xo rf Qa && Za rf Qa t)then Xn 0 rf.Qd (Ym rf.Qb t.grows t.takes (Qu t.starts))else 0),YI (if QL rf && (Xo rf Qa && Za rf Qa t)then Xn 0 rf.Qd (Va rf.Qb t.grows t.takes (Qu t.starts))else 0),YI (if QL rf && (Xo rf Qa && Za rf Qa t)then Xn 0 rf.Qd (Yj rf.Qb t.grows t.takes (Qu t.starts))else 0),YI (if QL rf && (Xo rf Qa && Za rf Qa t)then(aH rf.Qb t.grows t.takes (Qu t.starts) rf.Qd.toNat).sum else 0)],YI (if QL rf && (Xo rf Qa && Za rf Qa t)then 0 else 2)]):=by
 cases q0:QL rf with
 |true=>
  have Vw:Qr (oh B rf Qa t):=by
   have Ja:=ZV ‹QL rf=true›;have ZA:=Q4 (QR ‹QL rf=true›).1;exact⟨⟨trivial,(by have t_:=cL (rf);rw[q0]at t_;exact t_)⟩,trivial⟩
  cases q1:Xo rf Qa with
  |true=>
   have UP:Qr (og B rf Qa t):=by
    have Ja:=ZV ‹QL rf=true›;have ZA:=Q4 (QR ‹QL rf=true›).1;have hpf:=(XU ‹Xo rf Qa=true›).1;have hpg:=(fun j=>(fun h=>⟨h.1,by omega⟩) (Zj Ja ‹Xo rf Qa=true› j):∀j:Nat,0<=Qa.getD j 0/\Qa.getD j 0<=1000000)
    exact⟨⟨trivial,iG (rf) (Qa) (by omega) (by omega)⟩,⟨⟨trivial,(by have t_:=cM (rf) (Qa) (by omega);rw[q1]at t_;exact t_)⟩,Vw⟩⟩
   cases q2:Za rf Qa t with
   |true=>
    have Ja:=ZV ‹QL rf=true›;have ZA:=Q4 (QR ‹QL rf=true›).1;have hpf:=(XU ‹Xo rf Qa=true›).1;have hpg:=(fun j=>(fun h=>⟨h.1,by omega⟩) (Zj Ja ‹Xo rf Qa=true› j):∀j:Nat,0<=Qa.getD j 0/\Qa.getD j 0<=1000000)
    have QE:=al Ja ‹Za rf Qa t=true›;have hok1:=QE.1;have hok2:=QE.2;exact(GoE.endsT okF hJ Qf GoE.start (IL B rf Qa t)
     ⟨⟨trivial,QaY (rf) (t) (by with_reducible assumption) (by with_reducible assumption) (by omega) (by omega)⟩,⟨⟨trivial,(by have t_:=xb (rf) (Qa) (t) (by with_reducible assumption) (by omega) (by with_reducible assumption);rw[q2]at t_;exact t_)⟩,UP⟩⟩).cast (by rfl)
   |false=>
    have Ja:=ZV ‹QL rf=true›;have ZA:=Q4 (QR ‹QL rf=true›).1;have hpf:=(XU ‹Xo rf Qa=true›).1;have hpg:=(fun j=>(fun h=>⟨h.1,by omega⟩) (Zj Ja ‹Xo rf Qa=true› j):∀j:Nat,0<=Qa.getD j 0/\Qa.getD j 0<=1000000)
    exact(GoE.endsT okF hJ Qf GoE.start (IK B rf Qa t)
     ⟨⟨trivial,(by have t_:=xb (rf) (Qa) (t) (by with_reducible assumption) (by omega) (by with_reducible assumption);rw[q2]at t_;exact t_)⟩,UP⟩).cast (by rfl)
  |false=>
   have Ja:=ZV ‹QL rf=true›;have ZA:=Q4 (QR ‹QL rf=true›).1;exact(GoE.endsT okF hJ Qf GoE.start (IJ B rf Qa t)
    ⟨⟨trivial,(by have t_:=cM (rf) (Qa) (by omega);rw[q1]at t_;exact t_)⟩,Vw⟩).cast (by rfl)
 |false=>
  exact(GoE.endsT okF hJ Qf GoE.start (II B rf Qa t)
   ⟨⟨trivial,(by have t_:=cL (rf);rw[q0]at t_;exact t_)⟩,trivial⟩).cast (by rfl)
theorem Qba(rf:Ql)(Qa:List Int)(t:Ze)  :Qn YP J0 26 #[.agg (Qv rf).toArray,XH Qa,.agg #[XH t.starts,Yv t.grows,Yv t.takes]] (.tuple #[if QL rf && (Xo rf Qa && Za rf Qa t)then Yv (QW rf.Qd rf.Qb t.grows t.takes (Qu t.starts))else Yv [],.agg #[YI (if QL rf && (Xo rf Qa && Za rf Qa t)then(Qu t.starts).sum else 0),YI (if QL rf && (Xo rf Qa && Za rf Qa t)then Xn 0 rf.Qd (Ym rf.Qb t.grows t.takes (Qu t.starts))else 0),YI (if QL rf && (Xo rf Qa && Za rf Qa t)then Xn 0 rf.Qd (Va rf.Qb t.grows t.takes (Qu t.starts))else 0),YI (if QL rf && (Xo rf Qa && Za rf Qa t)then Xn 0 rf.Qd (Yj rf.Qb t.grows t.takes (Qu t.starts))else 0),YI (if QL rf && (Xo rf Qa && Za rf Qa t)then(aH rf.Qb t.grows t.takes (Qu t.starts) rf.Qd.toNat).sum else 0)],YI (if QL rf && (Xo rf Qa && Za rf Qa t)then 0 else 2)]):=
 Xb (ts:=[.agg (Qv rf).toArray,XH Qa,.agg #[XH t.starts,Yv t.grows,Yv t.takes]]) XZ (c0:=Qp YP 26 37 (([.agg (Qv rf).toArray,XH Qa,.agg #[XH t.starts,Yv t.grows,Yv t.takes]]).map (Q2 0 4))) (by kernel_rfl) (by kernel_rfl) fun B hJ=>NI rf Qa t  hJ
end
end Go.Proofs.Ytncjjangllkokaa

namespace Go.Proofs.Ytncjjangllkokaa
open Go Go.CE Go.RowKit
def Qx(n:Int):Value:=.int .i64 n
def Xg(g:FuncId):Bool:=LP 3 g && (Ls g 116 && !([]:List Nat).any (Lf g))
theorem QD:∀g,Xg g=true->Q1 YP g=true:=by
 have h:(Lg 116).all (fun g=> !(Xg g) || Q1 YP g)=true:=by decide+kernel
 intro g hg;have hg':=hg;simp only[Xg,YB]at hg;have h1:g<116:=YL hg.2.1;have:=List.all_eq_true.1 h g (List.mem_range.2 h1);rw[hg']at this;simpa using this
def Ub:Obj:=.cells #[Qx 1000,Qx 2000,Qx 200,Qx 300,Qx 100,Qx 1,Qx 200,Qx 300,Qx 0,Qx 50,Qx 900,Qx 10,Qx 500,Qx 800,Qx 100,Qx 200,Qx 0,Qx (-1),Qx 100,Qx 200,Qx 0,Qx 20,Qx 450,Qx 6] 54 (0,0)
def s5:Obj:=.cells #[.slice (some ⟨2104,0,none⟩) 2 12,Qx 200,Qx 2,Qx 1,Qx 1,Qx 0,Qx 0] 84 (0,0)
def cB2:Obj:=.cells #[Qx 1000,Qx 2000,Qx 200,Qx 300,Qx 100,Qx 1,Qx 200,Qx 300,Qx 0,Qx 50,Qx 900,Qx 10,Qx 500,Qx 800,Qx 100,Qx 200,Qx 0,Qx (-1),Qx 100,Qx 122,Qx 0,Qx 20,Qx 450,Qx 6] 54 (0,0)
def cB3:Obj:=.cells #[Qx 1000,Qx 2000,Qx 200,Qx 300,Qx 100,Qx 1,Qx 200,Qx 300,Qx 0,Qx 50,Qx 900,Qx 10,Qx 500,Qx 800,Qx 100,Qx 200,Qx 0,Qx (-1),Qx 100,Qx 183,Qx 0,Qx 20,Qx 450,Qx 6] 54 (0,0)
def cB4:Obj:=.cells #[Qx 1000,Qx 2000,Qx 200,Qx 300,Qx 100,Qx 1,Qx 200,Qx 300,Qx 0,Qx 50,Qx 900,Qx 10,Qx 500,Qx 800,Qx 100,Qx 200,Qx 0,Qx (-1),Qx 100,Qx 199,Qx 0,Qx 20,Qx 450,Qx 6] 54 (0,0)
def cB5:Obj:=.cells #[Qx 1000,Qx 2000,Qx 200,Qx 300,Qx 100,Qx 1,Qx 200,Qx 300,Qx 0,Qx 50,Qx 900,Qx 10,Qx 500,Qx 800,Qx 100,Qx 200,Qx 0,Qx (-1),Qx 100,Qx 191,Qx 0,Qx 20,Qx 450,Qx 6] 54 (0,0)
def cB6:Obj:=.cells #[Qx 1000,Qx 2000,Qx 200,Qx 300,Qx 100,Qx 1,Qx 200,Qx 300,Qx 0,Qx 50,Qx 900,Qx 10,Qx 500,Qx 800,Qx 100,Qx 200,Qx 0,Qx (-1),Qx 100,Qx 195,Qx 0,Qx 20,Qx 450,Qx 6] 54 (0,0)
def cB7:Obj:=.cells #[Qx 1000,Qx 2000,Qx 200,Qx 300,Qx 100,Qx 1,Qx 200,Qx 300,Qx 0,Qx 50,Qx 900,Qx 10,Qx 500,Qx 800,Qx 100,Qx 200,Qx 0,Qx (-1),Qx 100,Qx 197,Qx 0,Qx 20,Qx 450,Qx 6] 54 (0,0)
def cB8:Obj:=.cells #[Qx 1000,Qx 2000,Qx 200,Qx 300,Qx 100,Qx 1,Qx 200,Qx 300,Qx 0,Qx 50,Qx 900,Qx 10,Qx 500,Qx 800,Qx 100,Qx 200,Qx 0,Qx (-1),Qx 100,Qx 196,Qx 0,Qx 20,Qx 450,Qx 6] 54 (0,0)
end Go.Proofs.Ytncjjangllkokaa

namespace Go.Proofs.Ytncjjangllkokaa
open Go Go.CE Go.RowKit
def CD:Memo:=
 ⟨26,#[.agg #[.slice (some ⟨7,0,none⟩) 2 12,Qx 200,Qx 2],.slice (some ⟨8,0,none⟩) 2 1,.agg #[.slice (some ⟨9,0,none⟩) 2 1,.slice (some ⟨12,0,none⟩) 2 1,.slice (some ⟨15,0,none⟩) 2 1]],[(9,.cells #[Qx 1100,Qx 550] 3 (0,0)),(12,.cells #[.slice (some ⟨10,0,none⟩) 2 1,.slice (some ⟨11,0,none⟩) 2 1] 25 (0,0)),(10,.cells #[Qx 250,Qx 150] 3 (0,0)),(15,.cells #[.slice (some ⟨13,0,none⟩) 2 1,.slice (some ⟨14,0,none⟩) 2 1] 25 (0,0)),(13,.cells #[Qx 250,Qx 150] 3 (0,0)),(11,.cells #[Qx 200,Qx 100] 3 (0,0)),(14,.cells #[Qx 200,Qx 100] 3 (0,0)),(8,.cells #[Qx 0,Qx 0] 3 (0,0)),(7,Ub)],16,.tuple #[.slice (some ⟨107,0,none⟩) 2 1,.agg #[Qx 1650,Qx 615,Qx 700,Qx 0,Qx 1565],Qx 0],[(121,.cells #[Qx 867,Qx 698] 3 (0,0)),(114,.cells #[Qx 988,Qx 619] 3 (0,0)),(107,.cells #[.slice (some ⟨114,0,none⟩) 2 1,.slice (some ⟨121,0,none⟩) 2 1] 25 (0,0))],123⟩
theorem FU:QM CD (CD.run YP Xg Xy 100000)=true:=by decide+kernel
def uc:Memo:=
 ⟨18,#[.agg #[.slice (some ⟨131,0,none⟩) 2 12,Qx 200,Qx 2],.slice (some ⟨132,0,none⟩) 2 1],[(132,.cells #[Qx 0,Qx 0] 3 (0,0)),(131,Ub)],133,.tuple #[.slice (some ⟨191,0,none⟩) 2 1,Qx 0],[(375,.cells #[Qx 543,Qx 1209,Qx 410,Qx 856] 38 (0,0)),(283,.cells #[Qx 780,Qx 1204,Qx 470,Qx 776] 38 (0,0)),(191,.cells #[.slice (some ⟨283,0,none⟩) 2 2,.slice (some ⟨375,0,none⟩) 2 2] 36 (0,0))],376⟩
theorem CG:QM uc (uc.run YP Xg Xy 100000)=true:=by decide+kernel
def tZ:Memo:=
 ⟨88,#[.slice (some ⟨383,0,none⟩) 2 12,.agg #[Qx 1063,Qx 440,Qx 0,Qx 0]],[(383,Ub)],539,.tuple #[.agg #[Qx 1,Qx 10],.bool true],[],544⟩
theorem CA:QM tZ (tZ.drun YP Xg Xy 100000)=true:=by decide+kernel
def tU:Memo:=
 ⟨98,#[.agg #[.slice (some ⟨552,0,none⟩) 2 12,Qx 200,Qx 2,Qx 3,Qx 3,Qx 0,Qx 0],.agg #[Qx 1000,Qx 500,Qx 0,Qx 0],Qx 0,.func (.func 76) #[] #[],.func (.func 77) #[] #[]],[(552,Ub)],622,.agg #[Qx 1030,Qx 650,Qx 0,Qx 0],[],663⟩
theorem C5:QM tU (tU.run YP Xg Xy 100000)=true:=by decide+kernel
def tT:Memo:=
 ⟨98,#[.agg #[.slice (some ⟨552,0,none⟩) 2 12,Qx 200,Qx 2,Qx 3,Qx 3,Qx 0,Qx 0],.agg #[Qx 1030,Qx 650,Qx 0,Qx 0],Qx 1,.func (.func 76) #[] #[],.func (.func 77) #[] #[]],[(552,Ub)],666,.agg #[Qx 1063,Qx 818,Qx 0,Qx 0],[],707⟩
theorem C4:QM tT (tT.run YP Xg Xy 100000)=true:=by decide+kernel
def tY:Memo:=
 ⟨88,#[.slice (some ⟨552,0,none⟩) 2 12,.agg #[Qx 1063,Qx 818,Qx 0,Qx 0]],[(552,Ub)],707,.tuple #[.agg #[Qx 0,Qx 0],.bool false],[],712⟩
theorem C9:QM tY (tY.drun YP Xg Xy 100000)=true:=by decide+kernel
def tS:Memo:=
 ⟨98,#[.agg #[.slice (some ⟨552,0,none⟩) 2 12,Qx 200,Qx 2,Qx 0,Qx 0,Qx 0,Qx 0],.agg #[Qx 1000,Qx 500,Qx 0,Qx 0],Qx 0,.func (.func 76) #[] #[],.func (.func 77) #[] #[]],[(552,Ub)],760,.agg #[Qx 780,Qx 470,Qx 0,Qx 0],[],801⟩
theorem C3:QM tS (tS.run YP Xg Xy 100000)=true:=by decide+kernel
def tR:Memo:=
 ⟨98,#[.agg #[.slice (some ⟨552,0,none⟩) 2 12,Qx 200,Qx 2,Qx 0,Qx 0,Qx 0,Qx 0],.agg #[Qx 780,Qx 470,Qx 0,Qx 0],Qx 1,.func (.func 76) #[] #[],.func (.func 77) #[] #[]],[(552,Ub)],804,.agg #[Qx 543,Qx 410,Qx 0,Qx 0],[],845⟩
theorem C2:QM tR (tR.run YP Xg Xy 100000)=true:=by decide+kernel
def tX:Memo:=
 ⟨88,#[.slice (some ⟨552,0,none⟩) 2 12,.agg #[Qx 543,Qx 410,Qx 0,Qx 0]],[(552,Ub)],845,.tuple #[.agg #[Qx 0,Qx 357],.bool true],[],849⟩
theorem C8:QM tX (tX.drun YP Xg Xy 100000)=true:=by decide+kernel
def tQ:Memo:=
 ⟨98,#[.agg #[.slice (some ⟨552,0,none⟩) 2 12,Qx 200,Qx 2,Qx 0,Qx 1,Qx 0,Qx 0],.agg #[Qx 780,Qx 470,Qx 0,Qx 0],Qx 1,.func (.func 76) #[] #[],.func (.func 77) #[] #[]],[(552,Ub)],876,.agg #[Qx 793,Qx 410,Qx 0,Qx 0],[],917⟩
theorem C1:QM tQ (tQ.run YP Xg Xy 100000)=true:=by decide+kernel
def tW:Memo:=
 ⟨88,#[.slice (some ⟨552,0,none⟩) 2 12,.agg #[Qx 793,Qx 410,Qx 0,Qx 0]],[(552,Ub)],917,.tuple #[.agg #[Qx 0,Qx 107],.bool true],[],921⟩
theorem C7:QM tW (tW.drun YP Xg Xy 100000)=true:=by decide+kernel
def tP:Memo:=
 ⟨98,#[.agg #[.slice (some ⟨552,0,none⟩) 2 12,Qx 200,Qx 2,Qx 0,Qx 2,Qx 0,Qx 0],.agg #[Qx 780,Qx 470,Qx 0,Qx 0],Qx 1,.func (.func 76) #[] #[],.func (.func 77) #[] #[]],[(552,Ub)],948,.agg #[Qx 543,Qx 590,Qx 0,Qx 0],[],989⟩
theorem C0:QM tP (tP.run YP Xg Xy 100000)=true:=by decide+kernel
def tV:Memo:=
 ⟨88,#[.slice (some ⟨552,0,none⟩) 2 12,.agg #[Qx 543,Qx 590,Qx 0,Qx 0]],[(552,Ub)],989,.tuple #[.agg #[Qx 0,Qx 357],.bool true],[],993⟩
theorem C6:QM tV (tV.drun YP Xg Xy 100000)=true:=by decide+kernel
def oJ:Memo:=
 ⟨98,#[.agg #[.slice (some ⟨552,0,none⟩) 2 12,Qx 200,Qx 2,Qx 0,Qx 3,Qx 0,Qx 0],.agg #[Qx 780,Qx 470,Qx 0,Qx 0],Qx 1,.func (.func 76) #[] #[],.func (.func 77) #[] #[]],[(552,Ub)],1020,.agg #[Qx 793,Qx 590,Qx 0,Qx 0],[],1061⟩
theorem yZ:QM oJ (oJ.run YP Xg Xy 100000)=true:=by decide+kernel
end Go.Proofs.Ytncjjangllkokaa

namespace Go.Proofs.Ytncjjangllkokaa
open Go Go.CE Go.RowKit
noncomputable def kf:WZ:=XX [tZ]
theorem ov(B:Lo):Wz YP B kf:=QS QD Qf (QI _ _) CA (Zg _ _)
def ub:Memo:=
 ⟨35,#[.agg #[.slice (some ⟨383,0,none⟩) 2 12,Qx 200,Qx 2],.slice (some ⟨384,0,none⟩) 2 1],[(384,.cells #[Qx 1,Qx 1] 3 (0,0)),(383,Ub)],385,.tuple #[Qx 1,Qx 10,Qx 0],[],545⟩
theorem CC:QM ub (ub.run YP Xg kf 100000)=true:=by decide+kernel
end Go.Proofs.Ytncjjangllkokaa

namespace Go.Proofs.Ytncjjangllkokaa
open Go Go.CE Go.RowKit
def pS:Memo:=
 ⟨88,#[.slice (some ⟨552,0,none⟩) 2 12,.agg #[Qx 793,Qx 590,Qx 0,Qx 0]],[(552,Ub)],1061,.tuple #[.agg #[Qx 0,Qx 107],.bool true],[],1065⟩
theorem zS:QM pS (pS.drun YP Xg Xy 100000)=true:=by decide+kernel
def oI:Memo:=
 ⟨98,#[.agg #[.slice (some ⟨552,0,none⟩) 2 12,Qx 200,Qx 2,Qx 1,Qx 0,Qx 0,Qx 0],.agg #[Qx 1000,Qx 500,Qx 0,Qx 0],Qx 0,.func (.func 76) #[] #[],.func (.func 77) #[] #[]],[(552,Ub)],1112,.agg #[Qx 1030,Qx 470,Qx 0,Qx 0],[],1153⟩
theorem yY:QM oI (oI.run YP Xg Xy 100000)=true:=by decide+kernel
def oH:Memo:=
 ⟨98,#[.agg #[.slice (some ⟨552,0,none⟩) 2 12,Qx 200,Qx 2,Qx 1,Qx 0,Qx 0,Qx 0],.agg #[Qx 1030,Qx 470,Qx 0,Qx 0],Qx 1,.func (.func 76) #[] #[],.func (.func 77) #[] #[]],[(552,Ub)],1156,.agg #[Qx 813,Qx 440,Qx 0,Qx 0],[],1197⟩
theorem yX:QM oH (oH.run YP Xg Xy 100000)=true:=by decide+kernel
def pR:Memo:=
 ⟨88,#[.slice (some ⟨552,0,none⟩) 2 12,.agg #[Qx 813,Qx 440,Qx 0,Qx 0]],[(552,Ub)],1197,.tuple #[.agg #[Qx 0,Qx 87],.bool true],[],1201⟩
theorem zR:QM pR (pR.drun YP Xg Xy 100000)=true:=by decide+kernel
def oG:Memo:=
 ⟨98,#[.agg #[.slice (some ⟨552,0,none⟩) 2 12,Qx 200,Qx 2,Qx 1,Qx 1,Qx 0,Qx 0],.agg #[Qx 1030,Qx 470,Qx 0,Qx 0],Qx 1,.func (.func 76) #[] #[],.func (.func 77) #[] #[]],[(552,Ub)],1228,.agg #[Qx 1063,Qx 440,Qx 0,Qx 0],[],1269⟩
theorem yW:QM oG (oG.run YP Xg Xy 100000)=true:=by decide+kernel
def pQ:Memo:=
 ⟨88,#[.slice (some ⟨552,0,none⟩) 2 12,.agg #[Qx 1063,Qx 440,Qx 0,Qx 0]],[(552,Ub)],1269,.tuple #[.agg #[Qx 1,Qx 10],.bool true],[],1274⟩
theorem zQ:QM pQ (pQ.drun YP Xg Xy 100000)=true:=by decide+kernel
def oF:Memo:=
 ⟨98,#[.agg #[.slice (some ⟨552,0,none⟩) 2 12,Qx 200,Qx 2,Qx 1,Qx 2,Qx 0,Qx 0],.agg #[Qx 1030,Qx 470,Qx 0,Qx 0],Qx 1,.func (.func 76) #[] #[],.func (.func 77) #[] #[]],[(552,Ub)],1301,.agg #[Qx 813,Qx 620,Qx 0,Qx 0],[],1342⟩
theorem yV:QM oF (oF.run YP Xg Xy 100000)=true:=by decide+kernel
def pP:Memo:=
 ⟨88,#[.slice (some ⟨552,0,none⟩) 2 12,.agg #[Qx 813,Qx 620,Qx 0,Qx 0]],[(552,Ub)],1342,.tuple #[.agg #[Qx 0,Qx 87],.bool true],[],1346⟩
theorem zP:QM pP (pP.drun YP Xg Xy 100000)=true:=by decide+kernel
def oE:Memo:=
 ⟨98,#[.agg #[.slice (some ⟨552,0,none⟩) 2 12,Qx 200,Qx 2,Qx 1,Qx 3,Qx 0,Qx 0],.agg #[Qx 1030,Qx 470,Qx 0,Qx 0],Qx 1,.func (.func 76) #[] #[],.func (.func 77) #[] #[]],[(552,Ub)],1373,.agg #[Qx 1063,Qx 620,Qx 0,Qx 0],[],1414⟩
theorem yU:QM oE (oE.run YP Xg Xy 100000)=true:=by decide+kernel
def pO:Memo:=
 ⟨88,#[.slice (some ⟨552,0,none⟩) 2 12,.agg #[Qx 1063,Qx 620,Qx 0,Qx 0]],[(552,Ub)],1414,.tuple #[.agg #[Qx 0,Qx 0],.bool false],[],1419⟩
theorem zO:QM pO (pO.drun YP Xg Xy 100000)=true:=by decide+kernel
def oD:Memo:=
 ⟨98,#[.agg #[.slice (some ⟨552,0,none⟩) 2 12,Qx 200,Qx 2,Qx 2,Qx 0,Qx 0,Qx 0],.agg #[Qx 1000,Qx 500,Qx 0,Qx 0],Qx 0,.func (.func 76) #[] #[],.func (.func 77) #[] #[]],[(552,Ub)],1486,.agg #[Qx 780,Qx 650,Qx 0,Qx 0],[],1527⟩
theorem yT:QM oD (oD.run YP Xg Xy 100000)=true:=by decide+kernel
def oC:Memo:=
 ⟨98,#[.agg #[.slice (some ⟨552,0,none⟩) 2 12,Qx 200,Qx 2,Qx 2,Qx 0,Qx 0,Qx 0],.agg #[Qx 780,Qx 650,Qx 0,Qx 0],Qx 1,.func (.func 76) #[] #[],.func (.func 77) #[] #[]],[(552,Ub)],1530,.agg #[Qx 543,Qx 608,Qx 0,Qx 0],[],1571⟩
theorem yS:QM oC (oC.run YP Xg Xy 100000)=true:=by decide+kernel
def pN:Memo:=
 ⟨88,#[.slice (some ⟨552,0,none⟩) 2 12,.agg #[Qx 543,Qx 608,Qx 0,Qx 0]],[(552,Ub)],1571,.tuple #[.agg #[Qx 0,Qx 357],.bool true],[],1575⟩
theorem zN:QM pN (pN.drun YP Xg Xy 100000)=true:=by decide+kernel
def oB:Memo:=
 ⟨98,#[.agg #[.slice (some ⟨552,0,none⟩) 2 12,Qx 200,Qx 2,Qx 2,Qx 1,Qx 0,Qx 0],.agg #[Qx 780,Qx 650,Qx 0,Qx 0],Qx 1,.func (.func 76) #[] #[],.func (.func 77) #[] #[]],[(552,Ub)],1622,.agg #[Qx 793,Qx 608,Qx 0,Qx 0],[],1663⟩
theorem yR:QM oB (oB.run YP Xg Xy 100000)=true:=by decide+kernel
end Go.Proofs.Ytncjjangllkokaa

namespace Go.Proofs.Ytncjjangllkokaa
open Go Go.CE Go.RowKit
def pM:Memo:=
 ⟨88,#[.slice (some ⟨552,0,none⟩) 2 12,.agg #[Qx 793,Qx 608,Qx 0,Qx 0]],[(552,Ub)],1663,.tuple #[.agg #[Qx 0,Qx 107],.bool true],[],1667⟩
theorem zM:QM pM (pM.drun YP Xg Xy 100000)=true:=by decide+kernel
def oA:Memo:=
 ⟨98,#[.agg #[.slice (some ⟨552,0,none⟩) 2 12,Qx 200,Qx 2,Qx 2,Qx 2,Qx 0,Qx 0],.agg #[Qx 780,Qx 650,Qx 0,Qx 0],Qx 1,.func (.func 76) #[] #[],.func (.func 77) #[] #[]],[(552,Ub)],1714,.agg #[Qx 543,Qx 788,Qx 0,Qx 0],[],1755⟩
theorem yQ:QM oA (oA.run YP Xg Xy 100000)=true:=by decide+kernel
def pL:Memo:=
 ⟨88,#[.slice (some ⟨552,0,none⟩) 2 12,.agg #[Qx 543,Qx 788,Qx 0,Qx 0]],[(552,Ub)],1755,.tuple #[.agg #[Qx 0,Qx 357],.bool true],[],1759⟩
theorem zL:QM pL (pL.drun YP Xg Xy 100000)=true:=by decide+kernel
def o9:Memo:=
 ⟨98,#[.agg #[.slice (some ⟨552,0,none⟩) 2 12,Qx 200,Qx 2,Qx 2,Qx 3,Qx 0,Qx 0],.agg #[Qx 780,Qx 650,Qx 0,Qx 0],Qx 1,.func (.func 76) #[] #[],.func (.func 77) #[] #[]],[(552,Ub)],1806,.agg #[Qx 793,Qx 788,Qx 0,Qx 0],[],1847⟩
theorem yP:QM o9 (o9.run YP Xg Xy 100000)=true:=by decide+kernel
def pK:Memo:=
 ⟨88,#[.slice (some ⟨552,0,none⟩) 2 12,.agg #[Qx 793,Qx 788,Qx 0,Qx 0]],[(552,Ub)],1847,.tuple #[.agg #[Qx 0,Qx 107],.bool true],[],1851⟩
theorem zK:QM pK (pK.drun YP Xg Xy 100000)=true:=by decide+kernel
def o8:Memo:=
 ⟨98,#[.agg #[.slice (some ⟨552,0,none⟩) 2 12,Qx 200,Qx 2,Qx 3,Qx 0,Qx 0,Qx 0],.agg #[Qx 1030,Qx 650,Qx 0,Qx 0],Qx 1,.func (.func 76) #[] #[],.func (.func 77) #[] #[]],[(552,Ub)],1898,.agg #[Qx 813,Qx 638,Qx 0,Qx 0],[],1939⟩
theorem yO:QM o8 (o8.run YP Xg Xy 100000)=true:=by decide+kernel
def pJ:Memo:=
 ⟨88,#[.slice (some ⟨552,0,none⟩) 2 12,.agg #[Qx 813,Qx 638,Qx 0,Qx 0]],[(552,Ub)],1939,.tuple #[.agg #[Qx 0,Qx 87],.bool true],[],1943⟩
theorem zJ:QM pJ (pJ.drun YP Xg Xy 100000)=true:=by decide+kernel
def o7:Memo:=
 ⟨98,#[.agg #[.slice (some ⟨552,0,none⟩) 2 12,Qx 200,Qx 2,Qx 3,Qx 2,Qx 0,Qx 0],.agg #[Qx 1030,Qx 650,Qx 0,Qx 0],Qx 1,.func (.func 76) #[] #[],.func (.func 77) #[] #[]],[(552,Ub)],2014,.agg #[Qx 813,Qx 818,Qx 0,Qx 0],[],2055⟩
theorem yN:QM o7 (o7.run YP Xg Xy 100000)=true:=by decide+kernel
def pI:Memo:=
 ⟨88,#[.slice (some ⟨552,0,none⟩) 2 12,.agg #[Qx 813,Qx 818,Qx 0,Qx 0]],[(552,Ub)],2055,.tuple #[.agg #[Qx 0,Qx 87],.bool true],[],2059⟩
theorem zI:QM pI (pI.drun YP Xg Xy 100000)=true:=by decide+kernel
def pH:Memo:=
 ⟨88,#[.slice (some ⟨2134,0,none⟩) 2 12,.agg #[Qx 1063,Qx 440,Qx 0,Qx 0]],[(2134,Ub)],2266,.tuple #[.agg #[Qx 1,Qx 10],.bool true],[],2271⟩
theorem zH:QM pH (pH.drun YP Xg Xy 100000)=true:=by decide+kernel
def pG:Memo:=
 ⟨88,#[.slice (some ⟨2274,0,none⟩) 2 12,.agg #[Qx 1063,Qx 440,Qx 0,Qx 0]],[(2274,Ub)],2406,.tuple #[.agg #[Qx 1,Qx 10],.bool true],[],2411⟩
theorem zG:QM pG (pG.drun YP Xg Xy 100000)=true:=by decide+kernel
def pF:Memo:=
 ⟨88,#[.slice (some ⟨2414,0,none⟩) 2 12,.agg #[Qx 1063,Qx 440,Qx 0,Qx 0]],[(2414,Ub)],2546,.tuple #[.agg #[Qx 1,Qx 10],.bool true],[],2551⟩
theorem zF:QM pF (pF.drun YP Xg Xy 100000)=true:=by decide+kernel
def pE:Memo:=
 ⟨88,#[.slice (some ⟨2554,0,none⟩) 2 12,.agg #[Qx 1063,Qx 440,Qx 0,Qx 0]],[(2554,Ub)],2686,.tuple #[.agg #[Qx 1,Qx 10],.bool true],[],2691⟩
theorem zE:QM pE (pE.drun YP Xg Xy 100000)=true:=by decide+kernel
def pD:Memo:=
 ⟨88,#[.slice (some ⟨2694,0,none⟩) 2 12,.agg #[Qx 1063,Qx 440,Qx 0,Qx 0]],[(2694,Ub)],2826,.tuple #[.agg #[Qx 1,Qx 10],.bool true],[],2831⟩
theorem zD:QM pD (pD.drun YP Xg Xy 100000)=true:=by decide+kernel
end Go.Proofs.Ytncjjangllkokaa

namespace Go.Proofs.Ytncjjangllkokaa
open Go Go.CE Go.RowKit
noncomputable def kb:WZ:=XX [tU,tT,tY,tS,tR,tX,tQ,tW,tP,tV,oJ,pS,oI,oH,pR,oG,pQ,oF,pP,oE,pO,oD,oC,pN,oB,pM,oA,pL,o9,pK,o8,pJ,o7,pI]
theorem ou(B:Lo):Wz YP B kb:=QP QD Qf (QI _ _) C5 (QP QD Qf (QI _ _) C4 (QS QD Qf (QI _ _) C9 (QP QD Qf (QI _ _) C3 (QP QD Qf (QI _ _) C2 (QS QD Qf (QI _ _) C8 (QP QD Qf (QI _ _) C1 (QS QD Qf (QI _ _) C7 (QP QD Qf (QI _ _) C0 (QS QD Qf (QI _ _) C6 (QP QD Qf (QI _ _) yZ (QS QD Qf (QI _ _) zS (QP QD Qf (QI _ _) yY (QP QD Qf (QI _ _) yX (QS QD Qf (QI _ _) zR (QP QD Qf (QI _ _) yW (QS QD Qf (QI _ _) zQ (QP QD Qf (QI _ _) yV (QS QD Qf (QI _ _) zP (QP QD Qf (QI _ _) yU (QS QD Qf (QI _ _) zO (QP QD Qf (QI _ _) yT (QP QD Qf (QI _ _) yS (QS QD Qf (QI _ _) zN (QP QD Qf (QI _ _) yR (QS QD Qf (QI _ _) zM (QP QD Qf (QI _ _) yQ (QS QD Qf (QI _ _) zL (QP QD Qf (QI _ _) yP (QS QD Qf (QI _ _) zK (QP QD Qf (QI _ _) yO (QS QD Qf (QI _ _) zJ (QP QD Qf (QI _ _) yN (QS QD Qf (QI _ _) zI (Zg _ _))))))))))))))))))))))))))))))))))
def ua:Memo:=
 ⟨37,#[.agg #[.slice (some ⟨552,0,none⟩) 2 12,Qx 200,Qx 2]],[(552,Ub)],553,.tuple #[.slice (some ⟨2086,0,none⟩) 2 1,Qx 26,Qx 0],[(2086,.cells #[Qx 1,Qx 3] 3 (0,0))],2097⟩
theorem CB:QM ua (ua.run YP Xg kb 100000)=true:=by decide+kernel
end Go.Proofs.Ytncjjangllkokaa

namespace Go.Proofs.Ytncjjangllkokaa
open Go Go.CE Go.RowKit
def pC:Memo:=
 ⟨88,#[.slice (some ⟨2834,0,none⟩) 2 12,.agg #[Qx 1063,Qx 440,Qx 0,Qx 0]],[(2834,Ub)],2966,.tuple #[.agg #[Qx 1,Qx 10],.bool true],[],2971⟩
theorem zC:QM pC (pC.drun YP Xg Xy 100000)=true:=by decide+kernel
def pB:Memo:=
 ⟨88,#[.slice (some ⟨2974,0,none⟩) 2 12,.agg #[Qx 1063,Qx 440,Qx 0,Qx 0]],[(2974,Ub)],3106,.tuple #[.agg #[Qx 1,Qx 10],.bool true],[],3111⟩
theorem zB:QM pB (pB.drun YP Xg Xy 100000)=true:=by decide+kernel
def p9:Memo:=
 ⟨88,#[.slice (some ⟨3114,0,none⟩) 2 12,.agg #[Qx 1063,Qx 440,Qx 0,Qx 0]],[(3114,Ub)],3246,.tuple #[.agg #[Qx 1,Qx 10],.bool true],[],3251⟩
theorem zA:QM p9 (p9.drun YP Xg Xy 100000)=true:=by decide+kernel
def p8:Memo:=
 ⟨88,#[.slice (some ⟨3254,0,none⟩) 2 12,.agg #[Qx 1063,Qx 440,Qx 0,Qx 0]],[(3254,Ub)],3386,.tuple #[.agg #[Qx 1,Qx 10],.bool true],[],3391⟩
theorem z9:QM p8 (p8.drun YP Xg Xy 100000)=true:=by decide+kernel
def pz:Memo:=
 ⟨88,#[.slice (some ⟨3394,0,none⟩) 2 12,.agg #[Qx 1063,Qx 440,Qx 0,Qx 0]],[(3394,Ub)],3526,.tuple #[.agg #[Qx 1,Qx 10],.bool true],[],3531⟩
theorem z8:QM pz (pz.drun YP Xg Xy 100000)=true:=by decide+kernel
def py:Memo:=
 ⟨88,#[.slice (some ⟨3534,0,none⟩) 2 12,.agg #[Qx 1063,Qx 440,Qx 0,Qx 0]],[(3534,Ub)],3666,.tuple #[.agg #[Qx 1,Qx 10],.bool true],[],3671⟩
theorem z7:QM py (py.drun YP Xg Xy 100000)=true:=by decide+kernel
def px:Memo:=
 ⟨88,#[.slice (some ⟨3674,0,none⟩) 2 12,.agg #[Qx 1063,Qx 440,Qx 0,Qx 0]],[(3674,Ub)],3806,.tuple #[.agg #[Qx 1,Qx 10],.bool true],[],3811⟩
theorem z6:QM px (px.drun YP Xg Xy 100000)=true:=by decide+kernel
def pw:Memo:=
 ⟨88,#[.slice (some ⟨3814,0,none⟩) 2 12,.agg #[Qx 1063,Qx 603,Qx 0,Qx 0]],[(3814,cB2)],3946,.tuple #[.agg #[Qx 0,Qx 0],.bool false],[],3951⟩
theorem z5:QM pw (pw.drun YP Xg Xy 100000)=true:=by decide+kernel
def pt:Memo:=
 ⟨88,#[.slice (some ⟨3954,0,none⟩) 2 12,.agg #[Qx 1063,Qx 475,Qx 0,Qx 0]],[(3954,cB3)],4086,.tuple #[.agg #[Qx 0,Qx 0],.bool false],[],4091⟩
theorem z4:QM pt (pt.drun YP Xg Xy 100000)=true:=by decide+kernel
def pr:Memo:=
 ⟨88,#[.slice (some ⟨4094,0,none⟩) 2 12,.agg #[Qx 1063,Qx 440,Qx 0,Qx 0]],[(4094,Ub)],4226,.tuple #[.agg #[Qx 1,Qx 10],.bool true],[],4231⟩
theorem z3:QM pr (pr.drun YP Xg Xy 100000)=true:=by decide+kernel
def pq:Memo:=
 ⟨88,#[.slice (some ⟨4234,0,none⟩) 2 12,.agg #[Qx 1063,Qx 442,Qx 0,Qx 0]],[(4234,cB4)],4366,.tuple #[.agg #[Qx 1,Qx 8],.bool true],[],4371⟩
theorem z2:QM pq (pq.drun YP Xg Xy 100000)=true:=by decide+kernel
def po:Memo:=
 ⟨88,#[.slice (some ⟨4374,0,none⟩) 2 12,.agg #[Qx 1063,Qx 458,Qx 0,Qx 0]],[(4374,cB5)],4506,.tuple #[.agg #[Qx 0,Qx 0],.bool false],[],4511⟩
theorem z1:QM po (po.drun YP Xg Xy 100000)=true:=by decide+kernel
def pn:Memo:=
 ⟨88,#[.slice (some ⟨4514,0,none⟩) 2 12,.agg #[Qx 1063,Qx 450,Qx 0,Qx 0]],[(4514,cB6)],4646,.tuple #[.agg #[Qx 0,Qx 0],.bool false],[],4651⟩
theorem z0:QM pn (pn.drun YP Xg Xy 100000)=true:=by decide+kernel
def pk:Memo:=
 ⟨88,#[.slice (some ⟨4654,0,none⟩) 2 12,.agg #[Qx 1063,Qx 446,Qx 0,Qx 0]],[(4654,cB7)],4786,.tuple #[.agg #[Qx 1,Qx 4],.bool true],[],4791⟩
theorem zz:QM pk (pk.drun YP Xg Xy 100000)=true:=by decide+kernel
end Go.Proofs.Ytncjjangllkokaa
