/- Reef: stocks. -/
import Derived.Test.YtncjjangllkokaaZRM14
set_option linter.all false
open Int renaming tdiv_eq_ediv_of_nonneg->LM,le_refl->LL,toNat->Lb,mul_le_mul_of_nonneg_left->LU
open List renaming getD_eq_getElem?_getD->Ll,getElem?_eq_none->Lu,replicate->Li,mem_cons_of_mem->Ls,getD->Ld,set->Lw,length_set->Lf,length_replicate->Lh,length->Lc,getElem?_eq_getElem->LP
open Array renaming size->LR
open Nat renaming strongRecOn->LK,lt_of_lt_of_eq->LN
open Inhabited renaming default->La
namespace Go.Proofs.Ytncjjangllkokaa
open Go Go.CE Go.RowKit
noncomputable section
set_option maxRecDepth 100000
abbrev ZZ(l:List Span):List Value:=[Y3 l]
structure oo where
 z:Bool
 n:Nat
 l:List Span
deriving Inhabited
def encRSp(r:oo):List Value:=[bif r.z then .slice none 0 0 else Xq r.n (Qj QN r.l)]
def nC(rf:Qk):List (List Int):=KJ rf.seasons fun _=>Ux rf
def nD(rf:Qk):List (List Int):=KJ rf.seasons fun _=>Uy rf
def m7(rf:Qk)(Qa:List Int):List (List Int):=KJ rf.seasons fun s=>VV rf (Qa.getD s.toNat 0)
def m8(rf:Qk)(Qa:List Int):List (List Int):=KJ rf.seasons fun s=>VW rf (Qa.getD s.toNat 0)
def UL(rf:Qk)(Qa:List Int)(k:Nat):F4:=xQ rf.Qb (nC rf) (m8 rf Qa) (Zk (Ph rf)) k
def Ur(rf:Qk)(Qa:List Int)(k:Nat):F4:=xQ rf.Qb (nD rf) (m7 rf Qa) (Zk (J9 rf)) k
def zW(rf:Qk)(Qa:List Int)(s k:Int):Span:=⟨(UL rf Qa (s.toNat+1)).at k,(Ur rf Qa (s.toNat+1)).at k⟩
def sF(rf:Qk)(Qa:List Int)(s:Int):List Span:=KJ rf.Qb.length fun k=>zW rf Qa s k
def Kn(rf:Qk)(Qa:List Int)(i:Int):List oo:=KJ rf.seasons fun k=>if k<i then⟨false,rf.Qb.length,sF rf Qa k⟩else⟨true,0,[]⟩
def Qt(rf:Qk)(Qa:List Int):List (List Span):=KJ rf.seasons fun k=>sF rf Qa k
theorem l7{l:List Int}(h:∀k:Int,0<=k->k<4->0<=nth l k/\nth l k<=4000000):Yn (Zk l)/\(Zk l).sum<=16000000:=by
 have a0:=h 0 (by omega) (by omega);have a1:=h 1 (by omega) (by omega);have a2:=h 2 (by omega) (by omega);have a3:=h 3 (by omega) (by omega);have es:(Zk l).sum=nth l 0+nth l 1+nth l 2+nth l 3:=rfl;exact⟨⟨⟨a0.1,a1.1,a2.1,a3.1⟩,by omega⟩,by omega⟩
theorem DD{rf:Qk}(hr:Wx rf=true){g:Span->Int}(hg:∀s:Span,g s=s.lo\/g s=s.hi):∀k:Int,0<=k->k<4->0<=nth ((rf.Qb.map (Xw rf.miss)).map g) k/\nth ((rf.Qb.map (Xw rf.miss)).map g) k<=4000000:=fun k k0 k1=>by
 have hs:=Qn (X5 hr).1;by_cases hk:k<rf.Qb.length
 ·have hp:=WT ((X5 hr).2 k k0 hk).1;have hm:=cr (a:=(rf.Qb.getD k.toNat La).count) (r:=rf.miss) (by omega) (by omega);have hm2:(rf.Qb.getD k.toNat La).count*rf.miss<=1000000*2000:=Int.mul_le_mul hp.1.2 hs.2.1.2 hs.2.1.1 (by omega);have e2:((rf.Qb.getD k.toNat La).count*rf.miss).tdiv 1000=((rf.Qb.getD k.toNat La).count*rf.miss) / 1000:=LM hm.1;rw[Z2 k0 hk];rcases hg (Xw rf.miss (rf.Qb.getD k.toNat La))with e|e
  ·rw[e];simp only[Xw];omega
  ·rw[e];simp only[Xw,DK];omega
 ·unfold nth;rw[Ll,Lu (by simp;omega)];exact⟨LL _,by decide⟩
theorem BK{rf:Qk}(hr:Wx rf=true){gs ts:List (List Int)}{l:List Int}(hg:gs.length=rf.seasons)(ht:ts.length=rf.seasons)(rg:∀k:Nat,k<rf.seasons->VF rf.Qb.length (gs.getD k La) 2000)(rt:∀k:Nat,k<rf.seasons->VF rf.Qb.length (ts.getD k La) 1000000)(hl:Yn (Zk l)/\(Zk l).sum<=16000000):OkT rf.Qb rf.seasons gs ts (Zk l):=by
 have hs:=Qn (X5 hr).1;exact⟨td hr,by omega,by omega,by omega,hg,ht,rg,rt,hl.1,by omega⟩
theorem zb{rf:Qk}(hr:Wx rf=true):Yn (Zk (Ph rf))/\(Zk (Ph rf)).sum<=16000000:=l7 (DD hr fun _=>.inl rfl)
theorem u3{rf:Qk}(hr:Wx rf=true):Yn (Zk (J9 rf))/\(Zk (J9 rf)).sum<=16000000:=l7 (DD hr fun _=>.inr rfl)
theorem cv{rf:Qk}(Qa:List Int)(hr:Wx rf=true):OkT rf.Qb rf.seasons (nC rf) (m8 rf Qa) (Zk (Ph rf)):=by
 have hs:=Qn (X5 hr).1;refine BK hr (by rw[nC,XR];omega) (by rw[m8,XR];omega) (fun k hk=> ?_) (fun k hk=> ?_) (zb hr)
 ·have e:(nC rf).getD k La=Ux rf:=XU (k:=(k:Int)) (by omega) hk;rw[e];exact(So hr).1
 ·have e:(m8 rf Qa).getD k La=VW rf (Qa.getD ((k:Int)).toNat 0):=XU (k:=(k:Int)) (by omega) hk;rw[e];exact(RH hr _).2
theorem Sm{rf:Qk}(Qa:List Int)(hr:Wx rf=true):OkT rf.Qb rf.seasons (nD rf) (m7 rf Qa) (Zk (J9 rf)):=by
 have hs:=Qn (X5 hr).1;refine BK hr (by rw[nD,XR];omega) (by rw[m7,XR];omega) (fun k hk=> ?_) (fun k hk=> ?_) (u3 hr)
 ·have e:(nD rf).getD k La=Uy rf:=XU (k:=(k:Int)) (by omega) hk;rw[e];exact(So hr).2
 ·have e:(m7 rf Qa).getD k La=VV rf (Qa.getD ((k:Int)).toNat 0):=XU (k:=(k:Int)) (by omega) hk;rw[e];exact(RH hr _).1
theorem jG{rf:Qk}{Qa:List Int}{i:Int}(h0:0<=i)(h:i<rf.seasons):UL rf Qa (i+1).toNat=QT (Ux rf) (VW rf (Qa.getD i.toNat 0)) rf.Qb (UL rf Qa i.toNat):=by
 rw[show(i+1).toNat=i.toNat+1 by omega];show QT _ _ _ _=_;have e1:(nC rf).getD i.toNat La=Ux rf:=XU h0 h;have e2:(m8 rf Qa).getD i.toNat La=VW rf (Qa.getD i.toNat 0):=XU h0 h;rw[e1,e2];rfl
theorem cx{rf:Qk}{Qa:List Int}{i:Int}(h0:0<=i)(h:i<rf.seasons):Ur rf Qa (i+1).toNat=QT (Uy rf) (VV rf (Qa.getD i.toNat 0)) rf.Qb (Ur rf Qa i.toNat):=by
 rw[show(i+1).toNat=i.toNat+1 by omega];show QT _ _ _ _=_;have e1:(nD rf).getD i.toNat La=Uy rf:=XU h0 h;have e2:(m7 rf Qa).getD i.toNat La=VV rf (Qa.getD i.toNat 0):=XU h0 h;rw[e1,e2];rfl
theorem l5{rf:Qk}{Qa:List Int}{i:Int}:(Kn rf Qa i).length=rf.seasons.toNat:=XR
theorem Cy{rf:Qk}{Qa:List Int}:Li rf.seasons.toNat ⟨true,0,[]⟩=Kn rf Qa 0:=by
 unfold Kn;refine List.ext_getElem? fun k=> ?_
 by_cases hk:k<rf.seasons.toNat
 ·rw[Kc hk,if_neg (by omega),List.getElem?_replicate,if_pos hk]
 ·rw[Lu (by simp;omega),Lu (by rw[XR];omega)]
theorem YK{rf:Qk}{Qa:List Int}{i:Int}(h0:0<=i)(h:i<rf.seasons):(Kn rf Qa i).set i.toNat ⟨false,rf.Qb.length,sF rf Qa i⟩=Kn rf Qa (i+1):=by
 unfold Kn;rw[fM h0 h];refine VX fun k g0 g1=> ?_
 by_cases e:k=i
 ·subst e;rw[if_pos rfl,if_pos (by omega)]
 ·rw[if_neg e];by_cases e2:k<i
  ·rw[if_pos e2,if_pos (by omega)]
  ·rw[if_neg e2,if_neg (by omega)]
theorem oO{rf:Qk}{Qa:List Int}{s:Int}:(sF rf Qa s).length=rf.Qb.length:=by rw[sF,XR];omega
theorem oL:∀(l:List Int) (g:Int->List Span) (n:Nat),(∀k∈l,(g k).length=n)->Qj encRSp (l.map fun k=>⟨false,n,g k⟩)=Qj ZZ (l.map g)
 |[],_,_,_=>rfl
 |k::l,g,n,h=>by
  have ih:=oL l g n fun k hk=>h k (Ls _ hk)
  have e:encRSp ⟨false,n,g k⟩=ZZ (g k):=by show [Xq n (Qj QN (g k))]=_;rw[<-h k (List.mem_cons_self ..)]
  unfold Qj at ih ⊢;rw[List.map_cons,List.map_cons,List.flatMap_cons,List.flatMap_cons,e];apply Array.ext';have ih':=congrArg Array.toList ih;simp only at ih' ⊢;rw[ih']
theorem xP{rf:Qk}{Qa:List Int}{i:Int}(h:rf.seasons<=i):Qj encRSp (Kn rf Qa i)=Qj ZZ (Qt rf Qa):=by
 have e:Kn rf Qa i=(fF 0 rf.seasons).map fun k=>⟨false,rf.Qb.length,sF rf Qa k⟩:=VX fun k g0 g1=>by rw[if_pos (by omega)]
 rw[e];exact oL _ _ _ fun k _=>oO
theorem Cx{rf:Qk}{Qa:List Int}{ys:List oo}{i:Int}(ey:ys=Kn rf Qa i)(h0:0<=i)(h:i<rf.seasons):(ys.getD i.toNat La).z=true:=by
 rw[ey];unfold Kn;rw[XU h0 h,if_neg (by omega)]
def Ub(rf:Qk)(Qa:List Int)(la lb lc ld ha hb hc hd:Int)(ys:List oo)(i:Int):List Value:=[pA 2 0,pA 3 0,pA 4 0,.slice (some {block:=5,off:=0}) (Lb rf.seasons) 1,.int .i64 rf.seasons,.int .i64 i]
def We(rf:Qk)(Qa:List Int)(la lb lc ld ha hb hc hd:Int)(ys:List oo)(i:Int):List Obj:=[Obj.cells #[QF 1 (Xq rf.Qb.length (Qj Qf rf.Qb)),.int .i64 rf.miss,.int .i64 rf.seasons,.int .i64 (Qa.getD 0 0),.int .i64 (Qa.getD 1 0),.int .i64 (Qa.getD 2 0),.int .i64 (Qa.getD 3 0)] 84,.cells #[.int .i64 la,.int .i64 lb,.int .i64 lc,.int .i64 ld] 111 (0,0),.cells #[.int .i64 ha,.int .i64 hb,.int .i64 hc,.int .i64 hd] 111 (0,0),.cells (Qj (pushE 1 encRSp) ys) 36 (0,0)]
def Uc:List Item:=([.code [1,1,1,0,1,0,0],.inLoop [1,1,1,0,1,0,0],.inBlock 0,.code [1,1,1,1]]).map (it (Xt YP 53))
def sU(B:Lo)(c0:CF)(rf:Qk)(Qa:List Int)(la lb lc ld ha hb hc hd:Int)(ys:List oo)(i:Int):Prop:=∃dJ:Nat->Value,(∀t,Zf (dJ t))/\GoE YP B c0 ZH 1 (QJ 53 56 (([1,3,4,5,18,19]:List Nat).zip (Ub rf Qa la lb lc ld ha hb hc hd ys i)) dJ Uc) (QI (We rf Qa la lb lc ld ha hb hc hd ys i)) (2+(We rf Qa la lb lc ld ha hb hc hd ys i).length) []
def KT(rf:Qk)(Qa:List Int)(la lb lc ld ha hb hc hd:Int)(ys:List oo)(i j:Int)(zs:List Span)(zn:Nat):List Value:=[pA 2 0,pA 3 0,pA 4 0,.slice (some {block:=5,off:=0}) (Lb rf.seasons) 1,.int .i64 i,.int .i64 rf.seasons,.int .i64 i,.int .i64 (↑rf.Qb.length:Int),.int .i64 j]
def Vr(rf:Qk)(Qa:List Int)(la lb lc ld ha hb hc hd:Int)(ys:List oo)(i j:Int)(zs:List Span)(zn:Nat):List Obj:=[Obj.cells #[QF 1 (Xq rf.Qb.length (Qj Qf rf.Qb)),.int .i64 rf.miss,.int .i64 rf.seasons,.int .i64 (Qa.getD 0 0),.int .i64 (Qa.getD 1 0),.int .i64 (Qa.getD 2 0),.int .i64 (Qa.getD 3 0)] 84,.cells #[.int .i64 la,.int .i64 lb,.int .i64 lc,.int .i64 ld] 111 (0,0),.cells #[.int .i64 ha,.int .i64 hb,.int .i64 hc,.int .i64 hd] 111 (0,0),.cells (splice (Qj (pushE 1 encRSp) ys) (0+i.toNat*1) #[.slice (some ⟨6,0,none⟩) zn 2]) 36 (0,0),.cells (Qj QN zs) 38 (0,0)]
def KU:List Item:=([.code [1,1,1,0,1,0,0,1,1,0,0,1,1,1,0,0],.inLoop [1,1,1,0,1,0,0,1,1,0,0,1,1,1,0,0],.inBlock 2,.inBlock 1,.code [1,1,1,0,1,0,0,1,1,1],.inLoop [1,1,1,0,1,0,0],.inBlock 0,.code [1,1,1,1]]).map (it (Xt YP 53))
def sT(B:Lo)(c0:CF)(rf:Qk)(Qa:List Int)(la lb lc ld ha hb hc hd:Int)(ys:List oo)(i j:Int)(zs:List Span)(zn:Nat):Prop:=∃dJ:Nat->Value,(∀t,Zf (dJ t))/\GoE YP B c0 ZH 1 (QJ 53 56 (([1,3,4,5,6,18,19,33,34]:List Nat).zip (KT rf Qa la lb lc ld ha hb hc hd ys i j zs zn)) dJ KU) (QI (Vr rf Qa la lb lc ld ha hb hc hd ys i j zs zn)) (2+(Vr rf Qa la lb lc ld ha hb hc hd ys i j zs zn).length) []
def JF(rf:Qk)(Qa:List Int):Array Value:=#[Xq rf.Qb.length (Qj Qf rf.Qb),.int .i64 rf.miss,.int .i64 rf.seasons,.int .i64 (Qa.getD 0 0),.int .i64 (Qa.getD 1 0),.int .i64 (Qa.getD 2 0),.int .i64 (Qa.getD 3 0)]
def KR(la lb lc ld ha hb hc hd:Int)(j:Int)(zs:List Span):Array Value:=(Qj QN (zs++[{lo:=Qs [la,lb,lc,ld] j.toNat,hi:=Qs [ha,hb,hc,hd] j.toNat}]))
def gE(rf:Qk):Value:=(.agg #[.int .i64 (Ld (Ph rf) 0 La),.int .i64 (Ld (Ph rf) 1 La),.int .i64 (Ld (Ph rf) 2 La),.int .i64 (Ld (Ph rf) 3 La)])
def gC(rf:Qk):Value:=(.agg #[.int .i64 (Ld (J9 rf) 0 La),.int .i64 (Ld (J9 rf) 1 La),.int .i64 (Ld (J9 rf) 2 La),.int .i64 (Ld (J9 rf) 3 La)])
def JE(zn:Nat):Array Value:=#[.slice (some {block:=6,off:=0}) zn 2]
def S9  :Array Value:=#[.slice (some {block:=7,off:=0}) 1 2]
def S8(zn:Nat):Array Value:=#[.slice (some {block:=8,off:=0}) (zn+1) 2]
def gB(rf:Qk):Array Value:=(Qj (pushE 1 encRSp) (Li (Lb rf.seasons) {z:=true,n:=0,l:=[]}))
def gA(rf:Qk):Array Value:=(Qj (VD [.slice none 0 0]) (Li (Lb rf.seasons) ()))
def g9(ha hb hc hd:Int):Array Value:=#[.int .i64 ha,.int .i64 hb,.int .i64 hc,.int .i64 hd]
def cW(la lb lc ld:Int):Array Value:=#[.int .i64 la,.int .i64 lb,.int .i64 lc,.int .i64 ld]
def cV  :Array Value:=#[.slice (some {block:=6,off:=0}) 1 2]
def SA(B:Lo)(rf:Qk)(Qa:List Int)(la lb lc ld ha hb hc hd:Int)(ys:List oo)(i:Int)(Qr:Nat->Value):List Prop:=[Q3 []/\Qz YP J0 79 #[.agg (JF rf Qa),.agg (g9 ha hb hc hd),.int .i64 i] (.agg #[.int .i64 (F4.a (QT (Uy rf) (VV rf (Qa.getD i.toNat 0)) rf.Qb {a:=ha,b:=hb,c:=hc,d:=hd})),.int .i64 (F4.b (QT (Uy rf) (VV rf (Qa.getD i.toNat 0)) rf.Qb {a:=ha,b:=hb,c:=hc,d:=hd})),.int .i64 (F4.c (QT (Uy rf) (VV rf (Qa.getD i.toNat 0)) rf.Qb {a:=ha,b:=hb,c:=hc,d:=hd})),.int .i64 (F4.d (QT (Uy rf) (VV rf (Qa.getD i.toNat 0)) rf.Qb {a:=ha,b:=hb,c:=hc,d:=hd}))]),Q3 []/\Qz YP J0 78 #[.agg (JF rf Qa),.agg (cW la lb lc ld),.int .i64 i] (.agg #[.int .i64 (F4.a (QT (Ux rf) (VW rf (Qa.getD i.toNat 0)) rf.Qb {a:=la,b:=lb,c:=lc,d:=ld})),.int .i64 (F4.b (QT (Ux rf) (VW rf (Qa.getD i.toNat 0)) rf.Qb {a:=la,b:=lb,c:=lc,d:=ld})),.int .i64 (F4.c (QT (Ux rf) (VW rf (Qa.getD i.toNat 0)) rf.Qb {a:=la,b:=lb,c:=lc,d:=ld})),.int .i64 (F4.d (QT (Ux rf) (VW rf (Qa.getD i.toNat 0)) rf.Qb {a:=la,b:=lb,c:=lc,d:=ld}))]),Z7 i rf.seasons=true]++([]:List Prop)
def gF(rf:Qk)(Qa:List Int)(la lb lc ld ha hb hc hd:Int)(ys:List oo)(i:Int)(Qr:Nat->Value):QA:=[(0,V4),(6,Qu.pure (.agg #[.int .i64 (F4.a (QT (Ux rf) (VW rf (Qa.getD i.toNat 0)) rf.Qb {a:=la,b:=lb,c:=lc,d:=ld})),.int .i64 (F4.b (QT (Ux rf) (VW rf (Qa.getD i.toNat 0)) rf.Qb {a:=la,b:=lb,c:=lc,d:=ld})),.int .i64 (F4.c (QT (Ux rf) (VW rf (Qa.getD i.toNat 0)) rf.Qb {a:=la,b:=lb,c:=lc,d:=ld})),.int .i64 (F4.d (QT (Ux rf) (VW rf (Qa.getD i.toNat 0)) rf.Qb {a:=la,b:=lb,c:=lc,d:=ld}))]) []),(10,Qu.pure (.agg #[.int .i64 (F4.a (QT (Uy rf) (VV rf (Qa.getD i.toNat 0)) rf.Qb {a:=ha,b:=hb,c:=hc,d:=hd})),.int .i64 (F4.b (QT (Uy rf) (VV rf (Qa.getD i.toNat 0)) rf.Qb {a:=ha,b:=hb,c:=hc,d:=hd})),.int .i64 (F4.c (QT (Uy rf) (VV rf (Qa.getD i.toNat 0)) rf.Qb {a:=ha,b:=hb,c:=hc,d:=hd})),.int .i64 (F4.d (QT (Uy rf) (VV rf (Qa.getD i.toNat 0)) rf.Qb {a:=ha,b:=hb,c:=hc,d:=hd}))]) [])]
theorem sR(B:Lo)(rf:Qk)(Qa:List Int)(la lb lc ld ha hb hc hd:Int)(ys:List oo)(i:Int)(Qr:Nat->Value):landM (Q2 YP (QB YP) J0 B 28 1 (QJ 53 56 (([1,3,4,5,18,19]:List Nat).zip (Ub rf Qa la lb lc ld ha hb hc hd ys i)) Qr Uc) (QI (We rf Qa la lb lc ld ha hb hc hd ys i)) (2+(We rf Qa la lb lc ld ha hb hc hd ys i).length)
 (gF rf Qa la lb lc ld ha hb hc hd ys i Qr++[(18,V4),(25,Qu.WE (Hint.idx i.toNat)),(26,Qu.WE (Hint.ld (.slice none 0 0))),(36,Qu.WE (Hint.idx i.toNat)),(37,Qu.WE (Hint.st (splice (Qj (pushE 1 encRSp) ys) (0+Lb i*1) S9)))]) 0 [] []) [1,3,4,5,6,18,19,33,34] [(2,KS.auto),(3,KS.auto),(4,KS.auto),(5,KS.rows [(1,1)] [] [(7,6)] (splice (Qj (pushE 1 encRSp) ys) (0+Lb i*1) cV)),(7,KS.cells [] (Qj QN [{lo:=F4.a (QT (Ux rf) (VW rf (Qa.getD i.toNat 0)) rf.Qb {a:=la,b:=lb,c:=lc,d:=ld}),hi:=F4.a (QT (Uy rf) (VV rf (Qa.getD i.toNat 0)) rf.Qb {a:=ha,b:=hb,c:=hc,d:=hd})}]))] []=some ⟨53,56,KU,[],.run,none,KT rf Qa (F4.a (QT (Ux rf) (VW rf (Qa.getD i.toNat 0)) rf.Qb {a:=la,b:=lb,c:=lc,d:=ld})) (F4.b (QT (Ux rf) (VW rf (Qa.getD i.toNat 0)) rf.Qb {a:=la,b:=lb,c:=lc,d:=ld})) (F4.c (QT (Ux rf) (VW rf (Qa.getD i.toNat 0)) rf.Qb {a:=la,b:=lb,c:=lc,d:=ld})) (F4.d (QT (Ux rf) (VW rf (Qa.getD i.toNat 0)) rf.Qb {a:=la,b:=lb,c:=lc,d:=ld})) (F4.a (QT (Uy rf) (VV rf (Qa.getD i.toNat 0)) rf.Qb {a:=ha,b:=hb,c:=hc,d:=hd})) (F4.b (QT (Uy rf) (VV rf (Qa.getD i.toNat 0)) rf.Qb {a:=ha,b:=hb,c:=hc,d:=hd})) (F4.c (QT (Uy rf) (VV rf (Qa.getD i.toNat 0)) rf.Qb {a:=ha,b:=hb,c:=hc,d:=hd})) (F4.d (QT (Uy rf) (VV rf (Qa.getD i.toNat 0)) rf.Qb {a:=ha,b:=hb,c:=hc,d:=hd})) (ys) (i) (1) ([{lo:=F4.a (QT (Ux rf) (VW rf (Qa.getD i.toNat 0)) rf.Qb {a:=la,b:=lb,c:=lc,d:=ld}),hi:=F4.a (QT (Uy rf) (VV rf (Qa.getD i.toNat 0)) rf.Qb {a:=ha,b:=hb,c:=hc,d:=hd})}]) (1),Vr rf Qa (F4.a (QT (Ux rf) (VW rf (Qa.getD i.toNat 0)) rf.Qb {a:=la,b:=lb,c:=lc,d:=ld})) (F4.b (QT (Ux rf) (VW rf (Qa.getD i.toNat 0)) rf.Qb {a:=la,b:=lb,c:=lc,d:=ld})) (F4.c (QT (Ux rf) (VW rf (Qa.getD i.toNat 0)) rf.Qb {a:=la,b:=lb,c:=lc,d:=ld})) (F4.d (QT (Ux rf) (VW rf (Qa.getD i.toNat 0)) rf.Qb {a:=la,b:=lb,c:=lc,d:=ld})) (F4.a (QT (Uy rf) (VV rf (Qa.getD i.toNat 0)) rf.Qb {a:=ha,b:=hb,c:=hc,d:=hd})) (F4.b (QT (Uy rf) (VV rf (Qa.getD i.toNat 0)) rf.Qb {a:=ha,b:=hb,c:=hc,d:=hd})) (F4.c (QT (Uy rf) (VV rf (Qa.getD i.toNat 0)) rf.Qb {a:=ha,b:=hb,c:=hc,d:=hd})) (F4.d (QT (Uy rf) (VV rf (Qa.getD i.toNat 0)) rf.Qb {a:=ha,b:=hb,c:=hc,d:=hd})) (ys) (i) (1) ([{lo:=F4.a (QT (Ux rf) (VW rf (Qa.getD i.toNat 0)) rf.Qb {a:=la,b:=lb,c:=lc,d:=ld}),hi:=F4.a (QT (Uy rf) (VV rf (Qa.getD i.toNat 0)) rf.Qb {a:=ha,b:=hb,c:=hc,d:=hd})}]) (1),
 [ZO 1 [(1,1)] [] [(7,6)] (splice (Qj (pushE 1 encRSp) ys) (0+Lb i*1) S9) (splice (Qj (pushE 1 encRSp) ys) (0+Lb i*1) cV),ZG 1 [] (#[.int .i64 (F4.a (QT (Ux rf) (VW rf (Qa.getD i.toNat 0)) rf.Qb {a:=la,b:=lb,c:=lc,d:=ld})),.int .i64 (F4.a (QT (Uy rf) (VV rf (Qa.getD i.toNat 0)) rf.Qb {a:=ha,b:=hb,c:=hc,d:=hd}))]) (Qj QN [{lo:=F4.a (QT (Ux rf) (VW rf (Qa.getD i.toNat 0)) rf.Qb {a:=la,b:=lb,c:=lc,d:=ld}),hi:=F4.a (QT (Uy rf) (VV rf (Qa.getD i.toNat 0)) rf.Qb {a:=ha,b:=hb,c:=hc,d:=hd})}]),0+Lb i*1+TypeInfo.size Try.t36<=LR (Qj (pushE 1 encRSp) ys)/\splice (Qj (pushE 1 encRSp) ys) (0+Lb i*1) (Value.cells (Zc {len:=16000,tr:=Tri.set 14 (Tri.set 14 Tri.lf 51 (.slice (some {block:=7,off:=0}) 1 2)) 52 (.pointer (some {block:=5,off:=0+Lb i*1}))} 51))=splice (Qj (pushE 1 encRSp) ys) (0+Lb i*1) S9,i=(↑i.toNat:Int)/\Lb i<Lb rf.seasons,(Qj (pushE 1 encRSp) ys)[0+Lb i*1]? =some (.slice none 0 0),i=(↑i.toNat:Int)/\Lb i<Lb rf.seasons,Z7 0 (↑rf.Qb.length:Int)=true]++SA B rf Qa la lb lc ld ha hb hc hd ys i Qr⟩:=by kernel_rfl
theorem sQ(B:Lo)(rf:Qk)(Qa:List Int)(la lb lc ld ha hb hc hd:Int)(ys:List oo)(i:Int)(Qr:Nat->Value):landM (Q2 YP (QB YP) J0 B 23 1 (QJ 53 56 (([1,3,4,5,18,19]:List Nat).zip (Ub rf Qa la lb lc ld ha hb hc hd ys i)) Qr Uc) (QI (We rf Qa la lb lc ld ha hb hc hd ys i)) (2+(We rf Qa la lb lc ld ha hb hc hd ys i).length)
 (gF rf Qa la lb lc ld ha hb hc hd ys i Qr++[(18,V5),(19,UW (i+1))]) 0 [] []) [1,3,4,5,18,19] [(2,KS.auto),(3,KS.auto),(4,KS.auto),(5,KS.rows [(1,1)] [] [] (Qj (pushE 1 encRSp) ys))] []=some ⟨53,56,Uc,[],.run,none,Ub rf Qa (F4.a (QT (Ux rf) (VW rf (Qa.getD i.toNat 0)) rf.Qb {a:=la,b:=lb,c:=lc,d:=ld})) (F4.b (QT (Ux rf) (VW rf (Qa.getD i.toNat 0)) rf.Qb {a:=la,b:=lb,c:=lc,d:=ld})) (F4.c (QT (Ux rf) (VW rf (Qa.getD i.toNat 0)) rf.Qb {a:=la,b:=lb,c:=lc,d:=ld})) (F4.d (QT (Ux rf) (VW rf (Qa.getD i.toNat 0)) rf.Qb {a:=la,b:=lb,c:=lc,d:=ld})) (F4.a (QT (Uy rf) (VV rf (Qa.getD i.toNat 0)) rf.Qb {a:=ha,b:=hb,c:=hc,d:=hd})) (F4.b (QT (Uy rf) (VV rf (Qa.getD i.toNat 0)) rf.Qb {a:=ha,b:=hb,c:=hc,d:=hd})) (F4.c (QT (Uy rf) (VV rf (Qa.getD i.toNat 0)) rf.Qb {a:=ha,b:=hb,c:=hc,d:=hd})) (F4.d (QT (Uy rf) (VV rf (Qa.getD i.toNat 0)) rf.Qb {a:=ha,b:=hb,c:=hc,d:=hd})) (ys) (i+1),We rf Qa (F4.a (QT (Ux rf) (VW rf (Qa.getD i.toNat 0)) rf.Qb {a:=la,b:=lb,c:=lc,d:=ld})) (F4.b (QT (Ux rf) (VW rf (Qa.getD i.toNat 0)) rf.Qb {a:=la,b:=lb,c:=lc,d:=ld})) (F4.c (QT (Ux rf) (VW rf (Qa.getD i.toNat 0)) rf.Qb {a:=la,b:=lb,c:=lc,d:=ld})) (F4.d (QT (Ux rf) (VW rf (Qa.getD i.toNat 0)) rf.Qb {a:=la,b:=lb,c:=lc,d:=ld})) (F4.a (QT (Uy rf) (VV rf (Qa.getD i.toNat 0)) rf.Qb {a:=ha,b:=hb,c:=hc,d:=hd})) (F4.b (QT (Uy rf) (VV rf (Qa.getD i.toNat 0)) rf.Qb {a:=ha,b:=hb,c:=hc,d:=hd})) (F4.c (QT (Uy rf) (VV rf (Qa.getD i.toNat 0)) rf.Qb {a:=ha,b:=hb,c:=hc,d:=hd})) (F4.d (QT (Uy rf) (VV rf (Qa.getD i.toNat 0)) rf.Qb {a:=ha,b:=hb,c:=hc,d:=hd})) (ys) (i+1),
 [ZO 1 [(1,1)] [] [] (Qj (pushE 1 encRSp) ys) (Qj (pushE 1 encRSp) ys),wq (i+1)=i+1,Z7 0 (↑rf.Qb.length:Int)=false]++SA B rf Qa la lb lc ld ha hb hc hd ys i Qr⟩:=by kernel_rfl
theorem sP(B:Lo)(rf:Qk)(Qa:List Int)(la lb lc ld ha hb hc hd:Int)(ys:List oo)(i:Int)(Qr:Nat->Value):QS (Q2 YP (QB YP) J0 B 9 1 (QJ 53 56 (([1,3,4,5,18,19]:List Nat).zip (Ub rf Qa la lb lc ld ha hb hc hd ys i)) Qr Uc) (QI (We rf Qa la lb lc ld ha hb hc hd ys i)) (2+(We rf Qa la lb lc ld ha hb hc hd ys i).length)
 [(0,V5)] 0 [] []) [{k:=5,rs:=[1],cs:=Qj encRSp ys}]=some (Xq (Lb rf.seasons) (Fz.cs {k:=5,rs:=[1],cs:=Qj encRSp ys}),
 [QC (Fz.rs {k:=5,rs:=[1],cs:=Qj encRSp ys}) (Qj (pushE 1 encRSp) ys) (Fz.cs {k:=5,rs:=[1],cs:=Qj encRSp ys}),Z7 i rf.seasons=false]):=by kernel_rfl
theorem sO(B:Lo)(rf:Qk)(Qa:List Int)(la lb lc ld ha hb hc hd:Int)(ys:List oo)(i j:Int)(zs:List Span)(zn:Nat)(Qr:Nat->Value):landM (Q2 YP (QB YP) J0 B 13 1 (QJ 53 56 (([1,3,4,5,6,18,19,33,34]:List Nat).zip (KT rf Qa la lb lc ld ha hb hc hd ys i j zs zn)) Qr KU) (QI (Vr rf Qa la lb lc ld ha hb hc hd ys i j zs zn)) (2+(Vr rf Qa la lb lc ld ha hb hc hd ys i j zs zn).length)
 [(0,V4),(7,Qu.WE (Hint.idx i.toNat)),(8,Qu.WE (Hint.ld (.slice (some {block:=6,off:=0}) zn 2))),(10,Qu.WE (Hint.idx j.toNat)),(11,Qu.WE (Hint.ld (.int .i64 (Qs [la,lb,lc,ld] j.toNat)))),(13,Qu.WE (Hint.idx j.toNat)),(14,Qu.WE (Hint.ld (.int .i64 (Qs [ha,hb,hc,hd] j.toNat)))),(17,Qu.WE (Hint.app (KR la lb lc ld ha hb hc hd j zs))),(18,Qu.WE (Hint.idx i.toNat)),(19,Qu.WE (Hint.st (splice (Qj (pushE 1 encRSp) ys) (0+Lb i*1) (S8 zn)))),(20,UW (j+1))] 0 [] []) [1,3,4,5,6,18,19,33,34] [(2,KS.auto),(3,KS.auto),(4,KS.auto),(5,KS.rows [(1,1)] [] [(8,6)] (splice (Qj (pushE 1 encRSp) ys) (0+Lb i*1) #[.slice (some {block:=6,off:=0}) (zn+1) 2])),(8,KS.cells [] (KR la lb lc ld ha hb hc hd j zs))] []=some ⟨53,56,KU,[],.run,none,KT rf Qa (la) (lb) (lc) (ld) (ha) (hb) (hc) (hd) (ys) (i) (j+1) (zs++[{lo:=Qs [la,lb,lc,ld] j.toNat,hi:=Qs [ha,hb,hc,hd] j.toNat}]) (zn+1),Vr rf Qa (la) (lb) (lc) (ld) (ha) (hb) (hc) (hd) (ys) (i) (j+1) (zs++[{lo:=Qs [la,lb,lc,ld] j.toNat,hi:=Qs [ha,hb,hc,hd] j.toNat}]) (zn+1),
 [ZO 1 [(1,1)] [] [(8,6)] (splice (Qj (pushE 1 encRSp) ys) (0+Lb i*1) (S8 zn)) (splice (Qj (pushE 1 encRSp) ys) (0+Lb i*1) #[.slice (some {block:=6,off:=0}) (zn+1) 2]),ZG 1 [] (KR la lb lc ld ha hb hc hd j zs) (KR la lb lc ld ha hb hc hd j zs),wq (j+1)=j+1,0+Lb i*1+TypeInfo.size Try.t36<=LR (splice (Qj (pushE 1 encRSp) ys) (0+Lb i*1) (JE zn))/\splice (splice (Qj (pushE 1 encRSp) ys) (0+Lb i*1) (JE zn)) (0+Lb i*1) (Value.cells (Zc {len:=16000,tr:=Tri.set 14 (Tri.set 14 Tri.lf 51 (.slice (some {block:=8,off:=0}) (zn+1) 2)) 52 (.pointer (some {block:=5,off:=0+Lb i*1}))} 51))=splice (Qj (pushE 1 encRSp) ys) (0+Lb i*1) (S8 zn),i=(↑i.toNat:Int)/\Lb i<Lb rf.seasons,FV (Qj QN zs) #[.int .i64 (Qs [la,lb,lc,ld] j.toNat),.int .i64 (Qs [ha,hb,hc,hd] j.toNat)] (KR la lb lc ld ha hb hc hd j zs) zn (1+1) 16,(g9 ha hb hc hd)[0+Lb j*1]? =some (.int .i64 (Qs [ha,hb,hc,hd] j.toNat)),j=(↑j.toNat:Int)/\Lb j<4,(cW la lb lc ld)[0+Lb j*1]? =some (.int .i64 (Qs [la,lb,lc,ld] j.toNat)),j=(↑j.toNat:Int)/\Lb j<4,(splice (Qj (pushE 1 encRSp) ys) (0+Lb i*1) (JE zn))[0+Lb i*1]? =some (.slice (some {block:=6,off:=0}) zn 2),i=(↑i.toNat:Int)/\Lb i<Lb rf.seasons,Z7 j (↑rf.Qb.length:Int)=true]⟩:=by kernel_rfl
theorem sN(B:Lo)(rf:Qk)(Qa:List Int)(la lb lc ld ha hb hc hd:Int)(ys:List oo)(i j:Int)(zs:List Span)(zn:Nat)(Qr:Nat->Value):landM (Q2 YP (QB YP) J0 B 8 1 (QJ 53 56 (([1,3,4,5,6,18,19,33,34]:List Nat).zip (KT rf Qa la lb lc ld ha hb hc hd ys i j zs zn)) Qr KU) (QI (Vr rf Qa la lb lc ld ha hb hc hd ys i j zs zn)) (2+(Vr rf Qa la lb lc ld ha hb hc hd ys i j zs zn).length)
 [(0,V5),(1,UW (i+1))] 0 [] []) [1,3,4,5,18,19] [(2,KS.auto),(3,KS.auto),(4,KS.auto),(5,KS.rows [(1,1)] [6] [] (Qj (pushE 1 encRSp) (Lw ys i.toNat {z:=false,n:=zn,l:=zs})))] [{k:=6,rs:=[],cs:=Qj QN zs}]=some ⟨53,56,Uc,[],.run,none,Ub rf Qa (la) (lb) (lc) (ld) (ha) (hb) (hc) (hd) (Lw ys i.toNat {z:=false,n:=zn,l:=zs}) (i+1),We rf Qa (la) (lb) (lc) (ld) (ha) (hb) (hc) (hd) (Lw ys i.toNat {z:=false,n:=zn,l:=zs}) (i+1),
 [ZO 1 [(1,1)] [(6,Fz.cs {k:=6,rs:=[],cs:=Qj QN zs})] [] (splice (Qj (pushE 1 encRSp) ys) (0+Lb i*1) (JE zn)) (Qj (pushE 1 encRSp) (Lw ys i.toNat {z:=false,n:=zn,l:=zs})),QC (Fz.rs {k:=6,rs:=[],cs:=Qj QN zs}) (Qj QN zs) (Fz.cs {k:=6,rs:=[],cs:=Qj QN zs}),wq (i+1)=i+1,Z7 j (↑rf.Qb.length:Int)=false]⟩:=by kernel_rfl
theorem sM(B:Lo)(rf:Qk)(Qa:List Int):landM (Q2 YP (QB YP) J0 B 11 1 (Q9 YP 53 56 (([.agg (QY rf Qa).toArray]).map (QG 0 4))) ZH 1
 [(3,Qu.pure (gE rf) []),(5,Qu.pure (gC rf) []),(13,Qu.WE (Hint.mk (Lb rf.seasons) (gA rf)))] 0 [] []) [1,3,4,5,18,19] [(1,KS.auto),(2,KS.auto),(3,KS.auto),(4,KS.rows [] [] [] (gB rf))] []=some ⟨53,56,Uc,[],.run,none,Ub rf Qa (Ld (Ph rf) 0 La) (Ld (Ph rf) 1 La) (Ld (Ph rf) 2 La) (Ld (Ph rf) 3 La) (Ld (J9 rf) 0 La) (Ld (J9 rf) 1 La) (Ld (J9 rf) 2 La) (Ld (J9 rf) 3 La) (Li (Lb rf.seasons) {z:=true,n:=0,l:=[]}) (0),We rf Qa (Ld (Ph rf) 0 La) (Ld (Ph rf) 1 La) (Ld (Ph rf) 2 La) (Ld (Ph rf) 3 La) (Ld (J9 rf) 0 La) (Ld (J9 rf) 1 La) (Ld (J9 rf) 2 La) (Ld (J9 rf) 3 La) (Li (Lb rf.seasons) {z:=true,n:=0,l:=[]}) (0),
 [ZO 1 [] [] [] (gA rf) (gB rf),Jx YP 30 (Zc {len:=16000,tr:=Tri.set 14 Tri.lf 14 (.int .i64 rf.seasons)} 14) (Zc {len:=16000,tr:=Tri.set 14 Tri.lf 14 (.int .i64 rf.seasons)} 14)=some (36,Qj (VD [.slice none 0 0]) (Li (Lb rf.seasons) ()),Lb rf.seasons,TypeInfo.size Try.t36),Q3 []/\Qz YP J0 75 #[.agg (JF rf Qa),Value.func (Fn.func 77) #[] #[]] (gC rf),Q3 []/\Qz YP J0 75 #[.agg (JF rf Qa),Value.func (Fn.func 76) #[] #[]] (gE rf)]⟩:=by kernel_rfl
set_option maxHeartbeats 4000000 in
theorem sS(rf:Qk)(Qa:List Int)(hr:Wx rf=true)(hl:Qa.length<=4)(hp:∀j:Nat,0<=Qa.getD j 0/\Qa.getD j 0<=1000000){B:Lo}(hJ:∀w,B.has w->J0 w){c0:CF}:∀m:Nat,(∀(la lb lc ld ha hb hc hd:Int) (ys:List oo) (i:Int),100*(rf.seasons-i).toNat=m->∀(h0:0<=i) (h1:i<=rf.seasons) (el:(⟨la,lb,lc,ld⟩:F4)=UL rf Qa i.toNat) (eh:(⟨ha,hb,hc,hd⟩:F4)=Ur rf Qa i.toNat) (ey:ys=Kn rf Qa i),sU B c0 rf Qa la lb lc ld ha hb hc hd ys i->EndsT YP B c0 (Xq (Qt rf Qa).length (Qj ZZ (Qt rf Qa))))/\(∀(la lb lc ld ha hb hc hd:Int) (ys:List oo) (i j:Int) (zs:List Span) (zn:Nat),100*(rf.seasons-i).toNat-99+(rf.Qb.length-j.toNat)=m->∀(h0:0<=i) (h1:i<rf.seasons) (j0:1<=j) (j1:j<=rf.Qb.length) (hz:zn=zs.length) (hzb:(zn:Int)=j) (ez:zs=(fF 0 j).map (zW rf Qa i)) (el:(⟨la,lb,lc,ld⟩:F4)=UL rf Qa (i+1).toNat) (eh:(⟨ha,hb,hc,hd⟩:F4)=Ur rf Qa (i+1).toNat) (ey:ys=Kn rf Qa i),sT B c0 rf Qa la lb lc ld ha hb hc hd ys i j zs zn->EndsT YP B c0 (Xq (Qt rf Qa).length (Qj ZZ (Qt rf Qa)))):=by
 intro m0;induction m0 using LK with
 |_ m0 ih0=>
  refine⟨?_, ?_⟩
  ·intro la lb lc ld ha hb hc hd ys i hm0 h0 h1 el eh ey ⟨Qr,Jn,X7⟩;have Xy:=Qn (X5 hr).1;have hok1:=cv Qa hr;have hok2:=Sm Qa hr;have Xy:=Qn (X5 hr).1;have hok1:=cv Qa hr;have hok2:=Sm Qa hr;have hyl:ys.length=rf.seasons.toNat:=by rw[ey];exact l5
   have hst1:=hok1.st i.toNat (by omega);have hst2:=hok2.st i.toNat (by omega);have hf1:Yn ⟨la,lb,lc,ld⟩:=by rw[el];exact hst1.1
   have hf2:Yn ⟨ha,hb,hc,hd⟩:=by rw[eh];exact hst2.1
   have hss1:=hok1.hs;have hss2:=hok2.hs;have hs1:F4.sum ⟨la,lb,lc,ld⟩<=10000000000:=by rw[el];have:=hst1.2;unfold UL;omega
   have hs2:F4.sum ⟨ha,hb,hc,hd⟩<=10000000000:=by rw[eh];have:=hst2.2;unfold Ur;omega
   have hti:(i+1).toNat=i.toNat+1:=by omega
   by_cases q0:(i:Int)<rf.seasons
   ·have UX:Q3 (SA B rf Qa la lb lc ld ha hb hc hd ys i Qr):=by
     have K0:=jG (Qa:=Qa) h0 q0;have hn2:=cx (Qa:=Qa) h0 q0;rw[<-el]at K0;rw[<-eh]at hn2;have XK:=YK (Qa:=Qa) h0 q0;exact⟨⟨trivial,Fl (rf) (Qa) (ha) (hb) (hc) (hd) (i) (by with_reducible assumption) (by with_reducible assumption) (by with_reducible assumption) (by with_reducible assumption) (by omega) (by with_reducible assumption) (by with_reducible assumption)⟩,⟨⟨trivial,CV (rf) (Qa) (la) (lb) (lc) (ld) (i) (by with_reducible assumption) (by with_reducible assumption) (by with_reducible assumption) (by with_reducible assumption) (by omega) (by with_reducible assumption) (by with_reducible assumption)⟩,⟨(Z3 q0),trivial⟩⟩⟩
    by_cases q1:(0:Int)<((↑rf.Qb.length:Int))
    ·cases q2:oo.z (ys.getD i.toNat La)with
     |true=>
      have K0:=jG (Qa:=Qa) h0 q0;have hn2:=cx (Qa:=Qa) h0 q0;rw[<-el]at K0;rw[<-eh]at hn2;have XK:=YK (Qa:=Qa) h0 q0;exact((ih0 _ (by omega)).2 (F4.a (QT (Ux rf) (VW rf (Qa.getD i.toNat 0)) rf.Qb {a:=la,b:=lb,c:=lc,d:=ld})) (F4.b (QT (Ux rf) (VW rf (Qa.getD i.toNat 0)) rf.Qb {a:=la,b:=lb,c:=lc,d:=ld})) (F4.c (QT (Ux rf) (VW rf (Qa.getD i.toNat 0)) rf.Qb {a:=la,b:=lb,c:=lc,d:=ld})) (F4.d (QT (Ux rf) (VW rf (Qa.getD i.toNat 0)) rf.Qb {a:=la,b:=lb,c:=lc,d:=ld})) (F4.a (QT (Uy rf) (VV rf (Qa.getD i.toNat 0)) rf.Qb {a:=ha,b:=hb,c:=hc,d:=hd})) (F4.b (QT (Uy rf) (VV rf (Qa.getD i.toNat 0)) rf.Qb {a:=ha,b:=hb,c:=hc,d:=hd})) (F4.c (QT (Uy rf) (VV rf (Qa.getD i.toNat 0)) rf.Qb {a:=ha,b:=hb,c:=hc,d:=hd})) (F4.d (QT (Uy rf) (VV rf (Qa.getD i.toNat 0)) rf.Qb {a:=ha,b:=hb,c:=hc,d:=hd})) (ys) (i) (1) ([{lo:=F4.a (QT (Ux rf) (VW rf (Qa.getD i.toNat 0)) rf.Qb {a:=la,b:=lb,c:=lc,d:=ld}),hi:=F4.a (QT (Uy rf) (VV rf (Qa.getD i.toNat 0)) rf.Qb {a:=ha,b:=hb,c:=hc,d:=hd})}]) (1) rfl (by with_reducible assumption) (by with_reducible assumption) (by omega) (by omega) (by rfl) (by omega) (by(show _=[zW rf Qa i 0];unfold zW;rw[<-hti,K0,hn2];rfl)) (by exact K0.symm) (by exact hn2.symm) (by with_reducible assumption)
       (X7.landM okF hJ Qi (sR B rf Qa la lb lc ld ha hb hc hd ys i Qr)
       (by exact⟨(by exact(dC (K5 (Pp (by(intro x_;rcases x_ with ⟨_|_,_,_⟩ <;> rfl))) (List.Mem.head _)) (by exact⟨.keep (List.Mem.head _),trivial⟩))),⟨(uI (by kernel_rfl)),⟨⟨(by exact fX (z:=1) (k:=Lb i) (fun _=>rfl) (by first|omega|(rw[Lf];omega)|(rw[Lh];omega)) rfl),rfl⟩,⟨⟨by omega,by omega⟩,⟨(by exact oQ (z:=1) (j:=0) (k:=Lb i) (fun _=>rfl) (by omega) (by(simp only[Go.CE.pushE,Go.Proofs.Ytncjjangllkokaa.encRSp,q2];rfl))),⟨⟨by omega,by omega⟩,⟨(Z3 q1),UX⟩⟩⟩⟩⟩⟩⟩) (by kernel_rfl) (by kernel_rfl))).cast (by rfl)
     |false=>
      exfalso
      (exact Bool.noConfusion ((Cx ey h0 (by omega)).symm.trans ‹(ys.getD i.toNat La).z=false›))
    ·have K0:=jG (Qa:=Qa) h0 q0;have hn2:=cx (Qa:=Qa) h0 q0;rw[<-el]at K0;rw[<-eh]at hn2;have XK:=YK (Qa:=Qa) h0 q0;exact((ih0 _ (by omega)).1 (F4.a (QT (Ux rf) (VW rf (Qa.getD i.toNat 0)) rf.Qb {a:=la,b:=lb,c:=lc,d:=ld})) (F4.b (QT (Ux rf) (VW rf (Qa.getD i.toNat 0)) rf.Qb {a:=la,b:=lb,c:=lc,d:=ld})) (F4.c (QT (Ux rf) (VW rf (Qa.getD i.toNat 0)) rf.Qb {a:=la,b:=lb,c:=lc,d:=ld})) (F4.d (QT (Ux rf) (VW rf (Qa.getD i.toNat 0)) rf.Qb {a:=la,b:=lb,c:=lc,d:=ld})) (F4.a (QT (Uy rf) (VV rf (Qa.getD i.toNat 0)) rf.Qb {a:=ha,b:=hb,c:=hc,d:=hd})) (F4.b (QT (Uy rf) (VV rf (Qa.getD i.toNat 0)) rf.Qb {a:=ha,b:=hb,c:=hc,d:=hd})) (F4.c (QT (Uy rf) (VV rf (Qa.getD i.toNat 0)) rf.Qb {a:=ha,b:=hb,c:=hc,d:=hd})) (F4.d (QT (Uy rf) (VV rf (Qa.getD i.toNat 0)) rf.Qb {a:=ha,b:=hb,c:=hc,d:=hd})) (ys) (i+1) rfl (by omega) (by omega) (by omega) (by omega) (by omega)
      (X7.landM okF hJ Qi (sQ B rf Qa la lb lc ld ha hb hc hd ys i Qr)
      (by exact⟨(by exact(K5 (Pp (by(intro x_;rcases x_ with ⟨_|_,_,_⟩ <;> rfl))) (List.Mem.head _))),⟨(XX (by omega) (by omega)),⟨(Z4 (Int.not_lt.1 q1)),UX⟩⟩⟩) (by kernel_rfl) (by kernel_rfl))).cast (by rfl)
   ·exact(GoE.endsT okF hJ Qi X7 (sP B rf Qa la lb lc ld ha hb hc hd ys i Qr)
     ⟨(nN (Pp (by(intro x_;rcases x_ with ⟨_|_,_,_⟩ <;> rfl))) (List.Mem.head _)),⟨(Z4 (Int.not_lt.1 q0)),trivial⟩⟩).cast (by(show Xq rf.seasons.toNat (Qj encRSp ys)=_;rw[show(Qt rf Qa).length=rf.seasons.toNat from XR,<-xP (i:=i) (by omega),<-ey]))
  ·intro la lb lc ld ha hb hc hd ys i j zs zn hm0 h0 h1 j0 j1 hz hzb ez el eh ey ⟨Qr,Jn,X7⟩;have Xy:=Qn (X5 hr).1;have hok1:=cv Qa hr;have hok2:=Sm Qa hr;have Xy:=Qn (X5 hr).1;have hok1:=cv Qa hr;have hok2:=Sm Qa hr;have hyl:ys.length=rf.seasons.toNat:=by rw[ey];exact l5
   have hsel1:Qs [la,lb,lc,ld] j.toNat=F4.at (UL rf Qa (i+1).toNat) j:=by rw[<-el];rfl
   have hsel2:Qs [ha,hb,hc,hd] j.toNat=F4.at (Ur rf Qa (i+1).toNat) j:=by rw[<-eh];rfl
   have hti:(i+1).toNat=i.toNat+1:=by omega
   by_cases q0:(j:Int)<((↑rf.Qb.length:Int))
   ·have XK:=YK (Qa:=Qa) h0 h1;exact((ih0 _ (by omega)).2 (la) (lb) (lc) (ld) (ha) (hb) (hc) (hd) (ys) (i) (j+1) (zs++[{lo:=Qs [la,lb,lc,ld] j.toNat,hi:=Qs [ha,hb,hc,hd] j.toNat}]) (zn+1) rfl (by with_reducible assumption) (by with_reducible assumption) (by omega) (by omega) (by(rw[List.length_append];simp;omega)) (by omega) (by(rw[zQ (by omega),List.map_append,<-ez,hsel1,hsel2,hti];rfl)) (by with_reducible assumption) (by with_reducible assumption) (by with_reducible assumption)
     (X7.landM okF hJ Qi (sO B rf Qa la lb lc ld ha hb hc hd ys i j zs zn Qr)
     (by exact⟨(by exact(dC (K5 (Pp (by(intro x_;rcases x_ with ⟨_|_,_,_⟩ <;> rfl))) (List.Mem.head _)) (by exact⟨.keep (List.Mem.head _),trivial⟩))),⟨(Xk (Xr (fun x=>List.all_eq_true.1 (by rfl)))),⟨(XX (by omega) (by omega)),⟨(xR (by exact Nat.lt_of_succ_le (fX (z:=1) (z':=1) (fun _=>rfl) (by first|omega|(rw[Lf];omega)|(rw[Lh];omega)) rfl))),⟨⟨by omega,by omega⟩,⟨⟨(by(rw[Z6 (z:=2) (fun _=>rfl)];first|omega|(simp;omega)|(simp_all;done))),(by unfold maxLen;omega),by omega,by first|exact l8|exact sG rfl⟩,⟨(YD rfl (LN (m:=4) (by omega) rfl)),⟨⟨by omega,by omega⟩,⟨(YD rfl (LN (m:=4) (by omega) rfl)),⟨⟨by omega,by omega⟩,⟨(xS (by exact Nat.lt_of_succ_le (fX (z:=1) (z':=1) (fun _=>rfl) (by first|omega|(rw[Lf];omega)|(rw[Lh];omega)) rfl))),⟨⟨by omega,by omega⟩,⟨(Z3 q0),trivial⟩⟩⟩⟩⟩⟩⟩⟩⟩⟩⟩⟩⟩) (by kernel_rfl) (by kernel_rfl))).cast (by rfl)
   ·have XK:=YK (Qa:=Qa) h0 h1;exact((ih0 _ (by omega)).1 (la) (lb) (lc) (ld) (ha) (hb) (hc) (hd) (Lw ys i.toNat {z:=false,n:=zn,l:=zs}) (i+1) rfl (by omega) (by omega) (by with_reducible assumption) (by with_reducible assumption) (by(rw[ey,show zn=rf.Qb.length by omega,ez,show j=rf.Qb.length by omega];exact XK))
     (X7.landM okF hJ Qi (sN B rf Qa la lb lc ld ha hb hc hd ys i j zs zn Qr)
     (by exact⟨(by exact(rU (z:=1) (k:=Lb i) (fun _=>rfl) (K5 (Pp (by(intro x_;rcases x_ with ⟨_|_,_,_⟩ <;> rfl))) (List.Mem.head _)) (by omega) (by exact⟨(.own (List.Mem.head _)),trivial⟩))),⟨(Qv (fun x=>List.all_eq_true.1 (by rfl))),⟨(XX (by omega) (by omega)),⟨(Z4 (Int.not_lt.1 q0)),trivial⟩⟩⟩⟩) (by kernel_rfl) (by kernel_rfl))).cast (by rfl)
set_option maxHeartbeats 4000000 in
theorem yp(rf:Qk)(Qa:List Int)(hr:Wx rf=true)(hl:Qa.length<=4)(hp:∀j:Nat,0<=Qa.getD j 0/\Qa.getD j 0<=1000000){B:Lo}(hJ:∀w,B.has w->J0 w):EndsT YP B (Q9 YP 53 56 (([.agg (QY rf Qa).toArray]).map (QG 0 4))) (Xq (Qt rf Qa).length (Qj ZZ (Qt rf Qa))):=by
 have Xy:=Qn (X5 hr).1;have hok1:=cv Qa hr;have hok2:=Sm Qa hr;exact((sS rf Qa hr hl hp hJ _).1 (Ld (Ph rf) 0 La) (Ld (Ph rf) 1 La) (Ld (Ph rf) 2 La) (Ld (Ph rf) 3 La) (Ld (J9 rf) 0 La) (Ld (J9 rf) 1 La) (Ld (J9 rf) 2 La) (Ld (J9 rf) 3 La) (Li (Lb rf.seasons) {z:=true,n:=0,l:=[]}) (0) rfl (by omega) (by omega) (by rfl) (by rfl) (by exact Cy)
  (GoE.start.landM okF hJ Qi (sM B rf Qa)
  (by exact⟨(by exact(V0 (by exact⟨(.simple rfl),trivial⟩) _)),⟨(cE (bytes:=24) (by kernel_rfl) (by omega) (by omega) (by omega)),⟨⟨trivial,CU (rf) (Qa) (by with_reducible assumption)⟩,⟨⟨trivial,CT (rf) (Qa) (by with_reducible assumption)⟩,trivial⟩⟩⟩⟩) (by kernel_rfl) (by kernel_rfl))).cast (by rfl)
theorem CK(rf:Qk)(Qa:List Int)(hr:Wx rf=true)(hl:Qa.length<=4)(hp:∀j:Nat,0<=Qa.getD j 0/\Qa.getD j 0<=1000000):Qz YP J0 53 #[.agg (QY rf Qa).toArray] (Xq (Qt rf Qa).length (Qj ZZ (Qt rf Qa))):=
 X8 (ts:=[.agg (QY rf Qa).toArray]) ZC (c0:=Q9 YP 53 56 (([.agg (QY rf Qa).toArray]).map (QG 0 4))) (by kernel_rfl) (by kernel_rfl) fun B hJ=>yp rf Qa hr hl hp hJ
end
end Go.Proofs.Ytncjjangllkokaa

namespace Go.Proofs.Ytncjjangllkokaa
open Go Go.CE Go.RowKit
noncomputable section
abbrev xT(xs:List (List Span)):Value:=Xq xs.length (Qj ZZ xs)
def SO(rf:Qk)(Qa:List Int):Array Value:=#[Xq rf.Qb.length (Qj Qf rf.Qb),.int .i64 rf.miss,.int .i64 rf.seasons,.int .i64 (Qa.getD 0 0),.int .i64 (Qa.getD 1 0),.int .i64 (Qa.getD 2 0),.int .i64 (Qa.getD 3 0)]
def SN(rf:Qk):Array Value:=#[Xq rf.Qb.length (Qj Qf rf.Qb),.int .i64 rf.miss,.int .i64 rf.seasons]
def SM(rf:Qk)(Qa:List Int):Array Value:=#[.agg (SN rf),Xq Qa.length (Qj Xl Qa)]
def SP(B:Lo)(rf:Qk)(Qa:List Int):List Prop:=[Q3 []/\Qz YP J0 50 #[.agg (SN rf)] (.bool true)]++([]:List Prop)
def ig(rf:Qk)(Qa:List Int):QA:=[(4,Qu.pure (.bool true) [])]
set_option maxRecDepth 100000 in
theorem tI(B:Lo)(rf:Qk)(Qa:List Int):QS (Q2 YP (QB YP) J0 B 11 1 (Q9 YP 18 19 (([.agg (QM rf).toArray,Zu Qa]).map (QG 0 4))) ZH 1
 (ig rf Qa++[(9,Qu.pure (.bool true) []),(14,Qu.pure (.agg (SO rf Qa)) []),(15,Qu.pure (Xq (Lc (Qt rf Qa)) (Qj ZZ (Qt rf Qa))) [])]) 0 [] []) []=some (.tuple #[Xq (Lc (Qt rf Qa)) (Qj ZZ (Qt rf Qa)),.int .i64 0],
 [Q3 []/\Qz YP J0 53 #[.agg (SO rf Qa)] (Xq (Lc (Qt rf Qa)) (Qj ZZ (Qt rf Qa))),Q3 []/\Qz YP J0 52 (SM rf Qa) (.agg (SO rf Qa)),Q3 []/\Qz YP J0 51 (SM rf Qa) (.bool true)]++SP B rf Qa):=by kernel_rfl
set_option maxRecDepth 100000 in
theorem tH(B:Lo)(rf:Qk)(Qa:List Int):QS (Q2 YP (QB YP) J0 B 10 1 (Q9 YP 18 19 (([.agg (QM rf).toArray,Zu Qa]).map (QG 0 4))) ZH 1
 (ig rf Qa++[(9,Qu.pure (.bool false) [])]) 0 [] []) []=some (.tuple #[Xq 0 #[],.int .i64 2],
 [Q3 []/\Qz YP J0 51 (SM rf Qa) (.bool false)]++SP B rf Qa):=by kernel_rfl
set_option maxRecDepth 100000 in
theorem tG(B:Lo)(rf:Qk)(Qa:List Int):QS (Q2 YP (QB YP) J0 B 10 1 (Q9 YP 18 19 (([.agg (QM rf).toArray,Zu Qa]).map (QG 0 4))) ZH 1
 [(4,Qu.pure (.bool false) [])] 0 [] []) []=some (.tuple #[Xq 0 #[],.int .i64 2],
 [Q3 []/\Qz YP J0 50 #[.agg (SN rf)] (.bool false)]):=by kernel_rfl
set_option maxHeartbeats 4000000 in
theorem y6(rf:Qk)(Qa:List Int)  {B:Lo}(hJ:∀w,B.has w->J0 w):EndsT YP B (Q9 YP 18 19 (([.agg (QM rf).toArray,Zu Qa]).map (QG 0 4))) (.tuple #[if Ql rf && Qm rf Qa then xT (Qt rf Qa)else xT [],.int .i64 (if Ql rf && Qm rf Qa then 0 else 2)]):=by
 cases q0:Ql rf with
 |true=>
  have UX:Q3 (SP B rf Qa):=by
   try have hrw:=Qp ‹Ql rf=true›
   try have Xy:=Qn (Qg ‹Ql rf=true›).1
   try have XF:=(Qo ‹Qm rf Qa=true›).1
   try have XG:=(fun j=>(fun h=>⟨h.1,by omega⟩) (P0 hrw ‹Qm rf Qa=true› j):∀j:Nat,0<=Qa.getD j 0/\Qa.getD j 0<=1000000)
   exact⟨⟨trivial,(by have t_:=vy (rf);rw[q0]at t_;exact t_)⟩,trivial⟩
  cases q1:Qm rf Qa with
  |true=>
   try have hrw:=Qp ‹Ql rf=true›
   try have Xy:=Qn (Qg ‹Ql rf=true›).1
   try have XF:=(Qo ‹Qm rf Qa=true›).1
   try have XG:=(fun j=>(fun h=>⟨h.1,by omega⟩) (P0 hrw ‹Qm rf Qa=true› j):∀j:Nat,0<=Qa.getD j 0/\Qa.getD j 0<=1000000)
   exact(GoE.endsT okF hJ Qi GoE.start (tI B rf Qa)
    ⟨⟨trivial,CK (rf) (Qa) (by first|with_reducible assumption|omega|simp_all) (by first|with_reducible assumption|omega|simp_all) (by first|with_reducible assumption|omega|simp_all)⟩,⟨⟨trivial,yd (rf) (Qa) (by first|with_reducible assumption|omega|simp_all) (by first|with_reducible assumption|omega|simp_all)⟩,⟨⟨trivial,(by have t_:=vz (rf) (Qa) (by first|with_reducible assumption|omega|simp_all);rw[q1]at t_;exact t_)⟩,UX⟩⟩⟩).cast (by first|rfl|(simp[*];done)|(simp_all;done))
  |false=>
   try have hrw:=Qp ‹Ql rf=true›
   try have Xy:=Qn (Qg ‹Ql rf=true›).1
   try have XF:=(Qo ‹Qm rf Qa=true›).1
   try have XG:=(fun j=>(fun h=>⟨h.1,by omega⟩) (P0 hrw ‹Qm rf Qa=true› j):∀j:Nat,0<=Qa.getD j 0/\Qa.getD j 0<=1000000)
   exact(GoE.endsT okF hJ Qi GoE.start (tH B rf Qa)
    ⟨⟨trivial,(by have t_:=vz (rf) (Qa) (by first|with_reducible assumption|omega|simp_all);rw[q1]at t_;exact t_)⟩,UX⟩).cast (by first|rfl|(simp[*];done)|(simp_all;done))
 |false=>
  try have hrw:=Qp ‹Ql rf=true›
  try have Xy:=Qn (Qg ‹Ql rf=true›).1
  try have XF:=(Qo ‹Qm rf Qa=true›).1
  try have XG:=(fun j=>(fun h=>⟨h.1,by omega⟩) (P0 hrw ‹Qm rf Qa=true› j):∀j:Nat,0<=Qa.getD j 0/\Qa.getD j 0<=1000000)
  exact(GoE.endsT okF hJ Qi GoE.start (tG B rf Qa)
   ⟨⟨trivial,(by have t_:=vy (rf);rw[q0]at t_;exact t_)⟩,trivial⟩).cast (by first|rfl|(simp[*];done)|(simp_all;done))
theorem eJ(rf:Qk)(Qa:List Int)  :Qz YP J0 18 #[.agg (QM rf).toArray,Zu Qa] (.tuple #[if Ql rf && Qm rf Qa then xT (Qt rf Qa)else xT [],.int .i64 (if Ql rf && Qm rf Qa then 0 else 2)]):=
 X8 (ts:=[.agg (QM rf).toArray,Zu Qa]) ZC (c0:=Q9 YP 18 19 (([.agg (QM rf).toArray,Zu Qa]).map (QG 0 4))) (by kernel_rfl) (by kernel_rfl) fun B hJ=>y6 rf Qa  hJ
end
end Go.Proofs.Ytncjjangllkokaa

namespace Go.Proofs.Ytncjjangllkokaa
open Go Go.CE Go.RowKit
theorem vj{g h:Int->Int}:∀(k:Nat),(∀m:Int,0<=m->m<k->g m<=h m)->Zy 0 k g<=Zy 0 k h
 |0,_=>by rw[VI (by omega),VI (by omega)];omega
 |k+1,H=>by
  have ih:=vj k fun m h0 h1=>H m h0 (by omega)
  have h2:=H k (by omega) (by omega);rw[show((k+1:Nat):Int)=(k:Int)+1 by omega,ZE (by omega),ZE (by omega)];omega
section
variable {ps:List Qe} {n:Int} {gs ts:List (List Int)} {f:F4}
end
end Go.Proofs.Ytncjjangllkokaa

namespace Go.Proofs.Ytncjjangllkokaa
open Go Go.CE Go.RowKit
def eO(f g:F4):Prop:=∀j:Int,0<=j->j<4->f.at j<=g.at j
def zg(n:Nat)(xs ys:List Int):Prop:=∀k:Int,0<=k->k<n->nth xs k<=nth ys k
theorem Tr{a:Int}(h:0<=a):a.tdiv 1000=a / 1000:=LM h
theorem u5{room x y g g':Int}(x0:0<=x)(xy:x<=y)(g0:0<=g)(gg:g<=g'):x+jL room x g<=y+jL room y g':=by
 have h0:0<=x*g:=Int.mul_nonneg x0 g0;have h1:x*g<=y*g':=Int.mul_le_mul xy gg g0 (by omega);have e1:=Tr h0;have e2:=Tr (a:=y*g') (by omega);unfold jL;rw[e1,e2];have hd:x*g / 1000<=y*g' / 1000:=Int.ediv_le_ediv (by omega) h1;have hn:0<=x*g / 1000:=Int.ediv_nonneg h0 (by omega);split <;> split <;> (try split) <;> (try split) <;> omega
theorem Dn{gs gs':List Int}{ps:List Qe}{f f':F4}(hg:VF ps.length gs 2000)(hgg:zg ps.length gs gs')(hf:Yn f)(hff:eO f f'):eO (mj gs ps f) (mj gs' ps f'):=fun j j0 j1=>by
 unfold mj;rw[RI j0 j1,RI j0 j1];unfold Xm Wi;have h:=hff j j0 j1;split
 ·rename_i hj;have a:=hg.2 j j0 hj;have b:=hgg j j0 hj;have c:=(Kv hf j0 j1).1;exact u5 c h a.1 b
 ·exact h
theorem m5{x y d:Int}(x0:0<=x)(xy:x<=y)(d0:0<=d)(d1:d<=1000):(x*d).tdiv 1000<=(y*d).tdiv 1000/\x-(x*d).tdiv 1000<=y-(y*d).tdiv 1000:=by
 have h0:0<=x*d:=Int.mul_nonneg x0 d0;have h1:x*d<=y*d:=Int.mul_le_mul_of_nonneg_right xy d0;have h2:(y-x)*d<=(y-x)*1000:=LU d1 (by omega);have h3:(y-x)*d=y*d-x*d:=Int.sub_mul ..;rw[Tr h0,Tr (a:=y*d) (by omega)];omega
theorem Dx{ps:List Qe}{b b':F4}(hp:KX ps)(hf:Yn b)(h:eO b b'):eO (vI ps b) (vI ps b'):=fun j j0 j1=>by
 have h4:=hp.1;unfold vI;rw[RI j0 j1,RI j0 j1];unfold Wk;have hs:Zy 0 ps.length (fun m=>if(Uw ps m).into=j then Wz ps b m else 0)<=Zy 0 ps.length (fun m=>if(Uw ps m).into=j then Wz ps b' m else 0):=vj ps.length fun m m0 m1=>by
  have hd:=(hp.2 m m0 m1).2.1;have:=(m5 (Kv hf m0 (by omega)).1 (h m m0 (by omega)) hd.1 hd.2).1;show(if(Uw ps m).into=j then Wz ps b m else 0)<=(if(Uw ps m).into=j then Wz ps b' m else 0)
  unfold Wz;split <;> omega
 have hj:=h j j0 j1;split
 ·rename_i hn;have hd:=(hp.2 j j0 hn).2.1;have:b.at j-Wz ps b j<=b'.at j-Wz ps b' j:=(m5 (Kv hf j0 j1).1 hj hd.1 hd.2).2;omega
 ·omega
theorem Cv{ts ts':List Int}{ps:List Qe}{b b':F4}(ht:zg ps.length ts' ts)(h:eO b b'):eO (Co ts ps b) (Co ts' ps b'):=fun j j0 j1=>by
 unfold Co;rw[RI j0 j1,RI j0 j1];unfold J5 WA;have hj:=h j j0 j1;split
 ·rename_i hn;have:=ht j j0 hn;split <;> split <;> omega
 ·exact hj
theorem y5{gs gs' ts ts':List Int}{ps:List Qe}{f f':F4}(hp:KX ps)(hg:VF ps.length gs 2000)(hgg:zg ps.length gs gs')(ht:zg ps.length ts' ts)(hf:Yn f)(hs:f.sum<=10000000000)(hff:eO f f'):eO (QT gs ts ps f) (QT gs' ts' ps f'):=
 Cv ht (Dx hp (E9 hp hg hf hs) (Dn hg hgg hf hff))
theorem mF{ps:List Qe}{n:Int}{gs gs' ts ts':List (List Int)}{f f':F4}(h:OkT ps n gs ts f)(hgg:∀k:Nat,k<n->zg ps.length (gs.getD k La) (gs'.getD k La))(htt:∀k:Nat,k<n->zg ps.length (ts'.getD k La) (ts.getD k La))(hff:eO f f'):∀k:Nat,k<=n->eO (xQ ps gs ts f k) (xQ ps gs' ts' f' k)
 |0,_=>hff
 |k+1,hk=>by
  have h4:=h.s4;have h9:=h.hs;have Wn:=h.st k (by omega);have:=Wn.2;exact y5 h.hp (h.rg k (by omega)) (hgg k (by omega)) (htt k (by omega)) Wn.1 (by omega) (mF h hgg htt hff k (by omega))
theorem bT{l l':List Int}{n:Nat}(hl:l.length=n)(hl':l'.length=n)(h:zg n l l'):eO (Zk l) (Zk l'):=fun j j0 j1=>by
 rw[<-l6 j0 j1,<-l6 j0 j1];by_cases hj:j<n
 ·exact h j j0 hj
 ·unfold nth;rw[Ll,Ll,Lu (by omega),Lu (by omega)];exact LL _
end Go.Proofs.Ytncjjangllkokaa

namespace Go.Proofs.Ytncjjangllkokaa
open Go Go.CE Go.RowKit
theorem Cf:∀n,n<16->∀k,k<4->Nat.testBit n k=false->∀j,j<4->Nat.testBit (n+2 ^ k) j=(Nat.testBit n j || decide (j=k)):=by decide
theorem Ce:∀m,m<=4->∀n,n<16->n<2 ^ m->∀k,k<m->Nat.testBit n k=false->n+2 ^ k<2 ^ m:=by decide
theorem C2{rf:Qk}{ps:List Qe}(hr:Ql rf=true)(hl:ps.length=rf.Qb.length)(h:∀k:Int,0<=k->k<rf.Qb.length->XI (Uw ps k)=true/\(Uw ps k).into=(Uw rf.Qb k).into):Ql ⟨ps,rf.miss,rf.seasons⟩=true:=by
 obtain⟨h1,h2⟩:=Qg hr;unfold Ql;rw[YB];constructor
 ·unfold Kq at h1 ⊢;show(W5 ps.length 1 4 && _)=true;rw[hl];exact h1
 ·unfold Kx;refine List.all_eq_true.2 fun k hk=> ?_
  unfold fF at hk;obtain⟨m,hm,rfl⟩:=List.mem_map.1 hk;have hm':m<((ps.length:Int)-0).toNat:=List.mem_range.1 hm;have a:=h (0+(m:Int)) (by omega) (by omega);have b:=h2 (0+(m:Int)) (by omega) (by omega);show Zs ps.length _ (Uw ps _)=true;unfold Zs;rw[a.1,a.2,hl];simp only[YB,Bool.not_eq_true',decide_eq_false_iff_not];exact⟨trivial,b.2.1,b.2.2⟩
theorem TB{n:Nat}:Zv (n:Int)=2 ^ n:=by unfold Zv;rw[Int.toNat_natCast]
theorem Bs{p k:Int}{m:Nat}(hm:m<=4)(p0:0<=p)(p1:p<=((Zv m:Nat):Int)-1)(k0:0<=k)(k1:k<m)(h:hasB p k=false):(0<=p+((Zv k.toNat:Nat):Int)/\p+((Zv k.toNat:Nat):Int)<=((Zv m:Nat):Int)-1)/\∀j:Int,0<=j->j<4->hasB (p+((Zv k.toNat:Nat):Int)) j=(hasB p j || decide (j=k)):=by
 rw[TB]at p1;rw[TB,TB];obtain⟨n,rfl⟩:∃n:Nat,p=n:=⟨p.toNat,by omega⟩
 obtain⟨q,rfl⟩:∃q:Nat,k=q:=⟨k.toNat,by omega⟩
 have h16:2 ^ m<=16:=by
  have:m=0\/m=1\/m=2\/m=3\/m=4:=by omega
  rcases this with rfl|rfl|rfl|rfl|rfl <;> decide
 have hb:Nat.testBit n q=false:=h;simp only[Int.toNat_natCast];have hn:n<16:=by
  have e:(n:Int)<((2 ^ m:Nat):Int):=by generalize 2 ^ m=M at *;omega
  have:n<2 ^ m:=by generalize 2 ^ m=M at *;omega
  omega
 have t:=Ce m hm n hn (by generalize 2 ^ m=M at *;omega) q (by omega) hb;have a:=fun i (hi:i<4)=>Cf n hn q (by omega) hb i hi
 generalize 2 ^ q=Q at *;generalize 2 ^ m=M at *;refine⟨by omega,fun j j0 j1=> ?_⟩;obtain⟨i,rfl⟩:∃i:Nat,j=i:=⟨j.toNat,by omega⟩
 have a:=a i (by omega);have e:((n:Int)+(Q:Int)).toNat=n+Q:=by omega
 have ed:decide (i=q)=decide ((i:Int)=(q:Int)):=by
  by_cases h:i=q
  ·rw[decide_eq_true h,decide_eq_true (by omega)]
  ·rw[decide_eq_false h,decide_eq_false (by omega)]
 unfold hasB;rw[e,Int.toNat_natCast,Int.toNat_natCast,a,ed]
theorem fN{g g':Int->Int}(h:∀j:Int,0<=j->j<4->g j=g' j):sD g=sD g':=by
 unfold sD;rw[h 0 (by omega) (by omega),h 1 (by omega) (by omega),h 2 (by omega) (by omega),h 3 (by omega) (by omega)]
theorem fO{g g':Int->Int}:∀(k:Nat),(∀m:Int,0<=m->m<k->g m=g' m)->Zy 0 k g=Zy 0 k g'
 |0,_=>by rw[VI (by omega),VI (by omega)]
 |k+1,h=>by
  have ih:=fO k fun m h0 h1=>h m h0 (by omega)
  rw[show((k+1:Nat):Int)=(k:Int)+1 by omega,ZE (by omega),ZE (by omega),ih,h k (by omega) (by omega)]
def VG(a b p:Int):Int:=a+((b-a)*p).tdiv 100
theorem nk{a b p:Int}(ha:0<=a)(hab:a<=b)(hb:b<=2000)(hp:0<=p)(hp1:p<=100):(0<=(b-a)*p/\(b-a)*p<=200000)/\0<=((b-a)*p).tdiv 100/\((b-a)*p).tdiv 100<=b-a:=by
 have h0:0<=(b-a)*p:=Int.mul_nonneg (by omega) hp;have h1:(b-a)*p<=(b-a)*100:=LU hp1 (by omega);have e:((b-a)*p).tdiv 100=(b-a)*p / 100:=LM h0;rw[e];omega
def Xj(lo hi:Int)(x:Qe):Qe:={x with glo:=VG x.glo x.ghi lo,ghi:=VG x.glo x.ghi hi}
def QP(f:Int)(x:Qe):Qe:={x with glo:=if x.glo+f<2000 then x.glo+f else 2000,ghi:=if x.ghi+f<2000 then x.ghi+f else 2000}
def Pe(g:Qe->Qe)(ps:List Qe)(i:Int):List Qe:=KJ ps.length fun k=>if k<i then g (Uw ps k)else Uw ps k
def Ks(Qa:List Int)(Qc place:Int):List Int:=bif hasB (nth Qa Qc) place then Qa else Qa.set Qc.toNat (nth Qa Qc+(Zv place.toNat:Nat))
def oK(ps ps':List Qe):Prop:=ps'.length=ps.length/\∀k:Int,0<=k->k<ps.length->(Uw ps' k).room=(Uw ps k).room/\(Uw ps' k).drift=(Uw ps k).drift/\(Uw ps' k).into=(Uw ps k).into
theorem Dm{ps ps':List Qe}(h:oK ps ps'){gs:List Int}{f:F4}:mj gs ps' f=mj gs ps f:=by
 unfold mj;rw[h.1];refine fN fun j j0 j1=> ?_
 unfold Xm;split
 ·rename_i hj;unfold Wi;rw[(h.2 j j0 hj).1]
 ·rfl
theorem Dw{ps ps':List Qe}(h:oK ps ps'){b:F4}:vI ps' b=vI ps b:=by
 unfold vI;rw[h.1];refine fN fun j j0 j1=> ?_
 unfold Wk;have hs:Zy 0 ps.length (fun m=>if(Uw ps' m).into=j then Wz ps' b m else 0)=Zy 0 ps.length (fun m=>if(Uw ps m).into=j then Wz ps b m else 0):=fO _ fun m m0 m1=>by
  unfold Wz;rw[(h.2 m m0 m1).2.1,(h.2 m m0 m1).2.2]
 rw[hs];split
 ·rename_i hj;unfold Wz;rw[(h.2 j j0 hj).2.1]
 ·rfl
theorem Cu{ps ps':List Qe}(h:oK ps ps'){ts:List Int}{b:F4}:Co ts ps' b=Co ts ps b:=by
 unfold Co;rw[h.1]
theorem eF{ps ps':List Qe}(h:oK ps ps'){gs ts:List (List Int)}{f:F4}:∀k:Nat,xQ ps' gs ts f k=xQ ps gs ts f k
 |0=>rfl
 |k+1=>by
  show QT _ _ ps' _=QT _ _ ps _;unfold QT;rw[eF h k,Dm h,Dw h,Cu h]
theorem fP{rf rf':Qk}{Qa plan':List Int}(hr:Ql rf=true)(hr':Ql rf'=true)(hs:rf'.seasons=rf.seasons)(hps:∀k:Nat,xQ rf'.Qb (nC rf') (m8 rf' plan') (Zk (Ph rf')) k=xQ rf.Qb (nC rf') (m8 rf' plan') (Zk (Ph rf')) k)
 (Wn:eO (Zk (Ph rf)) (Zk (Ph rf'))) (hg:zg rf.Qb.length (Ux rf) (Ux rf')) (ht:∀s:Int,0<=s->s<rf.seasons->zg rf.Qb.length (VW rf' (plan'.getD s.toNat 0)) (VW rf (Qa.getD s.toNat 0))) {k:Nat} (hk:k<=rf.seasons):eO (UL rf Qa k) (UL rf' plan' k):=by
 unfold UL;rw[hps];refine mF (cv Qa hr) (fun s h=> ?_) (fun s h=> ?_) Wn k hk
 ·have e1:(nC rf).getD s La=Ux rf:=XU (k:=(s:Int)) (by omega) h;have e2:(nC rf').getD s La=Ux rf':=XU (k:=(s:Int)) (by omega) (by omega);rw[e1,e2];exact hg
 ·have e1:(m8 rf Qa).getD s La=VW rf (Qa.getD ((s:Int)).toNat 0):=XU (k:=(s:Int)) (by omega) h;have e2:(m8 rf' plan').getD s La=VW rf' (plan'.getD ((s:Int)).toNat 0):=XU (k:=(s:Int)) (by omega) (by omega);rw[e1,e2];exact ht s (by omega) h
theorem Ps{rf rf':Qk}{Qa plan':List Int}(hr:Ql rf=true)(hs:rf'.seasons=rf.seasons)(hps:∀k:Nat,xQ rf'.Qb (nD rf') (m7 rf' plan') (Zk (J9 rf')) k=xQ rf.Qb (nD rf') (m7 rf' plan') (Zk (J9 rf')) k)
 (Wn:eO (Zk (J9 rf)) (Zk (J9 rf'))) (hg:zg rf.Qb.length (Uy rf) (Uy rf')) (ht:∀s:Int,0<=s->s<rf.seasons->zg rf.Qb.length (VV rf' (plan'.getD s.toNat 0)) (VV rf (Qa.getD s.toNat 0))) {k:Nat} (hk:k<=rf.seasons):eO (Ur rf Qa k) (Ur rf' plan' k):=by
 unfold Ur;rw[hps];refine mF (Sm Qa hr) (fun s h=> ?_) (fun s h=> ?_) Wn k hk
 ·have e1:(nD rf).getD s La=Uy rf:=XU (k:=(s:Int)) (by omega) h;have e2:(nD rf').getD s La=Uy rf':=XU (k:=(s:Int)) (by omega) (by omega);rw[e1,e2];exact hg
 ·have e1:(m7 rf Qa).getD s La=VV rf (Qa.getD ((s:Int)).toNat 0):=XU (k:=(s:Int)) (by omega) h;have e2:(m7 rf' plan').getD s La=VV rf' (plan'.getD ((s:Int)).toNat 0):=XU (k:=(s:Int)) (by omega) (by omega);rw[e1,e2];exact ht s (by omega) h
theorem oB{rf:Qk}(hr:Ql rf=true){p p':Int}(h:∀j:Int,0<=j->j<rf.Qb.length->hasB p j=true->hasB p' j=true):zg rf.Qb.length (VW rf p') (VW rf p)/\zg rf.Qb.length (VV rf p') (VV rf p):=by
 have key:∀j:Int,0<=j->j<rf.Qb.length->(VE p' j (Uw rf.Qb j)).lo<=(VE p j (Uw rf.Qb j)).lo/\(VE p' j (Uw rf.Qb j)).hi<=(VE p j (Uw rf.Qb j)).hi:=fun j j0 j1=>by
  have hp:=Qq ((Qg hr).2 j j0 j1).1;have hj:=h j j0 j1;unfold VE;cases e:hasB p j with
  |true=>rw[hj e];exact⟨LL _,LL _⟩
  |false=>
   cases hasB p' j with
   |true=>exact⟨hp.2.2.2.2.2.2.2.2.1,hp.2.2.2.2.2.2.2.2.2⟩
   |false=>exact⟨LL _,LL _⟩
 constructor
 ·intro j j0 j1;unfold VW;rw[Wv j0 (by rw[Zx];exact j1),Wv j0 (by rw[Zx];exact j1),WK j0 j1,WK j0 j1];exact(key j j0 j1).2
 ·intro j j0 j1;unfold VV;rw[Wv j0 (by rw[Zx];exact j1),Wv j0 (by rw[Zx];exact j1),WK j0 j1,WK j0 j1];exact(key j j0 j1).1
section
variable {rf:Qk} {Qa:List Int} {Qc place:Int} (hr:Ql rf=true) (XE:Qm rf Qa=true) (XK:0<=Qc/\Qc<rf.seasons) (XN:0<=place/\place<rf.Qb.length)
include hr XE XK XN
theorem iv:Qm rf (Ks Qa Qc place)=true/\∀s:Int,0<=s->s<rf.seasons->∀j:Int,0<=j->j<rf.Qb.length->hasB (Qa.getD s.toNat 0) j=true->hasB ((Ks Qa Qc place).getD s.toNat 0) j=true:=by
 have XF:=Qo XE;have Xy:=Qn (Qg hr).1;unfold Ks;cases hh:hasB (nth Qa Qc) place with
 |true=>exact⟨XE,fun s _ _ j _ _ h=>h⟩
 |false=>
  have Jm:=XF.2 (nth Qa Qc) (BD XK.1 (by omega));have hb:=Bs (m:=rf.Qb.length) (by omega) Jm.1 (by omega) XN.1 XN.2 hh;constructor
  ·simp only[cond_false,Qm,YB,decide_eq_true_iff,List.all_eq_true,Ky,Lf];refine⟨XF.1,fun x hx=> ?_⟩;rcases List.mem_or_eq_of_mem_set hx with hx|rfl
   ·have:=XF.2 x hx;omega
   ·exact hb.1
  ·intro s s0 s1 j j0 j1 h;simp only[cond_false];by_cases e:s=Qc
   ·subst e;have e2:(Qa.set s.toNat (nth Qa s+((Zv place.toNat:Nat):Int))).getD s.toNat 0=nth Qa s+((Zv place.toNat:Nat):Int):=by
     simp[Ll,show s.toNat<Qa.length by omega]
    rw[e2,hb.2 j j0 (by omega)];have h':hasB (nth Qa s) j=true:=h;rw[h'];rfl
   ·have e2:(Qa.set Qc.toNat (nth Qa Qc+((Zv place.toNat:Nat):Int))).getD s.toNat 0=Qa.getD s.toNat 0:=by
     simp[Ll,List.getElem?_set,show Qc.toNat≠s.toNat by omega]
    rw[e2];exact h
theorem Br{k:Nat}(hk:k<=rf.seasons):eO (UL rf Qa k) (UL rf (Ks Qa Qc place) k)/\eO (Ur rf Qa k) (Ur rf (Ks Qa Qc place) k):=by
 have hm:=(iv hr XE XK XN).2;exact⟨fP hr hr rfl (fun _=>rfl) (fun j _ _=>LL _) (fun j _ _=>LL _) (fun s s0 s1=>(oB hr (hm s s0 s1)).1) hk,
  Ps hr rfl (fun _=>rfl) (fun j _ _=>LL _) (fun j _ _=>LL _) (fun s s0 s1=>(oB hr (hm s s0 s1)).2) hk⟩
end
theorem VB{g:Qe->Qe}{ps:List Qe}{i:Int}:(Pe g ps i).length=ps.length:=by rw[Pe,XR];omega
theorem kf{g:Qe->Qe}{ps:List Qe}{k:Int}(h0:0<=k)(h:k<ps.length):Uw (Pe g ps ps.length) k=g (Uw ps k):=by
 unfold Pe;show(KJ ps.length _).getD k.toNat La=_;rw[XU h0 h,if_pos h]
structure FY (g:Qe->Qe):Prop where
 ok:∀x,XI x=true->XI (g x)=true
 rm:∀x,(g x).room=x.room
 dr:∀x,(g x).drift=x.drift
 it:∀x,(g x).into=x.into
 ct:∀x,(g x).count=x.count
 op:∀x,Wm (g x)=Wm x
 sh:∀x,mG (g x)=mG x
section
variable {rf:Qk} {g:Qe->Qe} (hr:Ql rf=true) (hg:FY g)
abbrev Td(g:Qe->Qe)(rf:Qk):Qk:=⟨Pe g rf.Qb rf.Qb.length,rf.miss,rf.seasons⟩
include hg in
theorem nM:oK rf.Qb (Td g rf).Qb:=⟨VB,fun k h0 h1=>by
 show(Uw (Pe g rf.Qb rf.Qb.length) k).room=_/\(Uw (Pe g rf.Qb rf.Qb.length) k).drift=_/\(Uw (Pe g rf.Qb rf.Qb.length) k).into=_;rw[kf h0 h1];exact⟨hg.rm _,hg.dr _,hg.it _⟩⟩
include hr hg in
theorem eZ:Ql (Td g rf)=true:=C2 hr VB fun k h0 h1=>by
 rw[kf h0 h1];exact⟨hg.ok _ ((Qg hr).2 k h0 h1).1,hg.it _⟩
include hg in
theorem cC:(∀k:Int,0<=k->k<rf.Qb.length->nth (Ph (Td g rf)) k=nth (Ph rf) k/\nth (J9 (Td g rf)) k=nth (J9 rf) k):=fun k h0 h1=>by
 have hl:k<(Td g rf).Qb.length:=by show k<((Pe g rf.Qb rf.Qb.length).length:Int);rw[VB];exact h1
 have e:(Td g rf).Qb.getD k.toNat La=g (Uw rf.Qb k):=kf h0 h1;unfold Ph J9;rw[Z2 h0 hl,Z2 h0 h1,Z2 h0 hl,Z2 h0 h1,e];unfold Xw;simp only[Yi,Yk];rw[hg.ct];exact⟨rfl,rfl⟩
include hg in
theorem ke{p:Int}:(∀k:Int,0<=k->k<rf.Qb.length->nth (VV (Td g rf) p) k=nth (VV rf p) k/\nth (VW (Td g rf) p) k=nth (VW rf p) k):=fun k h0 h1=>by
 have hl:k<(Td g rf).Qb.length:=by show k<((Pe g rf.Qb rf.Qb.length).length:Int);rw[VB];exact h1
 have e:(Td g rf).Qb.getD k.toNat La=g (Uw rf.Qb k):=kf h0 h1;unfold VV VW;rw[Wv h0 (by rw[Zx];exact hl),Wv h0 (by rw[Zx];exact h1),Wv h0 (by rw[Zx];exact hl),Wv h0 (by rw[Zx];exact h1),WK h0 hl,WK h0 h1,e];unfold VE;rw[hg.op,hg.sh];exact⟨rfl,rfl⟩
theorem Jw:(∀k:Int,0<=k->k<rf.Qb.length->nth (Ux (Td g rf)) k=(g (Uw rf.Qb k)).glo/\nth (Uy (Td g rf)) k=(g (Uw rf.Qb k)).ghi/\nth (Ux rf) k=(Uw rf.Qb k).glo/\nth (Uy rf) k=(Uw rf.Qb k).ghi):=fun k h0 h1=>by
 have hl:k<(Td g rf).Qb.length:=by show k<((Pe g rf.Qb rf.Qb.length).length:Int);rw[VB];exact h1
 have e:(Td g rf).Qb.getD k.toNat La=g (Uw rf.Qb k):=kf h0 h1;unfold Ux Uy;rw[Z2 h0 hl,Z2 h0 h1,Z2 h0 hl,Z2 h0 h1,e];exact⟨rfl,rfl,rfl,rfl⟩
include hr hg in
theorem BT{Qa:List Int}(h:∀x,XI x=true->x.glo<=(g x).glo){k:Nat}(hk:k<=rf.seasons):eO (UL rf Qa k) (UL (Td g rf) Qa k):=
 fP (rf':=Td g rf) (plan':=Qa) hr (eZ hr hg) rfl (fun k=>eF (nM hg) k) (bT (n:=rf.Qb.length) (by simp[Ph]) (by simp[Ph,VB]) fun j j0 j1=>Int.le_of_eq (cC hg j j0 j1).1.symm)
  (fun j j0 j1=>by rw[(Jw j j0 j1).1,(Jw (g:=g) j j0 j1).2.2.1];exact h _ ((Qg hr).2 j j0 j1).1)
  (fun s _ _ j j0 j1=>Int.le_of_eq (ke hg j j0 j1).2) hk
include hr hg in
theorem D1{Qa:List Int}(h:∀x,XI x=true->x.ghi<=(g x).ghi){k:Nat}(hk:k<=rf.seasons):eO (Ur rf Qa k) (Ur (Td g rf) Qa k):=
 Ps (rf':=Td g rf) (plan':=Qa) hr rfl (fun k=>eF (nM hg) k) (bT (n:=rf.Qb.length) (by simp[J9]) (by simp[J9,VB]) fun j j0 j1=>Int.le_of_eq (cC hg j j0 j1).2.symm)
  (fun j j0 j1=>by rw[(Jw j j0 j1).2.1,(Jw (g:=g) j j0 j1).2.2.2];exact h _ ((Qg hr).2 j j0 j1).1)
  (fun s _ _ j j0 j1=>Int.le_of_eq (ke hg j j0 j1).1) hk
include hr hg in
theorem BU{Qa:List Int}(h:∀x,XI x=true->(g x).ghi<=x.ghi){k:Nat}(hk:k<=rf.seasons):eO (Ur (Td g rf) Qa k) (Ur rf Qa k):=
 Ps (rf:=Td g rf) (rf':=rf) (Qa:=Qa) (plan':=Qa) (eZ hr hg) rfl (fun k=>(eF (nM hg) k).symm) (bT (n:=rf.Qb.length) (by simp[J9,VB]) (by simp[J9]) fun j j0 j1=>Int.le_of_eq (cC hg j j0 j1).2)
  (fun j j0 j1=>by
   have j1':j<rf.Qb.length:=by rw[show((Td g rf).Qb.length:Int)=rf.Qb.length by rw[VB]]at j1;exact j1
   rw[(Jw j j0 j1').2.1,(Jw (g:=g) j j0 j1').2.2.2];exact h _ ((Qg hr).2 j j0 j1').1)
  (fun s _ _ j j0 j1=>by
   have j1':j<rf.Qb.length:=by rw[show((Td g rf).Qb.length:Int)=rf.Qb.length by rw[VB]]at j1;exact j1
   exact Int.le_of_eq (ke hg j j0 j1').1.symm) hk
end
theorem tT{a b p q:Int}(ha:0<=a)(hab:a<=b)(hb:b<=2000)(hp:0<=p)(XL:p<=q)(hq:q<=100):a<=VG a b p/\VG a b p<=VG a b q/\VG a b q<=b:=by
 have h1:=nk ha hab hb hp (by omega);have h2:=nk ha hab hb (show 0<=q by omega) hq;have h3:(b-a)*p<=(b-a)*q:=LU XL (by omega);have e1:((b-a)*p).tdiv 100=(b-a)*p / 100:=LM h1.1.1;have e2:((b-a)*q).tdiv 100=(b-a)*q / 100:=LM h2.1.1;unfold VG;omega
theorem tU{lo hi:Int}(h0:0<=lo)(h1:lo<=hi)(h2:hi<=100):FY (Xj lo hi):=⟨fun x h=>by
 have hp:=Qq h;have hn:=tT (a:=x.glo) (b:=x.ghi) (by omega) (by omega) (by omega) h0 h1 h2;simp only[XI,YB,Ky,RN,decide_eq_true_iff,Xj]at h ⊢;exact⟨h.1,h.2.1,h.2.2.1,h.2.2.2.1,⟨by omega,by omega,by omega⟩,h.2.2.2.2.2.1,h.2.2.2.2.2.2.1,h.2.2.2.2.2.2.2.1,decide_eq_true h.2.2.2.2.2.2.2.2.1,decide_eq_true h.2.2.2.2.2.2.2.2.2⟩,fun _=>rfl,fun _=>rfl,fun _=>rfl,fun _=>rfl,fun _=>rfl,fun _=>rfl⟩
theorem nG{f:Int}(h0:0<=f):FY (QP f):=⟨fun x h=>by
 have hp:=Qq h;simp only[XI,YB,Ky,RN,decide_eq_true_iff,QP]at h ⊢;exact⟨h.1,h.2.1,h.2.2.1,h.2.2.2.1,⟨by split <;> omega,by split <;> split <;> omega,by split <;> omega⟩,h.2.2.2.2.2.1,h.2.2.2.2.2.2.1,h.2.2.2.2.2.2.2.1,decide_eq_true h.2.2.2.2.2.2.2.2.1,decide_eq_true h.2.2.2.2.2.2.2.2.2⟩,fun _=>rfl,fun _=>rfl,fun _=>rfl,fun _=>rfl,fun _=>rfl,fun _=>rfl⟩
theorem tS{rf:Qk}{Qa:List Int}{lo hi:Int}(hr:Ql rf=true)(h0:0<=lo)(h1:lo<=hi)(h2:hi<=100){k:Nat}(hk:k<=rf.seasons):eO (UL rf Qa k) (UL (Td (Xj lo hi) rf) Qa k)/\eO (Ur (Td (Xj lo hi) rf) Qa k) (Ur rf Qa k):=
 ⟨BT hr (tU h0 h1 h2) (fun x h=>(tT (a:=x.glo) (b:=x.ghi) (by have:=Qq h;omega) (by have:=Qq h;omega) (by have:=Qq h;omega) h0 h1 h2).1) hk,
  BU hr (tU h0 h1 h2) (fun x h=>(tT (a:=x.glo) (b:=x.ghi) (by have:=Qq h;omega) (by have:=Qq h;omega) (by have:=Qq h;omega) h0 h1 h2).2.2) hk⟩
theorem rN{rf:Qk}{Qa:List Int}{f:Int}(hr:Ql rf=true)(h0:0<=f){k:Nat}(hk:k<=rf.seasons):eO (UL rf Qa k) (UL (Td (QP f) rf) Qa k)/\eO (Ur rf Qa k) (Ur (Td (QP f) rf) Qa k):=
 ⟨BT hr (nG h0) (fun x h=>by have:=Qq h;simp only[QP];split <;> omega) hk,
  D1 hr (nG h0) (fun x h=>by have:=Qq h;simp only[QP];split <;> omega) hk⟩
end Go.Proofs.Ytncjjangllkokaa

namespace Go.Proofs.Ytncjjangllkokaa
open Go Go.CE Go.RowKit
theorem ZR{rf:Qk}{Qa:List Int}:(Qt rf Qa).length=rf.seasons.toNat:=XR
theorem lz{rf:Qk}{Qa:List Int}{s:Int}(s0:0<=s)(s1:s<rf.seasons):(Qt rf Qa).getD s.toNat La=sF rf Qa s:=XU s0 s1
theorem QQ{rf:Qk}{Qa:List Int}{s:Int}(s0:0<=s)(s1:s<rf.seasons):((Qt rf Qa).getD s.toNat La).length=rf.Qb.length:=by rw[lz s0 s1];exact oO
theorem RL{rf:Qk}{Qa:List Int}{s i:Int}(s0:0<=s)(s1:s<rf.seasons)(i0:0<=i)(i1:i<rf.Qb.length):((Qt rf Qa).getD s.toNat La).getD i.toNat La=zW rf Qa s i:=by
 rw[lz s0 s1];exact XU i0 i1
theorem XA{g:Qe->Qe}{ps:List Qe}:ps=Pe g ps 0:=by
 refine List.ext_getElem? fun k=> ?_
 unfold Pe;by_cases hk:k<ps.length
 ·rw[Kc (by omega),if_neg (by omega),LP hk];simp[Uw,Ll,hk]
 ·rw[Lu (by omega),Lu (by rw[XR];omega)]
theorem Qx{g:Qe->Qe}{ps:List Qe}{i:Int}(h0:0<=i)(h:i<ps.length):(Pe g ps i).getD i.toNat La=Uw ps i:=by
 unfold Pe;rw[XU h0 h,if_neg (by omega)]
theorem QO{g:Qe->Qe}{ps:List Qe}{i:Int}(h0:0<=i)(h:i<ps.length):(Pe g ps i).set i.toNat (g (Uw ps i))=Pe g ps (i+1):=by
 unfold Pe;refine zV h0 h fun k k0 k1=> ?_
 by_cases e:k=i
 ·subst e;rw[if_pos rfl,if_pos (by omega)]
 ·rw[if_neg e];by_cases e2:k<i
  ·rw[if_pos e2,if_pos (by omega)]
  ·rw[if_neg e2,if_neg (by omega)]
theorem vK{g:Qe->Qe}{rf:Qk}{Qa:List Int}(h:Qm rf Qa=true):Qm (Td g rf) Qa=true:=by
 unfold Qm at h ⊢;show(_ && Qa.all fun p=>W5 p 0 (((Zv (Pe g rf.Qb rf.Qb.length).length:Nat):Int)-1))=true;rw[VB];exact h
theorem Q7{rf:Qk}{Qa:List Int}{Qc place lo hi f i:Int}{xs ys:List Qe}{ms:List Int}(hr:Ql rf=true)(XE:Qm rf Qa=true)(XK:0<=Qc/\Qc<rf.seasons)(XN:0<=place/\place<rf.Qb.length)(XC:0<=lo/\lo<=hi/\hi<=100)(XY:0<=f/\f<=2000)
 (hm:ms=Ks Qa Qc place) (hx:xs=Pe (Xj lo hi) rf.Qb i) (hy:ys=Pe (QP f) rf.Qb i) (h1:i<=rf.Qb.length) (h2:¬i<rf.Qb.length):
 xs=Pe (Xj lo hi) rf.Qb rf.Qb.length/\ys=Pe (QP f) rf.Qb rf.Qb.length/\Qm rf ms=true/\Ql ⟨xs,rf.miss,rf.seasons⟩=true/\Qm ⟨xs,rf.miss,rf.seasons⟩ Qa=true/\Ql ⟨ys,rf.miss,rf.seasons⟩=true/\Qm ⟨ys,rf.miss,rf.seasons⟩ Qa=true:=by
 have e:i=rf.Qb.length:=by omega
 subst e;subst hm hx hy;exact⟨rfl,rfl,(iv hr XE XK XN).1,eZ hr (tU XC.1 XC.2.1 XC.2.2),vK XE,eZ hr (nG XY.1),vK XE⟩
theorem Xi{Qa:List Int}{Qc place:Int}(h:hasB (nth Qa Qc) place=true):Qa=Ks Qa Qc place:=by unfold Ks;rw[h];rfl
theorem qd{Qa:List Int}{Qc place:Int}(h:hasB (nth Qa Qc) place=false):Qa.set Qc.toNat (nth Qa Qc+((Zv place.toNat:Nat):Int))=Ks Qa Qc place:=by unfold Ks;rw[h];rfl
theorem yu{i:Int}(h:0<=i):2*((Zv i.toNat:Nat):Int)=((Zv (i+1).toNat:Nat):Int):=by
 rw[show(i+1).toNat=i.toNat+1 by omega];have e:∀n:Nat,Zv (n:Int)=2 ^ n:=fun n=>TB
 rw[e,e,Nat.pow_succ];omega
theorem Zp{rf:Qk}{Qa:List Int}{Qc place lo hi f:Int}{xs ys:List Qe}{ms:List Int}{s i:Int}(hr:Ql rf=true)(XE:Qm rf Qa=true)(XK:0<=Qc/\Qc<rf.seasons)(XN:0<=place/\place<rf.Qb.length)(XC:0<=lo/\lo<=hi/\hi<=100)(XY:0<=f/\f<=2000)
 (hm:ms=Ks Qa Qc place) (hx:xs=Pe (Xj lo hi) rf.Qb rf.Qb.length) (hy:ys=Pe (QP f) rf.Qb rf.Qb.length) (s0:0<=s) (s1:s<rf.seasons) (i0:0<=i) (i1:i<rf.Qb.length):
 ((((Qt rf Qa).getD s.toNat La).getD i.toNat La).lo<=(((Qt rf ms).getD s.toNat La).getD i.toNat La).lo/\(((Qt rf Qa).getD s.toNat La).getD i.toNat La).hi<=(((Qt rf ms).getD s.toNat La).getD i.toNat La).hi)/\
 ((((Qt rf Qa).getD s.toNat La).getD i.toNat La).lo<=(((Qt ⟨xs,rf.miss,rf.seasons⟩ Qa).getD s.toNat La).getD i.toNat La).lo/\(((Qt ⟨xs,rf.miss,rf.seasons⟩ Qa).getD s.toNat La).getD i.toNat La).hi<=(((Qt rf Qa).getD s.toNat La).getD i.toNat La).hi)/\
 ((((Qt rf Qa).getD s.toNat La).getD i.toNat La).lo<=(((Qt ⟨ys,rf.miss,rf.seasons⟩ Qa).getD s.toNat La).getD i.toNat La).lo/\(((Qt rf Qa).getD s.toNat La).getD i.toNat La).hi<=(((Qt ⟨ys,rf.miss,rf.seasons⟩ Qa).getD s.toNat La).getD i.toNat La).hi):=by
 have Xy:=Qn (Qg hr).1;have k1:s.toNat+1<=rf.seasons.toNat:=by omega
 have i4:i<4:=by omega
 have a:=Br hr XE XK XN (k:=s.toNat+1) (by omega);have b:=tS (Qa:=Qa) hr XC.1 XC.2.1 XC.2.2 (k:=s.toNat+1) (by omega);have c:=rN (Qa:=Qa) hr XY.1 (k:=s.toNat+1) (by omega);subst hm hx hy;have e1:=RL (rf:=Td (Xj lo hi) rf) (Qa:=Qa) (s:=s) (i:=i) s0 s1 i0 (by show i<((Pe _ rf.Qb rf.Qb.length).length:Int);rw[VB];exact i1);have e2:=RL (rf:=Td (QP f) rf) (Qa:=Qa) (s:=s) (i:=i) s0 s1 i0 (by show i<((Pe _ rf.Qb rf.Qb.length).length:Int);rw[VB];exact i1);rw[RL s0 s1 i0 i1,RL s0 s1 i0 i1];unfold Td at e1 e2;rw[e1,e2];exact⟨⟨a.1 i i0 i4,a.2 i i0 i4⟩,⟨b.1 i i0 i4,b.2 i i0 i4⟩,⟨c.1 i i0 i4,c.2 i i0 i4⟩⟩
end Go.Proofs.Ytncjjangllkokaa
