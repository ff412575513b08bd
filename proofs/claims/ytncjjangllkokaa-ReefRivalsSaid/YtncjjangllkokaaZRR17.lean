/- Reef: stocks. -/
import Derived.Test.YtncjjangllkokaaZRR16
import Derived.Test.YtncjjangllkokaaZRR11
set_option linter.all false
open Int renaming mul_le_mul->LH,tdiv_eq_ediv_of_nonneg->LQ,le_refl->LJ,toNat->Lb
open List renaming getD_eq_getElem?_getD->Li,getElem?_eq_none->Lw,getElem?_toArray->LM,range'->Ls,mem_cons_of_mem->Lh,length->Lf,range->Ld
open Nat renaming le_refl->Lr,zero_add->Lv,strongRecOn->LA,lt_of_lt_of_eq->LI
open Array renaming extract->LO
open Inhabited renaming default->La
namespace Go.Proofs.Ytncjjangllkokaa
open Go Go.CE Go.RowKit
set_option maxRecDepth 100000
def CG(rf:Qc):List (List Int):=T3 rf.Qb fun _=>Te rf
def u7(rf:Qc)(plan:List Int):List (List Int):=T3 rf.Qb fun s=>Th rf (plan.getD s.toNat 0)
def QH(rf:Qc)(plan:List Int)(k:Nat):F4:=GH rf.Qa (CG rf) (u7 rf plan) (Kt (um rf)) k
theorem x9{l:List Int}(h:∀k:Int,0<=k->k<4->0<=nth l k/\nth l k<=4000000):Jf (Kt l)/\(Kt l).sum<=16000000:=by
 have a0:=h 0 (by omega) (by omega);have a1:=h 1 (by omega) (by omega);have a2:=h 2 (by omega) (by omega);have a3:=h 3 (by omega) (by omega);have es:(Kt l).sum=nth l 0+nth l 1+nth l 2+nth l 3:=rfl;exact⟨⟨⟨a0.1,a1.1,a2.1,a3.1⟩,by omega⟩,by omega⟩
theorem GR{rf:Qc}(hr:X5 rf=true){g:Span->Int}(hg:∀s:Span,g s=s.lo\/g s=s.hi):∀k:Int,0<=k->k<4->0<=nth ((rf.Qa.map (Z8 rf.Qi)).map g) k/\nth ((rf.Qa.map (Z8 rf.Qi)).map g) k<=4000000:=fun k k0 k1=>by
 have hs:=Qz (Q6 hr).1;by_cases hk:k<rf.Qa.length
 ·have hp:=ZY ((Q6 hr).2 k k0 hk).1;have hm:=c6 (a:=(rf.Qa.getD k.toNat La).count) (r:=rf.Qi) (by omega) (by omega);have hm2:(rf.Qa.getD k.toNat La).count*rf.Qi<=1000000*2000:=LH hp.1.2 hs.2.1.2 hs.2.1.1 (by omega);have e2:((rf.Qa.getD k.toNat La).count*rf.Qi).tdiv 1000=((rf.Qa.getD k.toNat La).count*rf.Qi) / 1000:=LQ hm.1;rw[PM k0 hk];rcases hg (Z8 rf.Qi (rf.Qa.getD k.toNat La))with e|e
  ·rw[e];simp only[Z8];omega
  ·rw[e];simp only[Z8,Fq];omega
 ·unfold nth;rw[Li,Lw (by simp;omega)];exact⟨LJ _,by decide⟩
theorem G7{rf:Qc}(hr:X5 rf=true){gs ts:List (List Int)}{l:List Int}(hg:gs.length=rf.Qb)(ht:ts.length=rf.Qb)(rg:∀k:Nat,k<rf.Qb->Uv rf.Qa.length (gs.getD k La) 2000)(rt:∀k:Nat,k<rf.Qb->Uv rf.Qa.length (ts.getD k La) 1000000)(hl:Jf (Kt l)/\(Kt l).sum<=16000000):OkT rf.Qa rf.Qb gs ts (Kt l):=by
 have hs:=Qz (Q6 hr).1;exact⟨Bi hr,by omega,by omega,by omega,hg,ht,rg,rt,hl.1,by omega⟩
theorem zu{rf:Qc}(hr:X5 rf=true):Jf (Kt (um rf))/\(Kt (um rf)).sum<=16000000:=x9 (GR hr fun _=>.inl rfl)
theorem vQ{rf:Qc}(plan:List Int)(hr:X5 rf=true):OkT rf.Qa rf.Qb (CG rf) (u7 rf plan) (Kt (um rf)):=by
 have hs:=Qz (Q6 hr).1;refine G7 hr (by rw[CG,ZB];omega) (by rw[u7,ZB];omega) (fun k hk=> ?_) (fun k hk=> ?_) (zu hr)
 ·have e:(CG rf).getD k La=Te rf:=U0 (k:=(k:Int)) (by omega) hk;rw[e];exact(mF hr).1
 ·have e:(u7 rf plan).getD k La=Th rf (plan.getD ((k:Int)).toNat 0):=U0 (k:=(k:Int)) (by omega) hk;rw[e];exact(lC hr _).2
theorem Cn{rf:Qc}{plan:List Int}{i:Int}(h0:0<=i)(h:i<rf.Qb):QH rf plan (i+1).toNat=X6 (Te rf) (Th rf (plan.getD i.toNat 0)) rf.Qa (QH rf plan i.toNat):=by
 rw[show(i+1).toNat=i.toNat+1 by omega];show X6 _ _ _ _=_;have e1:(CG rf).getD i.toNat La=Te rf:=U0 h0 h;have e2:(u7 rf plan).getD i.toNat La=Th rf (plan.getD i.toNat 0):=U0 h0 h;rw[e1,e2];rfl
end Go.Proofs.Ytncjjangllkokaa

namespace Go.Proofs.Ytncjjangllkokaa
open Go Go.CE Go.RowKit
end Go.Proofs.Ytncjjangllkokaa

namespace Go.CE
open Go Go.RowKit
section
variable {α β:Type}
def PO(ke:α->Value)(ve:β->Value):List (α×β)->Nat->List MapEntry
 |[],_=>[]
 |p::l,i=>{key:=ke p.1,val:=ve p.2,born:=i}::PO ke ve l (i+1)
structure pk (α β:Type) where
 ke:α->Value
 ve:β->Value
 eq:α->α->Bool
def mapA(M:pk α β)(l:List (α×β)):Array MapEntry:=(PO M.ke M.ve l 0).toArray
def KO(eq:α->α->Bool)(l:List (α×β))(k:α):Bool:=l.any fun p=>eq k p.1
def sV[Inhabited β](eq:α->α->Bool):List (α×β)->α->β
 |[],_=>La
 |p::l,k=>bif eq k p.1 then p.2 else sV eq l k
def YF(eq:α->α->Bool):List (α×β)->α->Nat->Option (Nat×β)
 |[],_,_=>none
 |p::l,k,i=>bif eq k p.1 then some (i,p.2)else YF eq l k (i+1)
def nj(eq:α->α->Bool):List (α×β)->α->β->List (α×β)
 |[],k,x=>[(k,x)]
 |p::l,k,x=>bif eq k p.1 then(k,x)::l else p::nj eq l k x
def Pe(M:pk α β)(l:List (α×β))(k:α):Bool:=KO M.eq l k
def kD[Inhabited β](M:pk α β)(l:List (α×β))(k:α):β:=sV M.eq l k
def Sb(M:pk α β)(l:List (α×β))(k:α)(x:β):List (α×β):=nj M.eq l k x
theorem kq[Inhabited β]{eq:α->α->Bool}:∀{l:List (α×β)} {k:α} {i:Nat},KO eq l k=true->∃j,YF eq l k i=some (j,sV eq l k)
 |[],k,i,h=>by simp[KO]at h
 |p::l,k,i,h=>by
  unfold YF sV;cases e:eq k p.1 with
  |true=>exact⟨i,rfl⟩
  |false=>
   have h':KO eq l k=true:=by
    unfold KO at h ⊢;rw[List.any_cons,e,Bool.false_or]at h;exact h
   exact kq h'
theorem dE{eq:α->α->Bool}:∀{l:List (α×β)} {k:α} {i:Nat},KO eq l k=false->YF eq l k i=none
 |[],k,i,h=>rfl
 |p::l,k,i,h=>by
  unfold KO at h;rw[List.any_cons,Bool.or_eq_false_iff]at h;unfold YF;rw[h.1];exact dE (by unfold KO;exact h.2)
theorem sW{eq:α->α->Bool}:∀{l:List (α×β)} {k:α} {i j:Nat} {x:β},YF eq l k i=some (j,x)->i<=j/\∃p,l[j-i]? =some p/\eq k p.1=true/\∀y,nj eq l k y=l.set (j-i) (k,y)
 |[],k,i,j,x,h=>by cases h
 |p::l,k,i,j,x,h=>by
  unfold YF at h;cases e:eq k p.1 with
  |true=>
   rw[e]at h;simp only[cond_true,YO,YR]at h;obtain⟨rfl,_⟩:=h;exact⟨Lr _,p,by simp,e,fun y=>by simp[nj,e]⟩
  |false=>
   rw[e]at h;simp only[cond_false]at h;obtain⟨h1,q,h2,h3,h4⟩:=sW h;have e2:j-i=(j-(i+1))+1:=by omega
   exact⟨by omega,q,by rw[e2];simpa using h2,h3,fun y=>by rw[e2];simp[nj,e,h4 y]⟩
theorem qy{eq:α->α->Bool}:∀{l:List (α×β)} {k:α} {x:β},KO eq l k=false->nj eq l k x=l++[(k,x)]
 |[],k,x,_=>rfl
 |p::l,k,x,h=>by
  unfold KO at h;rw[List.any_cons,Bool.or_eq_false_iff]at h;unfold nj;rw[h.1];exact congrArg (p::·) (qy (by unfold KO;exact h.2))
structure KeyC (P:Program) (kt:TypeId) (ke:α->Value) (eq:α->α->Bool):Prop where
 af:∀k,af (ke k)=true
 ck:∀b k,Xb P (Instr.checkKey b 10000 kt (ke k))=some ()
 sb:∀k,Instr.sameBits 10000 (ke k) (ke k)=true
 same:∀k k',eq k k'=true->k=k'
 un:∃d,Xb P (underlying kt)=some d/\((∀k k',Instr.sameNow d (ke k) (ke k')=some (eq k k'))\/((∀k k',Instr.sameNow d (ke k) (ke k')=none)/\∀k k',Xb P (Op.equal kt (ke k) (ke k'))=some (eq k k')))
theorem YA{ke:α->Value}{ve:β->Value}:∀{l:List (α×β)} {i j:Nat},(PO ke ve l i)[j]? =(l[j]?).map fun p=>{key:=ke p.1,val:=ve p.2,born:=i+j}
 |[],i,j=>by simp[PO]
 |p::l,i,0=>by simp[PO]
 |p::l,i,j+1=>by
  simp only[PO,List.getElem?_cons_succ];rw[YA (l:=l),show i+1+j=i+(j+1)by omega]
theorem iX{ke:α->Value}{ve:β->Value}:∀{l:List (α×β)} {i:Nat},(PO ke ve l i).length=l.length
 |[],i=>rfl
 |p::l,i=>by simp[PO,iX (l:=l)]
variable {P:Program} {kt:TypeId} {ke:α->Value} {ve:β->Value} {eq:α->α->Bool}
theorem tI{d:TypeDesc}(h:∀k k',Instr.sameNow d (ke k) (ke k')=some (eq k k')){k:α}:∀{l:List (α×β)} {i n:Nat},Instr.findNow d (ke k) (PO ke ve l n) i=some ((YF eq l k i).map fun p=>(p.1,ve p.2))
 |[],i,n=>rfl
 |p::l,i,n=>by
  simp only[PO,Instr.findNow,h,YF];cases e:eq k p.1 with
  |true=>rfl
  |false=>exact tI h (l:=l)
theorem tJ(h:∀k k',Xb P (Op.equal kt (ke k) (ke k'))=some (eq k k')){k:α}:∀{l:List (α×β)} {i n:Nat},Xb P (Instr.findAsking kt (ke k) (PO ke ve l n) i)=some ((YF eq l k i).map fun p=>(p.1,ve p.2))
 |[],i,n=>rfl
 |p::l,i,n=>by
  simp only[PO,Instr.findAsking,XG,h,YF];cases e:eq k p.1 with
  |true=>rfl
  |false=>simpa using tJ h (l:=l)
theorem KeyC.find(h:KeyC P kt ke eq){k:α}{l:List (α×β)}:Xb P (Instr.findKey kt (ke k) (PO ke ve l 0))=some ((YF eq l k 0).map fun p=>(p.1,ve p.2)):=by
 obtain⟨d,hd,h1|⟨h1,h2⟩⟩:=h.un
 ·simp only[Instr.findKey,XG,hd,tI h1,ZE]
 ·simp only[Instr.findKey,XG,hd];cases l with
  |nil=>rfl
  |cons p l=>
   have e:Instr.findNow d (ke k) (PO ke ve (p::l) 0) 0=none:=by simp[PO,Instr.findNow,h1]
   rw[e];exact tJ h2
theorem nS[Inhabited β]{M:pk α β}(hk:KeyC P kt M.ke M.eq){t e:TypeId}(hu:Yb P t=some (.map kt e)){l:List (α×β)}{k:α}{ok:Bool}(h:Pe M l k=true):YM P t (mapA M l) ok (M.ke k) (bif ok then .tuple #[M.ve (kD M l k),.bool true]else M.ve (kD M l k)):=by
 intro H r YN hg;obtain⟨j,hj⟩:=kq (eq:=M.eq) (i:=0) h;unfold PZ;rw[hu];simp only[hg,hk.af,cond_true,hk.ck];have hf:Xb P (Instr.findKey kt (M.ke k) (mapA M l).toList)=some (some (j,M.ve (kD M l k))):=by
  show Xb P (Instr.findKey kt (M.ke k) (PO M.ke M.ve l 0))=_;rw[hk.find,hj];rfl
 rw[hf]
theorem nT{M:pk α β}(hk:KeyC P kt M.ke M.eq){t e:TypeId}{z:Value}(hu:Yb P t=some (.map kt e))(hz:zeroOf P e=some z)(ha:Go.CE.af z=true){l:List (α×β)}{k:α}{ok:Bool}(h:Pe M l k=false):YM P t (mapA M l) ok (M.ke k) (bif ok then .tuple #[z,.bool false]else z):=by
 intro H r YN hg;unfold PZ;rw[hu];simp only[hg,hk.af,cond_true,hk.ck];have hf:Xb P (Instr.findKey kt (M.ke k) (mapA M l).toList)=some none:=by
  show Xb P (Instr.findKey kt (M.ke k) (PO M.ke M.ve l 0))=_;rw[hk.find,dE h];rfl
 rw[hf,hz];simp only[ha,cond_true]
theorem Ew{M:pk α β}(hk:KeyC P kt M.ke M.eq){t e:TypeId}(hu:Yb P t=some (.map kt e)){l:List (α×β)}{k:α}{x:β}:cQ P t (mapA M l) l.length (M.ke k) (M.ve x) (mapA M (Sb M l k x)) (Sb M l k x).length:=by
 intro H r hg;unfold Uz;rw[hu];simp only[hg,hk.af,cond_true,hk.ck];cases hb:YF M.eq l k 0 with
 |some p=>
  obtain⟨j,y⟩:=p;have hf:Xb P (Instr.findKey kt (M.ke k) (mapA M l).toList)=some (some (j,M.ve y)):=by
   show Xb P (Instr.findKey kt (M.ke k) (PO M.ke M.ve l 0))=_;rw[hk.find,hb];rfl
  rw[hf];obtain⟨_,q,h2,h3,h4⟩:=sW hb;have eq1:=hk.same _ _ h3;have h4:∀y,Sb M l k y=l.set (j-0) (k,y):=h4;have hj:j<l.length:=(List.getElem?_eq_some_iff.1 h2).1;have hg2:(mapA M l)[j]? =some {key:=M.ke q.1,val:=M.ve q.2,born:=j}:=by
   unfold mapA;rw[LM,YA,show l[j]? =some q by simpa using h2];simp
  simp only[hg2];rw[<-eq1,hk.sb];simp only[cond_true];have es:(mapA M l).setIfInBounds j {key:=M.ke k,val:=M.ve x,born:=j}=mapA M (Sb M l k x):=by
   rw[h4 x];apply Array.ext_getElem?;intro i;unfold mapA;rw[Array.getElem?_setIfInBounds,LM,LM,YA,YA,List.getElem?_set];simp only[Nat.sub_zero,Lv,List.size_toArray,iX];by_cases Jd:j=i
   ·subst Jd;simp[hj]
   ·simp[Jd]
  rw[es,h4 x,List.length_set]
 |none=>
  have hf:Xb P (Instr.findKey kt (M.ke k) (mapA M l).toList)=some none:=by
   show Xb P (Instr.findKey kt (M.ke k) (PO M.ke M.ve l 0))=_;rw[hk.find,hb];rfl
  rw[hf];have hnb:Pe M l k=false:=by
   cases hq:KO M.eq l k with
   |false=>exact hq
   |true=>
    exfalso;have:∀(l:List (α×β)) (i:Nat),KO M.eq l k=true->YF M.eq l k i≠none:=by
     intro l;induction l with
     |nil=>intro i h;simp[KO]at h
     |cons p l ih=>
      intro i h;unfold YF;cases e:M.eq k p.1 with
      |true=>simp
      |false=>
       simp only[cond_false];refine ih _ ?_;unfold KO at h ⊢;rw[List.any_cons,e,Bool.false_or]at h;exact h
    exact this l 0 hq hb
  rw[show Sb M l k x=l++[(k,x)]from qy hnb];have es:(mapA M l).push {key:=M.ke k,val:=M.ve x,born:=l.length}=mapA M (l++[(k,x)]):=by
   apply Array.ext_getElem?;intro i;unfold mapA;rw[Array.getElem?_push,LM,LM,YA,YA,List.getElem?_append];simp only[Lv,List.size_toArray,iX];by_cases h1:i=l.length
   ·subst h1;simp
   ·by_cases h2:i<l.length
    ·simp[h1,h2]
    ·have h3:i-l.length≠0:=by omega
     obtain⟨m,hm⟩:∃m,i-l.length=m+1:=⟨i-l.length-1,by omega⟩
     simp[h1,h2,hm]
  simp only[es,List.length_append,List.length_cons,List.length_nil,Lv]
theorem Q8{M:pk α β}(h:∀x,af (M.ve x)=true){l:List (α×β)}:QE (mapA M l):=by
 intro i e he;unfold mapA at he;rw[LM,YA]at he;obtain⟨p,_,rfl⟩:=Option.map_eq_some_iff.1 he;exact h _
end
end Go.CE
namespace Go.CE
open Go Go.RowKit
end Go.CE

namespace Go.Proofs.Ytncjjangllkokaa
open Go Go.CE Go.RowKit
set_option maxRecDepth 100000
def Rh(plan:List Int)(s:Int):F4:=⟨if 0<s then plan.getD 0 0 else -1,if 1<s then plan.getD 1 0 else -1,if 2<s then plan.getD 2 0 else -1,if 3<s then plan.getD 3 0 else -1⟩
def G6(x y:F4):Bool:=decide (x.a=y.a) && (decide (x.b=y.b) && (decide (x.c=y.c) && decide (x.d=y.d)))
theorem tM{x y:F4}:G6 x y=true<->x=y:=by
 cases x;cases y;simp[G6]
abbrev v4(f:F4):Value:=.agg #[.int .i64 f.a,.int .i64 f.b,.int .i64 f.c,.int .i64 f.d]
def Qu:pk F4 F4:=⟨v4,v4,G6⟩
theorem nt{P:Program}{t:TypeId}{a b:Int}{d:Nat}(hu:Xb P (underlying t)=some (.int .i64)):Xb P (Op.equalIn (d+1) t (.int .i64 a) (.int .i64 b))=some (decide (a=b)):=by
 rw[Op.equalIn,XG,hu];simp only[if_true,ZE];congr 1
theorem ZT:KeyC YP 82 Qu.ke Qu.eq:=⟨fun _=>by kernel_rfl,fun _ _=>by kernel_rfl,fun k=>by
 show((true && ((decide (IntKind.i64=.i64) && k.a==k.a) && _)):Bool)=true;simp[Instr.sameBits],fun k k' h=>tM.1 h,⟨.array 4 3,by kernel_rfl,.inr ⟨fun _ _=>by kernel_rfl,fun k k'=>by
  have hi:Xb YP (underlying 3)=some (.int .i64):=by kernel_rfl
  have hs:Xb YP (sizeOf 3)=some 1:=by kernel_rfl
  have hk:Xb YP (underlying 82)=some (.array 4 3):=by kernel_rfl
  have h0:∀(a b c d:Int),Xb YP (part 3 #[.int .i64 a,.int .i64 b,.int .i64 c,.int .i64 d] (0*1))=some (.int .i64 a):=fun a b c d=>by kernel_rfl
  have h1:∀(a b c d:Int),Xb YP (part 3 #[.int .i64 a,.int .i64 b,.int .i64 c,.int .i64 d] ((0+1)*1))=some (.int .i64 b):=fun a b c d=>by kernel_rfl
  have h2:∀(a b c d:Int),Xb YP (part 3 #[.int .i64 a,.int .i64 b,.int .i64 c,.int .i64 d] ((0+1+1)*1))=some (.int .i64 c):=fun a b c d=>by kernel_rfl
  have h3:∀(a b c d:Int),Xb YP (part 3 #[.int .i64 a,.int .i64 b,.int .i64 c,.int .i64 d] ((0+1+1+1)*1))=some (.int .i64 d):=fun a b c d=>by kernel_rfl
  show Xb YP (Op.equalIn (9998+1+1) 82 (.agg #[.int .i64 k.a,.int .i64 k.b,.int .i64 k.c,.int .i64 k.d]) (.agg #[.int .i64 k'.a,.int .i64 k'.b,.int .i64 k'.c,.int .i64 k'.d]))=_;rw[Op.equalIn,XG,hk];simp only[XG,hs];rw[Std.Legacy.Range.forIn_eq_forIn_range'];simp only[Std.Legacy.Range.size,Ls,List.forIn_cons,List.forIn_nil,XG];show _=some (decide (k.a=k'.a) && (decide (k.b=k'.b) && (decide (k.c=k'.c) && decide (k.d=k'.d))));simp only[XG,h0,nt hi];cases decide (k.a=k'.a)with
  |false=>rfl
  |true=>
   simp only[Bool.not_true,Bool.false_eq_true,if_false,ZE,Bool.true_and];simp only[XG,h1,nt hi];cases decide (k.b=k'.b)with
   |false=>rfl
   |true=>
    simp only[Bool.not_true,Bool.false_eq_true,if_false,ZE,Bool.true_and];simp only[XG,h2,nt hi];cases decide (k.c=k'.c)with
    |false=>rfl
    |true=>
     simp only[Bool.not_true,Bool.false_eq_true,if_false,ZE,Bool.true_and];simp only[XG,h3,nt hi];cases decide (k.d=k'.d)with
     |false=>rfl
     |true=>
      simp only[Bool.not_true,Bool.false_eq_true,if_false,ZE,Bool.true_and]⟩⟩⟩
def Vh(rf:Qc)(es:List (F4×F4)):Prop:=∀p∈es,∃(pl:List Int) (s:Nat),QP rf pl=true/\1<=s/\(s:Int)<=rf.Qb/\p.1=Rh pl s/\p.2=QH rf pl s
def Xd(rf:Qc)(plan:List Int):Nat->List (F4×F4)->List (F4×F4)
 |0,es=>es
 |s+1,es=>bif Pe Qu es (Rh plan ((s+1:Nat):Int))then es else Sb Qu (Xd rf plan s es) (Rh plan ((s+1:Nat):Int)) (X6 (Te rf) (Th rf (plan.getD s 0)) rf.Qa (QH rf plan s))
theorem Ka{rf:Qc}:Vh rf []:=fun p h=>by cases h
theorem EH{es:List (F4×F4)}{k:F4}(h:Pe Qu es k=true):(k,kD Qu es k)∈es:=by
 induction es with
 |nil=>cases h
 |cons p l ih=>
  unfold Pe KO at h;unfold kD sV;rw[List.any_cons]at h;cases e:Qu.eq k p.1 with
  |true=>rw[tM.1 e];exact List.mem_cons_self ..
  |false=>
   rw[e,Bool.false_or]at h;exact Lh _ (ih h)
theorem EG{es:List (F4×F4)}{k x:F4}:∀p∈Sb Qu es k x,p=(k,x)\/p∈es:=by
 induction es with
 |nil=>
  intro p h;unfold Sb nj at h;exact .inl (List.mem_singleton.1 h)
 |cons q l ih=>
  intro p h;unfold Sb nj at h;cases e:Qu.eq k q.1 with
  |true=>
   rw[e,cond_true]at h;rcases List.mem_cons.1 h with h|h
   ·exact .inl h
   ·exact .inr (Lh _ h)
  |false=>
   rw[e,cond_false]at h;rcases List.mem_cons.1 h with h|h
   ·exact .inr (h ▸ List.mem_cons_self ..)
   ·rcases ih p h with h|h
    ·exact .inl h
    ·exact .inr (Lh _ h)
theorem Dq{rf:Qc}(hr:X5 rf=true){pl pl':List Int}{s s':Nat}(h:QP rf pl=true)(h':QP rf pl'=true)(hs:(s:Int)<=rf.Qb)(hs':(s':Int)<=rf.Qb)(e:Rh pl s=Rh pl' s'):s=s'/\∀k:Nat,k<s->pl.getD k 0=pl'.getD k 0:=by
 have Zc:=Qz (Q6 hr).1;have g:=fun j=>K8 hr h j
 have g':=fun j=>K8 hr h' j
 have e0:=congrArg F4.a e;have e1:=congrArg F4.b e;have e2:=congrArg F4.c e;have e3:=congrArg F4.d e;simp only[Rh]at e0 e1 e2 e3;have g0:=g 0;have g1:=g 1;have g2:=g 2;have g3:=g 3;have g0':=g' 0;have g1':=g' 1;have g2':=g' 2;have g3':=g' 3;have es:s=s':=by
  repeat' split at e0
  all_goals (repeat' split at e1)
  all_goals (repeat' split at e2)
  all_goals (repeat' split at e3)
  all_goals omega
 subst es;refine⟨rfl,fun k hk=> ?_⟩;rcases(show k=0\/k=1\/k=2\/k=3 by omega)with rfl|rfl|rfl|rfl
 ·rw[if_pos (by omega),if_pos (by omega)]at e0;exact e0
 ·rw[if_pos (by omega),if_pos (by omega)]at e1;exact e1
 ·rw[if_pos (by omega),if_pos (by omega)]at e2;exact e2
 ·rw[if_pos (by omega),if_pos (by omega)]at e3;exact e3
theorem Kk{rf:Qc}{plan:List Int}{s:Nat}(h:((s+1:Nat):Int)<=rf.Qb):QH rf plan (s+1)=X6 (Te rf) (Th rf (plan.getD s 0)) rf.Qa (QH rf plan s):=Cn (i:=(s:Int)) (by omega) (by omega)
theorem sR{rf:Qc}{pl pl':List Int}:∀s:Nat,(s:Int)<=rf.Qb->(∀k:Nat,k<s->pl.getD k 0=pl'.getD k 0)->QH rf pl s=QH rf pl' s
 |0,_,_=>rfl
 |s+1,hs,h=>by
  rw[Kk hs,Kk hs,sR s (by omega) fun k hk=>h k (by omega),h s (by omega)]
theorem SW{rf:Qc}{plan:List Int}{es:List (F4×F4)}{s:Nat}(hr:X5 rf=true)(hp:QP rf plan=true)(he:Vh rf es)(hs:(s:Int)<=rf.Qb)(h:Pe Qu es (Rh plan s)=true):kD Qu es (Rh plan s)=QH rf plan s:=by
 obtain⟨pl,s',h1,_,h3,h4,h5⟩:=he _ (EH h);obtain⟨rfl,hk⟩:=Dq hr hp h1 hs h3 h4;rw[show kD Qu es (Rh plan s)=_ from h5];exact(sR s hs hk).symm
theorem Ym{rf:Qc}{plan:List Int}{es:List (F4×F4)}(hp:QP rf plan=true)(he:Vh rf es):∀s:Nat,(s:Int)<=rf.Qb->Vh rf (Xd rf plan s es)
 |0,_=>he
 |s+1,hs=>by
  unfold Xd;cases Pe Qu es (Rh plan ((s+1:Nat):Int))with
  |true=>exact he
  |false=>
   intro p h;rcases EG p h with rfl|h
   ·exact⟨plan,s+1,hp,by omega,hs,rfl,(Kk hs).symm⟩
   ·exact Ym hp he s (by omega) p h
theorem PQ{rf:Qc}{plan:List Int}(hr:X5 rf=true){s:Nat}(hs:(s:Int)<=rf.Qb):Jf ⟨(QH rf plan s).a,(QH rf plan s).b,(QH rf plan s).c,(QH rf plan s).d⟩/\F4.sum ⟨(QH rf plan s).a,(QH rf plan s).b,(QH rf plan s).c,(QH rf plan s).d⟩<=10000000000:=by
 have Zc:=Qz (Q6 hr).1;have h:=(vQ plan hr).st s (by omega);have hh:=(vQ plan hr).hs;refine⟨h.1, ?_⟩;have:=h.2;show(QH rf plan s).sum<=_;unfold QH;omega
def aV(a b c d k:Int)(w x y z i:Int):List Value:=[pA 2 0,pA 3 0,.int .i64 i]
def SF(a b c d k:Int)(w x y z i:Int):List Obj:=[.cells #[.int .i64 w,.int .i64 x,.int .i64 y,.int .i64 z] 82 (0,0),Obj.cells #[.int .i64 0,.int .i64 0,.int .i64 0,.int .i64 0] 82]
noncomputable def aW:List Item:=([.code [1,0,1,0,0],.inLoop [1,0,1,0,0],.inBlock 0,.code [1,1]]).map (it (Q9 YP 111))
def Ej(B:Lo)(c0:CF)(a b c d k:Int)(w x y z i:Int):Prop:=∃dJ:Nat->Value,(∀t,X0 (dJ t))/\GoE YP B c0 Za 1 (Xl 111 14 (([2,4,5]:List Nat).zip (aV a b c d k w x y z i)) dJ aW) (Xj (SF a b c d k w x y z i)) (2+(SF a b c d k w x y z i).length) []
theorem Eh(B:Lo)(a b c d k:Int)(w x y z i:Int)(Qt:Nat->Value):let e:=SF a b c d k w x y z i;landM (Qs YP (Q0 YP) J0 B 11 1 (Xl 111 14 (([2,4,5]:List Nat).zip (aV a b c d k w x y z i)) Qt aW) (Xj e) (2+e.length)
 [(1,VT),(3,Ql.WJ (Hint.idx i.toNat)),(4,Ql.WJ (Hint.st #[.int .i64 (if Lb i=0 then -1 else w),.int .i64 (if Lb i=1 then -1 else x),.int .i64 (if Lb i=2 then -1 else y),.int .i64 (if Lb i=3 then -1 else z)])),(6,VU (i+1))] 0 [] []) [2,4,5] [(2,KS.auto),(3,KS.auto)] []=some ⟨111,14,aW,[],.run,none,aV a b c d k (if Lb i=0 then -1 else w) (if Lb i=1 then -1 else x) (if Lb i=2 then -1 else y) (if Lb i=3 then -1 else z) (i+1),SF a b c d k (if Lb i=0 then -1 else w) (if Lb i=1 then -1 else x) (if Lb i=2 then -1 else y) (if Lb i=3 then -1 else z) (i+1),
 [wq (i+1)=i+1,0+Lb i*1+TypeInfo.size Try.t3<=Array.size #[Value.int .i64 w,.int .i64 x,.int .i64 y,.int .i64 z]/\splice #[.int .i64 w,.int .i64 x,.int .i64 y,.int .i64 z] (0+Lb i*1) (Value.cells (.int .i64 (-1)))=#[.int .i64 (if Lb i=0 then -1 else w),.int .i64 (if Lb i=1 then -1 else x),.int .i64 (if Lb i=2 then -1 else y),.int .i64 (if Lb i=3 then -1 else z)],i=(↑i.toNat:Int)/\Lb i<4,Zm i 4=true]⟩:=by intro e;kernel_rfl
theorem Eg(B:Lo)(a b c d k:Int)(w x y z i:Int)(Qt:Nat->Value):let e:=SF a b c d k w x y z i;QW (Qs YP (Q0 YP) J0 B 9 1 (Xl 111 14 (([2,4,5]:List Nat).zip (aV a b c d k w x y z i)) Qt aW) (Xj e) (2+e.length)
 [(1,VI)] 0 [] []) []=some (.agg #[.int .i64 w,.int .i64 x,.int .i64 y,.int .i64 z],
 [Zm i 4=false]):=by intro e;kernel_rfl
theorem Ef(B:Lo)(a b c d k:Int):landM (Qs YP (Q0 YP) J0 B 7 1 (Qr YP 111 14 (([.agg #[.int .i64 a,.int .i64 b,.int .i64 c,.int .i64 d],.int .i64 k]).map (Qy 0 4))) Za 1
 [] 0 [] []) [2,4,5] [(1,KS.auto),(2,KS.auto)] []=some ⟨111,14,aW,[],.run,none,aV a b c d k (a) (b) (c) (d) (k),SF a b c d k (a) (b) (c) (d) (k),
 []⟩:=by kernel_rfl
set_option maxHeartbeats 4000000 in
theorem Ei(a b c d k:Int)(k0:0<=k)(k4:k<=4){B:Lo}(hJ:∀w,B.has w->J0 w){c0:CF}:∀m:Nat,(∀(w x y z i:Int),(4-i).toNat=m->∀(h0:k<=i) (h4:i<=4) (hw:w=if k<=0/\0<i then -1 else a) (hx:x=if k<=1/\1<i then -1 else b) (hy:y=if k<=2/\2<i then -1 else c) (hz:z=if k<=3/\3<i then -1 else d),Ej B c0 a b c d k w x y z i->EndsT YP B c0 (.agg #[.int .i64 (if 0<k then a else -1),.int .i64 (if 1<k then b else -1),.int .i64 (if 2<k then c else -1),.int .i64 (if 3<k then d else -1)])):=by
 intro m0;induction m0 using LA with
 |_ m0 ih0=>
  intro w x y z i hm0 h0 h4 hw hx hy hz ⟨Qt,KF,XW⟩;by_cases q0:(i:Int)<(4)
  ·exact((ih0 _ (by omega)) (if Lb i=0 then -1 else w) (if Lb i=1 then -1 else x) (if Lb i=2 then -1 else y) (if Lb i=3 then -1 else z) (i+1) rfl (by omega) (by omega) (by omega) (by omega) (by omega) (by omega)
    (XW.landM okF hJ Qd (Eh B a b c d k w x y z i Qt)
    ⟨(Xq (by omega) (by omega)),⟨(cO rfl (fs:=[w,x,y,z]) rfl (LI (m:=4) (by omega) rfl) rfl),⟨⟨by omega,by omega⟩,⟨(XY q0),trivial⟩⟩⟩⟩ (by kernel_rfl) (by kernel_rfl))).cast (by rfl)
  ·exact(GoE.endsT okF hJ Qd XW (Eg B a b c d k w x y z i Qt)
    ⟨(XZ (Int.not_lt.1 q0)),trivial⟩).cast (by(simp_all[];omega))
set_option maxHeartbeats 4000000 in
theorem Ge(a b c d k:Int)(k0:0<=k)(k4:k<=4){B:Lo}(hJ:∀w,B.has w->J0 w):EndsT YP B (Qr YP 111 14 (([.agg #[.int .i64 a,.int .i64 b,.int .i64 c,.int .i64 d],.int .i64 k]).map (Qy 0 4))) (.agg #[.int .i64 (if 0<k then a else -1),.int .i64 (if 1<k then b else -1),.int .i64 (if 2<k then c else -1),.int .i64 (if 3<k then d else -1)]):=by
 exact((Ei a b c d k k0 k4 hJ _) (a) (b) (c) (d) (k) rfl (by omega) (by with_reducible assumption) (by omega) (by omega) (by omega) (by omega)
  (GoE.start.landM okF hJ Qd (Ef B a b c d k)
  trivial (by kernel_rfl) (by kernel_rfl))).cast (by rfl)
theorem Ek(a b c d k:Int)(k0:0<=k)(k4:k<=4):Qx YP J0 111 #[.agg #[.int .i64 a,.int .i64 b,.int .i64 c,.int .i64 d],.int .i64 k] (.agg #[.int .i64 (if 0<k then a else -1),.int .i64 (if 1<k then b else -1),.int .i64 (if 2<k then c else -1),.int .i64 (if 3<k then d else -1)]):=
 Xn (ts:=[.agg #[.int .i64 a,.int .i64 b,.int .i64 c,.int .i64 d],.int .i64 k]) XQ (c0:=Qr YP 111 14 (([.agg #[.int .i64 a,.int .i64 b,.int .i64 c,.int .i64 d],.int .i64 k]).map (Qy 0 4))) (by kernel_rfl) (by kernel_rfl) fun B hJ=>Ge a b c d k k0 k4 hJ
end Go.Proofs.Ytncjjangllkokaa

namespace Go.Proofs.Ytncjjangllkokaa
open Go Go.CE Go.RowKit
noncomputable section
set_option maxRecDepth 100000
def kz(rf:Qc)(plan:List Int)(es:List (F4×F4)):Qj:=[(1,.map (mapA Qu es) es.length),(0,QM)]
def bE(rf:Qc)(plan:List Int)(es:List (F4×F4)):CF:=Qr YP 89 45 [.agg #[Qn 0 (Vb rf.Qa),.int .i64 rf.Qi,.int .i64 rf.Qb,.map (some 1)],.agg #[.int .i64 (plan.getD 0 0),.int .i64 (plan.getD 1 0),.int .i64 (plan.getD 2 0),.int .i64 (plan.getD 3 0)],.int .i64 0]
def C0(rf:Qc):Value:=(.agg #[.int .i64 (List.getD (um rf) 0 La),.int .i64 (List.getD (um rf) 1 La),.int .i64 (List.getD (um rf) 2 La),.int .i64 (List.getD (um rf) 3 La)])
theorem C1(B:Lo)(rf:Qc)(plan:List Int)(es:List (F4×F4)):let a:=C0 rf;CE.finK 2 (Qs YP (Q0 YP) J0 B 12 2 (bE rf plan es) (kz rf plan es) 2
 [(12,Ql.pure a [])] 0 [] []) [(1,KS.same)] [] []=some (OO.ret a,[(1,Obj.map (mapA Qu es) es.length)],[],
 [QE (mapA Qu es),Qw []/\Qx YP J0 75 #[.agg #[QJ rf.Qa.length (Qm Qf rf.Qa),.int .i64 rf.Qi,.int .i64 rf.Qb,.int .i64 (plan.getD 0 0),.int .i64 (plan.getD 1 0),.int .i64 (plan.getD 2 0),.int .i64 (plan.getD 3 0)],Value.func (Fn.func 76) #[] #[]] a]):=by intro a;kernel_rfl
set_option maxHeartbeats 4000000 in
theorem EA(rf:Qc)(plan:List Int)(es:List (F4×F4))(hr:X5 rf=true)(hp:QP rf plan=true)(he:Vh rf es){B:Lo}(hJ:∀w,B.has w->J0 w):FinK YP B (bE rf plan es) (kz rf plan es) 2 (.ret (.agg #[.int .i64 (QH rf plan 0).a,.int .i64 (QH rf plan 0).b,.int .i64 (QH rf plan 0).c,.int .i64 (QH rf plan 0).d])) (([1]:List Nat).zip [.map (mapA Qu (Xd rf plan 0 es)) (Xd rf plan 0 es).length]) [] ([1]:List Nat):=by
 have Zc:=Qz (Q6 hr).1;exact(GoE.finK okF hJ Qd (Qk (by kernel_rfl)) (Qg (by kernel_rfl)) ((GoE.refl (P:=YP) (B:=B) (c0:=bE rf plan es) (Qk (by kernel_rfl))).widen (Wf:=((([(1,KS.same)]):List (Nat×KS)).map (·.1))) (by simp) (Qg (by kernel_rfl))) (C1 B rf plan es)
  ⟨(by exact Q8 (fun _=>by kernel_rfl)),⟨⟨trivial,Ea (rf) (plan) (by with_reducible assumption)⟩,trivial⟩⟩).cast (by rfl) (by rfl) (by rfl)
def oB(rf:Qc)(plan:List Int)(es:List (F4×F4)):OO:=.ret (.agg #[.int .i64 (QH rf plan 0).a,.int .i64 (QH rf plan 0).b,.int .i64 (QH rf plan 0).c,.int .i64 (QH rf plan 0).d])
def oA(rf:Qc)(plan:List Int)(es:List (F4×F4)):List Obj:=[.map (mapA Qu (Xd rf plan 0 es)) (Xd rf plan 0 es).length]
def oC(rf:Qc)(plan:List Int)(es:List (F4×F4)):List Obj:=[]
def EB(rf:Qc)(plan:List Int)(es:List (F4×F4)):Prop:=WriC YP J0 89 #[.agg #[Qn 0 (Vb rf.Qa),.int .i64 rf.Qi,.int .i64 rf.Qb,.map (some 1)],.agg #[.int .i64 (plan.getD 0 0),.int .i64 (plan.getD 1 0),.int .i64 (plan.getD 2 0),.int .i64 (plan.getD 3 0)],.int .i64 0] [.map (mapA Qu es) es.length] (oB rf plan es) (oA rf plan es) (oC rf plan es)
theorem Fw(rf:Qc)(plan:List Int)(es:List (F4×F4))(hr:X5 rf=true)(hp:QP rf plan=true)(he:Vh rf es):WriC YP J0 89 #[.agg #[Qn 0 (Vb rf.Qa),.int .i64 rf.Qi,.int .i64 rf.Qb,.map (some 1)],.agg #[.int .i64 (plan.getD 0 0),.int .i64 (plan.getD 1 0),.int .i64 (plan.getD 2 0),.int .i64 (plan.getD 3 0)],.int .i64 0] [.map (mapA Qu es) es.length] (oB rf plan es) (oA rf plan es) (oC rf plan es):=
 FinK.wri (c0:=bE rf plan es) (Hb:=kz rf plan es) (a:=2) (ws:=([1]:List Nat).zip [.map (mapA Qu (Xd rf plan 0 es)) (Xd rf plan 0 es).length]) (Wf:=([1]:List Nat)) (by kernel_rfl) rfl rfl rfl rfl fun B hJ=>EA rf plan es hr hp he hJ
def bD(rf:Qc)(plan:List Int)(es:List (F4×F4)):Qj:=[(1,.map (mapA Qu es) es.length),(0,QM)]
def Pc(rf:Qc)(plan:List Int)(es:List (F4×F4)):CF:=Qr YP 89 45 [.agg #[Qn 0 (Vb rf.Qa),.int .i64 rf.Qi,.int .i64 rf.Qb,.map (some 1)],.agg #[.int .i64 (plan.getD 0 0),.int .i64 (plan.getD 1 0),.int .i64 (plan.getD 2 0),.int .i64 (plan.getD 3 0)],.int .i64 1]
def tt(plan:List Int)(es:List (F4×F4)):Array Value:=let e:=kD Qu es {a:=if 0<1 then plan.getD 0 0 else -1,b:= -1,c:= -1,d:= -1};#[.int .i64 e.a,.int .i64 e.b,.int .i64 e.c,.int .i64 e.d]
def Sa(plan:List Int):Value:=(.agg #[.int .i64 (if 0<1 then plan.getD 0 0 else -1),.int .i64 (-1),.int .i64 (-1),.int .i64 (-1)])
def tq(rf:Qc)(plan:List Int):=(Th rf (plan.getD (Lb 0) 0))
def Cx(rf:Qc)(plan:List Int):Value:=let f:=QH rf plan 0;let e:=X6 (Te rf) (tq rf plan) rf.Qa {a:=f.a,b:=f.b,c:=f.c,d:=f.d};(.agg #[.int .i64 e.a,.int .i64 e.b,.int .i64 e.c,.int .i64 e.d])
def tp  :Value:=(.tuple #[.agg #[.int .i64 0,.int .i64 0,.int .i64 0,.int .i64 0],.bool false])
def ky(B:Lo)(rf:Qc)(plan:List Int)(es:List (F4×F4)):List Prop:=[Qw []/\Qx YP J0 111 #[.agg #[.int .i64 (plan.getD 0 0),.int .i64 (plan.getD 1 0),.int .i64 (plan.getD 2 0),.int .i64 (plan.getD 3 0)],.int .i64 1] (Sa plan)]++([]:List Prop)
def tu(rf:Qc)(plan:List Int)(es:List (F4×F4)):Q2:=[(13,Ql.pure (Sa plan) [])]
theorem Cz(B:Lo)(rf:Qc)(plan:List Int)(es:List (F4×F4)):let b:=mapA Qu es;let a:=Value.tuple #[.agg (tt plan es),.bool true];CE.finK 2 (Qs YP (Q0 YP) J0 B 22 2 (Pc rf plan es) (bD rf plan es) 2
 (tu rf plan es++[(19,Ql.WJ (Hint.look a))]) 0 [] []) [(1,KS.same)] [] []=some (OO.ret (.agg (tt plan es)),[(1,Obj.map b es.length)],[],
 [QE b,YM YP 96 b true (Xm {len:=16000,tr:=Tri.set 14 (Tri.set 14 Tri.lf 25 (Sa plan)) 24 (Value.map (some 1))} 25) a]++ky B rf plan es):=by intro b a;kernel_rfl
theorem Cy(B:Lo)(rf:Qc)(plan:List Int)(es:List (F4×F4)):let l:=Value.map (some 1);let k:=rf.Qa;let j:=Cx rf plan;let i:=Tri.set 14 (Tri.set 14 Tri.lf 43 j) 42 (Sa plan);let h:=Xd rf plan 0 es;let g:=QH rf plan 0;let f:=Sb Qu h {a:=if 0<1 then plan.getD 0 0 else -1,b:= -1,c:= -1,d:= -1} (X6 (Te rf) (Th rf (plan.getD (Lb 0) 0)) k {a:=g.a,b:=g.b,c:=g.c,d:=g.d});let e:=Sb Qu h {a:=if 0<1 then plan.getD 0 0 else -1,b:= -1,c:= -1,d:= -1} (X6 (Te rf) (tq rf plan) k {a:=g.a,b:=g.b,c:=g.c,d:=g.d});CE.finK 2 (Qs YP (Q0 YP) J0 B 24 2 (Pc rf plan es) (bD rf plan es) 2
 (tu rf plan es++[(19,Ql.WJ (Hint.look tp)),(33,Ql.wri [1] [0] [true] [] (oB rf plan es) (oA rf plan es) (oC rf plan es)),(36,Ql.pure j []),(42,Ql.WJ (Hint.upd (mapA Qu e) e.length))]) 0 [] []) [(1,KS.same)] [] []=some (OO.ret j,[(1,Obj.map (mapA Qu e) e.length)],[],
 [QE (mapA Qu f),cQ YP 96 (mapA Qu h) h.length (Xm {len:=16000,tr:=Tri.set 14 i 41 l} 42) (Xm {len:=16000,tr:=Tri.set 14 i 41 l} 43) (mapA Qu f) f.length,Qw []/\Qx YP J0 78 #[.agg #[QJ k.length (Qm Qf k),.int .i64 rf.Qi,.int .i64 rf.Qb,.int .i64 (plan.getD 0 0),.int .i64 (plan.getD 1 0),.int .i64 (plan.getD 2 0),.int .i64 (plan.getD 3 0)],.agg #[.int .i64 g.a,.int .i64 g.b,.int .i64 g.c,.int .i64 g.d],.int .i64 0] j,Qw [QE (mapA Qu es),QE (mapA Qu h)]/\EB (rf) (plan) (es),YM YP 96 (mapA Qu es) true (Xm {len:=16000,tr:=Tri.set 14 (Tri.set 14 Tri.lf 25 (Sa plan)) 24 l} 25) tp]++ky B rf plan es):=by intro l k j i h g f e;kernel_rfl
set_option maxHeartbeats 4000000 in
theorem E8(rf:Qc)(plan:List Int)(es:List (F4×F4))(hr:X5 rf=true)(hp:QP rf plan=true)(he:Vh rf es)(hs:1<=rf.Qb){B:Lo}(hJ:∀w,B.has w->J0 w):FinK YP B (Pc rf plan es) (bD rf plan es) 2 (.ret (.agg #[.int .i64 (QH rf plan 1).a,.int .i64 (QH rf plan 1).b,.int .i64 (QH rf plan 1).c,.int .i64 (QH rf plan 1).d])) (([1]:List Nat).zip [.map (mapA Qu (Xd rf plan 1 es)) (Xd rf plan 1 es).length]) [] ([1]:List Nat):=by
 have Zc:=Qz (Q6 hr).1;have hpf:=(QK hp).1;have hpg:∀j:Nat,0<=plan.getD j 0/\plan.getD j 0<=1000000:=fun j=>(fun h=>⟨h.1,by omega⟩) (K8 hr hp j)
 have hf4:=(PQ (plan:=plan) hr (s:=0) (by omega)).1;have hs4:=(PQ (plan:=plan) hr (s:=0) (by omega)).2;have hnx:=Kk (rf:=rf) (plan:=plan) (s:=0) (by omega);have WL:Qw (ky B rf plan es):=by
  exact⟨⟨trivial,Ek (plan.getD 0 0) (plan.getD 1 0) (plan.getD 2 0) (plan.getD 3 0) (1) (by omega) (by omega)⟩,trivial⟩
 cases q0:Pe Qu es {a:=if 0<1 then plan.getD 0 0 else -1,b:= -1,c:= -1,d:= -1}with
 |true=>
  have hfo:=SW (s:=1) hr hp he (by omega) q0;exact(GoE.finK okF hJ Qd (Qk (by kernel_rfl)) (Qg (by kernel_rfl)) ((GoE.refl (P:=YP) (B:=B) (c0:=Pc rf plan es) (Qk (by kernel_rfl))).widen (Wf:=((([(1,KS.same)]):List (Nat×KS)).map (·.1))) (by simp) (Qg (by kernel_rfl))) (Cz B rf plan es)
   ⟨(by exact Q8 (fun _=>by kernel_rfl)),⟨(nS (k:={a:=if 0<1 then plan.getD 0 0 else -1,b:= -1,c:= -1,d:= -1}) (ok:=true) ZT rfl q0),WL⟩⟩).cast (by(show _=OO.ret (v4 (QH rf plan 1));rw[<-hfo];rfl)) (by(unfold Xd;rw[show Pe Qu es (Rh plan ((0+1:Nat):Int))=_ from q0];rfl)) (by rfl)
 |false=>
  exact(GoE.finK okF hJ Qd (Qk (by kernel_rfl)) (Qg (by kernel_rfl)) ((GoE.refl (P:=YP) (B:=B) (c0:=Pc rf plan es) (Qk (by kernel_rfl))).widen (Wf:=((([(1,KS.same)]):List (Nat×KS)).map (·.1))) (by simp) (Qg (by kernel_rfl))) (Cy B rf plan es)
   ⟨(by exact Q8 (fun _=>by kernel_rfl)),⟨(Ew (k:={a:=if 0<1 then plan.getD 0 0 else -1,b:= -1,c:= -1,d:= -1}) (x:=X6 (Te rf) (Th rf (plan.getD (Lb 0) 0)) rf.Qa {a:=F4.a (QH rf plan 0),b:=F4.b (QH rf plan 0),c:=F4.c (QH rf plan 0),d:=F4.d (QH rf plan 0)}) ZT rfl),⟨⟨trivial,eP (rf) (plan) (F4.a (QH rf plan 0)) (F4.b (QH rf plan 0)) (F4.c (QH rf plan 0)) (F4.d (QH rf plan 0)) (0) (by with_reducible assumption) (by omega) (by with_reducible assumption) (by omega) (by omega) (by with_reducible assumption) (by with_reducible assumption)⟩,⟨⟨⟨(Q8 (fun _=>by kernel_rfl)),⟨(Q8 (fun _=>by kernel_rfl)),trivial⟩⟩,Fw (rf) (plan) (es) (by with_reducible assumption) (by with_reducible assumption) (by with_reducible assumption)⟩,⟨(nT (k:={a:=if 0<1 then plan.getD 0 0 else -1,b:= -1,c:= -1,d:= -1}) (ok:=true) ZT rfl rfl (by kernel_rfl) q0),WL⟩⟩⟩⟩⟩).cast (by(show _=OO.ret (v4 (QH rf plan (0+1)));rw[hnx];rfl)) (by(unfold Xd;rw[show Pe Qu es (Rh plan ((0+1:Nat):Int))=_ from q0];rfl)) (by rfl)
def o8(rf:Qc)(plan:List Int)(es:List (F4×F4)):OO:=.ret (.agg #[.int .i64 (QH rf plan 1).a,.int .i64 (QH rf plan 1).b,.int .i64 (QH rf plan 1).c,.int .i64 (QH rf plan 1).d])
def o7(rf:Qc)(plan:List Int)(es:List (F4×F4)):List Obj:=[.map (mapA Qu (Xd rf plan 1 es)) (Xd rf plan 1 es).length]
def o9(rf:Qc)(plan:List Int)(es:List (F4×F4)):List Obj:=[]
def E9(rf:Qc)(plan:List Int)(es:List (F4×F4)):Prop:=WriC YP J0 89 #[.agg #[Qn 0 (Vb rf.Qa),.int .i64 rf.Qi,.int .i64 rf.Qb,.map (some 1)],.agg #[.int .i64 (plan.getD 0 0),.int .i64 (plan.getD 1 0),.int .i64 (plan.getD 2 0),.int .i64 (plan.getD 3 0)],.int .i64 1] [.map (mapA Qu es) es.length] (o8 rf plan es) (o7 rf plan es) (o9 rf plan es)
theorem Fv(rf:Qc)(plan:List Int)(es:List (F4×F4))(hr:X5 rf=true)(hp:QP rf plan=true)(he:Vh rf es)(hs:1<=rf.Qb):WriC YP J0 89 #[.agg #[Qn 0 (Vb rf.Qa),.int .i64 rf.Qi,.int .i64 rf.Qb,.map (some 1)],.agg #[.int .i64 (plan.getD 0 0),.int .i64 (plan.getD 1 0),.int .i64 (plan.getD 2 0),.int .i64 (plan.getD 3 0)],.int .i64 1] [.map (mapA Qu es) es.length] (o8 rf plan es) (o7 rf plan es) (o9 rf plan es):=
 FinK.wri (c0:=Pc rf plan es) (Hb:=bD rf plan es) (a:=2) (ws:=([1]:List Nat).zip [.map (mapA Qu (Xd rf plan 1 es)) (Xd rf plan 1 es).length]) (Wf:=([1]:List Nat)) (by kernel_rfl) rfl rfl rfl rfl fun B hJ=>E8 rf plan es hr hp he hs hJ
def bC(rf:Qc)(plan:List Int)(es:List (F4×F4)):Qj:=[(1,.map (mapA Qu es) es.length),(0,QM)]
def Pb(rf:Qc)(plan:List Int)(es:List (F4×F4)):CF:=Qr YP 89 45 [.agg #[Qn 0 (Vb rf.Qa),.int .i64 rf.Qi,.int .i64 rf.Qb,.map (some 1)],.agg #[.int .i64 (plan.getD 0 0),.int .i64 (plan.getD 1 0),.int .i64 (plan.getD 2 0),.int .i64 (plan.getD 3 0)],.int .i64 2]
def tl(plan:List Int)(es:List (F4×F4)):Array Value:=let e:=kD Qu es {a:=if 0<2 then plan.getD 0 0 else -1,b:=if 1<2 then plan.getD 1 0 else -1,c:= -1,d:= -1};#[.int .i64 e.a,.int .i64 e.b,.int .i64 e.c,.int .i64 e.d]
def RZ(plan:List Int):Value:=(.agg #[.int .i64 (if 0<2 then plan.getD 0 0 else -1),.int .i64 (if 1<2 then plan.getD 1 0 else -1),.int .i64 (-1),.int .i64 (-1)])
def tk(rf:Qc)(plan:List Int):=(Th rf (plan.getD (Lb 1) 0))
def Cu(rf:Qc)(plan:List Int):Value:=let f:=QH rf plan 1;let e:=X6 (Te rf) (tk rf plan) rf.Qa {a:=f.a,b:=f.b,c:=f.c,d:=f.d};(.agg #[.int .i64 e.a,.int .i64 e.b,.int .i64 e.c,.int .i64 e.d])
def tj  :Value:=(.tuple #[.agg #[.int .i64 0,.int .i64 0,.int .i64 0,.int .i64 0],.bool false])
def kx(B:Lo)(rf:Qc)(plan:List Int)(es:List (F4×F4)):List Prop:=[Qw []/\Qx YP J0 111 #[.agg #[.int .i64 (plan.getD 0 0),.int .i64 (plan.getD 1 0),.int .i64 (plan.getD 2 0),.int .i64 (plan.getD 3 0)],.int .i64 2] (RZ plan)]++([]:List Prop)
def tn(rf:Qc)(plan:List Int)(es:List (F4×F4)):Q2:=[(13,Ql.pure (RZ plan) [])]
theorem Cw(B:Lo)(rf:Qc)(plan:List Int)(es:List (F4×F4)):let b:=mapA Qu es;let a:=Value.tuple #[.agg (tl plan es),.bool true];CE.finK 2 (Qs YP (Q0 YP) J0 B 22 2 (Pb rf plan es) (bC rf plan es) 2
 (tn rf plan es++[(19,Ql.WJ (Hint.look a))]) 0 [] []) [(1,KS.same)] [] []=some (OO.ret (.agg (tl plan es)),[(1,Obj.map b es.length)],[],
 [QE b,YM YP 96 b true (Xm {len:=16000,tr:=Tri.set 14 (Tri.set 14 Tri.lf 25 (RZ plan)) 24 (Value.map (some 1))} 25) a]++kx B rf plan es):=by intro b a;kernel_rfl
theorem Cv(B:Lo)(rf:Qc)(plan:List Int)(es:List (F4×F4)):let l:=Value.map (some 1);let k:=rf.Qa;let j:=Cu rf plan;let i:=Tri.set 14 (Tri.set 14 Tri.lf 43 j) 42 (RZ plan);let h:=Xd rf plan 1 es;let g:=QH rf plan 1;let f:=Sb Qu h {a:=if 0<2 then plan.getD 0 0 else -1,b:=if 1<2 then plan.getD 1 0 else -1,c:= -1,d:= -1} (X6 (Te rf) (Th rf (plan.getD (Lb 1) 0)) k {a:=g.a,b:=g.b,c:=g.c,d:=g.d});let e:=Sb Qu h {a:=if 0<2 then plan.getD 0 0 else -1,b:=if 1<2 then plan.getD 1 0 else -1,c:= -1,d:= -1} (X6 (Te rf) (tk rf plan) k {a:=g.a,b:=g.b,c:=g.c,d:=g.d});CE.finK 2 (Qs YP (Q0 YP) J0 B 24 2 (Pb rf plan es) (bC rf plan es) 2
 (tn rf plan es++[(19,Ql.WJ (Hint.look tj)),(33,Ql.wri [1] [0] [true] [] (o8 rf plan es) (o7 rf plan es) (o9 rf plan es)),(36,Ql.pure j []),(42,Ql.WJ (Hint.upd (mapA Qu e) e.length))]) 0 [] []) [(1,KS.same)] [] []=some (OO.ret j,[(1,Obj.map (mapA Qu e) e.length)],[],
 [QE (mapA Qu f),cQ YP 96 (mapA Qu h) h.length (Xm {len:=16000,tr:=Tri.set 14 i 41 l} 42) (Xm {len:=16000,tr:=Tri.set 14 i 41 l} 43) (mapA Qu f) f.length,Qw []/\Qx YP J0 78 #[.agg #[QJ k.length (Qm Qf k),.int .i64 rf.Qi,.int .i64 rf.Qb,.int .i64 (plan.getD 0 0),.int .i64 (plan.getD 1 0),.int .i64 (plan.getD 2 0),.int .i64 (plan.getD 3 0)],.agg #[.int .i64 g.a,.int .i64 g.b,.int .i64 g.c,.int .i64 g.d],.int .i64 1] j,Qw [QE (mapA Qu es),QE (mapA Qu h)]/\E9 (rf) (plan) (es),YM YP 96 (mapA Qu es) true (Xm {len:=16000,tr:=Tri.set 14 (Tri.set 14 Tri.lf 25 (RZ plan)) 24 l} 25) tj]++kx B rf plan es):=by intro l k j i h g f e;kernel_rfl
set_option maxHeartbeats 4000000 in
theorem E6(rf:Qc)(plan:List Int)(es:List (F4×F4))(hr:X5 rf=true)(hp:QP rf plan=true)(he:Vh rf es)(hs:2<=rf.Qb){B:Lo}(hJ:∀w,B.has w->J0 w):FinK YP B (Pb rf plan es) (bC rf plan es) 2 (.ret (.agg #[.int .i64 (QH rf plan 2).a,.int .i64 (QH rf plan 2).b,.int .i64 (QH rf plan 2).c,.int .i64 (QH rf plan 2).d])) (([1]:List Nat).zip [.map (mapA Qu (Xd rf plan 2 es)) (Xd rf plan 2 es).length]) [] ([1]:List Nat):=by
 have Zc:=Qz (Q6 hr).1;have hpf:=(QK hp).1;have hpg:∀j:Nat,0<=plan.getD j 0/\plan.getD j 0<=1000000:=fun j=>(fun h=>⟨h.1,by omega⟩) (K8 hr hp j)
 have hf4:=(PQ (plan:=plan) hr (s:=1) (by omega)).1;have hs4:=(PQ (plan:=plan) hr (s:=1) (by omega)).2;have hnx:=Kk (rf:=rf) (plan:=plan) (s:=1) (by omega);have WL:Qw (kx B rf plan es):=by
  exact⟨⟨trivial,Ek (plan.getD 0 0) (plan.getD 1 0) (plan.getD 2 0) (plan.getD 3 0) (2) (by omega) (by omega)⟩,trivial⟩
 cases q0:Pe Qu es {a:=if 0<2 then plan.getD 0 0 else -1,b:=if 1<2 then plan.getD 1 0 else -1,c:= -1,d:= -1}with
 |true=>
  have hfo:=SW (s:=2) hr hp he (by omega) q0;exact(GoE.finK okF hJ Qd (Qk (by kernel_rfl)) (Qg (by kernel_rfl)) ((GoE.refl (P:=YP) (B:=B) (c0:=Pb rf plan es) (Qk (by kernel_rfl))).widen (Wf:=((([(1,KS.same)]):List (Nat×KS)).map (·.1))) (by simp) (Qg (by kernel_rfl))) (Cw B rf plan es)
   ⟨(by exact Q8 (fun _=>by kernel_rfl)),⟨(nS (k:={a:=if 0<2 then plan.getD 0 0 else -1,b:=if 1<2 then plan.getD 1 0 else -1,c:= -1,d:= -1}) (ok:=true) ZT rfl q0),WL⟩⟩).cast (by(show _=OO.ret (v4 (QH rf plan 2));rw[<-hfo];rfl)) (by(unfold Xd;rw[show Pe Qu es (Rh plan ((1+1:Nat):Int))=_ from q0];rfl)) (by rfl)
 |false=>
  exact(GoE.finK okF hJ Qd (Qk (by kernel_rfl)) (Qg (by kernel_rfl)) ((GoE.refl (P:=YP) (B:=B) (c0:=Pb rf plan es) (Qk (by kernel_rfl))).widen (Wf:=((([(1,KS.same)]):List (Nat×KS)).map (·.1))) (by simp) (Qg (by kernel_rfl))) (Cv B rf plan es)
   ⟨(by exact Q8 (fun _=>by kernel_rfl)),⟨(Ew (k:={a:=if 0<2 then plan.getD 0 0 else -1,b:=if 1<2 then plan.getD 1 0 else -1,c:= -1,d:= -1}) (x:=X6 (Te rf) (Th rf (plan.getD (Lb 1) 0)) rf.Qa {a:=F4.a (QH rf plan 1),b:=F4.b (QH rf plan 1),c:=F4.c (QH rf plan 1),d:=F4.d (QH rf plan 1)}) ZT rfl),⟨⟨trivial,eP (rf) (plan) (F4.a (QH rf plan 1)) (F4.b (QH rf plan 1)) (F4.c (QH rf plan 1)) (F4.d (QH rf plan 1)) (1) (by with_reducible assumption) (by omega) (by with_reducible assumption) (by omega) (by omega) (by with_reducible assumption) (by with_reducible assumption)⟩,⟨⟨⟨(Q8 (fun _=>by kernel_rfl)),⟨(Q8 (fun _=>by kernel_rfl)),trivial⟩⟩,Fv (rf) (plan) (es) (by with_reducible assumption) (by with_reducible assumption) (by with_reducible assumption) (by omega)⟩,⟨(nT (k:={a:=if 0<2 then plan.getD 0 0 else -1,b:=if 1<2 then plan.getD 1 0 else -1,c:= -1,d:= -1}) (ok:=true) ZT rfl rfl (by kernel_rfl) q0),WL⟩⟩⟩⟩⟩).cast (by(show _=OO.ret (v4 (QH rf plan (1+1)));rw[hnx];rfl)) (by(unfold Xd;rw[show Pe Qu es (Rh plan ((1+1:Nat):Int))=_ from q0];rfl)) (by rfl)
def o5(rf:Qc)(plan:List Int)(es:List (F4×F4)):OO:=.ret (.agg #[.int .i64 (QH rf plan 2).a,.int .i64 (QH rf plan 2).b,.int .i64 (QH rf plan 2).c,.int .i64 (QH rf plan 2).d])
def o4(rf:Qc)(plan:List Int)(es:List (F4×F4)):List Obj:=[.map (mapA Qu (Xd rf plan 2 es)) (Xd rf plan 2 es).length]
def o6(rf:Qc)(plan:List Int)(es:List (F4×F4)):List Obj:=[]
def E7(rf:Qc)(plan:List Int)(es:List (F4×F4)):Prop:=WriC YP J0 89 #[.agg #[Qn 0 (Vb rf.Qa),.int .i64 rf.Qi,.int .i64 rf.Qb,.map (some 1)],.agg #[.int .i64 (plan.getD 0 0),.int .i64 (plan.getD 1 0),.int .i64 (plan.getD 2 0),.int .i64 (plan.getD 3 0)],.int .i64 2] [.map (mapA Qu es) es.length] (o5 rf plan es) (o4 rf plan es) (o6 rf plan es)
theorem Fu(rf:Qc)(plan:List Int)(es:List (F4×F4))(hr:X5 rf=true)(hp:QP rf plan=true)(he:Vh rf es)(hs:2<=rf.Qb):WriC YP J0 89 #[.agg #[Qn 0 (Vb rf.Qa),.int .i64 rf.Qi,.int .i64 rf.Qb,.map (some 1)],.agg #[.int .i64 (plan.getD 0 0),.int .i64 (plan.getD 1 0),.int .i64 (plan.getD 2 0),.int .i64 (plan.getD 3 0)],.int .i64 2] [.map (mapA Qu es) es.length] (o5 rf plan es) (o4 rf plan es) (o6 rf plan es):=
 FinK.wri (c0:=Pb rf plan es) (Hb:=bC rf plan es) (a:=2) (ws:=([1]:List Nat).zip [.map (mapA Qu (Xd rf plan 2 es)) (Xd rf plan 2 es).length]) (Wf:=([1]:List Nat)) (by kernel_rfl) rfl rfl rfl rfl fun B hJ=>E6 rf plan es hr hp he hs hJ
def bB(rf:Qc)(plan:List Int)(es:List (F4×F4)):Qj:=[(1,.map (mapA Qu es) es.length),(0,QM)]
def Pa(rf:Qc)(plan:List Int)(es:List (F4×F4)):CF:=Qr YP 89 45 [.agg #[Qn 0 (Vb rf.Qa),.int .i64 rf.Qi,.int .i64 rf.Qb,.map (some 1)],.agg #[.int .i64 (plan.getD 0 0),.int .i64 (plan.getD 1 0),.int .i64 (plan.getD 2 0),.int .i64 (plan.getD 3 0)],.int .i64 3]
def th(plan:List Int)(es:List (F4×F4)):Array Value:=let e:=kD Qu es {a:=if 0<3 then plan.getD 0 0 else -1,b:=if 1<3 then plan.getD 1 0 else -1,c:=if 2<3 then plan.getD 2 0 else -1,d:= -1};#[.int .i64 e.a,.int .i64 e.b,.int .i64 e.c,.int .i64 e.d]
def RY(plan:List Int):Value:=(.agg #[.int .i64 (if 0<3 then plan.getD 0 0 else -1),.int .i64 (if 1<3 then plan.getD 1 0 else -1),.int .i64 (if 2<3 then plan.getD 2 0 else -1),.int .i64 (-1)])
def tg(rf:Qc)(plan:List Int):=(Th rf (plan.getD (Lb 2) 0))
def Cr(rf:Qc)(plan:List Int):Value:=let f:=QH rf plan 2;let e:=X6 (Te rf) (tg rf plan) rf.Qa {a:=f.a,b:=f.b,c:=f.c,d:=f.d};(.agg #[.int .i64 e.a,.int .i64 e.b,.int .i64 e.c,.int .i64 e.d])
def tf  :Value:=(.tuple #[.agg #[.int .i64 0,.int .i64 0,.int .i64 0,.int .i64 0],.bool false])
def ku(B:Lo)(rf:Qc)(plan:List Int)(es:List (F4×F4)):List Prop:=[Qw []/\Qx YP J0 111 #[.agg #[.int .i64 (plan.getD 0 0),.int .i64 (plan.getD 1 0),.int .i64 (plan.getD 2 0),.int .i64 (plan.getD 3 0)],.int .i64 3] (RY plan)]++([]:List Prop)
def ti(rf:Qc)(plan:List Int)(es:List (F4×F4)):Q2:=[(13,Ql.pure (RY plan) [])]
theorem Ct(B:Lo)(rf:Qc)(plan:List Int)(es:List (F4×F4)):let b:=mapA Qu es;let a:=Value.tuple #[.agg (th plan es),.bool true];CE.finK 2 (Qs YP (Q0 YP) J0 B 22 2 (Pa rf plan es) (bB rf plan es) 2
 (ti rf plan es++[(19,Ql.WJ (Hint.look a))]) 0 [] []) [(1,KS.same)] [] []=some (OO.ret (.agg (th plan es)),[(1,Obj.map b es.length)],[],
 [QE b,YM YP 96 b true (Xm {len:=16000,tr:=Tri.set 14 (Tri.set 14 Tri.lf 25 (RY plan)) 24 (Value.map (some 1))} 25) a]++ku B rf plan es):=by intro b a;kernel_rfl
theorem Cs(B:Lo)(rf:Qc)(plan:List Int)(es:List (F4×F4)):let l:=Value.map (some 1);let k:=rf.Qa;let j:=Cr rf plan;let i:=Tri.set 14 (Tri.set 14 Tri.lf 43 j) 42 (RY plan);let h:=Xd rf plan 2 es;let g:=QH rf plan 2;let f:=Sb Qu h {a:=if 0<3 then plan.getD 0 0 else -1,b:=if 1<3 then plan.getD 1 0 else -1,c:=if 2<3 then plan.getD 2 0 else -1,d:= -1} (X6 (Te rf) (Th rf (plan.getD (Lb 2) 0)) k {a:=g.a,b:=g.b,c:=g.c,d:=g.d});let e:=Sb Qu h {a:=if 0<3 then plan.getD 0 0 else -1,b:=if 1<3 then plan.getD 1 0 else -1,c:=if 2<3 then plan.getD 2 0 else -1,d:= -1} (X6 (Te rf) (tg rf plan) k {a:=g.a,b:=g.b,c:=g.c,d:=g.d});CE.finK 2 (Qs YP (Q0 YP) J0 B 24 2 (Pa rf plan es) (bB rf plan es) 2
 (ti rf plan es++[(19,Ql.WJ (Hint.look tf)),(33,Ql.wri [1] [0] [true] [] (o5 rf plan es) (o4 rf plan es) (o6 rf plan es)),(36,Ql.pure j []),(42,Ql.WJ (Hint.upd (mapA Qu e) e.length))]) 0 [] []) [(1,KS.same)] [] []=some (OO.ret j,[(1,Obj.map (mapA Qu e) e.length)],[],
 [QE (mapA Qu f),cQ YP 96 (mapA Qu h) h.length (Xm {len:=16000,tr:=Tri.set 14 i 41 l} 42) (Xm {len:=16000,tr:=Tri.set 14 i 41 l} 43) (mapA Qu f) f.length,Qw []/\Qx YP J0 78 #[.agg #[QJ k.length (Qm Qf k),.int .i64 rf.Qi,.int .i64 rf.Qb,.int .i64 (plan.getD 0 0),.int .i64 (plan.getD 1 0),.int .i64 (plan.getD 2 0),.int .i64 (plan.getD 3 0)],.agg #[.int .i64 g.a,.int .i64 g.b,.int .i64 g.c,.int .i64 g.d],.int .i64 2] j,Qw [QE (mapA Qu es),QE (mapA Qu h)]/\E7 (rf) (plan) (es),YM YP 96 (mapA Qu es) true (Xm {len:=16000,tr:=Tri.set 14 (Tri.set 14 Tri.lf 25 (RY plan)) 24 l} 25) tf]++ku B rf plan es):=by intro l k j i h g f e;kernel_rfl
set_option maxHeartbeats 4000000 in
theorem E4(rf:Qc)(plan:List Int)(es:List (F4×F4))(hr:X5 rf=true)(hp:QP rf plan=true)(he:Vh rf es)(hs:3<=rf.Qb){B:Lo}(hJ:∀w,B.has w->J0 w):FinK YP B (Pa rf plan es) (bB rf plan es) 2 (.ret (.agg #[.int .i64 (QH rf plan 3).a,.int .i64 (QH rf plan 3).b,.int .i64 (QH rf plan 3).c,.int .i64 (QH rf plan 3).d])) (([1]:List Nat).zip [.map (mapA Qu (Xd rf plan 3 es)) (Xd rf plan 3 es).length]) [] ([1]:List Nat):=by
 have Zc:=Qz (Q6 hr).1;have hpf:=(QK hp).1;have hpg:∀j:Nat,0<=plan.getD j 0/\plan.getD j 0<=1000000:=fun j=>(fun h=>⟨h.1,by omega⟩) (K8 hr hp j)
 have hf4:=(PQ (plan:=plan) hr (s:=2) (by omega)).1;have hs4:=(PQ (plan:=plan) hr (s:=2) (by omega)).2;have hnx:=Kk (rf:=rf) (plan:=plan) (s:=2) (by omega);have WL:Qw (ku B rf plan es):=by
  exact⟨⟨trivial,Ek (plan.getD 0 0) (plan.getD 1 0) (plan.getD 2 0) (plan.getD 3 0) (3) (by omega) (by omega)⟩,trivial⟩
 cases q0:Pe Qu es {a:=if 0<3 then plan.getD 0 0 else -1,b:=if 1<3 then plan.getD 1 0 else -1,c:=if 2<3 then plan.getD 2 0 else -1,d:= -1}with
 |true=>
  have hfo:=SW (s:=3) hr hp he (by omega) q0;exact(GoE.finK okF hJ Qd (Qk (by kernel_rfl)) (Qg (by kernel_rfl)) ((GoE.refl (P:=YP) (B:=B) (c0:=Pa rf plan es) (Qk (by kernel_rfl))).widen (Wf:=((([(1,KS.same)]):List (Nat×KS)).map (·.1))) (by simp) (Qg (by kernel_rfl))) (Ct B rf plan es)
   ⟨(by exact Q8 (fun _=>by kernel_rfl)),⟨(nS (k:={a:=if 0<3 then plan.getD 0 0 else -1,b:=if 1<3 then plan.getD 1 0 else -1,c:=if 2<3 then plan.getD 2 0 else -1,d:= -1}) (ok:=true) ZT rfl q0),WL⟩⟩).cast (by(show _=OO.ret (v4 (QH rf plan 3));rw[<-hfo];rfl)) (by(unfold Xd;rw[show Pe Qu es (Rh plan ((2+1:Nat):Int))=_ from q0];rfl)) (by rfl)
 |false=>
  exact(GoE.finK okF hJ Qd (Qk (by kernel_rfl)) (Qg (by kernel_rfl)) ((GoE.refl (P:=YP) (B:=B) (c0:=Pa rf plan es) (Qk (by kernel_rfl))).widen (Wf:=((([(1,KS.same)]):List (Nat×KS)).map (·.1))) (by simp) (Qg (by kernel_rfl))) (Cs B rf plan es)
   ⟨(by exact Q8 (fun _=>by kernel_rfl)),⟨(Ew (k:={a:=if 0<3 then plan.getD 0 0 else -1,b:=if 1<3 then plan.getD 1 0 else -1,c:=if 2<3 then plan.getD 2 0 else -1,d:= -1}) (x:=X6 (Te rf) (Th rf (plan.getD (Lb 2) 0)) rf.Qa {a:=F4.a (QH rf plan 2),b:=F4.b (QH rf plan 2),c:=F4.c (QH rf plan 2),d:=F4.d (QH rf plan 2)}) ZT rfl),⟨⟨trivial,eP (rf) (plan) (F4.a (QH rf plan 2)) (F4.b (QH rf plan 2)) (F4.c (QH rf plan 2)) (F4.d (QH rf plan 2)) (2) (by with_reducible assumption) (by omega) (by with_reducible assumption) (by omega) (by omega) (by with_reducible assumption) (by with_reducible assumption)⟩,⟨⟨⟨(Q8 (fun _=>by kernel_rfl)),⟨(Q8 (fun _=>by kernel_rfl)),trivial⟩⟩,Fu (rf) (plan) (es) (by with_reducible assumption) (by with_reducible assumption) (by with_reducible assumption) (by omega)⟩,⟨(nT (k:={a:=if 0<3 then plan.getD 0 0 else -1,b:=if 1<3 then plan.getD 1 0 else -1,c:=if 2<3 then plan.getD 2 0 else -1,d:= -1}) (ok:=true) ZT rfl rfl (by kernel_rfl) q0),WL⟩⟩⟩⟩⟩).cast (by(show _=OO.ret (v4 (QH rf plan (2+1)));rw[hnx];rfl)) (by(unfold Xd;rw[show Pe Qu es (Rh plan ((2+1:Nat):Int))=_ from q0];rfl)) (by rfl)
def oz(rf:Qc)(plan:List Int)(es:List (F4×F4)):OO:=.ret (.agg #[.int .i64 (QH rf plan 3).a,.int .i64 (QH rf plan 3).b,.int .i64 (QH rf plan 3).c,.int .i64 (QH rf plan 3).d])
def oy(rf:Qc)(plan:List Int)(es:List (F4×F4)):List Obj:=[.map (mapA Qu (Xd rf plan 3 es)) (Xd rf plan 3 es).length]
def o3(rf:Qc)(plan:List Int)(es:List (F4×F4)):List Obj:=[]
def E5(rf:Qc)(plan:List Int)(es:List (F4×F4)):Prop:=WriC YP J0 89 #[.agg #[Qn 0 (Vb rf.Qa),.int .i64 rf.Qi,.int .i64 rf.Qb,.map (some 1)],.agg #[.int .i64 (plan.getD 0 0),.int .i64 (plan.getD 1 0),.int .i64 (plan.getD 2 0),.int .i64 (plan.getD 3 0)],.int .i64 3] [.map (mapA Qu es) es.length] (oz rf plan es) (oy rf plan es) (o3 rf plan es)
theorem Ft(rf:Qc)(plan:List Int)(es:List (F4×F4))(hr:X5 rf=true)(hp:QP rf plan=true)(he:Vh rf es)(hs:3<=rf.Qb):WriC YP J0 89 #[.agg #[Qn 0 (Vb rf.Qa),.int .i64 rf.Qi,.int .i64 rf.Qb,.map (some 1)],.agg #[.int .i64 (plan.getD 0 0),.int .i64 (plan.getD 1 0),.int .i64 (plan.getD 2 0),.int .i64 (plan.getD 3 0)],.int .i64 3] [.map (mapA Qu es) es.length] (oz rf plan es) (oy rf plan es) (o3 rf plan es):=
 FinK.wri (c0:=Pa rf plan es) (Hb:=bB rf plan es) (a:=2) (ws:=([1]:List Nat).zip [.map (mapA Qu (Xd rf plan 3 es)) (Xd rf plan 3 es).length]) (Wf:=([1]:List Nat)) (by kernel_rfl) rfl rfl rfl rfl fun B hJ=>E4 rf plan es hr hp he hs hJ
def bA(rf:Qc)(plan:List Int)(es:List (F4×F4)):Qj:=[(1,.map (mapA Qu es) es.length),(0,QM)]
def JZ(rf:Qc)(plan:List Int)(es:List (F4×F4)):CF:=Qr YP 89 45 [.agg #[Qn 0 (Vb rf.Qa),.int .i64 rf.Qi,.int .i64 rf.Qb,.map (some 1)],.agg #[.int .i64 (plan.getD 0 0),.int .i64 (plan.getD 1 0),.int .i64 (plan.getD 2 0),.int .i64 (plan.getD 3 0)],.int .i64 4]
def sZ(plan:List Int)(es:List (F4×F4)):Array Value:=let e:=kD Qu es {a:=if 0<4 then plan.getD 0 0 else -1,b:=if 1<4 then plan.getD 1 0 else -1,c:=if 2<4 then plan.getD 2 0 else -1,d:=if 3<4 then plan.getD 3 0 else -1};#[.int .i64 e.a,.int .i64 e.b,.int .i64 e.c,.int .i64 e.d]
def RX(plan:List Int):Value:=(.agg #[.int .i64 (if 0<4 then plan.getD 0 0 else -1),.int .i64 (if 1<4 then plan.getD 1 0 else -1),.int .i64 (if 2<4 then plan.getD 2 0 else -1),.int .i64 (if 3<4 then plan.getD 3 0 else -1)])
def sY(rf:Qc)(plan:List Int):=(Th rf (plan.getD (Lb 3) 0))
def Co(rf:Qc)(plan:List Int):Value:=let f:=QH rf plan 3;let e:=X6 (Te rf) (sY rf plan) rf.Qa {a:=f.a,b:=f.b,c:=f.c,d:=f.d};(.agg #[.int .i64 e.a,.int .i64 e.b,.int .i64 e.c,.int .i64 e.d])
def sX  :Value:=(.tuple #[.agg #[.int .i64 0,.int .i64 0,.int .i64 0,.int .i64 0],.bool false])
def kr(B:Lo)(rf:Qc)(plan:List Int)(es:List (F4×F4)):List Prop:=[Qw []/\Qx YP J0 111 #[.agg #[.int .i64 (plan.getD 0 0),.int .i64 (plan.getD 1 0),.int .i64 (plan.getD 2 0),.int .i64 (plan.getD 3 0)],.int .i64 4] (RX plan)]++([]:List Prop)
def tc(rf:Qc)(plan:List Int)(es:List (F4×F4)):Q2:=[(13,Ql.pure (RX plan) [])]
theorem Cq(B:Lo)(rf:Qc)(plan:List Int)(es:List (F4×F4)):let b:=mapA Qu es;let a:=Value.tuple #[.agg (sZ plan es),.bool true];CE.finK 2 (Qs YP (Q0 YP) J0 B 22 2 (JZ rf plan es) (bA rf plan es) 2
 (tc rf plan es++[(19,Ql.WJ (Hint.look a))]) 0 [] []) [(1,KS.same)] [] []=some (OO.ret (.agg (sZ plan es)),[(1,Obj.map b es.length)],[],
 [QE b,YM YP 96 b true (Xm {len:=16000,tr:=Tri.set 14 (Tri.set 14 Tri.lf 25 (RX plan)) 24 (Value.map (some 1))} 25) a]++kr B rf plan es):=by intro b a;kernel_rfl
theorem Cp(B:Lo)(rf:Qc)(plan:List Int)(es:List (F4×F4)):let l:=Value.map (some 1);let k:=rf.Qa;let j:=Co rf plan;let i:=Tri.set 14 (Tri.set 14 Tri.lf 43 j) 42 (RX plan);let h:=Xd rf plan 3 es;let g:=QH rf plan 3;let f:=Sb Qu h {a:=if 0<4 then plan.getD 0 0 else -1,b:=if 1<4 then plan.getD 1 0 else -1,c:=if 2<4 then plan.getD 2 0 else -1,d:=if 3<4 then plan.getD 3 0 else -1} (X6 (Te rf) (Th rf (plan.getD (Lb 3) 0)) k {a:=g.a,b:=g.b,c:=g.c,d:=g.d});let e:=Sb Qu h {a:=if 0<4 then plan.getD 0 0 else -1,b:=if 1<4 then plan.getD 1 0 else -1,c:=if 2<4 then plan.getD 2 0 else -1,d:=if 3<4 then plan.getD 3 0 else -1} (X6 (Te rf) (sY rf plan) k {a:=g.a,b:=g.b,c:=g.c,d:=g.d});CE.finK 2 (Qs YP (Q0 YP) J0 B 24 2 (JZ rf plan es) (bA rf plan es) 2
 (tc rf plan es++[(19,Ql.WJ (Hint.look sX)),(33,Ql.wri [1] [0] [true] [] (oz rf plan es) (oy rf plan es) (o3 rf plan es)),(36,Ql.pure j []),(42,Ql.WJ (Hint.upd (mapA Qu e) e.length))]) 0 [] []) [(1,KS.same)] [] []=some (OO.ret j,[(1,Obj.map (mapA Qu e) e.length)],[],
 [QE (mapA Qu f),cQ YP 96 (mapA Qu h) h.length (Xm {len:=16000,tr:=Tri.set 14 i 41 l} 42) (Xm {len:=16000,tr:=Tri.set 14 i 41 l} 43) (mapA Qu f) f.length,Qw []/\Qx YP J0 78 #[.agg #[QJ k.length (Qm Qf k),.int .i64 rf.Qi,.int .i64 rf.Qb,.int .i64 (plan.getD 0 0),.int .i64 (plan.getD 1 0),.int .i64 (plan.getD 2 0),.int .i64 (plan.getD 3 0)],.agg #[.int .i64 g.a,.int .i64 g.b,.int .i64 g.c,.int .i64 g.d],.int .i64 3] j,Qw [QE (mapA Qu es),QE (mapA Qu h)]/\E5 (rf) (plan) (es),YM YP 96 (mapA Qu es) true (Xm {len:=16000,tr:=Tri.set 14 (Tri.set 14 Tri.lf 25 (RX plan)) 24 l} 25) sX]++kr B rf plan es):=by intro l k j i h g f e;kernel_rfl
set_option maxHeartbeats 4000000 in
theorem E3(rf:Qc)(plan:List Int)(es:List (F4×F4))(hr:X5 rf=true)(hp:QP rf plan=true)(he:Vh rf es)(hs:4<=rf.Qb){B:Lo}(hJ:∀w,B.has w->J0 w):FinK YP B (JZ rf plan es) (bA rf plan es) 2 (.ret (.agg #[.int .i64 (QH rf plan 4).a,.int .i64 (QH rf plan 4).b,.int .i64 (QH rf plan 4).c,.int .i64 (QH rf plan 4).d])) (([1]:List Nat).zip [.map (mapA Qu (Xd rf plan 4 es)) (Xd rf plan 4 es).length]) [] ([1]:List Nat):=by
 have Zc:=Qz (Q6 hr).1;have hpf:=(QK hp).1;have hpg:∀j:Nat,0<=plan.getD j 0/\plan.getD j 0<=1000000:=fun j=>(fun h=>⟨h.1,by omega⟩) (K8 hr hp j)
 have hf4:=(PQ (plan:=plan) hr (s:=3) (by omega)).1;have hs4:=(PQ (plan:=plan) hr (s:=3) (by omega)).2;have hnx:=Kk (rf:=rf) (plan:=plan) (s:=3) (by omega);have WL:Qw (kr B rf plan es):=by
  exact⟨⟨trivial,Ek (plan.getD 0 0) (plan.getD 1 0) (plan.getD 2 0) (plan.getD 3 0) (4) (by omega) (by omega)⟩,trivial⟩
 cases q0:Pe Qu es {a:=if 0<4 then plan.getD 0 0 else -1,b:=if 1<4 then plan.getD 1 0 else -1,c:=if 2<4 then plan.getD 2 0 else -1,d:=if 3<4 then plan.getD 3 0 else -1}with
 |true=>
  have hfo:=SW (s:=4) hr hp he (by omega) q0;exact(GoE.finK okF hJ Qd (Qk (by kernel_rfl)) (Qg (by kernel_rfl)) ((GoE.refl (P:=YP) (B:=B) (c0:=JZ rf plan es) (Qk (by kernel_rfl))).widen (Wf:=((([(1,KS.same)]):List (Nat×KS)).map (·.1))) (by simp) (Qg (by kernel_rfl))) (Cq B rf plan es)
   ⟨(by exact Q8 (fun _=>by kernel_rfl)),⟨(nS (k:={a:=if 0<4 then plan.getD 0 0 else -1,b:=if 1<4 then plan.getD 1 0 else -1,c:=if 2<4 then plan.getD 2 0 else -1,d:=if 3<4 then plan.getD 3 0 else -1}) (ok:=true) ZT rfl q0),WL⟩⟩).cast (by(show _=OO.ret (v4 (QH rf plan 4));rw[<-hfo];rfl)) (by(unfold Xd;rw[show Pe Qu es (Rh plan ((3+1:Nat):Int))=_ from q0];rfl)) (by rfl)
 |false=>
  exact(GoE.finK okF hJ Qd (Qk (by kernel_rfl)) (Qg (by kernel_rfl)) ((GoE.refl (P:=YP) (B:=B) (c0:=JZ rf plan es) (Qk (by kernel_rfl))).widen (Wf:=((([(1,KS.same)]):List (Nat×KS)).map (·.1))) (by simp) (Qg (by kernel_rfl))) (Cp B rf plan es)
   ⟨(by exact Q8 (fun _=>by kernel_rfl)),⟨(Ew (k:={a:=if 0<4 then plan.getD 0 0 else -1,b:=if 1<4 then plan.getD 1 0 else -1,c:=if 2<4 then plan.getD 2 0 else -1,d:=if 3<4 then plan.getD 3 0 else -1}) (x:=X6 (Te rf) (Th rf (plan.getD (Lb 3) 0)) rf.Qa {a:=F4.a (QH rf plan 3),b:=F4.b (QH rf plan 3),c:=F4.c (QH rf plan 3),d:=F4.d (QH rf plan 3)}) ZT rfl),⟨⟨trivial,eP (rf) (plan) (F4.a (QH rf plan 3)) (F4.b (QH rf plan 3)) (F4.c (QH rf plan 3)) (F4.d (QH rf plan 3)) (3) (by with_reducible assumption) (by omega) (by with_reducible assumption) (by omega) (by omega) (by with_reducible assumption) (by with_reducible assumption)⟩,⟨⟨⟨(Q8 (fun _=>by kernel_rfl)),⟨(Q8 (fun _=>by kernel_rfl)),trivial⟩⟩,Ft (rf) (plan) (es) (by with_reducible assumption) (by with_reducible assumption) (by with_reducible assumption) (by omega)⟩,⟨(nT (k:={a:=if 0<4 then plan.getD 0 0 else -1,b:=if 1<4 then plan.getD 1 0 else -1,c:=if 2<4 then plan.getD 2 0 else -1,d:=if 3<4 then plan.getD 3 0 else -1}) (ok:=true) ZT rfl rfl (by kernel_rfl) q0),WL⟩⟩⟩⟩⟩).cast (by(show _=OO.ret (v4 (QH rf plan (3+1)));rw[hnx];rfl)) (by(unfold Xd;rw[show Pe Qu es (Rh plan ((3+1:Nat):Int))=_ from q0];rfl)) (by rfl)
def E1(rf:Qc)(plan:List Int)(es:List (F4×F4)):OO:=.ret (.agg #[.int .i64 (QH rf plan 4).a,.int .i64 (QH rf plan 4).b,.int .i64 (QH rf plan 4).c,.int .i64 (QH rf plan 4).d])
def E0(rf:Qc)(plan:List Int)(es:List (F4×F4)):List Obj:=[.map (mapA Qu (Xd rf plan 4 es)) (Xd rf plan 4 es).length]
def E2(rf:Qc)(plan:List Int)(es:List (F4×F4)):List Obj:=[]
theorem Ht(rf:Qc)(plan:List Int)(es:List (F4×F4))(hr:X5 rf=true)(hp:QP rf plan=true)(he:Vh rf es)(hs:4<=rf.Qb):WriC YP J0 89 #[.agg #[Qn 0 (Vb rf.Qa),.int .i64 rf.Qi,.int .i64 rf.Qb,.map (some 1)],.agg #[.int .i64 (plan.getD 0 0),.int .i64 (plan.getD 1 0),.int .i64 (plan.getD 2 0),.int .i64 (plan.getD 3 0)],.int .i64 4] [.map (mapA Qu es) es.length] (E1 rf plan es) (E0 rf plan es) (E2 rf plan es):=
 FinK.wri (c0:=JZ rf plan es) (Hb:=bA rf plan es) (a:=2) (ws:=([1]:List Nat).zip [.map (mapA Qu (Xd rf plan 4 es)) (Xd rf plan 4 es).length]) (Wf:=([1]:List Nat)) (by kernel_rfl) rfl rfl rfl rfl fun B hJ=>E3 rf plan es hr hp he hs hJ
end
end Go.Proofs.Ytncjjangllkokaa

namespace Go.Proofs.Ytncjjangllkokaa
open Go Go.CE Go.RowKit
noncomputable section
set_option maxRecDepth 100000
def nB(rf:Qc)(plan:List Int)(es:List (F4×F4))(k:Int):OO:=.ret (.agg #[.int .i64 (QH rf plan k.toNat).a,.int .i64 (QH rf plan k.toNat).b,.int .i64 (QH rf plan k.toNat).c,.int .i64 (QH rf plan k.toNat).d])
def nA(rf:Qc)(plan:List Int)(es:List (F4×F4))(k:Int):List Obj:=[.map (mapA Qu (Xd rf plan k.toNat es)) (Xd rf plan k.toNat es).length]
def nC(rf:Qc)(plan:List Int)(es:List (F4×F4))(k:Int):List Obj:=[]
def DW(rf:Qc)(plan:List Int)(es:List (F4×F4))(k:Int):Prop:=WriC YP J0 89 #[.agg #[Qn 0 (Vb rf.Qa),.int .i64 rf.Qi,.int .i64 rf.Qb,.map (some 1)],.agg #[.int .i64 (plan.getD 0 0),.int .i64 (plan.getD 1 0),.int .i64 (plan.getD 2 0),.int .i64 (plan.getD 3 0)],.int .i64 k] [.map (mapA Qu es) es.length] (nB rf plan es k) (nA rf plan es k) (nC rf plan es k)
theorem Hi(rf:Qc)(plan:List Int)(es:List (F4×F4))(k:Int)(hr:X5 rf=true)(hp:QP rf plan=true)(he:Vh rf es)(k0:0<=k)(hk:k<=rf.Qb):WriC YP J0 89 #[.agg #[Qn 0 (Vb rf.Qa),.int .i64 rf.Qi,.int .i64 rf.Qb,.map (some 1)],.agg #[.int .i64 (plan.getD 0 0),.int .i64 (plan.getD 1 0),.int .i64 (plan.getD 2 0),.int .i64 (plan.getD 3 0)],.int .i64 k] [.map (mapA Qu es) es.length] (nB rf plan es k) (nA rf plan es k) (nC rf plan es k):=by
 have Zc:=Qz (Q6 hr).1;rcases(show k=0\/k=1\/k=2\/k=3\/k=4 by omega)with rfl|rfl|rfl|rfl|rfl
 ·exact Fw rf plan es hr hp he
 ·exact Fv rf plan es hr hp he hk
 ·exact Fu rf plan es hr hp he hk
 ·exact Ft rf plan es hr hp he hk
 ·exact Ht rf plan es hr hp he hk
def QZ(f:F4):List Qe->Int->Bool×Int×Int
 |[],_=>(false,0,0)
 |x::l,i=>bif decide (0<x.goal-f.at i)then(true,i,x.goal-f.at i)else QZ f l (i+1)
theorem U1{f:F4}{l:List Qe}{i:Int}(h0:0<=i)(h:i<l.length):QZ f (l.drop i.toNat) i=bif decide (0<(l.getD i.toNat La).goal-f.at i)then(true,i,(l.getD i.toNat La).goal-f.at i)else QZ f (l.drop (i+1).toNat) (i+1):=by
 obtain⟨k,rfl⟩:∃k:Nat,i=k:=⟨i.toNat,by omega⟩
 have hk:k<l.length:=by omega
 have e1:((k:Int)).toNat=k:=by omega
 have e2:((k:Int)+1).toNat=k+1:=by omega
 rw[e1,e2,List.drop_eq_getElem_cons hk];simp[QZ,Li,hk]
theorem fV{f:F4}{l:List Qe}{i:Int}(h:l.length<=i):QZ f (l.drop i.toNat) i=(false,0,0):=by
 rw[List.drop_eq_nil_of_le (by omega)];rfl
theorem St{f:F4}:∀{l:List Qe} {i:Int},(QZ f l i).1=false->QZ f l i=(false,0,0)
 |[],_,_=>rfl
 |x::l,i,h=>by
  unfold QZ at h ⊢;cases e:decide (0<x.goal-f.at i)with
  |true=>rw[e]at h;cases h
  |false=>rw[e]at h;exact St h
def Y3(x_:Qe):Array Value:=#[.int .i64 x_.count,.int .i64 x_.room,.int .i64 x_.glo,.int .i64 x_.ghi,.int .i64 x_.QR,.int .i64 x_.XE,.int .i64 x_.JX,.int .i64 x_.JY,.int .i64 x_.Jz,.int .i64 x_.J1,.int .i64 x_.goal,.int .i64 x_.Xz]
def Xo(ps:List Qe)(f:F4):Qj:=[(3,Obj.cells #[.bool false] 4),(2,Obj.cells #[.int .i64 0,.int .i64 0] 94),(1,Obj.cells #[.int .i64 f.a,.int .i64 f.b,.int .i64 f.c,.int .i64 f.d] 111),(0,Obj.coro none)]
def XN(ps:List Qe)(f:F4):CF:=⟨88,ofList 26 [Qn 0 (QJ ps.length (Qm Qf ps)),.agg #[.int .i64 f.a,.int .i64 f.b,.int .i64 f.c,.int .i64 f.d],.tuple #[],pA 1 0,pA 2 0,pA 3 0,.tuple #[],.tuple #[],Value.func (Fn.func 109) #[] #[pA 2 0,pA 3 0],.tuple #[],.tuple #[],.tuple #[],.tuple #[],.tuple #[],.tuple #[],.tuple #[],.tuple #[],.tuple #[],.tuple #[],.tuple #[],.tuple #[],.tuple #[],.tuple #[],.tuple #[],.tuple #[],.tuple #[]],[Item.code (Code.seq (Code.seq (Code.region 2 #[{dst:=some 9,op:=Op.move (Operand.tmp 0),type:=22,pos:= "best.go:49",after:=#[],guard:=none},{dst:=some 10,op:=Op.call {callee:=Callee.builtin Builtin.len,args:=#[Operand.tmp 9],argTypes:=#[22]},type:=3,pos:= "best.go:49",after:=#[{on:=0,ground:=Ground.data}],guard:=none},{dst:=some 11,op:=Op.move (Operand.const (.int .i64 0)),type:=3,pos:= "best.go:49",after:=#[],guard:=none}] false) (Code.block 0 (Code.loop (Code.seq (Code.region 3 #[{dst:=some 12,op:=Op.binOp BinOp.lss 3 (Operand.tmp 11) (Operand.tmp 10) 3,type:=0,pos:= "best.go:49",after:=#[],guard:=none}] false) (Code.seq (Code.cond (Operand.tmp 12) Code.skip (Code.exit 0)) (Code.seq (Code.block 1 (Code.seq (Code.region 4 #[{dst:=some 13,op:=Op.move (Operand.tmp 11),type:=3,pos:= "best.go:49",after:=#[],guard:=none},{dst:=some 14,op:=Op.indexAddr 22 (Operand.tmp 9) (Operand.tmp 11),type:=0,pos:= "best.go:49",after:=#[],guard:=none},{dst:=some 15,op:=Op.load 54 (Operand.tmp 14),type:=54,pos:= "best.go:49",after:=#[{on:=1,ground:=Ground.data}],guard:=none},{dst:=some 7,op:=Op.alloc 54,type:=0,pos:= "best.go:49",after:=#[],guard:=none},{dst:=some 6,op:=Op.assign (Operand.tmp 13),type:=3,pos:= "best.go:49",after:=#[{on:=0,ground:=Ground.data},{on:=0,ground:=Ground.phase},{on:=1,ground:=Ground.phase},{on:=2,ground:=Ground.phase},{on:=3,ground:=Ground.phase}],guard:=none},{dst:=none,op:=Op.store 54 (Operand.tmp 7) (Operand.tmp 15),type:=0,pos:= "best.go:49",after:=#[{on:=3,ground:=Ground.data},{on:=2,ground:=Ground.data},{on:=4,ground:=Ground.chain},{on:=0,ground:=Ground.phase},{on:=1,ground:=Ground.phase},{on:=2,ground:=Ground.phase},{on:=3,ground:=Ground.phase},{on:=4,ground:=Ground.phase}],guard:=none}] false) (Code.region 5 #[{dst:=some 16,op:=Op.move (Operand.tmp 6),type:=3,pos:= "best.go:50",after:=#[],guard:=none},{dst:=some 17,op:=Op.fieldAddr 54 (Operand.tmp 7) 7,type:=0,pos:= "best.go:50",after:=#[],guard:=none},{dst:=some 18,op:=Op.load 3 (Operand.tmp 17),type:=3,pos:= "best.go:50",after:=#[{on:=1,ground:=Ground.data}],guard:=none},{dst:=some 19,op:=Op.move (Operand.tmp 6),type:=3,pos:= "best.go:50",after:=#[],guard:=none},{dst:=some 20,op:=Op.indexAddr 111 (Operand.tmp 3) (Operand.tmp 19),type:=0,pos:= "best.go:50",after:=#[{on:=3,ground:=Ground.data}],guard:=none},{dst:=some 21,op:=Op.load 3 (Operand.tmp 20),type:=3,pos:= "best.go:50",after:=#[{on:=4,ground:=Ground.data}],guard:=none},{dst:=some 22,op:=Op.binOp BinOp.sub 3 (Operand.tmp 18) (Operand.tmp 21) 3,type:=3,pos:= "best.go:50",after:=#[{on:=2,ground:=Ground.data},{on:=5,ground:=Ground.data}],guard:=none},{dst:=some 23,op:=Op.call {callee:=Callee.value (Operand.func 110),args:=#[Operand.tmp 16,Operand.tmp 22],argTypes:=#[3,3]},type:=0,pos:= "best.go:50",after:=#[{on:=0,ground:=Ground.data},{on:=6,ground:=Ground.data}],guard:=none}] true))) (Code.region 6 #[{dst:=some 24,op:=Op.binOp BinOp.add 3 (Operand.tmp 11) (Operand.const (.int .i64 1)) 3,type:=3,pos:= "best.go:49",after:=#[],guard:=none},{dst:=some 11,op:=Op.move (Operand.tmp 24),type:=3,pos:= "best.go:49",after:=#[{on:=0,ground:=Ground.data}],guard:=none}] false))))))) (Code.seq (Code.region 7 #[{dst:=some 25,op:=Op.build 94 #[],type:=94,pos:= "best.go:52",after:=#[],guard:=none},{dst:=none,op:=Op.store 94 (Operand.tmp 4) (Operand.tmp 25),type:=0,pos:= "best.go:52",after:=#[{on:=0,ground:=Ground.data},{on:=0,ground:=Ground.phase}],guard:=none},{dst:=none,op:=Op.store 4 (Operand.tmp 5) (Operand.const (.bool false)),type:=0,pos:= "best.go:52",after:=#[{on:=1,ground:=Ground.chain},{on:=0,ground:=Ground.phase},{on:=1,ground:=Ground.phase}],guard:=none}] false) Code.ret))],[],.run,none⟩
def Zh(ps:List Qe)(f:F4)(i:Int):List Value:=[pA 1 0,pA 2 0,pA 3 0,Qn 0 (QJ ps.length (Qm Qf ps)),.int .i64 (↑ps.length:Int),.int .i64 i]
def Zg(ps:List Qe)(f:F4)(i:Int):List Obj:=[Obj.cells #[.bool false] 4,Obj.cells #[.int .i64 0,.int .i64 0] 94]
def XL(ps:List Qe)(f:F4)(i:Int):List Obj:=[]
def Zi:List Item:=([.code [1,1,0,1,0,0],.inLoop [1,1,0,1,0,0],.inBlock 0,.code [1,1,1]]).map (it (Q9 YP 88))
def Y4(B:Lo)(ps:List Qe)(f:F4)(i:Int)(Qt:Nat->Value):List Prop:=let e:=Lb i;let g:=ps.getD e La;[wq (g.goal-Qh [f.a,f.b,f.c,f.d] e)=g.goal-Qh [f.a,f.b,f.c,f.d] e,#[Value.int .i64 f.a,.int .i64 f.b,.int .i64 f.c,.int .i64 f.d][0+Lb i*1]? =some (.int .i64 (Qh [f.a,f.b,f.c,f.d] e)),i=(↑e:Int)/\Lb i<4,i=(↑e:Int)/\Lb i<Lf ps/\LO (Qm Qf ps) (Lb i*TypeInfo.size Try.t54) (Lb i*TypeInfo.size Try.t54+TypeInfo.size Try.t54)=(Y3 g),Zm i (↑ps.length:Int)=true]++([]:List Prop)
def RH(ps:List Qe)(f:F4)(i:Int)(Qt:Nat->Value):Q2:=let e:=Lb i;let g:=ps.getD e La;[(0,VT),(2,Ql.tidx e (Y3 g)),(11,Ql.WJ (Hint.idx e)),(12,Ql.WJ (Hint.ld (.int .i64 (Qh [f.a,f.b,f.c,f.d] e)))),(13,VU (g.goal-Qh [f.a,f.b,f.c,f.d] e))]
def XO(ps:List Qe)(f:F4)(i:Int)(Qt:Nat->Value):Qj:=[(5,Obj.cells (Y3 (ps.getD i.toNat La)) 54),(3,Obj.cells #[.bool false] 4),(2,Obj.cells #[.int .i64 0,.int .i64 0] 94),(4,Obj.coro none),(3,Obj.cells #[.bool false] 4),(2,Obj.cells #[.int .i64 0,.int .i64 0] 94),(1,Obj.cells #[.int .i64 f.a,.int .i64 f.b,.int .i64 f.c,.int .i64 f.d] 111),(0,Obj.coro none)]
def Z2(ps:List Qe)(f:F4)(i:Int)(Qt:Nat->Value):CF:=⟨110,ofList 10 [.int .i64 i,.int .i64 (Qe.goal (ps.getD i.toNat La)-Qh [f.a,f.b,f.c,f.d] i.toNat)],[Item.code (Q9 YP 110)],[],.run,none⟩
theorem ig(B:Lo)(ps:List Qe)(f:F4)(i:Int)(Qt:Nat->Value):let e:=Qe.goal (ps.getD i.toNat La)-Qh [f.a,f.b,f.c,f.d] i.toNat;CE.finK 6 (Qs YP (Q0 YP) J0 B 5 6 (Z2 ps f i Qt) (XO ps f i Qt) 6
 [(1,VT)] 0 [] []) [] [] []=some (OO.Zj (Value.iface 94 (.agg #[.int .i64 i,.int .i64 e])),[],[],
 [Zm 0 e=true]):=by intro e;kernel_rfl
theorem ic(B:Lo)(ps:List Qe)(f:F4)(i:Int)(Qt:Nat->Value):let g:=XL ps f i;let e:=Value.iface 94 (.agg #[.int .i64 i,.int .i64 (Qe.goal (ps.getD i.toNat La)-Qh [f.a,f.b,f.c,f.d] i.toNat)]);CE.landU 4 (Qs YP (Q0 YP) J0 B 10 4 (X9 (none) 88 26 (([3,4,5,9,10,11]:List Nat).zip (Zh ps f i)) Qt Zi) (Xs (Xo ps f) 4 (([3,2]:List Nat).zip (Zg ps f i)) g) (4+1+g.length)
 (RH ps f i Qt++[(14,Ql.call (Ld 6) (OO.Zj e) ([]++(6,QM)::QD 7 []) 7 [])]) 0 [] []) [4,5] [(3,KS.auto),(2,KS.auto)] [] []=some (88,26,none,OO.Zj e,[pA 2 0,pA 3 0],[(3,Obj.cells #[.bool false] 4),(2,Obj.cells #[.int .i64 0,.int .i64 0] 94)],[],
 [FJ YP B (Z2 ps f i Qt) (XO ps f i Qt) 6 (OO.Zj e) (([]++((6,QM)::QD (6+1) []))++XO ps f i Qt) 7 (Ld 6) []]++Y4 B ps f i Qt):=by intro g e;kernel_rfl
theorem ib(B:Lo)(ps:List Qe)(f:F4)(i:Int)(Qt:Nat->Value):CE.finK 6 (Qs YP (Q0 YP) J0 B 6 6 (Z2 ps f i Qt) (XO ps f i Qt) 6
 [(1,VI)] 0 [] []) [] [] []=some (OO.ret (.tuple #[]),[],[],
 [Zm 0 (Qe.goal (ps.getD i.toNat La)-Qh [f.a,f.b,f.c,f.d] i.toNat)=false]):=by kernel_rfl
theorem ia(B:Lo)(ps:List Qe)(f:F4)(i:Int)(Qt:Nat->Value):let b:=OO.ret (.tuple #[]);let a:=XL ps f i;CE.landA 4 (Qs YP (Q0 YP) J0 B 13 4 (X9 (none) 88 26 (([3,4,5,9,10,11]:List Nat).zip (Zh ps f i)) Qt Zi) (Xs (Xo ps f) 4 (([3,2]:List Nat).zip (Zg ps f i)) a) (4+1+a.length)
 (RH ps f i Qt++[(14,Ql.call (Ld 6) b ([]++(6,QM)::QD 7 []) 7 []),(15,VU (i+1))]) 0 [] []) [3,4,5,9,10,11] [(3,KS.auto),(2,KS.auto)] [] []=some ⟨88,26,Zi,[],.run,none,Zh ps f (i+1),([3,2]:List Nat).zip (Zg ps f (i+1)),XL ps f (i+1),
 [wq (i+1)=i+1,FJ YP B (Z2 ps f i Qt) (XO ps f i Qt) 6 b (([]++((6,QM)::QD (6+1) []))++XO ps f i Qt) 7 (Ld 6) []]++Y4 B ps f i Qt⟩:=by intro b a;kernel_rfl
theorem hZ(B:Lo)(ps:List Qe)(f:F4)(i:Int)(Qt:Nat->Value):let a:=XL ps f i;CE.landU 4 (Qs YP (Q0 YP) J0 B 8 4 (X9 (none) 88 26 (([3,4,5,9,10,11]:List Nat).zip (Zh ps f i)) Qt Zi) (Xs (Xo ps f) 4 (([3,2]:List Nat).zip (Zg ps f i)) a) (4+1+a.length)
 [(0,VI)] 0 [] []) [4,5] [(3,KS.auto),(2,KS.auto)] [] []=some (88,26,none,OO.ret (.tuple #[]),[pA 2 0,pA 3 0],[(3,Obj.cells #[.bool false] 4),(2,Obj.cells #[.int .i64 0,.int .i64 0] 94)],[],
 [Zm i (↑ps.length:Int)=false]):=by intro a;kernel_rfl
set_option maxHeartbeats 4000000 in
theorem YZ(ps:List Qe)(f:F4)(hl:ps.length<=4)(hg:∀i:Int,0<=i->i<ps.length->0<=(ps.getD i.toNat La).goal/\(ps.getD i.toNat La).goal<=1000000)(hf:Jf ⟨f.a,f.b,f.c,f.d⟩){B:Lo}(hJ:∀w,B.has w->J0 w):∀m:Nat,(∀(i:Int),∀(r:Bool),((QZ f (ps.drop i.toNat) i).1)=r->(ps.length-i.toNat)=m->∀(h0:0<=i),(∃Qt:Nat->Value,(∀t,X0 (Qt t))/\GoE YP B (XN ps f) (Xo ps f) 4 (X9 (none) 88 26 (([3,4,5,9,10,11]:List Nat).zip (Zh ps f i)) Qt Zi) (Xs (Xo ps f) 4 (([3,2]:List Nat).zip (Zg ps f i)) (XL ps f i)) (4+1+(XL ps f i).length) ([3,2]:List Nat))->FinU YP B (XN ps f) (Xo ps f) 4 (bif r then .Zj (.iface 94 (.agg #[.int .i64 (QZ f (ps.drop i.toNat) i).2.1,.int .i64 (QZ f (ps.drop i.toNat) i).2.2]))else .ret (.tuple #[])) (([4,5]:List Nat).zip [pA 2 0,pA 3 0]) (([3,2]:List Nat).zip ([Obj.cells #[.bool false] 4,Obj.cells #[.int .i64 0,.int .i64 0] 94])) ([]) ([3,2]:List Nat)):=by
 intro m0;induction m0 using LA with
 |_ m0 ih0=>
  intro i r1 hr1 hm0 h0 ⟨Qt,KF,XW⟩;have KK:Qh [f.a,f.b,f.c,f.d] i.toNat=f.at i:=rfl;by_cases q0:(i:Int)<((↑ps.length:Int))
  ·have WL:Qw (Y4 B ps f i Qt):=by
    have hgi:=hg i h0 q0;have hfi:=Ui (f:=f) hf h0 (by omega);have s1:=U1 (f:=f) h0 q0;exact⟨(Xq (by omega) (by omega)),⟨(Rd rfl (LI (m:=4) (by omega) rfl)),⟨⟨by omega,by omega⟩,⟨⟨by omega,by omega,(QT (z:=12) (fun _=>rfl) (by omega))⟩,⟨(XY q0),trivial⟩⟩⟩⟩⟩
   by_cases q1:(0:Int)<(Qe.goal (ps.getD i.toNat La)-Qh [f.a,f.b,f.c,f.d] i.toNat)
   ·have rj1:FJ YP B (Z2 ps f i Qt) (XO ps f i Qt) 6 (OO.Zj (Value.iface 94 (.agg #[.int .i64 i,.int .i64 (Qe.goal (ps.getD i.toNat La)-Qh [f.a,f.b,f.c,f.d] i.toNat)]))) (([]++((6,QM)::QD (6+1) []))++XO ps f i Qt) 7 (Ld 6) []:=by
     have hgi:=hg i h0 q0;have hfi:=Ui (f:=f) hf h0 (by omega);have s1:=U1 (f:=f) h0 q0;rw[decide_eq_true (show 0<(ps.getD i.toNat La).goal-f.at i from q1),cond_true]at s1;exact FinK.fjB (GoE.finK okF hJ Qd (Qk (by kernel_rfl)) (Qg (by kernel_rfl)) ((GoE.refl (P:=YP) (B:=B) (c0:=Z2 ps f i Qt) (Qk (by kernel_rfl))).widen (Wf:=((([]):List (Nat×KS)).map (·.1))) (by simp) (Qg (by kernel_rfl))) (ig B ps f i Qt)
      ⟨(XY q1),trivial⟩) (ex:=[]) (by kernel_rfl) (XD _)
    have hgi:=hg i h0 q0;have hfi:=Ui (f:=f) hf h0 (by omega);have s1:=U1 (f:=f) h0 q0;rw[decide_eq_true (show 0<(ps.getD i.toNat La).goal-f.at i from q1),cond_true]at s1;exact(GoE.landU (wks:=[(3,KS.auto),(2,KS.auto)]) okF hJ Qd (Qk (by kernel_rfl)) (Qg (by kernel_rfl)) XW (ic B ps f i Qt)
     (by exact⟨rj1,WL⟩) (by kernel_rfl) rfl).cast (by(subst hr1;rw[s1];rfl)) (by rfl) (by rfl)
   ·have rj1:FJ YP B (Z2 ps f i Qt) (XO ps f i Qt) 6 (OO.ret (.tuple #[])) (([]++((6,QM)::QD (6+1) []))++XO ps f i Qt) 7 (Ld 6) []:=by
     have hgi:=hg i h0 q0;have hfi:=Ui (f:=f) hf h0 (by omega);have s1:=U1 (f:=f) h0 q0;rw[decide_eq_false (show ¬0<(ps.getD i.toNat La).goal-f.at i from q1),cond_false]at s1;exact FinK.fjB (GoE.finK okF hJ Qd (Qk (by kernel_rfl)) (Qg (by kernel_rfl)) ((GoE.refl (P:=YP) (B:=B) (c0:=Z2 ps f i Qt) (Qk (by kernel_rfl))).widen (Wf:=((([]):List (Nat×KS)).map (·.1))) (by simp) (Qg (by kernel_rfl))) (ib B ps f i Qt)
      ⟨(XZ (Int.not_lt.1 q1)),trivial⟩) (ex:=[]) (by kernel_rfl) (XD _)
    have hgi:=hg i h0 q0;have hfi:=Ui (f:=f) hf h0 (by omega);have s1:=U1 (f:=f) h0 q0;rw[decide_eq_false (show ¬0<(ps.getD i.toNat La).goal-f.at i from q1),cond_false]at s1;exact((ih0 _ (by omega)) (i+1) r1 (by rw[<-hr1,s1]) rfl (by omega)
     (GoE.landA okF hJ Qd (Qk (by kernel_rfl)) (Qg (by kernel_rfl)) XW (ia B ps f i Qt)
     ⟨(Xq (by omega) (by omega)),⟨rj1,WL⟩⟩ (by kernel_rfl) (by kernel_rfl) (fun l hl=>by cases hl <;> decide))).cast (by(subst hr1;rw[s1];done)) (by rfl) (by rfl)
  ·have s1:=fV (f:=f) (l:=ps) (i:=i) (by omega);exact(GoE.landU (wks:=[(3,KS.auto),(2,KS.auto)]) okF hJ Qd (Qk (by kernel_rfl)) (Qg (by kernel_rfl)) XW (hZ B ps f i Qt)
    (by exact⟨(XZ (Int.not_lt.1 q0)),trivial⟩) (by kernel_rfl) rfl).cast (by(subst hr1;rw[s1];rfl)) (by rfl) (by rfl)

theorem ij(B:Lo)(ps:List Qe)(f:F4):CE.landA 4 (Qs YP (Q0 YP) J0 B 5 4 (XN ps f) (Xo ps f) 4
 [] 0 [] []) [3,4,5,9,10,11] [(3,KS.auto),(2,KS.auto)] [] []=some ⟨88,26,Zi,[],.run,none,Zh ps f (0),([3,2]:List Nat).zip (Zg ps f (0)),XL ps f (0),
 []⟩:=by kernel_rfl
theorem hY(B:Lo)(ps:List Qe)(f:F4):let h:=([4,5]:List Nat).zip [pA 2 0,pA 3 0];let e:=Prod.snd (QZ f (List.drop (Lb 0) ps) 0);let j:=Prod.snd e;let i:=Prod.fst e;let g:=OO.Zj (Value.iface 94 (.agg #[.int .i64 i,.int .i64 j]));QW (pK YP (Q0 YP) J0 B 3 1 (Qr YP 88 26 (([Vb ps,.agg #[.int .i64 f.a,.int .i64 f.b,.int .i64 f.c,.int .i64 f.d]]).map (Qy 0 4))) Za 1
 g h ([(3,Obj.cells #[.bool false] 4),(2,Obj.cells #[.int .i64 0,.int .i64 0] 94)]++(4,QM)::QD 5 []) 5 [3,2] (.tuple #[.agg #[.int .i64 i,.int .i64 j],.bool true]) [2,3]) []=some (.tuple #[.agg #[.int .i64 i,.int .i64 j],.bool true],
 [UJ YP B (XN ps f) (Xo ps f) 4 g h (([(3,Obj.cells #[.bool false] 4),(2,Obj.cells #[.int .i64 0,.int .i64 0] 94)]++((4,QM)::QD (4+1) []))++Xo ps f) 5 (Ld 4) [3,2],∀d:Nat->Value,ga YP 88 ([(3,Obj.cells #[.bool true] 4),(2,Obj.cells #[.int .i64 i,.int .i64 j] 94),(4,Obj.coro none),(3,Obj.cells #[.bool false] 4),(2,Obj.cells #[.int .i64 0,.int .i64 0] 94),(1,Obj.cells #[.int .i64 f.a,.int .i64 f.b,.int .i64 f.c,.int .i64 f.d] 111),(0,Obj.coro none)]) (Dz 26 h d)=some (.tuple #[.agg #[.int .i64 i,.int .i64 j],.bool true],[2,3])]):=by intro h e j i g;kernel_rfl
theorem hQ(B:Lo)(ps:List Qe)(f:F4):CE.landA 4 (Qs YP (Q0 YP) J0 B 5 4 (XN ps f) (Xo ps f) 4
 [] 0 [] []) [3,4,5,9,10,11] [(3,KS.auto),(2,KS.auto)] [] []=some ⟨88,26,Zi,[],.run,none,Zh ps f (0),([3,2]:List Nat).zip (Zg ps f (0)),XL ps f (0),
 []⟩:=by kernel_rfl
theorem hP(B:Lo)(ps:List Qe)(f:F4):let g:=OO.ret (.tuple #[]);let e:=([4,5]:List Nat).zip [pA 2 0,pA 3 0];QW (pK YP (Q0 YP) J0 B 3 1 (Qr YP 88 26 (([Vb ps,.agg #[.int .i64 f.a,.int .i64 f.b,.int .i64 f.c,.int .i64 f.d]]).map (Qy 0 4))) Za 1
 g e ([(3,Obj.cells #[.bool false] 4),(2,Obj.cells #[.int .i64 0,.int .i64 0] 94)]++(4,QM)::QD 5 []) 5 [3,2] (.tuple #[.agg #[.int .i64 0,.int .i64 0],.bool false]) [2,3]) []=some (.tuple #[.agg #[.int .i64 0,.int .i64 0],.bool false],
 [UJ YP B (XN ps f) (Xo ps f) 4 g e (([(3,Obj.cells #[.bool false] 4),(2,Obj.cells #[.int .i64 0,.int .i64 0] 94)]++((4,QM)::QD (4+1) []))++Xo ps f) 5 (Ld 4) [3,2],∀d:Nat->Value,ga YP 88 ([(3,Obj.cells #[.bool false] 4),(2,Obj.cells #[.int .i64 0,.int .i64 0] 94),(4,Obj.coro none),(3,Obj.cells #[.bool false] 4),(2,Obj.cells #[.int .i64 0,.int .i64 0] 94),(1,Obj.cells #[.int .i64 f.a,.int .i64 f.b,.int .i64 f.c,.int .i64 f.d] 111),(0,Obj.coro none)]) (Dz 26 e d)=some (.tuple #[.agg #[.int .i64 0,.int .i64 0],.bool false],[2,3])]):=by intro g e;kernel_rfl
set_option maxHeartbeats 4000000 in
theorem lz(ps:List Qe)(f:F4)(hl:ps.length<=4)(hg:∀i:Int,0<=i->i<ps.length->0<=(ps.getD i.toNat La).goal/\(ps.getD i.toNat La).goal<=1000000)(hf:Jf ⟨f.a,f.b,f.c,f.d⟩){B:Lo}(hJ:∀w,B.has w->J0 w):EndsT YP B (Qr YP 88 26 (([Vb ps,.agg #[.int .i64 f.a,.int .i64 f.b,.int .i64 f.c,.int .i64 f.d]]).map (Qy 0 4))) (.tuple #[.agg #[.int .i64 (QZ f ps 0).2.1,.int .i64 (QZ f ps 0).2.2],.bool (QZ f ps 0).1]):=by
 cases q0:Prod.fst (QZ f (List.drop (Lb 0) ps) 0)with
 |true=>
  have rj0:UJ YP B (XN ps f) (Xo ps f) 4 (OO.Zj (Value.iface 94 (.agg #[.int .i64 (Prod.fst (Prod.snd (QZ f (List.drop (Lb 0) ps) 0))),.int .i64 (Prod.snd (Prod.snd (QZ f (List.drop (Lb 0) ps) 0)))]))) (([4,5]:List Nat).zip [pA 2 0,pA 3 0]) (([(3,Obj.cells #[.bool false] 4),(2,Obj.cells #[.int .i64 0,.int .i64 0] 94)]++((4,QM)::QD (4+1) []))++Xo ps f) 5 (Ld 4) [3,2]:=by
   exact FinU.ujB ((YZ ps f hl hg hf hJ _) (0) true q0 rfl (by omega)
    (GoE.landA okF hJ Qd (Qk (by kernel_rfl)) (Qg (by kernel_rfl)) ((GoE.refl (P:=YP) (B:=B) (c0:=XN ps f) (Qk (by kernel_rfl))).widen (Wf:=((([(3,KS.auto),(2,KS.auto)]):List (Nat×KS)).map (·.1))) (by simp) (Qg (by kernel_rfl))) (ij B ps f)
    trivial (by kernel_rfl) (by kernel_rfl) (fun l hl=>by cases hl <;> decide))) (ex:=[]) (by kernel_rfl) (XD _)
  exact(GoE.endsD okF hJ Qd GoE.start (hY B ps f)
   (by exact⟨rj0,⟨(fun d=>by kernel_rfl),trivial⟩⟩)).cast (by(rw[show(QZ f ps 0).1=true from q0];rfl))
 |false=>
  have rj0:UJ YP B (XN ps f) (Xo ps f) 4 (OO.ret (.tuple #[])) (([4,5]:List Nat).zip [pA 2 0,pA 3 0]) (([(3,Obj.cells #[.bool false] 4),(2,Obj.cells #[.int .i64 0,.int .i64 0] 94)]++((4,QM)::QD (4+1) []))++Xo ps f) 5 (Ld 4) [3,2]:=by
   exact FinU.ujB ((YZ ps f hl hg hf hJ _) (0) false q0 rfl (by omega)
    (GoE.landA okF hJ Qd (Qk (by kernel_rfl)) (Qg (by kernel_rfl)) ((GoE.refl (P:=YP) (B:=B) (c0:=XN ps f) (Qk (by kernel_rfl))).widen (Wf:=((([(3,KS.auto),(2,KS.auto)]):List (Nat×KS)).map (·.1))) (by simp) (Qg (by kernel_rfl))) (hQ B ps f)
    trivial (by kernel_rfl) (by kernel_rfl) (fun l hl=>by cases hl <;> decide))) (ex:=[]) (by kernel_rfl) (XD _)
  exact(GoE.endsD okF hJ Qd GoE.start (hP B ps f)
   (by exact⟨rj0,⟨(fun d=>by kernel_rfl),trivial⟩⟩)).cast (by(rw[St (f:=f) (l:=ps) (i:=0) q0]))
theorem dz(ps:List Qe)(f:F4)(hl:ps.length<=4)(hg:∀i:Int,0<=i->i<ps.length->0<=(ps.getD i.toNat La).goal/\(ps.getD i.toNat La).goal<=1000000)(hf:Jf ⟨f.a,f.b,f.c,f.d⟩):Qx YP J0 88 #[Vb ps,.agg #[.int .i64 f.a,.int .i64 f.b,.int .i64 f.c,.int .i64 f.d]] (.tuple #[.agg #[.int .i64 (QZ f ps 0).2.1,.int .i64 (QZ f ps 0).2.2],.bool (QZ f ps 0).1]):=
 Xn (ts:=[Vb ps,.agg #[.int .i64 f.a,.int .i64 f.b,.int .i64 f.c,.int .i64 f.d]]) XQ (c0:=Qr YP 88 26 (([Vb ps,.agg #[.int .i64 f.a,.int .i64 f.b,.int .i64 f.c,.int .i64 f.d]]).map (Qy 0 4))) (by kernel_rfl) (by kernel_rfl) fun B hJ=>lz ps f hl hg hf hJ
def S5(rf:Qc)(plan:List Int)(es:List (F4×F4)):Qj:=[(1,.map (mapA Qu es) es.length),(0,QM)]
def Yh(rf:Qc)(plan:List Int)(es:List (F4×F4)):CF:=Qr YP 64 18 [.agg #[Qn 0 (Vb rf.Qa),.int .i64 rf.Qi,.int .i64 rf.Qb,.map (some 1)],.agg #[.int .i64 (plan.getD 0 0),.int .i64 (plan.getD 1 0),.int .i64 (plan.getD 2 0),.int .i64 (plan.getD 3 0)]]
def lX(rf:Qc)(plan:List Int):Array Value:=#[.int .i64 (Prod.fst (Prod.snd (QZ (QH rf plan (Lb rf.Qb)) rf.Qa 0))),.int .i64 (Prod.snd (Prod.snd (QZ (QH rf plan (Lb rf.Qb)) rf.Qa 0)))]
def cc(B:Lo)(rf:Qc)(plan:List Int)(es:List (F4×F4)):List Prop:=[Qw [QE (mapA Qu es),QE (mapA Qu (Xd rf plan (Lb rf.Qb) es))]/\DW (rf) (plan) (es) rf.Qb]++([]:List Prop)
def lY(rf:Qc)(plan:List Int)(es:List (F4×F4)):Q2:=[(12,Ql.wri [1] [0] [true] [] (nB rf plan es rf.Qb) (nA rf plan es rf.Qb) (nC rf plan es rf.Qb))]
theorem xZ(B:Lo)(rf:Qc)(plan:List Int)(es:List (F4×F4)):let h:=rf.Qa;let g:=Value.tuple #[.agg (lX rf plan),.bool true];let e:=Lb rf.Qb;let i:=Xd rf plan e es;let f:=QH rf plan e;let j:=Prod.snd (QZ f h 0);CE.finK 2 (Qs YP (Q0 YP) J0 B 6 2 (Yh rf plan es) (S5 rf plan es) 2
 (lY rf plan es++[(13,Ql.pure g [])]) 0 [] []) [(1,KS.same)] [] []=some (OO.ret (.tuple #[.agg #[.int .i64 (Prod.fst j),.int .i64 (Prod.snd j)],.bool true]),[(1,Obj.map (mapA Qu i) i.length)],[],
 [QE (mapA Qu i),Qw []/\Qx YP J0 88 #[QJ h.length (Qm Qf h),.agg #[.int .i64 f.a,.int .i64 f.b,.int .i64 f.c,.int .i64 f.d]] g]++cc B rf plan es):=by intro h g e i f j;kernel_rfl
theorem xY(B:Lo)(rf:Qc)(plan:List Int)(es:List (F4×F4)):let h:=rf.Qa;let g:=Value.tuple #[.agg (lX rf plan),.bool false];let e:=Lb rf.Qb;let i:=Xd rf plan e es;let f:=QH rf plan e;let j:=Prod.snd (QZ f h 0);CE.finK 2 (Qs YP (Q0 YP) J0 B 6 2 (Yh rf plan es) (S5 rf plan es) 2
 (lY rf plan es++[(13,Ql.pure g [])]) 0 [] []) [(1,KS.same)] [] []=some (OO.ret (.tuple #[.agg #[.int .i64 (Prod.fst j),.int .i64 (Prod.snd j)],.bool false]),[(1,Obj.map (mapA Qu i) i.length)],[],
 [QE (mapA Qu i),Qw []/\Qx YP J0 88 #[QJ h.length (Qm Qf h),.agg #[.int .i64 f.a,.int .i64 f.b,.int .i64 f.c,.int .i64 f.d]] g]++cc B rf plan es):=by intro h g e i f j;kernel_rfl
set_option maxHeartbeats 4000000 in
theorem Be(rf:Qc)(plan:List Int)(es:List (F4×F4))(hr:X5 rf=true)(hp:QP rf plan=true)(he:Vh rf es){B:Lo}(hJ:∀w,B.has w->J0 w):FinK YP B (Yh rf plan es) (S5 rf plan es) 2 (.ret (.tuple #[.agg #[.int .i64 (QZ (QH rf plan rf.Qb.toNat) rf.Qa 0).2.1,.int .i64 (QZ (QH rf plan rf.Qb.toNat) rf.Qa 0).2.2],.bool (QZ (QH rf plan rf.Qb.toNat) rf.Qa 0).1])) (([1]:List Nat).zip [.map (mapA Qu (Xd rf plan rf.Qb.toNat es)) (Xd rf plan rf.Qb.toNat es).length]) [] ([1]:List Nat):=by
 have Zc:=Qz (Q6 hr).1;have hpf:=(QK hp).1;have hf4:=(PQ (plan:=plan) hr (s:=rf.Qb.toNat) (by omega)).1;have J2:∀i:Int,0<=i->i<rf.Qa.length->0<=(rf.Qa.getD i.toNat La).goal/\(rf.Qa.getD i.toNat La).goal<=1000000:=fun i h0 h1=>(ZY ((Q6 hr).2 i h0 h1).1).2.2.1
 have WL:Qw (cc B rf plan es):=by
  exact⟨⟨⟨(Q8 (fun _=>by kernel_rfl)),⟨(Q8 (fun _=>by kernel_rfl)),trivial⟩⟩,Hi (rf) (plan) (es) rf.Qb (by with_reducible assumption) (by with_reducible assumption) (by with_reducible assumption) (by omega) (by omega)⟩,trivial⟩
 cases q0:Prod.fst (QZ (QH rf plan (Lb rf.Qb)) rf.Qa 0)with
 |true=>
  exact(GoE.finK okF hJ Qd (Qk (by kernel_rfl)) (Qg (by kernel_rfl)) ((GoE.refl (P:=YP) (B:=B) (c0:=Yh rf plan es) (Qk (by kernel_rfl))).widen (Wf:=((([(1,KS.same)]):List (Nat×KS)).map (·.1))) (by simp) (Qg (by kernel_rfl))) (xZ B rf plan es)
   ⟨(by exact Q8 (fun _=>by kernel_rfl)),⟨⟨trivial,(by have t_:=dz rf.Qa (QH rf plan (Lb rf.Qb)) (by omega) (by with_reducible assumption) (by with_reducible assumption);rw[q0]at t_;exact t_)⟩,WL⟩⟩).cast (by rfl) (by rfl) (by rfl)
 |false=>
  exact(GoE.finK okF hJ Qd (Qk (by kernel_rfl)) (Qg (by kernel_rfl)) ((GoE.refl (P:=YP) (B:=B) (c0:=Yh rf plan es) (Qk (by kernel_rfl))).widen (Wf:=((([(1,KS.same)]):List (Nat×KS)).map (·.1))) (by simp) (Qg (by kernel_rfl))) (xY B rf plan es)
   ⟨(by exact Q8 (fun _=>by kernel_rfl)),⟨⟨trivial,(by have t_:=dz rf.Qa (QH rf plan (Lb rf.Qb)) (by omega) (by with_reducible assumption) (by with_reducible assumption);rw[q0]at t_;exact t_)⟩,WL⟩⟩).cast (by rfl) (by rfl) (by rfl)
def Ub(rf:Qc)(plan:List Int)(es:List (F4×F4)):OO:=.ret (.tuple #[.agg #[.int .i64 (QZ (QH rf plan rf.Qb.toNat) rf.Qa 0).2.1,.int .i64 (QZ (QH rf plan rf.Qb.toNat) rf.Qa 0).2.2],.bool (QZ (QH rf plan rf.Qb.toNat) rf.Qa 0).1])
def Ua(rf:Qc)(plan:List Int)(es:List (F4×F4)):List Obj:=[.map (mapA Qu (Xd rf plan rf.Qb.toNat es)) (Xd rf plan rf.Qb.toNat es).length]
def Uc(rf:Qc)(plan:List Int)(es:List (F4×F4)):List Obj:=[]
def K7(rf:Qc)(plan:List Int)(es:List (F4×F4)):Prop:=WriC YP J0 64 #[.agg #[Qn 0 (Vb rf.Qa),.int .i64 rf.Qi,.int .i64 rf.Qb,.map (some 1)],.agg #[.int .i64 (plan.getD 0 0),.int .i64 (plan.getD 1 0),.int .i64 (plan.getD 2 0),.int .i64 (plan.getD 3 0)]] [.map (mapA Qu es) es.length] (Ub rf plan es) (Ua rf plan es) (Uc rf plan es)
theorem Ry(rf:Qc)(plan:List Int)(es:List (F4×F4))(hr:X5 rf=true)(hp:QP rf plan=true)(he:Vh rf es):WriC YP J0 64 #[.agg #[Qn 0 (Vb rf.Qa),.int .i64 rf.Qi,.int .i64 rf.Qb,.map (some 1)],.agg #[.int .i64 (plan.getD 0 0),.int .i64 (plan.getD 1 0),.int .i64 (plan.getD 2 0),.int .i64 (plan.getD 3 0)]] [.map (mapA Qu es) es.length] (Ub rf plan es) (Ua rf plan es) (Uc rf plan es):=
 FinK.wri (c0:=Yh rf plan es) (Hb:=S5 rf plan es) (a:=2) (ws:=([1]:List Nat).zip [.map (mapA Qu (Xd rf plan rf.Qb.toNat es)) (Xd rf plan rf.Qb.toNat es).length]) (Wf:=([1]:List Nat)) (by kernel_rfl) rfl rfl rfl rfl fun B hJ=>Be rf plan es hr hp he hJ
def QY(rf:Qc)(plan:List Int):Bool×Int×Int:=QZ (QH rf plan rf.Qb.toNat) rf.Qa 0
def SG(rf:Qc)(plan:List Int):Array Value:=#[.int .i64 (Prod.fst (Prod.snd (QZ (QH rf plan (Lb rf.Qb)) rf.Qa 0))),.int .i64 (Prod.snd (Prod.snd (QZ (QH rf plan (Lb rf.Qb)) rf.Qa 0)))]
def cw(rf:Qc)(plan:List Int):Array Value:=#[.agg #[QJ rf.Qa.length (Qm Qf rf.Qa),.int .i64 rf.Qi,.int .i64 rf.Qb],QJ plan.length (Qm Xv plan)]
def cy(B:Lo)(rf:Qc)(plan:List Int):List Prop:=[Qw []/\Qx YP J0 50 #[.agg #[QJ rf.Qa.length (Qm Qf rf.Qa),.int .i64 rf.Qi,.int .i64 rf.Qb]] (.bool true)]++([]:List Prop)
def ml(rf:Qc)(plan:List Int):Q2:=[(5,Ql.pure (.bool true) [])]
def mm(B:Lo)(rf:Qc)(plan:List Int):List Prop:=[Qw []/\Qx YP J0 52 (cw rf plan) (.agg #[QJ rf.Qa.length (Qm Qf rf.Qa),.int .i64 rf.Qi,.int .i64 rf.Qb,.int .i64 (plan.getD 0 0),.int .i64 (plan.getD 1 0),.int .i64 (plan.getD 2 0),.int .i64 (plan.getD 3 0)]),Qw []/\Qx YP J0 51 (cw rf plan) (.bool true)]++cy B rf plan
def mj(rf:Qc)(plan:List Int):Q2:=let a:=rf.Qa;ml rf plan++[(10,Ql.pure (.bool true) []),(15,Ql.pure (.agg #[QJ a.length (Qm Qf a),.int .i64 rf.Qi,.int .i64 rf.Qb,.int .i64 (plan.getD 0 0),.int .i64 (plan.getD 1 0),.int .i64 (plan.getD 2 0),.int .i64 (plan.getD 3 0)]) []),(19,Ql.call (Ld 4) (OO.ret (.agg #[Qn 0 (QJ a.length (Qm Qf a)),.int .i64 rf.Qi,.int .i64 rf.Qb,Value.map (some 5)])) ([]++(4,QM)::QD 5 [Obj.map #[] 0]) 6 [])]
def JM(rf:Qc)(plan:List Int):Qj:=[(3,Obj.cells #[Qn 2 (QJ rf.Qa.length (Qm Qf rf.Qa)),.int .i64 rf.Qi,.int .i64 rf.Qb,.int .i64 (plan.getD 0 0),.int .i64 (plan.getD 1 0),.int .i64 (plan.getD 2 0),.int .i64 (plan.getD 3 0)] 84),(2,Obj.coro none),(1,Obj.cells #[Qn 0 (QJ rf.Qa.length (Qm Qf rf.Qa)),.int .i64 rf.Qi,.int .i64 rf.Qb] 24),(0,Obj.coro none)]
def SH(rf:Qc)(plan:List Int):CF:=⟨63,ofList 6 [.agg #[Qn 0 (QJ rf.Qa.length (Qm Qf rf.Qa)),.int .i64 rf.Qi,.int .i64 rf.Qb]],[Item.code (Q9 YP 63)],[],.run,none⟩
theorem yB(B:Lo)(rf:Qc)(plan:List Int):CE.finK 4 (Qs YP (Q0 YP) J0 B 6 4 (SH rf plan) (JM rf plan) 4
 [] 0 [] []) [] [(6,KS.same)] []=some (OO.ret (.agg #[Qn 0 (QJ rf.Qa.length (Qm Qf rf.Qa)),.int .i64 rf.Qi,.int .i64 rf.Qb,Value.map (some 5)]),[],[Obj.map #[] 0],
 [QE #[]]):=by kernel_rfl
def cx(B:Lo)(rf:Qc)(plan:List Int):List Prop:=[FJ YP B (SH rf plan) (JM rf plan) 4 (OO.ret (.agg #[Qn 0 (QJ rf.Qa.length (Qm Qf rf.Qa)),.int .i64 rf.Qi,.int .i64 rf.Qb,Value.map (some 5)])) (([]++((4,QM)::QD (4+1) [Obj.map #[] 0]))++JM rf plan) 6 (Ld 4) []]++mm B rf plan
theorem yA(B:Lo)(rf:Qc)(plan:List Int):let c:=Lb rf.Qb;let b:=Value.tuple #[.agg (SG rf plan),.bool true];let a:=QZ (QH rf plan c) rf.Qa 0;QW (Qs YP (Q0 YP) J0 B 20 1 (Qr YP 35 36 (([.agg (Qv rf).toArray,XA plan]).map (Qy 0 4))) Za 1
 (mj rf plan++[(22,Ql.wriC [5] [0] [true] [] (Ub rf plan []) (Ua rf plan []) (Uc rf plan []) (OO.ret b))]) 0 [] []) []=some (.tuple #[.int .i64 (Prod.fst (Prod.snd a)),.int .i64 (Prod.snd (Prod.snd a)),.int .i64 0],
 [(Qw [QE (mapA Qu []),QE (mapA Qu (Xd rf plan c []))]/\K7 (rf) (plan) ([]))/\OO.ret (.tuple #[.agg (SG rf plan),.bool (Prod.fst a)])=OO.ret b]++cx B rf plan):=by intro c b a;kernel_rfl
theorem y9(B:Lo)(rf:Qc)(plan:List Int):let b:=Lb rf.Qb;let a:=Value.tuple #[.agg (SG rf plan),.bool false];QW (Qs YP (Q0 YP) J0 B 19 1 (Qr YP 35 36 (([.agg (Qv rf).toArray,XA plan]).map (Qy 0 4))) Za 1
 (mj rf plan++[(22,Ql.wriC [5] [0] [true] [] (Ub rf plan []) (Ua rf plan []) (Uc rf plan []) (OO.ret a))]) 0 [] []) []=some (.tuple #[.int .i64 0,.int .i64 0,.int .i64 5],
 [(Qw [QE (mapA Qu []),QE (mapA Qu (Xd rf plan b []))]/\K7 (rf) (plan) ([]))/\OO.ret (.tuple #[.agg (SG rf plan),.bool (Prod.fst (QZ (QH rf plan b) rf.Qa 0))])=OO.ret a]++cx B rf plan):=by intro b a;kernel_rfl
theorem y8(B:Lo)(rf:Qc)(plan:List Int):QW (Qs YP (Q0 YP) J0 B 10 1 (Qr YP 35 36 (([.agg (Qv rf).toArray,XA plan]).map (Qy 0 4))) Za 1
 (ml rf plan++[(10,Ql.pure (.bool false) [])]) 0 [] []) []=some (.tuple #[.int .i64 0,.int .i64 0,.int .i64 2],
 [Qw []/\Qx YP J0 51 (cw rf plan) (.bool false)]++cy B rf plan):=by kernel_rfl
theorem y7(B:Lo)(rf:Qc)(plan:List Int):QW (Qs YP (Q0 YP) J0 B 10 1 (Qr YP 35 36 (([.agg (Qv rf).toArray,XA plan]).map (Qy 0 4))) Za 1
 [(5,Ql.pure (.bool false) [])] 0 [] []) []=some (.tuple #[.int .i64 0,.int .i64 0,.int .i64 2],
 [Qw []/\Qx YP J0 50 #[.agg #[QJ rf.Qa.length (Qm Qf rf.Qa),.int .i64 rf.Qi,.int .i64 rf.Qb]] (.bool false)]):=by kernel_rfl
set_option maxHeartbeats 4000000 in
theorem BJ(rf:Qc)(plan:List Int)  {B:Lo}(hJ:∀w,B.has w->J0 w):EndsT YP B (Qr YP 35 36 (([.agg (Qv rf).toArray,XA plan]).map (Qy 0 4))) (.tuple #[.int .i64 (if QC rf && QP rf plan then(QY rf plan).2.1 else 0),.int .i64 (if QC rf && QP rf plan then(QY rf plan).2.2 else 0),.int .i64 (if QC rf && QP rf plan then(if(QY rf plan).1 then 0 else 5)else 2)]):=by
 cases q0:QC rf with
 |true=>
  have WL:Qw (cy B rf plan):=by
   have UH:=Ze ‹QC rf=true›;have Zc:=Qz (QN ‹QC rf=true›).1;have Kw:=Ka (rf:=rf);exact⟨⟨trivial,(by have t_:=aC (rf);rw[q0]at t_;exact t_)⟩,trivial⟩
  cases q1:QP rf plan with
  |true=>
   have hp1:Qw (mm B rf plan):=by
    have UH:=Ze ‹QC rf=true›;have Zc:=Qz (QN ‹QC rf=true›).1;have hpf:=(QK ‹QP rf plan=true›).1;have Kw:=Ka (rf:=rf);exact⟨⟨trivial,xL (rf) (plan) (by omega) (by omega)⟩,⟨⟨trivial,(by have t_:=wW (rf) (plan) (by omega);rw[q1]at t_;exact t_)⟩,WL⟩⟩
   have rj0:FJ YP B (SH rf plan) (JM rf plan) 4 (OO.ret (.agg #[Qn 0 (QJ rf.Qa.length (Qm Qf rf.Qa)),.int .i64 rf.Qi,.int .i64 rf.Qb,Value.map (some 5)])) (([]++((4,QM)::QD (4+1) [Obj.map #[] 0]))++JM rf plan) 6 (Ld 4) []:=by
    have UH:=Ze ‹QC rf=true›;have Zc:=Qz (QN ‹QC rf=true›).1;have hpf:=(QK ‹QP rf plan=true›).1;have Kw:=Ka (rf:=rf);exact FinK.fjB (GoE.finK okF hJ Qd (Qk (by kernel_rfl)) (Qg (by kernel_rfl)) ((GoE.refl (P:=YP) (B:=B) (c0:=SH rf plan) (Qk (by kernel_rfl))).widen (Wf:=((([]):List (Nat×KS)).map (·.1))) (by simp) (Qg (by kernel_rfl))) (yB B rf plan)
     ⟨(by(intro i e he;simp at he;done)),trivial⟩) (ex:=[]) (by kernel_rfl) (XD _)
   have KT:Qw (cx B rf plan):=by
    exact⟨rj0,hp1⟩
   cases q2:Prod.fst (QZ (QH rf plan (Lb rf.Qb)) rf.Qa 0)with
   |true=>
    have UH:=Ze ‹QC rf=true›;have Zc:=Qz (QN ‹QC rf=true›).1;have hpf:=(QK ‹QP rf plan=true›).1;have Kw:=Ka (rf:=rf);exact(GoE.endsT okF hJ Qd GoE.start (yA B rf plan)
     ⟨⟨⟨⟨(Q8 (fun _=>by kernel_rfl)),⟨(Q8 (fun _=>by kernel_rfl)),trivial⟩⟩,Ry (rf) (plan) ([]) (by with_reducible assumption) (by with_reducible assumption) (by with_reducible assumption)⟩,(by(rw[q2];done))⟩,KT⟩).cast (by(rcases hsr:(QZ (QH rf plan rf.Qb.toNat) rf.Qa 0).1 with _|_ <;> first|(simp_all[QY];done)|(have hno:=St hsr;simp_all[QY];done)))
   |false=>
    have UH:=Ze ‹QC rf=true›;have Zc:=Qz (QN ‹QC rf=true›).1;have hpf:=(QK ‹QP rf plan=true›).1;have Kw:=Ka (rf:=rf);exact(GoE.endsT okF hJ Qd GoE.start (y9 B rf plan)
     ⟨⟨⟨⟨(Q8 (fun _=>by kernel_rfl)),⟨(Q8 (fun _=>by kernel_rfl)),trivial⟩⟩,Ry (rf) (plan) ([]) (by with_reducible assumption) (by with_reducible assumption) (by with_reducible assumption)⟩,(by(rw[q2];done))⟩,KT⟩).cast (by(rcases hsr:(QZ (QH rf plan rf.Qb.toNat) rf.Qa 0).1 with _|_ <;> first|(simp_all[QY];done)|(have hno:=St hsr;simp_all[QY];done)))
  |false=>
   have UH:=Ze ‹QC rf=true›;have Zc:=Qz (QN ‹QC rf=true›).1;have Kw:=Ka (rf:=rf);exact(GoE.endsT okF hJ Qd GoE.start (y8 B rf plan)
    ⟨⟨trivial,(by have t_:=wW (rf) (plan) (by omega);rw[q1]at t_;exact t_)⟩,WL⟩).cast (by rfl)
 |false=>
  have Kw:=Ka (rf:=rf);exact(GoE.endsT okF hJ Qd GoE.start (y7 B rf plan)
   ⟨⟨trivial,(by have t_:=aC (rf);rw[q0]at t_;exact t_)⟩,trivial⟩).cast (by rfl)
theorem RQ(rf:Qc)(plan:List Int)  :Qx YP J0 35 #[.agg (Qv rf).toArray,XA plan] (.tuple #[.int .i64 (if QC rf && QP rf plan then(QY rf plan).2.1 else 0),.int .i64 (if QC rf && QP rf plan then(QY rf plan).2.2 else 0),.int .i64 (if QC rf && QP rf plan then(if(QY rf plan).1 then 0 else 5)else 2)]):=
 Xn (ts:=[.agg (Qv rf).toArray,XA plan]) XQ (c0:=Qr YP 35 36 (([.agg (Qv rf).toArray,XA plan]).map (Qy 0 4))) (by kernel_rfl) (by kernel_rfl) fun B hJ=>BJ rf plan  hJ
end
end Go.Proofs.Ytncjjangllkokaa

