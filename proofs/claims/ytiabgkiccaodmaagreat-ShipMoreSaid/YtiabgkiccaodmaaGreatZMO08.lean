/- TW 6: from runs to contracts. -/
import Derived.Test.YtiabgkiccaodmaaGreatZMO07
import Derived.Deep.Slices
import Derived.Carry
import Derived.WideShapes
import Derived.ChangeShapes
import Derived.SevenTiedAt
set_option linter.all false
namespace Go.CE
open Go Go.RowKit

def posOf:List Nat->Nat->Nat->Option Nat
 | [],_,_=> none
 | a::l,j,k=> bif Nat.beq a k then some j else posOf l (j+1) k
theorem QjP:∀(l:List Nat) (j k i:Nat),posOf l j k=some i->j<=i/\l[i - j]? =some k
 | [],j,k,i,h=> by cases h
 | a::l,j,k,i,h=> by
   simp only [posOf] at h;cases e:Nat.beq a k with
   | true=>
     rw [e] at h;simp only [cond_true,YO] at h;subst h;exact ⟨Nat.le_refl _,by simp [YE e]⟩
   | false=>
     rw [e] at h;simp only [cond_false] at h;obtain ⟨h1,h2⟩:=QjP l (j+1) k i h;refine ⟨by omega, ?_⟩;rw [show i - j=(i - (j+1))+1 by omega];simpa using h2
section
variable (H:Qar) (m:Nat) (pos:Nat->Option Nat) (fz:List Fz)
def coS (v:Value):Option (Value×List Prop):=bif simple v then some (v,[]) else match v with
 | .func (.via r ⟨[]⟩ 0 true) ⟨[t]⟩ ⟨[]⟩=> bif Qbf (Qaw H r) && Qf2 t then some (Qat ((pos r).getD m) t,[]) else none
 | .pointer (some ⟨k,o,none⟩)=> match pos k with
   | some j=> some (.pointer (some ⟨j,o,none⟩),[])
   | none=> match Qs0 fz k,Qaw H k with
     | some x,some (.cells cs _ (0,0))=> bif x.rs.all fun r=> Qbf (Qaw H r) then some (Qat m (ptT o x.cs),[Qbl x.rs cs x.cs]) else none
     | _,_=> some (.chan none,[])
 | .slice (some ⟨k,o,none⟩) n z=> match pos k with
   | some j=> some (.slice (some ⟨j,o,none⟩) n z,[])
   | none=> match o,Qs0 fz k,Qaw H k with
     | 0,some x,some (.cells cs _ (0,0))=> bif x.rs.all fun r=> Qbf (Qaw H r) then some (Qat m (slT n x.cs),[Qbl x.rs cs x.cs]) else none
     | _,_,_=> some (.chan none,[])
 | .map (some r)=> match pos r with
   | some j=> some (.map (some j),[])
   | none=> some (.chan none,[])
 | .func (.yield l) ⟨[]⟩ ⟨[]⟩=> match pos l with
   | some j=> some (.func (.yield j) #[] #[],[])
   | none=> some (.chan none,[])
 | .chan none=> some (.chan none,[])
 | _=> none
def coL (f:Value->Option (Value×List Prop)):List Value->Option (List Value×List Prop)
 | []=> some ([],[])
 | v::l=> match f v with
   | some (t,L)=> match coL f l with
     | some (ts,L2)=> some (t::ts,L++L2)
     | none=> none
   | none=> none
def coV:Nat->Value->Option (Value×List Prop)
 | 0,v=> coS H m pos fz v
 | f+1,v=> match v with
   | .agg xs=> match coL (coV f) xs.toList with
     | some (l,L)=> some (.agg l.toArray,L)
     | none=> none
   | .tuple xs=> match coL (coV f) xs.toList with
     | some (l,L)=> some (.tuple l.toArray,L)
     | none=> none
   | .iface t x=> match coV f x with
     | some (x,L)=> some (.iface t x,L)
     | none=> none
   | .func (.func g) xs ys=> match coL (coV f) xs.toList with
     | some (l,L)=> match coL (coV f) ys.toList with
       | some (k,L2)=> some (.func (.func g) l.toArray k.toArray,L++L2)
       | none=> none
     | none=> none
   | v=> coS H m pos fz v
def Q7J (rs:List Nat) (v v1:Value):Prop:=(simple v=true/\v1=v)\/∃r∈rs,∃t,v=Qat r t/\v1=Qat m t/\Qf2 t=true
def Qdd (rs:List Nat) (cs cs1:Array Value):Prop:=cs.size=cs1.size/\∀(i:Nat) v v1,cs[i]? =some v->cs1[i]? =some v1->Q7J m rs v v1
end
theorem QaO {m:Nat} {rs:List Nat} {cs:Array Value} (h:∀v∈cs,simple v=true):Qdd m rs cs cs:=⟨rfl,fun i v v1 h1 h2=> by
 rw [h1] at h2;cases h2;exact .inl ⟨h v (Array.mem_of_getElem? h1),rfl⟩⟩
inductive QsY (m:Nat) (rs:List (Nat×Nat)) (frs:List (Nat×Array Value)):Value->Value->Prop
 | simple {v}:CE.simple v=true->QsY m rs frs v v
 | reg {r j t}:(r,j)∈rs->Qf2 t=true->QsY m rs frs (Qat r t) (Qat j t)
 | own {k cs n c}:(k,cs)∈frs->QsY m rs frs (.slice (some ⟨k,0,none⟩) n c) (Qat m (slT n cs))
 | nil:QsY m rs frs (.slice none 0 0) (Qat m (slT 0 #[]))
def AllX (m:Nat) (rs:List (Nat×Nat)) (frs:List (Nat×Array Value)):List Value->List Value->Prop
 | [],[]=> True
 | v::l,u::k=> QsY m rs frs v u/\AllX m rs frs l k
 | _,_=> False
def Qbu (m:Nat) (rs:List (Nat×Nat)) (frs:List (Nat×Array Value)) (cs cs1:Array Value):Prop:=AllX m rs frs cs.toList cs1.toList
theorem AllX.get {m:Nat} {rs:List (Nat×Nat)} {frs:List (Nat×Array Value)}:∀{l k:List Value},AllX m rs frs l k->k.length=l.length/\∀(i:Nat) v u,l[i]? =some v->k[i]? =some u->QsY m rs frs v u
 | [],[],_=> ⟨rfl,fun i v u h=> by simp at h⟩
 | v::l,u::k,h=> by
   obtain ⟨a,b⟩:=AllX.get h.2;refine ⟨by simp [a],fun i x y hx hy=> ?_⟩;cases i with
   | zero=>
     simp only [List.getElem?_cons_zero,YO] at hx hy;subst hx hy;exact h.1
   | succ i=> exact b i x y (by simpa using hx) (by simpa using hy)
 | [],_::_,h=> h.elim
 | _::_,[],h=> h.elim
theorem AllX.append {m:Nat} {rs:List (Nat×Nat)} {frs:List (Nat×Array Value)}:∀{l k l2 k2:List Value},AllX m rs frs l k->AllX m rs frs l2 k2->AllX m rs frs (l++l2) (k++k2)
 | [],[],_,_,_,h2=> h2
 | _::_,_::_,_,_,h,h2=> ⟨h.1,AllX.append h.2 h2⟩
 | [],_::_,_,_,h,_=> h.elim
 | _::_,[],_,_,h,_=> h.elim
section
variable {B:Nat} {S:Nat->Prop} {H:Qar} {m:Nat} {pos:Nat->Option Nat} {fz:List Fz} {μ μ1:Mu} {w:World} {n':Nat} {fk:List Nat} {im1:Img}
structure Q42 (H:Qar) (m:Nat) (pos:Nat->Option Nat) (fz:List Fz) (μ μ1:Mu) (w:World) (n':Nat) (fk:List Nat) (im1:Img):Prop where
 ok:∃B S,Ok B S μ (Qaw H) w/\∀i,i < n'->S i
 under:Under H n'
 here:∀k j,pos k=some j->μ1 j=μ k
 reg:μ1 m=some im1
 fm:im1.fm=fmU μ H w (Qh2 H n'++fk)
 sub:∀x∈fz,x.k∈fk
theorem Qm0:∀(l:List Fz) (k:Nat) (x:Fz),Qs0 l k=some x->x∈l/\x.k=k
 | [],k,x,h=> by cases h
 | y::l,k,x,h=> by
   simp only [Qs0] at h;cases e:Nat.beq y.k k with
   | true=>
     rw [e] at h;simp only [cond_true,YO] at h;subst h;exact ⟨by simp,YE e⟩
   | false=>
     rw [e] at h;obtain ⟨h1,h2⟩:=Qm0 l k x h;exact ⟨List.mem_cons_of_mem _ h1,h2⟩
theorem Qyu (hu:Under H n') {r:Nat} (h:Qbf (Qaw H r)=true):r < n':=by
 obtain ⟨o,ho,_⟩:=Qd3 h;exact hu.lt ho
theorem Ql0 (c:Q42 H m pos fz μ μ1 w n' fk im1) {r:Nat} (hr:Qbf (Qaw H r)=true) {im:Img} (him:μ r=some im) {b:Nat} {x:Obj} (hx:im.fm b=some x):im1.fm b=some x:=by
 obtain ⟨B,S,hok,hS⟩:=c.ok;rw [c.fm];have hlt:=Qyu c.under hr;exact Qt3 hok (List.mem_append_left _ (Qqf.2 ⟨hlt,hr⟩)) (hS r hlt) hr him hx
theorem Qmt (c:Q42 H m pos fz μ μ1 w n' fk im1) {rs:List Nat} (hreg:(rs.all fun r=> Qbf (Qaw H r))=true) {v v1 v':Value} (h:Q3G rs v v1) (hv:VR μ v v'):TRv im1.fm v1 v':=by
 rcases h with ⟨h1,rfl⟩ | ⟨r,hr,rfl,_⟩
 ·rw [simple_eq h1 hv];exact .simple h1
 ·obtain ⟨im,him,ht⟩:=hv.top_inv;exact ht.mono fun b x hx=> Ql0 c (List.all_eq_true.1 hreg r hr) him hx
theorem Qg7 (c:Q42 H m pos fz μ μ1 w n' fk im1) {v v' t:Value} {L:List Prop} (h:coS H m pos fz v=some (t,L)) (hL:Qas L) (hv:VR μ v v'):VR μ1 t v':=by
 obtain ⟨B,S,hok,hS⟩:=c.ok;have addr:∀{k j o:Nat} {a':Addr},pos k=some j->AR μ ⟨k,o,none⟩ a'->AR μ1 ⟨j,o,none⟩ a':=by
  rintro k j o a' hp ⟨im,h1,h2,h3⟩;exact ⟨im,by rw [c.here k j hp];exact h1,rfl,h3⟩
 unfold coS at h;cases hs:simple v with
 | true=>
   rw [hs] at h;simp only [cond_true,YO,YR] at h;obtain ⟨rfl,rfl⟩:=h;rw [simple_eq hs hv];exact QbT hs
 | false=>
   rw [hs] at h;simp only [cond_false] at h;split at h
   ·rename_i r t0;cases hg:(Qbf (Qaw H r) && Qf2 t0) with
    | false=> rw [hg] at h;cases h
    | true=>
      rw [hg] at h;simp only [cond_true,YO,YR] at h;obtain ⟨rfl,rfl⟩:=h;simp only [YB] at hg;obtain ⟨im,him,ht⟩:=VR.top_inv (r:=r) (t:=t0) hv;cases hp:pos r with
      | none=> exact .top hg.2 c.reg (ht.mono fun b x hx=> Ql0 c hg.1 him hx)
      | some j=> exact .top hg.2 (by rw [Option.getD_some,c.here r j hp];exact him) ht
   ·rename_i k o;split at h
    ·rename_i j hj;simp only [YO,YR] at h;obtain ⟨rfl,rfl⟩:=h;cases hv with
     | ptr har=> exact .ptr (addr hj har)
    ·split at h
     ·rename_i x cs ty hx hg;cases hr:(x.rs.all fun r=> Qbf (Qaw H r)) with
      | false=> rw [hr] at h;cases h
      | true=>
        rw [hr] at h;simp only [cond_true,YO,YR] at h;obtain ⟨rfl,rfl⟩:=h;obtain ⟨⟨h2,h3⟩,_⟩:=hL;obtain ⟨hxm,hxk⟩:=Qm0 _ _ _ hx;have hkf:k∈fk:=hxk ▸ c.sub x hxm;obtain ⟨im,arr,him,_,hoff,harr,hle,_,hcells⟩:=QiS hok (hS k (c.under.lt hg)) hg;cases hv with
        | ptr har=>
          obtain ⟨im2,him2,_,rfl⟩:=har;rw [him] at him2;cases him2;rw [hoff];refine .top rfl c.reg (TRv.ptr (o:=0) (by rw [c.fm];exact (QoS (List.mem_append_right _ hkf) hg trivial him).trans harr) (fun i hi=> by omega) fun i v v' hv hv'=> ?_);simp only [Nat.zero_add] at hv';have hi:i < cs.size:=by rw [h2];exact (Array.getElem?_eq_some_iff.1 hv).1
          obtain ⟨u,hu1,hu2⟩:=hcells i cs[i] (by simp [hi]);rw [hv'] at hu1;cases hu1;exact Qmt c hr (h3 i _ _ (by simp [hi]) hv) hu2
     ·simp only [YO,YR] at h;obtain ⟨rfl,rfl⟩:=h;cases hv;exact .junk (fun b e=> by cases e) rfl rfl
   ·rename_i k o n z;split at h
    ·rename_i j hj;simp only [YO,YR] at h;obtain ⟨rfl,rfl⟩:=h;cases hv with
     | slice har a b d=>
       refine .slice (addr hj har) a b fun hz im him hrw hoff=> d hz im ?_ hrw hoff
       rw [<-c.here k j hj];exact him
    ·split at h
     ·rename_i x cs ty hx hg;cases hr:(x.rs.all fun r=> Qbf (Qaw H r)) with
      | false=> rw [hr] at h;cases h
      | true=>
        rw [hr] at h;simp only [cond_true,YO,YR] at h;obtain ⟨rfl,rfl⟩:=h;obtain ⟨⟨h2,h3⟩,_⟩:=hL;obtain ⟨hxm,hxk⟩:=Qm0 _ _ _ hx;have hkf:k∈fk:=hxk ▸ c.sub x hxm;obtain ⟨im,arr,him,_,hoff,harr,hle,_,hcells⟩:=QiS hok (hS k (c.under.lt hg)) hg;cases hv with
        | slice har a b _=>
          obtain ⟨im2,him2,_,rfl⟩:=har;rw [him] at him2;cases him2;rw [hoff];refine .top rfl c.reg (TRv.slice (o:=0) a b (by rw [c.fm];exact (QoS (List.mem_append_right _ hkf) hg trivial him).trans harr) (fun i hi=> by omega) fun i v v' hv hv'=> ?_);simp only [Nat.zero_add] at hv';have hi:i < cs.size:=by rw [h2];exact (Array.getElem?_eq_some_iff.1 hv).1
          obtain ⟨u,hu1,hu2⟩:=hcells i cs[i] (by simp [hi]);rw [hv'] at hu1;cases hu1;exact Qmt c hr (h3 i _ _ (by simp [hi]) hv) hu2
     ·simp only [YO,YR] at h;obtain ⟨rfl,rfl⟩:=h;cases hv;exact .junk (fun b e=> by cases e) rfl rfl
   ·rename_i r;split at h
    ·rename_i j hj;simp only [YO,YR] at h;obtain ⟨rfl,rfl⟩:=h;cases hv with
     | map hr=> exact .map (by rw [c.here r j hj];exact hr)
    ·simp only [YO,YR] at h;obtain ⟨rfl,rfl⟩:=h;cases hv;exact .junk (fun b e=> by cases e) rfl rfl
   ·rename_i l;split at h
    ·rename_i j hj;simp only [YO,YR] at h;obtain ⟨rfl,rfl⟩:=h;cases hv with
     | yield hl=> exact .yield (by rw [c.here l j hj];exact hl)
    ·simp only [YO,YR] at h;obtain ⟨rfl,rfl⟩:=h;cases hv;exact .junk (fun b e=> by cases e) rfl rfl
   ·simp only [YO,YR] at h;obtain ⟨rfl,rfl⟩:=h;cases hv with
    | junk a b c=> exact .junk a b c
   ·cases h
theorem Qnx {f:Value->Option (Value×List Prop)} (hf:∀v v' t L,f v=some (t,L)->Qas L->VR μ v v'->VR μ1 t v'):∀(l ts:List Value) (L:List Prop) (l':List Value),coL f l=some (ts,L)->Qas L->l.length=l'.length->(∀(i:Nat) v v',l[i]? =some v->l'[i]? =some v'->VR μ v v')->
 ts.length=l'.length/\∀(i:Nat) v v',ts[i]? =some v->l'[i]? =some v'->VR μ1 v v'
 | [],ts,L,l',h,hL,hl,hv=> by
   simp only [coL,YO,YR] at h;obtain ⟨rfl,rfl⟩:=h;exact ⟨hl,fun i v v' h=> by simp at h⟩
 | v::l,ts,L,[],h,hL,hl,hv=> by simp at hl
 | v::l,ts,L,v'::l',h,hL,hl,hv=> by
   simp only [coL] at h;split at h
   ·rename_i t L1 h1;split at h
    ·rename_i ts2 L2 h2;simp only [YO,YR] at h;obtain ⟨rfl,rfl⟩:=h;obtain ⟨a,b⟩:=QaI hL;have k1:=hf v v' t L1 h1 a (hv 0 v v' rfl rfl);obtain ⟨k2,k3⟩:=Qnx hf l ts2 L2 l' h2 b (by simpa using hl) fun i u u' x y=> hv (i+1) u u' (by simpa using x) (by simpa using y)
     refine ⟨by simp [k2],fun i u u' x y=> ?_⟩;cases i with
     | zero=>
       simp only [List.getElem?_cons_zero,YO] at x y;subst x y;exact k1
     | succ i=> exact k3 i u u' (by simpa using x) (by simpa using y)
    ·cases h
   ·cases h
theorem Qdl (c:Q42 H m pos fz μ μ1 w n' fk im1):∀(f:Nat) (v v' t:Value) (L:List Prop),coV H m pos fz f v=some (t,L)->Qas L->VR μ v v'->VR μ1 t v'
 | 0,v,v',t,L,h,hL,hv=> Qg7 c h hL hv
 | f+1,v,v',t,L,h,hL,hv=> by
   have arr:∀{xs xs':Array Value} {l:List Value} {L:List Prop},coL (coV H m pos fz f) xs.toList=some (l,L)->Qas L->xs.size=xs'.size->(∀(i:Nat) v v',xs[i]? =some v->xs'[i]? =some v'->VR μ v v')->l.toArray.size=xs'.size/\∀(i:Nat) v v',l.toArray[i]? =some v->xs'[i]? =some v'->VR μ1 v v':=by
    intro xs xs' l L h hL hs hx;obtain ⟨a,b⟩:=Qnx (fun v v' t L=> Qdl c f v v' t L) xs.toList l L xs'.toList h hL (by simpa using hs) fun i v v' x y=> hx i v v' (by simpa using x) (by simpa using y)
    exact ⟨by simpa using a,fun i v v' x y=> b i v v' (by simpa using x) (by simpa using y)⟩
   cases v with
   | agg xs=>
     simp only [coV] at h;split at h
     ·rename_i l L1 hl;simp only [YO,YR] at h;obtain ⟨rfl,rfl⟩:=h;cases hv with
      | agg h1 h2=> exact .agg (arr hl hL h1 h2).1 (arr hl hL h1 h2).2
     ·cases h
   | tuple xs=>
     simp only [coV] at h;split at h
     ·rename_i l L1 hl;simp only [YO,YR] at h;obtain ⟨rfl,rfl⟩:=h;cases hv with
      | tuple h1 h2=> exact .tuple (arr hl hL h1 h2).1 (arr hl hL h1 h2).2
     ·cases h
   | iface ty x=>
     simp only [coV] at h;split at h
     ·rename_i l L1 hl;simp only [YO,YR] at h;obtain ⟨rfl,rfl⟩:=h;cases hv with
      | iface hv=> exact .iface (Qdl c f _ _ _ _ hl hL hv)
     ·cases h
   | func fn xs ys=>
     cases fn with
     | func g=>
       simp only [coV] at h;split at h
       ·rename_i l L1 hl;split at h
        ·rename_i k L2 hk;simp only [YO,YR] at h;obtain ⟨rfl,rfl⟩:=h;obtain ⟨a,b⟩:=QaI hL;cases hv with
         | func h1 h2 h3 h4=>
           have k1:=arr hl a h1 h3;have k2:=arr hk b h2 h4;exact .func k1.1 k2.1 k1.2 k2.2
        ·cases h
       ·cases h
     | _=> exact Qg7 (fz:=fz) c (by exact h) hL hv
   | _=> exact Qg7 (fz:=fz) c (by exact h) hL hv
end
inductive KS where
 | auto
 | cells (rs:List Nat) (cs:Array Value)
 | same
 | dead
 | rows (rs:List (Nat×Nat)) (ks:List Nat) (cs:Array Value)
def Q7x (H:Qar) (pos:Nat->Option Nat) (fz:List Fz):List Nat->Option (List (Nat×Array Value)×List Prop)
 | []=> some ([],[])
 | k::l=> match pos k,Qs0 fz k,Qaw H k with
   | none,some x,some (.cells cs _ (0,0))=> bif x.rs.all fun r=> Qbf (Qaw H r) then match Q7x H pos fz l with
    | some (frs,L)=> some ((k,x.cs)::frs,Qbl x.rs cs x.cs::L)
    | none=> none
     else none
   | _,_,_=> none
theorem QuL {H:Qar} {m:Nat} {pos:Nat->Option Nat} {fz:List Fz}:∀(ks:List Nat) (frs:List (Nat×Array Value)) (L:List Prop),Q7x H pos fz ks=some (frs,L)->Qas L->∀k cs n c,(k,cs)∈frs->∃L',coS H m pos fz (.slice (some ⟨k,0,none⟩) n c)=some (Qat m (slT n cs),L')/\Qas L'
 | [],frs,L,h,hL,k,cs,n,c,hm=> by
   simp only [Q7x,YO,YR] at h;obtain ⟨rfl,rfl⟩:=h;simp at hm
 | k0::l,frs,L,h,hL,k,cs,n,c,hm=> by
   simp only [Q7x] at h;split at h
   ·rename_i x cs0 t0 h1 h2 h3;cases hr:(x.rs.all fun r=> Qbf (Qaw H r)) with
    | false=> rw [hr] at h;cases h
    | true=>
      rw [hr] at h;simp only [cond_true] at h;split at h
      ·rename_i frs2 L2 h4;simp only [YO,YR] at h;obtain ⟨rfl,rfl⟩:=h;rcases List.mem_cons.1 hm with e | e
       ·simp only [YR] at e;obtain ⟨rfl,rfl⟩:=e;refine ⟨[Qbl x.rs cs0 x.cs], ?_,hL.1,trivial⟩;unfold coS;have hs:simple (.slice (some ⟨k,0,none⟩) n c)=false:=rfl;rw [hs];simp only [cond_false,h1,h2,h3,hr,cond_true]
       ·exact QuL l frs2 L2 h4 hL.2 k cs n c e
      ·cases h
   ·cases h
def Q3L:Array MapEntry->Prop:=fun es=> ∀(i:Nat) e,es[i]? =some e->af e.val=true
def coO (H:Qar) (m:Nat) (pos:Nat->Option Nat) (fz:List Fz):Option Obj->KS->Option (Obj×List Prop)
 | some (.cells cs t fl),.auto=> match coL (coV H m pos fz 3) cs.toList with
   | some (l,L)=> some (.cells l.toArray t fl,L)
   | none=> none
 | some (.cells cs t fl),.cells rs cs1=> bif rs.all fun r=> Qbf (Qaw H r) then some (.cells cs1 t fl,[Qdd m rs cs cs1]) else none
 | some (.cells cs t fl),.rows rs ks cs1=> bif rs.all fun p=> Qbf (Qaw H p.1) && Nat.beq ((pos p.1).getD m) p.2 then match Q7x H pos fz ks with
  | some (frs,L)=> some (.cells cs1 t fl,Qbu m rs frs cs cs1::L)
  | none=> none
   else none
 | some (.map es clk),.same=> some (.map es clk,[Q3L es])
 | some (.loop r),.auto=> match coL (coV H m pos fz 3) r.tmps.toList with
   | some (l,L)=> some (.loop {r with tmps:=l.toArray},L)
   | none=> none
 | some (.deferred ds),.same=> some (.deferred ds,[])
 | some (.pending _ _),.dead=> some (.pending #[] 0,[])
 | _,_=> none
theorem QgK {H:Qar} {m:Nat} {pos:Nat->Option Nat} {fz:List Fz} {μ μ1:Mu} {w:World} {n':Nat} {fk:List Nat} {im1:Img} (c:Q42 H m pos fz μ μ1 w n' fk im1) {o:Option Obj} {s:KS} {o1:Obj} {L:List Prop} (h:coO H m pos fz o s=some (o1,L)) (hL:Qas L):
 (∃x,o=some x)/\¬QeK o1/\(live o1->∃x,o=some x/\live x/\∀im,OR μ w im x->OR μ1 w im o1):=by
 have cells:∀{cs cs1:Array Value} {t:TypeId} {fl:Nat×Nat},cs1.size=cs.size->(∀(i:Nat) v v1 v',cs[i]? =some v->cs1[i]? =some v1->VR μ v v'->VR μ1 v1 v')->∀im,OR μ w im (.cells cs t fl)->OR μ1 w im (.cells cs1 t fl):=by
  intro cs cs1 t fl hs hc im hor;have get:∀(i:Nat) v1,cs1[i]? =some v1->∃v,cs[i]? =some v:=fun i v1 h=> by
   have:=(Array.getElem?_eq_some_iff.1 h).1;exact ⟨cs[i],by simp [show i < cs.size by omega]⟩
  rcases hor with ⟨h1,h2,h3,arr,h4,h5,h6,h7⟩ | ⟨h1,h2⟩
  ·refine .inl ⟨h1,h2,h3,arr,h4,by omega,h6,fun i v1 hv1=> ?_⟩;obtain ⟨v,hv⟩:=get i v1 hv1;obtain ⟨v',a,b⟩:=h7 i v hv;exact ⟨v',a,hc i v v1 v' hv hv1 b⟩
  ·refine .inr ⟨h1,fun i v1 hv1=> ?_⟩;obtain ⟨v,hv⟩:=get i v1 hv1;obtain ⟨v',a,b⟩:=h2 i v hv;exact ⟨v',a,hc i v v1 v' hv hv1 b⟩
 unfold coO at h;split at h
 ·rename_i cs t fl;split at h
  ·rename_i l L1 hl;simp only [YO,YR] at h;obtain ⟨rfl,rfl⟩:=h;have key:∀(l ts:List Value) (L:List Prop),coL (coV H m pos fz 3) l=some (ts,L)->Qas L->ts.length=l.length/\∀(i:Nat) v v1 v',l[i]? =some v->ts[i]? =some v1->VR μ v v'->VR μ1 v1 v':=by
    intro l;induction l with
    | nil=>
      intro ts L h hL;simp only [coL,YO,YR] at h;obtain ⟨rfl,rfl⟩:=h;exact ⟨rfl,fun i v v1 v' h=> by simp at h⟩
    | cons v l ih=>
      intro ts L h hL;simp only [coL] at h;split at h
      ·rename_i t L1 h1;split at h
       ·rename_i ts2 L2 h2;simp only [YO,YR] at h;obtain ⟨rfl,rfl⟩:=h;obtain ⟨a,b⟩:=QaI hL;obtain ⟨k1,k2⟩:=ih ts2 L2 h2 b;refine ⟨by simp [k1],fun i u u1 u' x y hr=> ?_⟩;cases i with
        | zero=>
          simp only [List.getElem?_cons_zero,YO] at x y;subst x y;exact Qdl c 3 _ _ _ _ h1 a hr
        | succ i=> exact k2 i u u1 u' (by simpa using x) (by simpa using y) hr
       ·cases h
      ·cases h
   obtain ⟨k1,k2⟩:=key _ _ _ hl hL;refine ⟨⟨_,rfl⟩,id,fun _=> ?_⟩;exact ⟨_,rfl,trivial,cells (by simpa using k1) fun i v v1 v' x y=> k2 i v v1 v' (by simpa using x) (by simpa using y)⟩
  ·cases h
 ·rename_i cs t fl rs cs1;cases hr:(rs.all fun r=> Qbf (Qaw H r)) with
  | false=> rw [hr] at h;cases h
  | true=>
    rw [hr] at h;simp only [cond_true,YO,YR] at h;obtain ⟨rfl,rfl⟩:=h;obtain ⟨⟨h1,h2⟩,_⟩:=hL;refine ⟨⟨_,rfl⟩,id,fun _=> ?_⟩;refine ⟨_,rfl,trivial,cells h1.symm fun i v v1 v' x y hv=> ?_⟩;rcases h2 i v v1 x y with ⟨hs,rfl⟩ | ⟨r,hrm,t,rfl,rfl,ht⟩
    ·rw [simple_eq hs hv];exact QbT hs
    ·obtain ⟨im,him,htr⟩:=hv.top_inv;exact .top ht c.reg (htr.mono fun b x hx=> Ql0 c (List.all_eq_true.1 hr r hrm) him hx)
 ·rename_i cs t fl rs ks cs1;cases hr:(rs.all fun p=> Qbf (Qaw H p.1) && Nat.beq ((pos p.1).getD m) p.2) with
  | false=> rw [hr] at h;cases h
  | true=>
    rw [hr] at h;simp only [cond_true] at h;split at h
    ·rename_i frs L2 hks;simp only [YO,YR] at h;obtain ⟨rfl,rfl⟩:=h;obtain ⟨hx,hL2⟩:=hL;obtain ⟨h1,h2⟩:=AllX.get hx;refine ⟨⟨_,rfl⟩,id,fun _=> ?_⟩;refine ⟨_,rfl,trivial,cells (by simpa using h1) fun i v v1 v' x y hv=> ?_⟩;have hc:=h2 i v v1 (by simpa using x) (by simpa using y);cases hc with
     | simple hs=> rw [simple_eq hs hv];exact QbT hs
     | reg hm ht=>
       rename_i r j t0;have:=List.all_eq_true.1 hr _ hm;simp only [YB] at this;have e:coS H m pos fz (Qat r t0)=some (Qat j t0,[]):=by
        have hs:simple (Qat r t0)=false:=rfl;unfold coS;rw [hs];simp only [cond_false,Qat,this.1,ht,Bool.and_self,cond_true,YE this.2]
       exact Qg7 c e trivial hv
     | own hm=>
       obtain ⟨L',e,hL'⟩:=QuL ks frs L2 hks hL2 _ _ _ _ hm;exact Qg7 c e hL' hv
     | nil=>
       cases hv;exact .top rfl c.reg .nil
    ·cases h
 ·rename_i es clk;simp only [YO,YR] at h;obtain ⟨rfl,rfl⟩:=h;obtain ⟨hp,_⟩:=hL;refine ⟨⟨_,rfl⟩,id,fun _=> ?_⟩;refine ⟨_,rfl,trivial,fun im hor=> ?_⟩;obtain ⟨h1,es',h2,h3,h4⟩:=hor;refine ⟨h1,es',h2,h3,fun i e e' x y=> ?_⟩;obtain ⟨p,q,r,s⟩:=h4 i e e' x y;have hs:=hp i e x;exact ⟨p,q,r,by rw [Qje hs s];exact Qiv hs⟩
 ·rename_i r;split at h
  ·rename_i l L1 hl;simp only [YO,YR] at h;obtain ⟨rfl,rfl⟩:=h;refine ⟨⟨_,rfl⟩,id,fun _=> ?_⟩;refine ⟨_,rfl,trivial,fun im hor=> ?_⟩;obtain ⟨h1,tm,df,h2,h3⟩:=hor;obtain ⟨a,b⟩:=Qnx (fun v v' t L=> Qdl c 3 v v' t L) r.tmps.toList l L1 tm.toList hl hL (by simpa using h3.1) fun i v v' x y=> h3.2 i v v' (by simpa using x) (by simpa using y)
   exact ⟨h1,tm,df,h2,by simpa using a,fun i v v' x y=> b i v v' (by simpa using x) (by simpa using y)⟩
  ·cases h
 ·rename_i ds;simp only [YO,YR] at h;obtain ⟨rfl,rfl⟩:=h;exact ⟨⟨_,rfl⟩,id,fun _=> ⟨_,rfl,trivial,fun im hor=> hor⟩⟩
 ·simp only [YO,YR] at h;obtain ⟨rfl,rfl⟩:=h;exact ⟨⟨_,rfl⟩,id,fun hl=> hl.elim⟩
 ·cases h
end Go.CE

namespace Go.CE
open Go Go.RowKit

def H00:Qar:=[(0,Qbc)]
def QaA:Nat->List Obj->Qar
 | _,[]=> []
 | i,o::l=> (i,o)::QaA (i+1) l
def Qa1 (objs:List Obj):Qar:=(0,Qbc)::(1,Qbc)::QaA 2 objs
theorem Qlh:∀(l:List Obj) (i j:Nat),Qaw (QaA i l) j=if i<=j then l[j - i]? else none
 | [],i,j=> by simp [QaA,Qaw]
 | o::l,i,j=> by
   simp only [QaA,QaD];by_cases h:j=i
   ·subst h;simp
   ·rw [if_neg h,Qlh l (i+1) j];by_cases h2:i<=j
    ·rw [if_pos h2,if_pos (by omega),show j - i=(j - (i+1))+1 by omega];simp
    ·rw [if_neg h2,if_neg (by omega)]
theorem Qrr (objs:List Obj) (j:Nat):Qaw (Qa1 objs) j=if j=0 then some Qbc else if j=1 then some Qbc else objs[j - 2]? :=by
 unfold Qa1;rw [QaD,QaD,Qlh];by_cases h0:j=0
 ·simp [h0]
 ·by_cases h1:j=1
  ·simp [h1]
  ·rw [if_neg h0,if_neg h1,if_pos (by omega),if_neg h0,if_neg h1]
theorem QmF (objs:List Obj):Under (Qa1 objs) (2+objs.length):=fun i hi=> by
 rw [Qrr,if_neg (by omega),if_neg (by omega),List.getElem?_eq_none (by omega)]
def QiB (H:Qar) (m:Nat) (pos:Nat->Option Nat) (fz:List Fz):List (Nat×KS)->Option (List Obj×List Prop)
 | []=> some ([],[])
 | (k,s)::l=> match coO H m pos fz (Qaw H k) s with
   | some (o,L)=> match QiB H m pos fz l with
     | some (os,L2)=> some (o::os,L++L2)
     | none=> none
   | none=> none
structure Q6B where
 fn:FuncId
 len:Nat
 todo:List Item
 defers:List Nat
 mode:CM
 roundOf:Option Nat
 vals:List Value
 objs:List Obj
 L:List Prop
def Q7n:Option Obj->Bool
 | some (.cells _ _ (0,0))=> true
 | _=> false
def landM (s:Option ST) (slots:List Nat) (keeps:List (Nat×KS)) (fz:List Fz):Option Q6B:=match s with
 | some ⟨.at c H n,W,L⟩=> bif W.isEmpty && distinct (keeps.map (·.1)) && (keeps.all fun k=> Nat.ble 1 k.1) && (fz.all fun x=> Nat.ble 1 x.k && Q7n (Qaw H x.k) && (keeps.all fun k=> !(Nat.beq k.1 x.k))) then
  match coL (coV H 1 (posOf (keeps.map (·.1)) 2) fz 3) (slots.map (QbV c.tmps)),QiB H 1 (posOf (keeps.map (·.1)) 2) fz keeps with
  | some (vs,L1),some (os,L2)=> some ⟨c.fn,c.tmps.len,c.todo,c.defers,c.mode,c.roundOf,vs,os,L1++(L2++L)⟩
  | _,_=> none
   else none
 | _=> none
section
variable {P:Program} {F:FuncId->Bool} {J:World->Prop} {B:Lo}
theorem QoB {f:Value->Option (Value×List Prop)}:∀(l ts:List Value) (L:List Prop),coL f l=some (ts,L)->ts.length=l.length/\∀(i:Nat) v,ts[i]? =some v->∃u L1,l[i]? =some u/\f u=some (v,L1)/\(Qas L->Qas L1)
 | [],ts,L,h=> by
   simp only [coL,YO,YR] at h;obtain ⟨rfl,rfl⟩:=h;exact ⟨rfl,fun i v h=> by simp at h⟩
 | v::l,ts,L,h=> by
   simp only [coL] at h;split at h
   ·rename_i t L1 h1;split at h
    ·rename_i ts2 L2 h2;simp only [YO,YR] at h;obtain ⟨rfl,rfl⟩:=h;obtain ⟨k1,k2⟩:=QoB l ts2 L2 h2;refine ⟨by simp [k1],fun i u x=> ?_⟩;cases i with
     | zero=>
       simp only [List.getElem?_cons_zero,YO] at x;subst x;exact ⟨v,L1,rfl,h1,fun h=> (QaI h).1⟩
     | succ i=>
       obtain ⟨u',L',a,b,c⟩:=k2 i u (by simpa using x);exact ⟨u',L',by simpa using a,b,fun h=> c (QaI h).2⟩
    ·cases h
   ·cases h
theorem Qej {H:Qar} {m:Nat} {pos:Nat->Option Nat} {fz:List Fz}:∀(l:List (Nat×KS)) (os:List Obj) (L:List Prop),QiB H m pos fz l=some (os,L)->os.length=l.length/\∀(i:Nat) o,os[i]? =some o->∃k s L1,l[i]? =some (k,s)/\coO H m pos fz (Qaw H k) s=some (o,L1)/\(Qas L->Qas L1)
 | [],os,L,h=> by
   simp only [QiB,YO,YR] at h;obtain ⟨rfl,rfl⟩:=h;exact ⟨rfl,fun i v h=> by simp at h⟩
 | (k,s)::l,os,L,h=> by
   simp only [QiB] at h;split at h
   ·rename_i t L1 h1;split at h
    ·rename_i ts2 L2 h2;simp only [YO,YR] at h;obtain ⟨rfl,rfl⟩:=h;obtain ⟨k1,k2⟩:=Qej l ts2 L2 h2;refine ⟨by simp [k1],fun i u x=> ?_⟩;cases i with
     | zero=>
       simp only [List.getElem?_cons_zero,YO] at x;subst x;exact ⟨k,s,L1,rfl,h1,fun h=> (QaI h).1⟩
     | succ i=>
       obtain ⟨k',s',L',a,b,c⟩:=k2 i u (by simpa using x);exact ⟨k',s',L',by simpa using a,b,fun h=> c (QaI h).2⟩
    ·cases h
   ·cases h
theorem TR.merge {μ' μ1:Mu} {T':Tm} {A:Array Value} {len:Nat} {live:List (Nat×Value)} (h:TR μ' T' A) (hlen:T'.len=len) (hl:len<=16000) (hlive:∀p∈live,∀v',VR μ' (QbV T' p.1) v'->VR μ1 p.2 v')
 {d:Nat->Value} (hd:∀t,Qbg (d t)/\∀μ v',VR μ (QbV T' t) v'->VR μ (d t) v'):TR μ1 (mkT len live d) A:=by
 refine ⟨hlen ▸ h.1,fun t=> ?_⟩;rw [Q4L hl];have ht:=h.2 t;split
 ·rcases Qv8 live t (d t) with e | ⟨v,hv,e⟩
  ·rw [e];exact (hd t).1 μ' μ1 _ ((hd t).2 μ' _ ht)
  ·rw [e];exact hlive _ hv _ ht
 ·rename_i hlt;have:A.getD t undef=undef:=by
   have:A.size<=t:=by rw [<-h.1,hlen];omega
   simp [this]
  rw [this];exact VR.undef
theorem GoE.landM {c0 c:CF} {H:Qar} {n:Nat} (hF:∀g,F g=true->Qau P g=true) (hJ:∀w,B.has w->J w) (hmix:P.follows .mixedOrders=true) (h:GoE P B c0 H00 1 c H n []) {fuel:Nat} {sc:Qan} {f:FuncId} {len:Nat} {todo:List Item} {slots:List Nat} {keeps:List (Nat×KS)} {fz:List Fz} {vs:List Value} {os:List Obj} {L:List Prop}
 (e:CE.landM (Qah P F J B fuel 1 c H n sc 0 [] []) slots keeps fz=some ⟨f,len,todo,[],.run,none,vs,os,L⟩) (hL:Qas L) (hlen:Nat.ble len 16000=true) (hplain:todo.all Qdp=true):
 ∃d:Nat->Value,(∀t,Qbg (d t))/\GoE P B c0 H00 1 (Qa3 f len (slots.zip vs) d todo) (Qa1 os) (2+os.length) []:=by
 unfold CE.landM at e;split at e
 ·rename_i c' H' n' W' L' hs;have e:=e;cases hq:(W'.isEmpty && distinct (keeps.map (·.1)) && (keeps.all fun k=> Nat.ble 1 k.1) && (fz.all fun x=> Nat.ble 1 x.k && Q7n (Qaw H' x.k) && (keeps.all fun k=> !(Nat.beq k.1 x.k)))) with
  | false=> rw [hq] at e;cases e
  | true=>
    rw [hq] at e;simp only [cond_true] at e;split at e
    ·rename_i vs0 L1 os0 L2 hvs hos;simp only [YO,Q6B.mk.injEq] at e;obtain ⟨e1,e2,e3,e4,e5,e6,rfl,rfl,rfl⟩:=e;obtain ⟨hL1,hL23⟩:=QaI hL;obtain ⟨hL2,hL3⟩:=QaI hL23;simp only [YB] at hq;obtain ⟨⟨⟨hW,hdist⟩,hge⟩,hfz⟩:=hq;have hWe:W'=[]:=by simpa using hW
     subst hWe;obtain ⟨R,W2,hgo,hiff⟩:=QbS hF hJ hmix fuel 1 c H n sc 0 [] [] _ h.under hs hL3;have hg:=(h.step hgo).lists (W1:=[]) (fun i hi=> by
      have:=hiff i hi;simp only [List.not_mem_nil,false_or] at this;simp [<-this])
     have hd:∀t,∃d,Qbg d/\∀μ v',VR μ (QbV c'.tmps t) v'->VR μ d v':=fun t=> Qe3 _
     have hlenos:=(Qej keeps os0 L2 hos).1;refine ⟨fun t=> Classical.choose (hd t),fun t=> (Classical.choose_spec (hd t)).1,QmF _,by omega,fun Z μ w fr cs hok hB hf hfr=> ?_⟩;obtain ⟨fr',w',μ',hp,hfr',a,b,hst⟩:=hg.sem Z μ w fr cs hok hB hf hfr;let ρ:Nat->Nat:=fun i=> if i=0 then 0 else ((keeps.map (·.1))[i - 2]?).getD i
     have hρ:∀i k,2<=i->(keeps.map (·.1))[i - 2]? =some k->ρ i=k:=fun i k hi hk=> by
      show (if i=0 then 0 else ((keeps.map (·.1))[i - 2]?).getD i)=k;rw [if_neg (by omega),hk];rfl
     have get:∀i,1 < i->i < 2+os0.length->∃k,(keeps.map (·.1))[i - 2]? =some k/\ρ i=k/\1<=k:=by
      intro i h1 h2;have hlt:i - 2 < keeps.length:=by omega
      refine ⟨(keeps[i - 2]).1,by simp [hlt],hρ i _ (by omega) (by simp [hlt]), ?_⟩;exact YL (List.all_eq_true.1 hge _ (List.getElem_mem hlt))
     let im1:Img:=⟨0,0,0,false,fmU μ' H' w' (Qh2 H' n'++fz.map (·.k))⟩
     let μ1:=muM 1 (2+os0.length) ρ μ μ' (fmU μ' H' w' (Qh2 H' n'++fz.map (·.k)))
     have hco:Q42 H' 1 (posOf (keeps.map (·.1)) 2) fz μ' μ1 w' n' (fz.map (·.k)) im1:=by
      refine ⟨⟨B.B,_,hp.ok,fun i hi=> ?_⟩,hg.under,fun k j hj=> ?_, ?_,rfl,fun x hx=> List.mem_map.2 ⟨x,hx,rfl⟩⟩
      ·rcases Nat.lt_or_ge i 1 with h | h
       ·exact .inl h
       ·exact .inr ⟨h,hi⟩
      ·obtain ⟨h1,h2⟩:=QjP _ _ _ _ hj;have hlt:j - 2 < keeps.length:=by
        have:=(List.getElem?_eq_some_iff.1 h2).1;simpa using this
       show muM 1 (2+os0.length) ρ μ μ' _ j=μ' k;unfold muM;rw [if_neg (by omega),if_pos ⟨by omega,by omega⟩,hρ j k h1 h2]
      ·show muM 1 (2+os0.length) ρ μ μ' _ 1=some im1;unfold muM;rw [if_pos rfl]
     have hkeeps:Q1K 1 n' (2+os0.length) [] μ μ' H00 H' (Qa1 os0) w' ρ (fz.map (·.k)):=by
      refine ⟨by omega,fun i hi=> ?_,fun i h1 h2=> ?_,fun i j h1 h2 h3 h4 h5=> ?_,QmF _,fun i hi _=> ?_, ?_,fun i o1 hi hc ho=> ?_,fun k hk=> ?_⟩
      ·have:i=0:=by omega
       subst this;rfl
      ·obtain ⟨k,hk,hk2,hk3⟩:=get i h1 h2;refine ⟨by omega, ?_⟩;rw [hk2];have hlt:i - 2 < os0.length:=by omega
       obtain ⟨k',s,L',ha,hb,hc⟩:=(Qej keeps os0 L2 hos).2 (i - 2) os0[i - 2] (by simp [hlt]);have:k'=k:=by
        rw [List.getElem?_map,ha] at hk;simpa using hk
       subst this;obtain ⟨⟨x,hx⟩,_⟩:=QgK hco hb (hc hL2);exact hg.under.lt hx
      ·obtain ⟨k,hk,hk2,_⟩:=get i h1 h2;obtain ⟨k',hk',hk2',_⟩:=get j h3 h4;rw [hk2,hk2'] at h5;subst h5;have:=Qkq hdist _ _ _ hk hk';omega
      ·have:i=0:=by omega
       subst this;rfl
      ·rfl
      ·have h1i:1 < i:=hc.elim id fun h=> by simp at h
       rw [Qrr,if_neg (by omega),if_neg (by omega)] at ho;obtain ⟨k,s,L',ha,hb,hc'⟩:=(Qej keeps os0 L2 hos).2 (i - 2) o1 ho;obtain ⟨_,hnr,hli⟩:=QgK hco hb (hc' hL2);refine ⟨hnr,fun hl1=> ?_⟩;obtain ⟨x,hx,hl,hor⟩:=hli hl1;refine ⟨x, ?_,hl,fun im _ h=> hor im h⟩;rw [hρ i k (by omega) (by rw [List.getElem?_map,ha];rfl)];exact hx
      ·obtain ⟨x,hx,rfl⟩:=List.mem_map.1 hk;have:=List.all_eq_true.1 hfz x hx;simp only [YB] at this;obtain ⟨⟨q1,q2⟩,q3⟩:=this;have hown:∃o,Qaw H' x.k=some o/\live o:=by
        unfold Q7n at q2;split at q2
        ·rename_i ho;exact ⟨_,ho,trivial⟩
        ·cases q2
       obtain ⟨o,ho,hl⟩:=hown;refine ⟨YL q1,hg.under.lt ho,⟨o,ho,hl⟩,fun i h1 h2 hr=> ?_⟩;obtain ⟨k,hk,hk2,_⟩:=get i h1 h2;rw [hk2] at hr;rw [List.getElem?_map] at hk;cases hy:keeps[i - 2]? with
       | none=> rw [hy] at hk;cases hk
       | some y=>
         rw [hy] at hk;simp only [Option.map_some,YO] at hk;have:=List.all_eq_true.1 q3 y (List.mem_of_getElem? hy);rw [hk,hr] at this;simp at this
     have hpost:=hp.merge hok hf hkeeps;have hpans:c'.mode.pans=false:=by rw [e5];rfl
     refine ⟨fr',w',_,hpost,⟨by rw [hfr'.fn,e1];rfl, ?_,fun _=> (e3 ▸ hfr'.todo hpans).plain hplain, ?_, ?_,hfr'.kind, ?_⟩,a,b,hst⟩
     ·refine hfr'.tmps.merge e2 (YL hlen) (fun p hp v' hv=> ?_) fun t=> Classical.choose_spec (hd t)
      obtain ⟨i,hi⟩:=List.getElem?_of_mem hp;rw [List.getElem?_zip_eq_some] at hi;obtain ⟨hi1,hi2⟩:=hi;obtain ⟨u,L',ha,hb,hc⟩:=(QoB _ _ _ hvs).2 i p.2 hi2;rw [List.getElem?_map,hi1] at ha;simp only [Option.map_some,YO] at ha;subst ha;exact Qdl hco 3 _ _ _ _ hb (hc hL1) hv
     ·have:=hfr'.defers;rw [e4] at this;exact .of_empty this.empty
     ·have:=hfr'.mode;rw [e5] at this;generalize fr'.mode=ds at this;cases this;exact .run
     ·have:=hfr'.round;rw [e6] at this;generalize fr'.roundOf=x at this;cases x with
      | none=> trivial
      | some x=> cases this
    ·cases e
 ·cases e
def QaF (s:Option ST) (fz:List Fz):Option (Value×List Prop):=match s with
 | some ⟨.fin (.ret v) H _,W,L⟩=> bif W.isEmpty then match Qea H fz 3 v with
  | some (t,_,L2)=> some (t,L2++L)
  | none=> none
   else none
 | _=> none
def EndsT (P:Program) (B:Lo) (c0:CF) (out:Value):Prop:=
 ∀(μ:Mu) (w:World) (fr:Frame) (cs:List Frame) (im:Img),Ok B (fun i=> i < 1) μ (Qaw H00) w->B.has w->(∀i,1<=i->μ i=none)->μ 0=some im->FrR Bot.no μ c0 fr->
  ∃v' w',Below w.heap.size w w'/\TRv (Qny im.fm w w') out v'/\EndsAs P fr cs w (.ret v') w'
theorem GoE.endsT {c0 c:CF} {H:Qar} {n:Nat} (hF:∀g,F g=true->Qau P g=true) (hJ:∀w,B.has w->J w) (hmix:P.follows .mixedOrders=true) (h:GoE P B c0 H00 1 c H n []) {fuel:Nat} {sc:Qan} {fz:List Fz} {out:Value} {L:List Prop}
 (e:QaF (Qah P F J B fuel 1 c H n sc 0 [] []) fz=some (out,L)) (hL:Qas L):EndsT P B c0 out:=by
 unfold QaF at e;split at e
 ·rename_i v H' n' W' L' hs;cases hW:W'.isEmpty with
  | false=> rw [hW] at e;cases e
  | true=>
    rw [hW] at e;simp only [cond_true] at e;split at e
    ·rename_i t R2 L2 hst;simp only [YO,YR] at e;obtain ⟨rfl,rfl⟩:=e;obtain ⟨hL2,hL1⟩:=QaI hL;have hWe:W'=[]:=by simpa using hW
     subst hWe;obtain ⟨R,W2,hfj,hiff⟩:=QbS hF hJ hmix fuel 1 c H n sc 0 [] [] _ h.under hs hL1;intro μ w fr cs im hok hB hf him hfr;obtain ⟨out',w',μ',hp,ho,he⟩:=h.fj hfj μ w fr cs hok hB hf hfr;have hnoW:∀i,i∈[]++W2->¬i < 1:=fun i hi hlt=> by
      have:=(hiff i hlt).2 (.inr (by simpa using hi));simp at this
     have hbel:Below w.heap.size w w':=⟨hp.os,hp.tape,hp.output,hp.grow,fun b hb=> hp.frame b hb fun i hi hl=> absurd hl (hnoW i hi)⟩
     cases ho with
     | ret hvr=>
       rename_i v';refine ⟨v',w',hbel, ?_,he⟩;have hu':Under H' n':=h.under.shape hfj.shape;have hle:=hp.le
       -- of what is looked at, all is there
       have hall:∀r,(Qaw H' r).isSome->r < 1\/1<=r/\r < n':=fun r hr=> by
        have:r < n':=by
         cases hg:Qaw H' r with
         | none=> rw [hg] at hr;cases hr
         | some o=> exact hu'.lt hg
        omega
       have hok2:Ok B.B (fun _=> True) μ' (Qaw H') w':=
        ⟨fun i o _ ho=> hp.ok.rel i o (hall i (by rw [ho];rfl)) ho,fun i o im _ ho=> hp.ok.low i o im (hall i (by rw [ho];rfl)) ho,
         fun i j oi oj a b _ _ hij hoi hoj=> hp.ok.inj i j oi oj a b (hall i (by rw [hoi];rfl)) (hall j (by rw [hoj];rfl)) hij hoi hoj,
         fun i o _ ho=> hp.ok.reg i o (hall i (by rw [ho];rfl)) ho,fun i j oi oj a b x _ _ hoi hoj=> hp.ok.sep i j oi oj a b x (hall i (by rw [hoi];rfl)) (hall j (by rw [hoj];rfl)) hoi hoj⟩
       refine (QeC hok2 3 v v' t R2 L2 hst hL2 (fun _ _=> trivial) hvr).mono fun b x hx=> ?_
       have hw:=Qdm hx;unfold fmU at hx;split at hx
       ·rename_i hc;obtain ⟨i,_,o,im2,hio,him2,hcase⟩:=hc;have hi:=hall i (by rw [hio];rfl);have old0:∀i,i < 1->i=0:=fun i h=> by omega
        have keep0:Qaw H' 0=some Qbc:=by
         rw [hp.keep 0 (by omega) fun e=> hnoW 0 e (by omega)];rfl
        have mu0:μ' 0=some im:=by rw [hp.ext 0 (by omega)];exact him
        have below:b < w.heap.size->im.fm b=some x->Qny im.fm w w' b=some x:=fun h1 h2=> by unfold Qny;rw [if_pos h1];exact h2
        have above:w.heap.size<=b->Qny im.fm w w' b=some x:=fun h1=> by unfold Qny;rw [if_neg (by omega)];exact hw
        have from0:im.fm b=some x->Qny im.fm w w' b=some x:=fun h=> by
         refine below ?_ h;exact QgR hok (i:=0) (o:=Qbc) (show 0 < 1 by omega) rfl trivial him h
        rcases hcase with ⟨hreg,hne⟩ | ⟨hl,hb⟩
        ·cases hfx:im2.fm b with
         | none=> exact absurd hfx hne
         | some y=>
           obtain ⟨im3,him3,hf3⟩:=hp.ok.reg i o hi hio hreg;rw [him2] at him3;cases him3;have:=hf3 b y hfx;rw [hw] at this;cases this;rcases hi with hi | hi
           ·rw [old0 i hi,mu0] at him2;cases him2;exact from0 hfx
           ·rcases hp.rf i im2 o (.inl hi) hio hreg him2 b x hfx with c | ⟨k,kim,ko,hk,_,hko,_,hkm,hkb⟩ | ⟨k,hk,hkn,_⟩
            ·exact above c
            ·rw [old0 k hk,him] at hkm;cases hkm;exact from0 hkb
            ·exact absurd hkn (hnoW k hk)
        ·rcases hi with hi | hi
         ·rw [old0 i hi,keep0] at hio;cases hio;exact hl.elim
         ·rcases (hp.fresh i im2 o hi.1 hi.2 hio hl him2).2 with c | ⟨k,hk,hkn,_⟩
          ·exact above (by omega)
          ·exact absurd hkn (hnoW k hk)
       ·cases hx
    ·cases e
 ·cases e
theorem Qa5 {g:FuncId} {ts:List Value} {out:Value} {c0:CF} (hst:∀w w':World,(∀b,b < w.heap.size->w'.heap[b]? =w.heap[b]?)->J w->J w') (hc:Qc7 P g (ts.map (Qal 0 4)).toArray=some c0) (hok:(ts.all (okT 4))=true)
 (h:∀B:Lo,(∀w,B.has w->J w)->EndsT P B c0 out):Qai P J g ts.toArray out:=by
 intro fm w args' hJ hfm hargs cs;let B:Lo:=⟨w.heap.size,fun w'=> ∀b,b < w.heap.size->w'.heap[b]? =w.heap[b]?,fun _ _ h hi b hb=> (h b hb).trans (hi b hb)⟩
 have hB:B.has w:=⟨Nat.le_refl _,fun _ _=> rfl⟩
 let im:Img:=⟨0,0,0,false,fm⟩
 let μ:Mu:=fun i=> if i=0 then some im else none
 have hOk:Ok B.B (fun i=> i < 1) μ (Qaw H00) w:=by
  have only:∀i o,Qaw H00 i=some o->i=0/\o=Qbc:=by
   intro i o h;simp only [H00,QaD,Qaw] at h;split at h
   ·rename_i e;exact ⟨e,by simpa using h.symm⟩
   ·cases h
  refine ⟨fun i o _ ho hl=> ?_,fun i o im _ ho hl=> ?_,fun i j oi oj a b _ _ _ ho _ hl=> ?_,fun i o _ ho _=> ?_,fun i j oi oj a b x _ _ _ ho _ hl=> ?_⟩
  ·rw [(only i o ho).2] at hl;exact hl.elim
  ·rw [(only i o ho).2] at hl;exact hl.elim
  ·rw [(only i oi ho).2] at hl;exact hl.elim
  ·exact ⟨im,by rw [(only i o ho).1];rfl,hfm⟩
  ·rw [(only j oj ho).2] at hl;exact hl.elim
 have hv:VRs μ (ts.map (Qal 0 4)).toArray args':=by
  refine ⟨by simpa using hargs.1,fun i v v' hv hv'=> ?_⟩;simp only [List.getElem?_toArray,List.getElem?_map] at hv;cases ht:ts[i]? with
  | none=> rw [ht] at hv;cases hv
  | some t=>
    rw [ht] at hv;simp only [Option.map_some,YO] at hv;subst hv;exact Qhl (im:=im) rfl 4 t v' (List.all_eq_true.1 hok t (List.mem_of_getElem? ht)) (hargs.2 i t v' (by simpa using ht) hv')
 obtain ⟨v',w',hb,ht,he⟩:=h B (fun w' h=> hst w w' h.inv hJ) μ w (Frame.enter P g args' .normal) cs im hOk hB (fun i hi=> by show (if i=0 then _ else _)=_;rw [if_neg (by omega)]) rfl (Qen hc hv);obtain ⟨frE,h1,h2,h3⟩:=he.1 rfl;exact ⟨.returned v',w',frE,⟨v',rfl,hb,ht⟩,h1,h2,h3⟩
theorem GoE.start {c0:CF}:GoE P B c0 H00 1 c0 H00 1 []:=GoE.refl (fun i hi=> by simp only [H00,QaD,Qaw];rw [if_neg (by omega)])
end
end Go.CE

namespace Go.CE
open Go Go.RowKit

def Qad {α:Type} (e:α->List Value) (xs:List α):Array Value:=(xs.flatMap e).toArray
def Qav (n:Int):List Value:=[.int .i64 n]
def Qgw (b:Bool):List Value:=[.bool b]
abbrev slI (xs:List Int):Value:=slT xs.length (Qad Qav xs)
abbrev slB (xs:List Bool):Value:=slT xs.length (Qad Qgw xs)
section
variable {α:Type} {e:α->List Value} {z:Nat} {xs:List α}
theorem QmQ (h:∀x,(e x).length=z):∀xs:List α,(xs.flatMap e).length=xs.length * z
 | []=> by simp
 | x::xs=> by simp [h,QmQ h xs,Nat.add_mul,Nat.add_comm]
theorem Qcc (h:∀x,(e x).length=z):(Qad e xs).size=xs.length * z:=by simp [Qad,QmQ h]
theorem flat_get (h:∀x,(e x).length=z):∀(xs:List α) (k j:Nat) (x:α),j < z->xs[k]? =some x->(xs.flatMap e)[k * z+j]? =(e x)[j]?
 | [],k,j,x,hj,hk=> by simp at hk
 | y::xs,0,j,x,hj,hk=> by
   simp only [List.getElem?_cons_zero,YO] at hk;subst hk;simp only [List.flatMap_cons,Nat.zero_mul,Nat.zero_add];rw [List.getElem?_append_left (by rw [h];exact hj)]
 | y::xs,k+1,j,x,hj,hk=> by
   simp only [List.flatMap_cons];rw [List.getElem?_append_right (by rw [h,Nat.add_mul];omega),h,show (k+1) * z+j - z=k * z+j by rw [Nat.add_mul];omega];exact flat_get h xs k j x hj (by simpa using hk)
theorem Qo9 [Inhabited α] (h:∀x,(e x).length=z) {k j:Nat} (hk:k < xs.length) (hj:j < z):(Qad e xs)[k * z+j]? =(e (xs.getD k default))[j]? :=by
 have hx:xs[k]? =some (xs.getD k default):=by simp [hk]
 simp only [Qad,List.getElem?_toArray];exact flat_get h xs k j _ hj hx
theorem Qao [Inhabited α] (h:∀x,(e x).length=z) {k:Nat} (hk:k < xs.length):(Qad e xs).extract (k * z) (k * z+z)=(e (xs.getD k default)).toArray:=by
 have hsz:=Qcc (xs:=xs) h;have hle:k * z+z<=xs.length * z:=by
  have:=Nat.mul_le_mul_right z (show k+1<=xs.length by omega);rw [Nat.add_mul,Nat.one_mul] at this;exact this
 refine Array.ext (by simp [hsz,h];omega) fun i h1 h2=> ?_
 have hi:i < z:=by simpa [h] using h2
 have a:=Qo9 (xs:=xs) h hk hi;rw [Array.getElem_extract];have b:(Qad e xs)[k * z+i]? =some ((Qad e xs)[k * z+i]'(by rw [hsz];omega)):=by simp
 have c:(e (xs.getD k default))[i]? =some ((e (xs.getD k default)).toArray[i]'h2):=by simp
 rw [b,c] at a;exact Option.some.inj a
theorem Qhf {x:α}:Qad e xs++(e x).toArray=Qad e (xs++[x]):=by simp [Qad]
theorem QaT (h:∀x,∀v∈e x,simple v=true):∀v∈Qad e xs,simple v=true:=fun v hv=> by
 simp only [Qad,List.mem_toArray,List.mem_flatMap] at hv;obtain ⟨x,_,hx⟩:=hv;exact h x v hx
theorem QaC {rs:List Nat} (h:∀x,∀v∈e x,simple v=true):Qbl rs (Qad e xs) (Qad e xs):=QfZ (Array.all_eq_true'.2 (QaT h))
theorem Qva {x:α} (h:∀x,(e x).length=z):∀(xs:List α) (k i:Nat),k < xs.length->((xs.set k x).flatMap e)[i]? =if k * z<=i/\i < k * z+z then (e x)[i - k * z]? else (xs.flatMap e)[i]?
 | [],k,i,hk=> by simp at hk
 | y::xs,0,i,hk=> by
   simp only [List.set_cons_zero,List.flatMap_cons,Nat.zero_mul,Nat.zero_add,Nat.zero_le,true_and,Nat.sub_zero];by_cases hi:i < z
   ·rw [if_pos hi,List.getElem?_append_left (by rw [h];exact hi)]
   ·rw [if_neg hi,List.getElem?_append_right (by rw [h];omega),List.getElem?_append_right (by rw [h];omega),h,h]
 | y::xs,k+1,i,hk=> by
   simp only [List.set_cons_succ,List.flatMap_cons];by_cases hi:i < z
   ·rw [List.getElem?_append_left (by rw [h];exact hi),if_neg (by rw [Nat.add_mul];omega),List.getElem?_append_left (by rw [h];exact hi)]
   ·rw [List.getElem?_append_right (by rw [h];omega),List.getElem?_append_right (by rw [h];omega),h,Qva h xs k (i - z) (by simpa using hk)];by_cases hc:k * z<=i - z/\i - z < k * z+z
    ·rw [if_pos hc,if_pos (by rw [Nat.add_mul];omega),show i - z - k * z=i - (k+1) * z by rw [Nat.add_mul];omega]
    ·rw [if_neg hc,if_neg (by rw [Nat.add_mul];omega)]
theorem Qmh {x:α} (h:∀x,(e x).length=z) {k:Nat} (hk:k < xs.length):k * z+z<=(Qad e xs).size/\splice (Qad e xs) (k * z) (e x).toArray=Qad e (xs.set k x):=by
 have hsz:=Qcc (xs:=xs) h;have hle:k * z+z<=xs.length * z:=by
  have:=Nat.mul_le_mul_right z (show k+1<=xs.length by omega);rw [Nat.add_mul,Nat.one_mul] at this;exact this
 refine ⟨by rw [hsz];exact hle,Array.ext_getElem? fun i=> ?_⟩;have a:(Qad e (xs.set k x))[i]? =((xs.set k x).flatMap e)[i]? :=by simp [Qad]
 have b:(Qad e xs)[i]? =(xs.flatMap e)[i]? :=by simp [Qad]
 rw [a,Qva h xs k i hk,<-b];rw [Qju (by rw [hsz];simp [h];exact hle)];simp [h]
end
theorem TRv.len' {fm:Nat->Option Obj} {n:Nat} {cs:Array Value} {v':Value} (h:TRv fm (slT n cs) v'):n<=maxLen:=by
 rcases h.slice_inv with ⟨_,_,_,_,_,_,_,h1,h2,_⟩ | ⟨rfl,_⟩
 ·omega
 ·exact Nat.zero_le _
theorem Q0n {a b:Int} (h:a≠b):(!eqq a b)=true:=by rw [Qw1 h];rfl
theorem Q1u {a b:Int} (h:a=b):(!eqq a b)=false:=by rw [Qvr h];rfl
theorem QjA {m:Nat} {rs:List Nat} {cs:Array Value} (h:cs.all simple=true):Qdd m rs cs cs:=QaO fun v hv=> Array.all_eq_true'.1 h v hv
theorem Qtu {α:Type} {e:α->List Value} {z:Nat} {xs:List α} (h:∀x,(e x).length=z) {k:Nat} (hk:k < xs.length):k * z+z<=(Qad e xs).size:=by
 rw [Qcc h];have:=Nat.mul_le_mul_right z (show k+1<=xs.length by omega);rw [Nat.add_mul,Nat.one_mul] at this;exact this
theorem Q4H {α:Type} {e:α->List Value} {z:Nat} {xs:List α} (h:∀x,(e x).length=z) {k:Nat} (hk:k < xs.length) {x:α} {cs:Array Value} (hc:cs=(e x).toArray):k * z+z<=(Qad e xs).size/\splice (Qad e xs) (k * z) cs=Qad e (xs.set k x):=by
 rw [hc];exact Qmh h hk
theorem EndsT.cast {P:Program} {B:Lo} {c0:CF} {a b:Value} (h:EndsT P B c0 a) (e:a=b):EndsT P B c0 b:=e ▸ h
theorem TRvs.len {fm:Nat->Option Obj} {ts args:Array Value} (h:TRvs fm ts args) {i n:Nat} {cs:Array Value} (hi:ts[i]? =some (slT n cs)):n<=maxLen:=by
 have hlt:i < args.size:=h.1 ▸ (Array.getElem?_eq_some_iff.1 hi).1;exact TRv.len' (h.2 i _ args[i] hi (by simp [hlt]))
theorem TRvs.len2 {fm:Nat->Option Obj} {ts args:Array Value} (h:TRvs fm ts args) {i j n:Nat} {xs cs:Array Value} (hi:ts[i]? =some (.agg xs)) (hj:xs[j]? =some (slT n cs)):n<=maxLen:=by
 have hlt:i < args.size:=h.1 ▸ (Array.getElem?_eq_some_iff.1 hi).1;have ht:=h.2 i _ args[i] hi (by simp [hlt]);generalize args[i]=v at ht;cases ht with
 | simple h=> cases h
 | agg h1 h2=>
   rename_i ys;have hlt:j < ys.size:=h1 ▸ (Array.getElem?_eq_some_iff.1 hj).1;exact TRv.len' (h2 j _ ys[j] hj (by simp [hlt]))
theorem TRvs.ln {fm:Nat->Option Obj} {ts args:Array Value} (h:TRvs fm ts args) {i n:Nat} {cs:Array Value} (hi:ts[i]? =some (slT n cs)):n<=9223372036854775807:=by
 have:=h.len hi;unfold maxLen at this;omega
theorem TRvs.ln2 {fm:Nat->Option Obj} {ts args:Array Value} (h:TRvs fm ts args) {i j n:Nat} {xs cs:Array Value} (hi:ts[i]? =some (.agg xs)) (hj:xs[j]? =some (slT n cs)):n<=9223372036854775807:=by
 have:=h.len2 hi hj;unfold maxLen at this;omega
section
variable {α:Type} [Inhabited α] {f:α->Bool} {xs:List α} {i:Int}
theorem drop_cons (h0:0<=i) (hi:i < xs.length):xs.drop i.toNat=xs.getD i.toNat default::xs.drop (i+1).toNat:=by
 have hlt:i.toNat < xs.length:=by omega
 rw [List.drop_eq_getElem_cons hlt,show (i+1).toNat=i.toNat+1 by omega];simp [hlt]
theorem Qev (h0:0<=i) (hi:i < xs.length):(xs.drop i.toNat).all f=(f (xs.getD i.toNat default) && (xs.drop (i+1).toNat).all f):=by rw [drop_cons h0 hi];rfl
theorem QtY (h0:0<=i) (hi:i < xs.length):(xs.drop i.toNat).any f=(f (xs.getD i.toNat default) || (xs.drop (i+1).toNat).any f):=by rw [drop_cons h0 hi];rfl
omit [Inhabited α] in
theorem Qdy (hi:xs.length<=i):xs.drop i.toNat=[]:=List.drop_eq_nil_of_le (by omega)
end
def upI (a b:Int):List Int:=(List.range (b - a).toNat).map fun (k:Nat)=> a+(k:Int)
theorem Qfy {a b:Int} (h:a < b):upI a b=a::upI (a+1) b:=by
 unfold upI;obtain ⟨m,hm⟩:∃m:Nat,(b - a).toNat=m+1:=⟨(b - a).toNat - 1,by omega⟩
 rw [hm,show (b - (a+1)).toNat=m by omega,List.range_succ_eq_map];simp only [List.map_cons,List.map_map,Int.ofNat_zero,Int.add_zero,Int.cast_ofNat_Int];congr 1;apply List.map_congr_left;intro k _;simp only [Function.comp_apply,Nat.succ_eq_add_one];omega
theorem QjT {a b:Int} (h:b<=a):upI a b=[]:=by
 unfold upI;rw [show (b - a).toNat=0 by omega];rfl
theorem Qcv {P:Program} {J:World->Prop} {g:FuncId} {ts:List Value} {out:Value} {c0:CF} (facts:Prop) (hfacts:∀fm args',TRvs fm ts.toArray args'->facts) (hst:∀w w':World,(∀b,b < w.heap.size->w'.heap[b]? =w.heap[b]?)->J w->J w') (hc:Qc7 P g (ts.map (Qal 0 4)).toArray=some c0) (hok:(ts.all (okT 4))=true)
 (h:facts->∀B:Lo,(∀w,B.has w->J w)->EndsT P B c0 out):Qai P J g ts.toArray out:=fun fm w args' hJ hfm hargs=> Qa5 hst hc hok (h (hfacts fm args' hargs)) fm w args' hJ hfm hargs
end Go.CE

namespace Go.CE
open Go Go.RowKit

theorem Post.widen {B n n':Nat} {S:Nat->Prop} {W W':List Nat} {μ μ':Mu} {H H':Qar} {w w':World} (hok:Ok B S μ (Qaw H) w) (h:Post B S n n' W μ μ' H H' w w') (hW:∀i,i < n->i∈W->i∈W') (hw:∀i,i < n->i∈W'->S i/\∃o,Qaw H i=some o/\live o/\∀im,μ i=some im->im.rw=true):Post B S n n' W' μ μ' H H' w w':=
 ⟨h.ok,h.le,h.ext,fun i hi hw'=> h.keep i hi fun e=> hw' (hW i hi e),h.grow,fun b hb hx=> h.frame b hb fun i hi hl=> hx i (hW i hl hi) hl,fun i hi hl=> by
  obtain ⟨hs,o,hg,hl',hr⟩:=hw i hl hi;obtain ⟨im,him,_⟩:=hok.rel i _ hs hg hl';exact ⟨hs,⟨o,hg,hl'⟩,im,him,hr im him⟩,fun i im o h1 h2 ho hl hm=> by
  obtain ⟨hr,hf⟩:=h.fresh i im o h1 h2 ho hl hm;exact ⟨hr,hf.imp id fun ⟨k,a,b,d⟩=> ⟨k,hW k b a,b,d⟩⟩,fun i im o hi ho hr hm b x hx=> by
  have res:(n<=i/\i < n'\/i∈W/\i < n)->w.heap.size<=b\/(∃k kim ko,S k/\k < n/\Qaw H k=some ko/\QeK ko/\μ k=some kim/\kim.fm b=some x)\/∃k,k∈W'/\k < n/\(∃im',μ k=some im'/\im'.blk=b)/\∀o,Qaw H' k=some o->¬live o:=fun hc=> by
   rcases h.rf i im o hc ho hr hm b x hx with e | e | ⟨k,p,q,r⟩
   ·exact .inl e
   ·exact .inr (.inl e)
   ·exact .inr (.inr ⟨k,hW k q p,q,r⟩)
  rcases hi with hi | ⟨hi,hlt⟩
  ·exact res (.inl hi)
  ·by_cases hin:i∈W
   ·exact res (.inr ⟨hin,hlt⟩)
   ·obtain ⟨_,o',hg,hl,_⟩:=hw i hlt hi;rw [h.keep i hlt hin,hg] at ho;cases ho;exact absurd hl (by cases o <;> first | exact id | exact hr.elim),h.os,h.tape,h.output⟩
def Writable (H0:Qar) (a:Nat) (Wf:List Nat):Prop:=∀i,i < a->i∈Wf->(∃cs t,Qaw H0 i=some (.cells cs t (0,0)))\/(∃r,Qaw H0 i=some (.loop r))\/(∃es clk,Qaw H0 i=some (.map es clk))\/∃ds,Qaw H0 i=some (.deferred ds)
def Q6p (o:Option Obj):Bool:=match o with
 | some (.cells _ _ (0,0)) | some (.loop _) | some (.map _ _) | some (.deferred _)=> true
 | _=> false
theorem Qag {H0:Qar} {a:Nat} {Wf:List Nat} (h:(Wf.all fun i=> Q6p (Qaw H0 i))=true):Writable H0 a Wf:=fun i _ hi=> by
 have:=List.all_eq_true.1 h i hi;unfold Q6p at this;split at this
 ·rename_i cs t hg;exact .inl ⟨cs,t,hg⟩
 ·rename_i r hg;exact .inr (.inl ⟨r,hg⟩)
 ·rename_i es clk hg;exact .inr (.inr (.inl ⟨es,clk,hg⟩))
 ·rename_i ds hg;exact .inr (.inr (.inr ⟨ds,hg⟩))
 ·cases this
theorem Writable.rw {B:Nat} {μ:Mu} {H0:Qar} {a:Nat} {Wf:List Nat} {w:World} (h:Writable H0 a Wf) (hok:Ok B (fun i=> i < a) μ (Qaw H0) w) {i:Nat} (hi:i < a) (hw:i∈Wf):i < a/\∃o,Qaw H0 i=some o/\live o/\∀im,μ i=some im->im.rw=true:=by
 rcases h i hi hw with ⟨cs,t,hg⟩ | ⟨r,hg⟩ | ⟨es,clk,hg⟩ | ⟨ds,hg⟩
 ·refine ⟨hi,_,hg,trivial,fun im him=> ?_⟩;obtain ⟨im',him',hor⟩:=hok.rel i _ hi hg trivial;rw [him] at him';cases him';rcases hor with ⟨_,h,_⟩ | ⟨h,_⟩
  ·exact h
  ·exact absurd rfl h
 all_goals
  refine ⟨hi,_,hg,trivial,fun im him=> ?_⟩;obtain ⟨im',him',hor⟩:=hok.rel i _ hi hg trivial;rw [him] at him';cases him';exact hor.1
def Qc6 (ro:Option Nat) (f:FuncId) (len:Nat) (live:List (Nat×Value)) (d:Nat->Value) (todo:List Item):CF:=⟨f,mkT len live d,todo,[],.run,ro⟩
def QbM (Hb:Qar) (a:Nat) (ws:Qar) (os:List Obj):Qar:=ws++((a,Qbc)::(QaA (a+1) os++Hb))
def Qtf (a:Nat) (olds:List Nat) (k:Nat):Option Nat:=bif Nat.blt k a then some k else posOf olds (a+1) k
def Q4s (H:Qar) (m:Nat) (pos:Nat->Option Nat) (fz:List Fz):List (Nat×KS)->Option (Qar×List Prop)
 | []=> some ([],[])
 | (k,s)::l=> match coO H m pos fz (Qaw H k) s with
   | some (o,L)=> match Q4s H m pos fz l with
     | some (os,L2)=> some ((k,o)::os,L++L2)
     | none=> none
   | none=> none
theorem QkP {H:Qar} {m:Nat} {pos:Nat->Option Nat} {fz:List Fz}:∀(l:List (Nat×KS)) (ws:Qar) (L:List Prop),Q4s H m pos fz l=some (ws,L)->∀i,(Qaw ws i=none<->i ∉ l.map (·.1))/\∀o,Qaw ws i=some o->∃s L1,coO H m pos fz (Qaw H i) s=some (o,L1)/\(Qas L->Qas L1)
 | [],ws,L,h,i=> by
   simp only [Q4s,YO,YR] at h;obtain ⟨rfl,rfl⟩:=h;simp [Qaw]
 | (k,s)::l,ws,L,h,i=> by
   simp only [Q4s] at h;split at h
   ·rename_i t L1 h1;split at h
    ·rename_i ts2 L2 h2;simp only [YO,YR] at h;obtain ⟨rfl,rfl⟩:=h;obtain ⟨k1,k2⟩:=QkP l ts2 L2 h2 i;rw [QaD];by_cases e:i=k
     ·subst e;simp only [if_true,List.map_cons,List.mem_cons,true_or,not_true_eq_false,iff_false];exact ⟨by simp,fun o ho=> by cases ho;exact ⟨s,L1,h1,fun h=> (QaI h).1⟩⟩
     ·rw [if_neg e];refine ⟨by rw [k1];simp [e],fun o ho=> ?_⟩;obtain ⟨s',L',a,b⟩:=k2 o ho;exact ⟨s',L',a,fun h=> b (QaI h).2⟩
    ·cases h
   ·cases h
structure Q6D where
 fn:FuncId
 len:Nat
 todo:List Item
 defers:List Nat
 mode:CM
 roundOf:Option Nat
 vals:List Value
 ws:Qar
 objs:List Obj
 L:List Prop
def Qkc (a:Nat) (H:Qar) (W:List Nat) (wks keeps:List (Nat×KS)) (fz:List Fz):Bool:=
 (W.all fun i=> (wks.map (·.1)).contains i) && (wks.all fun k=> Nat.blt k.1 a) && distinct (keeps.map (·.1)) && (keeps.all fun k=> Nat.ble a k.1) && (fz.all fun x=> Nat.ble a x.k && Q7n (Qaw H x.k) && (keeps.all fun k=> !(Nat.beq k.1 x.k)))
def landA (a:Nat) (s:Option ST) (slots:List Nat) (wks keeps:List (Nat×KS)) (fz:List Fz):Option Q6D:=match s with
 | some ⟨.at c H n,W,L⟩=> bif Qkc a H W wks keeps fz then
  match coL (coV H a (Qtf a (keeps.map (·.1))) fz 4) (slots.map (QbV c.tmps)),Q4s H a (Qtf a (keeps.map (·.1))) fz wks,QiB H a (Qtf a (keeps.map (·.1))) fz keeps with
  | some (vs,L1),some (ws,L3),some (os,L2)=> some ⟨c.fn,c.tmps.len,c.todo,c.defers,c.mode,c.roundOf,vs,ws,os,L1++(L3++(L2++L))⟩
  | _,_,_=> none
   else none
 | _=> none
section
variable {P:Program} {F:FuncId->Bool} {J:World->Prop} {B:Lo} {c0 c:CF} {Hb H:Qar} {a n:Nat} {W Wf:List Nat}
theorem GoE.widen (h:GoE P B c0 Hb a c H n W) (hW:∀i,i < a->i∈W->i∈Wf) (hw:Writable Hb a Wf):GoE P B c0 Hb a c H n Wf:=
 ⟨h.under,h.le,fun Z μ w fr cs hok hB hf hfr=> by
  obtain ⟨fr',w',μ',hp,r⟩:=h.sem Z μ w fr cs hok hB hf hfr;exact ⟨fr',w',μ',hp.widen hok hW fun i hi hiW=> hw.rw hok hi hiW,r⟩⟩
theorem QdJ {ws:Qar} {os:List Obj} (i:Nat):Qaw (QbM Hb a ws os) i=match Qaw ws i with
 | some o=> some o
 | none=> if i=a then some Qbc else if a < i/\i < a+1+os.length then os[i - (a+1)]? else Qaw Hb i:=by
 unfold QbM;rw [Qd0];cases Qaw ws i with
 | some o=> rfl
 | none=>
   simp only;rw [QaD];by_cases e:i=a
   ·rw [if_pos e,if_pos e]
   ·rw [if_neg e,if_neg e,Qd0,Qlh];by_cases h1:a+1<=i
    ·rw [if_pos h1];by_cases h2:i < a+1+os.length
     ·rw [if_pos ⟨by omega,h2⟩];have:i - (a+1) < os.length:=by omega
      simp [this]
     ·rw [if_neg (by omega),List.getElem?_eq_none (by omega)]
    ·rw [if_neg h1,if_neg (by omega)]
theorem QhR {ws:Qar} {os:List Obj} (hu:Under Hb a) (hws:∀i o,Qaw ws i=some o->i < a):Under (QbM Hb a ws os) (a+1+os.length):=fun i hi=> by
 rw [QdJ];cases hg:Qaw ws i with
 | some o=> have:=hws i o hg;omega
 | none=> simp only;rw [if_neg (by omega),if_neg (by omega)];exact hu i (by omega)
theorem QjX {n':Nat} {H':Qar} {μ μ':Mu} {w w':World} {W':List Nat} {wks keeps:List (Nat×KS)} {fz:List Fz} {ws:Qar} {os:List Obj} {L2 L3:List Prop} (hu:Under Hb a) (hw:Writable Hb a (wks.map (·.1))) (hu':Under H' n') (hq:Qkc a H' W' wks keeps fz=true)
 (hok:Ok B.B (fun i=> i < a) μ (Qaw Hb) w) (hf:∀i,a<=i->μ i=none) (hp:Post B.B (fun i=> i < a) a n' (wks.map (·.1)) μ μ' Hb H' w w')
 (hws:Q4s H' a (Qtf a (keeps.map (·.1))) fz wks=some (ws,L3)) (hos:QiB H' a (Qtf a (keeps.map (·.1))) fz keeps=some (os,L2)) (hL3:Qas L3) (hL2:Qas L2):
 ∃μ1 im1,Q42 H' a (Qtf a (keeps.map (·.1))) fz μ' μ1 w' n' (fz.map (·.k)) im1/\Post B.B (fun i=> i < a) a (a+1+os.length) (wks.map (·.1)) μ μ1 Hb (QbM Hb a ws os) w w'/\(∀i,a+1+os.length<=i->μ1 i=none)/\(∀i o,Qaw ws i=some o->i < a):=by
 unfold Qkc at hq;simp only [YB] at hq;obtain ⟨⟨⟨⟨hW,hwlt⟩,hdist⟩,hge⟩,hfz⟩:=hq;have wlt:∀i,i∈wks.map (·.1)->i < a:=fun i hi=> by
  obtain ⟨k,hk,rfl⟩:=List.mem_map.1 hi;exact YL (List.all_eq_true.1 hwlt k hk)
 have wsget:=QkP wks ws L3 hws;have wslt:∀i o,Qaw ws i=some o->i < a:=fun i o ho=> by
  refine wlt i (Decidable.of_not_not fun e=> ?_);have:=(wsget i).1.2 e;rw [this] at ho;cases ho
 have hlenos:=(Qej keeps os L2 hos).1;let ρ:Nat->Nat:=fun i=> if i < a then i else ((keeps.map (·.1))[i - (a+1)]?).getD i
 have hρ:∀i k,a+1<=i->(keeps.map (·.1))[i - (a+1)]? =some k->ρ i=k:=fun i k hi hk=> by
  show (if i < a then i else ((keeps.map (·.1))[i - (a+1)]?).getD i)=k;rw [if_neg (by omega),hk];rfl
 have hρlow:∀i,i < a->ρ i=i:=fun i hi=> by
  show (if i < a then i else ((keeps.map (·.1))[i - (a+1)]?).getD i)=i;rw [if_pos hi]
 have get:∀i,a < i->i < a+1+os.length->∃k,(keeps.map (·.1))[i - (a+1)]? =some k/\ρ i=k/\a<=k:=by
  intro i h1 h2;have hlt:i - (a+1) < keeps.length:=by omega
  refine ⟨(keeps[i - (a+1)]).1,by simp [hlt],hρ i _ (by omega) (by simp [hlt]), ?_⟩;exact YL (List.all_eq_true.1 hge _ (List.getElem_mem hlt))
 let im1:Img:=⟨0,0,0,false,fmU μ' H' w' (Qh2 H' n'++fz.map (·.k))⟩
 let μ1:=muM a (a+1+os.length) ρ μ μ' (fmU μ' H' w' (Qh2 H' n'++fz.map (·.k)))
 have hco:Q42 H' a (Qtf a (keeps.map (·.1))) fz μ' μ1 w' n' (fz.map (·.k)) im1:=by
  refine ⟨⟨B.B,_,hp.ok,fun i hi=> ?_⟩,hu',fun k j hj=> ?_, ?_,rfl,fun x hx=> List.mem_map.2 ⟨x,hx,rfl⟩⟩
  ·rcases Nat.lt_or_ge i a with h | h
   ·exact .inl h
   ·exact .inr ⟨h,hi⟩
  ·unfold Qtf at hj;cases hb:Nat.blt k a with
   | true=>
     rw [hb] at hj;simp only [cond_true,YO] at hj;subst hj;have hlt:k < a:=YL hb;show muM a (a+1+os.length) ρ μ μ' _ k=μ' k;unfold muM;rw [if_neg (by omega),if_neg (by omega),hp.ext k (by omega)]
   | false=>
     rw [hb] at hj;obtain ⟨h1,h2⟩:=QjP _ _ _ _ hj;have hlt:j - (a+1) < keeps.length:=by
      have:=(List.getElem?_eq_some_iff.1 h2).1;simpa using this
     show muM a (a+1+os.length) ρ μ μ' _ j=μ' k;unfold muM;rw [if_neg (by omega),if_pos ⟨by omega,by omega⟩,hρ j k h1 h2]
  ·show muM a (a+1+os.length) ρ μ μ' _ a=some im1;unfold muM;rw [if_pos rfl]
 have hkeeps:Q1K a n' (a+1+os.length) (wks.map (·.1)) μ μ' Hb H' (QbM Hb a ws os) w' ρ (fz.map (·.k)):=by
  refine ⟨by omega,hρlow,fun i h1 h2=> ?_,fun i j h1 h2 h3 h4 h5=> ?_,QhR hu wslt,fun i hi hn=> ?_, ?_,fun i o1 hi hc ho=> ?_,fun k hk=> ?_⟩
  ·obtain ⟨k,hk,hk2,hk3⟩:=get i h1 h2;refine ⟨by omega, ?_⟩;rw [hk2];have hlt:i - (a+1) < os.length:=by omega
   obtain ⟨k',s,L',ha,hb,hc⟩:=(Qej keeps os L2 hos).2 (i - (a+1)) os[i - (a+1)] (by simp [hlt]);have:k'=k:=by
    rw [List.getElem?_map,ha] at hk;simpa using hk
   subst this;obtain ⟨⟨x,hx⟩,_⟩:=QgK hco hb (hc hL2);exact hu'.lt hx
  ·obtain ⟨k,hk,hk2,_⟩:=get i h1 h2;obtain ⟨k',hk',hk2',_⟩:=get j h3 h4;rw [hk2,hk2'] at h5;subst h5;have:=Qkq hdist _ _ _ hk hk';omega
  ·rw [QdJ,(wsget i).1.2 hn];simp only;rw [if_neg (by omega),if_neg (by omega)]
  ·rw [QdJ];cases hg:Qaw ws a with
   | some o=> have:=wslt a o hg;omega
   | none=> simp
  ·rcases hc with h1i | ⟨hin,hlt⟩
   ·rw [QdJ] at ho;have hn:Qaw ws i=none:=by
     cases hg:Qaw ws i with
     | none=> rfl
     | some o=> have:=wslt i o hg;omega
    rw [hn] at ho;simp only at ho;rw [if_neg (by omega),if_pos ⟨h1i,hi⟩] at ho;obtain ⟨k,s,L',ha,hb,hc'⟩:=(Qej keeps os L2 hos).2 (i - (a+1)) o1 ho;obtain ⟨_,hnr,hli⟩:=QgK hco hb (hc' hL2);refine ⟨hnr,fun hl1=> ?_⟩;obtain ⟨x,hx,hl,hor⟩:=hli hl1;refine ⟨x, ?_,hl,fun im _ h=> hor im h⟩;rw [hρ i k (by omega) (by rw [List.getElem?_map,ha];rfl)];exact hx
   ·cases hg:Qaw ws i with
    | none=> exact absurd hin ((wsget i).1.1 hg)
    | some o=>
      rw [QdJ,hg] at ho;simp only [YO] at ho;subst ho;obtain ⟨s,L1,h1,h2⟩:=(wsget i).2 o hg;obtain ⟨_,hnr,hli⟩:=QgK hco h1 (h2 hL3);refine ⟨hnr,fun hl1=> ?_⟩;obtain ⟨x,hx,hl,hor⟩:=hli hl1;exact ⟨x,by rw [hρlow i hlt];exact hx,hl,fun im _ h=> hor im h⟩
  ·obtain ⟨x,hx,rfl⟩:=List.mem_map.1 hk;have:=List.all_eq_true.1 hfz x hx;simp only [YB] at this;obtain ⟨⟨q1,q2⟩,q3⟩:=this;have hown:∃o,Qaw H' x.k=some o/\live o:=by
    unfold Q7n at q2;split at q2
    ·rename_i ho;exact ⟨_,ho,trivial⟩
    ·cases q2
   obtain ⟨o,ho,hl⟩:=hown;refine ⟨YL q1,hu'.lt ho,⟨o,ho,hl⟩,fun i h1 h2 hr=> ?_⟩;obtain ⟨k,hk,hk2,_⟩:=get i h1 h2;rw [hk2] at hr;rw [List.getElem?_map] at hk;cases hy:keeps[i - (a+1)]? with
   | none=> rw [hy] at hk;cases hk
   | some y=>
     rw [hy] at hk;simp only [Option.map_some,YO] at hk;have:=List.all_eq_true.1 q3 y (List.mem_of_getElem? hy);rw [hk,hr] at this;simp at this
 refine ⟨μ1,im1,hco,hp.merge hok hf hkeeps,fun i hi=> ?_,wslt⟩;show muM a (a+1+os.length) ρ μ μ' _ i=none;unfold muM;rw [if_neg (by omega),if_neg (by omega)];exact hf i (by omega)
theorem GoE.landA (hF:∀g,F g=true->Qau P g=true) (hJ:∀w,B.has w->J w) (hmix:P.follows .mixedOrders=true) {wks:List (Nat×KS)} (hu:Under Hb a) (hw:Writable Hb a (wks.map (·.1))) (h:GoE P B c0 Hb a c H n (wks.map (·.1))) {fuel:Nat} {sc:Qan} {f:FuncId} {len:Nat} {todo:List Item} {ro:Option Nat} {slots:List Nat} {keeps:List (Nat×KS)} {fz:List Fz} {vs:List Value} {ws:Qar} {os:List Obj} {L:List Prop}
 (e:CE.landA a (Qah P F J B fuel a c H n sc 0 [] []) slots wks keeps fz=some ⟨f,len,todo,[],.run,ro,vs,ws,os,L⟩) (hL:Qas L) (hlen:Nat.ble len 16000=true) (hplain:todo.all Qdp=true) (hro:∀l,ro=some l->l < a):
 ∃d:Nat->Value,(∀t,Qbg (d t))/\GoE P B c0 Hb a (Qc6 ro f len (slots.zip vs) d todo) (QbM Hb a ws os) (a+1+os.length) (wks.map (·.1)):=by
 unfold CE.landA at e;split at e
 ·rename_i c' H' n' W' L' hs;cases hq:Qkc a H' W' wks keeps fz with
  | false=> rw [hq] at e;cases e
  | true=>
    rw [hq] at e;simp only [cond_true] at e;split at e
    ·rename_i vs0 L1 ws0 L3 os0 L2 hvs hws hos;simp only [YO,Q6D.mk.injEq] at e;obtain ⟨e1,e2,e3,e4,e5,e6,rfl,rfl,rfl,rfl⟩:=e;obtain ⟨hL1,hLr⟩:=QaI hL;obtain ⟨hL3,hLr⟩:=QaI hLr;obtain ⟨hL2,hL4⟩:=QaI hLr;obtain ⟨R,W2,hgo,hiff⟩:=QbS hF hJ hmix fuel a c H n sc 0 [] [] _ h.under hs hL4;have hg:=(h.step hgo).widen (Wf:=wks.map (·.1)) (fun i hi hm=> by
      rcases List.mem_append.1 hm with hm | hm
      ·exact hm
      ·have hi':i∈W':=(hiff i hi).2 (.inr hm);unfold Qkc at hq;simp only [YB] at hq;simpa using List.all_eq_true.1 hq.1.1.1.1 i hi') hw
     have hd:∀t,∃d,Qbg d/\∀μ v',VR μ (QbV c'.tmps t) v'->VR μ d v':=fun t=> Qe3 _
     have wslt:∀i o,Qaw ws0 i=some o->i < a:=fun i o ho=> by
      have hq':=hq;unfold Qkc at hq';simp only [YB] at hq';have hin:i∈wks.map (·.1):=Decidable.of_not_not fun e=> by
       have:=(QkP wks ws0 L3 hws i).1.2 e;rw [this] at ho;cases ho
      obtain ⟨k,hk,rfl⟩:=List.mem_map.1 hin;exact YL (List.all_eq_true.1 hq'.1.1.1.2 k hk)
     refine ⟨fun t=> Classical.choose (hd t),fun t=> (Classical.choose_spec (hd t)).1,QhR hu wslt,by omega,fun Z μ w fr cs hok hB hf hfr=> ?_⟩;obtain ⟨fr',w',μ',hp,hfr',ha,hb,hst⟩:=hg.sem Z μ w fr cs hok hB hf hfr;obtain ⟨μ1,im1,hco,hpost,hfree,_⟩:=QjX hu hw hg.under hq hok hf hp hws hos hL3 hL2;have hpans:c'.mode.pans=false:=by rw [e5];rfl
     refine ⟨fr',w',μ1,hpost,⟨by rw [hfr'.fn,e1];rfl, ?_,fun _=> (e3 ▸ hfr'.todo hpans).plain hplain, ?_, ?_,hfr'.kind, ?_⟩,ha,hb,hst⟩
     ·refine hfr'.tmps.merge e2 (YL hlen) (fun p hp v' hv=> ?_) fun t=> Classical.choose_spec (hd t)
      obtain ⟨i,hi⟩:=List.getElem?_of_mem hp;rw [List.getElem?_zip_eq_some] at hi;obtain ⟨hi1,hi2⟩:=hi;obtain ⟨u,L',ha,hb,hc⟩:=(QoB _ _ _ hvs).2 i p.2 hi2;rw [List.getElem?_map,hi1] at ha;simp only [Option.map_some,YO] at ha;subst ha;exact Qdl hco 4 _ _ _ _ hb (hc hL1) hv
     ·have:=hfr'.defers;rw [e4] at this;exact .of_empty this.empty
     ·have:=hfr'.mode;rw [e5] at this;generalize fr'.mode=ds at this;cases this;exact .run
     ·have:=hfr'.round;rw [e6] at this;show RoR μ1 ro fr'.roundOf;generalize fr'.roundOf=x at this;cases ro with
      | none=>
        cases x with
        | none=> trivial
        | some x=> cases this
      | some l=>
        cases x with
        | none=> cases this
        | some x=>
          obtain ⟨im,h1,h2⟩:=this;have hl:=hro l rfl;refine ⟨im, ?_,h2⟩;rw [hpost.ext l (by omega)];rw [hp.ext l (by omega)] at h1;exact h1
    ·cases e
 ·cases e
def Q4u (a:Nat) (v:Value):Bool:=simple v || match v with
 | .func (.via r ⟨[]⟩ 0 true) ⟨[_]⟩ ⟨[]⟩=> Nat.blt r a
 | .pointer (some ⟨k,_,none⟩)=> Nat.blt k a
 | .slice (some ⟨k,_,none⟩) _ _=> Nat.blt k a
 | .map (some r)=> Nat.blt r a
 | .func (.yield l) ⟨[]⟩ ⟨[]⟩=> Nat.blt l a
 | .chan none=> true
 | _=> false
def QnC (a:Nat):Nat->Value->Bool
 | 0,v=> Q4u a v
 | f+1,v=> match v with
   | .agg xs=> xs.all (QnC a f)
   | .tuple xs=> xs.all (QnC a f)
   | .iface _ x=> QnC a f x
   | .func (.func _) xs ys=> xs.all (QnC a f) && ys.all (QnC a f)
   | v=> Q4u a v
section
variable {μ μ0:Mu} (hμ:∀b,b < a->μ0 b=μ b)
include hμ
theorem Qtx {v v':Value} (h:Q4u a v=true) (hv:VR μ v v'):VR μ0 v v':=by
 unfold Q4u at h;cases hs:simple v with
 | true=> rw [simple_eq hs hv];exact QbT hs
 | false=>
   rw [hs] at h;simp only [Bool.false_or] at h;have lt:∀{k},Nat.blt k a=true->μ0 k=μ k:=fun h=> hμ _ (YL h)
   split at h
   ·cases hv with
    | top h1 h2 h3=> exact .top h1 (by rw [lt h];exact h2) h3
   ·cases hv with
    | ptr har=>
      obtain ⟨im,h1,h2,h3⟩:=har;exact .ptr ⟨im,by rw [lt h];exact h1,h2,h3⟩
   ·cases hv with
    | slice har x y z=>
      obtain ⟨im,h1,h2,h3⟩:=har;exact .slice ⟨im,by rw [lt h];exact h1,h2,h3⟩ x y fun hz im' him'=> z hz im' (by rw [<-lt h];exact him')
   ·cases hv with
    | map hr=> exact .map (by rw [lt h];exact hr)
   ·cases hv with
    | yield hr=> exact .yield (by rw [lt h];exact hr)
   ·cases hv with
    | junk x y z=> exact .junk x y z
   ·cases h
theorem Qo2:∀(f:Nat) (v v':Value),QnC a f v=true->VR μ v v'->VR μ0 v v'
 | 0,v,v',h,hv=> Qtx hμ h hv
 | f+1,v,v',h,hv=> by
   have arr:∀{xs xs':Array Value},xs.all (QnC a f)=true->(∀(i:Nat) v v',xs[i]? =some v->xs'[i]? =some v'->VR μ v v')->∀(i:Nat) v v',xs[i]? =some v->xs'[i]? =some v'->VR μ0 v v':=
    fun ha hx i v v' h1 h2=> Qo2 f v v' (Array.all_eq_true'.1 ha v (Array.mem_of_getElem? h1)) (hx i v v' h1 h2)
   cases v with
   | agg xs=> cases hv with | agg h1 h2=> exact .agg h1 (arr h h2)
   | tuple xs=> cases hv with | tuple h1 h2=> exact .tuple h1 (arr h h2)
   | iface t x=> cases hv with | iface hv=> exact .iface (Qo2 f x _ h hv)
   | func fn xs ys=>
     cases fn with
     | func g=>
       have h:(xs.all (QnC a f) && ys.all (QnC a f))=true:=h;simp only [YB] at h;cases hv with
       | func h1 h2 h3 h4=> exact .func h1 h2 (arr h.1 h3) (arr h.2 h4)
     | _=> exact Qtx hμ (by exact h) hv
   | _=> exact Qtx hμ (by exact h) hv
end
theorem Qqd {μ μ0:Mu} (hμ:∀b,b < a->μ0 b=μ b) {T:Tm} {A:Array Value} (hl:∀t,QnC a 4 (QbV T t)=true\/Qbg (QbV T t)) (h:TR μ T A):TR μ0 T A:=⟨h.1,fun t=> (hl t).elim (fun h1=> Qo2 hμ 4 _ _ h1 (h.2 t)) fun h1=> h1 _ _ _ (h.2 t)⟩
theorem FrR.low {μ μ0:Mu} {fr:Frame} (hμ:∀b,b < a->μ0 b=μ b) (hs:∀t,QnC a 4 (QbV c.tmps t)=true\/Qbg (QbV c.tmps t)) (hp:c.todo.all Qdp=true) (hd:c.defers=[]) (hm:c.mode=.run) (hr:∀l,c.roundOf=some l->l < a) (h:FrR Bot.no μ c fr):FrR Bot.no μ0 c fr:=by
 have hpans:c.mode.pans=false:=by rw [hm];rfl
 refine ⟨h.fn,Qqd hμ hs h.tmps,fun _=> (h.todo hpans).plain hp, ?_, ?_,h.kind, ?_⟩
 ·have:=h.defers;rw [hd] at this ⊢;exact .of_empty this.empty
 ·have:=h.mode;rw [hm] at this ⊢;generalize fr.mode=ds at this ⊢;cases this;exact .run
 ·have:=h.round;generalize fr.roundOf=x at this ⊢;cases hro:c.roundOf with
  | none=>
    rw [hro] at this;cases x with
    | none=> trivial
    | some x=> cases this
  | some l=>
    rw [hro] at this;cases x with
    | none=> cases this
    | some x=>
      obtain ⟨im,h1,h2⟩:=this;exact ⟨im,by rw [hμ l (hr l hro)];exact h1,h2⟩
def LV (a:Nat) (v:Value):Prop:=QnC a 4 v=true\/Qbg v
theorem LV.vr {μ μ0:Mu} {v v':Value} (hμ:∀b,b < a->μ0 b=μ b) (h:LV a v) (hv:VR μ v v'):VR μ0 v v':=h.elim (fun h=> Qo2 hμ 4 _ _ h hv) fun h=> h _ _ _ hv
def Q4p (a:Nat):Obj->Prop
 | .cells cs _ _=> ∀(i:Nat) v,cs[i]? =some v->LV a v
 | .map es _=> ∀(i:Nat) e,es[i]? =some e->LV a e.val
 | .loop l=> ∀(i:Nat) v,l.tmps[i]? =some v->LV a v
 | _=> True
theorem OR.low {μ μ0:Mu} {w:World} {im:Img} {o:Obj} (hμ:∀b,b < a->μ0 b=μ b) (hl:Q4p a o) (h:OR μ w im o):OR μ0 w im o:=by
 cases o with
 | cells cs t fz=>
   rcases h with ⟨h1,h2,h3,arr,h4,h5,h6,h7⟩ | ⟨h1,h2⟩
   ·exact .inl ⟨h1,h2,h3,arr,h4,h5,h6,fun i v hv=> by
     obtain ⟨v',a1,b1⟩:=h7 i v hv;exact ⟨v',a1,(hl i v hv).vr hμ b1⟩⟩
   ·exact .inr ⟨h1,fun i v hv=> by
     obtain ⟨v',a1,b1⟩:=h2 i v hv;exact ⟨v',a1,(hl i v hv).vr hμ b1⟩⟩
 | map es clk=>
   obtain ⟨h1,es',h2,h3,h4⟩:=h;exact ⟨h1,es',h2,h3,fun i e e' he he'=> by
    obtain ⟨x,y,z,u⟩:=h4 i e e' he he';exact ⟨x,y,z,(hl i e he).vr hμ u⟩⟩
 | loop l=>
   obtain ⟨h1,tm,df,h2,h3⟩:=h;exact ⟨h1,tm,df,h2,h3.1,fun i v v' hv hv'=> (hl i v hv).vr hμ (h3.2 i v v' hv hv')⟩
 | deferred ds=> exact h
 | pending x y=> trivial
 | _=> exact h
def Q6P (a:Nat):Obj->Bool
 | .cells cs _ _=> cs.toList.all (QnC a 4)
 | .map es _=> es.toList.all fun e=> QnC a 4 e.val
 | .loop l=> l.tmps.toList.all (QnC a 4)
 | _=> true
theorem QtT {a:Nat} {o:Obj} (h:Q6P a o=true):Q4p a o:=by
 cases o with
 | cells cs t fz=> exact fun i v hv=> .inl (List.all_eq_true.1 h v (Array.mem_toList_iff.2 (Array.mem_of_getElem? hv)))
 | map es clk=> exact fun i e he=> .inl (List.all_eq_true.1 h e (Array.mem_toList_iff.2 (Array.mem_of_getElem? he)))
 | loop l=> exact fun i v hv=> .inl (List.all_eq_true.1 h v (Array.mem_toList_iff.2 (Array.mem_of_getElem? hv)))
 | _=> exact trivial
theorem Qkb:∀{H:Qar} {i:Nat} {o:Obj},Qaw H i=some o->(i,o)∈H
 | [],_,_,h=> by cases h
 | (k,x)::l,i,o,h=> by
   rw [QaD] at h;split at h
   ·rename_i e;cases h;subst e;exact List.mem_cons_self
   ·exact List.mem_cons_of_mem _ (Qkb h)
theorem Qaj {H:Qar} {n:Nat} (h:(H.all fun p=> Nat.blt p.1 n)=true):Under H n:=fun i hi=> by
 cases hg:Qaw H i with
 | none=> rfl
 | some o=> have:=YL (List.all_eq_true.1 h _ (Qkb hg));simp at this;omega
end
end Go.CE

namespace Go.CE
open Go Go.RowKit

def hvI (n:Int):Qaf:=.old (.val (.int .i64 n))
def hvT:Qaf:=.old (.val (.bool true))
def hvF:Qaf:=.old (.val (.bool false))
def Qw9 (f:Value->Option (Value×List Prop)):OO->Option (OO×List Prop)
 | .ret v=> match f v with
   | some (v1,L)=> some (.ret v1,L)
   | none=> none
 | .pan v=> match f v with
   | some (v1,L)=> some (.pan v1,L)
   | none=> none
def finK (a:Nat) (s:Option ST) (wks keeps:List (Nat×KS)) (fz:List Fz):Option (OO×Qar×List Obj×List Prop):=match s with
 | some ⟨.fin out H _,W,L⟩=> bif Qkc a H W wks keeps fz then
  match Qw9 (coV H a (Qtf a (keeps.map (·.1))) fz 4) out,Q4s H a (Qtf a (keeps.map (·.1))) fz wks,QiB H a (Qtf a (keeps.map (·.1))) fz keeps with
  | some (v1,L1),some (ws,L3),some (os,L2)=> some (v1,ws,os,L1++(L3++(L2++L)))
  | _,_,_=> none
   else none
 | _=> none
def FinK (P:Program) (B:Lo) (c0:CF) (Hb:Qar) (a:Nat) (out:OO) (ws:Qar) (os:List Obj) (Wf:List Nat):Prop:=
 ∀(μ:Mu) (w:World) (fr:Frame) (cs:List Frame),Ok B (fun i=> i < a) μ (Qaw Hb) w->B.has w->(∀i,a<=i->μ i=none)->FrR Bot.no μ c0 fr->
  ∃out' w' μ',Post B (fun i=> i < a) a (a+1+os.length) Wf μ μ' Hb (QbM Hb a ws os) w w'/\OR2 μ' out out'/\(∀i,a+1+os.length<=i->μ' i=none)/\EndsAs P fr cs w out' w'
section
variable {P:Program} {F:FuncId->Bool} {J:World->Prop} {B:Lo} {c0 c:CF} {Hb H:Qar} {a n:Nat} {W Wf:List Nat}
theorem GoE.finK (hF:∀g,F g=true->Qau P g=true) (hJ:∀w,B.has w->J w) (hmix:P.follows .mixedOrders=true) {wks keeps:List (Nat×KS)} (hu:Under Hb a) (hw:Writable Hb a (wks.map (·.1))) (h:GoE P B c0 Hb a c H n (wks.map (·.1))) {fuel:Nat} {sc:Qan} {fz:List Fz} {out:OO} {ws:Qar} {os:List Obj} {L:List Prop}
 (e:CE.finK a (Qah P F J B fuel a c H n sc 0 [] []) wks keeps fz=some (out,ws,os,L)) (hL:Qas L):FinK P B c0 Hb a out ws os (wks.map (·.1)):=by
 unfold CE.finK at e;split at e
 ·rename_i out0 H' n' W' L' hs;cases hq:Qkc a H' W' wks keeps fz with
  | false=> rw [hq] at e;cases e
  | true=>
    rw [hq] at e;simp only [cond_true] at e;split at e
    ·rename_i v1 L1 ws0 L3 os0 L2 hv1 hws hos;simp only [YO,YR] at e;obtain ⟨rfl,rfl,rfl,rfl⟩:=e;obtain ⟨hL1,hLr⟩:=QaI hL;obtain ⟨hL3,hLr⟩:=QaI hLr;obtain ⟨hL2,hL4⟩:=QaI hLr;obtain ⟨R,W2,hfj,hiff⟩:=QbS hF hJ hmix fuel a c H n sc 0 [] [] _ h.under hs hL4;intro μ w fr cs hok hB hf hfr;obtain ⟨out',w',μ',hp,ho,he⟩:=h.fj hfj μ w fr cs hok hB hf hfr;have hp:=hp.widen (W':=wks.map (·.1)) hok (fun i hi hm=> by
      rcases List.mem_append.1 hm with hm | hm
      ·exact hm
      ·have hi':i∈W':=(hiff i hi).2 (.inr hm);have hq':=hq;unfold Qkc at hq';simp only [YB] at hq';simpa using List.all_eq_true.1 hq'.1.1.1.1 i hi') (fun i hi hiW=> hw.rw hok hi hiW)
     obtain ⟨μ1,im1,hco,hpost,hfree,_⟩:=QjX hu hw (h.under.shape hfj.shape) hq hok hf hp hws hos hL3 hL2;cases ho with
     | ret hvr=>
       unfold Qw9 at hv1;split at hv1
       ·rename_i v0 e0;cases e0;split at hv1
        ·rename_i v2 L2' hv2;simp only [YO,YR] at hv1;obtain ⟨rfl,rfl⟩:=hv1;exact ⟨_,w',μ1,hpost,.ret (Qdl hco 4 _ _ _ _ hv2 hL1 hvr),hfree,he⟩
        ·cases hv1
       ·rename_i e0;cases e0
     | pan hvr=>
       unfold Qw9 at hv1;split at hv1
       ·rename_i e0;cases e0
       ·rename_i v0 e0;cases e0;split at hv1
        ·rename_i v2 L2' hv2;simp only [YO,YR] at hv1;obtain ⟨rfl,rfl⟩:=hv1;exact ⟨_,w',μ1,hpost,.pan (Qdl hco 4 _ _ _ _ hv2 hL1 hvr),hfree,he⟩
        ·cases hv1
    ·cases e
 ·cases e
theorem FinK.cast {out out1:OO} {ws ws1:Qar} {os os1:List Obj} (h:FinK P B c0 Hb a out ws os Wf) (e1:out=out1) (e2:ws=ws1) (e3:os=os1):FinK P B c0 Hb a out1 ws1 os1 Wf:=e1 ▸ e2 ▸ e3 ▸ h
theorem FinK.fj {out:OO} {ws:Qar} {os:List Obj} (h:FinK P B c0 Hb a out ws os Wf) (hub:Under Hb a) (hws:∀i o,Qaw ws i=some o->i < a/\i∈Wf) (hWf:∀i∈Wf,i < a) (hs:∀t,QnC a 4 (QbV c0.tmps t)=true\/Qbg (QbV c0.tmps t)) (hp:c0.todo.all Qdp=true) (hd:c0.defers=[]) (hm:c0.mode=.run) (hr:∀l,c0.roundOf=some l->l < a) (hob:∀i o,Qaw Hb i=some o->Q4p a o):
 FJ P B c0 Hb a out ((ws++((a,Qbc)::QaA (a+1) os))++Hb) (a+1+os.length) (List.range a) Wf:=by
 have hG:(ws++((a,Qbc)::QaA (a+1) os))++Hb=QbM Hb a ws os:=by unfold QbM;simp
 rw [hG];refine ⟨⟨by omega,fun i hi hw=> ?_,fun i hi=> ?_,fun i hi=> List.mem_range.2 (hWf i hi),fun i hi=> by have:=hWf i hi;omega⟩,fun S μ w fr cs hok hB hS hf hfr hR=> ?_⟩
 ·rw [QdJ];cases hg:Qaw ws i with
  | some o=> exact absurd (hws i o hg).2 hw
  | none=> simp only;rw [if_neg (by omega),if_neg (by omega)]
 ·rw [QdJ];cases hg:Qaw ws i with
  | some o=> have:=(hws i o hg).1;omega
  | none=> simp only;rw [if_neg (by omega),if_neg (by omega)]
 ·have hSeq:S=fun i=> i < a:=funext fun i=> propext ⟨hS i,fun hi=> hR i (List.mem_range.2 hi) hi⟩
  subst hSeq;let μc:Mu:=fun i=> if i < a then μ i else none
  have hμc:∀b,b < a->μc b=μ b:=fun b hb=> by show (if b < a then μ b else none)=μ b;rw [if_pos hb]
  have hextc:Ext μc μ:=fun k im hk=> by
   have hk:(if k < a then μ k else none)=some im:=hk;split at hk
   ·exact hk
   ·cases hk
  have hokc:Ok B.B (fun i=> i < a) μc (Qaw Hb) w:=by
   refine ⟨fun i o hi hg hl=> ?_,fun i o im hi hg hl him=> ?_,fun i j oi oj x y hi hj hne hg1 hg2 l1 l2 m1 m2 r1 r2=> ?_,fun i o hi hg hr=> ?_,fun i j oi oj x y z hi hj hg1 hg2 r1 l2 m1 m2 hrw=> ?_⟩
   ·obtain ⟨im,him,hor⟩:=hok.rel i o hi hg hl;exact ⟨im,(hμc i hi).trans him,OR.low hμc (hob i o hg) hor⟩
   ·exact hok.low i o im hi hg hl ((hμc i hi).symm.trans him)
   ·exact hok.inj i j oi oj x y hi hj hne hg1 hg2 l1 l2 ((hμc i hi).symm.trans m1) ((hμc j hj).symm.trans m2) r1 r2
   ·obtain ⟨im,him,hx⟩:=hok.reg i o hi hg hr;exact ⟨im,(hμc i hi).trans him,hx⟩
   ·exact hok.sep i j oi oj x y z hi hj hg1 hg2 r1 l2 ((hμc i hi).symm.trans m1) ((hμc j hj).symm.trans m2) hrw
  obtain ⟨out',w',μ',hpost,hv,hfree,he⟩:=h μc w fr cs hokc hB (fun i hi=> by show (if i < a then μ i else none)=none;rw [if_neg (by omega)]) (hfr.low hμc hs hp hd hm hr);let μ2:Mu:=fun i=> if i < a+1+os.length then μ' i else μ i
  have hμ2:∀i,i < a+1+os.length->μ2 i=μ' i:=fun i hi=> by show (if i < a+1+os.length then μ' i else μ i)=μ' i;rw [if_pos hi]
  have ext2:Ext μ' μ2:=fun k im hk=> by
   rcases Nat.lt_or_ge k (a+1+os.length) with h1 | h1
   ·rw [hμ2 k h1];exact hk
   ·rw [hfree k h1] at hk;cases hk
  have Slt:∀i,(i < a\/a<=i/\i < a+1+os.length)->i < a+1+os.length:=fun i h=> by omega
  refine ⟨_,w',μ2,⟨?_,by omega,fun i hi=> ?_,fun i hi hw=> ?_,hpost.grow,fun b hb hx=> hpost.frame b hb fun i hiW hi im him=> hx i hiW hi im ((hμc i hi).symm.trans him),fun i hiW hi=> ?_,fun i im o h1 h2 ho hl him=> ?_,fun i im o hc ho hr him b x hx=> ?_,hpost.os,hpost.tape,hpost.output⟩,OR2.mono ext2 hv,he⟩
  ·have ok:=hpost.ok;refine ⟨fun i o hi hg hl=> ?_,fun i o im hi hg hl him=> ?_,fun i j oi oj x y hi hj hne hg1 hg2 l1 l2 m1 m2 r1 r2=> ?_,fun i o hi hg hr=> ?_,fun i j oi oj x y z hi hj hg1 hg2 r1 l2 m1 m2 hrw=> ?_⟩
   ·obtain ⟨im,him,hor⟩:=ok.rel i o hi hg hl;exact ⟨im,(hμ2 i (Slt i hi)).trans him,hor.keep ext2 rfl⟩
   ·exact ok.low i o im hi hg hl ((hμ2 i (Slt i hi)).symm.trans him)
   ·exact ok.inj i j oi oj x y hi hj hne hg1 hg2 l1 l2 ((hμ2 i (Slt i hi)).symm.trans m1) ((hμ2 j (Slt j hj)).symm.trans m2) r1 r2
   ·obtain ⟨im,him,hx⟩:=ok.reg i o hi hg hr;exact ⟨im,(hμ2 i (Slt i hi)).trans him,hx⟩
   ·exact ok.sep i j oi oj x y z hi hj hg1 hg2 r1 l2 ((hμ2 i (Slt i hi)).symm.trans m1) ((hμ2 j (Slt j hj)).symm.trans m2) hrw
  ·rcases Nat.lt_or_ge i a with h1 | h1
   ·rw [hμ2 i (by omega),hpost.ext i (by omega),hμc i h1]
   ·show (if i < a+1+os.length then μ' i else μ i)=μ i;rw [if_neg (by omega)]
  ·exact hpost.keep i hi hw
  ·obtain ⟨p,q,im,s,t⟩:=hpost.wr i hiW hi;exact ⟨p,q,im,(hμc i hi).symm.trans s,t⟩
  ·obtain ⟨p,q⟩:=hpost.fresh i im o h1 h2 ho hl ((hμ2 i h2).symm.trans him);exact ⟨p,q.imp id fun ⟨k,x,y,⟨im',m,m2⟩,z⟩=> ⟨k,x,y,⟨im',(hμc k y).symm.trans m,m2⟩,z⟩⟩
  ·have hlt:i < a+1+os.length:=by omega
   rcases hpost.rf i im o hc ho hr ((hμ2 i hlt).symm.trans him) b x hx with e | ⟨k,kim,ko,p,q,r,s,t,u⟩ | ⟨k,p,q,⟨im',m,m2⟩,z⟩
   ·exact .inl e
   ·exact .inr (.inl ⟨k,kim,ko,p,q,r,s,(hμc k q).symm.trans t,u⟩)
   ·exact .inr (.inr ⟨k,p,q,⟨im',(hμc k q).symm.trans m,m2⟩,z⟩)
def Q79 (a:Nat) (l:List Value) (todo:List Item) (ro:Option Nat) (Hb ws:Qar) (Wf ex:List Nat):Bool:=
 l.all (QnC a 4) && (todo.all Qdp && ((match ro with | some l=> Nat.blt l a | none=> true) && ((Hb.all fun p=> Nat.blt p.1 a) && ((Hb.all fun p=> ex.contains p.1 || Q6P a p.2) && ((ws.all fun p=> Nat.blt p.1 a && Wf.contains p.1) && ((Wf.all fun k=> Nat.blt k a) && Nat.ble l.length 16000))))))
def Q67 (a:Nat):Qar->List Nat->Prop
 | [],_=> True
 | (k,o)::H,ex=> (bif ex.contains k then Q4p a o else True)/\Q67 a H ex
theorem QoV {a:Nat} {ex:List Nat}:∀{H:Qar} {k:Nat} {o:Obj},Q67 a H ex->ex.contains k=true->Qaw H k=some o->Q4p a o
 | [],_,_,_,_,h=> by cases h
 | (j,x)::H,k,o,hx,hk,h=> by
   rw [QaD] at h;split at h
   ·rename_i e;cases h;subst e;have:=hx.1;rw [hk] at this;exact this
   ·exact QoV hx.2 hk h
theorem QaX {a:Nat}:∀H:Qar,Q67 a H []
 | []=> trivial
 | (_,_)::H=> ⟨trivial,QaX H⟩
theorem Qs7 {a:Nat} {v:Value} (h:simple v=true):Q4u a v=true:=by unfold Q4u;rw [h];rfl
theorem Qoz {a:Nat} {v:Value} (h:simple v=true):QnC a 4 v=true:=by
 have hs:=Qs7 (a:=a) h;cases v with
 | agg xs=> cases h
 | tuple xs=> cases h
 | iface t x=> cases h
 | func fn xs ys=>
   cases fn with
   | func f=>
     simp only [simple,YB,beq_iff_eq,Array.size_eq_zero_iff] at h;obtain ⟨rfl,rfl⟩:=h;simp [QnC]
   | _=> exact hs
 | _=> exact hs
theorem Quh {α:Type} {a:Nat} {e:α->List Value} {xs:List α} {t:TypeId} {fl:Nat×Nat} (h:∀x,∀v∈e x,simple v=true):Q4p a (.cells (Qad e xs) t fl):=fun i v hv=> .inl (Qoz (QaT h v (Array.mem_of_getElem? hv)))
theorem FinK.fjB {fn:FuncId} {len:Nat} {l:List Value} {todo:List Item} {ro:Option Nat} {out:OO} {ws:Qar} {os:List Obj} {ex:List Nat} (h:FinK P B ⟨fn,ofList len l,todo,[],.run,ro⟩ Hb a out ws os Wf) (e:Q79 a l todo ro Hb ws Wf ex=true) (hx:Q67 a Hb ex):
 FJ P B ⟨fn,ofList len l,todo,[],.run,ro⟩ Hb a out ((ws++((a,Qbc)::QaA (a+1) os))++Hb) (a+1+os.length) (List.range a) Wf:=by
 simp only [Q79,YB] at e;obtain ⟨e1,e2,e3,e4,e5,e6,e7,e8⟩:=e;have e8:=YL e8;refine h.fj (Qaj e4) (fun i o ho=> ?_) (fun i hi=> YL (List.all_eq_true.1 e7 i hi)) (fun t=> ?_) e2 rfl rfl (fun k hk=> ?_) (fun i o ho=> ?_)
 ·have:=List.all_eq_true.1 e6 _ (Qkb ho);simp only [YB] at this;exact ⟨YL this.1,by simpa using this.2⟩
 ·simp only [QbV,ofList];rw [QjM _ _ _ _ (by omega)];split
  ·rename_i ht;have ht:t < l.length:=by omega
   refine .inl (List.all_eq_true.1 e1 _ ?_);rw [Nat.sub_zero,List.getD_eq_getElem?_getD,List.getElem?_eq_getElem ht];exact List.getElem_mem ht
  ·rw [Tri.get_lf];exact .inr (Qgp (by simp [Go.undef,af]))
 ·have hk:ro=some k:=hk;subst hk;exact YL e3
 ·have:=List.all_eq_true.1 e5 _ (Qkb ho);simp only [Bool.or_eq_true] at this;rcases this with h1 | h1
  ·exact QoV hx h1 ho
  ·exact QtT h1
end
end Go.CE

namespace Go.CE
open Go Go.RowKit Go.ChangeShapes Go.WideShapes

inductive Sh where
 | int | bool | str | unit
 | pair (a b:Sh)
 | struct (f:Sh)
 | slice (e:Sh)
def Sh.sz:Sh->Nat
 | .unit=> 0
 | .pair a b=> a.sz+b.sz
 | .struct f=> f.sz
 | _=> 1
def Sh.ok:Sh->List Value->Prop
 | .int,cs=> ∃z:Int,(-9223372036854775808<=z/\z<=9223372036854775807)/\cs=[.int .i64 z]
 | .bool,cs=> ∃b,cs=[.bool b]
 | .str,cs=> ∃s:ByteArray,s.size<=maxLen/\cs=[.string s]
 | .unit,cs=> cs=[]
 | .pair a b,cs=> ∃x y,cs=x++y/\a.ok x/\b.ok y
 | .struct f,cs=> f.ok cs
 | .slice e,cs=> ∃(n:Nat) (r:Nat->List Value),(∀k,e.ok (r k)\/n<=k)/\(∀k,(r k).length=e.sz)/\cs=[slT n (Qad r (List.range n))]
theorem Sh.ok_sz:∀(s:Sh) (cs:List Value),s.ok cs->cs.length=s.sz
 | .int,cs,⟨z,_,h⟩=> by rw [h];rfl
 | .bool,cs,⟨z,h⟩=> by rw [h];rfl
 | .str,cs,⟨z,_,h⟩=> by rw [h];rfl
 | .unit,cs,h=> by rw [show cs=[] from h];rfl
 | .pair a b,cs,⟨x,y,h,hx,hy⟩=> by rw [h,List.length_append,Sh.ok_sz a x hx,Sh.ok_sz b y hy];rfl
 | .struct f,cs,h=> Sh.ok_sz f cs h
 | .slice e,cs,⟨n,r,_,_,h⟩=> by rw [h];rfl
def Sh.chk (P:Program):Sh->Option (List Field×Nat)->TypeId->Bool
 | .int,none,t=> match P.underlying t with | some (.int .i64)=> true | _=> false
 | .bool,none,t=> match P.underlying t with | some .bool=> true | _=> false
 | .str,none,t=> match P.underlying t with | some .string=> true | _=> false
 | .struct f,none,t=> match P.underlying t with | some (.struct fs)=> f.chk P (some (fs.toList,0)) t | _=> false
 | .slice e,none,t=> match P.underlying t with | some (.slice u)=> Nat.blt 0 e.sz && e.chk P none u | _=> false
 | .unit,some ([],off),t=> Nat.beq off (P.cellsOf t)
 | .pair a b,some (f::fs,off),t=> Nat.beq f.offset off && (a.chk P none f.type && (Nat.beq (P.cellsOf f.type) a.sz && b.chk P (some (fs,off+P.cellsOf f.type)) t))
 | _,_,_=> false
def TRl (fm:Nat->Option Obj) (ts cs:List Value):Prop:=ts.length=cs.length/\∀(i:Nat) v v',ts[i]? =some v->cs[i]? =some v'->TRv fm v v'
theorem TRl.nil {fm:Nat->Option Obj}:TRl fm [] []:=⟨rfl,fun i v v' h=> by simp at h⟩
theorem TRl.one {fm:Nat->Option Obj} {t v:Value} (h:TRv fm t v):TRl fm [t] [v]:=⟨rfl,fun i a b ha hb=> by
 cases i with
 | zero=> simp at ha hb;subst ha hb;exact h
 | succ i=> simp at ha⟩
theorem TRl.append {fm:Nat->Option Obj} {a b c d:List Value} (h:TRl fm a b) (k:TRl fm c d):TRl fm (a++c) (b++d):=⟨by simp [h.1,k.1],fun i v v' x y=> by
 rcases Nat.lt_or_ge i a.length with hi | hi
 ·rw [List.getElem?_append_left hi] at x;rw [List.getElem?_append_left (by rw [<-h.1];exact hi)] at y;exact h.2 i v v' x y
 ·rw [List.getElem?_append_right hi] at x;rw [List.getElem?_append_right (by rw [<-h.1];exact hi)] at y;exact k.2 _ v v' x (by rw [h.1];exact y)⟩
def allM (w:World) (b:Nat):Option Obj:=w.heap[b]?
section
variable {P:Program} {H:Type} {enc:TypeId×Value->H} {w:World} {held:Bool}
theorem Qxz {a:Addr} {v:Value} (h:w.cell? a=some v):∃b o arr t fl,a=⟨b,o,none⟩/\w.heap[b]? =some (.cells arr t fl)/\arr[o]? =some v:=by
 obtain ⟨b,o,s⟩:=a;unfold World.cell? at h;split at h
 ·rename_i c t fl hb;cases s with
  | some _=> simp at h
  | none=> exact ⟨b,o,c,t,fl,rfl,hb,by simpa using h⟩
 ·cases h
theorem Qrf {b o j:Nat}:(⟨b,o,none⟩:Addr).add j=⟨b,o+j,none⟩:=by
 unfold Addr.add;split <;> simp_all
theorem Qsm {e:Nat->List Value} {z n:Nat} (h:∀k,(e k).length=z) {i:Nat} {v:Value} (hv:(Qad e (List.range n))[i]? =some v):∃k j,k < n/\j < z/\i=k * z+j/\(e k)[j]? =some v:=by
 have hlt:i < n * z:=by
  have:=(Array.getElem?_eq_some_iff.1 hv).1;rw [Qcc h] at this;simpa using this
 have hz:0 < z:=by
  rcases Nat.eq_zero_or_pos z with rfl | h
  ·omega
  ·exact h
 have hk:i / z < n:=Nat.div_lt_of_lt_mul (by rwa [Nat.mul_comm] at hlt);have hj:i % z < z:=Nat.mod_lt _ hz;have hi:i=i / z * z+i % z:=by
  have:=Nat.div_add_mod i z;rw [Nat.mul_comm] at this;omega
 refine ⟨i / z,i % z,hk,hj,hi, ?_⟩;have:=Qo9 (e:=e) (xs:=List.range n) h (k:=i / z) (j:=i % z) (by simpa using hk) hj;rw [<-hi,hv] at this;rw [this];simp [List.getD,hk]
theorem Q5Y:∀(s:Sh) (fuel:Nat) (t:TypeId) (cs:List Value) (x:DataW H×List MemPlace),s.chk P none t=true->DataW.trod enc P w 0 (fun _=> true) held fuel t cs=some x->∃ts,s.ok ts/\TRl (allM w) ts cs:=by
 intro s
 -- for fields, too
 have key:(∀(fuel:Nat) (t:TypeId) (cs:List Value) (x:DataW H×List MemPlace),s.chk P none t=true->DataW.trod enc P w 0 (fun _=> true) held fuel t cs=some x->∃ts,s.ok ts/\TRl (allM w) ts cs)/\
  (∀(fl:List Field) (off:Nat) (t:TypeId) (cs:List Value),s.chk P (some (fl,off)) t=true->cs.length=P.cellsOf t->(∀f∈fl,∃fuel x,DataW.trod enc P w 0 (fun _=> true) held fuel f.type ((cs.drop f.offset).take (P.cellsOf f.type))=some x)->∃ts,s.ok ts/\TRl (allM w) ts (cs.drop off)):=by
  induction s with
  | int=>
    refine ⟨fun fuel t cs x hc h=> ?_,fun fl off t cs hc=> by simp [Sh.chk] at hc⟩;simp only [Sh.chk] at hc;split at hc
    ·rename_i ht;obtain ⟨n,rfl,_,hw⟩:=DataW.trod_int ht h;simp only [Lit.wf,YB,decide_eq_true_eq] at hw;exact ⟨_,⟨n,⟨hw.1,hw.2⟩,rfl⟩,TRl.one (.simple rfl)⟩
    ·cases hc
  | bool=>
    refine ⟨fun fuel t cs x hc h=> ?_,fun fl off t cs hc=> by simp [Sh.chk] at hc⟩;simp only [Sh.chk] at hc;split at hc
    ·rename_i ht;obtain ⟨b,rfl,_⟩:=DataW.trod_bool ht h;exact ⟨_,⟨b,rfl⟩,TRl.one (.simple rfl)⟩
    ·cases hc
  | str=>
    refine ⟨fun fuel t cs x hc h=> ?_,fun fl off t cs hc=> by simp [Sh.chk] at hc⟩;simp only [Sh.chk] at hc;split at hc
    ·rename_i ht;obtain ⟨b,rfl,_,hl⟩:=DataW.trod_string ht h;exact ⟨_,⟨b,hl,rfl⟩,TRl.one (.simple rfl)⟩
    ·cases hc
  | unit=>
    refine ⟨fun fuel t cs x hc h=> by simp [Sh.chk] at hc,fun fl off t cs hc hl hf=> ?_⟩;cases fl with
    | nil=>
      simp only [Sh.chk] at hc;have:=YE hc;refine ⟨[],rfl, ?_⟩;rw [List.drop_eq_nil_of_le (by omega)];exact TRl.nil
    | cons f fl=> simp [Sh.chk] at hc
  | pair a b iha ihb=>
    refine ⟨fun fuel t cs x hc h=> by simp [Sh.chk] at hc,fun fl off t cs hc hl hf=> ?_⟩;cases fl with
    | nil=> simp [Sh.chk] at hc
    | cons f fl=>
      simp only [Sh.chk,YB] at hc;obtain ⟨h1,h2,h3,h4⟩:=hc;have h1:=YE h1;have h3:=YE h3;subst h1;obtain ⟨fuel,x,hx⟩:=hf f (by simp);obtain ⟨ta,oa,ra⟩:=iha.1 fuel f.type _ x h2 hx;obtain ⟨tb,ob,rb⟩:=ihb.2 fl _ t cs h4 hl (fun g hg=> hf g (by simp [hg]));refine ⟨ta++tb,⟨ta,tb,rfl,oa,ob⟩, ?_⟩;have:cs.drop f.offset=(cs.drop f.offset).take (P.cellsOf f.type)++cs.drop (f.offset+P.cellsOf f.type):=by
       rw [<-List.drop_drop,List.take_append_drop]
      rw [this];exact ra.append rb
  | struct f ih=>
    refine ⟨fun fuel t cs x hc h=> ?_,fun fl off t cs hc=> by simp [Sh.chk] at hc⟩;simp only [Sh.chk] at hc;split at hc
    ·rename_i fs ht;obtain ⟨xs,n,_,_,hl,hlen,hg⟩:=DataW.trod_struct ht h;obtain ⟨ts,h1,h2⟩:=ih.2 fs.toList 0 t cs hc hl fun g hg'=> by
      obtain ⟨i,hi⟩:=List.getElem?_of_mem hg';have hi':fs[i]? =some g:=by simpa using hi
      have:=hg i g hi';have hlt:i < xs.length:=by
       have:=(Array.getElem?_eq_some_iff.1 hi').1;omega
      rw [List.getElem?_eq_getElem hlt] at this;exact ⟨n,_,this⟩
     exact ⟨ts,h1,by simpa using h2⟩
    ·cases hc
  | slice e ih=>
    refine ⟨fun fuel t cs x hc h=> ?_,fun fl off t cs hc=> by simp [Sh.chk] at hc⟩;simp only [Sh.chk] at hc;split at hc
    ·rename_i u ht;simp only [YB] at hc;obtain ⟨hz,hc⟩:=hc;have hz:0 < e.sz:=YL hz;rcases Deep.open_slice ht h with ⟨rfl,_⟩ | ⟨a,len,cap,m,n',D,Pl,rfl,_,hl,hm,hmm,_,hi⟩
     ·exact ⟨_,⟨0,fun _=> List.replicate e.sz undef,fun k=> .inr (Nat.zero_le _),fun k=> by simp,rfl⟩,TRl.one .nil⟩
     ·simp only [if_true] at hmm;subst hmm;have each:∀k,∃r:List Value,(k < len->e.ok r/\(∀j,j < P.cellsOf u->w.cell? (a.add (k * P.cellsOf u+j))=none->False)/\∀(j:Nat) v v',r[j]? =some v->w.cell? (a.add (k * P.cellsOf u+j))=some v'->TRv (allM w) v v')/\r.length=e.sz/\(k < len->e.sz=P.cellsOf u):=by
       intro k;by_cases hk:k < len
       ·obtain ⟨cs',hc',ht'⟩:=hi k (by omega);obtain ⟨ts,ho,hr⟩:=ih.1 n' u cs' _ hc ht';obtain ⟨_,hln,hat⟩:=World.cells?_some hc';have hsz:e.sz=P.cellsOf u:=by rw [<-Sh.ok_sz e ts ho,hr.1,hln]
        refine ⟨ts,fun _=> ⟨ho,fun j hj hnone=> ?_,fun j v v' hv hv'=> ?_⟩,Sh.ok_sz e ts ho,fun _=> hsz⟩
        ·have:=hat j hj;rw [Deep.add_add,hnone,List.getElem?_eq_getElem (by omega)] at this;cases this
        ·have hj:j < ts.length:=(List.getElem?_eq_some_iff.1 hv).1;have:=hat j (by rw [hr.1,hln] at hj;exact hj);rw [Deep.add_add,hv'] at this;exact hr.2 j v v' hv this.symm
       ·exact ⟨List.replicate e.sz undef,fun h=> absurd h hk,by simp,fun h=> absurd h hk⟩
      refine ⟨_,⟨len,fun k=> Classical.choose (each k),fun k=> ?_,fun k=> (Classical.choose_spec (each k)).2.1,rfl⟩,TRl.one ?_⟩
      ·by_cases hk:k < len
       ·exact .inl ((Classical.choose_spec (each k)).1 hk).1
       ·exact .inr (by omega)
      ·generalize hr:(fun k=> Classical.choose (each k))=r;have hr1:∀k,k < len->e.ok (r k)/\(∀j,j < P.cellsOf u->w.cell? (a.add (k * P.cellsOf u+j))=none->False)/\∀(j:Nat) v v',(r k)[j]? =some v->w.cell? (a.add (k * P.cellsOf u+j))=some v'->TRv (allM w) v v':=fun k hk=> by rw [<-hr];exact (Classical.choose_spec (each k)).1 hk
       have hr2:∀k,(r k).length=e.sz:=fun k=> by rw [<-hr];exact (Classical.choose_spec (each k)).2.1
       have hr3:∀k,k < len->e.sz=P.cellsOf u:=fun k hk=> (Classical.choose_spec (each k)).2.2 hk
       rcases Nat.eq_zero_or_pos len with rfl | hpos
       ·have:Qad r (List.range 0)=#[]:=rfl;rw [this];exact .empty hm
       ·have hsz:=hr3 0 hpos;have hex:∃v,w.cell? a=some v:=by
         have:=(hr1 0 hpos).2.1 0 (by omega);have ea:a.add (0 * P.cellsOf u+0)=a:=by simp [Addr.add]
         rw [ea] at this;cases hq:w.cell? a with
         | none=> exact absurd hq this
         | some v=> exact ⟨v,rfl⟩
        obtain ⟨v0,hv0⟩:=hex;obtain ⟨b,o,arr,ty,fl,rfl,hb,_⟩:=Qxz hv0;have cellE:∀i,w.cell? ⟨b,o+i,none⟩=arr[o+i]? :=fun i=> by simp [World.cell?,hb]
        refine TRv.slice (o:=o) hl hm hb (fun i hi'=> ?_) fun i v v' hv hv'=> ?_
        ·obtain ⟨k,j,hk,hj,rfl,_⟩:=Qsm hr2 (i:=i) (v:=(Qad r (List.range len))[i]) (Array.getElem?_eq_getElem hi');have:=(hr1 k hk).2.1 j (by omega);rw [Qrf,<-hsz,cellE] at this;rcases Nat.lt_or_ge (o+(k * e.sz+j)) arr.size with h1 | h1
         ·exact h1
         ·exact absurd (Array.getElem?_eq_none h1) this
        ·obtain ⟨k,j,hk,hj,rfl,hkj⟩:=Qsm hr2 hv;refine (hr1 k hk).2.2 j v v' hkj ?_;rw [Qrf,<-hsz,cellE];exact hv'
    ·cases hc
 exact key.1
def Sh.arg:Sh->Value->Prop
 | .struct f,v=> ∃cs,v=.agg cs.toArray/\f.ok cs
 | s,v=> s.ok [v]
def QuX:List Sh->List Value->Prop
 | [],l=> l=[]
 | s::ss,l=> ∃t ts,l=t::ts/\s.arg t/\QuX ss ts
theorem Q3y {s:Sh} {t:TypeId} {v:Value} {d:DataW H} {ps:List MemPlace} {r:Reach} {b0:Nat} (hc:s.chk P none t=true) (hv:Value.okWide P w r b0 t v) (h:DataW.Trod enc P w 0 (fun _=> true) held t v d ps):∃tr,s.arg tr/\TRv (allM w) tr v:=by
 obtain ⟨fuel,hf⟩:=h;obtain ⟨ts,ho,hr⟩:=Q5Y s fuel t _ _ hc hf;have one:v.cells=#[v]->s.ok ts->(∀f,s≠.struct f)->∃tr,s.arg tr/\TRv (allM w) tr v:=fun hv1 ho hs=> by
  rw [hv1] at hr;match ts,hr,ho with
  | [tr],hr,ho=>
    refine ⟨tr, ?_,hr.2 0 tr v rfl rfl⟩;cases s <;> first | exact ho | exact absurd rfl (hs _)
  | [],hr,_=> have:=hr.1;simp at this
  | _::_::_,hr,_=> have:=hr.1;simp at this
 cases s with
 | int=>
   simp only [Sh.chk] at hc;split at hc
   ·rename_i ht;obtain ⟨n,rfl⟩:=okWide_int ht hv;exact one rfl ho fun f h=> by cases h
   ·cases hc
 | bool=>
   simp only [Sh.chk] at hc;split at hc
   ·rename_i ht;obtain ⟨n,rfl⟩:=okWide_bool ht hv;exact one rfl ho fun f h=> by cases h
   ·cases hc
 | str=>
   simp only [Sh.chk] at hc;split at hc
   ·rename_i ht;obtain ⟨n,rfl⟩:=okWide_string ht hv;exact one rfl ho fun f h=> by cases h
   ·cases hc
 | unit=> simp [Sh.chk] at hc
 | pair a b=> simp [Sh.chk] at hc
 | struct f=>
   simp only [Sh.chk] at hc;split at hc
   ·rename_i fs ht;obtain ⟨cs,rfl,_⟩:=okWide_struct ht hv;refine ⟨.agg ts.toArray,⟨ts,rfl,ho⟩,.agg ?_ fun i v v' h1 h2=> ?_⟩
    ·have:=hr.1;simpa [Value.cells] using this
    ·exact hr.2 i v v' (by simpa using h1) (by simpa [Value.cells] using h2)
   ·cases hc
 | slice e=>
   simp only [Sh.chk] at hc;split at hc
   ·rename_i u ht;obtain ⟨a,l,c,rfl⟩:=okWide_slice ht hv;exact one rfl ho fun f h=> by cases h
   ·cases hc
def Ql8 (P:Program):List Sh->List TypeId->Bool
 | [],[]=> true
 | s::ss,t::ts=> s.chk P none t && Ql8 P ss ts
 | _,_=> false
theorem trodAll_cons {t:TypeId} {ts:List TypeId} {vs:List Value} {ds:List (DataW H)} {ps:List MemPlace} {base:Nat} {spare:Nat->Bool} (h:DataW.TrodAll enc P w base spare held (t::ts) vs ds ps):
 ∃v vs' d ds' p q,vs=v::vs'/\ds=d::ds'/\DataW.Trod enc P w base spare held t v d p/\DataW.TrodAll enc P w base spare held ts vs' ds' q/\ps=p++q:=by
 cases vs with
 | nil=> cases ds <;> simp [DataW.TrodAll] at h
 | cons v vs=>
   cases ds with
   | nil=> simp [DataW.TrodAll] at h
   | cons d ds=>
     simp only [DataW.TrodAll] at h;obtain ⟨p,q,h1,h2,h3⟩:=h;exact ⟨v,vs,d,ds,p,q,rfl,rfl,h1,h2,h3⟩
theorem trodAll_nil {vs:List Value} {ds:List (DataW H)} {ps:List MemPlace} {base:Nat} {spare:Nat->Bool} (h:DataW.TrodAll enc P w base spare held [] vs ds ps):vs=[]/\ds=[]/\ps=[]:=by
 cases vs <;> cases ds <;> simp [DataW.TrodAll] at h
 exact ⟨rfl,rfl,h⟩
theorem Q6F:∀(ss:List Sh) (ts:List TypeId) (vs:List Value) (ds:List (DataW H)) (ps:List MemPlace) (r:Reach) (b0:Nat),Ql8 P ss ts=true->DataW.TrodAll enc P w 0 (fun _=> true) held ts vs ds ps->
 (∀(j:Nat) t v,ts[j]? =some t->vs[j]? =some v->Value.okWide P w r b0 t v)->∃trs,QuX ss trs/\TRl (allM w) trs vs
 | [],[],vs,ds,ps,r,b0,_,h,_=> by
   obtain ⟨rfl,_,_⟩:=trodAll_nil h;exact ⟨[],rfl,TRl.nil⟩
 | s::ss,t::ts,vs,ds,ps,r,b0,hc,h,hv=> by
   simp only [Ql8,YB] at hc;obtain ⟨v,vs',d,ds',p,q,rfl,rfl,h1,h2,rfl⟩:=trodAll_cons h;obtain ⟨tr,ha,hr⟩:=Q3y hc.1 (hv 0 t v rfl rfl) h1;obtain ⟨trs,ha2,hr2⟩:=Q6F ss ts vs' ds' q r b0 hc.2 h2 fun j t v h1 h2=> hv (j+1) t v (by simpa using h1) (by simpa using h2)
   exact ⟨tr::trs,⟨tr,trs,rfl,ha,ha2⟩,(TRl.one hr).append hr2⟩
 | [],_::_,_,_,_,_,_,hc,_,_=> by simp [Ql8] at hc
 | _::_,[],_,_,_,_,_,hc,_,_=> by simp [Ql8] at hc
theorem Q2U {J:World->Prop} {f:FuncId} {ss:List Sh} {ts:List TypeId} {args:Array Value} {ds:List (DataW H)} {ps:List MemPlace} {r:Reach} {b0:Nat} (hJ:J w) (hc:Ql8 P ss ts=true) (h:DataW.TrodAll enc P w 0 (fun _=> true) held ts args.toList ds ps)
 (hv:∀(j:Nat) t v,ts[j]? =some t->args[j]? =some v->Value.okWide P w r b0 t v) (walk:∀trs,QuX ss trs->Qai P J f trs.toArray (.bool true)):Calls P f args w fun e w'=> e=.returned (.bool true)/\Below w.heap.size w w':=by
 obtain ⟨trs,ha,hr⟩:=Q6F ss ts args.toList ds ps r b0 hc h fun j t v h1 h2=> hv j t v h1 (by simpa using h2)
 refine (walk trs ha (allM w) w args hJ (fun b x h=> h) ⟨by simpa using hr.1,fun i v v' h1 h2=> hr.2 i v v' (by simpa using h1) (by simpa using h2)⟩).mono fun e w' ⟨v',he,hb,ht⟩=> ⟨?_,hb⟩
 rw [he,TRv.simple_eq rfl ht]
theorem Qie (hl:laidOutB P=true) {W W':World} (hb:Below W.heap.size W W'):∀(ts:List TypeId) (vs:List Value) (ds:List (DataW H)) (ps:List MemPlace),(ts.all fun t=> P.readableRec t && decide (t < P.types.size))=true->DataW.TrodAll enc P W 0 (fun _=> true) true ts vs ds ps->(∀x∈ps,x.block < W.heap.size)->
 DataW.TrodAll enc P W' 0 (fun b=> decide (b < W.heap.size)) true ts vs ds ps
 | [],vs,ds,ps,_,h,_=> by
   obtain ⟨rfl,rfl,rfl⟩:=trodAll_nil h;exact rfl
 | t::ts,vs,ds,ps,ha,h,hlt=> by
   simp only [List.all_cons,YB,decide_eq_true_eq] at ha;obtain ⟨v,vs',d,ds',p,q,rfl,rfl,h1,h2,rfl⟩:=trodAll_cons h;exact ⟨p,q,Below.trod hl ha.1.1 ha.1.2 h1 hb fun x hx=> hlt x (List.mem_append_left _ hx),Qie hl hb ts vs' ds' q ha.2 h2 fun x hx=> hlt x (List.mem_append_right _ hx),rfl⟩
theorem Q4S {α:Type} {s:Sh} {e:α->List Value} (dec:∀cs,s.ok cs->∃x,cs=e x) {n:Nat} {r:Nat->List Value} (h:∀k,s.ok (r k)\/n<=k):∃xs:List α,xs.length=n/\Qad r (List.range n)=Qad e xs:=by
 induction n with
 | zero=> exact ⟨[],rfl,rfl⟩
 | succ n ih=>
   obtain ⟨xs,hl,hx⟩:=ih fun k=> (h k).imp id fun h=> by omega
   obtain ⟨x,hxe⟩:=dec (r n) ((h n).resolve_right (by omega));refine ⟨xs++[x],by simp [hl], ?_⟩;unfold Qad at hx ⊢;rw [List.range_succ,List.flatMap_append,List.flatMap_append];have:(List.range n).flatMap r=xs.flatMap e:=by simpa using hx
   rw [this];simp [hxe]
theorem Qgd {α:Type} {s:Sh} {e:α->List Value} (dec:∀cs,s.ok cs->∃x,cs=e x) {cs:List Value} (h:Sh.ok (.slice s) cs):∃xs:List α,cs=[slT xs.length (Qad e xs)]:=by
 obtain ⟨n,r,h1,_,rfl⟩:=h;obtain ⟨xs,rfl,hx⟩:=Q4S dec h1;exact ⟨xs,by rw [hx]⟩
theorem Q0F {cs:List Value} (h:Sh.ok .int cs):∃z:Int,cs=Qav z:=by
 obtain ⟨z,_,rfl⟩:=h;exact ⟨z,rfl⟩
def Sh.zero:Sh->List Value
 | .int=> [.int .i64 0]
 | .bool=> [.bool false]
 | .str=> [.string ⟨#[]⟩]
 | .unit=> []
 | .pair a b=> a.zero++b.zero
 | .struct f=> f.zero
 | .slice _=> [.slice none 0 0]
def Sh.zeroA:Sh->Value
 | .struct f=> .agg f.zero.toArray
 | s=> s.zero.headD undef
def shS (l:List Sh):Sh:=.struct (l.foldr .pair .unit)
end
end Go.CE
