/- CE: what single operations do. Seventh part: maps; all of them together. -/
import Derived.Test.YtncjjangllkokaaZRS01
set_option linter.all false
open Nat renaming blt->Lr,ble_eq_true_of_le->LH,beq->Lf,ble->LR,min->LW,le_refl->LI,lt_or_ge->LK,strongRecOn->LB,zero_add->LD
open Option renaming map_some->LL
open Array renaming getElem?_toList->Lq,eq_empty_of_size_eq_zero->LO
open List renaming getElem?_cons_zero->Lu,mem_cons_of_mem->Lt,mem_of_getElem? ->Lp,getD_eq_getElem?_getD->Ly,getElem?_append_left->Lx,range->Ll,getElem?_append_right->Lm,getElem?_map->LF,getElem?_eq_getElem->L4,mem_append_left->Ln
namespace Go.CE
open Go Go.RowKit

def iL:Nat:=9223372036854775808
def wq(n:Int):Int:=match n with
 | .ofNat m=>bif Lr m iL then .ofNat m else IntKind.i64.wrap (.ofNat m)
 | .negSucc m=>bif Lr m iL then .negSucc m else IntKind.i64.wrap (.negSucc m)
theorem blt_eq(m k:Nat):Lr m k=decide (m<k):=by
 by_cases h:m<k
 ·rw[decide_eq_true h];exact LH h
 ·rw[decide_eq_false h];cases e:Lr m k with
  |false=>rfl
  |true=>exact absurd (YL e) h
theorem MD(m k:Nat):Lf m k=decide (m=k):=by
 by_cases h:m=k
 ·subst h;simp
 ·rw[ae h,decide_eq_false h]
theorem Ng(m:Nat):wq (.ofNat m)=IntKind.i64.wrap (.ofNat m):=by
 show(bif Lr m iL then Int.ofNat m else IntKind.i64.wrap (.ofNat m))=_;rw[blt_eq];by_cases h:m<iL
 ·rw[decide_eq_true h,cond_true,IntKind.wrap_i64,Int.ofNat_eq_natCast];unfold iL at h;omega
 ·rw[decide_eq_false h,cond_false]
theorem Nh(m:Nat):wq (.negSucc m)=IntKind.i64.wrap (.negSucc m):=by
 show(bif Lr m iL then Int.negSucc m else IntKind.i64.wrap (.negSucc m))=_;rw[blt_eq];by_cases h:m<iL
 ·rw[decide_eq_true h,cond_true,IntKind.wrap_i64,Int.negSucc_eq];unfold iL at h;omega
 ·rw[decide_eq_false h,cond_false]
theorem MH(n:Int):wq n=IntKind.i64.wrap n:=by
 cases n with
 |ofNat m=>exact Ng m
 |negSucc m=>exact Nh m
def XA:Int->Int->Bool
 | .ofNat a,.ofNat b=>Lr a b
 | .ofNat _,.negSucc _=>false
 | .negSucc _,.ofNat _=>true
 | .negSucc a,.negSucc b=>Lr b a
theorem rW(a b:Int):XA a b=decide (a<b):=by
 rw[Bool.eq_iff_iff];cases a <;> cases b <;> simp only[XA,blt_eq,Int.ofNat_eq_natCast,Int.negSucc_eq,decide_eq_true_eq,Bool.false_eq_true,false_iff,true_iff] <;> omega
def Rx:Int->Int->Bool
 | .ofNat a,.ofNat b=>Lf a b
 | .negSucc a,.negSucc b=>Lf a b
 |_,_=>false
theorem du(a b:Int):Rx a b=(a==b):=by
 rw[Bool.eq_iff_iff];cases a <;> cases b <;> simp only[Rx,MD,beq_iff_eq,decide_eq_true_eq,Int.ofNat_eq_natCast,Int.negSucc_eq,Bool.false_eq_true,false_iff] <;> omega
def AN:BinOp->Value->Value->Option Value
 | .add,.int .i64 a,.int .i64 b=>some (.int .i64 (wq (a+b)))
 | .sub,.int .i64 a,.int .i64 b=>some (.int .i64 (wq (a-b)))
 | .mul,.int .i64 a,.int .i64 b=>some (.int .i64 (wq (a*b)))
 | .eql,.int .i64 a,.int .i64 b=>some (.bool (Rx a b))
 | .neq,.int .i64 a,.int .i64 b=>some (.bool (!(Rx a b)))
 | .lss,.int .i64 a,.int .i64 b=>some (.bool (XA a b))
 | .gtr,.int .i64 a,.int .i64 b=>some (.bool (XA b a))
 | .leq,.int .i64 a,.int .i64 b=>some (.bool (!(XA b a)))
 | .geq,.int .i64 a,.int .i64 b=>some (.bool (!(XA a b)))
 |_,_,_=>none
theorem HN{P:Program}{op:BinOp}{t:TypeId}{x y:Operand}{a b v:Value}(h:AN op a b=some v)(w:World):(do eqGuard op t x y a b;binOp op t a b:Sem Value).run P w=.ok v w/\(∀μ,VR μ v v)/\(∀μ a',VR μ a a'->a'=a)/\(∀μ b',VR μ b b'->b'=b):=by
 have hle:∀a b:Int,(!(XA b a))=decide (a<=b):=fun a b=>by
  rw[rW,Bool.eq_iff_iff];simp only[Bool.not_eq_true',decide_eq_false_iff_not,decide_eq_true_eq];omega
 unfold AN at h;split at h <;> first
  |(cases h;done)
  |(simp only[YO]at h
    subst h;refine⟨?_,fun μ=>by first|exact .int _ _|exact .bool _,fun μ a' ha=>by cases ha;rfl,fun μ b' hb=>by cases hb;rfl⟩
    first
     |(simp[eqGuard,binOp,Op.intArith,MH];done)
     |(simp[eqGuard,binOp,Op.intCmp,du];done)
     |(simp[eqGuard,binOp,Op.intCmp,du,bne];done)
     |(simp[eqGuard,binOp,Op.intCmp,rW];done)
     |(simp[eqGuard,binOp,Op.intCmp,hle];done))

theorem eT{α β:Type}{P:Program}(s:Sem α)(f:α->Sem β):ZB P (s >>=f)=match ZB P s with|some a=>ZB P (f a)|none=>none:=by
 show ZB P (s.bind f)=_;induction s with
 |pure a=>rfl
 |program k ih=>exact ih P
 |_=>rfl
theorem T6{α:Type}{P:Program}(a:α):ZB P (pure a:Sem α)=some a:=rfl

def ER(μ:Mu)(es KA:List MapEntry):Prop:=es.length=KA.length/\∀(i:Nat) e e',es[i]? =some e->KA[i]? =some e'->e'.key=e.key/\e'.born=e.born/\af e.key=true/\VR μ e.val e'.val
theorem ER.tail{μ:Mu}{e e':MapEntry}{es KA:List MapEntry}(h:ER μ (e::es) (e'::KA)):ER μ es KA:=⟨by simpa using h.1,fun i a b x y=>h.2 (i+1) a b (by simpa using x) (by simpa using y)⟩
def FR(μ:Mu):Option (Nat×Value)->Option (Nat×Value)->Prop
 |none,none=>True
 |some (i,v),some (i',v')=>i'=i/\VR μ v v'
 |_,_=>False
theorem nY{μ:Mu}{kind:TypeDesc}{k:Value}:∀(es KA:List MapEntry) (i:Nat),ER μ es KA->(∀r,Instr.findNow kind k es i=some r->∃r',Instr.findNow kind k KA i=some r'/\FR μ r r')/\(Instr.findNow kind k es i=none->Instr.findNow kind k KA i=none)
 |[],[],i,_=>by
  refine⟨fun r h=> ?_,fun h=>by simp[Instr.findNow]at h⟩;simp only[Instr.findNow,YO]at h;subst h;exact⟨none,rfl,trivial⟩
 |e::es,e'::KA,i,h=>by
  obtain⟨h1,_,_,h4⟩:=h.2 0 e e' rfl rfl;simp only[Instr.findNow,h1];cases Instr.sameNow kind k e.key with
  |none=>exact⟨fun r h=>(by cases h),fun _=>rfl⟩
  |some b=>
   cases b with
   |true=>exact⟨fun r h=>by simp only[YO]at h;subst h;exact⟨_,rfl,rfl,h4⟩,fun h=>by cases h⟩
   |false=>exact nY es KA (i+1) h.tail
 |[],_::_,_,h=>by have:=h.1;simp at this
 |_::_,[],_,h=>by have:=h.1;simp at this
theorem ct{P:Program}{μ:Mu}{kt:TypeId}{k:Value}:∀(es KA:List MapEntry) (i:Nat) r,ER μ es KA->ZB P (Instr.findAsking kt k es i)=some r->∃r',ZB P (Instr.findAsking kt k KA i)=some r'/\FR μ r r'
 |[],[],i,r,_,h=>by
  simp only[Instr.findAsking,T6,YO]at h;subst h;exact⟨none,rfl,trivial⟩
 |e::es,e'::KA,i,r,h,hr=>by
  obtain⟨h1,_,_,h4⟩:=h.2 0 e e' rfl rfl;simp only[Instr.findAsking,h1,eT]at hr ⊢;cases hq:ZB P (Op.equal kt k e.key)with
  |none=>rw[hq]at hr;cases hr
  |some b=>
   rw[hq]at hr;cases b with
   |true=>
    simp only[if_true,T6,YO]at hr ⊢;subst hr;exact⟨_,rfl,rfl,h4⟩
   |false=>
    simp only[Bool.false_eq_true,if_false]at hr ⊢;exact ct es KA (i+1) r h.tail hr
 |[],_::_,_,_,h,_=>by have:=h.1;simp at this
 |_::_,[],_,_,h,_=>by have:=h.1;simp at this
theorem dt{P:Program}{μ:Mu}{kt:TypeId}{k:Value}{es KA:List MapEntry}{r:Option (Nat×Value)}(h:ER μ es KA)(hr:ZB P (Instr.findKey kt k es)=some r):∃r',ZB P (Instr.findKey kt k KA)=some r'/\FR μ r r':=by
 simp only[Instr.findKey,eT]at hr ⊢;cases hu:ZB P (underlying kt)with
 |none=>rw[hu]at hr;cases hr
 |some d=>
  rw[hu]at hr;dsimp only at hr ⊢;obtain⟨h1,h2⟩:=nY (kind:=d) (k:=k) es KA 0 h;cases hf:Instr.findNow d k es 0 with
  |some r0=>
   rw[hf]at hr;obtain⟨r',hr',hv⟩:=h1 r0 hf;simp only[T6,YO]at hr;subst hr;rw[hr'];exact⟨r',rfl,hv⟩
  |none=>
   rw[hf]at hr;rw[h2 hf];exact ct es KA 0 r h hr
theorem ER.of{μ:Mu}{es KA:Array MapEntry}(h1:es.size=KA.size)(h2:∀(i:Nat) e e',es[i]? =some e->KA[i]? =some e'->e'.key=e.key/\e'.born=e.born/\af e.key=true/\VR μ e.val e'.val):ER μ es.toList KA.toList:=
 ⟨by simpa using h1,fun i a b x y=>h2 i a b (by simpa using x) (by simpa using y)⟩
theorem dr{P:Program}{w:World}{b:Nat}{es:Array MapEntry}{RZ:Nat}(h:w.heap[b]? =some (.map es RZ)):(getObj b).run P w=.ok (.map es RZ) w:=by simp[getObj,Sem.run,h]
def fY(P:Program)(t:TypeId)(H:Qt)(ok:Bool)(x k:Value):Option (Value×List Nat):=
 match R5 P t with
 |some (.map kt e)=>
  match(match x with
   | .map none=>some (#[],[])
   | .map (some r)=>match Qw H r with
     |some (.map es _)=>some (es,[r])
     |_=>none
   |_=>none:Option (Array MapEntry×List Nat))with
  |some (es,R)=>bif af k then
   match ZB P (Instr.checkKey es.isEmpty 10000 kt k),ZB P (Instr.findKey kt k es.toList),zeroOf P e with
   |some (),some (some (_,v)),_=>some (bif ok then .tuple #[v,.bool true]else v,R)
   |some (),some none,some z=>bif af z then some (bif ok then .tuple #[z,.bool false]else z,R)else none
   |_,_,_=>none
    else none
  |none=>none
 |_=>none
theorem Ba{μ:Mu}{a a' b b':Value}(h:VR μ a a')(k:VR μ b b'):VR μ (.tuple #[a,b]) (.tuple #[a',b']):=by
 refine .tuple rfl fun i v v' hv ZQ=> ?_
 rcases i with _|_|i
 ·simp at hv ZQ;subst hv ZQ;exact h
 ·simp at hv ZQ;subst hv ZQ;exact k
 ·simp at hv
theorem xV{P:Program}{B:Nat}{S:Nat->Prop}{μ:Mu}{H:Qt}{w:World}{t:TypeId}{ok:Bool}{x k x' k' v:Value}{R:List Nat}(h:fY P t H ok x k=some (v,R))(QE:Ok B S μ (Qw H) w)(hx:VR μ x x')(hk:VR μ k k')(hR:∀i∈R,S i):
 ∃v',(Instr.lookup t x' k' ok).run P w=.ok v' w/\VR μ v v':=by
 unfold fY at h;simp only[Zx]at h;split at h
 ·rename_i kt e hu;split at h
  ·rename_i es R0 hes;cases hak:af k with
   |false=>rw[hak]at h;cases h
   |true=>
    rw[hak]at h;simp only[cond_true]at h;have hkk:k'=k:=Tj hak hk;subst hkk;have hRR:R0=R:=by
     split at h
     ·simp only[YO,YR]at h;exact h.2
     ·rename_i z _ _ _;cases hz:af z with
      |false=>rw[hz]at h;cases h
      |true=>rw[hz]at h;simp only[cond_true,YO,YR]at h;exact h.2
     ·cases h
    subst hRR
    -- the entries in the world
    have hent:∃KA,ER μ es.toList KA.toList/\(x'=.map none/\KA=#[]\/∃b RZ,x'=.map (some b)/\w.heap[b]? =some (.map KA RZ)):=by
     split at hes
     ·simp only[YO,YR]at hes;obtain⟨rfl,_⟩:=hes;cases hx;exact⟨#[],⟨rfl,fun i a b x _=>by simp at x⟩,.inl ⟨rfl,rfl⟩⟩
     ·rename_i r;split at hes
      ·rename_i es0 RZ hg;simp only[YO,YR]at hes;obtain⟨rfl,rfl⟩:=hes;obtain⟨im,QK,_,KA,hw,h1,h2⟩:=QE.rel r _ (hR r (by simp)) hg trivial;cases hx with
       |map hm=>
        rw[QK]at hm;cases hm;exact⟨KA,.of h1 h2,.inr ⟨im.Zt,RZ,rfl,hw⟩⟩
      ·cases hes
     ·cases hes
    obtain⟨KA,hER,VU⟩:=hent;have hemp:KA.isEmpty=es.isEmpty:=by
     have h1:=hER.1;simp only[Array.length_toList]at h1;rw[Bool.eq_iff_iff];simp only[Array.isEmpty_iff_size_eq_zero];omega
    have run2:∀r v0,ZB P (Instr.checkKey es.isEmpty 10000 kt k')=some ()->ZB P (Instr.findKey kt k' es.toList)=some r->
     (∀r',FR μ r r'->∃v',(do let(v,ok') <-(match r' with|some (_,v)=>pure (v,true)|none=>do pure (<-zeroValue e,false):Sem (Value×Bool));pure (if ok then .tuple #[v,.bool ok']else v):Sem Value).run P w=.ok v' w/\VR μ v0 v')->
     ∃v',(Instr.lookup t x' k' ok).run P w=.ok v' w/\VR μ v0 v':=by
     intro r v0 hc hf hfin;obtain⟨r',hr',XF⟩:=dt hER hf;obtain⟨v',ZQ,VY⟩:=hfin r' XF;refine⟨v', ?_,VY⟩;have hc':=Uj hc w;have hr'':=Uj hr' w;rw[<-hemp]at hc';simp only[Sem.run_bind]at ZQ;rcases VU with ⟨rfl,rfl⟩|⟨b,RZ,rfl,hw⟩
     ·simp only[Instr.lookup,Sem.run_bind,run_underlying hu,Result.andThen_ok,Sem.run_pure,hc',hr''];cases r' <;> first|simpa using ZQ|(simp only[Sem.run_bind]at ZQ;cases hzr:Sem.run P (zeroValue e) w <;> rw[hzr]at ZQ <;> first|(cases ZQ;done)|simpa[hzr]using ZQ)
     ·simp only[Instr.lookup,Sem.run_bind,run_underlying hu,Result.andThen_ok,Sem.run_pure,dr hw,hc',hr''];cases r' <;> first|simpa using ZQ|(simp only[Sem.run_bind]at ZQ;cases hzr:Sem.run P (zeroValue e) w <;> rw[hzr]at ZQ <;> first|(cases ZQ;done)|simpa[hzr]using ZQ)
    split at h
    ·rename_i i0 v0 hc hf;simp only[YO,YR]at h;obtain⟨rfl,_⟩:=h;refine run2 _ _ hc hf fun r' XF=> ?_
     cases r' with
     |none=>exact XF.elim
     |some p=>
      obtain⟨i',v'⟩:=p;cases ok with
      |true=>exact⟨_,rfl,Ba XF.2 (.bool true)⟩
      |false=>exact⟨_,rfl,XF.2⟩
    ·rename_i z hc hf hz;cases haz:af z with
     |false=>rw[haz]at h;cases h
     |true=>
      rw[haz]at h;simp only[cond_true,YO,YR]at h;obtain⟨rfl,_⟩:=h;refine run2 _ _ hc hf fun r' XF=> ?_
      cases r' with
      |some p=>exact XF.elim
      |none=>
       cases ok with
       |true=>exact⟨.tuple #[z,.bool false],by simp[c8 hz],Ba (PC haz) (.bool false)⟩
       |false=>exact⟨z,by simp[c8 hz],PC haz⟩
    ·cases h
  ·cases h
 ·cases h
def Jc(P:Program)(t:TypeId)(H:Qt)(x k v:Value):Option (Qt×Nat):=
 match R5 P t,x with
 |some (.map kt _),.map (some r)=>match Qw H r with
  |some (.map es RZ)=>bif af k then
   match ZB P (Instr.checkKey false 10000 kt k),ZB P (Instr.findKey kt k es.toList)with
   |some (),some (some (i,_))=>match es[i]? with
    |some e=>bif Instr.sameBits 10000 e.key k then some (VA H r (.map (es.setIfInBounds i {e with key:=k,val:=v}) RZ),r)else none
    |none=>none
   |some (),some none=>some (VA H r (.map (es.push {key:=k,val:=v,born:=RZ}) (RZ+1)),r)
   |_,_=>none
    else none
  |_=>none
 |_,_=>none
theorem kJ{P:Program}{w:World}{b:Nat}{es:Array MapEntry}{RZ:Nat}(o:Obj)(h:w.heap[b]? =some (.map es RZ)):(setObj b o).run P w=.ok () {w with heap:=w.heap.setIfInBounds b o}:=by simp[setObj,Sem.run,h]
theorem oy{P:Program}{B n:Nat}{S:Nat->Prop}{μ:Mu}{H H':Qt}{w:World}{t:TypeId}{x k v x' k' v':Value}{b:Nat}(h:Jc P t H x k v=some (H',b))(QE:Ok B S μ (Qw H) w)(hS:∀i,S i->i<n)(hx:VR μ x x')(hk:VR μ k k')(hv:VR μ v v')(hb:S b):
 ∃w',(Instr.mapUpdate t x' k' v').run P w=.ok () w'/\Post B S n n [b] μ μ H H' w w':=by
 unfold Jc at h;simp only[Zx]at h;split at h
 ·rename_i kt e0 r hu;split at h
  ·rename_i es RZ hg;cases hak:af k with
   |false=>rw[hak]at h;cases h
   |true=>
    rw[hak]at h;simp only[cond_true]at h;have hkk:k'=k:=Tj hak hk;subst hkk;have hbr:r=b:=by
     split at h
     ·split at h
      ·rename_i e _;cases hs:Instr.sameBits 10000 e.key k' with
       |false=>rw[hs]at h;cases h
       |true=>rw[hs]at h;simp only[cond_true,YO,YR]at h;exact h.2
      ·cases h
     ·simp only[YO,YR]at h;exact h.2
     ·cases h
    subst hbr;obtain⟨im,QK,hr,KA,hw,h1,h2⟩:=QE.rel r _ hb hg trivial;have hER:=ER.of h1 h2;have Xp:im.Zt<w.heap.size:=(Array.getElem?_eq_some_iff.1 hw).1;cases hx with
    |map hm=>
     rw[QK]at hm;cases hm;have fin:∀(es2 es2':Array MapEntry) (clk2:Nat),ER μ es2.toList es2'.toList->
      Post B S n n [r] μ μ H (VA H r (.map es2 clk2)) w {w with heap:=w.heap.setIfInBounds im.Zt (.map es2' clk2)}:=by
      intro es2 es2' clk2 hE;refine Post.write QE hS r _ _ im hb hg trivial QK hr (by simp) (fun q hq=> ?_) ⟨hr,es2', ?_,by simpa using hE.1,fun i a c ha hc=>hE.2 i a c (by simpa using ha) (by simpa using hc)⟩ ⟨rfl,rfl,rfl⟩
      ·simp[Array.getElem?_setIfInBounds_ne (Ne.symm hq)]
      ·simp[Xp]
     split at h
     ·rename_i i v0 hc hf;split at h
      ·rename_i e he;cases hs:Instr.sameBits 10000 e.key k' with
       |false=>rw[hs]at h;cases h
       |true=>
        rw[hs]at h;simp only[cond_true,YO,YR]at h;obtain⟨rfl,_⟩:=h;obtain⟨r',hr',XF⟩:=dt hER hf;cases r' with
        |none=>exact XF.elim
        |some p=>
         obtain⟨i',v0'⟩:=p;obtain⟨rfl,_⟩:=XF;have hi:i'<KA.size:=h1 ▸ (Array.getElem?_eq_some_iff.1 he).1;obtain⟨e',he'⟩:∃e',KA[i']? =some e':=⟨KA[i'],by simp[hi]⟩
         obtain⟨q1,q2,q3,q4⟩:=h2 i' e e' he he';have hmod:KA.modify i' (fun e=>{e with key:=k',val:=v'})=KA.setIfInBounds i' {e' with key:=k',val:=v'}:=by
          apply Array.ext (by simp);intro j hj hj';simp only[Array.size_modify]at hj;have hee:KA[i']=e':=by simpa[hi]using he'
          rw[Array.getElem_modify];by_cases e1:i'=j
          ·subst e1;simp[hee]
          ·simp[e1,hj]
         refine⟨_, ?_,fin _ (KA.setIfInBounds i' {e' with key:=k',val:=v'}) RZ ?_⟩
         ·simp only[Instr.mapUpdate,Sem.run_bind,run_underlying hu,Result.andThen_ok,dr hw,Uj hc,Uj hr',he',LL,Option.getD_some,q1,Instr.keyThatStays,hs,if_true,Sem.run_pure];rw[kJ _ hw,hmod]
         ·refine⟨by simpa using h1,fun j a c ha hc=> ?_⟩;simp only[Lq]at ha hc;rw[Array.getElem?_setIfInBounds]at ha hc;by_cases e1:i'=j
          ·subst e1;rw[if_pos rfl]at ha hc;rw[if_pos (by rw[h1];exact hi)]at ha;rw[if_pos hi]at hc;cases ha;cases hc;exact⟨rfl,q2,hak,hv⟩
          ·rw[if_neg e1]at ha hc;exact h2 j a c ha hc
      ·cases h
     ·rename_i hc hf;simp only[YO,YR]at h;obtain⟨rfl,_⟩:=h;obtain⟨r',hr',XF⟩:=dt hER hf;cases r' with
      |some p=>exact XF.elim
      |none=>
       refine⟨_, ?_,fin _ (KA.push {key:=k',val:=v',born:=RZ}) (RZ+1) ?_⟩
       ·simp only[Instr.mapUpdate,Sem.run_bind,run_underlying hu,Result.andThen_ok,dr hw,Uj hc,Uj hr'];rw[kJ _ hw]
       ·refine⟨by simpa using h1,fun j a c ha hc=> ?_⟩;simp only[Lq]at ha hc;rw[Array.getElem?_push]at ha hc;rw[<-h1]at hc;split at ha
        ·rename_i e1;rw[if_pos e1]at hc;cases ha;cases hc;exact⟨rfl,rfl,hak,hv⟩
        ·rename_i e1;rw[if_neg e1]at hc;exact h2 j a c ha hc
     ·cases h
  ·cases h
 ·cases h
def xW(P:Program)(t:TypeId)(H:Qt)(n:Nat)(s x:Value):Option CR:=
 match R5 P t with
 |some (.slice e)=>match Wz P e with
  |some z=>match s,x with
   | .slice (some ⟨b,off,none⟩) k _,.slice (some ⟨b2,off2,none⟩) m _=>match Qw H b,Qw H b2 with
     |some (.cells cs te (0,0)),some (.cells cs2 _ _)=>
      bif LR (off+LW m k*z) cs.size && LR (off2+LW m k*z) cs2.size && ones (cs2.extract off2 (off2+LW m k*z))then
       some ⟨.val (.int .i64 (LW m k)),VA H b (.cells (splice cs off (cs2.extract off2 (off2+LW m k*z))) te (0,0)),n,[b,b2],[b]⟩else none
     |_,_=>none
   |_,_=>none
  |none=>none
 |_=>none
theorem Ec{P:Program}{B n:Nat}{S:Nat->Prop}{μ:Mu}{H:Qt}{w:World}{t t2 ty:TypeId}{s x s' x':Value}{r:CR}(h:xW P t H n s x=some r)(QE:Ok B S μ (Qw H) w)(hS:∀i,S i->i<n)
 (hs:VR μ s s') (hx:VR μ x x') (hR:∀i∈r.R,S i):
 ∃v w',(Builtin.copy_ #[t,t2] ty #[s',x']).run P w=.ok v w'/\Post B S n r.n r.W μ μ H r.H w w'/\r.nx=.val v/\VR μ v v/\r.n=n:=by
 unfold xW at h;simp only[Zx]at h;split at h
 ·rename_i e hu;split at h
  ·rename_i z hz;split at h
   ·rename_i b off k cap b2 off2 m cap2;split at h
    ·rename_i cs te cs2 te2 fz2 hg hg2;cases hcond:(LR (off+LW m k*z) cs.size && LR (off2+LW m k*z) cs2.size && ones (cs2.extract off2 (off2+LW m k*z)))with
     |false=>rw[hcond]at h;cases h
     |true=>
      rw[hcond]at h;simp only[cond_true,YO]at h;subst h;simp only[YB]at hcond;obtain⟨⟨h1,h2⟩,h3⟩:=hcond;have h1:=YL h1;have h2:=YL h2;have hb:S b:=hR b (by simp);have hb2:S b2:=hR b2 (by simp);obtain⟨im,QK,ZU⟩:=QE.rel b _ hb hg trivial;obtain⟨im2,WS,hor2⟩:=QE.rel b2 _ hb2 hg2 trivial;cases hs with
      |slice har q1 q2 q3=>
       obtain⟨Z9,QS,_,rfl⟩:=har;simp only at QS;rw[QK]at QS;cases QS;cases hx with
       |slice har2 p1 p2 p3=>
        obtain⟨im2',him2',_,rfl⟩:=har2;simp only at him2';rw[WS]at him2';cases him2';obtain⟨xs,hload,hxs⟩:=hor2.cells (P:=P) (off:=off2) (s:=LW m k*z) h2;have hxsz:xs.size=LW m k*z:=by rw[<-hxs.1];simp;omega
        have hexsz:(cs2.extract off2 (off2+LW m k*z)).size=LW m k*z:=by simp;omega
        rcases ZU with ⟨_,hr,ho,arr,ha,hle,hcap,hc⟩|⟨hz0,_⟩
        ·have Zh:=run_storeCells_at (P:=P) im.Zt off te xs.toList 0 arr w ha (by simp[hxsz];omega) (hxs.ones h3);simp only[Nat.add_zero]at Zh;refine⟨.int .i64 (LW m k),w.setRow im.Zt (CE.splice arr off xs), ?_,Post.write QE hS b _ (.cells (CE.splice cs off (cs2.extract off2 (off2+LW m k*z))) te (0,0)) im hb hg trivial QK hr (w':=w.setRow im.Zt (CE.splice arr off xs)) ?_ ?_ ?_ ⟨rfl,rfl,rfl⟩,rfl,.int _ _,rfl⟩
         ·simp[Builtin.copy_,Builtin.lenOf,Builtin.firstCells,Sem.run_bind,Sem.run_pure,Result.andThen_ok,run_underlying hu,Zp hz,hload,ho,Zh,CE.splice,goInt]
         ·simp[World.setRow]
         ·intro y hy;exact setRow_other w im.Zt y _ hy
         ·refine .inl ⟨rfl,hr,ho,CE.splice arr off xs,setRow_heap w im.Zt arr _ te _ ha, ?_, ?_, ?_⟩
          ·rw[WA (by rw[hexsz];omega),WA (by rw[hxsz];omega)];exact hle
          ·rw[WA (by rw[hxsz];omega)];exact hcap
          ·exact VRs.splice (by rw[hexsz];omega) hle hc hxs
        ·exact absurd rfl hz0
    ·cases h
   ·cases h
  ·cases h
 ·cases h
end Go.CE

namespace Go.CE
open Go Go.RowKit

def Hy(ev:Operand->Option Value):Option Operand->Option (Option Value)
 |none=>some none
 |some x=>match ev x with
  |some v=>some (some v)
  |none=>none
def mkPure(o:Option Value)(H:Qt)(n:Nat):Option CR:=match o with|some v=>some ⟨.val v,H,n,[],[]⟩|none=>none
def jT(P:Program)(t:TypeId)(len:Nat)(l:List (Nat×Value)):Bool:=Lf len 0 && l.isEmpty && (match R5 P t with
 |some (.slice e)=>(Wz P e).isSome
 |_=>false)
theorem Post.ofBelow{B n:Nat}{S:Nat->Prop}{μ:Mu}{H:Qt}{w w':World}(QE:Ok B S μ (Qw H) w)(h:Below w.heap.size w w'):Post B S n n [] μ μ H H w w':=by
 refine⟨⟨fun i o hi ho hl=> ?_,fun i o im hi ho hl QK=> ?_,fun i j oi oj a b hi hj=> ?_,fun i o hi ho hr=> ?_,fun i j oi oj a b x hi hj=> ?_⟩,LI _,fun _ _=>rfl,fun _ _ _=>rfl,h.size,fun b hb _=>h.block b hb,fun _ h=>by simp at h,fun i im o h1 h2=>absurd h1 (by omega),fun i im o h1=>h1.elim (fun h1=>absurd h1.1 (by omega)) (fun h=>by simp at h),h.os,h.tape,h.output⟩
 ·have hi:=hi.elim id fun h=>absurd h.1 (by omega)
  obtain⟨im,QK,hr⟩:=QE.rel i o hi ho hl;exact⟨im,QK,hr.keep (Ext.refl _) (h.block _ (QE.low i o im hi ho hl QK).1)⟩
 ·have hi:=hi.elim id fun h=>absurd h.1 (by omega)
  have:=QE.low i o im hi ho hl QK;exact⟨Nat.lt_of_lt_of_le this.1 h.size,this.2⟩
 ·exact QE.inj i j oi oj a b (hi.elim id fun h=>absurd h.1 (by omega)) (hj.elim id fun h=>absurd h.1 (by omega))
 ·have hi:=hi.elim id fun h=>absurd h.1 (by omega)
  obtain⟨im,QK,hf⟩:=QE.P1 i o hi ho hr;exact⟨im,QK,fun b x hx=>by rw[h.block b (PI QE hi ho hr QK hx)];exact hf b x hx⟩
 ·exact QE.sep i j oi oj a b x (hi.elim id fun h=>absurd h.1 (by omega)) (hj.elim id fun h=>absurd h.1 (by omega))
def sL(P:Program)(F:FuncId->Bool)(ev:Operand->Option Value)(o:Oper)(H:Qt)(n:Nat):Option CR:=
 match o.op with
 | .move x| .assign x=>mkPure (ev x) H n
 | .pick c a b=>match ev c with
   |some (.bool t)=>mkPure (ev (bif t then a else b)) H n
   |_=>none
 | .alloc t=>match zeroOf P t with
   |some z=>bif af z then some ⟨.val (zW n),(n,.cells z.cells t (0,0))::H,n+1,[],[]⟩else none
   |none=>none
 | .box t x=>match ev x with
   |some v=>some ⟨.val (zW n),(n,.cells v.cells t (0,0))::H,n+1,[],[]⟩
   |none=>none
 | .build t ps=>match partsOf ev ps.toList with
   |some l=>mkPure (s5 P t l) H n
   |none=>none
 | .buildSlice t len ps=>match partsOf ev ps.toList with
   |some l=>match Sb P t len l with
    |some (e,cs,s)=>some ⟨.val (.slice (some ⟨n,0,none⟩) len s),(n,.cells cs e (0,0))::H,n+1,[],[]⟩
    |none=>bif jT P t len l then some ⟨.val bc,H,n,[],[]⟩else none
   |none=>none
 | .load t a=>match ev a with
   |some p=>match Th P t H p with
    |some (v,b)=>some ⟨.val v,H,n,[b],[]⟩
    |none=>none
   |none=>none
 | .store t a x=>match ev a,ev x with
   |some p,some v=>match Su P t H v p with
    |some (H',b)=>some ⟨.val undef,H',n,[b],[b]⟩
    |none=>none
   |_,_=>none
 | .fieldAddr s x f=>match ev x with
   |some p=>mkPure (Wd P s f p) H n
   |none=>none
 | .field t x f=>match ev x with
   |some p=>mkPure (gY P t f p) H n
   |none=>none
 | .indexAddr t x i=>match ev x,ev i with
   |some v,some k=>mkPure (Jd P t v k) H n
   |_,_=>none
 | .index t x i=>match ev x,ev i with
   |some (.agg cs),some k=>mkPure (sx P t (.agg cs) k) H n
   |_,_=>mkPure (UN P ev o) H n
 | .extract x i=>match ev x with
   |some v=>mkPure (Ti i v) H n
   |none=>none
 | .makeSlice t l c=>match ev l,ev c with
   |some x,some y=>match Tg P t x y with
    |some (e,cs,l,s)=>some ⟨.val (.slice (some ⟨n,0,none⟩) l s),(n,.cells cs e (0,0))::H,n+1,[],[]⟩
    |none=>none
   |_,_=>none
 | .slice t x lo hi none=>match ev x,Hy ev lo,Hy ev hi with
   |some (.slice (some a) m s),some l,some h=>mkPure (gW P t (.slice (some a) m s) l h) H n
   |some (.pointer p),some l,some h=>mkPure (gW P t (.pointer p) l h) H n
   |_,_,_=>mkPure (UN P ev o) H n
 | .slice t x lo (some hi) (some mx)=>bif ck P t (ev x) (Hy ev lo) (ev hi) (ev mx)then some ⟨.val bc,H,n,[],[]⟩else mkPure (UN P ev o) H n
 | .makeFunc (.func f) first captured=>match Rt ev first.toList,Rt ev captured.toList with
   |some xs,some ys=>some ⟨.val (.func (.func f) xs.toArray ys.toArray),H,n,[],[]⟩
   |_,_=>none
 | .makeMap _ none=>some ⟨.val (.map (some n)),(n,.map #[] 0)::H,n+1,[],[]⟩
 | .lookup t x k ok=>match ev x,ev k with
   |some m,some kv=>match fY P t H ok m kv with
    |some (v,R)=>some ⟨.val v,H,n,R,[]⟩
    |none=>none
   |_,_=>none
 | .mapUpdate t m k x=>match ev m,ev k,ev x with
   |some mv,some kv,some v=>match Jc P t H mv kv v with
    |some (H',b)=>some ⟨.val undef,H',n,[b],[b]⟩
    |none=>none
   |_,_,_=>none
 | .binOp op _ x y _=>match ev x,ev y with
   |some a,some b=>match AN op a b with
    |some v=>some ⟨.val v,H,n,[],[]⟩
    |none=>mkPure (UN P ev o) H n
   |_,_=>none
 | .nilCheck x=>match ev x with
   |some (.pointer (some a))=>some ⟨.val (.pointer (some a)),H,n,[],[]⟩
   |some (.func (.func f) xs ys)=>some ⟨.val (.func (.func f) xs ys),H,n,[],[]⟩
   |some (.func (.yield f) xs ys)=>some ⟨.val (.func (.yield f) xs ys),H,n,[],[]⟩
   |_=>none
 | .call c=>match c.callee with
   | .builtin .append=>match c.args.toList,c.argTypes.toList with
     |[s,x],[t,t']=>match ev s,ev x with
      |some sv,some xv=>xY P t t' H n sv xv
      |_,_=>none
     |_,_=>none
   | .builtin .len=>match c.args.toList,c.argTypes.toList with
     |[x],[t]=>match ev x,R5 P t with
      |some (.slice (some _) m _),some (.slice _)=>some ⟨.val (.int .i64 m),H,n,[],[]⟩
      |some (.chan (some 0)),some (.slice _)=>some ⟨.val (.int .i64 0),H,n,[],[]⟩
      |_,_=>mkPure (UN P ev o) H n
     |_,_=>none
   | .builtin .copy=>match c.args.toList,c.argTypes.toList with
     |[s,x],[t,_]=>match ev s,ev x with
      |some sv,some xv=>xW P t H n sv xv
      |_,_=>none
     |_,_=>none
   | .builtin _=>mkPure (UN P ev o) H n
   | .value f=>match ev f,Rt ev c.args.toList with
     |some fv,some args=>match Sa F H fv args.toArray with
      |some (nx,R)=>some ⟨nx,H,n,R,[]⟩
      |none=>none
     |_,_=>none
   |_=>none
 |_=>mkPure (UN P ev o) H n

theorem Wj{P:Program}{B:Nat}{o:Oper}{ev:Operand->Option Value}{H:Qt}{n:Nat}{v:Value}(h:∀(μ:Mu) (ρ:Operand->Value) (w:World),(∀x∈o.op.operands,∀v,ev x=some v->VR μ v (ρ x))->∃v',(execOp ρ o).run P w=.ok (.value v') w/\VR μ v v'):
 Nc P B o ev H n ⟨.val v,H,n,[],[]⟩:=fun _ μ ρ w QE _ _ _ XP _=>
 let⟨_,h1,h2⟩:=h μ ρ w XP
 ⟨_,w,μ,h1,Post.refl QE,.val h2⟩
theorem Z3{o:Option Value}{H:Qt}{n:Nat}{r:CR}(h:mkPure o H n=some r):∃v,o=some v/\r=⟨.val v,H,n,[],[]⟩:=by
 cases o with
 |none=>cases h
 |some v=>simp only[mkPure,YO]at h;exact⟨v,rfl,h.symm⟩
theorem fU{μ:Mu}{ev:Operand->Option Value}{ρ:Operand->Value}{x:Option Operand}{v:Option Value}(h:Hy ev x=some v)(hv:∀y,x=some y->∀v,ev y=some v->VR μ v (ρ y)):Om μ v (x.map ρ):=by
 cases x with
 |none=>simp only[Hy,YO]at h;subst h;trivial
 |some y=>
  simp only[Hy]at h;cases he:ev y with
  |none=>rw[he]at h;cases h
  |some u=>
   rw[he]at h;simp only[YO]at h;subst h;exact hv y rfl u he
theorem ZN{α:Type}{q:Bool}{x r:α}(h:(bif q then some x else none)=some r):x=r:=by
 cases q with
 |false=>cases h
 |true=>simpa using h
theorem Je{α:Type}{q:Bool}{x:Option α}{r:α}(h:(bif q then x else none)=some r):x=some r:=by
 cases q with
 |false=>cases h
 |true=>simpa using h
theorem MA{P:Program}{t t':TypeId}{H:Qt}{n:Nat}{s x:Value}{r:CR}(h:qt P t t' H n s x=some r):r.n=n+1:=by
 unfold qt at h;split at h
 ·split at h
  ·split at h
   ·rw[<-ZN h]
   ·cases h
  ·cases h
 ·cases h
theorem Ed{P:Program}{t:TypeId}{H:Qt}{n:Nat}{s x:Value}{r:CR}(h:VZ P t H n s x=some r):r.n=n+1:=by
 unfold VZ at h;split at h
 ·split at h
  ·split at h
   ·split at h
    ·rename_i cs k ko ns m b _ _;rw[<-ZN h]
    ·cases h
   ·cases h
  ·cases h
 ·cases h
theorem M6{P:Program}{F:FuncId->Bool}(hF:∀g,F g=true->Q6 P g=true){B:Nat}{o:Oper}{ev:Operand->Option Value}{H:Qt}{n:Nat}{r:CR}(h:sL P F ev o H n=some r):Nc P B o ev H n r:=by
 have XX:mkPure (UN P ev o) H n=some r->Nc P B o ev H n r:=by
  intro h;obtain⟨v,h1,rfl⟩:=Z3 h;exact DZ h1
 unfold sL at h;split at h
 ·-- move
  rename_i x ho;obtain⟨v,h1,rfl⟩:=Z3 h;exact Wj fun μ ρ w XP=>⟨ρ x,by simp[execOp,ho],XP x (by simp[ho,Op.operands]) v h1⟩
 ·rename_i x ho;obtain⟨v,h1,rfl⟩:=Z3 h;exact Wj fun μ ρ w XP=>⟨ρ x,by simp[execOp,ho],XP x (by simp[ho,Op.operands]) v h1⟩
 ·-- pick
  rename_i c a b ho;split at h
  ·rename_i t hc;obtain⟨v,h1,rfl⟩:=Z3 h;refine Wj fun μ ρ w XP=> ?_
   have hct:=XP c (by simp[ho,Op.operands]) _ hc;have hct:ρ c=.bool t:=by generalize ρ c=u at hct;cases hct;rfl
   cases t with
   |true=>exact⟨ρ a,by simp[execOp,ho,hct,asBool],XP a (by simp[ho,Op.operands]) v h1⟩
   |false=>exact⟨ρ b,by simp[execOp,ho,hct,asBool],XP b (by simp[ho,Op.operands]) v h1⟩
  ·cases h
 ·-- alloc
  rename_i t ho;split at h
  ·rename_i z hz;cases ha:af z with
   |false=>rw[ha]at h;cases h
   |true=>
    rw[ha]at h;simp only[cond_true,YO]at h;subst h;exact AP ho hz ha
  ·cases h
 ·-- box
  rename_i t x ho;split at h
  ·rename_i v hv;simp only[YO]at h;subst h;exact HM ho hv
  ·cases h
 ·-- build
  rename_i t ps ho;split at h
  ·rename_i l hl;obtain⟨v,h1,rfl⟩:=Z3 h;refine Wj fun μ ρ w XP=> ?_
   obtain⟨q1,q2⟩:=TH (μ:=μ) (ρ:=ρ) ps.toList l hl (fun p hp v hv=>XP p.2 (by simp only[ho,Op.operands,List.mem_toArray];exact List.mem_map.2 ⟨p,hp,rfl⟩) v hv);obtain⟨v',hr,VY⟩:=AM (ps':=ps.map fun(i,x)=>(i,ρ x)) h1 (by simpa using q1) (by simpa using q2) w;exact⟨v',by simp[execOp,ho,hr],VY⟩
  ·cases h
 ·-- buildSlice
  rename_i t len ps ho;split at h
  ·rename_i l hl;split at h
   ·rename_i e cs s hb;simp only[YO]at h;subst h;intro S μ ρ w QE hB hS hf XP hR;obtain⟨q1,q2⟩:=TH (μ:=μ) (ρ:=ρ) ps.toList l hl (fun p hp v hv=>XP p.2 (by simp only[ho,Op.operands,List.mem_toArray];exact List.mem_map.2 ⟨p,hp,rfl⟩) v hv);obtain⟨v',w',μ',hr,hp,VY⟩:=j5 (ps':=ps.map fun(i,x)=>(i,ρ x)) hb QE hB hS (hf n (LI _) (by simp)) (by simpa using q1) (by simpa using q2);exact⟨_,w',μ',by simp[execOp,ho,hr],hp,.val VY⟩
   ·cases he:jT P t len l with
    |false=>rw[he]at h;cases h
    |true=>
     rw[he]at h;simp only[cond_true,YO]at h;subst h;intro S μ ρ w QE hB hS hf XP hR;obtain⟨q1,_⟩:=TH (μ:=μ) (ρ:=ρ) ps.toList l hl (fun p hp v hv=>XP p.2 (by simp only[ho,Op.operands,List.mem_toArray];exact List.mem_map.2 ⟨p,hp,rfl⟩) v hv);unfold jT at he;simp only[YB,List.isEmpty_iff]at he;obtain⟨⟨e1,rfl⟩,e3⟩:=he;have e1:=YE e1;subst e1;have eps:ps=#[]:=by
      have:ps.toList=[]:=List.eq_nil_of_length_eq_zero (by simpa using q1.symm);exact Array.ext' (by simpa using this)
     subst eps;split at e3
     ·rename_i e hu;rw[Zx]at hu;cases hz:Wz P e with
      |none=>rw[hz]at e3;cases e3
      |some z=>
       have hr:(Instr.buildSlice t 0 ((#[]:Array (Nat×Operand)).map fun(i,x)=>(i,ρ x))).run P w=.ok (.slice (some ⟨w.heap.size,0,none⟩) 0 0) (w.alloc (.cells #[] e)):=by
        simp[Instr.buildSlice,run_underlying hu,Zp hz,Instr.fill,newRow,Sem.run_bind,Sem.run_pure];congr 2;exact LO (by simp)
       exact⟨.value (.slice (some ⟨w.heap.size,0,none⟩) 0 0),w.alloc (.cells #[] e),μ,by simp[execOp,ho];simp at hr;simp[hr],Post.ofBelow QE ((Below.refl _ _).alloc (LI _) _),.val .noCap⟩
     ·cases e3
  ·cases h
 ·-- load
  rename_i t a ho;split at h
  ·rename_i p hp;split at h
   ·rename_i v b hb;simp only[YO]at h;subst h;intro S μ ρ w QE hB hS hf XP hR;obtain⟨v',hr,VY⟩:=qo hb QE (XP a (by simp[ho,Op.operands]) p hp) (hR b (by simp));exact⟨_,w,μ,by simp[execOp,ho,hr],Post.refl QE,.val VY⟩
   ·cases h
  ·cases h
 ·-- store
  rename_i t a x ho;split at h
  ·rename_i p v hp hv;split at h
   ·rename_i H' b hb;simp only[YO]at h;subst h;intro S μ ρ w QE hB hS hf XP hR;obtain⟨w',hr,Zv⟩:=AF hb QE hS (XP a (by simp[ho,Op.operands]) p hp) (XP x (by simp[ho,Op.operands]) v hv) (hR b (by simp));exact⟨_,w',μ,by simp[execOp,ho,hr],Zv,.skip⟩
   ·cases h
  ·cases h
 ·-- fieldAddr
  rename_i s x f ho;split at h
  ·rename_i p hp;obtain⟨v,h1,rfl⟩:=Z3 h;refine Wj fun μ ρ w XP=> ?_
   obtain⟨v',hr,VY⟩:=o3 h1 (XP x (by simp[ho,Op.operands]) p hp) w;exact⟨v',by simp[execOp,ho,hr],VY⟩
  ·cases h
 ·-- field
  rename_i t x f ho;split at h
  ·rename_i p hp;obtain⟨v,h1,rfl⟩:=Z3 h;refine Wj fun μ ρ w XP=> ?_
   obtain⟨v',hr,VY⟩:=AK h1 (XP x (by simp[ho,Op.operands]) p hp) w;exact⟨v',by simp[execOp,ho,hr],VY⟩
  ·cases h
 ·-- indexAddr
  rename_i t x i ho;split at h
  ·rename_i u k hu hk;obtain⟨v,h1,rfl⟩:=Z3 h;refine Wj fun μ ρ w XP=> ?_
   obtain⟨v',hr,VY⟩:=oz h1 (XP x (by simp[ho,Op.operands]) u hu) (XP i (by simp[ho,Op.operands]) k hk) w;exact⟨v',by simp[execOp,ho,hr],VY⟩
  ·cases h
 ·-- index
  rename_i t x i ho;split at h
  ·rename_i cs k hu hk;obtain⟨v,h1,rfl⟩:=Z3 h;refine Wj fun μ ρ w XP=> ?_
   obtain⟨v',hr,VY⟩:=AJ h1 (XP x (by simp[ho,Op.operands]) _ hu) (XP i (by simp[ho,Op.operands]) k hk) w;exact⟨v',by simp[execOp,ho,hr],VY⟩
  ·exact XX h
 ·-- extract
  rename_i x i ho;split at h
  ·rename_i u hu;obtain⟨v,h1,rfl⟩:=Z3 h;refine Wj fun μ ρ w XP=> ?_
   obtain⟨v',hr,VY⟩:=sy (P:=P) h1 (XP x (by simp[ho,Op.operands]) u hu) w;exact⟨v',by simp[execOp,ho,hr],VY⟩
  ·cases h
 ·-- makeSlice
  rename_i t l c ho;split at h
  ·rename_i x y hx hy;split at h
   ·rename_i e cs l0 s hm;simp only[YO]at h;subst h;intro S μ ρ w QE hB hS hf XP hR;obtain⟨v',w',μ',hr,hp,VY⟩:=Ea hm QE hB hS (hf n (LI _) (by simp)) (XP l (by simp[ho,Op.operands]) x hx) (XP c (by simp[ho,Op.operands]) y hy);exact⟨_,w',μ',by simp[execOp,ho,hr],hp,.val VY⟩
   ·cases h
  ·cases h
 ·-- slice
  rename_i t x lo hi ho;have hlo:∀y,lo=some y->y∈o.op.operands:=fun y e=>by simp[ho,Op.operands,e]
  have hhi:∀y,hi=some y->y∈o.op.operands:=fun y e=>by simp[ho,Op.operands,e]
  split at h
  ·rename_i a m s l hh hu hl hhh;obtain⟨v,h1,rfl⟩:=Z3 h;refine Wj fun μ ρ w XP=> ?_
   obtain⟨v',hr,VY⟩:=ov h1 (XP x (by simp[ho,Op.operands]) _ hu) (fU hl fun y e=>XP y (hlo y e)) (fU hhh fun y e=>XP y (hhi y e)) w;exact⟨v',by simp[execOp,ho,hr],VY⟩
  ·rename_i p l hh hu hl hhh;obtain⟨v,h1,rfl⟩:=Z3 h;refine Wj fun μ ρ w XP=> ?_
   obtain⟨v',hr,VY⟩:=ov h1 (XP x (by simp[ho,Op.operands]) _ hu) (fU hl fun y e=>XP y (hlo y e)) (fU hhh fun y e=>XP y (hhi y e)) w;exact⟨v',by simp[execOp,ho,hr],VY⟩
  ·exact XX h
 ·-- slice with a bound
  rename_i t x lo hi mx ho;have hlo:∀y,lo=some y->y∈o.op.operands:=fun y e=>by simp[ho,Op.operands,e]
  cases hc:ck P t (ev x) (Hy ev lo) (ev hi) (ev mx)with
  |false=>rw[hc]at h;exact XX h
  |true=>
   rw[hc]at h;simp only[cond_true,YO]at h;subst h;obtain⟨xv,l,hv,mv,e1,e2,e3,e4,VU⟩:=iT (μ:=fun _=>none) hc;clear VU;refine Wj fun μ ρ w XP=> ?_
   obtain⟨xv',l',ZQ,mv',e1',e2',e3',e4',VU⟩:=iT (μ:=μ) hc;obtain⟨v',hr,VY⟩:=VU (XP x (by simp[ho,Op.operands]) _ e1') (fU e2' fun y e=>XP y (hlo y e)) (XP hi (by simp[ho,Op.operands]) _ e3') (XP mx (by simp[ho,Op.operands]) _ e4') w;exact⟨v',by simp[execOp,ho,hr],VY⟩
 ·-- makeFunc
  rename_i f first captured ho
  split at h
  ·rename_i xs ys hx hy;simp only[YO]at h;subst h;refine Wj fun μ ρ w XP=> ?_
   have hops:o.op.operands=first++captured:=by rw[ho];rfl
   rw[hops]at XP;have q1:=cl (μ:=μ) (ρ:=ρ) _ _ hx (fun x hx v hv=>XP x (Array.mem_append.2 (.inl (Array.mem_toList_iff.1 hx))) v hv);have q2:=cl (μ:=μ) (ρ:=ρ) _ _ hy (fun x hx v hv=>XP x (Array.mem_append.2 (.inr (Array.mem_toList_iff.1 hx))) v hv);refine⟨.func (.func f) (first.map ρ) (captured.map ρ),by simp[execOp,ho,Instr.makeFunc], ?_⟩;have e1:(first.toList.map ρ).toArray=first.map ρ:=by apply Array.ext';simp
   have e2:(captured.toList.map ρ).toArray=captured.map ρ:=by apply Array.ext';simp
   rw[e1]at q1;rw[e2]at q2;exact .func q1.1 q2.1 q1.2 q2.2
  ·cases h
 ·-- makeMap
  rename_i t ho;simp only[YO]at h;subst h;intro S μ ρ w QE hB hS hf XP hR;have hfn:=hf n (LI _) (by simp);refine⟨_,_,_, ?_,Post.alloc QE hB hS hfn (.map #[] 0) (.map #[] 0) 0 ⟨rfl,#[],heap_alloc _ _,rfl,fun i e e' he _=>by simp at he⟩,.val (.map (im:=⟨w.heap.size,0,0,true,aj⟩) X3)⟩;simp only[execOp,ho,Instr.makeMap,Option.map_none,Sem.run_bind,Result.andThen_ok,run_newObj,Sem.run_pure];rfl
 ·-- lookup
  rename_i t x k ok ho;split at h
  ·rename_i m kv hm hk;split at h
   ·rename_i v R hl;simp only[YO]at h;subst h;intro S μ ρ w QE hB hS hf XP hR;obtain⟨v',hr,VY⟩:=xV hl QE (XP x (by simp[ho,Op.operands]) m hm) (XP k (by simp[ho,Op.operands]) kv hk) hR;exact⟨_,w,μ,by simp[execOp,ho,hr],Post.refl QE,.val VY⟩
   ·cases h
  ·cases h
 ·-- mapUpdate
  rename_i t m k x ho;split at h
  ·rename_i mv kv v hm hk hv;split at h
   ·rename_i H' b hl;simp only[YO]at h;subst h;intro S μ ρ w QE hB hS hf XP hR;obtain⟨w',hr,Zv⟩:=oy hl QE hS (XP m (by simp[ho,Op.operands]) mv hm) (XP k (by simp[ho,Op.operands]) kv hk) (XP x (by simp[ho,Op.operands]) v hv) (hR b (by simp));exact⟨_,w',μ,by simp[execOp,ho,hr],Zv,.skip⟩
   ·cases h
  ·cases h
 ·-- binOp
  rename_i op t x y yt ho;split at h
  ·rename_i a b ha hb;split at h
   ·rename_i v hv;simp only[YO]at h;subst h;refine Wj fun μ ρ w XP=> ?_
    obtain⟨h1,h2,h3,h4⟩:=HN (P:=P) (t:=t) (x:=x) (y:=y) hv w;have e1:=h3 μ _ (XP x (by simp[ho,Op.operands]) a ha);have e2:=h4 μ _ (XP y (by simp[ho,Op.operands]) b hb);refine⟨v, ?_,h2 μ⟩;simp only[execOp,ho,e1,e2];rw[Sem.run_bind,h1];rfl
   ·exact XX h
  ·cases h
 ·-- nilCheck
  rename_i x ho;split at h
  ·rename_i a hx;simp only[YO]at h;subst h;refine Wj fun μ ρ w XP=> ?_
   have hv:=XP x (by simp[ho,Op.operands]) _ hx;refine⟨ρ x, ?_,hv⟩;generalize hg:ρ x=u at hv;cases hv <;> simp[execOp,ho,hg]
  ·rename_i f xs ys hx;simp only[YO]at h;subst h;refine Wj fun μ ρ w XP=> ?_
   have hv:=XP x (by simp[ho,Op.operands]) _ hx;refine⟨ρ x, ?_,hv⟩;generalize hg:ρ x=u at hv;cases hv;simp[execOp,ho,hg]
  ·rename_i f xs ys hx;simp only[YO]at h;subst h;refine Wj fun μ ρ w XP=> ?_
   have hv:=XP x (by simp[ho,Op.operands]) _ hx;refine⟨ρ x, ?_,hv⟩;generalize hg:ρ x=u at hv;cases hv;simp[execOp,ho,hg]
  ·cases h
 ·-- call
  rename_i c ho;split at h
  ·-- append
   rename_i hc;split at h
   ·rename_i s x t t' ha ht;split at h
    ·rename_i sv xv hs hx;intro S μ ρ w QE hB hS hf XP hR;have ea:c.args=#[s,x]:=by rw[<-ha]
     have et:c.argTypes=#[t,t']:=by rw[<-ht]
     have hvs:=XP s (by simp[ho,Op.operands,Call.operands,hc,ea]) sv hs;have hvx:=XP x (by simp[ho,Op.operands,Call.operands,hc,ea]) xv hx;unfold xY at h;cases htt:Lf t t' with
     |false=>
      rw[htt]at h;simp only[cond_false]at h;have JV:r.n=n+1:=MA h;obtain⟨v,v',w',μ',hr,hp,hnx,VY,_⟩:=Ee (ty:=o.type) h QE hB hS (hf n (LI _) (by omega)) hvs hvx;refine⟨.value v',w',μ', ?_,hp,by rw[hnx];exact .val VY⟩;simp[execOp,ho,resolve,hc,invoke,builtin,ea,et,hr]
     |true=>
      rw[htt]at h;simp only[cond_true]at h;have htt:=YE htt;subst htt;cases hca:VZ P t H n (bare sv) xv with
      |some r0=>
       rw[hca]at h;simp only[YO]at h;subst h;have JV:r0.n=n+1:=Ed hca;obtain⟨v,v',w',μ',hr,hp,hnx,VY,_⟩:=s6 (ty:=o.type) hca QE hB hS (hf n (LI _) (by omega)) hvs hvx hR;refine⟨.value v',w',μ', ?_,hp,by rw[hnx];exact .val VY⟩;simp[execOp,ho,resolve,hc,invoke,builtin,ea,et,hr]
      |none=>
       rw[hca]at h;simp only at h;obtain⟨hr,rfl⟩:=Ef (ty:=o.type) (w:=w) h hvs hvx;refine⟨.value (ρ s),w,μ, ?_,Post.refl QE,.val hvs⟩;simp[execOp,ho,resolve,hc,invoke,builtin,ea,et,hr]
    ·cases h
   ·cases h
  ·-- len
   rename_i hc;split at h
   ·rename_i x t ha ht;split at h
    ·rename_i a m s e hx hu;rw[Zx]at hu;simp only[YO]at h;subst h;refine Wj fun μ ρ w XP=> ?_
     have ea:c.args=#[x]:=by rw[<-ha]
     have et:c.argTypes=#[t]:=by rw[<-ht]
     have hv:=XP x (by simp[ho,Op.operands,Call.operands,hc,ea]) _ hx;refine⟨.int .i64 m, ?_,.int _ _⟩;generalize hg:ρ x=u at hv;cases hv <;> simp[execOp,ho,resolve,hc,invoke,builtin,ea,et,hg,Builtin.len_,run_underlying hu,goInt]
    ·rename_i e hx hu;rw[Zx]at hu;simp only[YO]at h;subst h;refine Wj fun μ ρ w XP=> ?_
     have ea:c.args=#[x]:=by rw[<-ha]
     have et:c.argTypes=#[t]:=by rw[<-ht]
     have hv:=XP x (by simp[ho,Op.operands,Call.operands,hc,ea]) _ hx;refine⟨.int .i64 0, ?_,.int _ _⟩;generalize hg:ρ x=u at hv;cases hv <;> simp[execOp,ho,resolve,hc,invoke,builtin,ea,et,hg,Builtin.len_,run_underlying hu,goInt]
    ·exact XX h
   ·cases h
  ·-- copy
   rename_i hc;split at h
   ·rename_i s x t t2 ha ht;split at h
    ·rename_i sv xv hs hx;intro S μ ρ w QE hB hS hf XP hR;have ea:c.args=#[s,x]:=by rw[<-ha]
     have et:c.argTypes=#[t,t2]:=by rw[<-ht]
     obtain⟨v,w',hr,hp,hnx,VY,_⟩:=Ec (ty:=o.type) (t2:=t2) h QE hS (XP s (by simp[ho,Op.operands,Call.operands,hc,ea]) sv hs) (XP x (by simp[ho,Op.operands,Call.operands,hc,ea]) xv hx) hR;refine⟨.value v,w',μ, ?_,hp,by rw[hnx];exact .val VY⟩;simp[execOp,ho,resolve,hc,invoke,builtin,ea,et,hr]
    ·cases h
   ·cases h
  ·exact XX h
  ·-- value
   rename_i f hc;split at h
   ·rename_i fv args hfv hargs;split at h
    ·rename_i nx R hcc;simp only[YO]at h;subst h;intro S μ ρ w QE hB hS hf XP hR;have hops:o.op.operands=#[f]++c.args:=by rw[ho];simp only[Op.operands,Call.operands,hc]
     rw[hops]at XP;have q:=cl (μ:=μ) (ρ:=ρ) _ _ hargs (fun x hx v hv=>XP x (Array.mem_append.2 (.inr (Array.mem_toList_iff.1 hx))) v hv);have e1:(c.args.toList.map ρ).toArray=c.args.map ρ:=by apply Array.ext';simp
     rw[e1]at q;obtain⟨nx',hr,hnr⟩:=qp (P:=P) hF hcc QE (XP f (Array.mem_append.2 (.inl (by simp))) fv hfv) q hR;refine⟨nx',w,μ, ?_,Post.refl QE,hnr⟩;simp only[execOp,ho,resolve,hc];simpa using hr
    ·cases h
   ·cases h
  ·cases h
 ·exact XX h
end Go.CE

namespace Go.CE
open Go Go.RowKit

structure PG (B:Nat) (S New W:Nat->Prop) (μ μ':Mu) (G G':Nat->Option Obj) (w w':World):Prop where
 ok:Ok B (fun i=>S i\/New i) μ' G' w'
 ext:∀i,¬New i->μ' i=μ i
 keep:∀i,¬New i->¬W i->G' i=G i
 grow:w.heap.size<=w'.heap.size
 frame:∀b,b<w.heap.size->(∀i,W i->∀im,μ i=some im->im.Zt≠b)->w'.heap[b]? =w.heap[b]?
 wr:∀i,W i->S i/\(∃o,G i=some o/\live o)/\∃im,μ i=some im/\im.rw=true
 fresh:∀i im o,New i->G' i=some o->live o->μ' i=some im->im.rw=true/\
  (w.heap.size<=im.Zt\/∃k,W k/\(∃Z9,μ k=some Z9/\Z9.Zt=im.Zt)/\∀o,G' k=some o->¬live o)
 rf:∀i im o,(New i\/W i)->G' i=some o->Wa o->μ' i=some im->∀b x,im.fm b=some x->
  w.heap.size<=b\/(∃k UT ko,S k/\G k=some ko/\Wa ko/\μ k=some UT/\UT.fm b=some x)\/∃k,W k/\(∃Z9,μ k=some Z9/\Z9.Zt=b)/\∀o,G' k=some o->¬live o
 os:w'.os=w.os
 tape:w'.tape=w.tape
 output:w'.output=w.output
theorem PG.refl{B:Nat}{S:Nat->Prop}{μ:Mu}{G:Nat->Option Obj}{w:World}(h:Ok B S μ G w):PG B S (fun _=>False) (fun _=>False) μ μ G G w w:=
 ⟨h.sub fun _ hi=>hi.elim id False.elim,fun _ _=>rfl,fun _ _ _=>rfl,LI _,fun _ _ _=>rfl,fun _ h=>h.elim,fun _ _ _ h=>h.elim,fun _ _ _ h=>h.elim False.elim False.elim,rfl,rfl,rfl⟩
theorem Post.pg{B:Nat}{S:Nat->Prop}{n n':Nat}{W:List Nat}{μ μ':Mu}{H H':Qt}{w w':World}(h:Post B S n n' W μ μ' H H' w w')(hn:∀i,n'<=i->Qw H' i=Qw H i):
 PG B S (fun i=>n<=i/\i<n') (fun i=>i∈W/\i<n) μ μ' (Qw H) (Qw H') w w':=by
 have hle:=h.le;refine⟨h.ok,h.ext,fun i hi hw=> ?_,h.grow,fun b hb hw=>h.frame b hb fun i a c=>hw i ⟨a,c⟩,fun i hi=>h.wr i hi.1 hi.2,fun i im o hi ho hl hm=> ?_,fun i im o hi ho hr hm b x hb=> ?_,h.os,h.tape,h.output⟩
 ·rcases LK i n with Xp|hge
  ·exact h.keep i Xp fun e=>hw ⟨e,Xp⟩
  ·exact hn i (by omega)
 ·obtain⟨hr,hf⟩:=h.fresh i im o hi.1 hi.2 ho hl hm;refine⟨hr,hf.imp id ?_⟩;rintro⟨k,a,b,c,d⟩;exact⟨k,⟨a,b⟩,c,d⟩
 ·rcases h.rf i im o hi ho hr hm b x hb with e|⟨k,UT,ko,a,c,d⟩|⟨k,a,c,d⟩
  ·exact .inl e
  ·exact .inr (.inl ⟨k,UT,ko,a,d⟩)
  ·exact .inr (.inr ⟨k,⟨a,c⟩,d⟩)
theorem PG.post{B:Nat}{S New:Nat->Prop}{n n':Nat}{W:List Nat}{μ μ':Mu}{H H':Qt}{w w':World}(h:PG B S New (fun i=>i∈W/\i<n) μ μ' (Qw H) (Qw H') w w')(hN:∀i,New i<->n<=i/\i<n')(hle:n<=n')(hS:∀i,S i->i<n):Post B S n n' W μ μ' H H' w w':=by
 refine⟨h.ok.sub fun i hi=>hi.imp id (hN i).2,hle,fun i hi=>h.ext i fun e=>hi ((hN i).1 e),fun i hi hw=>h.keep i (fun e=>by have:=((hN i).1 e).1;omega) (fun e=>hw e.1),h.grow,
  fun b hb hw=>h.frame b hb fun i hi=>hw i hi.1 hi.2,fun i hi Xp=>h.wr i ⟨hi,Xp⟩,fun i im o h1 h2 ho hl hm=> ?_,fun i im o hi ho hr hm b x hb=> ?_,h.os,h.tape,h.output⟩
 ·obtain⟨hr,hf⟩:=h.fresh i im o ((hN i).2 ⟨h1,h2⟩) ho hl hm;refine⟨hr,hf.imp id ?_⟩;rintro⟨k,⟨a,b⟩,c,d⟩;exact⟨k,a,b,c,d⟩
 ·rcases h.rf i im o (hi.imp (hN i).2 id) ho hr hm b x hb with e|⟨k,UT,ko,a,c⟩|⟨k,⟨a,c⟩,d⟩
  ·exact .inl e
  ·exact .inr (.inl ⟨k,UT,ko,a,hS k a,c⟩)
  ·exact .inr (.inr ⟨k,a,c,d⟩)
theorem PG.then{B:Nat}{S S2 Ru UO W1 W2:Nat->Prop}{μ μ1 μ2:Mu}{G G1 Gc G2' G2:Nat->Option Obj}{w w1 w2:World}(h1:PG B S Ru W1 μ μ1 G G1 w w1)(h2:PG B S2 UO W2 μ1 μ2 Gc G2' w1 w2)
 (hsub:∀i,S2 i->S i\/Ru i) (hGc:∀i,S2 i->Gc i=G1 i) (hnew:∀i,UO i->¬S i/\¬Ru i) (UK:∀i,UO i->μ1 i=none)
 (ha:∀i,W2 i\/UO i->G2 i=G2' i) (hb:∀i,¬W2 i->¬UO i->G2 i=G1 i):
 PG B S (fun i=>Ru i\/UO i) (fun i=>W1 i\/(W2 i/\¬Ru i)) μ μ2 G G2 w w2:=by
 have hW2S:∀i,W2 i->S2 i/\(∃o,G1 i=some o/\live o)/\∃im,μ1 i=some im/\im.rw=true:=by
  intro i hi;obtain⟨a,⟨o,ho,hl⟩,c⟩:=h2.wr i hi;exact⟨a,⟨o,by rw[<-hGc i a];exact ho,hl⟩,c⟩
 have hW2N:∀i,W2 i->¬UO i:=by
  intro i hi hn;rcases hsub i (hW2S i hi).1 with h|h
  ·exact(hnew i hn).1 h
  ·exact(hnew i hn).2 h
 have ext12:Ext μ1 μ2:=by
  intro k im hk;rw[h2.ext k fun hn=>by rw[UK k hn]at hk;cases hk];exact hk
 have mu2:∀i,¬UO i->μ2 i=μ1 i:=h2.ext
 -- blocks Sy the second piece leaves
 have other:∀i o im,(S i\/Ru i)->¬W2 i->G1 i=some o->live o->μ1 i=some im->(∀k,W2 k->∀Z9,μ1 k=some Z9->Z9.Zt≠im.Zt):=by
  intro i o im hi hw ho hl QK k hk Z9 QS;obtain⟨hkS,⟨ok,QE,hlk⟩,im'',WK,hr⟩:=hW2S k hk;rw[QS]at WK;cases WK;by_cases hra:im.rw=true
  ·exact h1.ok.inj k i ok o Z9 im (hsub k hkS) hi (fun e=>hw (e ▸ hk)) QE ho hlk hl QS QK hr hra
  ·have a:=(h1.ok.low i o im hi ho hl QK).2.2 (by simpa using hra);have b:=(h1.ok.low k ok Z9 (hsub k hkS) QE hlk QS).2.1 hr;omega
 have dead:∀k,W1 k->(∀o,G1 k=some o->¬live o)->∀o,G2 k=some o->¬live o:=by
  intro k hk hd o ho hl;have hS:=(h1.wr k hk).1;by_cases hw:W2 k
  ·obtain⟨_,⟨o',Kt,hl'⟩,_⟩:=hW2S k hw;exact hd o' Kt hl'
  ·rw[hb k hw (fun e=>(hnew k e).1 hS)]at ho;exact hd o ho hl
 -- what is live behind both, and Xs for the second, was live between
 have liveMid:∀i o,¬UO i->G2 i=some o->live o->∃o',G1 i=some o'/\live o':=by
  intro i o hn ho hl;by_cases hw:W2 i
  ·exact(hW2S i hw).2.1
  ·rw[hb i hw hn]at ho;exact⟨o,ho,hl⟩
 refine⟨⟨fun i o hi ho hl=> ?_,fun i o im hi ho hl QK=> ?_,fun i j oi oj a b hi hj TS Wc Wb hli Ud hma hmb hra Ym=> ?_,fun i o hi ho hr=> ?_,fun i j oi oj a b x hi hj Wc Wb Pa Ud hma hmb Ym hx=> ?_⟩,fun i hi=> ?_,fun i hn hw=> ?_,Nat.le_trans h1.grow h2.grow,fun b hb0 hw=> ?_,fun i hi=> ?_,fun i im o hi ho hl QK=> ?_,fun i im o hi ho hr QK b x hfb=> ?_,
  h2.os.trans h1.os,h2.tape.trans h1.tape,h2.output.trans h1.output⟩
 ·by_cases ht:W2 i\/UO i
  ·rw[ha i ht]at ho;exact h2.ok.rel i o (ht.imp (fun h=>(hW2S i h).1) id) ho hl
  ·have hw:¬W2 i:=fun h=>ht (.inl h)
   have hn:¬UO i:=fun h=>ht (.inr h)
   rw[hb i hw hn]at ho;have hi':S i\/Ru i:=by rcases hi with h|h|h <;> first|exact .inl h|exact .inr h|exact absurd h hn
   obtain⟨im,QK,hr⟩:=h1.ok.rel i o hi' ho hl;exact⟨im,ext12 _ _ QK,hr.keep ext12 (h2.frame _ (h1.ok.low i o im hi' ho hl QK).1 (other i o im hi' hw ho hl QK))⟩
 ·by_cases ht:W2 i\/UO i
  ·rw[ha i ht]at ho;exact h2.ok.low i o im (ht.imp (fun h=>(hW2S i h).1) id) ho hl QK
  ·have hw:¬W2 i:=fun h=>ht (.inl h)
   have hn:¬UO i:=fun h=>ht (.inr h)
   rw[hb i hw hn]at ho;rw[mu2 i hn]at QK;have hi':S i\/Ru i:=by rcases hi with h|h|h <;> first|exact .inl h|exact .inr h|exact absurd h hn
   have:=h1.ok.low i o im hi' ho hl QK;exact⟨Nat.lt_of_lt_of_le this.1 h2.grow,this.2⟩
 ·have Xs:∀i,(S i\/Ru i\/UO i)->¬UO i->S i\/Ru i:=by
   intro i hi hn;rcases hi with h|h|h <;> first|exact .inl h|exact .inr h|exact absurd h hn
  have nw:∀i j oi oj a b,UO i->¬UO j->(S j\/Ru j\/UO j)->i≠j->G2 i=some oi->G2 j=some oj->live oi->live oj->μ2 i=some a->μ2 j=some b->b.rw=true->a.Zt≠b.Zt:=by
   intro i j oi oj a b hn hj0 hjS TS Wc Wb hli Ud hma hmb Ym;rw[ha i (.inr hn)]at Wc;rw[mu2 j hj0]at hmb;obtain⟨o',Kt,hl'⟩:=liveMid j oj hj0 Wb Ud;have hjj:=Xs j hjS hj0;obtain⟨_,hf⟩:=h2.fresh i a oi hn Wc hli hma;rcases hf with hf|⟨k,hk,⟨Z9,QS,hbb⟩,hd⟩
   ·have:=(h1.ok.low j o' b hjj Kt hl' hmb).1;omega
   ·obtain⟨hkS,⟨ok,QE,hlk⟩,im'',WK,hrk⟩:=hW2S k hk;rw[QS]at WK;cases WK;have hkj:k≠j:=by
     rintro rfl;rw[ha k (.inl hk)]at Wb;exact hd oj Wb Ud
    have:=h1.ok.inj k j ok o' Z9 b (hsub k hkS) hjj hkj QE Kt hlk hl' QS hmb hrk Ym;omega
  by_cases hni:UO i
  ·by_cases hnj:UO j
   ·rw[ha i (.inr hni)]at Wc;rw[ha j (.inr hnj)]at Wb;exact h2.ok.inj i j oi oj a b (.inr hni) (.inr hnj) TS Wc Wb hli Ud hma hmb hra Ym
   ·exact nw i j oi oj a b hni hnj hj TS Wc Wb hli Ud hma hmb Ym
  ·by_cases hnj:UO j
   ·exact Ne.symm (nw j i oj oi b a hnj hni hi (Ne.symm TS) Wb Wc Ud hli hmb hma hra)
   ·rw[mu2 i hni]at hma;rw[mu2 j hnj]at hmb;obtain⟨o1,ho1,hl1⟩:=liveMid i oi hni Wc hli;obtain⟨o2,ho2,hl2⟩:=liveMid j oj hnj Wb Ud;exact h1.ok.inj i j o1 o2 a b (Xs i hi hni) (Xs j hj hnj) TS ho1 ho2 hl1 hl2 hma hmb hra Ym
 ·by_cases ht:W2 i\/UO i
  ·rw[ha i ht]at ho;exact h2.ok.P1 i o (ht.imp (fun h=>(hW2S i h).1) id) ho hr
  ·have hw:¬W2 i:=fun h=>ht (.inl h)
   have hn:¬UO i:=fun h=>ht (.inr h)
   rw[hb i hw hn]at ho;have hi':S i\/Ru i:=by rcases hi with h|h|h <;> first|exact .inl h|exact .inr h|exact absurd h hn
   obtain⟨im,QK,hf⟩:=h1.ok.P1 i o hi' ho hr;refine⟨im,ext12 _ _ QK,fun b x hx=> ?_⟩;have e:=hf b x hx;rw[h2.frame b (by simpa using(Array.getElem?_eq_some_iff.1 e).1) fun k hk Z9 QS hbb=> ?_]
   ·exact e
   ·obtain⟨hkS,⟨ok,QE,hlk⟩,im'',WK,hrk⟩:=hW2S k hk;rw[QS]at WK;cases WK;exact h1.ok.sep i k o ok im Z9 x hi' (hsub k hkS) ho QE hr hlk QK QS hrk (by rw[hbb];exact hx)
 ·have Xs:∀i,(S i\/Ru i\/UO i)->¬UO i->S i\/Ru i:=by
   intro i hi hn;rcases hi with h|h|h <;> first|exact .inl h|exact .inr h|exact absurd h hn
  by_cases htj:W2 j\/UO j
  ·by_cases hti:W2 i\/UO i
   ·rw[ha i hti]at Wc;rw[ha j htj]at Wb;exact h2.ok.sep i j oi oj a b x (hti.imp (fun h=>(hW2S i h).1) id) (htj.imp (fun h=>(hW2S j h).1) id) Wc Wb Pa Ud hma hmb Ym hx
   ·have hw:¬W2 i:=fun h=>hti (.inl h)
    have hn:¬UO i:=fun h=>hti (.inr h)
    rw[hb i hw hn]at Wc;rw[mu2 i hn]at hma;have hi':=Xs i hi hn;obtain⟨im,QK,hf⟩:=h1.ok.P1 i oi hi' Wc Pa;rw[hma]at QK;cases QK;have Xp:b.Zt<w1.heap.size:=(Array.getElem?_eq_some_iff.1 (hf _ x hx)).1;by_cases hnj:UO j
    ·rw[ha j (.inr hnj)]at Wb;obtain⟨_,XF⟩:=h2.fresh j b oj hnj Wb Ud hmb;rcases XF with XF|⟨k,hk,⟨Z9,QS,hbb⟩,hd⟩
     ·omega
     ·obtain⟨hkS,⟨ok,QE,hlk⟩,im'',WK,hrk⟩:=hW2S k hk;rw[QS]at WK;cases WK;exact h1.ok.sep i k oi ok a Z9 x hi' (hsub k hkS) Wc QE Pa hlk hma QS hrk (by rw[hbb];exact hx)
    ·have hwj:W2 j:=htj.resolve_right hnj;obtain⟨hkS,⟨ok,QE,hlk⟩,im'',WK,hrk⟩:=hW2S j hwj;rw[mu2 j hnj]at hmb;exact h1.ok.sep i j oi ok a b x hi' (hsub j hkS) Wc QE Pa hlk hma hmb Ym hx
  ·have hwj:¬W2 j:=fun h=>htj (.inl h)
   have hnj:¬UO j:=fun h=>htj (.inr h)
   rw[hb j hwj hnj]at Wb;rw[mu2 j hnj]at hmb;have hj':=Xs j hj hnj;by_cases hti:W2 i\/UO i
   ·rw[ha i hti]at Wc;rcases h2.rf i a oi hti.symm Wc Pa hma b.Zt x hx with e|⟨k,UT,ko,hS,hko,hkr,hkm,hkb⟩|⟨k,hk,⟨Z9,QS,hbb⟩,hd⟩
    ·have:=(h1.ok.low j oj b hj' Wb Ud hmb).1;omega
    ·rw[hGc k hS]at hko;exact h1.ok.sep k j ko oj UT b x (hsub k hS) hj' hko Wb hkr Ud hkm hmb Ym hkb
    ·obtain⟨hkS,⟨ok,QE,hlk⟩,im'',WK,hrk⟩:=hW2S k hk;rw[QS]at WK;cases WK;exact h1.ok.inj k j ok oj Z9 b (hsub k hkS) hj' (fun e=>hwj (e ▸ hk)) QE Wb hlk Ud QS hmb hrk Ym hbb
   ·have hw:¬W2 i:=fun h=>hti (.inl h)
    have hn:¬UO i:=fun h=>hti (.inr h)
    rw[hb i hw hn]at Wc;rw[mu2 i hn]at hma;exact h1.ok.sep i j oi oj a b x (Xs i hi hn) hj' Wc Wb Pa Ud hma hmb Ym hx
 ·rw[mu2 i (fun h=>hi (.inr h)),h1.ext i (fun h=>hi (.inl h))]
 ·have JV:¬Ru i:=fun h=>hn (.inl h)
  rw[hb i (fun h=>hw (.inr ⟨h,JV⟩)) (fun h=>hn (.inr h)),h1.keep i JV (fun h=>hw (.inl h))]
 ·have e1:=h1.frame b hb0 fun i hi=>hw i (.inl hi)
  rw[<-e1];refine h2.frame b (Nat.lt_of_lt_of_le hb0 h1.grow) fun i hi im QK=> ?_
  by_cases hn:Ru i
  ·obtain⟨_,⟨o,ho,hl⟩,_⟩:=hW2S i hi;obtain⟨_,hf⟩:=h1.fresh i im o hn ho hl QK;rcases hf with hf|⟨k,hk,⟨Z9,QS,hbb⟩,_⟩
   ·omega
   ·rw[<-hbb];exact hw k (.inl hk) Z9 QS
  ·rw[h1.ext i hn]at QK;exact hw i (.inr ⟨hi,hn⟩) im QK
 ·rcases hi with hi|⟨hi,hn⟩
  ·exact h1.wr i hi
  ·obtain⟨hS2,⟨o,ho,hl⟩,im,QK,hr⟩:=hW2S i hi;have hS:S i:=(hsub i hS2).elim id fun h=>absurd h hn
   refine⟨hS, ?_,im,by rw[<-h1.ext i hn];exact QK,hr⟩;by_cases hw:W1 i
   ·exact(h1.wr i hw).2.1
   ·rw[h1.keep i hn hw]at ho;exact⟨o,ho,hl⟩
 ·by_cases hn:UO i
  ·rw[ha i (.inr hn)]at ho;obtain⟨hr,hf⟩:=h2.fresh i im o hn ho hl QK;refine⟨hr, ?_⟩;rcases hf with hf|⟨k,hk,⟨Z9,QS,hbb⟩,hd⟩
   ·exact .inl (Nat.le_trans h1.grow hf)
   ·have hd2:∀o,G2 k=some o->¬live o:=fun o ho=>by rw[ha k (.inl hk)]at ho;exact hd o ho
    by_cases hk1:Ru k
    ·obtain⟨_,⟨o',Kt,hl'⟩,_⟩:=hW2S k hk;obtain⟨_,hf'⟩:=h1.fresh k Z9 o' hk1 Kt hl' QS;rcases hf' with hf'|⟨k',hk',⟨im'',WK,hb''⟩,hd'⟩
     ·exact .inl (by omega)
     ·exact .inr ⟨k',.inl hk',⟨im'',WK,by omega⟩,dead k' hk' hd'⟩
    ·exact .inr ⟨k,.inr ⟨hk,hk1⟩,⟨Z9,by rw[<-h1.ext k hk1];exact QS,hbb⟩,hd2⟩
  ·have JV:Ru i:=hi.elim id fun h=>absurd h hn
   rw[mu2 i hn]at QK;obtain⟨o',Kt,hl'⟩:=liveMid i o hn ho hl;obtain⟨hr,hf⟩:=h1.fresh i im o' JV Kt hl' QK;refine⟨hr, ?_⟩;rcases hf with hf|⟨k,hk,QS,hd⟩
   ·exact .inl hf
   ·exact .inr ⟨k,.inl hk,QS,dead k hk hd⟩
 ·have mid:∀k UT ko,(Ru k\/W1 k)->G1 k=some ko->Wa ko->μ1 k=some UT->UT.fm b=some x->
   w.heap.size<=b\/(∃k UT ko,S k/\G k=some ko/\Wa ko/\μ k=some UT/\UT.fm b=some x)\/∃k,(W1 k\/(W2 k/\¬Ru k))/\(∃Z9,μ k=some Z9/\Z9.Zt=b)/\∀o,G2 k=some o->¬live o:=by
   intro k UT ko hk hko hkr hkm hkb;rcases h1.rf k UT ko hk hko hkr hkm b x hkb with h|h|⟨k',a,d,e⟩
   ·exact .inl h
   ·exact .inr (.inl h)
   ·exact .inr (.inr ⟨k',.inl a,d,dead k' a e⟩)
  by_cases hA:UO i\/W2 i
  ·rw[ha i hA.symm]at ho;rcases h2.rf i im o hA ho hr QK b x hfb with h|⟨k,UT,ko,hS,hko,hkr,hkm,hkb⟩|⟨k,hk,⟨Z9,QS,hbb⟩,hd⟩
   ·exact .inl (Nat.le_trans h1.grow h)
   ·rw[hGc k hS]at hko;by_cases hx:Ru k\/W1 k
    ·exact mid k UT ko hx hko hkr hkm hkb
    ·have hk1:¬Ru k:=fun e=>hx (.inl e)
     rw[h1.keep k hk1 fun e=>hx (.inr e)]at hko;rw[h1.ext k hk1]at hkm;exact .inr (.inl ⟨k,UT,ko,(hsub k hS).resolve_right hk1,hko,hkr,hkm,hkb⟩)
   ·have hd2:∀o,G2 k=some o->¬live o:=fun o ho=>by rw[ha k (.inl hk)]at ho;exact hd o ho
    by_cases hk1:Ru k
    ·obtain⟨_,⟨o',Kt,hl'⟩,_⟩:=hW2S k hk;obtain⟨_,hf'⟩:=h1.fresh k Z9 o' hk1 Kt hl' QS;rcases hf' with hf'|⟨k',hk',⟨im'',WK,hb''⟩,hd'⟩
     ·exact .inl (by omega)
     ·exact .inr (.inr ⟨k',.inl hk',⟨im'',WK,by omega⟩,dead k' hk' hd'⟩)
    ·exact .inr (.inr ⟨k,.inr ⟨hk,hk1⟩,⟨Z9,by rw[<-h1.ext k hk1];exact QS,hbb⟩,hd2⟩)
  ·have hn2:¬UO i:=fun e=>hA (.inl e)
   have hw2:¬W2 i:=fun e=>hA (.inr e)
   rw[hb i hw2 hn2]at ho;rw[mu2 i hn2]at QK;refine mid i im o ?_ ho hr QK hfb;rcases hi with (h|h)|h|h
   ·exact .inl h
   ·exact absurd h hn2
   ·exact .inr h
   ·exact absurd h.1 hw2
end Go.CE

namespace Go.CE
open Go Go.RowKit

def Nj{α:Type}(b:Bool):Option α->α->α
 |some x,a=>bif b then x else a
 |none,a=>a
def Kj{α:Type}(D:Nat->Bool):List (Option α)->Nat->α->α
 |[],_,a=>a
 |c::l,k,a=>Kj D l (k+1) (Nj (D k) c a)
theorem Wo{α:Type}{D D':Nat->Bool}:∀(l:List (Option α)) (k:Nat) (a:α),(∀i x,l[i]? =some (some x)->D (k+i)=D' (k+i))->Kj D l k a=Kj D' l k a
 |[],_,_,_=>rfl
 |c::l,k,a,h=>by
  simp only[Kj];have e:Nj (D k) c a=Nj (D' k) c a:=by
   cases c with
   |none=>rfl
   |some x=>rw[show D k=D' k by simpa using h 0 x rfl]
  rw[e];exact Wo l (k+1) _ fun i x hx=>by have:=h (i+1) x (by simpa using hx);rwa[show k+(i+1)=k+1+i by omega]at this
theorem UH{α:Type}{D:Nat->Bool}:∀(l:List (Option α)) (k:Nat) (a:α),(∀i x,l[i]? =some (some x)->D (k+i)=false)->Kj D l k a=a
 |[],_,_,_=>rfl
 |c::l,k,a,h=>by
  simp only[Kj];have e:Nj (D k) c a=a:=by
   cases c with
   |none=>rfl
   |some x=>rw[show D k=false by simpa using h 0 x rfl];rfl
  rw[e];exact UH l (k+1) a fun i x hx=>by have:=h (i+1) x (by simpa using hx);rwa[show k+(i+1)=k+1+i by omega]at this
theorem nR{α:Type}{D:Nat->Bool}{x:α}:∀(l:List (Option α)) (k j:Nat) (a:α),l[j]? =some (some x)->D (k+j)=true->(∀i y,j<i->l[i]? =some (some y)->D (k+i)=false)->Kj D l k a=x
 |[],_,_,_,h,_,_=>by simp at h
 |c::l,k,0,a,h,hd,hn=>by
  simp only[Lu,YO]at h;subst h;simp only[Kj];rw[show D k=true by simpa using hd];exact UH l (k+1) x fun i y hy=>by have:=hn (i+1) y (by omega) (by simpa using hy);rwa[show k+(i+1)=k+1+i by omega]at this
 |c::l,k,j+1,a,h,hd,hn=>by
  simp only[Kj];exact nR l (k+1) j _ (by simpa using h) (by rwa[show k+1+j=k+(j+1)by omega]) fun i y hi hy=>by
   have:=hn (i+1) y (by omega) (by simpa using hy);rwa[show k+(i+1)=k+1+i by omega]at this

inductive Tri where
 |lf
 |nd (l:Tri) (v:Value) (r:Tri)
def Tri.get:Tri->Nat->Value
 | .lf,_=>undef
 | .nd _ v _,0=>v
 | .nd l _ r,k+1=>bif Lf (k % 2) 0 then l.get (k / 2)else r.get (k / 2)
def Tri.set:Nat->Tri->Nat->Value->Tri
 |0,t,_,_=>t
 |_+1,.lf,0,x=>.nd .lf x .lf
 |_+1,.nd l _ r,0,x=>.nd l x r
 |f+1,.lf,k+1,x=>bif Lf (k % 2) 0 then .nd (Tri.set f .lf (k / 2) x) undef .lf else .nd .lf undef (Tri.set f .lf (k / 2) x)
 |f+1,.nd l v r,k+1,x=>bif Lf (k % 2) 0 then .nd (Tri.set f l (k / 2) x) v r else .nd l v (Tri.set f r (k / 2) x)
theorem Tri.get_lf(i:Nat):Tri.lf.get i=undef:=by cases i <;> rfl
theorem Tri.get_succ(l:Tri)(v:Value)(r:Tri)(k:Nat):(Tri.nd l v r).get (k+1)=if k % 2=0 then l.get (k / 2)else r.get (k / 2):=by
 show(bif Lf (k % 2) 0 then l.get (k / 2)else r.get (k / 2))=_;by_cases h:k % 2=0
 ·rw[h];rfl
 ·rw[ae h,if_neg h];rfl
theorem Tri.set_lf(f k:Nat)(x:Value):Tri.set (f+1) .lf (k+1) x=if k % 2=0 then Tri.nd (Tri.set f .lf (k / 2) x) undef .lf else Tri.nd .lf undef (Tri.set f .lf (k / 2) x):=by
 show(bif Lf (k % 2) 0 then _ else _)=_;by_cases h:k % 2=0
 ·rw[h];rfl
 ·rw[ae h,if_neg h];rfl
theorem Tri.set_nd(f k:Nat)(l:Tri)(v:Value)(r:Tri)(x:Value):Tri.set (f+1) (.nd l v r) (k+1) x=if k % 2=0 then Tri.nd (Tri.set f l (k / 2) x) v r else Tri.nd l v (Tri.set f r (k / 2) x):=by
 show(bif Lf (k % 2) 0 then _ else _)=_;by_cases h:k % 2=0
 ·rw[h];rfl
 ·rw[ae h,if_neg h];rfl
theorem Tri.lf_get(j:Nat):(Tri.nd .lf undef .lf).get j=Tri.lf.get j:=by
 cases j with
 |zero=>rfl
 |succ j=>rw[Tri.get_succ];simp only[Tri.get_lf,ite_self]
theorem Tri.get_set:∀(f:Nat) (t:Tri) (i:Nat) (x:Value) (j:Nat),i+1<2 ^ f->(t.set f i x).get j=if j=i then x else t.get j
 |0,t,i,x,j,h=>by simp at h
 |f+1,t,0,x,j,_=>by
  cases t with
  |lf=>
   show(Tri.nd .lf x .lf).get j=_;cases j with
   |zero=>rfl
   |succ j=>rw[if_neg (by omega),Tri.get_succ];simp only[Tri.get_lf,ite_self]
  |nd l v r=>
   show(Tri.nd l x r).get j=_;cases j with
   |zero=>rfl
   |succ j=>rw[if_neg (by omega),Tri.get_succ,Tri.get_succ]
 |f+1,t,k+1,x,j,h=>by
  have hk:k / 2+1<2 ^ f:=by rw[Nat.pow_succ]at h;omega
  by_cases he:k % 2=0
  ·have key:∀l v r,(Tri.nd (Tri.set f l (k / 2) x) v r).get j=if j=k+1 then x else(Tri.nd l v r).get j:=by
    intro l v r;cases j with
    |zero=>rfl
    |succ j=>
     rw[Tri.get_succ,Tri.get_succ,Tri.get_set f l (k / 2) x (j / 2) hk];by_cases hj:j % 2=0
     ·rw[if_pos hj,if_pos hj];by_cases e:j=k
      ·subst e;simp
      ·rw[if_neg (by omega),if_neg (by omega)]
     ·rw[if_neg hj,if_neg hj,if_neg (by omega)]
   cases t with
   |lf=>rw[Tri.set_lf,if_pos he,key,Tri.lf_get]
   |nd l v r=>rw[Tri.set_nd,if_pos he,key]
  ·have key:∀l v r,(Tri.nd l v (Tri.set f r (k / 2) x)).get j=if j=k+1 then x else(Tri.nd l v r).get j:=by
    intro l v r;cases j with
    |zero=>rfl
    |succ j=>
     rw[Tri.get_succ,Tri.get_succ,Tri.get_set f r (k / 2) x (j / 2) hk];by_cases hj:j % 2=0
     ·rw[if_pos hj,if_pos hj,if_neg (by omega)]
     ·rw[if_neg hj,if_neg hj];by_cases e:j=k
      ·subst e;simp
      ·rw[if_neg (by omega),if_neg (by omega)]
   cases t with
   |lf=>rw[Tri.set_lf,if_neg he,key,Tri.lf_get]
   |nd l v r=>rw[Tri.set_nd,if_neg he,key]
structure Tm where
 len:Nat
 tr:Tri
def XT(T:Tm)(t:Nat):Value:=T.tr.get t
def VB(T:Tm)(d:Option Tmp)(v:Value):Tm:=match d with|some d=>⟨T.len,T.tr.set 14 d v⟩|none=>T
def Zd(T:Tm):Operand->Option Value
 | .tmp t=>some (XT T t)
 | .const v=>bif af v then some v else none
 | .func f=>some (.func (.func f) #[] #[])
 | .global _=>none
def TR(μ:Mu)(T:Tm)(A:Array Value):Prop:=T.len=A.size/\∀t,VR μ (XT T t) (A.getD t undef)
theorem TR.mono{μ μ':Mu}(e:Ext μ μ'){T:Tm}{A:Array Value}(h:TR μ T A):TR μ' T A:=⟨h.1,fun t=>(h.2 t).mono e⟩
theorem Ka{T:Tm}{d:Option Tmp}{v:Value}:(VB T d v).len=T.len:=by cases d <;> rfl
theorem OE(d:Nat)(h:d<16000):d+1<2 ^ 14:=by omega
theorem sQ{T:Tm}{d:Option Tmp}{v:Value}{t:Nat}(h:∀x,d=some x->x<16000):XT (VB T d v) t=if d=some t then v else XT T t:=by
 cases d with
 |none=>simp[VB]
 |some d=>
  have h2:=OE d (h d rfl);simp only[VB,XT,YO];rw[Tri.get_set 14 _ d _ _ h2];by_cases e:d=t
  ·subst e;simp
  ·rw[if_neg (Ne.symm e),if_neg e]
theorem TR.put{μ:Mu}{T:Tm}{A:Array Value}(h:TR μ T A){d:Option Tmp}(hd:∀x,d=some x->x<T.len/\x<16000){v v':Value}(hv:VR μ v v'):TR μ (VB T d v) (match d with|some x=>A.setIfInBounds x v'|none=>A):=by
 refine⟨?_,fun t=> ?_⟩
 ·rw[Ka];cases d <;> simp[h.1]
 ·rw[sQ fun x hx=>(hd x hx).2];cases d with
  |none=>simpa using h.2 t
  |some x=>
   have hx:x<A.size:=h.1 ▸ (hd x rfl).1;simp only[YO];by_cases e:x=t
   ·subst e;simpa[hx]using hv
   ·have:=h.2 t;simp[e]at this ⊢;exact this
def Sv:Value->Option Bool
 | .bool b=>some b
 |_=>none
def XO(ops:Array Oper)(T:Tm)(j:Nat):Option Bool:=
 match nth ops.toList j with
 |some o=>match o.dst with
  |some t=>Sv (XT T t)
  |none=>none
 |none=>none
theorem h8{ops:Array Oper}{T:Tm}{j:Nat}:XO ops T j=match(ops[j]?).bind (·.dst)with
 |some t=>Sv (XT T t)
 |none=>none:=by
 unfold XO;rw[ba,Lq];cases ops[j]? <;> rfl
theorem kg{ops:Array Oper}{A:Array Value}{j:Nat}:yielded ops A j=match(ops[j]?).bind (·.dst)with
 |some t=>Sv (A.getD t undef)
 |none=>none:=by
 unfold yielded;cases(ops[j]?).bind (·.dst)with
 |none=>rfl
 |some t=>
  simp only[Option.bind_some,Array.getD_eq_getD_getElem?];cases A[t]? with
  |none=>rfl
  |some v=>cases v <;> rfl
theorem BH{μ:Mu}{v v':Value}(h:VR μ v v'):Sv v'=Sv v:=by
 cases h with
 |Yz a b c=>
  cases v' with
  |bool q=>exact absurd rfl (a q)
  |_=>rfl
 |top a b c=>
  cases v' with
  |bool q=>exact absurd rfl (c.nobool a q)
  |_=>rfl
 |_=>rfl

structure Rec where
 o:Oper
 run:Bool
 v:Value
 T:Tm
 H:Qt
 H':Qt
 n:Nat
 n':Nat
 R:List Nat
 W:List Nat
def Yf:List Rec->Tm->Qt->Nat->Tm->Qt->Nat->Prop
 |[],T,H,n,T',H',n'=>T=T'/\H=H'/\n=n'
 |r::l,T,H,n,T',H',n'=>r.T=T/\r.H=H/\r.n=n/\Yf l (VB T r.o.dst r.v) r.H' r.n' T' H' n'
structure cn (len:Nat) (r:Rec):Prop where
 le:r.n<=r.n'
 keep:∀i,i<r.n->i ∉ r.W->Qw r.H' i=Qw r.H i
 top:∀i,r.n'<=i->Qw r.H' i=Qw r.H i
 sub:∀i,i∈r.W->i∈r.R
 wlt:∀i,i∈r.W->i<r.n'
 dst:∀x,r.o.dst=some x->x<len/\x<16000
def dG(r:Rec)(i:Nat):Bool:=r.W.contains i || (LR r.n i && Lr i r.n')
theorem aq{r:Rec}{i:Nat}:dG r i=true<->i∈r.W\/(r.n<=i/\i<r.n'):=by
 simp only[dG,Bool.or_eq_true,List.contains_iff_mem,YB];refine or_congr Iff.rfl ⟨fun h=>⟨YL h.1,YL h.2⟩,fun h=>⟨LH h.1,LH h.2⟩⟩
def cH(i:Nat)(r:Rec):Option (Option Obj):=bif dG r i then some (Qw r.H' i)else none
def cT(t:Nat)(r:Rec):Option Value:=if r.o.dst=some t then some r.v else none
theorem M9{len:Nat}{r:Rec}(h:cn len r)(i:Nat)(a:Option Obj)(ha:a=Qw r.H i):Nj true (cH i r) a=Qw r.H' i:=by
 unfold cH;cases ht:dG r i with
 |true=>rfl
 |false=>
  simp only[cond_false,Nj];have hn:¬(i∈r.W\/(r.n<=i/\i<r.n')):=fun e=>by rw[aq.2 e]at ht;cases ht
  rw[ha];rcases LK i r.n with Xp|hge
  ·exact(h.keep i Xp fun e=>hn (.inl e)).symm
  ·exact(h.top i (by
    rcases LK i r.n' with h1|h1
    ·exact absurd (.inr ⟨hge,h1⟩) hn
    ·exact h1)).symm
theorem dx{len:Nat}(i:Nat):∀(l:List Rec) (k:Nat) (T:Tm) (H:Qt) (n:Nat) (T':Tm) (H':Qt) (n':Nat),Yf l T H n T' H' n'->(∀r∈l,cn len r)->
 (∀j r,l[j]? =some r->Qw r.H i=Kj (fun q=>decide (q<k+j)) (l.map (cH i)) k (Qw H i))/\Qw H' i=Kj (fun _=>true) (l.map (cH i)) k (Qw H i)
 |[],k,T,H,n,T',H',n',h,_=>⟨fun j r hr=>by simp at hr,by obtain⟨_,rfl,_⟩:=h;rfl⟩
 |r::l,k,T,H,n,T',H',n',h,hs=>by
  obtain⟨h1,h2,h3,h4⟩:=h;obtain⟨q1,q2⟩:=dx i l (k+1) _ _ _ _ _ _ h4 fun x hx=>hs x (Lt _ hx)
  have Zh:=M9 (hs r (by simp)) i (Qw H i) (by rw[h2]);refine⟨fun j x hx=> ?_, ?_⟩
  ·cases j with
   |zero=>
    simp only[Lu,YO]at hx;subst hx;rw[UH _ _ _ fun a y _=>by simp,h2]
   |succ j=>
    rw[q1 j x (by simpa using hx)];simp only[List.map_cons,Kj];rw[show(decide (k<k+(j+1)))=true by simp];rw[Zh];exact Wo _ _ _ fun a y _=>by rw[show k+1+j=k+(j+1)by omega]
  ·rw[q2];simp only[List.map_cons,Kj];rw[Zh]
theorem KC{len:Nat}(t:Nat):∀(l:List Rec) (k:Nat) (T:Tm) (H:Qt) (n:Nat) (T':Tm) (H':Qt) (n':Nat),Yf l T H n T' H' n'->(∀r∈l,cn len r)->T.len=len->
 (∀j r,l[j]? =some r->r.T.len=len/\XT r.T t=Kj (fun q=>decide (q<k+j)) (l.map (cT t)) k (XT T t))/\T'.len=len/\XT T' t=Kj (fun _=>true) (l.map (cT t)) k (XT T t)
 |[],k,T,H,n,T',H',n',h,_,hl=>⟨fun j r hr=>by simp at hr,by obtain⟨rfl,_⟩:=h;exact⟨hl,rfl⟩⟩
 |r::l,k,T,H,n,T',H',n',h,hs,hl=>by
  obtain⟨h1,h2,h3,h4⟩:=h;have hd:=(hs r (by simp)).dst;have hlen:(VB T r.o.dst r.v).len=len:=by rw[Ka];exact hl
  obtain⟨q1,q2,q3⟩:=KC t l (k+1) _ _ _ _ _ _ h4 (fun x hx=>hs x (Lt _ hx)) hlen;have Zh:Nj true (cT t r) (XT T t)=XT (VB T r.o.dst r.v) t:=by
   rw[sQ fun x hx=>(hd x hx).2];unfold cT;split <;> rfl
  refine⟨fun j x hx=> ?_,q2, ?_⟩
  ·cases j with
   |zero=>
    simp only[Lu,YO]at hx;subst hx;rw[UH _ _ _ fun a y _=>by simp,h1];exact⟨hl,rfl⟩
   |succ j=>
    obtain⟨a1,a2⟩:=q1 j x (by simpa using hx);refine⟨a1, ?_⟩;rw[a2];simp only[List.map_cons,Kj];rw[show(decide (k<k+(j+1)))=true by simp];rw[Zh];exact Wo _ _ _ fun a y _=>by rw[show k+1+j=k+(j+1)by omega]
  ·rw[q3];simp only[List.map_cons,Kj];rw[Zh]
theorem Px{len:Nat}:∀(l:List Rec) (T:Tm) (H:Qt) (n:Nat) (T':Tm) (H':Qt) (n':Nat),Yf l T H n T' H' n'->(∀r∈l,cn len r)->
 n<=n'/\(∀r∈l,n<=r.n/\r.n'<=n')/\(∀(i j:Nat) (a b:Rec),i<j->l[i]? =some a->l[j]? =some b->a.n'<=b.n)/\(∀x,n<=x->x<n'->∃(j:Nat) (r:Rec),l[j]? =some r/\r.n<=x/\x<r.n')
 |[],T,H,n,T',H',n',h,_=>by obtain⟨_,_,rfl⟩:=h;exact⟨LI _,by simp,fun i j a b _ h=>by simp at h,fun x h1 h2=>absurd h1 (by omega)⟩
 |r::l,T,H,n,T',H',n',h,hs=>by
  obtain⟨h1,h2,h3,h4⟩:=h;obtain⟨q1,q2,q3,q4⟩:=Px l _ _ _ _ _ _ h4 fun x hx=>hs x (Lt _ hx)
  have hr:=(hs r (by simp)).le;refine⟨by omega,fun x hx=> ?_,fun i j a b TS ha hb=> ?_,fun x hx1 hx2=> ?_⟩
  ·rcases List.mem_cons.1 hx with rfl|hx
   ·omega
   ·have:=q2 x hx;omega
  ·cases j with
   |zero=>omega
   |succ j=>
    cases i with
    |zero=>
     simp only[Lu,YO]at ha;subst ha;exact(q2 b (Lp (by simpa using hb))).1
    |succ i=>exact q3 i j a b (by omega) (by simpa using ha) (by simpa using hb)
  ·rcases LK x r.n' with Xp|hge
   ·exact⟨0,r,rfl,by omega,Xp⟩
   ·obtain⟨j,r',hj,hx⟩:=q4 x hge hx2;exact⟨j+1,r',by simpa using hj,hx⟩

theorem xJ{α:Type}{l m:List α}{i:Nat}{d:α}(h:i<l.length):(l++m).getD i d=l.getD i d:=by
 rw[Ly,Ly,Lx h]
def iV:List Oper->List Nat->List Nat
 |[],acc=>acc
 |o::l,acc=>iV l (acc++[o.after.toList.foldr (fun e m=>bif Region.binds .any e then Nat.lor (Nat.lor (Nat.shiftLeft 1 e.on) (acc.getD e.on 0)) m else m) 0])
def Ha(n m:Nat):List Nat:=(Ll n).filter fun i=>Lf (Nat.land (Nat.shiftRight m i) 1) 1
theorem qe{n m i:Nat}:i∈Ha n m<->i<n/\m.testBit i=true:=by
 unfold Ha;rw[List.mem_filter,List.mem_range,Nat.beq_eq,Nat.testBit_eq_decide_div_mod_eq,decide_eq_true_iff];show(i<n/\(m >>> i) &&& 1=1)<->_;rw[Nat.and_one_is_mod,Nat.shiftRight_eq_div_pow]
theorem B2{a b i:Nat}:(Nat.lor a b).testBit i=(a.testBit i || b.testBit i):=Nat.testBit_or a b i
theorem Ml{k i:Nat}(h:(Nat.shiftLeft 1 k).testBit i=true):i=k:=by
 have e:Nat.shiftLeft 1 k=2 ^ k:=by show 1 <<< k=_;rw[Nat.shiftLeft_eq,Nat.one_mul]
 rw[e,Nat.testBit_two_pow]at h;exact(of_decide_eq_true h).symm
theorem nX{acc:List Nat}{i:Nat}:∀(l:List Edge),(l.foldr (fun e m=>bif Region.binds .any e then Nat.lor (Nat.lor (Nat.shiftLeft 1 e.on) (acc.getD e.on 0)) m else m) 0).testBit i=true->∃e∈l,Region.binds .any e=true/\(i=e.on\/(acc.getD e.on 0).testBit i=true)
 |[],h=>by simp at h
 |e::l,h=>by
  rw[List.foldr_cons]at h;cases hb:Region.binds .any e with
  |false=>
   rw[hb,cond_false]at h;obtain⟨x,hx,h1⟩:=nX l h;exact⟨x,Lt _ hx,h1⟩
  |true=>
   rw[hb,cond_true,B2,B2,Bool.or_eq_true,Bool.or_eq_true]at h;rcases h with (h|h)|h
   ·exact⟨e,List.mem_cons_self,hb,Or.inl (Ml h)⟩
   ·exact⟨e,List.mem_cons_self,hb,Or.inr h⟩
   ·obtain⟨x,hx,h1⟩:=nX l h;exact⟨x,Lt _ hx,h1⟩
def Py(l:List Oper)(_:List (List Nat)):List (List Nat):=(iV l []).map (Ha l.length)
def Bef(ops:List Oper)(bs:List (List Nat)):Prop:=bs.length<=ops.length/\∀k b,bs[k]? =some b->∀i∈b,∃o,ops[k]? =some o/\∃e∈o.after,Region.binds .any e=true/\e.on<k/\(i=e.on\/i∈bs.getD e.on [])
def OT(ops:List Oper)(bs:List Nat):Prop:=bs.length<=ops.length/\∀k b,bs[k]? =some b->∀i,b.testBit i=true->∃o,ops[k]? =some o/\∃e∈o.after,Region.binds .any e=true/\e.on<k/\(i=e.on\/(bs.getD e.on 0).testBit i=true)
theorem xZ:∀(l pre:List Oper) (acc:List Nat),acc.length=pre.length->OT (pre++l) acc->(∀(k:Nat) o,(pre++l)[k]? =some o->∀e∈o.after,Region.binds .any e=true->e.on<k)->OT (pre++l) (iV l acc)/\(iV l acc).length=(pre++l).length
 |[],pre,acc,hl,h,_=>⟨h,by simpa[iV]using hl⟩
 |o::l,pre,acc,hl,h,Xp=>by
  have e:pre++o::l=(pre++[o])++l:=by simp
  rw[e]at h Xp ⊢;refine xZ l (pre++[o]) _ (by simp[hl]) ⟨by simp[hl],fun k b hb i hi=> ?_⟩ Xp;rcases LK k acc.length with hk|hk
  ·rw[Lx hk]at hb;obtain⟨x,hx,ed,hed,hbd,hon,ZU⟩:=h.2 k b hb i hi;refine⟨x,hx,ed,hed,hbd,hon,ZU.imp id fun h=> ?_⟩;rwa[xJ (by omega)]
  ·have hk0:k=acc.length:=by
    have:=(List.getElem?_eq_some_iff.1 hb).1;simp at this;omega
   subst hk0;rw[Lm (LI _)]at hb;simp only[Nat.sub_self,Lu,YO]at hb;subst hb;have ho:((pre++[o])++l)[acc.length]? =some o:=by rw[hl];simp
   obtain⟨ed,hed,hbd,hi⟩:=nX _ hi;have hon:=Xp acc.length o ho ed (by simpa using hed) hbd;exact⟨o,ho,ed,by simpa using hed,hbd,hon,hi.imp id fun h=>by rwa[xJ (by omega)]⟩
theorem s8(l:List Oper)(Xp:∀(k:Nat) o,l[k]? =some o->∀e∈o.after,Region.binds .any e=true->e.on<k):Bef l (Py l [])/\(Py l []).length=l.length:=by
 obtain⟨⟨h1,h2⟩,h3⟩:=xZ l [] [] rfl ⟨by simp,fun q b hq=>by simp at hq⟩ (fun q o ho=>Xp q o (by simpa using ho));simp only[List.nil_append]at h1 h2 h3;refine⟨⟨by simpa[Py]using h1,fun k b hb i hi=> ?_⟩,by simpa[Py]using h3⟩;unfold Py at hb ⊢;rw[LF]at hb;cases hm:(iV l [])[k]? with
 |none=>rw[hm]at hb;cases hb
 |some m=>
  rw[hm]at hb;simp only[LL,YO]at hb;subst hb;obtain⟨hi1,hi2⟩:=qe.1 hi;obtain⟨o,ho,e,he,hbd,hon,ZU⟩:=h2 k m hm i hi2;refine⟨o,ho,e,he,hbd,hon,ZU.imp id fun h=> ?_⟩;have hk:k<(iV l []).length:=(List.getElem?_eq_some_iff.1 hm).1;have he2:e.on<(iV l []).length:=by omega
  rw[Ly,LF,L4 he2];rw[Ly,L4 he2]at h;exact qe.2 ⟨hi1,h⟩
theorem AQ{ops:List Oper}{bs:List (List Nat)}(h:Bef ops bs){D:Nat->Bool}(hD:∀k o,D k=true->ops[k]? =some o->∀e∈o.after,Region.binds .any e=true->D e.on=true):
 ∀(k:Nat),(∀o,ops[k]? =some o->∀e∈o.after,Region.binds .any e=true->D e.on=true)->∀i∈bs.getD k [],D i=true:=by
 intro k;induction k using LB with
 |_ k ih=>
  intro hk i hi;rw[Ly]at hi;cases hb:bs[k]? with
  |none=>rw[hb]at hi;simp at hi
  |some b=>
   rw[hb]at hi;obtain⟨o,ho,e,he,hbd,hon,ZU⟩:=h.2 k b hb i hi;have hDe:=hk o ho e he hbd;rcases ZU with rfl|ZU
   ·exact hDe
   ·exact ih e.on hon (fun o' Kt=>hD e.on o' hDe Kt) i ZU
end Go.CE

namespace Go.CE
open Go Go.RowKit

inductive OO where
 |ret (v:Value)
 |We (v:Value)
inductive OR2 (μ:Mu):OO->OO->Prop
 |ret {v v'}:VR μ v v'->OR2 μ (.ret v) (.ret v')
 |We {v v'}:VR μ v v'->OR2 μ (.We v) (.We v')
def OO.on(fr:Frame):OO->Frame
 | .ret v=>fr.finish v
 | .We v=>fr.raise [{v,recovered:=false}]
def Tk(P:Program)(B:Lo)(o:Oper)(ev:Operand->Option Value)(H:Qt)(n:Nat)(out:OO)(H':Qt)(n':Nat)(R W:List Nat):Prop:=
 ∀(S:Nat->Prop) (μ:Mu) (w:World) (fr:Frame) (cs:List Frame) (k:List Item) (ops:Array Oper) (i:Nat) (rest:List Nat),Ok B S μ (Qw H) w->B.has w->(∀i,S i->i<n)->P0 μ n n'->
  (∀x∈o.op.operands,∀v,ev x=some v->VR μ v (fr.eval x))->(∀i∈R,i<n->S i)->
  fr.mode=.run->fr.todo=.inRegion ops (i::rest)::k->ops[i]? =some o->Region.wanted o (yielded ops fr.tmps)=true->
  ∃Zg w' μ',Post B S n n' W μ μ' H H' w w'/\OR2 μ' out Zg/\Steps P (lone fr cs w) (lone (Zg.on fr) cs w')
def Se(P:Program)(B:Lo)(ops:Array Oper)(r:Rec):Prop:=
 (r.run=Region.wanted r.o (XO ops r.T))/\(r.run=true->Tk P B r.o (Zd r.T) r.H r.n (.ret r.v) r.H' r.n' r.R r.W)/\(r.run=false->r.v=undef/\r.H'=r.H/\r.n'=r.n/\r.W=[])

def meets(r x:Rec):Bool:=r.W.any fun i=>x.R.contains i
def bears(r x:Rec):Bool:=x.R.any fun i=>LR r.n i && Lr i r.n'
def tied(ops:Array Oper)(r x:Rec):Bool:= !(r.o.apart ops x.o) || meets r x || meets x r || bears r x
def KZ(ops:Array Oper)(r:Rec)(k:Nat):List Rec->List (List Nat)->Bool
 |x::l,b::bs=>(b.contains k || !(tied ops r x)) && KZ ops r k l bs
 |[],_=>true
 |_::_,[]=>false
def indep(ops:Array Oper):Nat->List Rec->List (List Nat)->Bool
 |k,r::l,_::bs=>KZ ops r k l bs && indep ops (k+1) l bs
 |_,[],_=>true
 |_,_::_,[]=>false
theorem bf{ops:Array Oper}{r:Rec}{k:Nat}:∀(l:List Rec) (bs:List (List Nat)),KZ ops r k l bs=true->∀(j:Nat) x,l[j]? =some x->tied ops r x=true->k∈bs.getD j []
 |x::l,b::bs,h,j,y,hj,ht=>by
  simp only[KZ,YB,Bool.or_eq_true,Bool.not_eq_true',List.contains_iff_mem]at h;cases j with
  |zero=>
   simp only[Lu,YO]at hj;subst hj;rcases h.1 with h1|h1
   ·simpa using h1
   ·rw[ht]at h1;cases h1
  |succ j=>
   have:=bf l bs h.2 j y (by simpa using hj) ht;simpa using this
 |[],_,_,j,y,hj,_=>by simp at hj
 |_::_,[],h,_,_,_,_=>by simp[KZ]at h
theorem TO{ops:Array Oper}:∀(l:List Rec) (bs:List (List Nat)) (k:Nat),indep ops k l bs=true->∀(i j:Nat) r x,i<j->l[i]? =some r->l[j]? =some x->tied ops r x=true->k+i∈bs.getD j []
 |r::l,b::bs,k,h,i,j,y,x,TS,hi,hj,ht=>by
  simp only[indep,YB]at h;cases j with
  |zero=>omega
  |succ j=>
   cases i with
   |zero=>
    simp only[Lu,YO]at hi;subst hi;have:=bf l bs h.1 j x (by simpa using hj) ht;simpa using this
   |succ i=>
    have:=TO l bs (k+1) h.2 i j y x (by omega) (by simpa using hi) (by simpa using hj) ht;rw[show k+1+i=k+(i+1)by omega]at this;simpa using this
 |[],_,_,_,i,j,y,x,_,hi,_,_=>by simp at hi
 |_::_,[],_,h,_,_,_,_,_,_,_,_=>by simp[indep]at h
theorem PG.congr{B:Nat}{S New New' W W':Nat->Prop}{μ μ':Mu}{G G' G'':Nat->Option Obj}{w w':World}(h:PG B S New W μ μ' G G' w w')(hN:∀i,New i<->New' i)(hW:∀i,W i<->W' i)(hG:∀i,G' i=G'' i):PG B S New' W' μ μ' G G'' w w':=by
 have e1:New=New':=funext fun i=>propext (hN i)
 have e2:W=W':=funext fun i=>propext (hW i)
 have e3:G'=G'':=funext hG;subst e1 e2 e3;exact h

def Qan(ops:Array Oper)(Qz:List Rec)(bs:List (List Nat)):Prop:=∀(i j:Nat) (r x:Rec),i<j->Qz[i]? =some r->Qz[j]? =some x->tied ops r x=true->0+i∈bs.getD j []
structure Setup (P:Program) (B:Lo) (ops:Array Oper) (Qz:List Rec) (bs:List (List Nat)) (T:Tm) (H:Qt) (n:Nat) (T':Tm) (H':Qt) (n':Nat):Prop where
 chain:Yf Qz T H n T' H' n'
 Sg:∀r∈Qz,cn T.len r
 own:∀(i:Nat) r,Qz[i]? =some r->ops[i]? =some r.o
 len:Qz.length=ops.size
 bef:Bef ops.toList bs
 ind:Qan ops Qz bs
 edge:∀(k:Nat) o,ops[k]? =some o->∀e∈o.after,Region.binds .any e=true->e.on<k
section
variable {P:Program} {B:Lo} {ops:Array Oper} {Qz:List Rec} {bs:List (List Nat)} {T:Tm} {H:Qt} {n:Nat} {T':Tm} {H':Qt} {n':Nat}
def gD(Qz:List Rec)(H:Qt)(D:Nat->Bool)(i:Nat):Option Obj:=Kj D (Qz.map (cH i)) 0 (Qw H i)
def tD(Qz:List Rec)(T:Tm)(D:Nat->Bool)(t:Nat):Value:=Kj D (Qz.map (cT t)) 0 (XT T t)
def sG(Qz:List Rec)(D:Nat->Bool)(i:Nat):Prop:=∃(j:Nat) (r:Rec),D j=true/\Qz[j]? =some r/\r.n<=i/\i<r.n'
def WD(Qz:List Rec)(n:Nat)(D:Nat->Bool)(i:Nat):Prop:=i<n/\∃(j:Nat) (r:Rec),D j=true/\Qz[j]? =some r/\i∈r.W
def UP(ops:Array Oper)(D:Nat->Bool):Prop:=∀k o,D k=true->ops[k]? =some o->∀e∈o.after,Region.binds .any e=true->D e.on=true
theorem o5(h:Setup P B ops Qz bs T H n T' H' n'){D:Nat->Bool}(hD:UP ops D){k:Nat}(hk:∀o,ops[k]? =some o->∀e∈o.after,Region.binds .any e=true->D e.on=true):∀i∈bs.getD k [],D i=true:=
 AQ h.bef (fun k o a b=>hD k o a (by simpa using b)) k (fun o a=>hk o (by simpa using a))
theorem tg(h:Setup P B ops Qz bs T H n T' H' n'){D:Nat->Bool}(hD:UP ops D){j:Nat}{x:Rec}(hj:Qz[j]? =some x)(hn:D j=false)(hr:∀o,ops[j]? =some o->∀e∈o.after,Region.binds .any e=true->D e.on=true)
 {i:Nat} {r:Rec} (hi:Qz[i]? =some r) (ht:(i<j->tied ops r x=true)/\(j<i->tied ops x r=true)):D i=decide (i<j):=by
 rcases Nat.lt_trichotomy i j with Xp|heq|hgt
 ·have:=h.ind i j r x Xp hi hj (ht.1 Xp);rw[LD]at this;rw[o5 h hD hr i this];simp[Xp]
 ·subst heq;rw[hn];simp
 ·have:=h.ind j i x r hgt hj hi (ht.2 hgt);rw[LD]at this;have hf:D i=false:=by
   cases hd:D i with
   |false=>rfl
   |true=>
    have:=o5 h hD (k:=i) (fun o ho=>hD i o hd ho) j this;rw[hn]at this;cases this
  rw[hf];simp;omega
theorem hY{r x:Rec}{t:Nat}(ht:r.o.dst=some t)(hl:t∈x.o.looksAt ops\/x.o.dst=some t):tied ops r x=true/\tied ops x r=true:=by
 constructor
 ·have:r.o.apart ops x.o=false:=by
   cases hap:r.o.apart ops x.o with
   |false=>rfl
   |true=>
    obtain⟨h1,h2,_⟩:=Oper.apart_spec hap;rcases hl with hl|hl
    ·exact absurd hl (h1 t ht)
    ·exact absurd hl (h2 t ht)
  simp[tied,this]
 ·have:x.o.apart ops r.o=false:=by
   cases hap:x.o.apart ops r.o with
   |false=>rfl
   |true=>
    obtain⟨_,h2,h3⟩:=Oper.apart_spec hap;rcases hl with hl|hl
    ·exact absurd hl (h3 t ht)
    ·exact absurd ht (h2 t hl)
  simp[tied,this]
theorem jY{t:Nat}{i:Nat}{v:Value}(h:(Qz.map (cT t))[i]? =some (some v)):∃r,Qz[i]? =some r/\r.o.dst=some t/\r.v=v:=by
 rw[LF]at h;cases hr:Qz[i]? with
 |none=>rw[hr]at h;cases h
 |some r=>
  rw[hr]at h;simp only[LL,YO,cT]at h;split at h
  ·rename_i hd;exact⟨r,rfl,hd,by simpa using h⟩
  ·cases h
theorem ka{q:Nat}{i:Nat}{v:Option Obj}(h:(Qz.map (cH q))[i]? =some (some v)):∃r,Qz[i]? =some r/\(q∈r.W\/(r.n<=q/\q<r.n'))/\Qw r.H' q=v:=by
 rw[LF]at h;cases hr:Qz[i]? with
 |none=>rw[hr]at h;cases h
 |some r=>
  rw[hr]at h;simp only[LL,YO,cH]at h;cases ht:dG r q with
  |false=>rw[ht]at h;cases h
  |true=>rw[ht]at h;exact⟨r,rfl,aq.1 ht,by simpa using h⟩
theorem sT(h:Setup P B ops Qz bs T H n T' H' n'){D:Nat->Bool}(hD:UP ops D){j:Nat}{x:Rec}(hj:Qz[j]? =some x)(hn:D j=false)(hr:∀o,ops[j]? =some o->∀e∈o.after,Region.binds .any e=true->D e.on=true)
 {t:Nat} (ht:t∈x.o.looksAt ops):tD Qz T D t=XT x.T t:=by
 obtain⟨q1,_⟩:=KC (len:=T.len) t Qz 0 T H n T' H' n' h.chain h.Sg rfl;rw[(q1 j x hj).2];refine Wo _ _ _ fun i v hv=> ?_
 obtain⟨r,Pa,hd,_⟩:=jY hv;have htt:=hY (ops:=ops) hd (.inl ht);simp only[LD];exact tg h hD hj hn hr Pa ⟨fun _=>htt.1,fun _=>htt.2⟩
theorem BR(h:Setup P B ops Qz bs T H n T' H' n'){i j:Nat}{r x:Rec}{q:Nat}(hi:Qz[i]? =some r)(hj:Qz[j]? =some x)(hq:q∈x.R)(hqn:q<x.n)(hr:q∈r.W\/(r.n<=q/\q<r.n')):(i<j->tied ops r x=true)/\(j<i->tied ops x r=true):=by
 have Sq:=Px Qz T H n T' H' n' h.chain h.Sg;rcases hr with hr|hr
 ·have m1:meets r x=true:=List.any_eq_true.2 ⟨q,hr,by simpa using hq⟩;exact⟨fun _=>by simp[tied,m1],fun _=>by simp[tied,m1]⟩
 ·refine⟨fun _=> ?_,fun Xp=> ?_⟩
  ·have:bears r x=true:=List.any_eq_true.2 ⟨q,hq,by simp only[YB];exact⟨LH hr.1,LH hr.2⟩⟩;simp[tied,this]
  ·have h1:=Sq.2.2.1 j i x r Xp hj hi;have h2:=(h.Sg x (Lp hj)).le;omega
theorem Hx(h:Setup P B ops Qz bs T H n T' H' n'){D:Nat->Bool}(hD:UP ops D){j:Nat}{x:Rec}(hj:Qz[j]? =some x)(hn:D j=false)(hr:∀o,ops[j]? =some o->∀e∈o.after,Region.binds .any e=true->D e.on=true)
 {q:Nat} (hq:q∈x.R) (hqn:q<x.n):gD Qz H D q=Qw x.H q:=by
 obtain⟨q1,_⟩:=dx (len:=T.len) q Qz 0 T H n T' H' n' h.chain h.Sg;rw[q1 j x hj];refine Wo _ _ _ fun i v hv=> ?_
 obtain⟨r,Pa,hd,_⟩:=ka hv;simp only[LD];exact tg h hD hj hn hr Pa (BR h Pa hj hq hqn hd)
end
end Go.CE

namespace Go.CE
open Go Go.RowKit

theorem Ok.congr{B:Nat}{S:Nat->Prop}{μ:Mu}{G G':Nat->Option Obj}{w:World}(h:Ok B S μ G w)(hg:∀i,S i->G' i=G i):Ok B S μ G' w:=
 ⟨fun i o a b c=>h.rel i o a (by rw[<-hg i a];exact b) c,fun i o im a b c d=>h.low i o im a (by rw[<-hg i a];exact b) c d,
  fun i j oi oj x y a b c d e=>h.inj i j oi oj x y a b c (by rw[<-hg i a];exact d) (by rw[<-hg j b];exact e),
  fun i o a b=>h.P1 i o a (by rw[<-hg i a];exact b),fun i j oi oj x y z a b c d=>h.sep i j oi oj x y z a b (by rw[<-hg i a];exact c) (by rw[<-hg j b];exact d)⟩
def Xw(fr:Frame)(A:Array Value)(ops:Array Oper)(l:List Nat)(k:List Item):Frame:={fr with tmps:=A,todo:=.inRegion ops l::k}
theorem TZ{fr:Frame}{A:Array Value}{ops:Array Oper}{i:Nat}{l:List Nat}{k:List Item}{o:Oper}(ho:ops[i]? =some o)(v:Value):
 (Xw fr A ops (i::l) k).finish v=Xw fr (match o.dst with|some d=>A.setIfInBounds d v|none=>A) ops l k:=by
 simp only[Frame.finish,Xw,ho,Option.bind_some];cases o.dst <;> rfl
theorem dI{P:Program}{fr:Frame}{cs:List Frame}{w:World}{A:Array Value}{ops:Array Oper}{i:Nat}{l:List Nat}{k:List Item}{o:Oper}(hm:fr.mode=.run)(ho:ops[i]? =some o)(hw:Region.wanted o (yielded ops A)=false):
 step P (lone (Xw fr A ops (i::l) k) cs w)=.next (lone ((Xw fr A ops (i::l) k).finish undef) cs w):=
 step_lone_go (by simp[stepG,stepG.exec,Xw,hm,ho,hw])
theorem Ug{P:Program}{fr:Frame}{cs:List Frame}{w:World}{A:Array Value}{ops:Array Oper}{k:List Item}(hm:fr.mode=.run):
 step P (lone (Xw fr A ops [] k) cs w)=.next (lone {fr with tmps:=A,todo:=k} cs w):=
 step_lone_go (by simp[stepG,stepG.exec,Xw,hm])
section
variable {P:Program} {B:Lo} {ops:Array Oper} {Qz:List Rec} {bs:List (List Nat)} {T:Tm} {H:Qt} {n:Nat} {T':Tm} {H':Qt} {n':Nat}
theorem Lo.has.pg{L:Lo}{S New W:Nat->Prop}{μ μ':Mu}{G G':Nat->Option Obj}{w w':World}(h:L.has w)(QE:Ok L.B S μ G w)(hp:PG L.B S New W μ μ' G G' w w'):L.has w':=by
 refine⟨Nat.le_trans h.le hp.grow,L.still w w' (fun b hb=>hp.frame b (Nat.lt_of_lt_of_le hb h.le) fun i hi im QK=> ?_) h.inv⟩;obtain⟨hs,⟨o,ho,hl⟩,Z9,QS,Ry⟩:=hp.wr i hi;rw[QK]at QS;cases QS;have:=(QE.low i o im hs ho hl QK).2.1 Ry;omega
structure Inv (B:Nat) (Qz:List Rec) (T:Tm) (H:Qt) (n:Nat) (S:Nat->Prop) (μ0:Mu) (w0:World) (D:Nat->Bool) (μ:Mu) (A:Array Value) (w:World):Prop where
 pg:PG B S (sG Qz D) (WD Qz n D) μ0 μ (Qw H) (gD Qz H D) w0 w
 size:A.size=T.len
 tmps:∀t,VR μ (tD Qz T D t) (A.getD t undef)
theorem cover(h:Setup P B ops Qz bs T H n T' H' n'){D:Nat->Bool}(hD:UP ops D){j:Nat}{x:Rec}(hj:Qz[j]? =some x)(hr:∀o,ops[j]? =some o->∀e∈o.after,Region.binds .any e=true->D e.on=true)
 {q:Nat} (hq:q∈x.R) (hqn:q<x.n):q<n\/sG Qz D q:=by
 rcases LK q n with Xp|hge
 ·exact .inl Xp
 ·have Sq:=Px Qz T H n T' H' n' h.chain h.Sg;have hx:=Sq.2.1 x (Lp hj);have hxs:=(h.Sg x (Lp hj)).le;obtain⟨i,r,hi,h1,h2⟩:=Sq.2.2.2 q hge (by omega);rcases Nat.lt_trichotomy i j with Xp|heq|hgt
  ·have hb:bears r x=true:=List.any_eq_true.2 ⟨q,hq,by simp only[YB];exact⟨LH h1,LH h2⟩⟩;have:=h.ind i j r x Xp hi hj (by simp[tied,hb]);rw[LD]at this;exact .inr ⟨i,r,o5 h hD hr i this,hi,h1,h2⟩
  ·subst heq;rw[hj]at hi;cases hi;omega
  ·have:=Sq.2.2.1 j i x r hgt hj hi;omega
theorem dC(h:Setup P B ops Qz bs T H n T' H' n'){D:Nat->Bool}(hD:UP ops D){j:Nat}{x:Rec}(hj:Qz[j]? =some x)(hn:D j=false)(hr:∀o,ops[j]? =some o->∀e∈o.after,Region.binds .any e=true->D e.on=true)
 {μ:Mu} {A:Array Value} (hA:∀t,VR μ (tD Qz T D t) (A.getD t undef)):Region.wanted x.o (yielded ops A)=Region.wanted x.o (XO ops x.T):=by
 unfold Region.wanted;cases hg:x.o.guard with
 |none=>rfl
 |some gw=>
  obtain⟨g,want⟩:=gw;have:yielded ops A g=XO ops x.T g:=by
   rw[kg,h8];cases hd:(ops[g]?).bind (·.dst)with
   |none=>rfl
   |some t=>
    have ht:t∈x.o.looksAt ops:=by simp[Oper.looksAt,hg,hd]
    have:=hA t;rw[sT h hD hj hn hr ht]at this;exact BH this
  simp only[this]
theorem A7(h:Setup P B ops Qz bs T H n T' H' n'){D:Nat->Bool}(hD:UP ops D){j:Nat}{x:Rec}(hj:Qz[j]? =some x)(hn:D j=false)(hr:∀o,ops[j]? =some o->∀e∈o.after,Region.binds .any e=true->D e.on=true)
 {μ:Mu} {A:Array Value} (hA:∀t,VR μ (tD Qz T D t) (A.getD t undef)) {fr:Frame} {l:List Nat} {k:List Item}:∀y∈x.o.op.operands,∀v,Zd x.T y=some v->VR μ v ((Xw fr A ops l k).eval y):=by
 intro y hy v hv;cases y with
 |tmp t=>
  simp only[Zd,YO]at hv;subst hv;have ht:t∈x.o.looksAt ops:=by
   unfold Oper.looksAt;exact Ln _ (List.mem_filterMap.2 ⟨.tmp t,by simpa using hy,rfl⟩)
  rw[<-sT h hD hj hn hr ht];exact hA t
 |const u=>
  simp only[Zd]at hv;cases ha:af u with
  |false=>rw[ha]at hv;cases hv
  |true=>rw[ha]at hv;simp only[cond_true,YO]at hv;subst hv;exact PC ha
 |func f=>
  simp only[Zd,YO]at hv;subst hv;exact PC rfl
 |global g=>cases hv
theorem kA(h:Setup P B ops Qz bs T H n T' H' n'){D:Nat->Bool}(hD:UP ops D){j:Nat}{x:Rec}(hj:Qz[j]? =some x)(hn:D j=false){i:Nat}{r:Rec}(hi:Qz[i]? =some r)(Xp:j<i)(ht:tied ops x r=true):D i=false:=by
 have:=h.ind j i x r Xp hj hi ht;rw[LD]at this;cases hd:D i with
 |false=>rfl
 |true=>
  have:=o5 h hD (k:=i) (fun o ho=>hD i o hd ho) j this;rw[hn]at this;cases this
def plus(D:Nat->Bool)(j:Nat):Nat->Bool:=fun k=>D k || Lf k j
theorem Va{D:Nat->Bool}{j:Nat}:plus D j j=true:=by simp[plus]
theorem V2{D:Nat->Bool}{j k:Nat}(h:k≠j):plus D j k=D k:=by simp[plus,ae h]
theorem Il(h:Setup P B ops Qz bs T H n T' H' n'){D:Nat->Bool}(hD:UP ops D){j:Nat}{x:Rec}(hj:Qz[j]? =some x)(hn:D j=false)(t:Nat):tD Qz T (plus D j) t=if x.o.dst=some t then x.v else tD Qz T D t:=by
 by_cases hd:x.o.dst=some t
 ·rw[if_pos hd];refine nR _ 0 j _ ?_ (by rw[LD];exact Va) fun i y hi hy=> ?_
  ·rw[LF,hj];simp[cT,hd]
  ·rw[LD,V2 (by omega)];obtain⟨r,Pa,hrd,_⟩:=jY hy;exact kA h hD hj hn Pa hi (hY (ops:=ops) hd (.inr hrd)).1
 ·rw[if_neg hd];refine Wo _ _ _ fun i y hy=> ?_
  obtain⟨r,Pa,hrd,_⟩:=jY hy;rw[LD];refine V2 fun e=> ?_
  subst e;rw[hj]at Pa;cases Pa;exact hd hrd
theorem A6(h:Setup P B ops Qz bs T H n T' H' n'){D:Nat->Bool}(hD:UP ops D){j:Nat}{x:Rec}(hj:Qz[j]? =some x)(hn:D j=false){q:Nat}(hq:q∈x.W\/(x.n<=q/\q<x.n')):gD Qz H (plus D j) q=Qw x.H' q:=by
 refine nR _ 0 j _ ?_ (by rw[LD];exact Va) fun i y hi hy=> ?_
 ·rw[LF,hj];simp[cH,aq.2 hq]
 ·rw[LD,V2 (by omega)];obtain⟨r,Pa,hrd,_⟩:=ka hy;have Sq:=Px Qz T H n T' H' n' h.chain h.Sg;have hsr:=h.Sg r (Lp Pa);have hsx:=h.Sg x (Lp hj);have Xp:=Sq.2.2.1 j i x r hi hj Pa;have hxl:=hsx.le;refine kA h hD hj hn Pa hi ?_;rcases hq with hq|hq
  ·rcases hrd with hrd|hrd
   ·have:meets x r=true:=List.any_eq_true.2 ⟨q,hq,by simpa using hsr.sub q hrd⟩;simp[tied,this]
   ·have:=hsx.wlt q hq;omega
  ·rcases hrd with hrd|hrd
   ·have:bears x r=true:=List.any_eq_true.2 ⟨q,hsr.sub q hrd,by simp only[YB];exact⟨LH hq.1,LH hq.2⟩⟩;simp[tied,this]
   ·omega
theorem iO{D:Nat->Bool}{j:Nat}{x:Rec}(hj:Qz[j]? =some x){q:Nat}(hq:¬(q∈x.W\/(x.n<=q/\q<x.n'))):gD Qz H (plus D j) q=gD Qz H D q:=by
 refine Wo _ _ _ fun i y hy=> ?_
 obtain⟨r,Pa,hrd,_⟩:=ka hy;rw[LD];refine V2 fun e=> ?_
 subst e;rw[hj]at Pa;cases Pa;exact hq hrd
theorem qv{D:Nat->Bool}{j:Nat}{x:Rec}(hj:Qz[j]? =some x)(i:Nat):(sG Qz D i\/(x.n<=i/\i<x.n'))<->sG Qz (plus D j) i:=by
 constructor
 ·rintro(⟨k,r,hd,hr,h1⟩|h1)
  ·exact⟨k,r,by simp[plus,hd],hr,h1⟩
  ·exact⟨j,x,Va,hj,h1⟩
 ·rintro⟨k,r,hd,hr,h1⟩;by_cases e:k=j
  ·subst e;rw[hj]at hr;cases hr;exact .inr h1
  ·rw[V2 e]at hd;exact .inl ⟨k,r,hd,hr,h1⟩
theorem xG(h:Setup P B ops Qz bs T H n T' H' n'){S:Nat->Prop}{μ0:Mu}{w0:World}(hS:∀i,S i->i<n)(hR:∀r∈Qz,∀i∈r.R,i<n->S i)(UK:P0 μ0 n n')(hB:B.has w0)(hok0:Ok B S μ0 (Qw H) w0){D:Nat->Bool}(hD:UP ops D){j:Nat}(hn:D j=false)
 (hr:∀o,ops[j]? =some o->∀e∈o.after,Region.binds .any e=true->D e.on=true) {μ:Mu} {A:Array Value} {w:World} (hi:Inv B Qz T H n S μ0 w0 D μ A w) {fr:Frame} {cs:List Frame} {l:List Nat} {k:List Item} (hm:fr.mode=.run)
 {x:Rec} (hj:Qz[j]? =some x) {out:OO} (hdo:Tk P B x.o (Zd x.T) x.H x.n out x.H' x.n' x.R x.W) (VU:Region.wanted x.o (XO ops x.T)=true):
 ∃Zg μ' w',PG B S (sG Qz (plus D j)) (WD Qz n (plus D j)) μ0 μ' (Qw H) (gD Qz H (plus D j)) w0 w'/\Ext μ μ'/\OR2 μ' out Zg/\Steps P (lone (Xw fr A ops (j::l) k) cs w) (lone (Zg.on (Xw fr A ops (j::l) k)) cs w'):=by
 have hx:=Lp hj;have hsx:=h.Sg x hx;have Wb:=h.own j x hj;have Sq:=Px Qz T H n T' H' n' h.chain h.Sg;have hxn:=Sq.2.1 x hx;have hnewn:∀i,x.n<=i->i<x.n'->¬sG Qz D i:=by
  rintro i h1 h2 ⟨q,r,a,b,c,d⟩;rcases Nat.lt_trichotomy q j with hq|hq|hq
  ·have:=Sq.2.2.1 q j r x hq b hj;omega
  ·subst hq;rw[hn]at a;cases a
  ·have:=Sq.2.2.1 j q x r hq hj b;omega
 have hsub:∀i,(i∈x.R/\i<x.n)->S i\/sG Qz D i:=fun i hi=>(cover h hD hj hr hi.1 hi.2).imp (hR x hx i hi.1) id
 have hgc:∀i,(i∈x.R/\i<x.n)->Qw x.H i=gD Qz H D i:=fun i hi=>(Hx h hD hj hn hr hi.1 hi.2).symm
 have XF:∀i,x.n<=i->i<x.n'->μ i=none:=fun i h1 h2=>by rw[hi.pg.ext i (hnewn i h1 h2)];exact UK i (by omega) (by omega)
 have Ya:Region.wanted x.o (yielded ops A)=true:=by rw[dC h hD hj hn hr hi.tmps];exact VU
 obtain⟨Zg,w',μ',Zv,ZU,Zh⟩:=hdo (fun i=>i∈x.R/\i<x.n) μ w (Xw fr A ops (j::l) k) cs k ops j l ((hi.pg.ok.sub hsub).congr hgc) (hB.pg hok0 hi.pg) (fun i hi=>hi.2) (fun i h1 h2=>XF i h1 h2)
  (A7 h hD hj hn hr hi.tmps) (fun i h1 h2=>⟨h1,h2⟩) hm rfl Wb Ya
 refine⟨Zg,μ',w',(hi.pg.then (Zv.pg hsx.top) hsub hgc (fun i hi=>⟨fun hs=>by have:=hS i hs;omega,hnewn i hi.1 hi.2⟩) (fun i hi=>XF i hi.1 hi.2) (G2:=gD Qz H (plus D j)) (fun i hi=>A6 h hD hj hn (hi.imp And.left id))
  (fun i h1 h2=>iO hj ?_)).congr (qv hj) (fun i=> ?_) (fun _=>rfl),Zv.mu fun i h1 h2=>XF i h1 h2,ZU,Zh⟩
 ·rintro(hw|hw)
  ·have:=hsx.wlt i hw;rcases LK i x.n with ha|ha
   ·exact h1 ⟨hw,ha⟩
   ·exact h2 ⟨ha,this⟩
  ·exact h2 hw
 ·constructor
  ·rintro(⟨a,q,r,b,c,d⟩|⟨⟨a,b⟩,c⟩)
   ·exact⟨a,q,r,by simp[plus,b],c,d⟩
   ·exact⟨(cover h hD hj hr (hsx.sub i a) b).elim id fun e=>absurd e c,j,x,Va,hj,a⟩
  ·rintro⟨a,q,r,b,c,d⟩;by_cases e:q=j
   ·subst e;rw[hj]at c;cases c;refine .inr ⟨⟨d,by omega⟩, ?_⟩;rintro⟨q',r',_,b',c',_⟩;have:=(Sq.2.1 r' (Lp b')).1;omega
   ·rw[V2 e]at b;exact .inl ⟨a,q,r,b,c,d⟩
theorem xF(h:Setup P B ops Qz bs T H n T' H' n'){S:Nat->Prop}{μ0:Mu}{w0:World}(hS:∀i,S i->i<n)(hR:∀r∈Qz,∀i∈r.R,i<n->S i)(UK:P0 μ0 n n')(hB:B.has w0)(hok0:Ok B S μ0 (Qw H) w0){D:Nat->Bool}(hD:UP ops D){j:Nat}(Xp:j<ops.size)(hn:D j=false)
 (hk:∀x,Qz[j]? =some x->Se P B ops x) (hr:∀o,ops[j]? =some o->∀e∈o.after,Region.binds .any e=true->D e.on=true) {μ:Mu} {A:Array Value} {w:World} (hi:Inv B Qz T H n S μ0 w0 D μ A w) {fr:Frame} {cs:List Frame} {l:List Nat} {k:List Item} (hm:fr.mode=.run):
 ∃μ' A' w',Inv B Qz T H n S μ0 w0 (plus D j) μ' A' w'/\Steps P (lone (Xw fr A ops (j::l) k) cs w) (lone (Xw fr A' ops l k) cs w'):=by
 obtain⟨x,hj⟩:∃x,Qz[j]? =some x:=⟨Qz[j]'(by rw[h.len];exact Xp),by simp⟩
 have hx:=Lp hj;have hsx:=h.Sg x hx;have Wb:=h.own j x hj;obtain⟨VU,hdo,hno⟩:=hk x hj;have Sq:=Px Qz T H n T' H' n' h.chain h.Sg;have hxn:=Sq.2.1 x hx;have hdst:∀d,x.o.dst=some d->d<A.size:=fun d hd=>by rw[hi.size];exact(hsx.dst d hd).1
 have put:∀(μ':Mu) v',Ext μ μ'->VR μ' x.v v'->(match x.o.dst with|some d=>A.setIfInBounds d v'|none=>A).size=T.len/\∀t,VR μ' (tD Qz T (plus D j) t) ((match x.o.dst with|some d=>A.setIfInBounds d v'|none=>A).getD t undef):=by
  intro μ' v' he hv;refine⟨?_,fun t=> ?_⟩
  ·cases x.o.dst <;> simp[hi.size]
  ·rw[Il h hD hj hn t];have ho:=(hi.tmps t).mono he;cases hd:x.o.dst with
   |none=>simpa using ho
   |some d=>
    have hdl:=hdst d hd;simp only[YO];by_cases e:d=t
    ·subst e;simpa[hdl]using hv
    ·simp[e]at ho ⊢;exact ho
 cases hrx:x.run with
 |false=>
  obtain⟨hv,hH,hnn,hW⟩:=hno hrx;have Ya:Region.wanted x.o (yielded ops A)=false:=by rw[dC h hD hj hn hr hi.tmps,<-VU];exact hrx
  obtain⟨p1,p2⟩:=put μ undef (Ext.refl _) (by rw[hv];exact VR.undef);refine⟨μ,_,w,⟨hi.pg.congr (fun i=> ?_) (fun i=> ?_) (fun i=> ?_),p1,p2⟩,Steps.one ((dI hm Wb Ya).trans (by rw[TZ Wb]))⟩
  ·rw[<-qv hj i];exact⟨.inl,fun h=>h.elim id fun h=>absurd h.1 (by omega)⟩
  ·refine and_congr Iff.rfl ⟨?_, ?_⟩
   ·rintro⟨q,r,a,b,c⟩;exact⟨q,r,by simp[plus,a],b,c⟩
   ·rintro⟨q,r,a,b,c⟩;by_cases e:q=j
    ·subst e;rw[hj]at b;cases b;rw[hW]at c;simp at c
    ·rw[V2 e]at a;exact⟨q,r,a,b,c⟩
  ·exact(iO hj (by rw[hW];rintro(h|h) <;> first|(simp at h;done)|omega)).symm
 |true=>
  obtain⟨Zg,μ',w',hpg,hext,ZU,Zh⟩:=xG h hS hR UK hB hok0 hD hn hr hi (fr:=fr) (cs:=cs) (l:=l) (k:=k) hm hj (hdo hrx) (by rw[<-VU];exact hrx);cases ZU with
  |ret hv=>
   rename_i v';obtain⟨p1,p2⟩:=put μ' v' hext hv;exact⟨μ',_,w',⟨hpg,p1,p2⟩,Zh.trans (by simp only[OO.on];rw[TZ Wb];exact Steps.refl _ _)⟩
end
end Go.CE
