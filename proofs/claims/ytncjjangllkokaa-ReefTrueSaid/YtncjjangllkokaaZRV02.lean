import Derived.Test.YtncjjangllkokaaZRV01
set_option linter.all false
open Nat renaming blt->On,ble_eq_true_of_le->OB,beq->Of,ble->ON,min->OU,le_refl->OE,lt_or_ge->OG,strongRecOn->Ox,zero_add->Oz
open Option renaming map_some->OF
open Array renaming getElem?_toList->Om,eq_empty_of_size_eq_zero->OM
open List renaming getElem?_cons_zero->Oq,mem_cons_of_mem->Ot,mem_of_getElem? ->Oj,getD_eq_getElem?_getD->Ol,getElem?_append_left->Ow,range->Oe,getElem?_append_right->Og,getElem?_map->OA,getElem?_eq_getElem->O1,mem_append_left->Oh
namespace Go.CE
open Go Go.RowKit

def iL:Nat:=9223372036854775808
def wq(n:Int):Int:=match n with
 | .ofNat m=>bif On m iL then .ofNat m else IntKind.i64.wrap (.ofNat m)
 | .negSucc m=>bif On m iL then .negSucc m else IntKind.i64.wrap (.negSucc m)
theorem blt_eq(m k:Nat):On m k=decide (m<k):=by
 by_cases h:m<k
 ·rw[decide_eq_true h];exact OB h
 ·rw[decide_eq_false h];cases e:On m k with
  |false=>rfl
  |true=>exact absurd (YL e) h
theorem Lm(m k:Nat):Of m k=decide (m=k):=by
 by_cases h:m=k
 ·subst h;simp
 ·rw[T9 h,decide_eq_false h]
theorem LH(m:Nat):wq (.ofNat m)=IntKind.i64.wrap (.ofNat m):=by
 show(bif On m iL then Int.ofNat m else IntKind.i64.wrap (.ofNat m))=_;rw[blt_eq];by_cases h:m<iL
 ·rw[decide_eq_true h,cond_true,IntKind.wrap_i64,Int.ofNat_eq_natCast];unfold iL at h;omega
 ·rw[decide_eq_false h,cond_false]
theorem LI(m:Nat):wq (.negSucc m)=IntKind.i64.wrap (.negSucc m):=by
 show(bif On m iL then Int.negSucc m else IntKind.i64.wrap (.negSucc m))=_;rw[blt_eq];by_cases h:m<iL
 ·rw[decide_eq_true h,cond_true,IntKind.wrap_i64,Int.negSucc_eq];unfold iL at h;omega
 ·rw[decide_eq_false h,cond_false]
theorem Lt(n:Int):wq n=IntKind.i64.wrap n:=by
 cases n with
 |ofNat m=>exact LH m
 |negSucc m=>exact LI m
def XS:Int->Int->Bool
 | .ofNat a,.ofNat b=>On a b
 | .ofNat _,.negSucc _=>false
 | .negSucc _,.ofNat _=>true
 | .negSucc a,.negSucc b=>On b a
theorem sf(a b:Int):XS a b=decide (a<b):=by
 rw[Bool.eq_iff_iff];cases a <;> cases b <;> simp only[XS,blt_eq,Int.ofNat_eq_natCast,Int.negSucc_eq,decide_eq_true_eq,Bool.false_eq_true,false_iff,true_iff] <;> omega
def Y6:Int->Int->Bool
 | .ofNat a,.ofNat b=>Of a b
 | .negSucc a,.negSucc b=>Of a b
 |_,_=>false
theorem gF(a b:Int):Y6 a b=(a==b):=by
 rw[Bool.eq_iff_iff];cases a <;> cases b <;> simp only[Y6,Lm,beq_iff_eq,decide_eq_true_eq,Int.ofNat_eq_natCast,Int.negSucc_eq,Bool.false_eq_true,false_iff] <;> omega
def AQ:BinOp->Value->Value->Option Value
 | .add,.int .i64 a,.int .i64 b=>some (.int .i64 (wq (a+b)))
 | .sub,.int .i64 a,.int .i64 b=>some (.int .i64 (wq (a-b)))
 | .mul,.int .i64 a,.int .i64 b=>some (.int .i64 (wq (a*b)))
 | .eql,.int .i64 a,.int .i64 b=>some (.bool (Y6 a b))
 | .neq,.int .i64 a,.int .i64 b=>some (.bool (!(Y6 a b)))
 | .lss,.int .i64 a,.int .i64 b=>some (.bool (XS a b))
 | .gtr,.int .i64 a,.int .i64 b=>some (.bool (XS b a))
 | .leq,.int .i64 a,.int .i64 b=>some (.bool (!(XS b a)))
 | .geq,.int .i64 a,.int .i64 b=>some (.bool (!(XS a b)))
 |_,_,_=>none
theorem HH{P:Program}{op:BinOp}{t:TypeId}{x y:Operand}{a b v:Value}(h:AQ op a b=some v)(w:World):(do eqGuard op t x y a b;binOp op t a b:Sem Value).run P w=.ok v w/\(∀μ,VR μ v v)/\(∀μ a',VR μ a a'->a'=a)/\(∀μ b',VR μ b b'->b'=b):=by
 have hle:∀a b:Int,(!(XS b a))=decide (a<=b):=fun a b=>by
  rw[sf,Bool.eq_iff_iff];simp only[Bool.not_eq_true',decide_eq_false_iff_not,decide_eq_true_eq];omega
 unfold AQ at h;split at h <;> first
  |(cases h;done)
  |(simp only[YO]at h
    subst h;refine⟨?_,fun μ=>by first|exact .int _ _|exact .bool _,fun μ a' ha=>by cases ha;rfl,fun μ b' hb=>by cases hb;rfl⟩
    first
     |(simp[eqGuard,binOp,Op.intArith,Lt];done)
     |(simp[eqGuard,binOp,Op.intCmp,gF];done)
     |(simp[eqGuard,binOp,Op.intCmp,gF,bne];done)
     |(simp[eqGuard,binOp,Op.intCmp,sf];done)
     |(simp[eqGuard,binOp,Op.intCmp,hle];done))

theorem dO{α β:Type}{P:Program}(s:Sem α)(f:α->Sem β):ZC P (s >>=f)=match ZC P s with|some a=>ZC P (f a)|none=>none:=by
 show ZC P (s.bind f)=_;induction s with
 |pure a=>rfl
 |program k ih=>exact ih P
 |_=>rfl
theorem Th{α:Type}{P:Program}(a:α):ZC P (pure a:Sem α)=some a:=rfl

def ER(μ:Mu)(es KK:List MapEntry):Prop:=es.length=KK.length/\∀(i:Nat) e e',es[i]? =some e->KK[i]? =some e'->e'.key=e.key/\e'.born=e.born/\af e.key=true/\VR μ e.val e'.val
theorem ER.tail{μ:Mu}{e e':MapEntry}{es KK:List MapEntry}(h:ER μ (e::es) (e'::KK)):ER μ es KK:=⟨by simpa using h.1,fun i a b x y=>h.2 (i+1) a b (by simpa using x) (by simpa using y)⟩
def FR(μ:Mu):Option (Nat×Value)->Option (Nat×Value)->Prop
 |none,none=>True
 |some (i,v),some (i',v')=>i'=i/\VR μ v v'
 |_,_=>False
theorem oh{μ:Mu}{kind:TypeDesc}{k:Value}:∀(es KK:List MapEntry) (i:Nat),ER μ es KK->(∀r,Instr.findNow kind k es i=some r->∃r',Instr.findNow kind k KK i=some r'/\FR μ r r')/\(Instr.findNow kind k es i=none->Instr.findNow kind k KK i=none)
 |[],[],i,_=>by
  refine⟨fun r h=> ?_,fun h=>by simp[Instr.findNow]at h⟩;simp only[Instr.findNow,YO]at h;subst h;exact⟨none,rfl,trivial⟩
 |e::es,e'::KK,i,h=>by
  obtain⟨h1,_,_,h4⟩:=h.2 0 e e' rfl rfl;simp only[Instr.findNow,h1];cases Instr.sameNow kind k e.key with
  |none=>exact⟨fun r h=>(by cases h),fun _=>rfl⟩
  |some b=>
   cases b with
   |true=>exact⟨fun r h=>by simp only[YO]at h;subst h;exact⟨_,rfl,rfl,h4⟩,fun h=>by cases h⟩
   |false=>exact oh es KK (i+1) h.tail
 |[],_::_,_,h=>by have:=h.1;simp at this
 |_::_,[],_,h=>by have:=h.1;simp at this
theorem cf{P:Program}{μ:Mu}{kt:TypeId}{k:Value}:∀(es KK:List MapEntry) (i:Nat) r,ER μ es KK->ZC P (Instr.findAsking kt k es i)=some r->∃r',ZC P (Instr.findAsking kt k KK i)=some r'/\FR μ r r'
 |[],[],i,r,_,h=>by
  simp only[Instr.findAsking,Th,YO]at h;subst h;exact⟨none,rfl,trivial⟩
 |e::es,e'::KK,i,r,h,hr=>by
  obtain⟨h1,_,_,h4⟩:=h.2 0 e e' rfl rfl;simp only[Instr.findAsking,h1,dO]at hr ⊢;cases hq:ZC P (Op.equal kt k e.key)with
  |none=>rw[hq]at hr;cases hr
  |some b=>
   rw[hq]at hr;cases b with
   |true=>
    simp only[if_true,Th,YO]at hr ⊢;subst hr;exact⟨_,rfl,rfl,h4⟩
   |false=>
    simp only[Bool.false_eq_true,if_false]at hr ⊢;exact cf es KK (i+1) r h.tail hr
 |[],_::_,_,_,h,_=>by have:=h.1;simp at this
 |_::_,[],_,_,h,_=>by have:=h.1;simp at this
theorem cZ{P:Program}{μ:Mu}{kt:TypeId}{k:Value}{es KK:List MapEntry}{r:Option (Nat×Value)}(h:ER μ es KK)(hr:ZC P (Instr.findKey kt k es)=some r):∃r',ZC P (Instr.findKey kt k KK)=some r'/\FR μ r r':=by
 simp only[Instr.findKey,dO]at hr ⊢;cases hu:ZC P (underlying kt)with
 |none=>rw[hu]at hr;cases hr
 |some d=>
  rw[hu]at hr;dsimp only at hr ⊢;obtain⟨h1,h2⟩:=oh (kind:=d) (k:=k) es KK 0 h;cases hf:Instr.findNow d k es 0 with
  |some r0=>
   rw[hf]at hr;obtain⟨r',hr',hv⟩:=h1 r0 hf;simp only[Th,YO]at hr;subst hr;rw[hr'];exact⟨r',rfl,hv⟩
  |none=>
   rw[hf]at hr;rw[h2 hf];exact cf es KK 0 r h hr
theorem ER.of{μ:Mu}{es KK:Array MapEntry}(h1:es.size=KK.size)(h2:∀(i:Nat) e e',es[i]? =some e->KK[i]? =some e'->e'.key=e.key/\e'.born=e.born/\af e.key=true/\VR μ e.val e'.val):ER μ es.toList KK.toList:=
 ⟨by simpa using h1,fun i a b x y=>h2 i a b (by simpa using x) (by simpa using y)⟩
theorem cY{P:Program}{w:World}{b:Nat}{es:Array MapEntry}{RG:Nat}(h:w.heap[b]? =some (.map es RG)):(getObj b).run P w=.ok (.map es RG) w:=by simp[getObj,Sem.run,h]
def fq(P:Program)(t:TypeId)(H:Qy)(ok:Bool)(x k:Value):Option (Value×List Nat):=
 match Rg P t with
 |some (.map kt e)=>
  match(match x with
   | .map none=>some (#[],[])
   | .map (some r)=>match Q1 H r with
     |some (.map es _)=>some (es,[r])
     |_=>none
   |_=>none:Option (Array MapEntry×List Nat))with
  |some (es,R)=>bif af k then
   match ZC P (Instr.checkKey es.isEmpty 10000 kt k),ZC P (Instr.findKey kt k es.toList),zeroOf P e with
   |some (),some (some (_,v)),_=>some (bif ok then .tuple #[v,.bool true]else v,R)
   |some (),some none,some z=>bif af z then some (bif ok then .tuple #[z,.bool false]else z,R)else none
   |_,_,_=>none
    else none
  |none=>none
 |_=>none
theorem Bc{μ:Mu}{a a' b b':Value}(h:VR μ a a')(k:VR μ b b'):VR μ (.tuple #[a,b]) (.tuple #[a',b']):=by
 refine .tuple rfl fun i v v' hv ZT=> ?_
 rcases i with _|_|i
 ·simp at hv ZT;subst hv ZT;exact h
 ·simp at hv ZT;subst hv ZT;exact k
 ·simp at hv
theorem yh{P:Program}{B:Nat}{S:Nat->Prop}{μ:Mu}{H:Qy}{w:World}{t:TypeId}{ok:Bool}{x k x' k' v:Value}{R:List Nat}(h:fq P t H ok x k=some (v,R))(QF:Ok B S μ (Q1 H) w)(hx:VR μ x x')(hk:VR μ k k')(hR:∀i∈R,S i):
 ∃v',(Instr.lookup t x' k' ok).run P w=.ok v' w/\VR μ v v':=by
 unfold fq at h;simp only[Z1]at h;split at h
 ·rename_i kt e hu;split at h
  ·rename_i es R0 hes;cases hak:af k with
   |false=>rw[hak]at h;cases h
   |true=>
    rw[hak]at h;simp only[cond_true]at h;have hkk:k'=k:=SU hak hk;subst hkk;have hRR:R0=R:=by
     split at h
     ·simp only[YO,YR]at h;exact h.2
     ·rename_i z _ _ _;cases hz:af z with
      |false=>rw[hz]at h;cases h
      |true=>rw[hz]at h;simp only[cond_true,YO,YR]at h;exact h.2
     ·cases h
    subst hRR
    -- the entries in the world
    have hent:∃KK,ER μ es.toList KK.toList/\(x'=.map none/\KK=#[]\/∃b RG,x'=.map (some b)/\w.heap[b]? =some (.map KK RG)):=by
     split at hes
     ·simp only[YO,YR]at hes;obtain⟨rfl,_⟩:=hes;cases hx;exact⟨#[],⟨rfl,fun i a b x _=>by simp at x⟩,.inl ⟨rfl,rfl⟩⟩
     ·rename_i r;split at hes
      ·rename_i es0 RG hg;simp only[YO,YR]at hes;obtain⟨rfl,rfl⟩:=hes;obtain⟨im,QN,_,KK,hw,h1,h2⟩:=QF.rel r _ (hR r (by simp)) hg trivial;cases hx with
       |map hm=>
        rw[QN]at hm;cases hm;exact⟨KK,.of h1 h2,.inr ⟨im.Zz,RG,rfl,hw⟩⟩
      ·cases hes
     ·cases hes
    obtain⟨KK,hER,Uj⟩:=hent;have hemp:KK.isEmpty=es.isEmpty:=by
     have h1:=hER.1;simp only[Array.length_toList]at h1;rw[Bool.eq_iff_iff];simp only[Array.isEmpty_iff_size_eq_zero];omega
    have run2:∀r v0,ZC P (Instr.checkKey es.isEmpty 10000 kt k')=some ()->ZC P (Instr.findKey kt k' es.toList)=some r->
     (∀r',FR μ r r'->∃v',(do let(v,ok') <-(match r' with|some (_,v)=>pure (v,true)|none=>do pure (<-zeroValue e,false):Sem (Value×Bool));pure (if ok then .tuple #[v,.bool ok']else v):Sem Value).run P w=.ok v' w/\VR μ v0 v')->
     ∃v',(Instr.lookup t x' k' ok).run P w=.ok v' w/\VR μ v0 v':=by
     intro r v0 hc hf hfin;obtain⟨r',hr',XP⟩:=cZ hER hf;obtain⟨v',ZT,Ul⟩:=hfin r' XP;refine⟨v', ?_,Ul⟩;have hc':=Uv hc w;have hr'':=Uv hr' w;rw[<-hemp]at hc';simp only[Sem.run_bind]at ZT;rcases Uj with ⟨rfl,rfl⟩|⟨b,RG,rfl,hw⟩
     ·simp only[Instr.lookup,Sem.run_bind,run_underlying hu,Result.andThen_ok,Sem.run_pure,hc',hr''];cases r' <;> first|simpa using ZT|(simp only[Sem.run_bind]at ZT;cases hzr:Sem.run P (zeroValue e) w <;> rw[hzr]at ZT <;> first|(cases ZT;done)|simpa[hzr]using ZT)
     ·simp only[Instr.lookup,Sem.run_bind,run_underlying hu,Result.andThen_ok,Sem.run_pure,cY hw,hc',hr''];cases r' <;> first|simpa using ZT|(simp only[Sem.run_bind]at ZT;cases hzr:Sem.run P (zeroValue e) w <;> rw[hzr]at ZT <;> first|(cases ZT;done)|simpa[hzr]using ZT)
    split at h
    ·rename_i i0 v0 hc hf;simp only[YO,YR]at h;obtain⟨rfl,_⟩:=h;refine run2 _ _ hc hf fun r' XP=> ?_
     cases r' with
     |none=>exact XP.elim
     |some p=>
      obtain⟨i',v'⟩:=p;cases ok with
      |true=>exact⟨_,rfl,Bc XP.2 (.bool true)⟩
      |false=>exact⟨_,rfl,XP.2⟩
    ·rename_i z hc hf hz;cases haz:af z with
     |false=>rw[haz]at h;cases h
     |true=>
      rw[haz]at h;simp only[cond_true,YO,YR]at h;obtain⟨rfl,_⟩:=h;refine run2 _ _ hc hf fun r' XP=> ?_
      cases r' with
      |some p=>exact XP.elim
      |none=>
       cases ok with
       |true=>exact⟨.tuple #[z,.bool false],by simp[cn hz],Bc (PJ haz) (.bool false)⟩
       |false=>exact⟨z,by simp[cn hz],PJ haz⟩
    ·cases h
  ·cases h
 ·cases h
def Jc(P:Program)(t:TypeId)(H:Qy)(x k v:Value):Option (Qy×Nat):=
 match Rg P t,x with
 |some (.map kt _),.map (some r)=>match Q1 H r with
  |some (.map es RG)=>bif af k then
   match ZC P (Instr.checkKey false 10000 kt k),ZC P (Instr.findKey kt k es.toList)with
   |some (),some (some (i,_))=>match es[i]? with
    |some e=>bif Instr.sameBits 10000 e.key k then some (VK H r (.map (es.setIfInBounds i {e with key:=k,val:=v}) RG),r)else none
    |none=>none
   |some (),some none=>some (VK H r (.map (es.push {key:=k,val:=v,born:=RG}) (RG+1)),r)
   |_,_=>none
    else none
  |_=>none
 |_,_=>none
theorem kN{P:Program}{w:World}{b:Nat}{es:Array MapEntry}{RG:Nat}(o:Obj)(h:w.heap[b]? =some (.map es RG)):(setObj b o).run P w=.ok () {w with heap:=w.heap.setIfInBounds b o}:=by simp[setObj,Sem.run,h]
theorem o6{P:Program}{B n:Nat}{S:Nat->Prop}{μ:Mu}{H H':Qy}{w:World}{t:TypeId}{x k v x' k' v':Value}{b:Nat}(h:Jc P t H x k v=some (H',b))(QF:Ok B S μ (Q1 H) w)(hS:∀i,S i->i<n)(hx:VR μ x x')(hk:VR μ k k')(hv:VR μ v v')(hb:S b):
 ∃w',(Instr.mapUpdate t x' k' v').run P w=.ok () w'/\Post B S n n [b] μ μ H H' w w':=by
 unfold Jc at h;simp only[Z1]at h;split at h
 ·rename_i kt e0 r hu;split at h
  ·rename_i es RG hg;cases hak:af k with
   |false=>rw[hak]at h;cases h
   |true=>
    rw[hak]at h;simp only[cond_true]at h;have hkk:k'=k:=SU hak hk;subst hkk;have hbr:r=b:=by
     split at h
     ·split at h
      ·rename_i e _;cases hs:Instr.sameBits 10000 e.key k' with
       |false=>rw[hs]at h;cases h
       |true=>rw[hs]at h;simp only[cond_true,YO,YR]at h;exact h.2
      ·cases h
     ·simp only[YO,YR]at h;exact h.2
     ·cases h
    subst hbr;obtain⟨im,QN,hr,KK,hw,h1,h2⟩:=QF.rel r _ hb hg trivial;have hER:=ER.of h1 h2;have Xw:im.Zz<w.heap.size:=(Array.getElem?_eq_some_iff.1 hw).1;cases hx with
    |map hm=>
     rw[QN]at hm;cases hm;have fin:∀(es2 es2':Array MapEntry) (clk2:Nat),ER μ es2.toList es2'.toList->
      Post B S n n [r] μ μ H (VK H r (.map es2 clk2)) w {w with heap:=w.heap.setIfInBounds im.Zz (.map es2' clk2)}:=by
      intro es2 es2' clk2 hE;refine Post.write QF hS r _ _ im hb hg trivial QN hr (by simp) (fun q hq=> ?_) ⟨hr,es2', ?_,by simpa using hE.1,fun i a c ha hc=>hE.2 i a c (by simpa using ha) (by simpa using hc)⟩ ⟨rfl,rfl,rfl⟩
      ·simp[Array.getElem?_setIfInBounds_ne (Ne.symm hq)]
      ·simp[Xw]
     split at h
     ·rename_i i v0 hc hf;split at h
      ·rename_i e he;cases hs:Instr.sameBits 10000 e.key k' with
       |false=>rw[hs]at h;cases h
       |true=>
        rw[hs]at h;simp only[cond_true,YO,YR]at h;obtain⟨rfl,_⟩:=h;obtain⟨r',hr',XP⟩:=cZ hER hf;cases r' with
        |none=>exact XP.elim
        |some p=>
         obtain⟨i',v0'⟩:=p;obtain⟨rfl,_⟩:=XP;have hi:i'<KK.size:=h1 ▸ (Array.getElem?_eq_some_iff.1 he).1;obtain⟨e',he'⟩:∃e',KK[i']? =some e':=⟨KK[i'],by simp[hi]⟩
         obtain⟨q1,q2,q3,q4⟩:=h2 i' e e' he he';have hmod:KK.modify i' (fun e=>{e with key:=k',val:=v'})=KK.setIfInBounds i' {e' with key:=k',val:=v'}:=by
          apply Array.ext (by simp);intro j hj hj';simp only[Array.size_modify]at hj;have hee:KK[i']=e':=by simpa[hi]using he'
          rw[Array.getElem_modify];by_cases e1:i'=j
          ·subst e1;simp[hee]
          ·simp[e1,hj]
         refine⟨_, ?_,fin _ (KK.setIfInBounds i' {e' with key:=k',val:=v'}) RG ?_⟩
         ·simp only[Instr.mapUpdate,Sem.run_bind,run_underlying hu,Result.andThen_ok,cY hw,Uv hc,Uv hr',he',OF,Option.getD_some,q1,Instr.keyThatStays,hs,if_true,Sem.run_pure];rw[kN _ hw,hmod]
         ·refine⟨by simpa using h1,fun j a c ha hc=> ?_⟩;simp only[Om]at ha hc;rw[Array.getElem?_setIfInBounds]at ha hc;by_cases e1:i'=j
          ·subst e1;rw[if_pos rfl]at ha hc;rw[if_pos (by rw[h1];exact hi)]at ha;rw[if_pos hi]at hc;cases ha;cases hc;exact⟨rfl,q2,hak,hv⟩
          ·rw[if_neg e1]at ha hc;exact h2 j a c ha hc
      ·cases h
     ·rename_i hc hf;simp only[YO,YR]at h;obtain⟨rfl,_⟩:=h;obtain⟨r',hr',XP⟩:=cZ hER hf;cases r' with
      |some p=>exact XP.elim
      |none=>
       refine⟨_, ?_,fin _ (KK.push {key:=k',val:=v',born:=RG}) (RG+1) ?_⟩
       ·simp only[Instr.mapUpdate,Sem.run_bind,run_underlying hu,Result.andThen_ok,cY hw,Uv hc,Uv hr'];rw[kN _ hw]
       ·refine⟨by simpa using h1,fun j a c ha hc=> ?_⟩;simp only[Om]at ha hc;rw[Array.getElem?_push]at ha hc;rw[<-h1]at hc;split at ha
        ·rename_i e1;rw[if_pos e1]at hc;cases ha;cases hc;exact⟨rfl,rfl,hak,hv⟩
        ·rename_i e1;rw[if_neg e1]at hc;exact h2 j a c ha hc
     ·cases h
  ·cases h
 ·cases h
def yi(P:Program)(t:TypeId)(H:Qy)(n:Nat)(s x:Value):Option CR:=
 match Rg P t with
 |some (.slice e)=>match W8 P e with
  |some z=>match s,x with
   | .slice (some ⟨b,off,none⟩) k _,.slice (some ⟨b2,off2,none⟩) m _=>match Q1 H b,Q1 H b2 with
     |some (.cells cs te (0,0)),some (.cells cs2 _ _)=>
      bif ON (off+OU m k*z) cs.size && ON (off2+OU m k*z) cs2.size && ones (cs2.extract off2 (off2+OU m k*z))then
       some ⟨.val (.int .i64 (OU m k)),VK H b (.cells (splice cs off (cs2.extract off2 (off2+OU m k*z))) te (0,0)),n,[b,b2],[b]⟩else none
     |_,_=>none
   |_,_=>none
  |none=>none
 |_=>none
theorem E1{P:Program}{B n:Nat}{S:Nat->Prop}{μ:Mu}{H:Qy}{w:World}{t t2 ty:TypeId}{s x s' x':Value}{r:CR}(h:yi P t H n s x=some r)(QF:Ok B S μ (Q1 H) w)(hS:∀i,S i->i<n)
 (hs:VR μ s s') (hx:VR μ x x') (hR:∀i∈r.R,S i):
 ∃v w',(Builtin.copy_ #[t,t2] ty #[s',x']).run P w=.ok v w'/\Post B S n r.n r.W μ μ H r.H w w'/\r.nx=.val v/\VR μ v v/\r.n=n:=by
 unfold yi at h;simp only[Z1]at h;split at h
 ·rename_i e hu;split at h
  ·rename_i z hz;split at h
   ·rename_i b off k cap b2 off2 m cap2;split at h
    ·rename_i cs te cs2 te2 fz2 hg hg2;cases hcond:(ON (off+OU m k*z) cs.size && ON (off2+OU m k*z) cs2.size && ones (cs2.extract off2 (off2+OU m k*z)))with
     |false=>rw[hcond]at h;cases h
     |true=>
      rw[hcond]at h;simp only[cond_true,YO]at h;subst h;simp only[YB]at hcond;obtain⟨⟨h1,h2⟩,h3⟩:=hcond;have h1:=YL h1;have h2:=YL h2;have hb:S b:=hR b (by simp);have Se:S b2:=hR b2 (by simp);obtain⟨im,QN,ZS⟩:=QF.rel b _ hb hg trivial;obtain⟨im2,Vb,hor2⟩:=QF.rel b2 _ Se hg2 trivial;cases hs with
      |slice har q1 q2 q3=>
       obtain⟨ZB,QT,_,rfl⟩:=har;simp only at QT;rw[QN]at QT;cases QT;cases hx with
       |slice har2 p1 p2 p3=>
        obtain⟨im2',him2',_,rfl⟩:=har2;simp only at him2';rw[Vb]at him2';cases him2';obtain⟨xs,hload,hxs⟩:=hor2.cells (P:=P) (off:=off2) (s:=OU m k*z) h2;have hxsz:xs.size=OU m k*z:=by rw[<-hxs.1];simp;omega
        have hexsz:(cs2.extract off2 (off2+OU m k*z)).size=OU m k*z:=by simp;omega
        rcases ZS with ⟨_,hr,ho,arr,ha,hle,hcap,hc⟩|⟨hz0,_⟩
        ·have Wh:=run_storeCells_at (P:=P) im.Zz off te xs.toList 0 arr w ha (by simp[hxsz];omega) (hxs.ones h3);simp only[Nat.add_zero]at Wh;refine⟨.int .i64 (OU m k),w.setRow im.Zz (CE.splice arr off xs), ?_,Post.write QF hS b _ (.cells (CE.splice cs off (cs2.extract off2 (off2+OU m k*z))) te (0,0)) im hb hg trivial QN hr (w':=w.setRow im.Zz (CE.splice arr off xs)) ?_ ?_ ?_ ⟨rfl,rfl,rfl⟩,rfl,.int _ _,rfl⟩
         ·simp[Builtin.copy_,Builtin.lenOf,Builtin.firstCells,Sem.run_bind,Sem.run_pure,Result.andThen_ok,run_underlying hu,Zx hz,hload,ho,Wh,CE.splice,goInt]
         ·simp[World.setRow]
         ·intro y hy;exact setRow_other w im.Zz y _ hy
         ·refine .inl ⟨rfl,hr,ho,CE.splice arr off xs,setRow_heap w im.Zz arr _ te _ ha, ?_, ?_, ?_⟩
          ·rw[WN (by rw[hexsz];omega),WN (by rw[hxsz];omega)];exact hle
          ·rw[WN (by rw[hxsz];omega)];exact hcap
          ·exact VRs.splice (by rw[hexsz];omega) hle hc hxs
        ·exact absurd rfl hz0
    ·cases h
   ·cases h
  ·cases h
 ·cases h
end Go.CE

namespace Go.CE
open Go Go.RowKit

def E8(ev:Operand->Option Value):Option Operand->Option (Option Value)
 |none=>some none
 |some x=>match ev x with
  |some v=>some (some v)
  |none=>none
def mkPure(o:Option Value)(H:Qy)(n:Nat):Option CR:=match o with|some v=>some ⟨.val v,H,n,[],[]⟩|none=>none
def jO(P:Program)(t:TypeId)(len:Nat)(l:List (Nat×Value)):Bool:=Of len 0 && l.isEmpty && (match Rg P t with
 |some (.slice e)=>(W8 P e).isSome
 |_=>false)
theorem Post.ofBelow{B n:Nat}{S:Nat->Prop}{μ:Mu}{H:Qy}{w w':World}(QF:Ok B S μ (Q1 H) w)(h:Below w.heap.size w w'):Post B S n n [] μ μ H H w w':=by
 refine⟨⟨fun i o hi ho hl=> ?_,fun i o im hi ho hl QN=> ?_,fun i j oi oj a b hi hj=> ?_,fun i o hi ho hr=> ?_,fun i j oi oj a b x hi hj=> ?_⟩,OE _,fun _ _=>rfl,fun _ _ _=>rfl,h.size,fun b hb _=>h.block b hb,fun _ h=>by simp at h,fun i im o h1 h2=>absurd h1 (by omega),fun i im o h1=>h1.elim (fun h1=>absurd h1.1 (by omega)) (fun h=>by simp at h),h.os,h.tape,h.output⟩
 ·have hi:=hi.elim id fun h=>absurd h.1 (by omega)
  obtain⟨im,QN,hr⟩:=QF.rel i o hi ho hl;exact⟨im,QN,hr.keep (Ext.refl _) (h.block _ (QF.low i o im hi ho hl QN).1)⟩
 ·have hi:=hi.elim id fun h=>absurd h.1 (by omega)
  have:=QF.low i o im hi ho hl QN;exact⟨Nat.lt_of_lt_of_le this.1 h.size,this.2⟩
 ·exact QF.inj i j oi oj a b (hi.elim id fun h=>absurd h.1 (by omega)) (hj.elim id fun h=>absurd h.1 (by omega))
 ·have hi:=hi.elim id fun h=>absurd h.1 (by omega)
  obtain⟨im,QN,hf⟩:=QF.JX i o hi ho hr;exact⟨im,QN,fun b x hx=>by rw[h.block b (PN QF hi ho hr QN hx)];exact hf b x hx⟩
 ·exact QF.sep i j oi oj a b x (hi.elim id fun h=>absurd h.1 (by omega)) (hj.elim id fun h=>absurd h.1 (by omega))
def sr(P:Program)(F:FuncId->Bool)(ev:Operand->Option Value)(o:Oper)(H:Qy)(n:Nat):Option CR:=
 match o.op with
 | .move x| .assign x=>mkPure (ev x) H n
 | .pick c a b=>match ev c with
   |some (.bool t)=>mkPure (ev (bif t then a else b)) H n
   |_=>none
 | .alloc t=>match zeroOf P t with
   |some z=>bif af z then some ⟨.val (Aa n),(n,.cells z.cells t (0,0))::H,n+1,[],[]⟩else none
   |none=>none
 | .box t x=>match ev x with
   |some v=>some ⟨.val (Aa n),(n,.cells v.cells t (0,0))::H,n+1,[],[]⟩
   |none=>none
 | .build t ps=>match partsOf ev ps.toList with
   |some l=>mkPure (sA P t l) H n
   |none=>none
 | .buildSlice t len ps=>match partsOf ev ps.toList with
   |some l=>match RK P t len l with
    |some (e,cs,s)=>some ⟨.val (.slice (some ⟨n,0,none⟩) len s),(n,.cells cs e (0,0))::H,n+1,[],[]⟩
    |none=>bif jO P t len l then some ⟨.val aQ,H,n,[],[]⟩else none
   |none=>none
 | .load t a=>match ev a with
   |some p=>match SQ P t H p with
    |some (v,b)=>some ⟨.val v,H,n,[b],[]⟩
    |none=>none
   |none=>none
 | .store t a x=>match ev a,ev x with
   |some p,some v=>match Sb P t H v p with
    |some (H',b)=>some ⟨.val undef,H',n,[b],[b]⟩
    |none=>none
   |_,_=>none
 | .fieldAddr s x f=>match ev x with
   |some p=>mkPure (Wl P s f p) H n
   |none=>none
 | .field t x f=>match ev x with
   |some p=>mkPure (gK P t f p) H n
   |none=>none
 | .indexAddr t x i=>match ev x,ev i with
   |some v,some k=>mkPure (Jd P t v k) H n
   |_,_=>none
 | .index t x i=>match ev x,ev i with
   |some (.agg cs),some k=>mkPure (s8 P t (.agg cs) k) H n
   |_,_=>mkPure (Kd P ev o) H n
 | .extract x i=>match ev x with
   |some v=>mkPure (SS i v) H n
   |none=>none
 | .makeSlice t l c=>match ev l,ev c with
   |some x,some y=>match RH P t x y with
    |some (e,cs,l,s)=>some ⟨.val (.slice (some ⟨n,0,none⟩) l s),(n,.cells cs e (0,0))::H,n+1,[],[]⟩
    |none=>none
   |_,_=>none
 | .slice t x lo hi none=>match ev x,E8 ev lo,E8 ev hi with
   |some (.slice (some a) m s),some l,some h=>mkPure (bd P t (.slice (some a) m s) l h) H n
   |some (.pointer p),some l,some h=>mkPure (bd P t (.pointer p) l h) H n
   |_,_,_=>mkPure (Kd P ev o) H n
 | .slice t x lo (some hi) (some mx)=>bif bV P t (ev x) (E8 ev lo) (ev hi) (ev mx)then some ⟨.val aQ,H,n,[],[]⟩else mkPure (Kd P ev o) H n
 | .makeFunc (.func f) first captured=>match Re ev first.toList,Re ev captured.toList with
   |some xs,some ys=>some ⟨.val (.func (.func f) xs.toArray ys.toArray),H,n,[],[]⟩
   |_,_=>none
 | .makeMap _ none=>some ⟨.val (.map (some n)),(n,.map #[] 0)::H,n+1,[],[]⟩
 | .lookup t x k ok=>match ev x,ev k with
   |some m,some kv=>match fq P t H ok m kv with
    |some (v,R)=>some ⟨.val v,H,n,R,[]⟩
    |none=>none
   |_,_=>none
 | .mapUpdate t m k x=>match ev m,ev k,ev x with
   |some mv,some kv,some v=>match Jc P t H mv kv v with
    |some (H',b)=>some ⟨.val undef,H',n,[b],[b]⟩
    |none=>none
   |_,_,_=>none
 | .binOp op _ x y _=>match ev x,ev y with
   |some a,some b=>match AQ op a b with
    |some v=>some ⟨.val v,H,n,[],[]⟩
    |none=>mkPure (Kd P ev o) H n
   |_,_=>none
 | .nilCheck x=>match ev x with
   |some (.pointer (some a))=>some ⟨.val (.pointer (some a)),H,n,[],[]⟩
   |some (.func (.func f) xs ys)=>some ⟨.val (.func (.func f) xs ys),H,n,[],[]⟩
   |some (.func (.yield f) xs ys)=>some ⟨.val (.func (.yield f) xs ys),H,n,[],[]⟩
   |_=>none
 | .call c=>match c.callee with
   | .builtin .append=>match c.args.toList,c.argTypes.toList with
     |[s,x],[t,t']=>match ev s,ev x with
      |some sv,some xv=>yl P t t' H n sv xv
      |_,_=>none
     |_,_=>none
   | .builtin .len=>match c.args.toList,c.argTypes.toList with
     |[x],[t]=>match ev x,Rg P t with
      |some (.slice (some _) m _),some (.slice _)=>some ⟨.val (.int .i64 m),H,n,[],[]⟩
      |some (.chan (some 0)),some (.slice _)=>some ⟨.val (.int .i64 0),H,n,[],[]⟩
      |_,_=>mkPure (Kd P ev o) H n
     |_,_=>none
   | .builtin .copy=>match c.args.toList,c.argTypes.toList with
     |[s,x],[t,_]=>match ev s,ev x with
      |some sv,some xv=>yi P t H n sv xv
      |_,_=>none
     |_,_=>none
   | .builtin _=>mkPure (Kd P ev o) H n
   | .value f=>match ev f,Re ev c.args.toList with
     |some fv,some args=>match RI F H fv args.toArray with
      |some (nx,R)=>some ⟨nx,H,n,R,[]⟩
      |none=>none
     |_,_=>none
   |_=>none
 |_=>mkPure (Kd P ev o) H n

theorem Ws{P:Program}{B:Nat}{o:Oper}{ev:Operand->Option Value}{H:Qy}{n:Nat}{v:Value}(h:∀(μ:Mu) (ρ:Operand->Value) (w:World),(∀x∈o.op.operands,∀v,ev x=some v->VR μ v (ρ x))->∃v',(execOp ρ o).run P w=.ok (.value v') w/\VR μ v v'):
 LD P B o ev H n ⟨.val v,H,n,[],[]⟩:=fun _ μ ρ w QF _ _ _ Zb _=>
 let⟨_,h1,h2⟩:=h μ ρ w Zb
 ⟨_,w,μ,h1,Post.refl QF,.val h2⟩
theorem Z4{o:Option Value}{H:Qy}{n:Nat}{r:CR}(h:mkPure o H n=some r):∃v,o=some v/\r=⟨.val v,H,n,[],[]⟩:=by
 cases o with
 |none=>cases h
 |some v=>simp only[mkPure,YO]at h;exact⟨v,rfl,h.symm⟩
theorem ff{μ:Mu}{ev:Operand->Option Value}{ρ:Operand->Value}{x:Option Operand}{v:Option Value}(h:E8 ev x=some v)(hv:∀y,x=some y->∀v,ev y=some v->VR μ v (ρ y)):ML μ v (x.map ρ):=by
 cases x with
 |none=>simp only[E8,YO]at h;subst h;trivial
 |some y=>
  simp only[E8]at h;cases he:ev y with
  |none=>rw[he]at h;cases h
  |some u=>
   rw[he]at h;simp only[YO]at h;subst h;exact hv y rfl u he
theorem ZM{α:Type}{q:Bool}{x r:α}(h:(bif q then some x else none)=some r):x=r:=by
 cases q with
 |false=>cases h
 |true=>simpa using h
theorem Je{α:Type}{q:Bool}{x:Option α}{r:α}(h:(bif q then x else none)=some r):x=some r:=by
 cases q with
 |false=>cases h
 |true=>simpa using h
theorem Lj{P:Program}{t t':TypeId}{H:Qy}{n:Nat}{s x:Value}{r:CR}(h:qC P t t' H n s x=some r):r.n=n+1:=by
 unfold qC at h;split at h
 ·split at h
  ·split at h
   ·rw[<-ZM h]
   ·cases h
  ·cases h
 ·cases h
theorem E2{P:Program}{t:TypeId}{H:Qy}{n:Nat}{s x:Value}{r:CR}(h:Um P t H n s x=some r):r.n=n+1:=by
 unfold Um at h;split at h
 ·split at h
  ·split at h
   ·split at h
    ·rename_i cs k ko ns m b _ _;rw[<-ZM h]
    ·cases h
   ·cases h
  ·cases h
 ·cases h
theorem Lf{P:Program}{F:FuncId->Bool}(hF:∀g,F g=true->Q9 P g=true){B:Nat}{o:Oper}{ev:Operand->Option Value}{H:Qy}{n:Nat}{r:CR}(h:sr P F ev o H n=some r):LD P B o ev H n r:=by
 have Zg:mkPure (Kd P ev o) H n=some r->LD P B o ev H n r:=by
  intro h;obtain⟨v,h1,rfl⟩:=Z4 h;exact Ey h1
 unfold sr at h;split at h
 ·-- move
  rename_i x ho;obtain⟨v,h1,rfl⟩:=Z4 h;exact Ws fun μ ρ w Zb=>⟨ρ x,by simp[execOp,ho],Zb x (by simp[ho,Op.operands]) v h1⟩
 ·rename_i x ho;obtain⟨v,h1,rfl⟩:=Z4 h;exact Ws fun μ ρ w Zb=>⟨ρ x,by simp[execOp,ho],Zb x (by simp[ho,Op.operands]) v h1⟩
 ·-- pick
  rename_i c a b ho;split at h
  ·rename_i t hc;obtain⟨v,h1,rfl⟩:=Z4 h;refine Ws fun μ ρ w Zb=> ?_
   have hct:=Zb c (by simp[ho,Op.operands]) _ hc;have hct:ρ c=.bool t:=by generalize ρ c=u at hct;cases hct;rfl
   cases t with
   |true=>exact⟨ρ a,by simp[execOp,ho,hct,asBool],Zb a (by simp[ho,Op.operands]) v h1⟩
   |false=>exact⟨ρ b,by simp[execOp,ho,hct,asBool],Zb b (by simp[ho,Op.operands]) v h1⟩
  ·cases h
 ·-- alloc
  rename_i t ho;split at h
  ·rename_i z hz;cases ha:af z with
   |false=>rw[ha]at h;cases h
   |true=>
    rw[ha]at h;simp only[cond_true,YO]at h;subst h;exact AT ho hz ha
  ·cases h
 ·-- box
  rename_i t x ho;split at h
  ·rename_i v hv;simp only[YO]at h;subst h;exact HG ho hv
  ·cases h
 ·-- build
  rename_i t ps ho;split at h
  ·rename_i l hl;obtain⟨v,h1,rfl⟩:=Z4 h;refine Ws fun μ ρ w Zb=> ?_
   obtain⟨q1,q2⟩:=Tt (μ:=μ) (ρ:=ρ) ps.toList l hl (fun p hp v hv=>Zb p.2 (by simp only[ho,Op.operands,List.mem_toArray];exact List.mem_map.2 ⟨p,hp,rfl⟩) v hv);obtain⟨v',hr,Ul⟩:=AP (ps':=ps.map fun(i,x)=>(i,ρ x)) h1 (by simpa using q1) (by simpa using q2) w;exact⟨v',by simp[execOp,ho,hr],Ul⟩
  ·cases h
 ·-- buildSlice
  rename_i t len ps ho;split at h
  ·rename_i l hl;split at h
   ·rename_i e cs s hb;simp only[YO]at h;subst h;intro S μ ρ w QF hB hS hf Zb hR;obtain⟨q1,q2⟩:=Tt (μ:=μ) (ρ:=ρ) ps.toList l hl (fun p hp v hv=>Zb p.2 (by simp only[ho,Op.operands,List.mem_toArray];exact List.mem_map.2 ⟨p,hp,rfl⟩) v hv);obtain⟨v',w',μ',hr,hp,Ul⟩:=j8 (ps':=ps.map fun(i,x)=>(i,ρ x)) hb QF hB hS (hf n (OE _) (by simp)) (by simpa using q1) (by simpa using q2);exact⟨_,w',μ',by simp[execOp,ho,hr],hp,.val Ul⟩
   ·cases he:jO P t len l with
    |false=>rw[he]at h;cases h
    |true=>
     rw[he]at h;simp only[cond_true,YO]at h;subst h;intro S μ ρ w QF hB hS hf Zb hR;obtain⟨q1,_⟩:=Tt (μ:=μ) (ρ:=ρ) ps.toList l hl (fun p hp v hv=>Zb p.2 (by simp only[ho,Op.operands,List.mem_toArray];exact List.mem_map.2 ⟨p,hp,rfl⟩) v hv);unfold jO at he;simp only[YB,List.isEmpty_iff]at he;obtain⟨⟨e1,rfl⟩,e3⟩:=he;have e1:=YE e1;subst e1;have eps:ps=#[]:=by
      have:ps.toList=[]:=List.eq_nil_of_length_eq_zero (by simpa using q1.symm);exact Array.ext' (by simpa using this)
     subst eps;split at e3
     ·rename_i e hu;rw[Z1]at hu;cases hz:W8 P e with
      |none=>rw[hz]at e3;cases e3
      |some z=>
       have hr:(Instr.buildSlice t 0 ((#[]:Array (Nat×Operand)).map fun(i,x)=>(i,ρ x))).run P w=.ok (.slice (some ⟨w.heap.size,0,none⟩) 0 0) (w.alloc (.cells #[] e)):=by
        simp[Instr.buildSlice,run_underlying hu,Zx hz,Instr.fill,newRow,Sem.run_bind,Sem.run_pure];congr 2;exact OM (by simp)
       exact⟨.value (.slice (some ⟨w.heap.size,0,none⟩) 0 0),w.alloc (.cells #[] e),μ,by simp[execOp,ho];simp at hr;simp[hr],Post.ofBelow QF ((Below.refl _ _).alloc (OE _) _),.val .noCap⟩
     ·cases e3
  ·cases h
 ·-- load
  rename_i t a ho;split at h
  ·rename_i p hp;split at h
   ·rename_i v b hb;simp only[YO]at h;subst h;intro S μ ρ w QF hB hS hf Zb hR;obtain⟨v',hr,Ul⟩:=qz hb QF (Zb a (by simp[ho,Op.operands]) p hp) (hR b (by simp));exact⟨_,w,μ,by simp[execOp,ho,hr],Post.refl QF,.val Ul⟩
   ·cases h
  ·cases h
 ·-- store
  rename_i t a x ho;split at h
  ·rename_i p v hp hv;split at h
   ·rename_i H' b hb;simp only[YO]at h;subst h;intro S μ ρ w QF hB hS hf Zb hR;obtain⟨w',hr,Z0⟩:=AI hb QF hS (Zb a (by simp[ho,Op.operands]) p hp) (Zb x (by simp[ho,Op.operands]) v hv) (hR b (by simp));exact⟨_,w',μ,by simp[execOp,ho,hr],Z0,.skip⟩
   ·cases h
  ·cases h
 ·-- fieldAddr
  rename_i s x f ho;split at h
  ·rename_i p hp;obtain⟨v,h1,rfl⟩:=Z4 h;refine Ws fun μ ρ w Zb=> ?_
   obtain⟨v',hr,Ul⟩:=o8 h1 (Zb x (by simp[ho,Op.operands]) p hp) w;exact⟨v',by simp[execOp,ho,hr],Ul⟩
  ·cases h
 ·-- field
  rename_i t x f ho;split at h
  ·rename_i p hp;obtain⟨v,h1,rfl⟩:=Z4 h;refine Ws fun μ ρ w Zb=> ?_
   obtain⟨v',hr,Ul⟩:=AN h1 (Zb x (by simp[ho,Op.operands]) p hp) w;exact⟨v',by simp[execOp,ho,hr],Ul⟩
  ·cases h
 ·-- indexAddr
  rename_i t x i ho;split at h
  ·rename_i u k hu hk;obtain⟨v,h1,rfl⟩:=Z4 h;refine Ws fun μ ρ w Zb=> ?_
   obtain⟨v',hr,Ul⟩:=o7 h1 (Zb x (by simp[ho,Op.operands]) u hu) (Zb i (by simp[ho,Op.operands]) k hk) w;exact⟨v',by simp[execOp,ho,hr],Ul⟩
  ·cases h
 ·-- index
  rename_i t x i ho;split at h
  ·rename_i cs k hu hk;obtain⟨v,h1,rfl⟩:=Z4 h;refine Ws fun μ ρ w Zb=> ?_
   obtain⟨v',hr,Ul⟩:=AM h1 (Zb x (by simp[ho,Op.operands]) _ hu) (Zb i (by simp[ho,Op.operands]) k hk) w;exact⟨v',by simp[execOp,ho,hr],Ul⟩
  ·exact Zg h
 ·-- extract
  rename_i x i ho;split at h
  ·rename_i u hu;obtain⟨v,h1,rfl⟩:=Z4 h;refine Ws fun μ ρ w Zb=> ?_
   obtain⟨v',hr,Ul⟩:=s9 (P:=P) h1 (Zb x (by simp[ho,Op.operands]) u hu) w;exact⟨v',by simp[execOp,ho,hr],Ul⟩
  ·cases h
 ·-- makeSlice
  rename_i t l c ho;split at h
  ·rename_i x y hx hy;split at h
   ·rename_i e cs l0 s hm;simp only[YO]at h;subst h;intro S μ ρ w QF hB hS hf Zb hR;obtain⟨v',w',μ',hr,hp,Ul⟩:=Ez hm QF hB hS (hf n (OE _) (by simp)) (Zb l (by simp[ho,Op.operands]) x hx) (Zb c (by simp[ho,Op.operands]) y hy);exact⟨_,w',μ',by simp[execOp,ho,hr],hp,.val Ul⟩
   ·cases h
  ·cases h
 ·-- slice
  rename_i t x lo hi ho;have hlo:∀y,lo=some y->y∈o.op.operands:=fun y e=>by simp[ho,Op.operands,e]
  have hhi:∀y,hi=some y->y∈o.op.operands:=fun y e=>by simp[ho,Op.operands,e]
  split at h
  ·rename_i a m s l hh hu hl hhh;obtain⟨v,h1,rfl⟩:=Z4 h;refine Ws fun μ ρ w Zb=> ?_
   obtain⟨v',hr,Ul⟩:=o4 h1 (Zb x (by simp[ho,Op.operands]) _ hu) (ff hl fun y e=>Zb y (hlo y e)) (ff hhh fun y e=>Zb y (hhi y e)) w;exact⟨v',by simp[execOp,ho,hr],Ul⟩
  ·rename_i p l hh hu hl hhh;obtain⟨v,h1,rfl⟩:=Z4 h;refine Ws fun μ ρ w Zb=> ?_
   obtain⟨v',hr,Ul⟩:=o4 h1 (Zb x (by simp[ho,Op.operands]) _ hu) (ff hl fun y e=>Zb y (hlo y e)) (ff hhh fun y e=>Zb y (hhi y e)) w;exact⟨v',by simp[execOp,ho,hr],Ul⟩
  ·exact Zg h
 ·-- slice with a bound
  rename_i t x lo hi mx ho;have hlo:∀y,lo=some y->y∈o.op.operands:=fun y e=>by simp[ho,Op.operands,e]
  cases hc:bV P t (ev x) (E8 ev lo) (ev hi) (ev mx)with
  |false=>rw[hc]at h;exact Zg h
  |true=>
   rw[hc]at h;simp only[cond_true,YO]at h;subst h;obtain⟨xv,l,hv,mv,e1,e2,e3,e4,Uj⟩:=iU (μ:=fun _=>none) hc;clear Uj;refine Ws fun μ ρ w Zb=> ?_
   obtain⟨xv',l',ZT,mv',e1',e2',e3',e4',Uj⟩:=iU (μ:=μ) hc;obtain⟨v',hr,Ul⟩:=Uj (Zb x (by simp[ho,Op.operands]) _ e1') (ff e2' fun y e=>Zb y (hlo y e)) (Zb hi (by simp[ho,Op.operands]) _ e3') (Zb mx (by simp[ho,Op.operands]) _ e4') w;exact⟨v',by simp[execOp,ho,hr],Ul⟩
 ·-- makeFunc
  rename_i f first captured ho
  split at h
  ·rename_i xs ys hx hy;simp only[YO]at h;subst h;refine Ws fun μ ρ w Zb=> ?_
   have hops:o.op.operands=first++captured:=by rw[ho];rfl
   rw[hops]at Zb;have q1:=bX (μ:=μ) (ρ:=ρ) _ _ hx (fun x hx v hv=>Zb x (Array.mem_append.2 (.inl (Array.mem_toList_iff.1 hx))) v hv);have q2:=bX (μ:=μ) (ρ:=ρ) _ _ hy (fun x hx v hv=>Zb x (Array.mem_append.2 (.inr (Array.mem_toList_iff.1 hx))) v hv);refine⟨.func (.func f) (first.map ρ) (captured.map ρ),by simp[execOp,ho,Instr.makeFunc], ?_⟩;have e1:(first.toList.map ρ).toArray=first.map ρ:=by apply Array.ext';simp
   have e2:(captured.toList.map ρ).toArray=captured.map ρ:=by apply Array.ext';simp
   rw[e1]at q1;rw[e2]at q2;exact .func q1.1 q2.1 q1.2 q2.2
  ·cases h
 ·-- makeMap
  rename_i t ho;simp only[YO]at h;subst h;intro S μ ρ w QF hB hS hf Zb hR;have hfn:=hf n (OE _) (by simp);refine⟨_,_,_, ?_,Post.alloc QF hB hS hfn (.map #[] 0) (.map #[] 0) 0 ⟨rfl,#[],heap_alloc _ _,rfl,fun i e e' he _=>by simp at he⟩,.val (.map (im:=⟨w.heap.size,0,0,true,TB⟩) X9)⟩;simp only[execOp,ho,Instr.makeMap,Option.map_none,Sem.run_bind,Result.andThen_ok,run_newObj,Sem.run_pure];rfl
 ·-- lookup
  rename_i t x k ok ho;split at h
  ·rename_i m kv hm hk;split at h
   ·rename_i v R hl;simp only[YO]at h;subst h;intro S μ ρ w QF hB hS hf Zb hR;obtain⟨v',hr,Ul⟩:=yh hl QF (Zb x (by simp[ho,Op.operands]) m hm) (Zb k (by simp[ho,Op.operands]) kv hk) hR;exact⟨_,w,μ,by simp[execOp,ho,hr],Post.refl QF,.val Ul⟩
   ·cases h
  ·cases h
 ·-- mapUpdate
  rename_i t m k x ho;split at h
  ·rename_i mv kv v hm hk hv;split at h
   ·rename_i H' b hl;simp only[YO]at h;subst h;intro S μ ρ w QF hB hS hf Zb hR;obtain⟨w',hr,Z0⟩:=o6 hl QF hS (Zb m (by simp[ho,Op.operands]) mv hm) (Zb k (by simp[ho,Op.operands]) kv hk) (Zb x (by simp[ho,Op.operands]) v hv) (hR b (by simp));exact⟨_,w',μ,by simp[execOp,ho,hr],Z0,.skip⟩
   ·cases h
  ·cases h
 ·-- binOp
  rename_i op t x y yt ho;split at h
  ·rename_i a b ha hb;split at h
   ·rename_i v hv;simp only[YO]at h;subst h;refine Ws fun μ ρ w Zb=> ?_
    obtain⟨h1,h2,h3,h4⟩:=HH (P:=P) (t:=t) (x:=x) (y:=y) hv w;have e1:=h3 μ _ (Zb x (by simp[ho,Op.operands]) a ha);have e2:=h4 μ _ (Zb y (by simp[ho,Op.operands]) b hb);refine⟨v, ?_,h2 μ⟩;simp only[execOp,ho,e1,e2];rw[Sem.run_bind,h1];rfl
   ·exact Zg h
  ·cases h
 ·-- nilCheck
  rename_i x ho;split at h
  ·rename_i a hx;simp only[YO]at h;subst h;refine Ws fun μ ρ w Zb=> ?_
   have hv:=Zb x (by simp[ho,Op.operands]) _ hx;refine⟨ρ x, ?_,hv⟩;generalize hg:ρ x=u at hv;cases hv <;> simp[execOp,ho,hg]
  ·rename_i f xs ys hx;simp only[YO]at h;subst h;refine Ws fun μ ρ w Zb=> ?_
   have hv:=Zb x (by simp[ho,Op.operands]) _ hx;refine⟨ρ x, ?_,hv⟩;generalize hg:ρ x=u at hv;cases hv;simp[execOp,ho,hg]
  ·rename_i f xs ys hx;simp only[YO]at h;subst h;refine Ws fun μ ρ w Zb=> ?_
   have hv:=Zb x (by simp[ho,Op.operands]) _ hx;refine⟨ρ x, ?_,hv⟩;generalize hg:ρ x=u at hv;cases hv;simp[execOp,ho,hg]
  ·cases h
 ·-- call
  rename_i c ho;split at h
  ·-- append
   rename_i hc;split at h
   ·rename_i s x t t' ha ht;split at h
    ·rename_i sv xv hs hx;intro S μ ρ w QF hB hS hf Zb hR;have ea:c.args=#[s,x]:=by rw[<-ha]
     have et:c.argTypes=#[t,t']:=by rw[<-ht]
     have hvs:=Zb s (by simp[ho,Op.operands,Call.operands,hc,ea]) sv hs;have hvx:=Zb x (by simp[ho,Op.operands,Call.operands,hc,ea]) xv hx;unfold yl at h;cases htt:Of t t' with
     |false=>
      rw[htt]at h;simp only[cond_false]at h;have JO:r.n=n+1:=Lj h;obtain⟨v,v',w',μ',hr,hp,hnx,Ul,_⟩:=E3 (ty:=o.type) h QF hB hS (hf n (OE _) (by omega)) hvs hvx;refine⟨.value v',w',μ', ?_,hp,by rw[hnx];exact .val Ul⟩;simp[execOp,ho,resolve,hc,invoke,builtin,ea,et,hr]
     |true=>
      rw[htt]at h;simp only[cond_true]at h;have htt:=YE htt;subst htt;cases hca:Um P t H n (bare sv) xv with
      |some r0=>
       rw[hca]at h;simp only[YO]at h;subst h;have JO:r0.n=n+1:=E2 hca;obtain⟨v,v',w',μ',hr,hp,hnx,Ul,_⟩:=sB (ty:=o.type) hca QF hB hS (hf n (OE _) (by omega)) hvs hvx hR;refine⟨.value v',w',μ', ?_,hp,by rw[hnx];exact .val Ul⟩;simp[execOp,ho,resolve,hc,invoke,builtin,ea,et,hr]
      |none=>
       rw[hca]at h;simp only at h;obtain⟨hr,rfl⟩:=E4 (ty:=o.type) (w:=w) h hvs hvx;refine⟨.value (ρ s),w,μ, ?_,Post.refl QF,.val hvs⟩;simp[execOp,ho,resolve,hc,invoke,builtin,ea,et,hr]
    ·cases h
   ·cases h
  ·-- len
   rename_i hc;split at h
   ·rename_i x t ha ht;split at h
    ·rename_i a m s e hx hu;rw[Z1]at hu;simp only[YO]at h;subst h;refine Ws fun μ ρ w Zb=> ?_
     have ea:c.args=#[x]:=by rw[<-ha]
     have et:c.argTypes=#[t]:=by rw[<-ht]
     have hv:=Zb x (by simp[ho,Op.operands,Call.operands,hc,ea]) _ hx;refine⟨.int .i64 m, ?_,.int _ _⟩;generalize hg:ρ x=u at hv;cases hv <;> simp[execOp,ho,resolve,hc,invoke,builtin,ea,et,hg,Builtin.len_,run_underlying hu,goInt]
    ·rename_i e hx hu;rw[Z1]at hu;simp only[YO]at h;subst h;refine Ws fun μ ρ w Zb=> ?_
     have ea:c.args=#[x]:=by rw[<-ha]
     have et:c.argTypes=#[t]:=by rw[<-ht]
     have hv:=Zb x (by simp[ho,Op.operands,Call.operands,hc,ea]) _ hx;refine⟨.int .i64 0, ?_,.int _ _⟩;generalize hg:ρ x=u at hv;cases hv <;> simp[execOp,ho,resolve,hc,invoke,builtin,ea,et,hg,Builtin.len_,run_underlying hu,goInt]
    ·exact Zg h
   ·cases h
  ·-- copy
   rename_i hc;split at h
   ·rename_i s x t t2 ha ht;split at h
    ·rename_i sv xv hs hx;intro S μ ρ w QF hB hS hf Zb hR;have ea:c.args=#[s,x]:=by rw[<-ha]
     have et:c.argTypes=#[t,t2]:=by rw[<-ht]
     obtain⟨v,w',hr,hp,hnx,Ul,_⟩:=E1 (ty:=o.type) (t2:=t2) h QF hS (Zb s (by simp[ho,Op.operands,Call.operands,hc,ea]) sv hs) (Zb x (by simp[ho,Op.operands,Call.operands,hc,ea]) xv hx) hR;refine⟨.value v,w',μ, ?_,hp,by rw[hnx];exact .val Ul⟩;simp[execOp,ho,resolve,hc,invoke,builtin,ea,et,hr]
    ·cases h
   ·cases h
  ·exact Zg h
  ·-- value
   rename_i f hc;split at h
   ·rename_i fv args hfv hargs;split at h
    ·rename_i nx R hcc;simp only[YO]at h;subst h;intro S μ ρ w QF hB hS hf Zb hR;have hops:o.op.operands=#[f]++c.args:=by rw[ho];simp only[Op.operands,Call.operands,hc]
     rw[hops]at Zb;have q:=bX (μ:=μ) (ρ:=ρ) _ _ hargs (fun x hx v hv=>Zb x (Array.mem_append.2 (.inr (Array.mem_toList_iff.1 hx))) v hv);have e1:(c.args.toList.map ρ).toArray=c.args.map ρ:=by apply Array.ext';simp
     rw[e1]at q;obtain⟨nx',hr,hnr⟩:=qA (P:=P) hF hcc QF (Zb f (Array.mem_append.2 (.inl (by simp))) fv hfv) q hR;refine⟨nx',w,μ, ?_,Post.refl QF,hnr⟩;simp only[execOp,ho,resolve,hc];simpa using hr
    ·cases h
   ·cases h
  ·cases h
 ·exact Zg h
end Go.CE

namespace Go.CE
open Go Go.RowKit

structure PG (B:Nat) (S New W:Nat->Prop) (μ μ':Mu) (G G':Nat->Option Obj) (w w':World):Prop where
 ok:Ok B (fun i=>S i\/New i) μ' G' w'
 ext:∀i,¬New i->μ' i=μ i
 keep:∀i,¬New i->¬W i->G' i=G i
 grow:w.heap.size<=w'.heap.size
 frame:∀b,b<w.heap.size->(∀i,W i->∀im,μ i=some im->im.Zz≠b)->w'.heap[b]? =w.heap[b]?
 wr:∀i,W i->S i/\(∃o,G i=some o/\live o)/\∃im,μ i=some im/\im.rw=true
 fresh:∀i im o,New i->G' i=some o->live o->μ' i=some im->im.rw=true/\
  (w.heap.size<=im.Zz\/∃k,W k/\(∃ZB,μ k=some ZB/\ZB.Zz=im.Zz)/\∀o,G' k=some o->¬live o)
 rf:∀i im o,(New i\/W i)->G' i=some o->Wa o->μ' i=some im->∀b x,im.fm b=some x->
  w.heap.size<=b\/(∃k Ki ko,S k/\G k=some ko/\Wa ko/\μ k=some Ki/\Ki.fm b=some x)\/∃k,W k/\(∃ZB,μ k=some ZB/\ZB.Zz=b)/\∀o,G' k=some o->¬live o
 os:w'.os=w.os
 tape:w'.tape=w.tape
 output:w'.output=w.output
theorem PG.refl{B:Nat}{S:Nat->Prop}{μ:Mu}{G:Nat->Option Obj}{w:World}(h:Ok B S μ G w):PG B S (fun _=>False) (fun _=>False) μ μ G G w w:=
 ⟨h.sub fun _ hi=>hi.elim id False.elim,fun _ _=>rfl,fun _ _ _=>rfl,OE _,fun _ _ _=>rfl,fun _ h=>h.elim,fun _ _ _ h=>h.elim,fun _ _ _ h=>h.elim False.elim False.elim,rfl,rfl,rfl⟩
theorem Post.pg{B:Nat}{S:Nat->Prop}{n n':Nat}{W:List Nat}{μ μ':Mu}{H H':Qy}{w w':World}(h:Post B S n n' W μ μ' H H' w w')(hn:∀i,n'<=i->Q1 H' i=Q1 H i):
 PG B S (fun i=>n<=i/\i<n') (fun i=>i∈W/\i<n) μ μ' (Q1 H) (Q1 H') w w':=by
 have hle:=h.le;refine⟨h.ok,h.ext,fun i hi hw=> ?_,h.grow,fun b hb hw=>h.frame b hb fun i a c=>hw i ⟨a,c⟩,fun i hi=>h.wr i hi.1 hi.2,fun i im o hi ho hl hm=> ?_,fun i im o hi ho hr hm b x hb=> ?_,h.os,h.tape,h.output⟩
 ·rcases OG i n with Xw|hge
  ·exact h.keep i Xw fun e=>hw ⟨e,Xw⟩
  ·exact hn i (by omega)
 ·obtain⟨hr,hf⟩:=h.fresh i im o hi.1 hi.2 ho hl hm;refine⟨hr,hf.imp id ?_⟩;rintro⟨k,a,b,c,d⟩;exact⟨k,⟨a,b⟩,c,d⟩
 ·rcases h.rf i im o hi ho hr hm b x hb with e|⟨k,Ki,ko,a,c,d⟩|⟨k,a,c,d⟩
  ·exact .inl e
  ·exact .inr (.inl ⟨k,Ki,ko,a,d⟩)
  ·exact .inr (.inr ⟨k,⟨a,c⟩,d⟩)
theorem PG.post{B:Nat}{S New:Nat->Prop}{n n':Nat}{W:List Nat}{μ μ':Mu}{H H':Qy}{w w':World}(h:PG B S New (fun i=>i∈W/\i<n) μ μ' (Q1 H) (Q1 H') w w')(hN:∀i,New i<->n<=i/\i<n')(hle:n<=n')(hS:∀i,S i->i<n):Post B S n n' W μ μ' H H' w w':=by
 refine⟨h.ok.sub fun i hi=>hi.imp id (hN i).2,hle,fun i hi=>h.ext i fun e=>hi ((hN i).1 e),fun i hi hw=>h.keep i (fun e=>by have:=((hN i).1 e).1;omega) (fun e=>hw e.1),h.grow,
  fun b hb hw=>h.frame b hb fun i hi=>hw i hi.1 hi.2,fun i hi Xw=>h.wr i ⟨hi,Xw⟩,fun i im o h1 h2 ho hl hm=> ?_,fun i im o hi ho hr hm b x hb=> ?_,h.os,h.tape,h.output⟩
 ·obtain⟨hr,hf⟩:=h.fresh i im o ((hN i).2 ⟨h1,h2⟩) ho hl hm;refine⟨hr,hf.imp id ?_⟩;rintro⟨k,⟨a,b⟩,c,d⟩;exact⟨k,a,b,c,d⟩
 ·rcases h.rf i im o (hi.imp (hN i).2 id) ho hr hm b x hb with e|⟨k,Ki,ko,a,c⟩|⟨k,⟨a,c⟩,d⟩
  ·exact .inl e
  ·exact .inr (.inl ⟨k,Ki,ko,a,hS k a,c⟩)
  ·exact .inr (.inr ⟨k,a,c,d⟩)
theorem PG.then{B:Nat}{S S2 Rf Ke W1 W2:Nat->Prop}{μ μ1 μ2:Mu}{G G1 Gc G2' G2:Nat->Option Obj}{w w1 w2:World}(h1:PG B S Rf W1 μ μ1 G G1 w w1)(h2:PG B S2 Ke W2 μ1 μ2 Gc G2' w1 w2)
 (hsub:∀i,S2 i->S i\/Rf i) (hGc:∀i,S2 i->Gc i=G1 i) (hnew:∀i,Ke i->¬S i/\¬Rf i) (Kb:∀i,Ke i->μ1 i=none)
 (ha:∀i,W2 i\/Ke i->G2 i=G2' i) (hb:∀i,¬W2 i->¬Ke i->G2 i=G1 i):
 PG B S (fun i=>Rf i\/Ke i) (fun i=>W1 i\/(W2 i/\¬Rf i)) μ μ2 G G2 w w2:=by
 have hW2S:∀i,W2 i->S2 i/\(∃o,G1 i=some o/\live o)/\∃im,μ1 i=some im/\im.rw=true:=by
  intro i hi;obtain⟨a,⟨o,ho,hl⟩,c⟩:=h2.wr i hi;exact⟨a,⟨o,by rw[<-hGc i a];exact ho,hl⟩,c⟩
 have hW2N:∀i,W2 i->¬Ke i:=by
  intro i hi hn;rcases hsub i (hW2S i hi).1 with h|h
  ·exact(hnew i hn).1 h
  ·exact(hnew i hn).2 h
 have ext12:Ext μ1 μ2:=by
  intro k im hk;rw[h2.ext k fun hn=>by rw[Kb k hn]at hk;cases hk];exact hk
 have mu2:∀i,¬Ke i->μ2 i=μ1 i:=h2.ext
 -- blocks that the second piece leaves
 have other:∀i o im,(S i\/Rf i)->¬W2 i->G1 i=some o->live o->μ1 i=some im->(∀k,W2 k->∀ZB,μ1 k=some ZB->ZB.Zz≠im.Zz):=by
  intro i o im hi hw ho hl QN k hk ZB QT;obtain⟨hkS,⟨ok,QF,hlk⟩,im'',WU,hr⟩:=hW2S k hk;rw[QT]at WU;cases WU;by_cases hra:im.rw=true
  ·exact h1.ok.inj k i ok o ZB im (hsub k hkS) hi (fun e=>hw (e ▸ hk)) QF ho hlk hl QT QN hr hra
  ·have a:=(h1.ok.low i o im hi ho hl QN).2.2 (by simpa using hra);have b:=(h1.ok.low k ok ZB (hsub k hkS) QF hlk QT).2.1 hr;omega
 have dead:∀k,W1 k->(∀o,G1 k=some o->¬live o)->∀o,G2 k=some o->¬live o:=by
  intro k hk hd o ho hl;have hS:=(h1.wr k hk).1;by_cases hw:W2 k
  ·obtain⟨_,⟨o',K6,hl'⟩,_⟩:=hW2S k hw;exact hd o' K6 hl'
  ·rw[hb k hw (fun e=>(hnew k e).1 hS)]at ho;exact hd o ho hl
 -- what is live behind both, and Za for the second, was live between
 have liveMid:∀i o,¬Ke i->G2 i=some o->live o->∃o',G1 i=some o'/\live o':=by
  intro i o hn ho hl;by_cases hw:W2 i
  ·exact(hW2S i hw).2.1
  ·rw[hb i hw hn]at ho;exact⟨o,ho,hl⟩
 refine⟨⟨fun i o hi ho hl=> ?_,fun i o im hi ho hl QN=> ?_,fun i j oi oj a b hi hj T4 Wk Wj Sd Uq hma hmb hra Yu=> ?_,fun i o hi ho hr=> ?_,fun i j oi oj a b x hi hj Wk Wj JT Uq hma hmb Yu hx=> ?_⟩,fun i hi=> ?_,fun i hn hw=> ?_,Nat.le_trans h1.grow h2.grow,fun b hb0 hw=> ?_,fun i hi=> ?_,fun i im o hi ho hl QN=> ?_,fun i im o hi ho hr QN b x hfb=> ?_,
  h2.os.trans h1.os,h2.tape.trans h1.tape,h2.output.trans h1.output⟩
 ·by_cases ht:W2 i\/Ke i
  ·rw[ha i ht]at ho;exact h2.ok.rel i o (ht.imp (fun h=>(hW2S i h).1) id) ho hl
  ·have hw:¬W2 i:=fun h=>ht (.inl h)
   have hn:¬Ke i:=fun h=>ht (.inr h)
   rw[hb i hw hn]at ho;have hi':S i\/Rf i:=by rcases hi with h|h|h <;> first|exact .inl h|exact .inr h|exact absurd h hn
   obtain⟨im,QN,hr⟩:=h1.ok.rel i o hi' ho hl;exact⟨im,ext12 _ _ QN,hr.keep ext12 (h2.frame _ (h1.ok.low i o im hi' ho hl QN).1 (other i o im hi' hw ho hl QN))⟩
 ·by_cases ht:W2 i\/Ke i
  ·rw[ha i ht]at ho;exact h2.ok.low i o im (ht.imp (fun h=>(hW2S i h).1) id) ho hl QN
  ·have hw:¬W2 i:=fun h=>ht (.inl h)
   have hn:¬Ke i:=fun h=>ht (.inr h)
   rw[hb i hw hn]at ho;rw[mu2 i hn]at QN;have hi':S i\/Rf i:=by rcases hi with h|h|h <;> first|exact .inl h|exact .inr h|exact absurd h hn
   have:=h1.ok.low i o im hi' ho hl QN;exact⟨Nat.lt_of_lt_of_le this.1 h2.grow,this.2⟩
 ·have Za:∀i,(S i\/Rf i\/Ke i)->¬Ke i->S i\/Rf i:=by
   intro i hi hn;rcases hi with h|h|h <;> first|exact .inl h|exact .inr h|exact absurd h hn
  have nw:∀i j oi oj a b,Ke i->¬Ke j->(S j\/Rf j\/Ke j)->i≠j->G2 i=some oi->G2 j=some oj->live oi->live oj->μ2 i=some a->μ2 j=some b->b.rw=true->a.Zz≠b.Zz:=by
   intro i j oi oj a b hn hj0 hjS T4 Wk Wj Sd Uq hma hmb Yu;rw[ha i (.inr hn)]at Wk;rw[mu2 j hj0]at hmb;obtain⟨o',K6,hl'⟩:=liveMid j oj hj0 Wj Uq;have hjj:=Za j hjS hj0;obtain⟨_,hf⟩:=h2.fresh i a oi hn Wk Sd hma;rcases hf with hf|⟨k,hk,⟨ZB,QT,hbb⟩,hd⟩
   ·have:=(h1.ok.low j o' b hjj K6 hl' hmb).1;omega
   ·obtain⟨hkS,⟨ok,QF,hlk⟩,im'',WU,hrk⟩:=hW2S k hk;rw[QT]at WU;cases WU;have hkj:k≠j:=by
     rintro rfl;rw[ha k (.inl hk)]at Wj;exact hd oj Wj Uq
    have:=h1.ok.inj k j ok o' ZB b (hsub k hkS) hjj hkj QF K6 hlk hl' QT hmb hrk Yu;omega
  by_cases hni:Ke i
  ·by_cases hnj:Ke j
   ·rw[ha i (.inr hni)]at Wk;rw[ha j (.inr hnj)]at Wj;exact h2.ok.inj i j oi oj a b (.inr hni) (.inr hnj) T4 Wk Wj Sd Uq hma hmb hra Yu
   ·exact nw i j oi oj a b hni hnj hj T4 Wk Wj Sd Uq hma hmb Yu
  ·by_cases hnj:Ke j
   ·exact Ne.symm (nw j i oj oi b a hnj hni hi (Ne.symm T4) Wj Wk Uq Sd hmb hma hra)
   ·rw[mu2 i hni]at hma;rw[mu2 j hnj]at hmb;obtain⟨o1,ho1,hl1⟩:=liveMid i oi hni Wk Sd;obtain⟨o2,ho2,hl2⟩:=liveMid j oj hnj Wj Uq;exact h1.ok.inj i j o1 o2 a b (Za i hi hni) (Za j hj hnj) T4 ho1 ho2 hl1 hl2 hma hmb hra Yu
 ·by_cases ht:W2 i\/Ke i
  ·rw[ha i ht]at ho;exact h2.ok.JX i o (ht.imp (fun h=>(hW2S i h).1) id) ho hr
  ·have hw:¬W2 i:=fun h=>ht (.inl h)
   have hn:¬Ke i:=fun h=>ht (.inr h)
   rw[hb i hw hn]at ho;have hi':S i\/Rf i:=by rcases hi with h|h|h <;> first|exact .inl h|exact .inr h|exact absurd h hn
   obtain⟨im,QN,hf⟩:=h1.ok.JX i o hi' ho hr;refine⟨im,ext12 _ _ QN,fun b x hx=> ?_⟩;have e:=hf b x hx;rw[h2.frame b (by simpa using(Array.getElem?_eq_some_iff.1 e).1) fun k hk ZB QT hbb=> ?_]
   ·exact e
   ·obtain⟨hkS,⟨ok,QF,hlk⟩,im'',WU,hrk⟩:=hW2S k hk;rw[QT]at WU;cases WU;exact h1.ok.sep i k o ok im ZB x hi' (hsub k hkS) ho QF hr hlk QN QT hrk (by rw[hbb];exact hx)
 ·have Za:∀i,(S i\/Rf i\/Ke i)->¬Ke i->S i\/Rf i:=by
   intro i hi hn;rcases hi with h|h|h <;> first|exact .inl h|exact .inr h|exact absurd h hn
  by_cases htj:W2 j\/Ke j
  ·by_cases hti:W2 i\/Ke i
   ·rw[ha i hti]at Wk;rw[ha j htj]at Wj;exact h2.ok.sep i j oi oj a b x (hti.imp (fun h=>(hW2S i h).1) id) (htj.imp (fun h=>(hW2S j h).1) id) Wk Wj JT Uq hma hmb Yu hx
   ·have hw:¬W2 i:=fun h=>hti (.inl h)
    have hn:¬Ke i:=fun h=>hti (.inr h)
    rw[hb i hw hn]at Wk;rw[mu2 i hn]at hma;have hi':=Za i hi hn;obtain⟨im,QN,hf⟩:=h1.ok.JX i oi hi' Wk JT;rw[hma]at QN;cases QN;have Xw:b.Zz<w1.heap.size:=(Array.getElem?_eq_some_iff.1 (hf _ x hx)).1;by_cases hnj:Ke j
    ·rw[ha j (.inr hnj)]at Wj;obtain⟨_,XP⟩:=h2.fresh j b oj hnj Wj Uq hmb;rcases XP with XP|⟨k,hk,⟨ZB,QT,hbb⟩,hd⟩
     ·omega
     ·obtain⟨hkS,⟨ok,QF,hlk⟩,im'',WU,hrk⟩:=hW2S k hk;rw[QT]at WU;cases WU;exact h1.ok.sep i k oi ok a ZB x hi' (hsub k hkS) Wk QF JT hlk hma QT hrk (by rw[hbb];exact hx)
    ·have hwj:W2 j:=htj.resolve_right hnj;obtain⟨hkS,⟨ok,QF,hlk⟩,im'',WU,hrk⟩:=hW2S j hwj;rw[mu2 j hnj]at hmb;exact h1.ok.sep i j oi ok a b x hi' (hsub j hkS) Wk QF JT hlk hma hmb Yu hx
  ·have hwj:¬W2 j:=fun h=>htj (.inl h)
   have hnj:¬Ke j:=fun h=>htj (.inr h)
   rw[hb j hwj hnj]at Wj;rw[mu2 j hnj]at hmb;have hj':=Za j hj hnj;by_cases hti:W2 i\/Ke i
   ·rw[ha i hti]at Wk;rcases h2.rf i a oi hti.symm Wk JT hma b.Zz x hx with e|⟨k,Ki,ko,hS,hko,hkr,hkm,hkb⟩|⟨k,hk,⟨ZB,QT,hbb⟩,hd⟩
    ·have:=(h1.ok.low j oj b hj' Wj Uq hmb).1;omega
    ·rw[hGc k hS]at hko;exact h1.ok.sep k j ko oj Ki b x (hsub k hS) hj' hko Wj hkr Uq hkm hmb Yu hkb
    ·obtain⟨hkS,⟨ok,QF,hlk⟩,im'',WU,hrk⟩:=hW2S k hk;rw[QT]at WU;cases WU;exact h1.ok.inj k j ok oj ZB b (hsub k hkS) hj' (fun e=>hwj (e ▸ hk)) QF Wj hlk Uq QT hmb hrk Yu hbb
   ·have hw:¬W2 i:=fun h=>hti (.inl h)
    have hn:¬Ke i:=fun h=>hti (.inr h)
    rw[hb i hw hn]at Wk;rw[mu2 i hn]at hma;exact h1.ok.sep i j oi oj a b x (Za i hi hn) hj' Wk Wj JT Uq hma hmb Yu hx
 ·rw[mu2 i (fun h=>hi (.inr h)),h1.ext i (fun h=>hi (.inl h))]
 ·have JO:¬Rf i:=fun h=>hn (.inl h)
  rw[hb i (fun h=>hw (.inr ⟨h,JO⟩)) (fun h=>hn (.inr h)),h1.keep i JO (fun h=>hw (.inl h))]
 ·have e1:=h1.frame b hb0 fun i hi=>hw i (.inl hi)
  rw[<-e1];refine h2.frame b (Nat.lt_of_lt_of_le hb0 h1.grow) fun i hi im QN=> ?_
  by_cases hn:Rf i
  ·obtain⟨_,⟨o,ho,hl⟩,_⟩:=hW2S i hi;obtain⟨_,hf⟩:=h1.fresh i im o hn ho hl QN;rcases hf with hf|⟨k,hk,⟨ZB,QT,hbb⟩,_⟩
   ·omega
   ·rw[<-hbb];exact hw k (.inl hk) ZB QT
  ·rw[h1.ext i hn]at QN;exact hw i (.inr ⟨hi,hn⟩) im QN
 ·rcases hi with hi|⟨hi,hn⟩
  ·exact h1.wr i hi
  ·obtain⟨hS2,⟨o,ho,hl⟩,im,QN,hr⟩:=hW2S i hi;have hS:S i:=(hsub i hS2).elim id fun h=>absurd h hn
   refine⟨hS, ?_,im,by rw[<-h1.ext i hn];exact QN,hr⟩;by_cases hw:W1 i
   ·exact(h1.wr i hw).2.1
   ·rw[h1.keep i hn hw]at ho;exact⟨o,ho,hl⟩
 ·by_cases hn:Ke i
  ·rw[ha i (.inr hn)]at ho;obtain⟨hr,hf⟩:=h2.fresh i im o hn ho hl QN;refine⟨hr, ?_⟩;rcases hf with hf|⟨k,hk,⟨ZB,QT,hbb⟩,hd⟩
   ·exact .inl (Nat.le_trans h1.grow hf)
   ·have hd2:∀o,G2 k=some o->¬live o:=fun o ho=>by rw[ha k (.inl hk)]at ho;exact hd o ho
    by_cases hk1:Rf k
    ·obtain⟨_,⟨o',K6,hl'⟩,_⟩:=hW2S k hk;obtain⟨_,hf'⟩:=h1.fresh k ZB o' hk1 K6 hl' QT;rcases hf' with hf'|⟨k',hk',⟨im'',WU,hb''⟩,hd'⟩
     ·exact .inl (by omega)
     ·exact .inr ⟨k',.inl hk',⟨im'',WU,by omega⟩,dead k' hk' hd'⟩
    ·exact .inr ⟨k,.inr ⟨hk,hk1⟩,⟨ZB,by rw[<-h1.ext k hk1];exact QT,hbb⟩,hd2⟩
  ·have JO:Rf i:=hi.elim id fun h=>absurd h hn
   rw[mu2 i hn]at QN;obtain⟨o',K6,hl'⟩:=liveMid i o hn ho hl;obtain⟨hr,hf⟩:=h1.fresh i im o' JO K6 hl' QN;refine⟨hr, ?_⟩;rcases hf with hf|⟨k,hk,QT,hd⟩
   ·exact .inl hf
   ·exact .inr ⟨k,.inl hk,QT,dead k hk hd⟩
 ·have mid:∀k Ki ko,(Rf k\/W1 k)->G1 k=some ko->Wa ko->μ1 k=some Ki->Ki.fm b=some x->
   w.heap.size<=b\/(∃k Ki ko,S k/\G k=some ko/\Wa ko/\μ k=some Ki/\Ki.fm b=some x)\/∃k,(W1 k\/(W2 k/\¬Rf k))/\(∃ZB,μ k=some ZB/\ZB.Zz=b)/\∀o,G2 k=some o->¬live o:=by
   intro k Ki ko hk hko hkr hkm hkb;rcases h1.rf k Ki ko hk hko hkr hkm b x hkb with h|h|⟨k',a,d,e⟩
   ·exact .inl h
   ·exact .inr (.inl h)
   ·exact .inr (.inr ⟨k',.inl a,d,dead k' a e⟩)
  by_cases hA:Ke i\/W2 i
  ·rw[ha i hA.symm]at ho;rcases h2.rf i im o hA ho hr QN b x hfb with h|⟨k,Ki,ko,hS,hko,hkr,hkm,hkb⟩|⟨k,hk,⟨ZB,QT,hbb⟩,hd⟩
   ·exact .inl (Nat.le_trans h1.grow h)
   ·rw[hGc k hS]at hko;by_cases hx:Rf k\/W1 k
    ·exact mid k Ki ko hx hko hkr hkm hkb
    ·have hk1:¬Rf k:=fun e=>hx (.inl e)
     rw[h1.keep k hk1 fun e=>hx (.inr e)]at hko;rw[h1.ext k hk1]at hkm;exact .inr (.inl ⟨k,Ki,ko,(hsub k hS).resolve_right hk1,hko,hkr,hkm,hkb⟩)
   ·have hd2:∀o,G2 k=some o->¬live o:=fun o ho=>by rw[ha k (.inl hk)]at ho;exact hd o ho
    by_cases hk1:Rf k
    ·obtain⟨_,⟨o',K6,hl'⟩,_⟩:=hW2S k hk;obtain⟨_,hf'⟩:=h1.fresh k ZB o' hk1 K6 hl' QT;rcases hf' with hf'|⟨k',hk',⟨im'',WU,hb''⟩,hd'⟩
     ·exact .inl (by omega)
     ·exact .inr (.inr ⟨k',.inl hk',⟨im'',WU,by omega⟩,dead k' hk' hd'⟩)
    ·exact .inr (.inr ⟨k,.inr ⟨hk,hk1⟩,⟨ZB,by rw[<-h1.ext k hk1];exact QT,hbb⟩,hd2⟩)
  ·have hn2:¬Ke i:=fun e=>hA (.inl e)
   have Y4:¬W2 i:=fun e=>hA (.inr e)
   rw[hb i Y4 hn2]at ho;rw[mu2 i hn2]at QN;refine mid i im o ?_ ho hr QN hfb;rcases hi with (h|h)|h|h
   ·exact .inl h
   ·exact absurd h hn2
   ·exact .inr h
   ·exact absurd h.1 Y4
end Go.CE

namespace Go.CE
open Go Go.RowKit

def LK{α:Type}(b:Bool):Option α->α->α
 |some x,a=>bif b then x else a
 |none,a=>a
def Ky{α:Type}(D:Nat->Bool):List (Option α)->Nat->α->α
 |[],_,a=>a
 |c::l,k,a=>Ky D l (k+1) (LK (D k) c a)
theorem Wy{α:Type}{D D':Nat->Bool}:∀(l:List (Option α)) (k:Nat) (a:α),(∀i x,l[i]? =some (some x)->D (k+i)=D' (k+i))->Ky D l k a=Ky D' l k a
 |[],_,_,_=>rfl
 |c::l,k,a,h=>by
  simp only[Ky];have e:LK (D k) c a=LK (D' k) c a:=by
   cases c with
   |none=>rfl
   |some x=>rw[show D k=D' k by simpa using h 0 x rfl]
  rw[e];exact Wy l (k+1) _ fun i x hx=>by have:=h (i+1) x (by simpa using hx);rwa[show k+(i+1)=k+1+i by omega]at this
theorem UY{α:Type}{D:Nat->Bool}:∀(l:List (Option α)) (k:Nat) (a:α),(∀i x,l[i]? =some (some x)->D (k+i)=false)->Ky D l k a=a
 |[],_,_,_=>rfl
 |c::l,k,a,h=>by
  simp only[Ky];have e:LK (D k) c a=a:=by
   cases c with
   |none=>rfl
   |some x=>rw[show D k=false by simpa using h 0 x rfl];rfl
  rw[e];exact UY l (k+1) a fun i x hx=>by have:=h (i+1) x (by simpa using hx);rwa[show k+(i+1)=k+1+i by omega]at this
theorem nW{α:Type}{D:Nat->Bool}{x:α}:∀(l:List (Option α)) (k j:Nat) (a:α),l[j]? =some (some x)->D (k+j)=true->(∀i y,j<i->l[i]? =some (some y)->D (k+i)=false)->Ky D l k a=x
 |[],_,_,_,h,_,_=>by simp at h
 |c::l,k,0,a,h,hd,hn=>by
  simp only[Oq,YO]at h;subst h;simp only[Ky];rw[show D k=true by simpa using hd];exact UY l (k+1) x fun i y hy=>by have:=hn (i+1) y (by omega) (by simpa using hy);rwa[show k+(i+1)=k+1+i by omega]at this
 |c::l,k,j+1,a,h,hd,hn=>by
  simp only[Ky];exact nW l (k+1) j _ (by simpa using h) (by rwa[show k+1+j=k+(j+1)by omega]) fun i y hi hy=>by
   have:=hn (i+1) y (by omega) (by simpa using hy);rwa[show k+(i+1)=k+1+i by omega]at this

inductive Tri where
 |lf
 |nd (l:Tri) (v:Value) (r:Tri)
def Tri.get:Tri->Nat->Value
 | .lf,_=>undef
 | .nd _ v _,0=>v
 | .nd l _ r,k+1=>bif Of (k % 2) 0 then l.get (k / 2)else r.get (k / 2)
def Tri.set:Nat->Tri->Nat->Value->Tri
 |0,t,_,_=>t
 |_+1,.lf,0,x=>.nd .lf x .lf
 |_+1,.nd l _ r,0,x=>.nd l x r
 |f+1,.lf,k+1,x=>bif Of (k % 2) 0 then .nd (Tri.set f .lf (k / 2) x) undef .lf else .nd .lf undef (Tri.set f .lf (k / 2) x)
 |f+1,.nd l v r,k+1,x=>bif Of (k % 2) 0 then .nd (Tri.set f l (k / 2) x) v r else .nd l v (Tri.set f r (k / 2) x)
theorem Tri.get_lf(i:Nat):Tri.lf.get i=undef:=by cases i <;> rfl
theorem Tri.get_succ(l:Tri)(v:Value)(r:Tri)(k:Nat):(Tri.nd l v r).get (k+1)=if k % 2=0 then l.get (k / 2)else r.get (k / 2):=by
 show(bif Of (k % 2) 0 then l.get (k / 2)else r.get (k / 2))=_;by_cases h:k % 2=0
 ·rw[h];rfl
 ·rw[T9 h,if_neg h];rfl
theorem Tri.set_lf(f k:Nat)(x:Value):Tri.set (f+1) .lf (k+1) x=if k % 2=0 then Tri.nd (Tri.set f .lf (k / 2) x) undef .lf else Tri.nd .lf undef (Tri.set f .lf (k / 2) x):=by
 show(bif Of (k % 2) 0 then _ else _)=_;by_cases h:k % 2=0
 ·rw[h];rfl
 ·rw[T9 h,if_neg h];rfl
theorem Tri.set_nd(f k:Nat)(l:Tri)(v:Value)(r:Tri)(x:Value):Tri.set (f+1) (.nd l v r) (k+1) x=if k % 2=0 then Tri.nd (Tri.set f l (k / 2) x) v r else Tri.nd l v (Tri.set f r (k / 2) x):=by
 show(bif Of (k % 2) 0 then _ else _)=_;by_cases h:k % 2=0
 ·rw[h];rfl
 ·rw[T9 h,if_neg h];rfl
theorem Tri.lf_get(j:Nat):(Tri.nd .lf undef .lf).get j=Tri.lf.get j:=by
 cases j with
 |zero=>rfl
 |succ j=>rw[Tri.get_succ];simp only[Tri.get_lf,ite_self]
theorem Tri.get_set:∀(f:Nat) (t:Tri) (i:Nat) (x:Value) (j:Nat),i+1<2 ^ f->(t.set f i x).get j=if j=i then x else t.get j
 |0,t,i,x,j,h=>by simp at h
 |f+1,t,0,x,j,_=>by
  cases t with
  |lf=>
   show(Tri.nd .lf x .lf).get j=_;cases j with
   |zero=>rfl
   |succ j=>rw[if_neg (by omega),Tri.get_succ];simp only[Tri.get_lf,ite_self]
  |nd l v r=>
   show(Tri.nd l x r).get j=_;cases j with
   |zero=>rfl
   |succ j=>rw[if_neg (by omega),Tri.get_succ,Tri.get_succ]
 |f+1,t,k+1,x,j,h=>by
  have hk:k / 2+1<2 ^ f:=by rw[Nat.pow_succ]at h;omega
  by_cases he:k % 2=0
  ·have key:∀l v r,(Tri.nd (Tri.set f l (k / 2) x) v r).get j=if j=k+1 then x else(Tri.nd l v r).get j:=by
    intro l v r;cases j with
    |zero=>rfl
    |succ j=>
     rw[Tri.get_succ,Tri.get_succ,Tri.get_set f l (k / 2) x (j / 2) hk];by_cases hj:j % 2=0
     ·rw[if_pos hj,if_pos hj];by_cases e:j=k
      ·subst e;simp
      ·rw[if_neg (by omega),if_neg (by omega)]
     ·rw[if_neg hj,if_neg hj,if_neg (by omega)]
   cases t with
   |lf=>rw[Tri.set_lf,if_pos he,key,Tri.lf_get]
   |nd l v r=>rw[Tri.set_nd,if_pos he,key]
  ·have key:∀l v r,(Tri.nd l v (Tri.set f r (k / 2) x)).get j=if j=k+1 then x else(Tri.nd l v r).get j:=by
    intro l v r;cases j with
    |zero=>rfl
    |succ j=>
     rw[Tri.get_succ,Tri.get_succ,Tri.get_set f r (k / 2) x (j / 2) hk];by_cases hj:j % 2=0
     ·rw[if_pos hj,if_pos hj,if_neg (by omega)]
     ·rw[if_neg hj,if_neg hj];by_cases e:j=k
      ·subst e;simp
      ·rw[if_neg (by omega),if_neg (by omega)]
   cases t with
   |lf=>rw[Tri.set_lf,if_neg he,key,Tri.lf_get]
   |nd l v r=>rw[Tri.set_nd,if_neg he,key]
structure Tm where
 len:Nat
 tr:Tri
def Zj(T:Tm)(t:Nat):Value:=T.tr.get t
def VM(T:Tm)(d:Option Tmp)(v:Value):Tm:=match d with|some d=>⟨T.len,T.tr.set 14 d v⟩|none=>T
def Zl(T:Tm):Operand->Option Value
 | .tmp t=>some (Zj T t)
 | .const v=>bif af v then some v else none
 | .func f=>some (.func (.func f) #[] #[])
 | .global _=>none
def TR(μ:Mu)(T:Tm)(A:Array Value):Prop:=T.len=A.size/\∀t,VR μ (Zj T t) (A.getD t undef)
theorem TR.mono{μ μ':Mu}(e:Ext μ μ'){T:Tm}{A:Array Value}(h:TR μ T A):TR μ' T A:=⟨h.1,fun t=>(h.2 t).mono e⟩
theorem Kp{T:Tm}{d:Option Tmp}{v:Value}:(VM T d v).len=T.len:=by cases d <;> rfl
theorem No(d:Nat)(h:d<16000):d+1<2 ^ 14:=by omega
theorem ti{T:Tm}{d:Option Tmp}{v:Value}{t:Nat}(h:∀x,d=some x->x<16000):Zj (VM T d v) t=if d=some t then v else Zj T t:=by
 cases d with
 |none=>simp[VM]
 |some d=>
  have h2:=No d (h d rfl);simp only[VM,Zj,YO];rw[Tri.get_set 14 _ d _ _ h2];by_cases e:d=t
  ·subst e;simp
  ·rw[if_neg (Ne.symm e),if_neg e]
theorem TR.put{μ:Mu}{T:Tm}{A:Array Value}(h:TR μ T A){d:Option Tmp}(hd:∀x,d=some x->x<T.len/\x<16000){v v':Value}(hv:VR μ v v'):TR μ (VM T d v) (match d with|some x=>A.setIfInBounds x v'|none=>A):=by
 refine⟨?_,fun t=> ?_⟩
 ·rw[Kp];cases d <;> simp[h.1]
 ·rw[ti fun x hx=>(hd x hx).2];cases d with
  |none=>simpa using h.2 t
  |some x=>
   have hx:x<A.size:=h.1 ▸ (hd x rfl).1;simp only[YO];by_cases e:x=t
   ·subst e;simpa[hx]using hv
   ·have:=h.2 t;simp[e]at this ⊢;exact this
def Sc:Value->Option Bool
 | .bool b=>some b
 |_=>none
def XX(ops:Array Oper)(T:Tm)(j:Nat):Option Bool:=
 match nth ops.toList j with
 |some o=>match o.dst with
  |some t=>Sc (Zj T t)
  |none=>none
 |none=>none
theorem gM{ops:Array Oper}{T:Tm}{j:Nat}:XX ops T j=match(ops[j]?).bind (·.dst)with
 |some t=>Sc (Zj T t)
 |none=>none:=by
 unfold XX;rw[aP,Om];cases ops[j]? <;> rfl
theorem ka{ops:Array Oper}{A:Array Value}{j:Nat}:yielded ops A j=match(ops[j]?).bind (·.dst)with
 |some t=>Sc (A.getD t undef)
 |none=>none:=by
 unfold yielded;cases(ops[j]?).bind (·.dst)with
 |none=>rfl
 |some t=>
  simp only[Option.bind_some,Array.getD_eq_getD_getElem?];cases A[t]? with
  |none=>rfl
  |some v=>cases v <;> rfl
theorem BA{μ:Mu}{v v':Value}(h:VR μ v v'):Sc v'=Sc v:=by
 cases h with
 |Y3 a b c=>
  cases v' with
  |bool q=>exact absurd rfl (a q)
  |_=>rfl
 |top a b c=>
  cases v' with
  |bool q=>exact absurd rfl (c.nobool a q)
  |_=>rfl
 |_=>rfl

structure Rec where
 o:Oper
 run:Bool
 v:Value
 T:Tm
 H:Qy
 H':Qy
 n:Nat
 n':Nat
 R:List Nat
 W:List Nat
def Yq:List Rec->Tm->Qy->Nat->Tm->Qy->Nat->Prop
 |[],T,H,n,T',H',n'=>T=T'/\H=H'/\n=n'
 |r::l,T,H,n,T',H',n'=>r.T=T/\r.H=H/\r.n=n/\Yq l (VM T r.o.dst r.v) r.H' r.n' T' H' n'
structure ca (len:Nat) (r:Rec):Prop where
 le:r.n<=r.n'
 keep:∀i,i<r.n->i ∉ r.W->Q1 r.H' i=Q1 r.H i
 top:∀i,r.n'<=i->Q1 r.H' i=Q1 r.H i
 sub:∀i,i∈r.W->i∈r.R
 wlt:∀i,i∈r.W->i<r.n'
 dst:∀x,r.o.dst=some x->x<len/\x<16000
def dq(r:Rec)(i:Nat):Bool:=r.W.contains i || (ON r.n i && On i r.n')
theorem TH{r:Rec}{i:Nat}:dq r i=true<->i∈r.W\/(r.n<=i/\i<r.n'):=by
 simp only[dq,Bool.or_eq_true,List.contains_iff_mem,YB];refine or_congr Iff.rfl ⟨fun h=>⟨YL h.1,YL h.2⟩,fun h=>⟨OB h.1,OB h.2⟩⟩
def cH(i:Nat)(r:Rec):Option (Option Obj):=bif dq r i then some (Q1 r.H' i)else none
def cT(t:Nat)(r:Rec):Option Value:=if r.o.dst=some t then some r.v else none
theorem Li{len:Nat}{r:Rec}(h:ca len r)(i:Nat)(a:Option Obj)(ha:a=Q1 r.H i):LK true (cH i r) a=Q1 r.H' i:=by
 unfold cH;cases ht:dq r i with
 |true=>rfl
 |false=>
  simp only[cond_false,LK];have hn:¬(i∈r.W\/(r.n<=i/\i<r.n')):=fun e=>by rw[TH.2 e]at ht;cases ht
  rw[ha];rcases OG i r.n with Xw|hge
  ·exact(h.keep i Xw fun e=>hn (.inl e)).symm
  ·exact(h.top i (by
    rcases OG i r.n' with h1|h1
    ·exact absurd (.inr ⟨hge,h1⟩) hn
    ·exact h1)).symm
theorem db{len:Nat}(i:Nat):∀(l:List Rec) (k:Nat) (T:Tm) (H:Qy) (n:Nat) (T':Tm) (H':Qy) (n':Nat),Yq l T H n T' H' n'->(∀r∈l,ca len r)->
 (∀j r,l[j]? =some r->Q1 r.H i=Ky (fun q=>decide (q<k+j)) (l.map (cH i)) k (Q1 H i))/\Q1 H' i=Ky (fun _=>true) (l.map (cH i)) k (Q1 H i)
 |[],k,T,H,n,T',H',n',h,_=>⟨fun j r hr=>by simp at hr,by obtain⟨_,rfl,_⟩:=h;rfl⟩
 |r::l,k,T,H,n,T',H',n',h,hs=>by
  obtain⟨h1,h2,h3,h4⟩:=h;obtain⟨q1,q2⟩:=db i l (k+1) _ _ _ _ _ _ h4 fun x hx=>hs x (Ot _ hx)
  have Wh:=Li (hs r (by simp)) i (Q1 H i) (by rw[h2]);refine⟨fun j x hx=> ?_, ?_⟩
  ·cases j with
   |zero=>
    simp only[Oq,YO]at hx;subst hx;rw[UY _ _ _ fun a y _=>by simp,h2]
   |succ j=>
    rw[q1 j x (by simpa using hx)];simp only[List.map_cons,Ky];rw[show(decide (k<k+(j+1)))=true by simp];rw[Wh];exact Wy _ _ _ fun a y _=>by rw[show k+1+j=k+(j+1)by omega]
  ·rw[q2];simp only[List.map_cons,Ky];rw[Wh]
theorem KM{len:Nat}(t:Nat):∀(l:List Rec) (k:Nat) (T:Tm) (H:Qy) (n:Nat) (T':Tm) (H':Qy) (n':Nat),Yq l T H n T' H' n'->(∀r∈l,ca len r)->T.len=len->
 (∀j r,l[j]? =some r->r.T.len=len/\Zj r.T t=Ky (fun q=>decide (q<k+j)) (l.map (cT t)) k (Zj T t))/\T'.len=len/\Zj T' t=Ky (fun _=>true) (l.map (cT t)) k (Zj T t)
 |[],k,T,H,n,T',H',n',h,_,hl=>⟨fun j r hr=>by simp at hr,by obtain⟨rfl,_⟩:=h;exact⟨hl,rfl⟩⟩
 |r::l,k,T,H,n,T',H',n',h,hs,hl=>by
  obtain⟨h1,h2,h3,h4⟩:=h;have hd:=(hs r (by simp)).dst;have hlen:(VM T r.o.dst r.v).len=len:=by rw[Kp];exact hl
  obtain⟨q1,q2,q3⟩:=KM t l (k+1) _ _ _ _ _ _ h4 (fun x hx=>hs x (Ot _ hx)) hlen;have Wh:LK true (cT t r) (Zj T t)=Zj (VM T r.o.dst r.v) t:=by
   rw[ti fun x hx=>(hd x hx).2];unfold cT;split <;> rfl
  refine⟨fun j x hx=> ?_,q2, ?_⟩
  ·cases j with
   |zero=>
    simp only[Oq,YO]at hx;subst hx;rw[UY _ _ _ fun a y _=>by simp,h1];exact⟨hl,rfl⟩
   |succ j=>
    obtain⟨a1,a2⟩:=q1 j x (by simpa using hx);refine⟨a1, ?_⟩;rw[a2];simp only[List.map_cons,Ky];rw[show(decide (k<k+(j+1)))=true by simp];rw[Wh];exact Wy _ _ _ fun a y _=>by rw[show k+1+j=k+(j+1)by omega]
  ·rw[q3];simp only[List.map_cons,Ky];rw[Wh]
theorem Pp{len:Nat}:∀(l:List Rec) (T:Tm) (H:Qy) (n:Nat) (T':Tm) (H':Qy) (n':Nat),Yq l T H n T' H' n'->(∀r∈l,ca len r)->
 n<=n'/\(∀r∈l,n<=r.n/\r.n'<=n')/\(∀(i j:Nat) (a b:Rec),i<j->l[i]? =some a->l[j]? =some b->a.n'<=b.n)/\(∀x,n<=x->x<n'->∃(j:Nat) (r:Rec),l[j]? =some r/\r.n<=x/\x<r.n')
 |[],T,H,n,T',H',n',h,_=>by obtain⟨_,_,rfl⟩:=h;exact⟨OE _,by simp,fun i j a b _ h=>by simp at h,fun x h1 h2=>absurd h1 (by omega)⟩
 |r::l,T,H,n,T',H',n',h,hs=>by
  obtain⟨h1,h2,h3,h4⟩:=h;obtain⟨q1,q2,q3,q4⟩:=Pp l _ _ _ _ _ _ h4 fun x hx=>hs x (Ot _ hx)
  have hr:=(hs r (by simp)).le;refine⟨by omega,fun x hx=> ?_,fun i j a b T4 ha hb=> ?_,fun x hx1 hx2=> ?_⟩
  ·rcases List.mem_cons.1 hx with rfl|hx
   ·omega
   ·have:=q2 x hx;omega
  ·cases j with
   |zero=>omega
   |succ j=>
    cases i with
    |zero=>
     simp only[Oq,YO]at ha;subst ha;exact(q2 b (Oj (by simpa using hb))).1
    |succ i=>exact q3 i j a b (by omega) (by simpa using ha) (by simpa using hb)
  ·rcases OG x r.n' with Xw|hge
   ·exact⟨0,r,rfl,by omega,Xw⟩
   ·obtain⟨j,r',hj,hx⟩:=q4 x hge hx2;exact⟨j+1,r',by simpa using hj,hx⟩

theorem xX{α:Type}{l m:List α}{i:Nat}{d:α}(h:i<l.length):(l++m).getD i d=l.getD i d:=by
 rw[Ol,Ol,Ow h]
def iW:List Oper->List Nat->List Nat
 |[],acc=>acc
 |o::l,acc=>iW l (acc++[o.after.toList.foldr (fun e m=>bif Region.binds .any e then Nat.lor (Nat.lor (Nat.shiftLeft 1 e.on) (acc.getD e.on 0)) m else m) 0])
def GX(n m:Nat):List Nat:=(Oe n).filter fun i=>Of (Nat.land (Nat.shiftRight m i) 1) 1
theorem ql{n m i:Nat}:i∈GX n m<->i<n/\m.testBit i=true:=by
 unfold GX;rw[List.mem_filter,List.mem_range,Nat.beq_eq,Nat.testBit_eq_decide_div_mod_eq,decide_eq_true_iff];show(i<n/\(m >>> i) &&& 1=1)<->_;rw[Nat.and_one_is_mod,Nat.shiftRight_eq_div_pow]
theorem B1{a b i:Nat}:(Nat.lor a b).testBit i=(a.testBit i || b.testBit i):=Nat.testBit_or a b i
theorem II{k i:Nat}(h:(Nat.shiftLeft 1 k).testBit i=true):i=k:=by
 have e:Nat.shiftLeft 1 k=2 ^ k:=by show 1 <<< k=_;rw[Nat.shiftLeft_eq,Nat.one_mul]
 rw[e,Nat.testBit_two_pow]at h;exact(of_decide_eq_true h).symm
theorem og{acc:List Nat}{i:Nat}:∀(l:List Edge),(l.foldr (fun e m=>bif Region.binds .any e then Nat.lor (Nat.lor (Nat.shiftLeft 1 e.on) (acc.getD e.on 0)) m else m) 0).testBit i=true->∃e∈l,Region.binds .any e=true/\(i=e.on\/(acc.getD e.on 0).testBit i=true)
 |[],h=>by simp at h
 |e::l,h=>by
  rw[List.foldr_cons]at h;cases hb:Region.binds .any e with
  |false=>
   rw[hb,cond_false]at h;obtain⟨x,hx,h1⟩:=og l h;exact⟨x,Ot _ hx,h1⟩
  |true=>
   rw[hb,cond_true,B1,B1,Bool.or_eq_true,Bool.or_eq_true]at h;rcases h with (h|h)|h
   ·exact⟨e,List.mem_cons_self,hb,Or.inl (II h)⟩
   ·exact⟨e,List.mem_cons_self,hb,Or.inr h⟩
   ·obtain⟨x,hx,h1⟩:=og l h;exact⟨x,Ot _ hx,h1⟩
def Pq(l:List Oper)(_:List (List Nat)):List (List Nat):=(iW l []).map (GX l.length)
def NK(ops:List Oper)(bs:List (List Nat)):Prop:=bs.length<=ops.length/\∀k b,bs[k]? =some b->∀i∈b,∃o,ops[k]? =some o/\∃e∈o.after,Region.binds .any e=true/\e.on<k/\(i=e.on\/i∈bs.getD e.on [])
def N1(ops:List Oper)(bs:List Nat):Prop:=bs.length<=ops.length/\∀k b,bs[k]? =some b->∀i,b.testBit i=true->∃o,ops[k]? =some o/\∃e∈o.after,Region.binds .any e=true/\e.on<k/\(i=e.on\/(bs.getD e.on 0).testBit i=true)
theorem yn:∀(l pre:List Oper) (acc:List Nat),acc.length=pre.length->N1 (pre++l) acc->(∀(k:Nat) o,(pre++l)[k]? =some o->∀e∈o.after,Region.binds .any e=true->e.on<k)->N1 (pre++l) (iW l acc)/\(iW l acc).length=(pre++l).length
 |[],pre,acc,hl,h,_=>⟨h,by simpa[iW]using hl⟩
 |o::l,pre,acc,hl,h,Xw=>by
  have e:pre++o::l=(pre++[o])++l:=by simp
  rw[e]at h Xw ⊢;refine yn l (pre++[o]) _ (by simp[hl]) ⟨by simp[hl],fun k b hb i hi=> ?_⟩ Xw;rcases OG k acc.length with hk|hk
  ·rw[Ow hk]at hb;obtain⟨x,hx,ed,hed,hbd,hon,ZS⟩:=h.2 k b hb i hi;refine⟨x,hx,ed,hed,hbd,hon,ZS.imp id fun h=> ?_⟩;rwa[xX (by omega)]
  ·have hk0:k=acc.length:=by
    have:=(List.getElem?_eq_some_iff.1 hb).1;simp at this;omega
   subst hk0;rw[Og (OE _)]at hb;simp only[Nat.sub_self,Oq,YO]at hb;subst hb;have ho:((pre++[o])++l)[acc.length]? =some o:=by rw[hl];simp
   obtain⟨ed,hed,hbd,hi⟩:=og _ hi;have hon:=Xw acc.length o ho ed (by simpa using hed) hbd;exact⟨o,ho,ed,by simpa using hed,hbd,hon,hi.imp id fun h=>by rwa[xX (by omega)]⟩
theorem sD(l:List Oper)(Xw:∀(k:Nat) o,l[k]? =some o->∀e∈o.after,Region.binds .any e=true->e.on<k):NK l (Pq l [])/\(Pq l []).length=l.length:=by
 obtain⟨⟨h1,h2⟩,h3⟩:=yn l [] [] rfl ⟨by simp,fun q b hq=>by simp at hq⟩ (fun q o ho=>Xw q o (by simpa using ho));simp only[List.nil_append]at h1 h2 h3;refine⟨⟨by simpa[Pq]using h1,fun k b hb i hi=> ?_⟩,by simpa[Pq]using h3⟩;unfold Pq at hb ⊢;rw[OA]at hb;cases hm:(iW l [])[k]? with
 |none=>rw[hm]at hb;cases hb
 |some m=>
  rw[hm]at hb;simp only[OF,YO]at hb;subst hb;obtain⟨hi1,hi2⟩:=ql.1 hi;obtain⟨o,ho,e,he,hbd,hon,ZS⟩:=h2 k m hm i hi2;refine⟨o,ho,e,he,hbd,hon,ZS.imp id fun h=> ?_⟩;have hk:k<(iW l []).length:=(List.getElem?_eq_some_iff.1 hm).1;have he2:e.on<(iW l []).length:=by omega
  rw[Ol,OA,O1 he2];rw[Ol,O1 he2]at h;exact ql.2 ⟨hi1,h⟩
theorem AU{ops:List Oper}{bs:List (List Nat)}(h:NK ops bs){D:Nat->Bool}(hD:∀k o,D k=true->ops[k]? =some o->∀e∈o.after,Region.binds .any e=true->D e.on=true):
 ∀(k:Nat),(∀o,ops[k]? =some o->∀e∈o.after,Region.binds .any e=true->D e.on=true)->∀i∈bs.getD k [],D i=true:=by
 intro k;induction k using Ox with
 |_ k ih=>
  intro hk i hi;rw[Ol]at hi;cases hb:bs[k]? with
  |none=>rw[hb]at hi;simp at hi
  |some b=>
   rw[hb]at hi;obtain⟨o,ho,e,he,hbd,hon,ZS⟩:=h.2 k b hb i hi;have hDe:=hk o ho e he hbd;rcases ZS with rfl|ZS
   ·exact hDe
   ·exact ih e.on hon (fun o' K6=>hD e.on o' hDe K6) i ZS
end Go.CE

namespace Go.CE
open Go Go.RowKit

inductive OO where
 |ret (v:Value)
 |Wp (v:Value)
inductive OR2 (μ:Mu):OO->OO->Prop
 |ret {v v'}:VR μ v v'->OR2 μ (.ret v) (.ret v')
 |Wp {v v'}:VR μ v v'->OR2 μ (.Wp v) (.Wp v')
def OO.on(fr:Frame):OO->Frame
 | .ret v=>fr.finish v
 | .Wp v=>fr.raise [{v,recovered:=false}]
def SV(P:Program)(B:Lo)(o:Oper)(ev:Operand->Option Value)(H:Qy)(n:Nat)(out:OO)(H':Qy)(n':Nat)(R W:List Nat):Prop:=
 ∀(S:Nat->Prop) (μ:Mu) (w:World) (fr:Frame) (cs:List Frame) (k:List Item) (ops:Array Oper) (i:Nat) (rest:List Nat),Ok B S μ (Q1 H) w->B.has w->(∀i,S i->i<n)->Pr μ n n'->
  (∀x∈o.op.operands,∀v,ev x=some v->VR μ v (fr.eval x))->(∀i∈R,i<n->S i)->
  fr.mode=.run->fr.todo=.inRegion ops (i::rest)::k->ops[i]? =some o->Region.wanted o (yielded ops fr.tmps)=true->
  ∃Zq w' μ',Post B S n n' W μ μ' H H' w w'/\OR2 μ' out Zq/\Steps P (lone fr cs w) (lone (Zq.on fr) cs w')
def RM(P:Program)(B:Lo)(ops:Array Oper)(r:Rec):Prop:=
 (r.run=Region.wanted r.o (XX ops r.T))/\(r.run=true->SV P B r.o (Zl r.T) r.H r.n (.ret r.v) r.H' r.n' r.R r.W)/\(r.run=false->r.v=undef/\r.H'=r.H/\r.n'=r.n/\r.W=[])

def meets(r x:Rec):Bool:=r.W.any fun i=>x.R.contains i
def bears(r x:Rec):Bool:=x.R.any fun i=>ON r.n i && On i r.n'
def tied(ops:Array Oper)(r x:Rec):Bool:= !(r.o.apart ops x.o) || meets r x || meets x r || bears r x
def Yk(ops:Array Oper)(r:Rec)(k:Nat):List Rec->List (List Nat)->Bool
 |x::l,b::bs=>(b.contains k || !(tied ops r x)) && Yk ops r k l bs
 |[],_=>true
 |_::_,[]=>false
def indep(ops:Array Oper):Nat->List Rec->List (List Nat)->Bool
 |k,r::l,_::bs=>Yk ops r k l bs && indep ops (k+1) l bs
 |_,[],_=>true
 |_,_::_,[]=>false
theorem aR{ops:Array Oper}{r:Rec}{k:Nat}:∀(l:List Rec) (bs:List (List Nat)),Yk ops r k l bs=true->∀(j:Nat) x,l[j]? =some x->tied ops r x=true->k∈bs.getD j []
 |x::l,b::bs,h,j,y,hj,ht=>by
  simp only[Yk,YB,Bool.or_eq_true,Bool.not_eq_true',List.contains_iff_mem]at h;cases j with
  |zero=>
   simp only[Oq,YO]at hj;subst hj;rcases h.1 with h1|h1
   ·simpa using h1
   ·rw[ht]at h1;cases h1
  |succ j=>
   have:=aR l bs h.2 j y (by simpa using hj) ht;simpa using this
 |[],_,_,j,y,hj,_=>by simp at hj
 |_::_,[],h,_,_,_,_=>by simp[Yk]at h
theorem T0{ops:Array Oper}:∀(l:List Rec) (bs:List (List Nat)) (k:Nat),indep ops k l bs=true->∀(i j:Nat) r x,i<j->l[i]? =some r->l[j]? =some x->tied ops r x=true->k+i∈bs.getD j []
 |r::l,b::bs,k,h,i,j,y,x,T4,hi,hj,ht=>by
  simp only[indep,YB]at h;cases j with
  |zero=>omega
  |succ j=>
   cases i with
   |zero=>
    simp only[Oq,YO]at hi;subst hi;have:=aR l bs h.1 j x (by simpa using hj) ht;simpa using this
   |succ i=>
    have:=T0 l bs (k+1) h.2 i j y x (by omega) (by simpa using hi) (by simpa using hj) ht;rw[show k+1+i=k+(i+1)by omega]at this;simpa using this
 |[],_,_,_,i,j,y,x,_,hi,_,_=>by simp at hi
 |_::_,[],_,h,_,_,_,_,_,_,_,_=>by simp[indep]at h
theorem PG.congr{B:Nat}{S New New' W W':Nat->Prop}{μ μ':Mu}{G G' G'':Nat->Option Obj}{w w':World}(h:PG B S New W μ μ' G G' w w')(hN:∀i,New i<->New' i)(hW:∀i,W i<->W' i)(hG:∀i,G' i=G'' i):PG B S New' W' μ μ' G G'' w w':=by
 have e1:New=New':=funext fun i=>propext (hN i)
 have e2:W=W':=funext fun i=>propext (hW i)
 have e3:G'=G'':=funext hG;subst e1 e2 e3;exact h

def NJ(ops:Array Oper)(Q4:List Rec)(bs:List (List Nat)):Prop:=∀(i j:Nat) (r x:Rec),i<j->Q4[i]? =some r->Q4[j]? =some x->tied ops r x=true->0+i∈bs.getD j []
structure Setup (P:Program) (B:Lo) (ops:Array Oper) (Q4:List Rec) (bs:List (List Nat)) (T:Tm) (H:Qy) (n:Nat) (T':Tm) (H':Qy) (n':Nat):Prop where
 chain:Yq Q4 T H n T' H' n'
 RN:∀r∈Q4,ca T.len r
 own:∀(i:Nat) r,Q4[i]? =some r->ops[i]? =some r.o
 len:Q4.length=ops.size
 bef:NK ops.toList bs
 ind:NJ ops Q4 bs
 edge:∀(k:Nat) o,ops[k]? =some o->∀e∈o.after,Region.binds .any e=true->e.on<k
section
variable {P:Program} {B:Lo} {ops:Array Oper} {Q4:List Rec} {bs:List (List Nat)} {T:Tm} {H:Qy} {n:Nat} {T':Tm} {H':Qy} {n':Nat}
def gD(Q4:List Rec)(H:Qy)(D:Nat->Bool)(i:Nat):Option Obj:=Ky D (Q4.map (cH i)) 0 (Q1 H i)
def tD(Q4:List Rec)(T:Tm)(D:Nat->Bool)(t:Nat):Value:=Ky D (Q4.map (cT t)) 0 (Zj T t)
def sN(Q4:List Rec)(D:Nat->Bool)(i:Nat):Prop:=∃(j:Nat) (r:Rec),D j=true/\Q4[j]? =some r/\r.n<=i/\i<r.n'
def WD(Q4:List Rec)(n:Nat)(D:Nat->Bool)(i:Nat):Prop:=i<n/\∃(j:Nat) (r:Rec),D j=true/\Q4[j]? =some r/\i∈r.W
def Kf(ops:Array Oper)(D:Nat->Bool):Prop:=∀k o,D k=true->ops[k]? =some o->∀e∈o.after,Region.binds .any e=true->D e.on=true
theorem oA(h:Setup P B ops Q4 bs T H n T' H' n'){D:Nat->Bool}(hD:Kf ops D){k:Nat}(hk:∀o,ops[k]? =some o->∀e∈o.after,Region.binds .any e=true->D e.on=true):∀i∈bs.getD k [],D i=true:=
 AU h.bef (fun k o a b=>hD k o a (by simpa using b)) k (fun o a=>hk o (by simpa using a))
theorem tw(h:Setup P B ops Q4 bs T H n T' H' n'){D:Nat->Bool}(hD:Kf ops D){j:Nat}{x:Rec}(hj:Q4[j]? =some x)(hn:D j=false)(hr:∀o,ops[j]? =some o->∀e∈o.after,Region.binds .any e=true->D e.on=true)
 {i:Nat} {r:Rec} (hi:Q4[i]? =some r) (ht:(i<j->tied ops r x=true)/\(j<i->tied ops x r=true)):D i=decide (i<j):=by
 rcases Nat.lt_trichotomy i j with Xw|heq|hgt
 ·have:=h.ind i j r x Xw hi hj (ht.1 Xw);rw[Oz]at this;rw[oA h hD hr i this];simp[Xw]
 ·subst heq;rw[hn];simp
 ·have:=h.ind j i x r hgt hj hi (ht.2 hgt);rw[Oz]at this;have hf:D i=false:=by
   cases hd:D i with
   |false=>rfl
   |true=>
    have:=oA h hD (k:=i) (fun o ho=>hD i o hd ho) j this;rw[hn]at this;cases this
  rw[hf];simp;omega
theorem gS{r x:Rec}{t:Nat}(ht:r.o.dst=some t)(hl:t∈x.o.looksAt ops\/x.o.dst=some t):tied ops r x=true/\tied ops x r=true:=by
 constructor
 ·have:r.o.apart ops x.o=false:=by
   cases hap:r.o.apart ops x.o with
   |false=>rfl
   |true=>
    obtain⟨h1,h2,_⟩:=Oper.apart_spec hap;rcases hl with hl|hl
    ·exact absurd hl (h1 t ht)
    ·exact absurd hl (h2 t ht)
  simp[tied,this]
 ·have:x.o.apart ops r.o=false:=by
   cases hap:x.o.apart ops r.o with
   |false=>rfl
   |true=>
    obtain⟨_,h2,h3⟩:=Oper.apart_spec hap;rcases hl with hl|hl
    ·exact absurd hl (h3 t ht)
    ·exact absurd ht (h2 t hl)
  simp[tied,this]
theorem jT{t:Nat}{i:Nat}{v:Value}(h:(Q4.map (cT t))[i]? =some (some v)):∃r,Q4[i]? =some r/\r.o.dst=some t/\r.v=v:=by
 rw[OA]at h;cases hr:Q4[i]? with
 |none=>rw[hr]at h;cases h
 |some r=>
  rw[hr]at h;simp only[OF,YO,cT]at h;split at h
  ·rename_i hd;exact⟨r,rfl,hd,by simpa using h⟩
  ·cases h
theorem jV{q:Nat}{i:Nat}{v:Option Obj}(h:(Q4.map (cH q))[i]? =some (some v)):∃r,Q4[i]? =some r/\(q∈r.W\/(r.n<=q/\q<r.n'))/\Q1 r.H' q=v:=by
 rw[OA]at h;cases hr:Q4[i]? with
 |none=>rw[hr]at h;cases h
 |some r=>
  rw[hr]at h;simp only[OF,YO,cH]at h;cases ht:dq r q with
  |false=>rw[ht]at h;cases h
  |true=>rw[ht]at h;exact⟨r,rfl,TH.1 ht,by simpa using h⟩
theorem tk(h:Setup P B ops Q4 bs T H n T' H' n'){D:Nat->Bool}(hD:Kf ops D){j:Nat}{x:Rec}(hj:Q4[j]? =some x)(hn:D j=false)(hr:∀o,ops[j]? =some o->∀e∈o.after,Region.binds .any e=true->D e.on=true)
 {t:Nat} (ht:t∈x.o.looksAt ops):tD Q4 T D t=Zj x.T t:=by
 obtain⟨q1,_⟩:=KM (len:=T.len) t Q4 0 T H n T' H' n' h.chain h.RN rfl;rw[(q1 j x hj).2];refine Wy _ _ _ fun i v hv=> ?_
 obtain⟨r,JT,hd,_⟩:=jT hv;have htt:=gS (ops:=ops) hd (.inl ht);simp only[Oz];exact tw h hD hj hn hr JT ⟨fun _=>htt.1,fun _=>htt.2⟩
theorem Cc(h:Setup P B ops Q4 bs T H n T' H' n'){i j:Nat}{r x:Rec}{q:Nat}(hi:Q4[i]? =some r)(hj:Q4[j]? =some x)(hq:q∈x.R)(hqn:q<x.n)(hr:q∈r.W\/(r.n<=q/\q<r.n')):(i<j->tied ops r x=true)/\(j<i->tied ops x r=true):=by
 have RY:=Pp Q4 T H n T' H' n' h.chain h.RN;rcases hr with hr|hr
 ·have m1:meets r x=true:=List.any_eq_true.2 ⟨q,hr,by simpa using hq⟩;exact⟨fun _=>by simp[tied,m1],fun _=>by simp[tied,m1]⟩
 ·refine⟨fun _=> ?_,fun Xw=> ?_⟩
  ·have:bears r x=true:=List.any_eq_true.2 ⟨q,hq,by simp only[YB];exact⟨OB hr.1,OB hr.2⟩⟩;simp[tied,this]
  ·have h1:=RY.2.2.1 j i x r Xw hj hi;have h2:=(h.RN x (Oj hj)).le;omega
theorem Hu(h:Setup P B ops Q4 bs T H n T' H' n'){D:Nat->Bool}(hD:Kf ops D){j:Nat}{x:Rec}(hj:Q4[j]? =some x)(hn:D j=false)(hr:∀o,ops[j]? =some o->∀e∈o.after,Region.binds .any e=true->D e.on=true)
 {q:Nat} (hq:q∈x.R) (hqn:q<x.n):gD Q4 H D q=Q1 x.H q:=by
 obtain⟨q1,_⟩:=db (len:=T.len) q Q4 0 T H n T' H' n' h.chain h.RN;rw[q1 j x hj];refine Wy _ _ _ fun i v hv=> ?_
 obtain⟨r,JT,hd,_⟩:=jV hv;simp only[Oz];exact tw h hD hj hn hr JT (Cc h JT hj hq hqn hd)
end
end Go.CE

namespace Go.CE
open Go Go.RowKit

theorem Ok.congr{B:Nat}{S:Nat->Prop}{μ:Mu}{G G':Nat->Option Obj}{w:World}(h:Ok B S μ G w)(hg:∀i,S i->G' i=G i):Ok B S μ G' w:=
 ⟨fun i o a b c=>h.rel i o a (by rw[<-hg i a];exact b) c,fun i o im a b c d=>h.low i o im a (by rw[<-hg i a];exact b) c d,
  fun i j oi oj x y a b c d e=>h.inj i j oi oj x y a b c (by rw[<-hg i a];exact d) (by rw[<-hg j b];exact e),
  fun i o a b=>h.JX i o a (by rw[<-hg i a];exact b),fun i j oi oj x y z a b c d=>h.sep i j oi oj x y z a b (by rw[<-hg i a];exact c) (by rw[<-hg j b];exact d)⟩
def X0(fr:Frame)(A:Array Value)(ops:Array Oper)(l:List Nat)(k:List Item):Frame:={fr with tmps:=A,todo:=.inRegion ops l::k}
theorem T7{fr:Frame}{A:Array Value}{ops:Array Oper}{i:Nat}{l:List Nat}{k:List Item}{o:Oper}(ho:ops[i]? =some o)(v:Value):
 (X0 fr A ops (i::l) k).finish v=X0 fr (match o.dst with|some d=>A.setIfInBounds d v|none=>A) ops l k:=by
 simp only[Frame.finish,X0,ho,Option.bind_some];cases o.dst <;> rfl
theorem dv{P:Program}{fr:Frame}{cs:List Frame}{w:World}{A:Array Value}{ops:Array Oper}{i:Nat}{l:List Nat}{k:List Item}{o:Oper}(hm:fr.mode=.run)(ho:ops[i]? =some o)(hw:Region.wanted o (yielded ops A)=false):
 step P (lone (X0 fr A ops (i::l) k) cs w)=.next (lone ((X0 fr A ops (i::l) k).finish undef) cs w):=
 step_lone_go (by simp[stepG,stepG.exec,X0,hm,ho,hw])
theorem Uu{P:Program}{fr:Frame}{cs:List Frame}{w:World}{A:Array Value}{ops:Array Oper}{k:List Item}(hm:fr.mode=.run):
 step P (lone (X0 fr A ops [] k) cs w)=.next (lone {fr with tmps:=A,todo:=k} cs w):=
 step_lone_go (by simp[stepG,stepG.exec,X0,hm])
section
variable {P:Program} {B:Lo} {ops:Array Oper} {Q4:List Rec} {bs:List (List Nat)} {T:Tm} {H:Qy} {n:Nat} {T':Tm} {H':Qy} {n':Nat}
theorem Lo.has.pg{L:Lo}{S New W:Nat->Prop}{μ μ':Mu}{G G':Nat->Option Obj}{w w':World}(h:L.has w)(QF:Ok L.B S μ G w)(hp:PG L.B S New W μ μ' G G' w w'):L.has w':=by
 refine⟨Nat.le_trans h.le hp.grow,L.still w w' (fun b hb=>hp.frame b (Nat.lt_of_lt_of_le hb h.le) fun i hi im QN=> ?_) h.inv⟩;obtain⟨hs,⟨o,ho,hl⟩,ZB,QT,Ui⟩:=hp.wr i hi;rw[QN]at QT;cases QT;have:=(QF.low i o im hs ho hl QN).2.1 Ui;omega
structure Inv (B:Nat) (Q4:List Rec) (T:Tm) (H:Qy) (n:Nat) (S:Nat->Prop) (μ0:Mu) (w0:World) (D:Nat->Bool) (μ:Mu) (A:Array Value) (w:World):Prop where
 pg:PG B S (sN Q4 D) (WD Q4 n D) μ0 μ (Q1 H) (gD Q4 H D) w0 w
 size:A.size=T.len
 tmps:∀t,VR μ (tD Q4 T D t) (A.getD t undef)
theorem cover(h:Setup P B ops Q4 bs T H n T' H' n'){D:Nat->Bool}(hD:Kf ops D){j:Nat}{x:Rec}(hj:Q4[j]? =some x)(hr:∀o,ops[j]? =some o->∀e∈o.after,Region.binds .any e=true->D e.on=true)
 {q:Nat} (hq:q∈x.R) (hqn:q<x.n):q<n\/sN Q4 D q:=by
 rcases OG q n with Xw|hge
 ·exact .inl Xw
 ·have RY:=Pp Q4 T H n T' H' n' h.chain h.RN;have hx:=RY.2.1 x (Oj hj);have hxs:=(h.RN x (Oj hj)).le;obtain⟨i,r,hi,h1,h2⟩:=RY.2.2.2 q hge (by omega);rcases Nat.lt_trichotomy i j with Xw|heq|hgt
  ·have hb:bears r x=true:=List.any_eq_true.2 ⟨q,hq,by simp only[YB];exact⟨OB h1,OB h2⟩⟩;have:=h.ind i j r x Xw hi hj (by simp[tied,hb]);rw[Oz]at this;exact .inr ⟨i,r,oA h hD hr i this,hi,h1,h2⟩
  ·subst heq;rw[hj]at hi;cases hi;omega
  ·have:=RY.2.2.1 j i x r hgt hj hi;omega
theorem di(h:Setup P B ops Q4 bs T H n T' H' n'){D:Nat->Bool}(hD:Kf ops D){j:Nat}{x:Rec}(hj:Q4[j]? =some x)(hn:D j=false)(hr:∀o,ops[j]? =some o->∀e∈o.after,Region.binds .any e=true->D e.on=true)
 {μ:Mu} {A:Array Value} (hA:∀t,VR μ (tD Q4 T D t) (A.getD t undef)):Region.wanted x.o (yielded ops A)=Region.wanted x.o (XX ops x.T):=by
 unfold Region.wanted;cases hg:x.o.guard with
 |none=>rfl
 |some gw=>
  obtain⟨g,want⟩:=gw;have:yielded ops A g=XX ops x.T g:=by
   rw[ka,gM];cases hd:(ops[g]?).bind (·.dst)with
   |none=>rfl
   |some t=>
    have ht:t∈x.o.looksAt ops:=by simp[Oper.looksAt,hg,hd]
    have:=hA t;rw[tk h hD hj hn hr ht]at this;exact BA this
  simp only[this]
theorem A8(h:Setup P B ops Q4 bs T H n T' H' n'){D:Nat->Bool}(hD:Kf ops D){j:Nat}{x:Rec}(hj:Q4[j]? =some x)(hn:D j=false)(hr:∀o,ops[j]? =some o->∀e∈o.after,Region.binds .any e=true->D e.on=true)
 {μ:Mu} {A:Array Value} (hA:∀t,VR μ (tD Q4 T D t) (A.getD t undef)) {fr:Frame} {l:List Nat} {k:List Item}:∀y∈x.o.op.operands,∀v,Zl x.T y=some v->VR μ v ((X0 fr A ops l k).eval y):=by
 intro y hy v hv;cases y with
 |tmp t=>
  simp only[Zl,YO]at hv;subst hv;have ht:t∈x.o.looksAt ops:=by
   unfold Oper.looksAt;exact Oh _ (List.mem_filterMap.2 ⟨.tmp t,by simpa using hy,rfl⟩)
  rw[<-tk h hD hj hn hr ht];exact hA t
 |const u=>
  simp only[Zl]at hv;cases ha:af u with
  |false=>rw[ha]at hv;cases hv
  |true=>rw[ha]at hv;simp only[cond_true,YO]at hv;subst hv;exact PJ ha
 |func f=>
  simp only[Zl,YO]at hv;subst hv;exact PJ rfl
 |global g=>cases hv
theorem kF(h:Setup P B ops Q4 bs T H n T' H' n'){D:Nat->Bool}(hD:Kf ops D){j:Nat}{x:Rec}(hj:Q4[j]? =some x)(hn:D j=false){i:Nat}{r:Rec}(hi:Q4[i]? =some r)(Xw:j<i)(ht:tied ops x r=true):D i=false:=by
 have:=h.ind j i x r Xw hj hi ht;rw[Oz]at this;cases hd:D i with
 |false=>rfl
 |true=>
  have:=oA h hD (k:=i) (fun o ho=>hD i o hd ho) j this;rw[hn]at this;cases this
def plus(D:Nat->Bool)(j:Nat):Nat->Bool:=fun k=>D k || Of k j
theorem Vl{D:Nat->Bool}{j:Nat}:plus D j j=true:=by simp[plus]
theorem VB{D:Nat->Bool}{j k:Nat}(h:k≠j):plus D j k=D k:=by simp[plus,T9 h]
theorem Ic(h:Setup P B ops Q4 bs T H n T' H' n'){D:Nat->Bool}(hD:Kf ops D){j:Nat}{x:Rec}(hj:Q4[j]? =some x)(hn:D j=false)(t:Nat):tD Q4 T (plus D j) t=if x.o.dst=some t then x.v else tD Q4 T D t:=by
 by_cases hd:x.o.dst=some t
 ·rw[if_pos hd];refine nW _ 0 j _ ?_ (by rw[Oz];exact Vl) fun i y hi hy=> ?_
  ·rw[OA,hj];simp[cT,hd]
  ·rw[Oz,VB (by omega)];obtain⟨r,JT,hrd,_⟩:=jT hy;exact kF h hD hj hn JT hi (gS (ops:=ops) hd (.inr hrd)).1
 ·rw[if_neg hd];refine Wy _ _ _ fun i y hy=> ?_
  obtain⟨r,JT,hrd,_⟩:=jT hy;rw[Oz];refine VB fun e=> ?_
  subst e;rw[hj]at JT;cases JT;exact hd hrd
theorem A7(h:Setup P B ops Q4 bs T H n T' H' n'){D:Nat->Bool}(hD:Kf ops D){j:Nat}{x:Rec}(hj:Q4[j]? =some x)(hn:D j=false){q:Nat}(hq:q∈x.W\/(x.n<=q/\q<x.n')):gD Q4 H (plus D j) q=Q1 x.H' q:=by
 refine nW _ 0 j _ ?_ (by rw[Oz];exact Vl) fun i y hi hy=> ?_
 ·rw[OA,hj];simp[cH,TH.2 hq]
 ·rw[Oz,VB (by omega)];obtain⟨r,JT,hrd,_⟩:=jV hy;have RY:=Pp Q4 T H n T' H' n' h.chain h.RN;have hsr:=h.RN r (Oj JT);have hsx:=h.RN x (Oj hj);have Xw:=RY.2.2.1 j i x r hi hj JT;have hxl:=hsx.le;refine kF h hD hj hn JT hi ?_;rcases hq with hq|hq
  ·rcases hrd with hrd|hrd
   ·have:meets x r=true:=List.any_eq_true.2 ⟨q,hq,by simpa using hsr.sub q hrd⟩;simp[tied,this]
   ·have:=hsx.wlt q hq;omega
  ·rcases hrd with hrd|hrd
   ·have:bears x r=true:=List.any_eq_true.2 ⟨q,hsr.sub q hrd,by simp only[YB];exact⟨OB hq.1,OB hq.2⟩⟩;simp[tied,this]
   ·omega
theorem iO{D:Nat->Bool}{j:Nat}{x:Rec}(hj:Q4[j]? =some x){q:Nat}(hq:¬(q∈x.W\/(x.n<=q/\q<x.n'))):gD Q4 H (plus D j) q=gD Q4 H D q:=by
 refine Wy _ _ _ fun i y hy=> ?_
 obtain⟨r,JT,hrd,_⟩:=jV hy;rw[Oz];refine VB fun e=> ?_
 subst e;rw[hj]at JT;cases JT;exact hq hrd
theorem qF{D:Nat->Bool}{j:Nat}{x:Rec}(hj:Q4[j]? =some x)(i:Nat):(sN Q4 D i\/(x.n<=i/\i<x.n'))<->sN Q4 (plus D j) i:=by
 constructor
 ·rintro(⟨k,r,hd,hr,h1⟩|h1)
  ·exact⟨k,r,by simp[plus,hd],hr,h1⟩
  ·exact⟨j,x,Vl,hj,h1⟩
 ·rintro⟨k,r,hd,hr,h1⟩;by_cases e:k=j
  ·subst e;rw[hj]at hr;cases hr;exact .inr h1
  ·rw[VB e]at hd;exact .inl ⟨k,r,hd,hr,h1⟩
theorem xU(h:Setup P B ops Q4 bs T H n T' H' n'){S:Nat->Prop}{μ0:Mu}{w0:World}(hS:∀i,S i->i<n)(hR:∀r∈Q4,∀i∈r.R,i<n->S i)(Kb:Pr μ0 n n')(hB:B.has w0)(hok0:Ok B S μ0 (Q1 H) w0){D:Nat->Bool}(hD:Kf ops D){j:Nat}(hn:D j=false)
 (hr:∀o,ops[j]? =some o->∀e∈o.after,Region.binds .any e=true->D e.on=true) {μ:Mu} {A:Array Value} {w:World} (hi:Inv B Q4 T H n S μ0 w0 D μ A w) {fr:Frame} {cs:List Frame} {l:List Nat} {k:List Item} (hm:fr.mode=.run)
 {x:Rec} (hj:Q4[j]? =some x) {out:OO} (hdo:SV P B x.o (Zl x.T) x.H x.n out x.H' x.n' x.R x.W) (Uj:Region.wanted x.o (XX ops x.T)=true):
 ∃Zq μ' w',PG B S (sN Q4 (plus D j)) (WD Q4 n (plus D j)) μ0 μ' (Q1 H) (gD Q4 H (plus D j)) w0 w'/\Ext μ μ'/\OR2 μ' out Zq/\Steps P (lone (X0 fr A ops (j::l) k) cs w) (lone (Zq.on (X0 fr A ops (j::l) k)) cs w'):=by
 have hx:=Oj hj;have hsx:=h.RN x hx;have Wj:=h.own j x hj;have RY:=Pp Q4 T H n T' H' n' h.chain h.RN;have hxn:=RY.2.1 x hx;have hnewn:∀i,x.n<=i->i<x.n'->¬sN Q4 D i:=by
  rintro i h1 h2 ⟨q,r,a,b,c,d⟩;rcases Nat.lt_trichotomy q j with hq|hq|hq
  ·have:=RY.2.2.1 q j r x hq b hj;omega
  ·subst hq;rw[hn]at a;cases a
  ·have:=RY.2.2.1 j q x r hq hj b;omega
 have hsub:∀i,(i∈x.R/\i<x.n)->S i\/sN Q4 D i:=fun i hi=>(cover h hD hj hr hi.1 hi.2).imp (hR x hx i hi.1) id
 have hgc:∀i,(i∈x.R/\i<x.n)->Q1 x.H i=gD Q4 H D i:=fun i hi=>(Hu h hD hj hn hr hi.1 hi.2).symm
 have XP:∀i,x.n<=i->i<x.n'->μ i=none:=fun i h1 h2=>by rw[hi.pg.ext i (hnewn i h1 h2)];exact Kb i (by omega) (by omega)
 have Yl:Region.wanted x.o (yielded ops A)=true:=by rw[di h hD hj hn hr hi.tmps];exact Uj
 obtain⟨Zq,w',μ',Z0,ZS,Wh⟩:=hdo (fun i=>i∈x.R/\i<x.n) μ w (X0 fr A ops (j::l) k) cs k ops j l ((hi.pg.ok.sub hsub).congr hgc) (hB.pg hok0 hi.pg) (fun i hi=>hi.2) (fun i h1 h2=>XP i h1 h2)
  (A8 h hD hj hn hr hi.tmps) (fun i h1 h2=>⟨h1,h2⟩) hm rfl Wj Yl
 refine⟨Zq,μ',w',(hi.pg.then (Z0.pg hsx.top) hsub hgc (fun i hi=>⟨fun hs=>by have:=hS i hs;omega,hnewn i hi.1 hi.2⟩) (fun i hi=>XP i hi.1 hi.2) (G2:=gD Q4 H (plus D j)) (fun i hi=>A7 h hD hj hn (hi.imp And.left id))
  (fun i h1 h2=>iO hj ?_)).congr (qF hj) (fun i=> ?_) (fun _=>rfl),Z0.mu fun i h1 h2=>XP i h1 h2,ZS,Wh⟩
 ·rintro(hw|hw)
  ·have:=hsx.wlt i hw;rcases OG i x.n with ha|ha
   ·exact h1 ⟨hw,ha⟩
   ·exact h2 ⟨ha,this⟩
  ·exact h2 hw
 ·constructor
  ·rintro(⟨a,q,r,b,c,d⟩|⟨⟨a,b⟩,c⟩)
   ·exact⟨a,q,r,by simp[plus,b],c,d⟩
   ·exact⟨(cover h hD hj hr (hsx.sub i a) b).elim id fun e=>absurd e c,j,x,Vl,hj,a⟩
  ·rintro⟨a,q,r,b,c,d⟩;by_cases e:q=j
   ·subst e;rw[hj]at c;cases c;refine .inr ⟨⟨d,by omega⟩, ?_⟩;rintro⟨q',r',_,b',c',_⟩;have:=(RY.2.1 r' (Oj b')).1;omega
   ·rw[VB e]at b;exact .inl ⟨a,q,r,b,c,d⟩
theorem xT(h:Setup P B ops Q4 bs T H n T' H' n'){S:Nat->Prop}{μ0:Mu}{w0:World}(hS:∀i,S i->i<n)(hR:∀r∈Q4,∀i∈r.R,i<n->S i)(Kb:Pr μ0 n n')(hB:B.has w0)(hok0:Ok B S μ0 (Q1 H) w0){D:Nat->Bool}(hD:Kf ops D){j:Nat}(Xw:j<ops.size)(hn:D j=false)
 (hk:∀x,Q4[j]? =some x->RM P B ops x) (hr:∀o,ops[j]? =some o->∀e∈o.after,Region.binds .any e=true->D e.on=true) {μ:Mu} {A:Array Value} {w:World} (hi:Inv B Q4 T H n S μ0 w0 D μ A w) {fr:Frame} {cs:List Frame} {l:List Nat} {k:List Item} (hm:fr.mode=.run):
 ∃μ' A' w',Inv B Q4 T H n S μ0 w0 (plus D j) μ' A' w'/\Steps P (lone (X0 fr A ops (j::l) k) cs w) (lone (X0 fr A' ops l k) cs w'):=by
 obtain⟨x,hj⟩:∃x,Q4[j]? =some x:=⟨Q4[j]'(by rw[h.len];exact Xw),by simp⟩
 have hx:=Oj hj;have hsx:=h.RN x hx;have Wj:=h.own j x hj;obtain⟨Uj,hdo,hno⟩:=hk x hj;have RY:=Pp Q4 T H n T' H' n' h.chain h.RN;have hxn:=RY.2.1 x hx;have hdst:∀d,x.o.dst=some d->d<A.size:=fun d hd=>by rw[hi.size];exact(hsx.dst d hd).1
 have put:∀(μ':Mu) v',Ext μ μ'->VR μ' x.v v'->(match x.o.dst with|some d=>A.setIfInBounds d v'|none=>A).size=T.len/\∀t,VR μ' (tD Q4 T (plus D j) t) ((match x.o.dst with|some d=>A.setIfInBounds d v'|none=>A).getD t undef):=by
  intro μ' v' he hv;refine⟨?_,fun t=> ?_⟩
  ·cases x.o.dst <;> simp[hi.size]
  ·rw[Ic h hD hj hn t];have ho:=(hi.tmps t).mono he;cases hd:x.o.dst with
   |none=>simpa using ho
   |some d=>
    have hdl:=hdst d hd;simp only[YO];by_cases e:d=t
    ·subst e;simpa[hdl]using hv
    ·simp[e]at ho ⊢;exact ho
 cases hrx:x.run with
 |false=>
  obtain⟨hv,hH,hnn,hW⟩:=hno hrx;have Yl:Region.wanted x.o (yielded ops A)=false:=by rw[di h hD hj hn hr hi.tmps,<-Uj];exact hrx
  obtain⟨p1,p2⟩:=put μ undef (Ext.refl _) (by rw[hv];exact VR.undef);refine⟨μ,_,w,⟨hi.pg.congr (fun i=> ?_) (fun i=> ?_) (fun i=> ?_),p1,p2⟩,Steps.one ((dv hm Wj Yl).trans (by rw[T7 Wj]))⟩
  ·rw[<-qF hj i];exact⟨.inl,fun h=>h.elim id fun h=>absurd h.1 (by omega)⟩
  ·refine and_congr Iff.rfl ⟨?_, ?_⟩
   ·rintro⟨q,r,a,b,c⟩;exact⟨q,r,by simp[plus,a],b,c⟩
   ·rintro⟨q,r,a,b,c⟩;by_cases e:q=j
    ·subst e;rw[hj]at b;cases b;rw[hW]at c;simp at c
    ·rw[VB e]at a;exact⟨q,r,a,b,c⟩
  ·exact(iO hj (by rw[hW];rintro(h|h) <;> first|(simp at h;done)|omega)).symm
 |true=>
  obtain⟨Zq,μ',w',hpg,hext,ZS,Wh⟩:=xU h hS hR Kb hB hok0 hD hn hr hi (fr:=fr) (cs:=cs) (l:=l) (k:=k) hm hj (hdo hrx) (by rw[<-Uj];exact hrx);cases ZS with
  |ret hv=>
   rename_i v';obtain⟨p1,p2⟩:=put μ' v' hext hv;exact⟨μ',_,w',⟨hpg,p1,p2⟩,Wh.trans (by simp only[OO.on];rw[T7 Wj];exact Steps.refl _ _)⟩
end
end Go.CE
