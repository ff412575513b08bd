/- CE: what single operations do. Seventh part: maps; all of them together. -/
import Derived.Test.YtncjjangllkokaaZRR01
set_option linter.all false
open Nat renaming blt->Lk,ble_eq_true_of_le->Lx,beq->Le,ble->LC,min->LL,le_refl->Lr,lt_or_ge->Ly,strongRecOn->LA,zero_add->Lv
open Option renaming map_some->Lz
open Array renaming getElem?_toList->Lj,eq_empty_of_size_eq_zero->LD
open List renaming getElem?_cons_zero->Ln,mem_cons_of_mem->Lh,mem_of_getElem? ->Ll,getD_eq_getElem?_getD->Li,getElem?_append_left->Lt,range->Ld,getElem?_append_right->Lm,getElem?_map->Lu,getElem?_eq_getElem->LU,mem_append_left->Lg
namespace Go.CE
open Go Go.RowKit

def dF:Nat:=9223372036854775808
def wq(n:Int):Int:=match n with
 | .ofNat m=>bif Lk m dF then .ofNat m else IntKind.i64.wrap (.ofNat m)
 | .negSucc m=>bif Lk m dF then .negSucc m else IntKind.i64.wrap (.negSucc m)
theorem blt_eq(m k:Nat):Lk m k=decide (m<k):=by
 by_cases h:m<k
 ·rw[decide_eq_true h];exact Lx h
 ·rw[decide_eq_false h];cases e:Lk m k with
  |false=>rfl
  |true=>exact absurd (YL e) h
theorem Fa(m k:Nat):Le m k=decide (m=k):=by
 by_cases h:m=k
 ·subst h;simp
 ·rw[Rc h,decide_eq_false h]
theorem F7(m:Nat):wq (.ofNat m)=IntKind.i64.wrap (.ofNat m):=by
 show(bif Lk m dF then Int.ofNat m else IntKind.i64.wrap (.ofNat m))=_;rw[blt_eq];by_cases h:m<dF
 ·rw[decide_eq_true h,cond_true,IntKind.wrap_i64,Int.ofNat_eq_natCast];unfold dF at h;omega
 ·rw[decide_eq_false h,cond_false]
theorem F8(m:Nat):wq (.negSucc m)=IntKind.i64.wrap (.negSucc m):=by
 show(bif Lk m dF then Int.negSucc m else IntKind.i64.wrap (.negSucc m))=_;rw[blt_eq];by_cases h:m<dF
 ·rw[decide_eq_true h,cond_true,IntKind.wrap_i64,Int.negSucc_eq];unfold dF at h;omega
 ·rw[decide_eq_false h,cond_false]
theorem Fg(n:Int):wq n=IntKind.i64.wrap n:=by
 cases n with
 |ofNat m=>exact F7 m
 |negSucc m=>exact F8 m
def Zm:Int->Int->Bool
 | .ofNat a,.ofNat b=>Lk a b
 | .ofNat _,.negSucc _=>false
 | .negSucc _,.ofNat _=>true
 | .negSucc a,.negSucc b=>Lk b a
theorem ov(a b:Int):Zm a b=decide (a<b):=by
 rw[Bool.eq_iff_iff];cases a <;> cases b <;> simp only[Zm,blt_eq,Int.ofNat_eq_natCast,Int.negSucc_eq,decide_eq_true_eq,Bool.false_eq_true,false_iff,true_iff] <;> omega
def Jv:Int->Int->Bool
 | .ofNat a,.ofNat b=>Le a b
 | .negSucc a,.negSucc b=>Le a b
 |_,_=>false
theorem cD(a b:Int):Jv a b=(a==b):=by
 rw[Bool.eq_iff_iff];cases a <;> cases b <;> simp only[Jv,Fa,beq_iff_eq,decide_eq_true_eq,Int.ofNat_eq_natCast,Int.negSucc_eq,Bool.false_eq_true,false_iff] <;> omega
def w7:BinOp->Value->Value->Option Value
 | .add,.int .i64 a,.int .i64 b=>some (.int .i64 (wq (a+b)))
 | .sub,.int .i64 a,.int .i64 b=>some (.int .i64 (wq (a-b)))
 | .mul,.int .i64 a,.int .i64 b=>some (.int .i64 (wq (a*b)))
 | .eql,.int .i64 a,.int .i64 b=>some (.bool (Jv a b))
 | .neq,.int .i64 a,.int .i64 b=>some (.bool (!(Jv a b)))
 | .lss,.int .i64 a,.int .i64 b=>some (.bool (Zm a b))
 | .gtr,.int .i64 a,.int .i64 b=>some (.bool (Zm b a))
 | .leq,.int .i64 a,.int .i64 b=>some (.bool (!(Zm b a)))
 | .geq,.int .i64 a,.int .i64 b=>some (.bool (!(Zm a b)))
 |_,_,_=>none
theorem Dk{P:Program}{op:BinOp}{t:TypeId}{x y:Operand}{a b v:Value}(h:w7 op a b=some v)(w:World):(do eqGuard op t x y a b;binOp op t a b:Sem Value).run P w=.ok v w/\(∀μ,VR μ v v)/\(∀μ a',VR μ a a'->a'=a)/\(∀μ b',VR μ b b'->b'=b):=by
 have hle:∀a b:Int,(!(Zm b a))=decide (a<=b):=fun a b=>by
  rw[ov,Bool.eq_iff_iff];simp only[Bool.not_eq_true',decide_eq_false_iff_not,decide_eq_true_eq];omega
 unfold w7 at h;split at h <;> first
  |(cases h;done)
  |(simp only[YO]at h
    subst h;refine⟨?_,fun μ=>by first|exact .int _ _|exact .bool _,fun μ a' ha=>by cases ha;rfl,fun μ b' hb=>by cases hb;rfl⟩
    first
     |(simp[eqGuard,binOp,Op.intArith,Fg];done)
     |(simp[eqGuard,binOp,Op.intCmp,cD];done)
     |(simp[eqGuard,binOp,Op.intCmp,cD,bne];done)
     |(simp[eqGuard,binOp,Op.intCmp,ov];done)
     |(simp[eqGuard,binOp,Op.intCmp,hle];done))

theorem XG{α β:Type}{P:Program}(s:Sem α)(f:α->Sem β):Xb P (s >>=f)=match Xb P s with|some a=>Xb P (f a)|none=>none:=by
 show Xb P (s.bind f)=_;induction s with
 |pure a=>rfl
 |program k ih=>exact ih P
 |_=>rfl
theorem ZE{α:Type}{P:Program}(a:α):Xb P (pure a:Sem α)=some a:=rfl

def ER(μ:Mu)(es Uw:List MapEntry):Prop:=es.length=Uw.length/\∀(i:Nat) e e',es[i]? =some e->Uw[i]? =some e'->e'.key=e.key/\e'.born=e.born/\af e.key=true/\VR μ e.val e'.val
theorem ER.tail{μ:Mu}{e e':MapEntry}{es Uw:List MapEntry}(h:ER μ (e::es) (e'::Uw)):ER μ es Uw:=⟨by simpa using h.1,fun i a b x y=>h.2 (i+1) a b (by simpa using x) (by simpa using y)⟩
def FR(μ:Mu):Option (Nat×Value)->Option (Nat×Value)->Prop
 |none,none=>True
 |some (i,v),some (i',v')=>i'=i/\VR μ v v'
 |_,_=>False
theorem kH{μ:Mu}{kind:TypeDesc}{k:Value}:∀(es Uw:List MapEntry) (i:Nat),ER μ es Uw->(∀r,Instr.findNow kind k es i=some r->∃r',Instr.findNow kind k Uw i=some r'/\FR μ r r')/\(Instr.findNow kind k es i=none->Instr.findNow kind k Uw i=none)
 |[],[],i,_=>by
  refine⟨fun r h=> ?_,fun h=>by simp[Instr.findNow]at h⟩;simp only[Instr.findNow,YO]at h;subst h;exact⟨none,rfl,trivial⟩
 |e::es,e'::Uw,i,h=>by
  obtain⟨h1,_,_,h4⟩:=h.2 0 e e' rfl rfl;simp only[Instr.findNow,h1];cases Instr.sameNow kind k e.key with
  |none=>exact⟨fun r h=>(by cases h),fun _=>rfl⟩
  |some b=>
   cases b with
   |true=>exact⟨fun r h=>by simp only[YO]at h;subst h;exact⟨_,rfl,rfl,h4⟩,fun h=>by cases h⟩
   |false=>exact kH es Uw (i+1) h.tail
 |[],_::_,_,h=>by have:=h.1;simp at this
 |_::_,[],_,h=>by have:=h.1;simp at this
theorem Tk{P:Program}{μ:Mu}{kt:TypeId}{k:Value}:∀(es Uw:List MapEntry) (i:Nat) r,ER μ es Uw->Xb P (Instr.findAsking kt k es i)=some r->∃r',Xb P (Instr.findAsking kt k Uw i)=some r'/\FR μ r r'
 |[],[],i,r,_,h=>by
  simp only[Instr.findAsking,ZE,YO]at h;subst h;exact⟨none,rfl,trivial⟩
 |e::es,e'::Uw,i,r,h,hr=>by
  obtain⟨h1,_,_,h4⟩:=h.2 0 e e' rfl rfl;simp only[Instr.findAsking,h1,XG]at hr ⊢;cases hq:Xb P (Op.equal kt k e.key)with
  |none=>rw[hq]at hr;cases hr
  |some b=>
   rw[hq]at hr;cases b with
   |true=>
    simp only[if_true,ZE,YO]at hr ⊢;subst hr;exact⟨_,rfl,rfl,h4⟩
   |false=>
    simp only[Bool.false_eq_true,if_false]at hr ⊢;exact Tk es Uw (i+1) r h.tail hr
 |[],_::_,_,_,h,_=>by have:=h.1;simp at this
 |_::_,[],_,_,h,_=>by have:=h.1;simp at this
theorem TS{P:Program}{μ:Mu}{kt:TypeId}{k:Value}{es Uw:List MapEntry}{r:Option (Nat×Value)}(h:ER μ es Uw)(hr:Xb P (Instr.findKey kt k es)=some r):∃r',Xb P (Instr.findKey kt k Uw)=some r'/\FR μ r r':=by
 simp only[Instr.findKey,XG]at hr ⊢;cases hu:Xb P (underlying kt)with
 |none=>rw[hu]at hr;cases hr
 |some d=>
  rw[hu]at hr;dsimp only at hr ⊢;obtain⟨h1,h2⟩:=kH (kind:=d) (k:=k) es Uw 0 h;cases hf:Instr.findNow d k es 0 with
  |some r0=>
   rw[hf]at hr;obtain⟨r',hr',hv⟩:=h1 r0 hf;simp only[ZE,YO]at hr;subst hr;rw[hr'];exact⟨r',rfl,hv⟩
  |none=>
   rw[hf]at hr;rw[h2 hf];exact Tk es Uw 0 r h hr
theorem ER.of{μ:Mu}{es Uw:Array MapEntry}(h1:es.size=Uw.size)(h2:∀(i:Nat) e e',es[i]? =some e->Uw[i]? =some e'->e'.key=e.key/\e'.born=e.born/\af e.key=true/\VR μ e.val e'.val):ER μ es.toList Uw.toList:=
 ⟨by simpa using h1,fun i a b x y=>h2 i a b (by simpa using x) (by simpa using y)⟩
theorem TQ{P:Program}{w:World}{b:Nat}{es:Array MapEntry}{YN:Nat}(h:w.heap[b]? =some (.map es YN)):(getObj b).run P w=.ok (.map es YN) w:=by simp[getObj,Sem.run,h]
def PZ(P:Program)(t:TypeId)(H:Qj)(ok:Bool)(x k:Value):Option (Value×List Nat):=
 match Yb P t with
 |some (.map kt e)=>
  match(match x with
   | .map none=>some (#[],[])
   | .map (some r)=>match Qo H r with
     |some (.map es _)=>some (es,[r])
     |_=>none
   |_=>none:Option (Array MapEntry×List Nat))with
  |some (es,R)=>bif af k then
   match Xb P (Instr.checkKey es.isEmpty 10000 kt k),Xb P (Instr.findKey kt k es.toList),zeroOf P e with
   |some (),some (some (_,v)),_=>some (bif ok then .tuple #[v,.bool true]else v,R)
   |some (),some none,some z=>bif af z then some (bif ok then .tuple #[z,.bool false]else z,R)else none
   |_,_,_=>none
    else none
  |none=>none
 |_=>none
theorem wH{μ:Mu}{a a' b b':Value}(h:VR μ a a')(k:VR μ b b'):VR μ (.tuple #[a,b]) (.tuple #[a',b']):=by
 refine .tuple rfl fun i v v' hv Z4=> ?_
 rcases i with _|_|i
 ·simp at hv Z4;subst hv Z4;exact h
 ·simp at hv Z4;subst hv Z4;exact k
 ·simp at hv
theorem tY{P:Program}{B:Nat}{S:Nat->Prop}{μ:Mu}{H:Qj}{w:World}{t:TypeId}{ok:Bool}{x k x' k' v:Value}{R:List Nat}(h:PZ P t H ok x k=some (v,R))(Q5:Ok B S μ (Qo H) w)(hx:VR μ x x')(hk:VR μ k k')(hR:∀i∈R,S i):
 ∃v',(Instr.lookup t x' k' ok).run P w=.ok v' w/\VR μ v v':=by
 unfold PZ at h;simp only[XR]at h;split at h
 ·rename_i kt e hu;split at h
  ·rename_i es R0 hes;cases hak:af k with
   |false=>rw[hak]at h;cases h
   |true=>
    rw[hak]at h;simp only[cond_true]at h;have hkk:k'=k:=Pr hak hk;subst hkk;have hRR:R0=R:=by
     split at h
     ·simp only[YO,YR]at h;exact h.2
     ·rename_i z _ _ _;cases hz:af z with
      |false=>rw[hz]at h;cases h
      |true=>rw[hz]at h;simp only[cond_true,YO,YR]at h;exact h.2
     ·cases h
    subst hRR
    -- the entries in the world
    have hent:∃Uw,ER μ es.toList Uw.toList/\(x'=.map none/\Uw=#[]\/∃b YN,x'=.map (some b)/\w.heap[b]? =some (.map Uw YN)):=by
     split at hes
     ·simp only[YO,YR]at hes;obtain⟨rfl,_⟩:=hes;cases hx;exact⟨#[],⟨rfl,fun i a b x _=>by simp at x⟩,.inl ⟨rfl,rfl⟩⟩
     ·rename_i r;split at hes
      ·rename_i es0 YN hg;simp only[YO,YR]at hes;obtain⟨rfl,rfl⟩:=hes;obtain⟨im,Q3,_,Uw,hw,h1,h2⟩:=Q5.rel r _ (hR r (by simp)) hg trivial;cases hx with
       |map hm=>
        rw[Q3]at hm;cases hm;exact⟨Uw,.of h1 h2,.inr ⟨im.XM,YN,rfl,hw⟩⟩
      ·cases hes
     ·cases hes
    obtain⟨Uw,hER,Vc⟩:=hent;have hemp:Uw.isEmpty=es.isEmpty:=by
     have h1:=hER.1;simp only[Array.length_toList]at h1;rw[Bool.eq_iff_iff];simp only[Array.isEmpty_iff_size_eq_zero];omega
    have run2:∀r v0,Xb P (Instr.checkKey es.isEmpty 10000 kt k')=some ()->Xb P (Instr.findKey kt k' es.toList)=some r->
     (∀r',FR μ r r'->∃v',(do let(v,ok') <-(match r' with|some (_,v)=>pure (v,true)|none=>do pure (<-zeroValue e,false):Sem (Value×Bool));pure (if ok then .tuple #[v,.bool ok']else v):Sem Value).run P w=.ok v' w/\VR μ v0 v')->
     ∃v',(Instr.lookup t x' k' ok).run P w=.ok v' w/\VR μ v0 v':=by
     intro r v0 hc hf hfin;obtain⟨r',hr',Xr⟩:=TS hER hf;obtain⟨v',Z4,Wt⟩:=hfin r' Xr;refine⟨v', ?_,Wt⟩;have hc':=Vq hc w;have hr'':=Vq hr' w;rw[<-hemp]at hc';simp only[Sem.run_bind]at Z4;rcases Vc with ⟨rfl,rfl⟩|⟨b,YN,rfl,hw⟩
     ·simp only[Instr.lookup,Sem.run_bind,run_underlying hu,Result.andThen_ok,Sem.run_pure,hc',hr''];cases r' <;> first|simpa using Z4|(simp only[Sem.run_bind]at Z4;cases hzr:Sem.run P (zeroValue e) w <;> rw[hzr]at Z4 <;> first|(cases Z4;done)|simpa[hzr]using Z4)
     ·simp only[Instr.lookup,Sem.run_bind,run_underlying hu,Result.andThen_ok,Sem.run_pure,TQ hw,hc',hr''];cases r' <;> first|simpa using Z4|(simp only[Sem.run_bind]at Z4;cases hzr:Sem.run P (zeroValue e) w <;> rw[hzr]at Z4 <;> first|(cases Z4;done)|simpa[hzr]using Z4)
    split at h
    ·rename_i i0 v0 hc hf;simp only[YO,YR]at h;obtain⟨rfl,_⟩:=h;refine run2 _ _ hc hf fun r' Xr=> ?_
     cases r' with
     |none=>exact Xr.elim
     |some p=>
      obtain⟨i',v'⟩:=p;cases ok with
      |true=>exact⟨_,rfl,wH Xr.2 (.bool true)⟩
      |false=>exact⟨_,rfl,Xr.2⟩
    ·rename_i z hc hf hz;cases haz:af z with
     |false=>rw[haz]at h;cases h
     |true=>
      rw[haz]at h;simp only[cond_true,YO,YR]at h;obtain⟨rfl,_⟩:=h;refine run2 _ _ hc hf fun r' Xr=> ?_
      cases r' with
      |some p=>exact Xr.elim
      |none=>
       cases ok with
       |true=>exact⟨.tuple #[z,.bool false],by simp[To hz],wH (Yn haz) (.bool false)⟩
       |false=>exact⟨z,by simp[To hz],Yn haz⟩
    ·cases h
  ·cases h
 ·cases h
def Uz(P:Program)(t:TypeId)(H:Qj)(x k v:Value):Option (Qj×Nat):=
 match Yb P t,x with
 |some (.map kt _),.map (some r)=>match Qo H r with
  |some (.map es YN)=>bif af k then
   match Xb P (Instr.checkKey false 10000 kt k),Xb P (Instr.findKey kt k es.toList)with
   |some (),some (some (i,_))=>match es[i]? with
    |some e=>bif Instr.sameBits 10000 e.key k then some (WK H r (.map (es.setIfInBounds i {e with key:=k,val:=v}) YN),r)else none
    |none=>none
   |some (),some none=>some (WK H r (.map (es.push {key:=k,val:=v,born:=YN}) (YN+1)),r)
   |_,_=>none
    else none
  |_=>none
 |_,_=>none
theorem fX{P:Program}{w:World}{b:Nat}{es:Array MapEntry}{YN:Nat}(o:Obj)(h:w.heap[b]? =some (.map es YN)):(setObj b o).run P w=.ok () {w with heap:=w.heap.setIfInBounds b o}:=by simp[setObj,Sem.run,h]
theorem kU{P:Program}{B n:Nat}{S:Nat->Prop}{μ:Mu}{H H':Qj}{w:World}{t:TypeId}{x k v x' k' v':Value}{b:Nat}(h:Uz P t H x k v=some (H',b))(Q5:Ok B S μ (Qo H) w)(hS:∀i,S i->i<n)(hx:VR μ x x')(hk:VR μ k k')(hv:VR μ v v')(hb:S b):
 ∃w',(Instr.mapUpdate t x' k' v').run P w=.ok () w'/\Post B S n n [b] μ μ H H' w w':=by
 unfold Uz at h;simp only[XR]at h;split at h
 ·rename_i kt e0 r hu;split at h
  ·rename_i es YN hg;cases hak:af k with
   |false=>rw[hak]at h;cases h
   |true=>
    rw[hak]at h;simp only[cond_true]at h;have hkk:k'=k:=Pr hak hk;subst hkk;have hbr:r=b:=by
     split at h
     ·split at h
      ·rename_i e _;cases hs:Instr.sameBits 10000 e.key k' with
       |false=>rw[hs]at h;cases h
       |true=>rw[hs]at h;simp only[cond_true,YO,YR]at h;exact h.2
      ·cases h
     ·simp only[YO,YR]at h;exact h.2
     ·cases h
    subst hbr;obtain⟨im,Q3,hr,Uw,hw,h1,h2⟩:=Q5.rel r _ hb hg trivial;have hER:=ER.of h1 h2;have QX:im.XM<w.heap.size:=(Array.getElem?_eq_some_iff.1 hw).1;cases hx with
    |map hm=>
     rw[Q3]at hm;cases hm;have fin:∀(es2 es2':Array MapEntry) (clk2:Nat),ER μ es2.toList es2'.toList->
      Post B S n n [r] μ μ H (WK H r (.map es2 clk2)) w {w with heap:=w.heap.setIfInBounds im.XM (.map es2' clk2)}:=by
      intro es2 es2' clk2 hE;refine Post.write Q5 hS r _ _ im hb hg trivial Q3 hr (by simp) (fun q hq=> ?_) ⟨hr,es2', ?_,by simpa using hE.1,fun i a c ha hc=>hE.2 i a c (by simpa using ha) (by simpa using hc)⟩ ⟨rfl,rfl,rfl⟩
      ·simp[Array.getElem?_setIfInBounds_ne (Ne.symm hq)]
      ·simp[QX]
     split at h
     ·rename_i i v0 hc hf;split at h
      ·rename_i e he;cases hs:Instr.sameBits 10000 e.key k' with
       |false=>rw[hs]at h;cases h
       |true=>
        rw[hs]at h;simp only[cond_true,YO,YR]at h;obtain⟨rfl,_⟩:=h;obtain⟨r',hr',Xr⟩:=TS hER hf;cases r' with
        |none=>exact Xr.elim
        |some p=>
         obtain⟨i',v0'⟩:=p;obtain⟨rfl,_⟩:=Xr;have hi:i'<Uw.size:=h1 ▸ (Array.getElem?_eq_some_iff.1 he).1;obtain⟨e',he'⟩:∃e',Uw[i']? =some e':=⟨Uw[i'],by simp[hi]⟩
         obtain⟨q1,q2,q3,q4⟩:=h2 i' e e' he he';have hmod:Uw.modify i' (fun e=>{e with key:=k',val:=v'})=Uw.setIfInBounds i' {e' with key:=k',val:=v'}:=by
          apply Array.ext (by simp);intro j hj hj';simp only[Array.size_modify]at hj;have hee:Uw[i']=e':=by simpa[hi]using he'
          rw[Array.getElem_modify];by_cases e1:i'=j
          ·subst e1;simp[hee]
          ·simp[e1,hj]
         refine⟨_, ?_,fin _ (Uw.setIfInBounds i' {e' with key:=k',val:=v'}) YN ?_⟩
         ·simp only[Instr.mapUpdate,Sem.run_bind,run_underlying hu,Result.andThen_ok,TQ hw,Vq hc,Vq hr',he',Lz,Option.getD_some,q1,Instr.keyThatStays,hs,if_true,Sem.run_pure];rw[fX _ hw,hmod]
         ·refine⟨by simpa using h1,fun j a c ha hc=> ?_⟩;simp only[Lj]at ha hc;rw[Array.getElem?_setIfInBounds]at ha hc;by_cases e1:i'=j
          ·subst e1;rw[if_pos rfl]at ha hc;rw[if_pos (by rw[h1];exact hi)]at ha;rw[if_pos hi]at hc;cases ha;cases hc;exact⟨rfl,q2,hak,hv⟩
          ·rw[if_neg e1]at ha hc;exact h2 j a c ha hc
      ·cases h
     ·rename_i hc hf;simp only[YO,YR]at h;obtain⟨rfl,_⟩:=h;obtain⟨r',hr',Xr⟩:=TS hER hf;cases r' with
      |some p=>exact Xr.elim
      |none=>
       refine⟨_, ?_,fin _ (Uw.push {key:=k',val:=v',born:=YN}) (YN+1) ?_⟩
       ·simp only[Instr.mapUpdate,Sem.run_bind,run_underlying hu,Result.andThen_ok,TQ hw,Vq hc,Vq hr'];rw[fX _ hw]
       ·refine⟨by simpa using h1,fun j a c ha hc=> ?_⟩;simp only[Lj]at ha hc;rw[Array.getElem?_push]at ha hc;rw[<-h1]at hc;split at ha
        ·rename_i e1;rw[if_pos e1]at hc;cases ha;cases hc;exact⟨rfl,rfl,hak,hv⟩
        ·rename_i e1;rw[if_neg e1]at hc;exact h2 j a c ha hc
     ·cases h
  ·cases h
 ·cases h
def tZ(P:Program)(t:TypeId)(H:Qj)(n:Nat)(s x:Value):Option CR:=
 match Yb P t with
 |some (.slice e)=>match ZM P e with
  |some z=>match s,x with
   | .slice (some ⟨b,off,none⟩) k _,.slice (some ⟨b2,off2,none⟩) m _=>match Qo H b,Qo H b2 with
     |some (.cells cs te (0,0)),some (.cells cs2 _ _)=>
      bif LC (off+LL m k*z) cs.size && LC (off2+LL m k*z) cs2.size && ones (cs2.extract off2 (off2+LL m k*z))then
       some ⟨.val (.int .i64 (LL m k)),WK H b (.cells (splice cs off (cs2.extract off2 (off2+LL m k*z))) te (0,0)),n,[b,b2],[b]⟩else none
     |_,_=>none
   |_,_=>none
  |none=>none
 |_=>none
theorem zE{P:Program}{B n:Nat}{S:Nat->Prop}{μ:Mu}{H:Qj}{w:World}{t t2 ty:TypeId}{s x s' x':Value}{r:CR}(h:tZ P t H n s x=some r)(Q5:Ok B S μ (Qo H) w)(hS:∀i,S i->i<n)
 (hs:VR μ s s') (hx:VR μ x x') (hR:∀i∈r.R,S i):
 ∃v w',(Builtin.copy_ #[t,t2] ty #[s',x']).run P w=.ok v w'/\Post B S n r.n r.W μ μ H r.H w w'/\r.nx=.val v/\VR μ v v/\r.n=n:=by
 unfold tZ at h;simp only[XR]at h;split at h
 ·rename_i e hu;split at h
  ·rename_i z hz;split at h
   ·rename_i b off k cap b2 off2 m cap2;split at h
    ·rename_i cs te cs2 te2 fz2 hg hg2;cases hcond:(LC (off+LL m k*z) cs.size && LC (off2+LL m k*z) cs2.size && ones (cs2.extract off2 (off2+LL m k*z)))with
     |false=>rw[hcond]at h;cases h
     |true=>
      rw[hcond]at h;simp only[cond_true,YO]at h;subst h;simp only[YB]at hcond;obtain⟨⟨h1,h2⟩,h3⟩:=hcond;have h1:=YL h1;have h2:=YL h2;have hb:S b:=hR b (by simp);have hb2:S b2:=hR b2 (by simp);obtain⟨im,Q3,Zu⟩:=Q5.rel b _ hb hg trivial;obtain⟨im2,ZJ,hor2⟩:=Q5.rel b2 _ hb2 hg2 trivial;cases hs with
      |slice har q1 q2 q3=>
       obtain⟨XX,QG,_,rfl⟩:=har;simp only at QG;rw[Q3]at QG;cases QG;cases hx with
       |slice har2 p1 p2 p3=>
        obtain⟨im2',him2',_,rfl⟩:=har2;simp only at him2';rw[ZJ]at him2';cases him2';obtain⟨xs,hload,hxs⟩:=hor2.cells (P:=P) (off:=off2) (s:=LL m k*z) h2;have hxsz:xs.size=LL m k*z:=by rw[<-hxs.1];simp;omega
        have hexsz:(cs2.extract off2 (off2+LL m k*z)).size=LL m k*z:=by simp;omega
        rcases Zu with ⟨_,hr,ho,arr,ha,hle,hcap,hc⟩|⟨hz0,_⟩
        ·have ZS:=run_storeCells_at (P:=P) im.XM off te xs.toList 0 arr w ha (by simp[hxsz];omega) (hxs.ones h3);simp only[Nat.add_zero]at ZS;refine⟨.int .i64 (LL m k),w.setRow im.XM (CE.splice arr off xs), ?_,Post.write Q5 hS b _ (.cells (CE.splice cs off (cs2.extract off2 (off2+LL m k*z))) te (0,0)) im hb hg trivial Q3 hr (w':=w.setRow im.XM (CE.splice arr off xs)) ?_ ?_ ?_ ⟨rfl,rfl,rfl⟩,rfl,.int _ _,rfl⟩
         ·simp[Builtin.copy_,Builtin.lenOf,Builtin.firstCells,Sem.run_bind,Sem.run_pure,Result.andThen_ok,run_underlying hu,XH hz,hload,ho,ZS,CE.splice,goInt]
         ·simp[World.setRow]
         ·intro y hy;exact setRow_other w im.XM y _ hy
         ·refine .inl ⟨rfl,hr,ho,CE.splice arr off xs,setRow_heap w im.XM arr _ te _ ha, ?_, ?_, ?_⟩
          ·rw[ZV (by rw[hexsz];omega),ZV (by rw[hxsz];omega)];exact hle
          ·rw[ZV (by rw[hxsz];omega)];exact hcap
          ·exact VRs.splice (by rw[hexsz];omega) hle hc hxs
        ·exact absurd rfl hz0
    ·cases h
   ·cases h
  ·cases h
 ·cases h
end Go.CE

namespace Go.CE
open Go Go.RowKit

def zM(ev:Operand->Option Value):Option Operand->Option (Option Value)
 |none=>some none
 |some x=>match ev x with
  |some v=>some (some v)
  |none=>none
def mkPure(o:Option Value)(H:Qj)(n:Nat):Option CR:=match o with|some v=>some ⟨.val v,H,n,[],[]⟩|none=>none
def fe(P:Program)(t:TypeId)(len:Nat)(l:List (Nat×Value)):Bool:=Le len 0 && l.isEmpty && (match Yb P t with
 |some (.slice e)=>(ZM P e).isSome
 |_=>false)
theorem Post.ofBelow{B n:Nat}{S:Nat->Prop}{μ:Mu}{H:Qj}{w w':World}(Q5:Ok B S μ (Qo H) w)(h:Below w.heap.size w w'):Post B S n n [] μ μ H H w w':=by
 refine⟨⟨fun i o hi ho hl=> ?_,fun i o im hi ho hl Q3=> ?_,fun i j oi oj a b hi hj=> ?_,fun i o hi ho hr=> ?_,fun i j oi oj a b x hi hj=> ?_⟩,Lr _,fun _ _=>rfl,fun _ _ _=>rfl,h.size,fun b hb _=>h.block b hb,fun _ h=>by simp at h,fun i im o h1 h2=>absurd h1 (by omega),fun i im o h1=>h1.elim (fun h1=>absurd h1.1 (by omega)) (fun h=>by simp at h),h.os,h.tape,h.output⟩
 ·have hi:=hi.elim id fun h=>absurd h.1 (by omega)
  obtain⟨im,Q3,hr⟩:=Q5.rel i o hi ho hl;exact⟨im,Q3,hr.keep (Ext.refl _) (h.block _ (Q5.low i o im hi ho hl Q3).1)⟩
 ·have hi:=hi.elim id fun h=>absurd h.1 (by omega)
  have:=Q5.low i o im hi ho hl Q3;exact⟨Nat.lt_of_lt_of_le this.1 h.size,this.2⟩
 ·exact Q5.inj i j oi oj a b (hi.elim id fun h=>absurd h.1 (by omega)) (hj.elim id fun h=>absurd h.1 (by omega))
 ·have hi:=hi.elim id fun h=>absurd h.1 (by omega)
  obtain⟨im,Q3,hf⟩:=Q5.KI i o hi ho hr;exact⟨im,Q3,fun b x hx=>by rw[h.block b (KH Q5 hi ho hr Q3 hx)];exact hf b x hx⟩
 ·exact Q5.sep i j oi oj a b x (hi.elim id fun h=>absurd h.1 (by omega)) (hj.elim id fun h=>absurd h.1 (by omega))
def oK(P:Program)(F:FuncId->Bool)(ev:Operand->Option Value)(o:Oper)(H:Qj)(n:Nat):Option CR:=
 match o.op with
 | .move x| .assign x=>mkPure (ev x) H n
 | .pick c a b=>match ev c with
   |some (.bool t)=>mkPure (ev (bif t then a else b)) H n
   |_=>none
 | .alloc t=>match zeroOf P t with
   |some z=>bif af z then some ⟨.val (v8 n),(n,.cells z.cells t (0,0))::H,n+1,[],[]⟩else none
   |none=>none
 | .box t x=>match ev x with
   |some v=>some ⟨.val (v8 n),(n,.cells v.cells t (0,0))::H,n+1,[],[]⟩
   |none=>none
 | .build t ps=>match partsOf ev ps.toList with
   |some l=>mkPure (oT P t l) H n
   |none=>none
 | .buildSlice t len ps=>match partsOf ev ps.toList with
   |some l=>match Jk P t len l with
    |some (e,cs,s)=>some ⟨.val (.slice (some ⟨n,0,none⟩) len s),(n,.cells cs e (0,0))::H,n+1,[],[]⟩
    |none=>bif fe P t len l then some ⟨.val RW,H,n,[],[]⟩else none
   |none=>none
 | .load t a=>match ev a with
   |some p=>match Po P t H p with
    |some (v,b)=>some ⟨.val v,H,n,[b],[]⟩
    |none=>none
   |none=>none
 | .store t a x=>match ev a,ev x with
   |some p,some v=>match Jw P t H v p with
    |some (H',b)=>some ⟨.val undef,H',n,[b],[b]⟩
    |none=>none
   |_,_=>none
 | .fieldAddr s x f=>match ev x with
   |some p=>mkPure (ZA P s f p) H n
   |none=>none
 | .field t x f=>match ev x with
   |some p=>mkPure (cM P t f p) H n
   |none=>none
 | .indexAddr t x i=>match ev x,ev i with
   |some v,some k=>mkPure (Kq P t v k) H n
   |_,_=>none
 | .index t x i=>match ev x,ev i with
   |some (.agg cs),some k=>mkPure (oR P t (.agg cs) k) H n
   |_,_=>mkPure (VE P ev o) H n
 | .extract x i=>match ev x with
   |some v=>mkPure (Pp i v) H n
   |none=>none
 | .makeSlice t l c=>match ev l,ev c with
   |some x,some y=>match Rf P t x y with
    |some (e,cs,l,s)=>some ⟨.val (.slice (some ⟨n,0,none⟩) l s),(n,.cells cs e (0,0))::H,n+1,[],[]⟩
    |none=>none
   |_,_=>none
 | .slice t x lo hi none=>match ev x,zM ev lo,zM ev hi with
   |some (.slice (some a) m s),some l,some h=>mkPure (Sj P t (.slice (some a) m s) l h) H n
   |some (.pointer p),some l,some h=>mkPure (Sj P t (.pointer p) l h) H n
   |_,_,_=>mkPure (VE P ev o) H n
 | .slice t x lo (some hi) (some mx)=>bif SX P t (ev x) (zM ev lo) (ev hi) (ev mx)then some ⟨.val RW,H,n,[],[]⟩else mkPure (VE P ev o) H n
 | .makeFunc (.func f) first captured=>match YJ ev first.toList,YJ ev captured.toList with
   |some xs,some ys=>some ⟨.val (.func (.func f) xs.toArray ys.toArray),H,n,[],[]⟩
   |_,_=>none
 | .makeMap _ none=>some ⟨.val (.map (some n)),(n,.map #[] 0)::H,n+1,[],[]⟩
 | .lookup t x k ok=>match ev x,ev k with
   |some m,some kv=>match PZ P t H ok m kv with
    |some (v,R)=>some ⟨.val v,H,n,R,[]⟩
    |none=>none
   |_,_=>none
 | .mapUpdate t m k x=>match ev m,ev k,ev x with
   |some mv,some kv,some v=>match Uz P t H mv kv v with
    |some (H',b)=>some ⟨.val undef,H',n,[b],[b]⟩
    |none=>none
   |_,_,_=>none
 | .binOp op _ x y _=>match ev x,ev y with
   |some a,some b=>match w7 op a b with
    |some v=>some ⟨.val v,H,n,[],[]⟩
    |none=>mkPure (VE P ev o) H n
   |_,_=>none
 | .nilCheck x=>match ev x with
   |some (.pointer (some a))=>some ⟨.val (.pointer (some a)),H,n,[],[]⟩
   |some (.func (.func f) xs ys)=>some ⟨.val (.func (.func f) xs ys),H,n,[],[]⟩
   |some (.func (.yield f) xs ys)=>some ⟨.val (.func (.yield f) xs ys),H,n,[],[]⟩
   |_=>none
 | .call c=>match c.callee with
   | .builtin .append=>match c.args.toList,c.argTypes.toList with
     |[s,x],[t,t']=>match ev s,ev x with
      |some sv,some xv=>ub P t t' H n sv xv
      |_,_=>none
     |_,_=>none
   | .builtin .len=>match c.args.toList,c.argTypes.toList with
     |[x],[t]=>match ev x,Yb P t with
      |some (.slice (some _) m _),some (.slice _)=>some ⟨.val (.int .i64 m),H,n,[],[]⟩
      |some (.chan (some 0)),some (.slice _)=>some ⟨.val (.int .i64 0),H,n,[],[]⟩
      |_,_=>mkPure (VE P ev o) H n
     |_,_=>none
   | .builtin .copy=>match c.args.toList,c.argTypes.toList with
     |[s,x],[t,_]=>match ev s,ev x with
      |some sv,some xv=>tZ P t H n sv xv
      |_,_=>none
     |_,_=>none
   | .builtin _=>mkPure (VE P ev o) H n
   | .value f=>match ev f,YJ ev c.args.toList with
     |some fv,some args=>match Jj F H fv args.toArray with
      |some (nx,R)=>some ⟨nx,H,n,R,[]⟩
      |none=>none
     |_,_=>none
   |_=>none
 |_=>mkPure (VE P ev o) H n

theorem ZD{P:Program}{B:Nat}{o:Oper}{ev:Operand->Option Value}{H:Qj}{n:Nat}{v:Value}(h:∀(μ:Mu) (ρ:Operand->Value) (w:World),(∀x∈o.op.operands,∀v,ev x=some v->VR μ v (ρ x))->∃v',(execOp ρ o).run P w=.ok (.value v') w/\VR μ v v'):
 F2 P B o ev H n ⟨.val v,H,n,[],[]⟩:=fun _ μ ρ w Q5 _ _ _ Xy _=>
 let⟨_,h1,h2⟩:=h μ ρ w Xy
 ⟨_,w,μ,h1,Post.refl Q5,.val h2⟩
theorem XV{o:Option Value}{H:Qj}{n:Nat}{r:CR}(h:mkPure o H n=some r):∃v,o=some v/\r=⟨.val v,H,n,[],[]⟩:=by
 cases o with
 |none=>cases h
 |some v=>simp only[mkPure,YO]at h;exact⟨v,rfl,h.symm⟩
theorem bI{μ:Mu}{ev:Operand->Option Value}{ρ:Operand->Value}{x:Option Operand}{v:Option Value}(h:zM ev x=some v)(hv:∀y,x=some y->∀v,ev y=some v->VR μ v (ρ y)):GO μ v (x.map ρ):=by
 cases x with
 |none=>simp only[zM,YO]at h;subst h;trivial
 |some y=>
  simp only[zM]at h;cases he:ev y with
  |none=>rw[he]at h;cases h
  |some u=>
   rw[he]at h;simp only[YO]at h;subst h;exact hv y rfl u he
theorem Zs{α:Type}{q:Bool}{x r:α}(h:(bif q then some x else none)=some r):x=r:=by
 cases q with
 |false=>cases h
 |true=>simpa using h
theorem Kr{α:Type}{q:Bool}{x:Option α}{r:α}(h:(bif q then x else none)=some r):x=some r:=by
 cases q with
 |false=>cases h
 |true=>simpa using h
theorem EY{P:Program}{t t':TypeId}{H:Qj}{n:Nat}{s x:Value}{r:CR}(h:mP P t t' H n s x=some r):r.n=n+1:=by
 unfold mP at h;split at h
 ·split at h
  ·split at h
   ·rw[<-Zs h]
   ·cases h
  ·cases h
 ·cases h
theorem zF{P:Program}{t:TypeId}{H:Qj}{n:Nat}{s x:Value}{r:CR}(h:Vf P t H n s x=some r):r.n=n+1:=by
 unfold Vf at h;split at h
 ·split at h
  ·split at h
   ·split at h
    ·rename_i cs k ko ns m b _ _;rw[<-Zs h]
    ·cases h
   ·cases h
  ·cases h
 ·cases h
theorem EU{P:Program}{F:FuncId->Bool}(hF:∀g,F g=true->Q0 P g=true){B:Nat}{o:Oper}{ev:Operand->Option Value}{H:Qj}{n:Nat}{r:CR}(h:oK P F ev o H n=some r):F2 P B o ev H n r:=by
 have X3:mkPure (VE P ev o) H n=some r->F2 P B o ev H n r:=by
  intro h;obtain⟨v,h1,rfl⟩:=XV h;exact zB h1
 unfold oK at h;split at h
 ·-- move
  rename_i x ho;obtain⟨v,h1,rfl⟩:=XV h;exact ZD fun μ ρ w Xy=>⟨ρ x,by simp[execOp,ho],Xy x (by simp[ho,Op.operands]) v h1⟩
 ·rename_i x ho;obtain⟨v,h1,rfl⟩:=XV h;exact ZD fun μ ρ w Xy=>⟨ρ x,by simp[execOp,ho],Xy x (by simp[ho,Op.operands]) v h1⟩
 ·-- pick
  rename_i c a b ho;split at h
  ·rename_i t hc;obtain⟨v,h1,rfl⟩:=XV h;refine ZD fun μ ρ w Xy=> ?_
   have hct:=Xy c (by simp[ho,Op.operands]) _ hc;have hct:ρ c=.bool t:=by generalize ρ c=u at hct;cases hct;rfl
   cases t with
   |true=>exact⟨ρ a,by simp[execOp,ho,hct,asBool],Xy a (by simp[ho,Op.operands]) v h1⟩
   |false=>exact⟨ρ b,by simp[execOp,ho,hct,asBool],Xy b (by simp[ho,Op.operands]) v h1⟩
  ·cases h
 ·-- alloc
  rename_i t ho;split at h
  ·rename_i z hz;cases ha:af z with
   |false=>rw[ha]at h;cases h
   |true=>
    rw[ha]at h;simp only[cond_true,YO]at h;subst h;exact w9 ho hz ha
  ·cases h
 ·-- box
  rename_i t x ho;split at h
  ·rename_i v hv;simp only[YO]at h;subst h;exact Dj ho hv
  ·cases h
 ·-- build
  rename_i t ps ho;split at h
  ·rename_i l hl;obtain⟨v,h1,rfl⟩:=XV h;refine ZD fun μ ρ w Xy=> ?_
   obtain⟨q1,q2⟩:=PI (μ:=μ) (ρ:=ρ) ps.toList l hl (fun p hp v hv=>Xy p.2 (by simp only[ho,Op.operands,List.mem_toArray];exact List.mem_map.2 ⟨p,hp,rfl⟩) v hv);obtain⟨v',hr,Wt⟩:=w6 (ps':=ps.map fun(i,x)=>(i,ρ x)) h1 (by simpa using q1) (by simpa using q2) w;exact⟨v',by simp[execOp,ho,hr],Wt⟩
  ·cases h
 ·-- buildSlice
  rename_i t len ps ho;split at h
  ·rename_i l hl;split at h
   ·rename_i e cs s hb;simp only[YO]at h;subst h;intro S μ ρ w Q5 hB hS hf Xy hR;obtain⟨q1,q2⟩:=PI (μ:=μ) (ρ:=ρ) ps.toList l hl (fun p hp v hv=>Xy p.2 (by simp only[ho,Op.operands,List.mem_toArray];exact List.mem_map.2 ⟨p,hp,rfl⟩) v hv);obtain⟨v',w',μ',hr,hp,Wt⟩:=eK (ps':=ps.map fun(i,x)=>(i,ρ x)) hb Q5 hB hS (hf n (Lr _) (by simp)) (by simpa using q1) (by simpa using q2);exact⟨_,w',μ',by simp[execOp,ho,hr],hp,.val Wt⟩
   ·cases he:fe P t len l with
    |false=>rw[he]at h;cases h
    |true=>
     rw[he]at h;simp only[cond_true,YO]at h;subst h;intro S μ ρ w Q5 hB hS hf Xy hR;obtain⟨q1,_⟩:=PI (μ:=μ) (ρ:=ρ) ps.toList l hl (fun p hp v hv=>Xy p.2 (by simp only[ho,Op.operands,List.mem_toArray];exact List.mem_map.2 ⟨p,hp,rfl⟩) v hv);unfold fe at he;simp only[YB,List.isEmpty_iff]at he;obtain⟨⟨e1,rfl⟩,e3⟩:=he;have e1:=YE e1;subst e1;have eps:ps=#[]:=by
      have:ps.toList=[]:=List.eq_nil_of_length_eq_zero (by simpa using q1.symm);exact Array.ext' (by simpa using this)
     subst eps;split at e3
     ·rename_i e hu;rw[XR]at hu;cases hz:ZM P e with
      |none=>rw[hz]at e3;cases e3
      |some z=>
       have hr:(Instr.buildSlice t 0 ((#[]:Array (Nat×Operand)).map fun(i,x)=>(i,ρ x))).run P w=.ok (.slice (some ⟨w.heap.size,0,none⟩) 0 0) (w.alloc (.cells #[] e)):=by
        simp[Instr.buildSlice,run_underlying hu,XH hz,Instr.fill,newRow,Sem.run_bind,Sem.run_pure];congr 2;exact LD (by simp)
       exact⟨.value (.slice (some ⟨w.heap.size,0,none⟩) 0 0),w.alloc (.cells #[] e),μ,by simp[execOp,ho];simp at hr;simp[hr],Post.ofBelow Q5 ((Below.refl _ _).alloc (Lr _) _),.val .noCap⟩
     ·cases e3
  ·cases h
 ·-- load
  rename_i t a ho;split at h
  ·rename_i p hp;split at h
   ·rename_i v b hb;simp only[YO]at h;subst h;intro S μ ρ w Q5 hB hS hf Xy hR;obtain⟨v',hr,Wt⟩:=mM hb Q5 (Xy a (by simp[ho,Op.operands]) p hp) (hR b (by simp));exact⟨_,w,μ,by simp[execOp,ho,hr],Post.refl Q5,.val Wt⟩
   ·cases h
  ·cases h
 ·-- store
  rename_i t a x ho;split at h
  ·rename_i p v hp hv;split at h
   ·rename_i H' b hb;simp only[YO]at h;subst h;intro S μ ρ w Q5 hB hS hf Xy hR;obtain⟨w',hr,Xu⟩:=wo hb Q5 hS (Xy a (by simp[ho,Op.operands]) p hp) (Xy x (by simp[ho,Op.operands]) v hv) (hR b (by simp));exact⟨_,w',μ,by simp[execOp,ho,hr],Xu,.skip⟩
   ·cases h
  ·cases h
 ·-- fieldAddr
  rename_i s x f ho;split at h
  ·rename_i p hp;obtain⟨v,h1,rfl⟩:=XV h;refine ZD fun μ ρ w Xy=> ?_
   obtain⟨v',hr,Wt⟩:=kX h1 (Xy x (by simp[ho,Op.operands]) p hp) w;exact⟨v',by simp[execOp,ho,hr],Wt⟩
  ·cases h
 ·-- field
  rename_i t x f ho;split at h
  ·rename_i p hp;obtain⟨v,h1,rfl⟩:=XV h;refine ZD fun μ ρ w Xy=> ?_
   obtain⟨v',hr,Wt⟩:=wz h1 (Xy x (by simp[ho,Op.operands]) p hp) w;exact⟨v',by simp[execOp,ho,hr],Wt⟩
  ·cases h
 ·-- indexAddr
  rename_i t x i ho;split at h
  ·rename_i u k hu hk;obtain⟨v,h1,rfl⟩:=XV h;refine ZD fun μ ρ w Xy=> ?_
   obtain⟨v',hr,Wt⟩:=kW h1 (Xy x (by simp[ho,Op.operands]) u hu) (Xy i (by simp[ho,Op.operands]) k hk) w;exact⟨v',by simp[execOp,ho,hr],Wt⟩
  ·cases h
 ·-- index
  rename_i t x i ho;split at h
  ·rename_i cs k hu hk;obtain⟨v,h1,rfl⟩:=XV h;refine ZD fun μ ρ w Xy=> ?_
   obtain⟨v',hr,Wt⟩:=wy h1 (Xy x (by simp[ho,Op.operands]) _ hu) (Xy i (by simp[ho,Op.operands]) k hk) w;exact⟨v',by simp[execOp,ho,hr],Wt⟩
  ·exact X3 h
 ·-- extract
  rename_i x i ho;split at h
  ·rename_i u hu;obtain⟨v,h1,rfl⟩:=XV h;refine ZD fun μ ρ w Xy=> ?_
   obtain⟨v',hr,Wt⟩:=oS (P:=P) h1 (Xy x (by simp[ho,Op.operands]) u hu) w;exact⟨v',by simp[execOp,ho,hr],Wt⟩
  ·cases h
 ·-- makeSlice
  rename_i t l c ho;split at h
  ·rename_i x y hx hy;split at h
   ·rename_i e cs l0 s hm;simp only[YO]at h;subst h;intro S μ ρ w Q5 hB hS hf Xy hR;obtain⟨v',w',μ',hr,hp,Wt⟩:=zC hm Q5 hB hS (hf n (Lr _) (by simp)) (Xy l (by simp[ho,Op.operands]) x hx) (Xy c (by simp[ho,Op.operands]) y hy);exact⟨_,w',μ',by simp[execOp,ho,hr],hp,.val Wt⟩
   ·cases h
  ·cases h
 ·-- slice
  rename_i t x lo hi ho;have hlo:∀y,lo=some y->y∈o.op.operands:=fun y e=>by simp[ho,Op.operands,e]
  have hhi:∀y,hi=some y->y∈o.op.operands:=fun y e=>by simp[ho,Op.operands,e]
  split at h
  ·rename_i a m s l hh hu hl hhh;obtain⟨v,h1,rfl⟩:=XV h;refine ZD fun μ ρ w Xy=> ?_
   obtain⟨v',hr,Wt⟩:=kS h1 (Xy x (by simp[ho,Op.operands]) _ hu) (bI hl fun y e=>Xy y (hlo y e)) (bI hhh fun y e=>Xy y (hhi y e)) w;exact⟨v',by simp[execOp,ho,hr],Wt⟩
  ·rename_i p l hh hu hl hhh;obtain⟨v,h1,rfl⟩:=XV h;refine ZD fun μ ρ w Xy=> ?_
   obtain⟨v',hr,Wt⟩:=kS h1 (Xy x (by simp[ho,Op.operands]) _ hu) (bI hl fun y e=>Xy y (hlo y e)) (bI hhh fun y e=>Xy y (hhi y e)) w;exact⟨v',by simp[execOp,ho,hr],Wt⟩
  ·exact X3 h
 ·-- slice with a bound
  rename_i t x lo hi mx ho;have hlo:∀y,lo=some y->y∈o.op.operands:=fun y e=>by simp[ho,Op.operands,e]
  cases hc:SX P t (ev x) (zM ev lo) (ev hi) (ev mx)with
  |false=>rw[hc]at h;exact X3 h
  |true=>
   rw[hc]at h;simp only[cond_true,YO]at h;subst h;obtain⟨xv,l,hv,mv,e1,e2,e3,e4,Vc⟩:=dP (μ:=fun _=>none) hc;clear Vc;refine ZD fun μ ρ w Xy=> ?_
   obtain⟨xv',l',Z4,mv',e1',e2',e3',e4',Vc⟩:=dP (μ:=μ) hc;obtain⟨v',hr,Wt⟩:=Vc (Xy x (by simp[ho,Op.operands]) _ e1') (bI e2' fun y e=>Xy y (hlo y e)) (Xy hi (by simp[ho,Op.operands]) _ e3') (Xy mx (by simp[ho,Op.operands]) _ e4') w;exact⟨v',by simp[execOp,ho,hr],Wt⟩
 ·-- makeFunc
  rename_i f first captured ho
  split at h
  ·rename_i xs ys hx hy;simp only[YO]at h;subst h;refine ZD fun μ ρ w Xy=> ?_
   have hops:o.op.operands=first++captured:=by rw[ho];rfl
   rw[hops]at Xy;have q1:=Tb (μ:=μ) (ρ:=ρ) _ _ hx (fun x hx v hv=>Xy x (Array.mem_append.2 (.inl (Array.mem_toList_iff.1 hx))) v hv);have q2:=Tb (μ:=μ) (ρ:=ρ) _ _ hy (fun x hx v hv=>Xy x (Array.mem_append.2 (.inr (Array.mem_toList_iff.1 hx))) v hv);refine⟨.func (.func f) (first.map ρ) (captured.map ρ),by simp[execOp,ho,Instr.makeFunc], ?_⟩;have e1:(first.toList.map ρ).toArray=first.map ρ:=by apply Array.ext';simp
   have e2:(captured.toList.map ρ).toArray=captured.map ρ:=by apply Array.ext';simp
   rw[e1]at q1;rw[e2]at q2;exact .func q1.1 q2.1 q1.2 q2.2
  ·cases h
 ·-- makeMap
  rename_i t ho;simp only[YO]at h;subst h;intro S μ ρ w Q5 hB hS hf Xy hR;have hfn:=hf n (Lr _) (by simp);refine⟨_,_,_, ?_,Post.alloc Q5 hB hS hfn (.map #[] 0) (.map #[] 0) 0 ⟨rfl,#[],heap_alloc _ _,rfl,fun i e e' he _=>by simp at he⟩,.val (.map (im:=⟨w.heap.size,0,0,true,Rg⟩) Xk)⟩;simp only[execOp,ho,Instr.makeMap,Option.map_none,Sem.run_bind,Result.andThen_ok,run_newObj,Sem.run_pure];rfl
 ·-- lookup
  rename_i t x k ok ho;split at h
  ·rename_i m kv hm hk;split at h
   ·rename_i v R hl;simp only[YO]at h;subst h;intro S μ ρ w Q5 hB hS hf Xy hR;obtain⟨v',hr,Wt⟩:=tY hl Q5 (Xy x (by simp[ho,Op.operands]) m hm) (Xy k (by simp[ho,Op.operands]) kv hk) hR;exact⟨_,w,μ,by simp[execOp,ho,hr],Post.refl Q5,.val Wt⟩
   ·cases h
  ·cases h
 ·-- mapUpdate
  rename_i t m k x ho;split at h
  ·rename_i mv kv v hm hk hv;split at h
   ·rename_i H' b hl;simp only[YO]at h;subst h;intro S μ ρ w Q5 hB hS hf Xy hR;obtain⟨w',hr,Xu⟩:=kU hl Q5 hS (Xy m (by simp[ho,Op.operands]) mv hm) (Xy k (by simp[ho,Op.operands]) kv hk) (Xy x (by simp[ho,Op.operands]) v hv) (hR b (by simp));exact⟨_,w',μ,by simp[execOp,ho,hr],Xu,.skip⟩
   ·cases h
  ·cases h
 ·-- binOp
  rename_i op t x y yt ho;split at h
  ·rename_i a b ha hb;split at h
   ·rename_i v hv;simp only[YO]at h;subst h;refine ZD fun μ ρ w Xy=> ?_
    obtain⟨h1,h2,h3,h4⟩:=Dk (P:=P) (t:=t) (x:=x) (y:=y) hv w;have e1:=h3 μ _ (Xy x (by simp[ho,Op.operands]) a ha);have e2:=h4 μ _ (Xy y (by simp[ho,Op.operands]) b hb);refine⟨v, ?_,h2 μ⟩;simp only[execOp,ho,e1,e2];rw[Sem.run_bind,h1];rfl
   ·exact X3 h
  ·cases h
 ·-- nilCheck
  rename_i x ho;split at h
  ·rename_i a hx;simp only[YO]at h;subst h;refine ZD fun μ ρ w Xy=> ?_
   have hv:=Xy x (by simp[ho,Op.operands]) _ hx;refine⟨ρ x, ?_,hv⟩;generalize hg:ρ x=u at hv;cases hv <;> simp[execOp,ho,hg]
  ·rename_i f xs ys hx;simp only[YO]at h;subst h;refine ZD fun μ ρ w Xy=> ?_
   have hv:=Xy x (by simp[ho,Op.operands]) _ hx;refine⟨ρ x, ?_,hv⟩;generalize hg:ρ x=u at hv;cases hv;simp[execOp,ho,hg]
  ·rename_i f xs ys hx;simp only[YO]at h;subst h;refine ZD fun μ ρ w Xy=> ?_
   have hv:=Xy x (by simp[ho,Op.operands]) _ hx;refine⟨ρ x, ?_,hv⟩;generalize hg:ρ x=u at hv;cases hv;simp[execOp,ho,hg]
  ·cases h
 ·-- call
  rename_i c ho;split at h
  ·-- append
   rename_i hc;split at h
   ·rename_i s x t t' ha ht;split at h
    ·rename_i sv xv hs hx;intro S μ ρ w Q5 hB hS hf Xy hR;have ea:c.args=#[s,x]:=by rw[<-ha]
     have et:c.argTypes=#[t,t']:=by rw[<-ht]
     have hvs:=Xy s (by simp[ho,Op.operands,Call.operands,hc,ea]) sv hs;have hvx:=Xy x (by simp[ho,Op.operands,Call.operands,hc,ea]) xv hx;unfold ub at h;cases htt:Le t t' with
     |false=>
      rw[htt]at h;simp only[cond_false]at h;have YS:r.n=n+1:=EY h;obtain⟨v,v',w',μ',hr,hp,hnx,Wt,_⟩:=zG (ty:=o.type) h Q5 hB hS (hf n (Lr _) (by omega)) hvs hvx;refine⟨.value v',w',μ', ?_,hp,by rw[hnx];exact .val Wt⟩;simp[execOp,ho,resolve,hc,invoke,builtin,ea,et,hr]
     |true=>
      rw[htt]at h;simp only[cond_true]at h;have htt:=YE htt;subst htt;cases hca:Vf P t H n (bare sv) xv with
      |some r0=>
       rw[hca]at h;simp only[YO]at h;subst h;have YS:r0.n=n+1:=zF hca;obtain⟨v,v',w',μ',hr,hp,hnx,Wt,_⟩:=oU (ty:=o.type) hca Q5 hB hS (hf n (Lr _) (by omega)) hvs hvx hR;refine⟨.value v',w',μ', ?_,hp,by rw[hnx];exact .val Wt⟩;simp[execOp,ho,resolve,hc,invoke,builtin,ea,et,hr]
      |none=>
       rw[hca]at h;simp only at h;obtain⟨hr,rfl⟩:=zH (ty:=o.type) (w:=w) h hvs hvx;refine⟨.value (ρ s),w,μ, ?_,Post.refl Q5,.val hvs⟩;simp[execOp,ho,resolve,hc,invoke,builtin,ea,et,hr]
    ·cases h
   ·cases h
  ·-- len
   rename_i hc;split at h
   ·rename_i x t ha ht;split at h
    ·rename_i a m s e hx hu;rw[XR]at hu;simp only[YO]at h;subst h;refine ZD fun μ ρ w Xy=> ?_
     have ea:c.args=#[x]:=by rw[<-ha]
     have et:c.argTypes=#[t]:=by rw[<-ht]
     have hv:=Xy x (by simp[ho,Op.operands,Call.operands,hc,ea]) _ hx;refine⟨.int .i64 m, ?_,.int _ _⟩;generalize hg:ρ x=u at hv;cases hv <;> simp[execOp,ho,resolve,hc,invoke,builtin,ea,et,hg,Builtin.len_,run_underlying hu,goInt]
    ·rename_i e hx hu;rw[XR]at hu;simp only[YO]at h;subst h;refine ZD fun μ ρ w Xy=> ?_
     have ea:c.args=#[x]:=by rw[<-ha]
     have et:c.argTypes=#[t]:=by rw[<-ht]
     have hv:=Xy x (by simp[ho,Op.operands,Call.operands,hc,ea]) _ hx;refine⟨.int .i64 0, ?_,.int _ _⟩;generalize hg:ρ x=u at hv;cases hv <;> simp[execOp,ho,resolve,hc,invoke,builtin,ea,et,hg,Builtin.len_,run_underlying hu,goInt]
    ·exact X3 h
   ·cases h
  ·-- copy
   rename_i hc;split at h
   ·rename_i s x t t2 ha ht;split at h
    ·rename_i sv xv hs hx;intro S μ ρ w Q5 hB hS hf Xy hR;have ea:c.args=#[s,x]:=by rw[<-ha]
     have et:c.argTypes=#[t,t2]:=by rw[<-ht]
     obtain⟨v,w',hr,hp,hnx,Wt,_⟩:=zE (ty:=o.type) (t2:=t2) h Q5 hS (Xy s (by simp[ho,Op.operands,Call.operands,hc,ea]) sv hs) (Xy x (by simp[ho,Op.operands,Call.operands,hc,ea]) xv hx) hR;refine⟨.value v,w',μ, ?_,hp,by rw[hnx];exact .val Wt⟩;simp[execOp,ho,resolve,hc,invoke,builtin,ea,et,hr]
    ·cases h
   ·cases h
  ·exact X3 h
  ·-- value
   rename_i f hc;split at h
   ·rename_i fv args hfv hargs;split at h
    ·rename_i nx R hcc;simp only[YO]at h;subst h;intro S μ ρ w Q5 hB hS hf Xy hR;have hops:o.op.operands=#[f]++c.args:=by rw[ho];simp only[Op.operands,Call.operands,hc]
     rw[hops]at Xy;have q:=Tb (μ:=μ) (ρ:=ρ) _ _ hargs (fun x hx v hv=>Xy x (Array.mem_append.2 (.inr (Array.mem_toList_iff.1 hx))) v hv);have e1:(c.args.toList.map ρ).toArray=c.args.map ρ:=by apply Array.ext';simp
     rw[e1]at q;obtain⟨nx',hr,hnr⟩:=mN (P:=P) hF hcc Q5 (Xy f (Array.mem_append.2 (.inl (by simp))) fv hfv) q hR;refine⟨nx',w,μ, ?_,Post.refl Q5,hnr⟩;simp only[execOp,ho,resolve,hc];simpa using hr
    ·cases h
   ·cases h
  ·cases h
 ·exact X3 h
end Go.CE

namespace Go.CE
open Go Go.RowKit

structure PG (B:Nat) (S New W:Nat->Prop) (μ μ':Mu) (G G':Nat->Option Obj) (w w':World):Prop where
 ok:Ok B (fun i=>S i\/New i) μ' G' w'
 ext:∀i,¬New i->μ' i=μ i
 keep:∀i,¬New i->¬W i->G' i=G i
 grow:w.heap.size<=w'.heap.size
 frame:∀b,b<w.heap.size->(∀i,W i->∀im,μ i=some im->im.XM≠b)->w'.heap[b]? =w.heap[b]?
 wr:∀i,W i->S i/\(∃o,G i=some o/\live o)/\∃im,μ i=some im/\im.rw=true
 fresh:∀i im o,New i->G' i=some o->live o->μ' i=some im->im.rw=true/\
  (w.heap.size<=im.XM\/∃k,W k/\(∃XX,μ k=some XX/\XX.XM=im.XM)/\∀o,G' k=some o->¬live o)
 rf:∀i im o,(New i\/W i)->G' i=some o->Z9 o->μ' i=some im->∀b x,im.fm b=some x->
  w.heap.size<=b\/(∃k Vk ko,S k/\G k=some ko/\Z9 ko/\μ k=some Vk/\Vk.fm b=some x)\/∃k,W k/\(∃XX,μ k=some XX/\XX.XM=b)/\∀o,G' k=some o->¬live o
 os:w'.os=w.os
 tape:w'.tape=w.tape
 output:w'.output=w.output
theorem PG.refl{B:Nat}{S:Nat->Prop}{μ:Mu}{G:Nat->Option Obj}{w:World}(h:Ok B S μ G w):PG B S (fun _=>False) (fun _=>False) μ μ G G w w:=
 ⟨h.sub fun _ hi=>hi.elim id False.elim,fun _ _=>rfl,fun _ _ _=>rfl,Lr _,fun _ _ _=>rfl,fun _ h=>h.elim,fun _ _ _ h=>h.elim,fun _ _ _ h=>h.elim False.elim False.elim,rfl,rfl,rfl⟩
theorem Post.pg{B:Nat}{S:Nat->Prop}{n n':Nat}{W:List Nat}{μ μ':Mu}{H H':Qj}{w w':World}(h:Post B S n n' W μ μ' H H' w w')(hn:∀i,n'<=i->Qo H' i=Qo H i):
 PG B S (fun i=>n<=i/\i<n') (fun i=>i∈W/\i<n) μ μ' (Qo H) (Qo H') w w':=by
 have hle:=h.le;refine⟨h.ok,h.ext,fun i hi hw=> ?_,h.grow,fun b hb hw=>h.frame b hb fun i a c=>hw i ⟨a,c⟩,fun i hi=>h.wr i hi.1 hi.2,fun i im o hi ho hl hm=> ?_,fun i im o hi ho hr hm b x hb=> ?_,h.os,h.tape,h.output⟩
 ·rcases Ly i n with QX|hge
  ·exact h.keep i QX fun e=>hw ⟨e,QX⟩
  ·exact hn i (by omega)
 ·obtain⟨hr,hf⟩:=h.fresh i im o hi.1 hi.2 ho hl hm;refine⟨hr,hf.imp id ?_⟩;rintro⟨k,a,b,c,d⟩;exact⟨k,⟨a,b⟩,c,d⟩
 ·rcases h.rf i im o hi ho hr hm b x hb with e|⟨k,Vk,ko,a,c,d⟩|⟨k,a,c,d⟩
  ·exact .inl e
  ·exact .inr (.inl ⟨k,Vk,ko,a,d⟩)
  ·exact .inr (.inr ⟨k,⟨a,c⟩,d⟩)
theorem PG.post{B:Nat}{S New:Nat->Prop}{n n':Nat}{W:List Nat}{μ μ':Mu}{H H':Qj}{w w':World}(h:PG B S New (fun i=>i∈W/\i<n) μ μ' (Qo H) (Qo H') w w')(hN:∀i,New i<->n<=i/\i<n')(hle:n<=n')(hS:∀i,S i->i<n):Post B S n n' W μ μ' H H' w w':=by
 refine⟨h.ok.sub fun i hi=>hi.imp id (hN i).2,hle,fun i hi=>h.ext i fun e=>hi ((hN i).1 e),fun i hi hw=>h.keep i (fun e=>by have:=((hN i).1 e).1;omega) (fun e=>hw e.1),h.grow,
  fun b hb hw=>h.frame b hb fun i hi=>hw i hi.1 hi.2,fun i hi QX=>h.wr i ⟨hi,QX⟩,fun i im o h1 h2 ho hl hm=> ?_,fun i im o hi ho hr hm b x hb=> ?_,h.os,h.tape,h.output⟩
 ·obtain⟨hr,hf⟩:=h.fresh i im o ((hN i).2 ⟨h1,h2⟩) ho hl hm;refine⟨hr,hf.imp id ?_⟩;rintro⟨k,⟨a,b⟩,c,d⟩;exact⟨k,a,b,c,d⟩
 ·rcases h.rf i im o (hi.imp (hN i).2 id) ho hr hm b x hb with e|⟨k,Vk,ko,a,c⟩|⟨k,⟨a,c⟩,d⟩
  ·exact .inl e
  ·exact .inr (.inl ⟨k,Vk,ko,a,hS k a,c⟩)
  ·exact .inr (.inr ⟨k,a,c,d⟩)
theorem PG.then{B:Nat}{S S2 YK VF W1 W2:Nat->Prop}{μ μ1 μ2:Mu}{G G1 Gc G2' G2:Nat->Option Obj}{w w1 w2:World}(h1:PG B S YK W1 μ μ1 G G1 w w1)(h2:PG B S2 VF W2 μ1 μ2 Gc G2' w1 w2)
 (hsub:∀i,S2 i->S i\/YK i) (hGc:∀i,S2 i->Gc i=G1 i) (hnew:∀i,VF i->¬S i/\¬YK i) (W4:∀i,VF i->μ1 i=none)
 (ha:∀i,W2 i\/VF i->G2 i=G2' i) (hb:∀i,¬W2 i->¬VF i->G2 i=G1 i):
 PG B S (fun i=>YK i\/VF i) (fun i=>W1 i\/(W2 i/\¬YK i)) μ μ2 G G2 w w2:=by
 have hW2S:∀i,W2 i->S2 i/\(∃o,G1 i=some o/\live o)/\∃im,μ1 i=some im/\im.rw=true:=by
  intro i hi;obtain⟨a,⟨o,ho,hl⟩,c⟩:=h2.wr i hi;exact⟨a,⟨o,by rw[<-hGc i a];exact ho,hl⟩,c⟩
 have hW2N:∀i,W2 i->¬VF i:=by
  intro i hi hn;rcases hsub i (hW2S i hi).1 with h|h
  ·exact(hnew i hn).1 h
  ·exact(hnew i hn).2 h
 have ext12:Ext μ1 μ2:=by
  intro k im hk;rw[h2.ext k fun hn=>by rw[W4 k hn]at hk;cases hk];exact hk
 have mu2:∀i,¬VF i->μ2 i=μ1 i:=h2.ext
 -- blocks Yo the second piece leaves
 have other:∀i o im,(S i\/YK i)->¬W2 i->G1 i=some o->live o->μ1 i=some im->(∀k,W2 k->∀XX,μ1 k=some XX->XX.XM≠im.XM):=by
  intro i o im hi hw ho hl Q3 k hk XX QG;obtain⟨hkS,⟨ok,Q5,hlk⟩,im'',Wd,hr⟩:=hW2S k hk;rw[QG]at Wd;cases Wd;by_cases hra:im.rw=true
  ·exact h1.ok.inj k i ok o XX im (hsub k hkS) hi (fun e=>hw (e ▸ hk)) Q5 ho hlk hl QG Q3 hr hra
  ·have a:=(h1.ok.low i o im hi ho hl Q3).2.2 (by simpa using hra);have b:=(h1.ok.low k ok XX (hsub k hkS) Q5 hlk QG).2.1 hr;omega
 have dead:∀k,W1 k->(∀o,G1 k=some o->¬live o)->∀o,G2 k=some o->¬live o:=by
  intro k hk hd o ho hl;have hS:=(h1.wr k hk).1;by_cases hw:W2 k
  ·obtain⟨_,⟨o',Un,hl'⟩,_⟩:=hW2S k hw;exact hd o' Un hl'
  ·rw[hb k hw (fun e=>(hnew k e).1 hS)]at ho;exact hd o ho hl
 -- what is live behind both, and WJ for the second, was live between
 have liveMid:∀i o,¬VF i->G2 i=some o->live o->∃o',G1 i=some o'/\live o':=by
  intro i o hn ho hl;by_cases hw:W2 i
  ·exact(hW2S i hw).2.1
  ·rw[hb i hw hn]at ho;exact⟨o,ho,hl⟩
 refine⟨⟨fun i o hi ho hl=> ?_,fun i o im hi ho hl Q3=> ?_,fun i j oi oj a b hi hj Jd Z0 Zz PT Vl hma hmb hra WX=> ?_,fun i o hi ho hr=> ?_,fun i j oi oj a b x hi hj Z0 Zz KL Vl hma hmb WX hx=> ?_⟩,fun i hi=> ?_,fun i hn hw=> ?_,Nat.le_trans h1.grow h2.grow,fun b hb0 hw=> ?_,fun i hi=> ?_,fun i im o hi ho hl Q3=> ?_,fun i im o hi ho hr Q3 b x hfb=> ?_,
  h2.os.trans h1.os,h2.tape.trans h1.tape,h2.output.trans h1.output⟩
 ·by_cases ht:W2 i\/VF i
  ·rw[ha i ht]at ho;exact h2.ok.rel i o (ht.imp (fun h=>(hW2S i h).1) id) ho hl
  ·have hw:¬W2 i:=fun h=>ht (.inl h)
   have hn:¬VF i:=fun h=>ht (.inr h)
   rw[hb i hw hn]at ho;have hi':S i\/YK i:=by rcases hi with h|h|h <;> first|exact .inl h|exact .inr h|exact absurd h hn
   obtain⟨im,Q3,hr⟩:=h1.ok.rel i o hi' ho hl;exact⟨im,ext12 _ _ Q3,hr.keep ext12 (h2.frame _ (h1.ok.low i o im hi' ho hl Q3).1 (other i o im hi' hw ho hl Q3))⟩
 ·by_cases ht:W2 i\/VF i
  ·rw[ha i ht]at ho;exact h2.ok.low i o im (ht.imp (fun h=>(hW2S i h).1) id) ho hl Q3
  ·have hw:¬W2 i:=fun h=>ht (.inl h)
   have hn:¬VF i:=fun h=>ht (.inr h)
   rw[hb i hw hn]at ho;rw[mu2 i hn]at Q3;have hi':S i\/YK i:=by rcases hi with h|h|h <;> first|exact .inl h|exact .inr h|exact absurd h hn
   have:=h1.ok.low i o im hi' ho hl Q3;exact⟨Nat.lt_of_lt_of_le this.1 h2.grow,this.2⟩
 ·have WJ:∀i,(S i\/YK i\/VF i)->¬VF i->S i\/YK i:=by
   intro i hi hn;rcases hi with h|h|h <;> first|exact .inl h|exact .inr h|exact absurd h hn
  have nw:∀i j oi oj a b,VF i->¬VF j->(S j\/YK j\/VF j)->i≠j->G2 i=some oi->G2 j=some oj->live oi->live oj->μ2 i=some a->μ2 j=some b->b.rw=true->a.XM≠b.XM:=by
   intro i j oi oj a b hn hj0 hjS Jd Z0 Zz PT Vl hma hmb WX;rw[ha i (.inr hn)]at Z0;rw[mu2 j hj0]at hmb;obtain⟨o',Un,hl'⟩:=liveMid j oj hj0 Zz Vl;have hjj:=WJ j hjS hj0;obtain⟨_,hf⟩:=h2.fresh i a oi hn Z0 PT hma;rcases hf with hf|⟨k,hk,⟨XX,QG,hbb⟩,hd⟩
   ·have:=(h1.ok.low j o' b hjj Un hl' hmb).1;omega
   ·obtain⟨hkS,⟨ok,Q5,hlk⟩,im'',Wd,hrk⟩:=hW2S k hk;rw[QG]at Wd;cases Wd;have hkj:k≠j:=by
     rintro rfl;rw[ha k (.inl hk)]at Zz;exact hd oj Zz Vl
    have:=h1.ok.inj k j ok o' XX b (hsub k hkS) hjj hkj Q5 Un hlk hl' QG hmb hrk WX;omega
  by_cases hni:VF i
  ·by_cases hnj:VF j
   ·rw[ha i (.inr hni)]at Z0;rw[ha j (.inr hnj)]at Zz;exact h2.ok.inj i j oi oj a b (.inr hni) (.inr hnj) Jd Z0 Zz PT Vl hma hmb hra WX
   ·exact nw i j oi oj a b hni hnj hj Jd Z0 Zz PT Vl hma hmb WX
  ·by_cases hnj:VF j
   ·exact Ne.symm (nw j i oj oi b a hnj hni hi (Ne.symm Jd) Zz Z0 Vl PT hmb hma hra)
   ·rw[mu2 i hni]at hma;rw[mu2 j hnj]at hmb;obtain⟨o1,ho1,hl1⟩:=liveMid i oi hni Z0 PT;obtain⟨o2,ho2,hl2⟩:=liveMid j oj hnj Zz Vl;exact h1.ok.inj i j o1 o2 a b (WJ i hi hni) (WJ j hj hnj) Jd ho1 ho2 hl1 hl2 hma hmb hra WX
 ·by_cases ht:W2 i\/VF i
  ·rw[ha i ht]at ho;exact h2.ok.KI i o (ht.imp (fun h=>(hW2S i h).1) id) ho hr
  ·have hw:¬W2 i:=fun h=>ht (.inl h)
   have hn:¬VF i:=fun h=>ht (.inr h)
   rw[hb i hw hn]at ho;have hi':S i\/YK i:=by rcases hi with h|h|h <;> first|exact .inl h|exact .inr h|exact absurd h hn
   obtain⟨im,Q3,hf⟩:=h1.ok.KI i o hi' ho hr;refine⟨im,ext12 _ _ Q3,fun b x hx=> ?_⟩;have e:=hf b x hx;rw[h2.frame b (by simpa using(Array.getElem?_eq_some_iff.1 e).1) fun k hk XX QG hbb=> ?_]
   ·exact e
   ·obtain⟨hkS,⟨ok,Q5,hlk⟩,im'',Wd,hrk⟩:=hW2S k hk;rw[QG]at Wd;cases Wd;exact h1.ok.sep i k o ok im XX x hi' (hsub k hkS) ho Q5 hr hlk Q3 QG hrk (by rw[hbb];exact hx)
 ·have WJ:∀i,(S i\/YK i\/VF i)->¬VF i->S i\/YK i:=by
   intro i hi hn;rcases hi with h|h|h <;> first|exact .inl h|exact .inr h|exact absurd h hn
  by_cases htj:W2 j\/VF j
  ·by_cases hti:W2 i\/VF i
   ·rw[ha i hti]at Z0;rw[ha j htj]at Zz;exact h2.ok.sep i j oi oj a b x (hti.imp (fun h=>(hW2S i h).1) id) (htj.imp (fun h=>(hW2S j h).1) id) Z0 Zz KL Vl hma hmb WX hx
   ·have hw:¬W2 i:=fun h=>hti (.inl h)
    have hn:¬VF i:=fun h=>hti (.inr h)
    rw[hb i hw hn]at Z0;rw[mu2 i hn]at hma;have hi':=WJ i hi hn;obtain⟨im,Q3,hf⟩:=h1.ok.KI i oi hi' Z0 KL;rw[hma]at Q3;cases Q3;have QX:b.XM<w1.heap.size:=(Array.getElem?_eq_some_iff.1 (hf _ x hx)).1;by_cases hnj:VF j
    ·rw[ha j (.inr hnj)]at Zz;obtain⟨_,Xr⟩:=h2.fresh j b oj hnj Zz Vl hmb;rcases Xr with Xr|⟨k,hk,⟨XX,QG,hbb⟩,hd⟩
     ·omega
     ·obtain⟨hkS,⟨ok,Q5,hlk⟩,im'',Wd,hrk⟩:=hW2S k hk;rw[QG]at Wd;cases Wd;exact h1.ok.sep i k oi ok a XX x hi' (hsub k hkS) Z0 Q5 KL hlk hma QG hrk (by rw[hbb];exact hx)
    ·have hwj:W2 j:=htj.resolve_right hnj;obtain⟨hkS,⟨ok,Q5,hlk⟩,im'',Wd,hrk⟩:=hW2S j hwj;rw[mu2 j hnj]at hmb;exact h1.ok.sep i j oi ok a b x hi' (hsub j hkS) Z0 Q5 KL hlk hma hmb WX hx
  ·have hwj:¬W2 j:=fun h=>htj (.inl h)
   have hnj:¬VF j:=fun h=>htj (.inr h)
   rw[hb j hwj hnj]at Zz;rw[mu2 j hnj]at hmb;have hj':=WJ j hj hnj;by_cases hti:W2 i\/VF i
   ·rw[ha i hti]at Z0;rcases h2.rf i a oi hti.symm Z0 KL hma b.XM x hx with e|⟨k,Vk,ko,hS,hko,hkr,hkm,hkb⟩|⟨k,hk,⟨XX,QG,hbb⟩,hd⟩
    ·have:=(h1.ok.low j oj b hj' Zz Vl hmb).1;omega
    ·rw[hGc k hS]at hko;exact h1.ok.sep k j ko oj Vk b x (hsub k hS) hj' hko Zz hkr Vl hkm hmb WX hkb
    ·obtain⟨hkS,⟨ok,Q5,hlk⟩,im'',Wd,hrk⟩:=hW2S k hk;rw[QG]at Wd;cases Wd;exact h1.ok.inj k j ok oj XX b (hsub k hkS) hj' (fun e=>hwj (e ▸ hk)) Q5 Zz hlk Vl QG hmb hrk WX hbb
   ·have hw:¬W2 i:=fun h=>hti (.inl h)
    have hn:¬VF i:=fun h=>hti (.inr h)
    rw[hb i hw hn]at Z0;rw[mu2 i hn]at hma;exact h1.ok.sep i j oi oj a b x (WJ i hi hn) hj' Z0 Zz KL Vl hma hmb WX hx
 ·rw[mu2 i (fun h=>hi (.inr h)),h1.ext i (fun h=>hi (.inl h))]
 ·have YS:¬YK i:=fun h=>hn (.inl h)
  rw[hb i (fun h=>hw (.inr ⟨h,YS⟩)) (fun h=>hn (.inr h)),h1.keep i YS (fun h=>hw (.inl h))]
 ·have e1:=h1.frame b hb0 fun i hi=>hw i (.inl hi)
  rw[<-e1];refine h2.frame b (Nat.lt_of_lt_of_le hb0 h1.grow) fun i hi im Q3=> ?_
  by_cases hn:YK i
  ·obtain⟨_,⟨o,ho,hl⟩,_⟩:=hW2S i hi;obtain⟨_,hf⟩:=h1.fresh i im o hn ho hl Q3;rcases hf with hf|⟨k,hk,⟨XX,QG,hbb⟩,_⟩
   ·omega
   ·rw[<-hbb];exact hw k (.inl hk) XX QG
  ·rw[h1.ext i hn]at Q3;exact hw i (.inr ⟨hi,hn⟩) im Q3
 ·rcases hi with hi|⟨hi,hn⟩
  ·exact h1.wr i hi
  ·obtain⟨hS2,⟨o,ho,hl⟩,im,Q3,hr⟩:=hW2S i hi;have hS:S i:=(hsub i hS2).elim id fun h=>absurd h hn
   refine⟨hS, ?_,im,by rw[<-h1.ext i hn];exact Q3,hr⟩;by_cases hw:W1 i
   ·exact(h1.wr i hw).2.1
   ·rw[h1.keep i hn hw]at ho;exact⟨o,ho,hl⟩
 ·by_cases hn:VF i
  ·rw[ha i (.inr hn)]at ho;obtain⟨hr,hf⟩:=h2.fresh i im o hn ho hl Q3;refine⟨hr, ?_⟩;rcases hf with hf|⟨k,hk,⟨XX,QG,hbb⟩,hd⟩
   ·exact .inl (Nat.le_trans h1.grow hf)
   ·have hd2:∀o,G2 k=some o->¬live o:=fun o ho=>by rw[ha k (.inl hk)]at ho;exact hd o ho
    by_cases hk1:YK k
    ·obtain⟨_,⟨o',Un,hl'⟩,_⟩:=hW2S k hk;obtain⟨_,hf'⟩:=h1.fresh k XX o' hk1 Un hl' QG;rcases hf' with hf'|⟨k',hk',⟨im'',Wd,hb''⟩,hd'⟩
     ·exact .inl (by omega)
     ·exact .inr ⟨k',.inl hk',⟨im'',Wd,by omega⟩,dead k' hk' hd'⟩
    ·exact .inr ⟨k,.inr ⟨hk,hk1⟩,⟨XX,by rw[<-h1.ext k hk1];exact QG,hbb⟩,hd2⟩
  ·have YS:YK i:=hi.elim id fun h=>absurd h hn
   rw[mu2 i hn]at Q3;obtain⟨o',Un,hl'⟩:=liveMid i o hn ho hl;obtain⟨hr,hf⟩:=h1.fresh i im o' YS Un hl' Q3;refine⟨hr, ?_⟩;rcases hf with hf|⟨k,hk,QG,hd⟩
   ·exact .inl hf
   ·exact .inr ⟨k,.inl hk,QG,dead k hk hd⟩
 ·have mid:∀k Vk ko,(YK k\/W1 k)->G1 k=some ko->Z9 ko->μ1 k=some Vk->Vk.fm b=some x->
   w.heap.size<=b\/(∃k Vk ko,S k/\G k=some ko/\Z9 ko/\μ k=some Vk/\Vk.fm b=some x)\/∃k,(W1 k\/(W2 k/\¬YK k))/\(∃XX,μ k=some XX/\XX.XM=b)/\∀o,G2 k=some o->¬live o:=by
   intro k Vk ko hk hko hkr hkm hkb;rcases h1.rf k Vk ko hk hko hkr hkm b x hkb with h|h|⟨k',a,d,e⟩
   ·exact .inl h
   ·exact .inr (.inl h)
   ·exact .inr (.inr ⟨k',.inl a,d,dead k' a e⟩)
  by_cases hA:VF i\/W2 i
  ·rw[ha i hA.symm]at ho;rcases h2.rf i im o hA ho hr Q3 b x hfb with h|⟨k,Vk,ko,hS,hko,hkr,hkm,hkb⟩|⟨k,hk,⟨XX,QG,hbb⟩,hd⟩
   ·exact .inl (Nat.le_trans h1.grow h)
   ·rw[hGc k hS]at hko;by_cases hx:YK k\/W1 k
    ·exact mid k Vk ko hx hko hkr hkm hkb
    ·have hk1:¬YK k:=fun e=>hx (.inl e)
     rw[h1.keep k hk1 fun e=>hx (.inr e)]at hko;rw[h1.ext k hk1]at hkm;exact .inr (.inl ⟨k,Vk,ko,(hsub k hS).resolve_right hk1,hko,hkr,hkm,hkb⟩)
   ·have hd2:∀o,G2 k=some o->¬live o:=fun o ho=>by rw[ha k (.inl hk)]at ho;exact hd o ho
    by_cases hk1:YK k
    ·obtain⟨_,⟨o',Un,hl'⟩,_⟩:=hW2S k hk;obtain⟨_,hf'⟩:=h1.fresh k XX o' hk1 Un hl' QG;rcases hf' with hf'|⟨k',hk',⟨im'',Wd,hb''⟩,hd'⟩
     ·exact .inl (by omega)
     ·exact .inr (.inr ⟨k',.inl hk',⟨im'',Wd,by omega⟩,dead k' hk' hd'⟩)
    ·exact .inr (.inr ⟨k,.inr ⟨hk,hk1⟩,⟨XX,by rw[<-h1.ext k hk1];exact QG,hbb⟩,hd2⟩)
  ·have hn2:¬VF i:=fun e=>hA (.inl e)
   have hw2:¬W2 i:=fun e=>hA (.inr e)
   rw[hb i hw2 hn2]at ho;rw[mu2 i hn2]at Q3;refine mid i im o ?_ ho hr Q3 hfb;rcases hi with (h|h)|h|h
   ·exact .inl h
   ·exact absurd h hn2
   ·exact .inr h
   ·exact absurd h.1 hw2
end Go.CE

namespace Go.CE
open Go Go.RowKit

def FA{α:Type}(b:Bool):Option α->α->α
 |some x,a=>bif b then x else a
 |none,a=>a
def Uf{α:Type}(D:Nat->Bool):List (Option α)->Nat->α->α
 |[],_,a=>a
 |c::l,k,a=>Uf D l (k+1) (FA (D k) c a)
theorem ZH{α:Type}{D D':Nat->Bool}:∀(l:List (Option α)) (k:Nat) (a:α),(∀i x,l[i]? =some (some x)->D (k+i)=D' (k+i))->Uf D l k a=Uf D' l k a
 |[],_,_,_=>rfl
 |c::l,k,a,h=>by
  simp only[Uf];have e:FA (D k) c a=FA (D' k) c a:=by
   cases c with
   |none=>rfl
   |some x=>rw[show D k=D' k by simpa using h 0 x rfl]
  rw[e];exact ZH l (k+1) _ fun i x hx=>by have:=h (i+1) x (by simpa using hx);rwa[show k+(i+1)=k+1+i by omega]at this
theorem V9{α:Type}{D:Nat->Bool}:∀(l:List (Option α)) (k:Nat) (a:α),(∀i x,l[i]? =some (some x)->D (k+i)=false)->Uf D l k a=a
 |[],_,_,_=>rfl
 |c::l,k,a,h=>by
  simp only[Uf];have e:FA (D k) c a=a:=by
   cases c with
   |none=>rfl
   |some x=>rw[show D k=false by simpa using h 0 x rfl];rfl
  rw[e];exact V9 l (k+1) a fun i x hx=>by have:=h (i+1) x (by simpa using hx);rwa[show k+(i+1)=k+1+i by omega]at this
theorem k8{α:Type}{D:Nat->Bool}{x:α}:∀(l:List (Option α)) (k j:Nat) (a:α),l[j]? =some (some x)->D (k+j)=true->(∀i y,j<i->l[i]? =some (some y)->D (k+i)=false)->Uf D l k a=x
 |[],_,_,_,h,_,_=>by simp at h
 |c::l,k,0,a,h,hd,hn=>by
  simp only[Ln,YO]at h;subst h;simp only[Uf];rw[show D k=true by simpa using hd];exact V9 l (k+1) x fun i y hy=>by have:=hn (i+1) y (by omega) (by simpa using hy);rwa[show k+(i+1)=k+1+i by omega]at this
 |c::l,k,j+1,a,h,hd,hn=>by
  simp only[Uf];exact k8 l (k+1) j _ (by simpa using h) (by rwa[show k+1+j=k+(j+1)by omega]) fun i y hi hy=>by
   have:=hn (i+1) y (by omega) (by simpa using hy);rwa[show k+(i+1)=k+1+i by omega]at this

inductive Tri where
 |lf
 |nd (l:Tri) (v:Value) (r:Tri)
def Tri.get:Tri->Nat->Value
 | .lf,_=>undef
 | .nd _ v _,0=>v
 | .nd l _ r,k+1=>bif Le (k % 2) 0 then l.get (k / 2)else r.get (k / 2)
def Tri.set:Nat->Tri->Nat->Value->Tri
 |0,t,_,_=>t
 |_+1,.lf,0,x=>.nd .lf x .lf
 |_+1,.nd l _ r,0,x=>.nd l x r
 |f+1,.lf,k+1,x=>bif Le (k % 2) 0 then .nd (Tri.set f .lf (k / 2) x) undef .lf else .nd .lf undef (Tri.set f .lf (k / 2) x)
 |f+1,.nd l v r,k+1,x=>bif Le (k % 2) 0 then .nd (Tri.set f l (k / 2) x) v r else .nd l v (Tri.set f r (k / 2) x)
theorem Tri.get_lf(i:Nat):Tri.lf.get i=undef:=by cases i <;> rfl
theorem Tri.get_succ(l:Tri)(v:Value)(r:Tri)(k:Nat):(Tri.nd l v r).get (k+1)=if k % 2=0 then l.get (k / 2)else r.get (k / 2):=by
 show(bif Le (k % 2) 0 then l.get (k / 2)else r.get (k / 2))=_;by_cases h:k % 2=0
 ·rw[h];rfl
 ·rw[Rc h,if_neg h];rfl
theorem Tri.set_lf(f k:Nat)(x:Value):Tri.set (f+1) .lf (k+1) x=if k % 2=0 then Tri.nd (Tri.set f .lf (k / 2) x) undef .lf else Tri.nd .lf undef (Tri.set f .lf (k / 2) x):=by
 show(bif Le (k % 2) 0 then _ else _)=_;by_cases h:k % 2=0
 ·rw[h];rfl
 ·rw[Rc h,if_neg h];rfl
theorem Tri.set_nd(f k:Nat)(l:Tri)(v:Value)(r:Tri)(x:Value):Tri.set (f+1) (.nd l v r) (k+1) x=if k % 2=0 then Tri.nd (Tri.set f l (k / 2) x) v r else Tri.nd l v (Tri.set f r (k / 2) x):=by
 show(bif Le (k % 2) 0 then _ else _)=_;by_cases h:k % 2=0
 ·rw[h];rfl
 ·rw[Rc h,if_neg h];rfl
theorem Tri.lf_get(j:Nat):(Tri.nd .lf undef .lf).get j=Tri.lf.get j:=by
 cases j with
 |zero=>rfl
 |succ j=>rw[Tri.get_succ];simp only[Tri.get_lf,ite_self]
theorem Tri.get_set:∀(f:Nat) (t:Tri) (i:Nat) (x:Value) (j:Nat),i+1<2 ^ f->(t.set f i x).get j=if j=i then x else t.get j
 |0,t,i,x,j,h=>by simp at h
 |f+1,t,0,x,j,_=>by
  cases t with
  |lf=>
   show(Tri.nd .lf x .lf).get j=_;cases j with
   |zero=>rfl
   |succ j=>rw[if_neg (by omega),Tri.get_succ];simp only[Tri.get_lf,ite_self]
  |nd l v r=>
   show(Tri.nd l x r).get j=_;cases j with
   |zero=>rfl
   |succ j=>rw[if_neg (by omega),Tri.get_succ,Tri.get_succ]
 |f+1,t,k+1,x,j,h=>by
  have hk:k / 2+1<2 ^ f:=by rw[Nat.pow_succ]at h;omega
  by_cases he:k % 2=0
  ·have key:∀l v r,(Tri.nd (Tri.set f l (k / 2) x) v r).get j=if j=k+1 then x else(Tri.nd l v r).get j:=by
    intro l v r;cases j with
    |zero=>rfl
    |succ j=>
     rw[Tri.get_succ,Tri.get_succ,Tri.get_set f l (k / 2) x (j / 2) hk];by_cases hj:j % 2=0
     ·rw[if_pos hj,if_pos hj];by_cases e:j=k
      ·subst e;simp
      ·rw[if_neg (by omega),if_neg (by omega)]
     ·rw[if_neg hj,if_neg hj,if_neg (by omega)]
   cases t with
   |lf=>rw[Tri.set_lf,if_pos he,key,Tri.lf_get]
   |nd l v r=>rw[Tri.set_nd,if_pos he,key]
  ·have key:∀l v r,(Tri.nd l v (Tri.set f r (k / 2) x)).get j=if j=k+1 then x else(Tri.nd l v r).get j:=by
    intro l v r;cases j with
    |zero=>rfl
    |succ j=>
     rw[Tri.get_succ,Tri.get_succ,Tri.get_set f r (k / 2) x (j / 2) hk];by_cases hj:j % 2=0
     ·rw[if_pos hj,if_pos hj,if_neg (by omega)]
     ·rw[if_neg hj,if_neg hj];by_cases e:j=k
      ·subst e;simp
      ·rw[if_neg (by omega),if_neg (by omega)]
   cases t with
   |lf=>rw[Tri.set_lf,if_neg he,key,Tri.lf_get]
   |nd l v r=>rw[Tri.set_nd,if_neg he,key]
structure Tm where
 len:Nat
 tr:Tri
def Xm(T:Tm)(t:Nat):Value:=T.tr.get t
def W6(T:Tm)(d:Option Tmp)(v:Value):Tm:=match d with|some d=>⟨T.len,T.tr.set 14 d v⟩|none=>T
def X8(T:Tm):Operand->Option Value
 | .tmp t=>some (Xm T t)
 | .const v=>bif af v then some v else none
 | .func f=>some (.func (.func f) #[] #[])
 | .global _=>none
def TR(μ:Mu)(T:Tm)(A:Array Value):Prop:=T.len=A.size/\∀t,VR μ (Xm T t) (A.getD t undef)
theorem TR.mono{μ μ':Mu}(e:Ext μ μ'){T:Tm}{A:Array Value}(h:TR μ T A):TR μ' T A:=⟨h.1,fun t=>(h.2 t).mono e⟩
theorem Vm{T:Tm}{d:Option Tmp}{v:Value}:(W6 T d v).len=T.len:=by cases d <;> rfl
theorem Hq(d:Nat)(h:d<16000):d+1<2 ^ 14:=by omega
theorem pE{T:Tm}{d:Option Tmp}{v:Value}{t:Nat}(h:∀x,d=some x->x<16000):Xm (W6 T d v) t=if d=some t then v else Xm T t:=by
 cases d with
 |none=>simp[W6]
 |some d=>
  have h2:=Hq d (h d rfl);simp only[W6,Xm,YO];rw[Tri.get_set 14 _ d _ _ h2];by_cases e:d=t
  ·subst e;simp
  ·rw[if_neg (Ne.symm e),if_neg e]
theorem TR.put{μ:Mu}{T:Tm}{A:Array Value}(h:TR μ T A){d:Option Tmp}(hd:∀x,d=some x->x<T.len/\x<16000){v v':Value}(hv:VR μ v v'):TR μ (W6 T d v) (match d with|some x=>A.setIfInBounds x v'|none=>A):=by
 refine⟨?_,fun t=> ?_⟩
 ·rw[Vm];cases d <;> simp[h.1]
 ·rw[pE fun x hx=>(hd x hx).2];cases d with
  |none=>simpa using h.2 t
  |some x=>
   have hx:x<A.size:=h.1 ▸ (hd x rfl).1;simp only[YO];by_cases e:x=t
   ·subst e;simpa[hx]using hv
   ·have:=h.2 t;simp[e]at this ⊢;exact this
def Jx:Value->Option Bool
 | .bool b=>some b
 |_=>none
def Xw(ops:Array Oper)(T:Tm)(j:Nat):Option Bool:=
 match nth ops.toList j with
 |some o=>match o.dst with
  |some t=>Jx (Xm T t)
  |none=>none
 |none=>none
theorem cR{ops:Array Oper}{T:Tm}{j:Nat}:Xw ops T j=match(ops[j]?).bind (·.dst)with
 |some t=>Jx (Xm T t)
 |none=>none:=by
 unfold Xw;rw[RV,Lj];cases ops[j]? <;> rfl
theorem fA{ops:Array Oper}{A:Array Value}{j:Nat}:yielded ops A j=match(ops[j]?).bind (·.dst)with
 |some t=>Jx (A.getD t undef)
 |none=>none:=by
 unfold yielded;cases(ops[j]?).bind (·.dst)with
 |none=>rfl
 |some t=>
  simp only[Option.bind_some,Array.getD_eq_getD_getElem?];cases A[t]? with
  |none=>rfl
  |some v=>cases v <;> rfl
theorem xm{μ:Mu}{v v':Value}(h:VR μ v v'):Jx v'=Jx v:=by
 cases h with
 |UY a b c=>
  cases v' with
  |bool q=>exact absurd rfl (a q)
  |_=>rfl
 |top a b c=>
  cases v' with
  |bool q=>exact absurd rfl (c.nobool a q)
  |_=>rfl
 |_=>rfl

structure Rec where
 o:Oper
 run:Bool
 v:Value
 T:Tm
 H:Qj
 H':Qj
 n:Nat
 n':Nat
 R:List Nat
 W:List Nat
def UG:List Rec->Tm->Qj->Nat->Tm->Qj->Nat->Prop
 |[],T,H,n,T',H',n'=>T=T'/\H=H'/\n=n'
 |r::l,T,H,n,T',H',n'=>r.T=T/\r.H=H/\r.n=n/\UG l (W6 T r.o.dst r.v) r.H' r.n' T' H' n'
structure Tg (len:Nat) (r:Rec):Prop where
 le:r.n<=r.n'
 keep:∀i,i<r.n->i ∉ r.W->Qo r.H' i=Qo r.H i
 top:∀i,r.n'<=i->Qo r.H' i=Qo r.H i
 sub:∀i,i∈r.W->i∈r.R
 wlt:∀i,i∈r.W->i<r.n'
 dst:∀x,r.o.dst=some x->x<len/\x<16000
def aj(r:Rec)(i:Nat):Bool:=r.W.contains i || (LC r.n i && Lk i r.n')
theorem Rn{r:Rec}{i:Nat}:aj r i=true<->i∈r.W\/(r.n<=i/\i<r.n'):=by
 simp only[aj,Bool.or_eq_true,List.contains_iff_mem,YB];refine or_congr Iff.rfl ⟨fun h=>⟨YL h.1,YL h.2⟩,fun h=>⟨Lx h.1,Lx h.2⟩⟩
def cH(i:Nat)(r:Rec):Option (Option Obj):=bif aj r i then some (Qo r.H' i)else none
def cT(t:Nat)(r:Rec):Option Value:=if r.o.dst=some t then some r.v else none
theorem EX{len:Nat}{r:Rec}(h:Tg len r)(i:Nat)(a:Option Obj)(ha:a=Qo r.H i):FA true (cH i r) a=Qo r.H' i:=by
 unfold cH;cases ht:aj r i with
 |true=>rfl
 |false=>
  simp only[cond_false,FA];have hn:¬(i∈r.W\/(r.n<=i/\i<r.n')):=fun e=>by rw[Rn.2 e]at ht;cases ht
  rw[ha];rcases Ly i r.n with QX|hge
  ·exact(h.keep i QX fun e=>hn (.inl e)).symm
  ·exact(h.top i (by
    rcases Ly i r.n' with h1|h1
    ·exact absurd (.inr ⟨hge,h1⟩) hn
    ·exact h1)).symm
theorem TU{len:Nat}(i:Nat):∀(l:List Rec) (k:Nat) (T:Tm) (H:Qj) (n:Nat) (T':Tm) (H':Qj) (n':Nat),UG l T H n T' H' n'->(∀r∈l,Tg len r)->
 (∀j r,l[j]? =some r->Qo r.H i=Uf (fun q=>decide (q<k+j)) (l.map (cH i)) k (Qo H i))/\Qo H' i=Uf (fun _=>true) (l.map (cH i)) k (Qo H i)
 |[],k,T,H,n,T',H',n',h,_=>⟨fun j r hr=>by simp at hr,by obtain⟨_,rfl,_⟩:=h;rfl⟩
 |r::l,k,T,H,n,T',H',n',h,hs=>by
  obtain⟨h1,h2,h3,h4⟩:=h;obtain⟨q1,q2⟩:=TU i l (k+1) _ _ _ _ _ _ h4 fun x hx=>hs x (Lh _ hx)
  have ZS:=EX (hs r (by simp)) i (Qo H i) (by rw[h2]);refine⟨fun j x hx=> ?_, ?_⟩
  ·cases j with
   |zero=>
    simp only[Ln,YO]at hx;subst hx;rw[V9 _ _ _ fun a y _=>by simp,h2]
   |succ j=>
    rw[q1 j x (by simpa using hx)];simp only[List.map_cons,Uf];rw[show(decide (k<k+(j+1)))=true by simp];rw[ZS];exact ZH _ _ _ fun a y _=>by rw[show k+1+j=k+(j+1)by omega]
  ·rw[q2];simp only[List.map_cons,Uf];rw[ZS]
theorem Uy{len:Nat}(t:Nat):∀(l:List Rec) (k:Nat) (T:Tm) (H:Qj) (n:Nat) (T':Tm) (H':Qj) (n':Nat),UG l T H n T' H' n'->(∀r∈l,Tg len r)->T.len=len->
 (∀j r,l[j]? =some r->r.T.len=len/\Xm r.T t=Uf (fun q=>decide (q<k+j)) (l.map (cT t)) k (Xm T t))/\T'.len=len/\Xm T' t=Uf (fun _=>true) (l.map (cT t)) k (Xm T t)
 |[],k,T,H,n,T',H',n',h,_,hl=>⟨fun j r hr=>by simp at hr,by obtain⟨rfl,_⟩:=h;exact⟨hl,rfl⟩⟩
 |r::l,k,T,H,n,T',H',n',h,hs,hl=>by
  obtain⟨h1,h2,h3,h4⟩:=h;have hd:=(hs r (by simp)).dst;have hlen:(W6 T r.o.dst r.v).len=len:=by rw[Vm];exact hl
  obtain⟨q1,q2,q3⟩:=Uy t l (k+1) _ _ _ _ _ _ h4 (fun x hx=>hs x (Lh _ hx)) hlen;have ZS:FA true (cT t r) (Xm T t)=Xm (W6 T r.o.dst r.v) t:=by
   rw[pE fun x hx=>(hd x hx).2];unfold cT;split <;> rfl
  refine⟨fun j x hx=> ?_,q2, ?_⟩
  ·cases j with
   |zero=>
    simp only[Ln,YO]at hx;subst hx;rw[V9 _ _ _ fun a y _=>by simp,h1];exact⟨hl,rfl⟩
   |succ j=>
    obtain⟨a1,a2⟩:=q1 j x (by simpa using hx);refine⟨a1, ?_⟩;rw[a2];simp only[List.map_cons,Uf];rw[show(decide (k<k+(j+1)))=true by simp];rw[ZS];exact ZH _ _ _ fun a y _=>by rw[show k+1+j=k+(j+1)by omega]
  ·rw[q3];simp only[List.map_cons,Uf];rw[ZS]
theorem KY{len:Nat}:∀(l:List Rec) (T:Tm) (H:Qj) (n:Nat) (T':Tm) (H':Qj) (n':Nat),UG l T H n T' H' n'->(∀r∈l,Tg len r)->
 n<=n'/\(∀r∈l,n<=r.n/\r.n'<=n')/\(∀(i j:Nat) (a b:Rec),i<j->l[i]? =some a->l[j]? =some b->a.n'<=b.n)/\(∀x,n<=x->x<n'->∃(j:Nat) (r:Rec),l[j]? =some r/\r.n<=x/\x<r.n')
 |[],T,H,n,T',H',n',h,_=>by obtain⟨_,_,rfl⟩:=h;exact⟨Lr _,by simp,fun i j a b _ h=>by simp at h,fun x h1 h2=>absurd h1 (by omega)⟩
 |r::l,T,H,n,T',H',n',h,hs=>by
  obtain⟨h1,h2,h3,h4⟩:=h;obtain⟨q1,q2,q3,q4⟩:=KY l _ _ _ _ _ _ h4 fun x hx=>hs x (Lh _ hx)
  have hr:=(hs r (by simp)).le;refine⟨by omega,fun x hx=> ?_,fun i j a b Jd ha hb=> ?_,fun x hx1 hx2=> ?_⟩
  ·rcases List.mem_cons.1 hx with rfl|hx
   ·omega
   ·have:=q2 x hx;omega
  ·cases j with
   |zero=>omega
   |succ j=>
    cases i with
    |zero=>
     simp only[Ln,YO]at ha;subst ha;exact(q2 b (Ll (by simpa using hb))).1
    |succ i=>exact q3 i j a b (by omega) (by simpa using ha) (by simpa using hb)
  ·rcases Ly x r.n' with QX|hge
   ·exact⟨0,r,rfl,by omega,QX⟩
   ·obtain⟨j,r',hj,hx⟩:=q4 x hge hx2;exact⟨j+1,r',by simpa using hj,hx⟩

theorem tG{α:Type}{l m:List α}{i:Nat}{d:α}(h:i<l.length):(l++m).getD i d=l.getD i d:=by
 rw[Li,Li,Lt h]
def dS:List Oper->List Nat->List Nat
 |[],acc=>acc
 |o::l,acc=>dS l (acc++[o.after.toList.foldr (fun e m=>bif Region.binds .any e then Nat.lor (Nat.lor (Nat.shiftLeft 1 e.on) (acc.getD e.on 0)) m else m) 0])
def Cj(n m:Nat):List Nat:=(Ld n).filter fun i=>Le (Nat.land (Nat.shiftRight m i) 1) 1
theorem mA{n m i:Nat}:i∈Cj n m<->i<n/\m.testBit i=true:=by
 unfold Cj;rw[List.mem_filter,List.mem_range,Nat.beq_eq,Nat.testBit_eq_decide_div_mod_eq,decide_eq_true_iff];show(i<n/\(m >>> i) &&& 1=1)<->_;rw[Nat.and_one_is_mod,Nat.shiftRight_eq_div_pow]
theorem xc{a b i:Nat}:(Nat.lor a b).testBit i=(a.testBit i || b.testBit i):=Nat.testBit_or a b i
theorem Ep{k i:Nat}(h:(Nat.shiftLeft 1 k).testBit i=true):i=k:=by
 have e:Nat.shiftLeft 1 k=2 ^ k:=by show 1 <<< k=_;rw[Nat.shiftLeft_eq,Nat.one_mul]
 rw[e,Nat.testBit_two_pow]at h;exact(of_decide_eq_true h).symm
theorem kG{acc:List Nat}{i:Nat}:∀(l:List Edge),(l.foldr (fun e m=>bif Region.binds .any e then Nat.lor (Nat.lor (Nat.shiftLeft 1 e.on) (acc.getD e.on 0)) m else m) 0).testBit i=true->∃e∈l,Region.binds .any e=true/\(i=e.on\/(acc.getD e.on 0).testBit i=true)
 |[],h=>by simp at h
 |e::l,h=>by
  rw[List.foldr_cons]at h;cases hb:Region.binds .any e with
  |false=>
   rw[hb,cond_false]at h;obtain⟨x,hx,h1⟩:=kG l h;exact⟨x,Lh _ hx,h1⟩
  |true=>
   rw[hb,cond_true,xc,xc,Bool.or_eq_true,Bool.or_eq_true]at h;rcases h with (h|h)|h
   ·exact⟨e,List.mem_cons_self,hb,Or.inl (Ep h)⟩
   ·exact⟨e,List.mem_cons_self,hb,Or.inr h⟩
   ·obtain⟨x,hx,h1⟩:=kG l h;exact⟨x,Lh _ hx,h1⟩
def KZ(l:List Oper)(_:List (List Nat)):List (List Nat):=(dS l []).map (Cj l.length)
def HU(ops:List Oper)(bs:List (List Nat)):Prop:=bs.length<=ops.length/\∀k b,bs[k]? =some b->∀i∈b,∃o,ops[k]? =some o/\∃e∈o.after,Region.binds .any e=true/\e.on<k/\(i=e.on\/i∈bs.getD e.on [])
def HA(ops:List Oper)(bs:List Nat):Prop:=bs.length<=ops.length/\∀k b,bs[k]? =some b->∀i,b.testBit i=true->∃o,ops[k]? =some o/\∃e∈o.after,Region.binds .any e=true/\e.on<k/\(i=e.on\/(bs.getD e.on 0).testBit i=true)
theorem uf:∀(l pre:List Oper) (acc:List Nat),acc.length=pre.length->HA (pre++l) acc->(∀(k:Nat) o,(pre++l)[k]? =some o->∀e∈o.after,Region.binds .any e=true->e.on<k)->HA (pre++l) (dS l acc)/\(dS l acc).length=(pre++l).length
 |[],pre,acc,hl,h,_=>⟨h,by simpa[dS]using hl⟩
 |o::l,pre,acc,hl,h,QX=>by
  have e:pre++o::l=(pre++[o])++l:=by simp
  rw[e]at h QX ⊢;refine uf l (pre++[o]) _ (by simp[hl]) ⟨by simp[hl],fun k b hb i hi=> ?_⟩ QX;rcases Ly k acc.length with hk|hk
  ·rw[Lt hk]at hb;obtain⟨x,hx,ed,hed,hbd,hon,Zu⟩:=h.2 k b hb i hi;refine⟨x,hx,ed,hed,hbd,hon,Zu.imp id fun h=> ?_⟩;rwa[tG (by omega)]
  ·have hk0:k=acc.length:=by
    have:=(List.getElem?_eq_some_iff.1 hb).1;simp at this;omega
   subst hk0;rw[Lm (Lr _)]at hb;simp only[Nat.sub_self,Ln,YO]at hb;subst hb;have ho:((pre++[o])++l)[acc.length]? =some o:=by rw[hl];simp
   obtain⟨ed,hed,hbd,hi⟩:=kG _ hi;have hon:=QX acc.length o ho ed (by simpa using hed) hbd;exact⟨o,ho,ed,by simpa using hed,hbd,hon,hi.imp id fun h=>by rwa[tG (by omega)]⟩
theorem oX(l:List Oper)(QX:∀(k:Nat) o,l[k]? =some o->∀e∈o.after,Region.binds .any e=true->e.on<k):HU l (KZ l [])/\(KZ l []).length=l.length:=by
 obtain⟨⟨h1,h2⟩,h3⟩:=uf l [] [] rfl ⟨by simp,fun q b hq=>by simp at hq⟩ (fun q o ho=>QX q o (by simpa using ho));simp only[List.nil_append]at h1 h2 h3;refine⟨⟨by simpa[KZ]using h1,fun k b hb i hi=> ?_⟩,by simpa[KZ]using h3⟩;unfold KZ at hb ⊢;rw[Lu]at hb;cases hm:(dS l [])[k]? with
 |none=>rw[hm]at hb;cases hb
 |some m=>
  rw[hm]at hb;simp only[Lz,YO]at hb;subst hb;obtain⟨hi1,hi2⟩:=mA.1 hi;obtain⟨o,ho,e,he,hbd,hon,Zu⟩:=h2 k m hm i hi2;refine⟨o,ho,e,he,hbd,hon,Zu.imp id fun h=> ?_⟩;have hk:k<(dS l []).length:=(List.getElem?_eq_some_iff.1 hm).1;have he2:e.on<(dS l []).length:=by omega
  rw[Li,Lu,LU he2];rw[Li,LU he2]at h;exact mA.2 ⟨hi1,h⟩
theorem wB{ops:List Oper}{bs:List (List Nat)}(h:HU ops bs){D:Nat->Bool}(hD:∀k o,D k=true->ops[k]? =some o->∀e∈o.after,Region.binds .any e=true->D e.on=true):
 ∀(k:Nat),(∀o,ops[k]? =some o->∀e∈o.after,Region.binds .any e=true->D e.on=true)->∀i∈bs.getD k [],D i=true:=by
 intro k;induction k using LA with
 |_ k ih=>
  intro hk i hi;rw[Li]at hi;cases hb:bs[k]? with
  |none=>rw[hb]at hi;simp at hi
  |some b=>
   rw[hb]at hi;obtain⟨o,ho,e,he,hbd,hon,Zu⟩:=h.2 k b hb i hi;have hDe:=hk o ho e he hbd;rcases Zu with rfl|Zu
   ·exact hDe
   ·exact ih e.on hon (fun o' Un=>hD e.on o' hDe Un) i Zu
end Go.CE

namespace Go.CE
open Go Go.RowKit

inductive OO where
 |ret (v:Value)
 |Zj (v:Value)
inductive OR2 (μ:Mu):OO->OO->Prop
 |ret {v v'}:VR μ v v'->OR2 μ (.ret v) (.ret v')
 |Zj {v v'}:VR μ v v'->OR2 μ (.Zj v) (.Zj v')
def OO.on(fr:Frame):OO->Frame
 | .ret v=>fr.finish v
 | .Zj v=>fr.raise [{v,recovered:=false}]
def Ps(P:Program)(B:Lo)(o:Oper)(ev:Operand->Option Value)(H:Qj)(n:Nat)(out:OO)(H':Qj)(n':Nat)(R W:List Nat):Prop:=
 ∀(S:Nat->Prop) (μ:Mu) (w:World) (fr:Frame) (cs:List Frame) (k:List Item) (ops:Array Oper) (i:Nat) (rest:List Nat),Ok B S μ (Qo H) w->B.has w->(∀i,S i->i<n)->Ya μ n n'->
  (∀x∈o.op.operands,∀v,ev x=some v->VR μ v (fr.eval x))->(∀i∈R,i<n->S i)->
  fr.mode=.run->fr.todo=.inRegion ops (i::rest)::k->ops[i]? =some o->Region.wanted o (yielded ops fr.tmps)=true->
  ∃XB w' μ',Post B S n n' W μ μ' H H' w w'/\OR2 μ' out XB/\Steps P (lone fr cs w) (lone (XB.on fr) cs w')
def Jm(P:Program)(B:Lo)(ops:Array Oper)(r:Rec):Prop:=
 (r.run=Region.wanted r.o (Xw ops r.T))/\(r.run=true->Ps P B r.o (X8 r.T) r.H r.n (.ret r.v) r.H' r.n' r.R r.W)/\(r.run=false->r.v=undef/\r.H'=r.H/\r.n'=r.n/\r.W=[])

def meets(r x:Rec):Bool:=r.W.any fun i=>x.R.contains i
def bears(r x:Rec):Bool:=x.R.any fun i=>LC r.n i && Lk i r.n'
def tied(ops:Array Oper)(r x:Rec):Bool:= !(r.o.apart ops x.o) || meets r x || meets x r || bears r x
def UC(ops:Array Oper)(r:Rec)(k:Nat):List Rec->List (List Nat)->Bool
 |x::l,b::bs=>(b.contains k || !(tied ops r x)) && UC ops r k l bs
 |[],_=>true
 |_::_,[]=>false
def indep(ops:Array Oper):Nat->List Rec->List (List Nat)->Bool
 |k,r::l,_::bs=>UC ops r k l bs && indep ops (k+1) l bs
 |_,[],_=>true
 |_,_::_,[]=>false
theorem Sc{ops:Array Oper}{r:Rec}{k:Nat}:∀(l:List Rec) (bs:List (List Nat)),UC ops r k l bs=true->∀(j:Nat) x,l[j]? =some x->tied ops r x=true->k∈bs.getD j []
 |x::l,b::bs,h,j,y,hj,ht=>by
  simp only[UC,YB,Bool.or_eq_true,Bool.not_eq_true',List.contains_iff_mem]at h;cases j with
  |zero=>
   simp only[Ln,YO]at hj;subst hj;rcases h.1 with h1|h1
   ·simpa using h1
   ·rw[ht]at h1;cases h1
  |succ j=>
   have:=Sc l bs h.2 j y (by simpa using hj) ht;simpa using this
 |[],_,_,j,y,hj,_=>by simp at hj
 |_::_,[],h,_,_,_,_=>by simp[UC]at h
theorem PR{ops:Array Oper}:∀(l:List Rec) (bs:List (List Nat)) (k:Nat),indep ops k l bs=true->∀(i j:Nat) r x,i<j->l[i]? =some r->l[j]? =some x->tied ops r x=true->k+i∈bs.getD j []
 |r::l,b::bs,k,h,i,j,y,x,Jd,hi,hj,ht=>by
  simp only[indep,YB]at h;cases j with
  |zero=>omega
  |succ j=>
   cases i with
   |zero=>
    simp only[Ln,YO]at hi;subst hi;have:=Sc l bs h.1 j x (by simpa using hj) ht;simpa using this
   |succ i=>
    have:=PR l bs (k+1) h.2 i j y x (by omega) (by simpa using hi) (by simpa using hj) ht;rw[show k+1+i=k+(i+1)by omega]at this;simpa using this
 |[],_,_,_,i,j,y,x,_,hi,_,_=>by simp at hi
 |_::_,[],_,h,_,_,_,_,_,_,_,_=>by simp[indep]at h
theorem PG.congr{B:Nat}{S New New' W W':Nat->Prop}{μ μ':Mu}{G G' G'':Nat->Option Obj}{w w':World}(h:PG B S New W μ μ' G G' w w')(hN:∀i,New i<->New' i)(hW:∀i,W i<->W' i)(hG:∀i,G' i=G'' i):PG B S New' W' μ μ' G G'' w w':=by
 have e1:New=New':=funext fun i=>propext (hN i)
 have e2:W=W':=funext fun i=>propext (hW i)
 have e3:G'=G'':=funext hG;subst e1 e2 e3;exact h

def HT(ops:Array Oper)(Qq:List Rec)(bs:List (List Nat)):Prop:=∀(i j:Nat) (r x:Rec),i<j->Qq[i]? =some r->Qq[j]? =some x->tied ops r x=true->0+i∈bs.getD j []
structure Setup (P:Program) (B:Lo) (ops:Array Oper) (Qq:List Rec) (bs:List (List Nat)) (T:Tm) (H:Qj) (n:Nat) (T':Tm) (H':Qj) (n':Nat):Prop where
 chain:UG Qq T H n T' H' n'
 Jn:∀r∈Qq,Tg T.len r
 own:∀(i:Nat) r,Qq[i]? =some r->ops[i]? =some r.o
 len:Qq.length=ops.size
 bef:HU ops.toList bs
 ind:HT ops Qq bs
 edge:∀(k:Nat) o,ops[k]? =some o->∀e∈o.after,Region.binds .any e=true->e.on<k
section
variable {P:Program} {B:Lo} {ops:Array Oper} {Qq:List Rec} {bs:List (List Nat)} {T:Tm} {H:Qj} {n:Nat} {T':Tm} {H':Qj} {n':Nat}
def gD(Qq:List Rec)(H:Qj)(D:Nat->Bool)(i:Nat):Option Obj:=Uf D (Qq.map (cH i)) 0 (Qo H i)
def tD(Qq:List Rec)(T:Tm)(D:Nat->Bool)(t:Nat):Value:=Uf D (Qq.map (cT t)) 0 (Xm T t)
def pj(Qq:List Rec)(D:Nat->Bool)(i:Nat):Prop:=∃(j:Nat) (r:Rec),D j=true/\Qq[j]? =some r/\r.n<=i/\i<r.n'
def WD(Qq:List Rec)(n:Nat)(D:Nat->Bool)(i:Nat):Prop:=i<n/\∃(j:Nat) (r:Rec),D j=true/\Qq[j]? =some r/\i∈r.W
def VG(ops:Array Oper)(D:Nat->Bool):Prop:=∀k o,D k=true->ops[k]? =some o->∀e∈o.after,Region.binds .any e=true->D e.on=true
theorem lj(h:Setup P B ops Qq bs T H n T' H' n'){D:Nat->Bool}(hD:VG ops D){k:Nat}(hk:∀o,ops[k]? =some o->∀e∈o.after,Region.binds .any e=true->D e.on=true):∀i∈bs.getD k [],D i=true:=
 wB h.bef (fun k o a b=>hD k o a (by simpa using b)) k (fun o a=>hk o (by simpa using a))
theorem pR(h:Setup P B ops Qq bs T H n T' H' n'){D:Nat->Bool}(hD:VG ops D){j:Nat}{x:Rec}(hj:Qq[j]? =some x)(hn:D j=false)(hr:∀o,ops[j]? =some o->∀e∈o.after,Region.binds .any e=true->D e.on=true)
 {i:Nat} {r:Rec} (hi:Qq[i]? =some r) (ht:(i<j->tied ops r x=true)/\(j<i->tied ops x r=true)):D i=decide (i<j):=by
 rcases Nat.lt_trichotomy i j with QX|heq|hgt
 ·have:=h.ind i j r x QX hi hj (ht.1 QX);rw[Lv]at this;rw[lj h hD hr i this];simp[QX]
 ·subst heq;rw[hn];simp
 ·have:=h.ind j i x r hgt hj hi (ht.2 hgt);rw[Lv]at this;have hf:D i=false:=by
   cases hd:D i with
   |false=>rfl
   |true=>
    have:=lj h hD (k:=i) (fun o ho=>hD i o hd ho) j this;rw[hn]at this;cases this
  rw[hf];simp;omega
theorem da{r x:Rec}{t:Nat}(ht:r.o.dst=some t)(hl:t∈x.o.looksAt ops\/x.o.dst=some t):tied ops r x=true/\tied ops x r=true:=by
 constructor
 ·have:r.o.apart ops x.o=false:=by
   cases hap:r.o.apart ops x.o with
   |false=>rfl
   |true=>
    obtain⟨h1,h2,_⟩:=Oper.apart_spec hap;rcases hl with hl|hl
    ·exact absurd hl (h1 t ht)
    ·exact absurd hl (h2 t ht)
  simp[tied,this]
 ·have:x.o.apart ops r.o=false:=by
   cases hap:x.o.apart ops r.o with
   |false=>rfl
   |true=>
    obtain⟨_,h2,h3⟩:=Oper.apart_spec hap;rcases hl with hl|hl
    ·exact absurd hl (h3 t ht)
    ·exact absurd ht (h2 t hl)
  simp[tied,this]
theorem fp{t:Nat}{i:Nat}{v:Value}(h:(Qq.map (cT t))[i]? =some (some v)):∃r,Qq[i]? =some r/\r.o.dst=some t/\r.v=v:=by
 rw[Lu]at h;cases hr:Qq[i]? with
 |none=>rw[hr]at h;cases h
 |some r=>
  rw[hr]at h;simp only[Lz,YO,cT]at h;split at h
  ·rename_i hd;exact⟨r,rfl,hd,by simpa using h⟩
  ·cases h
theorem ft{q:Nat}{i:Nat}{v:Option Obj}(h:(Qq.map (cH q))[i]? =some (some v)):∃r,Qq[i]? =some r/\(q∈r.W\/(r.n<=q/\q<r.n'))/\Qo r.H' q=v:=by
 rw[Lu]at h;cases hr:Qq[i]? with
 |none=>rw[hr]at h;cases h
 |some r=>
  rw[hr]at h;simp only[Lz,YO,cH]at h;cases ht:aj r q with
  |false=>rw[ht]at h;cases h
  |true=>rw[ht]at h;exact⟨r,rfl,Rn.1 ht,by simpa using h⟩
theorem pG(h:Setup P B ops Qq bs T H n T' H' n'){D:Nat->Bool}(hD:VG ops D){j:Nat}{x:Rec}(hj:Qq[j]? =some x)(hn:D j=false)(hr:∀o,ops[j]? =some o->∀e∈o.after,Region.binds .any e=true->D e.on=true)
 {t:Nat} (ht:t∈x.o.looksAt ops):tD Qq T D t=Xm x.T t:=by
 obtain⟨q1,_⟩:=Uy (len:=T.len) t Qq 0 T H n T' H' n' h.chain h.Jn rfl;rw[(q1 j x hj).2];refine ZH _ _ _ fun i v hv=> ?_
 obtain⟨r,KL,hd,_⟩:=fp hv;have htt:=da (ops:=ops) hd (.inl ht);simp only[Lv];exact pR h hD hj hn hr KL ⟨fun _=>htt.1,fun _=>htt.2⟩
theorem xz(h:Setup P B ops Qq bs T H n T' H' n'){i j:Nat}{r x:Rec}{q:Nat}(hi:Qq[i]? =some r)(hj:Qq[j]? =some x)(hq:q∈x.R)(hqn:q<x.n)(hr:q∈r.W\/(r.n<=q/\q<r.n')):(i<j->tied ops r x=true)/\(j<i->tied ops x r=true):=by
 have Jt:=KY Qq T H n T' H' n' h.chain h.Jn;rcases hr with hr|hr
 ·have m1:meets r x=true:=List.any_eq_true.2 ⟨q,hr,by simpa using hq⟩;exact⟨fun _=>by simp[tied,m1],fun _=>by simp[tied,m1]⟩
 ·refine⟨fun _=> ?_,fun QX=> ?_⟩
  ·have:bears r x=true:=List.any_eq_true.2 ⟨q,hq,by simp only[YB];exact⟨Lx hr.1,Lx hr.2⟩⟩;simp[tied,this]
  ·have h1:=Jt.2.2.1 j i x r QX hj hi;have h2:=(h.Jn x (Ll hj)).le;omega
theorem CQ(h:Setup P B ops Qq bs T H n T' H' n'){D:Nat->Bool}(hD:VG ops D){j:Nat}{x:Rec}(hj:Qq[j]? =some x)(hn:D j=false)(hr:∀o,ops[j]? =some o->∀e∈o.after,Region.binds .any e=true->D e.on=true)
 {q:Nat} (hq:q∈x.R) (hqn:q<x.n):gD Qq H D q=Qo x.H q:=by
 obtain⟨q1,_⟩:=TU (len:=T.len) q Qq 0 T H n T' H' n' h.chain h.Jn;rw[q1 j x hj];refine ZH _ _ _ fun i v hv=> ?_
 obtain⟨r,KL,hd,_⟩:=ft hv;simp only[Lv];exact pR h hD hj hn hr KL (xz h KL hj hq hqn hd)
end
end Go.CE

namespace Go.CE
open Go Go.RowKit

theorem Ok.congr{B:Nat}{S:Nat->Prop}{μ:Mu}{G G':Nat->Option Obj}{w:World}(h:Ok B S μ G w)(hg:∀i,S i->G' i=G i):Ok B S μ G' w:=
 ⟨fun i o a b c=>h.rel i o a (by rw[<-hg i a];exact b) c,fun i o im a b c d=>h.low i o im a (by rw[<-hg i a];exact b) c d,
  fun i j oi oj x y a b c d e=>h.inj i j oi oj x y a b c (by rw[<-hg i a];exact d) (by rw[<-hg j b];exact e),
  fun i o a b=>h.KI i o a (by rw[<-hg i a];exact b),fun i j oi oj x y z a b c d=>h.sep i j oi oj x y z a b (by rw[<-hg i a];exact c) (by rw[<-hg j b];exact d)⟩
def QU(fr:Frame)(A:Array Value)(ops:Array Oper)(l:List Nat)(k:List Item):Frame:={fr with tmps:=A,todo:=.inRegion ops l::k}
theorem PV{fr:Frame}{A:Array Value}{ops:Array Oper}{i:Nat}{l:List Nat}{k:List Item}{o:Oper}(ho:ops[i]? =some o)(v:Value):
 (QU fr A ops (i::l) k).finish v=QU fr (match o.dst with|some d=>A.setIfInBounds d v|none=>A) ops l k:=by
 simp only[Frame.finish,QU,ho,Option.bind_some];cases o.dst <;> rfl
theorem al{P:Program}{fr:Frame}{cs:List Frame}{w:World}{A:Array Value}{ops:Array Oper}{i:Nat}{l:List Nat}{k:List Item}{o:Oper}(hm:fr.mode=.run)(ho:ops[i]? =some o)(hw:Region.wanted o (yielded ops A)=false):
 step P (lone (QU fr A ops (i::l) k) cs w)=.next (lone ((QU fr A ops (i::l) k).finish undef) cs w):=
 step_lone_go (by simp[stepG,stepG.exec,QU,hm,ho,hw])
theorem Wn{P:Program}{fr:Frame}{cs:List Frame}{w:World}{A:Array Value}{ops:Array Oper}{k:List Item}(hm:fr.mode=.run):
 step P (lone (QU fr A ops [] k) cs w)=.next (lone {fr with tmps:=A,todo:=k} cs w):=
 step_lone_go (by simp[stepG,stepG.exec,QU,hm])
section
variable {P:Program} {B:Lo} {ops:Array Oper} {Qq:List Rec} {bs:List (List Nat)} {T:Tm} {H:Qj} {n:Nat} {T':Tm} {H':Qj} {n':Nat}
theorem Lo.has.pg{L:Lo}{S New W:Nat->Prop}{μ μ':Mu}{G G':Nat->Option Obj}{w w':World}(h:L.has w)(Q5:Ok L.B S μ G w)(hp:PG L.B S New W μ μ' G G' w w'):L.has w':=by
 refine⟨Nat.le_trans h.le hp.grow,L.still w w' (fun b hb=>hp.frame b (Nat.lt_of_lt_of_le hb h.le) fun i hi im Q3=> ?_) h.inv⟩;obtain⟨hs,⟨o,ho,hl⟩,XX,QG,UH⟩:=hp.wr i hi;rw[Q3]at QG;cases QG;have:=(Q5.low i o im hs ho hl Q3).2.1 UH;omega
structure Inv (B:Nat) (Qq:List Rec) (T:Tm) (H:Qj) (n:Nat) (S:Nat->Prop) (μ0:Mu) (w0:World) (D:Nat->Bool) (μ:Mu) (A:Array Value) (w:World):Prop where
 pg:PG B S (pj Qq D) (WD Qq n D) μ0 μ (Qo H) (gD Qq H D) w0 w
 size:A.size=T.len
 tmps:∀t,VR μ (tD Qq T D t) (A.getD t undef)
theorem cover(h:Setup P B ops Qq bs T H n T' H' n'){D:Nat->Bool}(hD:VG ops D){j:Nat}{x:Rec}(hj:Qq[j]? =some x)(hr:∀o,ops[j]? =some o->∀e∈o.after,Region.binds .any e=true->D e.on=true)
 {q:Nat} (hq:q∈x.R) (hqn:q<x.n):q<n\/pj Qq D q:=by
 rcases Ly q n with QX|hge
 ·exact .inl QX
 ·have Jt:=KY Qq T H n T' H' n' h.chain h.Jn;have hx:=Jt.2.1 x (Ll hj);have hxs:=(h.Jn x (Ll hj)).le;obtain⟨i,r,hi,h1,h2⟩:=Jt.2.2.2 q hge (by omega);rcases Nat.lt_trichotomy i j with QX|heq|hgt
  ·have hb:bears r x=true:=List.any_eq_true.2 ⟨q,hq,by simp only[YB];exact⟨Lx h1,Lx h2⟩⟩;have:=h.ind i j r x QX hi hj (by simp[tied,hb]);rw[Lv]at this;exact .inr ⟨i,r,lj h hD hr i this,hi,h1,h2⟩
  ·subst heq;rw[hj]at hi;cases hi;omega
  ·have:=Jt.2.2.1 j i x r hgt hj hi;omega
theorem ae(h:Setup P B ops Qq bs T H n T' H' n'){D:Nat->Bool}(hD:VG ops D){j:Nat}{x:Rec}(hj:Qq[j]? =some x)(hn:D j=false)(hr:∀o,ops[j]? =some o->∀e∈o.after,Region.binds .any e=true->D e.on=true)
 {μ:Mu} {A:Array Value} (hA:∀t,VR μ (tD Qq T D t) (A.getD t undef)):Region.wanted x.o (yielded ops A)=Region.wanted x.o (Xw ops x.T):=by
 unfold Region.wanted;cases hg:x.o.guard with
 |none=>rfl
 |some gw=>
  obtain⟨g,want⟩:=gw;have:yielded ops A g=Xw ops x.T g:=by
   rw[fA,cR];cases hd:(ops[g]?).bind (·.dst)with
   |none=>rfl
   |some t=>
    have ht:t∈x.o.looksAt ops:=by simp[Oper.looksAt,hg,hd]
    have:=hA t;rw[pG h hD hj hn hr ht]at this;exact xm this
  simp only[this]
theorem wi(h:Setup P B ops Qq bs T H n T' H' n'){D:Nat->Bool}(hD:VG ops D){j:Nat}{x:Rec}(hj:Qq[j]? =some x)(hn:D j=false)(hr:∀o,ops[j]? =some o->∀e∈o.after,Region.binds .any e=true->D e.on=true)
 {μ:Mu} {A:Array Value} (hA:∀t,VR μ (tD Qq T D t) (A.getD t undef)) {fr:Frame} {l:List Nat} {k:List Item}:∀y∈x.o.op.operands,∀v,X8 x.T y=some v->VR μ v ((QU fr A ops l k).eval y):=by
 intro y hy v hv;cases y with
 |tmp t=>
  simp only[X8,YO]at hv;subst hv;have ht:t∈x.o.looksAt ops:=by
   unfold Oper.looksAt;exact Lg _ (List.mem_filterMap.2 ⟨.tmp t,by simpa using hy,rfl⟩)
  rw[<-pG h hD hj hn hr ht];exact hA t
 |const u=>
  simp only[X8]at hv;cases ha:af u with
  |false=>rw[ha]at hv;cases hv
  |true=>rw[ha]at hv;simp only[cond_true,YO]at hv;subst hv;exact Yn ha
 |func f=>
  simp only[X8,YO]at hv;subst hv;exact Yn rfl
 |global g=>cases hv
theorem fN(h:Setup P B ops Qq bs T H n T' H' n'){D:Nat->Bool}(hD:VG ops D){j:Nat}{x:Rec}(hj:Qq[j]? =some x)(hn:D j=false){i:Nat}{r:Rec}(hi:Qq[i]? =some r)(QX:j<i)(ht:tied ops x r=true):D i=false:=by
 have:=h.ind j i x r QX hj hi ht;rw[Lv]at this;cases hd:D i with
 |false=>rfl
 |true=>
  have:=lj h hD (k:=i) (fun o ho=>hD i o hd ho) j this;rw[hn]at this;cases this
def plus(D:Nat->Bool)(j:Nat):Nat->Bool:=fun k=>D k || Le k j
theorem Wp{D:Nat->Bool}{j:Nat}:plus D j j=true:=by simp[plus]
theorem WE{D:Nat->Bool}{j k:Nat}(h:k≠j):plus D j k=D k:=by simp[plus,Rc h]
theorem D8(h:Setup P B ops Qq bs T H n T' H' n'){D:Nat->Bool}(hD:VG ops D){j:Nat}{x:Rec}(hj:Qq[j]? =some x)(hn:D j=false)(t:Nat):tD Qq T (plus D j) t=if x.o.dst=some t then x.v else tD Qq T D t:=by
 by_cases hd:x.o.dst=some t
 ·rw[if_pos hd];refine k8 _ 0 j _ ?_ (by rw[Lv];exact Wp) fun i y hi hy=> ?_
  ·rw[Lu,hj];simp[cT,hd]
  ·rw[Lv,WE (by omega)];obtain⟨r,KL,hrd,_⟩:=fp hy;exact fN h hD hj hn KL hi (da (ops:=ops) hd (.inr hrd)).1
 ·rw[if_neg hd];refine ZH _ _ _ fun i y hy=> ?_
  obtain⟨r,KL,hrd,_⟩:=fp hy;rw[Lv];refine WE fun e=> ?_
  subst e;rw[hj]at KL;cases KL;exact hd hrd
theorem wh(h:Setup P B ops Qq bs T H n T' H' n'){D:Nat->Bool}(hD:VG ops D){j:Nat}{x:Rec}(hj:Qq[j]? =some x)(hn:D j=false){q:Nat}(hq:q∈x.W\/(x.n<=q/\q<x.n')):gD Qq H (plus D j) q=Qo x.H' q:=by
 refine k8 _ 0 j _ ?_ (by rw[Lv];exact Wp) fun i y hi hy=> ?_
 ·rw[Lu,hj];simp[cH,Rn.2 hq]
 ·rw[Lv,WE (by omega)];obtain⟨r,KL,hrd,_⟩:=ft hy;have Jt:=KY Qq T H n T' H' n' h.chain h.Jn;have hsr:=h.Jn r (Ll KL);have hsx:=h.Jn x (Ll hj);have QX:=Jt.2.2.1 j i x r hi hj KL;have hxl:=hsx.le;refine fN h hD hj hn KL hi ?_;rcases hq with hq|hq
  ·rcases hrd with hrd|hrd
   ·have:meets x r=true:=List.any_eq_true.2 ⟨q,hq,by simpa using hsr.sub q hrd⟩;simp[tied,this]
   ·have:=hsx.wlt q hq;omega
  ·rcases hrd with hrd|hrd
   ·have:bears x r=true:=List.any_eq_true.2 ⟨q,hsr.sub q hrd,by simp only[YB];exact⟨Lx hq.1,Lx hq.2⟩⟩;simp[tied,this]
   ·omega
theorem dK{D:Nat->Bool}{j:Nat}{x:Rec}(hj:Qq[j]? =some x){q:Nat}(hq:¬(q∈x.W\/(x.n<=q/\q<x.n'))):gD Qq H (plus D j) q=gD Qq H D q:=by
 refine ZH _ _ _ fun i y hy=> ?_
 obtain⟨r,KL,hrd,_⟩:=ft hy;rw[Lv];refine WE fun e=> ?_
 subst e;rw[hj]at KL;cases KL;exact hq hrd
theorem mU{D:Nat->Bool}{j:Nat}{x:Rec}(hj:Qq[j]? =some x)(i:Nat):(pj Qq D i\/(x.n<=i/\i<x.n'))<->pj Qq (plus D j) i:=by
 constructor
 ·rintro(⟨k,r,hd,hr,h1⟩|h1)
  ·exact⟨k,r,by simp[plus,hd],hr,h1⟩
  ·exact⟨j,x,Wp,hj,h1⟩
 ·rintro⟨k,r,hd,hr,h1⟩;by_cases e:k=j
  ·subst e;rw[hj]at hr;cases hr;exact .inr h1
  ·rw[WE e]at hd;exact .inl ⟨k,r,hd,hr,h1⟩
theorem tB(h:Setup P B ops Qq bs T H n T' H' n'){S:Nat->Prop}{μ0:Mu}{w0:World}(hS:∀i,S i->i<n)(hR:∀r∈Qq,∀i∈r.R,i<n->S i)(W4:Ya μ0 n n')(hB:B.has w0)(hok0:Ok B S μ0 (Qo H) w0){D:Nat->Bool}(hD:VG ops D){j:Nat}(hn:D j=false)
 (hr:∀o,ops[j]? =some o->∀e∈o.after,Region.binds .any e=true->D e.on=true) {μ:Mu} {A:Array Value} {w:World} (hi:Inv B Qq T H n S μ0 w0 D μ A w) {fr:Frame} {cs:List Frame} {l:List Nat} {k:List Item} (hm:fr.mode=.run)
 {x:Rec} (hj:Qq[j]? =some x) {out:OO} (hdo:Ps P B x.o (X8 x.T) x.H x.n out x.H' x.n' x.R x.W) (Vc:Region.wanted x.o (Xw ops x.T)=true):
 ∃XB μ' w',PG B S (pj Qq (plus D j)) (WD Qq n (plus D j)) μ0 μ' (Qo H) (gD Qq H (plus D j)) w0 w'/\Ext μ μ'/\OR2 μ' out XB/\Steps P (lone (QU fr A ops (j::l) k) cs w) (lone (XB.on (QU fr A ops (j::l) k)) cs w'):=by
 have hx:=Ll hj;have hsx:=h.Jn x hx;have Zz:=h.own j x hj;have Jt:=KY Qq T H n T' H' n' h.chain h.Jn;have hxn:=Jt.2.1 x hx;have hnewn:∀i,x.n<=i->i<x.n'->¬pj Qq D i:=by
  rintro i h1 h2 ⟨q,r,a,b,c,d⟩;rcases Nat.lt_trichotomy q j with hq|hq|hq
  ·have:=Jt.2.2.1 q j r x hq b hj;omega
  ·subst hq;rw[hn]at a;cases a
  ·have:=Jt.2.2.1 j q x r hq hj b;omega
 have hsub:∀i,(i∈x.R/\i<x.n)->S i\/pj Qq D i:=fun i hi=>(cover h hD hj hr hi.1 hi.2).imp (hR x hx i hi.1) id
 have hgc:∀i,(i∈x.R/\i<x.n)->Qo x.H i=gD Qq H D i:=fun i hi=>(CQ h hD hj hn hr hi.1 hi.2).symm
 have Xr:∀i,x.n<=i->i<x.n'->μ i=none:=fun i h1 h2=>by rw[hi.pg.ext i (hnewn i h1 h2)];exact W4 i (by omega) (by omega)
 have VS:Region.wanted x.o (yielded ops A)=true:=by rw[ae h hD hj hn hr hi.tmps];exact Vc
 obtain⟨XB,w',μ',Xu,Zu,ZS⟩:=hdo (fun i=>i∈x.R/\i<x.n) μ w (QU fr A ops (j::l) k) cs k ops j l ((hi.pg.ok.sub hsub).congr hgc) (hB.pg hok0 hi.pg) (fun i hi=>hi.2) (fun i h1 h2=>Xr i h1 h2)
  (wi h hD hj hn hr hi.tmps) (fun i h1 h2=>⟨h1,h2⟩) hm rfl Zz VS
 refine⟨XB,μ',w',(hi.pg.then (Xu.pg hsx.top) hsub hgc (fun i hi=>⟨fun hs=>by have:=hS i hs;omega,hnewn i hi.1 hi.2⟩) (fun i hi=>Xr i hi.1 hi.2) (G2:=gD Qq H (plus D j)) (fun i hi=>wh h hD hj hn (hi.imp And.left id))
  (fun i h1 h2=>dK hj ?_)).congr (mU hj) (fun i=> ?_) (fun _=>rfl),Xu.mu fun i h1 h2=>Xr i h1 h2,Zu,ZS⟩
 ·rintro(hw|hw)
  ·have:=hsx.wlt i hw;rcases Ly i x.n with ha|ha
   ·exact h1 ⟨hw,ha⟩
   ·exact h2 ⟨ha,this⟩
  ·exact h2 hw
 ·constructor
  ·rintro(⟨a,q,r,b,c,d⟩|⟨⟨a,b⟩,c⟩)
   ·exact⟨a,q,r,by simp[plus,b],c,d⟩
   ·exact⟨(cover h hD hj hr (hsx.sub i a) b).elim id fun e=>absurd e c,j,x,Wp,hj,a⟩
  ·rintro⟨a,q,r,b,c,d⟩;by_cases e:q=j
   ·subst e;rw[hj]at c;cases c;refine .inr ⟨⟨d,by omega⟩, ?_⟩;rintro⟨q',r',_,b',c',_⟩;have:=(Jt.2.1 r' (Ll b')).1;omega
   ·rw[WE e]at b;exact .inl ⟨a,q,r,b,c,d⟩
theorem tA(h:Setup P B ops Qq bs T H n T' H' n'){S:Nat->Prop}{μ0:Mu}{w0:World}(hS:∀i,S i->i<n)(hR:∀r∈Qq,∀i∈r.R,i<n->S i)(W4:Ya μ0 n n')(hB:B.has w0)(hok0:Ok B S μ0 (Qo H) w0){D:Nat->Bool}(hD:VG ops D){j:Nat}(QX:j<ops.size)(hn:D j=false)
 (hk:∀x,Qq[j]? =some x->Jm P B ops x) (hr:∀o,ops[j]? =some o->∀e∈o.after,Region.binds .any e=true->D e.on=true) {μ:Mu} {A:Array Value} {w:World} (hi:Inv B Qq T H n S μ0 w0 D μ A w) {fr:Frame} {cs:List Frame} {l:List Nat} {k:List Item} (hm:fr.mode=.run):
 ∃μ' A' w',Inv B Qq T H n S μ0 w0 (plus D j) μ' A' w'/\Steps P (lone (QU fr A ops (j::l) k) cs w) (lone (QU fr A' ops l k) cs w'):=by
 obtain⟨x,hj⟩:∃x,Qq[j]? =some x:=⟨Qq[j]'(by rw[h.len];exact QX),by simp⟩
 have hx:=Ll hj;have hsx:=h.Jn x hx;have Zz:=h.own j x hj;obtain⟨Vc,hdo,hno⟩:=hk x hj;have Jt:=KY Qq T H n T' H' n' h.chain h.Jn;have hxn:=Jt.2.1 x hx;have hdst:∀d,x.o.dst=some d->d<A.size:=fun d hd=>by rw[hi.size];exact(hsx.dst d hd).1
 have put:∀(μ':Mu) v',Ext μ μ'->VR μ' x.v v'->(match x.o.dst with|some d=>A.setIfInBounds d v'|none=>A).size=T.len/\∀t,VR μ' (tD Qq T (plus D j) t) ((match x.o.dst with|some d=>A.setIfInBounds d v'|none=>A).getD t undef):=by
  intro μ' v' he hv;refine⟨?_,fun t=> ?_⟩
  ·cases x.o.dst <;> simp[hi.size]
  ·rw[D8 h hD hj hn t];have ho:=(hi.tmps t).mono he;cases hd:x.o.dst with
   |none=>simpa using ho
   |some d=>
    have hdl:=hdst d hd;simp only[YO];by_cases e:d=t
    ·subst e;simpa[hdl]using hv
    ·simp[e]at ho ⊢;exact ho
 cases hrx:x.run with
 |false=>
  obtain⟨hv,hH,hnn,hW⟩:=hno hrx;have VS:Region.wanted x.o (yielded ops A)=false:=by rw[ae h hD hj hn hr hi.tmps,<-Vc];exact hrx
  obtain⟨p1,p2⟩:=put μ undef (Ext.refl _) (by rw[hv];exact VR.undef);refine⟨μ,_,w,⟨hi.pg.congr (fun i=> ?_) (fun i=> ?_) (fun i=> ?_),p1,p2⟩,Steps.one ((al hm Zz VS).trans (by rw[PV Zz]))⟩
  ·rw[<-mU hj i];exact⟨.inl,fun h=>h.elim id fun h=>absurd h.1 (by omega)⟩
  ·refine and_congr Iff.rfl ⟨?_, ?_⟩
   ·rintro⟨q,r,a,b,c⟩;exact⟨q,r,by simp[plus,a],b,c⟩
   ·rintro⟨q,r,a,b,c⟩;by_cases e:q=j
    ·subst e;rw[hj]at b;cases b;rw[hW]at c;simp at c
    ·rw[WE e]at a;exact⟨q,r,a,b,c⟩
  ·exact(dK hj (by rw[hW];rintro(h|h) <;> first|(simp at h;done)|omega)).symm
 |true=>
  obtain⟨XB,μ',w',hpg,hext,Zu,ZS⟩:=tB h hS hR W4 hB hok0 hD hn hr hi (fr:=fr) (cs:=cs) (l:=l) (k:=k) hm hj (hdo hrx) (by rw[<-Vc];exact hrx);cases Zu with
  |ret hv=>
   rename_i v';obtain⟨p1,p2⟩:=put μ' v' hext hv;exact⟨μ',_,w',⟨hpg,p1,p2⟩,ZS.trans (by simp only[OO.on];rw[PV Zz];exact Steps.refl _ _)⟩
end
end Go.CE
