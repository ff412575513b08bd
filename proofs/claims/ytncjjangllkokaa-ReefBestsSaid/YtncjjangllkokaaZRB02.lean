/- CE: what single operations do. Seventh part: maps; all of them together. -/
import Derived.Test.YtncjjangllkokaaZRB01
set_option linter.all false
open Nat renaming blt->Ll,ble_eq_true_of_le->LC,beq->Lf,ble->LI,min->LW,le_refl->Lw,lt_or_ge->LF,strongRecOn->LB,zero_add->Lv
open Option renaming map_some->LG
open Array renaming getElem?_toList->Lm,eq_empty_of_size_eq_zero->LK
open List renaming getElem?_cons_zero->Lq,mem_cons_of_mem->Lj,mem_of_getElem? ->Lk,getD_eq_getElem?_getD->Li,getElem?_append_left->Lz,range->Le,getElem?_append_right->Lp,getElem?_map->Lx,getElem?_eq_getElem->L7,mem_append_left->Lg
namespace Go.CE
open Go Go.RowKit

def jd:Nat:=9223372036854775808
def wq(n:Int):Int:=match n with
 | .ofNat m=>bif Ll m jd then .ofNat m else IntKind.i64.wrap (.ofNat m)
 | .negSucc m=>bif Ll m jd then .negSucc m else IntKind.i64.wrap (.negSucc m)
theorem blt_eq(m k:Nat):Ll m k=decide (m<k):=by
 by_cases h:m<k
 ·rw[decide_eq_true h];exact LC h
 ·rw[decide_eq_false h];cases e:Ll m k with
  |false=>rfl
  |true=>exact absurd (YL e) h
theorem O9(m k:Nat):Lf m k=decide (m=k):=by
 by_cases h:m=k
 ·subst h;simp
 ·rw[TE h,decide_eq_false h]
theorem Qah(m:Nat):wq (.ofNat m)=IntKind.i64.wrap (.ofNat m):=by
 show(bif Ll m jd then Int.ofNat m else IntKind.i64.wrap (.ofNat m))=_;rw[blt_eq];by_cases h:m<jd
 ·rw[decide_eq_true h,cond_true,IntKind.wrap_i64,Int.ofNat_eq_natCast];unfold jd at h;omega
 ·rw[decide_eq_false h,cond_false]
theorem Qai(m:Nat):wq (.negSucc m)=IntKind.i64.wrap (.negSucc m):=by
 show(bif Ll m jd then Int.negSucc m else IntKind.i64.wrap (.negSucc m))=_;rw[blt_eq];by_cases h:m<jd
 ·rw[decide_eq_true h,cond_true,IntKind.wrap_i64,Int.negSucc_eq];unfold jd at h;omega
 ·rw[decide_eq_false h,cond_false]
theorem OC(n:Int):wq n=IntKind.i64.wrap n:=by
 cases n with
 |ofNat m=>exact Qah m
 |negSucc m=>exact Qai m
def XB:Int->Int->Bool
 | .ofNat a,.ofNat b=>Ll a b
 | .ofNat _,.negSucc _=>false
 | .negSucc _,.ofNat _=>true
 | .negSucc a,.negSucc b=>Ll b a
theorem sS(a b:Int):XB a b=decide (a<b):=by
 rw[Bool.eq_iff_iff];cases a <;> cases b <;> simp only[XB,blt_eq,Int.ofNat_eq_natCast,Int.negSucc_eq,decide_eq_true_eq,Bool.false_eq_true,false_iff,true_iff] <;> omega
def TO:Int->Int->Bool
 | .ofNat a,.ofNat b=>Lf a b
 | .negSucc a,.negSucc b=>Lf a b
 |_,_=>false
theorem ig(a b:Int):TO a b=(a==b):=by
 rw[Bool.eq_iff_iff];cases a <;> cases b <;> simp only[TO,O9,beq_iff_eq,decide_eq_true_eq,Int.ofNat_eq_natCast,Int.negSucc_eq,Bool.false_eq_true,false_iff] <;> omega
def AD:BinOp->Value->Value->Option Value
 | .add,.int .i64 a,.int .i64 b=>some (.int .i64 (wq (a+b)))
 | .sub,.int .i64 a,.int .i64 b=>some (.int .i64 (wq (a-b)))
 | .mul,.int .i64 a,.int .i64 b=>some (.int .i64 (wq (a*b)))
 | .eql,.int .i64 a,.int .i64 b=>some (.bool (TO a b))
 | .neq,.int .i64 a,.int .i64 b=>some (.bool (!(TO a b)))
 | .lss,.int .i64 a,.int .i64 b=>some (.bool (XB a b))
 | .gtr,.int .i64 a,.int .i64 b=>some (.bool (XB b a))
 | .leq,.int .i64 a,.int .i64 b=>some (.bool (!(XB b a)))
 | .geq,.int .i64 a,.int .i64 b=>some (.bool (!(XB a b)))
 |_,_,_=>none
theorem Mh{P:Program}{op:BinOp}{t:TypeId}{x y:Operand}{a b v:Value}(h:AD op a b=some v)(w:World):(do eqGuard op t x y a b;binOp op t a b:Sem Value).run P w=.ok v w/\(∀μ,VR μ v v)/\(∀μ a',VR μ a a'->a'=a)/\(∀μ b',VR μ b b'->b'=b):=by
 have hle:∀a b:Int,(!(XB b a))=decide (a<=b):=fun a b=>by
  rw[sS,Bool.eq_iff_iff];simp only[Bool.not_eq_true',decide_eq_false_iff_not,decide_eq_true_eq];omega
 unfold AD at h;split at h <;> first
  |(cases h;done)
  |(simp only[YO]at h
    subst h;refine⟨?_,fun μ=>by first|exact .int _ _|exact .bool _,fun μ a' ha=>by cases ha;rfl,fun μ b' hb=>by cases hb;rfl⟩
    first
     |(simp[eqGuard,binOp,Op.intArith,OC];done)
     |(simp[eqGuard,binOp,Op.intCmp,ig];done)
     |(simp[eqGuard,binOp,Op.intCmp,ig,bne];done)
     |(simp[eqGuard,binOp,Op.intCmp,sS];done)
     |(simp[eqGuard,binOp,Op.intCmp,hle];done))

theorem Zf{α β:Type}{P:Program}(s:Sem α)(f:α->Sem β):Xl P (s >>=f)=match Xl P s with|some a=>Xl P (f a)|none=>none:=by
 show Xl P (s.bind f)=_;induction s with
 |pure a=>rfl
 |program k ih=>exact ih P
 |_=>rfl
theorem Wv{α:Type}{P:Program}(a:α):Xl P (pure a:Sem α)=some a:=rfl

def ER(μ:Mu)(es K0:List MapEntry):Prop:=es.length=K0.length/\∀(i:Nat) e e',es[i]? =some e->K0[i]? =some e'->e'.key=e.key/\e'.born=e.born/\af e.key=true/\VR μ e.val e'.val
theorem ER.tail{μ:Mu}{e e':MapEntry}{es K0:List MapEntry}(h:ER μ (e::es) (e'::K0)):ER μ es K0:=⟨by simpa using h.1,fun i a b x y=>h.2 (i+1) a b (by simpa using x) (by simpa using y)⟩
def FR(μ:Mu):Option (Nat×Value)->Option (Nat×Value)->Prop
 |none,none=>True
 |some (i,v),some (i',v')=>i'=i/\VR μ v v'
 |_,_=>False
theorem oH{μ:Mu}{kind:TypeDesc}{k:Value}:∀(es K0:List MapEntry) (i:Nat),ER μ es K0->(∀r,Instr.findNow kind k es i=some r->∃r',Instr.findNow kind k K0 i=some r'/\FR μ r r')/\(Instr.findNow kind k es i=none->Instr.findNow kind k K0 i=none)
 |[],[],i,_=>by
  refine⟨fun r h=> ?_,fun h=>by simp[Instr.findNow]at h⟩;simp only[Instr.findNow,YO]at h;subst h;exact⟨none,rfl,trivial⟩
 |e::es,e'::K0,i,h=>by
  obtain⟨h1,_,_,h4⟩:=h.2 0 e e' rfl rfl;simp only[Instr.findNow,h1];cases Instr.sameNow kind k e.key with
  |none=>exact⟨fun r h=>(by cases h),fun _=>rfl⟩
  |some b=>
   cases b with
   |true=>exact⟨fun r h=>by simp only[YO]at h;subst h;exact⟨_,rfl,rfl,h4⟩,fun h=>by cases h⟩
   |false=>exact oH es K0 (i+1) h.tail
 |[],_::_,_,h=>by have:=h.1;simp at this
 |_::_,[],_,h=>by have:=h.1;simp at this
theorem cy{P:Program}{μ:Mu}{kt:TypeId}{k:Value}:∀(es K0:List MapEntry) (i:Nat) r,ER μ es K0->Xl P (Instr.findAsking kt k es i)=some r->∃r',Xl P (Instr.findAsking kt k K0 i)=some r'/\FR μ r r'
 |[],[],i,r,_,h=>by
  simp only[Instr.findAsking,Wv,YO]at h;subst h;exact⟨none,rfl,trivial⟩
 |e::es,e'::K0,i,r,h,hr=>by
  obtain⟨h1,_,_,h4⟩:=h.2 0 e e' rfl rfl;simp only[Instr.findAsking,h1,Zf]at hr ⊢;cases hq:Xl P (Op.equal kt k e.key)with
  |none=>rw[hq]at hr;cases hr
  |some b=>
   rw[hq]at hr;cases b with
   |true=>
    simp only[if_true,Wv,YO]at hr ⊢;subst hr;exact⟨_,rfl,rfl,h4⟩
   |false=>
    simp only[Bool.false_eq_true,if_false]at hr ⊢;exact cy es K0 (i+1) r h.tail hr
 |[],_::_,_,_,h,_=>by have:=h.1;simp at this
 |_::_,[],_,_,h,_=>by have:=h.1;simp at this
theorem cZ{P:Program}{μ:Mu}{kt:TypeId}{k:Value}{es K0:List MapEntry}{r:Option (Nat×Value)}(h:ER μ es K0)(hr:Xl P (Instr.findKey kt k es)=some r):∃r',Xl P (Instr.findKey kt k K0)=some r'/\FR μ r r':=by
 simp only[Instr.findKey,Zf]at hr ⊢;cases hu:Xl P (underlying kt)with
 |none=>rw[hu]at hr;cases hr
 |some d=>
  rw[hu]at hr;dsimp only at hr ⊢;obtain⟨h1,h2⟩:=oH (kind:=d) (k:=k) es K0 0 h;cases hf:Instr.findNow d k es 0 with
  |some r0=>
   rw[hf]at hr;obtain⟨r',hr',hv⟩:=h1 r0 hf;simp only[Wv,YO]at hr;subst hr;rw[hr'];exact⟨r',rfl,hv⟩
  |none=>
   rw[hf]at hr;rw[h2 hf];exact cy es K0 0 r h hr
theorem ER.of{μ:Mu}{es K0:Array MapEntry}(h1:es.size=K0.size)(h2:∀(i:Nat) e e',es[i]? =some e->K0[i]? =some e'->e'.key=e.key/\e'.born=e.born/\af e.key=true/\VR μ e.val e'.val):ER μ es.toList K0.toList:=
 ⟨by simpa using h1,fun i a b x y=>h2 i a b (by simpa using x) (by simpa using y)⟩
theorem cY{P:Program}{w:World}{b:Nat}{es:Array MapEntry}{PT:Nat}(h:w.heap[b]? =some (.map es PT)):(getObj b).run P w=.ok (.map es PT) w:=by simp[getObj,Sem.run,h]
def TC(P:Program)(t:TypeId)(H:Qm)(ok:Bool)(x k:Value):Option (Value×List Nat):=
 match JN P t with
 |some (.map kt e)=>
  match(match x with
   | .map none=>some (#[],[])
   | .map (some r)=>match Qq H r with
     |some (.map es _)=>some (es,[r])
     |_=>none
   |_=>none:Option (Array MapEntry×List Nat))with
  |some (es,R)=>bif af k then
   match Xl P (Instr.checkKey es.isEmpty 10000 kt k),Xl P (Instr.findKey kt k es.toList),zeroOf P e with
   |some (),some (some (_,v)),_=>some (bif ok then .tuple #[v,.bool true]else v,R)
   |some (),some none,some z=>bif af z then some (bif ok then .tuple #[z,.bool false]else z,R)else none
   |_,_,_=>none
    else none
  |none=>none
 |_=>none
theorem AP{μ:Mu}{a a' b b':Value}(h:VR μ a a')(k:VR μ b b'):VR μ (.tuple #[a,b]) (.tuple #[a',b']):=by
 refine .tuple rfl fun i v v' hv ZW=> ?_
 rcases i with _|_|i
 ·simp at hv ZW;subst hv ZW;exact h
 ·simp at hv ZW;subst hv ZW;exact k
 ·simp at hv
theorem yB{P:Program}{B:Nat}{S:Nat->Prop}{μ:Mu}{H:Qm}{w:World}{t:TypeId}{ok:Bool}{x k x' k' v:Value}{R:List Nat}(h:TC P t H ok x k=some (v,R))(Q7:Ok B S μ (Qq H) w)(hx:VR μ x x')(hk:VR μ k k')(hR:∀i∈R,S i):
 ∃v',(Instr.lookup t x' k' ok).run P w=.ok v' w/\VR μ v v':=by
 unfold TC at h;simp only[Zw]at h;split at h
 ·rename_i kt e hu;split at h
  ·rename_i es R0 hes;cases hak:af k with
   |false=>rw[hak]at h;cases h
   |true=>
    rw[hak]at h;simp only[cond_true]at h;have hkk:k'=k:=SM hak hk;subst hkk;have hRR:R0=R:=by
     split at h
     ·simp only[YO,YR]at h;exact h.2
     ·rename_i z _ _ _;cases hz:af z with
      |false=>rw[hz]at h;cases h
      |true=>rw[hz]at h;simp only[cond_true,YO,YR]at h;exact h.2
     ·cases h
    subst hRR
    -- the entries in the world
    have hent:∃K0,ER μ es.toList K0.toList/\(x'=.map none/\K0=#[]\/∃b PT,x'=.map (some b)/\w.heap[b]? =some (.map K0 PT)):=by
     split at hes
     ·simp only[YO,YR]at hes;obtain⟨rfl,_⟩:=hes;cases hx;exact⟨#[],⟨rfl,fun i a b x _=>by simp at x⟩,.inl ⟨rfl,rfl⟩⟩
     ·rename_i r;split at hes
      ·rename_i es0 PT hg;simp only[YO,YR]at hes;obtain⟨rfl,rfl⟩:=hes;obtain⟨im,QD,_,K0,hw,h1,h2⟩:=Q7.rel r _ (hR r (by simp)) hg trivial;cases hx with
       |map hm=>
        rw[QD]at hm;cases hm;exact⟨K0,.of h1 h2,.inr ⟨im.Zq,PT,rfl,hw⟩⟩
      ·cases hes
     ·cases hes
    obtain⟨K0,hER,Ub⟩:=hent;have hemp:K0.isEmpty=es.isEmpty:=by
     have h1:=hER.1;simp only[Array.length_toList]at h1;rw[Bool.eq_iff_iff];simp only[Array.isEmpty_iff_size_eq_zero];omega
    have run2:∀r v0,Xl P (Instr.checkKey es.isEmpty 10000 kt k')=some ()->Xl P (Instr.findKey kt k' es.toList)=some r->
     (∀r',FR μ r r'->∃v',(do let(v,ok') <-(match r' with|some (_,v)=>pure (v,true)|none=>do pure (<-zeroValue e,false):Sem (Value×Bool));pure (if ok then .tuple #[v,.bool ok']else v):Sem Value).run P w=.ok v' w/\VR μ v0 v')->
     ∃v',(Instr.lookup t x' k' ok).run P w=.ok v' w/\VR μ v0 v':=by
     intro r v0 hc hf hfin;obtain⟨r',hr',X8⟩:=cZ hER hf;obtain⟨v',ZW,Vp⟩:=hfin r' X8;refine⟨v', ?_,Vp⟩;have hc':=Um hc w;have hr'':=Um hr' w;rw[<-hemp]at hc';simp only[Sem.run_bind]at ZW;rcases Ub with ⟨rfl,rfl⟩|⟨b,PT,rfl,hw⟩
     ·simp only[Instr.lookup,Sem.run_bind,run_underlying hu,Result.andThen_ok,Sem.run_pure,hc',hr''];cases r' <;> first|simpa using ZW|(simp only[Sem.run_bind]at ZW;cases hzr:Sem.run P (zeroValue e) w <;> rw[hzr]at ZW <;> first|(cases ZW;done)|simpa[hzr]using ZW)
     ·simp only[Instr.lookup,Sem.run_bind,run_underlying hu,Result.andThen_ok,Sem.run_pure,cY hw,hc',hr''];cases r' <;> first|simpa using ZW|(simp only[Sem.run_bind]at ZW;cases hzr:Sem.run P (zeroValue e) w <;> rw[hzr]at ZW <;> first|(cases ZW;done)|simpa[hzr]using ZW)
    split at h
    ·rename_i i0 v0 hc hf;simp only[YO,YR]at h;obtain⟨rfl,_⟩:=h;refine run2 _ _ hc hf fun r' X8=> ?_
     cases r' with
     |none=>exact X8.elim
     |some p=>
      obtain⟨i',v'⟩:=p;cases ok with
      |true=>exact⟨_,rfl,AP X8.2 (.bool true)⟩
      |false=>exact⟨_,rfl,X8.2⟩
    ·rename_i z hc hf hz;cases haz:af z with
     |false=>rw[haz]at h;cases h
     |true=>
      rw[haz]at h;simp only[cond_true,YO,YR]at h;obtain⟨rfl,_⟩:=h;refine run2 _ _ hc hf fun r' X8=> ?_
      cases r' with
      |some p=>exact X8.elim
      |none=>
       cases ok with
       |true=>exact⟨.tuple #[z,.bool false],by simp[c8 hz],AP (Pc haz) (.bool false)⟩
       |false=>exact⟨z,by simp[c8 hz],Pc haz⟩
    ·cases h
  ·cases h
 ·cases h
def K3(P:Program)(t:TypeId)(H:Qm)(x k v:Value):Option (Qm×Nat):=
 match JN P t,x with
 |some (.map kt _),.map (some r)=>match Qq H r with
  |some (.map es PT)=>bif af k then
   match Xl P (Instr.checkKey false 10000 kt k),Xl P (Instr.findKey kt k es.toList)with
   |some (),some (some (i,_))=>match es[i]? with
    |some e=>bif Instr.sameBits 10000 e.key k then some (VE H r (.map (es.setIfInBounds i {e with key:=k,val:=v}) PT),r)else none
    |none=>none
   |some (),some none=>some (VE H r (.map (es.push {key:=k,val:=v,born:=PT}) (PT+1)),r)
   |_,_=>none
    else none
  |_=>none
 |_,_=>none
theorem kS{P:Program}{w:World}{b:Nat}{es:Array MapEntry}{PT:Nat}(o:Obj)(h:w.heap[b]? =some (.map es PT)):(setObj b o).run P w=.ok () {w with heap:=w.heap.setIfInBounds b o}:=by simp[setObj,Sem.run,h]
theorem oT{P:Program}{B n:Nat}{S:Nat->Prop}{μ:Mu}{H H':Qm}{w:World}{t:TypeId}{x k v x' k' v':Value}{b:Nat}(h:K3 P t H x k v=some (H',b))(Q7:Ok B S μ (Qq H) w)(hS:∀i,S i->i<n)(hx:VR μ x x')(hk:VR μ k k')(hv:VR μ v v')(hb:S b):
 ∃w',(Instr.mapUpdate t x' k' v').run P w=.ok () w'/\Post B S n n [b] μ μ H H' w w':=by
 unfold K3 at h;simp only[Zw]at h;split at h
 ·rename_i kt e0 r hu;split at h
  ·rename_i es PT hg;cases hak:af k with
   |false=>rw[hak]at h;cases h
   |true=>
    rw[hak]at h;simp only[cond_true]at h;have hkk:k'=k:=SM hak hk;subst hkk;have hbr:r=b:=by
     split at h
     ·split at h
      ·rename_i e _;cases hs:Instr.sameBits 10000 e.key k' with
       |false=>rw[hs]at h;cases h
       |true=>rw[hs]at h;simp only[cond_true,YO,YR]at h;exact h.2
      ·cases h
     ·simp only[YO,YR]at h;exact h.2
     ·cases h
    subst hbr;obtain⟨im,QD,hr,K0,hw,h1,h2⟩:=Q7.rel r _ hb hg trivial;have hER:=ER.of h1 h2;have Xi:im.Zq<w.heap.size:=(Array.getElem?_eq_some_iff.1 hw).1;cases hx with
    |map hm=>
     rw[QD]at hm;cases hm;have fin:∀(es2 es2':Array MapEntry) (clk2:Nat),ER μ es2.toList es2'.toList->
      Post B S n n [r] μ μ H (VE H r (.map es2 clk2)) w {w with heap:=w.heap.setIfInBounds im.Zq (.map es2' clk2)}:=by
      intro es2 es2' clk2 hE;refine Post.write Q7 hS r _ _ im hb hg trivial QD hr (by simp) (fun q hq=> ?_) ⟨hr,es2', ?_,by simpa using hE.1,fun i a c ha hc=>hE.2 i a c (by simpa using ha) (by simpa using hc)⟩ ⟨rfl,rfl,rfl⟩
      ·simp[Array.getElem?_setIfInBounds_ne (Ne.symm hq)]
      ·simp[Xi]
     split at h
     ·rename_i i v0 hc hf;split at h
      ·rename_i e he;cases hs:Instr.sameBits 10000 e.key k' with
       |false=>rw[hs]at h;cases h
       |true=>
        rw[hs]at h;simp only[cond_true,YO,YR]at h;obtain⟨rfl,_⟩:=h;obtain⟨r',hr',X8⟩:=cZ hER hf;cases r' with
        |none=>exact X8.elim
        |some p=>
         obtain⟨i',v0'⟩:=p;obtain⟨rfl,_⟩:=X8;have hi:i'<K0.size:=h1 ▸ (Array.getElem?_eq_some_iff.1 he).1;obtain⟨e',he'⟩:∃e',K0[i']? =some e':=⟨K0[i'],by simp[hi]⟩
         obtain⟨q1,q2,q3,q4⟩:=h2 i' e e' he he';have hmod:K0.modify i' (fun e=>{e with key:=k',val:=v'})=K0.setIfInBounds i' {e' with key:=k',val:=v'}:=by
          apply Array.ext (by simp);intro j hj hj';simp only[Array.size_modify]at hj;have hee:K0[i']=e':=by simpa[hi]using he'
          rw[Array.getElem_modify];by_cases e1:i'=j
          ·subst e1;simp[hee]
          ·simp[e1,hj]
         refine⟨_, ?_,fin _ (K0.setIfInBounds i' {e' with key:=k',val:=v'}) PT ?_⟩
         ·simp only[Instr.mapUpdate,Sem.run_bind,run_underlying hu,Result.andThen_ok,cY hw,Um hc,Um hr',he',LG,Option.getD_some,q1,Instr.keyThatStays,hs,if_true,Sem.run_pure];rw[kS _ hw,hmod]
         ·refine⟨by simpa using h1,fun j a c ha hc=> ?_⟩;simp only[Lm]at ha hc;rw[Array.getElem?_setIfInBounds]at ha hc;by_cases e1:i'=j
          ·subst e1;rw[if_pos rfl]at ha hc;rw[if_pos (by rw[h1];exact hi)]at ha;rw[if_pos hi]at hc;cases ha;cases hc;exact⟨rfl,q2,hak,hv⟩
          ·rw[if_neg e1]at ha hc;exact h2 j a c ha hc
      ·cases h
     ·rename_i hc hf;simp only[YO,YR]at h;obtain⟨rfl,_⟩:=h;obtain⟨r',hr',X8⟩:=cZ hER hf;cases r' with
      |some p=>exact X8.elim
      |none=>
       refine⟨_, ?_,fin _ (K0.push {key:=k',val:=v',born:=PT}) (PT+1) ?_⟩
       ·simp only[Instr.mapUpdate,Sem.run_bind,run_underlying hu,Result.andThen_ok,cY hw,Um hc,Um hr'];rw[kS _ hw]
       ·refine⟨by simpa using h1,fun j a c ha hc=> ?_⟩;simp only[Lm]at ha hc;rw[Array.getElem?_push]at ha hc;rw[<-h1]at hc;split at ha
        ·rename_i e1;rw[if_pos e1]at hc;cases ha;cases hc;exact⟨rfl,rfl,hak,hv⟩
        ·rename_i e1;rw[if_neg e1]at hc;exact h2 j a c ha hc
     ·cases h
  ·cases h
 ·cases h
def yC(P:Program)(t:TypeId)(H:Qm)(n:Nat)(s x:Value):Option CR:=
 match JN P t with
 |some (.slice e)=>match W5 P e with
  |some z=>match s,x with
   | .slice (some ⟨b,off,none⟩) k _,.slice (some ⟨b2,off2,none⟩) m _=>match Qq H b,Qq H b2 with
     |some (.cells cs te (0,0)),some (.cells cs2 _ _)=>
      bif LI (off+LW m k*z) cs.size && LI (off2+LW m k*z) cs2.size && ones (cs2.extract off2 (off2+LW m k*z))then
       some ⟨.val (.int .i64 (LW m k)),VE H b (.cells (splice cs off (cs2.extract off2 (off2+LW m k*z))) te (0,0)),n,[b,b2],[b]⟩else none
     |_,_=>none
   |_,_=>none
  |none=>none
 |_=>none
theorem Eo{P:Program}{B n:Nat}{S:Nat->Prop}{μ:Mu}{H:Qm}{w:World}{t t2 ty:TypeId}{s x s' x':Value}{r:CR}(h:yC P t H n s x=some r)(Q7:Ok B S μ (Qq H) w)(hS:∀i,S i->i<n)
 (hs:VR μ s s') (hx:VR μ x x') (hR:∀i∈r.R,S i):
 ∃v w',(Builtin.copy_ #[t,t2] ty #[s',x']).run P w=.ok v w'/\Post B S n r.n r.W μ μ H r.H w w'/\r.nx=.val v/\VR μ v v/\r.n=n:=by
 unfold yC at h;simp only[Zw]at h;split at h
 ·rename_i e hu;split at h
  ·rename_i z hz;split at h
   ·rename_i b off k cap b2 off2 m cap2;split at h
    ·rename_i cs te cs2 te2 fz2 hg hg2;cases hcond:(LI (off+LW m k*z) cs.size && LI (off2+LW m k*z) cs2.size && ones (cs2.extract off2 (off2+LW m k*z)))with
     |false=>rw[hcond]at h;cases h
     |true=>
      rw[hcond]at h;simp only[cond_true,YO]at h;subst h;simp only[YB]at hcond;obtain⟨⟨h1,h2⟩,h3⟩:=hcond;have h1:=YL h1;have h2:=YL h2;have hb:S b:=hR b (by simp);have hb2:S b2:=hR b2 (by simp);obtain⟨im,QD,ZQ⟩:=Q7.rel b _ hb hg trivial;obtain⟨im2,Wz,hor2⟩:=Q7.rel b2 _ hb2 hg2 trivial;cases hs with
      |slice har q1 q2 q3=>
       obtain⟨Z4,QO,_,rfl⟩:=har;simp only at QO;rw[QD]at QO;cases QO;cases hx with
       |slice har2 p1 p2 p3=>
        obtain⟨im2',him2',_,rfl⟩:=har2;simp only at him2';rw[Wz]at him2';cases him2';obtain⟨xs,hload,hxs⟩:=hor2.cells (P:=P) (off:=off2) (s:=LW m k*z) h2;have hxsz:xs.size=LW m k*z:=by rw[<-hxs.1];simp;omega
        have hexsz:(cs2.extract off2 (off2+LW m k*z)).size=LW m k*z:=by simp;omega
        rcases ZQ with ⟨_,hr,ho,arr,ha,hle,hcap,hc⟩|⟨hz0,_⟩
        ·have XZ:=run_storeCells_at (P:=P) im.Zq off te xs.toList 0 arr w ha (by simp[hxsz];omega) (hxs.ones h3);simp only[Nat.add_zero]at XZ;refine⟨.int .i64 (LW m k),w.setRow im.Zq (CE.splice arr off xs), ?_,Post.write Q7 hS b _ (.cells (CE.splice cs off (cs2.extract off2 (off2+LW m k*z))) te (0,0)) im hb hg trivial QD hr (w':=w.setRow im.Zq (CE.splice arr off xs)) ?_ ?_ ?_ ⟨rfl,rfl,rfl⟩,rfl,.int _ _,rfl⟩
         ·simp[Builtin.copy_,Builtin.lenOf,Builtin.firstCells,Sem.run_bind,Sem.run_pure,Result.andThen_ok,run_underlying hu,Zj hz,hload,ho,XZ,CE.splice,goInt]
         ·simp[World.setRow]
         ·intro y hy;exact setRow_other w im.Zq y _ hy
         ·refine .inl ⟨rfl,hr,ho,CE.splice arr off xs,setRow_heap w im.Zq arr _ te _ ha, ?_, ?_, ?_⟩
          ·rw[WM (by rw[hexsz];omega),WM (by rw[hxsz];omega)];exact hle
          ·rw[WM (by rw[hxsz];omega)];exact hcap
          ·exact VRs.splice (by rw[hexsz];omega) hle hc hxs
        ·exact absurd rfl hz0
    ·cases h
   ·cases h
  ·cases h
 ·cases h
end Go.CE

namespace Go.CE
open Go Go.RowKit

def E0(ev:Operand->Option Value):Option Operand->Option (Option Value)
 |none=>some none
 |some x=>match ev x with
  |some v=>some (some v)
  |none=>none
def mkPure(o:Option Value)(H:Qm)(n:Nat):Option CR:=match o with|some v=>some ⟨.val v,H,n,[],[]⟩|none=>none
def kj(P:Program)(t:TypeId)(len:Nat)(l:List (Nat×Value)):Bool:=Lf len 0 && l.isEmpty && (match JN P t with
 |some (.slice e)=>(W5 P e).isSome
 |_=>false)
theorem Post.ofBelow{B n:Nat}{S:Nat->Prop}{μ:Mu}{H:Qm}{w w':World}(Q7:Ok B S μ (Qq H) w)(h:Below w.heap.size w w'):Post B S n n [] μ μ H H w w':=by
 refine⟨⟨fun i o hi ho hl=> ?_,fun i o im hi ho hl QD=> ?_,fun i j oi oj a b hi hj=> ?_,fun i o hi ho hr=> ?_,fun i j oi oj a b x hi hj=> ?_⟩,Lw _,fun _ _=>rfl,fun _ _ _=>rfl,h.size,fun b hb _=>h.block b hb,fun _ h=>by simp at h,fun i im o h1 h2=>absurd h1 (by omega),fun i im o h1=>h1.elim (fun h1=>absurd h1.1 (by omega)) (fun h=>by simp at h),h.os,h.tape,h.output⟩
 ·have hi:=hi.elim id fun h=>absurd h.1 (by omega)
  obtain⟨im,QD,hr⟩:=Q7.rel i o hi ho hl;exact⟨im,QD,hr.keep (Ext.refl _) (h.block _ (Q7.low i o im hi ho hl QD).1)⟩
 ·have hi:=hi.elim id fun h=>absurd h.1 (by omega)
  have:=Q7.low i o im hi ho hl QD;exact⟨Nat.lt_of_lt_of_le this.1 h.size,this.2⟩
 ·exact Q7.inj i j oi oj a b (hi.elim id fun h=>absurd h.1 (by omega)) (hj.elim id fun h=>absurd h.1 (by omega))
 ·have hi:=hi.elim id fun h=>absurd h.1 (by omega)
  obtain⟨im,QD,hf⟩:=Q7.Jv i o hi ho hr;exact⟨im,QD,fun b x hx=>by rw[h.block b (Jx Q7 hi ho hr QD hx)];exact hf b x hx⟩
 ·exact Q7.sep i j oi oj a b x (hi.elim id fun h=>absurd h.1 (by omega)) (hj.elim id fun h=>absurd h.1 (by omega))
def tB(P:Program)(F:FuncId->Bool)(ev:Operand->Option Value)(o:Oper)(H:Qm)(n:Nat):Option CR:=
 match o.op with
 | .move x| .assign x=>mkPure (ev x) H n
 | .pick c a b=>match ev c with
   |some (.bool t)=>mkPure (ev (bif t then a else b)) H n
   |_=>none
 | .alloc t=>match zeroOf P t with
   |some z=>bif af z then some ⟨.val (zO n),(n,.cells z.cells t (0,0))::H,n+1,[],[]⟩else none
   |none=>none
 | .box t x=>match ev x with
   |some v=>some ⟨.val (zO n),(n,.cells v.cells t (0,0))::H,n+1,[],[]⟩
   |none=>none
 | .build t ps=>match partsOf ev ps.toList with
   |some l=>mkPure (tM P t l) H n
   |none=>none
 | .buildSlice t len ps=>match partsOf ev ps.toList with
   |some l=>match Rq P t len l with
    |some (e,cs,s)=>some ⟨.val (.slice (some ⟨n,0,none⟩) len s),(n,.cells cs e (0,0))::H,n+1,[],[]⟩
    |none=>bif kj P t len l then some ⟨.val aP,H,n,[],[]⟩else none
   |none=>none
 | .load t a=>match ev a with
   |some p=>match SJ P t H p with
    |some (v,b)=>some ⟨.val v,H,n,[b],[]⟩
    |none=>none
   |none=>none
 | .store t a x=>match ev a,ev x with
   |some p,some v=>match RC P t H v p with
    |some (H',b)=>some ⟨.val undef,H',n,[b],[b]⟩
    |none=>none
   |_,_=>none
 | .fieldAddr s x f=>match ev x with
   |some p=>mkPure (Wo P s f p) H n
   |none=>none
 | .field t x f=>match ev x with
   |some p=>mkPure (ir P t f p) H n
   |none=>none
 | .indexAddr t x i=>match ev x,ev i with
   |some v,some k=>mkPure (Y7 P t v k) H n
   |_,_=>none
 | .index t x i=>match ev x,ev i with
   |some (.agg cs),some k=>mkPure (tK P t (.agg cs) k) H n
   |_,_=>mkPure (U9 P ev o) H n
 | .extract x i=>match ev x with
   |some v=>mkPure (SK i v) H n
   |none=>none
 | .makeSlice t l c=>match ev l,ev c with
   |some x,some y=>match TK P t x y with
    |some (e,cs,l,s)=>some ⟨.val (.slice (some ⟨n,0,none⟩) l s),(n,.cells cs e (0,0))::H,n+1,[],[]⟩
    |none=>none
   |_,_=>none
 | .slice t x lo hi none=>match ev x,E0 ev lo,E0 ev hi with
   |some (.slice (some a) m s),some l,some h=>mkPure (bc P t (.slice (some a) m s) l h) H n
   |some (.pointer p),some l,some h=>mkPure (bc P t (.pointer p) l h) H n
   |_,_,_=>mkPure (U9 P ev o) H n
 | .slice t x lo (some hi) (some mx)=>bif cm P t (ev x) (E0 ev lo) (ev hi) (ev mx)then some ⟨.val aP,H,n,[],[]⟩else mkPure (U9 P ev o) H n
 | .makeFunc (.func f) first captured=>match PL ev first.toList,PL ev captured.toList with
   |some xs,some ys=>some ⟨.val (.func (.func f) xs.toArray ys.toArray),H,n,[],[]⟩
   |_,_=>none
 | .makeMap _ none=>some ⟨.val (.map (some n)),(n,.map #[] 0)::H,n+1,[],[]⟩
 | .lookup t x k ok=>match ev x,ev k with
   |some m,some kv=>match TC P t H ok m kv with
    |some (v,R)=>some ⟨.val v,H,n,R,[]⟩
    |none=>none
   |_,_=>none
 | .mapUpdate t m k x=>match ev m,ev k,ev x with
   |some mv,some kv,some v=>match K3 P t H mv kv v with
    |some (H',b)=>some ⟨.val undef,H',n,[b],[b]⟩
    |none=>none
   |_,_,_=>none
 | .binOp op _ x y _=>match ev x,ev y with
   |some a,some b=>match AD op a b with
    |some v=>some ⟨.val v,H,n,[],[]⟩
    |none=>mkPure (U9 P ev o) H n
   |_,_=>none
 | .nilCheck x=>match ev x with
   |some (.pointer (some a))=>some ⟨.val (.pointer (some a)),H,n,[],[]⟩
   |some (.func (.func f) xs ys)=>some ⟨.val (.func (.func f) xs ys),H,n,[],[]⟩
   |some (.func (.yield f) xs ys)=>some ⟨.val (.func (.yield f) xs ys),H,n,[],[]⟩
   |_=>none
 | .call c=>match c.callee with
   | .builtin .append=>match c.args.toList,c.argTypes.toList with
     |[s,x],[t,t']=>match ev s,ev x with
      |some sv,some xv=>yE P t t' H n sv xv
      |_,_=>none
     |_,_=>none
   | .builtin .len=>match c.args.toList,c.argTypes.toList with
     |[x],[t]=>match ev x,JN P t with
      |some (.slice (some _) m _),some (.slice _)=>some ⟨.val (.int .i64 m),H,n,[],[]⟩
      |some (.chan (some 0)),some (.slice _)=>some ⟨.val (.int .i64 0),H,n,[],[]⟩
      |_,_=>mkPure (U9 P ev o) H n
     |_,_=>none
   | .builtin .copy=>match c.args.toList,c.argTypes.toList with
     |[s,x],[t,_]=>match ev s,ev x with
      |some sv,some xv=>yC P t H n sv xv
      |_,_=>none
     |_,_=>none
   | .builtin _=>mkPure (U9 P ev o) H n
   | .value f=>match ev f,PL ev c.args.toList with
     |some fv,some args=>match Rp F H fv args.toArray with
      |some (nx,R)=>some ⟨nx,H,n,R,[]⟩
      |none=>none
     |_,_=>none
   |_=>none
 |_=>mkPure (U9 P ev o) H n

theorem Wt{P:Program}{B:Nat}{o:Oper}{ev:Operand->Option Value}{H:Qm}{n:Nat}{v:Value}(h:∀(μ:Mu) (ρ:Operand->Value) (w:World),(∀x∈o.op.operands,∀v,ev x=some v->VR μ v (ρ x))->∃v',(execOp ρ o).run P w=.ok (.value v') w/\VR μ v v'):
 Snd P B o ev H n ⟨.val v,H,n,[],[]⟩:=fun _ μ ρ w Q7 _ _ _ XK _=>
 let⟨_,h1,h2⟩:=h μ ρ w XK
 ⟨_,w,μ,h1,Post.refl Q7,.val h2⟩
theorem Z2{o:Option Value}{H:Qm}{n:Nat}{r:CR}(h:mkPure o H n=some r):∃v,o=some v/\r=⟨.val v,H,n,[],[]⟩:=by
 cases o with
 |none=>cases h
 |some v=>simp only[mkPure,YO]at h;exact⟨v,rfl,h.symm⟩
theorem ga{μ:Mu}{ev:Operand->Option Value}{ρ:Operand->Value}{x:Option Operand}{v:Option Value}(h:E0 ev x=some v)(hv:∀y,x=some y->∀v,ev y=some v->VR μ v (ρ y)):OVR μ v (x.map ρ):=by
 cases x with
 |none=>simp only[E0,YO]at h;subst h;trivial
 |some y=>
  simp only[E0]at h;cases he:ev y with
  |none=>rw[he]at h;cases h
  |some u=>
   rw[he]at h;simp only[YO]at h;subst h;exact hv y rfl u he
theorem ZO{α:Type}{q:Bool}{x r:α}(h:(bif q then some x else none)=some r):x=r:=by
 cases q with
 |false=>cases h
 |true=>simpa using h
theorem Y8{α:Type}{q:Bool}{x:Option α}{r:α}(h:(bif q then x else none)=some r):x=some r:=by
 cases q with
 |false=>cases h
 |true=>simpa using h
theorem O6{P:Program}{t t':TypeId}{H:Qm}{n:Nat}{s x:Value}{r:CR}(h:rr P t t' H n s x=some r):r.n=n+1:=by
 unfold rr at h;split at h
 ·split at h
  ·split at h
   ·rw[<-ZO h]
   ·cases h
  ·cases h
 ·cases h
theorem Ep{P:Program}{t:TypeId}{H:Qm}{n:Nat}{s x:Value}{r:CR}(h:Ue P t H n s x=some r):r.n=n+1:=by
 unfold Ue at h;split at h
 ·split at h
  ·split at h
   ·split at h
    ·rename_i cs k ko ns m b _ _;rw[<-ZO h]
    ·cases h
   ·cases h
  ·cases h
 ·cases h
theorem O2{P:Program}{F:FuncId->Bool}(hF:∀g,F g=true->Q0 P g=true){B:Nat}{o:Oper}{ev:Operand->Option Value}{H:Qm}{n:Nat}{r:CR}(h:tB P F ev o H n=some r):Snd P B o ev H n r:=by
 have XQ:mkPure (U9 P ev o) H n=some r->Snd P B o ev H n r:=by
  intro h;obtain⟨v,h1,rfl⟩:=Z2 h;exact El h1
 unfold tB at h;split at h
 ·-- move
  rename_i x ho;obtain⟨v,h1,rfl⟩:=Z2 h;exact Wt fun μ ρ w XK=>⟨ρ x,by simp[execOp,ho],XK x (by simp[ho,Op.operands]) v h1⟩
 ·rename_i x ho;obtain⟨v,h1,rfl⟩:=Z2 h;exact Wt fun μ ρ w XK=>⟨ρ x,by simp[execOp,ho],XK x (by simp[ho,Op.operands]) v h1⟩
 ·-- pick
  rename_i c a b ho;split at h
  ·rename_i t hc;obtain⟨v,h1,rfl⟩:=Z2 h;refine Wt fun μ ρ w XK=> ?_
   have hct:=XK c (by simp[ho,Op.operands]) _ hc;have hct:ρ c=.bool t:=by generalize ρ c=u at hct;cases hct;rfl
   cases t with
   |true=>exact⟨ρ a,by simp[execOp,ho,hct,asBool],XK a (by simp[ho,Op.operands]) v h1⟩
   |false=>exact⟨ρ b,by simp[execOp,ho,hct,asBool],XK b (by simp[ho,Op.operands]) v h1⟩
  ·cases h
 ·-- alloc
  rename_i t ho;split at h
  ·rename_i z hz;cases ha:af z with
   |false=>rw[ha]at h;cases h
   |true=>
    rw[ha]at h;simp only[cond_true,YO]at h;subst h;exact AF ho hz ha
  ·cases h
 ·-- box
  rename_i t x ho;split at h
  ·rename_i v hv;simp only[YO]at h;subst h;exact Mg ho hv
  ·cases h
 ·-- build
  rename_i t ps ho;split at h
  ·rename_i l hl;obtain⟨v,h1,rfl⟩:=Z2 h;refine Wt fun μ ρ w XK=> ?_
   obtain⟨q1,q2⟩:=Tr (μ:=μ) (ρ:=ρ) ps.toList l hl (fun p hp v hv=>XK p.2 (by simp only[ho,Op.operands,List.mem_toArray];exact List.mem_map.2 ⟨p,hp,rfl⟩) v hv);obtain⟨v',hr,Vp⟩:=AB (ps':=ps.map fun(i,x)=>(i,ρ x)) h1 (by simpa using q1) (by simpa using q2) w;exact⟨v',by simp[execOp,ho,hr],Vp⟩
  ·cases h
 ·-- buildSlice
  rename_i t len ps ho;split at h
  ·rename_i l hl;split at h
   ·rename_i e cs s hb;simp only[YO]at h;subst h;intro S μ ρ w Q7 hB hS hf XK hR;obtain⟨q1,q2⟩:=Tr (μ:=μ) (ρ:=ρ) ps.toList l hl (fun p hp v hv=>XK p.2 (by simp only[ho,Op.operands,List.mem_toArray];exact List.mem_map.2 ⟨p,hp,rfl⟩) v hv);obtain⟨v',w',μ',hr,hp,Vp⟩:=jN (ps':=ps.map fun(i,x)=>(i,ρ x)) hb Q7 hB hS (hf n (Lw _) (by simp)) (by simpa using q1) (by simpa using q2);exact⟨_,w',μ',by simp[execOp,ho,hr],hp,.val Vp⟩
   ·cases he:kj P t len l with
    |false=>rw[he]at h;cases h
    |true=>
     rw[he]at h;simp only[cond_true,YO]at h;subst h;intro S μ ρ w Q7 hB hS hf XK hR;obtain⟨q1,_⟩:=Tr (μ:=μ) (ρ:=ρ) ps.toList l hl (fun p hp v hv=>XK p.2 (by simp only[ho,Op.operands,List.mem_toArray];exact List.mem_map.2 ⟨p,hp,rfl⟩) v hv);unfold kj at he;simp only[YB,List.isEmpty_iff]at he;obtain⟨⟨e1,rfl⟩,e3⟩:=he;have e1:=YE e1;subst e1;have eps:ps=#[]:=by
      have:ps.toList=[]:=List.eq_nil_of_length_eq_zero (by simpa using q1.symm);exact Array.ext' (by simpa using this)
     subst eps;split at e3
     ·rename_i e hu;rw[Zw]at hu;cases hz:W5 P e with
      |none=>rw[hz]at e3;cases e3
      |some z=>
       have hr:(Instr.buildSlice t 0 ((#[]:Array (Nat×Operand)).map fun(i,x)=>(i,ρ x))).run P w=.ok (.slice (some ⟨w.heap.size,0,none⟩) 0 0) (w.alloc (.cells #[] e)):=by
        simp[Instr.buildSlice,run_underlying hu,Zj hz,Instr.fill,newRow,Sem.run_bind,Sem.run_pure];congr 2;exact LK (by simp)
       exact⟨.value (.slice (some ⟨w.heap.size,0,none⟩) 0 0),w.alloc (.cells #[] e),μ,by simp[execOp,ho];simp at hr;simp[hr],Post.ofBelow Q7 ((Below.refl _ _).alloc (Lw _) _),.val .noCap⟩
     ·cases e3
  ·cases h
 ·-- load
  rename_i t a ho;split at h
  ·rename_i p hp;split at h
   ·rename_i v b hb;simp only[YO]at h;subst h;intro S μ ρ w Q7 hB hS hf XK hR;obtain⟨v',hr,Vp⟩:=rn hb Q7 (XK a (by simp[ho,Op.operands]) p hp) (hR b (by simp));exact⟨_,w,μ,by simp[execOp,ho,hr],Post.refl Q7,.val Vp⟩
   ·cases h
  ·cases h
 ·-- store
  rename_i t a x ho;split at h
  ·rename_i p v hp hv;split at h
   ·rename_i H' b hb;simp only[YO]at h;subst h;intro S μ ρ w Q7 hB hS hf XK hR;obtain⟨w',hr,XE⟩:=A4 hb Q7 hS (XK a (by simp[ho,Op.operands]) p hp) (XK x (by simp[ho,Op.operands]) v hv) (hR b (by simp));exact⟨_,w',μ,by simp[execOp,ho,hr],XE,.skip⟩
   ·cases h
  ·cases h
 ·-- fieldAddr
  rename_i s x f ho;split at h
  ·rename_i p hp;obtain⟨v,h1,rfl⟩:=Z2 h;refine Wt fun μ ρ w XK=> ?_
   obtain⟨v',hr,Vp⟩:=oW h1 (XK x (by simp[ho,Op.operands]) p hp) w;exact⟨v',by simp[execOp,ho,hr],Vp⟩
  ·cases h
 ·-- field
  rename_i t x f ho;split at h
  ·rename_i p hp;obtain⟨v,h1,rfl⟩:=Z2 h;refine Wt fun μ ρ w XK=> ?_
   obtain⟨v',hr,Vp⟩:=A9 h1 (XK x (by simp[ho,Op.operands]) p hp) w;exact⟨v',by simp[execOp,ho,hr],Vp⟩
  ·cases h
 ·-- indexAddr
  rename_i t x i ho;split at h
  ·rename_i u k hu hk;obtain⟨v,h1,rfl⟩:=Z2 h;refine Wt fun μ ρ w XK=> ?_
   obtain⟨v',hr,Vp⟩:=oV h1 (XK x (by simp[ho,Op.operands]) u hu) (XK i (by simp[ho,Op.operands]) k hk) w;exact⟨v',by simp[execOp,ho,hr],Vp⟩
  ·cases h
 ·-- index
  rename_i t x i ho;split at h
  ·rename_i cs k hu hk;obtain⟨v,h1,rfl⟩:=Z2 h;refine Wt fun μ ρ w XK=> ?_
   obtain⟨v',hr,Vp⟩:=A8 h1 (XK x (by simp[ho,Op.operands]) _ hu) (XK i (by simp[ho,Op.operands]) k hk) w;exact⟨v',by simp[execOp,ho,hr],Vp⟩
  ·exact XQ h
 ·-- extract
  rename_i x i ho;split at h
  ·rename_i u hu;obtain⟨v,h1,rfl⟩:=Z2 h;refine Wt fun μ ρ w XK=> ?_
   obtain⟨v',hr,Vp⟩:=tL (P:=P) h1 (XK x (by simp[ho,Op.operands]) u hu) w;exact⟨v',by simp[execOp,ho,hr],Vp⟩
  ·cases h
 ·-- makeSlice
  rename_i t l c ho;split at h
  ·rename_i x y hx hy;split at h
   ·rename_i e cs l0 s hm;simp only[YO]at h;subst h;intro S μ ρ w Q7 hB hS hf XK hR;obtain⟨v',w',μ',hr,hp,Vp⟩:=Em hm Q7 hB hS (hf n (Lw _) (by simp)) (XK l (by simp[ho,Op.operands]) x hx) (XK c (by simp[ho,Op.operands]) y hy);exact⟨_,w',μ',by simp[execOp,ho,hr],hp,.val Vp⟩
   ·cases h
  ·cases h
 ·-- slice
  rename_i t x lo hi ho;have hlo:∀y,lo=some y->y∈o.op.operands:=fun y e=>by simp[ho,Op.operands,e]
  have hhi:∀y,hi=some y->y∈o.op.operands:=fun y e=>by simp[ho,Op.operands,e]
  split at h
  ·rename_i a m s l hh hu hl hhh;obtain⟨v,h1,rfl⟩:=Z2 h;refine Wt fun μ ρ w XK=> ?_
   obtain⟨v',hr,Vp⟩:=oR h1 (XK x (by simp[ho,Op.operands]) _ hu) (ga hl fun y e=>XK y (hlo y e)) (ga hhh fun y e=>XK y (hhi y e)) w;exact⟨v',by simp[execOp,ho,hr],Vp⟩
  ·rename_i p l hh hu hl hhh;obtain⟨v,h1,rfl⟩:=Z2 h;refine Wt fun μ ρ w XK=> ?_
   obtain⟨v',hr,Vp⟩:=oR h1 (XK x (by simp[ho,Op.operands]) _ hu) (ga hl fun y e=>XK y (hlo y e)) (ga hhh fun y e=>XK y (hhi y e)) w;exact⟨v',by simp[execOp,ho,hr],Vp⟩
  ·exact XQ h
 ·-- slice with a bound
  rename_i t x lo hi mx ho;have hlo:∀y,lo=some y->y∈o.op.operands:=fun y e=>by simp[ho,Op.operands,e]
  cases hc:cm P t (ev x) (E0 ev lo) (ev hi) (ev mx)with
  |false=>rw[hc]at h;exact XQ h
  |true=>
   rw[hc]at h;simp only[cond_true,YO]at h;subst h;obtain⟨xv,l,hv,mv,e1,e2,e3,e4,Ub⟩:=jl (μ:=fun _=>none) hc;clear Ub;refine Wt fun μ ρ w XK=> ?_
   obtain⟨xv',l',ZW,mv',e1',e2',e3',e4',Ub⟩:=jl (μ:=μ) hc;obtain⟨v',hr,Vp⟩:=Ub (XK x (by simp[ho,Op.operands]) _ e1') (ga e2' fun y e=>XK y (hlo y e)) (XK hi (by simp[ho,Op.operands]) _ e3') (XK mx (by simp[ho,Op.operands]) _ e4') w;exact⟨v',by simp[execOp,ho,hr],Vp⟩
 ·-- makeFunc
  rename_i f first captured ho
  split at h
  ·rename_i xs ys hx hy;simp only[YO]at h;subst h;refine Wt fun μ ρ w XK=> ?_
   have hops:o.op.operands=first++captured:=by rw[ho];rfl
   rw[hops]at XK;have q1:=cr (μ:=μ) (ρ:=ρ) _ _ hx (fun x hx v hv=>XK x (Array.mem_append.2 (.inl (Array.mem_toList_iff.1 hx))) v hv);have q2:=cr (μ:=μ) (ρ:=ρ) _ _ hy (fun x hx v hv=>XK x (Array.mem_append.2 (.inr (Array.mem_toList_iff.1 hx))) v hv);refine⟨.func (.func f) (first.map ρ) (captured.map ρ),by simp[execOp,ho,Instr.makeFunc], ?_⟩;have e1:(first.toList.map ρ).toArray=first.map ρ:=by apply Array.ext';simp
   have e2:(captured.toList.map ρ).toArray=captured.map ρ:=by apply Array.ext';simp
   rw[e1]at q1;rw[e2]at q2;exact .func q1.1 q2.1 q1.2 q2.2
  ·cases h
 ·-- makeMap
  rename_i t ho;simp only[YO]at h;subst h;intro S μ ρ w Q7 hB hS hf XK hR;have hfn:=hf n (Lw _) (by simp);refine⟨_,_,_, ?_,Post.alloc Q7 hB hS hfn (.map #[] 0) (.map #[] 0) 0 ⟨rfl,#[],heap_alloc _ _,rfl,fun i e e' he _=>by simp at he⟩,.val (.map (im:=⟨w.heap.size,0,0,true,TN⟩) Xy)⟩;simp only[execOp,ho,Instr.makeMap,Option.map_none,Sem.run_bind,Result.andThen_ok,run_newObj,Sem.run_pure];rfl
 ·-- lookup
  rename_i t x k ok ho;split at h
  ·rename_i m kv hm hk;split at h
   ·rename_i v R hl;simp only[YO]at h;subst h;intro S μ ρ w Q7 hB hS hf XK hR;obtain⟨v',hr,Vp⟩:=yB hl Q7 (XK x (by simp[ho,Op.operands]) m hm) (XK k (by simp[ho,Op.operands]) kv hk) hR;exact⟨_,w,μ,by simp[execOp,ho,hr],Post.refl Q7,.val Vp⟩
   ·cases h
  ·cases h
 ·-- mapUpdate
  rename_i t m k x ho;split at h
  ·rename_i mv kv v hm hk hv;split at h
   ·rename_i H' b hl;simp only[YO]at h;subst h;intro S μ ρ w Q7 hB hS hf XK hR;obtain⟨w',hr,XE⟩:=oT hl Q7 hS (XK m (by simp[ho,Op.operands]) mv hm) (XK k (by simp[ho,Op.operands]) kv hk) (XK x (by simp[ho,Op.operands]) v hv) (hR b (by simp));exact⟨_,w',μ,by simp[execOp,ho,hr],XE,.skip⟩
   ·cases h
  ·cases h
 ·-- binOp
  rename_i op t x y yt ho;split at h
  ·rename_i a b ha hb;split at h
   ·rename_i v hv;simp only[YO]at h;subst h;refine Wt fun μ ρ w XK=> ?_
    obtain⟨h1,h2,h3,h4⟩:=Mh (P:=P) (t:=t) (x:=x) (y:=y) hv w;have e1:=h3 μ _ (XK x (by simp[ho,Op.operands]) a ha);have e2:=h4 μ _ (XK y (by simp[ho,Op.operands]) b hb);refine⟨v, ?_,h2 μ⟩;simp only[execOp,ho,e1,e2];rw[Sem.run_bind,h1];rfl
   ·exact XQ h
  ·cases h
 ·-- nilCheck
  rename_i x ho;split at h
  ·rename_i a hx;simp only[YO]at h;subst h;refine Wt fun μ ρ w XK=> ?_
   have hv:=XK x (by simp[ho,Op.operands]) _ hx;refine⟨ρ x, ?_,hv⟩;generalize hg:ρ x=u at hv;cases hv <;> simp[execOp,ho,hg]
  ·rename_i f xs ys hx;simp only[YO]at h;subst h;refine Wt fun μ ρ w XK=> ?_
   have hv:=XK x (by simp[ho,Op.operands]) _ hx;refine⟨ρ x, ?_,hv⟩;generalize hg:ρ x=u at hv;cases hv;simp[execOp,ho,hg]
  ·rename_i f xs ys hx;simp only[YO]at h;subst h;refine Wt fun μ ρ w XK=> ?_
   have hv:=XK x (by simp[ho,Op.operands]) _ hx;refine⟨ρ x, ?_,hv⟩;generalize hg:ρ x=u at hv;cases hv;simp[execOp,ho,hg]
  ·cases h
 ·-- call
  rename_i c ho;split at h
  ·-- append
   rename_i hc;split at h
   ·rename_i s x t t' ha ht;split at h
    ·rename_i sv xv hs hx;intro S μ ρ w Q7 hB hS hf XK hR;have ea:c.args=#[s,x]:=by rw[<-ha]
     have et:c.argTypes=#[t,t']:=by rw[<-ht]
     have hvs:=XK s (by simp[ho,Op.operands,Call.operands,hc,ea]) sv hs;have hvx:=XK x (by simp[ho,Op.operands,Call.operands,hc,ea]) xv hx;unfold yE at h;cases htt:Lf t t' with
     |false=>
      rw[htt]at h;simp only[cond_false]at h;have PV:r.n=n+1:=O6 h;obtain⟨v,v',w',μ',hr,hp,hnx,Vp,_⟩:=Er (ty:=o.type) h Q7 hB hS (hf n (Lw _) (by omega)) hvs hvx;refine⟨.value v',w',μ', ?_,hp,by rw[hnx];exact .val Vp⟩;simp[execOp,ho,resolve,hc,invoke,builtin,ea,et,hr]
     |true=>
      rw[htt]at h;simp only[cond_true]at h;have htt:=YE htt;subst htt;cases hca:Ue P t H n (bare sv) xv with
      |some r0=>
       rw[hca]at h;simp only[YO]at h;subst h;have PV:r0.n=n+1:=Ep hca;obtain⟨v,v',w',μ',hr,hp,hnx,Vp,_⟩:=tN (ty:=o.type) hca Q7 hB hS (hf n (Lw _) (by omega)) hvs hvx hR;refine⟨.value v',w',μ', ?_,hp,by rw[hnx];exact .val Vp⟩;simp[execOp,ho,resolve,hc,invoke,builtin,ea,et,hr]
      |none=>
       rw[hca]at h;simp only at h;obtain⟨hr,rfl⟩:=Es (ty:=o.type) (w:=w) h hvs hvx;refine⟨.value (ρ s),w,μ, ?_,Post.refl Q7,.val hvs⟩;simp[execOp,ho,resolve,hc,invoke,builtin,ea,et,hr]
    ·cases h
   ·cases h
  ·-- len
   rename_i hc;split at h
   ·rename_i x t ha ht;split at h
    ·rename_i a m s e hx hu;rw[Zw]at hu;simp only[YO]at h;subst h;refine Wt fun μ ρ w XK=> ?_
     have ea:c.args=#[x]:=by rw[<-ha]
     have et:c.argTypes=#[t]:=by rw[<-ht]
     have hv:=XK x (by simp[ho,Op.operands,Call.operands,hc,ea]) _ hx;refine⟨.int .i64 m, ?_,.int _ _⟩;generalize hg:ρ x=u at hv;cases hv <;> simp[execOp,ho,resolve,hc,invoke,builtin,ea,et,hg,Builtin.len_,run_underlying hu,goInt]
    ·rename_i e hx hu;rw[Zw]at hu;simp only[YO]at h;subst h;refine Wt fun μ ρ w XK=> ?_
     have ea:c.args=#[x]:=by rw[<-ha]
     have et:c.argTypes=#[t]:=by rw[<-ht]
     have hv:=XK x (by simp[ho,Op.operands,Call.operands,hc,ea]) _ hx;refine⟨.int .i64 0, ?_,.int _ _⟩;generalize hg:ρ x=u at hv;cases hv <;> simp[execOp,ho,resolve,hc,invoke,builtin,ea,et,hg,Builtin.len_,run_underlying hu,goInt]
    ·exact XQ h
   ·cases h
  ·-- copy
   rename_i hc;split at h
   ·rename_i s x t t2 ha ht;split at h
    ·rename_i sv xv hs hx;intro S μ ρ w Q7 hB hS hf XK hR;have ea:c.args=#[s,x]:=by rw[<-ha]
     have et:c.argTypes=#[t,t2]:=by rw[<-ht]
     obtain⟨v,w',hr,hp,hnx,Vp,_⟩:=Eo (ty:=o.type) (t2:=t2) h Q7 hS (XK s (by simp[ho,Op.operands,Call.operands,hc,ea]) sv hs) (XK x (by simp[ho,Op.operands,Call.operands,hc,ea]) xv hx) hR;refine⟨.value v,w',μ, ?_,hp,by rw[hnx];exact .val Vp⟩;simp[execOp,ho,resolve,hc,invoke,builtin,ea,et,hr]
    ·cases h
   ·cases h
  ·exact XQ h
  ·-- value
   rename_i f hc;split at h
   ·rename_i fv args hfv hargs;split at h
    ·rename_i nx R hcc;simp only[YO]at h;subst h;intro S μ ρ w Q7 hB hS hf XK hR;have hops:o.op.operands=#[f]++c.args:=by rw[ho];simp only[Op.operands,Call.operands,hc]
     rw[hops]at XK;have q:=cr (μ:=μ) (ρ:=ρ) _ _ hargs (fun x hx v hv=>XK x (Array.mem_append.2 (.inr (Array.mem_toList_iff.1 hx))) v hv);have e1:(c.args.toList.map ρ).toArray=c.args.map ρ:=by apply Array.ext';simp
     rw[e1]at q;obtain⟨nx',hr,hnr⟩:=rp (P:=P) hF hcc Q7 (XK f (Array.mem_append.2 (.inl (by simp))) fv hfv) q hR;refine⟨nx',w,μ, ?_,Post.refl Q7,hnr⟩;simp only[execOp,ho,resolve,hc];simpa using hr
    ·cases h
   ·cases h
  ·cases h
 ·exact XQ h
end Go.CE

namespace Go.CE
open Go Go.RowKit

structure PG (B:Nat) (S New W:Nat->Prop) (μ μ':Mu) (G G':Nat->Option Obj) (w w':World):Prop where
 ok:Ok B (fun i=>S i\/New i) μ' G' w'
 ext:∀i,¬New i->μ' i=μ i
 keep:∀i,¬New i->¬W i->G' i=G i
 grow:w.heap.size<=w'.heap.size
 frame:∀b,b<w.heap.size->(∀i,W i->∀im,μ i=some im->im.Zq≠b)->w'.heap[b]? =w.heap[b]?
 wr:∀i,W i->S i/\(∃o,G i=some o/\live o)/\∃im,μ i=some im/\im.rw=true
 fresh:∀i im o,New i->G' i=some o->live o->μ' i=some im->im.rw=true/\
  (w.heap.size<=im.Zq\/∃k,W k/\(∃Z4,μ k=some Z4/\Z4.Zq=im.Zq)/\∀o,G' k=some o->¬live o)
 rf:∀i im o,(New i\/W i)->G' i=some o->Wm o->μ' i=some im->∀b x,im.fm b=some x->
  w.heap.size<=b\/(∃k Ui ko,S k/\G k=some ko/\Wm ko/\μ k=some Ui/\Ui.fm b=some x)\/∃k,W k/\(∃Z4,μ k=some Z4/\Z4.Zq=b)/\∀o,G' k=some o->¬live o
 os:w'.os=w.os
 tape:w'.tape=w.tape
 output:w'.output=w.output
theorem PG.refl{B:Nat}{S:Nat->Prop}{μ:Mu}{G:Nat->Option Obj}{w:World}(h:Ok B S μ G w):PG B S (fun _=>False) (fun _=>False) μ μ G G w w:=
 ⟨h.sub fun _ hi=>hi.elim id False.elim,fun _ _=>rfl,fun _ _ _=>rfl,Lw _,fun _ _ _=>rfl,fun _ h=>h.elim,fun _ _ _ h=>h.elim,fun _ _ _ h=>h.elim False.elim False.elim,rfl,rfl,rfl⟩
theorem Post.pg{B:Nat}{S:Nat->Prop}{n n':Nat}{W:List Nat}{μ μ':Mu}{H H':Qm}{w w':World}(h:Post B S n n' W μ μ' H H' w w')(hn:∀i,n'<=i->Qq H' i=Qq H i):
 PG B S (fun i=>n<=i/\i<n') (fun i=>i∈W/\i<n) μ μ' (Qq H) (Qq H') w w':=by
 have hle:=h.le;refine⟨h.ok,h.ext,fun i hi hw=> ?_,h.grow,fun b hb hw=>h.frame b hb fun i a c=>hw i ⟨a,c⟩,fun i hi=>h.wr i hi.1 hi.2,fun i im o hi ho hl hm=> ?_,fun i im o hi ho hr hm b x hb=> ?_,h.os,h.tape,h.output⟩
 ·rcases LF i n with Xi|PS
  ·exact h.keep i Xi fun e=>hw ⟨e,Xi⟩
  ·exact hn i (by omega)
 ·obtain⟨hr,hf⟩:=h.fresh i im o hi.1 hi.2 ho hl hm;refine⟨hr,hf.imp id ?_⟩;rintro⟨k,a,b,c,d⟩;exact⟨k,⟨a,b⟩,c,d⟩
 ·rcases h.rf i im o hi ho hr hm b x hb with e|⟨k,Ui,ko,a,c,d⟩|⟨k,a,c,d⟩
  ·exact .inl e
  ·exact .inr (.inl ⟨k,Ui,ko,a,d⟩)
  ·exact .inr (.inr ⟨k,⟨a,c⟩,d⟩)
theorem PG.post{B:Nat}{S New:Nat->Prop}{n n':Nat}{W:List Nat}{μ μ':Mu}{H H':Qm}{w w':World}(h:PG B S New (fun i=>i∈W/\i<n) μ μ' (Qq H) (Qq H') w w')(hN:∀i,New i<->n<=i/\i<n')(hle:n<=n')(hS:∀i,S i->i<n):Post B S n n' W μ μ' H H' w w':=by
 refine⟨h.ok.sub fun i hi=>hi.imp id (hN i).2,hle,fun i hi=>h.ext i fun e=>hi ((hN i).1 e),fun i hi hw=>h.keep i (fun e=>by have:=((hN i).1 e).1;omega) (fun e=>hw e.1),h.grow,
  fun b hb hw=>h.frame b hb fun i hi=>hw i hi.1 hi.2,fun i hi Xi=>h.wr i ⟨hi,Xi⟩,fun i im o h1 h2 ho hl hm=> ?_,fun i im o hi ho hr hm b x hb=> ?_,h.os,h.tape,h.output⟩
 ·obtain⟨hr,hf⟩:=h.fresh i im o ((hN i).2 ⟨h1,h2⟩) ho hl hm;refine⟨hr,hf.imp id ?_⟩;rintro⟨k,⟨a,b⟩,c,d⟩;exact⟨k,a,b,c,d⟩
 ·rcases h.rf i im o (hi.imp (hN i).2 id) ho hr hm b x hb with e|⟨k,Ui,ko,a,c⟩|⟨k,⟨a,c⟩,d⟩
  ·exact .inl e
  ·exact .inr (.inl ⟨k,Ui,ko,a,hS k a,c⟩)
  ·exact .inr (.inr ⟨k,a,c,d⟩)
theorem PG.then{B:Nat}{S S2 PN UB W1 W2:Nat->Prop}{μ μ1 μ2:Mu}{G G1 Gc G2' G2:Nat->Option Obj}{w w1 w2:World}(h1:PG B S PN W1 μ μ1 G G1 w w1)(h2:PG B S2 UB W2 μ1 μ2 Gc G2' w1 w2)
 (hsub:∀i,S2 i->S i\/PN i) (hGc:∀i,S2 i->Gc i=G1 i) (hnew:∀i,UB i->¬S i/\¬PN i) (Vx:∀i,UB i->μ1 i=none)
 (ha:∀i,W2 i\/UB i->G2 i=G2' i) (hb:∀i,¬W2 i->¬UB i->G2 i=G1 i):
 PG B S (fun i=>PN i\/UB i) (fun i=>W1 i\/(W2 i/\¬PN i)) μ μ2 G G2 w w2:=by
 have hW2S:∀i,W2 i->S2 i/\(∃o,G1 i=some o/\live o)/\∃im,μ1 i=some im/\im.rw=true:=by
  intro i hi;obtain⟨a,⟨o,ho,hl⟩,c⟩:=h2.wr i hi;exact⟨a,⟨o,by rw[<-hGc i a];exact ho,hl⟩,c⟩
 have hW2N:∀i,W2 i->¬UB i:=by
  intro i hi hn;rcases hsub i (hW2S i hi).1 with h|h
  ·exact(hnew i hn).1 h
  ·exact(hnew i hn).2 h
 have ext12:Ext μ1 μ2:=by
  intro k im hk;rw[h2.ext k fun hn=>by rw[Vx k hn]at hk;cases hk];exact hk
 have mu2:∀i,¬UB i->μ2 i=μ1 i:=h2.ext
 -- blocks Pd the second piece leaves
 have other:∀i o im,(S i\/PN i)->¬W2 i->G1 i=some o->live o->μ1 i=some im->(∀k,W2 k->∀Z4,μ1 k=some Z4->Z4.Zq≠im.Zq):=by
  intro i o im hi hw ho hl QD k hk Z4 QO;obtain⟨hkS,⟨ok,Q7,hlk⟩,im'',WY,hr⟩:=hW2S k hk;rw[QO]at WY;cases WY;by_cases hra:im.rw=true
  ·exact h1.ok.inj k i ok o Z4 im (hsub k hkS) hi (fun e=>hw (e ▸ hk)) Q7 ho hlk hl QO QD hr hra
  ·have a:=(h1.ok.low i o im hi ho hl QD).2.2 (by simpa using hra);have b:=(h1.ok.low k ok Z4 (hsub k hkS) Q7 hlk QO).2.1 hr;omega
 have dead:∀k,W1 k->(∀o,G1 k=some o->¬live o)->∀o,G2 k=some o->¬live o:=by
  intro k hk hd o ho hl;have hS:=(h1.wr k hk).1;by_cases hw:W2 k
  ·obtain⟨_,⟨o',Ko,hl'⟩,_⟩:=hW2S k hw;exact hd o' Ko hl'
  ·rw[hb k hw (fun e=>(hnew k e).1 hS)]at ho;exact hd o ho hl
 -- what is live behind both, and XO for the second, was live between
 have liveMid:∀i o,¬UB i->G2 i=some o->live o->∃o',G1 i=some o'/\live o':=by
  intro i o hn ho hl;by_cases hw:W2 i
  ·exact(hW2S i hw).2.1
  ·rw[hb i hw hn]at ho;exact⟨o,ho,hl⟩
 refine⟨⟨fun i o hi ho hl=> ?_,fun i o im hi ho hl QD=> ?_,fun i j oi oj a b hi hj Rm ZZ ZY T5 Uj hma hmb hra WG=> ?_,fun i o hi ho hr=> ?_,fun i j oi oj a b x hi hj ZZ ZY J3 Uj hma hmb WG hx=> ?_⟩,fun i hi=> ?_,fun i hn hw=> ?_,Nat.le_trans h1.grow h2.grow,fun b hb0 hw=> ?_,fun i hi=> ?_,fun i im o hi ho hl QD=> ?_,fun i im o hi ho hr QD b x hfb=> ?_,
  h2.os.trans h1.os,h2.tape.trans h1.tape,h2.output.trans h1.output⟩
 ·by_cases ht:W2 i\/UB i
  ·rw[ha i ht]at ho;exact h2.ok.rel i o (ht.imp (fun h=>(hW2S i h).1) id) ho hl
  ·have hw:¬W2 i:=fun h=>ht (.inl h)
   have hn:¬UB i:=fun h=>ht (.inr h)
   rw[hb i hw hn]at ho;have hi':S i\/PN i:=by rcases hi with h|h|h <;> first|exact .inl h|exact .inr h|exact absurd h hn
   obtain⟨im,QD,hr⟩:=h1.ok.rel i o hi' ho hl;exact⟨im,ext12 _ _ QD,hr.keep ext12 (h2.frame _ (h1.ok.low i o im hi' ho hl QD).1 (other i o im hi' hw ho hl QD))⟩
 ·by_cases ht:W2 i\/UB i
  ·rw[ha i ht]at ho;exact h2.ok.low i o im (ht.imp (fun h=>(hW2S i h).1) id) ho hl QD
  ·have hw:¬W2 i:=fun h=>ht (.inl h)
   have hn:¬UB i:=fun h=>ht (.inr h)
   rw[hb i hw hn]at ho;rw[mu2 i hn]at QD;have hi':S i\/PN i:=by rcases hi with h|h|h <;> first|exact .inl h|exact .inr h|exact absurd h hn
   have:=h1.ok.low i o im hi' ho hl QD;exact⟨Nat.lt_of_lt_of_le this.1 h2.grow,this.2⟩
 ·have XO:∀i,(S i\/PN i\/UB i)->¬UB i->S i\/PN i:=by
   intro i hi hn;rcases hi with h|h|h <;> first|exact .inl h|exact .inr h|exact absurd h hn
  have nw:∀i j oi oj a b,UB i->¬UB j->(S j\/PN j\/UB j)->i≠j->G2 i=some oi->G2 j=some oj->live oi->live oj->μ2 i=some a->μ2 j=some b->b.rw=true->a.Zq≠b.Zq:=by
   intro i j oi oj a b hn hj0 hjS Rm ZZ ZY T5 Uj hma hmb WG;rw[ha i (.inr hn)]at ZZ;rw[mu2 j hj0]at hmb;obtain⟨o',Ko,hl'⟩:=liveMid j oj hj0 ZY Uj;have hjj:=XO j hjS hj0;obtain⟨_,hf⟩:=h2.fresh i a oi hn ZZ T5 hma;rcases hf with hf|⟨k,hk,⟨Z4,QO,hbb⟩,hd⟩
   ·have:=(h1.ok.low j o' b hjj Ko hl' hmb).1;omega
   ·obtain⟨hkS,⟨ok,Q7,hlk⟩,im'',WY,hrk⟩:=hW2S k hk;rw[QO]at WY;cases WY;have hkj:k≠j:=by
     rintro rfl;rw[ha k (.inl hk)]at ZY;exact hd oj ZY Uj
    have:=h1.ok.inj k j ok o' Z4 b (hsub k hkS) hjj hkj Q7 Ko hlk hl' QO hmb hrk WG;omega
  by_cases hni:UB i
  ·by_cases hnj:UB j
   ·rw[ha i (.inr hni)]at ZZ;rw[ha j (.inr hnj)]at ZY;exact h2.ok.inj i j oi oj a b (.inr hni) (.inr hnj) Rm ZZ ZY T5 Uj hma hmb hra WG
   ·exact nw i j oi oj a b hni hnj hj Rm ZZ ZY T5 Uj hma hmb WG
  ·by_cases hnj:UB j
   ·exact Ne.symm (nw j i oj oi b a hnj hni hi (Ne.symm Rm) ZY ZZ Uj T5 hmb hma hra)
   ·rw[mu2 i hni]at hma;rw[mu2 j hnj]at hmb;obtain⟨o1,ho1,hl1⟩:=liveMid i oi hni ZZ T5;obtain⟨o2,ho2,hl2⟩:=liveMid j oj hnj ZY Uj;exact h1.ok.inj i j o1 o2 a b (XO i hi hni) (XO j hj hnj) Rm ho1 ho2 hl1 hl2 hma hmb hra WG
 ·by_cases ht:W2 i\/UB i
  ·rw[ha i ht]at ho;exact h2.ok.Jv i o (ht.imp (fun h=>(hW2S i h).1) id) ho hr
  ·have hw:¬W2 i:=fun h=>ht (.inl h)
   have hn:¬UB i:=fun h=>ht (.inr h)
   rw[hb i hw hn]at ho;have hi':S i\/PN i:=by rcases hi with h|h|h <;> first|exact .inl h|exact .inr h|exact absurd h hn
   obtain⟨im,QD,hf⟩:=h1.ok.Jv i o hi' ho hr;refine⟨im,ext12 _ _ QD,fun b x hx=> ?_⟩;have e:=hf b x hx;rw[h2.frame b (by simpa using(Array.getElem?_eq_some_iff.1 e).1) fun k hk Z4 QO hbb=> ?_]
   ·exact e
   ·obtain⟨hkS,⟨ok,Q7,hlk⟩,im'',WY,hrk⟩:=hW2S k hk;rw[QO]at WY;cases WY;exact h1.ok.sep i k o ok im Z4 x hi' (hsub k hkS) ho Q7 hr hlk QD QO hrk (by rw[hbb];exact hx)
 ·have XO:∀i,(S i\/PN i\/UB i)->¬UB i->S i\/PN i:=by
   intro i hi hn;rcases hi with h|h|h <;> first|exact .inl h|exact .inr h|exact absurd h hn
  by_cases htj:W2 j\/UB j
  ·by_cases hti:W2 i\/UB i
   ·rw[ha i hti]at ZZ;rw[ha j htj]at ZY;exact h2.ok.sep i j oi oj a b x (hti.imp (fun h=>(hW2S i h).1) id) (htj.imp (fun h=>(hW2S j h).1) id) ZZ ZY J3 Uj hma hmb WG hx
   ·have hw:¬W2 i:=fun h=>hti (.inl h)
    have hn:¬UB i:=fun h=>hti (.inr h)
    rw[hb i hw hn]at ZZ;rw[mu2 i hn]at hma;have hi':=XO i hi hn;obtain⟨im,QD,hf⟩:=h1.ok.Jv i oi hi' ZZ J3;rw[hma]at QD;cases QD;have Xi:b.Zq<w1.heap.size:=(Array.getElem?_eq_some_iff.1 (hf _ x hx)).1;by_cases hnj:UB j
    ·rw[ha j (.inr hnj)]at ZY;obtain⟨_,X8⟩:=h2.fresh j b oj hnj ZY Uj hmb;rcases X8 with X8|⟨k,hk,⟨Z4,QO,hbb⟩,hd⟩
     ·omega
     ·obtain⟨hkS,⟨ok,Q7,hlk⟩,im'',WY,hrk⟩:=hW2S k hk;rw[QO]at WY;cases WY;exact h1.ok.sep i k oi ok a Z4 x hi' (hsub k hkS) ZZ Q7 J3 hlk hma QO hrk (by rw[hbb];exact hx)
    ·have hwj:W2 j:=htj.resolve_right hnj;obtain⟨hkS,⟨ok,Q7,hlk⟩,im'',WY,hrk⟩:=hW2S j hwj;rw[mu2 j hnj]at hmb;exact h1.ok.sep i j oi ok a b x hi' (hsub j hkS) ZZ Q7 J3 hlk hma hmb WG hx
  ·have hwj:¬W2 j:=fun h=>htj (.inl h)
   have hnj:¬UB j:=fun h=>htj (.inr h)
   rw[hb j hwj hnj]at ZY;rw[mu2 j hnj]at hmb;have hj':=XO j hj hnj;by_cases hti:W2 i\/UB i
   ·rw[ha i hti]at ZZ;rcases h2.rf i a oi hti.symm ZZ J3 hma b.Zq x hx with e|⟨k,Ui,ko,hS,hko,hkr,T6,hkb⟩|⟨k,hk,⟨Z4,QO,hbb⟩,hd⟩
    ·have:=(h1.ok.low j oj b hj' ZY Uj hmb).1;omega
    ·rw[hGc k hS]at hko;exact h1.ok.sep k j ko oj Ui b x (hsub k hS) hj' hko ZY hkr Uj T6 hmb WG hkb
    ·obtain⟨hkS,⟨ok,Q7,hlk⟩,im'',WY,hrk⟩:=hW2S k hk;rw[QO]at WY;cases WY;exact h1.ok.inj k j ok oj Z4 b (hsub k hkS) hj' (fun e=>hwj (e ▸ hk)) Q7 ZY hlk Uj QO hmb hrk WG hbb
   ·have hw:¬W2 i:=fun h=>hti (.inl h)
    have hn:¬UB i:=fun h=>hti (.inr h)
    rw[hb i hw hn]at ZZ;rw[mu2 i hn]at hma;exact h1.ok.sep i j oi oj a b x (XO i hi hn) hj' ZZ ZY J3 Uj hma hmb WG hx
 ·rw[mu2 i (fun h=>hi (.inr h)),h1.ext i (fun h=>hi (.inl h))]
 ·have PV:¬PN i:=fun h=>hn (.inl h)
  rw[hb i (fun h=>hw (.inr ⟨h,PV⟩)) (fun h=>hn (.inr h)),h1.keep i PV (fun h=>hw (.inl h))]
 ·have e1:=h1.frame b hb0 fun i hi=>hw i (.inl hi)
  rw[<-e1];refine h2.frame b (Nat.lt_of_lt_of_le hb0 h1.grow) fun i hi im QD=> ?_
  by_cases hn:PN i
  ·obtain⟨_,⟨o,ho,hl⟩,_⟩:=hW2S i hi;obtain⟨_,hf⟩:=h1.fresh i im o hn ho hl QD;rcases hf with hf|⟨k,hk,⟨Z4,QO,hbb⟩,_⟩
   ·omega
   ·rw[<-hbb];exact hw k (.inl hk) Z4 QO
  ·rw[h1.ext i hn]at QD;exact hw i (.inr ⟨hi,hn⟩) im QD
 ·rcases hi with hi|⟨hi,hn⟩
  ·exact h1.wr i hi
  ·obtain⟨hS2,⟨o,ho,hl⟩,im,QD,hr⟩:=hW2S i hi;have hS:S i:=(hsub i hS2).elim id fun h=>absurd h hn
   refine⟨hS, ?_,im,by rw[<-h1.ext i hn];exact QD,hr⟩;by_cases hw:W1 i
   ·exact(h1.wr i hw).2.1
   ·rw[h1.keep i hn hw]at ho;exact⟨o,ho,hl⟩
 ·by_cases hn:UB i
  ·rw[ha i (.inr hn)]at ho;obtain⟨hr,hf⟩:=h2.fresh i im o hn ho hl QD;refine⟨hr, ?_⟩;rcases hf with hf|⟨k,hk,⟨Z4,QO,hbb⟩,hd⟩
   ·exact .inl (Nat.le_trans h1.grow hf)
   ·have hd2:∀o,G2 k=some o->¬live o:=fun o ho=>by rw[ha k (.inl hk)]at ho;exact hd o ho
    by_cases hk1:PN k
    ·obtain⟨_,⟨o',Ko,hl'⟩,_⟩:=hW2S k hk;obtain⟨_,hf'⟩:=h1.fresh k Z4 o' hk1 Ko hl' QO;rcases hf' with hf'|⟨k',hk',⟨im'',WY,hb''⟩,hd'⟩
     ·exact .inl (by omega)
     ·exact .inr ⟨k',.inl hk',⟨im'',WY,by omega⟩,dead k' hk' hd'⟩
    ·exact .inr ⟨k,.inr ⟨hk,hk1⟩,⟨Z4,by rw[<-h1.ext k hk1];exact QO,hbb⟩,hd2⟩
  ·have PV:PN i:=hi.elim id fun h=>absurd h hn
   rw[mu2 i hn]at QD;obtain⟨o',Ko,hl'⟩:=liveMid i o hn ho hl;obtain⟨hr,hf⟩:=h1.fresh i im o' PV Ko hl' QD;refine⟨hr, ?_⟩;rcases hf with hf|⟨k,hk,QO,hd⟩
   ·exact .inl hf
   ·exact .inr ⟨k,.inl hk,QO,dead k hk hd⟩
 ·have mid:∀k Ui ko,(PN k\/W1 k)->G1 k=some ko->Wm ko->μ1 k=some Ui->Ui.fm b=some x->
   w.heap.size<=b\/(∃k Ui ko,S k/\G k=some ko/\Wm ko/\μ k=some Ui/\Ui.fm b=some x)\/∃k,(W1 k\/(W2 k/\¬PN k))/\(∃Z4,μ k=some Z4/\Z4.Zq=b)/\∀o,G2 k=some o->¬live o:=by
   intro k Ui ko hk hko hkr T6 hkb;rcases h1.rf k Ui ko hk hko hkr T6 b x hkb with h|h|⟨k',a,d,e⟩
   ·exact .inl h
   ·exact .inr (.inl h)
   ·exact .inr (.inr ⟨k',.inl a,d,dead k' a e⟩)
  by_cases hA:UB i\/W2 i
  ·rw[ha i hA.symm]at ho;rcases h2.rf i im o hA ho hr QD b x hfb with h|⟨k,Ui,ko,hS,hko,hkr,T6,hkb⟩|⟨k,hk,⟨Z4,QO,hbb⟩,hd⟩
   ·exact .inl (Nat.le_trans h1.grow h)
   ·rw[hGc k hS]at hko;by_cases hx:PN k\/W1 k
    ·exact mid k Ui ko hx hko hkr T6 hkb
    ·have hk1:¬PN k:=fun e=>hx (.inl e)
     rw[h1.keep k hk1 fun e=>hx (.inr e)]at hko;rw[h1.ext k hk1]at T6;exact .inr (.inl ⟨k,Ui,ko,(hsub k hS).resolve_right hk1,hko,hkr,T6,hkb⟩)
   ·have hd2:∀o,G2 k=some o->¬live o:=fun o ho=>by rw[ha k (.inl hk)]at ho;exact hd o ho
    by_cases hk1:PN k
    ·obtain⟨_,⟨o',Ko,hl'⟩,_⟩:=hW2S k hk;obtain⟨_,hf'⟩:=h1.fresh k Z4 o' hk1 Ko hl' QO;rcases hf' with hf'|⟨k',hk',⟨im'',WY,hb''⟩,hd'⟩
     ·exact .inl (by omega)
     ·exact .inr (.inr ⟨k',.inl hk',⟨im'',WY,by omega⟩,dead k' hk' hd'⟩)
    ·exact .inr (.inr ⟨k,.inr ⟨hk,hk1⟩,⟨Z4,by rw[<-h1.ext k hk1];exact QO,hbb⟩,hd2⟩)
  ·have hn2:¬UB i:=fun e=>hA (.inl e)
   have hw2:¬W2 i:=fun e=>hA (.inr e)
   rw[hb i hw2 hn2]at ho;rw[mu2 i hn2]at QD;refine mid i im o ?_ ho hr QD hfb;rcases hi with (h|h)|h|h
   ·exact .inl h
   ·exact absurd h hn2
   ·exact .inr h
   ·exact absurd h.1 hw2
end Go.CE

namespace Go.CE
open Go Go.RowKit

def up1{α:Type}(b:Bool):Option α->α->α
 |some x,a=>bif b then x else a
 |none,a=>a
def Kc{α:Type}(D:Nat->Bool):List (Option α)->Nat->α->α
 |[],_,a=>a
 |c::l,k,a=>Kc D l (k+1) (up1 (D k) c a)
theorem Wx{α:Type}{D D':Nat->Bool}:∀(l:List (Option α)) (k:Nat) (a:α),(∀i x,l[i]? =some (some x)->D (k+i)=D' (k+i))->Kc D l k a=Kc D' l k a
 |[],_,_,_=>rfl
 |c::l,k,a,h=>by
  simp only[Kc];have e:up1 (D k) c a=up1 (D' k) c a:=by
   cases c with
   |none=>rfl
   |some x=>rw[show D k=D' k by simpa using h 0 x rfl]
  rw[e];exact Wx l (k+1) _ fun i x hx=>by have:=h (i+1) x (by simpa using hx);rwa[show k+(i+1)=k+1+i by omega]at this
theorem U5{α:Type}{D:Nat->Bool}:∀(l:List (Option α)) (k:Nat) (a:α),(∀i x,l[i]? =some (some x)->D (k+i)=false)->Kc D l k a=a
 |[],_,_,_=>rfl
 |c::l,k,a,h=>by
  simp only[Kc];have e:up1 (D k) c a=a:=by
   cases c with
   |none=>rfl
   |some x=>rw[show D k=false by simpa using h 0 x rfl];rfl
  rw[e];exact U5 l (k+1) a fun i x hx=>by have:=h (i+1) x (by simpa using hx);rwa[show k+(i+1)=k+1+i by omega]at this
theorem o7{α:Type}{D:Nat->Bool}{x:α}:∀(l:List (Option α)) (k j:Nat) (a:α),l[j]? =some (some x)->D (k+j)=true->(∀i y,j<i->l[i]? =some (some y)->D (k+i)=false)->Kc D l k a=x
 |[],_,_,_,h,_,_=>by simp at h
 |c::l,k,0,a,h,hd,hn=>by
  simp only[Lq,YO]at h;subst h;simp only[Kc];rw[show D k=true by simpa using hd];exact U5 l (k+1) x fun i y hy=>by have:=hn (i+1) y (by omega) (by simpa using hy);rwa[show k+(i+1)=k+1+i by omega]at this
 |c::l,k,j+1,a,h,hd,hn=>by
  simp only[Kc];exact o7 l (k+1) j _ (by simpa using h) (by rwa[show k+1+j=k+(j+1)by omega]) fun i y hi hy=>by
   have:=hn (i+1) y (by omega) (by simpa using hy);rwa[show k+(i+1)=k+1+i by omega]at this

inductive Tri where
 |lf
 |nd (l:Tri) (v:Value) (r:Tri)
def Tri.get:Tri->Nat->Value
 | .lf,_=>undef
 | .nd _ v _,0=>v
 | .nd l _ r,k+1=>bif Lf (k % 2) 0 then l.get (k / 2)else r.get (k / 2)
def Tri.set:Nat->Tri->Nat->Value->Tri
 |0,t,_,_=>t
 |_+1,.lf,0,x=>.nd .lf x .lf
 |_+1,.nd l _ r,0,x=>.nd l x r
 |f+1,.lf,k+1,x=>bif Lf (k % 2) 0 then .nd (Tri.set f .lf (k / 2) x) undef .lf else .nd .lf undef (Tri.set f .lf (k / 2) x)
 |f+1,.nd l v r,k+1,x=>bif Lf (k % 2) 0 then .nd (Tri.set f l (k / 2) x) v r else .nd l v (Tri.set f r (k / 2) x)
theorem Tri.get_lf(i:Nat):Tri.lf.get i=undef:=by cases i <;> rfl
theorem Tri.get_succ(l:Tri)(v:Value)(r:Tri)(k:Nat):(Tri.nd l v r).get (k+1)=if k % 2=0 then l.get (k / 2)else r.get (k / 2):=by
 show(bif Lf (k % 2) 0 then l.get (k / 2)else r.get (k / 2))=_;by_cases h:k % 2=0
 ·rw[h];rfl
 ·rw[TE h,if_neg h];rfl
theorem Tri.set_lf(f k:Nat)(x:Value):Tri.set (f+1) .lf (k+1) x=if k % 2=0 then Tri.nd (Tri.set f .lf (k / 2) x) undef .lf else Tri.nd .lf undef (Tri.set f .lf (k / 2) x):=by
 show(bif Lf (k % 2) 0 then _ else _)=_;by_cases h:k % 2=0
 ·rw[h];rfl
 ·rw[TE h,if_neg h];rfl
theorem Tri.set_nd(f k:Nat)(l:Tri)(v:Value)(r:Tri)(x:Value):Tri.set (f+1) (.nd l v r) (k+1) x=if k % 2=0 then Tri.nd (Tri.set f l (k / 2) x) v r else Tri.nd l v (Tri.set f r (k / 2) x):=by
 show(bif Lf (k % 2) 0 then _ else _)=_;by_cases h:k % 2=0
 ·rw[h];rfl
 ·rw[TE h,if_neg h];rfl
theorem Tri.lf_get(j:Nat):(Tri.nd .lf undef .lf).get j=Tri.lf.get j:=by
 cases j with
 |zero=>rfl
 |succ j=>rw[Tri.get_succ];simp only[Tri.get_lf,ite_self]
theorem Tri.get_set:∀(f:Nat) (t:Tri) (i:Nat) (x:Value) (j:Nat),i+1<2 ^ f->(t.set f i x).get j=if j=i then x else t.get j
 |0,t,i,x,j,h=>by simp at h
 |f+1,t,0,x,j,_=>by
  cases t with
  |lf=>
   show(Tri.nd .lf x .lf).get j=_;cases j with
   |zero=>rfl
   |succ j=>rw[if_neg (by omega),Tri.get_succ];simp only[Tri.get_lf,ite_self]
  |nd l v r=>
   show(Tri.nd l x r).get j=_;cases j with
   |zero=>rfl
   |succ j=>rw[if_neg (by omega),Tri.get_succ,Tri.get_succ]
 |f+1,t,k+1,x,j,h=>by
  have hk:k / 2+1<2 ^ f:=by rw[Nat.pow_succ]at h;omega
  by_cases he:k % 2=0
  ·have key:∀l v r,(Tri.nd (Tri.set f l (k / 2) x) v r).get j=if j=k+1 then x else(Tri.nd l v r).get j:=by
    intro l v r;cases j with
    |zero=>rfl
    |succ j=>
     rw[Tri.get_succ,Tri.get_succ,Tri.get_set f l (k / 2) x (j / 2) hk];by_cases hj:j % 2=0
     ·rw[if_pos hj,if_pos hj];by_cases e:j=k
      ·subst e;simp
      ·rw[if_neg (by omega),if_neg (by omega)]
     ·rw[if_neg hj,if_neg hj,if_neg (by omega)]
   cases t with
   |lf=>rw[Tri.set_lf,if_pos he,key,Tri.lf_get]
   |nd l v r=>rw[Tri.set_nd,if_pos he,key]
  ·have key:∀l v r,(Tri.nd l v (Tri.set f r (k / 2) x)).get j=if j=k+1 then x else(Tri.nd l v r).get j:=by
    intro l v r;cases j with
    |zero=>rfl
    |succ j=>
     rw[Tri.get_succ,Tri.get_succ,Tri.get_set f r (k / 2) x (j / 2) hk];by_cases hj:j % 2=0
     ·rw[if_pos hj,if_pos hj,if_neg (by omega)]
     ·rw[if_neg hj,if_neg hj];by_cases e:j=k
      ·subst e;simp
      ·rw[if_neg (by omega),if_neg (by omega)]
   cases t with
   |lf=>rw[Tri.set_lf,if_neg he,key,Tri.lf_get]
   |nd l v r=>rw[Tri.set_nd,if_neg he,key]
structure Tm where
 len:Nat
 tr:Tri
def Xx(T:Tm)(t:Nat):Value:=T.tr.get t
def V0(T:Tm)(d:Option Tmp)(v:Value):Tm:=match d with|some d=>⟨T.len,T.tr.set 14 d v⟩|none=>T
def XV(T:Tm):Operand->Option Value
 | .tmp t=>some (Xx T t)
 | .const v=>bif af v then some v else none
 | .func f=>some (.func (.func f) #[] #[])
 | .global _=>none
def TR(μ:Mu)(T:Tm)(A:Array Value):Prop:=T.len=A.size/\∀t,VR μ (Xx T t) (A.getD t undef)
theorem TR.mono{μ μ':Mu}(e:Ext μ μ'){T:Tm}{A:Array Value}(h:TR μ T A):TR μ' T A:=⟨h.1,fun t=>(h.2 t).mono e⟩
theorem Uk{T:Tm}{d:Option Tmp}{v:Value}:(V0 T d v).len=T.len:=by cases d <;> rfl
theorem QbP(d:Nat)(h:d<16000):d+1<2 ^ 14:=by omega
theorem uh{T:Tm}{d:Option Tmp}{v:Value}{t:Nat}(h:∀x,d=some x->x<16000):Xx (V0 T d v) t=if d=some t then v else Xx T t:=by
 cases d with
 |none=>simp[V0]
 |some d=>
  have h2:=QbP d (h d rfl);simp only[V0,Xx,YO];rw[Tri.get_set 14 _ d _ _ h2];by_cases e:d=t
  ·subst e;simp
  ·rw[if_neg (Ne.symm e),if_neg e]
theorem TR.put{μ:Mu}{T:Tm}{A:Array Value}(h:TR μ T A){d:Option Tmp}(hd:∀x,d=some x->x<T.len/\x<16000){v v':Value}(hv:VR μ v v'):TR μ (V0 T d v) (match d with|some x=>A.setIfInBounds x v'|none=>A):=by
 refine⟨?_,fun t=> ?_⟩
 ·rw[Uk];cases d <;> simp[h.1]
 ·rw[uh fun x hx=>(hd x hx).2];cases d with
  |none=>simpa using h.2 t
  |some x=>
   have hx:x<A.size:=h.1 ▸ (hd x rfl).1;simp only[YO];by_cases e:x=t
   ·subst e;simpa[hx]using hv
   ·have:=h.2 t;simp[e]at this ⊢;exact this
def RD:Value->Option Bool
 | .bool b=>some b
 |_=>none
def XI(ops:Array Oper)(T:Tm)(j:Nat):Option Bool:=
 match nth ops.toList j with
 |some o=>match o.dst with
  |some t=>RD (Xx T t)
  |none=>none
 |none=>none
theorem iy{ops:Array Oper}{T:Tm}{j:Nat}:XI ops T j=match(ops[j]?).bind (·.dst)with
 |some t=>RD (Xx T t)
 |none=>none:=by
 unfold XI;rw[aO,Lm];cases ops[j]? <;> rfl
theorem kF{ops:Array Oper}{A:Array Value}{j:Nat}:yielded ops A j=match(ops[j]?).bind (·.dst)with
 |some t=>RD (A.getD t undef)
 |none=>none:=by
 unfold yielded;cases(ops[j]?).bind (·.dst)with
 |none=>rfl
 |some t=>
  simp only[Option.bind_some,Array.getD_eq_getD_getElem?];cases A[t]? with
  |none=>rfl
  |some v=>cases v <;> rfl
theorem B4{μ:Mu}{v v':Value}(h:VR μ v v'):RD v'=RD v:=by
 cases h with
 |Yi a b c=>
  cases v' with
  |bool q=>exact absurd rfl (a q)
  |_=>rfl
 |top a b c=>
  cases v' with
  |bool q=>exact absurd rfl (c.nobool a q)
  |_=>rfl
 |_=>rfl

structure Rec where
 o:Oper
 run:Bool
 v:Value
 T:Tm
 H:Qm
 H':Qm
 n:Nat
 n':Nat
 R:List Nat
 W:List Nat
def KK:List Rec->Tm->Qm->Nat->Tm->Qm->Nat->Prop
 |[],T,H,n,T',H',n'=>T=T'/\H=H'/\n=n'
 |r::l,T,H,n,T',H',n'=>r.T=T/\r.H=H/\r.n=n/\KK l (V0 T r.o.dst r.v) r.H' r.n' T' H' n'
structure cv (len:Nat) (r:Rec):Prop where
 le:r.n<=r.n'
 keep:∀i,i<r.n->i ∉ r.W->Qq r.H' i=Qq r.H i
 top:∀i,r.n'<=i->Qq r.H' i=Qq r.H i
 sub:∀i,i∈r.W->i∈r.R
 wlt:∀i,i∈r.W->i<r.n'
 dst:∀x,r.o.dst=some x->x<len/\x<16000
def dq(r:Rec)(i:Nat):Bool:=r.W.contains i || (LI r.n i && Ll i r.n')
theorem TT{r:Rec}{i:Nat}:dq r i=true<->i∈r.W\/(r.n<=i/\i<r.n'):=by
 simp only[dq,Bool.or_eq_true,List.contains_iff_mem,YB];refine or_congr Iff.rfl ⟨fun h=>⟨YL h.1,YL h.2⟩,fun h=>⟨LC h.1,LC h.2⟩⟩
def cH(i:Nat)(r:Rec):Option (Option Obj):=bif dq r i then some (Qq r.H' i)else none
def cT(t:Nat)(r:Rec):Option Value:=if r.o.dst=some t then some r.v else none
theorem O5{len:Nat}{r:Rec}(h:cv len r)(i:Nat)(a:Option Obj)(ha:a=Qq r.H i):up1 true (cH i r) a=Qq r.H' i:=by
 unfold cH;cases ht:dq r i with
 |true=>rfl
 |false=>
  simp only[cond_false,up1];have hn:¬(i∈r.W\/(r.n<=i/\i<r.n')):=fun e=>by rw[TT.2 e]at ht;cases ht
  rw[ha];rcases LF i r.n with Xi|PS
  ·exact(h.keep i Xi fun e=>hn (.inl e)).symm
  ·exact(h.top i (by
    rcases LF i r.n' with h1|h1
    ·exact absurd (.inr ⟨PS,h1⟩) hn
    ·exact h1)).symm
theorem db{len:Nat}(i:Nat):∀(l:List Rec) (k:Nat) (T:Tm) (H:Qm) (n:Nat) (T':Tm) (H':Qm) (n':Nat),KK l T H n T' H' n'->(∀r∈l,cv len r)->
 (∀j r,l[j]? =some r->Qq r.H i=Kc (fun q=>decide (q<k+j)) (l.map (cH i)) k (Qq H i))/\Qq H' i=Kc (fun _=>true) (l.map (cH i)) k (Qq H i)
 |[],k,T,H,n,T',H',n',h,_=>⟨fun j r hr=>by simp at hr,by obtain⟨_,rfl,_⟩:=h;rfl⟩
 |r::l,k,T,H,n,T',H',n',h,hs=>by
  obtain⟨h1,h2,h3,h4⟩:=h;obtain⟨q1,q2⟩:=db i l (k+1) _ _ _ _ _ _ h4 fun x hx=>hs x (Lj _ hx)
  have XZ:=O5 (hs r (by simp)) i (Qq H i) (by rw[h2]);refine⟨fun j x hx=> ?_, ?_⟩
  ·cases j with
   |zero=>
    simp only[Lq,YO]at hx;subst hx;rw[U5 _ _ _ fun a y _=>by simp,h2]
   |succ j=>
    rw[q1 j x (by simpa using hx)];simp only[List.map_cons,Kc];rw[show(decide (k<k+(j+1)))=true by simp];rw[XZ];exact Wx _ _ _ fun a y _=>by rw[show k+1+j=k+(j+1)by omega]
  ·rw[q2];simp only[List.map_cons,Kc];rw[XZ]
theorem K2{len:Nat}(t:Nat):∀(l:List Rec) (k:Nat) (T:Tm) (H:Qm) (n:Nat) (T':Tm) (H':Qm) (n':Nat),KK l T H n T' H' n'->(∀r∈l,cv len r)->T.len=len->
 (∀j r,l[j]? =some r->r.T.len=len/\Xx r.T t=Kc (fun q=>decide (q<k+j)) (l.map (cT t)) k (Xx T t))/\T'.len=len/\Xx T' t=Kc (fun _=>true) (l.map (cT t)) k (Xx T t)
 |[],k,T,H,n,T',H',n',h,_,hl=>⟨fun j r hr=>by simp at hr,by obtain⟨rfl,_⟩:=h;exact⟨hl,rfl⟩⟩
 |r::l,k,T,H,n,T',H',n',h,hs,hl=>by
  obtain⟨h1,h2,h3,h4⟩:=h;have hd:=(hs r (by simp)).dst;have hlen:(V0 T r.o.dst r.v).len=len:=by rw[Uk];exact hl
  obtain⟨q1,q2,q3⟩:=K2 t l (k+1) _ _ _ _ _ _ h4 (fun x hx=>hs x (Lj _ hx)) hlen;have XZ:up1 true (cT t r) (Xx T t)=Xx (V0 T r.o.dst r.v) t:=by
   rw[uh fun x hx=>(hd x hx).2];unfold cT;split <;> rfl
  refine⟨fun j x hx=> ?_,q2, ?_⟩
  ·cases j with
   |zero=>
    simp only[Lq,YO]at hx;subst hx;rw[U5 _ _ _ fun a y _=>by simp,h1];exact⟨hl,rfl⟩
   |succ j=>
    obtain⟨a1,a2⟩:=q1 j x (by simpa using hx);refine⟨a1, ?_⟩;rw[a2];simp only[List.map_cons,Kc];rw[show(decide (k<k+(j+1)))=true by simp];rw[XZ];exact Wx _ _ _ fun a y _=>by rw[show k+1+j=k+(j+1)by omega]
  ·rw[q3];simp only[List.map_cons,Kc];rw[XZ]
theorem JJ{len:Nat}:∀(l:List Rec) (T:Tm) (H:Qm) (n:Nat) (T':Tm) (H':Qm) (n':Nat),KK l T H n T' H' n'->(∀r∈l,cv len r)->
 n<=n'/\(∀r∈l,n<=r.n/\r.n'<=n')/\(∀(i j:Nat) (a b:Rec),i<j->l[i]? =some a->l[j]? =some b->a.n'<=b.n)/\(∀x,n<=x->x<n'->∃(j:Nat) (r:Rec),l[j]? =some r/\r.n<=x/\x<r.n')
 |[],T,H,n,T',H',n',h,_=>by obtain⟨_,_,rfl⟩:=h;exact⟨Lw _,by simp,fun i j a b _ h=>by simp at h,fun x h1 h2=>absurd h1 (by omega)⟩
 |r::l,T,H,n,T',H',n',h,hs=>by
  obtain⟨h1,h2,h3,h4⟩:=h;obtain⟨q1,q2,q3,q4⟩:=JJ l _ _ _ _ _ _ h4 fun x hx=>hs x (Lj _ hx)
  have hr:=(hs r (by simp)).le;refine⟨by omega,fun x hx=> ?_,fun i j a b Rm ha hb=> ?_,fun x hx1 hx2=> ?_⟩
  ·rcases List.mem_cons.1 hx with rfl|hx
   ·omega
   ·have:=q2 x hx;omega
  ·cases j with
   |zero=>omega
   |succ j=>
    cases i with
    |zero=>
     simp only[Lq,YO]at ha;subst ha;exact(q2 b (Lk (by simpa using hb))).1
    |succ i=>exact q3 i j a b (by omega) (by simpa using ha) (by simpa using hb)
  ·rcases LF x r.n' with Xi|PS
   ·exact⟨0,r,rfl,by omega,Xi⟩
   ·obtain⟨j,r',hj,hx⟩:=q4 x PS hx2;exact⟨j+1,r',by simpa using hj,hx⟩

theorem yw{α:Type}{l m:List α}{i:Nat}{d:α}(h:i<l.length):(l++m).getD i d=l.getD i d:=by
 rw[Li,Li,Lz h]
def jo:List Oper->List Nat->List Nat
 |[],acc=>acc
 |o::l,acc=>jo l (acc++[o.after.toList.foldr (fun e m=>bif Region.binds .any e then Nat.lor (Nat.lor (Nat.shiftLeft 1 e.on) (acc.getD e.on 0)) m else m) 0])
def Ii(n m:Nat):List Nat:=(Le n).filter fun i=>Lf (Nat.land (Nat.shiftRight m i) 1) 1
theorem qX{n m i:Nat}:i∈Ii n m<->i<n/\m.testBit i=true:=by
 unfold Ii;rw[List.mem_filter,List.mem_range,Nat.beq_eq,Nat.testBit_eq_decide_div_mod_eq,decide_eq_true_iff];show(i<n/\(m >>> i) &&& 1=1)<->_;rw[Nat.and_one_is_mod,Nat.shiftRight_eq_div_pow]
theorem Bp{a b i:Nat}:(Nat.lor a b).testBit i=(a.testBit i || b.testBit i):=Nat.testBit_or a b i
theorem NJ{k i:Nat}(h:(Nat.shiftLeft 1 k).testBit i=true):i=k:=by
 have e:Nat.shiftLeft 1 k=2 ^ k:=by show 1 <<< k=_;rw[Nat.shiftLeft_eq,Nat.one_mul]
 rw[e,Nat.testBit_two_pow]at h;exact(of_decide_eq_true h).symm
theorem oG{acc:List Nat}{i:Nat}:∀(l:List Edge),(l.foldr (fun e m=>bif Region.binds .any e then Nat.lor (Nat.lor (Nat.shiftLeft 1 e.on) (acc.getD e.on 0)) m else m) 0).testBit i=true->∃e∈l,Region.binds .any e=true/\(i=e.on\/(acc.getD e.on 0).testBit i=true)
 |[],h=>by simp at h
 |e::l,h=>by
  rw[List.foldr_cons]at h;cases hb:Region.binds .any e with
  |false=>
   rw[hb,cond_false]at h;obtain⟨x,hx,h1⟩:=oG l h;exact⟨x,Lj _ hx,h1⟩
  |true=>
   rw[hb,cond_true,Bp,Bp,Bool.or_eq_true,Bool.or_eq_true]at h;rcases h with (h|h)|h
   ·exact⟨e,List.mem_cons_self,hb,Or.inl (NJ h)⟩
   ·exact⟨e,List.mem_cons_self,hb,Or.inr h⟩
   ·obtain⟨x,hx,h1⟩:=oG l h;exact⟨x,Lj _ hx,h1⟩
def JK(l:List Oper)(_:List (List Nat)):List (List Nat):=(jo l []).map (Ii l.length)
def Bef(ops:List Oper)(bs:List (List Nat)):Prop:=bs.length<=ops.length/\∀k b,bs[k]? =some b->∀i∈b,∃o,ops[k]? =some o/\∃e∈o.after,Region.binds .any e=true/\e.on<k/\(i=e.on\/i∈bs.getD e.on [])
def Qcf(ops:List Oper)(bs:List Nat):Prop:=bs.length<=ops.length/\∀k b,bs[k]? =some b->∀i,b.testBit i=true->∃o,ops[k]? =some o/\∃e∈o.after,Region.binds .any e=true/\e.on<k/\(i=e.on\/(bs.getD e.on 0).testBit i=true)
theorem yJ:∀(l pre:List Oper) (acc:List Nat),acc.length=pre.length->Qcf (pre++l) acc->(∀(k:Nat) o,(pre++l)[k]? =some o->∀e∈o.after,Region.binds .any e=true->e.on<k)->Qcf (pre++l) (jo l acc)/\(jo l acc).length=(pre++l).length
 |[],pre,acc,hl,h,_=>⟨h,by simpa[jo]using hl⟩
 |o::l,pre,acc,hl,h,Xi=>by
  have e:pre++o::l=(pre++[o])++l:=by simp
  rw[e]at h Xi ⊢;refine yJ l (pre++[o]) _ (by simp[hl]) ⟨by simp[hl],fun k b hb i hi=> ?_⟩ Xi;rcases LF k acc.length with hk|hk
  ·rw[Lz hk]at hb;obtain⟨x,hx,ed,hed,hbd,hon,ZQ⟩:=h.2 k b hb i hi;refine⟨x,hx,ed,hed,hbd,hon,ZQ.imp id fun h=> ?_⟩;rwa[yw (by omega)]
  ·have hk0:k=acc.length:=by
    have:=(List.getElem?_eq_some_iff.1 hb).1;simp at this;omega
   subst hk0;rw[Lp (Lw _)]at hb;simp only[Nat.sub_self,Lq,YO]at hb;subst hb;have ho:((pre++[o])++l)[acc.length]? =some o:=by rw[hl];simp
   obtain⟨ed,hed,hbd,hi⟩:=oG _ hi;have hon:=Xi acc.length o ho ed (by simpa using hed) hbd;exact⟨o,ho,ed,by simpa using hed,hbd,hon,hi.imp id fun h=>by rwa[yw (by omega)]⟩
theorem tP(l:List Oper)(Xi:∀(k:Nat) o,l[k]? =some o->∀e∈o.after,Region.binds .any e=true->e.on<k):Bef l (JK l [])/\(JK l []).length=l.length:=by
 obtain⟨⟨h1,h2⟩,h3⟩:=yJ l [] [] rfl ⟨by simp,fun q b hq=>by simp at hq⟩ (fun q o ho=>Xi q o (by simpa using ho));simp only[List.nil_append]at h1 h2 h3;refine⟨⟨by simpa[JK]using h1,fun k b hb i hi=> ?_⟩,by simpa[JK]using h3⟩;unfold JK at hb ⊢;rw[Lx]at hb;cases hm:(jo l [])[k]? with
 |none=>rw[hm]at hb;cases hb
 |some m=>
  rw[hm]at hb;simp only[LG,YO]at hb;subst hb;obtain⟨hi1,hi2⟩:=qX.1 hi;obtain⟨o,ho,e,he,hbd,hon,ZQ⟩:=h2 k m hm i hi2;refine⟨o,ho,e,he,hbd,hon,ZQ.imp id fun h=> ?_⟩;have hk:k<(jo l []).length:=(List.getElem?_eq_some_iff.1 hm).1;have he2:e.on<(jo l []).length:=by omega
  rw[Li,Lx,L7 he2];rw[Li,L7 he2]at h;exact qX.2 ⟨hi1,h⟩
theorem AI{ops:List Oper}{bs:List (List Nat)}(h:Bef ops bs){D:Nat->Bool}(hD:∀k o,D k=true->ops[k]? =some o->∀e∈o.after,Region.binds .any e=true->D e.on=true):
 ∀(k:Nat),(∀o,ops[k]? =some o->∀e∈o.after,Region.binds .any e=true->D e.on=true)->∀i∈bs.getD k [],D i=true:=by
 intro k;induction k using LB with
 |_ k ih=>
  intro hk i hi;rw[Li]at hi;cases hb:bs[k]? with
  |none=>rw[hb]at hi;simp at hi
  |some b=>
   rw[hb]at hi;obtain⟨o,ho,e,he,hbd,hon,ZQ⟩:=h.2 k b hb i hi;have hDe:=hk o ho e he hbd;rcases ZQ with rfl|ZQ
   ·exact hDe
   ·exact ih e.on hon (fun o' Ko=>hD e.on o' hDe Ko) i ZQ
end Go.CE

namespace Go.CE
open Go Go.RowKit

inductive OO where
 |ret (v:Value)
 |ZB (v:Value)
inductive OR2 (μ:Mu):OO->OO->Prop
 |ret {v v'}:VR μ v v'->OR2 μ (.ret v) (.ret v')
 |ZB {v v'}:VR μ v v'->OR2 μ (.ZB v) (.ZB v')
def OO.on(fr:Frame):OO->Frame
 | .ret v=>fr.finish v
 | .ZB v=>fr.raise [{v,recovered:=false}]
def SN(P:Program)(B:Lo)(o:Oper)(ev:Operand->Option Value)(H:Qm)(n:Nat)(out:OO)(H':Qm)(n':Nat)(R W:List Nat):Prop:=
 ∀(S:Nat->Prop) (μ:Mu) (w:World) (fr:Frame) (cs:List Frame) (k:List Item) (ops:Array Oper) (i:Nat) (rest:List Nat),Ok B S μ (Qq H) w->B.has w->(∀i,S i->i<n)->JL μ n n'->
  (∀x∈o.op.operands,∀v,ev x=some v->VR μ v (fr.eval x))->(∀i∈R,i<n->S i)->
  fr.mode=.run->fr.todo=.inRegion ops (i::rest)::k->ops[i]? =some o->Region.wanted o (yielded ops fr.tmps)=true->
  ∃XW w' μ',Post B S n n' W μ μ' H H' w w'/\OR2 μ' out XW/\Steps P (lone fr cs w) (lone (XW.on fr) cs w')
def Rv(P:Program)(B:Lo)(ops:Array Oper)(r:Rec):Prop:=
 (r.run=Region.wanted r.o (XI ops r.T))/\(r.run=true->SN P B r.o (XV r.T) r.H r.n (.ret r.v) r.H' r.n' r.R r.W)/\(r.run=false->r.v=undef/\r.H'=r.H/\r.n'=r.n/\r.W=[])

def meets(r x:Rec):Bool:=r.W.any fun i=>x.R.contains i
def bears(r x:Rec):Bool:=x.R.any fun i=>LI r.n i && Ll i r.n'
def tied(ops:Array Oper)(r x:Rec):Bool:= !(r.o.apart ops x.o) || meets r x || meets x r || bears r x
def KG(ops:Array Oper)(r:Rec)(k:Nat):List Rec->List (List Nat)->Bool
 |x::l,b::bs=>(b.contains k || !(tied ops r x)) && KG ops r k l bs
 |[],_=>true
 |_::_,[]=>false
def indep(ops:Array Oper):Nat->List Rec->List (List Nat)->Bool
 |k,r::l,_::bs=>KG ops r k l bs && indep ops (k+1) l bs
 |_,[],_=>true
 |_,_::_,[]=>false
theorem aW{ops:Array Oper}{r:Rec}{k:Nat}:∀(l:List Rec) (bs:List (List Nat)),KG ops r k l bs=true->∀(j:Nat) x,l[j]? =some x->tied ops r x=true->k∈bs.getD j []
 |x::l,b::bs,h,j,y,hj,ht=>by
  simp only[KG,YB,Bool.or_eq_true,Bool.not_eq_true',List.contains_iff_mem]at h;cases j with
  |zero=>
   simp only[Lq,YO]at hj;subst hj;rcases h.1 with h1|h1
   ·simpa using h1
   ·rw[ht]at h1;cases h1
  |succ j=>
   have:=aW l bs h.2 j y (by simpa using hj) ht;simpa using this
 |[],_,_,j,y,hj,_=>by simp at hj
 |_::_,[],h,_,_,_,_=>by simp[KG]at h
theorem Ty{ops:Array Oper}:∀(l:List Rec) (bs:List (List Nat)) (k:Nat),indep ops k l bs=true->∀(i j:Nat) r x,i<j->l[i]? =some r->l[j]? =some x->tied ops r x=true->k+i∈bs.getD j []
 |r::l,b::bs,k,h,i,j,y,x,Rm,hi,hj,ht=>by
  simp only[indep,YB]at h;cases j with
  |zero=>omega
  |succ j=>
   cases i with
   |zero=>
    simp only[Lq,YO]at hi;subst hi;have:=aW l bs h.1 j x (by simpa using hj) ht;simpa using this
   |succ i=>
    have:=Ty l bs (k+1) h.2 i j y x (by omega) (by simpa using hi) (by simpa using hj) ht;rw[show k+1+i=k+(i+1)by omega]at this;simpa using this
 |[],_,_,_,i,j,y,x,_,hi,_,_=>by simp at hi
 |_::_,[],_,h,_,_,_,_,_,_,_,_=>by simp[indep]at h
theorem PG.congr{B:Nat}{S New New' W W':Nat->Prop}{μ μ':Mu}{G G' G'':Nat->Option Obj}{w w':World}(h:PG B S New W μ μ' G G' w w')(hN:∀i,New i<->New' i)(hW:∀i,W i<->W' i)(hG:∀i,G' i=G'' i):PG B S New' W' μ μ' G G'' w w':=by
 have e1:New=New':=funext fun i=>propext (hN i)
 have e2:W=W':=funext fun i=>propext (hW i)
 have e3:G'=G'':=funext hG;subst e1 e2 e3;exact h

def Qcz(ops:Array Oper)(Qs:List Rec)(bs:List (List Nat)):Prop:=∀(i j:Nat) (r x:Rec),i<j->Qs[i]? =some r->Qs[j]? =some x->tied ops r x=true->0+i∈bs.getD j []
structure Setup (P:Program) (B:Lo) (ops:Array Oper) (Qs:List Rec) (bs:List (List Nat)) (T:Tm) (H:Qm) (n:Nat) (T':Tm) (H':Qm) (n':Nat):Prop where
 chain:KK Qs T H n T' H' n'
 Rx:∀r∈Qs,cv T.len r
 own:∀(i:Nat) r,Qs[i]? =some r->ops[i]? =some r.o
 len:Qs.length=ops.size
 bef:Bef ops.toList bs
 ind:Qcz ops Qs bs
 edge:∀(k:Nat) o,ops[k]? =some o->∀e∈o.after,Region.binds .any e=true->e.on<k
section
variable {P:Program} {B:Lo} {ops:Array Oper} {Qs:List Rec} {bs:List (List Nat)} {T:Tm} {H:Qm} {n:Nat} {T':Tm} {H':Qm} {n':Nat}
def gD(Qs:List Rec)(H:Qm)(D:Nat->Bool)(i:Nat):Option Obj:=Kc D (Qs.map (cH i)) 0 (Qq H i)
def tD(Qs:List Rec)(T:Tm)(D:Nat->Bool)(t:Nat):Value:=Kc D (Qs.map (cT t)) 0 (Xx T t)
def tW(Qs:List Rec)(D:Nat->Bool)(i:Nat):Prop:=∃(j:Nat) (r:Rec),D j=true/\Qs[j]? =some r/\r.n<=i/\i<r.n'
def WD(Qs:List Rec)(n:Nat)(D:Nat->Bool)(i:Nat):Prop:=i<n/\∃(j:Nat) (r:Rec),D j=true/\Qs[j]? =some r/\i∈r.W
def UC(ops:Array Oper)(D:Nat->Bool):Prop:=∀k o,D k=true->ops[k]? =some o->∀e∈o.after,Region.binds .any e=true->D e.on=true
theorem pc(h:Setup P B ops Qs bs T H n T' H' n'){D:Nat->Bool}(hD:UC ops D){k:Nat}(hk:∀o,ops[k]? =some o->∀e∈o.after,Region.binds .any e=true->D e.on=true):∀i∈bs.getD k [],D i=true:=
 AI h.bef (fun k o a b=>hD k o a (by simpa using b)) k (fun o a=>hk o (by simpa using a))
theorem u6(h:Setup P B ops Qs bs T H n T' H' n'){D:Nat->Bool}(hD:UC ops D){j:Nat}{x:Rec}(hj:Qs[j]? =some x)(hn:D j=false)(hr:∀o,ops[j]? =some o->∀e∈o.after,Region.binds .any e=true->D e.on=true)
 {i:Nat} {r:Rec} (hi:Qs[i]? =some r) (ht:(i<j->tied ops r x=true)/\(j<i->tied ops x r=true)):D i=decide (i<j):=by
 rcases Nat.lt_trichotomy i j with Xi|heq|hgt
 ·have:=h.ind i j r x Xi hi hj (ht.1 Xi);rw[Lv]at this;rw[pc h hD hr i this];simp[Xi]
 ·subst heq;rw[hn];simp
 ·have:=h.ind j i x r hgt hj hi (ht.2 hgt);rw[Lv]at this;have hf:D i=false:=by
   cases hd:D i with
   |false=>rfl
   |true=>
    have:=pc h hD (k:=i) (fun o ho=>hD i o hd ho) j this;rw[hn]at this;cases this
  rw[hf];simp;omega
theorem iD{r x:Rec}{t:Nat}(ht:r.o.dst=some t)(hl:t∈x.o.looksAt ops\/x.o.dst=some t):tied ops r x=true/\tied ops x r=true:=by
 constructor
 ·have:r.o.apart ops x.o=false:=by
   cases hap:r.o.apart ops x.o with
   |false=>rfl
   |true=>
    obtain⟨h1,h2,_⟩:=Oper.apart_spec hap;rcases hl with hl|hl
    ·exact absurd hl (h1 t ht)
    ·exact absurd hl (h2 t ht)
  simp[tied,this]
 ·have:x.o.apart ops r.o=false:=by
   cases hap:x.o.apart ops r.o with
   |false=>rfl
   |true=>
    obtain⟨_,h2,h3⟩:=Oper.apart_spec hap;rcases hl with hl|hl
    ·exact absurd hl (h3 t ht)
    ·exact absurd ht (h2 t hl)
  simp[tied,this]
theorem k8{t:Nat}{i:Nat}{v:Value}(h:(Qs.map (cT t))[i]? =some (some v)):∃r,Qs[i]? =some r/\r.o.dst=some t/\r.v=v:=by
 rw[Lx]at h;cases hr:Qs[i]? with
 |none=>rw[hr]at h;cases h
 |some r=>
  rw[hr]at h;simp only[LG,YO,cT]at h;split at h
  ·rename_i hd;exact⟨r,rfl,hd,by simpa using h⟩
  ·cases h
theorem kA{q:Nat}{i:Nat}{v:Option Obj}(h:(Qs.map (cH q))[i]? =some (some v)):∃r,Qs[i]? =some r/\(q∈r.W\/(r.n<=q/\q<r.n'))/\Qq r.H' q=v:=by
 rw[Lx]at h;cases hr:Qs[i]? with
 |none=>rw[hr]at h;cases h
 |some r=>
  rw[hr]at h;simp only[LG,YO,cH]at h;cases ht:dq r q with
  |false=>rw[ht]at h;cases h
  |true=>rw[ht]at h;exact⟨r,rfl,TT.1 ht,by simpa using h⟩
theorem uk(h:Setup P B ops Qs bs T H n T' H' n'){D:Nat->Bool}(hD:UC ops D){j:Nat}{x:Rec}(hj:Qs[j]? =some x)(hn:D j=false)(hr:∀o,ops[j]? =some o->∀e∈o.after,Region.binds .any e=true->D e.on=true)
 {t:Nat} (ht:t∈x.o.looksAt ops):tD Qs T D t=Xx x.T t:=by
 obtain⟨q1,_⟩:=K2 (len:=T.len) t Qs 0 T H n T' H' n' h.chain h.Rx rfl;rw[(q1 j x hj).2];refine Wx _ _ _ fun i v hv=> ?_
 obtain⟨r,J3,hd,_⟩:=k8 hv;have htt:=iD (ops:=ops) hd (.inl ht);simp only[Lv];exact u6 h hD hj hn hr J3 ⟨fun _=>htt.1,fun _=>htt.2⟩
theorem BK(h:Setup P B ops Qs bs T H n T' H' n'){i j:Nat}{r x:Rec}{q:Nat}(hi:Qs[i]? =some r)(hj:Qs[j]? =some x)(hq:q∈x.R)(hqn:q<x.n)(hr:q∈r.W\/(r.n<=q/\q<r.n')):(i<j->tied ops r x=true)/\(j<i->tied ops x r=true):=by
 have R9:=JJ Qs T H n T' H' n' h.chain h.Rx;rcases hr with hr|hr
 ·have m1:meets r x=true:=List.any_eq_true.2 ⟨q,hr,by simpa using hq⟩;exact⟨fun _=>by simp[tied,m1],fun _=>by simp[tied,m1]⟩
 ·refine⟨fun _=> ?_,fun Xi=> ?_⟩
  ·have:bears r x=true:=List.any_eq_true.2 ⟨q,hq,by simp only[YB];exact⟨LC hr.1,LC hr.2⟩⟩;simp[tied,this]
  ·have h1:=R9.2.2.1 j i x r Xi hj hi;have h2:=(h.Rx x (Lk hj)).le;omega
theorem IL(h:Setup P B ops Qs bs T H n T' H' n'){D:Nat->Bool}(hD:UC ops D){j:Nat}{x:Rec}(hj:Qs[j]? =some x)(hn:D j=false)(hr:∀o,ops[j]? =some o->∀e∈o.after,Region.binds .any e=true->D e.on=true)
 {q:Nat} (hq:q∈x.R) (hqn:q<x.n):gD Qs H D q=Qq x.H q:=by
 obtain⟨q1,_⟩:=db (len:=T.len) q Qs 0 T H n T' H' n' h.chain h.Rx;rw[q1 j x hj];refine Wx _ _ _ fun i v hv=> ?_
 obtain⟨r,J3,hd,_⟩:=kA hv;simp only[Lv];exact u6 h hD hj hn hr J3 (BK h J3 hj hq hqn hd)
end
end Go.CE

namespace Go.CE
open Go Go.RowKit

theorem Ok.congr{B:Nat}{S:Nat->Prop}{μ:Mu}{G G':Nat->Option Obj}{w:World}(h:Ok B S μ G w)(hg:∀i,S i->G' i=G i):Ok B S μ G' w:=
 ⟨fun i o a b c=>h.rel i o a (by rw[<-hg i a];exact b) c,fun i o im a b c d=>h.low i o im a (by rw[<-hg i a];exact b) c d,
  fun i j oi oj x y a b c d e=>h.inj i j oi oj x y a b c (by rw[<-hg i a];exact d) (by rw[<-hg j b];exact e),
  fun i o a b=>h.Jv i o a (by rw[<-hg i a];exact b),fun i j oi oj x y z a b c d=>h.sep i j oi oj x y z a b (by rw[<-hg i a];exact c) (by rw[<-hg j b];exact d)⟩
def Xe(fr:Frame)(A:Array Value)(ops:Array Oper)(l:List Nat)(k:List Item):Frame:={fr with tmps:=A,todo:=.inRegion ops l::k}
theorem T8{fr:Frame}{A:Array Value}{ops:Array Oper}{i:Nat}{l:List Nat}{k:List Item}{o:Oper}(ho:ops[i]? =some o)(v:Value):
 (Xe fr A ops (i::l) k).finish v=Xe fr (match o.dst with|some d=>A.setIfInBounds d v|none=>A) ops l k:=by
 simp only[Frame.finish,Xe,ho,Option.bind_some];cases o.dst <;> rfl
theorem dv{P:Program}{fr:Frame}{cs:List Frame}{w:World}{A:Array Value}{ops:Array Oper}{i:Nat}{l:List Nat}{k:List Item}{o:Oper}(hm:fr.mode=.run)(ho:ops[i]? =some o)(hw:Region.wanted o (yielded ops A)=false):
 step P (lone (Xe fr A ops (i::l) k) cs w)=.next (lone ((Xe fr A ops (i::l) k).finish undef) cs w):=
 step_lone_go (by simp[stepG,stepG.exec,Xe,hm,ho,hw])
theorem Vj{P:Program}{fr:Frame}{cs:List Frame}{w:World}{A:Array Value}{ops:Array Oper}{k:List Item}(hm:fr.mode=.run):
 step P (lone (Xe fr A ops [] k) cs w)=.next (lone {fr with tmps:=A,todo:=k} cs w):=
 step_lone_go (by simp[stepG,stepG.exec,Xe,hm])
section
variable {P:Program} {B:Lo} {ops:Array Oper} {Qs:List Rec} {bs:List (List Nat)} {T:Tm} {H:Qm} {n:Nat} {T':Tm} {H':Qm} {n':Nat}
theorem Lo.has.pg{L:Lo}{S New W:Nat->Prop}{μ μ':Mu}{G G':Nat->Option Obj}{w w':World}(h:L.has w)(Q7:Ok L.B S μ G w)(hp:PG L.B S New W μ μ' G G' w w'):L.has w':=by
 refine⟨Nat.le_trans h.le hp.grow,L.still w w' (fun b hb=>hp.frame b (Nat.lt_of_lt_of_le hb h.le) fun i hi im QD=> ?_) h.inv⟩;obtain⟨hs,⟨o,ho,hl⟩,Z4,QO,Rl⟩:=hp.wr i hi;rw[QD]at QO;cases QO;have:=(Q7.low i o im hs ho hl QD).2.1 Rl;omega
structure Inv (B:Nat) (Qs:List Rec) (T:Tm) (H:Qm) (n:Nat) (S:Nat->Prop) (μ0:Mu) (w0:World) (D:Nat->Bool) (μ:Mu) (A:Array Value) (w:World):Prop where
 pg:PG B S (tW Qs D) (WD Qs n D) μ0 μ (Qq H) (gD Qs H D) w0 w
 size:A.size=T.len
 tmps:∀t,VR μ (tD Qs T D t) (A.getD t undef)
theorem cover(h:Setup P B ops Qs bs T H n T' H' n'){D:Nat->Bool}(hD:UC ops D){j:Nat}{x:Rec}(hj:Qs[j]? =some x)(hr:∀o,ops[j]? =some o->∀e∈o.after,Region.binds .any e=true->D e.on=true)
 {q:Nat} (hq:q∈x.R) (hqn:q<x.n):q<n\/tW Qs D q:=by
 rcases LF q n with Xi|PS
 ·exact .inl Xi
 ·have R9:=JJ Qs T H n T' H' n' h.chain h.Rx;have hx:=R9.2.1 x (Lk hj);have hxs:=(h.Rx x (Lk hj)).le;obtain⟨i,r,hi,h1,h2⟩:=R9.2.2.2 q PS (by omega);rcases Nat.lt_trichotomy i j with Xi|heq|hgt
  ·have hb:bears r x=true:=List.any_eq_true.2 ⟨q,hq,by simp only[YB];exact⟨LC h1,LC h2⟩⟩;have:=h.ind i j r x Xi hi hj (by simp[tied,hb]);rw[Lv]at this;exact .inr ⟨i,r,pc h hD hr i this,hi,h1,h2⟩
  ·subst heq;rw[hj]at hi;cases hi;omega
  ·have:=R9.2.2.1 j i x r hgt hj hi;omega
theorem dj(h:Setup P B ops Qs bs T H n T' H' n'){D:Nat->Bool}(hD:UC ops D){j:Nat}{x:Rec}(hj:Qs[j]? =some x)(hn:D j=false)(hr:∀o,ops[j]? =some o->∀e∈o.after,Region.binds .any e=true->D e.on=true)
 {μ:Mu} {A:Array Value} (hA:∀t,VR μ (tD Qs T D t) (A.getD t undef)):Region.wanted x.o (yielded ops A)=Region.wanted x.o (XI ops x.T):=by
 unfold Region.wanted;cases hg:x.o.guard with
 |none=>rfl
 |some gw=>
  obtain⟨g,want⟩:=gw;have:yielded ops A g=XI ops x.T g:=by
   rw[kF,iy];cases hd:(ops[g]?).bind (·.dst)with
   |none=>rfl
   |some t=>
    have ht:t∈x.o.looksAt ops:=by simp[Oper.looksAt,hg,hd]
    have:=hA t;rw[uk h hD hj hn hr ht]at this;exact B4 this
  simp only[this]
theorem Ax(h:Setup P B ops Qs bs T H n T' H' n'){D:Nat->Bool}(hD:UC ops D){j:Nat}{x:Rec}(hj:Qs[j]? =some x)(hn:D j=false)(hr:∀o,ops[j]? =some o->∀e∈o.after,Region.binds .any e=true->D e.on=true)
 {μ:Mu} {A:Array Value} (hA:∀t,VR μ (tD Qs T D t) (A.getD t undef)) {fr:Frame} {l:List Nat} {k:List Item}:∀y∈x.o.op.operands,∀v,XV x.T y=some v->VR μ v ((Xe fr A ops l k).eval y):=by
 intro y hy v hv;cases y with
 |tmp t=>
  simp only[XV,YO]at hv;subst hv;have ht:t∈x.o.looksAt ops:=by
   unfold Oper.looksAt;exact Lg _ (List.mem_filterMap.2 ⟨.tmp t,by simpa using hy,rfl⟩)
  rw[<-uk h hD hj hn hr ht];exact hA t
 |const u=>
  simp only[XV]at hv;cases ha:af u with
  |false=>rw[ha]at hv;cases hv
  |true=>rw[ha]at hv;simp only[cond_true,YO]at hv;subst hv;exact Pc ha
 |func f=>
  simp only[XV,YO]at hv;subst hv;exact Pc rfl
 |global g=>cases hv
theorem kJ(h:Setup P B ops Qs bs T H n T' H' n'){D:Nat->Bool}(hD:UC ops D){j:Nat}{x:Rec}(hj:Qs[j]? =some x)(hn:D j=false){i:Nat}{r:Rec}(hi:Qs[i]? =some r)(Xi:j<i)(ht:tied ops x r=true):D i=false:=by
 have:=h.ind j i x r Xi hj hi ht;rw[Lv]at this;cases hd:D i with
 |false=>rfl
 |true=>
  have:=pc h hD (k:=i) (fun o ho=>hD i o hd ho) j this;rw[hn]at this;cases this
def plus(D:Nat->Bool)(j:Nat):Nat->Bool:=fun k=>D k || Lf k j
theorem Vm{D:Nat->Bool}{j:Nat}:plus D j j=true:=by simp[plus]
theorem V7{D:Nat->Bool}{j k:Nat}(h:k≠j):plus D j k=D k:=by simp[plus,TE h]
theorem M4(h:Setup P B ops Qs bs T H n T' H' n'){D:Nat->Bool}(hD:UC ops D){j:Nat}{x:Rec}(hj:Qs[j]? =some x)(hn:D j=false)(t:Nat):tD Qs T (plus D j) t=if x.o.dst=some t then x.v else tD Qs T D t:=by
 by_cases hd:x.o.dst=some t
 ·rw[if_pos hd];refine o7 _ 0 j _ ?_ (by rw[Lv];exact Vm) fun i y hi hy=> ?_
  ·rw[Lx,hj];simp[cT,hd]
  ·rw[Lv,V7 (by omega)];obtain⟨r,J3,hrd,_⟩:=k8 hy;exact kJ h hD hj hn J3 hi (iD (ops:=ops) hd (.inr hrd)).1
 ·rw[if_neg hd];refine Wx _ _ _ fun i y hy=> ?_
  obtain⟨r,J3,hrd,_⟩:=k8 hy;rw[Lv];refine V7 fun e=> ?_
  subst e;rw[hj]at J3;cases J3;exact hd hrd
theorem Aw(h:Setup P B ops Qs bs T H n T' H' n'){D:Nat->Bool}(hD:UC ops D){j:Nat}{x:Rec}(hj:Qs[j]? =some x)(hn:D j=false){q:Nat}(hq:q∈x.W\/(x.n<=q/\q<x.n')):gD Qs H (plus D j) q=Qq x.H' q:=by
 refine o7 _ 0 j _ ?_ (by rw[Lv];exact Vm) fun i y hi hy=> ?_
 ·rw[Lx,hj];simp[cH,TT.2 hq]
 ·rw[Lv,V7 (by omega)];obtain⟨r,J3,hrd,_⟩:=kA hy;have R9:=JJ Qs T H n T' H' n' h.chain h.Rx;have hsr:=h.Rx r (Lk J3);have hsx:=h.Rx x (Lk hj);have Xi:=R9.2.2.1 j i x r hi hj J3;have hxl:=hsx.le;refine kJ h hD hj hn J3 hi ?_;rcases hq with hq|hq
  ·rcases hrd with hrd|hrd
   ·have:meets x r=true:=List.any_eq_true.2 ⟨q,hq,by simpa using hsr.sub q hrd⟩;simp[tied,this]
   ·have:=hsx.wlt q hq;omega
  ·rcases hrd with hrd|hrd
   ·have:bears x r=true:=List.any_eq_true.2 ⟨q,hsr.sub q hrd,by simp only[YB];exact⟨LC hq.1,LC hq.2⟩⟩;simp[tied,this]
   ·omega
theorem jh{D:Nat->Bool}{j:Nat}{x:Rec}(hj:Qs[j]? =some x){q:Nat}(hq:¬(q∈x.W\/(x.n<=q/\q<x.n'))):gD Qs H (plus D j) q=gD Qs H D q:=by
 refine Wx _ _ _ fun i y hy=> ?_
 obtain⟨r,J3,hrd,_⟩:=kA hy;rw[Lv];refine V7 fun e=> ?_
 subst e;rw[hj]at J3;cases J3;exact hq hrd
theorem r4{D:Nat->Bool}{j:Nat}{x:Rec}(hj:Qs[j]? =some x)(i:Nat):(tW Qs D i\/(x.n<=i/\i<x.n'))<->tW Qs (plus D j) i:=by
 constructor
 ·rintro(⟨k,r,hd,hr,h1⟩|h1)
  ·exact⟨k,r,by simp[plus,hd],hr,h1⟩
  ·exact⟨j,x,Vm,hj,h1⟩
 ·rintro⟨k,r,hd,hr,h1⟩;by_cases e:k=j
  ·subst e;rw[hj]at hr;cases hr;exact .inr h1
  ·rw[V7 e]at hd;exact .inl ⟨k,r,hd,hr,h1⟩
theorem yq(h:Setup P B ops Qs bs T H n T' H' n'){S:Nat->Prop}{μ0:Mu}{w0:World}(hS:∀i,S i->i<n)(hR:∀r∈Qs,∀i∈r.R,i<n->S i)(Vx:JL μ0 n n')(hB:B.has w0)(hok0:Ok B S μ0 (Qq H) w0){D:Nat->Bool}(hD:UC ops D){j:Nat}(hn:D j=false)
 (hr:∀o,ops[j]? =some o->∀e∈o.after,Region.binds .any e=true->D e.on=true) {μ:Mu} {A:Array Value} {w:World} (hi:Inv B Qs T H n S μ0 w0 D μ A w) {fr:Frame} {cs:List Frame} {l:List Nat} {k:List Item} (hm:fr.mode=.run)
 {x:Rec} (hj:Qs[j]? =some x) {out:OO} (hdo:SN P B x.o (XV x.T) x.H x.n out x.H' x.n' x.R x.W) (Ub:Region.wanted x.o (XI ops x.T)=true):
 ∃XW μ' w',PG B S (tW Qs (plus D j)) (WD Qs n (plus D j)) μ0 μ' (Qq H) (gD Qs H (plus D j)) w0 w'/\Ext μ μ'/\OR2 μ' out XW/\Steps P (lone (Xe fr A ops (j::l) k) cs w) (lone (XW.on (Xe fr A ops (j::l) k)) cs w'):=by
 have hx:=Lk hj;have hsx:=h.Rx x hx;have ZY:=h.own j x hj;have R9:=JJ Qs T H n T' H' n' h.chain h.Rx;have hxn:=R9.2.1 x hx;have hnewn:∀i,x.n<=i->i<x.n'->¬tW Qs D i:=by
  rintro i h1 h2 ⟨q,r,a,b,c,d⟩;rcases Nat.lt_trichotomy q j with hq|hq|hq
  ·have:=R9.2.2.1 q j r x hq b hj;omega
  ·subst hq;rw[hn]at a;cases a
  ·have:=R9.2.2.1 j q x r hq hj b;omega
 have hsub:∀i,(i∈x.R/\i<x.n)->S i\/tW Qs D i:=fun i hi=>(cover h hD hj hr hi.1 hi.2).imp (hR x hx i hi.1) id
 have hgc:∀i,(i∈x.R/\i<x.n)->Qq x.H i=gD Qs H D i:=fun i hi=>(IL h hD hj hn hr hi.1 hi.2).symm
 have X8:∀i,x.n<=i->i<x.n'->μ i=none:=fun i h1 h2=>by rw[hi.pg.ext i (hnewn i h1 h2)];exact Vx i (by omega) (by omega)
 have UO:Region.wanted x.o (yielded ops A)=true:=by rw[dj h hD hj hn hr hi.tmps];exact Ub
 obtain⟨XW,w',μ',XE,ZQ,XZ⟩:=hdo (fun i=>i∈x.R/\i<x.n) μ w (Xe fr A ops (j::l) k) cs k ops j l ((hi.pg.ok.sub hsub).congr hgc) (hB.pg hok0 hi.pg) (fun i hi=>hi.2) (fun i h1 h2=>X8 i h1 h2)
  (Ax h hD hj hn hr hi.tmps) (fun i h1 h2=>⟨h1,h2⟩) hm rfl ZY UO
 refine⟨XW,μ',w',(hi.pg.then (XE.pg hsx.top) hsub hgc (fun i hi=>⟨fun hs=>by have:=hS i hs;omega,hnewn i hi.1 hi.2⟩) (fun i hi=>X8 i hi.1 hi.2) (G2:=gD Qs H (plus D j)) (fun i hi=>Aw h hD hj hn (hi.imp And.left id))
  (fun i h1 h2=>jh hj ?_)).congr (r4 hj) (fun i=> ?_) (fun _=>rfl),XE.mu fun i h1 h2=>X8 i h1 h2,ZQ,XZ⟩
 ·rintro(hw|hw)
  ·have:=hsx.wlt i hw;rcases LF i x.n with ha|ha
   ·exact h1 ⟨hw,ha⟩
   ·exact h2 ⟨ha,this⟩
  ·exact h2 hw
 ·constructor
  ·rintro(⟨a,q,r,b,c,d⟩|⟨⟨a,b⟩,c⟩)
   ·exact⟨a,q,r,by simp[plus,b],c,d⟩
   ·exact⟨(cover h hD hj hr (hsx.sub i a) b).elim id fun e=>absurd e c,j,x,Vm,hj,a⟩
  ·rintro⟨a,q,r,b,c,d⟩;by_cases e:q=j
   ·subst e;rw[hj]at c;cases c;refine .inr ⟨⟨d,by omega⟩, ?_⟩;rintro⟨q',r',_,b',c',_⟩;have:=(R9.2.1 r' (Lk b')).1;omega
   ·rw[V7 e]at b;exact .inl ⟨a,q,r,b,c,d⟩
theorem yp(h:Setup P B ops Qs bs T H n T' H' n'){S:Nat->Prop}{μ0:Mu}{w0:World}(hS:∀i,S i->i<n)(hR:∀r∈Qs,∀i∈r.R,i<n->S i)(Vx:JL μ0 n n')(hB:B.has w0)(hok0:Ok B S μ0 (Qq H) w0){D:Nat->Bool}(hD:UC ops D){j:Nat}(Xi:j<ops.size)(hn:D j=false)
 (hk:∀x,Qs[j]? =some x->Rv P B ops x) (hr:∀o,ops[j]? =some o->∀e∈o.after,Region.binds .any e=true->D e.on=true) {μ:Mu} {A:Array Value} {w:World} (hi:Inv B Qs T H n S μ0 w0 D μ A w) {fr:Frame} {cs:List Frame} {l:List Nat} {k:List Item} (hm:fr.mode=.run):
 ∃μ' A' w',Inv B Qs T H n S μ0 w0 (plus D j) μ' A' w'/\Steps P (lone (Xe fr A ops (j::l) k) cs w) (lone (Xe fr A' ops l k) cs w'):=by
 obtain⟨x,hj⟩:∃x,Qs[j]? =some x:=⟨Qs[j]'(by rw[h.len];exact Xi),by simp⟩
 have hx:=Lk hj;have hsx:=h.Rx x hx;have ZY:=h.own j x hj;obtain⟨Ub,hdo,hno⟩:=hk x hj;have R9:=JJ Qs T H n T' H' n' h.chain h.Rx;have hxn:=R9.2.1 x hx;have hdst:∀d,x.o.dst=some d->d<A.size:=fun d hd=>by rw[hi.size];exact(hsx.dst d hd).1
 have put:∀(μ':Mu) v',Ext μ μ'->VR μ' x.v v'->(match x.o.dst with|some d=>A.setIfInBounds d v'|none=>A).size=T.len/\∀t,VR μ' (tD Qs T (plus D j) t) ((match x.o.dst with|some d=>A.setIfInBounds d v'|none=>A).getD t undef):=by
  intro μ' v' he hv;refine⟨?_,fun t=> ?_⟩
  ·cases x.o.dst <;> simp[hi.size]
  ·rw[M4 h hD hj hn t];have ho:=(hi.tmps t).mono he;cases hd:x.o.dst with
   |none=>simpa using ho
   |some d=>
    have hdl:=hdst d hd;simp only[YO];by_cases e:d=t
    ·subst e;simpa[hdl]using hv
    ·simp[e]at ho ⊢;exact ho
 cases hrx:x.run with
 |false=>
  obtain⟨hv,hH,hnn,hW⟩:=hno hrx;have UO:Region.wanted x.o (yielded ops A)=false:=by rw[dj h hD hj hn hr hi.tmps,<-Ub];exact hrx
  obtain⟨p1,p2⟩:=put μ undef (Ext.refl _) (by rw[hv];exact VR.undef);refine⟨μ,_,w,⟨hi.pg.congr (fun i=> ?_) (fun i=> ?_) (fun i=> ?_),p1,p2⟩,Steps.one ((dv hm ZY UO).trans (by rw[T8 ZY]))⟩
  ·rw[<-r4 hj i];exact⟨.inl,fun h=>h.elim id fun h=>absurd h.1 (by omega)⟩
  ·refine and_congr Iff.rfl ⟨?_, ?_⟩
   ·rintro⟨q,r,a,b,c⟩;exact⟨q,r,by simp[plus,a],b,c⟩
   ·rintro⟨q,r,a,b,c⟩;by_cases e:q=j
    ·subst e;rw[hj]at b;cases b;rw[hW]at c;simp at c
    ·rw[V7 e]at a;exact⟨q,r,a,b,c⟩
  ·exact(jh hj (by rw[hW];rintro(h|h) <;> first|(simp at h;done)|omega)).symm
 |true=>
  obtain⟨XW,μ',w',hpg,hext,ZQ,XZ⟩:=yq h hS hR Vx hB hok0 hD hn hr hi (fr:=fr) (cs:=cs) (l:=l) (k:=k) hm hj (hdo hrx) (by rw[<-Ub];exact hrx);cases ZQ with
  |ret hv=>
   rename_i v';obtain⟨p1,p2⟩:=put μ' v' hext hv;exact⟨μ',_,w',⟨hpg,p1,p2⟩,XZ.trans (by simp only[OO.on];rw[T8 ZY];exact Steps.refl _ _)⟩
end
end Go.CE
