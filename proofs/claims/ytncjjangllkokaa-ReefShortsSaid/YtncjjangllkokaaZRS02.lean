/- CE: what single operations do. Seventh part: maps; all of them together. -/
import Derived.Test.YtncjjangllkokaaZRS01
set_option linter.all false
open Nat renaming blt->Ls,ble_eq_true_of_le->LH,beq->Lk,ble->LO,min->LU,le_refl->LC,lt_or_ge->LI,strongRecOn->LQ,zero_add->LF
open Option renaming map_some->LJ
open Array renaming getElem?_toList->Lq,eq_empty_of_size_eq_zero->LN
open List renaming getElem?_cons_zero->Lv,mem_cons_of_mem->Lw,mem_of_getElem? ->Lp,getD_eq_getElem?_getD->Lu,getElem?_append_left->LG,range->Ln,getElem?_append_right->Lt,getElem?_map->LA,getElem?_eq_getElem->L9,mem_append_left->Ll
namespace Go.CE
open Go Go.RowKit

def fF:Nat:=9223372036854775808
def wq(n:Int):Int:=match n with
 | .ofNat m=>bif Ls m fF then .ofNat m else IntKind.i64.wrap (.ofNat m)
 | .negSucc m=>bif Ls m fF then .negSucc m else IntKind.i64.wrap (.negSucc m)
theorem blt_eq(m k:Nat):Ls m k=decide (m<k):=by
 by_cases h:m<k
 ·rw[decide_eq_true h];exact LH h
 ·rw[decide_eq_false h];cases e:Ls m k with
  |false=>rfl
  |true=>exact absurd (YL e) h
theorem Ga(m k:Nat):Lk m k=decide (m=k):=by
 by_cases h:m=k
 ·subst h;simp
 ·rw[SB h,decide_eq_false h]
theorem G9(m:Nat):wq (.ofNat m)=IntKind.i64.wrap (.ofNat m):=by
 show(bif Ls m fF then Int.ofNat m else IntKind.i64.wrap (.ofNat m))=_;rw[blt_eq];by_cases h:m<fF
 ·rw[decide_eq_true h,cond_true,IntKind.wrap_i64,Int.ofNat_eq_natCast];unfold fF at h;omega
 ·rw[decide_eq_false h,cond_false]
theorem GA(m:Nat):wq (.negSucc m)=IntKind.i64.wrap (.negSucc m):=by
 show(bif Ls m fF then Int.negSucc m else IntKind.i64.wrap (.negSucc m))=_;rw[blt_eq];by_cases h:m<fF
 ·rw[decide_eq_true h,cond_true,IntKind.wrap_i64,Int.negSucc_eq];unfold fF at h;omega
 ·rw[decide_eq_false h,cond_false]
theorem Ge(n:Int):wq n=IntKind.i64.wrap n:=by
 cases n with
 |ofNat m=>exact G9 m
 |negSucc m=>exact GA m
def Zs:Int->Int->Bool
 | .ofNat a,.ofNat b=>Ls a b
 | .ofNat _,.negSucc _=>false
 | .negSucc _,.ofNat _=>true
 | .negSucc a,.negSucc b=>Ls b a
theorem pM(a b:Int):Zs a b=decide (a<b):=by
 rw[Bool.eq_iff_iff];cases a <;> cases b <;> simp only[Zs,blt_eq,Int.ofNat_eq_natCast,Int.negSucc_eq,decide_eq_true_eq,Bool.false_eq_true,false_iff,true_iff] <;> omega
def T3:Int->Int->Bool
 | .ofNat a,.ofNat b=>Lk a b
 | .negSucc a,.negSucc b=>Lk a b
 |_,_=>false
theorem eB(a b:Int):T3 a b=(a==b):=by
 rw[Bool.eq_iff_iff];cases a <;> cases b <;> simp only[T3,Ga,beq_iff_eq,decide_eq_true_eq,Int.ofNat_eq_natCast,Int.negSucc_eq,Bool.false_eq_true,false_iff] <;> omega
def xo:BinOp->Value->Value->Option Value
 | .add,.int .i64 a,.int .i64 b=>some (.int .i64 (wq (a+b)))
 | .sub,.int .i64 a,.int .i64 b=>some (.int .i64 (wq (a-b)))
 | .mul,.int .i64 a,.int .i64 b=>some (.int .i64 (wq (a*b)))
 | .eql,.int .i64 a,.int .i64 b=>some (.bool (T3 a b))
 | .neq,.int .i64 a,.int .i64 b=>some (.bool (!(T3 a b)))
 | .lss,.int .i64 a,.int .i64 b=>some (.bool (Zs a b))
 | .gtr,.int .i64 a,.int .i64 b=>some (.bool (Zs b a))
 | .leq,.int .i64 a,.int .i64 b=>some (.bool (!(Zs b a)))
 | .geq,.int .i64 a,.int .i64 b=>some (.bool (!(Zs a b)))
 |_,_,_=>none
theorem DJ{P:Program}{op:BinOp}{t:TypeId}{x y:Operand}{a b v:Value}(h:xo op a b=some v)(w:World):(do eqGuard op t x y a b;binOp op t a b:Sem Value).run P w=.ok v w/\(∀μ,VR μ v v)/\(∀μ a',VR μ a a'->a'=a)/\(∀μ b',VR μ b b'->b'=b):=by
 have hle:∀a b:Int,(!(Zs b a))=decide (a<=b):=fun a b=>by
  rw[pM,Bool.eq_iff_iff];simp only[Bool.not_eq_true',decide_eq_false_iff_not,decide_eq_true_eq];omega
 unfold xo at h;split at h <;> first
  |(cases h;done)
  |(simp only[YO]at h
    subst h;refine⟨?_,fun μ=>by first|exact .int _ _|exact .bool _,fun μ a' ha=>by cases ha;rfl,fun μ b' hb=>by cases hb;rfl⟩
    first
     |(simp[eqGuard,binOp,Op.intArith,Ge];done)
     |(simp[eqGuard,binOp,Op.intCmp,eB];done)
     |(simp[eqGuard,binOp,Op.intCmp,eB,bne];done)
     |(simp[eqGuard,binOp,Op.intCmp,pM];done)
     |(simp[eqGuard,binOp,Op.intCmp,hle];done))

theorem Zx{α β:Type}{P:Program}(s:Sem α)(f:α->Sem β):Xx P (s >>=f)=match Xx P s with|some a=>Xx P (f a)|none=>none:=by
 show Xx P (s.bind f)=_;induction s with
 |pure a=>rfl
 |program k ih=>exact ih P
 |_=>rfl
theorem WG{α:Type}{P:Program}(a:α):Xx P (pure a:Sem α)=some a:=rfl

def ER(μ:Mu)(es Kg:List MapEntry):Prop:=es.length=Kg.length/\∀(i:Nat) e e',es[i]? =some e->Kg[i]? =some e'->e'.key=e.key/\e'.born=e.born/\af e.key=true/\VR μ e.val e'.val
theorem ER.tail{μ:Mu}{e e':MapEntry}{es Kg:List MapEntry}(h:ER μ (e::es) (e'::Kg)):ER μ es Kg:=⟨by simpa using h.1,fun i a b x y=>h.2 (i+1) a b (by simpa using x) (by simpa using y)⟩
def FR(μ:Mu):Option (Nat×Value)->Option (Nat×Value)->Prop
 |none,none=>True
 |some (i,v),some (i',v')=>i'=i/\VR μ v v'
 |_,_=>False
theorem md{μ:Mu}{kind:TypeDesc}{k:Value}:∀(es Kg:List MapEntry) (i:Nat),ER μ es Kg->(∀r,Instr.findNow kind k es i=some r->∃r',Instr.findNow kind k Kg i=some r'/\FR μ r r')/\(Instr.findNow kind k es i=none->Instr.findNow kind k Kg i=none)
 |[],[],i,_=>by
  refine⟨fun r h=> ?_,fun h=>by simp[Instr.findNow]at h⟩;simp only[Instr.findNow,YO]at h;subst h;exact⟨none,rfl,trivial⟩
 |e::es,e'::Kg,i,h=>by
  obtain⟨h1,_,_,h4⟩:=h.2 0 e e' rfl rfl;simp only[Instr.findNow,h1];cases Instr.sameNow kind k e.key with
  |none=>exact⟨fun r h=>(by cases h),fun _=>rfl⟩
  |some b=>
   cases b with
   |true=>exact⟨fun r h=>by simp only[YO]at h;subst h;exact⟨_,rfl,rfl,h4⟩,fun h=>by cases h⟩
   |false=>exact md es Kg (i+1) h.tail
 |[],_::_,_,h=>by have:=h.1;simp at this
 |_::_,[],_,h=>by have:=h.1;simp at this
theorem aC{P:Program}{μ:Mu}{kt:TypeId}{k:Value}:∀(es Kg:List MapEntry) (i:Nat) r,ER μ es Kg->Xx P (Instr.findAsking kt k es i)=some r->∃r',Xx P (Instr.findAsking kt k Kg i)=some r'/\FR μ r r'
 |[],[],i,r,_,h=>by
  simp only[Instr.findAsking,WG,YO]at h;subst h;exact⟨none,rfl,trivial⟩
 |e::es,e'::Kg,i,r,h,hr=>by
  obtain⟨h1,_,_,h4⟩:=h.2 0 e e' rfl rfl;simp only[Instr.findAsking,h1,Zx]at hr ⊢;cases hq:Xx P (Op.equal kt k e.key)with
  |none=>rw[hq]at hr;cases hr
  |some b=>
   rw[hq]at hr;cases b with
   |true=>
    simp only[if_true,WG,YO]at hr ⊢;subst hr;exact⟨_,rfl,rfl,h4⟩
   |false=>
    simp only[Bool.false_eq_true,if_false]at hr ⊢;exact aC es Kg (i+1) r h.tail hr
 |[],_::_,_,_,h,_=>by have:=h.1;simp at this
 |_::_,[],_,_,h,_=>by have:=h.1;simp at this
theorem bk{P:Program}{μ:Mu}{kt:TypeId}{k:Value}{es Kg:List MapEntry}{r:Option (Nat×Value)}(h:ER μ es Kg)(hr:Xx P (Instr.findKey kt k es)=some r):∃r',Xx P (Instr.findKey kt k Kg)=some r'/\FR μ r r':=by
 simp only[Instr.findKey,Zx]at hr ⊢;cases hu:Xx P (underlying kt)with
 |none=>rw[hu]at hr;cases hr
 |some d=>
  rw[hu]at hr;dsimp only at hr ⊢;obtain⟨h1,h2⟩:=md (kind:=d) (k:=k) es Kg 0 h;cases hf:Instr.findNow d k es 0 with
  |some r0=>
   rw[hf]at hr;obtain⟨r',hr',hv⟩:=h1 r0 hf;simp only[WG,YO]at hr;subst hr;rw[hr'];exact⟨r',rfl,hv⟩
  |none=>
   rw[hf]at hr;rw[h2 hf];exact aC es Kg 0 r h hr
theorem ER.of{μ:Mu}{es Kg:Array MapEntry}(h1:es.size=Kg.size)(h2:∀(i:Nat) e e',es[i]? =some e->Kg[i]? =some e'->e'.key=e.key/\e'.born=e.born/\af e.key=true/\VR μ e.val e'.val):ER μ es.toList Kg.toList:=
 ⟨by simpa using h1,fun i a b x y=>h2 i a b (by simpa using x) (by simpa using y)⟩
theorem bj{P:Program}{w:World}{b:Nat}{es:Array MapEntry}{JS:Nat}(h:w.heap[b]? =some (.map es JS)):(getObj b).run P w=.ok (.map es JS) w:=by simp[getObj,Sem.run,h]
def SA(P:Program)(t:TypeId)(H:Qr)(ok:Bool)(x k:Value):Option (Value×List Nat):=
 match JO P t with
 |some (.map kt e)=>
  match(match x with
   | .map none=>some (#[],[])
   | .map (some r)=>match Qu H r with
     |some (.map es _)=>some (es,[r])
     |_=>none
   |_=>none:Option (Array MapEntry×List Nat))with
  |some (es,R)=>bif af k then
   match Xx P (Instr.checkKey es.isEmpty 10000 kt k),Xx P (Instr.findKey kt k es.toList),zeroOf P e with
   |some (),some (some (_,v)),_=>some (bif ok then .tuple #[v,.bool true]else v,R)
   |some (),some none,some z=>bif af z then some (bif ok then .tuple #[z,.bool false]else z,R)else none
   |_,_,_=>none
    else none
  |none=>none
 |_=>none
theorem xA{μ:Mu}{a a' b b':Value}(h:VR μ a a')(k:VR μ b b'):VR μ (.tuple #[a,b]) (.tuple #[a',b']):=by
 refine .tuple rfl fun i v v' hv Wn=> ?_
 rcases i with _|_|i
 ·simp at hv Wn;subst hv Wn;exact h
 ·simp at hv Wn;subst hv Wn;exact k
 ·simp at hv
theorem uU{P:Program}{B:Nat}{S:Nat->Prop}{μ:Mu}{H:Qr}{w:World}{t:TypeId}{ok:Bool}{x k x' k' v:Value}{R:List Nat}(h:SA P t H ok x k=some (v,R))(QH:Ok B S μ (Qu H) w)(hx:VR μ x x')(hk:VR μ k k')(hR:∀i∈R,S i):
 ∃v',(Instr.lookup t x' k' ok).run P w=.ok v' w/\VR μ v v':=by
 unfold SA at h;simp only[ZK]at h;split at h
 ·rename_i kt e hu;split at h
  ·rename_i es R0 hes;cases hak:af k with
   |false=>rw[hak]at h;cases h
   |true=>
    rw[hak]at h;simp only[cond_true]at h;have hkk:k'=k:=RK hak hk;subst hkk;have hRR:R0=R:=by
     split at h
     ·simp only[YO,YR]at h;exact h.2
     ·rename_i z _ _ _;cases hz:af z with
      |false=>rw[hz]at h;cases h
      |true=>rw[hz]at h;simp only[cond_true,YO,YR]at h;exact h.2
     ·cases h
    subst hRR
    -- the entries in the world
    have hent:∃Kg,ER μ es.toList Kg.toList/\(x'=.map none/\Kg=#[]\/∃b JS,x'=.map (some b)/\w.heap[b]? =some (.map Kg JS)):=by
     split at hes
     ·simp only[YO,YR]at hes;obtain⟨rfl,_⟩:=hes;cases hx;exact⟨#[],⟨rfl,fun i a b x _=>by simp at x⟩,.inl ⟨rfl,rfl⟩⟩
     ·rename_i r;split at hes
      ·rename_i es0 JS hg;simp only[YO,YR]at hes;obtain⟨rfl,rfl⟩:=hes;obtain⟨im,QP,_,Kg,hw,h1,h2⟩:=QH.rel r _ (hR r (by simp)) hg trivial;cases hx with
       |map hm=>
        rw[QP]at hm;cases hm;exact⟨Kg,.of h1 h2,.inr ⟨im.Z7,JS,rfl,hw⟩⟩
      ·cases hes
     ·cases hes
    obtain⟨Kg,hER,VY⟩:=hent;have hemp:Kg.isEmpty=es.isEmpty:=by
     have h1:=hER.1;simp only[Array.length_toList]at h1;rw[Bool.eq_iff_iff];simp only[Array.isEmpty_iff_size_eq_zero];omega
    have run2:∀r v0,Xx P (Instr.checkKey es.isEmpty 10000 kt k')=some ()->Xx P (Instr.findKey kt k' es.toList)=some r->
     (∀r',FR μ r r'->∃v',(do let(v,ok') <-(match r' with|some (_,v)=>pure (v,true)|none=>do pure (<-zeroValue e,false):Sem (Value×Bool));pure (if ok then .tuple #[v,.bool ok']else v):Sem Value).run P w=.ok v' w/\VR μ v0 v')->
     ∃v',(Instr.lookup t x' k' ok).run P w=.ok v' w/\VR μ v0 v':=by
     intro r v0 hc hf hfin;obtain⟨r',hr',XM⟩:=bk hER hf;obtain⟨v',Wn,Vw⟩:=hfin r' XM;refine⟨v', ?_,Vw⟩;have hc':=Uo hc w;have hr'':=Uo hr' w;rw[<-hemp]at hc';simp only[Sem.run_bind]at Wn;rcases VY with ⟨rfl,rfl⟩|⟨b,JS,rfl,hw⟩
     ·simp only[Instr.lookup,Sem.run_bind,run_underlying hu,Result.andThen_ok,Sem.run_pure,hc',hr''];cases r' <;> first|simpa using Wn|(simp only[Sem.run_bind]at Wn;cases hzr:Sem.run P (zeroValue e) w <;> rw[hzr]at Wn <;> first|(cases Wn;done)|simpa[hzr]using Wn)
     ·simp only[Instr.lookup,Sem.run_bind,run_underlying hu,Result.andThen_ok,Sem.run_pure,bj hw,hc',hr''];cases r' <;> first|simpa using Wn|(simp only[Sem.run_bind]at Wn;cases hzr:Sem.run P (zeroValue e) w <;> rw[hzr]at Wn <;> first|(cases Wn;done)|simpa[hzr]using Wn)
    split at h
    ·rename_i i0 v0 hc hf;simp only[YO,YR]at h;obtain⟨rfl,_⟩:=h;refine run2 _ _ hc hf fun r' XM=> ?_
     cases r' with
     |none=>exact XM.elim
     |some p=>
      obtain⟨i',v'⟩:=p;cases ok with
      |true=>exact⟨_,rfl,xA XM.2 (.bool true)⟩
      |false=>exact⟨_,rfl,XM.2⟩
    ·rename_i z hc hf hz;cases haz:af z with
     |false=>rw[haz]at h;cases h
     |true=>
      rw[haz]at h;simp only[cond_true,YO,YR]at h;obtain⟨rfl,_⟩:=h;refine run2 _ _ hc hf fun r' XM=> ?_
      cases r' with
      |some p=>exact XM.elim
      |none=>
       cases ok with
       |true=>exact⟨.tuple #[z,.bool false],by simp[aG hz],xA (Jk haz) (.bool false)⟩
       |false=>exact⟨z,by simp[aG hz],Jk haz⟩
    ·cases h
  ·cases h
 ·cases h
def Kj(P:Program)(t:TypeId)(H:Qr)(x k v:Value):Option (Qr×Nat):=
 match JO P t,x with
 |some (.map kt _),.map (some r)=>match Qu H r with
  |some (.map es JS)=>bif af k then
   match Xx P (Instr.checkKey false 10000 kt k),Xx P (Instr.findKey kt k es.toList)with
   |some (),some (some (i,_))=>match es[i]? with
    |some e=>bif Instr.sameBits 10000 e.key k then some (VD H r (.map (es.setIfInBounds i {e with key:=k,val:=v}) JS),r)else none
    |none=>none
   |some (),some none=>some (VD H r (.map (es.push {key:=k,val:=v,born:=JS}) (JS+1)),r)
   |_,_=>none
    else none
  |_=>none
 |_,_=>none
theorem iE{P:Program}{w:World}{b:Nat}{es:Array MapEntry}{JS:Nat}(o:Obj)(h:w.heap[b]? =some (.map es JS)):(setObj b o).run P w=.ok () {w with heap:=w.heap.setIfInBounds b o}:=by simp[setObj,Sem.run,h]
theorem my{P:Program}{B n:Nat}{S:Nat->Prop}{μ:Mu}{H H':Qr}{w:World}{t:TypeId}{x k v x' k' v':Value}{b:Nat}(h:Kj P t H x k v=some (H',b))(QH:Ok B S μ (Qu H) w)(hS:∀i,S i->i<n)(hx:VR μ x x')(hk:VR μ k k')(hv:VR μ v v')(hb:S b):
 ∃w',(Instr.mapUpdate t x' k' v').run P w=.ok () w'/\Post B S n n [b] μ μ H H' w w':=by
 unfold Kj at h;simp only[ZK]at h;split at h
 ·rename_i kt e0 r hu;split at h
  ·rename_i es JS hg;cases hak:af k with
   |false=>rw[hak]at h;cases h
   |true=>
    rw[hak]at h;simp only[cond_true]at h;have hkk:k'=k:=RK hak hk;subst hkk;have hbr:r=b:=by
     split at h
     ·split at h
      ·rename_i e _;cases hs:Instr.sameBits 10000 e.key k' with
       |false=>rw[hs]at h;cases h
       |true=>rw[hs]at h;simp only[cond_true,YO,YR]at h;exact h.2
      ·cases h
     ·simp only[YO,YR]at h;exact h.2
     ·cases h
    subst hbr;obtain⟨im,QP,hr,Kg,hw,h1,h2⟩:=QH.rel r _ hb hg trivial;have hER:=ER.of h1 h2;have Xu:im.Z7<w.heap.size:=(Array.getElem?_eq_some_iff.1 hw).1;cases hx with
    |map hm=>
     rw[QP]at hm;cases hm;have fin:∀(es2 es2':Array MapEntry) (clk2:Nat),ER μ es2.toList es2'.toList->
      Post B S n n [r] μ μ H (VD H r (.map es2 clk2)) w {w with heap:=w.heap.setIfInBounds im.Z7 (.map es2' clk2)}:=by
      intro es2 es2' clk2 hE;refine Post.write QH hS r _ _ im hb hg trivial QP hr (by simp) (fun q hq=> ?_) ⟨hr,es2', ?_,by simpa using hE.1,fun i a c ha hc=>hE.2 i a c (by simpa using ha) (by simpa using hc)⟩ ⟨rfl,rfl,rfl⟩
      ·simp[Array.getElem?_setIfInBounds_ne (Ne.symm hq)]
      ·simp[Xu]
     split at h
     ·rename_i i v0 hc hf;split at h
      ·rename_i e he;cases hs:Instr.sameBits 10000 e.key k' with
       |false=>rw[hs]at h;cases h
       |true=>
        rw[hs]at h;simp only[cond_true,YO,YR]at h;obtain⟨rfl,_⟩:=h;obtain⟨r',hr',XM⟩:=bk hER hf;cases r' with
        |none=>exact XM.elim
        |some p=>
         obtain⟨i',v0'⟩:=p;obtain⟨rfl,_⟩:=XM;have hi:i'<Kg.size:=h1 ▸ (Array.getElem?_eq_some_iff.1 he).1;obtain⟨e',he'⟩:∃e',Kg[i']? =some e':=⟨Kg[i'],by simp[hi]⟩
         obtain⟨q1,q2,q3,q4⟩:=h2 i' e e' he he';have hmod:Kg.modify i' (fun e=>{e with key:=k',val:=v'})=Kg.setIfInBounds i' {e' with key:=k',val:=v'}:=by
          apply Array.ext (by simp);intro j hj hj';simp only[Array.size_modify]at hj;have hee:Kg[i']=e':=by simpa[hi]using he'
          rw[Array.getElem_modify];by_cases e1:i'=j
          ·subst e1;simp[hee]
          ·simp[e1,hj]
         refine⟨_, ?_,fin _ (Kg.setIfInBounds i' {e' with key:=k',val:=v'}) JS ?_⟩
         ·simp only[Instr.mapUpdate,Sem.run_bind,run_underlying hu,Result.andThen_ok,bj hw,Uo hc,Uo hr',he',LJ,Option.getD_some,q1,Instr.keyThatStays,hs,if_true,Sem.run_pure];rw[iE _ hw,hmod]
         ·refine⟨by simpa using h1,fun j a c ha hc=> ?_⟩;simp only[Lq]at ha hc;rw[Array.getElem?_setIfInBounds]at ha hc;by_cases e1:i'=j
          ·subst e1;rw[if_pos rfl]at ha hc;rw[if_pos (by rw[h1];exact hi)]at ha;rw[if_pos hi]at hc;cases ha;cases hc;exact⟨rfl,q2,hak,hv⟩
          ·rw[if_neg e1]at ha hc;exact h2 j a c ha hc
      ·cases h
     ·rename_i hc hf;simp only[YO,YR]at h;obtain⟨rfl,_⟩:=h;obtain⟨r',hr',XM⟩:=bk hER hf;cases r' with
      |some p=>exact XM.elim
      |none=>
       refine⟨_, ?_,fin _ (Kg.push {key:=k',val:=v',born:=JS}) (JS+1) ?_⟩
       ·simp only[Instr.mapUpdate,Sem.run_bind,run_underlying hu,Result.andThen_ok,bj hw,Uo hc,Uo hr'];rw[iE _ hw]
       ·refine⟨by simpa using h1,fun j a c ha hc=> ?_⟩;simp only[Lq]at ha hc;rw[Array.getElem?_push]at ha hc;rw[<-h1]at hc;split at ha
        ·rename_i e1;rw[if_pos e1]at hc;cases ha;cases hc;exact⟨rfl,rfl,hak,hv⟩
        ·rename_i e1;rw[if_neg e1]at hc;exact h2 j a c ha hc
     ·cases h
  ·cases h
 ·cases h
def uV(P:Program)(t:TypeId)(H:Qr)(n:Nat)(s x:Value):Option CR:=
 match JO P t with
 |some (.slice e)=>match WQ P e with
  |some z=>match s,x with
   | .slice (some ⟨b,off,none⟩) k _,.slice (some ⟨b2,off2,none⟩) m _=>match Qu H b,Qu H b2 with
     |some (.cells cs te (0,0)),some (.cells cs2 _ _)=>
      bif LO (off+LU m k*z) cs.size && LO (off2+LU m k*z) cs2.size && ones (cs2.extract off2 (off2+LU m k*z))then
       some ⟨.val (.int .i64 (LU m k)),VD H b (.cells (splice cs off (cs2.extract off2 (off2+LU m k*z))) te (0,0)),n,[b,b2],[b]⟩else none
     |_,_=>none
   |_,_=>none
  |none=>none
 |_=>none
theorem Aq{P:Program}{B n:Nat}{S:Nat->Prop}{μ:Mu}{H:Qr}{w:World}{t t2 ty:TypeId}{s x s' x':Value}{r:CR}(h:uV P t H n s x=some r)(QH:Ok B S μ (Qu H) w)(hS:∀i,S i->i<n)
 (hs:VR μ s s') (hx:VR μ x x') (hR:∀i∈r.R,S i):
 ∃v w',(Builtin.copy_ #[t,t2] ty #[s',x']).run P w=.ok v w'/\Post B S n r.n r.W μ μ H r.H w w'/\r.nx=.val v/\VR μ v v/\r.n=n:=by
 unfold uV at h;simp only[ZK]at h;split at h
 ·rename_i e hu;split at h
  ·rename_i z hz;split at h
   ·rename_i b off k cap b2 off2 m cap2;split at h
    ·rename_i cs te cs2 te2 fz2 hg hg2;cases hcond:(LO (off+LU m k*z) cs.size && LO (off2+LU m k*z) cs2.size && ones (cs2.extract off2 (off2+LU m k*z)))with
     |false=>rw[hcond]at h;cases h
     |true=>
      rw[hcond]at h;simp only[cond_true,YO]at h;subst h;simp only[YB]at hcond;obtain⟨⟨h1,h2⟩,h3⟩:=hcond;have h1:=YL h1;have h2:=YL h2;have hb:S b:=hR b (by simp);have hb2:S b2:=hR b2 (by simp);obtain⟨im,QP,We⟩:=QH.rel b _ hb hg trivial;obtain⟨im2,WJ,hor2⟩:=QH.rel b2 _ hb2 hg2 trivial;cases hs with
      |slice har q1 q2 q3=>
       obtain⟨ZL,QZ,_,rfl⟩:=har;simp only at QZ;rw[QP]at QZ;cases QZ;cases hx with
       |slice har2 p1 p2 p3=>
        obtain⟨im2',him2',_,rfl⟩:=har2;simp only at him2';rw[WJ]at him2';cases him2';obtain⟨xs,hload,hxs⟩:=hor2.cells (P:=P) (off:=off2) (s:=LU m k*z) h2;have hxsz:xs.size=LU m k*z:=by rw[<-hxs.1];simp;omega
        have hexsz:(cs2.extract off2 (off2+LU m k*z)).size=LU m k*z:=by simp;omega
        rcases We with ⟨_,hr,ho,arr,ha,hle,hcap,hc⟩|⟨hz0,_⟩
        ·have Zm:=run_storeCells_at (P:=P) im.Z7 off te xs.toList 0 arr w ha (by simp[hxsz];omega) (hxs.ones h3);simp only[Nat.add_zero]at Zm;refine⟨.int .i64 (LU m k),w.setRow im.Z7 (CE.splice arr off xs), ?_,Post.write QH hS b _ (.cells (CE.splice cs off (cs2.extract off2 (off2+LU m k*z))) te (0,0)) im hb hg trivial QP hr (w':=w.setRow im.Z7 (CE.splice arr off xs)) ?_ ?_ ?_ ⟨rfl,rfl,rfl⟩,rfl,.int _ _,rfl⟩
         ·simp[Builtin.copy_,Builtin.lenOf,Builtin.firstCells,Sem.run_bind,Sem.run_pure,Result.andThen_ok,run_underlying hu,Zz hz,hload,ho,Zm,CE.splice,goInt]
         ·simp[World.setRow]
         ·intro y hy;exact setRow_other w im.Z7 y _ hy
         ·refine .inl ⟨rfl,hr,ho,CE.splice arr off xs,setRow_heap w im.Z7 arr _ te _ ha, ?_, ?_, ?_⟩
          ·rw[WU (by rw[hexsz];omega),WU (by rw[hxsz];omega)];exact hle
          ·rw[WU (by rw[hxsz];omega)];exact hcap
          ·exact VRs.splice (by rw[hexsz];omega) hle hc hxs
        ·exact absurd rfl hz0
    ·cases h
   ·cases h
  ·cases h
 ·cases h
end Go.CE

namespace Go.CE
open Go Go.RowKit

def Dz(ev:Operand->Option Value):Option Operand->Option (Option Value)
 |none=>some none
 |some x=>match ev x with
  |some v=>some (some v)
  |none=>none
def mkPure(o:Option Value)(H:Qr)(n:Nat):Option CR:=match o with|some v=>some ⟨.val v,H,n,[],[]⟩|none=>none
def gY(P:Program)(t:TypeId)(len:Nat)(l:List (Nat×Value)):Bool:=Lk len 0 && l.isEmpty && (match JO P t with
 |some (.slice e)=>(WQ P e).isSome
 |_=>false)
theorem Post.ofBelow{B n:Nat}{S:Nat->Prop}{μ:Mu}{H:Qr}{w w':World}(QH:Ok B S μ (Qu H) w)(h:Below w.heap.size w w'):Post B S n n [] μ μ H H w w':=by
 refine⟨⟨fun i o hi ho hl=> ?_,fun i o im hi ho hl QP=> ?_,fun i j oi oj a b hi hj=> ?_,fun i o hi ho hr=> ?_,fun i j oi oj a b x hi hj=> ?_⟩,LC _,fun _ _=>rfl,fun _ _ _=>rfl,h.size,fun b hb _=>h.block b hb,fun _ h=>by simp at h,fun i im o h1 h2=>absurd h1 (by omega),fun i im o h1=>h1.elim (fun h1=>absurd h1.1 (by omega)) (fun h=>by simp at h),h.os,h.tape,h.output⟩
 ·have hi:=hi.elim id fun h=>absurd h.1 (by omega)
  obtain⟨im,QP,hr⟩:=QH.rel i o hi ho hl;exact⟨im,QP,hr.keep (Ext.refl _) (h.block _ (QH.low i o im hi ho hl QP).1)⟩
 ·have hi:=hi.elim id fun h=>absurd h.1 (by omega)
  have:=QH.low i o im hi ho hl QP;exact⟨Nat.lt_of_lt_of_le this.1 h.size,this.2⟩
 ·exact QH.inj i j oi oj a b (hi.elim id fun h=>absurd h.1 (by omega)) (hj.elim id fun h=>absurd h.1 (by omega))
 ·have hi:=hi.elim id fun h=>absurd h.1 (by omega)
  obtain⟨im,QP,hf⟩:=QH.Y6 i o hi ho hr;exact⟨im,QP,fun b x hx=>by rw[h.block b (Y8 QH hi ho hr QP hx)];exact hf b x hx⟩
 ·exact QH.sep i j oi oj a b x (hi.elim id fun h=>absurd h.1 (by omega)) (hj.elim id fun h=>absurd h.1 (by omega))
def qM(P:Program)(F:FuncId->Bool)(ev:Operand->Option Value)(o:Oper)(H:Qr)(n:Nat):Option CR:=
 match o.op with
 | .move x| .assign x=>mkPure (ev x) H n
 | .pick c a b=>match ev c with
   |some (.bool t)=>mkPure (ev (bif t then a else b)) H n
   |_=>none
 | .alloc t=>match zeroOf P t with
   |some z=>bif af z then some ⟨.val (w5 n),(n,.cells z.cells t (0,0))::H,n+1,[],[]⟩else none
   |none=>none
 | .box t x=>match ev x with
   |some v=>some ⟨.val (w5 n),(n,.cells v.cells t (0,0))::H,n+1,[],[]⟩
   |none=>none
 | .build t ps=>match partsOf ev ps.toList with
   |some l=>mkPure (qw P t l) H n
   |none=>none
 | .buildSlice t len ps=>match partsOf ev ps.toList with
   |some l=>match Pv P t len l with
    |some (e,cs,s)=>some ⟨.val (.slice (some ⟨n,0,none⟩) len s),(n,.cells cs e (0,0))::H,n+1,[],[]⟩
    |none=>bif gY P t len l then some ⟨.val Tq,H,n,[],[]⟩else none
   |none=>none
 | .load t a=>match ev a with
   |some p=>match RH P t H p with
    |some (v,b)=>some ⟨.val v,H,n,[b],[]⟩
    |none=>none
   |none=>none
 | .store t a x=>match ev a,ev x with
   |some p,some v=>match PA P t H v p with
    |some (H',b)=>some ⟨.val undef,H',n,[b],[b]⟩
    |none=>none
   |_,_=>none
 | .fieldAddr s x f=>match ev x with
   |some p=>mkPure (WA P s f p) H n
   |none=>none
 | .field t x f=>match ev x with
   |some p=>mkPure (eH P t f p) H n
   |none=>none
 | .indexAddr t x i=>match ev x,ev i with
   |some v,some k=>mkPure (KX P t v k) H n
   |_,_=>none
 | .index t x i=>match ev x,ev i with
   |some (.agg cs),some k=>mkPure (qu P t (.agg cs) k) H n
   |_,_=>mkPure (Uw P ev o) H n
 | .extract x i=>match ev x with
   |some v=>mkPure (RI i v) H n
   |none=>none
 | .makeSlice t l c=>match ev l,ev c with
   |some x,some y=>match SG P t x y with
    |some (e,cs,l,s)=>some ⟨.val (.slice (some ⟨n,0,none⟩) l s),(n,.cells cs e (0,0))::H,n+1,[],[]⟩
    |none=>none
   |_,_=>none
 | .slice t x lo hi none=>match ev x,Dz ev lo,Dz ev hi with
   |some (.slice (some a) m s),some l,some h=>mkPure (eG P t (.slice (some a) m s) l h) H n
   |some (.pointer p),some l,some h=>mkPure (eG P t (.pointer p) l h) H n
   |_,_,_=>mkPure (Uw P ev o) H n
 | .slice t x lo (some hi) (some mx)=>bif az P t (ev x) (Dz ev lo) (ev hi) (ev mx)then some ⟨.val Tq,H,n,[],[]⟩else mkPure (Uw P ev o) H n
 | .makeFunc (.func f) first captured=>match JJ ev first.toList,JJ ev captured.toList with
   |some xs,some ys=>some ⟨.val (.func (.func f) xs.toArray ys.toArray),H,n,[],[]⟩
   |_,_=>none
 | .makeMap _ none=>some ⟨.val (.map (some n)),(n,.map #[] 0)::H,n+1,[],[]⟩
 | .lookup t x k ok=>match ev x,ev k with
   |some m,some kv=>match SA P t H ok m kv with
    |some (v,R)=>some ⟨.val v,H,n,R,[]⟩
    |none=>none
   |_,_=>none
 | .mapUpdate t m k x=>match ev m,ev k,ev x with
   |some mv,some kv,some v=>match Kj P t H mv kv v with
    |some (H',b)=>some ⟨.val undef,H',n,[b],[b]⟩
    |none=>none
   |_,_,_=>none
 | .binOp op _ x y _=>match ev x,ev y with
   |some a,some b=>match xo op a b with
    |some v=>some ⟨.val v,H,n,[],[]⟩
    |none=>mkPure (Uw P ev o) H n
   |_,_=>none
 | .nilCheck x=>match ev x with
   |some (.pointer (some a))=>some ⟨.val (.pointer (some a)),H,n,[],[]⟩
   |some (.func (.func f) xs ys)=>some ⟨.val (.func (.func f) xs ys),H,n,[],[]⟩
   |some (.func (.yield f) xs ys)=>some ⟨.val (.func (.yield f) xs ys),H,n,[],[]⟩
   |_=>none
 | .call c=>match c.callee with
   | .builtin .append=>match c.args.toList,c.argTypes.toList with
     |[s,x],[t,t']=>match ev s,ev x with
      |some sv,some xv=>uX P t t' H n sv xv
      |_,_=>none
     |_,_=>none
   | .builtin .len=>match c.args.toList,c.argTypes.toList with
     |[x],[t]=>match ev x,JO P t with
      |some (.slice (some _) m _),some (.slice _)=>some ⟨.val (.int .i64 m),H,n,[],[]⟩
      |some (.chan (some 0)),some (.slice _)=>some ⟨.val (.int .i64 0),H,n,[],[]⟩
      |_,_=>mkPure (Uw P ev o) H n
     |_,_=>none
   | .builtin .copy=>match c.args.toList,c.argTypes.toList with
     |[s,x],[t,_]=>match ev s,ev x with
      |some sv,some xv=>uV P t H n sv xv
      |_,_=>none
     |_,_=>none
   | .builtin _=>mkPure (Uw P ev o) H n
   | .value f=>match ev f,JJ ev c.args.toList with
     |some fv,some args=>match Pu F H fv args.toArray with
      |some (nx,R)=>some ⟨nx,H,n,R,[]⟩
      |none=>none
     |_,_=>none
   |_=>none
 |_=>mkPure (Uw P ev o) H n

theorem WC{P:Program}{B:Nat}{o:Oper}{ev:Operand->Option Value}{H:Qr}{n:Nat}{v:Value}(h:∀(μ:Mu) (ρ:Operand->Value) (w:World),(∀x∈o.op.operands,∀v,ev x=some v->VR μ v (ρ x))->∃v',(execOp ρ o).run P w=.ok (.value v') w/\VR μ v v'):
 G4 P B o ev H n ⟨.val v,H,n,[],[]⟩:=fun _ μ ρ w QH _ _ _ Ze _=>
 let⟨_,h1,h2⟩:=h μ ρ w Ze
 ⟨_,w,μ,h1,Post.refl QH,.val h2⟩
theorem ZJ{o:Option Value}{H:Qr}{n:Nat}{r:CR}(h:mkPure o H n=some r):∃v,o=some v/\r=⟨.val v,H,n,[],[]⟩:=by
 cases o with
 |none=>cases h
 |some v=>simp only[mkPure,YO]at h;exact⟨v,rfl,h.symm⟩
theorem dq{μ:Mu}{ev:Operand->Option Value}{ρ:Operand->Value}{x:Option Operand}{v:Option Value}(h:Dz ev x=some v)(hv:∀y,x=some y->∀v,ev y=some v->VR μ v (ρ y)):HL μ v (x.map ρ):=by
 cases x with
 |none=>simp only[Dz,YO]at h;subst h;trivial
 |some y=>
  simp only[Dz]at h;cases he:ev y with
  |none=>rw[he]at h;cases h
  |some u=>
   rw[he]at h;simp only[YO]at h;subst h;exact hv y rfl u he
theorem Wc{α:Type}{q:Bool}{x r:α}(h:(bif q then some x else none)=some r):x=r:=by
 cases q with
 |false=>cases h
 |true=>simpa using h
theorem KY{α:Type}{q:Bool}{x:Option α}{r:α}(h:(bif q then x else none)=some r):x=some r:=by
 cases q with
 |false=>cases h
 |true=>simpa using h
theorem FX{P:Program}{t t':TypeId}{H:Qr}{n:Nat}{s x:Value}{r:CR}(h:ox P t t' H n s x=some r):r.n=n+1:=by
 unfold ox at h;split at h
 ·split at h
  ·split at h
   ·rw[<-Wc h]
   ·cases h
  ·cases h
 ·cases h
theorem Ar{P:Program}{t:TypeId}{H:Qr}{n:Nat}{s x:Value}{r:CR}(h:Uc P t H n s x=some r):r.n=n+1:=by
 unfold Uc at h;split at h
 ·split at h
  ·split at h
   ·split at h
    ·rename_i cs k ko ns m b _ _;rw[<-Wc h]
    ·cases h
   ·cases h
  ·cases h
 ·cases h
theorem FT{P:Program}{F:FuncId->Bool}(hF:∀g,F g=true->QE P g=true){B:Nat}{o:Oper}{ev:Operand->Option Value}{H:Qr}{n:Nat}{r:CR}(h:qM P F ev o H n=some r):G4 P B o ev H n r:=by
 have Zd:mkPure (Uw P ev o) H n=some r->G4 P B o ev H n r:=by
  intro h;obtain⟨v,h1,rfl⟩:=ZJ h;exact An h1
 unfold qM at h;split at h
 ·-- move
  rename_i x ho;obtain⟨v,h1,rfl⟩:=ZJ h;exact WC fun μ ρ w Ze=>⟨ρ x,by simp[execOp,ho],Ze x (by simp[ho,Op.operands]) v h1⟩
 ·rename_i x ho;obtain⟨v,h1,rfl⟩:=ZJ h;exact WC fun μ ρ w Ze=>⟨ρ x,by simp[execOp,ho],Ze x (by simp[ho,Op.operands]) v h1⟩
 ·-- pick
  rename_i c a b ho;split at h
  ·rename_i t hc;obtain⟨v,h1,rfl⟩:=ZJ h;refine WC fun μ ρ w Ze=> ?_
   have hct:=Ze c (by simp[ho,Op.operands]) _ hc;have hct:ρ c=.bool t:=by generalize ρ c=u at hct;cases hct;rfl
   cases t with
   |true=>exact⟨ρ a,by simp[execOp,ho,hct,asBool],Ze a (by simp[ho,Op.operands]) v h1⟩
   |false=>exact⟨ρ b,by simp[execOp,ho,hct,asBool],Ze b (by simp[ho,Op.operands]) v h1⟩
  ·cases h
 ·-- alloc
  rename_i t ho;split at h
  ·rename_i z hz;cases ha:af z with
   |false=>rw[ha]at h;cases h
   |true=>
    rw[ha]at h;simp only[cond_true,YO]at h;subst h;exact xq ho hz ha
  ·cases h
 ·-- box
  rename_i t x ho;split at h
  ·rename_i v hv;simp only[YO]at h;subst h;exact DI ho hv
  ·cases h
 ·-- build
  rename_i t ps ho;split at h
  ·rename_i l hl;obtain⟨v,h1,rfl⟩:=ZJ h;refine WC fun μ ρ w Ze=> ?_
   obtain⟨q1,q2⟩:=Sr (μ:=μ) (ρ:=ρ) ps.toList l hl (fun p hp v hv=>Ze p.2 (by simp only[ho,Op.operands,List.mem_toArray];exact List.mem_map.2 ⟨p,hp,rfl⟩) v hv);obtain⟨v',hr,Vw⟩:=xn (ps':=ps.map fun(i,x)=>(i,ρ x)) h1 (by simpa using q1) (by simpa using q2) w;exact⟨v',by simp[execOp,ho,hr],Vw⟩
  ·cases h
 ·-- buildSlice
  rename_i t len ps ho;split at h
  ·rename_i l hl;split at h
   ·rename_i e cs s hb;simp only[YO]at h;subst h;intro S μ ρ w QH hB hS hf Ze hR;obtain⟨q1,q2⟩:=Sr (μ:=μ) (ρ:=ρ) ps.toList l hl (fun p hp v hv=>Ze p.2 (by simp only[ho,Op.operands,List.mem_toArray];exact List.mem_map.2 ⟨p,hp,rfl⟩) v hv);obtain⟨v',w',μ',hr,hp,Vw⟩:=gE (ps':=ps.map fun(i,x)=>(i,ρ x)) hb QH hB hS (hf n (LC _) (by simp)) (by simpa using q1) (by simpa using q2);exact⟨_,w',μ',by simp[execOp,ho,hr],hp,.val Vw⟩
   ·cases he:gY P t len l with
    |false=>rw[he]at h;cases h
    |true=>
     rw[he]at h;simp only[cond_true,YO]at h;subst h;intro S μ ρ w QH hB hS hf Ze hR;obtain⟨q1,_⟩:=Sr (μ:=μ) (ρ:=ρ) ps.toList l hl (fun p hp v hv=>Ze p.2 (by simp only[ho,Op.operands,List.mem_toArray];exact List.mem_map.2 ⟨p,hp,rfl⟩) v hv);unfold gY at he;simp only[YB,List.isEmpty_iff]at he;obtain⟨⟨e1,rfl⟩,e3⟩:=he;have e1:=YE e1;subst e1;have eps:ps=#[]:=by
      have:ps.toList=[]:=List.eq_nil_of_length_eq_zero (by simpa using q1.symm);exact Array.ext' (by simpa using this)
     subst eps;split at e3
     ·rename_i e hu;rw[ZK]at hu;cases hz:WQ P e with
      |none=>rw[hz]at e3;cases e3
      |some z=>
       have hr:(Instr.buildSlice t 0 ((#[]:Array (Nat×Operand)).map fun(i,x)=>(i,ρ x))).run P w=.ok (.slice (some ⟨w.heap.size,0,none⟩) 0 0) (w.alloc (.cells #[] e)):=by
        simp[Instr.buildSlice,run_underlying hu,Zz hz,Instr.fill,newRow,Sem.run_bind,Sem.run_pure];congr 2;exact LN (by simp)
       exact⟨.value (.slice (some ⟨w.heap.size,0,none⟩) 0 0),w.alloc (.cells #[] e),μ,by simp[execOp,ho];simp at hr;simp[hr],Post.ofBelow QH ((Below.refl _ _).alloc (LC _) _),.val .noCap⟩
     ·cases e3
  ·cases h
 ·-- load
  rename_i t a ho;split at h
  ·rename_i p hp;split at h
   ·rename_i v b hb;simp only[YO]at h;subst h;intro S μ ρ w QH hB hS hf Ze hR;obtain⟨v',hr,Vw⟩:=ot hb QH (Ze a (by simp[ho,Op.operands]) p hp) (hR b (by simp));exact⟨_,w,μ,by simp[execOp,ho,hr],Post.refl QH,.val Vw⟩
   ·cases h
  ·cases h
 ·-- store
  rename_i t a x ho;split at h
  ·rename_i p v hp hv;split at h
   ·rename_i H' b hb;simp only[YO]at h;subst h;intro S μ ρ w QH hB hS hf Ze hR;obtain⟨w',hr,XO⟩:=xg hb QH hS (Ze a (by simp[ho,Op.operands]) p hp) (Ze x (by simp[ho,Op.operands]) v hv) (hR b (by simp));exact⟨_,w',μ,by simp[execOp,ho,hr],XO,.skip⟩
   ·cases h
  ·cases h
 ·-- fieldAddr
  rename_i s x f ho;split at h
  ·rename_i p hp;obtain⟨v,h1,rfl⟩:=ZJ h;refine WC fun μ ρ w Ze=> ?_
   obtain⟨v',hr,Vw⟩:=m5 h1 (Ze x (by simp[ho,Op.operands]) p hp) w;exact⟨v',by simp[execOp,ho,hr],Vw⟩
  ·cases h
 ·-- field
  rename_i t x f ho;split at h
  ·rename_i p hp;obtain⟨v,h1,rfl⟩:=ZJ h;refine WC fun μ ρ w Ze=> ?_
   obtain⟨v',hr,Vw⟩:=xl h1 (Ze x (by simp[ho,Op.operands]) p hp) w;exact⟨v',by simp[execOp,ho,hr],Vw⟩
  ·cases h
 ·-- indexAddr
  rename_i t x i ho;split at h
  ·rename_i u k hu hk;obtain⟨v,h1,rfl⟩:=ZJ h;refine WC fun μ ρ w Ze=> ?_
   obtain⟨v',hr,Vw⟩:=m4 h1 (Ze x (by simp[ho,Op.operands]) u hu) (Ze i (by simp[ho,Op.operands]) k hk) w;exact⟨v',by simp[execOp,ho,hr],Vw⟩
  ·cases h
 ·-- index
  rename_i t x i ho;split at h
  ·rename_i cs k hu hk;obtain⟨v,h1,rfl⟩:=ZJ h;refine WC fun μ ρ w Ze=> ?_
   obtain⟨v',hr,Vw⟩:=xk h1 (Ze x (by simp[ho,Op.operands]) _ hu) (Ze i (by simp[ho,Op.operands]) k hk) w;exact⟨v',by simp[execOp,ho,hr],Vw⟩
  ·exact Zd h
 ·-- extract
  rename_i x i ho;split at h
  ·rename_i u hu;obtain⟨v,h1,rfl⟩:=ZJ h;refine WC fun μ ρ w Ze=> ?_
   obtain⟨v',hr,Vw⟩:=qv (P:=P) h1 (Ze x (by simp[ho,Op.operands]) u hu) w;exact⟨v',by simp[execOp,ho,hr],Vw⟩
  ·cases h
 ·-- makeSlice
  rename_i t l c ho;split at h
  ·rename_i x y hx hy;split at h
   ·rename_i e cs l0 s hm;simp only[YO]at h;subst h;intro S μ ρ w QH hB hS hf Ze hR;obtain⟨v',w',μ',hr,hp,Vw⟩:=Ao hm QH hB hS (hf n (LC _) (by simp)) (Ze l (by simp[ho,Op.operands]) x hx) (Ze c (by simp[ho,Op.operands]) y hy);exact⟨_,w',μ',by simp[execOp,ho,hr],hp,.val Vw⟩
   ·cases h
  ·cases h
 ·-- slice
  rename_i t x lo hi ho;have hlo:∀y,lo=some y->y∈o.op.operands:=fun y e=>by simp[ho,Op.operands,e]
  have hhi:∀y,hi=some y->y∈o.op.operands:=fun y e=>by simp[ho,Op.operands,e]
  split at h
  ·rename_i a m s l hh hu hl hhh;obtain⟨v,h1,rfl⟩:=ZJ h;refine WC fun μ ρ w Ze=> ?_
   obtain⟨v',hr,Vw⟩:=mr h1 (Ze x (by simp[ho,Op.operands]) _ hu) (dq hl fun y e=>Ze y (hlo y e)) (dq hhh fun y e=>Ze y (hhi y e)) w;exact⟨v',by simp[execOp,ho,hr],Vw⟩
  ·rename_i p l hh hu hl hhh;obtain⟨v,h1,rfl⟩:=ZJ h;refine WC fun μ ρ w Ze=> ?_
   obtain⟨v',hr,Vw⟩:=mr h1 (Ze x (by simp[ho,Op.operands]) _ hu) (dq hl fun y e=>Ze y (hlo y e)) (dq hhh fun y e=>Ze y (hhi y e)) w;exact⟨v',by simp[execOp,ho,hr],Vw⟩
  ·exact Zd h
 ·-- slice with a bound
  rename_i t x lo hi mx ho;have hlo:∀y,lo=some y->y∈o.op.operands:=fun y e=>by simp[ho,Op.operands,e]
  cases hc:az P t (ev x) (Dz ev lo) (ev hi) (ev mx)with
  |false=>rw[hc]at h;exact Zd h
  |true=>
   rw[hc]at h;simp only[cond_true,YO]at h;subst h;obtain⟨xv,l,hv,mv,e1,e2,e3,e4,VY⟩:=fM (μ:=fun _=>none) hc;clear VY;refine WC fun μ ρ w Ze=> ?_
   obtain⟨xv',l',Wn,mv',e1',e2',e3',e4',VY⟩:=fM (μ:=μ) hc;obtain⟨v',hr,Vw⟩:=VY (Ze x (by simp[ho,Op.operands]) _ e1') (dq e2' fun y e=>Ze y (hlo y e)) (Ze hi (by simp[ho,Op.operands]) _ e3') (Ze mx (by simp[ho,Op.operands]) _ e4') w;exact⟨v',by simp[execOp,ho,hr],Vw⟩
 ·-- makeFunc
  rename_i f first captured ho
  split at h
  ·rename_i xs ys hx hy;simp only[YO]at h;subst h;refine WC fun μ ρ w Ze=> ?_
   have hops:o.op.operands=first++captured:=by rw[ho];rfl
   rw[hops]at Ze;have q1:=a6 (μ:=μ) (ρ:=ρ) _ _ hx (fun x hx v hv=>Ze x (Array.mem_append.2 (.inl (Array.mem_toList_iff.1 hx))) v hv);have q2:=a6 (μ:=μ) (ρ:=ρ) _ _ hy (fun x hx v hv=>Ze x (Array.mem_append.2 (.inr (Array.mem_toList_iff.1 hx))) v hv);refine⟨.func (.func f) (first.map ρ) (captured.map ρ),by simp[execOp,ho,Instr.makeFunc], ?_⟩;have e1:(first.toList.map ρ).toArray=first.map ρ:=by apply Array.ext';simp
   have e2:(captured.toList.map ρ).toArray=captured.map ρ:=by apply Array.ext';simp
   rw[e1]at q1;rw[e2]at q2;exact .func q1.1 q2.1 q1.2 q2.2
  ·cases h
 ·-- makeMap
  rename_i t ho;simp only[YO]at h;subst h;intro S μ ρ w QH hB hS hf Ze hR;have hfn:=hf n (LC _) (by simp);refine⟨_,_,_, ?_,Post.alloc QH hB hS hfn (.map #[] 0) (.map #[] 0) 0 ⟨rfl,#[],heap_alloc _ _,rfl,fun i e e' he _=>by simp at he⟩,.val (.map (im:=⟨w.heap.size,0,0,true,SI⟩) X9)⟩;simp only[execOp,ho,Instr.makeMap,Option.map_none,Sem.run_bind,Result.andThen_ok,run_newObj,Sem.run_pure];rfl
 ·-- lookup
  rename_i t x k ok ho;split at h
  ·rename_i m kv hm hk;split at h
   ·rename_i v R hl;simp only[YO]at h;subst h;intro S μ ρ w QH hB hS hf Ze hR;obtain⟨v',hr,Vw⟩:=uU hl QH (Ze x (by simp[ho,Op.operands]) m hm) (Ze k (by simp[ho,Op.operands]) kv hk) hR;exact⟨_,w,μ,by simp[execOp,ho,hr],Post.refl QH,.val Vw⟩
   ·cases h
  ·cases h
 ·-- mapUpdate
  rename_i t m k x ho;split at h
  ·rename_i mv kv v hm hk hv;split at h
   ·rename_i H' b hl;simp only[YO]at h;subst h;intro S μ ρ w QH hB hS hf Ze hR;obtain⟨w',hr,XO⟩:=my hl QH hS (Ze m (by simp[ho,Op.operands]) mv hm) (Ze k (by simp[ho,Op.operands]) kv hk) (Ze x (by simp[ho,Op.operands]) v hv) (hR b (by simp));exact⟨_,w',μ,by simp[execOp,ho,hr],XO,.skip⟩
   ·cases h
  ·cases h
 ·-- binOp
  rename_i op t x y yt ho;split at h
  ·rename_i a b ha hb;split at h
   ·rename_i v hv;simp only[YO]at h;subst h;refine WC fun μ ρ w Ze=> ?_
    obtain⟨h1,h2,h3,h4⟩:=DJ (P:=P) (t:=t) (x:=x) (y:=y) hv w;have e1:=h3 μ _ (Ze x (by simp[ho,Op.operands]) a ha);have e2:=h4 μ _ (Ze y (by simp[ho,Op.operands]) b hb);refine⟨v, ?_,h2 μ⟩;simp only[execOp,ho,e1,e2];rw[Sem.run_bind,h1];rfl
   ·exact Zd h
  ·cases h
 ·-- nilCheck
  rename_i x ho;split at h
  ·rename_i a hx;simp only[YO]at h;subst h;refine WC fun μ ρ w Ze=> ?_
   have hv:=Ze x (by simp[ho,Op.operands]) _ hx;refine⟨ρ x, ?_,hv⟩;generalize hg:ρ x=u at hv;cases hv <;> simp[execOp,ho,hg]
  ·rename_i f xs ys hx;simp only[YO]at h;subst h;refine WC fun μ ρ w Ze=> ?_
   have hv:=Ze x (by simp[ho,Op.operands]) _ hx;refine⟨ρ x, ?_,hv⟩;generalize hg:ρ x=u at hv;cases hv;simp[execOp,ho,hg]
  ·rename_i f xs ys hx;simp only[YO]at h;subst h;refine WC fun μ ρ w Ze=> ?_
   have hv:=Ze x (by simp[ho,Op.operands]) _ hx;refine⟨ρ x, ?_,hv⟩;generalize hg:ρ x=u at hv;cases hv;simp[execOp,ho,hg]
  ·cases h
 ·-- call
  rename_i c ho;split at h
  ·-- append
   rename_i hc;split at h
   ·rename_i s x t t' ha ht;split at h
    ·rename_i sv xv hs hx;intro S μ ρ w QH hB hS hf Ze hR;have ea:c.args=#[s,x]:=by rw[<-ha]
     have et:c.argTypes=#[t,t']:=by rw[<-ht]
     have hvs:=Ze s (by simp[ho,Op.operands,Call.operands,hc,ea]) sv hs;have hvx:=Ze x (by simp[ho,Op.operands,Call.operands,hc,ea]) xv hx;unfold uX at h;cases htt:Lk t t' with
     |false=>
      rw[htt]at h;simp only[cond_false]at h;have R5:r.n=n+1:=FX h;obtain⟨v,v',w',μ',hr,hp,hnx,Vw,_⟩:=As (ty:=o.type) h QH hB hS (hf n (LC _) (by omega)) hvs hvx;refine⟨.value v',w',μ', ?_,hp,by rw[hnx];exact .val Vw⟩;simp[execOp,ho,resolve,hc,invoke,builtin,ea,et,hr]
     |true=>
      rw[htt]at h;simp only[cond_true]at h;have htt:=YE htt;subst htt;cases hca:Uc P t H n (bare sv) xv with
      |some r0=>
       rw[hca]at h;simp only[YO]at h;subst h;have R5:r0.n=n+1:=Ar hca;obtain⟨v,v',w',μ',hr,hp,hnx,Vw,_⟩:=qx (ty:=o.type) hca QH hB hS (hf n (LC _) (by omega)) hvs hvx hR;refine⟨.value v',w',μ', ?_,hp,by rw[hnx];exact .val Vw⟩;simp[execOp,ho,resolve,hc,invoke,builtin,ea,et,hr]
      |none=>
       rw[hca]at h;simp only at h;obtain⟨hr,rfl⟩:=At (ty:=o.type) (w:=w) h hvs hvx;refine⟨.value (ρ s),w,μ, ?_,Post.refl QH,.val hvs⟩;simp[execOp,ho,resolve,hc,invoke,builtin,ea,et,hr]
    ·cases h
   ·cases h
  ·-- len
   rename_i hc;split at h
   ·rename_i x t ha ht;split at h
    ·rename_i a m s e hx hu;rw[ZK]at hu;simp only[YO]at h;subst h;refine WC fun μ ρ w Ze=> ?_
     have ea:c.args=#[x]:=by rw[<-ha]
     have et:c.argTypes=#[t]:=by rw[<-ht]
     have hv:=Ze x (by simp[ho,Op.operands,Call.operands,hc,ea]) _ hx;refine⟨.int .i64 m, ?_,.int _ _⟩;generalize hg:ρ x=u at hv;cases hv <;> simp[execOp,ho,resolve,hc,invoke,builtin,ea,et,hg,Builtin.len_,run_underlying hu,goInt]
    ·rename_i e hx hu;rw[ZK]at hu;simp only[YO]at h;subst h;refine WC fun μ ρ w Ze=> ?_
     have ea:c.args=#[x]:=by rw[<-ha]
     have et:c.argTypes=#[t]:=by rw[<-ht]
     have hv:=Ze x (by simp[ho,Op.operands,Call.operands,hc,ea]) _ hx;refine⟨.int .i64 0, ?_,.int _ _⟩;generalize hg:ρ x=u at hv;cases hv <;> simp[execOp,ho,resolve,hc,invoke,builtin,ea,et,hg,Builtin.len_,run_underlying hu,goInt]
    ·exact Zd h
   ·cases h
  ·-- copy
   rename_i hc;split at h
   ·rename_i s x t t2 ha ht;split at h
    ·rename_i sv xv hs hx;intro S μ ρ w QH hB hS hf Ze hR;have ea:c.args=#[s,x]:=by rw[<-ha]
     have et:c.argTypes=#[t,t2]:=by rw[<-ht]
     obtain⟨v,w',hr,hp,hnx,Vw,_⟩:=Aq (ty:=o.type) (t2:=t2) h QH hS (Ze s (by simp[ho,Op.operands,Call.operands,hc,ea]) sv hs) (Ze x (by simp[ho,Op.operands,Call.operands,hc,ea]) xv hx) hR;refine⟨.value v,w',μ, ?_,hp,by rw[hnx];exact .val Vw⟩;simp[execOp,ho,resolve,hc,invoke,builtin,ea,et,hr]
    ·cases h
   ·cases h
  ·exact Zd h
  ·-- value
   rename_i f hc;split at h
   ·rename_i fv args hfv hargs;split at h
    ·rename_i nx R hcc;simp only[YO]at h;subst h;intro S μ ρ w QH hB hS hf Ze hR;have hops:o.op.operands=#[f]++c.args:=by rw[ho];simp only[Op.operands,Call.operands,hc]
     rw[hops]at Ze;have q:=a6 (μ:=μ) (ρ:=ρ) _ _ hargs (fun x hx v hv=>Ze x (Array.mem_append.2 (.inr (Array.mem_toList_iff.1 hx))) v hv);have e1:(c.args.toList.map ρ).toArray=c.args.map ρ:=by apply Array.ext';simp
     rw[e1]at q;obtain⟨nx',hr,hnr⟩:=ou (P:=P) hF hcc QH (Ze f (Array.mem_append.2 (.inl (by simp))) fv hfv) q hR;refine⟨nx',w,μ, ?_,Post.refl QH,hnr⟩;simp only[execOp,ho,resolve,hc];simpa using hr
    ·cases h
   ·cases h
  ·cases h
 ·exact Zd h
end Go.CE

namespace Go.CE
open Go Go.RowKit

structure PG (B:Nat) (S New W:Nat->Prop) (μ μ':Mu) (G G':Nat->Option Obj) (w w':World):Prop where
 ok:Ok B (fun i=>S i\/New i) μ' G' w'
 ext:∀i,¬New i->μ' i=μ i
 keep:∀i,¬New i->¬W i->G' i=G i
 grow:w.heap.size<=w'.heap.size
 frame:∀b,b<w.heap.size->(∀i,W i->∀im,μ i=some im->im.Z7≠b)->w'.heap[b]? =w.heap[b]?
 wr:∀i,W i->S i/\(∃o,G i=some o/\live o)/\∃im,μ i=some im/\im.rw=true
 fresh:∀i im o,New i->G' i=some o->live o->μ' i=some im->im.rw=true/\
  (w.heap.size<=im.Z7\/∃k,W k/\(∃ZL,μ k=some ZL/\ZL.Z7=im.Z7)/\∀o,G' k=some o->¬live o)
 rf:∀i im o,(New i\/W i)->G' i=some o->W8 o->μ' i=some im->∀b x,im.fm b=some x->
  w.heap.size<=b\/(∃k Uh ko,S k/\G k=some ko/\W8 ko/\μ k=some Uh/\Uh.fm b=some x)\/∃k,W k/\(∃ZL,μ k=some ZL/\ZL.Z7=b)/\∀o,G' k=some o->¬live o
 os:w'.os=w.os
 tape:w'.tape=w.tape
 output:w'.output=w.output
theorem PG.refl{B:Nat}{S:Nat->Prop}{μ:Mu}{G:Nat->Option Obj}{w:World}(h:Ok B S μ G w):PG B S (fun _=>False) (fun _=>False) μ μ G G w w:=
 ⟨h.sub fun _ hi=>hi.elim id False.elim,fun _ _=>rfl,fun _ _ _=>rfl,LC _,fun _ _ _=>rfl,fun _ h=>h.elim,fun _ _ _ h=>h.elim,fun _ _ _ h=>h.elim False.elim False.elim,rfl,rfl,rfl⟩
theorem Post.pg{B:Nat}{S:Nat->Prop}{n n':Nat}{W:List Nat}{μ μ':Mu}{H H':Qr}{w w':World}(h:Post B S n n' W μ μ' H H' w w')(hn:∀i,n'<=i->Qu H' i=Qu H i):
 PG B S (fun i=>n<=i/\i<n') (fun i=>i∈W/\i<n) μ μ' (Qu H) (Qu H') w w':=by
 have hle:=h.le;refine⟨h.ok,h.ext,fun i hi hw=> ?_,h.grow,fun b hb hw=>h.frame b hb fun i a c=>hw i ⟨a,c⟩,fun i hi=>h.wr i hi.1 hi.2,fun i im o hi ho hl hm=> ?_,fun i im o hi ho hr hm b x hb=> ?_,h.os,h.tape,h.output⟩
 ·rcases LI i n with Xu|hge
  ·exact h.keep i Xu fun e=>hw ⟨e,Xu⟩
  ·exact hn i (by omega)
 ·obtain⟨hr,hf⟩:=h.fresh i im o hi.1 hi.2 ho hl hm;refine⟨hr,hf.imp id ?_⟩;rintro⟨k,a,b,c,d⟩;exact⟨k,⟨a,b⟩,c,d⟩
 ·rcases h.rf i im o hi ho hr hm b x hb with e|⟨k,Uh,ko,a,c,d⟩|⟨k,a,c,d⟩
  ·exact .inl e
  ·exact .inr (.inl ⟨k,Uh,ko,a,d⟩)
  ·exact .inr (.inr ⟨k,⟨a,c⟩,d⟩)
theorem PG.post{B:Nat}{S New:Nat->Prop}{n n':Nat}{W:List Nat}{μ μ':Mu}{H H':Qr}{w w':World}(h:PG B S New (fun i=>i∈W/\i<n) μ μ' (Qu H) (Qu H') w w')(hN:∀i,New i<->n<=i/\i<n')(hle:n<=n')(hS:∀i,S i->i<n):Post B S n n' W μ μ' H H' w w':=by
 refine⟨h.ok.sub fun i hi=>hi.imp id (hN i).2,hle,fun i hi=>h.ext i fun e=>hi ((hN i).1 e),fun i hi hw=>h.keep i (fun e=>by have:=((hN i).1 e).1;omega) (fun e=>hw e.1),h.grow,
  fun b hb hw=>h.frame b hb fun i hi=>hw i hi.1 hi.2,fun i hi Xu=>h.wr i ⟨hi,Xu⟩,fun i im o h1 h2 ho hl hm=> ?_,fun i im o hi ho hr hm b x hb=> ?_,h.os,h.tape,h.output⟩
 ·obtain⟨hr,hf⟩:=h.fresh i im o ((hN i).2 ⟨h1,h2⟩) ho hl hm;refine⟨hr,hf.imp id ?_⟩;rintro⟨k,⟨a,b⟩,c,d⟩;exact⟨k,a,b,c,d⟩
 ·rcases h.rf i im o (hi.imp (hN i).2 id) ho hr hm b x hb with e|⟨k,Uh,ko,a,c⟩|⟨k,⟨a,c⟩,d⟩
  ·exact .inl e
  ·exact .inr (.inl ⟨k,Uh,ko,a,hS k a,c⟩)
  ·exact .inr (.inr ⟨k,a,c,d⟩)
theorem PG.then{B:Nat}{S S2 JL Ux W1 W2:Nat->Prop}{μ μ1 μ2:Mu}{G G1 Gc G2' G2:Nat->Option Obj}{w w1 w2:World}(h1:PG B S JL W1 μ μ1 G G1 w w1)(h2:PG B S2 Ux W2 μ1 μ2 Gc G2' w1 w2)
 (hsub:∀i,S2 i->S i\/JL i) (hGc:∀i,S2 i->Gc i=G1 i) (hnew:∀i,Ux i->¬S i/\¬JL i) (V1:∀i,Ux i->μ1 i=none)
 (ha:∀i,W2 i\/Ux i->G2 i=G2' i) (hb:∀i,¬W2 i->¬Ux i->G2 i=G1 i):
 PG B S (fun i=>JL i\/Ux i) (fun i=>W1 i\/(W2 i/\¬JL i)) μ μ2 G G2 w w2:=by
 have hW2S:∀i,W2 i->S2 i/\(∃o,G1 i=some o/\live o)/\∃im,μ1 i=some im/\im.rw=true:=by
  intro i hi;obtain⟨a,⟨o,ho,hl⟩,c⟩:=h2.wr i hi;exact⟨a,⟨o,by rw[<-hGc i a];exact ho,hl⟩,c⟩
 have hW2N:∀i,W2 i->¬Ux i:=by
  intro i hi hn;rcases hsub i (hW2S i hi).1 with h|h
  ·exact(hnew i hn).1 h
  ·exact(hnew i hn).2 h
 have ext12:Ext μ1 μ2:=by
  intro k im hk;rw[h2.ext k fun hn=>by rw[V1 k hn]at hk;cases hk];exact hk
 have mu2:∀i,¬Ux i->μ2 i=μ1 i:=h2.ext
 -- blocks PD the second piece leaves
 have other:∀i o im,(S i\/JL i)->¬W2 i->G1 i=some o->live o->μ1 i=some im->(∀k,W2 k->∀ZL,μ1 k=some ZL->ZL.Z7≠im.Z7):=by
  intro i o im hi hw ho hl QP k hk ZL QZ;obtain⟨hkS,⟨ok,QH,hlk⟩,im'',WY,hr⟩:=hW2S k hk;rw[QZ]at WY;cases WY;by_cases hra:im.rw=true
  ·exact h1.ok.inj k i ok o ZL im (hsub k hkS) hi (fun e=>hw (e ▸ hk)) QH ho hlk hl QZ QP hr hra
  ·have a:=(h1.ok.low i o im hi ho hl QP).2.2 (by simpa using hra);have b:=(h1.ok.low k ok ZL (hsub k hkS) QH hlk QZ).2.1 hr;omega
 have dead:∀k,W1 k->(∀o,G1 k=some o->¬live o)->∀o,G2 k=some o->¬live o:=by
  intro k hk hd o ho hl;have hS:=(h1.wr k hk).1;by_cases hw:W2 k
  ·obtain⟨_,⟨o',UY,hl'⟩,_⟩:=hW2S k hw;exact hd o' UY hl'
  ·rw[hb k hw (fun e=>(hnew k e).1 hS)]at ho;exact hd o ho hl
 -- what is live behind both, and Zl for the second, was live between
 have liveMid:∀i o,¬Ux i->G2 i=some o->live o->∃o',G1 i=some o'/\live o':=by
  intro i o hn ho hl;by_cases hw:W2 i
  ·exact(hW2S i hw).2.1
  ·rw[hb i hw hn]at ho;exact⟨o,ho,hl⟩
 refine⟨⟨fun i o hi ho hl=> ?_,fun i o im hi ho hl QP=> ?_,fun i j oi oj a b hi hj Pq Wt Ws hli Ui hma hmb hra Kx=> ?_,fun i o hi ho hr=> ?_,fun i j oi oj a b x hi hj Wt Ws YD Ui hma hmb Kx hx=> ?_⟩,fun i hi=> ?_,fun i hn hw=> ?_,Nat.le_trans h1.grow h2.grow,fun b hb0 hw=> ?_,fun i hi=> ?_,fun i im o hi ho hl QP=> ?_,fun i im o hi ho hr QP b x hfb=> ?_,
  h2.os.trans h1.os,h2.tape.trans h1.tape,h2.output.trans h1.output⟩
 ·by_cases ht:W2 i\/Ux i
  ·rw[ha i ht]at ho;exact h2.ok.rel i o (ht.imp (fun h=>(hW2S i h).1) id) ho hl
  ·have hw:¬W2 i:=fun h=>ht (.inl h)
   have hn:¬Ux i:=fun h=>ht (.inr h)
   rw[hb i hw hn]at ho;have hi':S i\/JL i:=by rcases hi with h|h|h <;> first|exact .inl h|exact .inr h|exact absurd h hn
   obtain⟨im,QP,hr⟩:=h1.ok.rel i o hi' ho hl;exact⟨im,ext12 _ _ QP,hr.keep ext12 (h2.frame _ (h1.ok.low i o im hi' ho hl QP).1 (other i o im hi' hw ho hl QP))⟩
 ·by_cases ht:W2 i\/Ux i
  ·rw[ha i ht]at ho;exact h2.ok.low i o im (ht.imp (fun h=>(hW2S i h).1) id) ho hl QP
  ·have hw:¬W2 i:=fun h=>ht (.inl h)
   have hn:¬Ux i:=fun h=>ht (.inr h)
   rw[hb i hw hn]at ho;rw[mu2 i hn]at QP;have hi':S i\/JL i:=by rcases hi with h|h|h <;> first|exact .inl h|exact .inr h|exact absurd h hn
   have:=h1.ok.low i o im hi' ho hl QP;exact⟨Nat.lt_of_lt_of_le this.1 h2.grow,this.2⟩
 ·have Zl:∀i,(S i\/JL i\/Ux i)->¬Ux i->S i\/JL i:=by
   intro i hi hn;rcases hi with h|h|h <;> first|exact .inl h|exact .inr h|exact absurd h hn
  have nw:∀i j oi oj a b,Ux i->¬Ux j->(S j\/JL j\/Ux j)->i≠j->G2 i=some oi->G2 j=some oj->live oi->live oj->μ2 i=some a->μ2 j=some b->b.rw=true->a.Z7≠b.Z7:=by
   intro i j oi oj a b hn hj0 hjS Pq Wt Ws hli Ui hma hmb Kx;rw[ha i (.inr hn)]at Wt;rw[mu2 j hj0]at hmb;obtain⟨o',UY,hl'⟩:=liveMid j oj hj0 Ws Ui;have hjj:=Zl j hjS hj0;obtain⟨_,hf⟩:=h2.fresh i a oi hn Wt hli hma;rcases hf with hf|⟨k,hk,⟨ZL,QZ,hbb⟩,hd⟩
   ·have:=(h1.ok.low j o' b hjj UY hl' hmb).1;omega
   ·obtain⟨hkS,⟨ok,QH,hlk⟩,im'',WY,hrk⟩:=hW2S k hk;rw[QZ]at WY;cases WY;have hkj:k≠j:=by
     rintro rfl;rw[ha k (.inl hk)]at Ws;exact hd oj Ws Ui
    have:=h1.ok.inj k j ok o' ZL b (hsub k hkS) hjj hkj QH UY hlk hl' QZ hmb hrk Kx;omega
  by_cases hni:Ux i
  ·by_cases hnj:Ux j
   ·rw[ha i (.inr hni)]at Wt;rw[ha j (.inr hnj)]at Ws;exact h2.ok.inj i j oi oj a b (.inr hni) (.inr hnj) Pq Wt Ws hli Ui hma hmb hra Kx
   ·exact nw i j oi oj a b hni hnj hj Pq Wt Ws hli Ui hma hmb Kx
  ·by_cases hnj:Ux j
   ·exact Ne.symm (nw j i oj oi b a hnj hni hi (Ne.symm Pq) Ws Wt Ui hli hmb hma hra)
   ·rw[mu2 i hni]at hma;rw[mu2 j hnj]at hmb;obtain⟨o1,ho1,hl1⟩:=liveMid i oi hni Wt hli;obtain⟨o2,ho2,hl2⟩:=liveMid j oj hnj Ws Ui;exact h1.ok.inj i j o1 o2 a b (Zl i hi hni) (Zl j hj hnj) Pq ho1 ho2 hl1 hl2 hma hmb hra Kx
 ·by_cases ht:W2 i\/Ux i
  ·rw[ha i ht]at ho;exact h2.ok.Y6 i o (ht.imp (fun h=>(hW2S i h).1) id) ho hr
  ·have hw:¬W2 i:=fun h=>ht (.inl h)
   have hn:¬Ux i:=fun h=>ht (.inr h)
   rw[hb i hw hn]at ho;have hi':S i\/JL i:=by rcases hi with h|h|h <;> first|exact .inl h|exact .inr h|exact absurd h hn
   obtain⟨im,QP,hf⟩:=h1.ok.Y6 i o hi' ho hr;refine⟨im,ext12 _ _ QP,fun b x hx=> ?_⟩;have e:=hf b x hx;rw[h2.frame b (by simpa using(Array.getElem?_eq_some_iff.1 e).1) fun k hk ZL QZ hbb=> ?_]
   ·exact e
   ·obtain⟨hkS,⟨ok,QH,hlk⟩,im'',WY,hrk⟩:=hW2S k hk;rw[QZ]at WY;cases WY;exact h1.ok.sep i k o ok im ZL x hi' (hsub k hkS) ho QH hr hlk QP QZ hrk (by rw[hbb];exact hx)
 ·have Zl:∀i,(S i\/JL i\/Ux i)->¬Ux i->S i\/JL i:=by
   intro i hi hn;rcases hi with h|h|h <;> first|exact .inl h|exact .inr h|exact absurd h hn
  by_cases htj:W2 j\/Ux j
  ·by_cases hti:W2 i\/Ux i
   ·rw[ha i hti]at Wt;rw[ha j htj]at Ws;exact h2.ok.sep i j oi oj a b x (hti.imp (fun h=>(hW2S i h).1) id) (htj.imp (fun h=>(hW2S j h).1) id) Wt Ws YD Ui hma hmb Kx hx
   ·have hw:¬W2 i:=fun h=>hti (.inl h)
    have hn:¬Ux i:=fun h=>hti (.inr h)
    rw[hb i hw hn]at Wt;rw[mu2 i hn]at hma;have hi':=Zl i hi hn;obtain⟨im,QP,hf⟩:=h1.ok.Y6 i oi hi' Wt YD;rw[hma]at QP;cases QP;have Xu:b.Z7<w1.heap.size:=(Array.getElem?_eq_some_iff.1 (hf _ x hx)).1;by_cases hnj:Ux j
    ·rw[ha j (.inr hnj)]at Ws;obtain⟨_,XM⟩:=h2.fresh j b oj hnj Ws Ui hmb;rcases XM with XM|⟨k,hk,⟨ZL,QZ,hbb⟩,hd⟩
     ·omega
     ·obtain⟨hkS,⟨ok,QH,hlk⟩,im'',WY,hrk⟩:=hW2S k hk;rw[QZ]at WY;cases WY;exact h1.ok.sep i k oi ok a ZL x hi' (hsub k hkS) Wt QH YD hlk hma QZ hrk (by rw[hbb];exact hx)
    ·have hwj:W2 j:=htj.resolve_right hnj;obtain⟨hkS,⟨ok,QH,hlk⟩,im'',WY,hrk⟩:=hW2S j hwj;rw[mu2 j hnj]at hmb;exact h1.ok.sep i j oi ok a b x hi' (hsub j hkS) Wt QH YD hlk hma hmb Kx hx
  ·have hwj:¬W2 j:=fun h=>htj (.inl h)
   have hnj:¬Ux j:=fun h=>htj (.inr h)
   rw[hb j hwj hnj]at Ws;rw[mu2 j hnj]at hmb;have hj':=Zl j hj hnj;by_cases hti:W2 i\/Ux i
   ·rw[ha i hti]at Wt;rcases h2.rf i a oi hti.symm Wt YD hma b.Z7 x hx with e|⟨k,Uh,ko,hS,hko,hkr,S3,hkb⟩|⟨k,hk,⟨ZL,QZ,hbb⟩,hd⟩
    ·have:=(h1.ok.low j oj b hj' Ws Ui hmb).1;omega
    ·rw[hGc k hS]at hko;exact h1.ok.sep k j ko oj Uh b x (hsub k hS) hj' hko Ws hkr Ui S3 hmb Kx hkb
    ·obtain⟨hkS,⟨ok,QH,hlk⟩,im'',WY,hrk⟩:=hW2S k hk;rw[QZ]at WY;cases WY;exact h1.ok.inj k j ok oj ZL b (hsub k hkS) hj' (fun e=>hwj (e ▸ hk)) QH Ws hlk Ui QZ hmb hrk Kx hbb
   ·have hw:¬W2 i:=fun h=>hti (.inl h)
    have hn:¬Ux i:=fun h=>hti (.inr h)
    rw[hb i hw hn]at Wt;rw[mu2 i hn]at hma;exact h1.ok.sep i j oi oj a b x (Zl i hi hn) hj' Wt Ws YD Ui hma hmb Kx hx
 ·rw[mu2 i (fun h=>hi (.inr h)),h1.ext i (fun h=>hi (.inl h))]
 ·have R5:¬JL i:=fun h=>hn (.inl h)
  rw[hb i (fun h=>hw (.inr ⟨h,R5⟩)) (fun h=>hn (.inr h)),h1.keep i R5 (fun h=>hw (.inl h))]
 ·have e1:=h1.frame b hb0 fun i hi=>hw i (.inl hi)
  rw[<-e1];refine h2.frame b (Nat.lt_of_lt_of_le hb0 h1.grow) fun i hi im QP=> ?_
  by_cases hn:JL i
  ·obtain⟨_,⟨o,ho,hl⟩,_⟩:=hW2S i hi;obtain⟨_,hf⟩:=h1.fresh i im o hn ho hl QP;rcases hf with hf|⟨k,hk,⟨ZL,QZ,hbb⟩,_⟩
   ·omega
   ·rw[<-hbb];exact hw k (.inl hk) ZL QZ
  ·rw[h1.ext i hn]at QP;exact hw i (.inr ⟨hi,hn⟩) im QP
 ·rcases hi with hi|⟨hi,hn⟩
  ·exact h1.wr i hi
  ·obtain⟨hS2,⟨o,ho,hl⟩,im,QP,hr⟩:=hW2S i hi;have hS:S i:=(hsub i hS2).elim id fun h=>absurd h hn
   refine⟨hS, ?_,im,by rw[<-h1.ext i hn];exact QP,hr⟩;by_cases hw:W1 i
   ·exact(h1.wr i hw).2.1
   ·rw[h1.keep i hn hw]at ho;exact⟨o,ho,hl⟩
 ·by_cases hn:Ux i
  ·rw[ha i (.inr hn)]at ho;obtain⟨hr,hf⟩:=h2.fresh i im o hn ho hl QP;refine⟨hr, ?_⟩;rcases hf with hf|⟨k,hk,⟨ZL,QZ,hbb⟩,hd⟩
   ·exact .inl (Nat.le_trans h1.grow hf)
   ·have hd2:∀o,G2 k=some o->¬live o:=fun o ho=>by rw[ha k (.inl hk)]at ho;exact hd o ho
    by_cases hk1:JL k
    ·obtain⟨_,⟨o',UY,hl'⟩,_⟩:=hW2S k hk;obtain⟨_,hf'⟩:=h1.fresh k ZL o' hk1 UY hl' QZ;rcases hf' with hf'|⟨k',hk',⟨im'',WY,hb''⟩,hd'⟩
     ·exact .inl (by omega)
     ·exact .inr ⟨k',.inl hk',⟨im'',WY,by omega⟩,dead k' hk' hd'⟩
    ·exact .inr ⟨k,.inr ⟨hk,hk1⟩,⟨ZL,by rw[<-h1.ext k hk1];exact QZ,hbb⟩,hd2⟩
  ·have R5:JL i:=hi.elim id fun h=>absurd h hn
   rw[mu2 i hn]at QP;obtain⟨o',UY,hl'⟩:=liveMid i o hn ho hl;obtain⟨hr,hf⟩:=h1.fresh i im o' R5 UY hl' QP;refine⟨hr, ?_⟩;rcases hf with hf|⟨k,hk,QZ,hd⟩
   ·exact .inl hf
   ·exact .inr ⟨k,.inl hk,QZ,dead k hk hd⟩
 ·have mid:∀k Uh ko,(JL k\/W1 k)->G1 k=some ko->W8 ko->μ1 k=some Uh->Uh.fm b=some x->
   w.heap.size<=b\/(∃k Uh ko,S k/\G k=some ko/\W8 ko/\μ k=some Uh/\Uh.fm b=some x)\/∃k,(W1 k\/(W2 k/\¬JL k))/\(∃ZL,μ k=some ZL/\ZL.Z7=b)/\∀o,G2 k=some o->¬live o:=by
   intro k Uh ko hk hko hkr S3 hkb;rcases h1.rf k Uh ko hk hko hkr S3 b x hkb with h|h|⟨k',a,d,e⟩
   ·exact .inl h
   ·exact .inr (.inl h)
   ·exact .inr (.inr ⟨k',.inl a,d,dead k' a e⟩)
  by_cases hA:Ux i\/W2 i
  ·rw[ha i hA.symm]at ho;rcases h2.rf i im o hA ho hr QP b x hfb with h|⟨k,Uh,ko,hS,hko,hkr,S3,hkb⟩|⟨k,hk,⟨ZL,QZ,hbb⟩,hd⟩
   ·exact .inl (Nat.le_trans h1.grow h)
   ·rw[hGc k hS]at hko;by_cases hx:JL k\/W1 k
    ·exact mid k Uh ko hx hko hkr S3 hkb
    ·have hk1:¬JL k:=fun e=>hx (.inl e)
     rw[h1.keep k hk1 fun e=>hx (.inr e)]at hko;rw[h1.ext k hk1]at S3;exact .inr (.inl ⟨k,Uh,ko,(hsub k hS).resolve_right hk1,hko,hkr,S3,hkb⟩)
   ·have hd2:∀o,G2 k=some o->¬live o:=fun o ho=>by rw[ha k (.inl hk)]at ho;exact hd o ho
    by_cases hk1:JL k
    ·obtain⟨_,⟨o',UY,hl'⟩,_⟩:=hW2S k hk;obtain⟨_,hf'⟩:=h1.fresh k ZL o' hk1 UY hl' QZ;rcases hf' with hf'|⟨k',hk',⟨im'',WY,hb''⟩,hd'⟩
     ·exact .inl (by omega)
     ·exact .inr (.inr ⟨k',.inl hk',⟨im'',WY,by omega⟩,dead k' hk' hd'⟩)
    ·exact .inr (.inr ⟨k,.inr ⟨hk,hk1⟩,⟨ZL,by rw[<-h1.ext k hk1];exact QZ,hbb⟩,hd2⟩)
  ·have hn2:¬Ux i:=fun e=>hA (.inl e)
   have hw2:¬W2 i:=fun e=>hA (.inr e)
   rw[hb i hw2 hn2]at ho;rw[mu2 i hn2]at QP;refine mid i im o ?_ ho hr QP hfb;rcases hi with (h|h)|h|h
   ·exact .inl h
   ·exact absurd h hn2
   ·exact .inr h
   ·exact absurd h.1 hw2
end Go.CE

namespace Go.CE
open Go Go.RowKit

def GC{α:Type}(b:Bool):Option α->α->α
 |some x,a=>bif b then x else a
 |none,a=>a
def UO{α:Type}(D:Nat->Bool):List (Option α)->Nat->α->α
 |[],_,a=>a
 |c::l,k,a=>UO D l (k+1) (GC (D k) c a)
theorem WI{α:Type}{D D':Nat->Bool}:∀(l:List (Option α)) (k:Nat) (a:α),(∀i x,l[i]? =some (some x)->D (k+i)=D' (k+i))->UO D l k a=UO D' l k a
 |[],_,_,_=>rfl
 |c::l,k,a,h=>by
  simp only[UO];have e:GC (D k) c a=GC (D' k) c a:=by
   cases c with
   |none=>rfl
   |some x=>rw[show D k=D' k by simpa using h 0 x rfl]
  rw[e];exact WI l (k+1) _ fun i x hx=>by have:=h (i+1) x (by simpa using hx);rwa[show k+(i+1)=k+1+i by omega]at this
theorem Us{α:Type}{D:Nat->Bool}:∀(l:List (Option α)) (k:Nat) (a:α),(∀i x,l[i]? =some (some x)->D (k+i)=false)->UO D l k a=a
 |[],_,_,_=>rfl
 |c::l,k,a,h=>by
  simp only[UO];have e:GC (D k) c a=a:=by
   cases c with
   |none=>rfl
   |some x=>rw[show D k=false by simpa using h 0 x rfl];rfl
  rw[e];exact Us l (k+1) a fun i x hx=>by have:=h (i+1) x (by simpa using hx);rwa[show k+(i+1)=k+1+i by omega]at this
theorem lV{α:Type}{D:Nat->Bool}{x:α}:∀(l:List (Option α)) (k j:Nat) (a:α),l[j]? =some (some x)->D (k+j)=true->(∀i y,j<i->l[i]? =some (some y)->D (k+i)=false)->UO D l k a=x
 |[],_,_,_,h,_,_=>by simp at h
 |c::l,k,0,a,h,hd,hn=>by
  simp only[Lv,YO]at h;subst h;simp only[UO];rw[show D k=true by simpa using hd];exact Us l (k+1) x fun i y hy=>by have:=hn (i+1) y (by omega) (by simpa using hy);rwa[show k+(i+1)=k+1+i by omega]at this
 |c::l,k,j+1,a,h,hd,hn=>by
  simp only[UO];exact lV l (k+1) j _ (by simpa using h) (by rwa[show k+1+j=k+(j+1)by omega]) fun i y hi hy=>by
   have:=hn (i+1) y (by omega) (by simpa using hy);rwa[show k+(i+1)=k+1+i by omega]at this

inductive Tri where
 |lf
 |nd (l:Tri) (v:Value) (r:Tri)
def Tri.get:Tri->Nat->Value
 | .lf,_=>undef
 | .nd _ v _,0=>v
 | .nd l _ r,k+1=>bif Lk (k % 2) 0 then l.get (k / 2)else r.get (k / 2)
def Tri.set:Nat->Tri->Nat->Value->Tri
 |0,t,_,_=>t
 |_+1,.lf,0,x=>.nd .lf x .lf
 |_+1,.nd l _ r,0,x=>.nd l x r
 |f+1,.lf,k+1,x=>bif Lk (k % 2) 0 then .nd (Tri.set f .lf (k / 2) x) undef .lf else .nd .lf undef (Tri.set f .lf (k / 2) x)
 |f+1,.nd l v r,k+1,x=>bif Lk (k % 2) 0 then .nd (Tri.set f l (k / 2) x) v r else .nd l v (Tri.set f r (k / 2) x)
theorem Tri.get_lf(i:Nat):Tri.lf.get i=undef:=by cases i <;> rfl
theorem Tri.get_succ(l:Tri)(v:Value)(r:Tri)(k:Nat):(Tri.nd l v r).get (k+1)=if k % 2=0 then l.get (k / 2)else r.get (k / 2):=by
 show(bif Lk (k % 2) 0 then l.get (k / 2)else r.get (k / 2))=_;by_cases h:k % 2=0
 ·rw[h];rfl
 ·rw[SB h,if_neg h];rfl
theorem Tri.set_lf(f k:Nat)(x:Value):Tri.set (f+1) .lf (k+1) x=if k % 2=0 then Tri.nd (Tri.set f .lf (k / 2) x) undef .lf else Tri.nd .lf undef (Tri.set f .lf (k / 2) x):=by
 show(bif Lk (k % 2) 0 then _ else _)=_;by_cases h:k % 2=0
 ·rw[h];rfl
 ·rw[SB h,if_neg h];rfl
theorem Tri.set_nd(f k:Nat)(l:Tri)(v:Value)(r:Tri)(x:Value):Tri.set (f+1) (.nd l v r) (k+1) x=if k % 2=0 then Tri.nd (Tri.set f l (k / 2) x) v r else Tri.nd l v (Tri.set f r (k / 2) x):=by
 show(bif Lk (k % 2) 0 then _ else _)=_;by_cases h:k % 2=0
 ·rw[h];rfl
 ·rw[SB h,if_neg h];rfl
theorem Tri.lf_get(j:Nat):(Tri.nd .lf undef .lf).get j=Tri.lf.get j:=by
 cases j with
 |zero=>rfl
 |succ j=>rw[Tri.get_succ];simp only[Tri.get_lf,ite_self]
theorem Tri.get_set:∀(f:Nat) (t:Tri) (i:Nat) (x:Value) (j:Nat),i+1<2 ^ f->(t.set f i x).get j=if j=i then x else t.get j
 |0,t,i,x,j,h=>by simp at h
 |f+1,t,0,x,j,_=>by
  cases t with
  |lf=>
   show(Tri.nd .lf x .lf).get j=_;cases j with
   |zero=>rfl
   |succ j=>rw[if_neg (by omega),Tri.get_succ];simp only[Tri.get_lf,ite_self]
  |nd l v r=>
   show(Tri.nd l x r).get j=_;cases j with
   |zero=>rfl
   |succ j=>rw[if_neg (by omega),Tri.get_succ,Tri.get_succ]
 |f+1,t,k+1,x,j,h=>by
  have hk:k / 2+1<2 ^ f:=by rw[Nat.pow_succ]at h;omega
  by_cases he:k % 2=0
  ·have key:∀l v r,(Tri.nd (Tri.set f l (k / 2) x) v r).get j=if j=k+1 then x else(Tri.nd l v r).get j:=by
    intro l v r;cases j with
    |zero=>rfl
    |succ j=>
     rw[Tri.get_succ,Tri.get_succ,Tri.get_set f l (k / 2) x (j / 2) hk];by_cases hj:j % 2=0
     ·rw[if_pos hj,if_pos hj];by_cases e:j=k
      ·subst e;simp
      ·rw[if_neg (by omega),if_neg (by omega)]
     ·rw[if_neg hj,if_neg hj,if_neg (by omega)]
   cases t with
   |lf=>rw[Tri.set_lf,if_pos he,key,Tri.lf_get]
   |nd l v r=>rw[Tri.set_nd,if_pos he,key]
  ·have key:∀l v r,(Tri.nd l v (Tri.set f r (k / 2) x)).get j=if j=k+1 then x else(Tri.nd l v r).get j:=by
    intro l v r;cases j with
    |zero=>rfl
    |succ j=>
     rw[Tri.get_succ,Tri.get_succ,Tri.get_set f r (k / 2) x (j / 2) hk];by_cases hj:j % 2=0
     ·rw[if_pos hj,if_pos hj,if_neg (by omega)]
     ·rw[if_neg hj,if_neg hj];by_cases e:j=k
      ·subst e;simp
      ·rw[if_neg (by omega),if_neg (by omega)]
   cases t with
   |lf=>rw[Tri.set_lf,if_neg he,key,Tri.lf_get]
   |nd l v r=>rw[Tri.set_nd,if_neg he,key]
structure Tm where
 len:Nat
 tr:Tri
def XJ(T:Tm)(t:Nat):Value:=T.tr.get t
def V3(T:Tm)(d:Option Tmp)(v:Value):Tm:=match d with|some d=>⟨T.len,T.tr.set 14 d v⟩|none=>T
def Zp(T:Tm):Operand->Option Value
 | .tmp t=>some (XJ T t)
 | .const v=>bif af v then some v else none
 | .func f=>some (.func (.func f) #[] #[])
 | .global _=>none
def TR(μ:Mu)(T:Tm)(A:Array Value):Prop:=T.len=A.size/\∀t,VR μ (XJ T t) (A.getD t undef)
theorem TR.mono{μ μ':Mu}(e:Ext μ μ'){T:Tm}{A:Array Value}(h:TR μ T A):TR μ' T A:=⟨h.1,fun t=>(h.2 t).mono e⟩
theorem Uk{T:Tm}{d:Option Tmp}{v:Value}:(V3 T d v).len=T.len:=by cases d <;> rfl
theorem Ip(d:Nat)(h:d<16000):d+1<2 ^ 14:=by omega
theorem qP{T:Tm}{d:Option Tmp}{v:Value}{t:Nat}(h:∀x,d=some x->x<16000):XJ (V3 T d v) t=if d=some t then v else XJ T t:=by
 cases d with
 |none=>simp[V3]
 |some d=>
  have h2:=Ip d (h d rfl);simp only[V3,XJ,YO];rw[Tri.get_set 14 _ d _ _ h2];by_cases e:d=t
  ·subst e;simp
  ·rw[if_neg (Ne.symm e),if_neg e]
theorem TR.put{μ:Mu}{T:Tm}{A:Array Value}(h:TR μ T A){d:Option Tmp}(hd:∀x,d=some x->x<T.len/\x<16000){v v':Value}(hv:VR μ v v'):TR μ (V3 T d v) (match d with|some x=>A.setIfInBounds x v'|none=>A):=by
 refine⟨?_,fun t=> ?_⟩
 ·rw[Uk];cases d <;> simp[h.1]
 ·rw[qP fun x hx=>(hd x hx).2];cases d with
  |none=>simpa using h.2 t
  |some x=>
   have hx:x<A.size:=h.1 ▸ (hd x rfl).1;simp only[YO];by_cases e:x=t
   ·subst e;simpa[hx]using hv
   ·have:=h.2 t;simp[e]at this ⊢;exact this
def PB:Value->Option Bool
 | .bool b=>some b
 |_=>none
def XR(ops:Array Oper)(T:Tm)(j:Nat):Option Bool:=
 match nth ops.toList j with
 |some o=>match o.dst with
  |some t=>PB (XJ T t)
  |none=>none
 |none=>none
theorem eK{ops:Array Oper}{T:Tm}{j:Nat}:XR ops T j=match(ops[j]?).bind (·.dst)with
 |some t=>PB (XJ T t)
 |none=>none:=by
 unfold XR;rw[Tp,Lq];cases ops[j]? <;> rfl
theorem ia{ops:Array Oper}{A:Array Value}{j:Nat}:yielded ops A j=match(ops[j]?).bind (·.dst)with
 |some t=>PB (A.getD t undef)
 |none=>none:=by
 unfold yielded;cases(ops[j]?).bind (·.dst)with
 |none=>rfl
 |some t=>
  simp only[Option.bind_some,Array.getD_eq_getD_getElem?];cases A[t]? with
  |none=>rfl
  |some v=>cases v <;> rfl
theorem yl{μ:Mu}{v v':Value}(h:VR μ v v'):PB v'=PB v:=by
 cases h with
 |KB a b c=>
  cases v' with
  |bool q=>exact absurd rfl (a q)
  |_=>rfl
 |top a b c=>
  cases v' with
  |bool q=>exact absurd rfl (c.nobool a q)
  |_=>rfl
 |_=>rfl

structure Rec where
 o:Oper
 run:Bool
 v:Value
 T:Tm
 H:Qr
 H':Qr
 n:Nat
 n':Nat
 R:List Nat
 W:List Nat
def Kw:List Rec->Tm->Qr->Nat->Tm->Qr->Nat->Prop
 |[],T,H,n,T',H',n'=>T=T'/\H=H'/\n=n'
 |r::l,T,H,n,T',H',n'=>r.T=T/\r.H=H/\r.n=n/\Kw l (V3 T r.o.dst r.v) r.H' r.n' T' H' n'
structure a9 (len:Nat) (r:Rec):Prop where
 le:r.n<=r.n'
 keep:∀i,i<r.n->i ∉ r.W->Qu r.H' i=Qu r.H i
 top:∀i,r.n'<=i->Qu r.H' i=Qu r.H i
 sub:∀i,i∈r.W->i∈r.R
 wlt:∀i,i∈r.W->i<r.n'
 dst:∀x,r.o.dst=some x->x<len/\x<16000
def b5(r:Rec)(i:Nat):Bool:=r.W.contains i || (LO r.n i && Ls i r.n')
theorem SM{r:Rec}{i:Nat}:b5 r i=true<->i∈r.W\/(r.n<=i/\i<r.n'):=by
 simp only[b5,Bool.or_eq_true,List.contains_iff_mem,YB];refine or_congr Iff.rfl ⟨fun h=>⟨YL h.1,YL h.2⟩,fun h=>⟨LH h.1,LH h.2⟩⟩
def cH(i:Nat)(r:Rec):Option (Option Obj):=bif b5 r i then some (Qu r.H' i)else none
def cT(t:Nat)(r:Rec):Option Value:=if r.o.dst=some t then some r.v else none
theorem FW{len:Nat}{r:Rec}(h:a9 len r)(i:Nat)(a:Option Obj)(ha:a=Qu r.H i):GC true (cH i r) a=Qu r.H' i:=by
 unfold cH;cases ht:b5 r i with
 |true=>rfl
 |false=>
  simp only[cond_false,GC];have hn:¬(i∈r.W\/(r.n<=i/\i<r.n')):=fun e=>by rw[SM.2 e]at ht;cases ht
  rw[ha];rcases LI i r.n with Xu|hge
  ·exact(h.keep i Xu fun e=>hn (.inl e)).symm
  ·exact(h.top i (by
    rcases LI i r.n' with h1|h1
    ·exact absurd (.inr ⟨hge,h1⟩) hn
    ·exact h1)).symm
theorem bn{len:Nat}(i:Nat):∀(l:List Rec) (k:Nat) (T:Tm) (H:Qr) (n:Nat) (T':Tm) (H':Qr) (n':Nat),Kw l T H n T' H' n'->(∀r∈l,a9 len r)->
 (∀j r,l[j]? =some r->Qu r.H i=UO (fun q=>decide (q<k+j)) (l.map (cH i)) k (Qu H i))/\Qu H' i=UO (fun _=>true) (l.map (cH i)) k (Qu H i)
 |[],k,T,H,n,T',H',n',h,_=>⟨fun j r hr=>by simp at hr,by obtain⟨_,rfl,_⟩:=h;rfl⟩
 |r::l,k,T,H,n,T',H',n',h,hs=>by
  obtain⟨h1,h2,h3,h4⟩:=h;obtain⟨q1,q2⟩:=bn i l (k+1) _ _ _ _ _ _ h4 fun x hx=>hs x (Lw _ hx)
  have Zm:=FW (hs r (by simp)) i (Qu H i) (by rw[h2]);refine⟨fun j x hx=> ?_, ?_⟩
  ·cases j with
   |zero=>
    simp only[Lv,YO]at hx;subst hx;rw[Us _ _ _ fun a y _=>by simp,h2]
   |succ j=>
    rw[q1 j x (by simpa using hx)];simp only[List.map_cons,UO];rw[show(decide (k<k+(j+1)))=true by simp];rw[Zm];exact WI _ _ _ fun a y _=>by rw[show k+1+j=k+(j+1)by omega]
  ·rw[q2];simp only[List.map_cons,UO];rw[Zm]
theorem Ki{len:Nat}(t:Nat):∀(l:List Rec) (k:Nat) (T:Tm) (H:Qr) (n:Nat) (T':Tm) (H':Qr) (n':Nat),Kw l T H n T' H' n'->(∀r∈l,a9 len r)->T.len=len->
 (∀j r,l[j]? =some r->r.T.len=len/\XJ r.T t=UO (fun q=>decide (q<k+j)) (l.map (cT t)) k (XJ T t))/\T'.len=len/\XJ T' t=UO (fun _=>true) (l.map (cT t)) k (XJ T t)
 |[],k,T,H,n,T',H',n',h,_,hl=>⟨fun j r hr=>by simp at hr,by obtain⟨rfl,_⟩:=h;exact⟨hl,rfl⟩⟩
 |r::l,k,T,H,n,T',H',n',h,hs,hl=>by
  obtain⟨h1,h2,h3,h4⟩:=h;have hd:=(hs r (by simp)).dst;have hlen:(V3 T r.o.dst r.v).len=len:=by rw[Uk];exact hl
  obtain⟨q1,q2,q3⟩:=Ki t l (k+1) _ _ _ _ _ _ h4 (fun x hx=>hs x (Lw _ hx)) hlen;have Zm:GC true (cT t r) (XJ T t)=XJ (V3 T r.o.dst r.v) t:=by
   rw[qP fun x hx=>(hd x hx).2];unfold cT;split <;> rfl
  refine⟨fun j x hx=> ?_,q2, ?_⟩
  ·cases j with
   |zero=>
    simp only[Lv,YO]at hx;subst hx;rw[Us _ _ _ fun a y _=>by simp,h1];exact⟨hl,rfl⟩
   |succ j=>
    obtain⟨a1,a2⟩:=q1 j x (by simpa using hx);refine⟨a1, ?_⟩;rw[a2];simp only[List.map_cons,UO];rw[show(decide (k<k+(j+1)))=true by simp];rw[Zm];exact WI _ _ _ fun a y _=>by rw[show k+1+j=k+(j+1)by omega]
  ·rw[q3];simp only[List.map_cons,UO];rw[Zm]
theorem YT{len:Nat}:∀(l:List Rec) (T:Tm) (H:Qr) (n:Nat) (T':Tm) (H':Qr) (n':Nat),Kw l T H n T' H' n'->(∀r∈l,a9 len r)->
 n<=n'/\(∀r∈l,n<=r.n/\r.n'<=n')/\(∀(i j:Nat) (a b:Rec),i<j->l[i]? =some a->l[j]? =some b->a.n'<=b.n)/\(∀x,n<=x->x<n'->∃(j:Nat) (r:Rec),l[j]? =some r/\r.n<=x/\x<r.n')
 |[],T,H,n,T',H',n',h,_=>by obtain⟨_,_,rfl⟩:=h;exact⟨LC _,by simp,fun i j a b _ h=>by simp at h,fun x h1 h2=>absurd h1 (by omega)⟩
 |r::l,T,H,n,T',H',n',h,hs=>by
  obtain⟨h1,h2,h3,h4⟩:=h;obtain⟨q1,q2,q3,q4⟩:=YT l _ _ _ _ _ _ h4 fun x hx=>hs x (Lw _ hx)
  have hr:=(hs r (by simp)).le;refine⟨by omega,fun x hx=> ?_,fun i j a b Pq ha hb=> ?_,fun x hx1 hx2=> ?_⟩
  ·rcases List.mem_cons.1 hx with rfl|hx
   ·omega
   ·have:=q2 x hx;omega
  ·cases j with
   |zero=>omega
   |succ j=>
    cases i with
    |zero=>
     simp only[Lv,YO]at ha;subst ha;exact(q2 b (Lp (by simpa using hb))).1
    |succ i=>exact q3 i j a b (by omega) (by simpa using ha) (by simpa using hb)
  ·rcases LI x r.n' with Xu|hge
   ·exact⟨0,r,rfl,by omega,Xu⟩
   ·obtain⟨j,r',hj,hx⟩:=q4 x hge hx2;exact⟨j+1,r',by simpa using hj,hx⟩

theorem uG{α:Type}{l m:List α}{i:Nat}{d:α}(h:i<l.length):(l++m).getD i d=l.getD i d:=by
 rw[Lu,Lu,LG h]
def fO:List Oper->List Nat->List Nat
 |[],acc=>acc
 |o::l,acc=>fO l (acc++[o.after.toList.foldr (fun e m=>bif Region.binds .any e then Nat.lor (Nat.lor (Nat.shiftLeft 1 e.on) (acc.getD e.on 0)) m else m) 0])
def CU(n m:Nat):List Nat:=(Ln n).filter fun i=>Lk (Nat.land (Nat.shiftRight m i) 1) 1
theorem nX{n m i:Nat}:i∈CU n m<->i<n/\m.testBit i=true:=by
 unfold CU;rw[List.mem_filter,List.mem_range,Nat.beq_eq,Nat.testBit_eq_decide_div_mod_eq,decide_eq_true_iff];show(i<n/\(m >>> i) &&& 1=1)<->_;rw[Nat.and_one_is_mod,Nat.shiftRight_eq_div_pow]
theorem xW{a b i:Nat}:(Nat.lor a b).testBit i=(a.testBit i || b.testBit i):=Nat.testBit_or a b i
theorem Fp{k i:Nat}(h:(Nat.shiftLeft 1 k).testBit i=true):i=k:=by
 have e:Nat.shiftLeft 1 k=2 ^ k:=by show 1 <<< k=_;rw[Nat.shiftLeft_eq,Nat.one_mul]
 rw[e,Nat.testBit_two_pow]at h;exact(of_decide_eq_true h).symm
theorem mc{acc:List Nat}{i:Nat}:∀(l:List Edge),(l.foldr (fun e m=>bif Region.binds .any e then Nat.lor (Nat.lor (Nat.shiftLeft 1 e.on) (acc.getD e.on 0)) m else m) 0).testBit i=true->∃e∈l,Region.binds .any e=true/\(i=e.on\/(acc.getD e.on 0).testBit i=true)
 |[],h=>by simp at h
 |e::l,h=>by
  rw[List.foldr_cons]at h;cases hb:Region.binds .any e with
  |false=>
   rw[hb,cond_false]at h;obtain⟨x,hx,h1⟩:=mc l h;exact⟨x,Lw _ hx,h1⟩
  |true=>
   rw[hb,cond_true,xW,xW,Bool.or_eq_true,Bool.or_eq_true]at h;rcases h with (h|h)|h
   ·exact⟨e,List.mem_cons_self,hb,Or.inl (Fp h)⟩
   ·exact⟨e,List.mem_cons_self,hb,Or.inr h⟩
   ·obtain⟨x,hx,h1⟩:=mc l h;exact⟨x,Lw _ hx,h1⟩
def YU(l:List Oper)(_:List (List Nat)):List (List Nat):=(fO l []).map (CU l.length)
def IQ(ops:List Oper)(bs:List (List Nat)):Prop:=bs.length<=ops.length/\∀k b,bs[k]? =some b->∀i∈b,∃o,ops[k]? =some o/\∃e∈o.after,Region.binds .any e=true/\e.on<k/\(i=e.on\/i∈bs.getD e.on [])
def I4(ops:List Oper)(bs:List Nat):Prop:=bs.length<=ops.length/\∀k b,bs[k]? =some b->∀i,b.testBit i=true->∃o,ops[k]? =some o/\∃e∈o.after,Region.binds .any e=true/\e.on<k/\(i=e.on\/(bs.getD e.on 0).testBit i=true)
theorem uY:∀(l pre:List Oper) (acc:List Nat),acc.length=pre.length->I4 (pre++l) acc->(∀(k:Nat) o,(pre++l)[k]? =some o->∀e∈o.after,Region.binds .any e=true->e.on<k)->I4 (pre++l) (fO l acc)/\(fO l acc).length=(pre++l).length
 |[],pre,acc,hl,h,_=>⟨h,by simpa[fO]using hl⟩
 |o::l,pre,acc,hl,h,Xu=>by
  have e:pre++o::l=(pre++[o])++l:=by simp
  rw[e]at h Xu ⊢;refine uY l (pre++[o]) _ (by simp[hl]) ⟨by simp[hl],fun k b hb i hi=> ?_⟩ Xu;rcases LI k acc.length with hk|hk
  ·rw[LG hk]at hb;obtain⟨x,hx,ed,hed,hbd,hon,We⟩:=h.2 k b hb i hi;refine⟨x,hx,ed,hed,hbd,hon,We.imp id fun h=> ?_⟩;rwa[uG (by omega)]
  ·have hk0:k=acc.length:=by
    have:=(List.getElem?_eq_some_iff.1 hb).1;simp at this;omega
   subst hk0;rw[Lt (LC _)]at hb;simp only[Nat.sub_self,Lv,YO]at hb;subst hb;have ho:((pre++[o])++l)[acc.length]? =some o:=by rw[hl];simp
   obtain⟨ed,hed,hbd,hi⟩:=mc _ hi;have hon:=Xu acc.length o ho ed (by simpa using hed) hbd;exact⟨o,ho,ed,by simpa using hed,hbd,hon,hi.imp id fun h=>by rwa[uG (by omega)]⟩
theorem qz(l:List Oper)(Xu:∀(k:Nat) o,l[k]? =some o->∀e∈o.after,Region.binds .any e=true->e.on<k):IQ l (YU l [])/\(YU l []).length=l.length:=by
 obtain⟨⟨h1,h2⟩,h3⟩:=uY l [] [] rfl ⟨by simp,fun q b hq=>by simp at hq⟩ (fun q o ho=>Xu q o (by simpa using ho));simp only[List.nil_append]at h1 h2 h3;refine⟨⟨by simpa[YU]using h1,fun k b hb i hi=> ?_⟩,by simpa[YU]using h3⟩;unfold YU at hb ⊢;rw[LA]at hb;cases hm:(fO l [])[k]? with
 |none=>rw[hm]at hb;cases hb
 |some m=>
  rw[hm]at hb;simp only[LJ,YO]at hb;subst hb;obtain⟨hi1,hi2⟩:=nX.1 hi;obtain⟨o,ho,e,he,hbd,hon,We⟩:=h2 k m hm i hi2;refine⟨o,ho,e,he,hbd,hon,We.imp id fun h=> ?_⟩;have hk:k<(fO l []).length:=(List.getElem?_eq_some_iff.1 hm).1;have he2:e.on<(fO l []).length:=by omega
  rw[Lu,LA,L9 he2];rw[Lu,L9 he2]at h;exact nX.2 ⟨hi1,h⟩
theorem xt{ops:List Oper}{bs:List (List Nat)}(h:IQ ops bs){D:Nat->Bool}(hD:∀k o,D k=true->ops[k]? =some o->∀e∈o.after,Region.binds .any e=true->D e.on=true):
 ∀(k:Nat),(∀o,ops[k]? =some o->∀e∈o.after,Region.binds .any e=true->D e.on=true)->∀i∈bs.getD k [],D i=true:=by
 intro k;induction k using LQ with
 |_ k ih=>
  intro hk i hi;rw[Lu]at hi;cases hb:bs[k]? with
  |none=>rw[hb]at hi;simp at hi
  |some b=>
   rw[hb]at hi;obtain⟨o,ho,e,he,hbd,hon,We⟩:=h.2 k b hb i hi;have hDe:=hk o ho e he hbd;rcases We with rfl|We
   ·exact hDe
   ·exact ih e.on hon (fun o' UY=>hD e.on o' hDe UY) i We
end Go.CE

namespace Go.CE
open Go Go.RowKit

inductive OO where
 |ret (v:Value)
 |ZO (v:Value)
inductive OR2 (μ:Mu):OO->OO->Prop
 |ret {v v'}:VR μ v v'->OR2 μ (.ret v) (.ret v')
 |ZO {v v'}:VR μ v v'->OR2 μ (.ZO v) (.ZO v')
def OO.on(fr:Frame):OO->Frame
 | .ret v=>fr.finish v
 | .ZO v=>fr.raise [{v,recovered:=false}]
def RL(P:Program)(B:Lo)(o:Oper)(ev:Operand->Option Value)(H:Qr)(n:Nat)(out:OO)(H':Qr)(n':Nat)(R W:List Nat):Prop:=
 ∀(S:Nat->Prop) (μ:Mu) (w:World) (fr:Frame) (cs:List Frame) (k:List Item) (ops:Array Oper) (i:Nat) (rest:List Nat),Ok B S μ (Qu H) w->B.has w->(∀i,S i->i<n)->YV μ n n'->
  (∀x∈o.op.operands,∀v,ev x=some v->VR μ v (fr.eval x))->(∀i∈R,i<n->S i)->
  fr.mode=.run->fr.todo=.inRegion ops (i::rest)::k->ops[i]? =some o->Region.wanted o (yielded ops fr.tmps)=true->
  ∃Zn w' μ',Post B S n n' W μ μ' H H' w w'/\OR2 μ' out Zn/\Steps P (lone fr cs w) (lone (Zn.on fr) cs w')
def Py(P:Program)(B:Lo)(ops:Array Oper)(r:Rec):Prop:=
 (r.run=Region.wanted r.o (XR ops r.T))/\(r.run=true->RL P B r.o (Zp r.T) r.H r.n (.ret r.v) r.H' r.n' r.R r.W)/\(r.run=false->r.v=undef/\r.H'=r.H/\r.n'=r.n/\r.W=[])

def meets(r x:Rec):Bool:=r.W.any fun i=>x.R.contains i
def bears(r x:Rec):Bool:=x.R.any fun i=>LO r.n i && Ls i r.n'
def tied(ops:Array Oper)(r x:Rec):Bool:= !(r.o.apart ops x.o) || meets r x || meets x r || bears r x
def Kr(ops:Array Oper)(r:Rec)(k:Nat):List Rec->List (List Nat)->Bool
 |x::l,b::bs=>(b.contains k || !(tied ops r x)) && Kr ops r k l bs
 |[],_=>true
 |_::_,[]=>false
def indep(ops:Array Oper):Nat->List Rec->List (List Nat)->Bool
 |k,r::l,_::bs=>Kr ops r k l bs && indep ops (k+1) l bs
 |_,[],_=>true
 |_,_::_,[]=>false
theorem Tv{ops:Array Oper}{r:Rec}{k:Nat}:∀(l:List Rec) (bs:List (List Nat)),Kr ops r k l bs=true->∀(j:Nat) x,l[j]? =some x->tied ops r x=true->k∈bs.getD j []
 |x::l,b::bs,h,j,y,hj,ht=>by
  simp only[Kr,YB,Bool.or_eq_true,Bool.not_eq_true',List.contains_iff_mem]at h;cases j with
  |zero=>
   simp only[Lv,YO]at hj;subst hj;rcases h.1 with h1|h1
   ·simpa using h1
   ·rw[ht]at h1;cases h1
  |succ j=>
   have:=Tv l bs h.2 j y (by simpa using hj) ht;simpa using this
 |[],_,_,j,y,hj,_=>by simp at hj
 |_::_,[],h,_,_,_,_=>by simp[Kr]at h
theorem Sx{ops:Array Oper}:∀(l:List Rec) (bs:List (List Nat)) (k:Nat),indep ops k l bs=true->∀(i j:Nat) r x,i<j->l[i]? =some r->l[j]? =some x->tied ops r x=true->k+i∈bs.getD j []
 |r::l,b::bs,k,h,i,j,y,x,Pq,hi,hj,ht=>by
  simp only[indep,YB]at h;cases j with
  |zero=>omega
  |succ j=>
   cases i with
   |zero=>
    simp only[Lv,YO]at hi;subst hi;have:=Tv l bs h.1 j x (by simpa using hj) ht;simpa using this
   |succ i=>
    have:=Sx l bs (k+1) h.2 i j y x (by omega) (by simpa using hi) (by simpa using hj) ht;rw[show k+1+i=k+(i+1)by omega]at this;simpa using this
 |[],_,_,_,i,j,y,x,_,hi,_,_=>by simp at hi
 |_::_,[],_,h,_,_,_,_,_,_,_,_=>by simp[indep]at h
theorem PG.congr{B:Nat}{S New New' W W':Nat->Prop}{μ μ':Mu}{G G' G'':Nat->Option Obj}{w w':World}(h:PG B S New W μ μ' G G' w w')(hN:∀i,New i<->New' i)(hW:∀i,W i<->W' i)(hG:∀i,G' i=G'' i):PG B S New' W' μ μ' G G'' w w':=by
 have e1:New=New':=funext fun i=>propext (hN i)
 have e2:W=W':=funext fun i=>propext (hW i)
 have e3:G'=G'':=funext hG;subst e1 e2 e3;exact h

def IP(ops:Array Oper)(Qx:List Rec)(bs:List (List Nat)):Prop:=∀(i j:Nat) (r x:Rec),i<j->Qx[i]? =some r->Qx[j]? =some x->tied ops r x=true->0+i∈bs.getD j []
structure Setup (P:Program) (B:Lo) (ops:Array Oper) (Qx:List Rec) (bs:List (List Nat)) (T:Tm) (H:Qr) (n:Nat) (T':Tm) (H':Qr) (n':Nat):Prop where
 chain:Kw Qx T H n T' H' n'
 P0:∀r∈Qx,a9 T.len r
 own:∀(i:Nat) r,Qx[i]? =some r->ops[i]? =some r.o
 len:Qx.length=ops.size
 bef:IQ ops.toList bs
 ind:IP ops Qx bs
 edge:∀(k:Nat) o,ops[k]? =some o->∀e∈o.after,Region.binds .any e=true->e.on<k
section
variable {P:Program} {B:Lo} {ops:Array Oper} {Qx:List Rec} {bs:List (List Nat)} {T:Tm} {H:Qr} {n:Nat} {T':Tm} {H':Qr} {n':Nat}
def gD(Qx:List Rec)(H:Qr)(D:Nat->Bool)(i:Nat):Option Obj:=UO D (Qx.map (cH i)) 0 (Qu H i)
def tD(Qx:List Rec)(T:Tm)(D:Nat->Bool)(t:Nat):Value:=UO D (Qx.map (cT t)) 0 (XJ T t)
def qG(Qx:List Rec)(D:Nat->Bool)(i:Nat):Prop:=∃(j:Nat) (r:Rec),D j=true/\Qx[j]? =some r/\r.n<=i/\i<r.n'
def WD(Qx:List Rec)(n:Nat)(D:Nat->Bool)(i:Nat):Prop:=i<n/\∃(j:Nat) (r:Rec),D j=true/\Qx[j]? =some r/\i∈r.W
def Uy(ops:Array Oper)(D:Nat->Bool):Prop:=∀k o,D k=true->ops[k]? =some o->∀e∈o.after,Region.binds .any e=true->D e.on=true
theorem m7(h:Setup P B ops Qx bs T H n T' H' n'){D:Nat->Bool}(hD:Uy ops D){k:Nat}(hk:∀o,ops[k]? =some o->∀e∈o.after,Region.binds .any e=true->D e.on=true):∀i∈bs.getD k [],D i=true:=
 xt h.bef (fun k o a b=>hD k o a (by simpa using b)) k (fun o a=>hk o (by simpa using a))
theorem rn(h:Setup P B ops Qx bs T H n T' H' n'){D:Nat->Bool}(hD:Uy ops D){j:Nat}{x:Rec}(hj:Qx[j]? =some x)(hn:D j=false)(hr:∀o,ops[j]? =some o->∀e∈o.after,Region.binds .any e=true->D e.on=true)
 {i:Nat} {r:Rec} (hi:Qx[i]? =some r) (ht:(i<j->tied ops r x=true)/\(j<i->tied ops x r=true)):D i=decide (i<j):=by
 rcases Nat.lt_trichotomy i j with Xu|heq|hgt
 ·have:=h.ind i j r x Xu hi hj (ht.1 Xu);rw[LF]at this;rw[m7 h hD hr i this];simp[Xu]
 ·subst heq;rw[hn];simp
 ·have:=h.ind j i x r hgt hj hi (ht.2 hgt);rw[LF]at this;have hf:D i=false:=by
   cases hd:D i with
   |false=>rfl
   |true=>
    have:=m7 h hD (k:=i) (fun o ho=>hD i o hd ho) j this;rw[hn]at this;cases this
  rw[hf];simp;omega
theorem eO{r x:Rec}{t:Nat}(ht:r.o.dst=some t)(hl:t∈x.o.looksAt ops\/x.o.dst=some t):tied ops r x=true/\tied ops x r=true:=by
 constructor
 ·have:r.o.apart ops x.o=false:=by
   cases hap:r.o.apart ops x.o with
   |false=>rfl
   |true=>
    obtain⟨h1,h2,_⟩:=Oper.apart_spec hap;rcases hl with hl|hl
    ·exact absurd hl (h1 t ht)
    ·exact absurd hl (h2 t ht)
  simp[tied,this]
 ·have:x.o.apart ops r.o=false:=by
   cases hap:x.o.apart ops r.o with
   |false=>rfl
   |true=>
    obtain⟨_,h2,h3⟩:=Oper.apart_spec hap;rcases hl with hl|hl
    ·exact absurd hl (h3 t ht)
    ·exact absurd ht (h2 t hl)
  simp[tied,this]
theorem hO{t:Nat}{i:Nat}{v:Value}(h:(Qx.map (cT t))[i]? =some (some v)):∃r,Qx[i]? =some r/\r.o.dst=some t/\r.v=v:=by
 rw[LA]at h;cases hr:Qx[i]? with
 |none=>rw[hr]at h;cases h
 |some r=>
  rw[hr]at h;simp only[LJ,YO,cT]at h;split at h
  ·rename_i hd;exact⟨r,rfl,hd,by simpa using h⟩
  ·cases h
theorem hQ{q:Nat}{i:Nat}{v:Option Obj}(h:(Qx.map (cH q))[i]? =some (some v)):∃r,Qx[i]? =some r/\(q∈r.W\/(r.n<=q/\q<r.n'))/\Qu r.H' q=v:=by
 rw[LA]at h;cases hr:Qx[i]? with
 |none=>rw[hr]at h;cases h
 |some r=>
  rw[hr]at h;simp only[LJ,YO,cH]at h;cases ht:b5 r q with
  |false=>rw[ht]at h;cases h
  |true=>rw[ht]at h;exact⟨r,rfl,SM.1 ht,by simpa using h⟩
theorem qT(h:Setup P B ops Qx bs T H n T' H' n'){D:Nat->Bool}(hD:Uy ops D){j:Nat}{x:Rec}(hj:Qx[j]? =some x)(hn:D j=false)(hr:∀o,ops[j]? =some o->∀e∈o.after,Region.binds .any e=true->D e.on=true)
 {t:Nat} (ht:t∈x.o.looksAt ops):tD Qx T D t=XJ x.T t:=by
 obtain⟨q1,_⟩:=Ki (len:=T.len) t Qx 0 T H n T' H' n' h.chain h.P0 rfl;rw[(q1 j x hj).2];refine WI _ _ _ fun i v hv=> ?_
 obtain⟨r,YD,hd,_⟩:=hO hv;have htt:=eO (ops:=ops) hd (.inl ht);simp only[LF];exact rn h hD hj hn hr YD ⟨fun _=>htt.1,fun _=>htt.2⟩
theorem yy(h:Setup P B ops Qx bs T H n T' H' n'){i j:Nat}{r x:Rec}{q:Nat}(hi:Qx[i]? =some r)(hj:Qx[j]? =some x)(hq:q∈x.R)(hqn:q<x.n)(hr:q∈r.W\/(r.n<=q/\q<r.n')):(i<j->tied ops r x=true)/\(j<i->tied ops x r=true):=by
 have P8:=YT Qx T H n T' H' n' h.chain h.P0;rcases hr with hr|hr
 ·have m1:meets r x=true:=List.any_eq_true.2 ⟨q,hr,by simpa using hq⟩;exact⟨fun _=>by simp[tied,m1],fun _=>by simp[tied,m1]⟩
 ·refine⟨fun _=> ?_,fun Xu=> ?_⟩
  ·have:bears r x=true:=List.any_eq_true.2 ⟨q,hq,by simp only[YB];exact⟨LH hr.1,LH hr.2⟩⟩;simp[tied,this]
  ·have h1:=P8.2.2.1 j i x r Xu hj hi;have h2:=(h.P0 x (Lp hj)).le;omega
theorem Dy(h:Setup P B ops Qx bs T H n T' H' n'){D:Nat->Bool}(hD:Uy ops D){j:Nat}{x:Rec}(hj:Qx[j]? =some x)(hn:D j=false)(hr:∀o,ops[j]? =some o->∀e∈o.after,Region.binds .any e=true->D e.on=true)
 {q:Nat} (hq:q∈x.R) (hqn:q<x.n):gD Qx H D q=Qu x.H q:=by
 obtain⟨q1,_⟩:=bn (len:=T.len) q Qx 0 T H n T' H' n' h.chain h.P0;rw[q1 j x hj];refine WI _ _ _ fun i v hv=> ?_
 obtain⟨r,YD,hd,_⟩:=hQ hv;simp only[LF];exact rn h hD hj hn hr YD (yy h YD hj hq hqn hd)
end
end Go.CE

namespace Go.CE
open Go Go.RowKit

theorem Ok.congr{B:Nat}{S:Nat->Prop}{μ:Mu}{G G':Nat->Option Obj}{w:World}(h:Ok B S μ G w)(hg:∀i,S i->G' i=G i):Ok B S μ G' w:=
 ⟨fun i o a b c=>h.rel i o a (by rw[<-hg i a];exact b) c,fun i o im a b c d=>h.low i o im a (by rw[<-hg i a];exact b) c d,
  fun i j oi oj x y a b c d e=>h.inj i j oi oj x y a b c (by rw[<-hg i a];exact d) (by rw[<-hg j b];exact e),
  fun i o a b=>h.Y6 i o a (by rw[<-hg i a];exact b),fun i j oi oj x y z a b c d=>h.sep i j oi oj x y z a b (by rw[<-hg i a];exact c) (by rw[<-hg j b];exact d)⟩
def Xo(fr:Frame)(A:Array Value)(ops:Array Oper)(l:List Nat)(k:List Item):Frame:={fr with tmps:=A,todo:=.inRegion ops l::k}
theorem S6{fr:Frame}{A:Array Value}{ops:Array Oper}{i:Nat}{l:List Nat}{k:List Item}{o:Oper}(ho:ops[i]? =some o)(v:Value):
 (Xo fr A ops (i::l) k).finish v=Xo fr (match o.dst with|some d=>A.setIfInBounds d v|none=>A) ops l k:=by
 simp only[Frame.finish,Xo,ho,Option.bind_some];cases o.dst <;> rfl
theorem b9{P:Program}{fr:Frame}{cs:List Frame}{w:World}{A:Array Value}{ops:Array Oper}{i:Nat}{l:List Nat}{k:List Item}{o:Oper}(hm:fr.mode=.run)(ho:ops[i]? =some o)(hw:Region.wanted o (yielded ops A)=false):
 step P (lone (Xo fr A ops (i::l) k) cs w)=.next (lone ((Xo fr A ops (i::l) k).finish undef) cs w):=
 step_lone_go (by simp[stepG,stepG.exec,Xo,hm,ho,hw])
theorem Vo{P:Program}{fr:Frame}{cs:List Frame}{w:World}{A:Array Value}{ops:Array Oper}{k:List Item}(hm:fr.mode=.run):
 step P (lone (Xo fr A ops [] k) cs w)=.next (lone {fr with tmps:=A,todo:=k} cs w):=
 step_lone_go (by simp[stepG,stepG.exec,Xo,hm])
section
variable {P:Program} {B:Lo} {ops:Array Oper} {Qx:List Rec} {bs:List (List Nat)} {T:Tm} {H:Qr} {n:Nat} {T':Tm} {H':Qr} {n':Nat}
theorem Lo.has.pg{L:Lo}{S New W:Nat->Prop}{μ μ':Mu}{G G':Nat->Option Obj}{w w':World}(h:L.has w)(QH:Ok L.B S μ G w)(hp:PG L.B S New W μ μ' G G' w w'):L.has w':=by
 refine⟨Nat.le_trans h.le hp.grow,L.still w w' (fun b hb=>hp.frame b (Nat.lt_of_lt_of_le hb h.le) fun i hi im QP=> ?_) h.inv⟩;obtain⟨hs,⟨o,ho,hl⟩,ZL,QZ,Pp⟩:=hp.wr i hi;rw[QP]at QZ;cases QZ;have:=(QH.low i o im hs ho hl QP).2.1 Pp;omega
structure Inv (B:Nat) (Qx:List Rec) (T:Tm) (H:Qr) (n:Nat) (S:Nat->Prop) (μ0:Mu) (w0:World) (D:Nat->Bool) (μ:Mu) (A:Array Value) (w:World):Prop where
 pg:PG B S (qG Qx D) (WD Qx n D) μ0 μ (Qu H) (gD Qx H D) w0 w
 size:A.size=T.len
 tmps:∀t,VR μ (tD Qx T D t) (A.getD t undef)
theorem cover(h:Setup P B ops Qx bs T H n T' H' n'){D:Nat->Bool}(hD:Uy ops D){j:Nat}{x:Rec}(hj:Qx[j]? =some x)(hr:∀o,ops[j]? =some o->∀e∈o.after,Region.binds .any e=true->D e.on=true)
 {q:Nat} (hq:q∈x.R) (hqn:q<x.n):q<n\/qG Qx D q:=by
 rcases LI q n with Xu|hge
 ·exact .inl Xu
 ·have P8:=YT Qx T H n T' H' n' h.chain h.P0;have hx:=P8.2.1 x (Lp hj);have hxs:=(h.P0 x (Lp hj)).le;obtain⟨i,r,hi,h1,h2⟩:=P8.2.2.2 q hge (by omega);rcases Nat.lt_trichotomy i j with Xu|heq|hgt
  ·have hb:bears r x=true:=List.any_eq_true.2 ⟨q,hq,by simp only[YB];exact⟨LH h1,LH h2⟩⟩;have:=h.ind i j r x Xu hi hj (by simp[tied,hb]);rw[LF]at this;exact .inr ⟨i,r,m7 h hD hr i this,hi,h1,h2⟩
  ·subst heq;rw[hj]at hi;cases hi;omega
  ·have:=P8.2.2.1 j i x r hgt hj hi;omega
theorem bw(h:Setup P B ops Qx bs T H n T' H' n'){D:Nat->Bool}(hD:Uy ops D){j:Nat}{x:Rec}(hj:Qx[j]? =some x)(hn:D j=false)(hr:∀o,ops[j]? =some o->∀e∈o.after,Region.binds .any e=true->D e.on=true)
 {μ:Mu} {A:Array Value} (hA:∀t,VR μ (tD Qx T D t) (A.getD t undef)):Region.wanted x.o (yielded ops A)=Region.wanted x.o (XR ops x.T):=by
 unfold Region.wanted;cases hg:x.o.guard with
 |none=>rfl
 |some gw=>
  obtain⟨g,want⟩:=gw;have:yielded ops A g=XR ops x.T g:=by
   rw[ia,eK];cases hd:(ops[g]?).bind (·.dst)with
   |none=>rfl
   |some t=>
    have ht:t∈x.o.looksAt ops:=by simp[Oper.looksAt,hg,hd]
    have:=hA t;rw[qT h hD hj hn hr ht]at this;exact yl this
  simp only[this]
theorem xb(h:Setup P B ops Qx bs T H n T' H' n'){D:Nat->Bool}(hD:Uy ops D){j:Nat}{x:Rec}(hj:Qx[j]? =some x)(hn:D j=false)(hr:∀o,ops[j]? =some o->∀e∈o.after,Region.binds .any e=true->D e.on=true)
 {μ:Mu} {A:Array Value} (hA:∀t,VR μ (tD Qx T D t) (A.getD t undef)) {fr:Frame} {l:List Nat} {k:List Item}:∀y∈x.o.op.operands,∀v,Zp x.T y=some v->VR μ v ((Xo fr A ops l k).eval y):=by
 intro y hy v hv;cases y with
 |tmp t=>
  simp only[Zp,YO]at hv;subst hv;have ht:t∈x.o.looksAt ops:=by
   unfold Oper.looksAt;exact Ll _ (List.mem_filterMap.2 ⟨.tmp t,by simpa using hy,rfl⟩)
  rw[<-qT h hD hj hn hr ht];exact hA t
 |const u=>
  simp only[Zp]at hv;cases ha:af u with
  |false=>rw[ha]at hv;cases hv
  |true=>rw[ha]at hv;simp only[cond_true,YO]at hv;subst hv;exact Jk ha
 |func f=>
  simp only[Zp,YO]at hv;subst hv;exact Jk rfl
 |global g=>cases hv
theorem ir(h:Setup P B ops Qx bs T H n T' H' n'){D:Nat->Bool}(hD:Uy ops D){j:Nat}{x:Rec}(hj:Qx[j]? =some x)(hn:D j=false){i:Nat}{r:Rec}(hi:Qx[i]? =some r)(Xu:j<i)(ht:tied ops x r=true):D i=false:=by
 have:=h.ind j i x r Xu hj hi ht;rw[LF]at this;cases hd:D i with
 |false=>rfl
 |true=>
  have:=m7 h hD (k:=i) (fun o ho=>hD i o hd ho) j this;rw[hn]at this;cases this
def plus(D:Nat->Bool)(j:Nat):Nat->Bool:=fun k=>D k || Lk k j
theorem Vq{D:Nat->Bool}{j:Nat}:plus D j j=true:=by simp[plus]
theorem V7{D:Nat->Bool}{j k:Nat}(h:k≠j):plus D j k=D k:=by simp[plus,SB h]
theorem Eh(h:Setup P B ops Qx bs T H n T' H' n'){D:Nat->Bool}(hD:Uy ops D){j:Nat}{x:Rec}(hj:Qx[j]? =some x)(hn:D j=false)(t:Nat):tD Qx T (plus D j) t=if x.o.dst=some t then x.v else tD Qx T D t:=by
 by_cases hd:x.o.dst=some t
 ·rw[if_pos hd];refine lV _ 0 j _ ?_ (by rw[LF];exact Vq) fun i y hi hy=> ?_
  ·rw[LA,hj];simp[cT,hd]
  ·rw[LF,V7 (by omega)];obtain⟨r,YD,hrd,_⟩:=hO hy;exact ir h hD hj hn YD hi (eO (ops:=ops) hd (.inr hrd)).1
 ·rw[if_neg hd];refine WI _ _ _ fun i y hy=> ?_
  obtain⟨r,YD,hrd,_⟩:=hO hy;rw[LF];refine V7 fun e=> ?_
  subst e;rw[hj]at YD;cases YD;exact hd hrd
theorem xa(h:Setup P B ops Qx bs T H n T' H' n'){D:Nat->Bool}(hD:Uy ops D){j:Nat}{x:Rec}(hj:Qx[j]? =some x)(hn:D j=false){q:Nat}(hq:q∈x.W\/(x.n<=q/\q<x.n')):gD Qx H (plus D j) q=Qu x.H' q:=by
 refine lV _ 0 j _ ?_ (by rw[LF];exact Vq) fun i y hi hy=> ?_
 ·rw[LA,hj];simp[cH,SM.2 hq]
 ·rw[LF,V7 (by omega)];obtain⟨r,YD,hrd,_⟩:=hQ hy;have P8:=YT Qx T H n T' H' n' h.chain h.P0;have hsr:=h.P0 r (Lp YD);have hsx:=h.P0 x (Lp hj);have Xu:=P8.2.2.1 j i x r hi hj YD;have hxl:=hsx.le;refine ir h hD hj hn YD hi ?_;rcases hq with hq|hq
  ·rcases hrd with hrd|hrd
   ·have:meets x r=true:=List.any_eq_true.2 ⟨q,hq,by simpa using hsr.sub q hrd⟩;simp[tied,this]
   ·have:=hsx.wlt q hq;omega
  ·rcases hrd with hrd|hrd
   ·have:bears x r=true:=List.any_eq_true.2 ⟨q,hsr.sub q hrd,by simp only[YB];exact⟨LH hq.1,LH hq.2⟩⟩;simp[tied,this]
   ·omega
theorem fI{D:Nat->Bool}{j:Nat}{x:Rec}(hj:Qx[j]? =some x){q:Nat}(hq:¬(q∈x.W\/(x.n<=q/\q<x.n'))):gD Qx H (plus D j) q=gD Qx H D q:=by
 refine WI _ _ _ fun i y hy=> ?_
 obtain⟨r,YD,hrd,_⟩:=hQ hy;rw[LF];refine V7 fun e=> ?_
 subst e;rw[hj]at YD;cases YD;exact hq hrd
theorem oz{D:Nat->Bool}{j:Nat}{x:Rec}(hj:Qx[j]? =some x)(i:Nat):(qG Qx D i\/(x.n<=i/\i<x.n'))<->qG Qx (plus D j) i:=by
 constructor
 ·rintro(⟨k,r,hd,hr,h1⟩|h1)
  ·exact⟨k,r,by simp[plus,hd],hr,h1⟩
  ·exact⟨j,x,Vq,hj,h1⟩
 ·rintro⟨k,r,hd,hr,h1⟩;by_cases e:k=j
  ·subst e;rw[hj]at hr;cases hr;exact .inr h1
  ·rw[V7 e]at hd;exact .inl ⟨k,r,hd,hr,h1⟩
theorem uD(h:Setup P B ops Qx bs T H n T' H' n'){S:Nat->Prop}{μ0:Mu}{w0:World}(hS:∀i,S i->i<n)(hR:∀r∈Qx,∀i∈r.R,i<n->S i)(V1:YV μ0 n n')(hB:B.has w0)(hok0:Ok B S μ0 (Qu H) w0){D:Nat->Bool}(hD:Uy ops D){j:Nat}(hn:D j=false)
 (hr:∀o,ops[j]? =some o->∀e∈o.after,Region.binds .any e=true->D e.on=true) {μ:Mu} {A:Array Value} {w:World} (hi:Inv B Qx T H n S μ0 w0 D μ A w) {fr:Frame} {cs:List Frame} {l:List Nat} {k:List Item} (hm:fr.mode=.run)
 {x:Rec} (hj:Qx[j]? =some x) {out:OO} (hdo:RL P B x.o (Zp x.T) x.H x.n out x.H' x.n' x.R x.W) (VY:Region.wanted x.o (XR ops x.T)=true):
 ∃Zn μ' w',PG B S (qG Qx (plus D j)) (WD Qx n (plus D j)) μ0 μ' (Qu H) (gD Qx H (plus D j)) w0 w'/\Ext μ μ'/\OR2 μ' out Zn/\Steps P (lone (Xo fr A ops (j::l) k) cs w) (lone (Zn.on (Xo fr A ops (j::l) k)) cs w'):=by
 have hx:=Lp hj;have hsx:=h.P0 x hx;have Ws:=h.own j x hj;have P8:=YT Qx T H n T' H' n' h.chain h.P0;have hxn:=P8.2.1 x hx;have hnewn:∀i,x.n<=i->i<x.n'->¬qG Qx D i:=by
  rintro i h1 h2 ⟨q,r,a,b,c,d⟩;rcases Nat.lt_trichotomy q j with hq|hq|hq
  ·have:=P8.2.2.1 q j r x hq b hj;omega
  ·subst hq;rw[hn]at a;cases a
  ·have:=P8.2.2.1 j q x r hq hj b;omega
 have hsub:∀i,(i∈x.R/\i<x.n)->S i\/qG Qx D i:=fun i hi=>(cover h hD hj hr hi.1 hi.2).imp (hR x hx i hi.1) id
 have hgc:∀i,(i∈x.R/\i<x.n)->Qu x.H i=gD Qx H D i:=fun i hi=>(Dy h hD hj hn hr hi.1 hi.2).symm
 have XM:∀i,x.n<=i->i<x.n'->μ i=none:=fun i h1 h2=>by rw[hi.pg.ext i (hnewn i h1 h2)];exact V1 i (by omega) (by omega)
 have U6:Region.wanted x.o (yielded ops A)=true:=by rw[bw h hD hj hn hr hi.tmps];exact VY
 obtain⟨Zn,w',μ',XO,We,Zm⟩:=hdo (fun i=>i∈x.R/\i<x.n) μ w (Xo fr A ops (j::l) k) cs k ops j l ((hi.pg.ok.sub hsub).congr hgc) (hB.pg hok0 hi.pg) (fun i hi=>hi.2) (fun i h1 h2=>XM i h1 h2)
  (xb h hD hj hn hr hi.tmps) (fun i h1 h2=>⟨h1,h2⟩) hm rfl Ws U6
 refine⟨Zn,μ',w',(hi.pg.then (XO.pg hsx.top) hsub hgc (fun i hi=>⟨fun hs=>by have:=hS i hs;omega,hnewn i hi.1 hi.2⟩) (fun i hi=>XM i hi.1 hi.2) (G2:=gD Qx H (plus D j)) (fun i hi=>xa h hD hj hn (hi.imp And.left id))
  (fun i h1 h2=>fI hj ?_)).congr (oz hj) (fun i=> ?_) (fun _=>rfl),XO.mu fun i h1 h2=>XM i h1 h2,We,Zm⟩
 ·rintro(hw|hw)
  ·have:=hsx.wlt i hw;rcases LI i x.n with ha|ha
   ·exact h1 ⟨hw,ha⟩
   ·exact h2 ⟨ha,this⟩
  ·exact h2 hw
 ·constructor
  ·rintro(⟨a,q,r,b,c,d⟩|⟨⟨a,b⟩,c⟩)
   ·exact⟨a,q,r,by simp[plus,b],c,d⟩
   ·exact⟨(cover h hD hj hr (hsx.sub i a) b).elim id fun e=>absurd e c,j,x,Vq,hj,a⟩
  ·rintro⟨a,q,r,b,c,d⟩;by_cases e:q=j
   ·subst e;rw[hj]at c;cases c;refine .inr ⟨⟨d,by omega⟩, ?_⟩;rintro⟨q',r',_,b',c',_⟩;have:=(P8.2.1 r' (Lp b')).1;omega
   ·rw[V7 e]at b;exact .inl ⟨a,q,r,b,c,d⟩
theorem uC(h:Setup P B ops Qx bs T H n T' H' n'){S:Nat->Prop}{μ0:Mu}{w0:World}(hS:∀i,S i->i<n)(hR:∀r∈Qx,∀i∈r.R,i<n->S i)(V1:YV μ0 n n')(hB:B.has w0)(hok0:Ok B S μ0 (Qu H) w0){D:Nat->Bool}(hD:Uy ops D){j:Nat}(Xu:j<ops.size)(hn:D j=false)
 (hk:∀x,Qx[j]? =some x->Py P B ops x) (hr:∀o,ops[j]? =some o->∀e∈o.after,Region.binds .any e=true->D e.on=true) {μ:Mu} {A:Array Value} {w:World} (hi:Inv B Qx T H n S μ0 w0 D μ A w) {fr:Frame} {cs:List Frame} {l:List Nat} {k:List Item} (hm:fr.mode=.run):
 ∃μ' A' w',Inv B Qx T H n S μ0 w0 (plus D j) μ' A' w'/\Steps P (lone (Xo fr A ops (j::l) k) cs w) (lone (Xo fr A' ops l k) cs w'):=by
 obtain⟨x,hj⟩:∃x,Qx[j]? =some x:=⟨Qx[j]'(by rw[h.len];exact Xu),by simp⟩
 have hx:=Lp hj;have hsx:=h.P0 x hx;have Ws:=h.own j x hj;obtain⟨VY,hdo,hno⟩:=hk x hj;have P8:=YT Qx T H n T' H' n' h.chain h.P0;have hxn:=P8.2.1 x hx;have hdst:∀d,x.o.dst=some d->d<A.size:=fun d hd=>by rw[hi.size];exact(hsx.dst d hd).1
 have put:∀(μ':Mu) v',Ext μ μ'->VR μ' x.v v'->(match x.o.dst with|some d=>A.setIfInBounds d v'|none=>A).size=T.len/\∀t,VR μ' (tD Qx T (plus D j) t) ((match x.o.dst with|some d=>A.setIfInBounds d v'|none=>A).getD t undef):=by
  intro μ' v' he hv;refine⟨?_,fun t=> ?_⟩
  ·cases x.o.dst <;> simp[hi.size]
  ·rw[Eh h hD hj hn t];have ho:=(hi.tmps t).mono he;cases hd:x.o.dst with
   |none=>simpa using ho
   |some d=>
    have hdl:=hdst d hd;simp only[YO];by_cases e:d=t
    ·subst e;simpa[hdl]using hv
    ·simp[e]at ho ⊢;exact ho
 cases hrx:x.run with
 |false=>
  obtain⟨hv,hH,hnn,hW⟩:=hno hrx;have U6:Region.wanted x.o (yielded ops A)=false:=by rw[bw h hD hj hn hr hi.tmps,<-VY];exact hrx
  obtain⟨p1,p2⟩:=put μ undef (Ext.refl _) (by rw[hv];exact VR.undef);refine⟨μ,_,w,⟨hi.pg.congr (fun i=> ?_) (fun i=> ?_) (fun i=> ?_),p1,p2⟩,Steps.one ((b9 hm Ws U6).trans (by rw[S6 Ws]))⟩
  ·rw[<-oz hj i];exact⟨.inl,fun h=>h.elim id fun h=>absurd h.1 (by omega)⟩
  ·refine and_congr Iff.rfl ⟨?_, ?_⟩
   ·rintro⟨q,r,a,b,c⟩;exact⟨q,r,by simp[plus,a],b,c⟩
   ·rintro⟨q,r,a,b,c⟩;by_cases e:q=j
    ·subst e;rw[hj]at b;cases b;rw[hW]at c;simp at c
    ·rw[V7 e]at a;exact⟨q,r,a,b,c⟩
  ·exact(fI hj (by rw[hW];rintro(h|h) <;> first|(simp at h;done)|omega)).symm
 |true=>
  obtain⟨Zn,μ',w',hpg,hext,We,Zm⟩:=uD h hS hR V1 hB hok0 hD hn hr hi (fr:=fr) (cs:=cs) (l:=l) (k:=k) hm hj (hdo hrx) (by rw[<-VY];exact hrx);cases We with
  |ret hv=>
   rename_i v';obtain⟨p1,p2⟩:=put μ' v' hext hv;exact⟨μ',_,w',⟨hpg,p1,p2⟩,Zm.trans (by simp only[OO.on];rw[S6 Ws];exact Steps.refl _ _)⟩
end
end Go.CE
