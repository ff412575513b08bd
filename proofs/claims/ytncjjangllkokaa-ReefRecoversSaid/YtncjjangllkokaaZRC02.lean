/- CE: what single operations do. Seventh part: maps; all of them together. -/
import Derived.Test.YtncjjangllkokaaZRC01
set_option linter.all false
open Nat renaming blt->MY,ble_eq_true_of_le->Nl,beq->MQ,ble->Nr,min->Nw,le_refl->Nh,lt_or_ge->Nm,strongRecOn->No,zero_add->Nj
open Option renaming map_some->Nn
open Array renaming getElem?_toList->MX,eq_empty_of_size_eq_zero->Ns
open List renaming getElem?_cons_zero->Nb,mem_cons_of_mem->Nc,mem_of_getElem? ->MW,getD_eq_getElem?_getD->MU,getElem?_append_left->Nk,range->MP,getElem?_append_right->MZ,getElem?_map->Ng,getElem?_eq_getElem->NI,mem_append_left->MV
namespace Go.CE
open Go Go.RowKit

def hY:Nat:=9223372036854775808
def wq(n:Int):Int:=match n with
 | .ofNat m=>bif MY m hY then .ofNat m else IntKind.i64.wrap (.ofNat m)
 | .negSucc m=>bif MY m hY then .negSucc m else IntKind.i64.wrap (.negSucc m)
theorem blt_eq(m k:Nat):MY m k=decide (m<k):=by
 by_cases h:m<k
 ·rw[decide_eq_true h];exact Nl h
 ·rw[decide_eq_false h];cases e:MY m k with
  |false=>rfl
  |true=>exact absurd (YL e) h
theorem HS(m k:Nat):MQ m k=decide (m=k):=by
 by_cases h:m=k
 ·subst h;simp
 ·rw[SX h,decide_eq_false h]
theorem Iy(m:Nat):wq (.ofNat m)=IntKind.i64.wrap (.ofNat m):=by
 show(bif MY m hY then Int.ofNat m else IntKind.i64.wrap (.ofNat m))=_;rw[blt_eq];by_cases h:m<hY
 ·rw[decide_eq_true h,cond_true,IntKind.wrap_i64,Int.ofNat_eq_natCast];unfold hY at h;omega
 ·rw[decide_eq_false h,cond_false]
theorem Iz(m:Nat):wq (.negSucc m)=IntKind.i64.wrap (.negSucc m):=by
 show(bif MY m hY then Int.negSucc m else IntKind.i64.wrap (.negSucc m))=_;rw[blt_eq];by_cases h:m<hY
 ·rw[decide_eq_true h,cond_true,IntKind.wrap_i64,Int.negSucc_eq];unfold hY at h;omega
 ·rw[decide_eq_false h,cond_false]
theorem HW(n:Int):wq n=IntKind.i64.wrap n:=by
 cases n with
 |ofNat m=>exact Iy m
 |negSucc m=>exact Iz m
def Zq:Int->Int->Bool
 | .ofNat a,.ofNat b=>MY a b
 | .ofNat _,.negSucc _=>false
 | .negSucc _,.ofNat _=>true
 | .negSucc a,.negSucc b=>MY b a
theorem s5(a b:Int):Zq a b=decide (a<b):=by
 rw[Bool.eq_iff_iff];cases a <;> cases b <;> simp only[Zq,blt_eq,Int.ofNat_eq_natCast,Int.negSucc_eq,decide_eq_true_eq,Bool.false_eq_true,false_iff,true_iff] <;> omega
def YI:Int->Int->Bool
 | .ofNat a,.ofNat b=>MQ a b
 | .negSucc a,.negSucc b=>MQ a b
 |_,_=>false
theorem fQ(a b:Int):YI a b=(a==b):=by
 rw[Bool.eq_iff_iff];cases a <;> cases b <;> simp only[YI,HS,beq_iff_eq,decide_eq_true_eq,Int.ofNat_eq_natCast,Int.negSucc_eq,Bool.false_eq_true,false_iff] <;> omega
def zK:BinOp->Value->Value->Option Value
 | .add,.int .i64 a,.int .i64 b=>some (.int .i64 (wq (a+b)))
 | .sub,.int .i64 a,.int .i64 b=>some (.int .i64 (wq (a-b)))
 | .mul,.int .i64 a,.int .i64 b=>some (.int .i64 (wq (a*b)))
 | .eql,.int .i64 a,.int .i64 b=>some (.bool (YI a b))
 | .neq,.int .i64 a,.int .i64 b=>some (.bool (!(YI a b)))
 | .lss,.int .i64 a,.int .i64 b=>some (.bool (Zq a b))
 | .gtr,.int .i64 a,.int .i64 b=>some (.bool (Zq b a))
 | .leq,.int .i64 a,.int .i64 b=>some (.bool (!(Zq b a)))
 | .geq,.int .i64 a,.int .i64 b=>some (.bool (!(Zq a b)))
 |_,_,_=>none
theorem FV{P:Program}{op:BinOp}{t:TypeId}{x y:Operand}{a b v:Value}(h:zK op a b=some v)(w:World):(do eqGuard op t x y a b;binOp op t a b:Sem Value).run P w=.ok v w/\(∀μ,VR μ v v)/\(∀μ a',VR μ a a'->a'=a)/\(∀μ b',VR μ b b'->b'=b):=by
 have hle:∀a b:Int,(!(Zq b a))=decide (a<=b):=fun a b=>by
  rw[s5,Bool.eq_iff_iff];simp only[Bool.not_eq_true',decide_eq_false_iff_not,decide_eq_true_eq];omega
 unfold zK at h;split at h <;> first
  |(cases h;done)
  |(simp only[YO]at h
    subst h;refine⟨?_,fun μ=>by first|exact .int _ _|exact .bool _,fun μ a' ha=>by cases ha;rfl,fun μ b' hb=>by cases hb;rfl⟩
    first
     |(simp[eqGuard,binOp,Op.intArith,HW];done)
     |(simp[eqGuard,binOp,Op.intCmp,fQ];done)
     |(simp[eqGuard,binOp,Op.intCmp,fQ,bne];done)
     |(simp[eqGuard,binOp,Op.intCmp,s5];done)
     |(simp[eqGuard,binOp,Op.intCmp,hle];done))

theorem Zu{α β:Type}{P:Program}(s:Sem α)(f:α->Sem β):X4 P (s >>=f)=match X4 P s with|some a=>X4 P (f a)|none=>none:=by
 show X4 P (s.bind f)=_;induction s with
 |pure a=>rfl
 |program k ih=>exact ih P
 |_=>rfl
theorem W8{α:Type}{P:Program}(a:α):X4 P (pure a:Sem α)=some a:=rfl

def ER(μ:Mu)(es Ko:List MapEntry):Prop:=es.length=Ko.length/\∀(i:Nat) e e',es[i]? =some e->Ko[i]? =some e'->e'.key=e.key/\e'.born=e.born/\af e.key=true/\VR μ e.val e'.val
theorem ER.tail{μ:Mu}{e e':MapEntry}{es Ko:List MapEntry}(h:ER μ (e::es) (e'::Ko)):ER μ es Ko:=⟨by simpa using h.1,fun i a b x y=>h.2 (i+1) a b (by simpa using x) (by simpa using y)⟩
def FR(μ:Mu):Option (Nat×Value)->Option (Nat×Value)->Prop
 |none,none=>True
 |some (i,v),some (i',v')=>i'=i/\VR μ v v'
 |_,_=>False
theorem nM{μ:Mu}{kind:TypeDesc}{k:Value}:∀(es Ko:List MapEntry) (i:Nat),ER μ es Ko->(∀r,Instr.findNow kind k es i=some r->∃r',Instr.findNow kind k Ko i=some r'/\FR μ r r')/\(Instr.findNow kind k es i=none->Instr.findNow kind k Ko i=none)
 |[],[],i,_=>by
  refine⟨fun r h=> ?_,fun h=>by simp[Instr.findNow]at h⟩;simp only[Instr.findNow,YO]at h;subst h;exact⟨none,rfl,trivial⟩
 |e::es,e'::Ko,i,h=>by
  obtain⟨h1,_,_,h4⟩:=h.2 0 e e' rfl rfl;simp only[Instr.findNow,h1];cases Instr.sameNow kind k e.key with
  |none=>exact⟨fun r h=>(by cases h),fun _=>rfl⟩
  |some b=>
   cases b with
   |true=>exact⟨fun r h=>by simp only[YO]at h;subst h;exact⟨_,rfl,rfl,h4⟩,fun h=>by cases h⟩
   |false=>exact nM es Ko (i+1) h.tail
 |[],_::_,_,h=>by have:=h.1;simp at this
 |_::_,[],_,h=>by have:=h.1;simp at this
theorem bm{P:Program}{μ:Mu}{kt:TypeId}{k:Value}:∀(es Ko:List MapEntry) (i:Nat) r,ER μ es Ko->X4 P (Instr.findAsking kt k es i)=some r->∃r',X4 P (Instr.findAsking kt k Ko i)=some r'/\FR μ r r'
 |[],[],i,r,_,h=>by
  simp only[Instr.findAsking,W8,YO]at h;subst h;exact⟨none,rfl,trivial⟩
 |e::es,e'::Ko,i,r,h,hr=>by
  obtain⟨h1,_,_,h4⟩:=h.2 0 e e' rfl rfl;simp only[Instr.findAsking,h1,Zu]at hr ⊢;cases hq:X4 P (Op.equal kt k e.key)with
  |none=>rw[hq]at hr;cases hr
  |some b=>
   rw[hq]at hr;cases b with
   |true=>
    simp only[if_true,W8,YO]at hr ⊢;subst hr;exact⟨_,rfl,rfl,h4⟩
   |false=>
    simp only[Bool.false_eq_true,if_false]at hr ⊢;exact bm es Ko (i+1) r h.tail hr
 |[],_::_,_,_,h,_=>by have:=h.1;simp at this
 |_::_,[],_,_,h,_=>by have:=h.1;simp at this
theorem bT{P:Program}{μ:Mu}{kt:TypeId}{k:Value}{es Ko:List MapEntry}{r:Option (Nat×Value)}(h:ER μ es Ko)(hr:X4 P (Instr.findKey kt k es)=some r):∃r',X4 P (Instr.findKey kt k Ko)=some r'/\FR μ r r':=by
 simp only[Instr.findKey,Zu]at hr ⊢;cases hu:X4 P (underlying kt)with
 |none=>rw[hu]at hr;cases hr
 |some d=>
  rw[hu]at hr;dsimp only at hr ⊢;obtain⟨h1,h2⟩:=nM (kind:=d) (k:=k) es Ko 0 h;cases hf:Instr.findNow d k es 0 with
  |some r0=>
   rw[hf]at hr;obtain⟨r',hr',hv⟩:=h1 r0 hf;simp only[W8,YO]at hr;subst hr;rw[hr'];exact⟨r',rfl,hv⟩
  |none=>
   rw[hf]at hr;rw[h2 hf];exact bm es Ko 0 r h hr
theorem ER.of{μ:Mu}{es Ko:Array MapEntry}(h1:es.size=Ko.size)(h2:∀(i:Nat) e e',es[i]? =some e->Ko[i]? =some e'->e'.key=e.key/\e'.born=e.born/\af e.key=true/\VR μ e.val e'.val):ER μ es.toList Ko.toList:=
 ⟨by simpa using h1,fun i a b x y=>h2 i a b (by simpa using x) (by simpa using y)⟩
theorem bS{P:Program}{w:World}{b:Nat}{es:Array MapEntry}{Pe:Nat}(h:w.heap[b]? =some (.map es Pe)):(getObj b).run P w=.ok (.map es Pe) w:=by simp[getObj,Sem.run,h]
def SW(P:Program)(t:TypeId)(H:Qm)(ok:Bool)(x k:Value):Option (Value×List Nat):=
 match J4 P t with
 |some (.map kt e)=>
  match(match x with
   | .map none=>some (#[],[])
   | .map (some r)=>match Qs H r with
     |some (.map es _)=>some (es,[r])
     |_=>none
   |_=>none:Option (Array MapEntry×List Nat))with
  |some (es,R)=>bif af k then
   match X4 P (Instr.checkKey es.isEmpty 10000 kt k),X4 P (Instr.findKey kt k es.toList),zeroOf P e with
   |some (),some (some (_,v)),_=>some (bif ok then .tuple #[v,.bool true]else v,R)
   |some (),some none,some z=>bif af z then some (bif ok then .tuple #[z,.bool false]else z,R)else none
   |_,_,_=>none
    else none
  |none=>none
 |_=>none
theorem zU{μ:Mu}{a a' b b':Value}(h:VR μ a a')(k:VR μ b b'):VR μ (.tuple #[a,b]) (.tuple #[a',b']):=by
 refine .tuple rfl fun i v v' hv Wq=> ?_
 rcases i with _|_|i
 ·simp at hv Wq;subst hv Wq;exact h
 ·simp at hv Wq;subst hv Wq;exact k
 ·simp at hv
theorem xD{P:Program}{B:Nat}{S:Nat->Prop}{μ:Mu}{H:Qm}{w:World}{t:TypeId}{ok:Bool}{x k x' k' v:Value}{R:List Nat}(h:SW P t H ok x k=some (v,R))(QF:Ok B S μ (Qs H) w)(hx:VR μ x x')(hk:VR μ k k')(hR:∀i∈R,S i):
 ∃v',(Instr.lookup t x' k' ok).run P w=.ok v' w/\VR μ v v':=by
 unfold SW at h;simp only[ZB]at h;split at h
 ·rename_i kt e hu;split at h
  ·rename_i es R0 hes;cases hak:af k with
   |false=>rw[hak]at h;cases h
   |true=>
    rw[hak]at h;simp only[cond_true]at h;have hkk:k'=k:=Sl hak hk;subst hkk;have hRR:R0=R:=by
     split at h
     ·simp only[YO,YR]at h;exact h.2
     ·rename_i z _ _ _;cases hz:af z with
      |false=>rw[hz]at h;cases h
      |true=>rw[hz]at h;simp only[cond_true,YO,YR]at h;exact h.2
     ·cases h
    subst hRR
    -- the entries in the world
    have hent:∃Ko,ER μ es.toList Ko.toList/\(x'=.map none/\Ko=#[]\/∃b Pe,x'=.map (some b)/\w.heap[b]? =some (.map Ko Pe)):=by
     split at hes
     ·simp only[YO,YR]at hes;obtain⟨rfl,_⟩:=hes;cases hx;exact⟨#[],⟨rfl,fun i a b x _=>by simp at x⟩,.inl ⟨rfl,rfl⟩⟩
     ·rename_i r;split at hes
      ·rename_i es0 Pe hg;simp only[YO,YR]at hes;obtain⟨rfl,rfl⟩:=hes;obtain⟨im,QK,_,Ko,hw,h1,h2⟩:=QF.rel r _ (hR r (by simp)) hg trivial;cases hx with
       |map hm=>
        rw[QK]at hm;cases hm;exact⟨Ko,.of h1 h2,.inr ⟨im.Z1,Pe,rfl,hw⟩⟩
      ·cases hes
     ·cases hes
    obtain⟨Ko,hER,Uc⟩:=hent;have hemp:Ko.isEmpty=es.isEmpty:=by
     have h1:=hER.1;simp only[Array.length_toList]at h1;rw[Bool.eq_iff_iff];simp only[Array.isEmpty_iff_size_eq_zero];omega
    have run2:∀r v0,X4 P (Instr.checkKey es.isEmpty 10000 kt k')=some ()->X4 P (Instr.findKey kt k' es.toList)=some r->
     (∀r',FR μ r r'->∃v',(do let(v,ok') <-(match r' with|some (_,v)=>pure (v,true)|none=>do pure (<-zeroValue e,false):Sem (Value×Bool));pure (if ok then .tuple #[v,.bool ok']else v):Sem Value).run P w=.ok v' w/\VR μ v0 v')->
     ∃v',(Instr.lookup t x' k' ok).run P w=.ok v' w/\VR μ v0 v':=by
     intro r v0 hc hf hfin;obtain⟨r',hr',XK⟩:=bT hER hf;obtain⟨v',Wq,Vr⟩:=hfin r' XK;refine⟨v', ?_,Vr⟩;have hc':=Un hc w;have hr'':=Un hr' w;rw[<-hemp]at hc';simp only[Sem.run_bind]at Wq;rcases Uc with ⟨rfl,rfl⟩|⟨b,Pe,rfl,hw⟩
     ·simp only[Instr.lookup,Sem.run_bind,run_underlying hu,Result.andThen_ok,Sem.run_pure,hc',hr''];cases r' <;> first|simpa using Wq|(simp only[Sem.run_bind]at Wq;cases hzr:Sem.run P (zeroValue e) w <;> rw[hzr]at Wq <;> first|(cases Wq;done)|simpa[hzr]using Wq)
     ·simp only[Instr.lookup,Sem.run_bind,run_underlying hu,Result.andThen_ok,Sem.run_pure,bS hw,hc',hr''];cases r' <;> first|simpa using Wq|(simp only[Sem.run_bind]at Wq;cases hzr:Sem.run P (zeroValue e) w <;> rw[hzr]at Wq <;> first|(cases Wq;done)|simpa[hzr]using Wq)
    split at h
    ·rename_i i0 v0 hc hf;simp only[YO,YR]at h;obtain⟨rfl,_⟩:=h;refine run2 _ _ hc hf fun r' XK=> ?_
     cases r' with
     |none=>exact XK.elim
     |some p=>
      obtain⟨i',v'⟩:=p;cases ok with
      |true=>exact⟨_,rfl,zU XK.2 (.bool true)⟩
      |false=>exact⟨_,rfl,XK.2⟩
    ·rename_i z hc hf hz;cases haz:af z with
     |false=>rw[haz]at h;cases h
     |true=>
      rw[haz]at h;simp only[cond_true,YO,YR]at h;obtain⟨rfl,_⟩:=h;refine run2 _ _ hc hf fun r' XK=> ?_
      cases r' with
      |some p=>exact XK.elim
      |none=>
       cases ok with
       |true=>exact⟨.tuple #[z,.bool false],by simp[bt hz],zU (J3 haz) (.bool false)⟩
       |false=>exact⟨z,by simp[bt hz],J3 haz⟩
    ·cases h
  ·cases h
 ·cases h
def Kr(P:Program)(t:TypeId)(H:Qm)(x k v:Value):Option (Qm×Nat):=
 match J4 P t,x with
 |some (.map kt _),.map (some r)=>match Qs H r with
  |some (.map es Pe)=>bif af k then
   match X4 P (Instr.checkKey false 10000 kt k),X4 P (Instr.findKey kt k es.toList)with
   |some (),some (some (i,_))=>match es[i]? with
    |some e=>bif Instr.sameBits 10000 e.key k then some (VE H r (.map (es.setIfInBounds i {e with key:=k,val:=v}) Pe),r)else none
    |none=>none
   |some (),some none=>some (VE H r (.map (es.push {key:=k,val:=v,born:=Pe}) (Pe+1)),r)
   |_,_=>none
    else none
  |_=>none
 |_,_=>none
theorem jX{P:Program}{w:World}{b:Nat}{es:Array MapEntry}{Pe:Nat}(o:Obj)(h:w.heap[b]? =some (.map es Pe)):(setObj b o).run P w=.ok () {w with heap:=w.heap.setIfInBounds b o}:=by simp[setObj,Sem.run,h]
theorem oe{P:Program}{B n:Nat}{S:Nat->Prop}{μ:Mu}{H H':Qm}{w:World}{t:TypeId}{x k v x' k' v':Value}{b:Nat}(h:Kr P t H x k v=some (H',b))(QF:Ok B S μ (Qs H) w)(hS:∀i,S i->i<n)(hx:VR μ x x')(hk:VR μ k k')(hv:VR μ v v')(hb:S b):
 ∃w',(Instr.mapUpdate t x' k' v').run P w=.ok () w'/\Post B S n n [b] μ μ H H' w w':=by
 unfold Kr at h;simp only[ZB]at h;split at h
 ·rename_i kt e0 r hu;split at h
  ·rename_i es Pe hg;cases hak:af k with
   |false=>rw[hak]at h;cases h
   |true=>
    rw[hak]at h;simp only[cond_true]at h;have hkk:k'=k:=Sl hak hk;subst hkk;have hbr:r=b:=by
     split at h
     ·split at h
      ·rename_i e _;cases hs:Instr.sameBits 10000 e.key k' with
       |false=>rw[hs]at h;cases h
       |true=>rw[hs]at h;simp only[cond_true,YO,YR]at h;exact h.2
      ·cases h
     ·simp only[YO,YR]at h;exact h.2
     ·cases h
    subst hbr;obtain⟨im,QK,hr,Ko,hw,h1,h2⟩:=QF.rel r _ hb hg trivial;have hER:=ER.of h1 h2;have X2:im.Z1<w.heap.size:=(Array.getElem?_eq_some_iff.1 hw).1;cases hx with
    |map hm=>
     rw[QK]at hm;cases hm;have fin:∀(es2 es2':Array MapEntry) (clk2:Nat),ER μ es2.toList es2'.toList->
      Post B S n n [r] μ μ H (VE H r (.map es2 clk2)) w {w with heap:=w.heap.setIfInBounds im.Z1 (.map es2' clk2)}:=by
      intro es2 es2' clk2 hE;refine Post.write QF hS r _ _ im hb hg trivial QK hr (by simp) (fun q hq=> ?_) ⟨hr,es2', ?_,by simpa using hE.1,fun i a c ha hc=>hE.2 i a c (by simpa using ha) (by simpa using hc)⟩ ⟨rfl,rfl,rfl⟩
      ·simp[Array.getElem?_setIfInBounds_ne (Ne.symm hq)]
      ·simp[X2]
     split at h
     ·rename_i i v0 hc hf;split at h
      ·rename_i e he;cases hs:Instr.sameBits 10000 e.key k' with
       |false=>rw[hs]at h;cases h
       |true=>
        rw[hs]at h;simp only[cond_true,YO,YR]at h;obtain⟨rfl,_⟩:=h;obtain⟨r',hr',XK⟩:=bT hER hf;cases r' with
        |none=>exact XK.elim
        |some p=>
         obtain⟨i',v0'⟩:=p;obtain⟨rfl,_⟩:=XK;have hi:i'<Ko.size:=h1 ▸ (Array.getElem?_eq_some_iff.1 he).1;obtain⟨e',he'⟩:∃e',Ko[i']? =some e':=⟨Ko[i'],by simp[hi]⟩
         obtain⟨q1,q2,q3,q4⟩:=h2 i' e e' he he';have hmod:Ko.modify i' (fun e=>{e with key:=k',val:=v'})=Ko.setIfInBounds i' {e' with key:=k',val:=v'}:=by
          apply Array.ext (by simp);intro j hj hj';simp only[Array.size_modify]at hj;have hee:Ko[i']=e':=by simpa[hi]using he'
          rw[Array.getElem_modify];by_cases e1:i'=j
          ·subst e1;simp[hee]
          ·simp[e1,hj]
         refine⟨_, ?_,fin _ (Ko.setIfInBounds i' {e' with key:=k',val:=v'}) Pe ?_⟩
         ·simp only[Instr.mapUpdate,Sem.run_bind,run_underlying hu,Result.andThen_ok,bS hw,Un hc,Un hr',he',Nn,Option.getD_some,q1,Instr.keyThatStays,hs,if_true,Sem.run_pure];rw[jX _ hw,hmod]
         ·refine⟨by simpa using h1,fun j a c ha hc=> ?_⟩;simp only[MX]at ha hc;rw[Array.getElem?_setIfInBounds]at ha hc;by_cases e1:i'=j
          ·subst e1;rw[if_pos rfl]at ha hc;rw[if_pos (by rw[h1];exact hi)]at ha;rw[if_pos hi]at hc;cases ha;cases hc;exact⟨rfl,q2,hak,hv⟩
          ·rw[if_neg e1]at ha hc;exact h2 j a c ha hc
      ·cases h
     ·rename_i hc hf;simp only[YO,YR]at h;obtain⟨rfl,_⟩:=h;obtain⟨r',hr',XK⟩:=bT hER hf;cases r' with
      |some p=>exact XK.elim
      |none=>
       refine⟨_, ?_,fin _ (Ko.push {key:=k',val:=v',born:=Pe}) (Pe+1) ?_⟩
       ·simp only[Instr.mapUpdate,Sem.run_bind,run_underlying hu,Result.andThen_ok,bS hw,Un hc,Un hr'];rw[jX _ hw]
       ·refine⟨by simpa using h1,fun j a c ha hc=> ?_⟩;simp only[MX]at ha hc;rw[Array.getElem?_push]at ha hc;rw[<-h1]at hc;split at ha
        ·rename_i e1;rw[if_pos e1]at hc;cases ha;cases hc;exact⟨rfl,rfl,hak,hv⟩
        ·rename_i e1;rw[if_neg e1]at hc;exact h2 j a c ha hc
     ·cases h
  ·cases h
 ·cases h
def xE(P:Program)(t:TypeId)(H:Qm)(n:Nat)(s x:Value):Option CR:=
 match J4 P t with
 |some (.slice e)=>match WH P e with
  |some z=>match s,x with
   | .slice (some ⟨b,off,none⟩) k _,.slice (some ⟨b2,off2,none⟩) m _=>match Qs H b,Qs H b2 with
     |some (.cells cs te (0,0)),some (.cells cs2 _ _)=>
      bif Nr (off+Nw m k*z) cs.size && Nr (off2+Nw m k*z) cs2.size && ones (cs2.extract off2 (off2+Nw m k*z))then
       some ⟨.val (.int .i64 (Nw m k)),VE H b (.cells (splice cs off (cs2.extract off2 (off2+Nw m k*z))) te (0,0)),n,[b,b2],[b]⟩else none
     |_,_=>none
   |_,_=>none
  |none=>none
 |_=>none
theorem CD{P:Program}{B n:Nat}{S:Nat->Prop}{μ:Mu}{H:Qm}{w:World}{t t2 ty:TypeId}{s x s' x':Value}{r:CR}(h:xE P t H n s x=some r)(QF:Ok B S μ (Qs H) w)(hS:∀i,S i->i<n)
 (hs:VR μ s s') (hx:VR μ x x') (hR:∀i∈r.R,S i):
 ∃v w',(Builtin.copy_ #[t,t2] ty #[s',x']).run P w=.ok v w'/\Post B S n r.n r.W μ μ H r.H w w'/\r.nx=.val v/\VR μ v v/\r.n=n:=by
 unfold xE at h;simp only[ZB]at h;split at h
 ·rename_i e hu;split at h
  ·rename_i z hz;split at h
   ·rename_i b off k cap b2 off2 m cap2;split at h
    ·rename_i cs te cs2 te2 fz2 hg hg2;cases hcond:(Nr (off+Nw m k*z) cs.size && Nr (off2+Nw m k*z) cs2.size && ones (cs2.extract off2 (off2+Nw m k*z)))with
     |false=>rw[hcond]at h;cases h
     |true=>
      rw[hcond]at h;simp only[cond_true,YO]at h;subst h;simp only[YB]at hcond;obtain⟨⟨h1,h2⟩,h3⟩:=hcond;have h1:=YL h1;have h2:=YL h2;have hb:S b:=hR b (by simp);have hb2:S b2:=hR b2 (by simp);obtain⟨im,QK,Wd⟩:=QF.rel b _ hb hg trivial;obtain⟨im2,WC,hor2⟩:=QF.rel b2 _ hb2 hg2 trivial;cases hs with
      |slice har q1 q2 q3=>
       obtain⟨ZC,QW,_,rfl⟩:=har;simp only at QW;rw[QK]at QW;cases QW;cases hx with
       |slice har2 p1 p2 p3=>
        obtain⟨im2',him2',_,rfl⟩:=har2;simp only at him2';rw[WC]at him2';cases him2';obtain⟨xs,hload,hxs⟩:=hor2.cells (P:=P) (off:=off2) (s:=Nw m k*z) h2;have hxsz:xs.size=Nw m k*z:=by rw[<-hxs.1];simp;omega
        have hexsz:(cs2.extract off2 (off2+Nw m k*z)).size=Nw m k*z:=by simp;omega
        rcases Wd with ⟨_,hr,ho,arr,ha,hle,hcap,hc⟩|⟨hz0,_⟩
        ·have ZQ:=run_storeCells_at (P:=P) im.Z1 off te xs.toList 0 arr w ha (by simp[hxsz];omega) (hxs.ones h3);simp only[Nat.add_zero]at ZQ;refine⟨.int .i64 (Nw m k),w.setRow im.Z1 (CE.splice arr off xs), ?_,Post.write QF hS b _ (.cells (CE.splice cs off (cs2.extract off2 (off2+Nw m k*z))) te (0,0)) im hb hg trivial QK hr (w':=w.setRow im.Z1 (CE.splice arr off xs)) ?_ ?_ ?_ ⟨rfl,rfl,rfl⟩,rfl,.int _ _,rfl⟩
         ·simp[Builtin.copy_,Builtin.lenOf,Builtin.firstCells,Sem.run_bind,Sem.run_pure,Result.andThen_ok,run_underlying hu,Zx hz,hload,ho,ZQ,CE.splice,goInt]
         ·simp[World.setRow]
         ·intro y hy;exact setRow_other w im.Z1 y _ hy
         ·refine .inl ⟨rfl,hr,ho,CE.splice arr off xs,setRow_heap w im.Z1 arr _ te _ ha, ?_, ?_, ?_⟩
          ·rw[WX (by rw[hexsz];omega),WX (by rw[hxsz];omega)];exact hle
          ·rw[WX (by rw[hxsz];omega)];exact hcap
          ·exact VRs.splice (by rw[hexsz];omega) hle hc hxs
        ·exact absurd rfl hz0
    ·cases h
   ·cases h
  ·cases h
 ·cases h
end Go.CE

namespace Go.CE
open Go Go.RowKit

def CP(ev:Operand->Option Value):Option Operand->Option (Option Value)
 |none=>some none
 |some x=>match ev x with
  |some v=>some (some v)
  |none=>none
def mkPure(o:Option Value)(H:Qm)(n:Nat):Option CR:=match o with|some v=>some ⟨.val v,H,n,[],[]⟩|none=>none
def ju(P:Program)(t:TypeId)(len:Nat)(l:List (Nat×Value)):Bool:=MQ len 0 && l.isEmpty && (match J4 P t with
 |some (.slice e)=>(WH P e).isSome
 |_=>false)
theorem Post.ofBelow{B n:Nat}{S:Nat->Prop}{μ:Mu}{H:Qm}{w w':World}(QF:Ok B S μ (Qs H) w)(h:Below w.heap.size w w'):Post B S n n [] μ μ H H w w':=by
 refine⟨⟨fun i o hi ho hl=> ?_,fun i o im hi ho hl QK=> ?_,fun i j oi oj a b hi hj=> ?_,fun i o hi ho hr=> ?_,fun i j oi oj a b x hi hj=> ?_⟩,Nh _,fun _ _=>rfl,fun _ _ _=>rfl,h.size,fun b hb _=>h.block b hb,fun _ h=>by simp at h,fun i im o h1 h2=>absurd h1 (by omega),fun i im o h1=>h1.elim (fun h1=>absurd h1.1 (by omega)) (fun h=>by simp at h),h.os,h.tape,h.output⟩
 ·have hi:=hi.elim id fun h=>absurd h.1 (by omega)
  obtain⟨im,QK,hr⟩:=QF.rel i o hi ho hl;exact⟨im,QK,hr.keep (Ext.refl _) (h.block _ (QF.low i o im hi ho hl QK).1)⟩
 ·have hi:=hi.elim id fun h=>absurd h.1 (by omega)
  have:=QF.low i o im hi ho hl QK;exact⟨Nat.lt_of_lt_of_le this.1 h.size,this.2⟩
 ·exact QF.inj i j oi oj a b (hi.elim id fun h=>absurd h.1 (by omega)) (hj.elim id fun h=>absurd h.1 (by omega))
 ·have hi:=hi.elim id fun h=>absurd h.1 (by omega)
  obtain⟨im,QK,hf⟩:=QF.Yg i o hi ho hr;exact⟨im,QK,fun b x hx=>by rw[h.block b (YC QF hi ho hr QK hx)];exact hf b x hx⟩
 ·exact QF.sep i j oi oj a b x (hi.elim id fun h=>absurd h.1 (by omega)) (hj.elim id fun h=>absurd h.1 (by omega))
def sR(P:Program)(F:FuncId->Bool)(ev:Operand->Option Value)(o:Oper)(H:Qm)(n:Nat):Option CR:=
 match o.op with
 | .move x| .assign x=>mkPure (ev x) H n
 | .pick c a b=>match ev c with
   |some (.bool t)=>mkPure (ev (bif t then a else b)) H n
   |_=>none
 | .alloc t=>match zeroOf P t with
   |some z=>bif af z then some ⟨.val (yW n),(n,.cells z.cells t (0,0))::H,n+1,[],[]⟩else none
   |none=>none
 | .box t x=>match ev x with
   |some v=>some ⟨.val (yW n),(n,.cells v.cells t (0,0))::H,n+1,[],[]⟩
   |none=>none
 | .build t ps=>match partsOf ev ps.toList with
   |some l=>mkPure (tf P t l) H n
   |none=>none
 | .buildSlice t len ps=>match partsOf ev ps.toList with
   |some l=>match P9 P t len l with
    |some (e,cs,s)=>some ⟨.val (.slice (some ⟨n,0,none⟩) len s),(n,.cells cs e (0,0))::H,n+1,[],[]⟩
    |none=>bif ju P t len l then some ⟨.val TM,H,n,[],[]⟩else none
   |none=>none
 | .load t a=>match ev a with
   |some p=>match Sj P t H p with
    |some (v,b)=>some ⟨.val v,H,n,[b],[]⟩
    |none=>none
   |none=>none
 | .store t a x=>match ev a,ev x with
   |some p,some v=>match PT P t H v p with
    |some (H',b)=>some ⟨.val undef,H',n,[b],[b]⟩
    |none=>none
   |_,_=>none
 | .fieldAddr s x f=>match ev x with
   |some p=>mkPure (Wz P s f p) H n
   |none=>none
 | .field t x f=>match ev x with
   |some p=>mkPure (fW P t f p) H n
   |none=>none
 | .indexAddr t x i=>match ev x,ev i with
   |some v,some k=>mkPure (Ye P t v k) H n
   |_,_=>none
 | .index t x i=>match ev x,ev i with
   |some (.agg cs),some k=>mkPure (sZ P t (.agg cs) k) H n
   |_,_=>mkPure (Uz P ev o) H n
 | .extract x i=>match ev x with
   |some v=>mkPure (Sk i v) H n
   |none=>none
 | .makeSlice t l c=>match ev l,ev c with
   |some x,some y=>match Si P t x y with
    |some (e,cs,l,s)=>some ⟨.val (.slice (some ⟨n,0,none⟩) l s),(n,.cells cs e (0,0))::H,n+1,[],[]⟩
    |none=>none
   |_,_=>none
 | .slice t x lo hi none=>match ev x,CP ev lo,CP ev hi with
   |some (.slice (some a) m s),some l,some h=>mkPure (ae P t (.slice (some a) m s) l h) H n
   |some (.pointer p),some l,some h=>mkPure (ae P t (.pointer p) l h) H n
   |_,_,_=>mkPure (Uz P ev o) H n
 | .slice t x lo (some hi) (some mx)=>bif ba P t (ev x) (CP ev lo) (ev hi) (ev mx)then some ⟨.val TM,H,n,[],[]⟩else mkPure (Uz P ev o) H n
 | .makeFunc (.func f) first captured=>match Pa ev first.toList,Pa ev captured.toList with
   |some xs,some ys=>some ⟨.val (.func (.func f) xs.toArray ys.toArray),H,n,[],[]⟩
   |_,_=>none
 | .makeMap _ none=>some ⟨.val (.map (some n)),(n,.map #[] 0)::H,n+1,[],[]⟩
 | .lookup t x k ok=>match ev x,ev k with
   |some m,some kv=>match SW P t H ok m kv with
    |some (v,R)=>some ⟨.val v,H,n,R,[]⟩
    |none=>none
   |_,_=>none
 | .mapUpdate t m k x=>match ev m,ev k,ev x with
   |some mv,some kv,some v=>match Kr P t H mv kv v with
    |some (H',b)=>some ⟨.val undef,H',n,[b],[b]⟩
    |none=>none
   |_,_,_=>none
 | .binOp op _ x y _=>match ev x,ev y with
   |some a,some b=>match zK op a b with
    |some v=>some ⟨.val v,H,n,[],[]⟩
    |none=>mkPure (Uz P ev o) H n
   |_,_=>none
 | .nilCheck x=>match ev x with
   |some (.pointer (some a))=>some ⟨.val (.pointer (some a)),H,n,[],[]⟩
   |some (.func (.func f) xs ys)=>some ⟨.val (.func (.func f) xs ys),H,n,[],[]⟩
   |some (.func (.yield f) xs ys)=>some ⟨.val (.func (.yield f) xs ys),H,n,[],[]⟩
   |_=>none
 | .call c=>match c.callee with
   | .builtin .append=>match c.args.toList,c.argTypes.toList with
     |[s,x],[t,t']=>match ev s,ev x with
      |some sv,some xv=>xG P t t' H n sv xv
      |_,_=>none
     |_,_=>none
   | .builtin .len=>match c.args.toList,c.argTypes.toList with
     |[x],[t]=>match ev x,J4 P t with
      |some (.slice (some _) m _),some (.slice _)=>some ⟨.val (.int .i64 m),H,n,[],[]⟩
      |some (.chan (some 0)),some (.slice _)=>some ⟨.val (.int .i64 0),H,n,[],[]⟩
      |_,_=>mkPure (Uz P ev o) H n
     |_,_=>none
   | .builtin .copy=>match c.args.toList,c.argTypes.toList with
     |[s,x],[t,_]=>match ev s,ev x with
      |some sv,some xv=>xE P t H n sv xv
      |_,_=>none
     |_,_=>none
   | .builtin _=>mkPure (Uz P ev o) H n
   | .value f=>match ev f,Pa ev c.args.toList with
     |some fv,some args=>match P8 F H fv args.toArray with
      |some (nx,R)=>some ⟨nx,H,n,R,[]⟩
      |none=>none
     |_,_=>none
   |_=>none
 |_=>mkPure (Uz P ev o) H n

theorem W6{P:Program}{B:Nat}{o:Oper}{ev:Operand->Option Value}{H:Qm}{n:Nat}{v:Value}(h:∀(μ:Mu) (ρ:Operand->Value) (w:World),(∀x∈o.op.operands,∀v,ev x=some v->VR μ v (ρ x))->∃v',(execOp ρ o).run P w=.ok (.value v') w/\VR μ v v'):
 Is P B o ev H n ⟨.val v,H,n,[],[]⟩:=fun _ μ ρ w QF _ _ _ Zb _=>
 let⟨_,h1,h2⟩:=h μ ρ w Zb
 ⟨_,w,μ,h1,Post.refl QF,.val h2⟩
theorem Z9{o:Option Value}{H:Qm}{n:Nat}{r:CR}(h:mkPure o H n=some r):∃v,o=some v/\r=⟨.val v,H,n,[],[]⟩:=by
 cases o with
 |none=>cases h
 |some v=>simp only[mkPure,YO]at h;exact⟨v,rfl,h.symm⟩
theorem eh{μ:Mu}{ev:Operand->Option Value}{ρ:Operand->Value}{x:Option Operand}{v:Option Value}(h:CP ev x=some v)(hv:∀y,x=some y->∀v,ev y=some v->VR μ v (ρ y)):L7 μ v (x.map ρ):=by
 cases x with
 |none=>simp only[CP,YO]at h;subst h;trivial
 |some y=>
  simp only[CP]at h;cases he:ev y with
  |none=>rw[he]at h;cases h
  |some u=>
   rw[he]at h;simp only[YO]at h;subst h;exact hv y rfl u he
theorem Wb{α:Type}{q:Bool}{x r:α}(h:(bif q then some x else none)=some r):x=r:=by
 cases q with
 |false=>cases h
 |true=>simpa using h
theorem Yf{α:Type}{q:Bool}{x:Option α}{r:α}(h:(bif q then x else none)=some r):x=some r:=by
 cases q with
 |false=>cases h
 |true=>simpa using h
theorem HP{P:Program}{t t':TypeId}{H:Qm}{n:Nat}{s x:Value}{r:CR}(h:qO P t t' H n s x=some r):r.n=n+1:=by
 unfold qO at h;split at h
 ·split at h
  ·split at h
   ·rw[<-Wb h]
   ·cases h
  ·cases h
 ·cases h
theorem CG{P:Program}{t:TypeId}{H:Qm}{n:Nat}{s x:Value}{r:CR}(h:Ue P t H n s x=some r):r.n=n+1:=by
 unfold Ue at h;split at h
 ·split at h
  ·split at h
   ·split at h
    ·rename_i cs k ko ns m b _ _;rw[<-Wb h]
    ·cases h
   ·cases h
  ·cases h
 ·cases h
theorem HL{P:Program}{F:FuncId->Bool}(hF:∀g,F g=true->Q8 P g=true){B:Nat}{o:Oper}{ev:Operand->Option Value}{H:Qm}{n:Nat}{r:CR}(h:sR P F ev o H n=some r):Is P B o ev H n r:=by
 have XZ:mkPure (Uz P ev o) H n=some r->Is P B o ev H n r:=by
  intro h;obtain⟨v,h1,rfl⟩:=Z9 h;exact CA h1
 unfold sR at h;split at h
 ·-- move
  rename_i x ho;obtain⟨v,h1,rfl⟩:=Z9 h;exact W6 fun μ ρ w Zb=>⟨ρ x,by simp[execOp,ho],Zb x (by simp[ho,Op.operands]) v h1⟩
 ·rename_i x ho;obtain⟨v,h1,rfl⟩:=Z9 h;exact W6 fun μ ρ w Zb=>⟨ρ x,by simp[execOp,ho],Zb x (by simp[ho,Op.operands]) v h1⟩
 ·-- pick
  rename_i c a b ho;split at h
  ·rename_i t hc;obtain⟨v,h1,rfl⟩:=Z9 h;refine W6 fun μ ρ w Zb=> ?_
   have hct:=Zb c (by simp[ho,Op.operands]) _ hc;have hct:ρ c=.bool t:=by generalize ρ c=u at hct;cases hct;rfl
   cases t with
   |true=>exact⟨ρ a,by simp[execOp,ho,hct,asBool],Zb a (by simp[ho,Op.operands]) v h1⟩
   |false=>exact⟨ρ b,by simp[execOp,ho,hct,asBool],Zb b (by simp[ho,Op.operands]) v h1⟩
  ·cases h
 ·-- alloc
  rename_i t ho;split at h
  ·rename_i z hz;cases ha:af z with
   |false=>rw[ha]at h;cases h
   |true=>
    rw[ha]at h;simp only[cond_true,YO]at h;subst h;exact zM ho hz ha
  ·cases h
 ·-- box
  rename_i t x ho;split at h
  ·rename_i v hv;simp only[YO]at h;subst h;exact FU ho hv
  ·cases h
 ·-- build
  rename_i t ps ho;split at h
  ·rename_i l hl;obtain⟨v,h1,rfl⟩:=Z9 h;refine W6 fun μ ρ w Zb=> ?_
   obtain⟨q1,q2⟩:=SG (μ:=μ) (ρ:=ρ) ps.toList l hl (fun p hp v hv=>Zb p.2 (by simp only[ho,Op.operands,List.mem_toArray];exact List.mem_map.2 ⟨p,hp,rfl⟩) v hv);obtain⟨v',hr,Vr⟩:=zJ (ps':=ps.map fun(i,x)=>(i,ρ x)) h1 (by simpa using q1) (by simpa using q2) w;exact⟨v',by simp[execOp,ho,hr],Vr⟩
  ·cases h
 ·-- buildSlice
  rename_i t len ps ho;split at h
  ·rename_i l hl;split at h
   ·rename_i e cs s hb;simp only[YO]at h;subst h;intro S μ ρ w QF hB hS hf Zb hR;obtain⟨q1,q2⟩:=SG (μ:=μ) (ρ:=ρ) ps.toList l hl (fun p hp v hv=>Zb p.2 (by simp only[ho,Op.operands,List.mem_toArray];exact List.mem_map.2 ⟨p,hp,rfl⟩) v hv);obtain⟨v',w',μ',hr,hp,Vr⟩:=jb (ps':=ps.map fun(i,x)=>(i,ρ x)) hb QF hB hS (hf n (Nh _) (by simp)) (by simpa using q1) (by simpa using q2);exact⟨_,w',μ',by simp[execOp,ho,hr],hp,.val Vr⟩
   ·cases he:ju P t len l with
    |false=>rw[he]at h;cases h
    |true=>
     rw[he]at h;simp only[cond_true,YO]at h;subst h;intro S μ ρ w QF hB hS hf Zb hR;obtain⟨q1,_⟩:=SG (μ:=μ) (ρ:=ρ) ps.toList l hl (fun p hp v hv=>Zb p.2 (by simp only[ho,Op.operands,List.mem_toArray];exact List.mem_map.2 ⟨p,hp,rfl⟩) v hv);unfold ju at he;simp only[YB,List.isEmpty_iff]at he;obtain⟨⟨e1,rfl⟩,e3⟩:=he;have e1:=YE e1;subst e1;have eps:ps=#[]:=by
      have:ps.toList=[]:=List.eq_nil_of_length_eq_zero (by simpa using q1.symm);exact Array.ext' (by simpa using this)
     subst eps;split at e3
     ·rename_i e hu;rw[ZB]at hu;cases hz:WH P e with
      |none=>rw[hz]at e3;cases e3
      |some z=>
       have hr:(Instr.buildSlice t 0 ((#[]:Array (Nat×Operand)).map fun(i,x)=>(i,ρ x))).run P w=.ok (.slice (some ⟨w.heap.size,0,none⟩) 0 0) (w.alloc (.cells #[] e)):=by
        simp[Instr.buildSlice,run_underlying hu,Zx hz,Instr.fill,newRow,Sem.run_bind,Sem.run_pure];congr 2;exact Ns (by simp)
       exact⟨.value (.slice (some ⟨w.heap.size,0,none⟩) 0 0),w.alloc (.cells #[] e),μ,by simp[execOp,ho];simp at hr;simp[hr],Post.ofBelow QF ((Below.refl _ _).alloc (Nh _) _),.val .noCap⟩
     ·cases e3
  ·cases h
 ·-- load
  rename_i t a ho;split at h
  ·rename_i p hp;split at h
   ·rename_i v b hb;simp only[YO]at h;subst h;intro S μ ρ w QF hB hS hf Zb hR;obtain⟨v',hr,Vr⟩:=qL hb QF (Zb a (by simp[ho,Op.operands]) p hp) (hR b (by simp));exact⟨_,w,μ,by simp[execOp,ho,hr],Post.refl QF,.val Vr⟩
   ·cases h
  ·cases h
 ·-- store
  rename_i t a x ho;split at h
  ·rename_i p v hp hv;split at h
   ·rename_i H' b hb;simp only[YO]at h;subst h;intro S μ ρ w QF hB hS hf Zb hR;obtain⟨w',hr,XO⟩:=zC hb QF hS (Zb a (by simp[ho,Op.operands]) p hp) (Zb x (by simp[ho,Op.operands]) v hv) (hR b (by simp));exact⟨_,w',μ,by simp[execOp,ho,hr],XO,.skip⟩
   ·cases h
  ·cases h
 ·-- fieldAddr
  rename_i s x f ho;split at h
  ·rename_i p hp;obtain⟨v,h1,rfl⟩:=Z9 h;refine W6 fun μ ρ w Zb=> ?_
   obtain⟨v',hr,Vr⟩:=oh h1 (Zb x (by simp[ho,Op.operands]) p hp) w;exact⟨v',by simp[execOp,ho,hr],Vr⟩
  ·cases h
 ·-- field
  rename_i t x f ho;split at h
  ·rename_i p hp;obtain⟨v,h1,rfl⟩:=Z9 h;refine W6 fun μ ρ w Zb=> ?_
   obtain⟨v',hr,Vr⟩:=zH h1 (Zb x (by simp[ho,Op.operands]) p hp) w;exact⟨v',by simp[execOp,ho,hr],Vr⟩
  ·cases h
 ·-- indexAddr
  rename_i t x i ho;split at h
  ·rename_i u k hu hk;obtain⟨v,h1,rfl⟩:=Z9 h;refine W6 fun μ ρ w Zb=> ?_
   obtain⟨v',hr,Vr⟩:=og h1 (Zb x (by simp[ho,Op.operands]) u hu) (Zb i (by simp[ho,Op.operands]) k hk) w;exact⟨v',by simp[execOp,ho,hr],Vr⟩
  ·cases h
 ·-- index
  rename_i t x i ho;split at h
  ·rename_i cs k hu hk;obtain⟨v,h1,rfl⟩:=Z9 h;refine W6 fun μ ρ w Zb=> ?_
   obtain⟨v',hr,Vr⟩:=zG h1 (Zb x (by simp[ho,Op.operands]) _ hu) (Zb i (by simp[ho,Op.operands]) k hk) w;exact⟨v',by simp[execOp,ho,hr],Vr⟩
  ·exact XZ h
 ·-- extract
  rename_i x i ho;split at h
  ·rename_i u hu;obtain⟨v,h1,rfl⟩:=Z9 h;refine W6 fun μ ρ w Zb=> ?_
   obtain⟨v',hr,Vr⟩:=tc (P:=P) h1 (Zb x (by simp[ho,Op.operands]) u hu) w;exact⟨v',by simp[execOp,ho,hr],Vr⟩
  ·cases h
 ·-- makeSlice
  rename_i t l c ho;split at h
  ·rename_i x y hx hy;split at h
   ·rename_i e cs l0 s hm;simp only[YO]at h;subst h;intro S μ ρ w QF hB hS hf Zb hR;obtain⟨v',w',μ',hr,hp,Vr⟩:=CB hm QF hB hS (hf n (Nh _) (by simp)) (Zb l (by simp[ho,Op.operands]) x hx) (Zb c (by simp[ho,Op.operands]) y hy);exact⟨_,w',μ',by simp[execOp,ho,hr],hp,.val Vr⟩
   ·cases h
  ·cases h
 ·-- slice
  rename_i t x lo hi ho;have hlo:∀y,lo=some y->y∈o.op.operands:=fun y e=>by simp[ho,Op.operands,e]
  have hhi:∀y,hi=some y->y∈o.op.operands:=fun y e=>by simp[ho,Op.operands,e]
  split at h
  ·rename_i a m s l hh hu hl hhh;obtain⟨v,h1,rfl⟩:=Z9 h;refine W6 fun μ ρ w Zb=> ?_
   obtain⟨v',hr,Vr⟩:=oc h1 (Zb x (by simp[ho,Op.operands]) _ hu) (eh hl fun y e=>Zb y (hlo y e)) (eh hhh fun y e=>Zb y (hhi y e)) w;exact⟨v',by simp[execOp,ho,hr],Vr⟩
  ·rename_i p l hh hu hl hhh;obtain⟨v,h1,rfl⟩:=Z9 h;refine W6 fun μ ρ w Zb=> ?_
   obtain⟨v',hr,Vr⟩:=oc h1 (Zb x (by simp[ho,Op.operands]) _ hu) (eh hl fun y e=>Zb y (hlo y e)) (eh hhh fun y e=>Zb y (hhi y e)) w;exact⟨v',by simp[execOp,ho,hr],Vr⟩
  ·exact XZ h
 ·-- slice with a bound
  rename_i t x lo hi mx ho;have hlo:∀y,lo=some y->y∈o.op.operands:=fun y e=>by simp[ho,Op.operands,e]
  cases hc:ba P t (ev x) (CP ev lo) (ev hi) (ev mx)with
  |false=>rw[hc]at h;exact XZ h
  |true=>
   rw[hc]at h;simp only[cond_true,YO]at h;subst h;obtain⟨xv,l,hv,mv,e1,e2,e3,e4,Uc⟩:=ir (μ:=fun _=>none) hc;clear Uc;refine W6 fun μ ρ w Zb=> ?_
   obtain⟨xv',l',Wq,mv',e1',e2',e3',e4',Uc⟩:=ir (μ:=μ) hc;obtain⟨v',hr,Vr⟩:=Uc (Zb x (by simp[ho,Op.operands]) _ e1') (eh e2' fun y e=>Zb y (hlo y e)) (Zb hi (by simp[ho,Op.operands]) _ e3') (Zb mx (by simp[ho,Op.operands]) _ e4') w;exact⟨v',by simp[execOp,ho,hr],Vr⟩
 ·-- makeFunc
  rename_i f first captured ho
  split at h
  ·rename_i xs ys hx hy;simp only[YO]at h;subst h;refine W6 fun μ ρ w Zb=> ?_
   have hops:o.op.operands=first++captured:=by rw[ho];rfl
   rw[hops]at Zb;have q1:=bd (μ:=μ) (ρ:=ρ) _ _ hx (fun x hx v hv=>Zb x (Array.mem_append.2 (.inl (Array.mem_toList_iff.1 hx))) v hv);have q2:=bd (μ:=μ) (ρ:=ρ) _ _ hy (fun x hx v hv=>Zb x (Array.mem_append.2 (.inr (Array.mem_toList_iff.1 hx))) v hv);refine⟨.func (.func f) (first.map ρ) (captured.map ρ),by simp[execOp,ho,Instr.makeFunc], ?_⟩;have e1:(first.toList.map ρ).toArray=first.map ρ:=by apply Array.ext';simp
   have e2:(captured.toList.map ρ).toArray=captured.map ρ:=by apply Array.ext';simp
   rw[e1]at q1;rw[e2]at q2;exact .func q1.1 q2.1 q1.2 q2.2
  ·cases h
 ·-- makeMap
  rename_i t ho;simp only[YO]at h;subst h;intro S μ ρ w QF hB hS hf Zb hR;have hfn:=hf n (Nh _) (by simp);refine⟨_,_,_, ?_,Post.alloc QF hB hS hfn (.map #[] 0) (.map #[] 0) 0 ⟨rfl,#[],heap_alloc _ _,rfl,fun i e e' he _=>by simp at he⟩,.val (.map (im:=⟨w.heap.size,0,0,true,Tb⟩) XC)⟩;simp only[execOp,ho,Instr.makeMap,Option.map_none,Sem.run_bind,Result.andThen_ok,run_newObj,Sem.run_pure];rfl
 ·-- lookup
  rename_i t x k ok ho;split at h
  ·rename_i m kv hm hk;split at h
   ·rename_i v R hl;simp only[YO]at h;subst h;intro S μ ρ w QF hB hS hf Zb hR;obtain⟨v',hr,Vr⟩:=xD hl QF (Zb x (by simp[ho,Op.operands]) m hm) (Zb k (by simp[ho,Op.operands]) kv hk) hR;exact⟨_,w,μ,by simp[execOp,ho,hr],Post.refl QF,.val Vr⟩
   ·cases h
  ·cases h
 ·-- mapUpdate
  rename_i t m k x ho;split at h
  ·rename_i mv kv v hm hk hv;split at h
   ·rename_i H' b hl;simp only[YO]at h;subst h;intro S μ ρ w QF hB hS hf Zb hR;obtain⟨w',hr,XO⟩:=oe hl QF hS (Zb m (by simp[ho,Op.operands]) mv hm) (Zb k (by simp[ho,Op.operands]) kv hk) (Zb x (by simp[ho,Op.operands]) v hv) (hR b (by simp));exact⟨_,w',μ,by simp[execOp,ho,hr],XO,.skip⟩
   ·cases h
  ·cases h
 ·-- binOp
  rename_i op t x y yt ho;split at h
  ·rename_i a b ha hb;split at h
   ·rename_i v hv;simp only[YO]at h;subst h;refine W6 fun μ ρ w Zb=> ?_
    obtain⟨h1,h2,h3,h4⟩:=FV (P:=P) (t:=t) (x:=x) (y:=y) hv w;have e1:=h3 μ _ (Zb x (by simp[ho,Op.operands]) a ha);have e2:=h4 μ _ (Zb y (by simp[ho,Op.operands]) b hb);refine⟨v, ?_,h2 μ⟩;simp only[execOp,ho,e1,e2];rw[Sem.run_bind,h1];rfl
   ·exact XZ h
  ·cases h
 ·-- nilCheck
  rename_i x ho;split at h
  ·rename_i a hx;simp only[YO]at h;subst h;refine W6 fun μ ρ w Zb=> ?_
   have hv:=Zb x (by simp[ho,Op.operands]) _ hx;refine⟨ρ x, ?_,hv⟩;generalize hg:ρ x=u at hv;cases hv <;> simp[execOp,ho,hg]
  ·rename_i f xs ys hx;simp only[YO]at h;subst h;refine W6 fun μ ρ w Zb=> ?_
   have hv:=Zb x (by simp[ho,Op.operands]) _ hx;refine⟨ρ x, ?_,hv⟩;generalize hg:ρ x=u at hv;cases hv;simp[execOp,ho,hg]
  ·rename_i f xs ys hx;simp only[YO]at h;subst h;refine W6 fun μ ρ w Zb=> ?_
   have hv:=Zb x (by simp[ho,Op.operands]) _ hx;refine⟨ρ x, ?_,hv⟩;generalize hg:ρ x=u at hv;cases hv;simp[execOp,ho,hg]
  ·cases h
 ·-- call
  rename_i c ho;split at h
  ·-- append
   rename_i hc;split at h
   ·rename_i s x t t' ha ht;split at h
    ·rename_i sv xv hs hx;intro S μ ρ w QF hB hS hf Zb hR;have ea:c.args=#[s,x]:=by rw[<-ha]
     have et:c.argTypes=#[t,t']:=by rw[<-ht]
     have hvs:=Zb s (by simp[ho,Op.operands,Call.operands,hc,ea]) sv hs;have hvx:=Zb x (by simp[ho,Op.operands,Call.operands,hc,ea]) xv hx;unfold xG at h;cases htt:MQ t t' with
     |false=>
      rw[htt]at h;simp only[cond_false]at h;have RZ:r.n=n+1:=HP h;obtain⟨v,v',w',μ',hr,hp,hnx,Vr,_⟩:=CH (ty:=o.type) h QF hB hS (hf n (Nh _) (by omega)) hvs hvx;refine⟨.value v',w',μ', ?_,hp,by rw[hnx];exact .val Vr⟩;simp[execOp,ho,resolve,hc,invoke,builtin,ea,et,hr]
     |true=>
      rw[htt]at h;simp only[cond_true]at h;have htt:=YE htt;subst htt;cases hca:Ue P t H n (bare sv) xv with
      |some r0=>
       rw[hca]at h;simp only[YO]at h;subst h;have RZ:r0.n=n+1:=CG hca;obtain⟨v,v',w',μ',hr,hp,hnx,Vr,_⟩:=tg (ty:=o.type) hca QF hB hS (hf n (Nh _) (by omega)) hvs hvx hR;refine⟨.value v',w',μ', ?_,hp,by rw[hnx];exact .val Vr⟩;simp[execOp,ho,resolve,hc,invoke,builtin,ea,et,hr]
      |none=>
       rw[hca]at h;simp only at h;obtain⟨hr,rfl⟩:=CI (ty:=o.type) (w:=w) h hvs hvx;refine⟨.value (ρ s),w,μ, ?_,Post.refl QF,.val hvs⟩;simp[execOp,ho,resolve,hc,invoke,builtin,ea,et,hr]
    ·cases h
   ·cases h
  ·-- len
   rename_i hc;split at h
   ·rename_i x t ha ht;split at h
    ·rename_i a m s e hx hu;rw[ZB]at hu;simp only[YO]at h;subst h;refine W6 fun μ ρ w Zb=> ?_
     have ea:c.args=#[x]:=by rw[<-ha]
     have et:c.argTypes=#[t]:=by rw[<-ht]
     have hv:=Zb x (by simp[ho,Op.operands,Call.operands,hc,ea]) _ hx;refine⟨.int .i64 m, ?_,.int _ _⟩;generalize hg:ρ x=u at hv;cases hv <;> simp[execOp,ho,resolve,hc,invoke,builtin,ea,et,hg,Builtin.len_,run_underlying hu,goInt]
    ·rename_i e hx hu;rw[ZB]at hu;simp only[YO]at h;subst h;refine W6 fun μ ρ w Zb=> ?_
     have ea:c.args=#[x]:=by rw[<-ha]
     have et:c.argTypes=#[t]:=by rw[<-ht]
     have hv:=Zb x (by simp[ho,Op.operands,Call.operands,hc,ea]) _ hx;refine⟨.int .i64 0, ?_,.int _ _⟩;generalize hg:ρ x=u at hv;cases hv <;> simp[execOp,ho,resolve,hc,invoke,builtin,ea,et,hg,Builtin.len_,run_underlying hu,goInt]
    ·exact XZ h
   ·cases h
  ·-- copy
   rename_i hc;split at h
   ·rename_i s x t t2 ha ht;split at h
    ·rename_i sv xv hs hx;intro S μ ρ w QF hB hS hf Zb hR;have ea:c.args=#[s,x]:=by rw[<-ha]
     have et:c.argTypes=#[t,t2]:=by rw[<-ht]
     obtain⟨v,w',hr,hp,hnx,Vr,_⟩:=CD (ty:=o.type) (t2:=t2) h QF hS (Zb s (by simp[ho,Op.operands,Call.operands,hc,ea]) sv hs) (Zb x (by simp[ho,Op.operands,Call.operands,hc,ea]) xv hx) hR;refine⟨.value v,w',μ, ?_,hp,by rw[hnx];exact .val Vr⟩;simp[execOp,ho,resolve,hc,invoke,builtin,ea,et,hr]
    ·cases h
   ·cases h
  ·exact XZ h
  ·-- value
   rename_i f hc;split at h
   ·rename_i fv args hfv hargs;split at h
    ·rename_i nx R hcc;simp only[YO]at h;subst h;intro S μ ρ w QF hB hS hf Zb hR;have hops:o.op.operands=#[f]++c.args:=by rw[ho];simp only[Op.operands,Call.operands,hc]
     rw[hops]at Zb;have q:=bd (μ:=μ) (ρ:=ρ) _ _ hargs (fun x hx v hv=>Zb x (Array.mem_append.2 (.inr (Array.mem_toList_iff.1 hx))) v hv);have e1:(c.args.toList.map ρ).toArray=c.args.map ρ:=by apply Array.ext';simp
     rw[e1]at q;obtain⟨nx',hr,hnr⟩:=qM (P:=P) hF hcc QF (Zb f (Array.mem_append.2 (.inl (by simp))) fv hfv) q hR;refine⟨nx',w,μ, ?_,Post.refl QF,hnr⟩;simp only[execOp,ho,resolve,hc];simpa using hr
    ·cases h
   ·cases h
  ·cases h
 ·exact XZ h
end Go.CE

namespace Go.CE
open Go Go.RowKit

structure PG (B:Nat) (S New W:Nat->Prop) (μ μ':Mu) (G G':Nat->Option Obj) (w w':World):Prop where
 ok:Ok B (fun i=>S i\/New i) μ' G' w'
 ext:∀i,¬New i->μ' i=μ i
 keep:∀i,¬New i->¬W i->G' i=G i
 grow:w.heap.size<=w'.heap.size
 frame:∀b,b<w.heap.size->(∀i,W i->∀im,μ i=some im->im.Z1≠b)->w'.heap[b]? =w.heap[b]?
 wr:∀i,W i->S i/\(∃o,G i=some o/\live o)/\∃im,μ i=some im/\im.rw=true
 fresh:∀i im o,New i->G' i=some o->live o->μ' i=some im->im.rw=true/\
  (w.heap.size<=im.Z1\/∃k,W k/\(∃ZC,μ k=some ZC/\ZC.Z1=im.Z1)/\∀o,G' k=some o->¬live o)
 rf:∀i im o,(New i\/W i)->G' i=some o->Wv o->μ' i=some im->∀b x,im.fm b=some x->
  w.heap.size<=b\/(∃k Uj ko,S k/\G k=some ko/\Wv ko/\μ k=some Uj/\Uj.fm b=some x)\/∃k,W k/\(∃ZC,μ k=some ZC/\ZC.Z1=b)/\∀o,G' k=some o->¬live o
 os:w'.os=w.os
 tape:w'.tape=w.tape
 output:w'.output=w.output
theorem PG.refl{B:Nat}{S:Nat->Prop}{μ:Mu}{G:Nat->Option Obj}{w:World}(h:Ok B S μ G w):PG B S (fun _=>False) (fun _=>False) μ μ G G w w:=
 ⟨h.sub fun _ hi=>hi.elim id False.elim,fun _ _=>rfl,fun _ _ _=>rfl,Nh _,fun _ _ _=>rfl,fun _ h=>h.elim,fun _ _ _ h=>h.elim,fun _ _ _ h=>h.elim False.elim False.elim,rfl,rfl,rfl⟩
theorem Post.pg{B:Nat}{S:Nat->Prop}{n n':Nat}{W:List Nat}{μ μ':Mu}{H H':Qm}{w w':World}(h:Post B S n n' W μ μ' H H' w w')(hn:∀i,n'<=i->Qs H' i=Qs H i):
 PG B S (fun i=>n<=i/\i<n') (fun i=>i∈W/\i<n) μ μ' (Qs H) (Qs H') w w':=by
 have hle:=h.le;refine⟨h.ok,h.ext,fun i hi hw=> ?_,h.grow,fun b hb hw=>h.frame b hb fun i a c=>hw i ⟨a,c⟩,fun i hi=>h.wr i hi.1 hi.2,fun i im o hi ho hl hm=> ?_,fun i im o hi ho hr hm b x hb=> ?_,h.os,h.tape,h.output⟩
 ·rcases Nm i n with X2|hge
  ·exact h.keep i X2 fun e=>hw ⟨e,X2⟩
  ·exact hn i (by omega)
 ·obtain⟨hr,hf⟩:=h.fresh i im o hi.1 hi.2 ho hl hm;refine⟨hr,hf.imp id ?_⟩;rintro⟨k,a,b,c,d⟩;exact⟨k,⟨a,b⟩,c,d⟩
 ·rcases h.rf i im o hi ho hr hm b x hb with e|⟨k,Uj,ko,a,c,d⟩|⟨k,a,c,d⟩
  ·exact .inl e
  ·exact .inr (.inl ⟨k,Uj,ko,a,d⟩)
  ·exact .inr (.inr ⟨k,⟨a,c⟩,d⟩)
theorem PG.post{B:Nat}{S New:Nat->Prop}{n n':Nat}{W:List Nat}{μ μ':Mu}{H H':Qm}{w w':World}(h:PG B S New (fun i=>i∈W/\i<n) μ μ' (Qs H) (Qs H') w w')(hN:∀i,New i<->n<=i/\i<n')(hle:n<=n')(hS:∀i,S i->i<n):Post B S n n' W μ μ' H H' w w':=by
 refine⟨h.ok.sub fun i hi=>hi.imp id (hN i).2,hle,fun i hi=>h.ext i fun e=>hi ((hN i).1 e),fun i hi hw=>h.keep i (fun e=>by have:=((hN i).1 e).1;omega) (fun e=>hw e.1),h.grow,
  fun b hb hw=>h.frame b hb fun i hi=>hw i hi.1 hi.2,fun i hi X2=>h.wr i ⟨hi,X2⟩,fun i im o h1 h2 ho hl hm=> ?_,fun i im o hi ho hr hm b x hb=> ?_,h.os,h.tape,h.output⟩
 ·obtain⟨hr,hf⟩:=h.fresh i im o ((hN i).2 ⟨h1,h2⟩) ho hl hm;refine⟨hr,hf.imp id ?_⟩;rintro⟨k,⟨a,b⟩,c,d⟩;exact⟨k,a,b,c,d⟩
 ·rcases h.rf i im o (hi.imp (hN i).2 id) ho hr hm b x hb with e|⟨k,Uj,ko,a,c⟩|⟨k,⟨a,c⟩,d⟩
  ·exact .inl e
  ·exact .inr (.inl ⟨k,Uj,ko,a,hS k a,c⟩)
  ·exact .inr (.inr ⟨k,a,c,d⟩)
theorem PG.then{B:Nat}{S S2 Pb U0 W1 W2:Nat->Prop}{μ μ1 μ2:Mu}{G G1 Gc G2' G2:Nat->Option Obj}{w w1 w2:World}(h1:PG B S Pb W1 μ μ1 G G1 w w1)(h2:PG B S2 U0 W2 μ1 μ2 Gc G2' w1 w2)
 (hsub:∀i,S2 i->S i\/Pb i) (hGc:∀i,S2 i->Gc i=G1 i) (hnew:∀i,U0 i->¬S i/\¬Pb i) (Vw:∀i,U0 i->μ1 i=none)
 (ha:∀i,W2 i\/U0 i->G2 i=G2' i) (hb:∀i,¬W2 i->¬U0 i->G2 i=G1 i):
 PG B S (fun i=>Pb i\/U0 i) (fun i=>W1 i\/(W2 i/\¬Pb i)) μ μ2 G G2 w w2:=by
 have hW2S:∀i,W2 i->S2 i/\(∃o,G1 i=some o/\live o)/\∃im,μ1 i=some im/\im.rw=true:=by
  intro i hi;obtain⟨a,⟨o,ho,hl⟩,c⟩:=h2.wr i hi;exact⟨a,⟨o,by rw[<-hGc i a];exact ho,hl⟩,c⟩
 have hW2N:∀i,W2 i->¬U0 i:=by
  intro i hi hn;rcases hsub i (hW2S i hi).1 with h|h
  ·exact(hnew i hn).1 h
  ·exact(hnew i hn).2 h
 have ext12:Ext μ1 μ2:=by
  intro k im hk;rw[h2.ext k fun hn=>by rw[Vw k hn]at hk;cases hk];exact hk
 have mu2:∀i,¬U0 i->μ2 i=μ1 i:=h2.ext
 -- blocks Pf the second piece leaves
 have other:∀i o im,(S i\/Pb i)->¬W2 i->G1 i=some o->live o->μ1 i=some im->(∀k,W2 k->∀ZC,μ1 k=some ZC->ZC.Z1≠im.Z1):=by
  intro i o im hi hw ho hl QK k hk ZC QW;obtain⟨hkS,⟨ok,QF,hlk⟩,im'',Va,hr⟩:=hW2S k hk;rw[QW]at Va;cases Va;by_cases hra:im.rw=true
  ·exact h1.ok.inj k i ok o ZC im (hsub k hkS) hi (fun e=>hw (e ▸ hk)) QF ho hlk hl QW QK hr hra
  ·have a:=(h1.ok.low i o im hi ho hl QK).2.2 (by simpa using hra);have b:=(h1.ok.low k ok ZC (hsub k hkS) QF hlk QW).2.1 hr;omega
 have dead:∀k,W1 k->(∀o,G1 k=some o->¬live o)->∀o,G2 k=some o->¬live o:=by
  intro k hk hd o ho hl;have hS:=(h1.wr k hk).1;by_cases hw:W2 k
  ·obtain⟨_,⟨o',Kb,hl'⟩,_⟩:=hW2S k hw;exact hd o' Kb hl'
  ·rw[hb k hw (fun e=>(hnew k e).1 hS)]at ho;exact hd o ho hl
 -- what is live behind both, and WM for the second, was live between
 have liveMid:∀i o,¬U0 i->G2 i=some o->live o->∃o',G1 i=some o'/\live o':=by
  intro i o hn ho hl;by_cases hw:W2 i
  ·exact(hW2S i hw).2.1
  ·rw[hb i hw hn]at ho;exact⟨o,ho,hl⟩
 refine⟨⟨fun i o hi ho hl=> ?_,fun i o im hi ho hl QK=> ?_,fun i j oi oj a b hi hj P4 Wl Wj P2 Uk hma hmb hra K4=> ?_,fun i o hi ho hr=> ?_,fun i j oi oj a b x hi hj Wl Wj YG Uk hma hmb K4 hx=> ?_⟩,fun i hi=> ?_,fun i hn hw=> ?_,Nat.le_trans h1.grow h2.grow,fun b hb0 hw=> ?_,fun i hi=> ?_,fun i im o hi ho hl QK=> ?_,fun i im o hi ho hr QK b x hfb=> ?_,
  h2.os.trans h1.os,h2.tape.trans h1.tape,h2.output.trans h1.output⟩
 ·by_cases ht:W2 i\/U0 i
  ·rw[ha i ht]at ho;exact h2.ok.rel i o (ht.imp (fun h=>(hW2S i h).1) id) ho hl
  ·have hw:¬W2 i:=fun h=>ht (.inl h)
   have hn:¬U0 i:=fun h=>ht (.inr h)
   rw[hb i hw hn]at ho;have hi':S i\/Pb i:=by rcases hi with h|h|h <;> first|exact .inl h|exact .inr h|exact absurd h hn
   obtain⟨im,QK,hr⟩:=h1.ok.rel i o hi' ho hl;exact⟨im,ext12 _ _ QK,hr.keep ext12 (h2.frame _ (h1.ok.low i o im hi' ho hl QK).1 (other i o im hi' hw ho hl QK))⟩
 ·by_cases ht:W2 i\/U0 i
  ·rw[ha i ht]at ho;exact h2.ok.low i o im (ht.imp (fun h=>(hW2S i h).1) id) ho hl QK
  ·have hw:¬W2 i:=fun h=>ht (.inl h)
   have hn:¬U0 i:=fun h=>ht (.inr h)
   rw[hb i hw hn]at ho;rw[mu2 i hn]at QK;have hi':S i\/Pb i:=by rcases hi with h|h|h <;> first|exact .inl h|exact .inr h|exact absurd h hn
   have:=h1.ok.low i o im hi' ho hl QK;exact⟨Nat.lt_of_lt_of_le this.1 h2.grow,this.2⟩
 ·have WM:∀i,(S i\/Pb i\/U0 i)->¬U0 i->S i\/Pb i:=by
   intro i hi hn;rcases hi with h|h|h <;> first|exact .inl h|exact .inr h|exact absurd h hn
  have nw:∀i j oi oj a b,U0 i->¬U0 j->(S j\/Pb j\/U0 j)->i≠j->G2 i=some oi->G2 j=some oj->live oi->live oj->μ2 i=some a->μ2 j=some b->b.rw=true->a.Z1≠b.Z1:=by
   intro i j oi oj a b hn hj0 hjS P4 Wl Wj P2 Uk hma hmb K4;rw[ha i (.inr hn)]at Wl;rw[mu2 j hj0]at hmb;obtain⟨o',Kb,hl'⟩:=liveMid j oj hj0 Wj Uk;have hjj:=WM j hjS hj0;obtain⟨_,hf⟩:=h2.fresh i a oi hn Wl P2 hma;rcases hf with hf|⟨k,hk,⟨ZC,QW,hbb⟩,hd⟩
   ·have:=(h1.ok.low j o' b hjj Kb hl' hmb).1;omega
   ·obtain⟨hkS,⟨ok,QF,hlk⟩,im'',Va,hrk⟩:=hW2S k hk;rw[QW]at Va;cases Va;have hkj:k≠j:=by
     rintro rfl;rw[ha k (.inl hk)]at Wj;exact hd oj Wj Uk
    have:=h1.ok.inj k j ok o' ZC b (hsub k hkS) hjj hkj QF Kb hlk hl' QW hmb hrk K4;omega
  by_cases hni:U0 i
  ·by_cases hnj:U0 j
   ·rw[ha i (.inr hni)]at Wl;rw[ha j (.inr hnj)]at Wj;exact h2.ok.inj i j oi oj a b (.inr hni) (.inr hnj) P4 Wl Wj P2 Uk hma hmb hra K4
   ·exact nw i j oi oj a b hni hnj hj P4 Wl Wj P2 Uk hma hmb K4
  ·by_cases hnj:U0 j
   ·exact Ne.symm (nw j i oj oi b a hnj hni hi (Ne.symm P4) Wj Wl Uk P2 hmb hma hra)
   ·rw[mu2 i hni]at hma;rw[mu2 j hnj]at hmb;obtain⟨o1,ho1,hl1⟩:=liveMid i oi hni Wl P2;obtain⟨o2,ho2,hl2⟩:=liveMid j oj hnj Wj Uk;exact h1.ok.inj i j o1 o2 a b (WM i hi hni) (WM j hj hnj) P4 ho1 ho2 hl1 hl2 hma hmb hra K4
 ·by_cases ht:W2 i\/U0 i
  ·rw[ha i ht]at ho;exact h2.ok.Yg i o (ht.imp (fun h=>(hW2S i h).1) id) ho hr
  ·have hw:¬W2 i:=fun h=>ht (.inl h)
   have hn:¬U0 i:=fun h=>ht (.inr h)
   rw[hb i hw hn]at ho;have hi':S i\/Pb i:=by rcases hi with h|h|h <;> first|exact .inl h|exact .inr h|exact absurd h hn
   obtain⟨im,QK,hf⟩:=h1.ok.Yg i o hi' ho hr;refine⟨im,ext12 _ _ QK,fun b x hx=> ?_⟩;have e:=hf b x hx;rw[h2.frame b (by simpa using(Array.getElem?_eq_some_iff.1 e).1) fun k hk ZC QW hbb=> ?_]
   ·exact e
   ·obtain⟨hkS,⟨ok,QF,hlk⟩,im'',Va,hrk⟩:=hW2S k hk;rw[QW]at Va;cases Va;exact h1.ok.sep i k o ok im ZC x hi' (hsub k hkS) ho QF hr hlk QK QW hrk (by rw[hbb];exact hx)
 ·have WM:∀i,(S i\/Pb i\/U0 i)->¬U0 i->S i\/Pb i:=by
   intro i hi hn;rcases hi with h|h|h <;> first|exact .inl h|exact .inr h|exact absurd h hn
  by_cases htj:W2 j\/U0 j
  ·by_cases hti:W2 i\/U0 i
   ·rw[ha i hti]at Wl;rw[ha j htj]at Wj;exact h2.ok.sep i j oi oj a b x (hti.imp (fun h=>(hW2S i h).1) id) (htj.imp (fun h=>(hW2S j h).1) id) Wl Wj YG Uk hma hmb K4 hx
   ·have hw:¬W2 i:=fun h=>hti (.inl h)
    have hn:¬U0 i:=fun h=>hti (.inr h)
    rw[hb i hw hn]at Wl;rw[mu2 i hn]at hma;have hi':=WM i hi hn;obtain⟨im,QK,hf⟩:=h1.ok.Yg i oi hi' Wl YG;rw[hma]at QK;cases QK;have X2:b.Z1<w1.heap.size:=(Array.getElem?_eq_some_iff.1 (hf _ x hx)).1;by_cases hnj:U0 j
    ·rw[ha j (.inr hnj)]at Wj;obtain⟨_,XK⟩:=h2.fresh j b oj hnj Wj Uk hmb;rcases XK with XK|⟨k,hk,⟨ZC,QW,hbb⟩,hd⟩
     ·omega
     ·obtain⟨hkS,⟨ok,QF,hlk⟩,im'',Va,hrk⟩:=hW2S k hk;rw[QW]at Va;cases Va;exact h1.ok.sep i k oi ok a ZC x hi' (hsub k hkS) Wl QF YG hlk hma QW hrk (by rw[hbb];exact hx)
    ·have hwj:W2 j:=htj.resolve_right hnj;obtain⟨hkS,⟨ok,QF,hlk⟩,im'',Va,hrk⟩:=hW2S j hwj;rw[mu2 j hnj]at hmb;exact h1.ok.sep i j oi ok a b x hi' (hsub j hkS) Wl QF YG hlk hma hmb K4 hx
  ·have hwj:¬W2 j:=fun h=>htj (.inl h)
   have hnj:¬U0 j:=fun h=>htj (.inr h)
   rw[hb j hwj hnj]at Wj;rw[mu2 j hnj]at hmb;have hj':=WM j hj hnj;by_cases hti:W2 i\/U0 i
   ·rw[ha i hti]at Wl;rcases h2.rf i a oi hti.symm Wl YG hma b.Z1 x hx with e|⟨k,Uj,ko,hS,hko,hkr,hkm,hkb⟩|⟨k,hk,⟨ZC,QW,hbb⟩,hd⟩
    ·have:=(h1.ok.low j oj b hj' Wj Uk hmb).1;omega
    ·rw[hGc k hS]at hko;exact h1.ok.sep k j ko oj Uj b x (hsub k hS) hj' hko Wj hkr Uk hkm hmb K4 hkb
    ·obtain⟨hkS,⟨ok,QF,hlk⟩,im'',Va,hrk⟩:=hW2S k hk;rw[QW]at Va;cases Va;exact h1.ok.inj k j ok oj ZC b (hsub k hkS) hj' (fun e=>hwj (e ▸ hk)) QF Wj hlk Uk QW hmb hrk K4 hbb
   ·have hw:¬W2 i:=fun h=>hti (.inl h)
    have hn:¬U0 i:=fun h=>hti (.inr h)
    rw[hb i hw hn]at Wl;rw[mu2 i hn]at hma;exact h1.ok.sep i j oi oj a b x (WM i hi hn) hj' Wl Wj YG Uk hma hmb K4 hx
 ·rw[mu2 i (fun h=>hi (.inr h)),h1.ext i (fun h=>hi (.inl h))]
 ·have RZ:¬Pb i:=fun h=>hn (.inl h)
  rw[hb i (fun h=>hw (.inr ⟨h,RZ⟩)) (fun h=>hn (.inr h)),h1.keep i RZ (fun h=>hw (.inl h))]
 ·have e1:=h1.frame b hb0 fun i hi=>hw i (.inl hi)
  rw[<-e1];refine h2.frame b (Nat.lt_of_lt_of_le hb0 h1.grow) fun i hi im QK=> ?_
  by_cases hn:Pb i
  ·obtain⟨_,⟨o,ho,hl⟩,_⟩:=hW2S i hi;obtain⟨_,hf⟩:=h1.fresh i im o hn ho hl QK;rcases hf with hf|⟨k,hk,⟨ZC,QW,hbb⟩,_⟩
   ·omega
   ·rw[<-hbb];exact hw k (.inl hk) ZC QW
  ·rw[h1.ext i hn]at QK;exact hw i (.inr ⟨hi,hn⟩) im QK
 ·rcases hi with hi|⟨hi,hn⟩
  ·exact h1.wr i hi
  ·obtain⟨hS2,⟨o,ho,hl⟩,im,QK,hr⟩:=hW2S i hi;have hS:S i:=(hsub i hS2).elim id fun h=>absurd h hn
   refine⟨hS, ?_,im,by rw[<-h1.ext i hn];exact QK,hr⟩;by_cases hw:W1 i
   ·exact(h1.wr i hw).2.1
   ·rw[h1.keep i hn hw]at ho;exact⟨o,ho,hl⟩
 ·by_cases hn:U0 i
  ·rw[ha i (.inr hn)]at ho;obtain⟨hr,hf⟩:=h2.fresh i im o hn ho hl QK;refine⟨hr, ?_⟩;rcases hf with hf|⟨k,hk,⟨ZC,QW,hbb⟩,hd⟩
   ·exact .inl (Nat.le_trans h1.grow hf)
   ·have hd2:∀o,G2 k=some o->¬live o:=fun o ho=>by rw[ha k (.inl hk)]at ho;exact hd o ho
    by_cases hk1:Pb k
    ·obtain⟨_,⟨o',Kb,hl'⟩,_⟩:=hW2S k hk;obtain⟨_,hf'⟩:=h1.fresh k ZC o' hk1 Kb hl' QW;rcases hf' with hf'|⟨k',hk',⟨im'',Va,hb''⟩,hd'⟩
     ·exact .inl (by omega)
     ·exact .inr ⟨k',.inl hk',⟨im'',Va,by omega⟩,dead k' hk' hd'⟩
    ·exact .inr ⟨k,.inr ⟨hk,hk1⟩,⟨ZC,by rw[<-h1.ext k hk1];exact QW,hbb⟩,hd2⟩
  ·have RZ:Pb i:=hi.elim id fun h=>absurd h hn
   rw[mu2 i hn]at QK;obtain⟨o',Kb,hl'⟩:=liveMid i o hn ho hl;obtain⟨hr,hf⟩:=h1.fresh i im o' RZ Kb hl' QK;refine⟨hr, ?_⟩;rcases hf with hf|⟨k,hk,QW,hd⟩
   ·exact .inl hf
   ·exact .inr ⟨k,.inl hk,QW,dead k hk hd⟩
 ·have mid:∀k Uj ko,(Pb k\/W1 k)->G1 k=some ko->Wv ko->μ1 k=some Uj->Uj.fm b=some x->
   w.heap.size<=b\/(∃k Uj ko,S k/\G k=some ko/\Wv ko/\μ k=some Uj/\Uj.fm b=some x)\/∃k,(W1 k\/(W2 k/\¬Pb k))/\(∃ZC,μ k=some ZC/\ZC.Z1=b)/\∀o,G2 k=some o->¬live o:=by
   intro k Uj ko hk hko hkr hkm hkb;rcases h1.rf k Uj ko hk hko hkr hkm b x hkb with h|h|⟨k',a,d,e⟩
   ·exact .inl h
   ·exact .inr (.inl h)
   ·exact .inr (.inr ⟨k',.inl a,d,dead k' a e⟩)
  by_cases hA:U0 i\/W2 i
  ·rw[ha i hA.symm]at ho;rcases h2.rf i im o hA ho hr QK b x hfb with h|⟨k,Uj,ko,hS,hko,hkr,hkm,hkb⟩|⟨k,hk,⟨ZC,QW,hbb⟩,hd⟩
   ·exact .inl (Nat.le_trans h1.grow h)
   ·rw[hGc k hS]at hko;by_cases hx:Pb k\/W1 k
    ·exact mid k Uj ko hx hko hkr hkm hkb
    ·have hk1:¬Pb k:=fun e=>hx (.inl e)
     rw[h1.keep k hk1 fun e=>hx (.inr e)]at hko;rw[h1.ext k hk1]at hkm;exact .inr (.inl ⟨k,Uj,ko,(hsub k hS).resolve_right hk1,hko,hkr,hkm,hkb⟩)
   ·have hd2:∀o,G2 k=some o->¬live o:=fun o ho=>by rw[ha k (.inl hk)]at ho;exact hd o ho
    by_cases hk1:Pb k
    ·obtain⟨_,⟨o',Kb,hl'⟩,_⟩:=hW2S k hk;obtain⟨_,hf'⟩:=h1.fresh k ZC o' hk1 Kb hl' QW;rcases hf' with hf'|⟨k',hk',⟨im'',Va,hb''⟩,hd'⟩
     ·exact .inl (by omega)
     ·exact .inr (.inr ⟨k',.inl hk',⟨im'',Va,by omega⟩,dead k' hk' hd'⟩)
    ·exact .inr (.inr ⟨k,.inr ⟨hk,hk1⟩,⟨ZC,by rw[<-h1.ext k hk1];exact QW,hbb⟩,hd2⟩)
  ·have hn2:¬U0 i:=fun e=>hA (.inl e)
   have hw2:¬W2 i:=fun e=>hA (.inr e)
   rw[hb i hw2 hn2]at ho;rw[mu2 i hn2]at QK;refine mid i im o ?_ ho hr QK hfb;rcases hi with (h|h)|h|h
   ·exact .inl h
   ·exact absurd h hn2
   ·exact .inr h
   ·exact absurd h.1 hw2
end Go.CE

namespace Go.CE
open Go Go.RowKit

def I1{α:Type}(b:Bool):Option α->α->α
 |some x,a=>bif b then x else a
 |none,a=>a
def UT{α:Type}(D:Nat->Bool):List (Option α)->Nat->α->α
 |[],_,a=>a
 |c::l,k,a=>UT D l (k+1) (I1 (D k) c a)
theorem WB{α:Type}{D D':Nat->Bool}:∀(l:List (Option α)) (k:Nat) (a:α),(∀i x,l[i]? =some (some x)->D (k+i)=D' (k+i))->UT D l k a=UT D' l k a
 |[],_,_,_=>rfl
 |c::l,k,a,h=>by
  simp only[UT];have e:I1 (D k) c a=I1 (D' k) c a:=by
   cases c with
   |none=>rfl
   |some x=>rw[show D k=D' k by simpa using h 0 x rfl]
  rw[e];exact WB l (k+1) _ fun i x hx=>by have:=h (i+1) x (by simpa using hx);rwa[show k+(i+1)=k+1+i by omega]at this
theorem Ut{α:Type}{D:Nat->Bool}:∀(l:List (Option α)) (k:Nat) (a:α),(∀i x,l[i]? =some (some x)->D (k+i)=false)->UT D l k a=a
 |[],_,_,_=>rfl
 |c::l,k,a,h=>by
  simp only[UT];have e:I1 (D k) c a=a:=by
   cases c with
   |none=>rfl
   |some x=>rw[show D k=false by simpa using h 0 x rfl];rfl
  rw[e];exact Ut l (k+1) a fun i x hx=>by have:=h (i+1) x (by simpa using hx);rwa[show k+(i+1)=k+1+i by omega]at this
theorem nD{α:Type}{D:Nat->Bool}{x:α}:∀(l:List (Option α)) (k j:Nat) (a:α),l[j]? =some (some x)->D (k+j)=true->(∀i y,j<i->l[i]? =some (some y)->D (k+i)=false)->UT D l k a=x
 |[],_,_,_,h,_,_=>by simp at h
 |c::l,k,0,a,h,hd,hn=>by
  simp only[Nb,YO]at h;subst h;simp only[UT];rw[show D k=true by simpa using hd];exact Ut l (k+1) x fun i y hy=>by have:=hn (i+1) y (by omega) (by simpa using hy);rwa[show k+(i+1)=k+1+i by omega]at this
 |c::l,k,j+1,a,h,hd,hn=>by
  simp only[UT];exact nD l (k+1) j _ (by simpa using h) (by rwa[show k+1+j=k+(j+1)by omega]) fun i y hi hy=>by
   have:=hn (i+1) y (by omega) (by simpa using hy);rwa[show k+(i+1)=k+1+i by omega]at this

inductive Tri where
 |lf
 |nd (l:Tri) (v:Value) (r:Tri)
def Tri.get:Tri->Nat->Value
 | .lf,_=>undef
 | .nd _ v _,0=>v
 | .nd l _ r,k+1=>bif MQ (k % 2) 0 then l.get (k / 2)else r.get (k / 2)
def Tri.set:Nat->Tri->Nat->Value->Tri
 |0,t,_,_=>t
 |_+1,.lf,0,x=>.nd .lf x .lf
 |_+1,.nd l _ r,0,x=>.nd l x r
 |f+1,.lf,k+1,x=>bif MQ (k % 2) 0 then .nd (Tri.set f .lf (k / 2) x) undef .lf else .nd .lf undef (Tri.set f .lf (k / 2) x)
 |f+1,.nd l v r,k+1,x=>bif MQ (k % 2) 0 then .nd (Tri.set f l (k / 2) x) v r else .nd l v (Tri.set f r (k / 2) x)
theorem Tri.get_lf(i:Nat):Tri.lf.get i=undef:=by cases i <;> rfl
theorem Tri.get_succ(l:Tri)(v:Value)(r:Tri)(k:Nat):(Tri.nd l v r).get (k+1)=if k % 2=0 then l.get (k / 2)else r.get (k / 2):=by
 show(bif MQ (k % 2) 0 then l.get (k / 2)else r.get (k / 2))=_;by_cases h:k % 2=0
 ·rw[h];rfl
 ·rw[SX h,if_neg h];rfl
theorem Tri.set_lf(f k:Nat)(x:Value):Tri.set (f+1) .lf (k+1) x=if k % 2=0 then Tri.nd (Tri.set f .lf (k / 2) x) undef .lf else Tri.nd .lf undef (Tri.set f .lf (k / 2) x):=by
 show(bif MQ (k % 2) 0 then _ else _)=_;by_cases h:k % 2=0
 ·rw[h];rfl
 ·rw[SX h,if_neg h];rfl
theorem Tri.set_nd(f k:Nat)(l:Tri)(v:Value)(r:Tri)(x:Value):Tri.set (f+1) (.nd l v r) (k+1) x=if k % 2=0 then Tri.nd (Tri.set f l (k / 2) x) v r else Tri.nd l v (Tri.set f r (k / 2) x):=by
 show(bif MQ (k % 2) 0 then _ else _)=_;by_cases h:k % 2=0
 ·rw[h];rfl
 ·rw[SX h,if_neg h];rfl
theorem Tri.lf_get(j:Nat):(Tri.nd .lf undef .lf).get j=Tri.lf.get j:=by
 cases j with
 |zero=>rfl
 |succ j=>rw[Tri.get_succ];simp only[Tri.get_lf,ite_self]
theorem Tri.get_set:∀(f:Nat) (t:Tri) (i:Nat) (x:Value) (j:Nat),i+1<2 ^ f->(t.set f i x).get j=if j=i then x else t.get j
 |0,t,i,x,j,h=>by simp at h
 |f+1,t,0,x,j,_=>by
  cases t with
  |lf=>
   show(Tri.nd .lf x .lf).get j=_;cases j with
   |zero=>rfl
   |succ j=>rw[if_neg (by omega),Tri.get_succ];simp only[Tri.get_lf,ite_self]
  |nd l v r=>
   show(Tri.nd l x r).get j=_;cases j with
   |zero=>rfl
   |succ j=>rw[if_neg (by omega),Tri.get_succ,Tri.get_succ]
 |f+1,t,k+1,x,j,h=>by
  have hk:k / 2+1<2 ^ f:=by rw[Nat.pow_succ]at h;omega
  by_cases he:k % 2=0
  ·have key:∀l v r,(Tri.nd (Tri.set f l (k / 2) x) v r).get j=if j=k+1 then x else(Tri.nd l v r).get j:=by
    intro l v r;cases j with
    |zero=>rfl
    |succ j=>
     rw[Tri.get_succ,Tri.get_succ,Tri.get_set f l (k / 2) x (j / 2) hk];by_cases hj:j % 2=0
     ·rw[if_pos hj,if_pos hj];by_cases e:j=k
      ·subst e;simp
      ·rw[if_neg (by omega),if_neg (by omega)]
     ·rw[if_neg hj,if_neg hj,if_neg (by omega)]
   cases t with
   |lf=>rw[Tri.set_lf,if_pos he,key,Tri.lf_get]
   |nd l v r=>rw[Tri.set_nd,if_pos he,key]
  ·have key:∀l v r,(Tri.nd l v (Tri.set f r (k / 2) x)).get j=if j=k+1 then x else(Tri.nd l v r).get j:=by
    intro l v r;cases j with
    |zero=>rfl
    |succ j=>
     rw[Tri.get_succ,Tri.get_succ,Tri.get_set f r (k / 2) x (j / 2) hk];by_cases hj:j % 2=0
     ·rw[if_pos hj,if_pos hj,if_neg (by omega)]
     ·rw[if_neg hj,if_neg hj];by_cases e:j=k
      ·subst e;simp
      ·rw[if_neg (by omega),if_neg (by omega)]
   cases t with
   |lf=>rw[Tri.set_lf,if_neg he,key,Tri.lf_get]
   |nd l v r=>rw[Tri.set_nd,if_neg he,key]
structure Tm where
 len:Nat
 tr:Tri
def XL(T:Tm)(t:Nat):Value:=T.tr.get t
def V1(T:Tm)(d:Option Tmp)(v:Value):Tm:=match d with|some d=>⟨T.len,T.tr.set 14 d v⟩|none=>T
def Zi(T:Tm):Operand->Option Value
 | .tmp t=>some (XL T t)
 | .const v=>bif af v then some v else none
 | .func f=>some (.func (.func f) #[] #[])
 | .global _=>none
def TR(μ:Mu)(T:Tm)(A:Array Value):Prop:=T.len=A.size/\∀t,VR μ (XL T t) (A.getD t undef)
theorem TR.mono{μ μ':Mu}(e:Ext μ μ'){T:Tm}{A:Array Value}(h:TR μ T A):TR μ' T A:=⟨h.1,fun t=>(h.2 t).mono e⟩
theorem Um{T:Tm}{d:Option Tmp}{v:Value}:(V1 T d v).len=T.len:=by cases d <;> rfl
theorem Ma(d:Nat)(h:d<16000):d+1<2 ^ 14:=by omega
theorem tG{T:Tm}{d:Option Tmp}{v:Value}{t:Nat}(h:∀x,d=some x->x<16000):XL (V1 T d v) t=if d=some t then v else XL T t:=by
 cases d with
 |none=>simp[V1]
 |some d=>
  have h2:=Ma d (h d rfl);simp only[V1,XL,YO];rw[Tri.get_set 14 _ d _ _ h2];by_cases e:d=t
  ·subst e;simp
  ·rw[if_neg (Ne.symm e),if_neg e]
theorem TR.put{μ:Mu}{T:Tm}{A:Array Value}(h:TR μ T A){d:Option Tmp}(hd:∀x,d=some x->x<T.len/\x<16000){v v':Value}(hv:VR μ v v'):TR μ (V1 T d v) (match d with|some x=>A.setIfInBounds x v'|none=>A):=by
 refine⟨?_,fun t=> ?_⟩
 ·rw[Um];cases d <;> simp[h.1]
 ·rw[tG fun x hx=>(hd x hx).2];cases d with
  |none=>simpa using h.2 t
  |some x=>
   have hx:x<A.size:=h.1 ▸ (hd x rfl).1;simp only[YO];by_cases e:x=t
   ·subst e;simpa[hx]using hv
   ·have:=h.2 t;simp[e]at this ⊢;exact this
def PU:Value->Option Bool
 | .bool b=>some b
 |_=>none
def XT(ops:Array Oper)(T:Tm)(j:Nat):Option Bool:=
 match nth ops.toList j with
 |some o=>match o.dst with
  |some t=>PU (XL T t)
  |none=>none
 |none=>none
theorem fZ{ops:Array Oper}{T:Tm}{j:Nat}:XT ops T j=match(ops[j]?).bind (·.dst)with
 |some t=>PU (XL T t)
 |none=>none:=by
 unfold XT;rw[TL,MX];cases ops[j]? <;> rfl
theorem j9{ops:Array Oper}{A:Array Value}{j:Nat}:yielded ops A j=match(ops[j]?).bind (·.dst)with
 |some t=>PU (A.getD t undef)
 |none=>none:=by
 unfold yielded;cases(ops[j]?).bind (·.dst)with
 |none=>rfl
 |some t=>
  simp only[Option.bind_some,Array.getD_eq_getD_getElem?];cases A[t]? with
  |none=>rfl
  |some v=>cases v <;> rfl
theorem Ax{μ:Mu}{v v':Value}(h:VR μ v v'):PU v'=PU v:=by
 cases h with
 |KF a b c=>
  cases v' with
  |bool q=>exact absurd rfl (a q)
  |_=>rfl
 |top a b c=>
  cases v' with
  |bool q=>exact absurd rfl (c.nobool a q)
  |_=>rfl
 |_=>rfl

structure Rec where
 o:Oper
 run:Bool
 v:Value
 T:Tm
 H:Qm
 H':Qm
 n:Nat
 n':Nat
 R:List Nat
 W:List Nat
def K2:List Rec->Tm->Qm->Nat->Tm->Qm->Nat->Prop
 |[],T,H,n,T',H',n'=>T=T'/\H=H'/\n=n'
 |r::l,T,H,n,T',H',n'=>r.T=T/\r.H=H/\r.n=n/\K2 l (V1 T r.o.dst r.v) r.H' r.n' T' H' n'
structure bj (len:Nat) (r:Rec):Prop where
 le:r.n<=r.n'
 keep:∀i,i<r.n->i ∉ r.W->Qs r.H' i=Qs r.H i
 top:∀i,r.n'<=i->Qs r.H' i=Qs r.H i
 sub:∀i,i∈r.W->i∈r.R
 wlt:∀i,i∈r.W->i<r.n'
 dst:∀x,r.o.dst=some x->x<len/\x<16000
def cx(r:Rec)(i:Nat):Bool:=r.W.contains i || (Nr r.n i && MY i r.n')
theorem Tg{r:Rec}{i:Nat}:cx r i=true<->i∈r.W\/(r.n<=i/\i<r.n'):=by
 simp only[cx,Bool.or_eq_true,List.contains_iff_mem,YB];refine or_congr Iff.rfl ⟨fun h=>⟨YL h.1,YL h.2⟩,fun h=>⟨Nl h.1,Nl h.2⟩⟩
def cH(i:Nat)(r:Rec):Option (Option Obj):=bif cx r i then some (Qs r.H' i)else none
def cT(t:Nat)(r:Rec):Option Value:=if r.o.dst=some t then some r.v else none
theorem HO{len:Nat}{r:Rec}(h:bj len r)(i:Nat)(a:Option Obj)(ha:a=Qs r.H i):I1 true (cH i r) a=Qs r.H' i:=by
 unfold cH;cases ht:cx r i with
 |true=>rfl
 |false=>
  simp only[cond_false,I1];have hn:¬(i∈r.W\/(r.n<=i/\i<r.n')):=fun e=>by rw[Tg.2 e]at ht;cases ht
  rw[ha];rcases Nm i r.n with X2|hge
  ·exact(h.keep i X2 fun e=>hn (.inl e)).symm
  ·exact(h.top i (by
    rcases Nm i r.n' with h1|h1
    ·exact absurd (.inr ⟨hge,h1⟩) hn
    ·exact h1)).symm
theorem bV{len:Nat}(i:Nat):∀(l:List Rec) (k:Nat) (T:Tm) (H:Qm) (n:Nat) (T':Tm) (H':Qm) (n':Nat),K2 l T H n T' H' n'->(∀r∈l,bj len r)->
 (∀j r,l[j]? =some r->Qs r.H i=UT (fun q=>decide (q<k+j)) (l.map (cH i)) k (Qs H i))/\Qs H' i=UT (fun _=>true) (l.map (cH i)) k (Qs H i)
 |[],k,T,H,n,T',H',n',h,_=>⟨fun j r hr=>by simp at hr,by obtain⟨_,rfl,_⟩:=h;rfl⟩
 |r::l,k,T,H,n,T',H',n',h,hs=>by
  obtain⟨h1,h2,h3,h4⟩:=h;obtain⟨q1,q2⟩:=bV i l (k+1) _ _ _ _ _ _ h4 fun x hx=>hs x (Nc _ hx)
  have ZQ:=HO (hs r (by simp)) i (Qs H i) (by rw[h2]);refine⟨fun j x hx=> ?_, ?_⟩
  ·cases j with
   |zero=>
    simp only[Nb,YO]at hx;subst hx;rw[Ut _ _ _ fun a y _=>by simp,h2]
   |succ j=>
    rw[q1 j x (by simpa using hx)];simp only[List.map_cons,UT];rw[show(decide (k<k+(j+1)))=true by simp];rw[ZQ];exact WB _ _ _ fun a y _=>by rw[show k+1+j=k+(j+1)by omega]
  ·rw[q2];simp only[List.map_cons,UT];rw[ZQ]
theorem Kq{len:Nat}(t:Nat):∀(l:List Rec) (k:Nat) (T:Tm) (H:Qm) (n:Nat) (T':Tm) (H':Qm) (n':Nat),K2 l T H n T' H' n'->(∀r∈l,bj len r)->T.len=len->
 (∀j r,l[j]? =some r->r.T.len=len/\XL r.T t=UT (fun q=>decide (q<k+j)) (l.map (cT t)) k (XL T t))/\T'.len=len/\XL T' t=UT (fun _=>true) (l.map (cT t)) k (XL T t)
 |[],k,T,H,n,T',H',n',h,_,hl=>⟨fun j r hr=>by simp at hr,by obtain⟨rfl,_⟩:=h;exact⟨hl,rfl⟩⟩
 |r::l,k,T,H,n,T',H',n',h,hs,hl=>by
  obtain⟨h1,h2,h3,h4⟩:=h;have hd:=(hs r (by simp)).dst;have hlen:(V1 T r.o.dst r.v).len=len:=by rw[Um];exact hl
  obtain⟨q1,q2,q3⟩:=Kq t l (k+1) _ _ _ _ _ _ h4 (fun x hx=>hs x (Nc _ hx)) hlen;have ZQ:I1 true (cT t r) (XL T t)=XL (V1 T r.o.dst r.v) t:=by
   rw[tG fun x hx=>(hd x hx).2];unfold cT;split <;> rfl
  refine⟨fun j x hx=> ?_,q2, ?_⟩
  ·cases j with
   |zero=>
    simp only[Nb,YO]at hx;subst hx;rw[Ut _ _ _ fun a y _=>by simp,h1];exact⟨hl,rfl⟩
   |succ j=>
    obtain⟨a1,a2⟩:=q1 j x (by simpa using hx);refine⟨a1, ?_⟩;rw[a2];simp only[List.map_cons,UT];rw[show(decide (k<k+(j+1)))=true by simp];rw[ZQ];exact WB _ _ _ fun a y _=>by rw[show k+1+j=k+(j+1)by omega]
  ·rw[q3];simp only[List.map_cons,UT];rw[ZQ]
theorem Je{len:Nat}:∀(l:List Rec) (T:Tm) (H:Qm) (n:Nat) (T':Tm) (H':Qm) (n':Nat),K2 l T H n T' H' n'->(∀r∈l,bj len r)->
 n<=n'/\(∀r∈l,n<=r.n/\r.n'<=n')/\(∀(i j:Nat) (a b:Rec),i<j->l[i]? =some a->l[j]? =some b->a.n'<=b.n)/\(∀x,n<=x->x<n'->∃(j:Nat) (r:Rec),l[j]? =some r/\r.n<=x/\x<r.n')
 |[],T,H,n,T',H',n',h,_=>by obtain⟨_,_,rfl⟩:=h;exact⟨Nh _,by simp,fun i j a b _ h=>by simp at h,fun x h1 h2=>absurd h1 (by omega)⟩
 |r::l,T,H,n,T',H',n',h,hs=>by
  obtain⟨h1,h2,h3,h4⟩:=h;obtain⟨q1,q2,q3,q4⟩:=Je l _ _ _ _ _ _ h4 fun x hx=>hs x (Nc _ hx)
  have hr:=(hs r (by simp)).le;refine⟨by omega,fun x hx=> ?_,fun i j a b P4 ha hb=> ?_,fun x hx1 hx2=> ?_⟩
  ·rcases List.mem_cons.1 hx with rfl|hx
   ·omega
   ·have:=q2 x hx;omega
  ·cases j with
   |zero=>omega
   |succ j=>
    cases i with
    |zero=>
     simp only[Nb,YO]at ha;subst ha;exact(q2 b (MW (by simpa using hb))).1
    |succ i=>exact q3 i j a b (by omega) (by simpa using ha) (by simpa using hb)
  ·rcases Nm x r.n' with X2|hge
   ·exact⟨0,r,rfl,by omega,X2⟩
   ·obtain⟨j,r',hj,hx⟩:=q4 x hge hx2;exact⟨j+1,r',by simpa using hj,hx⟩

theorem xo{α:Type}{l m:List α}{i:Nat}{d:α}(h:i<l.length):(l++m).getD i d=l.getD i d:=by
 rw[MU,MU,Nk h]
def iv:List Oper->List Nat->List Nat
 |[],acc=>acc
 |o::l,acc=>iv l (acc++[o.after.toList.foldr (fun e m=>bif Region.binds .any e then Nat.lor (Nat.lor (Nat.shiftLeft 1 e.on) (acc.getD e.on 0)) m else m) 0])
def Fb(n m:Nat):List Nat:=(MP n).filter fun i=>MQ (Nat.land (Nat.shiftRight m i) 1) 1
theorem qw{n m i:Nat}:i∈Fb n m<->i<n/\m.testBit i=true:=by
 unfold Fb;rw[List.mem_filter,List.mem_range,Nat.beq_eq,Nat.testBit_eq_decide_div_mod_eq,decide_eq_true_iff];show(i<n/\(m >>> i) &&& 1=1)<->_;rw[Nat.and_one_is_mod,Nat.shiftRight_eq_div_pow]
theorem An{a b i:Nat}:(Nat.lor a b).testBit i=(a.testBit i || b.testBit i):=Nat.testBit_or a b i
theorem Hf{k i:Nat}(h:(Nat.shiftLeft 1 k).testBit i=true):i=k:=by
 have e:Nat.shiftLeft 1 k=2 ^ k:=by show 1 <<< k=_;rw[Nat.shiftLeft_eq,Nat.one_mul]
 rw[e,Nat.testBit_two_pow]at h;exact(of_decide_eq_true h).symm
theorem nL{acc:List Nat}{i:Nat}:∀(l:List Edge),(l.foldr (fun e m=>bif Region.binds .any e then Nat.lor (Nat.lor (Nat.shiftLeft 1 e.on) (acc.getD e.on 0)) m else m) 0).testBit i=true->∃e∈l,Region.binds .any e=true/\(i=e.on\/(acc.getD e.on 0).testBit i=true)
 |[],h=>by simp at h
 |e::l,h=>by
  rw[List.foldr_cons]at h;cases hb:Region.binds .any e with
  |false=>
   rw[hb,cond_false]at h;obtain⟨x,hx,h1⟩:=nL l h;exact⟨x,Nc _ hx,h1⟩
  |true=>
   rw[hb,cond_true,An,An,Bool.or_eq_true,Bool.or_eq_true]at h;rcases h with (h|h)|h
   ·exact⟨e,List.mem_cons_self,hb,Or.inl (Hf h)⟩
   ·exact⟨e,List.mem_cons_self,hb,Or.inr h⟩
   ·obtain⟨x,hx,h1⟩:=nL l h;exact⟨x,Nc _ hx,h1⟩
def Jf(l:List Oper)(_:List (List Nat)):List (List Nat):=(iv l []).map (Fb l.length)
def M8(ops:List Oper)(bs:List (List Nat)):Prop:=bs.length<=ops.length/\∀k b,bs[k]? =some b->∀i∈b,∃o,ops[k]? =some o/\∃e∈o.after,Region.binds .any e=true/\e.on<k/\(i=e.on\/i∈bs.getD e.on [])
def Mp(ops:List Oper)(bs:List Nat):Prop:=bs.length<=ops.length/\∀k b,bs[k]? =some b->∀i,b.testBit i=true->∃o,ops[k]? =some o/\∃e∈o.after,Region.binds .any e=true/\e.on<k/\(i=e.on\/(bs.getD e.on 0).testBit i=true)
theorem xI:∀(l pre:List Oper) (acc:List Nat),acc.length=pre.length->Mp (pre++l) acc->(∀(k:Nat) o,(pre++l)[k]? =some o->∀e∈o.after,Region.binds .any e=true->e.on<k)->Mp (pre++l) (iv l acc)/\(iv l acc).length=(pre++l).length
 |[],pre,acc,hl,h,_=>⟨h,by simpa[iv]using hl⟩
 |o::l,pre,acc,hl,h,X2=>by
  have e:pre++o::l=(pre++[o])++l:=by simp
  rw[e]at h X2 ⊢;refine xI l (pre++[o]) _ (by simp[hl]) ⟨by simp[hl],fun k b hb i hi=> ?_⟩ X2;rcases Nm k acc.length with hk|hk
  ·rw[Nk hk]at hb;obtain⟨x,hx,ed,hed,hbd,hon,Wd⟩:=h.2 k b hb i hi;refine⟨x,hx,ed,hed,hbd,hon,Wd.imp id fun h=> ?_⟩;rwa[xo (by omega)]
  ·have hk0:k=acc.length:=by
    have:=(List.getElem?_eq_some_iff.1 hb).1;simp at this;omega
   subst hk0;rw[MZ (Nh _)]at hb;simp only[Nat.sub_self,Nb,YO]at hb;subst hb;have ho:((pre++[o])++l)[acc.length]? =some o:=by rw[hl];simp
   obtain⟨ed,hed,hbd,hi⟩:=nL _ hi;have hon:=X2 acc.length o ho ed (by simpa using hed) hbd;exact⟨o,ho,ed,by simpa using hed,hbd,hon,hi.imp id fun h=>by rwa[xo (by omega)]⟩
theorem ti(l:List Oper)(X2:∀(k:Nat) o,l[k]? =some o->∀e∈o.after,Region.binds .any e=true->e.on<k):M8 l (Jf l [])/\(Jf l []).length=l.length:=by
 obtain⟨⟨h1,h2⟩,h3⟩:=xI l [] [] rfl ⟨by simp,fun q b hq=>by simp at hq⟩ (fun q o ho=>X2 q o (by simpa using ho));simp only[List.nil_append]at h1 h2 h3;refine⟨⟨by simpa[Jf]using h1,fun k b hb i hi=> ?_⟩,by simpa[Jf]using h3⟩;unfold Jf at hb ⊢;rw[Ng]at hb;cases hm:(iv l [])[k]? with
 |none=>rw[hm]at hb;cases hb
 |some m=>
  rw[hm]at hb;simp only[Nn,YO]at hb;subst hb;obtain⟨hi1,hi2⟩:=qw.1 hi;obtain⟨o,ho,e,he,hbd,hon,Wd⟩:=h2 k m hm i hi2;refine⟨o,ho,e,he,hbd,hon,Wd.imp id fun h=> ?_⟩;have hk:k<(iv l []).length:=(List.getElem?_eq_some_iff.1 hm).1;have he2:e.on<(iv l []).length:=by omega
  rw[MU,Ng,NI he2];rw[MU,NI he2]at h;exact qw.2 ⟨hi1,h⟩
theorem zN{ops:List Oper}{bs:List (List Nat)}(h:M8 ops bs){D:Nat->Bool}(hD:∀k o,D k=true->ops[k]? =some o->∀e∈o.after,Region.binds .any e=true->D e.on=true):
 ∀(k:Nat),(∀o,ops[k]? =some o->∀e∈o.after,Region.binds .any e=true->D e.on=true)->∀i∈bs.getD k [],D i=true:=by
 intro k;induction k using No with
 |_ k ih=>
  intro hk i hi;rw[MU]at hi;cases hb:bs[k]? with
  |none=>rw[hb]at hi;simp at hi
  |some b=>
   rw[hb]at hi;obtain⟨o,ho,e,he,hbd,hon,Wd⟩:=h.2 k b hb i hi;have hDe:=hk o ho e he hbd;rcases Wd with rfl|Wd
   ·exact hDe
   ·exact ih e.on hon (fun o' Kb=>hD e.on o' hDe Kb) i Wd
end Go.CE

namespace Go.CE
open Go Go.RowKit

inductive OO where
 |ret (v:Value)
 |ZG (v:Value)
inductive OR2 (μ:Mu):OO->OO->Prop
 |ret {v v'}:VR μ v v'->OR2 μ (.ret v) (.ret v')
 |ZG {v v'}:VR μ v v'->OR2 μ (.ZG v) (.ZG v')
def OO.on(fr:Frame):OO->Frame
 | .ret v=>fr.finish v
 | .ZG v=>fr.raise [{v,recovered:=false}]
def Sm(P:Program)(B:Lo)(o:Oper)(ev:Operand->Option Value)(H:Qm)(n:Nat)(out:OO)(H':Qm)(n':Nat)(R W:List Nat):Prop:=
 ∀(S:Nat->Prop) (μ:Mu) (w:World) (fr:Frame) (cs:List Frame) (k:List Item) (ops:Array Oper) (i:Nat) (rest:List Nat),Ok B S μ (Qs H) w->B.has w->(∀i,S i->i<n)->Jg μ n n'->
  (∀x∈o.op.operands,∀v,ev x=some v->VR μ v (fr.eval x))->(∀i∈R,i<n->S i)->
  fr.mode=.run->fr.todo=.inRegion ops (i::rest)::k->ops[i]? =some o->Region.wanted o (yielded ops fr.tmps)=true->
  ∃Zl w' μ',Post B S n n' W μ μ' H H' w w'/\OR2 μ' out Zl/\Steps P (lone fr cs w) (lone (Zl.on fr) cs w')
def PB(P:Program)(B:Lo)(ops:Array Oper)(r:Rec):Prop:=
 (r.run=Region.wanted r.o (XT ops r.T))/\(r.run=true->Sm P B r.o (Zi r.T) r.H r.n (.ret r.v) r.H' r.n' r.R r.W)/\(r.run=false->r.v=undef/\r.H'=r.H/\r.n'=r.n/\r.W=[])

def meets(r x:Rec):Bool:=r.W.any fun i=>x.R.contains i
def bears(r x:Rec):Bool:=x.R.any fun i=>Nr r.n i && MY i r.n'
def tied(ops:Array Oper)(r x:Rec):Bool:= !(r.o.apart ops x.o) || meets r x || meets x r || bears r x
def Kz(ops:Array Oper)(r:Rec)(k:Nat):List Rec->List (List Nat)->Bool
 |x::l,b::bs=>(b.contains k || !(tied ops r x)) && Kz ops r k l bs
 |[],_=>true
 |_::_,[]=>false
def indep(ops:Array Oper):Nat->List Rec->List (List Nat)->Bool
 |k,r::l,_::bs=>Kz ops r k l bs && indep ops (k+1) l bs
 |_,[],_=>true
 |_,_::_,[]=>false
theorem TS{ops:Array Oper}{r:Rec}{k:Nat}:∀(l:List Rec) (bs:List (List Nat)),Kz ops r k l bs=true->∀(j:Nat) x,l[j]? =some x->tied ops r x=true->k∈bs.getD j []
 |x::l,b::bs,h,j,y,hj,ht=>by
  simp only[Kz,YB,Bool.or_eq_true,Bool.not_eq_true',List.contains_iff_mem]at h;cases j with
  |zero=>
   simp only[Nb,YO]at hj;subst hj;rcases h.1 with h1|h1
   ·simpa using h1
   ·rw[ht]at h1;cases h1
  |succ j=>
   have:=TS l bs h.2 j y (by simpa using hj) ht;simpa using this
 |[],_,_,j,y,hj,_=>by simp at hj
 |_::_,[],h,_,_,_,_=>by simp[Kz]at h
theorem SL{ops:Array Oper}:∀(l:List Rec) (bs:List (List Nat)) (k:Nat),indep ops k l bs=true->∀(i j:Nat) r x,i<j->l[i]? =some r->l[j]? =some x->tied ops r x=true->k+i∈bs.getD j []
 |r::l,b::bs,k,h,i,j,y,x,P4,hi,hj,ht=>by
  simp only[indep,YB]at h;cases j with
  |zero=>omega
  |succ j=>
   cases i with
   |zero=>
    simp only[Nb,YO]at hi;subst hi;have:=TS l bs h.1 j x (by simpa using hj) ht;simpa using this
   |succ i=>
    have:=SL l bs (k+1) h.2 i j y x (by omega) (by simpa using hi) (by simpa using hj) ht;rw[show k+1+i=k+(i+1)by omega]at this;simpa using this
 |[],_,_,_,i,j,y,x,_,hi,_,_=>by simp at hi
 |_::_,[],_,h,_,_,_,_,_,_,_,_=>by simp[indep]at h
theorem PG.congr{B:Nat}{S New New' W W':Nat->Prop}{μ μ':Mu}{G G' G'':Nat->Option Obj}{w w':World}(h:PG B S New W μ μ' G G' w w')(hN:∀i,New i<->New' i)(hW:∀i,W i<->W' i)(hG:∀i,G' i=G'' i):PG B S New' W' μ μ' G G'' w w':=by
 have e1:New=New':=funext fun i=>propext (hN i)
 have e2:W=W':=funext fun i=>propext (hW i)
 have e3:G'=G'':=funext hG;subst e1 e2 e3;exact h

def M7(ops:Array Oper)(Qx:List Rec)(bs:List (List Nat)):Prop:=∀(i j:Nat) (r x:Rec),i<j->Qx[i]? =some r->Qx[j]? =some x->tied ops r x=true->0+i∈bs.getD j []
structure Setup (P:Program) (B:Lo) (ops:Array Oper) (Qx:List Rec) (bs:List (List Nat)) (T:Tm) (H:Qm) (n:Nat) (T':Tm) (H':Qm) (n':Nat):Prop where
 chain:K2 Qx T H n T' H' n'
 PE:∀r∈Qx,bj T.len r
 own:∀(i:Nat) r,Qx[i]? =some r->ops[i]? =some r.o
 len:Qx.length=ops.size
 bef:M8 ops.toList bs
 ind:M7 ops Qx bs
 edge:∀(k:Nat) o,ops[k]? =some o->∀e∈o.after,Region.binds .any e=true->e.on<k
section
variable {P:Program} {B:Lo} {ops:Array Oper} {Qx:List Rec} {bs:List (List Nat)} {T:Tm} {H:Qm} {n:Nat} {T':Tm} {H':Qm} {n':Nat}
def gD(Qx:List Rec)(H:Qm)(D:Nat->Bool)(i:Nat):Option Obj:=UT D (Qx.map (cH i)) 0 (Qs H i)
def tD(Qx:List Rec)(T:Tm)(D:Nat->Bool)(t:Nat):Value:=UT D (Qx.map (cT t)) 0 (XL T t)
def tu(Qx:List Rec)(D:Nat->Bool)(i:Nat):Prop:=∃(j:Nat) (r:Rec),D j=true/\Qx[j]? =some r/\r.n<=i/\i<r.n'
def WD(Qx:List Rec)(n:Nat)(D:Nat->Bool)(i:Nat):Prop:=i<n/\∃(j:Nat) (r:Rec),D j=true/\Qx[j]? =some r/\i∈r.W
def U1(ops:Array Oper)(D:Nat->Bool):Prop:=∀k o,D k=true->ops[k]? =some o->∀e∈o.after,Region.binds .any e=true->D e.on=true
theorem oo(h:Setup P B ops Qx bs T H n T' H' n'){D:Nat->Bool}(hD:U1 ops D){k:Nat}(hk:∀o,ops[k]? =some o->∀e∈o.after,Region.binds .any e=true->D e.on=true):∀i∈bs.getD k [],D i=true:=
 zN h.bef (fun k o a b=>hD k o a (by simpa using b)) k (fun o a=>hk o (by simpa using a))
theorem tT(h:Setup P B ops Qx bs T H n T' H' n'){D:Nat->Bool}(hD:U1 ops D){j:Nat}{x:Rec}(hj:Qx[j]? =some x)(hn:D j=false)(hr:∀o,ops[j]? =some o->∀e∈o.after,Region.binds .any e=true->D e.on=true)
 {i:Nat} {r:Rec} (hi:Qx[i]? =some r) (ht:(i<j->tied ops r x=true)/\(j<i->tied ops x r=true)):D i=decide (i<j):=by
 rcases Nat.lt_trichotomy i j with X2|heq|hgt
 ·have:=h.ind i j r x X2 hi hj (ht.1 X2);rw[Nj]at this;rw[oo h hD hr i this];simp[X2]
 ·subst heq;rw[hn];simp
 ·have:=h.ind j i x r hgt hj hi (ht.2 hgt);rw[Nj]at this;have hf:D i=false:=by
   cases hd:D i with
   |false=>rfl
   |true=>
    have:=oo h hD (k:=i) (fun o ho=>hD i o hd ho) j this;rw[hn]at this;cases this
  rw[hf];simp;omega
theorem gh{r x:Rec}{t:Nat}(ht:r.o.dst=some t)(hl:t∈x.o.looksAt ops\/x.o.dst=some t):tied ops r x=true/\tied ops x r=true:=by
 constructor
 ·have:r.o.apart ops x.o=false:=by
   cases hap:r.o.apart ops x.o with
   |false=>rfl
   |true=>
    obtain⟨h1,h2,_⟩:=Oper.apart_spec hap;rcases hl with hl|hl
    ·exact absurd hl (h1 t ht)
    ·exact absurd hl (h2 t ht)
  simp[tied,this]
 ·have:x.o.apart ops r.o=false:=by
   cases hap:x.o.apart ops r.o with
   |false=>rfl
   |true=>
    obtain⟨_,h2,h3⟩:=Oper.apart_spec hap;rcases hl with hl|hl
    ·exact absurd hl (h3 t ht)
    ·exact absurd ht (h2 t hl)
  simp[tied,this]
theorem jz{t:Nat}{i:Nat}{v:Value}(h:(Qx.map (cT t))[i]? =some (some v)):∃r,Qx[i]? =some r/\r.o.dst=some t/\r.v=v:=by
 rw[Ng]at h;cases hr:Qx[i]? with
 |none=>rw[hr]at h;cases h
 |some r=>
  rw[hr]at h;simp only[Nn,YO,cT]at h;split at h
  ·rename_i hd;exact⟨r,rfl,hd,by simpa using h⟩
  ·cases h
theorem j4{q:Nat}{i:Nat}{v:Option Obj}(h:(Qx.map (cH q))[i]? =some (some v)):∃r,Qx[i]? =some r/\(q∈r.W\/(r.n<=q/\q<r.n'))/\Qs r.H' q=v:=by
 rw[Ng]at h;cases hr:Qx[i]? with
 |none=>rw[hr]at h;cases h
 |some r=>
  rw[hr]at h;simp only[Nn,YO,cH]at h;cases ht:cx r q with
  |false=>rw[ht]at h;cases h
  |true=>rw[ht]at h;exact⟨r,rfl,Tg.1 ht,by simpa using h⟩
theorem tJ(h:Setup P B ops Qx bs T H n T' H' n'){D:Nat->Bool}(hD:U1 ops D){j:Nat}{x:Rec}(hj:Qx[j]? =some x)(hn:D j=false)(hr:∀o,ops[j]? =some o->∀e∈o.after,Region.binds .any e=true->D e.on=true)
 {t:Nat} (ht:t∈x.o.looksAt ops):tD Qx T D t=XL x.T t:=by
 obtain⟨q1,_⟩:=Kq (len:=T.len) t Qx 0 T H n T' H' n' h.chain h.PE rfl;rw[(q1 j x hj).2];refine WB _ _ _ fun i v hv=> ?_
 obtain⟨r,YG,hd,_⟩:=jz hv;have htt:=gh (ops:=ops) hd (.inl ht);simp only[Nj];exact tT h hD hj hn hr YG ⟨fun _=>htt.1,fun _=>htt.2⟩
theorem A9(h:Setup P B ops Qx bs T H n T' H' n'){i j:Nat}{r x:Rec}{q:Nat}(hi:Qx[i]? =some r)(hj:Qx[j]? =some x)(hq:q∈x.R)(hqn:q<x.n)(hr:q∈r.W\/(r.n<=q/\q<r.n')):(i<j->tied ops r x=true)/\(j<i->tied ops x r=true):=by
 have PR:=Je Qx T H n T' H' n' h.chain h.PE;rcases hr with hr|hr
 ·have m1:meets r x=true:=List.any_eq_true.2 ⟨q,hr,by simpa using hq⟩;exact⟨fun _=>by simp[tied,m1],fun _=>by simp[tied,m1]⟩
 ·refine⟨fun _=> ?_,fun X2=> ?_⟩
  ·have:bears r x=true:=List.any_eq_true.2 ⟨q,hq,by simp only[YB];exact⟨Nl hr.1,Nl hr.2⟩⟩;simp[tied,this]
  ·have h1:=PR.2.2.1 j i x r X2 hj hi;have h2:=(h.PE x (MW hj)).le;omega
theorem FC(h:Setup P B ops Qx bs T H n T' H' n'){D:Nat->Bool}(hD:U1 ops D){j:Nat}{x:Rec}(hj:Qx[j]? =some x)(hn:D j=false)(hr:∀o,ops[j]? =some o->∀e∈o.after,Region.binds .any e=true->D e.on=true)
 {q:Nat} (hq:q∈x.R) (hqn:q<x.n):gD Qx H D q=Qs x.H q:=by
 obtain⟨q1,_⟩:=bV (len:=T.len) q Qx 0 T H n T' H' n' h.chain h.PE;rw[q1 j x hj];refine WB _ _ _ fun i v hv=> ?_
 obtain⟨r,YG,hd,_⟩:=j4 hv;simp only[Nj];exact tT h hD hj hn hr YG (A9 h YG hj hq hqn hd)
end
end Go.CE

namespace Go.CE
open Go Go.RowKit

theorem Ok.congr{B:Nat}{S:Nat->Prop}{μ:Mu}{G G':Nat->Option Obj}{w:World}(h:Ok B S μ G w)(hg:∀i,S i->G' i=G i):Ok B S μ G' w:=
 ⟨fun i o a b c=>h.rel i o a (by rw[<-hg i a];exact b) c,fun i o im a b c d=>h.low i o im a (by rw[<-hg i a];exact b) c d,
  fun i j oi oj x y a b c d e=>h.inj i j oi oj x y a b c (by rw[<-hg i a];exact d) (by rw[<-hg j b];exact e),
  fun i o a b=>h.Yg i o a (by rw[<-hg i a];exact b),fun i j oi oj x y z a b c d=>h.sep i j oi oj x y z a b (by rw[<-hg i a];exact c) (by rw[<-hg j b];exact d)⟩
def Xz(fr:Frame)(A:Array Value)(ops:Array Oper)(l:List Nat)(k:List Item):Frame:={fr with tmps:=A,todo:=.inRegion ops l::k}
theorem SP{fr:Frame}{A:Array Value}{ops:Array Oper}{i:Nat}{l:List Nat}{k:List Item}{o:Oper}(ho:ops[i]? =some o)(v:Value):
 (Xz fr A ops (i::l) k).finish v=Xz fr (match o.dst with|some d=>A.setIfInBounds d v|none=>A) ops l k:=by
 simp only[Frame.finish,Xz,ho,Option.bind_some];cases o.dst <;> rfl
theorem c6{P:Program}{fr:Frame}{cs:List Frame}{w:World}{A:Array Value}{ops:Array Oper}{i:Nat}{l:List Nat}{k:List Item}{o:Oper}(hm:fr.mode=.run)(ho:ops[i]? =some o)(hw:Region.wanted o (yielded ops A)=false):
 step P (lone (Xz fr A ops (i::l) k) cs w)=.next (lone ((Xz fr A ops (i::l) k).finish undef) cs w):=
 step_lone_go (by simp[stepG,stepG.exec,Xz,hm,ho,hw])
theorem Vi{P:Program}{fr:Frame}{cs:List Frame}{w:World}{A:Array Value}{ops:Array Oper}{k:List Item}(hm:fr.mode=.run):
 step P (lone (Xz fr A ops [] k) cs w)=.next (lone {fr with tmps:=A,todo:=k} cs w):=
 step_lone_go (by simp[stepG,stepG.exec,Xz,hm])
section
variable {P:Program} {B:Lo} {ops:Array Oper} {Qx:List Rec} {bs:List (List Nat)} {T:Tm} {H:Qm} {n:Nat} {T':Tm} {H':Qm} {n':Nat}
theorem Lo.has.pg{L:Lo}{S New W:Nat->Prop}{μ μ':Mu}{G G':Nat->Option Obj}{w w':World}(h:L.has w)(QF:Ok L.B S μ G w)(hp:PG L.B S New W μ μ' G G' w w'):L.has w':=by
 refine⟨Nat.le_trans h.le hp.grow,L.still w w' (fun b hb=>hp.frame b (Nat.lt_of_lt_of_le hb h.le) fun i hi im QK=> ?_) h.inv⟩;obtain⟨hs,⟨o,ho,hl⟩,ZC,QW,UL⟩:=hp.wr i hi;rw[QK]at QW;cases QW;have:=(QF.low i o im hs ho hl QK).2.1 UL;omega
structure Inv (B:Nat) (Qx:List Rec) (T:Tm) (H:Qm) (n:Nat) (S:Nat->Prop) (μ0:Mu) (w0:World) (D:Nat->Bool) (μ:Mu) (A:Array Value) (w:World):Prop where
 pg:PG B S (tu Qx D) (WD Qx n D) μ0 μ (Qs H) (gD Qx H D) w0 w
 size:A.size=T.len
 tmps:∀t,VR μ (tD Qx T D t) (A.getD t undef)
theorem cover(h:Setup P B ops Qx bs T H n T' H' n'){D:Nat->Bool}(hD:U1 ops D){j:Nat}{x:Rec}(hj:Qx[j]? =some x)(hr:∀o,ops[j]? =some o->∀e∈o.after,Region.binds .any e=true->D e.on=true)
 {q:Nat} (hq:q∈x.R) (hqn:q<x.n):q<n\/tu Qx D q:=by
 rcases Nm q n with X2|hge
 ·exact .inl X2
 ·have PR:=Je Qx T H n T' H' n' h.chain h.PE;have hx:=PR.2.1 x (MW hj);have hxs:=(h.PE x (MW hj)).le;obtain⟨i,r,hi,h1,h2⟩:=PR.2.2.2 q hge (by omega);rcases Nat.lt_trichotomy i j with X2|heq|hgt
  ·have hb:bears r x=true:=List.any_eq_true.2 ⟨q,hq,by simp only[YB];exact⟨Nl h1,Nl h2⟩⟩;have:=h.ind i j r x X2 hi hj (by simp[tied,hb]);rw[Nj]at this;exact .inr ⟨i,r,oo h hD hr i this,hi,h1,h2⟩
  ·subst heq;rw[hj]at hi;cases hi;omega
  ·have:=PR.2.2.1 j i x r hgt hj hi;omega
theorem cc(h:Setup P B ops Qx bs T H n T' H' n'){D:Nat->Bool}(hD:U1 ops D){j:Nat}{x:Rec}(hj:Qx[j]? =some x)(hn:D j=false)(hr:∀o,ops[j]? =some o->∀e∈o.after,Region.binds .any e=true->D e.on=true)
 {μ:Mu} {A:Array Value} (hA:∀t,VR μ (tD Qx T D t) (A.getD t undef)):Region.wanted x.o (yielded ops A)=Region.wanted x.o (XT ops x.T):=by
 unfold Region.wanted;cases hg:x.o.guard with
 |none=>rfl
 |some gw=>
  obtain⟨g,want⟩:=gw;have:yielded ops A g=XT ops x.T g:=by
   rw[j9,fZ];cases hd:(ops[g]?).bind (·.dst)with
   |none=>rfl
   |some t=>
    have ht:t∈x.o.looksAt ops:=by simp[Oper.looksAt,hg,hd]
    have:=hA t;rw[tJ h hD hj hn hr ht]at this;exact Ax this
  simp only[this]
theorem z6(h:Setup P B ops Qx bs T H n T' H' n'){D:Nat->Bool}(hD:U1 ops D){j:Nat}{x:Rec}(hj:Qx[j]? =some x)(hn:D j=false)(hr:∀o,ops[j]? =some o->∀e∈o.after,Region.binds .any e=true->D e.on=true)
 {μ:Mu} {A:Array Value} (hA:∀t,VR μ (tD Qx T D t) (A.getD t undef)) {fr:Frame} {l:List Nat} {k:List Item}:∀y∈x.o.op.operands,∀v,Zi x.T y=some v->VR μ v ((Xz fr A ops l k).eval y):=by
 intro y hy v hv;cases y with
 |tmp t=>
  simp only[Zi,YO]at hv;subst hv;have ht:t∈x.o.looksAt ops:=by
   unfold Oper.looksAt;exact MV _ (List.mem_filterMap.2 ⟨.tmp t,by simpa using hy,rfl⟩)
  rw[<-tJ h hD hj hn hr ht];exact hA t
 |const u=>
  simp only[Zi]at hv;cases ha:af u with
  |false=>rw[ha]at hv;cases hv
  |true=>rw[ha]at hv;simp only[cond_true,YO]at hv;subst hv;exact J3 ha
 |func f=>
  simp only[Zi,YO]at hv;subst hv;exact J3 rfl
 |global g=>cases hv
theorem jN(h:Setup P B ops Qx bs T H n T' H' n'){D:Nat->Bool}(hD:U1 ops D){j:Nat}{x:Rec}(hj:Qx[j]? =some x)(hn:D j=false){i:Nat}{r:Rec}(hi:Qx[i]? =some r)(X2:j<i)(ht:tied ops x r=true):D i=false:=by
 have:=h.ind j i x r X2 hj hi ht;rw[Nj]at this;cases hd:D i with
 |false=>rfl
 |true=>
  have:=oo h hD (k:=i) (fun o ho=>hD i o hd ho) j this;rw[hn]at this;cases this
def plus(D:Nat->Bool)(j:Nat):Nat->Bool:=fun k=>D k || MQ k j
theorem Vm{D:Nat->Bool}{j:Nat}:plus D j j=true:=by simp[plus]
theorem V6{D:Nat->Bool}{j k:Nat}(h:k≠j):plus D j k=D k:=by simp[plus,SX h]
theorem Gv(h:Setup P B ops Qx bs T H n T' H' n'){D:Nat->Bool}(hD:U1 ops D){j:Nat}{x:Rec}(hj:Qx[j]? =some x)(hn:D j=false)(t:Nat):tD Qx T (plus D j) t=if x.o.dst=some t then x.v else tD Qx T D t:=by
 by_cases hd:x.o.dst=some t
 ·rw[if_pos hd];refine nD _ 0 j _ ?_ (by rw[Nj];exact Vm) fun i y hi hy=> ?_
  ·rw[Ng,hj];simp[cT,hd]
  ·rw[Nj,V6 (by omega)];obtain⟨r,YG,hrd,_⟩:=jz hy;exact jN h hD hj hn YG hi (gh (ops:=ops) hd (.inr hrd)).1
 ·rw[if_neg hd];refine WB _ _ _ fun i y hy=> ?_
  obtain⟨r,YG,hrd,_⟩:=jz hy;rw[Nj];refine V6 fun e=> ?_
  subst e;rw[hj]at YG;cases YG;exact hd hrd
theorem z5(h:Setup P B ops Qx bs T H n T' H' n'){D:Nat->Bool}(hD:U1 ops D){j:Nat}{x:Rec}(hj:Qx[j]? =some x)(hn:D j=false){q:Nat}(hq:q∈x.W\/(x.n<=q/\q<x.n')):gD Qx H (plus D j) q=Qs x.H' q:=by
 refine nD _ 0 j _ ?_ (by rw[Nj];exact Vm) fun i y hi hy=> ?_
 ·rw[Ng,hj];simp[cH,Tg.2 hq]
 ·rw[Nj,V6 (by omega)];obtain⟨r,YG,hrd,_⟩:=j4 hy;have PR:=Je Qx T H n T' H' n' h.chain h.PE;have hsr:=h.PE r (MW YG);have hsx:=h.PE x (MW hj);have X2:=PR.2.2.1 j i x r hi hj YG;have hxl:=hsx.le;refine jN h hD hj hn YG hi ?_;rcases hq with hq|hq
  ·rcases hrd with hrd|hrd
   ·have:meets x r=true:=List.any_eq_true.2 ⟨q,hq,by simpa using hsr.sub q hrd⟩;simp[tied,this]
   ·have:=hsx.wlt q hq;omega
  ·rcases hrd with hrd|hrd
   ·have:bears x r=true:=List.any_eq_true.2 ⟨q,hsr.sub q hrd,by simp only[YB];exact⟨Nl hq.1,Nl hq.2⟩⟩;simp[tied,this]
   ·omega
theorem ib{D:Nat->Bool}{j:Nat}{x:Rec}(hj:Qx[j]? =some x){q:Nat}(hq:¬(q∈x.W\/(x.n<=q/\q<x.n'))):gD Qx H (plus D j) q=gD Qx H D q:=by
 refine WB _ _ _ fun i y hy=> ?_
 obtain⟨r,YG,hrd,_⟩:=j4 hy;rw[Nj];refine V6 fun e=> ?_
 subst e;rw[hj]at YG;cases YG;exact hq hrd
theorem qS{D:Nat->Bool}{j:Nat}{x:Rec}(hj:Qx[j]? =some x)(i:Nat):(tu Qx D i\/(x.n<=i/\i<x.n'))<->tu Qx (plus D j) i:=by
 constructor
 ·rintro(⟨k,r,hd,hr,h1⟩|h1)
  ·exact⟨k,r,by simp[plus,hd],hr,h1⟩
  ·exact⟨j,x,Vm,hj,h1⟩
 ·rintro⟨k,r,hd,hr,h1⟩;by_cases e:k=j
  ·subst e;rw[hj]at hr;cases hr;exact .inr h1
  ·rw[V6 e]at hd;exact .inl ⟨k,r,hd,hr,h1⟩
theorem xl(h:Setup P B ops Qx bs T H n T' H' n'){S:Nat->Prop}{μ0:Mu}{w0:World}(hS:∀i,S i->i<n)(hR:∀r∈Qx,∀i∈r.R,i<n->S i)(Vw:Jg μ0 n n')(hB:B.has w0)(hok0:Ok B S μ0 (Qs H) w0){D:Nat->Bool}(hD:U1 ops D){j:Nat}(hn:D j=false)
 (hr:∀o,ops[j]? =some o->∀e∈o.after,Region.binds .any e=true->D e.on=true) {μ:Mu} {A:Array Value} {w:World} (hi:Inv B Qx T H n S μ0 w0 D μ A w) {fr:Frame} {cs:List Frame} {l:List Nat} {k:List Item} (hm:fr.mode=.run)
 {x:Rec} (hj:Qx[j]? =some x) {out:OO} (hdo:Sm P B x.o (Zi x.T) x.H x.n out x.H' x.n' x.R x.W) (Uc:Region.wanted x.o (XT ops x.T)=true):
 ∃Zl μ' w',PG B S (tu Qx (plus D j)) (WD Qx n (plus D j)) μ0 μ' (Qs H) (gD Qx H (plus D j)) w0 w'/\Ext μ μ'/\OR2 μ' out Zl/\Steps P (lone (Xz fr A ops (j::l) k) cs w) (lone (Zl.on (Xz fr A ops (j::l) k)) cs w'):=by
 have hx:=MW hj;have hsx:=h.PE x hx;have Wj:=h.own j x hj;have PR:=Je Qx T H n T' H' n' h.chain h.PE;have hxn:=PR.2.1 x hx;have hnewn:∀i,x.n<=i->i<x.n'->¬tu Qx D i:=by
  rintro i h1 h2 ⟨q,r,a,b,c,d⟩;rcases Nat.lt_trichotomy q j with hq|hq|hq
  ·have:=PR.2.2.1 q j r x hq b hj;omega
  ·subst hq;rw[hn]at a;cases a
  ·have:=PR.2.2.1 j q x r hq hj b;omega
 have hsub:∀i,(i∈x.R/\i<x.n)->S i\/tu Qx D i:=fun i hi=>(cover h hD hj hr hi.1 hi.2).imp (hR x hx i hi.1) id
 have hgc:∀i,(i∈x.R/\i<x.n)->Qs x.H i=gD Qx H D i:=fun i hi=>(FC h hD hj hn hr hi.1 hi.2).symm
 have XK:∀i,x.n<=i->i<x.n'->μ i=none:=fun i h1 h2=>by rw[hi.pg.ext i (hnewn i h1 h2)];exact Vw i (by omega) (by omega)
 have UE:Region.wanted x.o (yielded ops A)=true:=by rw[cc h hD hj hn hr hi.tmps];exact Uc
 obtain⟨Zl,w',μ',XO,Wd,ZQ⟩:=hdo (fun i=>i∈x.R/\i<x.n) μ w (Xz fr A ops (j::l) k) cs k ops j l ((hi.pg.ok.sub hsub).congr hgc) (hB.pg hok0 hi.pg) (fun i hi=>hi.2) (fun i h1 h2=>XK i h1 h2)
  (z6 h hD hj hn hr hi.tmps) (fun i h1 h2=>⟨h1,h2⟩) hm rfl Wj UE
 refine⟨Zl,μ',w',(hi.pg.then (XO.pg hsx.top) hsub hgc (fun i hi=>⟨fun hs=>by have:=hS i hs;omega,hnewn i hi.1 hi.2⟩) (fun i hi=>XK i hi.1 hi.2) (G2:=gD Qx H (plus D j)) (fun i hi=>z5 h hD hj hn (hi.imp And.left id))
  (fun i h1 h2=>ib hj ?_)).congr (qS hj) (fun i=> ?_) (fun _=>rfl),XO.mu fun i h1 h2=>XK i h1 h2,Wd,ZQ⟩
 ·rintro(hw|hw)
  ·have:=hsx.wlt i hw;rcases Nm i x.n with ha|ha
   ·exact h1 ⟨hw,ha⟩
   ·exact h2 ⟨ha,this⟩
  ·exact h2 hw
 ·constructor
  ·rintro(⟨a,q,r,b,c,d⟩|⟨⟨a,b⟩,c⟩)
   ·exact⟨a,q,r,by simp[plus,b],c,d⟩
   ·exact⟨(cover h hD hj hr (hsx.sub i a) b).elim id fun e=>absurd e c,j,x,Vm,hj,a⟩
  ·rintro⟨a,q,r,b,c,d⟩;by_cases e:q=j
   ·subst e;rw[hj]at c;cases c;refine .inr ⟨⟨d,by omega⟩, ?_⟩;rintro⟨q',r',_,b',c',_⟩;have:=(PR.2.1 r' (MW b')).1;omega
   ·rw[V6 e]at b;exact .inl ⟨a,q,r,b,c,d⟩
theorem xk(h:Setup P B ops Qx bs T H n T' H' n'){S:Nat->Prop}{μ0:Mu}{w0:World}(hS:∀i,S i->i<n)(hR:∀r∈Qx,∀i∈r.R,i<n->S i)(Vw:Jg μ0 n n')(hB:B.has w0)(hok0:Ok B S μ0 (Qs H) w0){D:Nat->Bool}(hD:U1 ops D){j:Nat}(X2:j<ops.size)(hn:D j=false)
 (hk:∀x,Qx[j]? =some x->PB P B ops x) (hr:∀o,ops[j]? =some o->∀e∈o.after,Region.binds .any e=true->D e.on=true) {μ:Mu} {A:Array Value} {w:World} (hi:Inv B Qx T H n S μ0 w0 D μ A w) {fr:Frame} {cs:List Frame} {l:List Nat} {k:List Item} (hm:fr.mode=.run):
 ∃μ' A' w',Inv B Qx T H n S μ0 w0 (plus D j) μ' A' w'/\Steps P (lone (Xz fr A ops (j::l) k) cs w) (lone (Xz fr A' ops l k) cs w'):=by
 obtain⟨x,hj⟩:∃x,Qx[j]? =some x:=⟨Qx[j]'(by rw[h.len];exact X2),by simp⟩
 have hx:=MW hj;have hsx:=h.PE x hx;have Wj:=h.own j x hj;obtain⟨Uc,hdo,hno⟩:=hk x hj;have PR:=Je Qx T H n T' H' n' h.chain h.PE;have hxn:=PR.2.1 x hx;have hdst:∀d,x.o.dst=some d->d<A.size:=fun d hd=>by rw[hi.size];exact(hsx.dst d hd).1
 have put:∀(μ':Mu) v',Ext μ μ'->VR μ' x.v v'->(match x.o.dst with|some d=>A.setIfInBounds d v'|none=>A).size=T.len/\∀t,VR μ' (tD Qx T (plus D j) t) ((match x.o.dst with|some d=>A.setIfInBounds d v'|none=>A).getD t undef):=by
  intro μ' v' he hv;refine⟨?_,fun t=> ?_⟩
  ·cases x.o.dst <;> simp[hi.size]
  ·rw[Gv h hD hj hn t];have ho:=(hi.tmps t).mono he;cases hd:x.o.dst with
   |none=>simpa using ho
   |some d=>
    have hdl:=hdst d hd;simp only[YO];by_cases e:d=t
    ·subst e;simpa[hdl]using hv
    ·simp[e]at ho ⊢;exact ho
 cases hrx:x.run with
 |false=>
  obtain⟨hv,hH,hnn,hW⟩:=hno hrx;have UE:Region.wanted x.o (yielded ops A)=false:=by rw[cc h hD hj hn hr hi.tmps,<-Uc];exact hrx
  obtain⟨p1,p2⟩:=put μ undef (Ext.refl _) (by rw[hv];exact VR.undef);refine⟨μ,_,w,⟨hi.pg.congr (fun i=> ?_) (fun i=> ?_) (fun i=> ?_),p1,p2⟩,Steps.one ((c6 hm Wj UE).trans (by rw[SP Wj]))⟩
  ·rw[<-qS hj i];exact⟨.inl,fun h=>h.elim id fun h=>absurd h.1 (by omega)⟩
  ·refine and_congr Iff.rfl ⟨?_, ?_⟩
   ·rintro⟨q,r,a,b,c⟩;exact⟨q,r,by simp[plus,a],b,c⟩
   ·rintro⟨q,r,a,b,c⟩;by_cases e:q=j
    ·subst e;rw[hj]at b;cases b;rw[hW]at c;simp at c
    ·rw[V6 e]at a;exact⟨q,r,a,b,c⟩
  ·exact(ib hj (by rw[hW];rintro(h|h) <;> first|(simp at h;done)|omega)).symm
 |true=>
  obtain⟨Zl,μ',w',hpg,hext,Wd,ZQ⟩:=xl h hS hR Vw hB hok0 hD hn hr hi (fr:=fr) (cs:=cs) (l:=l) (k:=k) hm hj (hdo hrx) (by rw[<-Uc];exact hrx);cases Wd with
  |ret hv=>
   rename_i v';obtain⟨p1,p2⟩:=put μ' v' hext hv;exact⟨μ',_,w',⟨hpg,p1,p2⟩,ZQ.trans (by simp only[OO.on];rw[SP Wj];exact Steps.refl _ _)⟩
end
end Go.CE
