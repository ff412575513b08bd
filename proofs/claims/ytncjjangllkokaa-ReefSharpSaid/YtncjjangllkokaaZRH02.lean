/- CE: what single operations do. Seventh part: maps; all of them together. -/
import Derived.Test.YtncjjangllkokaaZRH01
set_option linter.all false
open Nat renaming blt->Ls,ble_eq_true_of_le->LD,beq->Lf,ble->LP,min->LU,le_refl->LH,lt_or_ge->LJ,strongRecOn->Lz,zero_add->LB
open Option renaming map_some->LI
open Array renaming getElem?_toList->Lr,eq_empty_of_size_eq_zero->LN
open List renaming getElem?_cons_zero->Lv,mem_cons_of_mem->Lw,mem_of_getElem? ->Lp,getD_eq_getElem?_getD->Lq,getElem?_append_left->Ly,range->Lg,getElem?_append_right->Ll,getElem?_map->LC,getElem?_eq_getElem->LZ,mem_append_left->Lm
namespace Go.CE
open Go Go.RowKit

def kh:Nat:=9223372036854775808
def wq(n:Int):Int:=match n with
 | .ofNat m=>bif Ls m kh then .ofNat m else IntKind.i64.wrap (.ofNat m)
 | .negSucc m=>bif Ls m kh then .negSucc m else IntKind.i64.wrap (.negSucc m)
theorem blt_eq(m k:Nat):Ls m k=decide (m<k):=by
 by_cases h:m<k
 ·rw[decide_eq_true h];exact LD h
 ·rw[decide_eq_false h];cases e:Ls m k with
  |false=>rfl
  |true=>exact absurd (YL e) h
theorem Oq(m k:Nat):Lf m k=decide (m=k):=by
 by_cases h:m=k
 ·subst h;simp
 ·rw[aB h,decide_eq_false h]
theorem OF(m:Nat):wq (.ofNat m)=IntKind.i64.wrap (.ofNat m):=by
 show(bif Ls m kh then Int.ofNat m else IntKind.i64.wrap (.ofNat m))=_;rw[blt_eq];by_cases h:m<kh
 ·rw[decide_eq_true h,cond_true,IntKind.wrap_i64,Int.ofNat_eq_natCast];unfold kh at h;omega
 ·rw[decide_eq_false h,cond_false]
theorem OG(m:Nat):wq (.negSucc m)=IntKind.i64.wrap (.negSucc m):=by
 show(bif Ls m kh then Int.negSucc m else IntKind.i64.wrap (.negSucc m))=_;rw[blt_eq];by_cases h:m<kh
 ·rw[decide_eq_true h,cond_true,IntKind.wrap_i64,Int.negSucc_eq];unfold kh at h;omega
 ·rw[decide_eq_false h,cond_false]
theorem Ox(n:Int):wq n=IntKind.i64.wrap n:=by
 cases n with
 |ofNat m=>exact OF m
 |negSucc m=>exact OG m
def XC:Int->Int->Bool
 | .ofNat a,.ofNat b=>Ls a b
 | .ofNat _,.negSucc _=>false
 | .negSucc _,.ofNat _=>true
 | .negSucc a,.negSucc b=>Ls b a
theorem ud(a b:Int):XC a b=decide (a<b):=by
 rw[Bool.eq_iff_iff];cases a <;> cases b <;> simp only[XC,blt_eq,Int.ofNat_eq_natCast,Int.negSucc_eq,decide_eq_true_eq,Bool.false_eq_true,false_iff,true_iff] <;> omega
def Yo:Int->Int->Bool
 | .ofNat a,.ofNat b=>Lf a b
 | .negSucc a,.negSucc b=>Lf a b
 |_,_=>false
theorem iY(a b:Int):Yo a b=(a==b):=by
 rw[Bool.eq_iff_iff];cases a <;> cases b <;> simp only[Yo,Oq,beq_iff_eq,decide_eq_true_eq,Int.ofNat_eq_natCast,Int.negSucc_eq,Bool.false_eq_true,false_iff] <;> omega
def Dn:BinOp->Value->Value->Option Value
 | .add,.int .i64 a,.int .i64 b=>some (.int .i64 (wq (a+b)))
 | .sub,.int .i64 a,.int .i64 b=>some (.int .i64 (wq (a-b)))
 | .mul,.int .i64 a,.int .i64 b=>some (.int .i64 (wq (a*b)))
 | .eql,.int .i64 a,.int .i64 b=>some (.bool (Yo a b))
 | .neq,.int .i64 a,.int .i64 b=>some (.bool (!(Yo a b)))
 | .lss,.int .i64 a,.int .i64 b=>some (.bool (XC a b))
 | .gtr,.int .i64 a,.int .i64 b=>some (.bool (XC b a))
 | .leq,.int .i64 a,.int .i64 b=>some (.bool (!(XC b a)))
 | .geq,.int .i64 a,.int .i64 b=>some (.bool (!(XC a b)))
 |_,_,_=>none
theorem ML{P:Program}{op:BinOp}{t:TypeId}{x y:Operand}{a b v:Value}(h:Dn op a b=some v)(w:World):(do eqGuard op t x y a b;binOp op t a b:Sem Value).run P w=.ok v w/\(∀μ,VR μ v v)/\(∀μ a',VR μ a a'->a'=a)/\(∀μ b',VR μ b b'->b'=b):=by
 have hle:∀a b:Int,(!(XC b a))=decide (a<=b):=fun a b=>by
  rw[ud,Bool.eq_iff_iff];simp only[Bool.not_eq_true',decide_eq_false_iff_not,decide_eq_true_eq];omega
 unfold Dn at h;split at h <;> first
  |(cases h;done)
  |(simp only[YO]at h
    subst h;refine⟨?_,fun μ=>by first|exact .int _ _|exact .bool _,fun μ a' ha=>by cases ha;rfl,fun μ b' hb=>by cases hb;rfl⟩
    first
     |(simp[eqGuard,binOp,Op.intArith,Ox];done)
     |(simp[eqGuard,binOp,Op.intCmp,iY];done)
     |(simp[eqGuard,binOp,Op.intCmp,iY,bne];done)
     |(simp[eqGuard,binOp,Op.intCmp,ud];done)
     |(simp[eqGuard,binOp,Op.intCmp,hle];done))

theorem gg{α β:Type}{P:Program}(s:Sem α)(f:α->Sem β):ZE P (s >>=f)=match ZE P s with|some a=>ZE P (f a)|none=>none:=by
 show ZE P (s.bind f)=_;induction s with
 |pure a=>rfl
 |program k ih=>exact ih P
 |_=>rfl
theorem TN{α:Type}{P:Program}(a:α):ZE P (pure a:Sem α)=some a:=rfl

def ER(μ:Mu)(es KG:List MapEntry):Prop:=es.length=KG.length/\∀(i:Nat) e e',es[i]? =some e->KG[i]? =some e'->e'.key=e.key/\e'.born=e.born/\af e.key=true/\VR μ e.val e'.val
theorem ER.tail{μ:Mu}{e e':MapEntry}{es KG:List MapEntry}(h:ER μ (e::es) (e'::KG)):ER μ es KG:=⟨by simpa using h.1,fun i a b x y=>h.2 (i+1) a b (by simpa using x) (by simpa using y)⟩
def FR(μ:Mu):Option (Nat×Value)->Option (Nat×Value)->Prop
 |none,none=>True
 |some (i,v),some (i',v')=>i'=i/\VR μ v v'
 |_,_=>False
theorem qe{μ:Mu}{kind:TypeDesc}{k:Value}:∀(es KG:List MapEntry) (i:Nat),ER μ es KG->(∀r,Instr.findNow kind k es i=some r->∃r',Instr.findNow kind k KG i=some r'/\FR μ r r')/\(Instr.findNow kind k es i=none->Instr.findNow kind k KG i=none)
 |[],[],i,_=>by
  refine⟨fun r h=> ?_,fun h=>by simp[Instr.findNow]at h⟩;simp only[Instr.findNow,YO]at h;subst h;exact⟨none,rfl,trivial⟩
 |e::es,e'::KG,i,h=>by
  obtain⟨h1,_,_,h4⟩:=h.2 0 e e' rfl rfl;simp only[Instr.findNow,h1];cases Instr.sameNow kind k e.key with
  |none=>exact⟨fun r h=>(by cases h),fun _=>rfl⟩
  |some b=>
   cases b with
   |true=>exact⟨fun r h=>by simp only[YO]at h;subst h;exact⟨_,rfl,rfl,h4⟩,fun h=>by cases h⟩
   |false=>exact qe es KG (i+1) h.tail
 |[],_::_,_,h=>by have:=h.1;simp at this
 |_::_,[],_,h=>by have:=h.1;simp at this
theorem dq{P:Program}{μ:Mu}{kt:TypeId}{k:Value}:∀(es KG:List MapEntry) (i:Nat) r,ER μ es KG->ZE P (Instr.findAsking kt k es i)=some r->∃r',ZE P (Instr.findAsking kt k KG i)=some r'/\FR μ r r'
 |[],[],i,r,_,h=>by
  simp only[Instr.findAsking,TN,YO]at h;subst h;exact⟨none,rfl,trivial⟩
 |e::es,e'::KG,i,r,h,hr=>by
  obtain⟨h1,_,_,h4⟩:=h.2 0 e e' rfl rfl;simp only[Instr.findAsking,h1,gg]at hr ⊢;cases hq:ZE P (Op.equal kt k e.key)with
  |none=>rw[hq]at hr;cases hr
  |some b=>
   rw[hq]at hr;cases b with
   |true=>
    simp only[if_true,TN,YO]at hr ⊢;subst hr;exact⟨_,rfl,rfl,h4⟩
   |false=>
    simp only[Bool.false_eq_true,if_false]at hr ⊢;exact dq es KG (i+1) r h.tail hr
 |[],_::_,_,_,h,_=>by have:=h.1;simp at this
 |_::_,[],_,_,h,_=>by have:=h.1;simp at this
theorem eX{P:Program}{μ:Mu}{kt:TypeId}{k:Value}{es KG:List MapEntry}{r:Option (Nat×Value)}(h:ER μ es KG)(hr:ZE P (Instr.findKey kt k es)=some r):∃r',ZE P (Instr.findKey kt k KG)=some r'/\FR μ r r':=by
 simp only[Instr.findKey,gg]at hr ⊢;cases hu:ZE P (underlying kt)with
 |none=>rw[hu]at hr;cases hr
 |some d=>
  rw[hu]at hr;dsimp only at hr ⊢;obtain⟨h1,h2⟩:=qe (kind:=d) (k:=k) es KG 0 h;cases hf:Instr.findNow d k es 0 with
  |some r0=>
   rw[hf]at hr;obtain⟨r',hr',hv⟩:=h1 r0 hf;simp only[TN,YO]at hr;subst hr;rw[hr'];exact⟨r',rfl,hv⟩
  |none=>
   rw[hf]at hr;rw[h2 hf];exact dq es KG 0 r h hr
theorem ER.of{μ:Mu}{es KG:Array MapEntry}(h1:es.size=KG.size)(h2:∀(i:Nat) e e',es[i]? =some e->KG[i]? =some e'->e'.key=e.key/\e'.born=e.born/\af e.key=true/\VR μ e.val e'.val):ER μ es.toList KG.toList:=
 ⟨by simpa using h1,fun i a b x y=>h2 i a b (by simpa using x) (by simpa using y)⟩
theorem eV{P:Program}{w:World}{b:Nat}{es:Array MapEntry}{Se:Nat}(h:w.heap[b]? =some (.map es Se)):(getObj b).run P w=.ok (.map es Se) w:=by simp[getObj,Sem.run,h]
def ik(P:Program)(t:TypeId)(H:Qq)(ok:Bool)(x k:Value):Option (Value×List Nat):=
 match Rx P t with
 |some (.map kt e)=>
  match(match x with
   | .map none=>some (#[],[])
   | .map (some r)=>match Qt H r with
     |some (.map es _)=>some (es,[r])
     |_=>none
   |_=>none:Option (Array MapEntry×List Nat))with
  |some (es,R)=>bif af k then
   match ZE P (Instr.checkKey es.isEmpty 10000 kt k),ZE P (Instr.findKey kt k es.toList),zeroOf P e with
   |some (),some (some (_,v)),_=>some (bif ok then .tuple #[v,.bool true]else v,R)
   |some (),some none,some z=>bif af z then some (bif ok then .tuple #[z,.bool false]else z,R)else none
   |_,_,_=>none
    else none
  |none=>none
 |_=>none
theorem D0{μ:Mu}{a a' b b':Value}(h:VR μ a a')(k:VR μ b b'):VR μ (.tuple #[a,b]) (.tuple #[a',b']):=by
 refine .tuple rfl fun i v v' hv ZX=> ?_
 rcases i with _|_|i
 ·simp at hv ZX;subst hv ZX;exact h
 ·simp at hv ZX;subst hv ZX;exact k
 ·simp at hv
theorem Aq{P:Program}{B:Nat}{S:Nat->Prop}{μ:Mu}{H:Qq}{w:World}{t:TypeId}{ok:Bool}{x k x' k' v:Value}{R:List Nat}(h:ik P t H ok x k=some (v,R))(QE:Ok B S μ (Qt H) w)(hx:VR μ x x')(hk:VR μ k k')(hR:∀i∈R,S i):
 ∃v',(Instr.lookup t x' k' ok).run P w=.ok v' w/\VR μ v v':=by
 unfold ik at h;simp only[Z1]at h;split at h
 ·rename_i kt e hu;split at h
  ·rename_i es R0 hes;cases hak:af k with
   |false=>rw[hak]at h;cases h
   |true=>
    rw[hak]at h;simp only[cond_true]at h;have hkk:k'=k:=T0 hak hk;subst hkk;have hRR:R0=R:=by
     split at h
     ·simp only[YO,YR]at h;exact h.2
     ·rename_i z _ _ _;cases hz:af z with
      |false=>rw[hz]at h;cases h
      |true=>rw[hz]at h;simp only[cond_true,YO,YR]at h;exact h.2
     ·cases h
    subst hRR
    -- the entries in the world
    have hent:∃KG,ER μ es.toList KG.toList/\(x'=.map none/\KG=#[]\/∃b Se,x'=.map (some b)/\w.heap[b]? =some (.map KG Se)):=by
     split at hes
     ·simp only[YO,YR]at hes;obtain⟨rfl,_⟩:=hes;cases hx;exact⟨#[],⟨rfl,fun i a b x _=>by simp at x⟩,.inl ⟨rfl,rfl⟩⟩
     ·rename_i r;split at hes
      ·rename_i es0 Se hg;simp only[YO,YR]at hes;obtain⟨rfl,rfl⟩:=hes;obtain⟨im,QJ,_,KG,hw,h1,h2⟩:=QE.rel r _ (hR r (by simp)) hg trivial;cases hx with
       |map hm=>
        rw[QJ]at hm;cases hm;exact⟨KG,.of h1 h2,.inr ⟨im.Zu,Se,rfl,hw⟩⟩
      ·cases hes
     ·cases hes
    obtain⟨KG,hER,VU⟩:=hent;have hemp:KG.isEmpty=es.isEmpty:=by
     have h1:=hER.1;simp only[Array.length_toList]at h1;rw[Bool.eq_iff_iff];simp only[Array.isEmpty_iff_size_eq_zero];omega
    have run2:∀r v0,ZE P (Instr.checkKey es.isEmpty 10000 kt k')=some ()->ZE P (Instr.findKey kt k' es.toList)=some r->
     (∀r',FR μ r r'->∃v',(do let(v,ok') <-(match r' with|some (_,v)=>pure (v,true)|none=>do pure (<-zeroValue e,false):Sem (Value×Bool));pure (if ok then .tuple #[v,.bool ok']else v):Sem Value).run P w=.ok v' w/\VR μ v0 v')->
     ∃v',(Instr.lookup t x' k' ok).run P w=.ok v' w/\VR μ v0 v':=by
     intro r v0 hc hf hfin;obtain⟨r',hr',XJ⟩:=eX hER hf;obtain⟨v',ZX,VX⟩:=hfin r' XJ;refine⟨v', ?_,VX⟩;have hc':=Ug hc w;have hr'':=Ug hr' w;rw[<-hemp]at hc';simp only[Sem.run_bind]at ZX;rcases VU with ⟨rfl,rfl⟩|⟨b,Se,rfl,hw⟩
     ·simp only[Instr.lookup,Sem.run_bind,run_underlying hu,Result.andThen_ok,Sem.run_pure,hc',hr''];cases r' <;> first|simpa using ZX|(simp only[Sem.run_bind]at ZX;cases hzr:Sem.run P (zeroValue e) w <;> rw[hzr]at ZX <;> first|(cases ZX;done)|simpa[hzr]using ZX)
     ·simp only[Instr.lookup,Sem.run_bind,run_underlying hu,Result.andThen_ok,Sem.run_pure,eV hw,hc',hr''];cases r' <;> first|simpa using ZX|(simp only[Sem.run_bind]at ZX;cases hzr:Sem.run P (zeroValue e) w <;> rw[hzr]at ZX <;> first|(cases ZX;done)|simpa[hzr]using ZX)
    split at h
    ·rename_i i0 v0 hc hf;simp only[YO,YR]at h;obtain⟨rfl,_⟩:=h;refine run2 _ _ hc hf fun r' XJ=> ?_
     cases r' with
     |none=>exact XJ.elim
     |some p=>
      obtain⟨i',v'⟩:=p;cases ok with
      |true=>exact⟨_,rfl,D0 XJ.2 (.bool true)⟩
      |false=>exact⟨_,rfl,XJ.2⟩
    ·rename_i z hc hf hz;cases haz:af z with
     |false=>rw[haz]at h;cases h
     |true=>
      rw[haz]at h;simp only[cond_true,YO,YR]at h;obtain⟨rfl,_⟩:=h;refine run2 _ _ hc hf fun r' XJ=> ?_
      cases r' with
      |some p=>exact XJ.elim
      |none=>
       cases ok with
       |true=>exact⟨.tuple #[z,.bool false],by simp[dy hz],D0 (PL haz) (.bool false)⟩
       |false=>exact⟨z,by simp[dy hz],PL haz⟩
    ·cases h
  ·cases h
 ·cases h
def Jh(P:Program)(t:TypeId)(H:Qq)(x k v:Value):Option (Qq×Nat):=
 match Rx P t,x with
 |some (.map kt _),.map (some r)=>match Qt H r with
  |some (.map es Se)=>bif af k then
   match ZE P (Instr.checkKey false 10000 kt k),ZE P (Instr.findKey kt k es.toList)with
   |some (),some (some (i,_))=>match es[i]? with
    |some e=>bif Instr.sameBits 10000 e.key k then some (VE H r (.map (es.setIfInBounds i {e with key:=k,val:=v}) Se),r)else none
    |none=>none
   |some (),some none=>some (VE H r (.map (es.push {key:=k,val:=v,born:=Se}) (Se+1)),r)
   |_,_=>none
    else none
  |_=>none
 |_,_=>none
theorem mB{P:Program}{w:World}{b:Nat}{es:Array MapEntry}{Se:Nat}(o:Obj)(h:w.heap[b]? =some (.map es Se)):(setObj b o).run P w=.ok () {w with heap:=w.heap.setIfInBounds b o}:=by simp[setObj,Sem.run,h]
theorem qt{P:Program}{B n:Nat}{S:Nat->Prop}{μ:Mu}{H H':Qq}{w:World}{t:TypeId}{x k v x' k' v':Value}{b:Nat}(h:Jh P t H x k v=some (H',b))(QE:Ok B S μ (Qt H) w)(hS:∀i,S i->i<n)(hx:VR μ x x')(hk:VR μ k k')(hv:VR μ v v')(hb:S b):
 ∃w',(Instr.mapUpdate t x' k' v').run P w=.ok () w'/\Post B S n n [b] μ μ H H' w w':=by
 unfold Jh at h;simp only[Z1]at h;split at h
 ·rename_i kt e0 r hu;split at h
  ·rename_i es Se hg;cases hak:af k with
   |false=>rw[hak]at h;cases h
   |true=>
    rw[hak]at h;simp only[cond_true]at h;have hkk:k'=k:=T0 hak hk;subst hkk;have hbr:r=b:=by
     split at h
     ·split at h
      ·rename_i e _;cases hs:Instr.sameBits 10000 e.key k' with
       |false=>rw[hs]at h;cases h
       |true=>rw[hs]at h;simp only[cond_true,YO,YR]at h;exact h.2
      ·cases h
     ·simp only[YO,YR]at h;exact h.2
     ·cases h
    subst hbr;obtain⟨im,QJ,hr,KG,hw,h1,h2⟩:=QE.rel r _ hb hg trivial;have hER:=ER.of h1 h2;have Xp:im.Zu<w.heap.size:=(Array.getElem?_eq_some_iff.1 hw).1;cases hx with
    |map hm=>
     rw[QJ]at hm;cases hm;have fin:∀(es2 es2':Array MapEntry) (clk2:Nat),ER μ es2.toList es2'.toList->
      Post B S n n [r] μ μ H (VE H r (.map es2 clk2)) w {w with heap:=w.heap.setIfInBounds im.Zu (.map es2' clk2)}:=by
      intro es2 es2' clk2 hE;refine Post.write QE hS r _ _ im hb hg trivial QJ hr (by simp) (fun q hq=> ?_) ⟨hr,es2', ?_,by simpa using hE.1,fun i a c ha hc=>hE.2 i a c (by simpa using ha) (by simpa using hc)⟩ ⟨rfl,rfl,rfl⟩
      ·simp[Array.getElem?_setIfInBounds_ne (Ne.symm hq)]
      ·simp[Xp]
     split at h
     ·rename_i i v0 hc hf;split at h
      ·rename_i e he;cases hs:Instr.sameBits 10000 e.key k' with
       |false=>rw[hs]at h;cases h
       |true=>
        rw[hs]at h;simp only[cond_true,YO,YR]at h;obtain⟨rfl,_⟩:=h;obtain⟨r',hr',XJ⟩:=eX hER hf;cases r' with
        |none=>exact XJ.elim
        |some p=>
         obtain⟨i',v0'⟩:=p;obtain⟨rfl,_⟩:=XJ;have hi:i'<KG.size:=h1 ▸ (Array.getElem?_eq_some_iff.1 he).1;obtain⟨e',he'⟩:∃e',KG[i']? =some e':=⟨KG[i'],by simp[hi]⟩
         obtain⟨q1,q2,q3,q4⟩:=h2 i' e e' he he';have hmod:KG.modify i' (fun e=>{e with key:=k',val:=v'})=KG.setIfInBounds i' {e' with key:=k',val:=v'}:=by
          apply Array.ext (by simp);intro j hj hj';simp only[Array.size_modify]at hj;have hee:KG[i']=e':=by simpa[hi]using he'
          rw[Array.getElem_modify];by_cases e1:i'=j
          ·subst e1;simp[hee]
          ·simp[e1,hj]
         refine⟨_, ?_,fin _ (KG.setIfInBounds i' {e' with key:=k',val:=v'}) Se ?_⟩
         ·simp only[Instr.mapUpdate,Sem.run_bind,run_underlying hu,Result.andThen_ok,eV hw,Ug hc,Ug hr',he',LI,Option.getD_some,q1,Instr.keyThatStays,hs,if_true,Sem.run_pure];rw[mB _ hw,hmod]
         ·refine⟨by simpa using h1,fun j a c ha hc=> ?_⟩;simp only[Lr]at ha hc;rw[Array.getElem?_setIfInBounds]at ha hc;by_cases e1:i'=j
          ·subst e1;rw[if_pos rfl]at ha hc;rw[if_pos (by rw[h1];exact hi)]at ha;rw[if_pos hi]at hc;cases ha;cases hc;exact⟨rfl,q2,hak,hv⟩
          ·rw[if_neg e1]at ha hc;exact h2 j a c ha hc
      ·cases h
     ·rename_i hc hf;simp only[YO,YR]at h;obtain⟨rfl,_⟩:=h;obtain⟨r',hr',XJ⟩:=eX hER hf;cases r' with
      |some p=>exact XJ.elim
      |none=>
       refine⟨_, ?_,fin _ (KG.push {key:=k',val:=v',born:=Se}) (Se+1) ?_⟩
       ·simp only[Instr.mapUpdate,Sem.run_bind,run_underlying hu,Result.andThen_ok,eV hw,Ug hc,Ug hr'];rw[mB _ hw]
       ·refine⟨by simpa using h1,fun j a c ha hc=> ?_⟩;simp only[Lr]at ha hc;rw[Array.getElem?_push]at ha hc;rw[<-h1]at hc;split at ha
        ·rename_i e1;rw[if_pos e1]at hc;cases ha;cases hc;exact⟨rfl,rfl,hak,hv⟩
        ·rename_i e1;rw[if_neg e1]at hc;exact h2 j a c ha hc
     ·cases h
  ·cases h
 ·cases h
def Ar(P:Program)(t:TypeId)(H:Qq)(n:Nat)(s x:Value):Option CR:=
 match Rx P t with
 |some (.slice e)=>match W6 P e with
  |some z=>match s,x with
   | .slice (some ⟨b,off,none⟩) k _,.slice (some ⟨b2,off2,none⟩) m _=>match Qt H b,Qt H b2 with
     |some (.cells cs te (0,0)),some (.cells cs2 _ _)=>
      bif LP (off+LU m k*z) cs.size && LP (off2+LU m k*z) cs2.size && ones (cs2.extract off2 (off2+LU m k*z))then
       some ⟨.val (.int .i64 (LU m k)),VE H b (.cells (splice cs off (cs2.extract off2 (off2+LU m k*z))) te (0,0)),n,[b,b2],[b]⟩else none
     |_,_=>none
   |_,_=>none
  |none=>none
 |_=>none
theorem Gu{P:Program}{B n:Nat}{S:Nat->Prop}{μ:Mu}{H:Qq}{w:World}{t t2 ty:TypeId}{s x s' x':Value}{r:CR}(h:Ar P t H n s x=some r)(QE:Ok B S μ (Qt H) w)(hS:∀i,S i->i<n)
 (hs:VR μ s s') (hx:VR μ x x') (hR:∀i∈r.R,S i):
 ∃v w',(Builtin.copy_ #[t,t2] ty #[s',x']).run P w=.ok v w'/\Post B S n r.n r.W μ μ H r.H w w'/\r.nx=.val v/\VR μ v v/\r.n=n:=by
 unfold Ar at h;simp only[Z1]at h;split at h
 ·rename_i e hu;split at h
  ·rename_i z hz;split at h
   ·rename_i b off k cap b2 off2 m cap2;split at h
    ·rename_i cs te cs2 te2 fz2 hg hg2;cases hcond:(LP (off+LU m k*z) cs.size && LP (off2+LU m k*z) cs2.size && ones (cs2.extract off2 (off2+LU m k*z)))with
     |false=>rw[hcond]at h;cases h
     |true=>
      rw[hcond]at h;simp only[cond_true,YO]at h;subst h;simp only[YB]at hcond;obtain⟨⟨h1,h2⟩,h3⟩:=hcond;have h1:=YL h1;have h2:=YL h2;have hb:S b:=hR b (by simp);have hb2:S b2:=hR b2 (by simp);obtain⟨im,QJ,ZU⟩:=QE.rel b _ hb hg trivial;obtain⟨im2,WV,hor2⟩:=QE.rel b2 _ hb2 hg2 trivial;cases hs with
      |slice har q1 q2 q3=>
       obtain⟨ZD,QN,_,rfl⟩:=har;simp only at QN;rw[QJ]at QN;cases QN;cases hx with
       |slice har2 p1 p2 p3=>
        obtain⟨im2',him2',_,rfl⟩:=har2;simp only at him2';rw[WV]at him2';cases him2';obtain⟨xs,hload,hxs⟩:=hor2.cells (P:=P) (off:=off2) (s:=LU m k*z) h2;have hxsz:xs.size=LU m k*z:=by rw[<-hxs.1];simp;omega
        have hexsz:(cs2.extract off2 (off2+LU m k*z)).size=LU m k*z:=by simp;omega
        rcases ZU with ⟨_,hr,ho,arr,ha,hle,hcap,hc⟩|⟨hz0,_⟩
        ·have ZB:=run_storeCells_at (P:=P) im.Zu off te xs.toList 0 arr w ha (by simp[hxsz];omega) (hxs.ones h3);simp only[Nat.add_zero]at ZB;refine⟨.int .i64 (LU m k),w.setRow im.Zu (CE.splice arr off xs), ?_,Post.write QE hS b _ (.cells (CE.splice cs off (cs2.extract off2 (off2+LU m k*z))) te (0,0)) im hb hg trivial QJ hr (w':=w.setRow im.Zu (CE.splice arr off xs)) ?_ ?_ ?_ ⟨rfl,rfl,rfl⟩,rfl,.int _ _,rfl⟩
         ·simp[Builtin.copy_,Builtin.lenOf,Builtin.firstCells,Sem.run_bind,Sem.run_pure,Result.andThen_ok,run_underlying hu,Zo hz,hload,ho,ZB,CE.splice,goInt]
         ·simp[World.setRow]
         ·intro y hy;exact setRow_other w im.Zu y _ hy
         ·refine .inl ⟨rfl,hr,ho,CE.splice arr off xs,setRow_heap w im.Zu arr _ te _ ha, ?_, ?_, ?_⟩
          ·rw[WI (by rw[hexsz];omega),WI (by rw[hxsz];omega)];exact hle
          ·rw[WI (by rw[hxsz];omega)];exact hcap
          ·exact VRs.splice (by rw[hexsz];omega) hle hc hxs
        ·exact absurd rfl hz0
    ·cases h
   ·cases h
  ·cases h
 ·cases h
end Go.CE

namespace Go.CE
open Go Go.RowKit

def G0(ev:Operand->Option Value):Option Operand->Option (Option Value)
 |none=>some none
 |some x=>match ev x with
  |some v=>some (some v)
  |none=>none
def mkPure(o:Option Value)(H:Qq)(n:Nat):Option CR:=match o with|some v=>some ⟨.val v,H,n,[],[]⟩|none=>none
def lG(P:Program)(t:TypeId)(len:Nat)(l:List (Nat×Value)):Bool:=Lf len 0 && l.isEmpty && (match Rx P t with
 |some (.slice e)=>(W6 P e).isSome
 |_=>false)
theorem Post.ofBelow{B n:Nat}{S:Nat->Prop}{μ:Mu}{H:Qq}{w w':World}(QE:Ok B S μ (Qt H) w)(h:Below w.heap.size w w'):Post B S n n [] μ μ H H w w':=by
 refine⟨⟨fun i o hi ho hl=> ?_,fun i o im hi ho hl QJ=> ?_,fun i j oi oj a b hi hj=> ?_,fun i o hi ho hr=> ?_,fun i j oi oj a b x hi hj=> ?_⟩,LH _,fun _ _=>rfl,fun _ _ _=>rfl,h.size,fun b hb _=>h.block b hb,fun _ h=>by simp at h,fun i im o h1 h2=>absurd h1 (by omega),fun i im o h1=>h1.elim (fun h1=>absurd h1.1 (by omega)) (fun h=>by simp at h),h.os,h.tape,h.output⟩
 ·have hi:=hi.elim id fun h=>absurd h.1 (by omega)
  obtain⟨im,QJ,hr⟩:=QE.rel i o hi ho hl;exact⟨im,QJ,hr.keep (Ext.refl _) (h.block _ (QE.low i o im hi ho hl QJ).1)⟩
 ·have hi:=hi.elim id fun h=>absurd h.1 (by omega)
  have:=QE.low i o im hi ho hl QJ;exact⟨Nat.lt_of_lt_of_le this.1 h.size,this.2⟩
 ·exact QE.inj i j oi oj a b (hi.elim id fun h=>absurd h.1 (by omega)) (hj.elim id fun h=>absurd h.1 (by omega))
 ·have hi:=hi.elim id fun h=>absurd h.1 (by omega)
  obtain⟨im,QJ,hf⟩:=QE.Pj i o hi ho hr;exact⟨im,QJ,fun b x hx=>by rw[h.block b (PU QE hi ho hr QJ hx)];exact hf b x hx⟩
 ·exact QE.sep i j oi oj a b x (hi.elim id fun h=>absurd h.1 (by omega)) (hj.elim id fun h=>absurd h.1 (by omega))
def uu(P:Program)(F:FuncId->Bool)(ev:Operand->Option Value)(o:Oper)(H:Qq)(n:Nat):Option CR:=
 match o.op with
 | .move x| .assign x=>mkPure (ev x) H n
 | .pick c a b=>match ev c with
   |some (.bool t)=>mkPure (ev (bif t then a else b)) H n
   |_=>none
 | .alloc t=>match zeroOf P t with
   |some z=>bif af z then some ⟨.val (Cx n),(n,.cells z.cells t (0,0))::H,n+1,[],[]⟩else none
   |none=>none
 | .box t x=>match ev x with
   |some v=>some ⟨.val (Cx n),(n,.cells v.cells t (0,0))::H,n+1,[],[]⟩
   |none=>none
 | .build t ps=>match partsOf ev ps.toList with
   |some l=>mkPure (u7 P t l) H n
   |none=>none
 | .buildSlice t len ps=>match partsOf ev ps.toList with
   |some l=>match Sj P t len l with
    |some (e,cs,s)=>some ⟨.val (.slice (some ⟨n,0,none⟩) len s),(n,.cells cs e (0,0))::H,n+1,[],[]⟩
    |none=>bif lG P t len l then some ⟨.val bS,H,n,[],[]⟩else none
   |none=>none
 | .load t a=>match ev a with
   |some p=>match Ty P t H p with
    |some (v,b)=>some ⟨.val v,H,n,[b],[]⟩
    |none=>none
   |none=>none
 | .store t a x=>match ev a,ev x with
   |some p,some v=>match Sy P t H v p with
    |some (H',b)=>some ⟨.val undef,H',n,[b],[b]⟩
    |none=>none
   |_,_=>none
 | .fieldAddr s x f=>match ev x with
   |some p=>mkPure (Wm P s f p) H n
   |none=>none
 | .field t x f=>match ev x with
   |some p=>mkPure (jf P t f p) H n
   |none=>none
 | .indexAddr t x i=>match ev x,ev i with
   |some v,some k=>mkPure (Ji P t v k) H n
   |_,_=>none
 | .index t x i=>match ev x,ev i with
   |some (.agg cs),some k=>mkPure (u5 P t (.agg cs) k) H n
   |_,_=>mkPure (UM P ev o) H n
 | .extract x i=>match ev x with
   |some v=>mkPure (Tz i v) H n
   |none=>none
 | .makeSlice t l c=>match ev l,ev c with
   |some x,some y=>match Sg P t x y with
    |some (e,cs,l,s)=>some ⟨.val (.slice (some ⟨n,0,none⟩) l s),(n,.cells cs e (0,0))::H,n+1,[],[]⟩
    |none=>none
   |_,_=>none
 | .slice t x lo hi none=>match ev x,G0 ev lo,G0 ev hi with
   |some (.slice (some a) m s),some l,some h=>mkPure (cc P t (.slice (some a) m s) l h) H n
   |some (.pointer p),some l,some h=>mkPure (cc P t (.pointer p) l h) H n
   |_,_,_=>mkPure (UM P ev o) H n
 | .slice t x lo (some hi) (some mx)=>bif dd P t (ev x) (G0 ev lo) (ev hi) (ev mx)then some ⟨.val bS,H,n,[],[]⟩else mkPure (UM P ev o) H n
 | .makeFunc (.func f) first captured=>match Ru ev first.toList,Ru ev captured.toList with
   |some xs,some ys=>some ⟨.val (.func (.func f) xs.toArray ys.toArray),H,n,[],[]⟩
   |_,_=>none
 | .makeMap _ none=>some ⟨.val (.map (some n)),(n,.map #[] 0)::H,n+1,[],[]⟩
 | .lookup t x k ok=>match ev x,ev k with
   |some m,some kv=>match ik P t H ok m kv with
    |some (v,R)=>some ⟨.val v,H,n,R,[]⟩
    |none=>none
   |_,_=>none
 | .mapUpdate t m k x=>match ev m,ev k,ev x with
   |some mv,some kv,some v=>match Jh P t H mv kv v with
    |some (H',b)=>some ⟨.val undef,H',n,[b],[b]⟩
    |none=>none
   |_,_,_=>none
 | .binOp op _ x y _=>match ev x,ev y with
   |some a,some b=>match Dn op a b with
    |some v=>some ⟨.val v,H,n,[],[]⟩
    |none=>mkPure (UM P ev o) H n
   |_,_=>none
 | .nilCheck x=>match ev x with
   |some (.pointer (some a))=>some ⟨.val (.pointer (some a)),H,n,[],[]⟩
   |some (.func (.func f) xs ys)=>some ⟨.val (.func (.func f) xs ys),H,n,[],[]⟩
   |some (.func (.yield f) xs ys)=>some ⟨.val (.func (.yield f) xs ys),H,n,[],[]⟩
   |_=>none
 | .call c=>match c.callee with
   | .builtin .append=>match c.args.toList,c.argTypes.toList with
     |[s,x],[t,t']=>match ev s,ev x with
      |some sv,some xv=>At P t t' H n sv xv
      |_,_=>none
     |_,_=>none
   | .builtin .len=>match c.args.toList,c.argTypes.toList with
     |[x],[t]=>match ev x,Rx P t with
      |some (.slice (some _) m _),some (.slice _)=>some ⟨.val (.int .i64 m),H,n,[],[]⟩
      |some (.chan (some 0)),some (.slice _)=>some ⟨.val (.int .i64 0),H,n,[],[]⟩
      |_,_=>mkPure (UM P ev o) H n
     |_,_=>none
   | .builtin .copy=>match c.args.toList,c.argTypes.toList with
     |[s,x],[t,_]=>match ev s,ev x with
      |some sv,some xv=>Ar P t H n sv xv
      |_,_=>none
     |_,_=>none
   | .builtin _=>mkPure (UM P ev o) H n
   | .value f=>match ev f,Ru ev c.args.toList with
     |some fv,some args=>match Si F H fv args.toArray with
      |some (nx,R)=>some ⟨nx,H,n,R,[]⟩
      |none=>none
     |_,_=>none
   |_=>none
 |_=>mkPure (UM P ev o) H n

theorem Wp{P:Program}{B:Nat}{o:Oper}{ev:Operand->Option Value}{H:Qq}{n:Nat}{v:Value}(h:∀(μ:Mu) (ρ:Operand->Value) (w:World),(∀x∈o.op.operands,∀v,ev x=some v->VR μ v (ρ x))->∃v',(execOp ρ o).run P w=.ok (.value v') w/\VR μ v v'):
 OC P B o ev H n ⟨.val v,H,n,[],[]⟩:=fun _ μ ρ w QE _ _ _ XT _=>
 let⟨_,h1,h2⟩:=h μ ρ w XT
 ⟨_,w,μ,h1,Post.refl QE,.val h2⟩
theorem Z8{o:Option Value}{H:Qq}{n:Nat}{r:CR}(h:mkPure o H n=some r):∃v,o=some v/\r=⟨.val v,H,n,[],[]⟩:=by
 cases o with
 |none=>cases h
 |some v=>simp only[mkPure,YO]at h;exact⟨v,rfl,h.symm⟩
theorem ia{μ:Mu}{ev:Operand->Option Value}{ρ:Operand->Value}{x:Option Operand}{v:Option Value}(h:G0 ev x=some v)(hv:∀y,x=some y->∀v,ev y=some v->VR μ v (ρ y)):OVR μ v (x.map ρ):=by
 cases x with
 |none=>simp only[G0,YO]at h;subst h;trivial
 |some y=>
  simp only[G0]at h;cases he:ev y with
  |none=>rw[he]at h;cases h
  |some u=>
   rw[he]at h;simp only[YO]at h;subst h;exact hv y rfl u he
theorem ZN{α:Type}{q:Bool}{x r:α}(h:(bif q then some x else none)=some r):x=r:=by
 cases q with
 |false=>cases h
 |true=>simpa using h
theorem Jj{α:Type}{q:Bool}{x:Option α}{r:α}(h:(bif q then x else none)=some r):x=some r:=by
 cases q with
 |false=>cases h
 |true=>simpa using h
theorem Om{P:Program}{t t':TypeId}{H:Qq}{n:Nat}{s x:Value}{r:CR}(h:s6 P t t' H n s x=some r):r.n=n+1:=by
 unfold s6 at h;split at h
 ·split at h
  ·split at h
   ·rw[<-ZN h]
   ·cases h
  ·cases h
 ·cases h
theorem Gv{P:Program}{t:TypeId}{H:Qq}{n:Nat}{s x:Value}{r:CR}(h:VY P t H n s x=some r):r.n=n+1:=by
 unfold VY at h;split at h
 ·split at h
  ·split at h
   ·split at h
    ·rename_i cs k ko ns m b _ _;rw[<-ZN h]
    ·cases h
   ·cases h
  ·cases h
 ·cases h
theorem Oh{P:Program}{F:FuncId->Bool}(hF:∀g,F g=true->Q1 P g=true){B:Nat}{o:Oper}{ev:Operand->Option Value}{H:Qq}{n:Nat}{r:CR}(h:uu P F ev o H n=some r):OC P B o ev H n r:=by
 have XY:mkPure (UM P ev o) H n=some r->OC P B o ev H n r:=by
  intro h;obtain⟨v,h1,rfl⟩:=Z8 h;exact Gr h1
 unfold uu at h;split at h
 ·-- move
  rename_i x ho;obtain⟨v,h1,rfl⟩:=Z8 h;exact Wp fun μ ρ w XT=>⟨ρ x,by simp[execOp,ho],XT x (by simp[ho,Op.operands]) v h1⟩
 ·rename_i x ho;obtain⟨v,h1,rfl⟩:=Z8 h;exact Wp fun μ ρ w XT=>⟨ρ x,by simp[execOp,ho],XT x (by simp[ho,Op.operands]) v h1⟩
 ·-- pick
  rename_i c a b ho;split at h
  ·rename_i t hc;obtain⟨v,h1,rfl⟩:=Z8 h;refine Wp fun μ ρ w XT=> ?_
   have hct:=XT c (by simp[ho,Op.operands]) _ hc;have hct:ρ c=.bool t:=by generalize ρ c=u at hct;cases hct;rfl
   cases t with
   |true=>exact⟨ρ a,by simp[execOp,ho,hct,asBool],XT a (by simp[ho,Op.operands]) v h1⟩
   |false=>exact⟨ρ b,by simp[execOp,ho,hct,asBool],XT b (by simp[ho,Op.operands]) v h1⟩
  ·cases h
 ·-- alloc
  rename_i t ho;split at h
  ·rename_i z hz;cases ha:af z with
   |false=>rw[ha]at h;cases h
   |true=>
    rw[ha]at h;simp only[cond_true,YO]at h;subst h;exact Dq ho hz ha
  ·cases h
 ·-- box
  rename_i t x ho;split at h
  ·rename_i v hv;simp only[YO]at h;subst h;exact MK ho hv
  ·cases h
 ·-- build
  rename_i t ps ho;split at h
  ·rename_i l hl;obtain⟨v,h1,rfl⟩:=Z8 h;refine Wp fun μ ρ w XT=> ?_
   obtain⟨q1,q2⟩:=ah (μ:=μ) (ρ:=ρ) ps.toList l hl (fun p hp v hv=>XT p.2 (by simp only[ho,Op.operands,List.mem_toArray];exact List.mem_map.2 ⟨p,hp,rfl⟩) v hv);obtain⟨v',hr,VX⟩:=Dm (ps':=ps.map fun(i,x)=>(i,ρ x)) h1 (by simpa using q1) (by simpa using q2) w;exact⟨v',by simp[execOp,ho,hr],VX⟩
  ·cases h
 ·-- buildSlice
  rename_i t len ps ho;split at h
  ·rename_i l hl;split at h
   ·rename_i e cs s hb;simp only[YO]at h;subst h;intro S μ ρ w QE hB hS hf XT hR;obtain⟨q1,q2⟩:=ah (μ:=μ) (ρ:=ρ) ps.toList l hl (fun p hp v hv=>XT p.2 (by simp only[ho,Op.operands,List.mem_toArray];exact List.mem_map.2 ⟨p,hp,rfl⟩) v hv);obtain⟨v',w',μ',hr,hp,VX⟩:=lr (ps':=ps.map fun(i,x)=>(i,ρ x)) hb QE hB hS (hf n (LH _) (by simp)) (by simpa using q1) (by simpa using q2);exact⟨_,w',μ',by simp[execOp,ho,hr],hp,.val VX⟩
   ·cases he:lG P t len l with
    |false=>rw[he]at h;cases h
    |true=>
     rw[he]at h;simp only[cond_true,YO]at h;subst h;intro S μ ρ w QE hB hS hf XT hR;obtain⟨q1,_⟩:=ah (μ:=μ) (ρ:=ρ) ps.toList l hl (fun p hp v hv=>XT p.2 (by simp only[ho,Op.operands,List.mem_toArray];exact List.mem_map.2 ⟨p,hp,rfl⟩) v hv);unfold lG at he;simp only[YB,List.isEmpty_iff]at he;obtain⟨⟨e1,rfl⟩,e3⟩:=he;have e1:=YE e1;subst e1;have eps:ps=#[]:=by
      have:ps.toList=[]:=List.eq_nil_of_length_eq_zero (by simpa using q1.symm);exact Array.ext' (by simpa using this)
     subst eps;split at e3
     ·rename_i e hu;rw[Z1]at hu;cases hz:W6 P e with
      |none=>rw[hz]at e3;cases e3
      |some z=>
       have hr:(Instr.buildSlice t 0 ((#[]:Array (Nat×Operand)).map fun(i,x)=>(i,ρ x))).run P w=.ok (.slice (some ⟨w.heap.size,0,none⟩) 0 0) (w.alloc (.cells #[] e)):=by
        simp[Instr.buildSlice,run_underlying hu,Zo hz,Instr.fill,newRow,Sem.run_bind,Sem.run_pure];congr 2;exact LN (by simp)
       exact⟨.value (.slice (some ⟨w.heap.size,0,none⟩) 0 0),w.alloc (.cells #[] e),μ,by simp[execOp,ho];simp at hr;simp[hr],Post.ofBelow QE ((Below.refl _ _).alloc (LH _) _),.val .noCap⟩
     ·cases e3
  ·cases h
 ·-- load
  rename_i t a ho;split at h
  ·rename_i p hp;split at h
   ·rename_i v b hb;simp only[YO]at h;subst h;intro S μ ρ w QE hB hS hf XT hR;obtain⟨v',hr,VX⟩:=sx hb QE (XT a (by simp[ho,Op.operands]) p hp) (hR b (by simp));exact⟨_,w,μ,by simp[execOp,ho,hr],Post.refl QE,.val VX⟩
   ·cases h
  ·cases h
 ·-- store
  rename_i t a x ho;split at h
  ·rename_i p v hp hv;split at h
   ·rename_i H' b hb;simp only[YO]at h;subst h;intro S μ ρ w QE hB hS hf XT hR;obtain⟨w',hr,Zw⟩:=Df hb QE hS (XT a (by simp[ho,Op.operands]) p hp) (XT x (by simp[ho,Op.operands]) v hv) (hR b (by simp));exact⟨_,w',μ,by simp[execOp,ho,hr],Zw,.skip⟩
   ·cases h
  ·cases h
 ·-- fieldAddr
  rename_i s x f ho;split at h
  ·rename_i p hp;obtain⟨v,h1,rfl⟩:=Z8 h;refine Wp fun μ ρ w XT=> ?_
   obtain⟨v',hr,VX⟩:=qv h1 (XT x (by simp[ho,Op.operands]) p hp) w;exact⟨v',by simp[execOp,ho,hr],VX⟩
  ·cases h
 ·-- field
  rename_i t x f ho;split at h
  ·rename_i p hp;obtain⟨v,h1,rfl⟩:=Z8 h;refine Wp fun μ ρ w XT=> ?_
   obtain⟨v',hr,VX⟩:=Dk h1 (XT x (by simp[ho,Op.operands]) p hp) w;exact⟨v',by simp[execOp,ho,hr],VX⟩
  ·cases h
 ·-- indexAddr
  rename_i t x i ho;split at h
  ·rename_i u k hu hk;obtain⟨v,h1,rfl⟩:=Z8 h;refine Wp fun μ ρ w XT=> ?_
   obtain⟨v',hr,VX⟩:=qu h1 (XT x (by simp[ho,Op.operands]) u hu) (XT i (by simp[ho,Op.operands]) k hk) w;exact⟨v',by simp[execOp,ho,hr],VX⟩
  ·cases h
 ·-- index
  rename_i t x i ho;split at h
  ·rename_i cs k hu hk;obtain⟨v,h1,rfl⟩:=Z8 h;refine Wp fun μ ρ w XT=> ?_
   obtain⟨v',hr,VX⟩:=Dj h1 (XT x (by simp[ho,Op.operands]) _ hu) (XT i (by simp[ho,Op.operands]) k hk) w;exact⟨v',by simp[execOp,ho,hr],VX⟩
  ·exact XY h
 ·-- extract
  rename_i x i ho;split at h
  ·rename_i u hu;obtain⟨v,h1,rfl⟩:=Z8 h;refine Wp fun μ ρ w XT=> ?_
   obtain⟨v',hr,VX⟩:=u6 (P:=P) h1 (XT x (by simp[ho,Op.operands]) u hu) w;exact⟨v',by simp[execOp,ho,hr],VX⟩
  ·cases h
 ·-- makeSlice
  rename_i t l c ho;split at h
  ·rename_i x y hx hy;split at h
   ·rename_i e cs l0 s hm;simp only[YO]at h;subst h;intro S μ ρ w QE hB hS hf XT hR;obtain⟨v',w',μ',hr,hp,VX⟩:=Gs hm QE hB hS (hf n (LH _) (by simp)) (XT l (by simp[ho,Op.operands]) x hx) (XT c (by simp[ho,Op.operands]) y hy);exact⟨_,w',μ',by simp[execOp,ho,hr],hp,.val VX⟩
   ·cases h
  ·cases h
 ·-- slice
  rename_i t x lo hi ho;have hlo:∀y,lo=some y->y∈o.op.operands:=fun y e=>by simp[ho,Op.operands,e]
  have hhi:∀y,hi=some y->y∈o.op.operands:=fun y e=>by simp[ho,Op.operands,e]
  split at h
  ·rename_i a m s l hh hu hl hhh;obtain⟨v,h1,rfl⟩:=Z8 h;refine Wp fun μ ρ w XT=> ?_
   obtain⟨v',hr,VX⟩:=qp h1 (XT x (by simp[ho,Op.operands]) _ hu) (ia hl fun y e=>XT y (hlo y e)) (ia hhh fun y e=>XT y (hhi y e)) w;exact⟨v',by simp[execOp,ho,hr],VX⟩
  ·rename_i p l hh hu hl hhh;obtain⟨v,h1,rfl⟩:=Z8 h;refine Wp fun μ ρ w XT=> ?_
   obtain⟨v',hr,VX⟩:=qp h1 (XT x (by simp[ho,Op.operands]) _ hu) (ia hl fun y e=>XT y (hlo y e)) (ia hhh fun y e=>XT y (hhi y e)) w;exact⟨v',by simp[execOp,ho,hr],VX⟩
  ·exact XY h
 ·-- slice with a bound
  rename_i t x lo hi mx ho;have hlo:∀y,lo=some y->y∈o.op.operands:=fun y e=>by simp[ho,Op.operands,e]
  cases hc:dd P t (ev x) (G0 ev lo) (ev hi) (ev mx)with
  |false=>rw[hc]at h;exact XY h
  |true=>
   rw[hc]at h;simp only[cond_true,YO]at h;subst h;obtain⟨xv,l,hv,mv,e1,e2,e3,e4,VU⟩:=k9 (μ:=fun _=>none) hc;clear VU;refine Wp fun μ ρ w XT=> ?_
   obtain⟨xv',l',ZX,mv',e1',e2',e3',e4',VU⟩:=k9 (μ:=μ) hc;obtain⟨v',hr,VX⟩:=VU (XT x (by simp[ho,Op.operands]) _ e1') (ia e2' fun y e=>XT y (hlo y e)) (XT hi (by simp[ho,Op.operands]) _ e3') (XT mx (by simp[ho,Op.operands]) _ e4') w;exact⟨v',by simp[execOp,ho,hr],VX⟩
 ·-- makeFunc
  rename_i f first captured ho
  split at h
  ·rename_i xs ys hx hy;simp only[YO]at h;subst h;refine Wp fun μ ρ w XT=> ?_
   have hops:o.op.operands=first++captured:=by rw[ho];rfl
   rw[hops]at XT;have q1:=dg (μ:=μ) (ρ:=ρ) _ _ hx (fun x hx v hv=>XT x (Array.mem_append.2 (.inl (Array.mem_toList_iff.1 hx))) v hv);have q2:=dg (μ:=μ) (ρ:=ρ) _ _ hy (fun x hx v hv=>XT x (Array.mem_append.2 (.inr (Array.mem_toList_iff.1 hx))) v hv);refine⟨.func (.func f) (first.map ρ) (captured.map ρ),by simp[execOp,ho,Instr.makeFunc], ?_⟩;have e1:(first.toList.map ρ).toArray=first.map ρ:=by apply Array.ext';simp
   have e2:(captured.toList.map ρ).toArray=captured.map ρ:=by apply Array.ext';simp
   rw[e1]at q1;rw[e2]at q2;exact .func q1.1 q2.1 q1.2 q2.2
  ·cases h
 ·-- makeMap
  rename_i t ho;simp only[YO]at h;subst h;intro S μ ρ w QE hB hS hf XT hR;have hfn:=hf n (LH _) (by simp);refine⟨_,_,_, ?_,Post.alloc QE hB hS hfn (.map #[] 0) (.map #[] 0) 0 ⟨rfl,#[],heap_alloc _ _,rfl,fun i e e' he _=>by simp at he⟩,.val (.map (im:=⟨w.heap.size,0,0,true,aG⟩) X3)⟩;simp only[execOp,ho,Instr.makeMap,Option.map_none,Sem.run_bind,Result.andThen_ok,run_newObj,Sem.run_pure];rfl
 ·-- lookup
  rename_i t x k ok ho;split at h
  ·rename_i m kv hm hk;split at h
   ·rename_i v R hl;simp only[YO]at h;subst h;intro S μ ρ w QE hB hS hf XT hR;obtain⟨v',hr,VX⟩:=Aq hl QE (XT x (by simp[ho,Op.operands]) m hm) (XT k (by simp[ho,Op.operands]) kv hk) hR;exact⟨_,w,μ,by simp[execOp,ho,hr],Post.refl QE,.val VX⟩
   ·cases h
  ·cases h
 ·-- mapUpdate
  rename_i t m k x ho;split at h
  ·rename_i mv kv v hm hk hv;split at h
   ·rename_i H' b hl;simp only[YO]at h;subst h;intro S μ ρ w QE hB hS hf XT hR;obtain⟨w',hr,Zw⟩:=qt hl QE hS (XT m (by simp[ho,Op.operands]) mv hm) (XT k (by simp[ho,Op.operands]) kv hk) (XT x (by simp[ho,Op.operands]) v hv) (hR b (by simp));exact⟨_,w',μ,by simp[execOp,ho,hr],Zw,.skip⟩
   ·cases h
  ·cases h
 ·-- binOp
  rename_i op t x y yt ho;split at h
  ·rename_i a b ha hb;split at h
   ·rename_i v hv;simp only[YO]at h;subst h;refine Wp fun μ ρ w XT=> ?_
    obtain⟨h1,h2,h3,h4⟩:=ML (P:=P) (t:=t) (x:=x) (y:=y) hv w;have e1:=h3 μ _ (XT x (by simp[ho,Op.operands]) a ha);have e2:=h4 μ _ (XT y (by simp[ho,Op.operands]) b hb);refine⟨v, ?_,h2 μ⟩;simp only[execOp,ho,e1,e2];rw[Sem.run_bind,h1];rfl
   ·exact XY h
  ·cases h
 ·-- nilCheck
  rename_i x ho;split at h
  ·rename_i a hx;simp only[YO]at h;subst h;refine Wp fun μ ρ w XT=> ?_
   have hv:=XT x (by simp[ho,Op.operands]) _ hx;refine⟨ρ x, ?_,hv⟩;generalize hg:ρ x=u at hv;cases hv <;> simp[execOp,ho,hg]
  ·rename_i f xs ys hx;simp only[YO]at h;subst h;refine Wp fun μ ρ w XT=> ?_
   have hv:=XT x (by simp[ho,Op.operands]) _ hx;refine⟨ρ x, ?_,hv⟩;generalize hg:ρ x=u at hv;cases hv;simp[execOp,ho,hg]
  ·rename_i f xs ys hx;simp only[YO]at h;subst h;refine Wp fun μ ρ w XT=> ?_
   have hv:=XT x (by simp[ho,Op.operands]) _ hx;refine⟨ρ x, ?_,hv⟩;generalize hg:ρ x=u at hv;cases hv;simp[execOp,ho,hg]
  ·cases h
 ·-- call
  rename_i c ho;split at h
  ·-- append
   rename_i hc;split at h
   ·rename_i s x t t' ha ht;split at h
    ·rename_i sv xv hs hx;intro S μ ρ w QE hB hS hf XT hR;have ea:c.args=#[s,x]:=by rw[<-ha]
     have et:c.argTypes=#[t,t']:=by rw[<-ht]
     have hvs:=XT s (by simp[ho,Op.operands,Call.operands,hc,ea]) sv hs;have hvx:=XT x (by simp[ho,Op.operands,Call.operands,hc,ea]) xv hx;unfold At at h;cases htt:Lf t t' with
     |false=>
      rw[htt]at h;simp only[cond_false]at h;have JZ:r.n=n+1:=Om h;obtain⟨v,v',w',μ',hr,hp,hnx,VX,_⟩:=Gw (ty:=o.type) h QE hB hS (hf n (LH _) (by omega)) hvs hvx;refine⟨.value v',w',μ', ?_,hp,by rw[hnx];exact .val VX⟩;simp[execOp,ho,resolve,hc,invoke,builtin,ea,et,hr]
     |true=>
      rw[htt]at h;simp only[cond_true]at h;have htt:=YE htt;subst htt;cases hca:VY P t H n (bare sv) xv with
      |some r0=>
       rw[hca]at h;simp only[YO]at h;subst h;have JZ:r0.n=n+1:=Gv hca;obtain⟨v,v',w',μ',hr,hp,hnx,VX,_⟩:=u9 (ty:=o.type) hca QE hB hS (hf n (LH _) (by omega)) hvs hvx hR;refine⟨.value v',w',μ', ?_,hp,by rw[hnx];exact .val VX⟩;simp[execOp,ho,resolve,hc,invoke,builtin,ea,et,hr]
      |none=>
       rw[hca]at h;simp only at h;obtain⟨hr,rfl⟩:=Gx (ty:=o.type) (w:=w) h hvs hvx;refine⟨.value (ρ s),w,μ, ?_,Post.refl QE,.val hvs⟩;simp[execOp,ho,resolve,hc,invoke,builtin,ea,et,hr]
    ·cases h
   ·cases h
  ·-- len
   rename_i hc;split at h
   ·rename_i x t ha ht;split at h
    ·rename_i a m s e hx hu;rw[Z1]at hu;simp only[YO]at h;subst h;refine Wp fun μ ρ w XT=> ?_
     have ea:c.args=#[x]:=by rw[<-ha]
     have et:c.argTypes=#[t]:=by rw[<-ht]
     have hv:=XT x (by simp[ho,Op.operands,Call.operands,hc,ea]) _ hx;refine⟨.int .i64 m, ?_,.int _ _⟩;generalize hg:ρ x=u at hv;cases hv <;> simp[execOp,ho,resolve,hc,invoke,builtin,ea,et,hg,Builtin.len_,run_underlying hu,goInt]
    ·rename_i e hx hu;rw[Z1]at hu;simp only[YO]at h;subst h;refine Wp fun μ ρ w XT=> ?_
     have ea:c.args=#[x]:=by rw[<-ha]
     have et:c.argTypes=#[t]:=by rw[<-ht]
     have hv:=XT x (by simp[ho,Op.operands,Call.operands,hc,ea]) _ hx;refine⟨.int .i64 0, ?_,.int _ _⟩;generalize hg:ρ x=u at hv;cases hv <;> simp[execOp,ho,resolve,hc,invoke,builtin,ea,et,hg,Builtin.len_,run_underlying hu,goInt]
    ·exact XY h
   ·cases h
  ·-- copy
   rename_i hc;split at h
   ·rename_i s x t t2 ha ht;split at h
    ·rename_i sv xv hs hx;intro S μ ρ w QE hB hS hf XT hR;have ea:c.args=#[s,x]:=by rw[<-ha]
     have et:c.argTypes=#[t,t2]:=by rw[<-ht]
     obtain⟨v,w',hr,hp,hnx,VX,_⟩:=Gu (ty:=o.type) (t2:=t2) h QE hS (XT s (by simp[ho,Op.operands,Call.operands,hc,ea]) sv hs) (XT x (by simp[ho,Op.operands,Call.operands,hc,ea]) xv hx) hR;refine⟨.value v,w',μ, ?_,hp,by rw[hnx];exact .val VX⟩;simp[execOp,ho,resolve,hc,invoke,builtin,ea,et,hr]
    ·cases h
   ·cases h
  ·exact XY h
  ·-- value
   rename_i f hc;split at h
   ·rename_i fv args hfv hargs;split at h
    ·rename_i nx R hcc;simp only[YO]at h;subst h;intro S μ ρ w QE hB hS hf XT hR;have hops:o.op.operands=#[f]++c.args:=by rw[ho];simp only[Op.operands,Call.operands,hc]
     rw[hops]at XT;have q:=dg (μ:=μ) (ρ:=ρ) _ _ hargs (fun x hx v hv=>XT x (Array.mem_append.2 (.inr (Array.mem_toList_iff.1 hx))) v hv);have e1:(c.args.toList.map ρ).toArray=c.args.map ρ:=by apply Array.ext';simp
     rw[e1]at q;obtain⟨nx',hr,hnr⟩:=sy (P:=P) hF hcc QE (XT f (Array.mem_append.2 (.inl (by simp))) fv hfv) q hR;refine⟨nx',w,μ, ?_,Post.refl QE,hnr⟩;simp only[execOp,ho,resolve,hc];simpa using hr
    ·cases h
   ·cases h
  ·cases h
 ·exact XY h
end Go.CE

namespace Go.CE
open Go Go.RowKit

structure PG (B:Nat) (S New W:Nat->Prop) (μ μ':Mu) (G G':Nat->Option Obj) (w w':World):Prop where
 ok:Ok B (fun i=>S i\/New i) μ' G' w'
 ext:∀i,¬New i->μ' i=μ i
 keep:∀i,¬New i->¬W i->G' i=G i
 grow:w.heap.size<=w'.heap.size
 frame:∀b,b<w.heap.size->(∀i,W i->∀im,μ i=some im->im.Zu≠b)->w'.heap[b]? =w.heap[b]?
 wr:∀i,W i->S i/\(∃o,G i=some o/\live o)/\∃im,μ i=some im/\im.rw=true
 fresh:∀i im o,New i->G' i=some o->live o->μ' i=some im->im.rw=true/\
  (w.heap.size<=im.Zu\/∃k,W k/\(∃ZD,μ k=some ZD/\ZD.Zu=im.Zu)/\∀o,G' k=some o->¬live o)
 rf:∀i im o,(New i\/W i)->G' i=some o->Wd o->μ' i=some im->∀b x,im.fm b=some x->
  w.heap.size<=b\/(∃k US ko,S k/\G k=some ko/\Wd ko/\μ k=some US/\US.fm b=some x)\/∃k,W k/\(∃ZD,μ k=some ZD/\ZD.Zu=b)/\∀o,G' k=some o->¬live o
 os:w'.os=w.os
 tape:w'.tape=w.tape
 output:w'.output=w.output
theorem PG.refl{B:Nat}{S:Nat->Prop}{μ:Mu}{G:Nat->Option Obj}{w:World}(h:Ok B S μ G w):PG B S (fun _=>False) (fun _=>False) μ μ G G w w:=
 ⟨h.sub fun _ hi=>hi.elim id False.elim,fun _ _=>rfl,fun _ _ _=>rfl,LH _,fun _ _ _=>rfl,fun _ h=>h.elim,fun _ _ _ h=>h.elim,fun _ _ _ h=>h.elim False.elim False.elim,rfl,rfl,rfl⟩
theorem Post.pg{B:Nat}{S:Nat->Prop}{n n':Nat}{W:List Nat}{μ μ':Mu}{H H':Qq}{w w':World}(h:Post B S n n' W μ μ' H H' w w')(hn:∀i,n'<=i->Qt H' i=Qt H i):
 PG B S (fun i=>n<=i/\i<n') (fun i=>i∈W/\i<n) μ μ' (Qt H) (Qt H') w w':=by
 have hle:=h.le;refine⟨h.ok,h.ext,fun i hi hw=> ?_,h.grow,fun b hb hw=>h.frame b hb fun i a c=>hw i ⟨a,c⟩,fun i hi=>h.wr i hi.1 hi.2,fun i im o hi ho hl hm=> ?_,fun i im o hi ho hr hm b x hb=> ?_,h.os,h.tape,h.output⟩
 ·rcases LJ i n with Xp|hge
  ·exact h.keep i Xp fun e=>hw ⟨e,Xp⟩
  ·exact hn i (by omega)
 ·obtain⟨hr,hf⟩:=h.fresh i im o hi.1 hi.2 ho hl hm;refine⟨hr,hf.imp id ?_⟩;rintro⟨k,a,b,c,d⟩;exact⟨k,⟨a,b⟩,c,d⟩
 ·rcases h.rf i im o hi ho hr hm b x hb with e|⟨k,US,ko,a,c,d⟩|⟨k,a,c,d⟩
  ·exact .inl e
  ·exact .inr (.inl ⟨k,US,ko,a,d⟩)
  ·exact .inr (.inr ⟨k,⟨a,c⟩,d⟩)
theorem PG.post{B:Nat}{S New:Nat->Prop}{n n':Nat}{W:List Nat}{μ μ':Mu}{H H':Qq}{w w':World}(h:PG B S New (fun i=>i∈W/\i<n) μ μ' (Qt H) (Qt H') w w')(hN:∀i,New i<->n<=i/\i<n')(hle:n<=n')(hS:∀i,S i->i<n):Post B S n n' W μ μ' H H' w w':=by
 refine⟨h.ok.sub fun i hi=>hi.imp id (hN i).2,hle,fun i hi=>h.ext i fun e=>hi ((hN i).1 e),fun i hi hw=>h.keep i (fun e=>by have:=((hN i).1 e).1;omega) (fun e=>hw e.1),h.grow,
  fun b hb hw=>h.frame b hb fun i hi=>hw i hi.1 hi.2,fun i hi Xp=>h.wr i ⟨hi,Xp⟩,fun i im o h1 h2 ho hl hm=> ?_,fun i im o hi ho hr hm b x hb=> ?_,h.os,h.tape,h.output⟩
 ·obtain⟨hr,hf⟩:=h.fresh i im o ((hN i).2 ⟨h1,h2⟩) ho hl hm;refine⟨hr,hf.imp id ?_⟩;rintro⟨k,⟨a,b⟩,c,d⟩;exact⟨k,a,b,c,d⟩
 ·rcases h.rf i im o (hi.imp (hN i).2 id) ho hr hm b x hb with e|⟨k,US,ko,a,c⟩|⟨k,⟨a,c⟩,d⟩
  ·exact .inl e
  ·exact .inr (.inl ⟨k,US,ko,a,hS k a,c⟩)
  ·exact .inr (.inr ⟨k,a,c,d⟩)
theorem PG.then{B:Nat}{S S2 Rw UN W1 W2:Nat->Prop}{μ μ1 μ2:Mu}{G G1 Gc G2' G2:Nat->Option Obj}{w w1 w2:World}(h1:PG B S Rw W1 μ μ1 G G1 w w1)(h2:PG B S2 UN W2 μ1 μ2 Gc G2' w1 w2)
 (hsub:∀i,S2 i->S i\/Rw i) (hGc:∀i,S2 i->Gc i=G1 i) (hnew:∀i,UN i->¬S i/\¬Rw i) (UK:∀i,UN i->μ1 i=none)
 (ha:∀i,W2 i\/UN i->G2 i=G2' i) (hb:∀i,¬W2 i->¬UN i->G2 i=G1 i):
 PG B S (fun i=>Rw i\/UN i) (fun i=>W1 i\/(W2 i/\¬Rw i)) μ μ2 G G2 w w2:=by
 have hW2S:∀i,W2 i->S2 i/\(∃o,G1 i=some o/\live o)/\∃im,μ1 i=some im/\im.rw=true:=by
  intro i hi;obtain⟨a,⟨o,ho,hl⟩,c⟩:=h2.wr i hi;exact⟨a,⟨o,by rw[<-hGc i a];exact ho,hl⟩,c⟩
 have hW2N:∀i,W2 i->¬UN i:=by
  intro i hi hn;rcases hsub i (hW2S i hi).1 with h|h
  ·exact(hnew i hn).1 h
  ·exact(hnew i hn).2 h
 have ext12:Ext μ1 μ2:=by
  intro k im hk;rw[h2.ext k fun hn=>by rw[UK k hn]at hk;cases hk];exact hk
 have mu2:∀i,¬UN i->μ2 i=μ1 i:=h2.ext
 -- blocks PN the second piece leaves
 have other:∀i o im,(S i\/Rw i)->¬W2 i->G1 i=some o->live o->μ1 i=some im->(∀k,W2 k->∀ZD,μ1 k=some ZD->ZD.Zu≠im.Zu):=by
  intro i o im hi hw ho hl QJ k hk ZD QN;obtain⟨hkS,⟨ok,QE,hlk⟩,im'',WO,hr⟩:=hW2S k hk;rw[QN]at WO;cases WO;by_cases hra:im.rw=true
  ·exact h1.ok.inj k i ok o ZD im (hsub k hkS) hi (fun e=>hw (e ▸ hk)) QE ho hlk hl QN QJ hr hra
  ·have a:=(h1.ok.low i o im hi ho hl QJ).2.2 (by simpa using hra);have b:=(h1.ok.low k ok ZD (hsub k hkS) QE hlk QN).2.1 hr;omega
 have dead:∀k,W1 k->(∀o,G1 k=some o->¬live o)->∀o,G2 k=some o->¬live o:=by
  intro k hk hd o ho hl;have hS:=(h1.wr k hk).1;by_cases hw:W2 k
  ·obtain⟨_,⟨o',Kt,hl'⟩,_⟩:=hW2S k hw;exact hd o' Kt hl'
  ·rw[hb k hw (fun e=>(hnew k e).1 hS)]at ho;exact hd o ho hl
 -- what is live behind both, and XD for the second, was live between
 have liveMid:∀i o,¬UN i->G2 i=some o->live o->∃o',G1 i=some o'/\live o':=by
  intro i o hn ho hl;by_cases hw:W2 i
  ·exact(hW2S i hw).2.1
  ·rw[hb i hw hn]at ho;exact⟨o,ho,hl⟩
 refine⟨⟨fun i o hi ho hl=> ?_,fun i o im hi ho hl QJ=> ?_,fun i j oi oj a b hi hj ay Wl Wk S0 Ud hma hmb hra Yr=> ?_,fun i o hi ho hr=> ?_,fun i j oi oj a b x hi hj Wl Wk Pe Ud hma hmb Yr hx=> ?_⟩,fun i hi=> ?_,fun i hn hw=> ?_,Nat.le_trans h1.grow h2.grow,fun b hb0 hw=> ?_,fun i hi=> ?_,fun i im o hi ho hl QJ=> ?_,fun i im o hi ho hr QJ b x hfb=> ?_,
  h2.os.trans h1.os,h2.tape.trans h1.tape,h2.output.trans h1.output⟩
 ·by_cases ht:W2 i\/UN i
  ·rw[ha i ht]at ho;exact h2.ok.rel i o (ht.imp (fun h=>(hW2S i h).1) id) ho hl
  ·have hw:¬W2 i:=fun h=>ht (.inl h)
   have hn:¬UN i:=fun h=>ht (.inr h)
   rw[hb i hw hn]at ho;have hi':S i\/Rw i:=by rcases hi with h|h|h <;> first|exact .inl h|exact .inr h|exact absurd h hn
   obtain⟨im,QJ,hr⟩:=h1.ok.rel i o hi' ho hl;exact⟨im,ext12 _ _ QJ,hr.keep ext12 (h2.frame _ (h1.ok.low i o im hi' ho hl QJ).1 (other i o im hi' hw ho hl QJ))⟩
 ·by_cases ht:W2 i\/UN i
  ·rw[ha i ht]at ho;exact h2.ok.low i o im (ht.imp (fun h=>(hW2S i h).1) id) ho hl QJ
  ·have hw:¬W2 i:=fun h=>ht (.inl h)
   have hn:¬UN i:=fun h=>ht (.inr h)
   rw[hb i hw hn]at ho;rw[mu2 i hn]at QJ;have hi':S i\/Rw i:=by rcases hi with h|h|h <;> first|exact .inl h|exact .inr h|exact absurd h hn
   have:=h1.ok.low i o im hi' ho hl QJ;exact⟨Nat.lt_of_lt_of_le this.1 h2.grow,this.2⟩
 ·have XD:∀i,(S i\/Rw i\/UN i)->¬UN i->S i\/Rw i:=by
   intro i hi hn;rcases hi with h|h|h <;> first|exact .inl h|exact .inr h|exact absurd h hn
  have nw:∀i j oi oj a b,UN i->¬UN j->(S j\/Rw j\/UN j)->i≠j->G2 i=some oi->G2 j=some oj->live oi->live oj->μ2 i=some a->μ2 j=some b->b.rw=true->a.Zu≠b.Zu:=by
   intro i j oi oj a b hn hj0 hjS ay Wl Wk S0 Ud hma hmb Yr;rw[ha i (.inr hn)]at Wl;rw[mu2 j hj0]at hmb;obtain⟨o',Kt,hl'⟩:=liveMid j oj hj0 Wk Ud;have hjj:=XD j hjS hj0;obtain⟨_,hf⟩:=h2.fresh i a oi hn Wl S0 hma;rcases hf with hf|⟨k,hk,⟨ZD,QN,hbb⟩,hd⟩
   ·have:=(h1.ok.low j o' b hjj Kt hl' hmb).1;omega
   ·obtain⟨hkS,⟨ok,QE,hlk⟩,im'',WO,hrk⟩:=hW2S k hk;rw[QN]at WO;cases WO;have hkj:k≠j:=by
     rintro rfl;rw[ha k (.inl hk)]at Wk;exact hd oj Wk Ud
    have:=h1.ok.inj k j ok o' ZD b (hsub k hkS) hjj hkj QE Kt hlk hl' QN hmb hrk Yr;omega
  by_cases hni:UN i
  ·by_cases hnj:UN j
   ·rw[ha i (.inr hni)]at Wl;rw[ha j (.inr hnj)]at Wk;exact h2.ok.inj i j oi oj a b (.inr hni) (.inr hnj) ay Wl Wk S0 Ud hma hmb hra Yr
   ·exact nw i j oi oj a b hni hnj hj ay Wl Wk S0 Ud hma hmb Yr
  ·by_cases hnj:UN j
   ·exact Ne.symm (nw j i oj oi b a hnj hni hi (Ne.symm ay) Wk Wl Ud S0 hmb hma hra)
   ·rw[mu2 i hni]at hma;rw[mu2 j hnj]at hmb;obtain⟨o1,ho1,hl1⟩:=liveMid i oi hni Wl S0;obtain⟨o2,ho2,hl2⟩:=liveMid j oj hnj Wk Ud;exact h1.ok.inj i j o1 o2 a b (XD i hi hni) (XD j hj hnj) ay ho1 ho2 hl1 hl2 hma hmb hra Yr
 ·by_cases ht:W2 i\/UN i
  ·rw[ha i ht]at ho;exact h2.ok.Pj i o (ht.imp (fun h=>(hW2S i h).1) id) ho hr
  ·have hw:¬W2 i:=fun h=>ht (.inl h)
   have hn:¬UN i:=fun h=>ht (.inr h)
   rw[hb i hw hn]at ho;have hi':S i\/Rw i:=by rcases hi with h|h|h <;> first|exact .inl h|exact .inr h|exact absurd h hn
   obtain⟨im,QJ,hf⟩:=h1.ok.Pj i o hi' ho hr;refine⟨im,ext12 _ _ QJ,fun b x hx=> ?_⟩;have e:=hf b x hx;rw[h2.frame b (by simpa using(Array.getElem?_eq_some_iff.1 e).1) fun k hk ZD QN hbb=> ?_]
   ·exact e
   ·obtain⟨hkS,⟨ok,QE,hlk⟩,im'',WO,hrk⟩:=hW2S k hk;rw[QN]at WO;cases WO;exact h1.ok.sep i k o ok im ZD x hi' (hsub k hkS) ho QE hr hlk QJ QN hrk (by rw[hbb];exact hx)
 ·have XD:∀i,(S i\/Rw i\/UN i)->¬UN i->S i\/Rw i:=by
   intro i hi hn;rcases hi with h|h|h <;> first|exact .inl h|exact .inr h|exact absurd h hn
  by_cases htj:W2 j\/UN j
  ·by_cases hti:W2 i\/UN i
   ·rw[ha i hti]at Wl;rw[ha j htj]at Wk;exact h2.ok.sep i j oi oj a b x (hti.imp (fun h=>(hW2S i h).1) id) (htj.imp (fun h=>(hW2S j h).1) id) Wl Wk Pe Ud hma hmb Yr hx
   ·have hw:¬W2 i:=fun h=>hti (.inl h)
    have hn:¬UN i:=fun h=>hti (.inr h)
    rw[hb i hw hn]at Wl;rw[mu2 i hn]at hma;have hi':=XD i hi hn;obtain⟨im,QJ,hf⟩:=h1.ok.Pj i oi hi' Wl Pe;rw[hma]at QJ;cases QJ;have Xp:b.Zu<w1.heap.size:=(Array.getElem?_eq_some_iff.1 (hf _ x hx)).1;by_cases hnj:UN j
    ·rw[ha j (.inr hnj)]at Wk;obtain⟨_,XJ⟩:=h2.fresh j b oj hnj Wk Ud hmb;rcases XJ with XJ|⟨k,hk,⟨ZD,QN,hbb⟩,hd⟩
     ·omega
     ·obtain⟨hkS,⟨ok,QE,hlk⟩,im'',WO,hrk⟩:=hW2S k hk;rw[QN]at WO;cases WO;exact h1.ok.sep i k oi ok a ZD x hi' (hsub k hkS) Wl QE Pe hlk hma QN hrk (by rw[hbb];exact hx)
    ·have hwj:W2 j:=htj.resolve_right hnj;obtain⟨hkS,⟨ok,QE,hlk⟩,im'',WO,hrk⟩:=hW2S j hwj;rw[mu2 j hnj]at hmb;exact h1.ok.sep i j oi ok a b x hi' (hsub j hkS) Wl QE Pe hlk hma hmb Yr hx
  ·have hwj:¬W2 j:=fun h=>htj (.inl h)
   have hnj:¬UN j:=fun h=>htj (.inr h)
   rw[hb j hwj hnj]at Wk;rw[mu2 j hnj]at hmb;have hj':=XD j hj hnj;by_cases hti:W2 i\/UN i
   ·rw[ha i hti]at Wl;rcases h2.rf i a oi hti.symm Wl Pe hma b.Zu x hx with e|⟨k,US,ko,hS,hko,hkr,hkm,hkb⟩|⟨k,hk,⟨ZD,QN,hbb⟩,hd⟩
    ·have:=(h1.ok.low j oj b hj' Wk Ud hmb).1;omega
    ·rw[hGc k hS]at hko;exact h1.ok.sep k j ko oj US b x (hsub k hS) hj' hko Wk hkr Ud hkm hmb Yr hkb
    ·obtain⟨hkS,⟨ok,QE,hlk⟩,im'',WO,hrk⟩:=hW2S k hk;rw[QN]at WO;cases WO;exact h1.ok.inj k j ok oj ZD b (hsub k hkS) hj' (fun e=>hwj (e ▸ hk)) QE Wk hlk Ud QN hmb hrk Yr hbb
   ·have hw:¬W2 i:=fun h=>hti (.inl h)
    have hn:¬UN i:=fun h=>hti (.inr h)
    rw[hb i hw hn]at Wl;rw[mu2 i hn]at hma;exact h1.ok.sep i j oi oj a b x (XD i hi hn) hj' Wl Wk Pe Ud hma hmb Yr hx
 ·rw[mu2 i (fun h=>hi (.inr h)),h1.ext i (fun h=>hi (.inl h))]
 ·have JZ:¬Rw i:=fun h=>hn (.inl h)
  rw[hb i (fun h=>hw (.inr ⟨h,JZ⟩)) (fun h=>hn (.inr h)),h1.keep i JZ (fun h=>hw (.inl h))]
 ·have e1:=h1.frame b hb0 fun i hi=>hw i (.inl hi)
  rw[<-e1];refine h2.frame b (Nat.lt_of_lt_of_le hb0 h1.grow) fun i hi im QJ=> ?_
  by_cases hn:Rw i
  ·obtain⟨_,⟨o,ho,hl⟩,_⟩:=hW2S i hi;obtain⟨_,hf⟩:=h1.fresh i im o hn ho hl QJ;rcases hf with hf|⟨k,hk,⟨ZD,QN,hbb⟩,_⟩
   ·omega
   ·rw[<-hbb];exact hw k (.inl hk) ZD QN
  ·rw[h1.ext i hn]at QJ;exact hw i (.inr ⟨hi,hn⟩) im QJ
 ·rcases hi with hi|⟨hi,hn⟩
  ·exact h1.wr i hi
  ·obtain⟨hS2,⟨o,ho,hl⟩,im,QJ,hr⟩:=hW2S i hi;have hS:S i:=(hsub i hS2).elim id fun h=>absurd h hn
   refine⟨hS, ?_,im,by rw[<-h1.ext i hn];exact QJ,hr⟩;by_cases hw:W1 i
   ·exact(h1.wr i hw).2.1
   ·rw[h1.keep i hn hw]at ho;exact⟨o,ho,hl⟩
 ·by_cases hn:UN i
  ·rw[ha i (.inr hn)]at ho;obtain⟨hr,hf⟩:=h2.fresh i im o hn ho hl QJ;refine⟨hr, ?_⟩;rcases hf with hf|⟨k,hk,⟨ZD,QN,hbb⟩,hd⟩
   ·exact .inl (Nat.le_trans h1.grow hf)
   ·have hd2:∀o,G2 k=some o->¬live o:=fun o ho=>by rw[ha k (.inl hk)]at ho;exact hd o ho
    by_cases hk1:Rw k
    ·obtain⟨_,⟨o',Kt,hl'⟩,_⟩:=hW2S k hk;obtain⟨_,hf'⟩:=h1.fresh k ZD o' hk1 Kt hl' QN;rcases hf' with hf'|⟨k',hk',⟨im'',WO,hb''⟩,hd'⟩
     ·exact .inl (by omega)
     ·exact .inr ⟨k',.inl hk',⟨im'',WO,by omega⟩,dead k' hk' hd'⟩
    ·exact .inr ⟨k,.inr ⟨hk,hk1⟩,⟨ZD,by rw[<-h1.ext k hk1];exact QN,hbb⟩,hd2⟩
  ·have JZ:Rw i:=hi.elim id fun h=>absurd h hn
   rw[mu2 i hn]at QJ;obtain⟨o',Kt,hl'⟩:=liveMid i o hn ho hl;obtain⟨hr,hf⟩:=h1.fresh i im o' JZ Kt hl' QJ;refine⟨hr, ?_⟩;rcases hf with hf|⟨k,hk,QN,hd⟩
   ·exact .inl hf
   ·exact .inr ⟨k,.inl hk,QN,dead k hk hd⟩
 ·have mid:∀k US ko,(Rw k\/W1 k)->G1 k=some ko->Wd ko->μ1 k=some US->US.fm b=some x->
   w.heap.size<=b\/(∃k US ko,S k/\G k=some ko/\Wd ko/\μ k=some US/\US.fm b=some x)\/∃k,(W1 k\/(W2 k/\¬Rw k))/\(∃ZD,μ k=some ZD/\ZD.Zu=b)/\∀o,G2 k=some o->¬live o:=by
   intro k US ko hk hko hkr hkm hkb;rcases h1.rf k US ko hk hko hkr hkm b x hkb with h|h|⟨k',a,d,e⟩
   ·exact .inl h
   ·exact .inr (.inl h)
   ·exact .inr (.inr ⟨k',.inl a,d,dead k' a e⟩)
  by_cases hA:UN i\/W2 i
  ·rw[ha i hA.symm]at ho;rcases h2.rf i im o hA ho hr QJ b x hfb with h|⟨k,US,ko,hS,hko,hkr,hkm,hkb⟩|⟨k,hk,⟨ZD,QN,hbb⟩,hd⟩
   ·exact .inl (Nat.le_trans h1.grow h)
   ·rw[hGc k hS]at hko;by_cases hx:Rw k\/W1 k
    ·exact mid k US ko hx hko hkr hkm hkb
    ·have hk1:¬Rw k:=fun e=>hx (.inl e)
     rw[h1.keep k hk1 fun e=>hx (.inr e)]at hko;rw[h1.ext k hk1]at hkm;exact .inr (.inl ⟨k,US,ko,(hsub k hS).resolve_right hk1,hko,hkr,hkm,hkb⟩)
   ·have hd2:∀o,G2 k=some o->¬live o:=fun o ho=>by rw[ha k (.inl hk)]at ho;exact hd o ho
    by_cases hk1:Rw k
    ·obtain⟨_,⟨o',Kt,hl'⟩,_⟩:=hW2S k hk;obtain⟨_,hf'⟩:=h1.fresh k ZD o' hk1 Kt hl' QN;rcases hf' with hf'|⟨k',hk',⟨im'',WO,hb''⟩,hd'⟩
     ·exact .inl (by omega)
     ·exact .inr (.inr ⟨k',.inl hk',⟨im'',WO,by omega⟩,dead k' hk' hd'⟩)
    ·exact .inr (.inr ⟨k,.inr ⟨hk,hk1⟩,⟨ZD,by rw[<-h1.ext k hk1];exact QN,hbb⟩,hd2⟩)
  ·have hn2:¬UN i:=fun e=>hA (.inl e)
   have hw2:¬W2 i:=fun e=>hA (.inr e)
   rw[hb i hw2 hn2]at ho;rw[mu2 i hn2]at QJ;refine mid i im o ?_ ho hr QJ hfb;rcases hi with (h|h)|h|h
   ·exact .inl h
   ·exact absurd h hn2
   ·exact .inr h
   ·exact absurd h.1 hw2
end Go.CE

namespace Go.CE
open Go Go.RowKit

def OJ{α:Type}(b:Bool):Option α->α->α
 |some x,a=>bif b then x else a
 |none,a=>a
def Kk{α:Type}(D:Nat->Bool):List (Option α)->Nat->α->α
 |[],_,a=>a
 |c::l,k,a=>Kk D l (k+1) (OJ (D k) c a)
theorem Wv{α:Type}{D D':Nat->Bool}:∀(l:List (Option α)) (k:Nat) (a:α),(∀i x,l[i]? =some (some x)->D (k+i)=D' (k+i))->Kk D l k a=Kk D' l k a
 |[],_,_,_=>rfl
 |c::l,k,a,h=>by
  simp only[Kk];have e:OJ (D k) c a=OJ (D' k) c a:=by
   cases c with
   |none=>rfl
   |some x=>rw[show D k=D' k by simpa using h 0 x rfl]
  rw[e];exact Wv l (k+1) _ fun i x hx=>by have:=h (i+1) x (by simpa using hx);rwa[show k+(i+1)=k+1+i by omega]at this
theorem UG{α:Type}{D:Nat->Bool}:∀(l:List (Option α)) (k:Nat) (a:α),(∀i x,l[i]? =some (some x)->D (k+i)=false)->Kk D l k a=a
 |[],_,_,_=>rfl
 |c::l,k,a,h=>by
  simp only[Kk];have e:OJ (D k) c a=a:=by
   cases c with
   |none=>rfl
   |some x=>rw[show D k=false by simpa using h 0 x rfl];rfl
  rw[e];exact UG l (k+1) a fun i x hx=>by have:=h (i+1) x (by simpa using hx);rwa[show k+(i+1)=k+1+i by omega]at this
theorem pW{α:Type}{D:Nat->Bool}{x:α}:∀(l:List (Option α)) (k j:Nat) (a:α),l[j]? =some (some x)->D (k+j)=true->(∀i y,j<i->l[i]? =some (some y)->D (k+i)=false)->Kk D l k a=x
 |[],_,_,_,h,_,_=>by simp at h
 |c::l,k,0,a,h,hd,hn=>by
  simp only[Lv,YO]at h;subst h;simp only[Kk];rw[show D k=true by simpa using hd];exact UG l (k+1) x fun i y hy=>by have:=hn (i+1) y (by omega) (by simpa using hy);rwa[show k+(i+1)=k+1+i by omega]at this
 |c::l,k,j+1,a,h,hd,hn=>by
  simp only[Kk];exact pW l (k+1) j _ (by simpa using h) (by rwa[show k+1+j=k+(j+1)by omega]) fun i y hi hy=>by
   have:=hn (i+1) y (by omega) (by simpa using hy);rwa[show k+(i+1)=k+1+i by omega]at this

inductive Tri where
 |lf
 |nd (l:Tri) (v:Value) (r:Tri)
def Tri.get:Tri->Nat->Value
 | .lf,_=>undef
 | .nd _ v _,0=>v
 | .nd l _ r,k+1=>bif Lf (k % 2) 0 then l.get (k / 2)else r.get (k / 2)
def Tri.set:Nat->Tri->Nat->Value->Tri
 |0,t,_,_=>t
 |_+1,.lf,0,x=>.nd .lf x .lf
 |_+1,.nd l _ r,0,x=>.nd l x r
 |f+1,.lf,k+1,x=>bif Lf (k % 2) 0 then .nd (Tri.set f .lf (k / 2) x) undef .lf else .nd .lf undef (Tri.set f .lf (k / 2) x)
 |f+1,.nd l v r,k+1,x=>bif Lf (k % 2) 0 then .nd (Tri.set f l (k / 2) x) v r else .nd l v (Tri.set f r (k / 2) x)
theorem Tri.get_lf(i:Nat):Tri.lf.get i=undef:=by cases i <;> rfl
theorem Tri.get_succ(l:Tri)(v:Value)(r:Tri)(k:Nat):(Tri.nd l v r).get (k+1)=if k % 2=0 then l.get (k / 2)else r.get (k / 2):=by
 show(bif Lf (k % 2) 0 then l.get (k / 2)else r.get (k / 2))=_;by_cases h:k % 2=0
 ·rw[h];rfl
 ·rw[aB h,if_neg h];rfl
theorem Tri.set_lf(f k:Nat)(x:Value):Tri.set (f+1) .lf (k+1) x=if k % 2=0 then Tri.nd (Tri.set f .lf (k / 2) x) undef .lf else Tri.nd .lf undef (Tri.set f .lf (k / 2) x):=by
 show(bif Lf (k % 2) 0 then _ else _)=_;by_cases h:k % 2=0
 ·rw[h];rfl
 ·rw[aB h,if_neg h];rfl
theorem Tri.set_nd(f k:Nat)(l:Tri)(v:Value)(r:Tri)(x:Value):Tri.set (f+1) (.nd l v r) (k+1) x=if k % 2=0 then Tri.nd (Tri.set f l (k / 2) x) v r else Tri.nd l v (Tri.set f r (k / 2) x):=by
 show(bif Lf (k % 2) 0 then _ else _)=_;by_cases h:k % 2=0
 ·rw[h];rfl
 ·rw[aB h,if_neg h];rfl
theorem Tri.lf_get(j:Nat):(Tri.nd .lf undef .lf).get j=Tri.lf.get j:=by
 cases j with
 |zero=>rfl
 |succ j=>rw[Tri.get_succ];simp only[Tri.get_lf,ite_self]
theorem Tri.get_set:∀(f:Nat) (t:Tri) (i:Nat) (x:Value) (j:Nat),i+1<2 ^ f->(t.set f i x).get j=if j=i then x else t.get j
 |0,t,i,x,j,h=>by simp at h
 |f+1,t,0,x,j,_=>by
  cases t with
  |lf=>
   show(Tri.nd .lf x .lf).get j=_;cases j with
   |zero=>rfl
   |succ j=>rw[if_neg (by omega),Tri.get_succ];simp only[Tri.get_lf,ite_self]
  |nd l v r=>
   show(Tri.nd l x r).get j=_;cases j with
   |zero=>rfl
   |succ j=>rw[if_neg (by omega),Tri.get_succ,Tri.get_succ]
 |f+1,t,k+1,x,j,h=>by
  have hk:k / 2+1<2 ^ f:=by rw[Nat.pow_succ]at h;omega
  by_cases he:k % 2=0
  ·have key:∀l v r,(Tri.nd (Tri.set f l (k / 2) x) v r).get j=if j=k+1 then x else(Tri.nd l v r).get j:=by
    intro l v r;cases j with
    |zero=>rfl
    |succ j=>
     rw[Tri.get_succ,Tri.get_succ,Tri.get_set f l (k / 2) x (j / 2) hk];by_cases hj:j % 2=0
     ·rw[if_pos hj,if_pos hj];by_cases e:j=k
      ·subst e;simp
      ·rw[if_neg (by omega),if_neg (by omega)]
     ·rw[if_neg hj,if_neg hj,if_neg (by omega)]
   cases t with
   |lf=>rw[Tri.set_lf,if_pos he,key,Tri.lf_get]
   |nd l v r=>rw[Tri.set_nd,if_pos he,key]
  ·have key:∀l v r,(Tri.nd l v (Tri.set f r (k / 2) x)).get j=if j=k+1 then x else(Tri.nd l v r).get j:=by
    intro l v r;cases j with
    |zero=>rfl
    |succ j=>
     rw[Tri.get_succ,Tri.get_succ,Tri.get_set f r (k / 2) x (j / 2) hk];by_cases hj:j % 2=0
     ·rw[if_pos hj,if_pos hj,if_neg (by omega)]
     ·rw[if_neg hj,if_neg hj];by_cases e:j=k
      ·subst e;simp
      ·rw[if_neg (by omega),if_neg (by omega)]
   cases t with
   |lf=>rw[Tri.set_lf,if_neg he,key,Tri.lf_get]
   |nd l v r=>rw[Tri.set_nd,if_neg he,key]
structure Tm where
 len:Nat
 tr:Tri
def Zc(T:Tm)(t:Nat):Value:=T.tr.get t
def VG(T:Tm)(d:Option Tmp)(v:Value):Tm:=match d with|some d=>⟨T.len,T.tr.set 14 d v⟩|none=>T
def Zd(T:Tm):Operand->Option Value
 | .tmp t=>some (Zc T t)
 | .const v=>bif af v then some v else none
 | .func f=>some (.func (.func f) #[] #[])
 | .global _=>none
def TR(μ:Mu)(T:Tm)(A:Array Value):Prop:=T.len=A.size/\∀t,VR μ (Zc T t) (A.getD t undef)
theorem TR.mono{μ μ':Mu}(e:Ext μ μ'){T:Tm}{A:Array Value}(h:TR μ T A):TR μ' T A:=⟨h.1,fun t=>(h.2 t).mono e⟩
theorem UZ{T:Tm}{d:Option Tmp}{v:Value}:(VG T d v).len=T.len:=by cases d <;> rfl
theorem Qbi(d:Nat)(h:d<16000):d+1<2 ^ 14:=by omega
theorem vq{T:Tm}{d:Option Tmp}{v:Value}{t:Nat}(h:∀x,d=some x->x<16000):Zc (VG T d v) t=if d=some t then v else Zc T t:=by
 cases d with
 |none=>simp[VG]
 |some d=>
  have h2:=Qbi d (h d rfl);simp only[VG,Zc,YO];rw[Tri.get_set 14 _ d _ _ h2];by_cases e:d=t
  ·subst e;simp
  ·rw[if_neg (Ne.symm e),if_neg e]
theorem TR.put{μ:Mu}{T:Tm}{A:Array Value}(h:TR μ T A){d:Option Tmp}(hd:∀x,d=some x->x<T.len/\x<16000){v v':Value}(hv:VR μ v v'):TR μ (VG T d v) (match d with|some x=>A.setIfInBounds x v'|none=>A):=by
 refine⟨?_,fun t=> ?_⟩
 ·rw[UZ];cases d <;> simp[h.1]
 ·rw[vq fun x hx=>(hd x hx).2];cases d with
  |none=>simpa using h.2 t
  |some x=>
   have hx:x<A.size:=h.1 ▸ (hd x rfl).1;simp only[YO];by_cases e:x=t
   ·subst e;simpa[hx]using hv
   ·have:=h.2 t;simp[e]at this ⊢;exact this
def Sz:Value->Option Bool
 | .bool b=>some b
 |_=>none
def XS(ops:Array Oper)(T:Tm)(j:Nat):Option Bool:=
 match nth ops.toList j with
 |some o=>match o.dst with
  |some t=>Sz (Zc T t)
  |none=>none
 |none=>none
theorem jh{ops:Array Oper}{T:Tm}{j:Nat}:XS ops T j=match(ops[j]?).bind (·.dst)with
 |some t=>Sz (Zc T t)
 |none=>none:=by
 unfold XS;rw[bR,Lr];cases ops[j]? <;> rfl
theorem lS{ops:Array Oper}{A:Array Value}{j:Nat}:yielded ops A j=match(ops[j]?).bind (·.dst)with
 |some t=>Sz (A.getD t undef)
 |none=>none:=by
 unfold yielded;cases(ops[j]?).bind (·.dst)with
 |none=>rfl
 |some t=>
  simp only[Option.bind_some,Array.getD_eq_getD_getElem?];cases A[t]? with
  |none=>rfl
  |some v=>cases v <;> rfl
theorem Ee{μ:Mu}{v v':Value}(h:VR μ v v'):Sz v'=Sz v:=by
 cases h with
 |Y5 a b c=>
  cases v' with
  |bool q=>exact absurd rfl (a q)
  |_=>rfl
 |top a b c=>
  cases v' with
  |bool q=>exact absurd rfl (c.nobool a q)
  |_=>rfl
 |_=>rfl

structure Rec where
 o:Oper
 run:Bool
 v:Value
 T:Tm
 H:Qq
 H':Qq
 n:Nat
 n':Nat
 R:List Nat
 W:List Nat
def Yn:List Rec->Tm->Qq->Nat->Tm->Qq->Nat->Prop
 |[],T,H,n,T',H',n'=>T=T'/\H=H'/\n=n'
 |r::l,T,H,n,T',H',n'=>r.T=T/\r.H=H/\r.n=n/\Yn l (VG T r.o.dst r.v) r.H' r.n' T' H' n'
structure dm (len:Nat) (r:Rec):Prop where
 le:r.n<=r.n'
 keep:∀i,i<r.n->i ∉ r.W->Qt r.H' i=Qt r.H i
 top:∀i,r.n'<=i->Qt r.H' i=Qt r.H i
 sub:∀i,i∈r.W->i∈r.R
 wlt:∀i,i∈r.W->i<r.n'
 dst:∀x,r.o.dst=some x->x<len/\x<16000
def fq(r:Rec)(i:Nat):Bool:=r.W.contains i || (LP r.n i && Ls i r.n')
theorem aR{r:Rec}{i:Nat}:fq r i=true<->i∈r.W\/(r.n<=i/\i<r.n'):=by
 simp only[fq,Bool.or_eq_true,List.contains_iff_mem,YB];refine or_congr Iff.rfl ⟨fun h=>⟨YL h.1,YL h.2⟩,fun h=>⟨LD h.1,LD h.2⟩⟩
def cH(i:Nat)(r:Rec):Option (Option Obj):=bif fq r i then some (Qt r.H' i)else none
def cT(t:Nat)(r:Rec):Option Value:=if r.o.dst=some t then some r.v else none
theorem Ol{len:Nat}{r:Rec}(h:dm len r)(i:Nat)(a:Option Obj)(ha:a=Qt r.H i):OJ true (cH i r) a=Qt r.H' i:=by
 unfold cH;cases ht:fq r i with
 |true=>rfl
 |false=>
  simp only[cond_false,OJ];have hn:¬(i∈r.W\/(r.n<=i/\i<r.n')):=fun e=>by rw[aR.2 e]at ht;cases ht
  rw[ha];rcases LJ i r.n with Xp|hge
  ·exact(h.keep i Xp fun e=>hn (.inl e)).symm
  ·exact(h.top i (by
    rcases LJ i r.n' with h1|h1
    ·exact absurd (.inr ⟨hge,h1⟩) hn
    ·exact h1)).symm
theorem eZ{len:Nat}(i:Nat):∀(l:List Rec) (k:Nat) (T:Tm) (H:Qq) (n:Nat) (T':Tm) (H':Qq) (n':Nat),Yn l T H n T' H' n'->(∀r∈l,dm len r)->
 (∀j r,l[j]? =some r->Qt r.H i=Kk (fun q=>decide (q<k+j)) (l.map (cH i)) k (Qt H i))/\Qt H' i=Kk (fun _=>true) (l.map (cH i)) k (Qt H i)
 |[],k,T,H,n,T',H',n',h,_=>⟨fun j r hr=>by simp at hr,by obtain⟨_,rfl,_⟩:=h;rfl⟩
 |r::l,k,T,H,n,T',H',n',h,hs=>by
  obtain⟨h1,h2,h3,h4⟩:=h;obtain⟨q1,q2⟩:=eZ i l (k+1) _ _ _ _ _ _ h4 fun x hx=>hs x (Lw _ hx)
  have ZB:=Ol (hs r (by simp)) i (Qt H i) (by rw[h2]);refine⟨fun j x hx=> ?_, ?_⟩
  ·cases j with
   |zero=>
    simp only[Lv,YO]at hx;subst hx;rw[UG _ _ _ fun a y _=>by simp,h2]
   |succ j=>
    rw[q1 j x (by simpa using hx)];simp only[List.map_cons,Kk];rw[show(decide (k<k+(j+1)))=true by simp];rw[ZB];exact Wv _ _ _ fun a y _=>by rw[show k+1+j=k+(j+1)by omega]
  ·rw[q2];simp only[List.map_cons,Kk];rw[ZB]
theorem KI{len:Nat}(t:Nat):∀(l:List Rec) (k:Nat) (T:Tm) (H:Qq) (n:Nat) (T':Tm) (H':Qq) (n':Nat),Yn l T H n T' H' n'->(∀r∈l,dm len r)->T.len=len->
 (∀j r,l[j]? =some r->r.T.len=len/\Zc r.T t=Kk (fun q=>decide (q<k+j)) (l.map (cT t)) k (Zc T t))/\T'.len=len/\Zc T' t=Kk (fun _=>true) (l.map (cT t)) k (Zc T t)
 |[],k,T,H,n,T',H',n',h,_,hl=>⟨fun j r hr=>by simp at hr,by obtain⟨rfl,_⟩:=h;exact⟨hl,rfl⟩⟩
 |r::l,k,T,H,n,T',H',n',h,hs,hl=>by
  obtain⟨h1,h2,h3,h4⟩:=h;have hd:=(hs r (by simp)).dst;have hlen:(VG T r.o.dst r.v).len=len:=by rw[UZ];exact hl
  obtain⟨q1,q2,q3⟩:=KI t l (k+1) _ _ _ _ _ _ h4 (fun x hx=>hs x (Lw _ hx)) hlen;have ZB:OJ true (cT t r) (Zc T t)=Zc (VG T r.o.dst r.v) t:=by
   rw[vq fun x hx=>(hd x hx).2];unfold cT;split <;> rfl
  refine⟨fun j x hx=> ?_,q2, ?_⟩
  ·cases j with
   |zero=>
    simp only[Lv,YO]at hx;subst hx;rw[UG _ _ _ fun a y _=>by simp,h1];exact⟨hl,rfl⟩
   |succ j=>
    obtain⟨a1,a2⟩:=q1 j x (by simpa using hx);refine⟨a1, ?_⟩;rw[a2];simp only[List.map_cons,Kk];rw[show(decide (k<k+(j+1)))=true by simp];rw[ZB];exact Wv _ _ _ fun a y _=>by rw[show k+1+j=k+(j+1)by omega]
  ·rw[q3];simp only[List.map_cons,Kk];rw[ZB]
theorem P2{len:Nat}:∀(l:List Rec) (T:Tm) (H:Qq) (n:Nat) (T':Tm) (H':Qq) (n':Nat),Yn l T H n T' H' n'->(∀r∈l,dm len r)->
 n<=n'/\(∀r∈l,n<=r.n/\r.n'<=n')/\(∀(i j:Nat) (a b:Rec),i<j->l[i]? =some a->l[j]? =some b->a.n'<=b.n)/\(∀x,n<=x->x<n'->∃(j:Nat) (r:Rec),l[j]? =some r/\r.n<=x/\x<r.n')
 |[],T,H,n,T',H',n',h,_=>by obtain⟨_,_,rfl⟩:=h;exact⟨LH _,by simp,fun i j a b _ h=>by simp at h,fun x h1 h2=>absurd h1 (by omega)⟩
 |r::l,T,H,n,T',H',n',h,hs=>by
  obtain⟨h1,h2,h3,h4⟩:=h;obtain⟨q1,q2,q3,q4⟩:=P2 l _ _ _ _ _ _ h4 fun x hx=>hs x (Lw _ hx)
  have hr:=(hs r (by simp)).le;refine⟨by omega,fun x hx=> ?_,fun i j a b ay ha hb=> ?_,fun x hx1 hx2=> ?_⟩
  ·rcases List.mem_cons.1 hx with rfl|hx
   ·omega
   ·have:=q2 x hx;omega
  ·cases j with
   |zero=>omega
   |succ j=>
    cases i with
    |zero=>
     simp only[Lv,YO]at ha;subst ha;exact(q2 b (Lp (by simpa using hb))).1
    |succ i=>exact q3 i j a b (by omega) (by simpa using ha) (by simpa using hb)
  ·rcases LJ x r.n' with Xp|hge
   ·exact⟨0,r,rfl,by omega,Xp⟩
   ·obtain⟨j,r',hj,hx⟩:=q4 x hge hx2;exact⟨j+1,r',by simpa using hj,hx⟩

theorem Af{α:Type}{l m:List α}{i:Nat}{d:α}(h:i<l.length):(l++m).getD i d=l.getD i d:=by
 rw[Lq,Lq,Ly h]
def kB:List Oper->List Nat->List Nat
 |[],acc=>acc
 |o::l,acc=>kB l (acc++[o.after.toList.foldr (fun e m=>bif Region.binds .any e then Nat.lor (Nat.lor (Nat.shiftLeft 1 e.on) (acc.getD e.on 0)) m else m) 0])
def Me(n m:Nat):List Nat:=(Lg n).filter fun i=>Lf (Nat.land (Nat.shiftRight m i) 1) 1
theorem si{n m i:Nat}:i∈Me n m<->i<n/\m.testBit i=true:=by
 unfold Me;rw[List.mem_filter,List.mem_range,Nat.beq_eq,Nat.testBit_eq_decide_div_mod_eq,decide_eq_true_iff];show(i<n/\(m >>> i) &&& 1=1)<->_;rw[Nat.and_one_is_mod,Nat.shiftRight_eq_div_pow]
theorem DQ{a b i:Nat}:(Nat.lor a b).testBit i=(a.testBit i || b.testBit i):=Nat.testBit_or a b i
theorem NM{k i:Nat}(h:(Nat.shiftLeft 1 k).testBit i=true):i=k:=by
 have e:Nat.shiftLeft 1 k=2 ^ k:=by show 1 <<< k=_;rw[Nat.shiftLeft_eq,Nat.one_mul]
 rw[e,Nat.testBit_two_pow]at h;exact(of_decide_eq_true h).symm
theorem qd{acc:List Nat}{i:Nat}:∀(l:List Edge),(l.foldr (fun e m=>bif Region.binds .any e then Nat.lor (Nat.lor (Nat.shiftLeft 1 e.on) (acc.getD e.on 0)) m else m) 0).testBit i=true->∃e∈l,Region.binds .any e=true/\(i=e.on\/(acc.getD e.on 0).testBit i=true)
 |[],h=>by simp at h
 |e::l,h=>by
  rw[List.foldr_cons]at h;cases hb:Region.binds .any e with
  |false=>
   rw[hb,cond_false]at h;obtain⟨x,hx,h1⟩:=qd l h;exact⟨x,Lw _ hx,h1⟩
  |true=>
   rw[hb,cond_true,DQ,DQ,Bool.or_eq_true,Bool.or_eq_true]at h;rcases h with (h|h)|h
   ·exact⟨e,List.mem_cons_self,hb,Or.inl (NM h)⟩
   ·exact⟨e,List.mem_cons_self,hb,Or.inr h⟩
   ·obtain⟨x,hx,h1⟩:=qd l h;exact⟨x,Lw _ hx,h1⟩
def P3(l:List Oper)(_:List (List Nat)):List (List Nat):=(kB l []).map (Me l.length)
def Bef(ops:List Oper)(bs:List (List Nat)):Prop:=bs.length<=ops.length/\∀k b,bs[k]? =some b->∀i∈b,∃o,ops[k]? =some o/\∃e∈o.after,Region.binds .any e=true/\e.on<k/\(i=e.on\/i∈bs.getD e.on [])
def Qbv(ops:List Oper)(bs:List Nat):Prop:=bs.length<=ops.length/\∀k b,bs[k]? =some b->∀i,b.testBit i=true->∃o,ops[k]? =some o/\∃e∈o.after,Region.binds .any e=true/\e.on<k/\(i=e.on\/(bs.getD e.on 0).testBit i=true)
theorem Av:∀(l pre:List Oper) (acc:List Nat),acc.length=pre.length->Qbv (pre++l) acc->(∀(k:Nat) o,(pre++l)[k]? =some o->∀e∈o.after,Region.binds .any e=true->e.on<k)->Qbv (pre++l) (kB l acc)/\(kB l acc).length=(pre++l).length
 |[],pre,acc,hl,h,_=>⟨h,by simpa[kB]using hl⟩
 |o::l,pre,acc,hl,h,Xp=>by
  have e:pre++o::l=(pre++[o])++l:=by simp
  rw[e]at h Xp ⊢;refine Av l (pre++[o]) _ (by simp[hl]) ⟨by simp[hl],fun k b hb i hi=> ?_⟩ Xp;rcases LJ k acc.length with hk|hk
  ·rw[Ly hk]at hb;obtain⟨x,hx,ed,hed,hbd,hon,ZU⟩:=h.2 k b hb i hi;refine⟨x,hx,ed,hed,hbd,hon,ZU.imp id fun h=> ?_⟩;rwa[Af (by omega)]
  ·have hk0:k=acc.length:=by
    have:=(List.getElem?_eq_some_iff.1 hb).1;simp at this;omega
   subst hk0;rw[Ll (LH _)]at hb;simp only[Nat.sub_self,Lv,YO]at hb;subst hb;have ho:((pre++[o])++l)[acc.length]? =some o:=by rw[hl];simp
   obtain⟨ed,hed,hbd,hi⟩:=qd _ hi;have hon:=Xp acc.length o ho ed (by simpa using hed) hbd;exact⟨o,ho,ed,by simpa using hed,hbd,hon,hi.imp id fun h=>by rwa[Af (by omega)]⟩
theorem uB(l:List Oper)(Xp:∀(k:Nat) o,l[k]? =some o->∀e∈o.after,Region.binds .any e=true->e.on<k):Bef l (P3 l [])/\(P3 l []).length=l.length:=by
 obtain⟨⟨h1,h2⟩,h3⟩:=Av l [] [] rfl ⟨by simp,fun q b hq=>by simp at hq⟩ (fun q o ho=>Xp q o (by simpa using ho));simp only[List.nil_append]at h1 h2 h3;refine⟨⟨by simpa[P3]using h1,fun k b hb i hi=> ?_⟩,by simpa[P3]using h3⟩;unfold P3 at hb ⊢;rw[LC]at hb;cases hm:(kB l [])[k]? with
 |none=>rw[hm]at hb;cases hb
 |some m=>
  rw[hm]at hb;simp only[LI,YO]at hb;subst hb;obtain⟨hi1,hi2⟩:=si.1 hi;obtain⟨o,ho,e,he,hbd,hon,ZU⟩:=h2 k m hm i hi2;refine⟨o,ho,e,he,hbd,hon,ZU.imp id fun h=> ?_⟩;have hk:k<(kB l []).length:=(List.getElem?_eq_some_iff.1 hm).1;have he2:e.on<(kB l []).length:=by omega
  rw[Lq,LC,LZ he2];rw[Lq,LZ he2]at h;exact si.2 ⟨hi1,h⟩
theorem Dr{ops:List Oper}{bs:List (List Nat)}(h:Bef ops bs){D:Nat->Bool}(hD:∀k o,D k=true->ops[k]? =some o->∀e∈o.after,Region.binds .any e=true->D e.on=true):
 ∀(k:Nat),(∀o,ops[k]? =some o->∀e∈o.after,Region.binds .any e=true->D e.on=true)->∀i∈bs.getD k [],D i=true:=by
 intro k;induction k using Lz with
 |_ k ih=>
  intro hk i hi;rw[Lq]at hi;cases hb:bs[k]? with
  |none=>rw[hb]at hi;simp at hi
  |some b=>
   rw[hb]at hi;obtain⟨o,ho,e,he,hbd,hon,ZU⟩:=h.2 k b hb i hi;have hDe:=hk o ho e he hbd;rcases ZU with rfl|ZU
   ·exact hDe
   ·exact ih e.on hon (fun o' Kt=>hD e.on o' hDe Kt) i ZU
end Go.CE

namespace Go.CE
open Go Go.RowKit

inductive OO where
 |ret (v:Value)
 |Wn (v:Value)
inductive OR2 (μ:Mu):OO->OO->Prop
 |ret {v v'}:VR μ v v'->OR2 μ (.ret v) (.ret v')
 |Wn {v v'}:VR μ v v'->OR2 μ (.Wn v) (.Wn v')
def OO.on(fr:Frame):OO->Frame
 | .ret v=>fr.finish v
 | .Wn v=>fr.raise [{v,recovered:=false}]
def T3(P:Program)(B:Lo)(o:Oper)(ev:Operand->Option Value)(H:Qq)(n:Nat)(out:OO)(H':Qq)(n':Nat)(R W:List Nat):Prop:=
 ∀(S:Nat->Prop) (μ:Mu) (w:World) (fr:Frame) (cs:List Frame) (k:List Item) (ops:Array Oper) (i:Nat) (rest:List Nat),Ok B S μ (Qt H) w->B.has w->(∀i,S i->i<n)->P4 μ n n'->
  (∀x∈o.op.operands,∀v,ev x=some v->VR μ v (fr.eval x))->(∀i∈R,i<n->S i)->
  fr.mode=.run->fr.todo=.inRegion ops (i::rest)::k->ops[i]? =some o->Region.wanted o (yielded ops fr.tmps)=true->
  ∃Zh w' μ',Post B S n n' W μ μ' H H' w w'/\OR2 μ' out Zh/\Steps P (lone fr cs w) (lone (Zh.on fr) cs w')
def Sl(P:Program)(B:Lo)(ops:Array Oper)(r:Rec):Prop:=
 (r.run=Region.wanted r.o (XS ops r.T))/\(r.run=true->T3 P B r.o (Zd r.T) r.H r.n (.ret r.v) r.H' r.n' r.R r.W)/\(r.run=false->r.v=undef/\r.H'=r.H/\r.n'=r.n/\r.W=[])

def meets(r x:Rec):Bool:=r.W.any fun i=>x.R.contains i
def bears(r x:Rec):Bool:=x.R.any fun i=>LP r.n i && Ls i r.n'
def tied(ops:Array Oper)(r x:Rec):Bool:= !(r.o.apart ops x.o) || meets r x || meets x r || bears r x
def Yg(ops:Array Oper)(r:Rec)(k:Nat):List Rec->List (List Nat)->Bool
 |x::l,b::bs=>(b.contains k || !(tied ops r x)) && Yg ops r k l bs
 |[],_=>true
 |_::_,[]=>false
def indep(ops:Array Oper):Nat->List Rec->List (List Nat)->Bool
 |k,r::l,_::bs=>Yg ops r k l bs && indep ops (k+1) l bs
 |_,[],_=>true
 |_,_::_,[]=>false
theorem bT{ops:Array Oper}{r:Rec}{k:Nat}:∀(l:List Rec) (bs:List (List Nat)),Yg ops r k l bs=true->∀(j:Nat) x,l[j]? =some x->tied ops r x=true->k∈bs.getD j []
 |x::l,b::bs,h,j,y,hj,ht=>by
  simp only[Yg,YB,Bool.or_eq_true,Bool.not_eq_true',List.contains_iff_mem]at h;cases j with
  |zero=>
   simp only[Lv,YO]at hj;subst hj;rcases h.1 with h1|h1
   ·simpa using h1
   ·rw[ht]at h1;cases h1
  |succ j=>
   have:=bT l bs h.2 j y (by simpa using hj) ht;simpa using this
 |[],_,_,j,y,hj,_=>by simp at hj
 |_::_,[],h,_,_,_,_=>by simp[Yg]at h
theorem aw{ops:Array Oper}:∀(l:List Rec) (bs:List (List Nat)) (k:Nat),indep ops k l bs=true->∀(i j:Nat) r x,i<j->l[i]? =some r->l[j]? =some x->tied ops r x=true->k+i∈bs.getD j []
 |r::l,b::bs,k,h,i,j,y,x,ay,hi,hj,ht=>by
  simp only[indep,YB]at h;cases j with
  |zero=>omega
  |succ j=>
   cases i with
   |zero=>
    simp only[Lv,YO]at hi;subst hi;have:=bT l bs h.1 j x (by simpa using hj) ht;simpa using this
   |succ i=>
    have:=aw l bs (k+1) h.2 i j y x (by omega) (by simpa using hi) (by simpa using hj) ht;rw[show k+1+i=k+(i+1)by omega]at this;simpa using this
 |[],_,_,_,i,j,y,x,_,hi,_,_=>by simp at hi
 |_::_,[],_,h,_,_,_,_,_,_,_,_=>by simp[indep]at h
theorem PG.congr{B:Nat}{S New New' W W':Nat->Prop}{μ μ':Mu}{G G' G'':Nat->Option Obj}{w w':World}(h:PG B S New W μ μ' G G' w w')(hN:∀i,New i<->New' i)(hW:∀i,W i<->W' i)(hG:∀i,G' i=G'' i):PG B S New' W' μ μ' G G'' w w':=by
 have e1:New=New':=funext fun i=>propext (hN i)
 have e2:W=W':=funext fun i=>propext (hW i)
 have e3:G'=G'':=funext hG;subst e1 e2 e3;exact h

def QbC(ops:Array Oper)(Qz:List Rec)(bs:List (List Nat)):Prop:=∀(i j:Nat) (r x:Rec),i<j->Qz[i]? =some r->Qz[j]? =some x->tied ops r x=true->0+i∈bs.getD j []
structure Setup (P:Program) (B:Lo) (ops:Array Oper) (Qz:List Rec) (bs:List (List Nat)) (T:Tm) (H:Qq) (n:Nat) (T':Tm) (H':Qq) (n':Nat):Prop where
 chain:Yn Qz T H n T' H' n'
 Sm:∀r∈Qz,dm T.len r
 own:∀(i:Nat) r,Qz[i]? =some r->ops[i]? =some r.o
 len:Qz.length=ops.size
 bef:Bef ops.toList bs
 ind:QbC ops Qz bs
 edge:∀(k:Nat) o,ops[k]? =some o->∀e∈o.after,Region.binds .any e=true->e.on<k
section
variable {P:Program} {B:Lo} {ops:Array Oper} {Qz:List Rec} {bs:List (List Nat)} {T:Tm} {H:Qq} {n:Nat} {T':Tm} {H':Qq} {n':Nat}
def gD(Qz:List Rec)(H:Qq)(D:Nat->Bool)(i:Nat):Option Obj:=Kk D (Qz.map (cH i)) 0 (Qt H i)
def tD(Qz:List Rec)(T:Tm)(D:Nat->Bool)(t:Nat):Value:=Kk D (Qz.map (cT t)) 0 (Zc T t)
def uK(Qz:List Rec)(D:Nat->Bool)(i:Nat):Prop:=∃(j:Nat) (r:Rec),D j=true/\Qz[j]? =some r/\r.n<=i/\i<r.n'
def WD(Qz:List Rec)(n:Nat)(D:Nat->Bool)(i:Nat):Prop:=i<n/\∃(j:Nat) (r:Rec),D j=true/\Qz[j]? =some r/\i∈r.W
def UO(ops:Array Oper)(D:Nat->Bool):Prop:=∀k o,D k=true->ops[k]? =some o->∀e∈o.after,Region.binds .any e=true->D e.on=true
theorem qx(h:Setup P B ops Qz bs T H n T' H' n'){D:Nat->Bool}(hD:UO ops D){k:Nat}(hk:∀o,ops[k]? =some o->∀e∈o.after,Region.binds .any e=true->D e.on=true):∀i∈bs.getD k [],D i=true:=
 Dr h.bef (fun k o a b=>hD k o a (by simpa using b)) k (fun o a=>hk o (by simpa using a))
theorem vA(h:Setup P B ops Qz bs T H n T' H' n'){D:Nat->Bool}(hD:UO ops D){j:Nat}{x:Rec}(hj:Qz[j]? =some x)(hn:D j=false)(hr:∀o,ops[j]? =some o->∀e∈o.after,Region.binds .any e=true->D e.on=true)
 {i:Nat} {r:Rec} (hi:Qz[i]? =some r) (ht:(i<j->tied ops r x=true)/\(j<i->tied ops x r=true)):D i=decide (i<j):=by
 rcases Nat.lt_trichotomy i j with Xp|heq|hgt
 ·have:=h.ind i j r x Xp hi hj (ht.1 Xp);rw[LB]at this;rw[qx h hD hr i this];simp[Xp]
 ·subst heq;rw[hn];simp
 ·have:=h.ind j i x r hgt hj hi (ht.2 hgt);rw[LB]at this;have hf:D i=false:=by
   cases hd:D i with
   |false=>rfl
   |true=>
    have:=qx h hD (k:=i) (fun o ho=>hD i o hd ho) j this;rw[hn]at this;cases this
  rw[hf];simp;omega
theorem jv{r x:Rec}{t:Nat}(ht:r.o.dst=some t)(hl:t∈x.o.looksAt ops\/x.o.dst=some t):tied ops r x=true/\tied ops x r=true:=by
 constructor
 ·have:r.o.apart ops x.o=false:=by
   cases hap:r.o.apart ops x.o with
   |false=>rfl
   |true=>
    obtain⟨h1,h2,_⟩:=Oper.apart_spec hap;rcases hl with hl|hl
    ·exact absurd hl (h1 t ht)
    ·exact absurd hl (h2 t ht)
  simp[tied,this]
 ·have:x.o.apart ops r.o=false:=by
   cases hap:x.o.apart ops r.o with
   |false=>rfl
   |true=>
    obtain⟨_,h2,h3⟩:=Oper.apart_spec hap;rcases hl with hl|hl
    ·exact absurd hl (h3 t ht)
    ·exact absurd ht (h2 t hl)
  simp[tied,this]
theorem lL{t:Nat}{i:Nat}{v:Value}(h:(Qz.map (cT t))[i]? =some (some v)):∃r,Qz[i]? =some r/\r.o.dst=some t/\r.v=v:=by
 rw[LC]at h;cases hr:Qz[i]? with
 |none=>rw[hr]at h;cases h
 |some r=>
  rw[hr]at h;simp only[LI,YO,cT]at h;split at h
  ·rename_i hd;exact⟨r,rfl,hd,by simpa using h⟩
  ·cases h
theorem lN{q:Nat}{i:Nat}{v:Option Obj}(h:(Qz.map (cH q))[i]? =some (some v)):∃r,Qz[i]? =some r/\(q∈r.W\/(r.n<=q/\q<r.n'))/\Qt r.H' q=v:=by
 rw[LC]at h;cases hr:Qz[i]? with
 |none=>rw[hr]at h;cases h
 |some r=>
  rw[hr]at h;simp only[LI,YO,cH]at h;cases ht:fq r q with
  |false=>rw[ht]at h;cases h
  |true=>rw[ht]at h;exact⟨r,rfl,aR.1 ht,by simpa using h⟩
theorem vu(h:Setup P B ops Qz bs T H n T' H' n'){D:Nat->Bool}(hD:UO ops D){j:Nat}{x:Rec}(hj:Qz[j]? =some x)(hn:D j=false)(hr:∀o,ops[j]? =some o->∀e∈o.after,Region.binds .any e=true->D e.on=true)
 {t:Nat} (ht:t∈x.o.looksAt ops):tD Qz T D t=Zc x.T t:=by
 obtain⟨q1,_⟩:=KI (len:=T.len) t Qz 0 T H n T' H' n' h.chain h.Sm rfl;rw[(q1 j x hj).2];refine Wv _ _ _ fun i v hv=> ?_
 obtain⟨r,Pe,hd,_⟩:=lL hv;have htt:=jv (ops:=ops) hd (.inl ht);simp only[LB];exact vA h hD hj hn hr Pe ⟨fun _=>htt.1,fun _=>htt.2⟩
theorem Ep(h:Setup P B ops Qz bs T H n T' H' n'){i j:Nat}{r x:Rec}{q:Nat}(hi:Qz[i]? =some r)(hj:Qz[j]? =some x)(hq:q∈x.R)(hqn:q<x.n)(hr:q∈r.W\/(r.n<=q/\q<r.n')):(i<j->tied ops r x=true)/\(j<i->tied ops x r=true):=by
 have Sw:=P2 Qz T H n T' H' n' h.chain h.Sm;rcases hr with hr|hr
 ·have m1:meets r x=true:=List.any_eq_true.2 ⟨q,hr,by simpa using hq⟩;exact⟨fun _=>by simp[tied,m1],fun _=>by simp[tied,m1]⟩
 ·refine⟨fun _=> ?_,fun Xp=> ?_⟩
  ·have:bears r x=true:=List.any_eq_true.2 ⟨q,hq,by simp only[YB];exact⟨LD hr.1,LD hr.2⟩⟩;simp[tied,this]
  ·have h1:=Sw.2.2.1 j i x r Xp hj hi;have h2:=(h.Sm x (Lp hj)).le;omega
theorem M0(h:Setup P B ops Qz bs T H n T' H' n'){D:Nat->Bool}(hD:UO ops D){j:Nat}{x:Rec}(hj:Qz[j]? =some x)(hn:D j=false)(hr:∀o,ops[j]? =some o->∀e∈o.after,Region.binds .any e=true->D e.on=true)
 {q:Nat} (hq:q∈x.R) (hqn:q<x.n):gD Qz H D q=Qt x.H q:=by
 obtain⟨q1,_⟩:=eZ (len:=T.len) q Qz 0 T H n T' H' n' h.chain h.Sm;rw[q1 j x hj];refine Wv _ _ _ fun i v hv=> ?_
 obtain⟨r,Pe,hd,_⟩:=lN hv;simp only[LB];exact vA h hD hj hn hr Pe (Ep h Pe hj hq hqn hd)
end
end Go.CE

namespace Go.CE
open Go Go.RowKit

theorem Ok.congr{B:Nat}{S:Nat->Prop}{μ:Mu}{G G':Nat->Option Obj}{w:World}(h:Ok B S μ G w)(hg:∀i,S i->G' i=G i):Ok B S μ G' w:=
 ⟨fun i o a b c=>h.rel i o a (by rw[<-hg i a];exact b) c,fun i o im a b c d=>h.low i o im a (by rw[<-hg i a];exact b) c d,
  fun i j oi oj x y a b c d e=>h.inj i j oi oj x y a b c (by rw[<-hg i a];exact d) (by rw[<-hg j b];exact e),
  fun i o a b=>h.Pj i o a (by rw[<-hg i a];exact b),fun i j oi oj x y z a b c d=>h.sep i j oi oj x y z a b (by rw[<-hg i a];exact c) (by rw[<-hg j b];exact d)⟩
def Xu(fr:Frame)(A:Array Value)(ops:Array Oper)(l:List Nat)(k:List Item):Frame:={fr with tmps:=A,todo:=.inRegion ops l::k}
theorem a9{fr:Frame}{A:Array Value}{ops:Array Oper}{i:Nat}{l:List Nat}{k:List Item}{o:Oper}(ho:ops[i]? =some o)(v:Value):
 (Xu fr A ops (i::l) k).finish v=Xu fr (match o.dst with|some d=>A.setIfInBounds d v|none=>A) ops l k:=by
 simp only[Frame.finish,Xu,ho,Option.bind_some];cases o.dst <;> rfl
theorem fx{P:Program}{fr:Frame}{cs:List Frame}{w:World}{A:Array Value}{ops:Array Oper}{i:Nat}{l:List Nat}{k:List Item}{o:Oper}(hm:fr.mode=.run)(ho:ops[i]? =some o)(hw:Region.wanted o (yielded ops A)=false):
 step P (lone (Xu fr A ops (i::l) k) cs w)=.next (lone ((Xu fr A ops (i::l) k).finish undef) cs w):=
 step_lone_go (by simp[stepG,stepG.exec,Xu,hm,ho,hw])
theorem Uf{P:Program}{fr:Frame}{cs:List Frame}{w:World}{A:Array Value}{ops:Array Oper}{k:List Item}(hm:fr.mode=.run):
 step P (lone (Xu fr A ops [] k) cs w)=.next (lone {fr with tmps:=A,todo:=k} cs w):=
 step_lone_go (by simp[stepG,stepG.exec,Xu,hm])
section
variable {P:Program} {B:Lo} {ops:Array Oper} {Qz:List Rec} {bs:List (List Nat)} {T:Tm} {H:Qq} {n:Nat} {T':Tm} {H':Qq} {n':Nat}
theorem Lo.has.pg{L:Lo}{S New W:Nat->Prop}{μ μ':Mu}{G G':Nat->Option Obj}{w w':World}(h:L.has w)(QE:Ok L.B S μ G w)(hp:PG L.B S New W μ μ' G G' w w'):L.has w':=by
 refine⟨Nat.le_trans h.le hp.grow,L.still w w' (fun b hb=>hp.frame b (Nat.lt_of_lt_of_le hb h.le) fun i hi im QJ=> ?_) h.inv⟩;obtain⟨hs,⟨o,ho,hl⟩,ZD,QN,Ja⟩:=hp.wr i hi;rw[QJ]at QN;cases QN;have:=(QE.low i o im hs ho hl QJ).2.1 Ja;omega
structure Inv (B:Nat) (Qz:List Rec) (T:Tm) (H:Qq) (n:Nat) (S:Nat->Prop) (μ0:Mu) (w0:World) (D:Nat->Bool) (μ:Mu) (A:Array Value) (w:World):Prop where
 pg:PG B S (uK Qz D) (WD Qz n D) μ0 μ (Qt H) (gD Qz H D) w0 w
 size:A.size=T.len
 tmps:∀t,VR μ (tD Qz T D t) (A.getD t undef)
theorem cover(h:Setup P B ops Qz bs T H n T' H' n'){D:Nat->Bool}(hD:UO ops D){j:Nat}{x:Rec}(hj:Qz[j]? =some x)(hr:∀o,ops[j]? =some o->∀e∈o.after,Region.binds .any e=true->D e.on=true)
 {q:Nat} (hq:q∈x.R) (hqn:q<x.n):q<n\/uK Qz D q:=by
 rcases LJ q n with Xp|hge
 ·exact .inl Xp
 ·have Sw:=P2 Qz T H n T' H' n' h.chain h.Sm;have hx:=Sw.2.1 x (Lp hj);have hxs:=(h.Sm x (Lp hj)).le;obtain⟨i,r,hi,h1,h2⟩:=Sw.2.2.2 q hge (by omega);rcases Nat.lt_trichotomy i j with Xp|heq|hgt
  ·have hb:bears r x=true:=List.any_eq_true.2 ⟨q,hq,by simp only[YB];exact⟨LD h1,LD h2⟩⟩;have:=h.ind i j r x Xp hi hj (by simp[tied,hb]);rw[LB]at this;exact .inr ⟨i,r,qx h hD hr i this,hi,h1,h2⟩
  ·subst heq;rw[hj]at hi;cases hi;omega
  ·have:=Sw.2.2.1 j i x r hgt hj hi;omega
theorem fi(h:Setup P B ops Qz bs T H n T' H' n'){D:Nat->Bool}(hD:UO ops D){j:Nat}{x:Rec}(hj:Qz[j]? =some x)(hn:D j=false)(hr:∀o,ops[j]? =some o->∀e∈o.after,Region.binds .any e=true->D e.on=true)
 {μ:Mu} {A:Array Value} (hA:∀t,VR μ (tD Qz T D t) (A.getD t undef)):Region.wanted x.o (yielded ops A)=Region.wanted x.o (XS ops x.T):=by
 unfold Region.wanted;cases hg:x.o.guard with
 |none=>rfl
 |some gw=>
  obtain⟨g,want⟩:=gw;have:yielded ops A g=XS ops x.T g:=by
   rw[lS,jh];cases hd:(ops[g]?).bind (·.dst)with
   |none=>rfl
   |some t=>
    have ht:t∈x.o.looksAt ops:=by simp[Oper.looksAt,hg,hd]
    have:=hA t;rw[vu h hD hj hn hr ht]at this;exact Ee this
  simp only[this]
theorem CY(h:Setup P B ops Qz bs T H n T' H' n'){D:Nat->Bool}(hD:UO ops D){j:Nat}{x:Rec}(hj:Qz[j]? =some x)(hn:D j=false)(hr:∀o,ops[j]? =some o->∀e∈o.after,Region.binds .any e=true->D e.on=true)
 {μ:Mu} {A:Array Value} (hA:∀t,VR μ (tD Qz T D t) (A.getD t undef)) {fr:Frame} {l:List Nat} {k:List Item}:∀y∈x.o.op.operands,∀v,Zd x.T y=some v->VR μ v ((Xu fr A ops l k).eval y):=by
 intro y hy v hv;cases y with
 |tmp t=>
  simp only[Zd,YO]at hv;subst hv;have ht:t∈x.o.looksAt ops:=by
   unfold Oper.looksAt;exact Lm _ (List.mem_filterMap.2 ⟨.tmp t,by simpa using hy,rfl⟩)
  rw[<-vu h hD hj hn hr ht];exact hA t
 |const u=>
  simp only[Zd]at hv;cases ha:af u with
  |false=>rw[ha]at hv;cases hv
  |true=>rw[ha]at hv;simp only[cond_true,YO]at hv;subst hv;exact PL ha
 |func f=>
  simp only[Zd,YO]at hv;subst hv;exact PL rfl
 |global g=>cases hv
theorem mz(h:Setup P B ops Qz bs T H n T' H' n'){D:Nat->Bool}(hD:UO ops D){j:Nat}{x:Rec}(hj:Qz[j]? =some x)(hn:D j=false){i:Nat}{r:Rec}(hi:Qz[i]? =some r)(Xp:j<i)(ht:tied ops x r=true):D i=false:=by
 have:=h.ind j i x r Xp hj hi ht;rw[LB]at this;cases hd:D i with
 |false=>rfl
 |true=>
  have:=qx h hD (k:=i) (fun o ho=>hD i o hd ho) j this;rw[hn]at this;cases this
def plus(D:Nat->Bool)(j:Nat):Nat->Bool:=fun k=>D k || Lf k j
theorem Vf{D:Nat->Bool}{j:Nat}:plus D j j=true:=by simp[plus]
theorem V7{D:Nat->Bool}{j k:Nat}(h:k≠j):plus D j k=D k:=by simp[plus,aB h]
theorem Nk(h:Setup P B ops Qz bs T H n T' H' n'){D:Nat->Bool}(hD:UO ops D){j:Nat}{x:Rec}(hj:Qz[j]? =some x)(hn:D j=false)(t:Nat):tD Qz T (plus D j) t=if x.o.dst=some t then x.v else tD Qz T D t:=by
 by_cases hd:x.o.dst=some t
 ·rw[if_pos hd];refine pW _ 0 j _ ?_ (by rw[LB];exact Vf) fun i y hi hy=> ?_
  ·rw[LC,hj];simp[cT,hd]
  ·rw[LB,V7 (by omega)];obtain⟨r,Pe,hrd,_⟩:=lL hy;exact mz h hD hj hn Pe hi (jv (ops:=ops) hd (.inr hrd)).1
 ·rw[if_neg hd];refine Wv _ _ _ fun i y hy=> ?_
  obtain⟨r,Pe,hrd,_⟩:=lL hy;rw[LB];refine V7 fun e=> ?_
  subst e;rw[hj]at Pe;cases Pe;exact hd hrd
theorem CX(h:Setup P B ops Qz bs T H n T' H' n'){D:Nat->Bool}(hD:UO ops D){j:Nat}{x:Rec}(hj:Qz[j]? =some x)(hn:D j=false){q:Nat}(hq:q∈x.W\/(x.n<=q/\q<x.n')):gD Qz H (plus D j) q=Qt x.H' q:=by
 refine pW _ 0 j _ ?_ (by rw[LB];exact Vf) fun i y hi hy=> ?_
 ·rw[LC,hj];simp[cH,aR.2 hq]
 ·rw[LB,V7 (by omega)];obtain⟨r,Pe,hrd,_⟩:=lN hy;have Sw:=P2 Qz T H n T' H' n' h.chain h.Sm;have hsr:=h.Sm r (Lp Pe);have hsx:=h.Sm x (Lp hj);have Xp:=Sw.2.2.1 j i x r hi hj Pe;have hxl:=hsx.le;refine mz h hD hj hn Pe hi ?_;rcases hq with hq|hq
  ·rcases hrd with hrd|hrd
   ·have:meets x r=true:=List.any_eq_true.2 ⟨q,hq,by simpa using hsr.sub q hrd⟩;simp[tied,this]
   ·have:=hsx.wlt q hq;omega
  ·rcases hrd with hrd|hrd
   ·have:bears x r=true:=List.any_eq_true.2 ⟨q,hsr.sub q hrd,by simp only[YB];exact⟨LD hq.1,LD hq.2⟩⟩;simp[tied,this]
   ·omega
theorem kq{D:Nat->Bool}{j:Nat}{x:Rec}(hj:Qz[j]? =some x){q:Nat}(hq:¬(q∈x.W\/(x.n<=q/\q<x.n'))):gD Qz H (plus D j) q=gD Qz H D q:=by
 refine Wv _ _ _ fun i y hy=> ?_
 obtain⟨r,Pe,hrd,_⟩:=lN hy;rw[LB];refine V7 fun e=> ?_
 subst e;rw[hj]at Pe;cases Pe;exact hq hrd
theorem s8{D:Nat->Bool}{j:Nat}{x:Rec}(hj:Qz[j]? =some x)(i:Nat):(uK Qz D i\/(x.n<=i/\i<x.n'))<->uK Qz (plus D j) i:=by
 constructor
 ·rintro(⟨k,r,hd,hr,h1⟩|h1)
  ·exact⟨k,r,by simp[plus,hd],hr,h1⟩
  ·exact⟨j,x,Vf,hj,h1⟩
 ·rintro⟨k,r,hd,hr,h1⟩;by_cases e:k=j
  ·subst e;rw[hj]at hr;cases hr;exact .inr h1
  ·rw[V7 e]at hd;exact .inl ⟨k,r,hd,hr,h1⟩
theorem Ac(h:Setup P B ops Qz bs T H n T' H' n'){S:Nat->Prop}{μ0:Mu}{w0:World}(hS:∀i,S i->i<n)(hR:∀r∈Qz,∀i∈r.R,i<n->S i)(UK:P4 μ0 n n')(hB:B.has w0)(hok0:Ok B S μ0 (Qt H) w0){D:Nat->Bool}(hD:UO ops D){j:Nat}(hn:D j=false)
 (hr:∀o,ops[j]? =some o->∀e∈o.after,Region.binds .any e=true->D e.on=true) {μ:Mu} {A:Array Value} {w:World} (hi:Inv B Qz T H n S μ0 w0 D μ A w) {fr:Frame} {cs:List Frame} {l:List Nat} {k:List Item} (hm:fr.mode=.run)
 {x:Rec} (hj:Qz[j]? =some x) {out:OO} (hdo:T3 P B x.o (Zd x.T) x.H x.n out x.H' x.n' x.R x.W) (VU:Region.wanted x.o (XS ops x.T)=true):
 ∃Zh μ' w',PG B S (uK Qz (plus D j)) (WD Qz n (plus D j)) μ0 μ' (Qt H) (gD Qz H (plus D j)) w0 w'/\Ext μ μ'/\OR2 μ' out Zh/\Steps P (lone (Xu fr A ops (j::l) k) cs w) (lone (Zh.on (Xu fr A ops (j::l) k)) cs w'):=by
 have hx:=Lp hj;have hsx:=h.Sm x hx;have Wk:=h.own j x hj;have Sw:=P2 Qz T H n T' H' n' h.chain h.Sm;have hxn:=Sw.2.1 x hx;have hnewn:∀i,x.n<=i->i<x.n'->¬uK Qz D i:=by
  rintro i h1 h2 ⟨q,r,a,b,c,d⟩;rcases Nat.lt_trichotomy q j with hq|hq|hq
  ·have:=Sw.2.2.1 q j r x hq b hj;omega
  ·subst hq;rw[hn]at a;cases a
  ·have:=Sw.2.2.1 j q x r hq hj b;omega
 have hsub:∀i,(i∈x.R/\i<x.n)->S i\/uK Qz D i:=fun i hi=>(cover h hD hj hr hi.1 hi.2).imp (hR x hx i hi.1) id
 have hgc:∀i,(i∈x.R/\i<x.n)->Qt x.H i=gD Qz H D i:=fun i hi=>(M0 h hD hj hn hr hi.1 hi.2).symm
 have XJ:∀i,x.n<=i->i<x.n'->μ i=none:=fun i h1 h2=>by rw[hi.pg.ext i (hnewn i h1 h2)];exact UK i (by omega) (by omega)
 have Yh:Region.wanted x.o (yielded ops A)=true:=by rw[fi h hD hj hn hr hi.tmps];exact VU
 obtain⟨Zh,w',μ',Zw,ZU,ZB⟩:=hdo (fun i=>i∈x.R/\i<x.n) μ w (Xu fr A ops (j::l) k) cs k ops j l ((hi.pg.ok.sub hsub).congr hgc) (hB.pg hok0 hi.pg) (fun i hi=>hi.2) (fun i h1 h2=>XJ i h1 h2)
  (CY h hD hj hn hr hi.tmps) (fun i h1 h2=>⟨h1,h2⟩) hm rfl Wk Yh
 refine⟨Zh,μ',w',(hi.pg.then (Zw.pg hsx.top) hsub hgc (fun i hi=>⟨fun hs=>by have:=hS i hs;omega,hnewn i hi.1 hi.2⟩) (fun i hi=>XJ i hi.1 hi.2) (G2:=gD Qz H (plus D j)) (fun i hi=>CX h hD hj hn (hi.imp And.left id))
  (fun i h1 h2=>kq hj ?_)).congr (s8 hj) (fun i=> ?_) (fun _=>rfl),Zw.mu fun i h1 h2=>XJ i h1 h2,ZU,ZB⟩
 ·rintro(hw|hw)
  ·have:=hsx.wlt i hw;rcases LJ i x.n with ha|ha
   ·exact h1 ⟨hw,ha⟩
   ·exact h2 ⟨ha,this⟩
  ·exact h2 hw
 ·constructor
  ·rintro(⟨a,q,r,b,c,d⟩|⟨⟨a,b⟩,c⟩)
   ·exact⟨a,q,r,by simp[plus,b],c,d⟩
   ·exact⟨(cover h hD hj hr (hsx.sub i a) b).elim id fun e=>absurd e c,j,x,Vf,hj,a⟩
  ·rintro⟨a,q,r,b,c,d⟩;by_cases e:q=j
   ·subst e;rw[hj]at c;cases c;refine .inr ⟨⟨d,by omega⟩, ?_⟩;rintro⟨q',r',_,b',c',_⟩;have:=(Sw.2.1 r' (Lp b')).1;omega
   ·rw[V7 e]at b;exact .inl ⟨a,q,r,b,c,d⟩
theorem Ab(h:Setup P B ops Qz bs T H n T' H' n'){S:Nat->Prop}{μ0:Mu}{w0:World}(hS:∀i,S i->i<n)(hR:∀r∈Qz,∀i∈r.R,i<n->S i)(UK:P4 μ0 n n')(hB:B.has w0)(hok0:Ok B S μ0 (Qt H) w0){D:Nat->Bool}(hD:UO ops D){j:Nat}(Xp:j<ops.size)(hn:D j=false)
 (hk:∀x,Qz[j]? =some x->Sl P B ops x) (hr:∀o,ops[j]? =some o->∀e∈o.after,Region.binds .any e=true->D e.on=true) {μ:Mu} {A:Array Value} {w:World} (hi:Inv B Qz T H n S μ0 w0 D μ A w) {fr:Frame} {cs:List Frame} {l:List Nat} {k:List Item} (hm:fr.mode=.run):
 ∃μ' A' w',Inv B Qz T H n S μ0 w0 (plus D j) μ' A' w'/\Steps P (lone (Xu fr A ops (j::l) k) cs w) (lone (Xu fr A' ops l k) cs w'):=by
 obtain⟨x,hj⟩:∃x,Qz[j]? =some x:=⟨Qz[j]'(by rw[h.len];exact Xp),by simp⟩
 have hx:=Lp hj;have hsx:=h.Sm x hx;have Wk:=h.own j x hj;obtain⟨VU,hdo,hno⟩:=hk x hj;have Sw:=P2 Qz T H n T' H' n' h.chain h.Sm;have hxn:=Sw.2.1 x hx;have hdst:∀d,x.o.dst=some d->d<A.size:=fun d hd=>by rw[hi.size];exact(hsx.dst d hd).1
 have put:∀(μ':Mu) v',Ext μ μ'->VR μ' x.v v'->(match x.o.dst with|some d=>A.setIfInBounds d v'|none=>A).size=T.len/\∀t,VR μ' (tD Qz T (plus D j) t) ((match x.o.dst with|some d=>A.setIfInBounds d v'|none=>A).getD t undef):=by
  intro μ' v' he hv;refine⟨?_,fun t=> ?_⟩
  ·cases x.o.dst <;> simp[hi.size]
  ·rw[Nk h hD hj hn t];have ho:=(hi.tmps t).mono he;cases hd:x.o.dst with
   |none=>simpa using ho
   |some d=>
    have hdl:=hdst d hd;simp only[YO];by_cases e:d=t
    ·subst e;simpa[hdl]using hv
    ·simp[e]at ho ⊢;exact ho
 cases hrx:x.run with
 |false=>
  obtain⟨hv,hH,hnn,hW⟩:=hno hrx;have Yh:Region.wanted x.o (yielded ops A)=false:=by rw[fi h hD hj hn hr hi.tmps,<-VU];exact hrx
  obtain⟨p1,p2⟩:=put μ undef (Ext.refl _) (by rw[hv];exact VR.undef);refine⟨μ,_,w,⟨hi.pg.congr (fun i=> ?_) (fun i=> ?_) (fun i=> ?_),p1,p2⟩,Steps.one ((fx hm Wk Yh).trans (by rw[a9 Wk]))⟩
  ·rw[<-s8 hj i];exact⟨.inl,fun h=>h.elim id fun h=>absurd h.1 (by omega)⟩
  ·refine and_congr Iff.rfl ⟨?_, ?_⟩
   ·rintro⟨q,r,a,b,c⟩;exact⟨q,r,by simp[plus,a],b,c⟩
   ·rintro⟨q,r,a,b,c⟩;by_cases e:q=j
    ·subst e;rw[hj]at b;cases b;rw[hW]at c;simp at c
    ·rw[V7 e]at a;exact⟨q,r,a,b,c⟩
  ·exact(kq hj (by rw[hW];rintro(h|h) <;> first|(simp at h;done)|omega)).symm
 |true=>
  obtain⟨Zh,μ',w',hpg,hext,ZU,ZB⟩:=Ac h hS hR UK hB hok0 hD hn hr hi (fr:=fr) (cs:=cs) (l:=l) (k:=k) hm hj (hdo hrx) (by rw[<-VU];exact hrx);cases ZU with
  |ret hv=>
   rename_i v';obtain⟨p1,p2⟩:=put μ' v' hext hv;exact⟨μ',_,w',⟨hpg,p1,p2⟩,ZB.trans (by simp only[OO.on];rw[a9 Wk];exact Steps.refl _ _)⟩
end
end Go.CE
