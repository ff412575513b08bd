/- CE: what single operations do. Seventh part: maps; all of them together. -/
import Derived.Test.YtncjjangllkokaaZRT01
set_option linter.all false
namespace Go.CE
open Go Go.RowKit

def hZ:Nat:=9223372036854775808
def wq(n:Int):Int:=match n with
 | .ofNat m=>bif Nat.blt m hZ then .ofNat m else IntKind.i64.wrap (.ofNat m)
 | .negSucc m=>bif Nat.blt m hZ then .negSucc m else IntKind.i64.wrap (.negSucc m)
theorem blt_eq(m k:Nat):Nat.blt m k=decide (m<k):=by
 by_cases h:m<k
 ·rw[decide_eq_true h];exact Nat.ble_eq_true_of_le h
 ·rw[decide_eq_false h];cases e:Nat.blt m k with
  |false=>rfl
  |true=>exact absurd (YL e) h
theorem LY(m k:Nat):Nat.beq m k=decide (m=k):=by
 by_cases h:m=k
 ·subst h;simp
 ·rw[Sq h,decide_eq_false h]
theorem M4(m:Nat):wq (.ofNat m)=IntKind.i64.wrap (.ofNat m):=by
 show(bif Nat.blt m hZ then Int.ofNat m else IntKind.i64.wrap (.ofNat m))=_;rw[blt_eq];by_cases h:m<hZ
 ·rw[decide_eq_true h,cond_true,IntKind.wrap_i64,Int.ofNat_eq_natCast];unfold hZ at h;omega
 ·rw[decide_eq_false h,cond_false]
theorem M5(m:Nat):wq (.negSucc m)=IntKind.i64.wrap (.negSucc m):=by
 show(bif Nat.blt m hZ then Int.negSucc m else IntKind.i64.wrap (.negSucc m))=_;rw[blt_eq];by_cases h:m<hZ
 ·rw[decide_eq_true h,cond_true,IntKind.wrap_i64,Int.negSucc_eq];unfold hZ at h;omega
 ·rw[decide_eq_false h,cond_false]
theorem Me(n:Int):wq n=IntKind.i64.wrap n:=by
 cases n with
 |ofNat m=>exact M4 m
 |negSucc m=>exact M5 m
def XU:Int->Int->Bool
 | .ofNat a,.ofNat b=>Nat.blt a b
 | .ofNat _,.negSucc _=>false
 | .negSucc _,.ofNat _=>true
 | .negSucc a,.negSucc b=>Nat.blt b a
theorem sy(a b:Int):XU a b=decide (a<b):=by
 rw[Bool.eq_iff_iff];cases a <;> cases b <;> simp only[XU,blt_eq,Int.ofNat_eq_natCast,Int.negSucc_eq,decide_eq_true_eq,Bool.false_eq_true,false_iff,true_iff] <;> omega
def Km:Int->Int->Bool
 | .ofNat a,.ofNat b=>Nat.beq a b
 | .negSucc a,.negSucc b=>Nat.beq a b
 |_,_=>false
theorem fI(a b:Int):Km a b=(a==b):=by
 rw[Bool.eq_iff_iff];cases a <;> cases b <;> simp only[Km,LY,beq_iff_eq,decide_eq_true_eq,Int.ofNat_eq_natCast,Int.negSucc_eq,Bool.false_eq_true,false_iff] <;> omega
def AI:BinOp->Value->Value->Option Value
 | .add,.int .i64 a,.int .i64 b=>some (.int .i64 (wq (a+b)))
 | .sub,.int .i64 a,.int .i64 b=>some (.int .i64 (wq (a-b)))
 | .mul,.int .i64 a,.int .i64 b=>some (.int .i64 (wq (a*b)))
 | .eql,.int .i64 a,.int .i64 b=>some (.bool (Km a b))
 | .neq,.int .i64 a,.int .i64 b=>some (.bool (!(Km a b)))
 | .lss,.int .i64 a,.int .i64 b=>some (.bool (XU a b))
 | .gtr,.int .i64 a,.int .i64 b=>some (.bool (XU b a))
 | .leq,.int .i64 a,.int .i64 b=>some (.bool (!(XU b a)))
 | .geq,.int .i64 a,.int .i64 b=>some (.bool (!(XU a b)))
 |_,_,_=>none
theorem HP{P:Program}{op:BinOp}{t:TypeId}{x y:Operand}{a b v:Value}(h:AI op a b=some v)(w:World):(do eqGuard op t x y a b;binOp op t a b:Sem Value).run P w=.ok v w/\(∀μ,VR μ v v)/\(∀μ a',VR μ a a'->a'=a)/\(∀μ b',VR μ b b'->b'=b):=by
 have hle:∀a b:Int,(!(XU b a))=decide (a<=b):=fun a b=>by
  rw[sy,Bool.eq_iff_iff];simp only[Bool.not_eq_true',decide_eq_false_iff_not,decide_eq_true_eq];omega
 unfold AI at h;split at h <;> first
  |(cases h;done)
  |(simp only[YO]at h
    subst h;refine⟨?_,fun μ=>by first|exact .int _ _|exact .bool _,fun μ a' ha=>by cases ha;rfl,fun μ b' hb=>by cases hb;rfl⟩
    first
     |(simp[eqGuard,binOp,Op.intArith,Me];done)
     |(simp[eqGuard,binOp,Op.intCmp,fI];done)
     |(simp[eqGuard,binOp,Op.intCmp,fI,bne];done)
     |(simp[eqGuard,binOp,Op.intCmp,sy];done)
     |(simp[eqGuard,binOp,Op.intCmp,hle];done))

theorem Zg{α β:Type}{P:Program}(s:Sem α)(f:α->Sem β):Xm P (s >>=f)=match Xm P s with|some a=>Xm P (f a)|none=>none:=by
 show Xm P (s.bind f)=_;induction s with
 |pure a=>rfl
 |program k ih=>exact ih P
 |_=>rfl
theorem Wm{α:Type}{P:Program}(a:α):Xm P (pure a:Sem α)=some a:=rfl

def ER(μ:Mu)(es US:List MapEntry):Prop:=es.length=US.length/\∀(i:Nat) e e',es[i]? =some e->US[i]? =some e'->e'.key=e.key/\e'.born=e.born/\af e.key=true/\VR μ e.val e'.val
theorem ER.tail{μ:Mu}{e e':MapEntry}{es US:List MapEntry}(h:ER μ (e::es) (e'::US)):ER μ es US:=⟨by simpa using h.1,fun i a b x y=>h.2 (i+1) a b (by simpa using x) (by simpa using y)⟩
def FR(μ:Mu):Option (Nat×Value)->Option (Nat×Value)->Prop
 |none,none=>True
 |some (i,v),some (i',v')=>i'=i/\VR μ v v'
 |_,_=>False
theorem nX{μ:Mu}{kind:TypeDesc}{k:Value}:∀(es US:List MapEntry) (i:Nat),ER μ es US->(∀r,Instr.findNow kind k es i=some r->∃r',Instr.findNow kind k US i=some r'/\FR μ r r')/\(Instr.findNow kind k es i=none->Instr.findNow kind k US i=none)
 |[],[],i,_=>by
  refine⟨fun r h=> ?_,fun h=>by simp[Instr.findNow]at h⟩;simp only[Instr.findNow,YO]at h;subst h;exact⟨none,rfl,trivial⟩
 |e::es,e'::US,i,h=>by
  obtain⟨h1,_,_,h4⟩:=h.2 0 e e' rfl rfl;simp only[Instr.findNow,h1];cases Instr.sameNow kind k e.key with
  |none=>exact⟨fun r h=>(by cases h),fun _=>rfl⟩
  |some b=>
   cases b with
   |true=>exact⟨fun r h=>by simp only[YO]at h;subst h;exact⟨_,rfl,rfl,h4⟩,fun h=>by cases h⟩
   |false=>exact nX es US (i+1) h.tail
 |[],_::_,_,h=>by have:=h.1;simp at this
 |_::_,[],_,h=>by have:=h.1;simp at this
theorem aL{P:Program}{μ:Mu}{kt:TypeId}{k:Value}:∀(es US:List MapEntry) (i:Nat) r,ER μ es US->Xm P (Instr.findAsking kt k es i)=some r->∃r',Xm P (Instr.findAsking kt k US i)=some r'/\FR μ r r'
 |[],[],i,r,_,h=>by
  simp only[Instr.findAsking,Wm,YO]at h;subst h;exact⟨none,rfl,trivial⟩
 |e::es,e'::US,i,r,h,hr=>by
  obtain⟨h1,_,_,h4⟩:=h.2 0 e e' rfl rfl;simp only[Instr.findAsking,h1,Zg]at hr ⊢;cases hq:Xm P (Op.equal kt k e.key)with
  |none=>rw[hq]at hr;cases hr
  |some b=>
   rw[hq]at hr;cases b with
   |true=>
    simp only[if_true,Wm,YO]at hr ⊢;subst hr;exact⟨_,rfl,rfl,h4⟩
   |false=>
    simp only[Bool.false_eq_true,if_false]at hr ⊢;exact aL es US (i+1) r h.tail hr
 |[],_::_,_,_,h,_=>by have:=h.1;simp at this
 |_::_,[],_,_,h,_=>by have:=h.1;simp at this
theorem bE{P:Program}{μ:Mu}{kt:TypeId}{k:Value}{es US:List MapEntry}{r:Option (Nat×Value)}(h:ER μ es US)(hr:Xm P (Instr.findKey kt k es)=some r):∃r',Xm P (Instr.findKey kt k US)=some r'/\FR μ r r':=by
 simp only[Instr.findKey,Zg]at hr ⊢;cases hu:Xm P (underlying kt)with
 |none=>rw[hu]at hr;cases hr
 |some d=>
  rw[hu]at hr;dsimp only at hr ⊢;obtain⟨h1,h2⟩:=nX (kind:=d) (k:=k) es US 0 h;cases hf:Instr.findNow d k es 0 with
  |some r0=>
   rw[hf]at hr;obtain⟨r',hr',hv⟩:=h1 r0 hf;simp only[Wm,YO]at hr;subst hr;rw[hr'];exact⟨r',rfl,hv⟩
  |none=>
   rw[hf]at hr;rw[h2 hf];exact aL es US 0 r h hr
theorem ER.of{μ:Mu}{es US:Array MapEntry}(h1:es.size=US.size)(h2:∀(i:Nat) e e',es[i]? =some e->US[i]? =some e'->e'.key=e.key/\e'.born=e.born/\af e.key=true/\VR μ e.val e'.val):ER μ es.toList US.toList:=
 ⟨by simpa using h1,fun i a b x y=>h2 i a b (by simpa using x) (by simpa using y)⟩
theorem bD{P:Program}{w:World}{b:Nat}{es:Array MapEntry}{JG:Nat}(h:w.heap[b]? =some (.map es JG)):(getObj b).run P w=.ok (.map es JG) w:=by simp[getObj,Sem.run,h]
def Sp(P:Program)(t:TypeId)(H:Qo)(ok:Bool)(x k:Value):Option (Value×List Nat):=
 match YC P t with
 |some (.map kt e)=>
  match(match x with
   | .map none=>some (#[],[])
   | .map (some r)=>match Qs H r with
     |some (.map es _)=>some (es,[r])
     |_=>none
   |_=>none:Option (Array MapEntry×List Nat))with
  |some (es,R)=>bif af k then
   match Xm P (Instr.checkKey es.isEmpty 10000 kt k),Xm P (Instr.findKey kt k es.toList),zeroOf P e with
   |some (),some (some (_,v)),_=>some (bif ok then .tuple #[v,.bool true]else v,R)
   |some (),some none,some z=>bif af z then some (bif ok then .tuple #[z,.bool false]else z,R)else none
   |_,_,_=>none
    else none
  |none=>none
 |_=>none
theorem AT{μ:Mu}{a a' b b':Value}(h:VR μ a a')(k:VR μ b b'):VR μ (.tuple #[a,b]) (.tuple #[a',b']):=by
 refine .tuple rfl fun i v v' hv ZY=> ?_
 rcases i with _|_|i
 ·simp at hv ZY;subst hv ZY;exact h
 ·simp at hv ZY;subst hv ZY;exact k
 ·simp at hv
theorem yd{P:Program}{B:Nat}{S:Nat->Prop}{μ:Mu}{H:Qo}{w:World}{t:TypeId}{ok:Bool}{x k x' k' v:Value}{R:List Nat}(h:Sp P t H ok x k=some (v,R))(QC:Ok B S μ (Qs H) w)(hx:VR μ x x')(hk:VR μ k k')(hR:∀i∈R,S i):
 ∃v',(Instr.lookup t x' k' ok).run P w=.ok v' w/\VR μ v v':=by
 unfold Sp at h;simp only[Zt]at h;split at h
 ·rename_i kt e hu;split at h
  ·rename_i es R0 hes;cases hak:af k with
   |false=>rw[hak]at h;cases h
   |true=>
    rw[hak]at h;simp only[cond_true]at h;have hkk:k'=k:=Rz hak hk;subst hkk;have hRR:R0=R:=by
     split at h
     ·simp only[YO,YR]at h;exact h.2
     ·rename_i z _ _ _;cases hz:af z with
      |false=>rw[hz]at h;cases h
      |true=>rw[hz]at h;simp only[cond_true,YO,YR]at h;exact h.2
     ·cases h
    subst hRR
    -- the entries in the world
    have hent:∃US,ER μ es.toList US.toList/\(x'=.map none/\US=#[]\/∃b JG,x'=.map (some b)/\w.heap[b]? =some (.map US JG)):=by
     split at hes
     ·simp only[YO,YR]at hes;obtain⟨rfl,_⟩:=hes;cases hx;exact⟨#[],⟨rfl,fun i a b x _=>by simp at x⟩,.inl ⟨rfl,rfl⟩⟩
     ·rename_i r;split at hes
      ·rename_i es0 JG hg;simp only[YO,YR]at hes;obtain⟨rfl,rfl⟩:=hes;obtain⟨im,QF,_,US,hw,h1,h2⟩:=QC.rel r _ (hR r (by simp)) hg trivial;cases hx with
       |map hm=>
        rw[QF]at hm;cases hm;exact⟨US,.of h1 h2,.inr ⟨im.Zn,JG,rfl,hw⟩⟩
      ·cases hes
     ·cases hes
    obtain⟨US,hER,VI⟩:=hent;have hemp:US.isEmpty=es.isEmpty:=by
     have h1:=hER.1;simp only[Array.length_toList]at h1;rw[Bool.eq_iff_iff];simp only[Array.isEmpty_iff_size_eq_zero];omega
    have run2:∀r v0,Xm P (Instr.checkKey es.isEmpty 10000 kt k')=some ()->Xm P (Instr.findKey kt k' es.toList)=some r->
     (∀r',FR μ r r'->∃v',(do let(v,ok') <-(match r' with|some (_,v)=>pure (v,true)|none=>do pure (<-zeroValue e,false):Sem (Value×Bool));pure (if ok then .tuple #[v,.bool ok']else v):Sem Value).run P w=.ok v' w/\VR μ v0 v')->
     ∃v',(Instr.lookup t x' k' ok).run P w=.ok v' w/\VR μ v0 v':=by
     intro r v0 hc hf hfin;obtain⟨r',hr',X5⟩:=bE hER hf;obtain⟨v',ZY,Vf⟩:=hfin r' X5;refine⟨v', ?_,Vf⟩;have hc':=VU hc w;have hr'':=VU hr' w;rw[<-hemp]at hc';simp only[Sem.run_bind]at ZY;rcases VI with ⟨rfl,rfl⟩|⟨b,JG,rfl,hw⟩
     ·simp only[Instr.lookup,Sem.run_bind,run_underlying hu,Result.andThen_ok,Sem.run_pure,hc',hr''];cases r' <;> first|simpa using ZY|(simp only[Sem.run_bind]at ZY;cases hzr:Sem.run P (zeroValue e) w <;> rw[hzr]at ZY <;> first|(cases ZY;done)|simpa[hzr]using ZY)
     ·simp only[Instr.lookup,Sem.run_bind,run_underlying hu,Result.andThen_ok,Sem.run_pure,bD hw,hc',hr''];cases r' <;> first|simpa using ZY|(simp only[Sem.run_bind]at ZY;cases hzr:Sem.run P (zeroValue e) w <;> rw[hzr]at ZY <;> first|(cases ZY;done)|simpa[hzr]using ZY)
    split at h
    ·rename_i i0 v0 hc hf;simp only[YO,YR]at h;obtain⟨rfl,_⟩:=h;refine run2 _ _ hc hf fun r' X5=> ?_
     cases r' with
     |none=>exact X5.elim
     |some p=>
      obtain⟨i',v'⟩:=p;cases ok with
      |true=>exact⟨_,rfl,AT X5.2 (.bool true)⟩
      |false=>exact⟨_,rfl,X5.2⟩
    ·rename_i z hc hf hz;cases haz:af z with
     |false=>rw[haz]at h;cases h
     |true=>
      rw[haz]at h;simp only[cond_true,YO,YR]at h;obtain⟨rfl,_⟩:=h;refine run2 _ _ hc hf fun r' X5=> ?_
      cases r' with
      |some p=>exact X5.elim
      |none=>
       cases ok with
       |true=>exact⟨.tuple #[z,.bool false],by simp[aP hz],AT (Jd haz) (.bool false)⟩
       |false=>exact⟨z,by simp[aP hz],Jd haz⟩
    ·cases h
  ·cases h
 ·cases h
def UW(P:Program)(t:TypeId)(H:Qo)(x k v:Value):Option (Qo×Nat):=
 match YC P t,x with
 |some (.map kt _),.map (some r)=>match Qs H r with
  |some (.map es JG)=>bif af k then
   match Xm P (Instr.checkKey false 10000 kt k),Xm P (Instr.findKey kt k es.toList)with
   |some (),some (some (i,_))=>match es[i]? with
    |some e=>bif Instr.sameBits 10000 e.key k then some (Vw H r (.map (es.setIfInBounds i {e with key:=k,val:=v}) JG),r)else none
    |none=>none
   |some (),some none=>some (Vw H r (.map (es.push {key:=k,val:=v,born:=JG}) (JG+1)),r)
   |_,_=>none
    else none
  |_=>none
 |_,_=>none
theorem kz{P:Program}{w:World}{b:Nat}{es:Array MapEntry}{JG:Nat}(o:Obj)(h:w.heap[b]? =some (.map es JG)):(setObj b o).run P w=.ok () {w with heap:=w.heap.setIfInBounds b o}:=by simp[setObj,Sem.run,h]
theorem oy{P:Program}{B n:Nat}{S:Nat->Prop}{μ:Mu}{H H':Qo}{w:World}{t:TypeId}{x k v x' k' v':Value}{b:Nat}(h:UW P t H x k v=some (H',b))(QC:Ok B S μ (Qs H) w)(hS:∀i,S i->i<n)(hx:VR μ x x')(hk:VR μ k k')(hv:VR μ v v')(hb:S b):
 ∃w',(Instr.mapUpdate t x' k' v').run P w=.ok () w'/\Post B S n n [b] μ μ H H' w w':=by
 unfold UW at h;simp only[Zt]at h;split at h
 ·rename_i kt e0 r hu;split at h
  ·rename_i es JG hg;cases hak:af k with
   |false=>rw[hak]at h;cases h
   |true=>
    rw[hak]at h;simp only[cond_true]at h;have hkk:k'=k:=Rz hak hk;subst hkk;have hbr:r=b:=by
     split at h
     ·split at h
      ·rename_i e _;cases hs:Instr.sameBits 10000 e.key k' with
       |false=>rw[hs]at h;cases h
       |true=>rw[hs]at h;simp only[cond_true,YO,YR]at h;exact h.2
      ·cases h
     ·simp only[YO,YR]at h;exact h.2
     ·cases h
    subst hbr;obtain⟨im,QF,hr,US,hw,h1,h2⟩:=QC.rel r _ hb hg trivial;have hER:=ER.of h1 h2;have Xh:im.Zn<w.heap.size:=(Array.getElem?_eq_some_iff.1 hw).1;cases hx with
    |map hm=>
     rw[QF]at hm;cases hm;have fin:∀(es2 es2':Array MapEntry) (clk2:Nat),ER μ es2.toList es2'.toList->
      Post B S n n [r] μ μ H (Vw H r (.map es2 clk2)) w {w with heap:=w.heap.setIfInBounds im.Zn (.map es2' clk2)}:=by
      intro es2 es2' clk2 hE;refine Post.write QC hS r _ _ im hb hg trivial QF hr (by simp) (fun q hq=> ?_) ⟨hr,es2', ?_,by simpa using hE.1,fun i a c ha hc=>hE.2 i a c (by simpa using ha) (by simpa using hc)⟩ ⟨rfl,rfl,rfl⟩
      ·simp[Array.getElem?_setIfInBounds_ne (Ne.symm hq)]
      ·simp[Xh]
     split at h
     ·rename_i i v0 hc hf;split at h
      ·rename_i e he;cases hs:Instr.sameBits 10000 e.key k' with
       |false=>rw[hs]at h;cases h
       |true=>
        rw[hs]at h;simp only[cond_true,YO,YR]at h;obtain⟨rfl,_⟩:=h;obtain⟨r',hr',X5⟩:=bE hER hf;cases r' with
        |none=>exact X5.elim
        |some p=>
         obtain⟨i',v0'⟩:=p;obtain⟨rfl,_⟩:=X5;have hi:i'<US.size:=h1 ▸ (Array.getElem?_eq_some_iff.1 he).1;obtain⟨e',he'⟩:∃e',US[i']? =some e':=⟨US[i'],by simp[hi]⟩
         obtain⟨q1,q2,q3,q4⟩:=h2 i' e e' he he';have hmod:US.modify i' (fun e=>{e with key:=k',val:=v'})=US.setIfInBounds i' {e' with key:=k',val:=v'}:=by
          apply Array.ext (by simp);intro j hj hj';simp only[Array.size_modify]at hj;have hee:US[i']=e':=by simpa[hi]using he'
          rw[Array.getElem_modify];by_cases e1:i'=j
          ·subst e1;simp[hee]
          ·simp[e1,hj]
         refine⟨_, ?_,fin _ (US.setIfInBounds i' {e' with key:=k',val:=v'}) JG ?_⟩
         ·simp only[Instr.mapUpdate,Sem.run_bind,run_underlying hu,Result.andThen_ok,bD hw,VU hc,VU hr',he',Option.map_some,Option.getD_some,q1,Instr.keyThatStays,hs,if_true,Sem.run_pure];rw[kz _ hw,hmod]
         ·refine⟨by simpa using h1,fun j a c ha hc=> ?_⟩;simp only[Array.getElem?_toList]at ha hc;rw[Array.getElem?_setIfInBounds]at ha hc;by_cases e1:i'=j
          ·subst e1;rw[if_pos rfl]at ha hc;rw[if_pos (by rw[h1];exact hi)]at ha;rw[if_pos hi]at hc;cases ha;cases hc;exact⟨rfl,q2,hak,hv⟩
          ·rw[if_neg e1]at ha hc;exact h2 j a c ha hc
      ·cases h
     ·rename_i hc hf;simp only[YO,YR]at h;obtain⟨rfl,_⟩:=h;obtain⟨r',hr',X5⟩:=bE hER hf;cases r' with
      |some p=>exact X5.elim
      |none=>
       refine⟨_, ?_,fin _ (US.push {key:=k',val:=v',born:=JG}) (JG+1) ?_⟩
       ·simp only[Instr.mapUpdate,Sem.run_bind,run_underlying hu,Result.andThen_ok,bD hw,VU hc,VU hr'];rw[kz _ hw]
       ·refine⟨by simpa using h1,fun j a c ha hc=> ?_⟩;simp only[Array.getElem?_toList]at ha hc;rw[Array.getElem?_push]at ha hc;rw[<-h1]at hc;split at ha
        ·rename_i e1;rw[if_pos e1]at hc;cases ha;cases hc;exact⟨rfl,rfl,hak,hv⟩
        ·rename_i e1;rw[if_neg e1]at hc;exact h2 j a c ha hc
     ·cases h
  ·cases h
 ·cases h
def ye(P:Program)(t:TypeId)(H:Qo)(n:Nat)(s x:Value):Option CR:=
 match YC P t with
 |some (.slice e)=>match Ww P e with
  |some z=>match s,x with
   | .slice (some ⟨b,off,none⟩) k _,.slice (some ⟨b2,off2,none⟩) m _=>match Qs H b,Qs H b2 with
     |some (.cells cs te (0,0)),some (.cells cs2 _ _)=>
      bif Nat.ble (off+Nat.min m k*z) cs.size && Nat.ble (off2+Nat.min m k*z) cs2.size && ones (cs2.extract off2 (off2+Nat.min m k*z))then
       some ⟨.val (.int .i64 (Nat.min m k)),Vw H b (.cells (splice cs off (cs2.extract off2 (off2+Nat.min m k*z))) te (0,0)),n,[b,b2],[b]⟩else none
     |_,_=>none
   |_,_=>none
  |none=>none
 |_=>none
theorem Ed{P:Program}{B n:Nat}{S:Nat->Prop}{μ:Mu}{H:Qo}{w:World}{t t2 ty:TypeId}{s x s' x':Value}{r:CR}(h:ye P t H n s x=some r)(QC:Ok B S μ (Qs H) w)(hS:∀i,S i->i<n)
 (hs:VR μ s s') (hx:VR μ x x') (hR:∀i∈r.R,S i):
 ∃v w',(Builtin.copy_ #[t,t2] ty #[s',x']).run P w=.ok v w'/\Post B S n r.n r.W μ μ H r.H w w'/\r.nx=.val v/\VR μ v v/\r.n=n:=by
 unfold ye at h;simp only[Zt]at h;split at h
 ·rename_i e hu;split at h
  ·rename_i z hz;split at h
   ·rename_i b off k cap b2 off2 m cap2;split at h
    ·rename_i cs te cs2 te2 fz2 hg hg2;cases hcond:(Nat.ble (off+Nat.min m k*z) cs.size && Nat.ble (off2+Nat.min m k*z) cs2.size && ones (cs2.extract off2 (off2+Nat.min m k*z)))with
     |false=>rw[hcond]at h;cases h
     |true=>
      rw[hcond]at h;simp only[cond_true,YO]at h;subst h;simp only[YB]at hcond;obtain⟨⟨h1,h2⟩,h3⟩:=hcond;have h1:=YL h1;have h2:=YL h2;have hb:S b:=hR b (by simp);have hb2:S b2:=hR b2 (by simp);obtain⟨im,QF,ZL⟩:=QC.rel b _ hb hg trivial;obtain⟨im2,Wt,hor2⟩:=QC.rel b2 _ hb2 hg2 trivial;cases hs with
      |slice har q1 q2 q3=>
       obtain⟨Zz,QP,_,rfl⟩:=har;simp only at QP;rw[QF]at QP;cases QP;cases hx with
       |slice har2 p1 p2 p3=>
        obtain⟨im2',him2',_,rfl⟩:=har2;simp only at him2';rw[Wt]at him2';cases him2';obtain⟨xs,hload,hxs⟩:=hor2.cells (P:=P) (off:=off2) (s:=Nat.min m k*z) h2;have hxsz:xs.size=Nat.min m k*z:=by rw[<-hxs.1];simp;omega
        have hexsz:(cs2.extract off2 (off2+Nat.min m k*z)).size=Nat.min m k*z:=by simp;omega
        rcases ZL with ⟨_,hr,ho,arr,ha,hle,hcap,hc⟩|⟨hz0,_⟩
        ·have Z7:=run_storeCells_at (P:=P) im.Zn off te xs.toList 0 arr w ha (by simp[hxsz];omega) (hxs.ones h3);simp only[Nat.add_zero]at Z7;refine⟨.int .i64 (Nat.min m k),w.setRow im.Zn (CE.splice arr off xs), ?_,Post.write QC hS b _ (.cells (CE.splice cs off (cs2.extract off2 (off2+Nat.min m k*z))) te (0,0)) im hb hg trivial QF hr (w':=w.setRow im.Zn (CE.splice arr off xs)) ?_ ?_ ?_ ⟨rfl,rfl,rfl⟩,rfl,.int _ _,rfl⟩
         ·simp[Builtin.copy_,Builtin.lenOf,Builtin.firstCells,Sem.run_bind,Sem.run_pure,Result.andThen_ok,run_underlying hu,Zh hz,hload,ho,Z7,CE.splice,goInt]
         ·simp[World.setRow]
         ·intro y hy;exact setRow_other w im.Zn y _ hy
         ·refine .inl ⟨rfl,hr,ho,CE.splice arr off xs,setRow_heap w im.Zn arr _ te _ ha, ?_, ?_, ?_⟩
          ·rw[WJ (by rw[hexsz];omega),WJ (by rw[hxsz];omega)];exact hle
          ·rw[WJ (by rw[hxsz];omega)];exact hcap
          ·exact VRs.splice (by rw[hexsz];omega) hle hc hxs
        ·exact absurd rfl hz0
    ·cases h
   ·cases h
  ·cases h
 ·cases h
end Go.CE

namespace Go.CE
open Go Go.RowKit

def Ek(ev:Operand->Option Value):Option Operand->Option (Option Value)
 |none=>some none
 |some x=>match ev x with
  |some v=>some (some v)
  |none=>none
def mkPure(o:Option Value)(H:Qo)(n:Nat):Option CR:=match o with|some v=>some ⟨.val v,H,n,[],[]⟩|none=>none
def jv(P:Program)(t:TypeId)(len:Nat)(l:List (Nat×Value)):Bool:=Nat.beq len 0 && l.isEmpty && (match YC P t with
 |some (.slice e)=>(Ww P e).isSome
 |_=>false)
theorem Post.ofBelow{B n:Nat}{S:Nat->Prop}{μ:Mu}{H:Qo}{w w':World}(QC:Ok B S μ (Qs H) w)(h:Below w.heap.size w w'):Post B S n n [] μ μ H H w w':=by
 refine⟨⟨fun i o hi ho hl=> ?_,fun i o im hi ho hl QF=> ?_,fun i j oi oj a b hi hj=> ?_,fun i o hi ho hr=> ?_,fun i j oi oj a b x hi hj=> ?_⟩,Nat.le_refl _,fun _ _=>rfl,fun _ _ _=>rfl,h.size,fun b hb _=>h.block b hb,fun _ h=>by simp at h,fun i im o h1 h2=>absurd h1 (by omega),fun i im o h1=>h1.elim (fun h1=>absurd h1.1 (by omega)) (fun h=>by simp at h),h.os,h.tape,h.output⟩
 ·have hi:=hi.elim id fun h=>absurd h.1 (by omega)
  obtain⟨im,QF,hr⟩:=QC.rel i o hi ho hl;exact⟨im,QF,hr.keep (Ext.refl _) (h.block _ (QC.low i o im hi ho hl QF).1)⟩
 ·have hi:=hi.elim id fun h=>absurd h.1 (by omega)
  have:=QC.low i o im hi ho hl QF;exact⟨Nat.lt_of_lt_of_le this.1 h.size,this.2⟩
 ·exact QC.inj i j oi oj a b (hi.elim id fun h=>absurd h.1 (by omega)) (hj.elim id fun h=>absurd h.1 (by omega))
 ·have hi:=hi.elim id fun h=>absurd h.1 (by omega)
  obtain⟨im,QF,hf⟩:=QC.KL i o hi ho hr;exact⟨im,QF,fun b x hx=>by rw[h.block b (Yp QC hi ho hr QF hx)];exact hf b x hx⟩
 ·exact QC.sep i j oi oj a b x (hi.elim id fun h=>absurd h.1 (by omega)) (hj.elim id fun h=>absurd h.1 (by omega))
def sQ(P:Program)(F:FuncId->Bool)(ev:Operand->Option Value)(o:Oper)(H:Qo)(n:Nat):Option CR:=
 match o.op with
 | .move x| .assign x=>mkPure (ev x) H n
 | .pick c a b=>match ev c with
   |some (.bool t)=>mkPure (ev (bif t then a else b)) H n
   |_=>none
 | .alloc t=>match zeroOf P t with
   |some z=>bif af z then some ⟨.val (zV n),(n,.cells z.cells t (0,0))::H,n+1,[],[]⟩else none
   |none=>none
 | .box t x=>match ev x with
   |some v=>some ⟨.val (zV n),(n,.cells v.cells t (0,0))::H,n+1,[],[]⟩
   |none=>none
 | .build t ps=>match partsOf ev ps.toList with
   |some l=>mkPure (tc P t l) H n
   |none=>none
 | .buildSlice t len ps=>match partsOf ev ps.toList with
   |some l=>match Pg P t len l with
    |some (e,cs,s)=>some ⟨.val (.slice (some ⟨n,0,none⟩) len s),(n,.cells cs e (0,0))::H,n+1,[],[]⟩
    |none=>bif jv P t len l then some ⟨.val Ti,H,n,[],[]⟩else none
   |none=>none
 | .load t a=>match ev a with
   |some p=>match Rx P t H p with
    |some (v,b)=>some ⟨.val v,H,n,[b],[]⟩
    |none=>none
   |none=>none
 | .store t a x=>match ev a,ev x with
   |some p,some v=>match Py P t H v p with
    |some (H',b)=>some ⟨.val undef,H',n,[b],[b]⟩
    |none=>none
   |_,_=>none
 | .fieldAddr s x f=>match ev x with
   |some p=>mkPure (Wh P s f p) H n
   |none=>none
 | .field t x f=>match ev x with
   |some p=>mkPure (fO P t f p) H n
   |none=>none
 | .indexAddr t x i=>match ev x,ev i with
   |some v,some k=>mkPure (KJ P t v k) H n
   |_,_=>none
 | .index t x i=>match ev x,ev i with
   |some (.agg cs),some k=>mkPure (sY P t (.agg cs) k) H n
   |_,_=>mkPure (Uk P ev o) H n
 | .extract x i=>match ev x with
   |some v=>mkPure (Ry i v) H n
   |none=>none
 | .makeSlice t l c=>match ev l,ev c with
   |some x,some y=>match Rw P t x y with
    |some (e,cs,l,s)=>some ⟨.val (.slice (some ⟨n,0,none⟩) l s),(n,.cells cs e (0,0))::H,n+1,[],[]⟩
    |none=>none
   |_,_=>none
 | .slice t x lo hi none=>match ev x,Ek ev lo,Ek ev hi with
   |some (.slice (some a) m s),some l,some h=>mkPure (Tu P t (.slice (some a) m s) l h) H n
   |some (.pointer p),some l,some h=>mkPure (Tu P t (.pointer p) l h) H n
   |_,_,_=>mkPure (Uk P ev o) H n
 | .slice t x lo (some hi) (some mx)=>bif aE P t (ev x) (Ek ev lo) (ev hi) (ev mx)then some ⟨.val Ti,H,n,[],[]⟩else mkPure (Uk P ev o) H n
 | .makeFunc (.func f) first captured=>match J9 ev first.toList,J9 ev captured.toList with
   |some xs,some ys=>some ⟨.val (.func (.func f) xs.toArray ys.toArray),H,n,[],[]⟩
   |_,_=>none
 | .makeMap _ none=>some ⟨.val (.map (some n)),(n,.map #[] 0)::H,n+1,[],[]⟩
 | .lookup t x k ok=>match ev x,ev k with
   |some m,some kv=>match Sp P t H ok m kv with
    |some (v,R)=>some ⟨.val v,H,n,R,[]⟩
    |none=>none
   |_,_=>none
 | .mapUpdate t m k x=>match ev m,ev k,ev x with
   |some mv,some kv,some v=>match UW P t H mv kv v with
    |some (H',b)=>some ⟨.val undef,H',n,[b],[b]⟩
    |none=>none
   |_,_,_=>none
 | .binOp op _ x y _=>match ev x,ev y with
   |some a,some b=>match AI op a b with
    |some v=>some ⟨.val v,H,n,[],[]⟩
    |none=>mkPure (Uk P ev o) H n
   |_,_=>none
 | .nilCheck x=>match ev x with
   |some (.pointer (some a))=>some ⟨.val (.pointer (some a)),H,n,[],[]⟩
   |some (.func (.func f) xs ys)=>some ⟨.val (.func (.func f) xs ys),H,n,[],[]⟩
   |some (.func (.yield f) xs ys)=>some ⟨.val (.func (.yield f) xs ys),H,n,[],[]⟩
   |_=>none
 | .call c=>match c.callee with
   | .builtin .append=>match c.args.toList,c.argTypes.toList with
     |[s,x],[t,t']=>match ev s,ev x with
      |some sv,some xv=>yg P t t' H n sv xv
      |_,_=>none
     |_,_=>none
   | .builtin .len=>match c.args.toList,c.argTypes.toList with
     |[x],[t]=>match ev x,YC P t with
      |some (.slice (some _) m _),some (.slice _)=>some ⟨.val (.int .i64 m),H,n,[],[]⟩
      |some (.chan (some 0)),some (.slice _)=>some ⟨.val (.int .i64 0),H,n,[],[]⟩
      |_,_=>mkPure (Uk P ev o) H n
     |_,_=>none
   | .builtin .copy=>match c.args.toList,c.argTypes.toList with
     |[s,x],[t,_]=>match ev s,ev x with
      |some sv,some xv=>ye P t H n sv xv
      |_,_=>none
     |_,_=>none
   | .builtin _=>mkPure (Uk P ev o) H n
   | .value f=>match ev f,J9 ev c.args.toList with
     |some fv,some args=>match Pf F H fv args.toArray with
      |some (nx,R)=>some ⟨nx,H,n,R,[]⟩
      |none=>none
     |_,_=>none
   |_=>none
 |_=>mkPure (Uk P ev o) H n

theorem Wl{P:Program}{B:Nat}{o:Oper}{ev:Operand->Option Value}{H:Qo}{n:Nat}{v:Value}(h:∀(μ:Mu) (ρ:Operand->Value) (w:World),(∀x∈o.op.operands,∀v,ev x=some v->VR μ v (ρ x))->∃v',(execOp ρ o).run P w=.ok (.value v') w/\VR μ v v'):
 Mz P B o ev H n ⟨.val v,H,n,[],[]⟩:=fun _ μ ρ w QC _ _ _ XL _=>
 let⟨_,h1,h2⟩:=h μ ρ w XL
 ⟨_,w,μ,h1,Post.refl QC,.val h2⟩
theorem Zx{o:Option Value}{H:Qo}{n:Nat}{r:CR}(h:mkPure o H n=some r):∃v,o=some v/\r=⟨.val v,H,n,[],[]⟩:=by
 cases o with
 |none=>cases h
 |some v=>simp only[mkPure,YO]at h;exact⟨v,rfl,h.symm⟩
theorem dI{μ:Mu}{ev:Operand->Option Value}{ρ:Operand->Value}{x:Option Operand}{v:Option Value}(h:Ek ev x=some v)(hv:∀y,x=some y->∀v,ev y=some v->VR μ v (ρ y)):NF μ v (x.map ρ):=by
 cases x with
 |none=>simp only[Ek,YO]at h;subst h;trivial
 |some y=>
  simp only[Ek]at h;cases he:ev y with
  |none=>rw[he]at h;cases h
  |some u=>
   rw[he]at h;simp only[YO]at h;subst h;exact hv y rfl u he
theorem ZJ{α:Type}{q:Bool}{x r:α}(h:(bif q then some x else none)=some r):x=r:=by
 cases q with
 |false=>cases h
 |true=>simpa using h
theorem KK{α:Type}{q:Bool}{x:Option α}{r:α}(h:(bif q then x else none)=some r):x=some r:=by
 cases q with
 |false=>cases h
 |true=>simpa using h
theorem LU{P:Program}{t t':TypeId}{H:Qo}{n:Nat}{s x:Value}{r:CR}(h:re P t t' H n s x=some r):r.n=n+1:=by
 unfold re at h;split at h
 ·split at h
  ·split at h
   ·rw[<-ZJ h]
   ·cases h
  ·cases h
 ·cases h
theorem Ee{P:Program}{t:TypeId}{H:Qo}{n:Nat}{s x:Value}{r:CR}(h:VM P t H n s x=some r):r.n=n+1:=by
 unfold VM at h;split at h
 ·split at h
  ·split at h
   ·split at h
    ·rename_i cs k ko ns m b _ _;rw[<-ZJ h]
    ·cases h
   ·cases h
  ·cases h
 ·cases h
theorem LP{P:Program}{F:FuncId->Bool}(hF:∀g,F g=true->Q3 P g=true){B:Nat}{o:Oper}{ev:Operand->Option Value}{H:Qo}{n:Nat}{r:CR}(h:sQ P F ev o H n=some r):Mz P B o ev H n r:=by
 have XQ:mkPure (Uk P ev o) H n=some r->Mz P B o ev H n r:=by
  intro h;obtain⟨v,h1,rfl⟩:=Zx h;exact Ea h1
 unfold sQ at h;split at h
 ·-- move
  rename_i x ho;obtain⟨v,h1,rfl⟩:=Zx h;exact Wl fun μ ρ w XL=>⟨ρ x,by simp[execOp,ho],XL x (by simp[ho,Op.operands]) v h1⟩
 ·rename_i x ho;obtain⟨v,h1,rfl⟩:=Zx h;exact Wl fun μ ρ w XL=>⟨ρ x,by simp[execOp,ho],XL x (by simp[ho,Op.operands]) v h1⟩
 ·-- pick
  rename_i c a b ho;split at h
  ·rename_i t hc;obtain⟨v,h1,rfl⟩:=Zx h;refine Wl fun μ ρ w XL=> ?_
   have hct:=XL c (by simp[ho,Op.operands]) _ hc;have hct:ρ c=.bool t:=by generalize ρ c=u at hct;cases hct;rfl
   cases t with
   |true=>exact⟨ρ a,by simp[execOp,ho,hct,asBool],XL a (by simp[ho,Op.operands]) v h1⟩
   |false=>exact⟨ρ b,by simp[execOp,ho,hct,asBool],XL b (by simp[ho,Op.operands]) v h1⟩
  ·cases h
 ·-- alloc
  rename_i t ho;split at h
  ·rename_i z hz;cases ha:af z with
   |false=>rw[ha]at h;cases h
   |true=>
    rw[ha]at h;simp only[cond_true,YO]at h;subst h;exact AK ho hz ha
  ·cases h
 ·-- box
  rename_i t x ho;split at h
  ·rename_i v hv;simp only[YO]at h;subst h;exact HO ho hv
  ·cases h
 ·-- build
  rename_i t ps ho;split at h
  ·rename_i l hl;obtain⟨v,h1,rfl⟩:=Zx h;refine Wl fun μ ρ w XL=> ?_
   obtain⟨q1,q2⟩:=RV (μ:=μ) (ρ:=ρ) ps.toList l hl (fun p hp v hv=>XL p.2 (by simp only[ho,Op.operands,List.mem_toArray];exact List.mem_map.2 ⟨p,hp,rfl⟩) v hv);obtain⟨v',hr,Vf⟩:=AH (ps':=ps.map fun(i,x)=>(i,ρ x)) h1 (by simpa using q1) (by simpa using q2) w;exact⟨v',by simp[execOp,ho,hr],Vf⟩
  ·cases h
 ·-- buildSlice
  rename_i t len ps ho;split at h
  ·rename_i l hl;split at h
   ·rename_i e cs s hb;simp only[YO]at h;subst h;intro S μ ρ w QC hB hS hf XL hR;obtain⟨q1,q2⟩:=RV (μ:=μ) (ρ:=ρ) ps.toList l hl (fun p hp v hv=>XL p.2 (by simp only[ho,Op.operands,List.mem_toArray];exact List.mem_map.2 ⟨p,hp,rfl⟩) v hv);obtain⟨v',w',μ',hr,hp,Vf⟩:=jb (ps':=ps.map fun(i,x)=>(i,ρ x)) hb QC hB hS (hf n (Nat.le_refl _) (by simp)) (by simpa using q1) (by simpa using q2);exact⟨_,w',μ',by simp[execOp,ho,hr],hp,.val Vf⟩
   ·cases he:jv P t len l with
    |false=>rw[he]at h;cases h
    |true=>
     rw[he]at h;simp only[cond_true,YO]at h;subst h;intro S μ ρ w QC hB hS hf XL hR;obtain⟨q1,_⟩:=RV (μ:=μ) (ρ:=ρ) ps.toList l hl (fun p hp v hv=>XL p.2 (by simp only[ho,Op.operands,List.mem_toArray];exact List.mem_map.2 ⟨p,hp,rfl⟩) v hv);unfold jv at he;simp only[YB,List.isEmpty_iff]at he;obtain⟨⟨e1,rfl⟩,e3⟩:=he;have e1:=YE e1;subst e1;have eps:ps=#[]:=by
      have:ps.toList=[]:=List.eq_nil_of_length_eq_zero (by simpa using q1.symm);exact Array.ext' (by simpa using this)
     subst eps;split at e3
     ·rename_i e hu;rw[Zt]at hu;cases hz:Ww P e with
      |none=>rw[hz]at e3;cases e3
      |some z=>
       have hr:(Instr.buildSlice t 0 ((#[]:Array (Nat×Operand)).map fun(i,x)=>(i,ρ x))).run P w=.ok (.slice (some ⟨w.heap.size,0,none⟩) 0 0) (w.alloc (.cells #[] e)):=by
        simp[Instr.buildSlice,run_underlying hu,Zh hz,Instr.fill,newRow,Sem.run_bind,Sem.run_pure];congr 2;exact Array.eq_empty_of_size_eq_zero (by simp)
       exact⟨.value (.slice (some ⟨w.heap.size,0,none⟩) 0 0),w.alloc (.cells #[] e),μ,by simp[execOp,ho];simp at hr;simp[hr],Post.ofBelow QC ((Below.refl _ _).alloc (Nat.le_refl _) _),.val .noCap⟩
     ·cases e3
  ·cases h
 ·-- load
  rename_i t a ho;split at h
  ·rename_i p hp;split at h
   ·rename_i v b hb;simp only[YO]at h;subst h;intro S μ ρ w QC hB hS hf XL hR;obtain⟨v',hr,Vf⟩:=qX hb QC (XL a (by simp[ho,Op.operands]) p hp) (hR b (by simp));exact⟨_,w,μ,by simp[execOp,ho,hr],Post.refl QC,.val Vf⟩
   ·cases h
  ·cases h
 ·-- store
  rename_i t a x ho;split at h
  ·rename_i p v hp hv;split at h
   ·rename_i H' b hb;simp only[YO]at h;subst h;intro S μ ρ w QC hB hS hf XL hR;obtain⟨w',hr,XC⟩:=A9 hb QC hS (XL a (by simp[ho,Op.operands]) p hp) (XL x (by simp[ho,Op.operands]) v hv) (hR b (by simp));exact⟨_,w',μ,by simp[execOp,ho,hr],XC,.skip⟩
   ·cases h
  ·cases h
 ·-- fieldAddr
  rename_i s x f ho;split at h
  ·rename_i p hp;obtain⟨v,h1,rfl⟩:=Zx h;refine Wl fun μ ρ w XL=> ?_
   obtain⟨v',hr,Vf⟩:=o3 h1 (XL x (by simp[ho,Op.operands]) p hp) w;exact⟨v',by simp[execOp,ho,hr],Vf⟩
  ·cases h
 ·-- field
  rename_i t x f ho;split at h
  ·rename_i p hp;obtain⟨v,h1,rfl⟩:=Zx h;refine Wl fun μ ρ w XL=> ?_
   obtain⟨v',hr,Vf⟩:=AF h1 (XL x (by simp[ho,Op.operands]) p hp) w;exact⟨v',by simp[execOp,ho,hr],Vf⟩
  ·cases h
 ·-- indexAddr
  rename_i t x i ho;split at h
  ·rename_i u k hu hk;obtain⟨v,h1,rfl⟩:=Zx h;refine Wl fun μ ρ w XL=> ?_
   obtain⟨v',hr,Vf⟩:=oz h1 (XL x (by simp[ho,Op.operands]) u hu) (XL i (by simp[ho,Op.operands]) k hk) w;exact⟨v',by simp[execOp,ho,hr],Vf⟩
  ·cases h
 ·-- index
  rename_i t x i ho;split at h
  ·rename_i cs k hu hk;obtain⟨v,h1,rfl⟩:=Zx h;refine Wl fun μ ρ w XL=> ?_
   obtain⟨v',hr,Vf⟩:=AE h1 (XL x (by simp[ho,Op.operands]) _ hu) (XL i (by simp[ho,Op.operands]) k hk) w;exact⟨v',by simp[execOp,ho,hr],Vf⟩
  ·exact XQ h
 ·-- extract
  rename_i x i ho;split at h
  ·rename_i u hu;obtain⟨v,h1,rfl⟩:=Zx h;refine Wl fun μ ρ w XL=> ?_
   obtain⟨v',hr,Vf⟩:=sZ (P:=P) h1 (XL x (by simp[ho,Op.operands]) u hu) w;exact⟨v',by simp[execOp,ho,hr],Vf⟩
  ·cases h
 ·-- makeSlice
  rename_i t l c ho;split at h
  ·rename_i x y hx hy;split at h
   ·rename_i e cs l0 s hm;simp only[YO]at h;subst h;intro S μ ρ w QC hB hS hf XL hR;obtain⟨v',w',μ',hr,hp,Vf⟩:=Eb hm QC hB hS (hf n (Nat.le_refl _) (by simp)) (XL l (by simp[ho,Op.operands]) x hx) (XL c (by simp[ho,Op.operands]) y hy);exact⟨_,w',μ',by simp[execOp,ho,hr],hp,.val Vf⟩
   ·cases h
  ·cases h
 ·-- slice
  rename_i t x lo hi ho;have hlo:∀y,lo=some y->y∈o.op.operands:=fun y e=>by simp[ho,Op.operands,e]
  have hhi:∀y,hi=some y->y∈o.op.operands:=fun y e=>by simp[ho,Op.operands,e]
  split at h
  ·rename_i a m s l hh hu hl hhh;obtain⟨v,h1,rfl⟩:=Zx h;refine Wl fun μ ρ w XL=> ?_
   obtain⟨v',hr,Vf⟩:=ov h1 (XL x (by simp[ho,Op.operands]) _ hu) (dI hl fun y e=>XL y (hlo y e)) (dI hhh fun y e=>XL y (hhi y e)) w;exact⟨v',by simp[execOp,ho,hr],Vf⟩
  ·rename_i p l hh hu hl hhh;obtain⟨v,h1,rfl⟩:=Zx h;refine Wl fun μ ρ w XL=> ?_
   obtain⟨v',hr,Vf⟩:=ov h1 (XL x (by simp[ho,Op.operands]) _ hu) (dI hl fun y e=>XL y (hlo y e)) (dI hhh fun y e=>XL y (hhi y e)) w;exact⟨v',by simp[execOp,ho,hr],Vf⟩
  ·exact XQ h
 ·-- slice with a bound
  rename_i t x lo hi mx ho;have hlo:∀y,lo=some y->y∈o.op.operands:=fun y e=>by simp[ho,Op.operands,e]
  cases hc:aE P t (ev x) (Ek ev lo) (ev hi) (ev mx)with
  |false=>rw[hc]at h;exact XQ h
  |true=>
   rw[hc]at h;simp only[cond_true,YO]at h;subst h;obtain⟨xv,l,hv,mv,e1,e2,e3,e4,VI⟩:=iu (μ:=fun _=>none) hc;clear VI;refine Wl fun μ ρ w XL=> ?_
   obtain⟨xv',l',ZY,mv',e1',e2',e3',e4',VI⟩:=iu (μ:=μ) hc;obtain⟨v',hr,Vf⟩:=VI (XL x (by simp[ho,Op.operands]) _ e1') (dI e2' fun y e=>XL y (hlo y e)) (XL hi (by simp[ho,Op.operands]) _ e3') (XL mx (by simp[ho,Op.operands]) _ e4') w;exact⟨v',by simp[execOp,ho,hr],Vf⟩
 ·-- makeFunc
  rename_i f first captured ho
  split at h
  ·rename_i xs ys hx hy;simp only[YO]at h;subst h;refine Wl fun μ ρ w XL=> ?_
   have hops:o.op.operands=first++captured:=by rw[ho];rfl
   rw[hops]at XL;have q1:=aG (μ:=μ) (ρ:=ρ) _ _ hx (fun x hx v hv=>XL x (Array.mem_append.2 (.inl (Array.mem_toList_iff.1 hx))) v hv);have q2:=aG (μ:=μ) (ρ:=ρ) _ _ hy (fun x hx v hv=>XL x (Array.mem_append.2 (.inr (Array.mem_toList_iff.1 hx))) v hv);refine⟨.func (.func f) (first.map ρ) (captured.map ρ),by simp[execOp,ho,Instr.makeFunc], ?_⟩;have e1:(first.toList.map ρ).toArray=first.map ρ:=by apply Array.ext';simp
   have e2:(captured.toList.map ρ).toArray=captured.map ρ:=by apply Array.ext';simp
   rw[e1]at q1;rw[e2]at q2;exact .func q1.1 q2.1 q1.2 q2.2
  ·cases h
 ·-- makeMap
  rename_i t ho;simp only[YO]at h;subst h;intro S μ ρ w QC hB hS hf XL hR;have hfn:=hf n (Nat.le_refl _) (by simp);refine⟨_,_,_, ?_,Post.alloc QC hB hS hfn (.map #[] 0) (.map #[] 0) 0 ⟨rfl,#[],heap_alloc _ _,rfl,fun i e e' he _=>by simp at he⟩,.val (.map (im:=⟨w.heap.size,0,0,true,Su⟩) Xu)⟩;simp only[execOp,ho,Instr.makeMap,Option.map_none,Sem.run_bind,Result.andThen_ok,run_newObj,Sem.run_pure];rfl
 ·-- lookup
  rename_i t x k ok ho;split at h
  ·rename_i m kv hm hk;split at h
   ·rename_i v R hl;simp only[YO]at h;subst h;intro S μ ρ w QC hB hS hf XL hR;obtain⟨v',hr,Vf⟩:=yd hl QC (XL x (by simp[ho,Op.operands]) m hm) (XL k (by simp[ho,Op.operands]) kv hk) hR;exact⟨_,w,μ,by simp[execOp,ho,hr],Post.refl QC,.val Vf⟩
   ·cases h
  ·cases h
 ·-- mapUpdate
  rename_i t m k x ho;split at h
  ·rename_i mv kv v hm hk hv;split at h
   ·rename_i H' b hl;simp only[YO]at h;subst h;intro S μ ρ w QC hB hS hf XL hR;obtain⟨w',hr,XC⟩:=oy hl QC hS (XL m (by simp[ho,Op.operands]) mv hm) (XL k (by simp[ho,Op.operands]) kv hk) (XL x (by simp[ho,Op.operands]) v hv) (hR b (by simp));exact⟨_,w',μ,by simp[execOp,ho,hr],XC,.skip⟩
   ·cases h
  ·cases h
 ·-- binOp
  rename_i op t x y yt ho;split at h
  ·rename_i a b ha hb;split at h
   ·rename_i v hv;simp only[YO]at h;subst h;refine Wl fun μ ρ w XL=> ?_
    obtain⟨h1,h2,h3,h4⟩:=HP (P:=P) (t:=t) (x:=x) (y:=y) hv w;have e1:=h3 μ _ (XL x (by simp[ho,Op.operands]) a ha);have e2:=h4 μ _ (XL y (by simp[ho,Op.operands]) b hb);refine⟨v, ?_,h2 μ⟩;simp only[execOp,ho,e1,e2];rw[Sem.run_bind,h1];rfl
   ·exact XQ h
  ·cases h
 ·-- nilCheck
  rename_i x ho;split at h
  ·rename_i a hx;simp only[YO]at h;subst h;refine Wl fun μ ρ w XL=> ?_
   have hv:=XL x (by simp[ho,Op.operands]) _ hx;refine⟨ρ x, ?_,hv⟩;generalize hg:ρ x=u at hv;cases hv <;> simp[execOp,ho,hg]
  ·rename_i f xs ys hx;simp only[YO]at h;subst h;refine Wl fun μ ρ w XL=> ?_
   have hv:=XL x (by simp[ho,Op.operands]) _ hx;refine⟨ρ x, ?_,hv⟩;generalize hg:ρ x=u at hv;cases hv;simp[execOp,ho,hg]
  ·rename_i f xs ys hx;simp only[YO]at h;subst h;refine Wl fun μ ρ w XL=> ?_
   have hv:=XL x (by simp[ho,Op.operands]) _ hx;refine⟨ρ x, ?_,hv⟩;generalize hg:ρ x=u at hv;cases hv;simp[execOp,ho,hg]
  ·cases h
 ·-- call
  rename_i c ho;split at h
  ·-- append
   rename_i hc;split at h
   ·rename_i s x t t' ha ht;split at h
    ·rename_i sv xv hs hx;intro S μ ρ w QC hB hS hf XL hR;have ea:c.args=#[s,x]:=by rw[<-ha]
     have et:c.argTypes=#[t,t']:=by rw[<-ht]
     have hvs:=XL s (by simp[ho,Op.operands,Call.operands,hc,ea]) sv hs;have hvx:=XL x (by simp[ho,Op.operands,Call.operands,hc,ea]) xv hx;unfold yg at h;cases htt:Nat.beq t t' with
     |false=>
      rw[htt]at h;simp only[cond_false]at h;have JI:r.n=n+1:=LU h;obtain⟨v,v',w',μ',hr,hp,hnx,Vf,_⟩:=Ef (ty:=o.type) h QC hB hS (hf n (Nat.le_refl _) (by omega)) hvs hvx;refine⟨.value v',w',μ', ?_,hp,by rw[hnx];exact .val Vf⟩;simp[execOp,ho,resolve,hc,invoke,builtin,ea,et,hr]
     |true=>
      rw[htt]at h;simp only[cond_true]at h;have htt:=YE htt;subst htt;cases hca:VM P t H n (bare sv) xv with
      |some r0=>
       rw[hca]at h;simp only[YO]at h;subst h;have JI:r0.n=n+1:=Ee hca;obtain⟨v,v',w',μ',hr,hp,hnx,Vf,_⟩:=tf (ty:=o.type) hca QC hB hS (hf n (Nat.le_refl _) (by omega)) hvs hvx hR;refine⟨.value v',w',μ', ?_,hp,by rw[hnx];exact .val Vf⟩;simp[execOp,ho,resolve,hc,invoke,builtin,ea,et,hr]
      |none=>
       rw[hca]at h;simp only at h;obtain⟨hr,rfl⟩:=Eg (ty:=o.type) (w:=w) h hvs hvx;refine⟨.value (ρ s),w,μ, ?_,Post.refl QC,.val hvs⟩;simp[execOp,ho,resolve,hc,invoke,builtin,ea,et,hr]
    ·cases h
   ·cases h
  ·-- len
   rename_i hc;split at h
   ·rename_i x t ha ht;split at h
    ·rename_i a m s e hx hu;rw[Zt]at hu;simp only[YO]at h;subst h;refine Wl fun μ ρ w XL=> ?_
     have ea:c.args=#[x]:=by rw[<-ha]
     have et:c.argTypes=#[t]:=by rw[<-ht]
     have hv:=XL x (by simp[ho,Op.operands,Call.operands,hc,ea]) _ hx;refine⟨.int .i64 m, ?_,.int _ _⟩;generalize hg:ρ x=u at hv;cases hv <;> simp[execOp,ho,resolve,hc,invoke,builtin,ea,et,hg,Builtin.len_,run_underlying hu,goInt]
    ·rename_i e hx hu;rw[Zt]at hu;simp only[YO]at h;subst h;refine Wl fun μ ρ w XL=> ?_
     have ea:c.args=#[x]:=by rw[<-ha]
     have et:c.argTypes=#[t]:=by rw[<-ht]
     have hv:=XL x (by simp[ho,Op.operands,Call.operands,hc,ea]) _ hx;refine⟨.int .i64 0, ?_,.int _ _⟩;generalize hg:ρ x=u at hv;cases hv <;> simp[execOp,ho,resolve,hc,invoke,builtin,ea,et,hg,Builtin.len_,run_underlying hu,goInt]
    ·exact XQ h
   ·cases h
  ·-- copy
   rename_i hc;split at h
   ·rename_i s x t t2 ha ht;split at h
    ·rename_i sv xv hs hx;intro S μ ρ w QC hB hS hf XL hR;have ea:c.args=#[s,x]:=by rw[<-ha]
     have et:c.argTypes=#[t,t2]:=by rw[<-ht]
     obtain⟨v,w',hr,hp,hnx,Vf,_⟩:=Ed (ty:=o.type) (t2:=t2) h QC hS (XL s (by simp[ho,Op.operands,Call.operands,hc,ea]) sv hs) (XL x (by simp[ho,Op.operands,Call.operands,hc,ea]) xv hx) hR;refine⟨.value v,w',μ, ?_,hp,by rw[hnx];exact .val Vf⟩;simp[execOp,ho,resolve,hc,invoke,builtin,ea,et,hr]
    ·cases h
   ·cases h
  ·exact XQ h
  ·-- value
   rename_i f hc;split at h
   ·rename_i fv args hfv hargs;split at h
    ·rename_i nx R hcc;simp only[YO]at h;subst h;intro S μ ρ w QC hB hS hf XL hR;have hops:o.op.operands=#[f]++c.args:=by rw[ho];simp only[Op.operands,Call.operands,hc]
     rw[hops]at XL;have q:=aG (μ:=μ) (ρ:=ρ) _ _ hargs (fun x hx v hv=>XL x (Array.mem_append.2 (.inr (Array.mem_toList_iff.1 hx))) v hv);have e1:(c.args.toList.map ρ).toArray=c.args.map ρ:=by apply Array.ext';simp
     rw[e1]at q;obtain⟨nx',hr,hnr⟩:=qY (P:=P) hF hcc QC (XL f (Array.mem_append.2 (.inl (by simp))) fv hfv) q hR;refine⟨nx',w,μ, ?_,Post.refl QC,hnr⟩;simp only[execOp,ho,resolve,hc];simpa using hr
    ·cases h
   ·cases h
  ·cases h
 ·exact XQ h
end Go.CE

namespace Go.CE
open Go Go.RowKit

structure PG (B:Nat) (S New W:Nat->Prop) (μ μ':Mu) (G G':Nat->Option Obj) (w w':World):Prop where
 ok:Ok B (fun i=>S i\/New i) μ' G' w'
 ext:∀i,¬New i->μ' i=μ i
 keep:∀i,¬New i->¬W i->G' i=G i
 grow:w.heap.size<=w'.heap.size
 frame:∀b,b<w.heap.size->(∀i,W i->∀im,μ i=some im->im.Zn≠b)->w'.heap[b]? =w.heap[b]?
 wr:∀i,W i->S i/\(∃o,G i=some o/\live o)/\∃im,μ i=some im/\im.rw=true
 fresh:∀i im o,New i->G' i=some o->live o->μ' i=some im->im.rw=true/\
  (w.heap.size<=im.Zn\/∃k,W k/\(∃Zz,μ k=some Zz/\Zz.Zn=im.Zn)/\∀o,G' k=some o->¬live o)
 rf:∀i im o,(New i\/W i)->G' i=some o->Wb o->μ' i=some im->∀b x,im.fm b=some x->
  w.heap.size<=b\/(∃k VP ko,S k/\G k=some ko/\Wb ko/\μ k=some VP/\VP.fm b=some x)\/∃k,W k/\(∃Zz,μ k=some Zz/\Zz.Zn=b)/\∀o,G' k=some o->¬live o
 os:w'.os=w.os
 tape:w'.tape=w.tape
 output:w'.output=w.output
theorem PG.refl{B:Nat}{S:Nat->Prop}{μ:Mu}{G:Nat->Option Obj}{w:World}(h:Ok B S μ G w):PG B S (fun _=>False) (fun _=>False) μ μ G G w w:=
 ⟨h.sub fun _ hi=>hi.elim id False.elim,fun _ _=>rfl,fun _ _ _=>rfl,Nat.le_refl _,fun _ _ _=>rfl,fun _ h=>h.elim,fun _ _ _ h=>h.elim,fun _ _ _ h=>h.elim False.elim False.elim,rfl,rfl,rfl⟩
theorem Post.pg{B:Nat}{S:Nat->Prop}{n n':Nat}{W:List Nat}{μ μ':Mu}{H H':Qo}{w w':World}(h:Post B S n n' W μ μ' H H' w w')(hn:∀i,n'<=i->Qs H' i=Qs H i):
 PG B S (fun i=>n<=i/\i<n') (fun i=>i∈W/\i<n) μ μ' (Qs H) (Qs H') w w':=by
 have hle:=h.le;refine⟨h.ok,h.ext,fun i hi hw=> ?_,h.grow,fun b hb hw=>h.frame b hb fun i a c=>hw i ⟨a,c⟩,fun i hi=>h.wr i hi.1 hi.2,fun i im o hi ho hl hm=> ?_,fun i im o hi ho hr hm b x hb=> ?_,h.os,h.tape,h.output⟩
 ·rcases Nat.lt_or_ge i n with Xh|hge
  ·exact h.keep i Xh fun e=>hw ⟨e,Xh⟩
  ·exact hn i (by omega)
 ·obtain⟨hr,hf⟩:=h.fresh i im o hi.1 hi.2 ho hl hm;refine⟨hr,hf.imp id ?_⟩;rintro⟨k,a,b,c,d⟩;exact⟨k,⟨a,b⟩,c,d⟩
 ·rcases h.rf i im o hi ho hr hm b x hb with e|⟨k,VP,ko,a,c,d⟩|⟨k,a,c,d⟩
  ·exact .inl e
  ·exact .inr (.inl ⟨k,VP,ko,a,d⟩)
  ·exact .inr (.inr ⟨k,⟨a,c⟩,d⟩)
theorem PG.post{B:Nat}{S New:Nat->Prop}{n n':Nat}{W:List Nat}{μ μ':Mu}{H H':Qo}{w w':World}(h:PG B S New (fun i=>i∈W/\i<n) μ μ' (Qs H) (Qs H') w w')(hN:∀i,New i<->n<=i/\i<n')(hle:n<=n')(hS:∀i,S i->i<n):Post B S n n' W μ μ' H H' w w':=by
 refine⟨h.ok.sub fun i hi=>hi.imp id (hN i).2,hle,fun i hi=>h.ext i fun e=>hi ((hN i).1 e),fun i hi hw=>h.keep i (fun e=>by have:=((hN i).1 e).1;omega) (fun e=>hw e.1),h.grow,
  fun b hb hw=>h.frame b hb fun i hi=>hw i hi.1 hi.2,fun i hi Xh=>h.wr i ⟨hi,Xh⟩,fun i im o h1 h2 ho hl hm=> ?_,fun i im o hi ho hr hm b x hb=> ?_,h.os,h.tape,h.output⟩
 ·obtain⟨hr,hf⟩:=h.fresh i im o ((hN i).2 ⟨h1,h2⟩) ho hl hm;refine⟨hr,hf.imp id ?_⟩;rintro⟨k,⟨a,b⟩,c,d⟩;exact⟨k,a,b,c,d⟩
 ·rcases h.rf i im o (hi.imp (hN i).2 id) ho hr hm b x hb with e|⟨k,VP,ko,a,c⟩|⟨k,⟨a,c⟩,d⟩
  ·exact .inl e
  ·exact .inr (.inl ⟨k,VP,ko,a,hS k a,c⟩)
  ·exact .inr (.inr ⟨k,a,c,d⟩)
theorem PG.then{B:Nat}{S S2 JA Um W1 W2:Nat->Prop}{μ μ1 μ2:Mu}{G G1 Gc G2' G2:Nat->Option Obj}{w w1 w2:World}(h1:PG B S JA W1 μ μ1 G G1 w w1)(h2:PG B S2 Um W2 μ1 μ2 Gc G2' w1 w2)
 (hsub:∀i,S2 i->S i\/JA i) (hGc:∀i,S2 i->Gc i=G1 i) (hnew:∀i,Um i->¬S i/\¬JA i) (Vl:∀i,Um i->μ1 i=none)
 (ha:∀i,W2 i\/Um i->G2 i=G2' i) (hb:∀i,¬W2 i->¬Um i->G2 i=G1 i):
 PG B S (fun i=>JA i\/Um i) (fun i=>W1 i\/(W2 i/\¬JA i)) μ μ2 G G2 w w2:=by
 have hW2S:∀i,W2 i->S2 i/\(∃o,G1 i=some o/\live o)/\∃im,μ1 i=some im/\im.rw=true:=by
  intro i hi;obtain⟨a,⟨o,ho,hl⟩,c⟩:=h2.wr i hi;exact⟨a,⟨o,by rw[<-hGc i a];exact ho,hl⟩,c⟩
 have hW2N:∀i,W2 i->¬Um i:=by
  intro i hi hn;rcases hsub i (hW2S i hi).1 with h|h
  ·exact(hnew i hn).1 h
  ·exact(hnew i hn).2 h
 have ext12:Ext μ1 μ2:=by
  intro k im hk;rw[h2.ext k fun hn=>by rw[Vl k hn]at hk;cases hk];exact hk
 have mu2:∀i,¬Um i->μ2 i=μ1 i:=h2.ext
 -- blocks Yo the second piece leaves
 have other:∀i o im,(S i\/JA i)->¬W2 i->G1 i=some o->live o->μ1 i=some im->(∀k,W2 k->∀Zz,μ1 k=some Zz->Zz.Zn≠im.Zn):=by
  intro i o im hi hw ho hl QF k hk Zz QP;obtain⟨hkS,⟨ok,QC,hlk⟩,im'',WN,hr⟩:=hW2S k hk;rw[QP]at WN;cases WN;by_cases hra:im.rw=true
  ·exact h1.ok.inj k i ok o Zz im (hsub k hkS) hi (fun e=>hw (e ▸ hk)) QC ho hlk hl QP QF hr hra
  ·have a:=(h1.ok.low i o im hi ho hl QF).2.2 (by simpa using hra);have b:=(h1.ok.low k ok Zz (hsub k hkS) QC hlk QP).2.1 hr;omega
 have dead:∀k,W1 k->(∀o,G1 k=some o->¬live o)->∀o,G2 k=some o->¬live o:=by
  intro k hk hd o ho hl;have hS:=(h1.wr k hk).1;by_cases hw:W2 k
  ·obtain⟨_,⟨o',UD,hl'⟩,_⟩:=hW2S k hw;exact hd o' UD hl'
  ·rw[hb k hw (fun e=>(hnew k e).1 hS)]at ho;exact hd o ho hl
 -- what is live behind both, and ZH for the second, was live between
 have liveMid:∀i o,¬Um i->G2 i=some o->live o->∃o',G1 i=some o'/\live o':=by
  intro i o hn ho hl;by_cases hw:W2 i
  ·exact(hW2S i hw).2.1
  ·rw[hb i hw hn]at ho;exact⟨o,ho,hl⟩
 refine⟨⟨fun i o hi ho hl=> ?_,fun i o im hi ho hl QF=> ?_,fun i j oi oj a b hi hj Pa ZT ZS P0 VQ hma hmb hra Kl=> ?_,fun i o hi ho hr=> ?_,fun i j oi oj a b x hi hj ZT ZS Yt VQ hma hmb Kl hx=> ?_⟩,fun i hi=> ?_,fun i hn hw=> ?_,Nat.le_trans h1.grow h2.grow,fun b hb0 hw=> ?_,fun i hi=> ?_,fun i im o hi ho hl QF=> ?_,fun i im o hi ho hr QF b x hfb=> ?_,
  h2.os.trans h1.os,h2.tape.trans h1.tape,h2.output.trans h1.output⟩
 ·by_cases ht:W2 i\/Um i
  ·rw[ha i ht]at ho;exact h2.ok.rel i o (ht.imp (fun h=>(hW2S i h).1) id) ho hl
  ·have hw:¬W2 i:=fun h=>ht (.inl h)
   have hn:¬Um i:=fun h=>ht (.inr h)
   rw[hb i hw hn]at ho;have hi':S i\/JA i:=by rcases hi with h|h|h <;> first|exact .inl h|exact .inr h|exact absurd h hn
   obtain⟨im,QF,hr⟩:=h1.ok.rel i o hi' ho hl;exact⟨im,ext12 _ _ QF,hr.keep ext12 (h2.frame _ (h1.ok.low i o im hi' ho hl QF).1 (other i o im hi' hw ho hl QF))⟩
 ·by_cases ht:W2 i\/Um i
  ·rw[ha i ht]at ho;exact h2.ok.low i o im (ht.imp (fun h=>(hW2S i h).1) id) ho hl QF
  ·have hw:¬W2 i:=fun h=>ht (.inl h)
   have hn:¬Um i:=fun h=>ht (.inr h)
   rw[hb i hw hn]at ho;rw[mu2 i hn]at QF;have hi':S i\/JA i:=by rcases hi with h|h|h <;> first|exact .inl h|exact .inr h|exact absurd h hn
   have:=h1.ok.low i o im hi' ho hl QF;exact⟨Nat.lt_of_lt_of_le this.1 h2.grow,this.2⟩
 ·have ZH:∀i,(S i\/JA i\/Um i)->¬Um i->S i\/JA i:=by
   intro i hi hn;rcases hi with h|h|h <;> first|exact .inl h|exact .inr h|exact absurd h hn
  have nw:∀i j oi oj a b,Um i->¬Um j->(S j\/JA j\/Um j)->i≠j->G2 i=some oi->G2 j=some oj->live oi->live oj->μ2 i=some a->μ2 j=some b->b.rw=true->a.Zn≠b.Zn:=by
   intro i j oi oj a b hn hj0 hjS Pa ZT ZS P0 VQ hma hmb Kl;rw[ha i (.inr hn)]at ZT;rw[mu2 j hj0]at hmb;obtain⟨o',UD,hl'⟩:=liveMid j oj hj0 ZS VQ;have hjj:=ZH j hjS hj0;obtain⟨_,hf⟩:=h2.fresh i a oi hn ZT P0 hma;rcases hf with hf|⟨k,hk,⟨Zz,QP,hbb⟩,hd⟩
   ·have:=(h1.ok.low j o' b hjj UD hl' hmb).1;omega
   ·obtain⟨hkS,⟨ok,QC,hlk⟩,im'',WN,hrk⟩:=hW2S k hk;rw[QP]at WN;cases WN;have hkj:k≠j:=by
     rintro rfl;rw[ha k (.inl hk)]at ZS;exact hd oj ZS VQ
    have:=h1.ok.inj k j ok o' Zz b (hsub k hkS) hjj hkj QC UD hlk hl' QP hmb hrk Kl;omega
  by_cases hni:Um i
  ·by_cases hnj:Um j
   ·rw[ha i (.inr hni)]at ZT;rw[ha j (.inr hnj)]at ZS;exact h2.ok.inj i j oi oj a b (.inr hni) (.inr hnj) Pa ZT ZS P0 VQ hma hmb hra Kl
   ·exact nw i j oi oj a b hni hnj hj Pa ZT ZS P0 VQ hma hmb Kl
  ·by_cases hnj:Um j
   ·exact Ne.symm (nw j i oj oi b a hnj hni hi (Ne.symm Pa) ZS ZT VQ P0 hmb hma hra)
   ·rw[mu2 i hni]at hma;rw[mu2 j hnj]at hmb;obtain⟨o1,ho1,hl1⟩:=liveMid i oi hni ZT P0;obtain⟨o2,ho2,hl2⟩:=liveMid j oj hnj ZS VQ;exact h1.ok.inj i j o1 o2 a b (ZH i hi hni) (ZH j hj hnj) Pa ho1 ho2 hl1 hl2 hma hmb hra Kl
 ·by_cases ht:W2 i\/Um i
  ·rw[ha i ht]at ho;exact h2.ok.KL i o (ht.imp (fun h=>(hW2S i h).1) id) ho hr
  ·have hw:¬W2 i:=fun h=>ht (.inl h)
   have hn:¬Um i:=fun h=>ht (.inr h)
   rw[hb i hw hn]at ho;have hi':S i\/JA i:=by rcases hi with h|h|h <;> first|exact .inl h|exact .inr h|exact absurd h hn
   obtain⟨im,QF,hf⟩:=h1.ok.KL i o hi' ho hr;refine⟨im,ext12 _ _ QF,fun b x hx=> ?_⟩;have e:=hf b x hx;rw[h2.frame b (by simpa using(Array.getElem?_eq_some_iff.1 e).1) fun k hk Zz QP hbb=> ?_]
   ·exact e
   ·obtain⟨hkS,⟨ok,QC,hlk⟩,im'',WN,hrk⟩:=hW2S k hk;rw[QP]at WN;cases WN;exact h1.ok.sep i k o ok im Zz x hi' (hsub k hkS) ho QC hr hlk QF QP hrk (by rw[hbb];exact hx)
 ·have ZH:∀i,(S i\/JA i\/Um i)->¬Um i->S i\/JA i:=by
   intro i hi hn;rcases hi with h|h|h <;> first|exact .inl h|exact .inr h|exact absurd h hn
  by_cases htj:W2 j\/Um j
  ·by_cases hti:W2 i\/Um i
   ·rw[ha i hti]at ZT;rw[ha j htj]at ZS;exact h2.ok.sep i j oi oj a b x (hti.imp (fun h=>(hW2S i h).1) id) (htj.imp (fun h=>(hW2S j h).1) id) ZT ZS Yt VQ hma hmb Kl hx
   ·have hw:¬W2 i:=fun h=>hti (.inl h)
    have hn:¬Um i:=fun h=>hti (.inr h)
    rw[hb i hw hn]at ZT;rw[mu2 i hn]at hma;have hi':=ZH i hi hn;obtain⟨im,QF,hf⟩:=h1.ok.KL i oi hi' ZT Yt;rw[hma]at QF;cases QF;have Xh:b.Zn<w1.heap.size:=(Array.getElem?_eq_some_iff.1 (hf _ x hx)).1;by_cases hnj:Um j
    ·rw[ha j (.inr hnj)]at ZS;obtain⟨_,X5⟩:=h2.fresh j b oj hnj ZS VQ hmb;rcases X5 with X5|⟨k,hk,⟨Zz,QP,hbb⟩,hd⟩
     ·omega
     ·obtain⟨hkS,⟨ok,QC,hlk⟩,im'',WN,hrk⟩:=hW2S k hk;rw[QP]at WN;cases WN;exact h1.ok.sep i k oi ok a Zz x hi' (hsub k hkS) ZT QC Yt hlk hma QP hrk (by rw[hbb];exact hx)
    ·have hwj:W2 j:=htj.resolve_right hnj;obtain⟨hkS,⟨ok,QC,hlk⟩,im'',WN,hrk⟩:=hW2S j hwj;rw[mu2 j hnj]at hmb;exact h1.ok.sep i j oi ok a b x hi' (hsub j hkS) ZT QC Yt hlk hma hmb Kl hx
  ·have hwj:¬W2 j:=fun h=>htj (.inl h)
   have hnj:¬Um j:=fun h=>htj (.inr h)
   rw[hb j hwj hnj]at ZS;rw[mu2 j hnj]at hmb;have hj':=ZH j hj hnj;by_cases hti:W2 i\/Um i
   ·rw[ha i hti]at ZT;rcases h2.rf i a oi hti.symm ZT Yt hma b.Zn x hx with e|⟨k,VP,ko,hS,hko,hkr,hkm,hkb⟩|⟨k,hk,⟨Zz,QP,hbb⟩,hd⟩
    ·have:=(h1.ok.low j oj b hj' ZS VQ hmb).1;omega
    ·rw[hGc k hS]at hko;exact h1.ok.sep k j ko oj VP b x (hsub k hS) hj' hko ZS hkr VQ hkm hmb Kl hkb
    ·obtain⟨hkS,⟨ok,QC,hlk⟩,im'',WN,hrk⟩:=hW2S k hk;rw[QP]at WN;cases WN;exact h1.ok.inj k j ok oj Zz b (hsub k hkS) hj' (fun e=>hwj (e ▸ hk)) QC ZS hlk VQ QP hmb hrk Kl hbb
   ·have hw:¬W2 i:=fun h=>hti (.inl h)
    have hn:¬Um i:=fun h=>hti (.inr h)
    rw[hb i hw hn]at ZT;rw[mu2 i hn]at hma;exact h1.ok.sep i j oi oj a b x (ZH i hi hn) hj' ZT ZS Yt VQ hma hmb Kl hx
 ·rw[mu2 i (fun h=>hi (.inr h)),h1.ext i (fun h=>hi (.inl h))]
 ·have JI:¬JA i:=fun h=>hn (.inl h)
  rw[hb i (fun h=>hw (.inr ⟨h,JI⟩)) (fun h=>hn (.inr h)),h1.keep i JI (fun h=>hw (.inl h))]
 ·have e1:=h1.frame b hb0 fun i hi=>hw i (.inl hi)
  rw[<-e1];refine h2.frame b (Nat.lt_of_lt_of_le hb0 h1.grow) fun i hi im QF=> ?_
  by_cases hn:JA i
  ·obtain⟨_,⟨o,ho,hl⟩,_⟩:=hW2S i hi;obtain⟨_,hf⟩:=h1.fresh i im o hn ho hl QF;rcases hf with hf|⟨k,hk,⟨Zz,QP,hbb⟩,_⟩
   ·omega
   ·rw[<-hbb];exact hw k (.inl hk) Zz QP
  ·rw[h1.ext i hn]at QF;exact hw i (.inr ⟨hi,hn⟩) im QF
 ·rcases hi with hi|⟨hi,hn⟩
  ·exact h1.wr i hi
  ·obtain⟨hS2,⟨o,ho,hl⟩,im,QF,hr⟩:=hW2S i hi;have hS:S i:=(hsub i hS2).elim id fun h=>absurd h hn
   refine⟨hS, ?_,im,by rw[<-h1.ext i hn];exact QF,hr⟩;by_cases hw:W1 i
   ·exact(h1.wr i hw).2.1
   ·rw[h1.keep i hn hw]at ho;exact⟨o,ho,hl⟩
 ·by_cases hn:Um i
  ·rw[ha i (.inr hn)]at ho;obtain⟨hr,hf⟩:=h2.fresh i im o hn ho hl QF;refine⟨hr, ?_⟩;rcases hf with hf|⟨k,hk,⟨Zz,QP,hbb⟩,hd⟩
   ·exact .inl (Nat.le_trans h1.grow hf)
   ·have hd2:∀o,G2 k=some o->¬live o:=fun o ho=>by rw[ha k (.inl hk)]at ho;exact hd o ho
    by_cases hk1:JA k
    ·obtain⟨_,⟨o',UD,hl'⟩,_⟩:=hW2S k hk;obtain⟨_,hf'⟩:=h1.fresh k Zz o' hk1 UD hl' QP;rcases hf' with hf'|⟨k',hk',⟨im'',WN,hb''⟩,hd'⟩
     ·exact .inl (by omega)
     ·exact .inr ⟨k',.inl hk',⟨im'',WN,by omega⟩,dead k' hk' hd'⟩
    ·exact .inr ⟨k,.inr ⟨hk,hk1⟩,⟨Zz,by rw[<-h1.ext k hk1];exact QP,hbb⟩,hd2⟩
  ·have JI:JA i:=hi.elim id fun h=>absurd h hn
   rw[mu2 i hn]at QF;obtain⟨o',UD,hl'⟩:=liveMid i o hn ho hl;obtain⟨hr,hf⟩:=h1.fresh i im o' JI UD hl' QF;refine⟨hr, ?_⟩;rcases hf with hf|⟨k,hk,QP,hd⟩
   ·exact .inl hf
   ·exact .inr ⟨k,.inl hk,QP,dead k hk hd⟩
 ·have mid:∀k VP ko,(JA k\/W1 k)->G1 k=some ko->Wb ko->μ1 k=some VP->VP.fm b=some x->
   w.heap.size<=b\/(∃k VP ko,S k/\G k=some ko/\Wb ko/\μ k=some VP/\VP.fm b=some x)\/∃k,(W1 k\/(W2 k/\¬JA k))/\(∃Zz,μ k=some Zz/\Zz.Zn=b)/\∀o,G2 k=some o->¬live o:=by
   intro k VP ko hk hko hkr hkm hkb;rcases h1.rf k VP ko hk hko hkr hkm b x hkb with h|h|⟨k',a,d,e⟩
   ·exact .inl h
   ·exact .inr (.inl h)
   ·exact .inr (.inr ⟨k',.inl a,d,dead k' a e⟩)
  by_cases hA:Um i\/W2 i
  ·rw[ha i hA.symm]at ho;rcases h2.rf i im o hA ho hr QF b x hfb with h|⟨k,VP,ko,hS,hko,hkr,hkm,hkb⟩|⟨k,hk,⟨Zz,QP,hbb⟩,hd⟩
   ·exact .inl (Nat.le_trans h1.grow h)
   ·rw[hGc k hS]at hko;by_cases hx:JA k\/W1 k
    ·exact mid k VP ko hx hko hkr hkm hkb
    ·have hk1:¬JA k:=fun e=>hx (.inl e)
     rw[h1.keep k hk1 fun e=>hx (.inr e)]at hko;rw[h1.ext k hk1]at hkm;exact .inr (.inl ⟨k,VP,ko,(hsub k hS).resolve_right hk1,hko,hkr,hkm,hkb⟩)
   ·have hd2:∀o,G2 k=some o->¬live o:=fun o ho=>by rw[ha k (.inl hk)]at ho;exact hd o ho
    by_cases hk1:JA k
    ·obtain⟨_,⟨o',UD,hl'⟩,_⟩:=hW2S k hk;obtain⟨_,hf'⟩:=h1.fresh k Zz o' hk1 UD hl' QP;rcases hf' with hf'|⟨k',hk',⟨im'',WN,hb''⟩,hd'⟩
     ·exact .inl (by omega)
     ·exact .inr (.inr ⟨k',.inl hk',⟨im'',WN,by omega⟩,dead k' hk' hd'⟩)
    ·exact .inr (.inr ⟨k,.inr ⟨hk,hk1⟩,⟨Zz,by rw[<-h1.ext k hk1];exact QP,hbb⟩,hd2⟩)
  ·have hn2:¬Um i:=fun e=>hA (.inl e)
   have hw2:¬W2 i:=fun e=>hA (.inr e)
   rw[hb i hw2 hn2]at ho;rw[mu2 i hn2]at QF;refine mid i im o ?_ ho hr QF hfb;rcases hi with (h|h)|h|h
   ·exact .inl h
   ·exact absurd h hn2
   ·exact .inr h
   ·exact absurd h.1 hw2
end Go.CE

namespace Go.CE
open Go Go.RowKit

def M8{α:Type}(b:Bool):Option α->α->α
 |some x,a=>bif b then x else a
 |none,a=>a
def U7{α:Type}(D:Nat->Bool):List (Option α)->Nat->α->α
 |[],_,a=>a
 |c::l,k,a=>U7 D l (k+1) (M8 (D k) c a)
theorem Ws{α:Type}{D D':Nat->Bool}:∀(l:List (Option α)) (k:Nat) (a:α),(∀i x,l[i]? =some (some x)->D (k+i)=D' (k+i))->U7 D l k a=U7 D' l k a
 |[],_,_,_=>rfl
 |c::l,k,a,h=>by
  simp only[U7];have e:M8 (D k) c a=M8 (D' k) c a:=by
   cases c with
   |none=>rfl
   |some x=>rw[show D k=D' k by simpa using h 0 x rfl]
  rw[e];exact Ws l (k+1) _ fun i x hx=>by have:=h (i+1) x (by simpa using hx);rwa[show k+(i+1)=k+1+i by omega]at this
theorem Uc{α:Type}{D:Nat->Bool}:∀(l:List (Option α)) (k:Nat) (a:α),(∀i x,l[i]? =some (some x)->D (k+i)=false)->U7 D l k a=a
 |[],_,_,_=>rfl
 |c::l,k,a,h=>by
  simp only[U7];have e:M8 (D k) c a=a:=by
   cases c with
   |none=>rfl
   |some x=>rw[show D k=false by simpa using h 0 x rfl];rfl
  rw[e];exact Uc l (k+1) a fun i x hx=>by have:=h (i+1) x (by simpa using hx);rwa[show k+(i+1)=k+1+i by omega]at this
theorem nO{α:Type}{D:Nat->Bool}{x:α}:∀(l:List (Option α)) (k j:Nat) (a:α),l[j]? =some (some x)->D (k+j)=true->(∀i y,j<i->l[i]? =some (some y)->D (k+i)=false)->U7 D l k a=x
 |[],_,_,_,h,_,_=>by simp at h
 |c::l,k,0,a,h,hd,hn=>by
  simp only[List.getElem?_cons_zero,YO]at h;subst h;simp only[U7];rw[show D k=true by simpa using hd];exact Uc l (k+1) x fun i y hy=>by have:=hn (i+1) y (by omega) (by simpa using hy);rwa[show k+(i+1)=k+1+i by omega]at this
 |c::l,k,j+1,a,h,hd,hn=>by
  simp only[U7];exact nO l (k+1) j _ (by simpa using h) (by rwa[show k+1+j=k+(j+1)by omega]) fun i y hi hy=>by
   have:=hn (i+1) y (by omega) (by simpa using hy);rwa[show k+(i+1)=k+1+i by omega]at this

inductive Tri where
 |lf
 |nd (l:Tri) (v:Value) (r:Tri)
def Tri.get:Tri->Nat->Value
 | .lf,_=>undef
 | .nd _ v _,0=>v
 | .nd l _ r,k+1=>bif Nat.beq (k % 2) 0 then l.get (k / 2)else r.get (k / 2)
def Tri.set:Nat->Tri->Nat->Value->Tri
 |0,t,_,_=>t
 |_+1,.lf,0,x=>.nd .lf x .lf
 |_+1,.nd l _ r,0,x=>.nd l x r
 |f+1,.lf,k+1,x=>bif Nat.beq (k % 2) 0 then .nd (Tri.set f .lf (k / 2) x) undef .lf else .nd .lf undef (Tri.set f .lf (k / 2) x)
 |f+1,.nd l v r,k+1,x=>bif Nat.beq (k % 2) 0 then .nd (Tri.set f l (k / 2) x) v r else .nd l v (Tri.set f r (k / 2) x)
theorem Tri.get_lf(i:Nat):Tri.lf.get i=undef:=by cases i <;> rfl
theorem Tri.get_succ(l:Tri)(v:Value)(r:Tri)(k:Nat):(Tri.nd l v r).get (k+1)=if k % 2=0 then l.get (k / 2)else r.get (k / 2):=by
 show(bif Nat.beq (k % 2) 0 then l.get (k / 2)else r.get (k / 2))=_;by_cases h:k % 2=0
 ·rw[h];rfl
 ·rw[Sq h,if_neg h];rfl
theorem Tri.set_lf(f k:Nat)(x:Value):Tri.set (f+1) .lf (k+1) x=if k % 2=0 then Tri.nd (Tri.set f .lf (k / 2) x) undef .lf else Tri.nd .lf undef (Tri.set f .lf (k / 2) x):=by
 show(bif Nat.beq (k % 2) 0 then _ else _)=_;by_cases h:k % 2=0
 ·rw[h];rfl
 ·rw[Sq h,if_neg h];rfl
theorem Tri.set_nd(f k:Nat)(l:Tri)(v:Value)(r:Tri)(x:Value):Tri.set (f+1) (.nd l v r) (k+1) x=if k % 2=0 then Tri.nd (Tri.set f l (k / 2) x) v r else Tri.nd l v (Tri.set f r (k / 2) x):=by
 show(bif Nat.beq (k % 2) 0 then _ else _)=_;by_cases h:k % 2=0
 ·rw[h];rfl
 ·rw[Sq h,if_neg h];rfl
theorem Tri.lf_get(j:Nat):(Tri.nd .lf undef .lf).get j=Tri.lf.get j:=by
 cases j with
 |zero=>rfl
 |succ j=>rw[Tri.get_succ];simp only[Tri.get_lf,ite_self]
theorem Tri.get_set:∀(f:Nat) (t:Tri) (i:Nat) (x:Value) (j:Nat),i+1<2 ^ f->(t.set f i x).get j=if j=i then x else t.get j
 |0,t,i,x,j,h=>by simp at h
 |f+1,t,0,x,j,_=>by
  cases t with
  |lf=>
   show(Tri.nd .lf x .lf).get j=_;cases j with
   |zero=>rfl
   |succ j=>rw[if_neg (by omega),Tri.get_succ];simp only[Tri.get_lf,ite_self]
  |nd l v r=>
   show(Tri.nd l x r).get j=_;cases j with
   |zero=>rfl
   |succ j=>rw[if_neg (by omega),Tri.get_succ,Tri.get_succ]
 |f+1,t,k+1,x,j,h=>by
  have hk:k / 2+1<2 ^ f:=by rw[Nat.pow_succ]at h;omega
  by_cases he:k % 2=0
  ·have key:∀l v r,(Tri.nd (Tri.set f l (k / 2) x) v r).get j=if j=k+1 then x else(Tri.nd l v r).get j:=by
    intro l v r;cases j with
    |zero=>rfl
    |succ j=>
     rw[Tri.get_succ,Tri.get_succ,Tri.get_set f l (k / 2) x (j / 2) hk];by_cases hj:j % 2=0
     ·rw[if_pos hj,if_pos hj];by_cases e:j=k
      ·subst e;simp
      ·rw[if_neg (by omega),if_neg (by omega)]
     ·rw[if_neg hj,if_neg hj,if_neg (by omega)]
   cases t with
   |lf=>rw[Tri.set_lf,if_pos he,key,Tri.lf_get]
   |nd l v r=>rw[Tri.set_nd,if_pos he,key]
  ·have key:∀l v r,(Tri.nd l v (Tri.set f r (k / 2) x)).get j=if j=k+1 then x else(Tri.nd l v r).get j:=by
    intro l v r;cases j with
    |zero=>rfl
    |succ j=>
     rw[Tri.get_succ,Tri.get_succ,Tri.get_set f r (k / 2) x (j / 2) hk];by_cases hj:j % 2=0
     ·rw[if_pos hj,if_pos hj,if_neg (by omega)]
     ·rw[if_neg hj,if_neg hj];by_cases e:j=k
      ·subst e;simp
      ·rw[if_neg (by omega),if_neg (by omega)]
   cases t with
   |lf=>rw[Tri.set_lf,if_neg he,key,Tri.lf_get]
   |nd l v r=>rw[Tri.set_nd,if_neg he,key]
structure Tm where
 len:Nat
 tr:Tri
def X7(T:Tm)(t:Nat):Value:=T.tr.get t
def Vn(T:Tm)(d:Option Tmp)(v:Value):Tm:=match d with|some d=>⟨T.len,T.tr.set 14 d v⟩|none=>T
def XW(T:Tm):Operand->Option Value
 | .tmp t=>some (X7 T t)
 | .const v=>bif af v then some v else none
 | .func f=>some (.func (.func f) #[] #[])
 | .global _=>none
def TR(μ:Mu)(T:Tm)(A:Array Value):Prop:=T.len=A.size/\∀t,VR μ (X7 T t) (A.getD t undef)
theorem TR.mono{μ μ':Mu}(e:Ext μ μ'){T:Tm}{A:Array Value}(h:TR μ T A):TR μ' T A:=⟨h.1,fun t=>(h.2 t).mono e⟩
theorem VS{T:Tm}{d:Option Tmp}{v:Value}:(Vn T d v).len=T.len:=by cases d <;> rfl
theorem Oi(d:Nat)(h:d<16000):d+1<2 ^ 14:=by omega
theorem tF{T:Tm}{d:Option Tmp}{v:Value}{t:Nat}(h:∀x,d=some x->x<16000):X7 (Vn T d v) t=if d=some t then v else X7 T t:=by
 cases d with
 |none=>simp[Vn]
 |some d=>
  have h2:=Oi d (h d rfl);simp only[Vn,X7,YO];rw[Tri.get_set 14 _ d _ _ h2];by_cases e:d=t
  ·subst e;simp
  ·rw[if_neg (Ne.symm e),if_neg e]
theorem TR.put{μ:Mu}{T:Tm}{A:Array Value}(h:TR μ T A){d:Option Tmp}(hd:∀x,d=some x->x<T.len/\x<16000){v v':Value}(hv:VR μ v v'):TR μ (Vn T d v) (match d with|some x=>A.setIfInBounds x v'|none=>A):=by
 refine⟨?_,fun t=> ?_⟩
 ·rw[VS];cases d <;> simp[h.1]
 ·rw[tF fun x hx=>(hd x hx).2];cases d with
  |none=>simpa using h.2 t
  |some x=>
   have hx:x<A.size:=h.1 ▸ (hd x rfl).1;simp only[YO];by_cases e:x=t
   ·subst e;simpa[hx]using hv
   ·have:=h.2 t;simp[e]at this ⊢;exact this
def Pz:Value->Option Bool
 | .bool b=>some b
 |_=>none
def XI(ops:Array Oper)(T:Tm)(j:Nat):Option Bool:=
 match nth ops.toList j with
 |some o=>match o.dst with
  |some t=>Pz (X7 T t)
  |none=>none
 |none=>none
theorem fR{ops:Array Oper}{T:Tm}{j:Nat}:XI ops T j=match(ops[j]?).bind (·.dst)with
 |some t=>Pz (X7 T t)
 |none=>none:=by
 unfold XI;rw[Th,Array.getElem?_toList];cases ops[j]? <;> rfl
theorem jA{ops:Array Oper}{A:Array Value}{j:Nat}:yielded ops A j=match(ops[j]?).bind (·.dst)with
 |some t=>Pz (A.getD t undef)
 |none=>none:=by
 unfold yielded;cases(ops[j]?).bind (·.dst)with
 |none=>rfl
 |some t=>
  simp only[Option.bind_some,Array.getD_eq_getD_getElem?];cases A[t]? with
  |none=>rfl
  |some v=>cases v <;> rfl
theorem By{μ:Mu}{v v':Value}(h:VR μ v v'):Pz v'=Pz v:=by
 cases h with
 |Kv a b c=>
  cases v' with
  |bool q=>exact absurd rfl (a q)
  |_=>rfl
 |top a b c=>
  cases v' with
  |bool q=>exact absurd rfl (c.nobool a q)
  |_=>rfl
 |_=>rfl

structure Rec where
 o:Oper
 run:Bool
 v:Value
 T:Tm
 H:Qo
 H':Qo
 n:Nat
 n':Nat
 R:List Nat
 W:List Nat
def Kk:List Rec->Tm->Qo->Nat->Tm->Qo->Nat->Prop
 |[],T,H,n,T',H',n'=>T=T'/\H=H'/\n=n'
 |r::l,T,H,n,T',H',n'=>r.T=T/\r.H=H/\r.n=n/\Kk l (Vn T r.o.dst r.v) r.H' r.n' T' H' n'
structure aI (len:Nat) (r:Rec):Prop where
 le:r.n<=r.n'
 keep:∀i,i<r.n->i ∉ r.W->Qs r.H' i=Qs r.H i
 top:∀i,r.n'<=i->Qs r.H' i=Qs r.H i
 sub:∀i,i∈r.W->i∈r.R
 wlt:∀i,i∈r.W->i<r.n'
 dst:∀x,r.o.dst=some x->x<len/\x<16000
def bQ(r:Rec)(i:Nat):Bool:=r.W.contains i || (Nat.ble r.n i && Nat.blt i r.n')
theorem Sz{r:Rec}{i:Nat}:bQ r i=true<->i∈r.W\/(r.n<=i/\i<r.n'):=by
 simp only[bQ,Bool.or_eq_true,List.contains_iff_mem,YB];refine or_congr Iff.rfl ⟨fun h=>⟨YL h.1,YL h.2⟩,fun h=>⟨Nat.ble_eq_true_of_le h.1,Nat.ble_eq_true_of_le h.2⟩⟩
def cH(i:Nat)(r:Rec):Option (Option Obj):=bif bQ r i then some (Qs r.H' i)else none
def cT(t:Nat)(r:Rec):Option Value:=if r.o.dst=some t then some r.v else none
theorem LS{len:Nat}{r:Rec}(h:aI len r)(i:Nat)(a:Option Obj)(ha:a=Qs r.H i):M8 true (cH i r) a=Qs r.H' i:=by
 unfold cH;cases ht:bQ r i with
 |true=>rfl
 |false=>
  simp only[cond_false,M8];have hn:¬(i∈r.W\/(r.n<=i/\i<r.n')):=fun e=>by rw[Sz.2 e]at ht;cases ht
  rw[ha];rcases Nat.lt_or_ge i r.n with Xh|hge
  ·exact(h.keep i Xh fun e=>hn (.inl e)).symm
  ·exact(h.top i (by
    rcases Nat.lt_or_ge i r.n' with h1|h1
    ·exact absurd (.inr ⟨hge,h1⟩) hn
    ·exact h1)).symm
theorem bH{len:Nat}(i:Nat):∀(l:List Rec) (k:Nat) (T:Tm) (H:Qo) (n:Nat) (T':Tm) (H':Qo) (n':Nat),Kk l T H n T' H' n'->(∀r∈l,aI len r)->
 (∀j r,l[j]? =some r->Qs r.H i=U7 (fun q=>decide (q<k+j)) (l.map (cH i)) k (Qs H i))/\Qs H' i=U7 (fun _=>true) (l.map (cH i)) k (Qs H i)
 |[],k,T,H,n,T',H',n',h,_=>⟨fun j r hr=>by simp at hr,by obtain⟨_,rfl,_⟩:=h;rfl⟩
 |r::l,k,T,H,n,T',H',n',h,hs=>by
  obtain⟨h1,h2,h3,h4⟩:=h;obtain⟨q1,q2⟩:=bH i l (k+1) _ _ _ _ _ _ h4 fun x hx=>hs x (List.mem_cons_of_mem _ hx)
  have Z7:=LS (hs r (by simp)) i (Qs H i) (by rw[h2]);refine⟨fun j x hx=> ?_, ?_⟩
  ·cases j with
   |zero=>
    simp only[List.getElem?_cons_zero,YO]at hx;subst hx;rw[Uc _ _ _ fun a y _=>by simp,h2]
   |succ j=>
    rw[q1 j x (by simpa using hx)];simp only[List.map_cons,U7];rw[show(decide (k<k+(j+1)))=true by simp];rw[Z7];exact Ws _ _ _ fun a y _=>by rw[show k+1+j=k+(j+1)by omega]
  ·rw[q2];simp only[List.map_cons,U7];rw[Z7]
theorem UU{len:Nat}(t:Nat):∀(l:List Rec) (k:Nat) (T:Tm) (H:Qo) (n:Nat) (T':Tm) (H':Qo) (n':Nat),Kk l T H n T' H' n'->(∀r∈l,aI len r)->T.len=len->
 (∀j r,l[j]? =some r->r.T.len=len/\X7 r.T t=U7 (fun q=>decide (q<k+j)) (l.map (cT t)) k (X7 T t))/\T'.len=len/\X7 T' t=U7 (fun _=>true) (l.map (cT t)) k (X7 T t)
 |[],k,T,H,n,T',H',n',h,_,hl=>⟨fun j r hr=>by simp at hr,by obtain⟨rfl,_⟩:=h;exact⟨hl,rfl⟩⟩
 |r::l,k,T,H,n,T',H',n',h,hs,hl=>by
  obtain⟨h1,h2,h3,h4⟩:=h;have hd:=(hs r (by simp)).dst;have hlen:(Vn T r.o.dst r.v).len=len:=by rw[VS];exact hl
  obtain⟨q1,q2,q3⟩:=UU t l (k+1) _ _ _ _ _ _ h4 (fun x hx=>hs x (List.mem_cons_of_mem _ hx)) hlen;have Z7:M8 true (cT t r) (X7 T t)=X7 (Vn T r.o.dst r.v) t:=by
   rw[tF fun x hx=>(hd x hx).2];unfold cT;split <;> rfl
  refine⟨fun j x hx=> ?_,q2, ?_⟩
  ·cases j with
   |zero=>
    simp only[List.getElem?_cons_zero,YO]at hx;subst hx;rw[Uc _ _ _ fun a y _=>by simp,h1];exact⟨hl,rfl⟩
   |succ j=>
    obtain⟨a1,a2⟩:=q1 j x (by simpa using hx);refine⟨a1, ?_⟩;rw[a2];simp only[List.map_cons,U7];rw[show(decide (k<k+(j+1)))=true by simp];rw[Z7];exact Ws _ _ _ fun a y _=>by rw[show k+1+j=k+(j+1)by omega]
  ·rw[q3];simp only[List.map_cons,U7];rw[Z7]
theorem Y5{len:Nat}:∀(l:List Rec) (T:Tm) (H:Qo) (n:Nat) (T':Tm) (H':Qo) (n':Nat),Kk l T H n T' H' n'->(∀r∈l,aI len r)->
 n<=n'/\(∀r∈l,n<=r.n/\r.n'<=n')/\(∀(i j:Nat) (a b:Rec),i<j->l[i]? =some a->l[j]? =some b->a.n'<=b.n)/\(∀x,n<=x->x<n'->∃(j:Nat) (r:Rec),l[j]? =some r/\r.n<=x/\x<r.n')
 |[],T,H,n,T',H',n',h,_=>by obtain⟨_,_,rfl⟩:=h;exact⟨Nat.le_refl _,by simp,fun i j a b _ h=>by simp at h,fun x h1 h2=>absurd h1 (by omega)⟩
 |r::l,T,H,n,T',H',n',h,hs=>by
  obtain⟨h1,h2,h3,h4⟩:=h;obtain⟨q1,q2,q3,q4⟩:=Y5 l _ _ _ _ _ _ h4 fun x hx=>hs x (List.mem_cons_of_mem _ hx)
  have hr:=(hs r (by simp)).le;refine⟨by omega,fun x hx=> ?_,fun i j a b Pa ha hb=> ?_,fun x hx1 hx2=> ?_⟩
  ·rcases List.mem_cons.1 hx with rfl|hx
   ·omega
   ·have:=q2 x hx;omega
  ·cases j with
   |zero=>omega
   |succ j=>
    cases i with
    |zero=>
     simp only[List.getElem?_cons_zero,YO]at ha;subst ha;exact(q2 b (List.mem_of_getElem? (by simpa using hb))).1
    |succ i=>exact q3 i j a b (by omega) (by simpa using ha) (by simpa using hb)
  ·rcases Nat.lt_or_ge x r.n' with Xh|hge
   ·exact⟨0,r,rfl,by omega,Xh⟩
   ·obtain⟨j,r',hj,hx⟩:=q4 x hge hx2;exact⟨j+1,r',by simpa using hj,hx⟩

theorem xP{α:Type}{l m:List α}{i:Nat}{d:α}(h:i<l.length):(l++m).getD i d=l.getD i d:=by
 rw[List.getD_eq_getElem?_getD,List.getD_eq_getElem?_getD,List.getElem?_append_left h]
def iw:List Oper->List Nat->List Nat
 |[],acc=>acc
 |o::l,acc=>iw l (acc++[o.after.toList.foldr (fun e m=>bif Region.binds .any e then Nat.lor (Nat.lor (Nat.shiftLeft 1 e.on) (acc.getD e.on 0)) m else m) 0])
def GI(n m:Nat):List Nat:=(List.range n).filter fun i=>Nat.beq (Nat.land (Nat.shiftRight m i) 1) 1
theorem qG{n m i:Nat}:i∈GI n m<->i<n/\m.testBit i=true:=by
 unfold GI;rw[List.mem_filter,List.mem_range,Nat.beq_eq,Nat.testBit_eq_decide_div_mod_eq,decide_eq_true_iff];show(i<n/\(m >>> i) &&& 1=1)<->_;rw[Nat.and_one_is_mod,Nat.shiftRight_eq_div_pow]
theorem Bm{a b i:Nat}:(Nat.lor a b).testBit i=(a.testBit i || b.testBit i):=Nat.testBit_or a b i
theorem Ld{k i:Nat}(h:(Nat.shiftLeft 1 k).testBit i=true):i=k:=by
 have e:Nat.shiftLeft 1 k=2 ^ k:=by show 1 <<< k=_;rw[Nat.shiftLeft_eq,Nat.one_mul]
 rw[e,Nat.testBit_two_pow]at h;exact(of_decide_eq_true h).symm
theorem nW{acc:List Nat}{i:Nat}:∀(l:List Edge),(l.foldr (fun e m=>bif Region.binds .any e then Nat.lor (Nat.lor (Nat.shiftLeft 1 e.on) (acc.getD e.on 0)) m else m) 0).testBit i=true->∃e∈l,Region.binds .any e=true/\(i=e.on\/(acc.getD e.on 0).testBit i=true)
 |[],h=>by simp at h
 |e::l,h=>by
  rw[List.foldr_cons]at h;cases hb:Region.binds .any e with
  |false=>
   rw[hb,cond_false]at h;obtain⟨x,hx,h1⟩:=nW l h;exact⟨x,List.mem_cons_of_mem _ hx,h1⟩
  |true=>
   rw[hb,cond_true,Bm,Bm,Bool.or_eq_true,Bool.or_eq_true]at h;rcases h with (h|h)|h
   ·exact⟨e,List.mem_cons_self,hb,Or.inl (Ld h)⟩
   ·exact⟨e,List.mem_cons_self,hb,Or.inr h⟩
   ·obtain⟨x,hx,h1⟩:=nW l h;exact⟨x,List.mem_cons_of_mem _ hx,h1⟩
def Y6(l:List Oper)(_:List (List Nat)):List (List Nat):=(iw l []).map (GI l.length)
def OK(ops:List Oper)(bs:List (List Nat)):Prop:=bs.length<=ops.length/\∀k b,bs[k]? =some b->∀i∈b,∃o,ops[k]? =some o/\∃e∈o.after,Region.binds .any e=true/\e.on<k/\(i=e.on\/i∈bs.getD e.on [])
def O3(ops:List Oper)(bs:List Nat):Prop:=bs.length<=ops.length/\∀k b,bs[k]? =some b->∀i,b.testBit i=true->∃o,ops[k]? =some o/\∃e∈o.after,Region.binds .any e=true/\e.on<k/\(i=e.on\/(bs.getD e.on 0).testBit i=true)
theorem yi:∀(l pre:List Oper) (acc:List Nat),acc.length=pre.length->O3 (pre++l) acc->(∀(k:Nat) o,(pre++l)[k]? =some o->∀e∈o.after,Region.binds .any e=true->e.on<k)->O3 (pre++l) (iw l acc)/\(iw l acc).length=(pre++l).length
 |[],pre,acc,hl,h,_=>⟨h,by simpa[iw]using hl⟩
 |o::l,pre,acc,hl,h,Xh=>by
  have e:pre++o::l=(pre++[o])++l:=by simp
  rw[e]at h Xh ⊢;refine yi l (pre++[o]) _ (by simp[hl]) ⟨by simp[hl],fun k b hb i hi=> ?_⟩ Xh;rcases Nat.lt_or_ge k acc.length with hk|hk
  ·rw[List.getElem?_append_left hk]at hb;obtain⟨x,hx,ed,hed,hbd,hon,ZL⟩:=h.2 k b hb i hi;refine⟨x,hx,ed,hed,hbd,hon,ZL.imp id fun h=> ?_⟩;rwa[xP (by omega)]
  ·have hk0:k=acc.length:=by
    have:=(List.getElem?_eq_some_iff.1 hb).1;simp at this;omega
   subst hk0;rw[List.getElem?_append_right (Nat.le_refl _)]at hb;simp only[Nat.sub_self,List.getElem?_cons_zero,YO]at hb;subst hb;have ho:((pre++[o])++l)[acc.length]? =some o:=by rw[hl];simp
   obtain⟨ed,hed,hbd,hi⟩:=nW _ hi;have hon:=Xh acc.length o ho ed (by simpa using hed) hbd;exact⟨o,ho,ed,by simpa using hed,hbd,hon,hi.imp id fun h=>by rwa[xP (by omega)]⟩
theorem th(l:List Oper)(Xh:∀(k:Nat) o,l[k]? =some o->∀e∈o.after,Region.binds .any e=true->e.on<k):OK l (Y6 l [])/\(Y6 l []).length=l.length:=by
 obtain⟨⟨h1,h2⟩,h3⟩:=yi l [] [] rfl ⟨by simp,fun q b hq=>by simp at hq⟩ (fun q o ho=>Xh q o (by simpa using ho));simp only[List.nil_append]at h1 h2 h3;refine⟨⟨by simpa[Y6]using h1,fun k b hb i hi=> ?_⟩,by simpa[Y6]using h3⟩;unfold Y6 at hb ⊢;rw[List.getElem?_map]at hb;cases hm:(iw l [])[k]? with
 |none=>rw[hm]at hb;cases hb
 |some m=>
  rw[hm]at hb;simp only[Option.map_some,YO]at hb;subst hb;obtain⟨hi1,hi2⟩:=qG.1 hi;obtain⟨o,ho,e,he,hbd,hon,ZL⟩:=h2 k m hm i hi2;refine⟨o,ho,e,he,hbd,hon,ZL.imp id fun h=> ?_⟩;have hk:k<(iw l []).length:=(List.getElem?_eq_some_iff.1 hm).1;have he2:e.on<(iw l []).length:=by omega
  rw[List.getD_eq_getElem?_getD,List.getElem?_map,List.getElem?_eq_getElem he2];rw[List.getD_eq_getElem?_getD,List.getElem?_eq_getElem he2]at h;exact qG.2 ⟨hi1,h⟩
theorem AL{ops:List Oper}{bs:List (List Nat)}(h:OK ops bs){D:Nat->Bool}(hD:∀k o,D k=true->ops[k]? =some o->∀e∈o.after,Region.binds .any e=true->D e.on=true):
 ∀(k:Nat),(∀o,ops[k]? =some o->∀e∈o.after,Region.binds .any e=true->D e.on=true)->∀i∈bs.getD k [],D i=true:=by
 intro k;induction k using Nat.strongRecOn with
 |_ k ih=>
  intro hk i hi;rw[List.getD_eq_getElem?_getD]at hi;cases hb:bs[k]? with
  |none=>rw[hb]at hi;simp at hi
  |some b=>
   rw[hb]at hi;obtain⟨o,ho,e,he,hbd,hon,ZL⟩:=h.2 k b hb i hi;have hDe:=hk o ho e he hbd;rcases ZL with rfl|ZL
   ·exact hDe
   ·exact ih e.on hon (fun o' UD=>hD e.on o' hDe UD) i ZL
end Go.CE

namespace Go.CE
open Go Go.RowKit

inductive OO where
 |ret (v:Value)
 |Z6 (v:Value)
inductive OR2 (μ:Mu):OO->OO->Prop
 |ret {v v'}:VR μ v v'->OR2 μ (.ret v) (.ret v')
 |Z6 {v v'}:VR μ v v'->OR2 μ (.Z6 v) (.Z6 v')
def OO.on(fr:Frame):OO->Frame
 | .ret v=>fr.finish v
 | .Z6 v=>fr.raise [{v,recovered:=false}]
def R5(P:Program)(B:Lo)(o:Oper)(ev:Operand->Option Value)(H:Qo)(n:Nat)(out:OO)(H':Qo)(n':Nat)(R W:List Nat):Prop:=
 ∀(S:Nat->Prop) (μ:Mu) (w:World) (fr:Frame) (cs:List Frame) (k:List Item) (ops:Array Oper) (i:Nat) (rest:List Nat),Ok B S μ (Qs H) w->B.has w->(∀i,S i->i<n)->Y8 μ n n'->
  (∀x∈o.op.operands,∀v,ev x=some v->VR μ v (fr.eval x))->(∀i∈R,i<n->S i)->
  fr.mode=.run->fr.todo=.inRegion ops (i::rest)::k->ops[i]? =some o->Region.wanted o (yielded ops fr.tmps)=true->
  ∃XY w' μ',Post B S n n' W μ μ' H H' w w'/\OR2 μ' out XY/\Steps P (lone fr cs w) (lone (XY.on fr) cs w')
def Pj(P:Program)(B:Lo)(ops:Array Oper)(r:Rec):Prop:=
 (r.run=Region.wanted r.o (XI ops r.T))/\(r.run=true->R5 P B r.o (XW r.T) r.H r.n (.ret r.v) r.H' r.n' r.R r.W)/\(r.run=false->r.v=undef/\r.H'=r.H/\r.n'=r.n/\r.W=[])

def meets(r x:Rec):Bool:=r.W.any fun i=>x.R.contains i
def bears(r x:Rec):Bool:=x.R.any fun i=>Nat.ble r.n i && Nat.blt i r.n'
def tied(ops:Array Oper)(r x:Rec):Bool:= !(r.o.apart ops x.o) || meets r x || meets x r || bears r x
def Kh(ops:Array Oper)(r:Rec)(k:Nat):List Rec->List (List Nat)->Bool
 |x::l,b::bs=>(b.contains k || !(tied ops r x)) && Kh ops r k l bs
 |[],_=>true
 |_::_,[]=>false
def indep(ops:Array Oper):Nat->List Rec->List (List Nat)->Bool
 |k,r::l,_::bs=>Kh ops r k l bs && indep ops (k+1) l bs
 |_,[],_=>true
 |_,_::_,[]=>false
theorem To{ops:Array Oper}{r:Rec}{k:Nat}:∀(l:List Rec) (bs:List (List Nat)),Kh ops r k l bs=true->∀(j:Nat) x,l[j]? =some x->tied ops r x=true->k∈bs.getD j []
 |x::l,b::bs,h,j,y,hj,ht=>by
  simp only[Kh,YB,Bool.or_eq_true,Bool.not_eq_true',List.contains_iff_mem]at h;cases j with
  |zero=>
   simp only[List.getElem?_cons_zero,YO]at hj;subst hj;rcases h.1 with h1|h1
   ·simpa using h1
   ·rw[ht]at h1;cases h1
  |succ j=>
   have:=To l bs h.2 j y (by simpa using hj) ht;simpa using this
 |[],_,_,j,y,hj,_=>by simp at hj
 |_::_,[],h,_,_,_,_=>by simp[Kh]at h
theorem Sf{ops:Array Oper}:∀(l:List Rec) (bs:List (List Nat)) (k:Nat),indep ops k l bs=true->∀(i j:Nat) r x,i<j->l[i]? =some r->l[j]? =some x->tied ops r x=true->k+i∈bs.getD j []
 |r::l,b::bs,k,h,i,j,y,x,Pa,hi,hj,ht=>by
  simp only[indep,YB]at h;cases j with
  |zero=>omega
  |succ j=>
   cases i with
   |zero=>
    simp only[List.getElem?_cons_zero,YO]at hi;subst hi;have:=To l bs h.1 j x (by simpa using hj) ht;simpa using this
   |succ i=>
    have:=Sf l bs (k+1) h.2 i j y x (by omega) (by simpa using hi) (by simpa using hj) ht;rw[show k+1+i=k+(i+1)by omega]at this;simpa using this
 |[],_,_,_,i,j,y,x,_,hi,_,_=>by simp at hi
 |_::_,[],_,h,_,_,_,_,_,_,_,_=>by simp[indep]at h
theorem PG.congr{B:Nat}{S New New' W W':Nat->Prop}{μ μ':Mu}{G G' G'':Nat->Option Obj}{w w':World}(h:PG B S New W μ μ' G G' w w')(hN:∀i,New i<->New' i)(hW:∀i,W i<->W' i)(hG:∀i,G' i=G'' i):PG B S New' W' μ μ' G G'' w w':=by
 have e1:New=New':=funext fun i=>propext (hN i)
 have e2:W=W':=funext fun i=>propext (hW i)
 have e3:G'=G'':=funext hG;subst e1 e2 e3;exact h

def OJ(ops:Array Oper)(Qw:List Rec)(bs:List (List Nat)):Prop:=∀(i j:Nat) (r x:Rec),i<j->Qw[i]? =some r->Qw[j]? =some x->tied ops r x=true->0+i∈bs.getD j []
structure Setup (P:Program) (B:Lo) (ops:Array Oper) (Qw:List Rec) (bs:List (List Nat)) (T:Tm) (H:Qo) (n:Nat) (T':Tm) (H':Qo) (n':Nat):Prop where
 chain:Kk Qw T H n T' H' n'
 Pm:∀r∈Qw,aI T.len r
 own:∀(i:Nat) r,Qw[i]? =some r->ops[i]? =some r.o
 len:Qw.length=ops.size
 bef:OK ops.toList bs
 ind:OJ ops Qw bs
 edge:∀(k:Nat) o,ops[k]? =some o->∀e∈o.after,Region.binds .any e=true->e.on<k
section
variable {P:Program} {B:Lo} {ops:Array Oper} {Qw:List Rec} {bs:List (List Nat)} {T:Tm} {H:Qo} {n:Nat} {T':Tm} {H':Qo} {n':Nat}
def gD(Qw:List Rec)(H:Qo)(D:Nat->Bool)(i:Nat):Option Obj:=U7 D (Qw.map (cH i)) 0 (Qs H i)
def tD(Qw:List Rec)(T:Tm)(D:Nat->Bool)(t:Nat):Value:=U7 D (Qw.map (cT t)) 0 (X7 T t)
def tu(Qw:List Rec)(D:Nat->Bool)(i:Nat):Prop:=∃(j:Nat) (r:Rec),D j=true/\Qw[j]? =some r/\r.n<=i/\i<r.n'
def WD(Qw:List Rec)(n:Nat)(D:Nat->Bool)(i:Nat):Prop:=i<n/\∃(j:Nat) (r:Rec),D j=true/\Qw[j]? =some r/\i∈r.W
def Un(ops:Array Oper)(D:Nat->Bool):Prop:=∀k o,D k=true->ops[k]? =some o->∀e∈o.after,Region.binds .any e=true->D e.on=true
theorem o5(h:Setup P B ops Qw bs T H n T' H' n'){D:Nat->Bool}(hD:Un ops D){k:Nat}(hk:∀o,ops[k]? =some o->∀e∈o.after,Region.binds .any e=true->D e.on=true):∀i∈bs.getD k [],D i=true:=
 AL h.bef (fun k o a b=>hD k o a (by simpa using b)) k (fun o a=>hk o (by simpa using a))
theorem tT(h:Setup P B ops Qw bs T H n T' H' n'){D:Nat->Bool}(hD:Un ops D){j:Nat}{x:Rec}(hj:Qw[j]? =some x)(hn:D j=false)(hr:∀o,ops[j]? =some o->∀e∈o.after,Region.binds .any e=true->D e.on=true)
 {i:Nat} {r:Rec} (hi:Qw[i]? =some r) (ht:(i<j->tied ops r x=true)/\(j<i->tied ops x r=true)):D i=decide (i<j):=by
 rcases Nat.lt_trichotomy i j with Xh|heq|hgt
 ·have:=h.ind i j r x Xh hi hj (ht.1 Xh);rw[Nat.zero_add]at this;rw[o5 h hD hr i this];simp[Xh]
 ·subst heq;rw[hn];simp
 ·have:=h.ind j i x r hgt hj hi (ht.2 hgt);rw[Nat.zero_add]at this;have hf:D i=false:=by
   cases hd:D i with
   |false=>rfl
   |true=>
    have:=o5 h hD (k:=i) (fun o ho=>hD i o hd ho) j this;rw[hn]at this;cases this
  rw[hf];simp;omega
theorem fW{r x:Rec}{t:Nat}(ht:r.o.dst=some t)(hl:t∈x.o.looksAt ops\/x.o.dst=some t):tied ops r x=true/\tied ops x r=true:=by
 constructor
 ·have:r.o.apart ops x.o=false:=by
   cases hap:r.o.apart ops x.o with
   |false=>rfl
   |true=>
    obtain⟨h1,h2,_⟩:=Oper.apart_spec hap;rcases hl with hl|hl
    ·exact absurd hl (h1 t ht)
    ·exact absurd hl (h2 t ht)
  simp[tied,this]
 ·have:x.o.apart ops r.o=false:=by
   cases hap:x.o.apart ops r.o with
   |false=>rfl
   |true=>
    obtain⟨_,h2,h3⟩:=Oper.apart_spec hap;rcases hl with hl|hl
    ·exact absurd hl (h3 t ht)
    ·exact absurd ht (h2 t hl)
  simp[tied,this]
theorem j3{t:Nat}{i:Nat}{v:Value}(h:(Qw.map (cT t))[i]? =some (some v)):∃r,Qw[i]? =some r/\r.o.dst=some t/\r.v=v:=by
 rw[List.getElem?_map]at h;cases hr:Qw[i]? with
 |none=>rw[hr]at h;cases h
 |some r=>
  rw[hr]at h;simp only[Option.map_some,YO,cT]at h;split at h
  ·rename_i hd;exact⟨r,rfl,hd,by simpa using h⟩
  ·cases h
theorem j5{q:Nat}{i:Nat}{v:Option Obj}(h:(Qw.map (cH q))[i]? =some (some v)):∃r,Qw[i]? =some r/\(q∈r.W\/(r.n<=q/\q<r.n'))/\Qs r.H' q=v:=by
 rw[List.getElem?_map]at h;cases hr:Qw[i]? with
 |none=>rw[hr]at h;cases h
 |some r=>
  rw[hr]at h;simp only[Option.map_some,YO,cH]at h;cases ht:bQ r q with
  |false=>rw[ht]at h;cases h
  |true=>rw[ht]at h;exact⟨r,rfl,Sz.1 ht,by simpa using h⟩
theorem tI(h:Setup P B ops Qw bs T H n T' H' n'){D:Nat->Bool}(hD:Un ops D){j:Nat}{x:Rec}(hj:Qw[j]? =some x)(hn:D j=false)(hr:∀o,ops[j]? =some o->∀e∈o.after,Region.binds .any e=true->D e.on=true)
 {t:Nat} (ht:t∈x.o.looksAt ops):tD Qw T D t=X7 x.T t:=by
 obtain⟨q1,_⟩:=UU (len:=T.len) t Qw 0 T H n T' H' n' h.chain h.Pm rfl;rw[(q1 j x hj).2];refine Ws _ _ _ fun i v hv=> ?_
 obtain⟨r,Yt,hd,_⟩:=j3 hv;have htt:=fW (ops:=ops) hd (.inl ht);simp only[Nat.zero_add];exact tT h hD hj hn hr Yt ⟨fun _=>htt.1,fun _=>htt.2⟩
theorem BM(h:Setup P B ops Qw bs T H n T' H' n'){i j:Nat}{r x:Rec}{q:Nat}(hi:Qw[i]? =some r)(hj:Qw[j]? =some x)(hq:q∈x.R)(hqn:q<x.n)(hr:q∈r.W\/(r.n<=q/\q<r.n')):(i<j->tied ops r x=true)/\(j<i->tied ops x r=true):=by
 have Pw:=Y5 Qw T H n T' H' n' h.chain h.Pm;rcases hr with hr|hr
 ·have m1:meets r x=true:=List.any_eq_true.2 ⟨q,hr,by simpa using hq⟩;exact⟨fun _=>by simp[tied,m1],fun _=>by simp[tied,m1]⟩
 ·refine⟨fun _=> ?_,fun Xh=> ?_⟩
  ·have:bears r x=true:=List.any_eq_true.2 ⟨q,hq,by simp only[YB];exact⟨Nat.ble_eq_true_of_le hr.1,Nat.ble_eq_true_of_le hr.2⟩⟩;simp[tied,this]
  ·have h1:=Pw.2.2.1 j i x r Xh hj hi;have h2:=(h.Pm x (List.mem_of_getElem? hj)).le;omega
theorem H6(h:Setup P B ops Qw bs T H n T' H' n'){D:Nat->Bool}(hD:Un ops D){j:Nat}{x:Rec}(hj:Qw[j]? =some x)(hn:D j=false)(hr:∀o,ops[j]? =some o->∀e∈o.after,Region.binds .any e=true->D e.on=true)
 {q:Nat} (hq:q∈x.R) (hqn:q<x.n):gD Qw H D q=Qs x.H q:=by
 obtain⟨q1,_⟩:=bH (len:=T.len) q Qw 0 T H n T' H' n' h.chain h.Pm;rw[q1 j x hj];refine Ws _ _ _ fun i v hv=> ?_
 obtain⟨r,Yt,hd,_⟩:=j5 hv;simp only[Nat.zero_add];exact tT h hD hj hn hr Yt (BM h Yt hj hq hqn hd)
end
end Go.CE

namespace Go.CE
open Go Go.RowKit

theorem Ok.congr{B:Nat}{S:Nat->Prop}{μ:Mu}{G G':Nat->Option Obj}{w:World}(h:Ok B S μ G w)(hg:∀i,S i->G' i=G i):Ok B S μ G' w:=
 ⟨fun i o a b c=>h.rel i o a (by rw[<-hg i a];exact b) c,fun i o im a b c d=>h.low i o im a (by rw[<-hg i a];exact b) c d,
  fun i j oi oj x y a b c d e=>h.inj i j oi oj x y a b c (by rw[<-hg i a];exact d) (by rw[<-hg j b];exact e),
  fun i o a b=>h.KL i o a (by rw[<-hg i a];exact b),fun i j oi oj x y z a b c d=>h.sep i j oi oj x y z a b (by rw[<-hg i a];exact c) (by rw[<-hg j b];exact d)⟩
def Xe(fr:Frame)(A:Array Value)(ops:Array Oper)(l:List Nat)(k:List Item):Frame:={fr with tmps:=A,todo:=.inRegion ops l::k}
theorem Sk{fr:Frame}{A:Array Value}{ops:Array Oper}{i:Nat}{l:List Nat}{k:List Item}{o:Oper}(ho:ops[i]? =some o)(v:Value):
 (Xe fr A ops (i::l) k).finish v=Xe fr (match o.dst with|some d=>A.setIfInBounds d v|none=>A) ops l k:=by
 simp only[Frame.finish,Xe,ho,Option.bind_some];cases o.dst <;> rfl
theorem bT{P:Program}{fr:Frame}{cs:List Frame}{w:World}{A:Array Value}{ops:Array Oper}{i:Nat}{l:List Nat}{k:List Item}{o:Oper}(hm:fr.mode=.run)(ho:ops[i]? =some o)(hw:Region.wanted o (yielded ops A)=false):
 step P (lone (Xe fr A ops (i::l) k) cs w)=.next (lone ((Xe fr A ops (i::l) k).finish undef) cs w):=
 step_lone_go (by simp[stepG,stepG.exec,Xe,hm,ho,hw])
theorem WX{P:Program}{fr:Frame}{cs:List Frame}{w:World}{A:Array Value}{ops:Array Oper}{k:List Item}(hm:fr.mode=.run):
 step P (lone (Xe fr A ops [] k) cs w)=.next (lone {fr with tmps:=A,todo:=k} cs w):=
 step_lone_go (by simp[stepG,stepG.exec,Xe,hm])
section
variable {P:Program} {B:Lo} {ops:Array Oper} {Qw:List Rec} {bs:List (List Nat)} {T:Tm} {H:Qo} {n:Nat} {T':Tm} {H':Qo} {n':Nat}
theorem Lo.has.pg{L:Lo}{S New W:Nat->Prop}{μ μ':Mu}{G G':Nat->Option Obj}{w w':World}(h:L.has w)(QC:Ok L.B S μ G w)(hp:PG L.B S New W μ μ' G G' w w'):L.has w':=by
 refine⟨Nat.le_trans h.le hp.grow,L.still w w' (fun b hb=>hp.frame b (Nat.lt_of_lt_of_le hb h.le) fun i hi im QF=> ?_) h.inv⟩;obtain⟨hs,⟨o,ho,hl⟩,Zz,QP,Wc⟩:=hp.wr i hi;rw[QF]at QP;cases QP;have:=(QC.low i o im hs ho hl QF).2.1 Wc;omega
structure Inv (B:Nat) (Qw:List Rec) (T:Tm) (H:Qo) (n:Nat) (S:Nat->Prop) (μ0:Mu) (w0:World) (D:Nat->Bool) (μ:Mu) (A:Array Value) (w:World):Prop where
 pg:PG B S (tu Qw D) (WD Qw n D) μ0 μ (Qs H) (gD Qw H D) w0 w
 size:A.size=T.len
 tmps:∀t,VR μ (tD Qw T D t) (A.getD t undef)
theorem cover(h:Setup P B ops Qw bs T H n T' H' n'){D:Nat->Bool}(hD:Un ops D){j:Nat}{x:Rec}(hj:Qw[j]? =some x)(hr:∀o,ops[j]? =some o->∀e∈o.after,Region.binds .any e=true->D e.on=true)
 {q:Nat} (hq:q∈x.R) (hqn:q<x.n):q<n\/tu Qw D q:=by
 rcases Nat.lt_or_ge q n with Xh|hge
 ·exact .inl Xh
 ·have Pw:=Y5 Qw T H n T' H' n' h.chain h.Pm;have hx:=Pw.2.1 x (List.mem_of_getElem? hj);have hxs:=(h.Pm x (List.mem_of_getElem? hj)).le;obtain⟨i,r,hi,h1,h2⟩:=Pw.2.2.2 q hge (by omega);rcases Nat.lt_trichotomy i j with Xh|heq|hgt
  ·have hb:bears r x=true:=List.any_eq_true.2 ⟨q,hq,by simp only[YB];exact⟨Nat.ble_eq_true_of_le h1,Nat.ble_eq_true_of_le h2⟩⟩;have:=h.ind i j r x Xh hi hj (by simp[tied,hb]);rw[Nat.zero_add]at this;exact .inr ⟨i,r,o5 h hD hr i this,hi,h1,h2⟩
  ·subst heq;rw[hj]at hi;cases hi;omega
  ·have:=Pw.2.2.1 j i x r hgt hj hi;omega
theorem bN(h:Setup P B ops Qw bs T H n T' H' n'){D:Nat->Bool}(hD:Un ops D){j:Nat}{x:Rec}(hj:Qw[j]? =some x)(hn:D j=false)(hr:∀o,ops[j]? =some o->∀e∈o.after,Region.binds .any e=true->D e.on=true)
 {μ:Mu} {A:Array Value} (hA:∀t,VR μ (tD Qw T D t) (A.getD t undef)):Region.wanted x.o (yielded ops A)=Region.wanted x.o (XI ops x.T):=by
 unfold Region.wanted;cases hg:x.o.guard with
 |none=>rfl
 |some gw=>
  obtain⟨g,want⟩:=gw;have:yielded ops A g=XI ops x.T g:=by
   rw[jA,fR];cases hd:(ops[g]?).bind (·.dst)with
   |none=>rfl
   |some t=>
    have ht:t∈x.o.looksAt ops:=by simp[Oper.looksAt,hg,hd]
    have:=hA t;rw[tI h hD hj hn hr ht]at this;exact By this
  simp only[this]
theorem A3(h:Setup P B ops Qw bs T H n T' H' n'){D:Nat->Bool}(hD:Un ops D){j:Nat}{x:Rec}(hj:Qw[j]? =some x)(hn:D j=false)(hr:∀o,ops[j]? =some o->∀e∈o.after,Region.binds .any e=true->D e.on=true)
 {μ:Mu} {A:Array Value} (hA:∀t,VR μ (tD Qw T D t) (A.getD t undef)) {fr:Frame} {l:List Nat} {k:List Item}:∀y∈x.o.op.operands,∀v,XW x.T y=some v->VR μ v ((Xe fr A ops l k).eval y):=by
 intro y hy v hv;cases y with
 |tmp t=>
  simp only[XW,YO]at hv;subst hv;have ht:t∈x.o.looksAt ops:=by
   unfold Oper.looksAt;exact List.mem_append_left _ (List.mem_filterMap.2 ⟨.tmp t,by simpa using hy,rfl⟩)
  rw[<-tI h hD hj hn hr ht];exact hA t
 |const u=>
  simp only[XW]at hv;cases ha:af u with
  |false=>rw[ha]at hv;cases hv
  |true=>rw[ha]at hv;simp only[cond_true,YO]at hv;subst hv;exact Jd ha
 |func f=>
  simp only[XW,YO]at hv;subst hv;exact Jd rfl
 |global g=>cases hv
theorem ka(h:Setup P B ops Qw bs T H n T' H' n'){D:Nat->Bool}(hD:Un ops D){j:Nat}{x:Rec}(hj:Qw[j]? =some x)(hn:D j=false){i:Nat}{r:Rec}(hi:Qw[i]? =some r)(Xh:j<i)(ht:tied ops x r=true):D i=false:=by
 have:=h.ind j i x r Xh hj hi ht;rw[Nat.zero_add]at this;cases hd:D i with
 |false=>rfl
 |true=>
  have:=o5 h hD (k:=i) (fun o ho=>hD i o hd ho) j this;rw[hn]at this;cases this
def plus(D:Nat->Bool)(j:Nat):Nat->Bool:=fun k=>D k || Nat.beq k j
theorem Vc{D:Nat->Bool}{j:Nat}:plus D j j=true:=by simp[plus]
theorem Vs{D:Nat->Bool}{j k:Nat}(h:k≠j):plus D j k=D k:=by simp[plus,Sq h]
theorem Iw(h:Setup P B ops Qw bs T H n T' H' n'){D:Nat->Bool}(hD:Un ops D){j:Nat}{x:Rec}(hj:Qw[j]? =some x)(hn:D j=false)(t:Nat):tD Qw T (plus D j) t=if x.o.dst=some t then x.v else tD Qw T D t:=by
 by_cases hd:x.o.dst=some t
 ·rw[if_pos hd];refine nO _ 0 j _ ?_ (by rw[Nat.zero_add];exact Vc) fun i y hi hy=> ?_
  ·rw[List.getElem?_map,hj];simp[cT,hd]
  ·rw[Nat.zero_add,Vs (by omega)];obtain⟨r,Yt,hrd,_⟩:=j3 hy;exact ka h hD hj hn Yt hi (fW (ops:=ops) hd (.inr hrd)).1
 ·rw[if_neg hd];refine Ws _ _ _ fun i y hy=> ?_
  obtain⟨r,Yt,hrd,_⟩:=j3 hy;rw[Nat.zero_add];refine Vs fun e=> ?_
  subst e;rw[hj]at Yt;cases Yt;exact hd hrd
theorem A0(h:Setup P B ops Qw bs T H n T' H' n'){D:Nat->Bool}(hD:Un ops D){j:Nat}{x:Rec}(hj:Qw[j]? =some x)(hn:D j=false){q:Nat}(hq:q∈x.W\/(x.n<=q/\q<x.n')):gD Qw H (plus D j) q=Qs x.H' q:=by
 refine nO _ 0 j _ ?_ (by rw[Nat.zero_add];exact Vc) fun i y hi hy=> ?_
 ·rw[List.getElem?_map,hj];simp[cH,Sz.2 hq]
 ·rw[Nat.zero_add,Vs (by omega)];obtain⟨r,Yt,hrd,_⟩:=j5 hy;have Pw:=Y5 Qw T H n T' H' n' h.chain h.Pm;have hsr:=h.Pm r (List.mem_of_getElem? Yt);have hsx:=h.Pm x (List.mem_of_getElem? hj);have Xh:=Pw.2.2.1 j i x r hi hj Yt;have hxl:=hsx.le;refine ka h hD hj hn Yt hi ?_;rcases hq with hq|hq
  ·rcases hrd with hrd|hrd
   ·have:meets x r=true:=List.any_eq_true.2 ⟨q,hq,by simpa using hsr.sub q hrd⟩;simp[tied,this]
   ·have:=hsx.wlt q hq;omega
  ·rcases hrd with hrd|hrd
   ·have:bears x r=true:=List.any_eq_true.2 ⟨q,hsr.sub q hrd,by simp only[YB];exact⟨Nat.ble_eq_true_of_le hq.1,Nat.ble_eq_true_of_le hq.2⟩⟩;simp[tied,this]
   ·omega
theorem ic{D:Nat->Bool}{j:Nat}{x:Rec}(hj:Qw[j]? =some x){q:Nat}(hq:¬(q∈x.W\/(x.n<=q/\q<x.n'))):gD Qw H (plus D j) q=gD Qw H D q:=by
 refine Ws _ _ _ fun i y hy=> ?_
 obtain⟨r,Yt,hrd,_⟩:=j5 hy;rw[Nat.zero_add];refine Vs fun e=> ?_
 subst e;rw[hj]at Yt;cases Yt;exact hq hrd
theorem rj{D:Nat->Bool}{j:Nat}{x:Rec}(hj:Qw[j]? =some x)(i:Nat):(tu Qw D i\/(x.n<=i/\i<x.n'))<->tu Qw (plus D j) i:=by
 constructor
 ·rintro(⟨k,r,hd,hr,h1⟩|h1)
  ·exact⟨k,r,by simp[plus,hd],hr,h1⟩
  ·exact⟨j,x,Vc,hj,h1⟩
 ·rintro⟨k,r,hd,hr,h1⟩;by_cases e:k=j
  ·subst e;rw[hj]at hr;cases hr;exact .inr h1
  ·rw[Vs e]at hd;exact .inl ⟨k,r,hd,hr,h1⟩
theorem xM(h:Setup P B ops Qw bs T H n T' H' n'){S:Nat->Prop}{μ0:Mu}{w0:World}(hS:∀i,S i->i<n)(hR:∀r∈Qw,∀i∈r.R,i<n->S i)(Vl:Y8 μ0 n n')(hB:B.has w0)(hok0:Ok B S μ0 (Qs H) w0){D:Nat->Bool}(hD:Un ops D){j:Nat}(hn:D j=false)
 (hr:∀o,ops[j]? =some o->∀e∈o.after,Region.binds .any e=true->D e.on=true) {μ:Mu} {A:Array Value} {w:World} (hi:Inv B Qw T H n S μ0 w0 D μ A w) {fr:Frame} {cs:List Frame} {l:List Nat} {k:List Item} (hm:fr.mode=.run)
 {x:Rec} (hj:Qw[j]? =some x) {out:OO} (hdo:R5 P B x.o (XW x.T) x.H x.n out x.H' x.n' x.R x.W) (VI:Region.wanted x.o (XI ops x.T)=true):
 ∃XY μ' w',PG B S (tu Qw (plus D j)) (WD Qw n (plus D j)) μ0 μ' (Qs H) (gD Qw H (plus D j)) w0 w'/\Ext μ μ'/\OR2 μ' out XY/\Steps P (lone (Xe fr A ops (j::l) k) cs w) (lone (XY.on (Xe fr A ops (j::l) k)) cs w'):=by
 have hx:=List.mem_of_getElem? hj;have hsx:=h.Pm x hx;have ZS:=h.own j x hj;have Pw:=Y5 Qw T H n T' H' n' h.chain h.Pm;have hxn:=Pw.2.1 x hx;have hnewn:∀i,x.n<=i->i<x.n'->¬tu Qw D i:=by
  rintro i h1 h2 ⟨q,r,a,b,c,d⟩;rcases Nat.lt_trichotomy q j with hq|hq|hq
  ·have:=Pw.2.2.1 q j r x hq b hj;omega
  ·subst hq;rw[hn]at a;cases a
  ·have:=Pw.2.2.1 j q x r hq hj b;omega
 have hsub:∀i,(i∈x.R/\i<x.n)->S i\/tu Qw D i:=fun i hi=>(cover h hD hj hr hi.1 hi.2).imp (hR x hx i hi.1) id
 have hgc:∀i,(i∈x.R/\i<x.n)->Qs x.H i=gD Qw H D i:=fun i hi=>(H6 h hD hj hn hr hi.1 hi.2).symm
 have X5:∀i,x.n<=i->i<x.n'->μ i=none:=fun i h1 h2=>by rw[hi.pg.ext i (hnewn i h1 h2)];exact Vl i (by omega) (by omega)
 have Uy:Region.wanted x.o (yielded ops A)=true:=by rw[bN h hD hj hn hr hi.tmps];exact VI
 obtain⟨XY,w',μ',XC,ZL,Z7⟩:=hdo (fun i=>i∈x.R/\i<x.n) μ w (Xe fr A ops (j::l) k) cs k ops j l ((hi.pg.ok.sub hsub).congr hgc) (hB.pg hok0 hi.pg) (fun i hi=>hi.2) (fun i h1 h2=>X5 i h1 h2)
  (A3 h hD hj hn hr hi.tmps) (fun i h1 h2=>⟨h1,h2⟩) hm rfl ZS Uy
 refine⟨XY,μ',w',(hi.pg.then (XC.pg hsx.top) hsub hgc (fun i hi=>⟨fun hs=>by have:=hS i hs;omega,hnewn i hi.1 hi.2⟩) (fun i hi=>X5 i hi.1 hi.2) (G2:=gD Qw H (plus D j)) (fun i hi=>A0 h hD hj hn (hi.imp And.left id))
  (fun i h1 h2=>ic hj ?_)).congr (rj hj) (fun i=> ?_) (fun _=>rfl),XC.mu fun i h1 h2=>X5 i h1 h2,ZL,Z7⟩
 ·rintro(hw|hw)
  ·have:=hsx.wlt i hw;rcases Nat.lt_or_ge i x.n with ha|ha
   ·exact h1 ⟨hw,ha⟩
   ·exact h2 ⟨ha,this⟩
  ·exact h2 hw
 ·constructor
  ·rintro(⟨a,q,r,b,c,d⟩|⟨⟨a,b⟩,c⟩)
   ·exact⟨a,q,r,by simp[plus,b],c,d⟩
   ·exact⟨(cover h hD hj hr (hsx.sub i a) b).elim id fun e=>absurd e c,j,x,Vc,hj,a⟩
  ·rintro⟨a,q,r,b,c,d⟩;by_cases e:q=j
   ·subst e;rw[hj]at c;cases c;refine .inr ⟨⟨d,by omega⟩, ?_⟩;rintro⟨q',r',_,b',c',_⟩;have:=(Pw.2.1 r' (List.mem_of_getElem? b')).1;omega
   ·rw[Vs e]at b;exact .inl ⟨a,q,r,b,c,d⟩
theorem xL(h:Setup P B ops Qw bs T H n T' H' n'){S:Nat->Prop}{μ0:Mu}{w0:World}(hS:∀i,S i->i<n)(hR:∀r∈Qw,∀i∈r.R,i<n->S i)(Vl:Y8 μ0 n n')(hB:B.has w0)(hok0:Ok B S μ0 (Qs H) w0){D:Nat->Bool}(hD:Un ops D){j:Nat}(Xh:j<ops.size)(hn:D j=false)
 (hk:∀x,Qw[j]? =some x->Pj P B ops x) (hr:∀o,ops[j]? =some o->∀e∈o.after,Region.binds .any e=true->D e.on=true) {μ:Mu} {A:Array Value} {w:World} (hi:Inv B Qw T H n S μ0 w0 D μ A w) {fr:Frame} {cs:List Frame} {l:List Nat} {k:List Item} (hm:fr.mode=.run):
 ∃μ' A' w',Inv B Qw T H n S μ0 w0 (plus D j) μ' A' w'/\Steps P (lone (Xe fr A ops (j::l) k) cs w) (lone (Xe fr A' ops l k) cs w'):=by
 obtain⟨x,hj⟩:∃x,Qw[j]? =some x:=⟨Qw[j]'(by rw[h.len];exact Xh),by simp⟩
 have hx:=List.mem_of_getElem? hj;have hsx:=h.Pm x hx;have ZS:=h.own j x hj;obtain⟨VI,hdo,hno⟩:=hk x hj;have Pw:=Y5 Qw T H n T' H' n' h.chain h.Pm;have hxn:=Pw.2.1 x hx;have hdst:∀d,x.o.dst=some d->d<A.size:=fun d hd=>by rw[hi.size];exact(hsx.dst d hd).1
 have put:∀(μ':Mu) v',Ext μ μ'->VR μ' x.v v'->(match x.o.dst with|some d=>A.setIfInBounds d v'|none=>A).size=T.len/\∀t,VR μ' (tD Qw T (plus D j) t) ((match x.o.dst with|some d=>A.setIfInBounds d v'|none=>A).getD t undef):=by
  intro μ' v' he hv;refine⟨?_,fun t=> ?_⟩
  ·cases x.o.dst <;> simp[hi.size]
  ·rw[Iw h hD hj hn t];have ho:=(hi.tmps t).mono he;cases hd:x.o.dst with
   |none=>simpa using ho
   |some d=>
    have hdl:=hdst d hd;simp only[YO];by_cases e:d=t
    ·subst e;simpa[hdl]using hv
    ·simp[e]at ho ⊢;exact ho
 cases hrx:x.run with
 |false=>
  obtain⟨hv,hH,hnn,hW⟩:=hno hrx;have Uy:Region.wanted x.o (yielded ops A)=false:=by rw[bN h hD hj hn hr hi.tmps,<-VI];exact hrx
  obtain⟨p1,p2⟩:=put μ undef (Ext.refl _) (by rw[hv];exact VR.undef);refine⟨μ,_,w,⟨hi.pg.congr (fun i=> ?_) (fun i=> ?_) (fun i=> ?_),p1,p2⟩,Steps.one ((bT hm ZS Uy).trans (by rw[Sk ZS]))⟩
  ·rw[<-rj hj i];exact⟨.inl,fun h=>h.elim id fun h=>absurd h.1 (by omega)⟩
  ·refine and_congr Iff.rfl ⟨?_, ?_⟩
   ·rintro⟨q,r,a,b,c⟩;exact⟨q,r,by simp[plus,a],b,c⟩
   ·rintro⟨q,r,a,b,c⟩;by_cases e:q=j
    ·subst e;rw[hj]at b;cases b;rw[hW]at c;simp at c
    ·rw[Vs e]at a;exact⟨q,r,a,b,c⟩
  ·exact(ic hj (by rw[hW];rintro(h|h) <;> first|(simp at h;done)|omega)).symm
 |true=>
  obtain⟨XY,μ',w',hpg,hext,ZL,Z7⟩:=xM h hS hR Vl hB hok0 hD hn hr hi (fr:=fr) (cs:=cs) (l:=l) (k:=k) hm hj (hdo hrx) (by rw[<-VI];exact hrx);cases ZL with
  |ret hv=>
   rename_i v';obtain⟨p1,p2⟩:=put μ' v' hext hv;exact⟨μ',_,w',⟨hpg,p1,p2⟩,Z7.trans (by simp only[OO.on];rw[Sk ZS];exact Steps.refl _ _)⟩
end
end Go.CE
