/- TW 3: operations on trees. -/
import Derived.Test.YtncjjangllkokaaZRR08
set_option linter.all false
open Nat renaming beq->Le,blt->Lk,min->LL,ble->LC,le_refl->Lr,zero_add->Lv,lt_or_ge->Ly
open Array renaming getElem?_extract->LN,mem_of_getElem? ->LB,getElem?_toList->Lj
open Int renaming toNat_natCast->LK
open Option renaming map_some->Lz
open List renaming length->Lf,getElem?_append_right->Lm,range'->Ls,mem_append_left->Lg,mem_append_right->Lp,mem_append->LP,range->Ld,getElem?_cons_zero->Ln,mem_cons_of_mem->Lh
namespace Go.CE
open Go Go.RowKit

inductive Ql where
 |WJ (h:Hint)
 |tidx (k:Nat) (es:Array Value)
 |tarr (k:Nat) (es:Array Value)
 |tslc (k m':Nat) (cs':Array Value)
 |tapp (cs':Array Value)
 |tapp0
 |tcpy (cs':Array Value)
 |pure (out:Value) (fz:List Fz)
 |pureK (out:Value) (fz:List Fz)
 |bin (v:Value)
 |call (keys:List Nat) (out:OO) (VQ:Qj) (n':Nat) (W:List Nat)
 |eval (s:Rs)
 |wri (κ R:List Nat) (ps qs:List Bool) (out:OO) (outs news:List Obj)
 |tnil
 |wriC (κ R:List Nat) (ps qs:List Bool) (out:OO) (outs news:List Obj) (o2:OO)
def killL(H:Qj):List Nat->Qj
 |[]=>H
 |k::K=>Re (killL H K) (some k)
def RT:Option Obj->Bool
 |some (.cells _ _ (0,0))=>true
 |_=>false
def u9(P:Program)(T:Tm)(o:Oper):Option (Value×Nat):=match o.op with
 | .call c=>match c.callee with
   | .builtin .len=>match c.args.toList,c.argTypes.toList with
     |[x],[t]=>match X8 T x with
      |some v=>match cY v,Yb P t with
       |some (r,k,_),some (.slice _)=>some (.int .i64 k,r)
       |_,_=>none
      |none=>none
     |_,_=>none
   |_=>none
 | .fieldAddr s x f=>match X8 T x with
   |some v=>match pF v with
    |some (r,off,cs)=>match ZA P s f (.pointer (some ⟨0,off,none⟩))with
     |some (.pointer (some ⟨0,off',none⟩))=>some (Qn r (Zy off' cs),r)
     |_=>none
    |none=>none
   |none=>none
 | .load t x=>match X8 T x with
   |some v=>match pF v with
    |some (r,off,cs)=>match Kb P t cs off with
     |some v=>bif nO 4 v then some (Qy r 4 v,r)else none
     |none=>none
    |none=>none
   |none=>none
 |_=>none
def Kl:Value->Bool
 | .slice none 0 0| .chan (some 0)=>true
 |_=>false
def Sp(P:Program)(T:Tm)(o:Oper):Option (Value×Nat×Nat×Array Value×TypeId×Nat×Nat×Value):=match o.op with
 | .call c=>match c.callee with
   | .builtin .append=>match c.args.toList,c.argTypes.toList with
     |[s,x],[t,t']=>match X8 T s,X8 T x with
      |some sv,some xv=>match cY xv,Yb P t with
       |some (r,k,cs),some (.slice e)=>match inf P e with
        |some i=>match i.zero,i.size with
         |some zv,z+1=>bif Le t t' && Kl sv && Le zv.cells.size (z+1)then some (sv,r,k,cs,e,z+1,i.bytes,zv)else none
         |_,_=>none
        |none=>none
       |_,_=>none
      |_,_=>none
     |_,_=>none
   |_=>none
 |_=>none
def eM(P:Program)(T:Tm)(o:Oper):Option (Nat×Nat×Nat×Nat×Nat×Array Value×Nat):=match o.op with
 | .call c=>match c.callee with
   | .builtin .copy=>match c.args.toList,c.argTypes.toList with
     |[s,x],[t,_]=>match X8 T s,X8 T x with
      |some (.slice (some ⟨b,off,none⟩) k _),some xv=>match cY xv,Yb P t with
       |some (r,m,cs2),some (.slice e)=>match ZM P e with
        |some z=>some (b,off,k,r,m,cs2,z)
        |none=>none
       |_,_=>none
      |_,_=>none
     |_,_=>none
   |_=>none
 |_=>none
def Kd(P:Program)(op:BinOp)(t:TypeId)(a b v:Value):Prop:=∀(x y:Operand) (w:World),(do eqGuard op t x y a b;binOp op t a b:Sem Value).run P w=.ok v w
def HO(P:Program)(F:FuncId->Bool)(J:World->Prop)(B:Lo)(T:Tm)(o:Oper)(H:Qj)(n:Nat):Option Ql->Option Told
 |none=>match u9 P T o with
  |some (v,r)=>bif Lk r n && Xi (Qo H r)then some ⟨⟨.ret v,H,n,[r],[]⟩,none⟩else none
  |none=>Hm P F B T o H n none
 |some (.WJ h)=>Hm P F B T o H n (some h)
 |some (.tidx k es)=>match o.op with
  | .indexAddr t x i=>match X8 T x,X8 T i with
    |some v,some (.int _ q)=>match cY v,Yb P t with
     |some (r,m,cs),some (.slice e)=>match ZM P e with
      |some z=>bif Lk r n && Xi (Qo H r)then some ⟨⟨.ret (Qn r (Zy 0 es)),H,n,[r],[]⟩,some (q=(k:Int)/\k<m/\cs.extract (k*z) (k*z+z)=es)⟩else none
      |none=>none
     |_,_=>none
    |_,_=>none
  |_=>none
 |some (.tarr k es)=>match o.op with
  | .indexAddr t x i=>match X8 T x,X8 T i with
    |some v,some (.int _ q)=>match pF v,Yb P t with
     |some (r,off,cs),some (.array m e)=>match ZM P e with
      |some z=>bif Lk r n && Xi (Qo H r)then some ⟨⟨.ret (Qn r (Zy 0 es)),H,n,[r],[]⟩,some (q=(k:Int)/\k<m/\cs.extract (off+k*z) (off+k*z+z)=es)⟩else none
      |none=>none
     |_,_=>none
    |_,_=>none
  |_=>none
 |some (.tslc k m' cs')=>match o.op with
  | .slice t x (some lo) none none=>match X8 T x,X8 T lo with
    |some v,some (.int _ q)=>match cY v,Yb P t with
     |some (r,m,cs),some (.slice e)=>match ZM P e with
      |some z=>bif Lk r n && Xi (Qo H r)then some ⟨⟨.ret (Qn r (QJ m' cs')),H,n,[r],[]⟩,some (q=(k:Int)/\k<m/\m'=m-k/\cs.extract (k*z) cs.size=cs')⟩else none
      |none=>none
     |_,_=>none
    |_,_=>none
  |_=>none
 |some (.tapp cs')=>match Sp P T o with
  |some (_,r,k,cs,e,z,by',_)=>bif Lk r n && Xi (Qo H r)then
   some ⟨⟨.ret (.slice (some ⟨n,0,none⟩) k z),(n,.cells cs' e (0,0))::H,n+1,[r],[]⟩,some (0<k/\k<=maxLen/\k*by'<=140737488355328/\cs.size=k*z/\cs.map (Vp r)=cs'/\(cs.all fun v=>simple v || VB v)=true/\ones cs'=true)⟩else none
  |none=>none
 |some .tapp0=>match Sp P T o with
  |some (sv,r,k,_,_,_,_,_)=>bif Lk r n && Xi (Qo H r)then some ⟨⟨.ret sv,H,n,[r],[]⟩,some (k=0)⟩else none
  |none=>none
 |some (.tcpy cs')=>match eM P T o with
  |some (b,off,k,r,m,cs2,z)=>match Qo H b with
   |some (.cells cs te (0,0))=>bif Lk r n && Xi (Qo H r) && Lk b n then
    some ⟨⟨.ret (.int .i64 (LL m k)),WK H b (.cells cs' te (0,0)),n,[b,r],[b]⟩,some (0<m/\off+LL m k*z<=cs.size/\LL m k*z<=cs2.size/\(cs2.all fun v=>simple v || VB v)=true/\ones ((cs2.extract 0 (LL m k*z)).map (Vp r))=true/\splice cs off ((cs2.extract 0 (LL m k*z)).map (Vp r))=cs')⟩else none
   |_=>none
  |none=>none
 |some (.eval s)=>some ⟨s,some (TL P F Xh (fun _ _ _=>none) T o H n=some s)⟩
 |some (.bin v)=>match o.op with
  | .binOp op t x y _=>match X8 T x,X8 T y with
    |some a,some b=>bif af a && af b && af v then some ⟨⟨.ret v,H,n,[],[]⟩,some (Kd P op t a b v)⟩else none
    |_,_=>none
  |_=>none
 |some (.call keys out VQ n' W)=>match o.op with
  | .call _=>match YI P F (X8 T) o H n with
    |some ⟨.enter g args,H1,n1,R,W1⟩=>bif Le n1 n && W1.isEmpty then
     match Z6 P g args with
     |some c1=>some ⟨⟨out,VQ++H1,n',R++keys,W⟩,some (FJ P B c1 H1 n out (VQ++H1) n' keys W)⟩
     |none=>none
      else none
    |some ⟨.round l fn tm a b,H1,n1,R,W1⟩=>bif Le n1 n && W1.isEmpty && LC tm.size 16000 then some ⟨⟨out,VQ++H1,n',R++keys,W⟩,some (FJ P B ⟨fn,ofList tm.size tm.toList,[.code a,.beginRound,.code b],[],.run,some l⟩ H1 n out (VQ++H1) n' keys W)⟩else none
    |_=>none
  |_=>none
 |some (.pure out fz)=>match o.op with
  | .call _=>match YI P F (X8 T) o H n with
    |some ⟨.enter g args,H1,n1,R,W1⟩=>bif Le n1 n && W1.isEmpty then
     match Ur (Va H1 fz 3) args.toList with
     |some (ts,R2,L)=>bif R2.all fun i=>Lk i n then
      bif R5 2 out then some ⟨⟨.ret out,H1,n,R++R2,[]⟩,some (Qw L/\Qx P J g ts.toArray out)⟩
      else bif (R2.all fun i=>Xi (Qo H1 i)) && nO 4 out then some ⟨⟨.ret (Qy n 4 out),(n,QM)::H1,n+1,R++R2,[]⟩,some (Qw L/\Qx P J g ts.toArray out)⟩else none
       else none
     |none=>none
      else none
    |_=>none
  |_=>none
 |some (.pureK out fz)=>match o.op with
  | .call _=>match YI P F (X8 T) o H n with
    |some ⟨.enter g args,H1,n1,R,W1⟩=>bif Le n1 n && W1.isEmpty then
     match Ur (Va H1 fz 3) args.toList with
     |some (ts,R2,L)=>bif (R2.all fun i=>Lk i n) && (R2.all fun i=>Xi (Qo H1 i) || RT (Qo H1 i)) && nO 4 out then
      some ⟨⟨.ret (Qy n 4 out),(n,QM)::killL H1 (R2.filter fun i=>RT (Qo H1 i)),n+1,R++R2,R2.filter fun i=>RT (Qo H1 i)⟩,some (Qw L/\Qx P J g ts.toArray out)⟩else none
     |none=>none
      else none
    |_=>none
  |_=>none
 |some (.wri κ R ps qs out outs news)=>match o.op with
  | .call _=>match YI P F (X8 T) o H n with
    |some ⟨.enter g args,H1,n1,R0,W1⟩=>bif Le n1 n && W1.isEmpty then
     match D3 H1 n κ R ps qs args out outs news with
     |some (as,bs,o1,VQ,L)=>some ⟨⟨o1,VQ++H1,n+1+news.length,R0++(κ++R),κ⟩,some (Qw L/\WriC P J g as.toArray bs out outs news)⟩
     |none=>none
      else none
    |_=>none
  |_=>none
 |some .tnil=>match o.op with
  | .binOp op t x y _=>match X8 T x,X8 T y with
    |some v,some (.slice none 0 0)=>match cY v,Yb P t with
     |some (r,m,_),some (.slice _)=>bif Lk r n && Xi (Qo H r)then match op with
      | .eql=>some ⟨⟨.ret (.bool false),H,n,[r],[]⟩,some (0<m)⟩
      | .neq=>some ⟨⟨.ret (.bool true),H,n,[r],[]⟩,some (0<m)⟩
      |_=>none
       else none
     |_,_=>none
    |_,_=>none
  |_=>none
 |some (.wriC κ R ps qs out outs news o2)=>match o.op with
  | .call _=>match YI P F (X8 T) o H n with
    |some ⟨.enter g args,H1,n1,R0,W1⟩=>bif Le n1 n && W1.isEmpty then
     match D3 H1 n κ R ps qs args out outs news with
     |some (as,bs,o1,VQ,L)=>some ⟨⟨o2,VQ++H1,n+1+news.length,R0++(κ++R),κ⟩,some ((Qw L/\WriC P J g as.toArray bs out outs news)/\o1=o2)⟩
     |none=>none
      else none
    |_=>none
  |_=>none
section
variable {P:Program} {F:FuncId->Bool} {J:World->Prop} {B:Lo} {T:Tm} {o:Oper} {H:Qj} {n:Nat}
theorem Kp(hF:∀g,F g=true->Q0 P g=true){c:Call}(XF:o.op=.call c)(hu:Under H n){g:FuncId}{args:Array Value}{H1 H2:Qj}{R keys W:List Nat}{n':Nat}{out:OO}(hcr:YI P F (X8 T) o H n=some ⟨.enter g args,H1,n,R,[]⟩)(hcj:lr P B g args H1 n out H2 n' keys W):
 Ps P B o (X8 T) H n out H2 n' (R++keys) W/\Shape H n H2 n' (R++keys) W:=by
 have Z5:ZK P B (fun g' a' H' m'=>open Classical in if g'=g/\a'=args/\H'=H1/\m'=n then some ⟨out,H2,n',keys,W⟩else none):=by
  intro g' a' H' m' s _ h;simp only at h;split at h
  ·rename_i q;obtain⟨rfl,rfl,rfl,rfl⟩:=q;simp only[YO]at h;subst h;exact hcj
  ·cases h
 have:=Kj hF Yc Z5 hu (T:=T) (o:=o) (s:=⟨out,H2,n',R++keys,W⟩) (by simp[TL,XF,hcr]);exact this
theorem FJ.callJ{g:FuncId}{args:Array Value}{c0:CF}{H':Qj}{n':Nat}{R W:List Nat}{out:OO}(hc:Z6 P g args=some c0)(h:FJ P B c0 H n out H' n' R W):lr P B g args H n out H' n' R W:=
 ⟨h.shape,fun S μ w args' cs Q5 hB hS hf ha hR=>h.sem S μ w (Frame.enter P g args' .normal) cs Q5 hB hS hf (VD hc ha) hR⟩
theorem FJ.recS{c:CF}{H1:Qj}{n n':Nat}{out:OO}{VQ:Qj}{W keys:List Nat}(h:FJ P B c H1 n out (VQ++H1) n' keys W):cP P B (P8 c H1 n ⟨out,VQ++H1,n',keys,W⟩):=by
 intro c' H' m' s _ hs;unfold P8 at hs;split at hs
 ·rename_i q;obtain⟨rfl,rfl,rfl⟩:=q;simp only[YO]at hs;subst hs;exact h
 ·cases hs
theorem TB(hJ:∀w,B.has w->J w){g:FuncId}{args:Array Value}{fz:List Fz}{H1:Qj}{ts:List Value}{R2:List Nat}{L:List Prop}{out:Value}(ZS:Ur (Va H1 fz 3) args.toList=some (ts,R2,L))(hL:Qw L)(hp:Qx P J g ts.toArray out)
 {S:Nat->Prop} {μ:Mu} {w:World} {args':Array Value} (Q5:Ok B.B S μ (Qo H1) w) (hB:B.has w) (hv:VRs μ args args') (hS:∀r∈R2,S r):Calls P g args' w fun e w'=> ∃v',e=.returned v'/\Below w.heap.size w w'/\TRv (Ju (Ke μ H1 w R2) w w') out v':=by
 obtain⟨a,b⟩:=P5 (fun v v' t R L h1 h2 h3 h4=>UL Q5 3 v v' t R L h1 h2 h3 h4) args.toList ts R2 L args'.toList ZS hL hS (by simpa using hv.1) fun i v v' x y=>hv.2 i v v' (by simpa using x) (by simpa using y)
 exact hp (Ke μ H1 w R2) w args' (hJ w hB) (fun b x h=>ZU h) ⟨by simpa using a,fun i v v' x y=>b i v v' (by simpa using x) (by simpa using y)⟩
theorem uN(hJ:∀w,B.has w->J w){g:FuncId}{args:Array Value}{fz:List Fz}{H1:Qj}{ts:List Value}{R2:List Nat}{L:List Prop}{out:Value}(ZS:Ur (Va H1 fz 3) args.toList=some (ts,R2,L))(hL:Qw L)(hp:Qx P J g ts.toArray out)(hpl:R5 2 out=true)(QX:(R2.all fun i=>Lk i n)=true):
 lr P B g args H1 n (.ret out) H1 n R2 []:=by
 refine⟨Shape.same _ _ _,fun S μ w args' cs Q5 hB hS _ ha hR=> ?_⟩;obtain⟨e,w1,fr,⟨v',rfl,hb,ht⟩,hc,hf,hl⟩:=TB hJ ZS hL hp Q5 hB ha (fun r hr=>hR r hr (YL (List.all_eq_true.1 QX r hr))) cs;refine⟨.ret v',w1,μ,Post.ofBelow Q5 hb,.ret (cl 2 out v' hpl ht),fun _=>⟨fr,hc,by rw[hf];rfl,hl⟩,fun c cs' e=> ?_⟩;subst e;exact Steps.trans hc (.one (step_leave_returned hl))
theorem qA(hJ:∀w,B.has w->J w){g:FuncId}{args:Array Value}{fz:List Fz}{H1:Qj}{ts:List Value}{R2:List Nat}{L:List Prop}{out:Value}(ZS:Ur (Va H1 fz 3) args.toList=some (ts,R2,L))(hL:Qw L)(hp:Qx P J g ts.toArray out)(QX:(R2.all fun i=>Lk i n)=true)
 (ZQ:(R2.all fun i=>Xi (Qo H1 i))=true) (ho:nO 4 out=true):lr P B g args H1 n (.ret (Qy n 4 out)) ((n,QM)::H1) (n+1) R2 []:=by
 refine⟨Shape.new _ _ _ _,fun S μ w args' cs Q5 hB hS hf ha hR=> ?_⟩;have hSR:∀r∈R2,S r:=fun r hr=>hR r hr (YL (List.all_eq_true.1 QX r hr))
 obtain⟨e,w1,fr,⟨v',rfl,hb,ht⟩,hc,hfn,hl⟩:=TB hJ ZS hL hp Q5 hB ha hSR cs;have hfm:∀b x,Ju (Ke μ H1 w R2) w w1 b=some x->w1.heap[b]? =some x:=by
  intro b x h;unfold Ju at h;split at h
  ·rename_i QX;rw[hb.block b QX];exact ZU h
  ·exact h
 have Xu:=Post.region (n:=n) Q5 hS (hf n (Lr _) (by omega)) hb (Ju (Ke μ H1 w R2) w w1) hfm fun b x h=>by
  unfold Ju at h;split at h
  ·refine .inr ?_;have hw:=ZU h;unfold Ke at h;split at h
   ·rename_i hc;obtain⟨i,hi,o,im,ho,Q3,VV⟩:=hc;obtain⟨o',Un,hr'⟩:=Zn (List.all_eq_true.1 ZQ i hi);rw[ho]at Un;cases Un;rcases VV with ⟨_,UZ⟩|⟨hl,_⟩
    ·cases hx:im.fm b with
     |none=>exact absurd hx UZ
     |some y=>
      obtain⟨XX,QG,hf'⟩:=Q5.KI i o (hSR i hi) ho hr';rw[Q3]at QG;cases QG;have:=hf' b y hx;rw[hw]at this;cases this;exact⟨i,im,o,hSR i hi,ho,hr',Q3,hx⟩
    ·exact absurd hl (by cases o <;> first|exact id|exact hr'.elim)
   ·cases h
  ·rename_i hge;exact .inl (Nat.le_of_not_lt hge)
 refine⟨.ret v',w1,_,Xu,.ret (J8 Xk 4 out v' ho ht),fun _=>⟨fr,hc,by rw[hfn];rfl,hl⟩,fun c cs' e=> ?_⟩;subst e;exact Steps.trans hc (.one (step_leave_returned hl))
theorem Km(H:Qj)(K:List Nat)(i:Nat):Qo (killL H K) i=if i∈K/\(Qo H i).isSome then some (.pending #[] 0)else Qo H i:=by
 induction K with
 |nil=>simp[killL]
 |cons k K ih=>
  simp only[killL];rw[VC,ih];by_cases e:i=k
  ·subst e;cases hs:Qo H i with
   |none=>simp
   |some o=>by_cases hm:i∈K <;> simp[hm]
  ·simp[e]
theorem Post.regionK{B n:Nat}{S:Nat->Prop}{μ:Mu}{H:Qj}{w w':World}(K:List Nat)(Q5:Ok B S μ (Qo H) w)(hS:∀i,S i->i<n)(hf:μ n=none)(PU:Below w.heap.size w w')(hK:∀k∈K,S k/\(∃o,Qo H k=some o/\live o)/\∃im,μ k=some im/\im.rw=true)
 (fm:Nat->Option Obj) (hfm:∀b x,fm b=some x->w'.heap[b]? =some x)
 (Xr:∀b x,fm b=some x->w.heap.size<=b\/(∃k Vk ko,S k/\Qo H k=some ko/\Z9 ko/\μ k=some Vk/\Vk.fm b=some x)\/∃k∈K,∃im,μ k=some im/\im.XM=b):Post B S n (n+1) K μ (upd μ n ⟨0,0,0,false,fm⟩) H ((n,QM)::killL H K) w w':=by
 have hp:=Post.ofBelow (n:=n) Q5 PU;have UZ:∀i,S i->i≠n:=fun i hi=>by have:=hS i hi;omega
 have Pu:∀i,S i->upd μ n ⟨0,0,0,false,fm⟩ i=μ i:=fun i hi=>by simp[upd,UZ i hi]
 have XW:∀i,S i->Qo ((n,QM)::killL H K) i=Qo (killL H K) i:=fun i hi=>by rw[QL,if_neg (UZ i hi)]
 have hgl:∀i o,S i->Qo ((n,QM)::killL H K) i=some o->live o\/Z9 o->Qo H i=some o/\(live o->i ∉ K):=fun i o hi ho hl=>by
  rw[XW i hi,Km]at ho;split at ho
  ·cases ho;exact(hl.elim id id).elim
  ·rename_i hn;exact⟨ho,fun _ hm=>hn ⟨hm,by rw[ho];rfl⟩⟩
 have Kw:Qo ((n,QM)::killL H K) n=some QM:=by rw[QL,if_pos rfl]
 have isn:∀i,(n<=i/\i<n+1)->i=n:=fun i hi=>by omega
 refine⟨⟨fun i o hi ho hl=> ?_,fun i o im hi ho hl Q3=> ?_,fun i j oi oj a b hi hj Jd Z0 Zz PT Vl ha hb hra WX=> ?_,fun i o hi ho hr=> ?_,fun i j oi oj a b x hi hj Z0 Zz KL Vl ha hb WX hx=> ?_⟩,by omega,fun i hi=> ?_,fun i hi hw=> ?_,PU.size,fun b hb _=>PU.block b hb,fun i hi _=>hK i hi,
  fun i im o h1 h2 ho hl Q3=> ?_,fun i im o hi ho hr Q3 b x hx=> ?_,PU.os,PU.tape,PU.output⟩
 ·rcases hi with hi|hi
  ·have ho:=(hgl i o hi ho (.inl hl)).1;obtain⟨im,Q3,hr⟩:=hp.ok.rel i o (.inl hi) ho hl;exact⟨im,by rw[Pu i hi];exact Q3,hr.keep (UK hf) rfl⟩
  ·rw[isn i hi,Kw]at ho;cases ho;exact hl.elim
 ·rcases hi with hi|hi
  ·have ho:=(hgl i o hi ho (.inl hl)).1;rw[Pu i hi]at Q3;exact hp.ok.low i o im (.inl hi) ho hl Q3
  ·rw[isn i hi,Kw]at ho;cases ho;exact hl.elim
 ·rcases hi with hi|hi
  ·rcases hj with hj|hj
   ·have Z0:=(hgl i oi hi Z0 (.inl PT)).1;have Zz:=(hgl j oj hj Zz (.inl Vl)).1;rw[Pu i hi]at ha;rw[Pu j hj]at hb;exact Q5.inj i j oi oj a b hi hj Jd Z0 Zz PT Vl ha hb hra WX
   ·rw[isn j hj,Kw]at Zz;cases Zz;exact Vl.elim
  ·rw[isn i hi,Kw]at Z0;cases Z0;exact PT.elim
 ·rcases hi with hi|hi
  ·have ho:=(hgl i o hi ho (.inr hr)).1;obtain⟨im,Q3,h⟩:=hp.ok.KI i o (.inl hi) ho hr;exact⟨im,by rw[Pu i hi];exact Q3,h⟩
  ·rw[isn i hi];exact⟨_,Xk,hfm⟩
 ·have hjS:S j:=hj.elim id fun h=>by rw[isn j h,Kw]at Zz;cases Zz;exact Vl.elim
  obtain⟨Zz,hjK⟩:=hgl j oj hjS Zz (.inl Vl);rw[Pu j hjS]at hb;rcases hi with hi|hi
  ·have Z0:=(hgl i oi hi Z0 (.inr KL)).1;rw[Pu i hi]at ha;exact Q5.sep i j oi oj a b x hi hjS Z0 Zz KL Vl ha hb WX hx
  ·rw[isn i hi,Xk]at ha;cases ha;rcases Xr _ _ hx with h|⟨k,Vk,ko,h1,h2,h3,h4,h5⟩|⟨k,hk,Vk,h1,h2⟩
   ·have:=(Q5.low j oj b hjS Zz Vl hb).1;omega
   ·exact Q5.sep k j ko oj Vk b x h1 hjS h2 Zz h3 Vl h4 hb WX h5
   ·obtain⟨k1,⟨ko,k2,k3⟩,kim',k4,k5⟩:=hK k hk;rw[h1]at k4;cases k4;have hkj:k≠j:=fun e=>hjK Vl (e ▸ hk)
    exact Q5.inj k j ko oj Vk b k1 hjS hkj k2 Zz k3 Vl h1 hb k5 WX h2
 ·simp only[upd];rw[if_neg (by omega)]
 ·rw[QL,if_neg (by omega),Km,if_neg (fun h=>hw h.1)]
 ·rw[isn i ⟨h1,h2⟩,Kw]at ho;cases ho;exact hl.elim
 ·rcases hi with hi|hi
  ·have Jc:=isn i hi;subst Jc;rw[Xk]at Q3;cases Q3;rcases Xr b x hx with h|⟨k,Vk,ko,h1,h2⟩|⟨k,hk,Vk,h1,h2⟩
   ·exact .inl h
   ·exact .inr (.inl ⟨k,Vk,ko,h1,hS k h1,h2⟩)
   ·refine .inr (.inr ⟨k,hk,hS k (hK k hk).1,⟨Vk,h1,h2⟩,fun o' Un=> ?_⟩);have hks:=(hK k hk).1;obtain⟨ko,k2,_⟩:=(hK k hk).2.1;rw[XW k hks,Km,if_pos ⟨hk,by rw[k2];rfl⟩]at Un;cases Un;exact id
  ·obtain⟨hiK,Jc⟩:=hi;have hks:=(hK i hiK).1;obtain⟨ko,k2,_⟩:=(hK i hiK).2.1;rw[XW i hks,Km,if_pos ⟨hiK,by rw[k2];rfl⟩]at ho;cases ho;exact hr.elim
theorem Shape.killL{H:Qj}{n:Nat}{K R:List Nat}(o:Obj)(hK:∀k∈K,k<n)(hs:∀k∈K,k∈R):Shape H n ((n,o)::killL H K) (n+1) R K:=by
 refine⟨by omega,fun i hi hw=> ?_,fun i hi=> ?_,hs,fun i hi=>by have:=hK i hi;omega⟩
 ·rw[QL,if_neg (by omega),Km,if_neg (fun h=>hw h.1)]
 ·rw[QL,if_neg (by omega),Km,if_neg (fun h=>by have:=hK i h.1;omega)]
theorem v3{o:Option Obj}(h:RT o=true):∃cs t,o=some (.cells cs t (0,0)):=by
 unfold RT at h;split at h
 ·exact⟨_,_,rfl⟩
 ·cases h
theorem nk(hJ:∀w,B.has w->J w){g:FuncId}{args:Array Value}{fz:List Fz}{H1:Qj}{ts:List Value}{R2:List Nat}{L:List Prop}{out:Value}(ZS:Ur (Va H1 fz 3) args.toList=some (ts,R2,L))(hL:Qw L)(hp:Qx P J g ts.toArray out)(QX:(R2.all fun i=>Lk i n)=true)
 (ZQ:(R2.all fun i=>Xi (Qo H1 i) || RT (Qo H1 i))=true) (ho:nO 4 out=true):lr P B g args H1 n (.ret (Qy n 4 out)) ((n,QM)::killL H1 (R2.filter fun i=>RT (Qo H1 i))) (n+1) R2 (R2.filter fun i=>RT (Qo H1 i)):=by
 have hltn:∀r∈R2,r<n:=fun r hr=>YL (List.all_eq_true.1 QX r hr)
 refine⟨Shape.killL _ (fun k hk=>hltn k ((List.mem_filter.1 hk).1)) (fun k hk=>(List.mem_filter.1 hk).1),fun S μ w args' cs Q5 hB hS hf ha hR=> ?_⟩;have hSR:∀r∈R2,S r:=fun r hr=>hR r hr (hltn r hr)
 obtain⟨e,w1,fr,⟨v',rfl,hb,ht⟩,hc,hfn,hl⟩:=TB hJ ZS hL hp Q5 hB ha hSR cs;have hfm:∀b x,Ju (Ke μ H1 w R2) w w1 b=some x->w1.heap[b]? =some x:=by
  intro b x h;unfold Ju at h;split at h
  ·rename_i QX;rw[hb.block b QX];exact ZU h
  ·exact h
 have hK:∀k∈R2.filter fun i=>RT (Qo H1 i),S k/\(∃o,Qo H1 k=some o/\live o)/\∃im,μ k=some im/\im.rw=true:=fun k hk=>by
  obtain⟨h1,h2⟩:=List.mem_filter.1 hk;obtain⟨cs0,t0,h3⟩:=v3 h2;obtain⟨im,Q3,Zu⟩:=Q5.rel k _ (hSR k h1) h3 trivial;refine⟨hSR k h1,⟨_,h3,trivial⟩,im,Q3, ?_⟩;rcases Zu with ⟨_,h,_⟩|⟨h,_⟩
  ·exact h
  ·exact absurd rfl h
 have Xu:=Post.regionK (n:=n) (R2.filter fun i=>RT (Qo H1 i)) Q5 hS (hf n (Lr _) (by omega)) hb hK (Ju (Ke μ H1 w R2) w w1) hfm fun b x h=>by
  unfold Ju at h;split at h
  ·refine .inr ?_;have hw:=ZU h;unfold Ke at h;split at h
   ·rename_i hc;obtain⟨i,hi,o,im,ho,Q3,VV⟩:=hc;have Zu:=List.all_eq_true.1 ZQ i hi;rw[Bool.or_eq_true]at Zu;rcases VV with ⟨hr',UZ⟩|⟨hl,hblk⟩
    ·left;cases hx:im.fm b with
     |none=>exact absurd hx UZ
     |some y=>
      obtain⟨XX,QG,hf'⟩:=Q5.KI i o (hSR i hi) ho hr';rw[Q3]at QG;cases QG;have:=hf' b y hx;rw[hw]at this;cases this;exact⟨i,im,o,hSR i hi,ho,hr',Q3,hx⟩
    ·right;rcases Zu with Zu|Zu
     ·obtain⟨o',Un,hr'⟩:=Zn Zu;rw[ho]at Un;cases Un;exact absurd hl (by cases o <;> first|exact id|exact hr'.elim)
     ·exact⟨i,List.mem_filter.2 ⟨hi,Zu⟩,im,Q3,hblk⟩
   ·cases h
  ·rename_i hge;exact .inl (Nat.le_of_not_lt hge)
 refine⟨.ret v',w1,_,Xu,.ret (J8 Xk 4 out v' ho ht),fun _=>⟨fr,hc,by rw[hfn];rfl,hl⟩,fun c cs' e=> ?_⟩;subst e;exact Steps.trans hc (.one (step_leave_returned hl))
theorem VP{r:Nat}{v:Value}(QX:r<n)(ZQ:Xi (Qo H r)=true)(hd:∀c,o.op≠.defer c)
 (h:∀(μ:Mu) (w:World) (ρ:Operand->Value) (im:Tn),μ r=some im->(∀b x,im.fm b=some x->w.heap[b]? =some x)->(∀x∈o.op.operands,∀v,X8 T x=some v->VR μ v (ρ x))->∃v',(execOp ρ o).run P w=.ok (.value v') w/\VR μ v v'):
 Ps P B o (X8 T) H n (.ret v) H n [r] []:=fun S μ w fr _ _ _ _ _ Q5 hB _ _ Xy hR hm ht ho hw=>by
 obtain⟨x,hx,hr⟩:=Zn ZQ;obtain⟨im,Q3,hf⟩:=Q5.KI r x (hR r (by simp) QX) hx hr;obtain⟨v',h1,h2⟩:=h μ w fr.eval im Q3 hf Xy;exact⟨.ret v',w,μ,Post.refl Q5,.ret h2,Y7 hm ht ho hw hd h1⟩
theorem wx{fm:Nat->Option Obj}{w:World}(hw:∀b x,fm b=some x->w.heap[b]? =some x){off:Nat}{cs:Array Value}{u v:Value}{t:TypeId}(hu:TRv fm (Zy off cs) u)(h:Kb P t cs off=some v):∃v',(Instr.loadAt t u).run P w=.ok v' w/\TRv fm v v':=by
 obtain⟨b,o,arr,ty,fl,rfl,h1,h2,h3⟩:=hu.ptr_inv;have hb:=hw _ _ h1;have hcell:∀i,i<cs.size->∃v',w.cell? ⟨b,o+i,none⟩=some v'/\∀v,cs[i]? =some v->TRv fm v v':=by
  intro i hi;have QX:=h2 i hi;exact⟨arr[o+i],by simp[World.cell?,hb,QX],fun v hv=>h3 i v _ hv (by simp[QX])⟩
 unfold Kb at h;cases hag:lk P t with
 |none=>rw[hag]at h;cases h
 |some g=>
  rw[hag]at h;cases g with
  |true=>
   cases hz:ZM P t with
   |none=>rw[hz]at h;cases h
   |some z=>
    rw[hz]at h;dsimp only at h;cases hb2:LC (off+z) cs.size with
    |false=>rw[hb2]at h;cases h
    |true=>
     rw[hb2]at h;simp only[cond_true,YO]at h;subst h;have hle:=YL hb2;have hr:=run_loadCells (P:=P) w ⟨b,o+off,none⟩ z (fun j=>(w.cell? ⟨b,o+(off+j),none⟩).getD undef) (fun j hj=>by
      obtain⟨v',Z4,_⟩:=hcell (off+j) (by omega);rw[ZR,show o+off+j=o+(off+j)by omega,Z4];rfl)
     refine⟨.agg _,by simp[Instr.loadAt,Instr.sureAddr,loadVar,Ul hag,XH hz,hr];rfl,.agg (by simp;omega) fun i v v' hv Z4=> ?_⟩;have hi:i<z:=by
      have:=(Array.getElem?_eq_some_iff.1 hv).1;simp at this;omega
     obtain⟨u,h4,h5⟩:=hcell (off+i) (by omega);simp[hi,h4]at Z4;subst Z4;refine h5 v ?_;rw[LN]at hv;split at hv
     ·exact hv
     ·cases hv
  |false=>
   simp only at h;have hi:=(Array.getElem?_eq_some_iff.1 h).1;obtain⟨v',Z4,ht⟩:=hcell off hi;exact⟨v',by simp[Instr.loadAt,Instr.sureAddr,loadVar,Ul hag,run_load,Z4],ht v h⟩
theorem mX{v:Value}{r:Nat}(e:u9 P T o=some (v,r))(QX:r<n)(ZQ:Xi (Qo H r)=true):Ps P B o (X8 T) H n (.ret v) H n [r] []:=by
 unfold u9 at e;split at e
 ·rename_i c XF;split at e
  ·rename_i hc;split at e
   ·rename_i x t ha ht;split at e
    ·rename_i u hx;split at e
     ·rename_i r0 k cs el htop hue;rw[XR]at hue;simp only[YO,YR]at e;obtain⟨rfl,rfl⟩:=e;refine VP QX ZQ (fun c h=>by rw[XF]at h;cases h) fun μ w ρ im Q3 hf Xy=> ?_
      have ea:c.args=#[x]:=by rw[<-ha]
      have et:c.argTypes=#[t]:=by rw[<-ht]
      have hv:=Xy x (by simp[XF,Op.operands,Call.operands,hc,ea]) _ hx;rw[J3 htop]at hv;obtain⟨XX,_,htr⟩:=hv.top_inv;have hlen:∃a c,ρ x=.slice a k c:=by
       rcases htr.slice_inv with ⟨b,o',c',arr,t',fl,h1,_⟩|⟨rfl,_,a',c',h1,_⟩
       ·exact⟨_,_,h1⟩
       ·exact⟨_,_,h1⟩
      obtain⟨a,cp,hv⟩:=hlen;refine⟨.int .i64 k, ?_,.int _ _⟩;simp[execOp,XF,resolve,hc,invoke,builtin,ea,et,hv,Builtin.len_,run_underlying hue,goInt]
     ·cases e
    ·cases e
   ·cases e
  ·cases e
 ·rename_i s x f XF;split at e
  ·rename_i u hx;split at e
   ·rename_i r0 off cs htop;split at e
    ·rename_i off' hc;simp only[YO,YR]at e;obtain⟨rfl,rfl⟩:=e;refine VP QX ZQ (fun c h=>by rw[XF]at h;cases h) fun μ w ρ im Q3 hf Xy=> ?_
     have hv:=Xy x (by simp[XF,Op.operands]) _ hx;rw[fM htop]at hv;obtain⟨XX,QG,htr⟩:=hv.top_inv;rw[Q3]at QG;cases QG;obtain⟨b,o',arr,ty,fl,h1,h2,h3,h4⟩:=htr.ptr_inv;have hc2:∃d,off'=off+d/\ZA P s f (.pointer (some ⟨b,o'+off,none⟩))=some (.pointer (some ⟨b,o'+off+d,none⟩)):=by
      unfold ZA at hc ⊢;simp only at hc ⊢;split at hc
      ·split at hc
       ·split at hc
        ·simp only[YO,Value.pointer.injEq,Addr.mk.injEq,true_and,and_true]at hc;rename_i fd hfd _ _ hz;refine⟨fd.offset,hc.symm, ?_⟩;simp_all
        ·cases hc
       ·cases hc
      ·cases hc
     obtain⟨d,rfl,hc2⟩:=hc2;obtain⟨_,hr⟩:=Sk (P:=P) hc2 w;refine⟨.pointer (some ⟨b,o'+off+d,none⟩),by simp[execOp,XF,h1,hr],.top rfl Q3 ?_⟩;rw[Nat.add_assoc];exact .ptr h2 h3 h4
    ·cases e
   ·cases e
  ·cases e
 ·rename_i t x XF;split at e
  ·rename_i u hx;split at e
   ·rename_i r0 off cs htop;split at e
    ·rename_i v0 hc;cases Q5:nO 4 v0 with
     |false=>rw[Q5]at e;cases e
     |true=>
      rw[Q5]at e;simp only[cond_true,YO,YR]at e;obtain⟨rfl,rfl⟩:=e;refine VP QX ZQ (fun c h=>by rw[XF]at h;cases h) fun μ w ρ im Q3 hf Xy=> ?_
      have hv:=Xy x (by simp[XF,Op.operands]) _ hx;rw[fM htop]at hv;obtain⟨XX,QG,htr⟩:=hv.top_inv;rw[Q3]at QG;cases QG;obtain⟨v',h1,h2⟩:=wx hf htr hc;exact⟨v',by simp[execOp,XF,h1],J8 Q3 4 v0 v' Q5 h2⟩
    ·cases e
   ·cases e
  ·cases e
 ·cases e
theorem pN{P:Program}{t e:TypeId}{b off m c z k:Nat}{q:Int}{kk:IntKind}(hu:Yb P t=some (.slice e))(hz:ZM P e=some z)(hq:q=(k:Int))(hk:k<m)(hc:m<=c)(w:World):
 (Instr.sliceAt t (.slice (some ⟨b,off,none⟩) m c) (some (.int kk q)) none none).run P w=.ok (.slice (some ⟨b,off+k*z,none⟩) (m-k) (c-k)) w:=by
 rw[XR]at hu;subst hq;have hb:uc m (some (.int kk (k:Int))) none=some (k,m):=by
  simp only[uc,zI,decide_eq_true (show(0:Int)<=(k:Int)by omega),decide_eq_true (show(k:Int)<=(m:Int)by omega),Bool.and_self,cond_true,LK]
 obtain⟨hr,_,_⟩:=kY (P:=P) (μ:=fun _=>none) (sl:=true) (lo':=some (.int kk (k:Int))) (hi':=none) hb (show VR _ _ _ from .int _ _) trivial hc w;simp only[Instr.sliceAt,Instr.slice,Sem.run_bind,run_underlying hu,Result.andThen_ok,hr,XH hz,Sem.run_pure,Lz,ZR];rw[if_neg (by omega)]
theorem cX{sv:Value}{r k z by':Nat}{cs:Array Value}{e:TypeId}{zv:Value}(h:Sp P T o=some (sv,r,k,cs,e,z,by',zv)):
 ∃c s x t i,o.op=.call c/\c.callee=.builtin .append/\c.args=#[s,x]/\c.argTypes=#[t,t]/\X8 T s=some sv/\X8 T x=some (Qn r (QJ k cs))/\Kl sv=true/\P.underlying t=some (.slice e)/\P.info? e=some i/\i.zero=some zv/\i.size=z/\i.bytes=by'/\zv.cells.size=z/\0<z:=by
 unfold Sp at h;split at h
 ·rename_i c XF;split at h
  ·rename_i hc;split at h
   ·rename_i s x t t' ha ht;split at h
    ·rename_i sv' xv hs hx;split at h
     ·rename_i r' k' cs' e' htop hu;split at h
      ·rename_i i hi;split at h
       ·rename_i zv' z' hz Zc;cases hq:(Le t t' && Kl sv' && Le zv'.cells.size (z'+1))with
        |false=>rw[hq]at h;cases h
        |true=>
         rw[hq]at h;simp only[cond_true,YO,YR]at h;obtain⟨rfl,rfl,rfl,rfl,rfl,rfl,rfl,rfl⟩:=h;simp only[YB]at hq;obtain⟨⟨q1,q2⟩,q3⟩:=hq;obtain rfl:=YE q1;rw[XR]at hu;rw[KJ]at hi;exact⟨c,s,x,t,i,XF,hc,by rw[<-ha],by rw[<-ht],hs,by rw[hx,J3 htop],q2,hu,hi,hz,Zc,rfl,YE q3,by omega⟩
       ·cases h
      ·cases h
     ·cases h
    ·cases h
   ·cases h
  ·cases h
 ·cases h
theorem dT{μ:Mu}{s s':Value}(h:Kl s=true)(hs:VR μ s s'):∃a,s'=.slice a 0 0:=by
 unfold Kl at h;split at h
 ·cases hs;exact⟨_,rfl⟩
 ·cases hs;exact⟨_,rfl⟩
 ·cases h
theorem mZ{sv:Value}{r k z by':Nat}{cs cs':Array Value}{e:TypeId}{zv:Value}(h:Sp P T o=some (sv,r,k,cs,e,z,by',zv))(QX:r<n)(ZQ:Xi (Qo H r)=true)
 (hp:0<k/\k<=maxLen/\k*by'<=140737488355328/\cs.size=k*z/\cs.map (Vp r)=cs'/\(cs.all fun v=>simple v || VB v)=true/\ones cs'=true):
 Ps P B o (X8 T) H n (.ret (.slice (some ⟨n,0,none⟩) k z)) ((n,.cells cs' e (0,0))::H) (n+1) [r] []:=by
 intro S μ w fr _ _ _ _ _ Q5 hB hS hf Xy hR hm ht ho hw;obtain⟨c,s,x,t,i,XF,hc,ea,et,hs,hx,hbn,hu,hi,hz,Zc,hby,hzs,hzp⟩:=cX h;obtain⟨p1,p2,p3,p4,p5,p6,p7⟩:=hp;obtain⟨xr,hxr,hr⟩:=Zn ZQ;obtain⟨im,Q3,hfm⟩:=Q5.KI r xr (hR r (by simp) QX) hxr hr;have hvs:=Xy s (by simp[XF,Op.operands,Call.operands,hc,ea]) _ hs;have hvx:=Xy x (by simp[XF,Op.operands,Call.operands,hc,ea]) _ hx;obtain⟨a,hsa⟩:=dT hbn hvs;obtain⟨XX,QG,htr⟩:=hvx.top_inv;rw[Q3]at QG;cases QG;rcases htr.slice_inv with ⟨b,o',c',arr,ty,fl,h1,h2,h3,h4,h5,h6⟩|⟨h0,_⟩
 ·have hb:=hfm _ _ h4;obtain⟨news,hnews⟩:∃news,news=(arr.toList.drop o').take (k*z):=⟨_,rfl⟩
  have hnl:news.length=k*z:=by
   rw[hnews,List.length_take,List.length_drop,Array.length_toList];have:∀j,j<k*z->o'+j<arr.size:=fun j hj=>h5 j (by omega)
   have:=this (k*z-1) (by have:=Nat.mul_pos p1 hzp;omega);have:=Nat.mul_pos p1 hzp;omega
  have Qo:∀(j:Nat) u,news[j]? =some u->arr[o'+j]? =some u:=by
   intro j u hj;rw[hnews,List.getElem?_take]at hj;split at hj
   ·rw[List.getElem?_drop]at hj;simpa using hj
   ·cases hj
  have hcell:∀(j:Nat) u,news[j]? =some u->w.cell? ((⟨b,o',none⟩:Addr).add j)=some u:=by
   intro j u hj;rw[ZR];have:=Qo j u hj;simp[World.cell?,hb];exact this
  have hV:VRs μ cs' news.toArray:=by
   refine⟨by rw[<-p5];simp[hnl,p4],fun j v v' hv Z4=> ?_⟩;rw[<-p5,Array.getElem?_map]at hv;cases hy:cs[j]? with
   |none=>rw[hy]at hv;cases hv
   |some y=>
    rw[hy]at hv;simp only[Lz,YO]at hv;subst hv;exact Rx Q3 (Array.all_eq_true'.1 p6 y (LB hy)) (h6 j y v' hy (Qo j v' (by simpa using Z4)))
  have Vc:∃C,k<=C/\C<=maxLen/\(Builtin.append_ #[t,t] o.type #[fr.eval s,fr.eval x]).run P w=.ok (.slice (some ⟨w.heap.size,0,none⟩) k C) (w.drew.alloc (.cells (news.toArray++Builtin.zeroCells zv.cells (C-k)) e)):=by
   have hk63:(k:Int)<=9223372036854775807:=by simp only[maxLen]at p2;omega
   have hr0:=run_append_nil (P:=P) w t o.type e i zv hu hi hz ⟨b,o',none⟩ k c' news (by rw[hnl,Zc]) hcell p1 hk63 (by rw[hby];omega);refine⟨grownCap w k 0 e,grownCap_ge w k 0 e,grownCap_le_maxLen w k 0 e p2, ?_⟩;rw[hsa,h1];cases a with
   |none=>exact hr0
   |some a=>rw[dU hu hi hz w a ⟨b,o',none⟩ k c' news (by rw[hnl,Zc]) hcell p1 p2 (by rw[hby];exact p3)];exact hr0
  obtain⟨C,hC1,hC2,Vc⟩:=Vc;have hfn:=hf n (Lr _) (by omega);have harr:(news.toArray++Builtin.zeroCells zv.cells (C-k)).size=C*z:=by
   rw[Array.size_append,size_zeroCells,hzs,List.size_toArray,hnl,<-Nat.add_mul];congr 1;omega
  refine⟨.ret (.slice (some ⟨w.heap.size,0,none⟩) k C),_,_,cf Q5 hS hfn none (fun _ h=>by cases h) w.heap.size (news.toArray++Builtin.zeroCells zv.cells (C-k)).size _ hB.le (by simp) (.inl (Lr _)) (by simp) (fun b hb _=>Below.heap_alloc w.drew _ b hb) (.ofCells (heap_alloc_new w.drew _) ?_ rfl fun j v hv=> ?_) ⟨rfl,rfl,rfl⟩,.ret ?_,Y7 hm ht ho hw (fun c h=>by rw[XF]at h;cases h) (w':=w.drew.alloc _) ?_⟩
  ·rw[Array.size_append];have:=hV.1;simp only[List.size_toArray]at this ⊢;omega
  ·obtain⟨u,e1,e2⟩:=hV.get hv;have hj:j<news.toArray.size:=(Array.getElem?_eq_some_iff.1 e1).1;exact⟨u,by rw[Array.getElem?_append_left hj];exact e1,e2.mono (UK hfn)⟩
  ·refine .slice ⟨_,Xk,rfl,rfl⟩ hC1 hC2 (fun _ im Q3 _ _=> ?_);rw[Xk]at Q3;cases Q3;exact harr.symm
  ·simp[execOp,XF,resolve,hc,invoke,builtin,ea,et,Vc]
 ·omega
theorem lv{sv:Value}{r k z by':Nat}{cs:Array Value}{e:TypeId}{zv:Value}(h:Sp P T o=some (sv,r,k,cs,e,z,by',zv))(QX:r<n)(ZQ:Xi (Qo H r)=true)(hk:k=0):
 Ps P B o (X8 T) H n (.ret sv) H n [r] []:=by
 obtain⟨c,s,x,t,i,XF,hc,ea,et,hs,hx,hbn,hu,hi,hz,Zc,hby,hzs,hzp⟩:=cX h;refine VP QX ZQ (fun c h=>by rw[XF]at h;cases h) fun μ w ρ im Q3 hf Xy=> ?_
 have hvs:=Xy s (by simp[XF,Op.operands,Call.operands,hc,ea]) _ hs;have hvx:=Xy x (by simp[XF,Op.operands,Call.operands,hc,ea]) _ hx;obtain⟨a,hsa⟩:=dT hbn hvs;obtain⟨XX,QG,htr⟩:=hvx.top_inv;rw[Q3]at QG;cases QG;subst hk;have hxx:∃b d,ρ x=.slice b 0 d:=by
  rcases htr.slice_inv with ⟨b,o',c',arr,ty,fl,h1,_⟩|⟨_,_,a',c',h1,_⟩
  ·exact⟨_,_,h1⟩
  ·exact⟨_,_,h1⟩
 obtain⟨b,d,hxx⟩:=hxx;refine⟨.slice a 0 0, ?_,by rw[<-hsa];exact hvs⟩;have hszp:ZM P e=some z:=by simp[ZM,KJ,hi,Zc]
 have hr:=dV (ty:=o.type) hu hszp w a b 0 0 d (Lr _);simp[execOp,XF,resolve,hc,invoke,builtin,ea,et,hsa,hxx,hr]
theorem pD{b off k r m z:Nat}{cs2:Array Value}(h:eM P T o=some (b,off,k,r,m,cs2,z)):
 ∃c s x t t2 e s1,o.op=.call c/\c.callee=.builtin .copy/\c.args=#[s,x]/\c.argTypes=#[t,t2]/\X8 T s=some (.slice (some ⟨b,off,none⟩) k s1)/\X8 T x=some (Qn r (QJ m cs2))/\P.underlying t=some (.slice e)/\ZM P e=some z:=by
 unfold eM at h;split at h
 ·rename_i c XF;split at h
  ·rename_i hc;split at h
   ·rename_i s x t t2 ha ht;split at h
    ·rename_i b' off' k' s1 xv hs hx;split at h
     ·rename_i r' m' cs' e' htop hu;split at h
      ·rename_i z' hz;simp only[YO,YR]at h;obtain⟨rfl,rfl,rfl,rfl,rfl,rfl,rfl⟩:=h;rw[XR]at hu;exact⟨c,s,x,t,t2,e',s1,XF,hc,by rw[<-ha],by rw[<-ht],hs,by rw[hx,J3 htop],hu,hz⟩
      ·cases h
     ·cases h
    ·cases h
   ·cases h
  ·cases h
 ·cases h
theorem mY{b off k r m z:Nat}{cs cs2 cs':Array Value}{te:TypeId}(h:eM P T o=some (b,off,k,r,m,cs2,z))(hg:Qo H b=some (.cells cs te (0,0)))(QX:r<n)(ZQ:Xi (Qo H r)=true)(hbn:b<n)
 (hp:0<m/\off+LL m k*z<=cs.size/\LL m k*z<=cs2.size/\(cs2.all fun v=>simple v || VB v)=true/\ones ((cs2.extract 0 (LL m k*z)).map (Vp r))=true/\splice cs off ((cs2.extract 0 (LL m k*z)).map (Vp r))=cs'):
 Ps P B o (X8 T) H n (.ret (.int .i64 (LL m k))) (WK H b (.cells cs' te (0,0))) n [b,r] [b]:=by
 intro S μ w fr _ _ _ _ _ Q5 hB hS hf Xy hR hm ht ho hw;obtain⟨c,s,x,t,t2,e,s1,XF,hc,ea,et,hs,hx,hu,hz⟩:=pD h;obtain⟨p0,h1,h2,p4,h3,rfl⟩:=hp;obtain⟨xr,hxr,hr⟩:=Zn ZQ;obtain⟨imr,himr,hfm⟩:=Q5.KI r xr (hR r (by simp) QX) hxr hr;have hb:S b:=hR b (by simp) hbn;obtain⟨im,Q3,Zu⟩:=Q5.rel b _ hb hg trivial;have hvs:=Xy s (by simp[XF,Op.operands,Call.operands,hc,ea]) _ hs;have hvx:=Xy x (by simp[XF,Op.operands,Call.operands,hc,ea]) _ hx;obtain⟨imr',himr',htr⟩:=hvx.top_inv;rw[himr]at himr';cases himr';generalize hsv:fr.eval s=sv at hvs;cases hvs with
 |slice har q1 q2 q3=>
  obtain⟨XX,QG,_,rfl⟩:=har;simp only at QG;rw[Q3]at QG;cases QG;rcases htr.slice_inv with ⟨b2,o',c',arr2,ty,fl,g1,g2,g3,g4,g5,g6⟩|⟨h0,_⟩
  ·have hb2:=hfm _ _ g4;have hcell:∀j,j<LL m k*z->w.cell? ((⟨b2,o',none⟩:Addr).add j)=some (arr2.getD (o'+j) undef):=by
    intro j hj;have hlt2:=g5 j (by omega);rw[ZR];simp[World.cell?,hb2,hlt2]
   have hload:=run_loadCells (P:=P) w ⟨b2,o',none⟩ (LL m k*z) (fun j=>arr2.getD (o'+j) undef) hcell;generalize hxsd:(((Array.range (LL m k*z)).map fun j=>arr2.getD (o'+j) undef):Array Value)=xs0;obtain⟨xs,hload,hxs⟩:∃xs,(loadCells ⟨b2,o',none⟩ (LL m k*z)).run P w=.ok xs w/\VRs μ ((cs2.extract 0 (LL m k*z)).map (Vp r)) xs:=by
    refine⟨_,hload,⟨by simp;omega,fun i v v' hv Z4=> ?_⟩⟩;rw[Array.getElem?_map]at hv;cases hy:(cs2.extract 0 (LL m k*z))[i]? with
    |none=>rw[hy]at hv;cases hv
    |some y=>
     rw[hy]at hv;simp only[Lz,YO]at hv;subst hv;rw[LN]at hy;split at hy
     ·rename_i hlt3;have hi:i<LL m k*z:=by omega
      have hy2:cs2[i]? =some y:=by simpa using hy
      simp[hi]at Z4;have hlt2:=g5 i (by omega);refine Rx himr (Array.all_eq_true'.1 p4 y (LB hy2)) (g6 i y v' hy2 ?_);rw[<-Z4];simp[hlt2]
     ·cases hy
   have hxsz:xs.size=LL m k*z:=by rw[<-hxs.1];simp;omega
   have hexsz:((cs2.extract 0 (LL m k*z)).map (Vp r)).size=LL m k*z:=by simp;omega
   rcases Zu with ⟨_,UH,hoo,arr,ha,hle,hcap,hcs⟩|⟨hz0,_⟩
   ·have ZS:=run_storeCells_at (P:=P) im.XM off te xs.toList 0 arr w ha (by simp[hxsz];omega) (hxs.ones h3);simp only[Nat.add_zero]at ZS;refine⟨.ret (.int .i64 (LL m k)),w.setRow im.XM (CE.splice arr off xs),μ,Post.write Q5 hS b _ (.cells (CE.splice cs off ((cs2.extract 0 (LL m k*z)).map (Vp r))) te (0,0)) im hb hg trivial Q3 UH (w':=w.setRow im.XM (CE.splice arr off xs)) ?_ ?_ ?_ ⟨rfl,rfl,rfl⟩,.ret (.int _ _),Y7 hm ht ho hw (fun c h=>by rw[XF]at h;cases h) ?_⟩
    ·simp[World.setRow]
    ·intro y hy;exact setRow_other w im.XM y _ hy
    ·refine .inl ⟨rfl,UH,hoo,CE.splice arr off xs,setRow_heap w im.XM arr _ te _ ha, ?_, ?_, ?_⟩
     ·rw[ZV (by rw[hexsz];omega),ZV (by rw[hxsz];omega)];exact hle
     ·rw[ZV (by rw[hxsz];omega)];exact hcap
     ·exact VRs.splice (by rw[hexsz];omega) hle hcs hxs
    ·simp[execOp,XF,resolve,hc,invoke,builtin,ea,et,hsv,g1,Builtin.copy_,Builtin.lenOf,Builtin.firstCells,Sem.run_bind,Sem.run_pure,Result.andThen_ok,run_underlying hu,XH hz,hload,hoo,ZS,CE.splice,goInt]
   ·exact absurd rfl hz0
  ·omega
theorem m4(hF:∀g,F g=true->Q0 P g=true)(hJ:∀w,B.has w->J w)(hu:Under H n){h:Option Ql}{a:Told}(e:HO P F J B T o H n h=some a)(hp:∀p,a.p=some p->p):
 Ps P B o (X8 T) H n a.s.out a.s.H a.s.n a.s.R a.s.W/\Shape H n a.s.H a.s.n a.s.R a.s.W:=by
 unfold HO at e;split at e
 ·split at e
  ·rename_i v r htr;cases hq:(Lk r n && Xi (Qo H r))with
   |false=>rw[hq]at e;cases e
   |true=>
    rw[hq]at e;simp only[cond_true,YO]at e;subst e;simp only[YB]at hq;exact⟨mX htr (YL hq.1) hq.2,Shape.same _ _ _⟩
  ·exact m5 hF hu e hp
 ·exact m5 hF hu e hp
 ·rename_i k es;split at e
  ·rename_i t x i XF;split at e
   ·rename_i u kk q hx hi;split at e
    ·rename_i r m cs el htop hue;split at e
     ·rename_i z hz;cases hq:(Lk r n && Xi (Qo H r))with
      |false=>rw[hq]at e;cases e
      |true=>
       rw[hq]at e;simp only[cond_true,YO]at e;subst e;simp only[YB]at hq;obtain⟨QX,ZQ⟩:=hq;obtain⟨hqk,hkm,hes⟩:=hp _ rfl;refine⟨VP (YL QX) ZQ (fun c h=>by rw[XF]at h;cases h) fun μ w ρ im Q3 hf Xy=> ?_,Shape.same _ _ _⟩;have hv:=Xy x (by simp[XF,Op.operands]) _ hx;have hiv:=k9 (Xy i (by simp[XF,Op.operands]) _ hi);rw[J3 htop]at hv;obtain⟨XX,QG,htr⟩:=hv.top_inv;rw[Q3]at QG;cases QG;have VV:=htr.slice_inv;rcases VV with ⟨b,o',c',arr,ty,fl,h1,h2,h3,h4,h5,h6⟩|⟨rfl,_⟩
       ·have hess:k*z+es.size<=cs.size\/es.size=0:=by rw[<-hes];simp;omega
        refine⟨.pointer (some ⟨b,o'+k*z,none⟩),by simp[execOp,XF,h1,hiv,mD hue hz hqk hkm],.top rfl Q3 ?_⟩;refine TRv.ptr (o:=o'+k*z) (off:=0) h4 (fun i hi=> ?_) fun i v v' hv Z4=> ?_
        ·have:=h5 (k*z+i) (by omega);omega
        ·rw[<-hes,LN]at hv;split at hv
         ·refine h6 (k*z+i) v v' hv ?_;rw[<-Z4,Nat.add_assoc]
         ·cases hv
       ·omega
     ·cases e
    ·cases e
   ·cases e
  ·cases e
 ·rename_i k es;split at e
  ·rename_i t x i XF;split at e
   ·rename_i u kk q hx hi;split at e
    ·rename_i r off cs m el htop hue;split at e
     ·rename_i z hz;cases hq:(Lk r n && Xi (Qo H r))with
      |false=>rw[hq]at e;cases e
      |true=>
       rw[hq]at e;simp only[cond_true,YO]at e;subst e;simp only[YB]at hq;obtain⟨QX,ZQ⟩:=hq;obtain⟨hqk,hkm,hes⟩:=hp _ rfl;refine⟨VP (YL QX) ZQ (fun c h=>by rw[XF]at h;cases h) fun μ w ρ im Q3 hf Xy=> ?_,Shape.same _ _ _⟩;have hv:=Xy x (by simp[XF,Op.operands]) _ hx;have hiv:=k9 (Xy i (by simp[XF,Op.operands]) _ hi);rw[fM htop]at hv;obtain⟨XX,QG,htr⟩:=hv.top_inv;rw[Q3]at QG;cases QG;obtain⟨b,o',arr,ty,fl,h1,h2,h3,h4⟩:=htr.ptr_inv;refine⟨.pointer (some ⟨b,o'+off+k*z,none⟩),by simp[execOp,XF,h1,hiv,bF hue hz hqk hkm],.top rfl Q3 ?_⟩;rw[Nat.add_assoc o'];refine TRv.ptr (o:=o'+(off+k*z)) (off:=0) h2 (fun i hi=> ?_) fun i v v' hv Z4=> ?_
       ·have Zc:es.size<=cs.size-(off+k*z):=by rw[<-hes];simp;omega
        have:=h3 (off+k*z+i) (by omega);omega
       ·rw[<-hes,LN]at hv;split at hv
        ·refine h4 (off+k*z+i) v v' hv ?_;rw[<-Z4,Nat.add_assoc o']
        ·cases hv
     ·cases e
    ·cases e
   ·cases e
  ·cases e
 ·rename_i k m' cs';split at e
  ·rename_i t x lo XF;split at e
   ·rename_i u kk q hx hi;split at e
    ·rename_i r m cs el htop hue;split at e
     ·rename_i z hz;cases hq:(Lk r n && Xi (Qo H r))with
      |false=>rw[hq]at e;cases e
      |true=>
       rw[hq]at e;simp only[cond_true,YO]at e;subst e;simp only[YB]at hq;obtain⟨QX,ZQ⟩:=hq;obtain⟨hqk,hkm,hm',hes⟩:=hp _ rfl;refine⟨VP (YL QX) ZQ (fun c h=>by rw[XF]at h;cases h) fun μ w ρ im Q3 hf Xy=> ?_,Shape.same _ _ _⟩;have hv:=Xy x (by simp[XF,Op.operands]) _ hx;have hiv:=k9 (Xy lo (by simp[XF,Op.operands]) _ hi);rw[J3 htop]at hv;obtain⟨XX,QG,htr⟩:=hv.top_inv;rw[Q3]at QG;cases QG;have VV:=htr.slice_inv;rcases VV with ⟨b,o',c',arr,ty,fl,h1,h2,h3,h4,h5,h6⟩|⟨rfl,_⟩
       ·refine⟨.slice (some ⟨b,o'+k*z,none⟩) (m-k) (c'-k),by simp[execOp,XF,h1,hiv,pN hue hz hqk hkm h2],.top rfl Q3 ?_⟩;rw[hm'];refine TRv.slice (o:=o'+k*z) (by omega) (by omega) h4 (fun i hi=> ?_) fun i v v' hv Z4=> ?_
        ·rw[<-hes,Array.size_extract]at hi;have:=h5 (k*z+i) (by omega);omega
        ·rw[<-hes,LN]at hv;split at hv
         ·refine h6 (k*z+i) v v' hv ?_;rw[<-Z4,Nat.add_assoc]
         ·cases hv
       ·omega
     ·cases e
    ·cases e
   ·cases e
  ·cases e
 ·rename_i cs';split at e
  ·rename_i u1 r k cs el z by' u2 hta
   cases hq:(Lk r n && Xi (Qo H r))with
   |false=>rw[hq]at e;cases e
   |true=>
    rw[hq]at e;simp only[cond_true,YO]at e;subst e;simp only[YB]at hq;exact⟨mZ hta (YL hq.1) hq.2 (hp _ rfl),Shape.new _ _ _ _⟩
  ·cases e
 ·split at e
  ·rename_i sv r k cs el z by' u2 hta
   cases hq:(Lk r n && Xi (Qo H r))with
   |false=>rw[hq]at e;cases e
   |true=>
    rw[hq]at e;simp only[cond_true,YO]at e;subst e;simp only[YB]at hq;exact⟨lv hta (YL hq.1) hq.2 (hp _ rfl),Shape.same _ _ _⟩
  ·cases e
 ·rename_i cs';split at e
  ·rename_i b off k r m cs2 z hta;split at e
   ·rename_i cs te hg;cases hq:(Lk r n && Xi (Qo H r) && Lk b n)with
    |false=>rw[hq]at e;cases e
    |true=>
     rw[hq]at e;simp only[cond_true,YO]at e;subst e;simp only[YB]at hq;have hb:=YL hq.2;exact⟨mY hta hg (YL hq.1.1) hq.1.2 hb (hp _ rfl),(Shape.set _ hb).moreR (fun i hi=>by simp at hi ⊢;exact .inl hi)⟩
   ·cases e
  ·cases e
 ·rename_i s;simp only[YO]at e;subst e;exact Kj hF Yc (Q7 P B) hu (hp _ rfl)
 ·rename_i v;split at e
  ·rename_i op t x y yt XF;split at e
   ·rename_i a b hx hy;cases hq:(af a && af b && af v)with
    |false=>rw[hq]at e;cases e
    |true=>
     rw[hq]at e;simp only[cond_true,YO]at e;subst e;simp only[YB]at hq;have hb:=hp _ rfl;refine⟨Uj (fun c h=>by rw[XF]at h;cases h) fun μ w ρ _ Xy=> ?_,Shape.same _ _ _⟩;have e1:=Pr hq.1.1 (Xy x (by simp[XF,Op.operands]) _ hx);have e2:=Pr hq.1.2 (Xy y (by simp[XF,Op.operands]) _ hy);refine⟨v, ?_,Yn hq.2⟩;simp only[execOp,XF,e1,e2];rw[Sem.run_bind,hb x y w];rfl
   ·cases e
  ·cases e
 ·rename_i keys out VQ n' W;split at e
  ·rename_i c XF;split at e
   ·rename_i g args H1 n1 R W1 hcr;cases hn:(Le n1 n && W1.isEmpty)with
    |false=>rw[hn]at e;cases e
    |true=>
     rw[hn]at e;simp only[cond_true]at e;simp only[YB,List.isEmpty_iff]at hn;obtain⟨YS,rfl⟩:=hn;have YS:=YE YS;subst YS;split at e
     ·rename_i c1 hc1;simp only[YO]at e;subst e;exact Kp hF XF hu hcr ((hp _ rfl).callJ hc1)
     ·cases e
   ·rename_i l fn tm cda cdb H1 n1 R W1 hcr;cases hn:(Le n1 n && W1.isEmpty && LC tm.size 16000)with
    |false=>rw[hn]at e;cases e
    |true=>
     rw[hn]at e;simp only[cond_true,YO]at e;subst e;simp only[YB,List.isEmpty_iff]at hn;obtain⟨⟨YS,rfl⟩,Zc⟩:=hn;have YS:=YE YS;subst YS;have Wu:=FJ.recS (hp _ rfl);have:=Kj hF Wu (Q7 P B) hu (T:=T) (o:=o) (s:=⟨out,VQ++H1,n',R++keys,W⟩) (by
      simp[TL,XF,hcr,Zc,J7])
     exact this
   ·cases e
  ·cases e
 ·rename_i out fz;split at e
  ·rename_i c XF;split at e
   ·rename_i g args H1 n1 R W1 hcr;cases hn:(Le n1 n && W1.isEmpty)with
    |false=>rw[hn]at e;cases e
    |true=>
     rw[hn]at e;simp only[cond_true]at e;simp only[YB,List.isEmpty_iff]at hn;obtain⟨YS,rfl⟩:=hn;have YS:=YE YS;subst YS;split at e
     ·rename_i ts R2 L ZS;cases QX:(R2.all fun i=>Lk i n1)with
      |false=>rw[QX]at e;cases e
      |true=>
       rw[QX]at e;simp only[cond_true]at e;cases hpl:R5 2 out with
       |true=>
        rw[hpl]at e;simp only[cond_true,YO]at e;subst e;obtain⟨hL,hpc⟩:=hp _ rfl;exact Kp hF XF hu hcr (uN hJ ZS hL hpc hpl QX)
       |false=>
        rw[hpl]at e;simp only[cond_false]at e;cases hq:((R2.all fun i=>Xi (Qo H1 i)) && nO 4 out)with
        |false=>rw[hq]at e;cases e
        |true=>
         rw[hq]at e;simp only[cond_true,YO]at e;subst e;simp only[YB]at hq;obtain⟨hL,hpc⟩:=hp _ rfl;exact Kp hF XF hu hcr (qA hJ ZS hL hpc QX hq.1 hq.2)
     ·cases e
   ·cases e
  ·cases e
 ·rename_i out fz;split at e
  ·rename_i c XF;split at e
   ·rename_i g args H1 n1 R W1 hcr;cases hn:(Le n1 n && W1.isEmpty)with
    |false=>rw[hn]at e;cases e
    |true=>
     rw[hn]at e;simp only[cond_true]at e;simp only[YB,List.isEmpty_iff]at hn;obtain⟨YS,rfl⟩:=hn;have YS:=YE YS;subst YS;split at e
     ·rename_i ts R2 L ZS;cases hq:((R2.all fun i=>Lk i n1) && (R2.all fun i=>Xi (Qo H1 i) || RT (Qo H1 i)) && nO 4 out)with
      |false=>rw[hq]at e;cases e
      |true=>
       rw[hq]at e;simp only[cond_true,YO]at e;subst e;simp only[YB]at hq;obtain⟨hL,hpc⟩:=hp _ rfl;exact Kp hF XF hu hcr (nk hJ ZS hL hpc hq.1.1 hq.1.2 hq.2)
     ·cases e
   ·cases e
  ·cases e
 ·rename_i κ R ps qs out outs news;split at e
  ·rename_i c XF;split at e
   ·rename_i g args H1 n1 R0 W1 hcr;cases hn:(Le n1 n && W1.isEmpty)with
    |false=>rw[hn]at e;cases e
    |true=>
     rw[hn]at e;simp only[cond_true]at e;simp only[YB,List.isEmpty_iff]at hn;obtain⟨YS,rfl⟩:=hn;have YS:=YE YS;subst YS;split at e
     ·rename_i as bs o1 VQ L hw;simp only[YO]at e;subst e;obtain⟨hL,hwr⟩:=hp _ rfl;exact Kp hF XF hu hcr (hwr.callJ hJ κ R ps qs hw hL rfl rfl)
     ·cases e
   ·cases e
  ·cases e
 ·-- a tree Yo is not nil
  split at e
  ·rename_i op t x y yt XF;split at e
   ·rename_i v hx hy;split at e
    ·rename_i r m cs el htop hue;cases hq:(Lk r n && Xi (Qo H r))with
     |false=>rw[hq]at e;cases e
     |true=>
      rw[hq]at e;simp only[cond_true]at e;simp only[YB]at hq;obtain⟨QX,ZQ⟩:=hq;have key:0<m->∀(μ:Mu) (w:World) (ρ:Operand->Value) (im:Tn),μ r=some im->(∀x'∈o.op.operands,∀v',X8 T x'=some v'->VR μ v' (ρ x'))->ρ y=.slice none 0 0/\∃p c,ρ x=.slice (some p) m c:=fun hm μ w ρ im Q3 Xy=>by
       have hv:=Xy x (by simp[XF,Op.operands]) _ hx;have h2:=Xy y (by simp[XF,Op.operands]) _ hy;rw[J3 htop]at hv;obtain⟨XX,QG,htr⟩:=hv.top_inv;have e2:ρ y=.slice none 0 0:=by generalize ρ y=z at h2;cases h2;rfl
       refine⟨e2, ?_⟩;rcases htr.slice_inv with ⟨b,o',c',arr,ty,fl,h1,_,_,_,_,_⟩|⟨h0,_⟩
       ·exact⟨_,_,h1⟩
       ·omega
      have heq:∀(p:Addr) (c:Nat) (w:World),(Op.equal t (.slice (some p) m c) (.slice none 0 0)).run P w=.ok false w:=fun p c w=>by
       show(Op.equalIn (9999+1) t (.slice (some p) m c) (.slice none 0 0)).run P w=.ok false w;unfold Op.equalIn;rw[XR]at hue;simp[Sem.run_bind,run_underlying hue,Sem.run_pure]
      split at e
      ·rename_i hop2;simp only[YO]at e;subst e;have hm:=hp _ rfl;refine⟨VP (YL QX) ZQ (fun c h=>by rw[XF]at h;cases h) fun μ w ρ im Q3 hf Xy=> ?_,Shape.same _ _ _⟩;obtain⟨e2,p,c,e1⟩:=key hm μ w ρ im Q3 Xy;exact⟨.bool false,by simp[execOp,XF,e1,e2,eqGuard,binOp,Sem.run_bind,Sem.run_pure,heq],.bool _⟩
      ·rename_i hop2;simp only[YO]at e;subst e;have hm:=hp _ rfl;refine⟨VP (YL QX) ZQ (fun c h=>by rw[XF]at h;cases h) fun μ w ρ im Q3 hf Xy=> ?_,Shape.same _ _ _⟩;obtain⟨e2,p,c,e1⟩:=key hm μ w ρ im Q3 Xy;exact⟨.bool true,by simp[execOp,XF,e1,e2,eqGuard,binOp,Sem.run_bind,Sem.run_pure,heq],.bool _⟩
      ·cases e
    ·cases e
   ·cases e
  ·cases e
 ·rename_i κ R ps qs out outs news o2;split at e
  ·rename_i c XF;split at e
   ·rename_i g args H1 n1 R0 W1 hcr;cases hn:(Le n1 n && W1.isEmpty)with
    |false=>rw[hn]at e;cases e
    |true=>
     rw[hn]at e;simp only[cond_true]at e;simp only[YB,List.isEmpty_iff]at hn;obtain⟨YS,rfl⟩:=hn;have YS:=YE YS;subst YS;split at e
     ·rename_i as bs o1 VQ L hw;simp only[YO]at e;subst e;obtain⟨⟨hL,hwr⟩,ho⟩:=hp _ rfl;subst ho;exact Kp hF XF hu hcr (hwr.callJ hJ κ R ps qs hw hL rfl rfl)
     ·cases e
   ·cases e
  ·cases e
end
abbrev eJ(k:Int)(n:Nat)(xs:Array Value)(t:Nat)(v:Array Value):Prop:=k=(↑k.toNat:Int)/\k.toNat<n/\xs.extract (k.toNat*t) (k.toNat*t+t)=v
end Go.CE

namespace Go.CE
open Go Go.RowKit

abbrev Q2:=List (Nat×Ql)
def Fi(sc:Q2)(q:Nat):Option Ql×Q2:=match sc with
 |(k,h)::l=>bif Le k q then(some h,l)else(none,sc)
 |[]=>(none,[])
structure H6 where
 Qq:List Rec
 T:Tm
 H:Qj
 n:Nat
 sc:Q2
 q:Nat
 L:List Prop
 Zj:Option (Value×List Nat×List Nat)
def au(P:Program)(F:FuncId->Bool)(J:World->Prop)(B:Lo)(ops:Array Oper):List Oper->Tm->Qj->Nat->Q2->Nat->List Prop->Option H6
 |[],T,H,n,sc,q,L=>some ⟨[],T,H,n,sc,q,L,none⟩
 |o::l,T,H,n,sc,q,L=>
  bif YH T o.dst then
   bif Region.wanted o (Xw ops T)then
    match Fi sc q with
    |(h,sc')=>match HO P F J B T o H n h with
     |some ⟨⟨.ret v,H1,n1,R,W⟩,p⟩=>match au P F J B ops l (W6 T o.dst v) H1 n1 sc' (q+1) (more p L)with
      |some r=>some {r with Qq:=⟨o,true,v,T,H,H1,n,n1,R,W⟩::r.Qq}
      |none=>none
     |some ⟨⟨.Zj v,H1,n1,R,W⟩,p⟩=>some ⟨[],T,H1,n1,sc',q+1,more p L,some (v,R,W)⟩
     |none=>none
   else match au P F J B ops l (W6 T o.dst undef) H n sc (q+1) L with
    |some r=>some {r with Qq:=⟨o,false,undef,T,H,H,n,n,[],[]⟩::r.Qq}
    |none=>none
  else none
def C8(P:Program)(F:FuncId->Bool)(B:Lo)(c:CF)(H:Qj)(n:Nat)(f:Operand)(params:Array Tmp)(assign body:Code)(k:List Item)(keys:List Nat)(out:OO)(VQ:Qj)(n':Nat)(W:List Nat):Option (CF×Qj×Prop):=
 match X8 c.tmps f with
 |some fv=>match Ue c H n params assign body with
  |some (H1,l,ds,_)=>match Jj F H1 fv #[.func (.yield l) #[] #[]]with
   |some (.enter g args,_)=>match Z6 P g args with
    |some c1=>match out with
     | .ret _=>some ({c with todo:=.endRangeFunc l::k,defers:=ds++c.defers},VQ++H1,FJ P B c1 H1 (l+1) out (VQ++H1) n' keys W)
     | .Zj v=>some ({c with mode:=.Zj v,defers:=ds++c.defers},VQ++H1,FJ P B c1 H1 (l+1) out (VQ++H1) n' keys W)
    |none=>none
   |_=>none
  |none=>none
 |none=>none
def Qs(P:Program)(F:FuncId->Bool)(J:World->Prop)(B:Lo):Nat->Nat->CF->Qj->Nat->Q2->Nat->List Nat->List Prop->Option ST
 |0,_,c,H,n,_,_,W,L=>some ⟨.at c H n,W,L⟩
 |k+1,b,c,H,n,sc,q,W,L=>
  match c.mode,c.todo with
  | .run,.code (.region _ ops draw)::todo=>match au P F J B ops ops.toList c.tmps H n sc q L with
    |some r=>match r.Zj with
     |none=>bif !draw || (Wj 0 ops.toList && indep ops 0 r.Qq (KZ ops.toList []))then Qs P F J B k b {c with tmps:=r.T,todo:=todo} r.H r.n r.sc r.q (Zt b (Vj r.Qq) W) r.L else none
     |some (v,_,W1)=>bif !draw || PJ ops r.Qq r.T then Qs P F J B k b {c with tmps:=r.T,mode:=.Zj v} r.H r.n r.sc r.q (Zt b (Vj r.Qq++W1) W) r.L else none
    |none=>none
  | .run,.code (.rangeFunc f params assign body)::todo=>match Fi sc q with
    |(some (.WJ (.call keys out VQ n1 W1)),sc')=>match C9 P F B c H n f params assign body todo keys out VQ n1 W1 with
     |some (c',H',p)=>Qs P F J B k b c' H' n1 sc' q (Zt b W1 W) (p::L)
     |none=>none
    |(some (.call keys out VQ n1 W1),sc')=>match C8 P F B c H n f params assign body todo keys out VQ n1 W1 with
     |some (c',H',p)=>Qs P F J B k b c' H' n1 sc' q (Zt b W1 W) (p::L)
     |none=>none
    |_=>none
  |_,_=>match Je P F Xh (fun _ _ _=>none) c H n with
   |some (.go c' H' n' _ W')=>Qs P F J B k b c' H' n' sc q (Zt b W' W) L
   |some (.done out H' n' _ W')=>some ⟨.fin out H' n',Zt b W' W,L⟩
   |none=>none
section
variable {P:Program} {F:FuncId->Bool} {J:World->Prop} {B:Lo}
theorem Yu{ops:Array Oper}:∀(l:List Oper) (T:Tm) (H:Qj) (n:Nat) (sc:Q2) (q:Nat) (L:List Prop) (r:H6),au P F J B ops l T H n sc q L=some r->Qw r.L->Qw L
 |[],T,H,n,sc,q,L,r,h,ha=>by
  simp only[au,YO]at h;subst h;exact ha
 |o::l,T,H,n,sc,q,L,r,h,ha=>by
  simp only[au]at h;cases hd:YH T o.dst with
  |false=>rw[hd]at h;cases h
  |true=>
   rw[hd]at h;simp only[cond_true]at h;cases hw:Region.wanted o (Xw ops T)with
   |true=>
    rw[hw]at h;simp only[cond_true]at h;split at h
    ·rename_i v H1 n1 R W p XF;split at h
     ·rename_i r' hr;simp only[YO]at h;subst h;exact(b9 (Yu l _ _ _ _ _ _ r' hr ha)).2
     ·cases h
    ·simp only[YO]at h;subst h;exact(b9 ha).2
    ·cases h
   |false=>
    rw[hw]at h;simp only[cond_false]at h;split at h
    ·rename_i r' hr;simp only[YO]at h;subst h;exact Yu l _ _ _ _ _ _ r' hr ha
    ·cases h
def RegOk(P:Program)(B:Lo)(ops:Array Oper)(l:List Oper)(T:Tm)(H:Qj)(n:Nat)(r:H6):Prop:=match r.Zj with
 |none=>UG r.Qq T H n r.T r.H r.n/\r.Qq.map (·.o)=l/\Under r.H r.n
 |some (v,R,W)=> ∃H1 n1 o l2,UG r.Qq T H n r.T H1 n1/\r.Qq.map (·.o)++o::l2=l/\Region.wanted o (Xw ops r.T)=true/\Ps P B o (X8 r.T) H1 n1 (.Zj v) r.H r.n R W/\Shape H1 n1 r.H r.n R W/\Under r.H r.n
theorem RegOk.cons{ops:Array Oper}{l:List Oper}{T:Tm}{H:Qj}{n:Nat}{r:H6}{x:Rec}(h:RegOk P B ops l (W6 T x.o.dst x.v) x.H' x.n' r)(hT:x.T=T)(hH:x.H=H)(hn:x.n=n):RegOk P B ops (x.o::l) T H n {r with Qq:=x::r.Qq}:=by
 unfold RegOk at h ⊢;cases hp:r.Zj with
 |none=>
  rw[hp]at h;obtain⟨h3,h4,h5⟩:=h;exact⟨⟨hT,hH,hn,h3⟩,by simp[h4],h5⟩
 |some p=>
  obtain⟨v,R,W⟩:=p;rw[hp]at h;obtain⟨H1,n1,o,l2,h1,h2,h3⟩:=h;exact⟨H1,n1,o,l2,⟨hT,hH,hn,h1⟩,by simp[h2],h3⟩
theorem YV(hF:∀g,F g=true->Q0 P g=true)(hJ:∀w,B.has w->J w){ops:Array Oper}{len:Nat}:∀(l:List Oper) (T:Tm) (H:Qj) (n:Nat) (sc:Q2) (q:Nat) (L:List Prop) (r:H6),T.len=len->Under H n->au P F J B ops l T H n sc q L=some r->Qw r.L->
 (∀x∈r.Qq,Tg len x)/\(∀x∈r.Qq,Jm P B ops x)/\RegOk P B ops l T H n r
 |[],T,H,n,sc,q,L,r,hl,hu,h,ha=>by
  simp only[au,YO]at h;subst h;exact⟨fun r hr=>by simp at hr,fun r hr=>by simp at hr,⟨rfl,rfl,rfl⟩,rfl,hu⟩
 |o::l,T,H,n,sc,q,L,r,hl,hu,h,ha=>by
  simp only[au]at h;cases hd:YH T o.dst with
  |false=>rw[hd]at h;cases h
  |true=>
   have hdst:=Ko hd;rw[hl]at hdst;rw[hd]at h;simp only[cond_true]at h;cases hw:Region.wanted o (Xw ops T)with
   |true=>
    rw[hw]at h;simp only[cond_true]at h;split at h
    ·rename_i v H1 n1 R W p XF;split at h
     ·rename_i r' hr;simp only[YO]at h;subst h;have hpL:=b9 (Yu l _ _ _ _ _ _ r' hr ha);obtain⟨hdo,KR⟩:=m4 hF hJ hu XF hpL.1;obtain⟨h1,h2,h3⟩:=YV hF hJ (ops:=ops) (len:=len) l (W6 T o.dst v) H1 n1 _ _ _ r' (by rw[Vm];exact hl) (hu.shape KR) hr ha;refine⟨fun x hx=> ?_,fun x hx=> ?_,RegOk.cons (x:=⟨o,true,v,T,H,H1,n,n1,R,W⟩) h3 rfl rfl rfl⟩
      ·rcases List.mem_cons.1 hx with rfl|hx
       ·exact⟨KR.le,KR.keep,KR.top,KR.sub,KR.wlt,hdst⟩
       ·exact h1 x hx
      ·rcases List.mem_cons.1 hx with rfl|hx
       ·exact⟨hw.symm,(fun _=>hdo),(fun e=>by cases e)⟩
       ·exact h2 x hx
     ·cases h
    ·rename_i v H1 n1 R W p XF;simp only[YO]at h;subst h;obtain⟨hdo,KR⟩:=m4 hF hJ hu XF (b9 ha).1;exact⟨fun r hr=>by simp at hr,fun r hr=>by simp at hr,H,n,o,l,⟨rfl,rfl,rfl⟩,rfl,hw,hdo,KR,hu.shape KR⟩
    ·cases h
   |false=>
    rw[hw]at h;simp only[cond_false]at h;split at h
    ·rename_i r' hr;simp only[YO]at h;subst h;obtain⟨h1,h2,h3⟩:=YV hF hJ (ops:=ops) (len:=len) l (W6 T o.dst undef) H n _ _ _ r' (by rw[Vm];exact hl) hu hr ha;refine⟨fun x hx=> ?_,fun x hx=> ?_,RegOk.cons (x:=⟨o,false,undef,T,H,H,n,n,[],[]⟩) h3 rfl rfl rfl⟩
     ·rcases List.mem_cons.1 hx with rfl|hx
      ·exact⟨Lr _,fun _ _ _=>rfl,fun _ _=>rfl,fun i hi=>by simp at hi,fun i hi=>by simp at hi,hdst⟩
      ·exact h1 x hx
     ·rcases List.mem_cons.1 hx with rfl|hx
      ·exact⟨hw.symm,(fun e=>by cases e),fun _=>⟨rfl,rfl,rfl,rfl⟩⟩
      ·exact h2 x hx
    ·cases h
theorem kC{c:CF}{H:Qj}{n:Nat}{id:Nat}{ops:Array Oper}{k:List Item}{Qq:List Rec}{v:Value}{H':Qj}{n':Nat}{R W:List Nat}{T':Tm}(hm:c.mode=.run)
 (ht:c.todo=.code (.region id ops false)::k) (hs:∀x∈Qq,Tg c.tmps.len x) (hk:∀x∈Qq,Jm P B ops x)
 (h:∃H1 n1 o l2,UG Qq c.tmps H n T' H1 n1/\Qq.map (·.o)++o::l2=ops.toList/\Region.wanted o (Xw ops T')=true/\Ps P B o (X8 T') H1 n1 (.Zj v) H' n' R W/\Shape H1 n1 H' n' R W/\Under H' n'):
 GoJ P B c H n {c with tmps:=T',mode:=.Zj v} H' n' (Kc Qq++R) (Vj Qq++W):=by
 obtain⟨H1,n1,o,l2,Jt,hmap,VS,hdo,KR,_⟩:=h;have hown:=V8 (l2:=o::l2) hmap rfl;have hlen:ops.size=Qq.length+(l2.length+1):=by have:=congrArg Lf hmap;simp at this;omega
 have hat:ops[Qq.length]? =some o:=by
  rw[<-Lj,<-hmap,Lm (by simp)];simp
 have hsh1:=Zp Qq _ _ _ _ _ _ Jt hs;have l1:=hsh1.le;have l3:=KR.le;refine⟨hsh1.trans KR,fun S μ w fr cs Z Q5 hB hS hf Xr hR=> ?_⟩;obtain⟨a,b,d⟩:=Xr.running hm;rw[ht]at d;obtain⟨L',e,hL⟩:=d.code;have hf1:Ya μ n n1:=fun q x y=>hf q x (by omega)
 obtain⟨μ1,A1,w1,hp,hT,ZS⟩:=Su (fr:=fr) (cs:=cs) (k:=L') a Qq 0 c.tmps H n T' H1 n1 (Ls Qq.length (l2.length+1)) Jt hs hk (fun j r hj=>by rw[Lv];exact hown j r hj) rfl S μ w fr.tmps Q5 hB hS hf1
  (fun q hq QX=>hR q (Lg _ hq) QX) b
 have hr:Ls 0 Qq.length++Ls Qq.length (l2.length+1)=Ls 0 ops.size:=by
  rw[hlen];have:=List.range'_append_1 (s:=0) (m:=Qq.length) (n:=l2.length+1);simpa using this
 rw[hr,List.range'_succ]at ZS;obtain⟨XB,w2,μ2,KT,ho,hst2⟩:=hdo _ μ1 w1 (QU fr A1 ops (Qq.length::Ls (Qq.length+1) l2.length) L') cs L' ops Qq.length _ hp.ok (hB.post Q5 hp) (fun q hq=>hq.elim (fun e=>by have:=hS q e;omega) (fun e=>e.2))
  (fun q x y=>by rw[hp.ext q (by omega)];exact hf q (by omega) y) (fun x _ v hv=>kI (fr:=QU fr A1 ops (Qq.length::Ls (Qq.length+1) l2.length) L') hT x v hv) (fun q hq QX=>by
   rcases Ly q n with h1|h1
   ·exact .inl (hR q (Lp _ hq) h1)
   ·exact .inr ⟨h1,QX⟩) a rfl hat (by rw[show(QU fr A1 ops (Qq.length::Ls (Qq.length+1) l2.length) L').tmps=A1 from rfl,Up hT];exact VS)
 have hpp:=hp.trans KT;cases ho with
 |Zj hv=>
  rename_i v';refine⟨{QU fr A1 ops (Qq.length::Ls (Qq.length+1) l2.length) L' with mode:=.panicking [{v:=v',recovered:=false}]},w2,μ2,hpp,⟨Xr.fn,hT.mono (KT.mu fun q x y=>by rw[hp.ext q (by omega)];exact hf q (by omega) y),(fun h=>by cases h),Xr.defers.mono (hpp.mu hf),.Zj hv,Xr.kind,Xr.round.mono (hpp.mu hf)⟩,rfl,rfl,
   .head (Zw a e) (ZS.trans (hst2.trans ?_))⟩
  simp only[OO.on,Frame.raise,QU,a];exact Steps.refl _ _
theorem tx(hF:∀g,F g=true->Q0 P g=true)(X2:P.follows .mixedOrders=true){c c':CF}{H H':Qj}{n n':Nat}{f:Operand}{params:Array Tmp}{assign body:Code}{k:List Item}{keys W:List Nat}{out:OO}{VQ:Qj}{p:Prop}(hu:Under H n)(hm:c.mode=.run)(ht:c.todo=.code (.rangeFunc f params assign body)::k)
 (h:C8 P F B c H n f params assign body k keys out VQ n' W=some (c',H',p)) (hp:p):∃R,GoJ P B c H n c' H' n' R W:=by
 unfold C8 at h;split at h
 ·rename_i fv hfv;split at h
  ·rename_i H1 l ds R1 ho;split at h
   ·rename_i g args R2 hc;split at h
    ·rename_i c1 he;refine⟨R1++R2++keys, ?_⟩;split at h
     ·rename_i v;simp only[YO,YR]at h;obtain⟨rfl,rfl,rfl⟩:=h;have:Je P F Xh (P8 c1 H1 (l+1) ⟨.ret v,VQ++H1,n',keys,W⟩) c H n=some (.go {c with todo:=.endRangeFunc l::k,defers:=ds++c.defers} (VQ++H1) n' (R1++R2++keys) W):=by
       unfold Je;simp only[hm,ht,hfv,ho,hc,he,J7]
      exact W5 hF X2 (Q7 P B) (FJ.recS hp) hu this
     ·rename_i v;simp only[YO,YR]at h;obtain⟨rfl,rfl,rfl⟩:=h;have:Je P F Xh (P8 c1 H1 (l+1) ⟨.Zj v,VQ++H1,n',keys,W⟩) c H n=some (.go {c with mode:=.Zj v,defers:=ds++c.defers} (VQ++H1) n' (R1++R2++keys) W):=by
       unfold Je;simp only[hm,ht,hfv,ho,hc,he,J7]
      exact W5 hF X2 (Q7 P B) (FJ.recS hp) hu this
    ·cases h
   ·cases h
  ·cases h
 ·cases h
theorem P6(b:Nat):∀(fuel:Nat) (c:CF) (H:Qj) (n:Nat) (sc:Q2) (q:Nat) (W0:List Nat) (L:List Prop) (s:ST),Qs P F J B fuel b c H n sc q W0 L=some s->Qw s.L->Qw L:=by
 intro fuel;induction fuel with
 |zero=>intro c H n sc q W0 L s h ha;simp only[Qs,YO]at h;subst h;exact ha
 |succ k ih=>
  intro c H n sc q W0 L s h ha;simp only[Qs]at h;split at h
  ·split at h
   ·rename_i r' hr';split at h
    ·have h:=Kr h;exact Yu _ _ _ _ _ _ _ _ hr' (ih _ _ _ _ _ _ _ _ h ha)
    ·exact Yu _ _ _ _ _ _ _ _ hr' (ih _ _ _ _ _ _ _ _ (Kr h) ha)
   ·cases h
  ·split at h
   ·split at h
    ·exact(ih _ _ _ _ _ _ _ _ h ha).2
    ·cases h
   ·split at h
    ·exact(ih _ _ _ _ _ _ _ _ h ha).2
    ·cases h
   ·cases h
  ·split at h
   ·exact ih _ _ _ _ _ _ _ _ h ha
   ·simp only[YO]at h;subst h;exact ha
   ·cases h
theorem Z1(hF:∀g,F g=true->Q0 P g=true)(hJ:∀w,B.has w->J w)(X2:P.follows .mixedOrders=true):∀(fuel b:Nat) (c:CF) (H:Qj) (n:Nat) (sc:Q2) (q:Nat) (W0:List Nat) (L:List Prop) (s:ST),Under H n->Qs P F J B fuel b c H n sc q W0 L=some s->Qw s.L->
 ∃R W,HE P B c H n R W s.r/\∀i,i<b->(i∈s.W<->i∈W0\/i∈W)
 |0,b,c,H,n,sc,q,W0,L,s,hu,h,ha=>by
  simp only[Qs,YO]at h;subst h;exact⟨[],[],GoJ.refl c H n,fun i _=>by simp⟩
 |k+1,b,c,H,n,sc,q,W0,L,s,hu,h,ha=>by
  have plain:(match Je P F Xh (fun _ _ _=>none) c H n with
   |some (.go c' H' n' _ W')=>Qs P F J B k b c' H' n' sc q (Zt b W' W0) L
   |some (.done out H' n' _ W')=>some ⟨.fin out H' n',Zt b W' W0,L⟩
   |none=>none)=some s->∃R W,HE P B c H n R W s.r/\∀i,i<b->(i∈s.W<->i∈W0\/i∈W):=by
   intro h;split at h
   ·rename_i c' H' n' R' W' hs;have J2:GoJ P B c H n c' H' n' R' W':=W5 hF X2 (Q7 P B) Yc hu hs;obtain⟨R,W,h1,h2⟩:=Z1 hF hJ X2 k b c' H' n' sc q _ L s (hu.shape J2.shape) h ha;refine⟨_,_,J2.srj h1,fun i hi=> ?_⟩;rw[h2 i hi,XI hi,LP,or_assoc]
   ·rename_i out H' n' R' W' hs;have hdone:FJ P B c H n out H' n' R' W':=W5 hF X2 (Q7 P B) Yc hu hs;simp only[YO]at h;subst h;exact⟨R',W',hdone,fun i hi=>XI hi⟩
   ·cases h
  simp only[Qs]at h;split at h
  ·rename_i id ops draw todo hm ht;split at h
   ·rename_i r hr;cases hpan:r.Zj with
    |none=>
     rw[hpan]at h;simp only at h;cases hd:(!draw || (Wj 0 ops.toList && indep ops 0 r.Qq (KZ ops.toList [])))with
     |false=>rw[hd]at h;cases h
     |true=>
      rw[hd]at h;simp only[cond_true]at h;have hL:Qw r.L:=by
       exact P6 b k _ _ _ _ _ _ _ s h ha
      obtain⟨h1,h2,ZQ⟩:=YV hF hJ (len:=c.tmps.len) ops.toList c.tmps H n sc q L r rfl hu hr hL;unfold RegOk at ZQ;rw[hpan]at ZQ;obtain⟨h3,h4,h5⟩:=ZQ;have J2:=oF X2 hm ht h1 h2 h3 h4 hd;obtain⟨R,W,k1,k2⟩:=Z1 hF hJ X2 k b _ _ _ _ _ _ _ s h5 h ha;refine⟨_,_,J2.srj k1,fun i hi=> ?_⟩;rw[k2 i hi,XI hi,LP,or_assoc]
    |some p=>
     obtain⟨v,R1,W1⟩:=p;rw[hpan]at h;simp only at h;cases hd:(!draw || PJ ops r.Qq r.T)with
     |false=>rw[hd]at h;cases h
     |true=>
      rw[hd]at h;simp only[cond_true]at h;have hL:Qw r.L:=by
       exact P6 b k _ _ _ _ _ _ _ s h ha
      obtain⟨h1,h2,ZQ⟩:=YV hF hJ (len:=c.tmps.len) ops.toList c.tmps H n sc q L r rfl hu hr hL;unfold RegOk at ZQ;rw[hpan]at ZQ;have J2:GoJ P B c H n {c with tmps:=r.T,mode:=.Zj v} r.H r.n (Kc r.Qq++R1) (Vj r.Qq++W1):=by
       cases draw with
       |true=>
        obtain⟨H1,n1,o,l2,x1,x2,x3,x4,x5,_⟩:=ZQ;exact dI X2 hm ht h1 h2 ⟨H1,n1,o,l2,x1,x2,x3,x4,x5⟩ (by simpa using hd)
       |false=>exact kC hm ht h1 h2 ZQ
      obtain⟨_,_,_,_,_,_,_,_,_,h5⟩:=ZQ;obtain⟨R,W,k1,k2⟩:=Z1 hF hJ X2 k b _ _ _ _ _ _ _ s h5 h ha;refine⟨_,_,J2.srj k1,fun i hi=> ?_⟩;rw[k2 i hi,XI hi,LP (s:=Vj r.Qq++W1),or_assoc]
   ·cases h
  ·rename_i f params assign body todo hm ht;split at h
   ·rename_i keys out VQ n1 W1 sc' htold;split at h
    ·rename_i c' H' p hi;have hL:=P6 b k _ _ _ _ _ _ _ s h ha;obtain⟨R0,J2⟩:=tz hF X2 hu hm ht hi hL.1;obtain⟨R,W,h1,h2⟩:=Z1 hF hJ X2 k b _ _ _ _ _ _ _ s (hu.shape J2.shape) h ha;refine⟨_,_,J2.srj h1,fun i hi=> ?_⟩;rw[h2 i hi,XI hi,LP,or_assoc]
    ·cases h
   ·rename_i keys out VQ n1 W1 sc' htold;split at h
    ·rename_i c' H' p hi;have hL:=P6 b k _ _ _ _ _ _ _ s h ha;obtain⟨R0,J2⟩:=tx hF X2 hu hm ht hi hL.1;obtain⟨R,W,h1,h2⟩:=Z1 hF hJ X2 k b _ _ _ _ _ _ _ s (hu.shape J2.shape) h ha;refine⟨_,_,J2.srj h1,fun i hi=> ?_⟩;rw[h2 i hi,XI hi,LP,or_assoc]
    ·cases h
   ·cases h
  ·exact plain h
end
end Go.CE

namespace Go.CE
open Go Go.RowKit

def KN(H:Qj)(n:Nat):List Nat:=(Ld n).filter fun r=>Xi (Qo H r)
theorem lG{H:Qj}{n r:Nat}:r∈KN H n<->r<n/\Xi (Qo H r)=true:=by simp[KN]
noncomputable def eI(n n1:Nat)(ρ:Nat->Nat)(μ μ':Mu)(fm:Nat->Option Obj):Mu:=fun i=>if i=n then some ⟨0,0,0,false,fm⟩else if n<i/\i<n1 then μ' (ρ i)else μ i
structure wF (n n' n1:Nat) (W:List Nat) (μ μ':Mu) (H H' H1:Qj) (w':World) (ρ:Nat->Nat) (fk:List Nat):Prop where
 le:n<n1
 id:∀i,i<n->ρ i=i
 rng:∀i,n<i->i<n1->n<=ρ i/\ρ i<n'
 inj:∀i j,n<i->i<n1->n<j->j<n1->ρ i=ρ j->i=j
 under:Under H1 n1
 WJ:∀i,i<n->i ∉ W->Qo H1 i=Qo H i
 KI:Qo H1 n=some QM
 obj:∀i o1,i<n1->(n<i\/i∈W/\i<n)->Qo H1 i=some o1->¬Z9 o1/\(live o1->∃o,Qo H' (ρ i)=some o/\live o/\∀im,μ' (ρ i)=some im->OR μ' w' im o->OR (eI n n1 ρ μ μ' (Ke μ' H' w' (KN H' n'++fk))) w' im o1)
 fz:∀k∈fk,n<=k/\k<n'/\(∃o,Qo H' k=some o/\live o)/\∀i,n<i->i<n1->ρ i≠k
theorem Post.merge{B n n' n1:Nat}{W:List Nat}{μ μ':Mu}{H H' H1:Qj}{w w':World}{ρ:Nat->Nat}{fk:List Nat}(Q5:Ok B (fun i=>i<n) μ (Qo H) w)(hf:∀i,n<=i->μ i=none)(hp:Post B (fun i=>i<n) n n' W μ μ' H H' w w')(k:wF n n' n1 W μ μ' H H' H1 w' ρ fk):
 Post B (fun i=>i<n) n n1 W μ (eI n n1 ρ μ μ' (Ke μ' H' w' (KN H' n'++fk))) H H1 w w':=by
 have le1:=k.le;have hlow:∀i,i<n->eI n n1 ρ μ μ' (Ke μ' H' w' (KN H' n'++fk)) i=μ i:=fun i hi=>by unfold eI;rw[if_neg (by omega),if_neg (by omega)]
 have hhigh:∀i,n<i->i<n1->eI n n1 ρ μ μ' (Ke μ' H' w' (KN H' n'++fk)) i=μ' (ρ i):=fun i h1 h2=>by unfold eI;rw[if_neg (by omega),if_pos ⟨h1,h2⟩]
 have hmid:eI n n1 ρ μ μ' (Ke μ' H' w' (KN H' n'++fk)) n=some ⟨0,0,0,false,Ke μ' H' w' (KN H' n'++fk)⟩:=by unfold eI;rw[if_pos rfl]
 have hext:Ext μ (eI n n1 ρ μ μ' (Ke μ' H' w' (KN H' n'++fk))):=by
  intro i im Q3;rcases Ly i n with h|h
  ·rw[hlow i h];exact Q3
  ·rw[hf i h]at Q3;cases Q3
 generalize hM:eI n n1 ρ μ μ' (Ke μ' H' w' (KN H' n'++fk))=μ1 at *;have obj:=k.obj;rw[hM]at obj
 -- an object of the new heap: an WJ one Yo was left, the region, or one of the run
 have other:∀i o im,i<n->i ∉ W->Qo H i=some o->live o->μ i=some im->w'.heap[im.XM]? =w.heap[im.XM]? :=by
  intro i o im hi hw ho hl Q3;refine hp.frame _ (Q5.low i o im hi ho hl Q3).1 fun q hq hqn XX QG hb=> ?_
  obtain⟨_,⟨oq,hoq,hlq⟩,im2,ZJ,hr⟩:=hp.wr q hq hqn;rw[QG]at ZJ;cases ZJ;by_cases hra:im.rw=true
  ·exact Q5.inj q i oq o XX im hqn hi (fun e=>hw (e ▸ hq)) hoq ho hlq hl QG Q3 hr hra hb
  ·have a:=(Q5.low i o im hi ho hl Q3).2.2 (by simpa using hra);have b:=(Q5.low q oq XX hqn hoq hlq QG).2.1 hr;omega
 have hS':∀i,i<n1->i≠n->(ρ i<n\/n<=ρ i/\ρ i<n'):=by
  intro i hi UZ;rcases Ly i n with h|h
  ·exact .inl (by rw[k.id i h];exact h)
  ·exact .inr (k.rng i (by omega) hi)
 have hmuR:∀i,i<n1->i≠n->μ1 i=μ' (ρ i):=by
  intro i hi UZ;rcases Ly i n with h|h
  ·rw[hlow i h,k.id i h,hp.ext i (by omega)]
  ·exact hhigh i (by omega) hi
 have Vd:∀i,(i<n\/n<=i/\i<n1)->i<n1:=fun i hi=>hi.elim (fun e=>by omega) (fun e=>e.2)
 have liveH':∀i o1,i<n1->Qo H1 i=some o1->live o1->i≠n/\∃o,Qo H' (ρ i)=some o/\live o:=by
  intro i o1 hi ho hl;have UZ:i≠n:=fun e=>by rw[e,k.KI]at ho;cases ho;exact hl.elim
  refine⟨UZ, ?_⟩;by_cases h:n<i\/i∈W/\i<n
  ·obtain⟨o,h1,h2,_⟩:=(obj i o1 hi h ho).2 hl;exact⟨o,h1,h2⟩
  ·have h1:i<n:=by omega
   have h2:i ∉ W:=fun e=>h (.inr ⟨e,h1⟩)
   rw[k.WJ i h1 h2]at ho;exact⟨o1,by rw[k.id i h1,hp.keep i h1 h2];exact ho,hl⟩
 have hinj:∀i j,i<n1->j<n1->i≠n->j≠n->ρ i=ρ j->i=j:=by
  intro i j hi hj Jc hjn e;rcases Ly i n with h|h <;> rcases Ly j n with h'|h'
  ·rw[k.id i h,k.id j h']at e;exact e
  ·have:=k.rng j (by omega) hj;rw[k.id i h]at e;omega
  ·have:=k.rng i (by omega) hi;rw[k.id j h']at e;omega
  ·exact k.inj i j (by omega) hi (by omega) hj e
 have regH1:∀i o,i<n1->Qo H1 i=some o->Z9 o->i=n\/(i<n/\i ∉ W/\Qo H i=some o/\Qo H' i=some o):=by
  intro i o hi ho hr;by_cases UZ:i=n
  ·exact .inl UZ
  ·by_cases h:n<i\/i∈W/\i<n
   ·exact absurd hr (obj i o hi h ho).1
   ·have h1:i<n:=by omega
    have h2:i ∉ W:=fun e=>h (.inr ⟨e,h1⟩)
    rw[k.WJ i h1 h2]at ho;exact .inr ⟨h1,h2,ho,by rw[hp.keep i h1 h2];exact ho⟩
 have deadW:∀q,q∈W->q<n->(∀o,Qo H' q=some o->¬live o)->∀o,Qo H1 q=some o->¬live o:=by
  intro q hq hqn hd o ho hl;obtain⟨_,o',h5,h6⟩:=liveH' q o (by omega) ho hl;rw[k.id q hqn]at h5;exact hd o' h5 h6
 -- what stands in the region
 have fmCase:∀b x,Ke μ' H' w' (KN H' n'++fk) b=some x->w'.heap[b]? =some x/\((∃r o im,r<n'/\Qo H' r=some o/\Z9 o/\μ' r=some im/\im.fm b=some x)\/∃q o im,q∈fk/\Qo H' q=some o/\live o/\μ' q=some im/\im.XM=b):=by
  intro b x h;have hw:=ZU h;refine⟨hw, ?_⟩;unfold Ke at h;split at h
  ·rename_i hc;obtain⟨i,hi,o,im,ho,Q3,VV⟩:=hc;rcases List.mem_append.1 hi with hi|hi
   ·obtain⟨QX,WX⟩:=lG.1 hi;obtain⟨o',Un,hr'⟩:=Zn WX;rw[ho]at Un;cases Un;rcases VV with ⟨_,UZ⟩|⟨hl,_⟩
    ·cases hx:im.fm b with
     |none=>exact absurd hx UZ
     |some y=>
      obtain⟨XX,QG,hf'⟩:=hp.ok.KI i o (by rcases Ly i n with h|h;exact .inl h;exact .inr ⟨h,QX⟩) ho hr'
      rw[Q3]at QG;cases QG;have:=hf' b y hx;rw[hw]at this;cases this;exact .inl ⟨i,o,im,QX,ho,hr',Q3,hx⟩
    ·exact absurd hl (by cases o <;> first|exact id|exact hr'.elim)
   ·obtain⟨h1,h2,⟨o',Un,hl'⟩,_⟩:=k.fz i hi;rw[ho]at Un;cases Un;rcases VV with ⟨hr,_⟩|⟨hl,hb⟩
    ·exact absurd hl' (by cases o <;> first|exact id|exact hr.elim)
    ·exact .inr ⟨i,o,im,hi,ho,hl,Q3,hb⟩
  ·cases h
 have hin':∀r,r<n'->(r<n\/n<=r/\r<n'):=fun r h=>by omega
 refine⟨⟨fun i o hi ho hl=> ?_,fun i o im hi ho hl Q3=> ?_,fun i j oi oj a b hi hj Jd Z0 Zz PT Vl ha hb hra WX=> ?_,fun i o hi ho hr=> ?_,fun i j oi oj a b x hi hj Z0 Zz KL Vl ha hb WX hx=> ?_⟩,by omega,fun i hi=> ?_,fun i hi hw=>k.WJ i hi hw,hp.grow,hp.frame,hp.wr,fun i im o h1 h2 ho hl Q3=> ?_,fun i im o hi ho hr Q3 b x hx=> ?_,hp.os,hp.tape,hp.output⟩
 ·have hi1:=Vd i hi;have UZ:=(liveH' i o hi1 ho hl).1;by_cases h:n<i\/i∈W/\i<n
  ·obtain⟨o',h1,h2,h4⟩:=(obj i o hi1 h ho).2 hl;obtain⟨im,Q3,Zu⟩:=hp.ok.rel (ρ i) o' (hS' i hi1 UZ) h1 h2;exact⟨im,by rw[hmuR i hi1 UZ];exact Q3,h4 im Q3 Zu⟩
  ·have h1:i<n:=by omega
   have h2:i ∉ W:=fun e=>h (.inr ⟨e,h1⟩)
   rw[k.WJ i h1 h2]at ho;obtain⟨im,Q3,Zu⟩:=Q5.rel i o h1 ho hl;exact⟨im,hext _ _ Q3,Zu.keep hext (other i o im h1 h2 ho hl Q3)⟩
 ·have hi1:=Vd i hi;obtain⟨UZ,o',h1,h2⟩:=liveH' i o hi1 ho hl;rw[hmuR i hi1 UZ]at Q3;exact hp.ok.low (ρ i) o' im (hS' i hi1 UZ) h1 h2 Q3
 ·have hi1:=Vd i hi;have hj1:=Vd j hj;obtain⟨hni,o1,h1,h2⟩:=liveH' i oi hi1 Z0 PT;obtain⟨hnj,o2,h3,h4⟩:=liveH' j oj hj1 Zz Vl;rw[hmuR i hi1 hni]at ha;rw[hmuR j hj1 hnj]at hb;exact hp.ok.inj (ρ i) (ρ j) o1 o2 a b (hS' i hi1 hni) (hS' j hj1 hnj) (fun e=>Jd (hinj i j hi1 hj1 hni hnj e)) h1 h3 h2 h4 ha hb hra WX
 ·rcases regH1 i o (Vd i hi) ho hr with Jc|⟨h1,h2,h3,h4⟩
  ·rw[Jc];exact⟨_,hmid,fun b x h=>ZU h⟩
  ·obtain⟨im,Q3,hf'⟩:=hp.ok.KI i o (.inl h1) h4 hr;rw[hp.ext i (by omega)]at Q3;exact⟨im,hext _ _ Q3,hf'⟩
 ·have hj1:=Vd j hj;obtain⟨hnj,o2,h3,h4⟩:=liveH' j oj hj1 Zz Vl;rw[hmuR j hj1 hnj]at hb;rcases regH1 i oi (Vd i hi) Z0 KL with Jc|⟨h1,h2,h5,h6⟩
  ·rw[Jc,hmid]at ha;cases ha;obtain⟨_,VV⟩:=fmCase _ _ hx;rcases VV with ⟨r,o,im,QX,ho,hr,Q3,hfx⟩|⟨q,o,im,hq,ho,hl,Q3,hbb⟩
   ·exact hp.ok.sep r (ρ j) o o2 im b x (hin' r QX) (hS' j hj1 hnj) ho h3 hr h4 Q3 hb WX hfx
   ·obtain⟨q1,q2,_,q3⟩:=k.fz q hq;have UZ:q≠ρ j:=by
     intro e;rcases Ly j n with h|h
     ·rw[k.id j h]at e;omega
     ·exact q3 j (by omega) hj1 e.symm
    have UH:=(hp.fresh q im o q1 q2 ho hl Q3).1;exact hp.ok.inj q (ρ j) o o2 im b (hin' q q2) (hS' j hj1 hnj) UZ ho h3 hl h4 Q3 hb UH WX hbb
  ·rw[hlow i h1]at ha;exact hp.ok.sep i (ρ j) oi o2 a b x (.inl h1) (hS' j hj1 hnj) h6 h3 KL h4 (by rw[hp.ext i (by omega)];exact ha) hb WX hx
 ·rw[<-hM];unfold eI;rw[if_neg (by omega),if_neg (by omega)]
 ·obtain⟨UZ,o',h3,h4⟩:=liveH' i o h2 ho hl;rw[hmuR i h2 UZ]at Q3;obtain⟨a,b⟩:=k.rng i (by omega) h2;obtain⟨hr,Xr⟩:=hp.fresh (ρ i) im o' a b h3 h4 Q3;exact⟨hr,Xr.imp id fun⟨q,hq,hqn,hb,hd⟩=>⟨q,hq,hqn,hb,deadW q hq hqn hd⟩⟩
 ·have hi1:i<n1:=by omega
  rcases regH1 i o hi1 ho hr with Jc|⟨h1,h2,_⟩
  ·rw[Jc,hmid]at Q3;cases Q3;obtain⟨_,VV⟩:=fmCase _ _ hx;rcases VV with ⟨r,o,im,QX,ho,hr,Q3,hfx⟩|⟨q,o,im,hq,ho,hl,Q3,hbb⟩
   ·by_cases hx:n<=r/\r<n'\/r∈W/\r<n
    ·rcases hp.rf r im o hx ho hr Q3 b x hfx with c|c|⟨q,hq,hqn,hb,hd⟩
     ·exact .inl c
     ·exact .inr (.inl c)
     ·exact .inr (.inr ⟨q,hq,hqn,hb,deadW q hq hqn hd⟩)
    ·have h:r<n:=by omega
     rw[hp.keep r h fun e=>hx (.inr ⟨e,h⟩)]at ho;rw[hp.ext r (by omega)]at Q3;exact .inr (.inl ⟨r,im,o,h,h,ho,hr,Q3,hfx⟩)
   ·obtain⟨q1,q2,_,_⟩:=k.fz q hq;rcases(hp.fresh q im o q1 q2 ho hl Q3).2 with c|⟨q',hq',hqn,⟨XX,QG,hb'⟩,hd⟩
    ·exact .inl (by omega)
    ·exact .inr (.inr ⟨q',hq',hqn,⟨XX,QG,by omega⟩,deadW q' hq' hqn hd⟩)
  ·rcases hi with hi|hi
   ·omega
   ·exact absurd hi.1 h2
end Go.CE

namespace Go.CE
open Go Go.RowKit

section
variable (H:Qj) (m:Nat) (pos:Nat->Option Nat) (fz:List Fz)
def F0(v:Value):Option (Value×List Prop):=bif simple v then some (v,[])else match v with
 | .func (.via r ⟨[]⟩ 0 true) ⟨[t]⟩ ⟨[]⟩=>bif Xi (Qo H r) && VB t then some (Qn ((pos r).getD m) t,[])else none
 | .pointer (some ⟨k,o,none⟩)=>match pos k with
   |some j=>some (.pointer (some ⟨j,o,none⟩),[])
   |none=>match dL fz k,Qo H k with
    |some x,some (.cells cs _ (0,0))=>bif x.rs.all fun r=>Xi (Qo H r)then some (Qn m (Zy o x.cs),[Z7 x.rs cs x.cs])else none
    |_,_=>some (.chan none,[])
 | .slice (some ⟨k,o,none⟩) n z=>match pos k with
   |some j=>some (.slice (some ⟨j,o,none⟩) n z,[])
   |none=>match o,dL fz k,Qo H k with
    |0,some x,some (.cells cs _ (0,0))=>bif x.rs.all fun r=>Xi (Qo H r)then some (Qn m (QJ n x.cs),[Z7 x.rs cs x.cs])else none
    |_,_,_=>some (.chan none,[])
 | .map (some r)=>match pos r with
   |some j=>some (.map (some j),[])
   |none=>some (.chan none,[])
 | .func (.yield l) ⟨[]⟩ ⟨[]⟩=>match pos l with
   |some j=>some (.func (.yield j) #[] #[],[])
   |none=>some (.chan none,[])
 | .chan none=>some (.chan none,[])
 |_=>none
def mI(f:Value->Option (Value×List Prop)):List Value->Option (List Value×List Prop)
 |[]=>some ([],[])
 |v::l=>match f v with
  |some (t,L)=>match mI f l with
   |some (ts,L2)=>some (t::ts,L++L2)
   |none=>none
  |none=>none
def oL:Nat->Value->Option (Value×List Prop)
 |0,v=>F0 H m pos fz v
 |f+1,v=>match v with
  | .agg xs=>match mI (oL f) xs.toList with
    |some (l,L)=>some (.agg l.toArray,L)
    |none=>none
  | .tuple xs=>match mI (oL f) xs.toList with
    |some (l,L)=>some (.tuple l.toArray,L)
    |none=>none
  | .iface t x=>match oL f x with
    |some (x,L)=>some (.iface t x,L)
    |none=>none
  | .func (.func g) xs ys=>match mI (oL f) xs.toList with
    |some (l,L)=>match mI (oL f) ys.toList with
     |some (k,L2)=>some (.func (.func g) l.toArray k.toArray,L++L2)
     |none=>none
    |none=>none
  |v=>F0 H m pos fz v
def H9(rs:List Nat)(v v1:Value):Prop:=(simple v=true/\v1=v)\/∃r∈rs,∃t,v=Qn r t/\v1=Qn m t/\VB t=true
def Ks(rs:List Nat)(cs cs1:Array Value):Prop:=cs.size=cs1.size/\∀(i:Nat) v v1,cs[i]? =some v->cs1[i]? =some v1->H9 m rs v v1
end
theorem XP{m:Nat}{rs:List Nat}{cs:Array Value}(h:∀v∈cs,simple v=true):Ks m rs cs cs:=⟨rfl,fun i v v1 h1 h2=>by
 rw[h1]at h2;cases h2;exact .inl ⟨h v (LB h1),rfl⟩⟩
inductive lq (m:Nat) (rs:List (Nat×Nat)) (frs:List (Nat×Array Value)) (ow:List (Nat×Nat)):Value->Value->Prop
 |simple {v}:CE.simple v=true->lq m rs frs ow v v
 |KI {r j t}:(r,j)∈rs->VB t=true->lq m rs frs ow (Qn r t) (Qn j t)
 |own {k cs n c}:(k,cs)∈frs->lq m rs frs ow (.slice (some ⟨k,0,none⟩) n c) (Qn m (QJ n cs))
 |nil:lq m rs frs ow (.slice none 0 0) (Qn m (QJ 0 #[]))
 |keep {k j n c}:(k,j)∈ow->lq m rs frs ow (.slice (some ⟨k,0,none⟩) n c) (.slice (some ⟨j,0,none⟩) n c)
def AllX(m:Nat)(rs:List (Nat×Nat))(frs:List (Nat×Array Value))(ow:List (Nat×Nat)):List Value->List Value->Prop
 |[],[]=>True
 |v::l,u::k=>lq m rs frs ow v u/\AllX m rs frs ow l k
 |_,_=>False
def Jy(m:Nat)(rs:List (Nat×Nat))(frs:List (Nat×Array Value))(ow:List (Nat×Nat))(cs cs1:Array Value):Prop:=AllX m rs frs ow cs.toList cs1.toList
theorem AllX.get{m:Nat}{rs:List (Nat×Nat)}{frs:List (Nat×Array Value)}{ow:List (Nat×Nat)}:∀{l k:List Value},AllX m rs frs ow l k->k.length=l.length/\∀(i:Nat) v u,l[i]? =some v->k[i]? =some u->lq m rs frs ow v u
 |[],[],_=>⟨rfl,fun i v u h=>by simp at h⟩
 |v::l,u::k,h=>by
  obtain⟨a,b⟩:=AllX.get h.2;refine⟨by simp[a],fun i x y hx hy=> ?_⟩;cases i with
  |zero=>
   simp only[Ln,YO]at hx hy;subst hx hy;exact h.1
  |succ i=>exact b i x y (by simpa using hx) (by simpa using hy)
 |[],_::_,h=>h.elim
 |_::_,[],h=>h.elim
theorem AllX.append{m:Nat}{rs:List (Nat×Nat)}{frs:List (Nat×Array Value)}{ow:List (Nat×Nat)}:∀{l k l2 k2:List Value},AllX m rs frs ow l k->AllX m rs frs ow l2 k2->AllX m rs frs ow (l++l2) (k++k2)
 |[],[],_,_,_,h2=>h2
 |_::_,_::_,_,_,h,h2=>⟨h.1,AllX.append h.2 h2⟩
 |[],_::_,_,_,h,_=>h.elim
 |_::_,[],_,_,h,_=>h.elim
section
variable {B:Nat} {S:Nat->Prop} {H:Qj} {m:Nat} {pos:Nat->Option Nat} {fz:List Fz} {μ μ1:Mu} {w:World} {n':Nat} {fk:List Nat} {im1:Tn}
structure uk (H:Qj) (m:Nat) (pos:Nat->Option Nat) (fz:List Fz) (μ μ1:Mu) (w:World) (n':Nat) (fk:List Nat) (im1:Tn):Prop where
 ok:∃B S,Ok B S μ (Qo H) w/\∀i,i<n'->S i
 under:Under H n'
 here:∀k j,pos k=some j->μ1 j=μ k
 KI:μ1 m=some im1
 fm:im1.fm=Ke μ H w (KN H n'++fk)
 sub:∀x∈fz,x.k∈fk
theorem cB:∀(l:List Fz) (k:Nat) (x:Fz),dL l k=some x->x∈l/\x.k=k
 |[],k,x,h=>by cases h
 |y::l,k,x,h=>by
  simp only[dL]at h;cases e:Le y.k k with
  |true=>
   rw[e]at h;simp only[cond_true,YO]at h;subst h;exact⟨by simp,YE e⟩
  |false=>
   rw[e]at h;obtain⟨h1,h2⟩:=cB l k x h;exact⟨Lh _ h1,h2⟩
theorem z2(hu:Under H n'){r:Nat}(h:Xi (Qo H r)=true):r<n':=by
 obtain⟨o,ho,_⟩:=Zn h;exact hu.lt ho
theorem bQ(c:uk H m pos fz μ μ1 w n' fk im1){r:Nat}(hr:Xi (Qo H r)=true){im:Tn}(Q3:μ r=some im){b:Nat}{x:Obj}(hx:im.fm b=some x):im1.fm b=some x:=by
 obtain⟨B,S,Q5,hS⟩:=c.ok;rw[c.fm];have QX:=z2 c.under hr;exact eX Q5 (Lg _ (lG.2 ⟨QX,hr⟩)) (hS r QX) hr Q3 hx
theorem dO(c:uk H m pos fz μ μ1 w n' fk im1){rs:List Nat}(ZQ:(rs.all fun r=>Xi (Qo H r))=true){v v1 v':Value}(h:mV rs v v1)(hv:VR μ v v'):TRv im1.fm v1 v':=by
 rcases h with ⟨h1,rfl⟩|⟨r,hr,rfl,_⟩
 ·rw[simple_eq h1 hv];exact .simple h1
 ·obtain⟨im,Q3,ht⟩:=hv.top_inv;exact ht.mono fun b x hx=>bQ c (List.all_eq_true.1 ZQ r hr) Q3 hx
theorem Pk(c:uk H m pos fz μ μ1 w n' fk im1){v v' t:Value}{L:List Prop}(h:F0 H m pos fz v=some (t,L))(hL:Qw L)(hv:VR μ v v'):VR μ1 t v':=by
 obtain⟨B,S,Q5,hS⟩:=c.ok;have addr:∀{k j o:Nat} {a':Addr},pos k=some j->AR μ ⟨k,o,none⟩ a'->AR μ1 ⟨j,o,none⟩ a':=by
  rintro k j o a' hp ⟨im,h1,h2,h3⟩;exact⟨im,by rw[c.here k j hp];exact h1,rfl,h3⟩
 unfold F0 at h;cases hs:simple v with
 |true=>
  rw[hs]at h;simp only[cond_true,YO,YR]at h;obtain⟨rfl,rfl⟩:=h;rw[simple_eq hs hv];exact Zv hs
 |false=>
  rw[hs]at h;simp only[cond_false]at h;split at h
  ·rename_i r t0;cases hg:(Xi (Qo H r) && VB t0)with
   |false=>rw[hg]at h;cases h
   |true=>
    rw[hg]at h;simp only[cond_true,YO,YR]at h;obtain⟨rfl,rfl⟩:=h;simp only[YB]at hg;obtain⟨im,Q3,ht⟩:=VR.top_inv (r:=r) (t:=t0) hv;cases hp:pos r with
    |none=>exact .top hg.2 c.KI (ht.mono fun b x hx=>bQ c hg.1 Q3 hx)
    |some j=>exact .top hg.2 (by rw[Option.getD_some,c.here r j hp];exact Q3) ht
  ·rename_i k o;split at h
   ·rename_i j hj;simp only[YO,YR]at h;obtain⟨rfl,rfl⟩:=h;cases hv with
    |ptr har=>exact .ptr (addr hj har)
   ·split at h
    ·rename_i x cs ty hx hg;cases hr:(x.rs.all fun r=>Xi (Qo H r))with
     |false=>rw[hr]at h;cases h
     |true=>
      rw[hr]at h;simp only[cond_true,YO,YR]at h;obtain⟨rfl,rfl⟩:=h;obtain⟨⟨h2,h3⟩,_⟩:=hL;obtain⟨hxm,hxk⟩:=cB _ _ _ hx;have hkf:k∈fk:=hxk ▸ c.sub x hxm;obtain⟨im,arr,Q3,_,hoff,harr,hle,_,hcells⟩:=SP Q5 (hS k (c.under.lt hg)) hg;cases hv with
      |ptr har=>
       obtain⟨im2,ZJ,_,rfl⟩:=har;rw[Q3]at ZJ;cases ZJ;rw[hoff];refine .top rfl c.KI (TRv.ptr (o:=0) (by rw[c.fm];exact(eY (Lp _ hkf) hg trivial Q3).trans harr) (fun i hi=>by omega) fun i v v' hv Z4=> ?_);simp only[Lv]at Z4;have hi:i<cs.size:=by rw[h2];exact(Array.getElem?_eq_some_iff.1 hv).1
       obtain⟨u,PS,hu2⟩:=hcells i cs[i] (by simp[hi]);rw[Z4]at PS;cases PS;exact dO c hr (h3 i _ _ (by simp[hi]) hv) hu2
    ·simp only[YO,YR]at h;obtain⟨rfl,rfl⟩:=h;cases hv;exact .UY (fun b e=>by cases e) rfl rfl
  ·rename_i k o n z;split at h
   ·rename_i j hj;simp only[YO,YR]at h;obtain⟨rfl,rfl⟩:=h;cases hv with
    |slice har a b d=>
     refine .slice (addr hj har) a b fun hz im Q3 UH hoff=>d hz im ?_ UH hoff
     rw[<-c.here k j hj];exact Q3
   ·split at h
    ·rename_i x cs ty hx hg;cases hr:(x.rs.all fun r=>Xi (Qo H r))with
     |false=>rw[hr]at h;cases h
     |true=>
      rw[hr]at h;simp only[cond_true,YO,YR]at h;obtain⟨rfl,rfl⟩:=h;obtain⟨⟨h2,h3⟩,_⟩:=hL;obtain⟨hxm,hxk⟩:=cB _ _ _ hx;have hkf:k∈fk:=hxk ▸ c.sub x hxm;obtain⟨im,arr,Q3,_,hoff,harr,hle,_,hcells⟩:=SP Q5 (hS k (c.under.lt hg)) hg;cases hv with
      |slice har a b _=>
       obtain⟨im2,ZJ,_,rfl⟩:=har;rw[Q3]at ZJ;cases ZJ;rw[hoff];refine .top rfl c.KI (TRv.slice (o:=0) a b (by rw[c.fm];exact(eY (Lp _ hkf) hg trivial Q3).trans harr) (fun i hi=>by omega) fun i v v' hv Z4=> ?_);simp only[Lv]at Z4;have hi:i<cs.size:=by rw[h2];exact(Array.getElem?_eq_some_iff.1 hv).1
       obtain⟨u,PS,hu2⟩:=hcells i cs[i] (by simp[hi]);rw[Z4]at PS;cases PS;exact dO c hr (h3 i _ _ (by simp[hi]) hv) hu2
    ·simp only[YO,YR]at h;obtain⟨rfl,rfl⟩:=h;cases hv;exact .UY (fun b e=>by cases e) rfl rfl
  ·rename_i r;split at h
   ·rename_i j hj;simp only[YO,YR]at h;obtain⟨rfl,rfl⟩:=h;cases hv with
    |map hr=>exact .map (by rw[c.here r j hj];exact hr)
   ·simp only[YO,YR]at h;obtain⟨rfl,rfl⟩:=h;cases hv;exact .UY (fun b e=>by cases e) rfl rfl
  ·rename_i l;split at h
   ·rename_i j hj;simp only[YO,YR]at h;obtain⟨rfl,rfl⟩:=h;cases hv with
    |yield hl=>exact .yield (by rw[c.here l j hj];exact hl)
   ·simp only[YO,YR]at h;obtain⟨rfl,rfl⟩:=h;cases hv;exact .UY (fun b e=>by cases e) rfl rfl
  ·simp only[YO,YR]at h;obtain⟨rfl,rfl⟩:=h;cases hv with
   |UY a b c=>exact .UY a b c
  ·cases h
theorem cJ{f:Value->Option (Value×List Prop)}(hf:∀v v' t L,f v=some (t,L)->Qw L->VR μ v v'->VR μ1 t v'):∀(l ts:List Value) (L:List Prop) (l':List Value),mI f l=some (ts,L)->Qw L->l.length=l'.length->(∀(i:Nat) v v',l[i]? =some v->l'[i]? =some v'->VR μ v v')->
 ts.length=l'.length/\∀(i:Nat) v v',ts[i]? =some v->l'[i]? =some v'->VR μ1 v v'
 |[],ts,L,l',h,hL,hl,hv=>by
  simp only[mI,YO,YR]at h;obtain⟨rfl,rfl⟩:=h;exact⟨hl,fun i v v' h=>by simp at h⟩
 |v::l,ts,L,[],h,hL,hl,hv=>by simp at hl
 |v::l,ts,L,v'::l',h,hL,hl,hv=>by
  simp only[mI]at h;split at h
  ·rename_i t L1 h1;split at h
   ·rename_i ts2 L2 h2;simp only[YO,YR]at h;obtain⟨rfl,rfl⟩:=h;obtain⟨a,b⟩:=QS hL;have k1:=hf v v' t L1 h1 a (hv 0 v v' rfl rfl);obtain⟨k2,k3⟩:=cJ hf l ts2 L2 l' h2 b (by simpa using hl) fun i u u' x y=>hv (i+1) u u' (by simpa using x) (by simpa using y)
    refine⟨by simp[k2],fun i u u' x y=> ?_⟩;cases i with
    |zero=>
     simp only[Ln,YO]at x y;subst x y;exact k1
    |succ i=>exact k3 i u u' (by simpa using x) (by simpa using y)
   ·cases h
  ·cases h
theorem WY(c:uk H m pos fz μ μ1 w n' fk im1):∀(f:Nat) (v v' t:Value) (L:List Prop),oL H m pos fz f v=some (t,L)->Qw L->VR μ v v'->VR μ1 t v'
 |0,v,v',t,L,h,hL,hv=>Pk c h hL hv
 |f+1,v,v',t,L,h,hL,hv=>by
  have arr:∀{xs xs':Array Value} {l:List Value} {L:List Prop},mI (oL H m pos fz f) xs.toList=some (l,L)->Qw L->xs.size=xs'.size->(∀(i:Nat) v v',xs[i]? =some v->xs'[i]? =some v'->VR μ v v')->l.toArray.size=xs'.size/\∀(i:Nat) v v',l.toArray[i]? =some v->xs'[i]? =some v'->VR μ1 v v':=by
   intro xs xs' l L h hL hs hx;obtain⟨a,b⟩:=cJ (fun v v' t L=>WY c f v v' t L) xs.toList l L xs'.toList h hL (by simpa using hs) fun i v v' x y=>hx i v v' (by simpa using x) (by simpa using y)
   exact⟨by simpa using a,fun i v v' x y=>b i v v' (by simpa using x) (by simpa using y)⟩
  cases v with
  |agg xs=>
   simp only[oL]at h;split at h
   ·rename_i l L1 hl;simp only[YO,YR]at h;obtain⟨rfl,rfl⟩:=h;cases hv with
    |agg h1 h2=>exact .agg (arr hl hL h1 h2).1 (arr hl hL h1 h2).2
   ·cases h
  |tuple xs=>
   simp only[oL]at h;split at h
   ·rename_i l L1 hl;simp only[YO,YR]at h;obtain⟨rfl,rfl⟩:=h;cases hv with
    |tuple h1 h2=>exact .tuple (arr hl hL h1 h2).1 (arr hl hL h1 h2).2
   ·cases h
  |iface ty x=>
   simp only[oL]at h;split at h
   ·rename_i l L1 hl;simp only[YO,YR]at h;obtain⟨rfl,rfl⟩:=h;cases hv with
    |iface hv=>exact .iface (WY c f _ _ _ _ hl hL hv)
   ·cases h
  |func fn xs ys=>
   cases fn with
   |func g=>
    simp only[oL]at h;split at h
    ·rename_i l L1 hl;split at h
     ·rename_i k L2 hk;simp only[YO,YR]at h;obtain⟨rfl,rfl⟩:=h;obtain⟨a,b⟩:=QS hL;cases hv with
      |func h1 h2 h3 h4=>
       have k1:=arr hl a h1 h3;have k2:=arr hk b h2 h4;exact .func k1.1 k2.1 k1.2 k2.2
     ·cases h
    ·cases h
   |_=>exact Pk (fz:=fz) c (by exact h) hL hv
  |_=>exact Pk (fz:=fz) c (by exact h) hL hv
end
inductive KS where
 |auto
 |cells (rs:List Nat) (cs:Array Value)
 |same
 |dead
 |rows (rs:List (Nat×Nat)) (ks:List Nat) (ow:List (Nat×Nat)) (cs:Array Value)
def C7(pos:Nat->Option Nat)(p:Nat×Nat):Bool:=match pos p.1 with
 |some j=>Le j p.2
 |none=>false
def De(H:Qj)(pos:Nat->Option Nat)(fz:List Fz):List Nat->Option (List (Nat×Array Value)×List Prop)
 |[]=>some ([],[])
 |k::l=>match pos k,dL fz k,Qo H k with
  |none,some x,some (.cells cs _ (0,0))=>bif x.rs.all fun r=>Xi (Qo H r)then match De H pos fz l with
   |some (frs,L)=>some ((k,x.cs)::frs,Z7 x.rs cs x.cs::L)
   |none=>none
    else none
  |_,_,_=>none
theorem tU{H:Qj}{m:Nat}{pos:Nat->Option Nat}{fz:List Fz}:∀(ks:List Nat) (frs:List (Nat×Array Value)) (L:List Prop),De H pos fz ks=some (frs,L)->Qw L->∀k cs n c,(k,cs)∈frs->∃L',F0 H m pos fz (.slice (some ⟨k,0,none⟩) n c)=some (Qn m (QJ n cs),L')/\Qw L'
 |[],frs,L,h,hL,k,cs,n,c,hm=>by
  simp only[De,YO,YR]at h;obtain⟨rfl,rfl⟩:=h;simp at hm
 |k0::l,frs,L,h,hL,k,cs,n,c,hm=>by
  simp only[De]at h;split at h
  ·rename_i x cs0 t0 h1 h2 h3;cases hr:(x.rs.all fun r=>Xi (Qo H r))with
   |false=>rw[hr]at h;cases h
   |true=>
    rw[hr]at h;simp only[cond_true]at h;split at h
    ·rename_i frs2 L2 h4;simp only[YO,YR]at h;obtain⟨rfl,rfl⟩:=h;rcases List.mem_cons.1 hm with e|e
     ·simp only[YR]at e;obtain⟨rfl,rfl⟩:=e;refine⟨[Z7 x.rs cs0 x.cs], ?_,hL.1,trivial⟩;unfold F0;have hs:simple (.slice (some ⟨k,0,none⟩) n c)=false:=rfl;rw[hs];simp only[cond_false,h1,h2,h3,hr,cond_true]
     ·exact tU l frs2 L2 h4 hL.2 k cs n c e
    ·cases h
  ·cases h
def GN(H:Qj)(m:Nat)(pos:Nat->Option Nat)(fz:List Fz):Option Obj->KS->Option (Obj×List Prop)
 |some (.cells cs t fl),.auto=>match mI (oL H m pos fz 3) cs.toList with
  |some (l,L)=>some (.cells l.toArray t fl,L)
  |none=>none
 |some (.cells cs t fl),.cells rs cs1=>bif rs.all fun r=>Xi (Qo H r)then some (.cells cs1 t fl,[Ks m rs cs cs1])else none
 |some (.cells cs t fl),.rows rs ks ow cs1=>bif (rs.all fun p=>Xi (Qo H p.1) && Le ((pos p.1).getD m) p.2) && ow.all (C7 pos)then match De H pos fz ks with
  |some (frs,L)=>some (.cells cs1 t fl,Jy m rs frs ow cs cs1::L)
  |none=>none
   else none
 |some (.map es YN),.same=>some (.map es YN,[QE es])
 |some (.loop r),.auto=>match mI (oL H m pos fz 3) r.tmps.toList with
  |some (l,L)=>some (.loop {r with tmps:=l.toArray},L)
  |none=>none
 |some (.deferred ds),.same=>some (.deferred ds,[])
 |some (.pending _ _),.dead=>some (.pending #[] 0,[])
 |_,_=>none
theorem Pm{H:Qj}{m:Nat}{pos:Nat->Option Nat}{fz:List Fz}{μ μ1:Mu}{w:World}{n':Nat}{fk:List Nat}{im1:Tn}(c:uk H m pos fz μ μ1 w n' fk im1){o:Option Obj}{s:KS}{o1:Obj}{L:List Prop}(h:GN H m pos fz o s=some (o1,L))(hL:Qw L):
 (∃x,o=some x)/\¬Z9 o1/\(live o1->∃x,o=some x/\live x/\∀im,OR μ w im x->OR μ1 w im o1):=by
 have cells:∀{cs cs1:Array Value} {t:TypeId} {fl:Nat×Nat},cs1.size=cs.size->(∀(i:Nat) v v1 v',cs[i]? =some v->cs1[i]? =some v1->VR μ v v'->VR μ1 v1 v')->∀im,OR μ w im (.cells cs t fl)->OR μ1 w im (.cells cs1 t fl):=by
  intro cs cs1 t fl hs hc im Zu;have get:∀(i:Nat) v1,cs1[i]? =some v1->∃v,cs[i]? =some v:=fun i v1 h=>by
   have:=(Array.getElem?_eq_some_iff.1 h).1;exact⟨cs[i],by simp[show i<cs.size by omega]⟩
  rcases Zu with ⟨h1,h2,h3,arr,h4,h5,h6,h7⟩|⟨h1,h2⟩
  ·refine .inl ⟨h1,h2,h3,arr,h4,by omega,h6,fun i v1 hv1=> ?_⟩;obtain⟨v,hv⟩:=get i v1 hv1;obtain⟨v',a,b⟩:=h7 i v hv;exact⟨v',a,hc i v v1 v' hv hv1 b⟩
  ·refine .inr ⟨h1,fun i v1 hv1=> ?_⟩;obtain⟨v,hv⟩:=get i v1 hv1;obtain⟨v',a,b⟩:=h2 i v hv;exact⟨v',a,hc i v v1 v' hv hv1 b⟩
 unfold GN at h;split at h
 ·rename_i cs t fl;split at h
  ·rename_i l L1 hl;simp only[YO,YR]at h;obtain⟨rfl,rfl⟩:=h;have key:∀(l ts:List Value) (L:List Prop),mI (oL H m pos fz 3) l=some (ts,L)->Qw L->ts.length=l.length/\∀(i:Nat) v v1 v',l[i]? =some v->ts[i]? =some v1->VR μ v v'->VR μ1 v1 v':=by
    intro l;induction l with
    |nil=>
     intro ts L h hL;simp only[mI,YO,YR]at h;obtain⟨rfl,rfl⟩:=h;exact⟨rfl,fun i v v1 v' h=>by simp at h⟩
    |cons v l ih=>
     intro ts L h hL;simp only[mI]at h;split at h
     ·rename_i t L1 h1;split at h
      ·rename_i ts2 L2 h2;simp only[YO,YR]at h;obtain⟨rfl,rfl⟩:=h;obtain⟨a,b⟩:=QS hL;obtain⟨k1,k2⟩:=ih ts2 L2 h2 b;refine⟨by simp[k1],fun i u u1 u' x y hr=> ?_⟩;cases i with
       |zero=>
        simp only[Ln,YO]at x y;subst x y;exact WY c 3 _ _ _ _ h1 a hr
       |succ i=>exact k2 i u u1 u' (by simpa using x) (by simpa using y) hr
      ·cases h
     ·cases h
   obtain⟨k1,k2⟩:=key _ _ _ hl hL;refine⟨⟨_,rfl⟩,id,fun _=> ?_⟩;exact⟨_,rfl,trivial,cells (by simpa using k1) fun i v v1 v' x y=>k2 i v v1 v' (by simpa using x) (by simpa using y)⟩
  ·cases h
 ·rename_i cs t fl rs cs1;cases hr:(rs.all fun r=>Xi (Qo H r))with
  |false=>rw[hr]at h;cases h
  |true=>
   rw[hr]at h;simp only[cond_true,YO,YR]at h;obtain⟨rfl,rfl⟩:=h;obtain⟨⟨h1,h2⟩,_⟩:=hL;refine⟨⟨_,rfl⟩,id,fun _=> ?_⟩;refine⟨_,rfl,trivial,cells h1.symm fun i v v1 v' x y hv=> ?_⟩;rcases h2 i v v1 x y with ⟨hs,rfl⟩|⟨r,hrm,t,rfl,rfl,ht⟩
   ·rw[simple_eq hs hv];exact Zv hs
   ·obtain⟨im,Q3,htr⟩:=hv.top_inv;exact .top ht c.KI (htr.mono fun b x hx=>bQ c (List.all_eq_true.1 hr r hrm) Q3 hx)
 ·rename_i cs t fl rs ks ow cs1;cases hr0:((rs.all fun p=>Xi (Qo H p.1) && Le ((pos p.1).getD m) p.2) && ow.all (C7 pos))with
  |false=>rw[hr0]at h;cases h
  |true=>
   rw[hr0]at h;simp only[cond_true]at h;simp only[YB]at hr0;obtain⟨hr,how⟩:=hr0;split at h
   ·rename_i frs L2 hks;simp only[YO,YR]at h;obtain⟨rfl,rfl⟩:=h;obtain⟨hx,hL2⟩:=hL;obtain⟨h1,h2⟩:=AllX.get hx;refine⟨⟨_,rfl⟩,id,fun _=> ?_⟩;refine⟨_,rfl,trivial,cells (by simpa using h1) fun i v v1 v' x y hv=> ?_⟩;have hc:=h2 i v v1 (by simpa using x) (by simpa using y);cases hc with
    |simple hs=>rw[simple_eq hs hv];exact Zv hs
    |KI hm ht=>
     rename_i r j t0;have:=List.all_eq_true.1 hr _ hm;simp only[YB]at this;have e:F0 H m pos fz (Qn r t0)=some (Qn j t0,[]):=by
      have hs:simple (Qn r t0)=false:=rfl;unfold F0;rw[hs];simp only[cond_false,Qn,this.1,ht,Bool.and_self,cond_true,YE this.2]
     exact Pk c e trivial hv
    |own hm=>
     obtain⟨L',e,hL'⟩:=tU ks frs L2 hks hL2 _ _ _ _ hm;exact Pk c e hL' hv
    |nil=>
     cases hv;exact .top rfl c.KI .nil
    |keep hm=>
     have hk:=List.all_eq_true.1 how _ hm;unfold C7 at hk;split at hk
     ·rename_i j0 hj0;have hk:=YE hk;have e:=c.here _ _ hj0;rw[hk]at e;cases hv with
      |slice har h1 h2 h3=>
       obtain⟨im,hi,_,rfl⟩:=har;refine .slice ⟨im,e.trans hi,rfl,rfl⟩ h1 h2 fun hs XX QG=> ?_
       rw[e]at QG;exact h3 hs XX QG
     ·cases hk
   ·cases h
 ·rename_i es YN;simp only[YO,YR]at h;obtain⟨rfl,rfl⟩:=h;obtain⟨hp,_⟩:=hL;refine⟨⟨_,rfl⟩,id,fun _=> ?_⟩;refine⟨_,rfl,trivial,fun im Zu=> ?_⟩;obtain⟨h1,Uw,h2,h3,h4⟩:=Zu;refine⟨h1,Uw,h2,h3,fun i e e' x y=> ?_⟩;obtain⟨p,q,r,s⟩:=h4 i e e' x y;have hs:=hp i e x;exact⟨p,q,r,by rw[Pr hs s];exact Yn hs⟩
 ·rename_i r;split at h
  ·rename_i l L1 hl;simp only[YO,YR]at h;obtain⟨rfl,rfl⟩:=h;refine⟨⟨_,rfl⟩,id,fun _=> ?_⟩;refine⟨_,rfl,trivial,fun im Zu=> ?_⟩;obtain⟨h1,tm,df,h2,h3⟩:=Zu;obtain⟨a,b⟩:=cJ (fun v v' t L=>WY c 3 v v' t L) r.tmps.toList l L1 tm.toList hl hL (by simpa using h3.1) fun i v v' x y=>h3.2 i v v' (by simpa using x) (by simpa using y)
   exact⟨h1,tm,df,h2,by simpa using a,fun i v v' x y=>b i v v' (by simpa using x) (by simpa using y)⟩
  ·cases h
 ·rename_i ds;simp only[YO,YR]at h;obtain⟨rfl,rfl⟩:=h;exact⟨⟨_,rfl⟩,id,fun _=>⟨_,rfl,trivial,fun im Zu=>Zu⟩⟩
 ·simp only[YO,YR]at h;obtain⟨rfl,rfl⟩:=h;exact⟨⟨_,rfl⟩,id,fun hl=>hl.elim⟩
 ·cases h
end Go.CE
