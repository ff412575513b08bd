/- Reef: mathematics of the reference's seasons. -/
import Derived.Test.YtncjjangllkokaaZRL14
import Derived.Test.YtncjjangllkokaaZRL07
import Derived.Test.YtncjjangllkokaaZRL10
set_option linter.all false
namespace Go.Proofs.Ytncjjangllkokaa
open Go Go.CE Go.RowKit
theorem Q1e {s:Int} (h:0<=s):upI 0 (s+1)=upI 0 s++[s]:=by
 unfold upI;rw [show (s+1 - 0).toNat=(s - 0).toNat+1 by omega,List.range_succ,List.map_append];congr 1;simp;omega
theorem Q3N {f:F4} {n:Nat} (h:n<=4):QtM n f.at=f.list.take n:=by
 have:n=0\/n=1\/n=2\/n=3\/n=4:=by omega
 rcases this with rfl | rfl | rfl | rfl | rfl <;> rfl
section
variable {ps:List Qaa} {n:Int} {gs ts:List (List Int)} {f:F4} {l:List Int}
theorem Qly {i:Int} (h0:0<=i) (h:i < 4):nth l i=(Qab l).at i:=by
 rcases QjT h0 h with rfl | rfl | rfl | rfl <;> rfl
theorem QdB (h:OkT ps n gs ts (Qab l)) {i:Int} (h0:0<=i) (h1:i < 4):0<=nth l i/\nth l i<=1000000000:=by
 have:=Qge h.hf h0 h1;rw [Qly h0 h1];have:=h.hs;omega
theorem QqW (h:OkT ps n gs ts (Qab l)) {i:Int} (h0:0<=i) (h1:i<=4):0<=Qa4 0 i (nth l)/\Qa4 0 i (nth l)<=4000000000:=by
 have:=Qc6 (g:=nth l) (K:=1000000000) i.toNat fun m m0 m1=> QdB h m0 (by omega)
 rw [show ((i.toNat:Nat):Int)=i by omega] at this;omega
theorem Qzs {g:Int->Int}:Qa4 0 2 g=g 0+g 1:=by rw [show (2:Int)=1+1 from rfl,Qah (by omega),Qhh]
theorem Qy0 {g:Int->Int}:Qa4 0 3 g=g 0+g 1+g 2:=by rw [show (3:Int)=2+1 from rfl,Qah (by omega),Qzs]
theorem Q3q {g:Int->Int}:Qa4 0 4 g=g 0+g 1+g 2+g 3:=by rw [show (4:Int)=3+1 from rfl,Qah (by omega),Qy0]
def zB (n:Nat) (f:F4):Prop:=∀j:Int,n<=j->j < 4->f.at j=0
theorem Q3s {n:Nat} {f:F4} (hz:zB n f) (h0:1<=n) (h4:n<=4):Qa4 0 n f.at=f.sum:=by
 have e:f.sum=f.at 0+f.at 1+f.at 2+f.at 3:=rfl;have:n=1\/n=2\/n=3\/n=4:=by omega
 rcases this with rfl | rfl | rfl | rfl
 ·have a:=hz 1 (by omega) (by omega);have b:=hz 2 (by omega) (by omega);have c:=hz 3 (by omega) (by omega);have s:Qa4 0 ((1:Nat):Int) f.at=f.at 0:=Qhh;omega
 ·have b:=hz 2 (by omega) (by omega);have c:=hz 3 (by omega) (by omega);have s:Qa4 0 ((2:Nat):Int) f.at=f.at 0+f.at 1:=Qzs;omega
 ·have c:=hz 3 (by omega) (by omega);have s:Qa4 0 ((3:Nat):Int) f.at=f.at 0+f.at 1+f.at 2:=Qy0;omega
 ·have s:Qa4 0 ((4:Nat):Int) f.at=f.at 0+f.at 1+f.at 2+f.at 3:=Q3q;omega
theorem Qv5:zB l.length (Qab l):=fun j h0 h1=> by
 rw [<-Qly (by omega) h1];unfold nth;rw [List.getD_eq_getElem?_getD,List.getElem?_eq_none (by omega)];rfl
theorem Qyx (h:OkT ps n gs ts (Qab l)) (hl:l.length=ps.length):Qa4 0 l.length (nth l)=(Qab l).sum:=by
 have h1:=h.hp.1;have h2:=h.n0;rw [<-Q3s Qv5 (by omega) (by omega)];unfold Qa4;congr 1;refine List.map_congr_left fun k hk=> ?_
 unfold upI at hk;obtain ⟨m,hm,rfl⟩:=List.mem_map.1 hk;have:=List.mem_range.1 hm;exact Qly (by omega) (by omega)
theorem Q69 {g:List Int} (hz:zB ps.length f):zB ps.length (grE g ps f):=fun j h0 h1=> by
 unfold grE;rw [Qtc (by omega) h1];unfold grI;rw [if_neg (by omega)];exact hz j h0 h1
theorem Q3e {g:Int->Int}:∀k:Nat,(∀m:Int,0<=m->m < k->g m=0)->Qa4 0 k g=0
 | 0,_=> QaB (Int.le_refl _)
 | k+1,h=> by
   rw [show ((k+1:Nat):Int)=(k:Int)+1 by omega,Qah (by omega),Q3e k fun m m0 m1=> h m m0 (by omega),h k (by omega) (by omega)];rfl
theorem Q6A (hp:Qje ps) (hz:zB ps.length f):zB ps.length (drE ps f):=fun j h0 h1=> by
 unfold drE;rw [Qtc (by omega) h1];unfold drI;rw [if_neg (by omega),Q3e ps.length fun m m0 m1=> if_neg fun e=> by
  have:=QfR (hp.2 m m0 m1).2.2.1;omega,hz j h0 h1]
 rfl
theorem Q67 {g:List Int} (hz:zB ps.length f):zB ps.length (tkE g ps f):=fun j h0 h1=> by
 unfold tkE;rw [Qtc (by omega) h1];unfold tkI;rw [if_neg (by omega)];exact hz j h0 h1
theorem Q60 (hp:Qje ps) (hz:zB ps.length f):∀k:Nat,zB ps.length (stF ps gs ts f k)
 | 0=> hz
 | k+1=> Q67 (Q6A hp (Q69 (Q60 hp hz k)))
end
end Go.Proofs.Ytncjjangllkokaa

namespace Go.Proofs.Ytncjjangllkokaa
open Go Go.CE Go.RowKit
set_option maxRecDepth 100000
end Go.Proofs.Ytncjjangllkokaa

namespace Go.Proofs.Ytncjjangllkokaa
open Go Go.CE Go.RowKit
noncomputable section
set_option maxRecDepth 100000
def Qwx (xs:List Int) (ss:List Span) (i:Int):Bool:=(upI i xs.length).all fun k=> inB (xs.getD k.toNat default) (ss.getD k.toNat default).lo (ss.getD k.toNat default).hi
def Qox (xs:List Int) (ss:List Span):Bool:=decide (xs.length=ss.length) && Qwx xs ss 0
theorem Qbk {xs:List Int} {ss:List Span} {i:Int} (h:i < xs.length):Qwx xs ss i=(inB (xs.getD i.toNat default) (ss.getD i.toNat default).lo (ss.getD i.toNat default).hi && Qwx xs ss (i+1)):=by
 unfold Qwx;rw [QoP h,List.all_cons]
theorem Qjz {xs:List Int} {ss:List Span} {i:Int} (h:xs.length<=i):Qwx xs ss i=true:=by
 unfold Qwx;rw [QoC h];rfl
def Q0P (rf:Qae) (plan:List Int) (gs ts:List (List Int)) (s:Int):Bool:=Qox (gs.getD s.toNat default) (rf.places.map Qbf) && Qox (ts.getD s.toNat default) (Qbd rf.places (plan.getD s.toNat 0))
def Qlh (rf:Qae) (plan:List Int) (gs ts:List (List Int)) (i:Int):Bool:=(upI i rf.seasons).all fun s=> Q0P rf plan gs ts s
theorem QcB {rf:Qae} {plan:List Int} {gs ts:List (List Int)} {i:Int} (h:i < rf.seasons):Qlh rf plan gs ts i=(Q0P rf plan gs ts i && Qlh rf plan gs ts (i+1)):=by
 unfold Qlh;rw [QoP h,List.all_cons]
theorem QvZ {rf:Qae} {plan:List Int} {gs ts:List (List Int)} {i:Int} (h:rf.seasons<=i):Qlh rf plan gs ts i=true:=by
 unfold Qlh;rw [QoC h];rfl
def Qa5 (rf:Qae) (plan:List Int) (t:Qag):Bool:=Qox t.starts (rf.places.map (Qbg rf.miss)) && (decide ((t.grows.length:Int)=rf.seasons) && (decide ((t.takes.length:Int)=rf.seasons) && Qlh rf plan t.grows t.takes 0))
theorem Q3a {rf:Qae} {plan:List Int} {gs ts:List (List Int)} {s:Int} (h:¬(gs.getD s.toNat default).length=rf.places.length\/¬(ts.getD s.toNat default).length=rf.places.length):Q0P rf plan gs ts s=false:=by
 unfold Q0P Qox;rw [List.length_map,show (Qbd rf.places (plan.getD s.toNat 0)).length=rf.places.length by rw [Qbd,Qcb];omega];rcases h with h | h
 ·rw [decide_eq_false h];rfl
 ·rw [decide_eq_false h,Bool.false_and,Bool.and_false]
theorem Q3O {rf:Qae} {plan:List Int} {gs ts:List (List Int)} {s:Int} (h1:(gs.getD s.toNat default).length=rf.places.length) (h2:(ts.getD s.toNat default).length=rf.places.length):Q0P rf plan gs ts s=(Qwx (gs.getD s.toNat default) (rf.places.map Qbf) 0 && Qwx (ts.getD s.toNat default) (Qbd rf.places (plan.getD s.toNat default)) 0):=by
 unfold Q0P Qox;rw [List.length_map,show (Qbd rf.places (plan.getD s.toNat 0)).length=rf.places.length by rw [Qbd,Qcb];omega,decide_eq_true h1,decide_eq_true h2,Bool.true_and,Bool.true_and];rfl
theorem Qoq {rf:Qae} {plan:List Int} {t:Qag} (h:¬t.starts.length=rf.places.length\/¬(t.grows.length:Int)=rf.seasons\/¬(t.takes.length:Int)=rf.seasons):Qa5 rf plan t=false:=by
 unfold Qa5 Qox;rw [List.length_map];rcases h with h | h | h
 ·rw [decide_eq_false h];rfl
 ·rw [decide_eq_false h,Bool.false_and,Bool.and_false]
 ·rw [decide_eq_false h,Bool.false_and,Bool.and_false,Bool.and_false]
theorem Qyr {rf:Qae} {plan:List Int} {t:Qag} (h1:t.starts.length=rf.places.length) (h2:(t.grows.length:Int)=rf.seasons) (h3:(t.takes.length:Int)=rf.seasons):Qa5 rf plan t=(Qwx t.starts (rf.places.map (Qbg rf.miss)) 0 && Qlh rf plan t.grows t.takes 0):=by
 unfold Qa5 Qox;rw [List.length_map,decide_eq_true h1,decide_eq_true h2,decide_eq_true h3,Bool.true_and,Bool.true_and,Bool.true_and]
theorem QbE {ps:List Qaa} {f:Qaa->Span} {i:Int} (h0:0<=i) (h:i < ps.length):(ps.map f).getD i.toNat default=f (ps.getD i.toNat default):=by
 have hk:i.toNat < ps.length:=by omega
 simp [List.getD_eq_getElem?_getD,hk]
def Qdn (xs:List Int) (ss:List Span) (i:Int):List Value:=[Qa1 1 (slT ss.length (Qai QaR ss)),Qa1 1 (slT xs.length (Qai QaZ xs)),.int .i64 (↑xs.length:Int),.int .i64 i]
def QbV (xs:List Int) (ss:List Span) (i:Int):List Obj:=[]
def Qdk:List Item:=([.code [1,1,0,1,0,0],.inLoop [1,1,0,1,0,0],.inBlock 0,.code [1,1,1]]).map (it (QaU YP 81))
def QsR (B:Lo) (c0:CF) (xs:List Int) (ss:List Span) (i:Int):Prop:=∃dJ:Nat->Value,(∀t,QbB (dJ t))/\GoE YP B c0 H00 1 (QaL 81 27 (([1,12,13,14]:List Nat).zip (Qdn xs ss i)) dJ Qdk) (QaG (QbV xs ss i)) (2+(QbV xs ss i).length) []
def QeV (ss:List Span) (i:Int):Array Value:=#[.int .i64 (Span.lo (ss.getD i.toNat default)),.int .i64 (Span.hi (ss.getD i.toNat default))]
def QgK (B:Lo) (xs:List Int) (ss:List Span) (i:Int) (dJ0:Nat->Value):List Prop:=[i=(↑i.toNat:Int)/\Int.toNat i < List.length ss/\Array.extract (Qai QaR ss) (Int.toNat i * TypeInfo.size Try.t38) (Int.toNat i * TypeInfo.size Try.t38+TypeInfo.size Try.t38)=(QeV ss i),i=(↑i.toNat:Int)/\Int.toNat i < List.length xs/\Array.extract (Qai QaZ xs) (Int.toNat i * TypeInfo.size Try.t3) (Int.toNat i * TypeInfo.size Try.t3+TypeInfo.size Try.t3)=#[.int .i64 (xs.getD i.toNat default)],ltq i (↑xs.length:Int)=true]++([]:List Prop)
def QjV (xs:List Int) (ss:List Span) (i:Int) (dJ0:Nat->Value):Qaw:=[(0,hvT),(2,Qan.tidx i.toNat #[.int .i64 (xs.getD i.toNat default)]),(9,Qan.tidx i.toNat (QeV ss i))]
theorem Qsr (B:Lo) (xs:List Int) (ss:List Span) (i:Int) (dJ0:Nat->Value):landM (Qap YP (QaF YP) J0 B 16 1 (QaL 81 27 (([1,12,13,14]:List Nat).zip (Qdn xs ss i)) dJ0 Qdk) (QaG (QbV xs ss i)) (2+(QbV xs ss i).length)
 (QjV xs ss i dJ0++[(11,Qan.pure (.bool true) []),(13,hvI (i+1))]) 0 [] []) [1,12,13,14] [] []=some ⟨81,27,Qdk,[],.run,none,Qdn xs ss (i+1),QbV xs ss (i+1),
 [wq (i+1)=i+1,QaA []/\Qa3 YP J0 101 #[.int .i64 (xs.getD i.toNat default),.agg (QeV ss i)] (.bool true)]++QgK B xs ss i dJ0⟩:=by kernel_rfl
theorem QrG (B:Lo) (xs:List Int) (ss:List Span) (i:Int) (dJ0:Nat->Value):Qbi (Qap YP (QaF YP) J0 B 16 1 (QaL 81 27 (([1,12,13,14]:List Nat).zip (Qdn xs ss i)) dJ0 Qdk) (QaG (QbV xs ss i)) (2+(QbV xs ss i).length)
 (QjV xs ss i dJ0++[(11,Qan.pure (.bool false) [])]) 0 [] []) []=some (.bool false,
 [QaA []/\Qa3 YP J0 101 #[.int .i64 (xs.getD i.toNat default),.agg (QeV ss i)] (.bool false)]++QgK B xs ss i dJ0):=by kernel_rfl
theorem Qtn (B:Lo) (xs:List Int) (ss:List Span) (i:Int) (dJ0:Nat->Value):Qbi (Qap YP (QaF YP) J0 B 9 1 (QaL 81 27 (([1,12,13,14]:List Nat).zip (Qdn xs ss i)) dJ0 Qdk) (QaG (QbV xs ss i)) (2+(QbV xs ss i).length)
 [(0,hvF)] 0 [] []) []=some (.bool true,
 [ltq i (↑xs.length:Int)=false]):=by kernel_rfl
theorem Qt2 (B:Lo) (xs:List Int) (ss:List Span):Qbi (Qap YP (QaF YP) J0 B 10 1 (Qaq YP 81 27 (([slI xs,QrD ss]).map (Qa6 0 4))) H00 1
 [(5,hvT)] 0 [] []) []=some (.bool false,
 [(!eqq (↑xs.length:Int) (↑ss.length:Int))=true]):=by kernel_rfl
theorem Qu3 (B:Lo) (xs:List Int) (ss:List Span):landM (Qap YP (QaF YP) J0 B 12 1 (Qaq YP 81 27 (([slI xs,QrD ss]).map (Qa6 0 4))) H00 1
 [(5,hvF)] 0 [] []) [1,12,13,14] [] []=some ⟨81,27,Qdk,[],.run,none,Qdn xs ss (0),QbV xs ss (0),
 [(!eqq (↑xs.length:Int) (↑ss.length:Int))=false]⟩:=by kernel_rfl
set_option maxHeartbeats 4000000 in
theorem QsA (xs:List Int) (ss:List Span)  (hfacts:xs.length<=9223372036854775807/\ss.length<=9223372036854775807) {B:Lo} (hJ:∀w,B.has w->J0 w) {c0:CF}:∀m:Nat,(∀(i:Int),xs.length - i.toNat=m->∀(h0:0<=i) (hle:xs.length=ss.length),QsR B c0 xs ss i->EndsT YP B c0 (.bool (Qwx xs ss i))):=by
 intro m0;induction m0 using Nat.strongRecOn with
 | _ m0 ih0=>
   intro i hm0 h0 hle ⟨dJ0,hdJ0,hg0⟩;have hx:=hfacts.1;have hy:=hfacts.2;have hx:=hfacts.1;by_cases q0:(i:Int) < ((↑xs.length:Int))
   ·have hp0:QaA (QgK B xs ss i dJ0):=by
     have s2:=Qbk (ss:=ss) q0;exact ⟨⟨by omega,by omega,(Qat (z:=2) (fun _=> rfl) (by omega))⟩,⟨⟨by omega,by omega,(Qat (z:=1) (fun _=> rfl) (by omega))⟩,⟨(Qbw q0),trivial⟩⟩⟩
    cases q1:inB (xs.getD i.toNat default) (Span.lo (ss.getD i.toNat default)) (Span.hi (ss.getD i.toNat default)) with
    | true=>
      have s2:=Qbk (ss:=ss) q0;exact ((ih0 _ (by omega)) (i+1) rfl (by omega) (by with_reducible assumption)
       (hg0.landM okF hJ Qac (Qsr B xs ss i dJ0)
       ⟨(Qbj (by omega) (by omega)),⟨⟨trivial,(by have t_:=Qz0 (xs.getD i.toNat default) (Span.lo (ss.getD i.toNat default)) (Span.hi (ss.getD i.toNat default));rw [q1] at t_;exact t_)⟩,hp0⟩⟩ (by kernel_rfl) (by kernel_rfl))).cast (by (rw [s2];simp_all;done))
    | false=>
      have s2:=Qbk (ss:=ss) q0;exact (GoE.endsT okF hJ Qac hg0 (QrG B xs ss i dJ0)
       ⟨⟨trivial,(by have t_:=Qz0 (xs.getD i.toNat default) (Span.lo (ss.getD i.toNat default)) (Span.hi (ss.getD i.toNat default));rw [q1] at t_;exact t_)⟩,hp0⟩).cast (by (rw [s2];simp_all;done))
   ·have s2:=Qjz (xs:=xs) (ss:=ss) (i:=i) (by omega);exact (GoE.endsT okF hJ Qac hg0 (Qtn B xs ss i dJ0)
     ⟨(Qby (Int.not_lt.1 q0)),trivial⟩).cast (by (rw [s2];done))
set_option maxHeartbeats 4000000 in
theorem QwL (xs:List Int) (ss:List Span)  (hfacts:xs.length<=9223372036854775807/\ss.length<=9223372036854775807) {B:Lo} (hJ:∀w,B.has w->J0 w):EndsT YP B (Qaq YP 81 27 (([slI xs,QrD ss]).map (Qa6 0 4))) (.bool (Qox xs ss)):=by
 have hx:=hfacts.1;have hy:=hfacts.2;by_cases q0:((↑xs.length:Int):Int)≠((↑ss.length:Int))
 ·exact (GoE.endsT okF hJ Qac GoE.start (Qt2 B xs ss)
   ⟨(Qej q0),trivial⟩).cast (by (simp_all [Qox];omega))
 ·exact ((QsA xs ss hfacts hJ _) (0) rfl (by omega) (by omega)
   (GoE.start.landM okF hJ Qac (Qu3 B xs ss)
   ⟨(Qep (Decidable.of_not_not q0)),trivial⟩ (by kernel_rfl) (by kernel_rfl))).cast (by (simp_all [Qox];omega))
theorem Qgd (xs:List Int) (ss:List Span)  :Qa3 YP J0 81 #[slI xs,QrD ss] (.bool (Qox xs ss)):=
 Qcy (ts:=[slI xs,QrD ss]) (xs.length<=9223372036854775807/\ss.length<=9223372036854775807) (fun _ _ ht=> ⟨ht.ln (i:=0) rfl,ht.ln (i:=1) rfl⟩) Qco (c0:=Qaq YP 81 27 (([slI xs,QrD ss]).map (Qa6 0 4))) (by kernel_rfl) (by kernel_rfl) fun hfacts B hJ=> QwL xs ss  hfacts hJ
def QcN (rf:Qae) (plan:List Int) (t:Qag) (i:Int):List Value:=[pA 2 0,pA 3 0,.int .i64 rf.seasons,.int .i64 i]
def Qb7 (rf:Qae) (plan:List Int) (t:Qag) (i:Int):List Obj:=[Obj.cells #[Qa1 1 (slT rf.places.length (Qai Qad rf.places)),.int .i64 rf.miss,.int .i64 rf.seasons,.int .i64 (plan.getD 0 0),.int .i64 (plan.getD 1 0),.int .i64 (plan.getD 2 0),.int .i64 (plan.getD 3 0)] 84,Obj.cells #[Qa1 1 (slT t.starts.length (Qai QaZ t.starts)),Qa1 1 (slT t.grows.length (Qai Qbt t.grows)),Qa1 1 (slT t.takes.length (Qai Qbt t.takes))] 42]
def QcP:List Item:=([.code [1,1,0,1,0,0],.inLoop [1,1,0,1,0,0],.inBlock 0,.code [1,1,1]]).map (it (QaU YP 58))
def Qsd (B:Lo) (c0:CF) (rf:Qae) (plan:List Int) (t:Qag) (i:Int):Prop:=∃dJ:Nat->Value,(∀t,QbB (dJ t))/\GoE YP B c0 H00 1 (QaL 58 58 (([2,3,32,33]:List Nat).zip (QcN rf plan t i)) dJ QcP) (QaG (Qb7 rf plan t i)) (2+(Qb7 rf plan t i).length) []
def QgG (rf:Qae) (plan:List Int):Array Value:=#[slT rf.places.length (Qai Qad rf.places),.int .i64 rf.miss,.int .i64 rf.seasons,.int .i64 (plan.getD 0 0),.int .i64 (plan.getD 1 0),.int .i64 (plan.getD 2 0),.int .i64 (plan.getD 3 0)]
def QgD (B:Lo) (rf:Qae) (plan:List Int) (t:Qag) (i:Int) (dJ0:Nat->Value):List Prop:=[QaA []/\Qa3 YP J0 83 #[.agg (QgG rf plan)] (slT (List.length (List.map Qbf rf.places)) (Qai QaR (List.map Qbf rf.places))),i=(↑i.toNat:Int)/\Int.toNat i < List.length t.grows/\Array.extract (Qai Qbt t.grows) (Int.toNat i * TypeInfo.size Try.t25) (Int.toNat i * TypeInfo.size Try.t25+TypeInfo.size Try.t25)=#[slT (List.length (t.grows.getD i.toNat default)) (Qai QaZ (t.grows.getD i.toNat default))],ltq i rf.seasons=true]++([]:List Prop)
def Qlp (rf:Qae) (plan:List Int) (t:Qag) (i:Int) (dJ0:Nat->Value):Qaw:=[(0,hvT),(6,Qan.tidx i.toNat #[slT (List.length (t.grows.getD i.toNat default)) (Qai QaZ (t.grows.getD i.toNat default))]),(9,Qan.pure (slT (List.length (List.map Qbf rf.places)) (Qai QaR (List.map Qbf rf.places))) [])]
def QgO (B:Lo) (rf:Qae) (plan:List Int) (t:Qag) (i:Int) (dJ0:Nat->Value):List Prop:=[QaA []/\Qa3 YP J0 84 #[.agg (QgG rf plan),.int .i64 i] (slT (List.length (Qbd rf.places (plan.getD i.toNat 0))) (Qai QaR (Qbd rf.places (plan.getD i.toNat 0)))),i=(↑i.toNat:Int)/\Int.toNat i < List.length t.takes/\Array.extract (Qai Qbt t.takes) (Int.toNat i * TypeInfo.size Try.t25) (Int.toNat i * TypeInfo.size Try.t25+TypeInfo.size Try.t25)=#[slT (List.length (t.takes.getD i.toNat default)) (Qai QaZ (t.takes.getD i.toNat default))],QaA []/\Qa3 YP J0 81 #[slT (List.length (t.grows.getD i.toNat default)) (Qai QaZ (t.grows.getD i.toNat default)),slT (List.length (List.map Qbf rf.places)) (Qai QaR (List.map Qbf rf.places))] (.bool true)]++QgD B rf plan t i dJ0
def Qkq (rf:Qae) (plan:List Int) (t:Qag) (i:Int) (dJ0:Nat->Value):Qaw:=Qlp rf plan t i dJ0++[(10,Qan.pure (.bool true) []),(16,Qan.tidx i.toNat #[slT (List.length (t.takes.getD i.toNat default)) (Qai QaZ (t.takes.getD i.toNat default))]),(20,Qan.pure (slT (List.length (Qbd rf.places (plan.getD i.toNat 0))) (Qai QaR (Qbd rf.places (plan.getD i.toNat 0)))) [])]
theorem Qtr (B:Lo) (rf:Qae) (plan:List Int) (t:Qag) (i:Int) (dJ0:Nat->Value):landM (Qap YP (QaF YP) J0 B 16 1 (QaL 58 58 (([2,3,32,33]:List Nat).zip (QcN rf plan t i)) dJ0 QcP) (QaG (Qb7 rf plan t i)) (2+(Qb7 rf plan t i).length)
 (Qkq rf plan t i dJ0++[(21,Qan.pure (.bool true) []),(24,hvI (i+1))]) 0 [] []) [2,3,32,33] [(2,KS.auto),(3,KS.auto)] []=some ⟨58,58,QcP,[],.run,none,QcN rf plan t (i+1),Qb7 rf plan t (i+1),
 [wq (i+1)=i+1,QaA []/\Qa3 YP J0 81 #[slT (List.length (t.takes.getD i.toNat default)) (Qai QaZ (t.takes.getD i.toNat default)),slT (List.length (Qbd rf.places (plan.getD i.toNat 0))) (Qai QaR (Qbd rf.places (plan.getD i.toNat 0)))] (.bool true)]++QgO B rf plan t i dJ0⟩:=by kernel_rfl
theorem QtI (B:Lo) (rf:Qae) (plan:List Int) (t:Qag) (i:Int) (dJ0:Nat->Value):Qbi (Qap YP (QaF YP) J0 B 16 1 (QaL 58 58 (([2,3,32,33]:List Nat).zip (QcN rf plan t i)) dJ0 QcP) (QaG (Qb7 rf plan t i)) (2+(Qb7 rf plan t i).length)
 (Qkq rf plan t i dJ0++[(21,Qan.pure (.bool false) [])]) 0 [] []) []=some (.bool false,
 [QaA []/\Qa3 YP J0 81 #[slT (List.length (t.takes.getD i.toNat default)) (Qai QaZ (t.takes.getD i.toNat default)),slT (List.length (Qbd rf.places (plan.getD i.toNat 0))) (Qai QaR (Qbd rf.places (plan.getD i.toNat 0)))] (.bool false)]++QgO B rf plan t i dJ0):=by kernel_rfl
theorem QtU (B:Lo) (rf:Qae) (plan:List Int) (t:Qag) (i:Int) (dJ0:Nat->Value):Qbi (Qap YP (QaF YP) J0 B 16 1 (QaL 58 58 (([2,3,32,33]:List Nat).zip (QcN rf plan t i)) dJ0 QcP) (QaG (Qb7 rf plan t i)) (2+(Qb7 rf plan t i).length)
 (Qlp rf plan t i dJ0++[(10,Qan.pure (.bool false) [])]) 0 [] []) []=some (.bool false,
 [QaA []/\Qa3 YP J0 81 #[slT (List.length (t.grows.getD i.toNat default)) (Qai QaZ (t.grows.getD i.toNat default)),slT (List.length (List.map Qbf rf.places)) (Qai QaR (List.map Qbf rf.places))] (.bool false)]++QgD B rf plan t i dJ0):=by kernel_rfl
theorem Qs4 (B:Lo) (rf:Qae) (plan:List Int) (t:Qag) (i:Int) (dJ0:Nat->Value):Qbi (Qap YP (QaF YP) J0 B 9 1 (QaL 58 58 (([2,3,32,33]:List Nat).zip (QcN rf plan t i)) dJ0 QcP) (QaG (Qb7 rf plan t i)) (2+(Qb7 rf plan t i).length)
 [(0,hvF)] 0 [] []) []=some (.bool true,
 [ltq i rf.seasons=false]):=by kernel_rfl
def QgC (B:Lo) (rf:Qae) (plan:List Int) (t:Qag):List Prop:=[QaA []/\Qa3 YP J0 82 #[.agg (QgG rf plan)] (slT (List.length (List.map (Qbg rf.miss) rf.places)) (Qai QaR (List.map (Qbg rf.miss) rf.places)))]++([]:List Prop)
def QjJ (rf:Qae) (plan:List Int) (t:Qag):Qaw:=[(6,Qan.pure (slT (List.length (List.map (Qbg rf.miss) rf.places)) (Qai QaR (List.map (Qbg rf.miss) rf.places))) [])]
def Qgt (B:Lo) (rf:Qae) (plan:List Int) (t:Qag):List Prop:=[QaA []/\Qa3 YP J0 81 #[slT t.starts.length (Qai QaZ t.starts),slT (List.length (List.map (Qbg rf.miss) rf.places)) (Qai QaR (List.map (Qbg rf.miss) rf.places))] (.bool true)]++QgC B rf plan t
def Qln (rf:Qae) (plan:List Int) (t:Qag):Qaw:=QjJ rf plan t++[(7,Qan.pure (.bool true) [])]
theorem Qsp (B:Lo) (rf:Qae) (plan:List Int) (t:Qag):Qbi (Qap YP (QaF YP) J0 B 10 1 (Qaq YP 58 58 (([.agg (QaY rf plan).toArray,.agg #[slI t.starts,slT t.grows.length (Qai Qbt t.grows),slT t.takes.length (Qai Qbt t.takes)]]).map (Qa6 0 4))) H00 1
 (Qln rf plan t++[(16,hvT)]) 0 [] []) []=some (.bool false,
 [(!eqq (↑t.grows.length:Int) rf.seasons)=true]++Qgt B rf plan t):=by kernel_rfl
def Qg0 (B:Lo) (rf:Qae) (plan:List Int) (t:Qag):List Prop:=[(!eqq (↑t.grows.length:Int) rf.seasons)=false]++Qgt B rf plan t
def QjS (rf:Qae) (plan:List Int) (t:Qag):Qaw:=Qln rf plan t++[(16,hvF)]
theorem QrV (B:Lo) (rf:Qae) (plan:List Int) (t:Qag):Qbi (Qap YP (QaF YP) J0 B 10 1 (Qaq YP 58 58 (([.agg (QaY rf plan).toArray,.agg #[slI t.starts,slT t.grows.length (Qai Qbt t.grows),slT t.takes.length (Qai Qbt t.takes)]]).map (Qa6 0 4))) H00 1
 (QjS rf plan t++[(25,hvT)]) 0 [] []) []=some (.bool false,
 [(!eqq (↑t.takes.length:Int) rf.seasons)=true]++Qg0 B rf plan t):=by kernel_rfl
theorem QrQ (B:Lo) (rf:Qae) (plan:List Int) (t:Qag):landM (Qap YP (QaF YP) J0 B 12 1 (Qaq YP 58 58 (([.agg (QaY rf plan).toArray,.agg #[slI t.starts,slT t.grows.length (Qai Qbt t.grows),slT t.takes.length (Qai Qbt t.takes)]]).map (Qa6 0 4))) H00 1
 (QjS rf plan t++[(25,hvF)]) 0 [] []) [2,3,32,33] [(1,KS.auto),(2,KS.auto)] []=some ⟨58,58,QcP,[],.run,none,QcN rf plan t (0),Qb7 rf plan t (0),
 [(!eqq (↑t.takes.length:Int) rf.seasons)=false]++Qg0 B rf plan t⟩:=by kernel_rfl
theorem QsL (B:Lo) (rf:Qae) (plan:List Int) (t:Qag):Qbi (Qap YP (QaF YP) J0 B 10 1 (Qaq YP 58 58 (([.agg (QaY rf plan).toArray,.agg #[slI t.starts,slT t.grows.length (Qai Qbt t.grows),slT t.takes.length (Qai Qbt t.takes)]]).map (Qa6 0 4))) H00 1
 (QjJ rf plan t++[(7,Qan.pure (.bool false) [])]) 0 [] []) []=some (.bool false,
 [QaA []/\Qa3 YP J0 81 #[slT t.starts.length (Qai QaZ t.starts),slT (List.length (List.map (Qbg rf.miss) rf.places)) (Qai QaR (List.map (Qbg rf.miss) rf.places))] (.bool false)]++QgC B rf plan t):=by kernel_rfl
set_option maxHeartbeats 4000000 in
theorem QsS (rf:Qae) (plan:List Int) (t:Qag) (hr:Qav rf=true) (hl:plan.length<=4) (hp:∀j:Nat,0<=plan.getD j 0/\plan.getD j 0<=1000000) {B:Lo} (hJ:∀w,B.has w->J0 w) {c0:CF}:∀m:Nat,(∀(i:Int),(rf.seasons - i).toNat=m->∀(h0:0<=i) (hgl:(t.grows.length:Int)=rf.seasons) (htl:(t.takes.length:Int)=rf.seasons),Qsd B c0 rf plan t i->EndsT YP B c0 (.bool (Qlh rf plan t.grows t.takes i))):=by
 intro m0;induction m0 using Nat.strongRecOn with
 | _ m0 ih0=>
   intro i hm0 h0 hgl htl ⟨dJ0,hdJ0,hg0⟩;have hsz:=Qau (Qal hr).1;have hcs:=(fun k h0 h1=> (QbW ((Qal hr).2 k h0 h1).1).1)
   have hsz:=Qau (Qal hr).1;by_cases q0:(i:Int) < rf.seasons
   ·have hp0:QaA (QgD B rf plan t i dJ0):=by
     have s2:=QcB (plan:=plan) (gs:=t.grows) (ts:=t.takes) q0;exact ⟨⟨trivial,Q55 (rf) (plan) (by omega)⟩,⟨⟨by omega,by omega,(Qat (z:=1) (fun _=> rfl) (by omega))⟩,⟨(Qbw q0),trivial⟩⟩⟩
    cases q1:Qox (t.grows.getD i.toNat default) (List.map Qbf rf.places) with
    | true=>
      have hp1:QaA (QgO B rf plan t i dJ0):=by
       have s2:=QcB (plan:=plan) (gs:=t.grows) (ts:=t.takes) q0;exact ⟨⟨trivial,Q5E (rf) (plan) (i) (by omega) (by with_reducible assumption) (by with_reducible assumption) (by omega) (by with_reducible assumption)⟩,⟨⟨by omega,by omega,(Qat (z:=1) (fun _=> rfl) (by omega))⟩,⟨⟨trivial,(by have t_:=Qgd (t.grows.getD i.toNat default) (List.map Qbf rf.places);rw [q1] at t_;exact t_)⟩,hp0⟩⟩⟩
      cases q2:Qox (t.takes.getD i.toNat default) (Qbd rf.places (plan.getD i.toNat 0)) with
      | true=>
        have s2:=QcB (plan:=plan) (gs:=t.grows) (ts:=t.takes) q0;exact ((ih0 _ (by omega)) (i+1) rfl (by omega) (by with_reducible assumption) (by with_reducible assumption)
         (hg0.landM okF hJ Qac (Qtr B rf plan t i dJ0)
         ⟨(Qbj (by omega) (by omega)),⟨⟨trivial,(by have t_:=Qgd (t.takes.getD i.toNat default) (Qbd rf.places (plan.getD i.toNat 0));rw [q2] at t_;exact t_)⟩,hp1⟩⟩ (by kernel_rfl) (by kernel_rfl))).cast (by (rw [s2];simp_all [Q0P];done))
      | false=>
        have s2:=QcB (plan:=plan) (gs:=t.grows) (ts:=t.takes) q0;exact (GoE.endsT okF hJ Qac hg0 (QtI B rf plan t i dJ0)
         ⟨⟨trivial,(by have t_:=Qgd (t.takes.getD i.toNat default) (Qbd rf.places (plan.getD i.toNat 0));rw [q2] at t_;exact t_)⟩,hp1⟩).cast (by (rw [s2];simp_all [Q0P];done))
    | false=>
      have s2:=QcB (plan:=plan) (gs:=t.grows) (ts:=t.takes) q0;exact (GoE.endsT okF hJ Qac hg0 (QtU B rf plan t i dJ0)
       ⟨⟨trivial,(by have t_:=Qgd (t.grows.getD i.toNat default) (List.map Qbf rf.places);rw [q1] at t_;exact t_)⟩,hp0⟩).cast (by (rw [s2];simp_all [Q0P];done))
   ·have s2:=QvZ (rf:=rf) (plan:=plan) (gs:=t.grows) (ts:=t.takes) (i:=i) (by omega);exact (GoE.endsT okF hJ Qac hg0 (Qs4 B rf plan t i dJ0)
     ⟨(Qby (Int.not_lt.1 q0)),trivial⟩).cast (by (rw [s2];done))
set_option maxHeartbeats 4000000 in
theorem QxL (rf:Qae) (plan:List Int) (t:Qag) (hr:Qav rf=true) (hl:plan.length<=4) (hp:∀j:Nat,0<=plan.getD j 0/\plan.getD j 0<=1000000) {B:Lo} (hJ:∀w,B.has w->J0 w):EndsT YP B (Qaq YP 58 58 (([.agg (QaY rf plan).toArray,.agg #[slI t.starts,slT t.grows.length (Qai Qbt t.grows),slT t.takes.length (Qai Qbt t.takes)]]).map (Qa6 0 4))) (.bool (Qa5 rf plan t)):=by
 have hsz:=Qau (Qal hr).1;have hcs:=(fun k h0 h1=> (QbW ((Qal hr).2 k h0 h1).1).1)
 have hp2:QaA (QgC B rf plan t):=by
  exact ⟨⟨trivial,Q4o (rf) (plan) (by omega) (by omega) (by with_reducible assumption)⟩,trivial⟩
 cases q0:Qox t.starts (List.map (Qbg rf.miss) rf.places) with
 | true=>
   have hp3:QaA (Qgt B rf plan t):=by
    exact ⟨⟨trivial,(by have t_:=Qgd t.starts (List.map (Qbg rf.miss) rf.places);rw [q0] at t_;exact t_)⟩,hp2⟩
   by_cases q1:((↑t.grows.length:Int):Int)≠rf.seasons
   ·exact (GoE.endsT okF hJ Qac GoE.start (Qsp B rf plan t)
     ⟨(Qej q1),hp3⟩).cast (by (simp only [Qa5];simp [*];done))
   ·have hp4:QaA (Qg0 B rf plan t):=by
     exact ⟨(Qep (Decidable.of_not_not q1)),hp3⟩
    by_cases q2:((↑t.takes.length:Int):Int)≠rf.seasons
    ·exact (GoE.endsT okF hJ Qac GoE.start (QrV B rf plan t)
      ⟨(Qej q2),hp4⟩).cast (by (simp only [Qa5];simp [*];done))
    ·exact ((QsS rf plan t hr hl hp hJ _) (0) rfl (by omega) (by omega) (by omega)
      (GoE.start.landM okF hJ Qac (QrQ B rf plan t)
      ⟨(Qep (Decidable.of_not_not q2)),hp4⟩ (by kernel_rfl) (by kernel_rfl))).cast (by (simp_all [Qa5];done))
 | false=>
   exact (GoE.endsT okF hJ Qac GoE.start (QsL B rf plan t)
    ⟨⟨trivial,(by have t_:=Qgd t.starts (List.map (Qbg rf.miss) rf.places);rw [q0] at t_;exact t_)⟩,hp2⟩).cast (by (simp only [Qa5];simp [*];done))
theorem Qvp (rf:Qae) (plan:List Int) (t:Qag) (hr:Qav rf=true) (hl:plan.length<=4) (hp:∀j:Nat,0<=plan.getD j 0/\plan.getD j 0<=1000000):Qa3 YP J0 58 #[.agg (QaY rf plan).toArray,.agg #[slI t.starts,slT t.grows.length (Qai Qbt t.grows),slT t.takes.length (Qai Qbt t.takes)]] (.bool (Qa5 rf plan t)):=
 Qbr (ts:=[.agg (QaY rf plan).toArray,.agg #[slI t.starts,slT t.grows.length (Qai Qbt t.grows),slT t.takes.length (Qai Qbt t.takes)]]) Qco (c0:=Qaq YP 58 58 (([.agg (QaY rf plan).toArray,.agg #[slI t.starts,slT t.grows.length (Qai Qbt t.grows),slT t.takes.length (Qai Qbt t.takes)]]).map (Qa6 0 4))) (by kernel_rfl) (by kernel_rfl) fun B hJ=> QxL rf plan t hr hl hp hJ
def Qe1 (rf:Qae) (plan:List Int) (t:Qag) (i:Int):List Value:=[Qa1 1 (slT plan.length (Qai QaZ plan)),pA 2 0,pA 3 0,.int .i64 i]
def Qc9 (rf:Qae) (plan:List Int) (t:Qag) (i:Int):List Obj:=[Obj.cells #[Qa1 1 (slT rf.places.length (Qai Qad rf.places)),.int .i64 rf.miss,.int .i64 rf.seasons] 24,Obj.cells #[Qa1 1 (slT t.starts.length (Qai QaZ t.starts)),Qa1 1 (slT t.grows.length (Qai Qbt t.grows)),Qa1 1 (slT t.takes.length (Qai Qbt t.takes))] 42]
def QeB:List Item:=([.code [1,1,0,1,0,0],.inLoop [1,1,0,1,0,0],.inBlock 0,.code [1,1,1]]).map (it (QaU YP 27))
def QzD (B:Lo) (c0:CF) (rf:Qae) (plan:List Int) (t:Qag) (i:Int):Prop:=∃dJ:Nat->Value,(∀t,QbB (dJ t))/\GoE YP B c0 H00 1 (QaL 27 136 (([1,3,5,7]:List Nat).zip (Qe1 rf plan t i)) dJ QeB) (QaG (Qc9 rf plan t i)) (2+(Qc9 rf plan t i).length) []
def Qec (rf:Qae) (plan:List Int) (t:Qag) (s:Int):List Value:=[Qa1 1 (slT plan.length (Qai QaZ plan)),pA 2 0,pA 3 0,.int .i64 s]
def Qcj (rf:Qae) (plan:List Int) (t:Qag) (s:Int):List Obj:=[Obj.cells #[Qa1 1 (slT rf.places.length (Qai Qad rf.places)),.int .i64 rf.miss,.int .i64 rf.seasons] 24,Obj.cells #[Qa1 1 (slT t.starts.length (Qai QaZ t.starts)),Qa1 1 (slT t.grows.length (Qai Qbt t.grows)),Qa1 1 (slT t.takes.length (Qai Qbt t.takes))] 42]
def QdM:List Item:=([.code [1,1,1,0,1,0,0],.inLoop [1,1,1,0,1,0,0],.inBlock 2,.code [1,1,1,1]]).map (it (QaU YP 27))
def Qzj (B:Lo) (c0:CF) (rf:Qae) (plan:List Int) (t:Qag) (s:Int):Prop:=∃dJ:Nat->Value,(∀t,QbB (dJ t))/\GoE YP B c0 H00 1 (QaL 27 136 (([1,3,5,8]:List Nat).zip (Qec rf plan t s)) dJ QdM) (QaG (Qcj rf plan t s)) (2+(Qcj rf plan t s).length) []
def QcC (rf:Qae) (plan:List Int) (t:Qag) (s i:Int):List Value:=[Qa1 1 (slT plan.length (Qai QaZ plan)),pA 2 0,pA 3 0,.int .i64 s,.int .i64 i]
def Qb3 (rf:Qae) (plan:List Int) (t:Qag) (s i:Int):List Obj:=[Obj.cells #[Qa1 1 (slT rf.places.length (Qai Qad rf.places)),.int .i64 rf.miss,.int .i64 rf.seasons] 24,Obj.cells #[Qa1 1 (slT t.starts.length (Qai QaZ t.starts)),Qa1 1 (slT t.grows.length (Qai Qbt t.grows)),Qa1 1 (slT t.takes.length (Qai Qbt t.takes))] 42]
def QcF:List Item:=([.code [1,1,1,0,1,0,0,1,0,0,1,1,0,0],.inLoop [1,1,1,0,1,0,0,1,0,0,1,1,0,0],.inBlock 4,.inBlock 3,.code [1,1,1,0,1,0,0,1,1],.inLoop [1,1,1,0,1,0,0],.inBlock 2,.code [1,1,1,1]]).map (it (QaU YP 27))
def Q0I (B:Lo) (c0:CF) (rf:Qae) (plan:List Int) (t:Qag) (s i:Int):Prop:=∃dJ:Nat->Value,(∀t,QbB (dJ t))/\GoE YP B c0 H00 1 (QaL 27 136 (([1,3,5,8,9]:List Nat).zip (QcC rf plan t s i)) dJ QcF) (QaG (Qb3 rf plan t s i)) (2+(Qb3 rf plan t s i).length) []
def Qlm (B:Lo) (rf:Qae) (plan:List Int) (t:Qag) (i:Int) (dJ0:Nat->Value):List Prop:=[QaA []/\Qa3 YP J0 60 #[.agg #[slT rf.places.length (Qai Qad rf.places),.int .i64 rf.miss,.int .i64 rf.seasons],.int .i64 (Qaa.count (rf.places.getD i.toNat default))] (.int .i64 (Qjr rf.miss (Qaa.count (rf.places.getD i.toNat default)))),i=(↑i.toNat:Int)/\Int.toNat i < List.length rf.places/\Array.extract (Qai Qad rf.places) (Int.toNat i * TypeInfo.size Try.t54) (Int.toNat i * TypeInfo.size Try.t54+TypeInfo.size Try.t54)=#[.int .i64 (Qaa.count (rf.places.getD i.toNat default)),.int .i64 (Qaa.room (rf.places.getD i.toNat default)),.int .i64 (Qaa.glo (rf.places.getD i.toNat default)),.int .i64 (Qaa.ghi (rf.places.getD i.toNat default)),.int .i64 (Qaa.drift (rf.places.getD i.toNat default)),.int .i64 (Qaa.into (rf.places.getD i.toNat default)),.int .i64 (Qaa.olo (rf.places.getD i.toNat default)),.int .i64 (Qaa.ohi (rf.places.getD i.toNat default)),.int .i64 (Qaa.slo (rf.places.getD i.toNat default)),.int .i64 (Qaa.shi (rf.places.getD i.toNat default)),.int .i64 (Qaa.goal (rf.places.getD i.toNat default)),.int .i64 (Qaa.worth (rf.places.getD i.toNat default))],i=(↑i.toNat:Int)/\Int.toNat i < List.length rf.places/\Array.extract (Qai Qad rf.places) (Int.toNat i * TypeInfo.size Try.t54) (Int.toNat i * TypeInfo.size Try.t54+TypeInfo.size Try.t54)=#[.int .i64 (Qaa.count (rf.places.getD i.toNat default)),.int .i64 (Qaa.room (rf.places.getD i.toNat default)),.int .i64 (Qaa.glo (rf.places.getD i.toNat default)),.int .i64 (Qaa.ghi (rf.places.getD i.toNat default)),.int .i64 (Qaa.drift (rf.places.getD i.toNat default)),.int .i64 (Qaa.into (rf.places.getD i.toNat default)),.int .i64 (Qaa.olo (rf.places.getD i.toNat default)),.int .i64 (Qaa.ohi (rf.places.getD i.toNat default)),.int .i64 (Qaa.slo (rf.places.getD i.toNat default)),.int .i64 (Qaa.shi (rf.places.getD i.toNat default)),.int .i64 (Qaa.goal (rf.places.getD i.toNat default)),.int .i64 (Qaa.worth (rf.places.getD i.toNat default))],i=(↑i.toNat:Int)/\Int.toNat i < List.length t.starts/\Array.extract (Qai QaZ t.starts) (Int.toNat i * TypeInfo.size Try.t3) (Int.toNat i * TypeInfo.size Try.t3+TypeInfo.size Try.t3)=#[.int .i64 (t.starts.getD i.toNat default)],ltq i (↑rf.places.length:Int)=true]++([]:List Prop)
def Qr8 (rf:Qae) (plan:List Int) (t:Qag) (i:Int) (dJ0:Nat->Value):Qaw:=[(4,hvT),(8,Qan.tidx i.toNat #[.int .i64 (t.starts.getD i.toNat default)]),(13,Qan.tidx i.toNat #[.int .i64 (Qaa.count (rf.places.getD i.toNat default)),.int .i64 (Qaa.room (rf.places.getD i.toNat default)),.int .i64 (Qaa.glo (rf.places.getD i.toNat default)),.int .i64 (Qaa.ghi (rf.places.getD i.toNat default)),.int .i64 (Qaa.drift (rf.places.getD i.toNat default)),.int .i64 (Qaa.into (rf.places.getD i.toNat default)),.int .i64 (Qaa.olo (rf.places.getD i.toNat default)),.int .i64 (Qaa.ohi (rf.places.getD i.toNat default)),.int .i64 (Qaa.slo (rf.places.getD i.toNat default)),.int .i64 (Qaa.shi (rf.places.getD i.toNat default)),.int .i64 (Qaa.goal (rf.places.getD i.toNat default)),.int .i64 (Qaa.worth (rf.places.getD i.toNat default))]),(20,Qan.tidx i.toNat #[.int .i64 (Qaa.count (rf.places.getD i.toNat default)),.int .i64 (Qaa.room (rf.places.getD i.toNat default)),.int .i64 (Qaa.glo (rf.places.getD i.toNat default)),.int .i64 (Qaa.ghi (rf.places.getD i.toNat default)),.int .i64 (Qaa.drift (rf.places.getD i.toNat default)),.int .i64 (Qaa.into (rf.places.getD i.toNat default)),.int .i64 (Qaa.olo (rf.places.getD i.toNat default)),.int .i64 (Qaa.ohi (rf.places.getD i.toNat default)),.int .i64 (Qaa.slo (rf.places.getD i.toNat default)),.int .i64 (Qaa.shi (rf.places.getD i.toNat default)),.int .i64 (Qaa.goal (rf.places.getD i.toNat default)),.int .i64 (Qaa.worth (rf.places.getD i.toNat default))]),(23,Qan.pure (.int .i64 (Qjr rf.miss (Qaa.count (rf.places.getD i.toNat default)))) [])]
theorem QyD (B:Lo) (rf:Qae) (plan:List Int) (t:Qag) (i:Int) (dJ0:Nat->Value):landM (Qap YP (QaF YP) J0 B 14 1 (QaL 27 136 (([1,3,5,7]:List Nat).zip (Qe1 rf plan t i)) dJ0 QeB) (QaG (Qc9 rf plan t i)) (2+(Qc9 rf plan t i).length)
 (Qr8 rf plan t i dJ0++[(24,Qan.pure (.bool true) []),(27,hvI (i+1))]) 0 [] []) [1,3,5,7] [(2,KS.auto),(3,KS.auto)] []=some ⟨27,136,QeB,[],.run,none,Qe1 rf plan t (i+1),Qc9 rf plan t (i+1),
 [wq (i+1)=i+1,QaA []/\Qa3 YP J0 55 #[.int .i64 (t.starts.getD i.toNat default),.int .i64 (Qaa.count (rf.places.getD i.toNat default)),.int .i64 (Qjr rf.miss (Qaa.count (rf.places.getD i.toNat default)))] (.bool true)]++Qlm B rf plan t i dJ0⟩:=by kernel_rfl
theorem Q0F (B:Lo) (rf:Qae) (plan:List Int) (t:Qag) (i:Int) (dJ0:Nat->Value):Qbi (Qap YP (QaF YP) J0 B 14 1 (QaL 27 136 (([1,3,5,7]:List Nat).zip (Qe1 rf plan t i)) dJ0 QeB) (QaG (Qc9 rf plan t i)) (2+(Qc9 rf plan t i).length)
 (Qr8 rf plan t i dJ0++[(24,Qan.pure (.bool false) [])]) 0 [] []) []=some (.bool false,
 [QaA []/\Qa3 YP J0 55 #[.int .i64 (t.starts.getD i.toNat default),.int .i64 (Qaa.count (rf.places.getD i.toNat default)),.int .i64 (Qjr rf.miss (Qaa.count (rf.places.getD i.toNat default)))] (.bool false)]++Qlm B rf plan t i dJ0):=by kernel_rfl
theorem QzU (B:Lo) (rf:Qae) (plan:List Int) (t:Qag) (i:Int) (dJ0:Nat->Value):landM (Qap YP (QaF YP) J0 B 10 1 (QaL 27 136 (([1,3,5,7]:List Nat).zip (Qe1 rf plan t i)) dJ0 QeB) (QaG (Qc9 rf plan t i)) (2+(Qc9 rf plan t i).length)
 [(4,hvF)] 0 [] []) [1,3,5,8] [(2,KS.auto),(3,KS.auto)] []=some ⟨27,136,QdM,[],.run,none,Qec rf plan t (0),Qcj rf plan t (0),
 [ltq i (↑rf.places.length:Int)=false]⟩:=by kernel_rfl
def QkM (B:Lo) (rf:Qae) (plan:List Int) (t:Qag) (s:Int) (dJ0:Nat->Value):List Prop:=[s=(↑s.toNat:Int)/\Int.toNat s < List.length t.grows/\Array.extract (Qai Qbt t.grows) (Int.toNat s * TypeInfo.size Try.t25) (Int.toNat s * TypeInfo.size Try.t25+TypeInfo.size Try.t25)=#[slT (List.length (t.grows.getD s.toNat default)) (Qai QaZ (t.grows.getD s.toNat default))],ltq s rf.seasons=true]++([]:List Prop)
def QrB (rf:Qae) (plan:List Int) (t:Qag) (s:Int) (dJ0:Nat->Value):Qaw:=[(3,hvT),(7,Qan.tidx s.toNat #[slT (List.length (t.grows.getD s.toNat default)) (Qai QaZ (t.grows.getD s.toNat default))])]
theorem Q0h (B:Lo) (rf:Qae) (plan:List Int) (t:Qag) (s:Int) (dJ0:Nat->Value):Qbi (Qap YP (QaF YP) J0 B 15 1 (QaL 27 136 (([1,3,5,8]:List Nat).zip (Qec rf plan t s)) dJ0 QdM) (QaG (Qcj rf plan t s)) (2+(Qcj rf plan t s).length)
 (QrB rf plan t s dJ0++[(13,hvT)]) 0 [] []) []=some (.bool false,
 [(!eqq (↑(List.length (t.grows.getD s.toNat default)):Int) (↑rf.places.length:Int))=true]++QkM B rf plan t s dJ0):=by kernel_rfl
def QjQ (B:Lo) (rf:Qae) (plan:List Int) (t:Qag) (s:Int) (dJ0:Nat->Value):List Prop:=[s=(↑s.toNat:Int)/\Int.toNat s < List.length t.takes/\Array.extract (Qai Qbt t.takes) (Int.toNat s * TypeInfo.size Try.t25) (Int.toNat s * TypeInfo.size Try.t25+TypeInfo.size Try.t25)=#[slT (List.length (t.takes.getD s.toNat default)) (Qai QaZ (t.takes.getD s.toNat default))],(!eqq (↑(List.length (t.grows.getD s.toNat default)):Int) (↑rf.places.length:Int))=false]++QkM B rf plan t s dJ0
def QpF (rf:Qae) (plan:List Int) (t:Qag) (s:Int) (dJ0:Nat->Value):Qaw:=QrB rf plan t s dJ0++[(13,hvF),(18,Qan.tidx s.toNat #[slT (List.length (t.takes.getD s.toNat default)) (Qai QaZ (t.takes.getD s.toNat default))])]
theorem Q0l (B:Lo) (rf:Qae) (plan:List Int) (t:Qag) (s:Int) (dJ0:Nat->Value):Qbi (Qap YP (QaF YP) J0 B 15 1 (QaL 27 136 (([1,3,5,8]:List Nat).zip (Qec rf plan t s)) dJ0 QdM) (QaG (Qcj rf plan t s)) (2+(Qcj rf plan t s).length)
 (QpF rf plan t s dJ0++[(24,hvT)]) 0 [] []) []=some (.bool false,
 [(!eqq (↑(List.length (t.takes.getD s.toNat default)):Int) (↑rf.places.length:Int))=true]++QjQ B rf plan t s dJ0):=by kernel_rfl
theorem Qyu (B:Lo) (rf:Qae) (plan:List Int) (t:Qag) (s:Int) (dJ0:Nat->Value):landM (Qap YP (QaF YP) J0 B 16 1 (QaL 27 136 (([1,3,5,8]:List Nat).zip (Qec rf plan t s)) dJ0 QdM) (QaG (Qcj rf plan t s)) (2+(Qcj rf plan t s).length)
 (QpF rf plan t s dJ0++[(24,hvF)]) 0 [] []) [1,3,5,8,9] [(2,KS.auto),(3,KS.auto)] []=some ⟨27,136,QcF,[],.run,none,QcC rf plan t (s) (0),Qb3 rf plan t (s) (0),
 [(!eqq (↑(List.length (t.takes.getD s.toNat default)):Int) (↑rf.places.length:Int))=false]++QjQ B rf plan t s dJ0⟩:=by kernel_rfl
theorem Qyy (B:Lo) (rf:Qae) (plan:List Int) (t:Qag) (s:Int) (dJ0:Nat->Value):Qbi (Qap YP (QaF YP) J0 B 9 1 (QaL 27 136 (([1,3,5,8]:List Nat).zip (Qec rf plan t s)) dJ0 QdM) (QaG (Qcj rf plan t s)) (2+(Qcj rf plan t s).length)
 [(3,hvF)] 0 [] []) []=some (.bool true,
 [ltq s rf.seasons=false]):=by kernel_rfl
def QkA (B:Lo) (rf:Qae) (plan:List Int) (t:Qag) (s i:Int) (dJ0:Nat->Value):List Prop:=[i=(↑i.toNat:Int)/\Int.toNat i < List.length rf.places/\Array.extract (Qai Qad rf.places) (Int.toNat i * TypeInfo.size Try.t54) (Int.toNat i * TypeInfo.size Try.t54+TypeInfo.size Try.t54)=#[.int .i64 (Qaa.count (rf.places.getD i.toNat default)),.int .i64 (Qaa.room (rf.places.getD i.toNat default)),.int .i64 (Qaa.glo (rf.places.getD i.toNat default)),.int .i64 (Qaa.ghi (rf.places.getD i.toNat default)),.int .i64 (Qaa.drift (rf.places.getD i.toNat default)),.int .i64 (Qaa.into (rf.places.getD i.toNat default)),.int .i64 (Qaa.olo (rf.places.getD i.toNat default)),.int .i64 (Qaa.ohi (rf.places.getD i.toNat default)),.int .i64 (Qaa.slo (rf.places.getD i.toNat default)),.int .i64 (Qaa.shi (rf.places.getD i.toNat default)),.int .i64 (Qaa.goal (rf.places.getD i.toNat default)),.int .i64 (Qaa.worth (rf.places.getD i.toNat default))],i=(↑i.toNat:Int)/\Int.toNat i < List.length (t.grows.getD s.toNat default)/\Array.extract (Qai QaZ (t.grows.getD s.toNat default)) (Int.toNat i * TypeInfo.size Try.t3) (Int.toNat i * TypeInfo.size Try.t3+TypeInfo.size Try.t3)=#[.int .i64 (List.getD (t.grows.getD s.toNat default) i.toNat default)],s=(↑s.toNat:Int)/\Int.toNat s < List.length t.grows/\Array.extract (Qai Qbt t.grows) (Int.toNat s * TypeInfo.size Try.t25) (Int.toNat s * TypeInfo.size Try.t25+TypeInfo.size Try.t25)=#[slT (List.length (t.grows.getD s.toNat default)) (Qai QaZ (t.grows.getD s.toNat default))],ltq i (↑rf.places.length:Int)=true]++([]:List Prop)
def Qr3 (rf:Qae) (plan:List Int) (t:Qag) (s i:Int) (dJ0:Nat->Value):Qaw:=[(4,hvT),(8,Qan.tidx s.toNat #[slT (List.length (t.grows.getD s.toNat default)) (Qai QaZ (t.grows.getD s.toNat default))]),(11,Qan.tidx i.toNat #[.int .i64 (List.getD (t.grows.getD s.toNat default) i.toNat default)]),(16,Qan.tidx i.toNat #[.int .i64 (Qaa.count (rf.places.getD i.toNat default)),.int .i64 (Qaa.room (rf.places.getD i.toNat default)),.int .i64 (Qaa.glo (rf.places.getD i.toNat default)),.int .i64 (Qaa.ghi (rf.places.getD i.toNat default)),.int .i64 (Qaa.drift (rf.places.getD i.toNat default)),.int .i64 (Qaa.into (rf.places.getD i.toNat default)),.int .i64 (Qaa.olo (rf.places.getD i.toNat default)),.int .i64 (Qaa.ohi (rf.places.getD i.toNat default)),.int .i64 (Qaa.slo (rf.places.getD i.toNat default)),.int .i64 (Qaa.shi (rf.places.getD i.toNat default)),.int .i64 (Qaa.goal (rf.places.getD i.toNat default)),.int .i64 (Qaa.worth (rf.places.getD i.toNat default))])]
def QkQ (B:Lo) (rf:Qae) (plan:List Int) (t:Qag) (s i:Int) (dJ0:Nat->Value):List Prop:=[s=(↑s.toNat:Int)/\Int.toNat s < List.length plan/\Array.extract (Qai QaZ plan) (Int.toNat s * TypeInfo.size Try.t3) (Int.toNat s * TypeInfo.size Try.t3+TypeInfo.size Try.t3)=#[.int .i64 (plan.getD s.toNat default)],i=(↑i.toNat:Int)/\Int.toNat i < List.length rf.places/\Array.extract (Qai Qad rf.places) (Int.toNat i * TypeInfo.size Try.t54) (Int.toNat i * TypeInfo.size Try.t54+TypeInfo.size Try.t54)=#[.int .i64 (Qaa.count (rf.places.getD i.toNat default)),.int .i64 (Qaa.room (rf.places.getD i.toNat default)),.int .i64 (Qaa.glo (rf.places.getD i.toNat default)),.int .i64 (Qaa.ghi (rf.places.getD i.toNat default)),.int .i64 (Qaa.drift (rf.places.getD i.toNat default)),.int .i64 (Qaa.into (rf.places.getD i.toNat default)),.int .i64 (Qaa.olo (rf.places.getD i.toNat default)),.int .i64 (Qaa.ohi (rf.places.getD i.toNat default)),.int .i64 (Qaa.slo (rf.places.getD i.toNat default)),.int .i64 (Qaa.shi (rf.places.getD i.toNat default)),.int .i64 (Qaa.goal (rf.places.getD i.toNat default)),.int .i64 (Qaa.worth (rf.places.getD i.toNat default))],i=(↑i.toNat:Int)/\Int.toNat i < List.length (t.takes.getD s.toNat default)/\Array.extract (Qai QaZ (t.takes.getD s.toNat default)) (Int.toNat i * TypeInfo.size Try.t3) (Int.toNat i * TypeInfo.size Try.t3+TypeInfo.size Try.t3)=#[.int .i64 (List.getD (t.takes.getD s.toNat default) i.toNat default)],s=(↑s.toNat:Int)/\Int.toNat s < List.length t.takes/\Array.extract (Qai Qbt t.takes) (Int.toNat s * TypeInfo.size Try.t25) (Int.toNat s * TypeInfo.size Try.t25+TypeInfo.size Try.t25)=#[slT (List.length (t.takes.getD s.toNat default)) (Qai QaZ (t.takes.getD s.toNat default))],QaA []/\Qa3 YP J0 32 #[.int .i64 (List.getD (t.grows.getD s.toNat default) i.toNat default),.agg #[.int .i64 (Qaa.glo (rf.places.getD i.toNat default)),.int .i64 (Qaa.ghi (rf.places.getD i.toNat default))]] (.bool true)]++QkA B rf plan t s i dJ0
def QqP (rf:Qae) (plan:List Int) (t:Qag) (s i:Int) (dJ0:Nat->Value):Qaw:=Qr3 rf plan t s i dJ0++[(19,Qan.pure (.bool true) []),(25,Qan.tidx s.toNat #[slT (List.length (t.takes.getD s.toNat default)) (Qai QaZ (t.takes.getD s.toNat default))]),(28,Qan.tidx i.toNat #[.int .i64 (List.getD (t.takes.getD s.toNat default) i.toNat default)]),(33,Qan.tidx i.toNat #[.int .i64 (Qaa.count (rf.places.getD i.toNat default)),.int .i64 (Qaa.room (rf.places.getD i.toNat default)),.int .i64 (Qaa.glo (rf.places.getD i.toNat default)),.int .i64 (Qaa.ghi (rf.places.getD i.toNat default)),.int .i64 (Qaa.drift (rf.places.getD i.toNat default)),.int .i64 (Qaa.into (rf.places.getD i.toNat default)),.int .i64 (Qaa.olo (rf.places.getD i.toNat default)),.int .i64 (Qaa.ohi (rf.places.getD i.toNat default)),.int .i64 (Qaa.slo (rf.places.getD i.toNat default)),.int .i64 (Qaa.shi (rf.places.getD i.toNat default)),.int .i64 (Qaa.goal (rf.places.getD i.toNat default)),.int .i64 (Qaa.worth (rf.places.getD i.toNat default))]),(37,Qan.tidx s.toNat #[.int .i64 (plan.getD s.toNat default)])]
def Qka (B:Lo) (rf:Qae) (plan:List Int) (t:Qag) (s i:Int) (dJ0:Nat->Value):List Prop:=[QaA []/\Qa3 YP J0 61 #[.agg #[.int .i64 (Qaa.count (rf.places.getD i.toNat default)),.int .i64 (Qaa.room (rf.places.getD i.toNat default)),.int .i64 (Qaa.glo (rf.places.getD i.toNat default)),.int .i64 (Qaa.ghi (rf.places.getD i.toNat default)),.int .i64 (Qaa.drift (rf.places.getD i.toNat default)),.int .i64 (Qaa.into (rf.places.getD i.toNat default)),.int .i64 (Qaa.olo (rf.places.getD i.toNat default)),.int .i64 (Qaa.ohi (rf.places.getD i.toNat default)),.int .i64 (Qaa.slo (rf.places.getD i.toNat default)),.int .i64 (Qaa.shi (rf.places.getD i.toNat default)),.int .i64 (Qaa.goal (rf.places.getD i.toNat default)),.int .i64 (Qaa.worth (rf.places.getD i.toNat default))],.bool true] (.agg #[.int .i64 (if true=true then Qaa.slo (rf.places.getD i.toNat default) else Qaa.olo (rf.places.getD i.toNat default)),.int .i64 (if true=true then Qaa.shi (rf.places.getD i.toNat default) else Qaa.ohi (rf.places.getD i.toNat default))]),QaA []/\Qa3 YP J0 47 #[.int .i64 (plan.getD s.toNat default),.int .i64 i] (.bool true)]++QkQ B rf plan t s i dJ0
def Qrs (rf:Qae) (plan:List Int) (t:Qag) (s i:Int) (dJ0:Nat->Value):Qaw:=QqP rf plan t s i dJ0++[(40,Qan.pure (.bool true) []),(41,Qan.pure (.agg #[.int .i64 (if true=true then Qaa.slo (rf.places.getD i.toNat default) else Qaa.olo (rf.places.getD i.toNat default)),.int .i64 (if true=true then Qaa.shi (rf.places.getD i.toNat default) else Qaa.ohi (rf.places.getD i.toNat default))]) [])]
theorem Qzu (B:Lo) (rf:Qae) (plan:List Int) (t:Qag) (s i:Int) (dJ0:Nat->Value):landM (Qap YP (QaF YP) J0 B 14 1 (QaL 27 136 (([1,3,5,8,9]:List Nat).zip (QcC rf plan t s i)) dJ0 QcF) (QaG (Qb3 rf plan t s i)) (2+(Qb3 rf plan t s i).length)
 (Qrs rf plan t s i dJ0++[(42,Qan.pure (.bool true) []),(46,hvI (i+1))]) 0 [] []) [1,3,5,8,9] [(2,KS.auto),(3,KS.auto)] []=some ⟨27,136,QcF,[],.run,none,QcC rf plan t (s) (i+1),Qb3 rf plan t (s) (i+1),
 [wq (i+1)=i+1,QaA []/\Qa3 YP J0 32 #[.int .i64 (List.getD (t.takes.getD s.toNat default) i.toNat default),.agg #[.int .i64 (if true=true then Qaa.slo (rf.places.getD i.toNat default) else Qaa.olo (rf.places.getD i.toNat default)),.int .i64 (if true=true then Qaa.shi (rf.places.getD i.toNat default) else Qaa.ohi (rf.places.getD i.toNat default))]] (.bool true)]++Qka B rf plan t s i dJ0⟩:=by kernel_rfl
theorem QzI (B:Lo) (rf:Qae) (plan:List Int) (t:Qag) (s i:Int) (dJ0:Nat->Value):Qbi (Qap YP (QaF YP) J0 B 14 1 (QaL 27 136 (([1,3,5,8,9]:List Nat).zip (QcC rf plan t s i)) dJ0 QcF) (QaG (Qb3 rf plan t s i)) (2+(Qb3 rf plan t s i).length)
 (Qrs rf plan t s i dJ0++[(42,Qan.pure (.bool false) [])]) 0 [] []) []=some (.bool false,
 [QaA []/\Qa3 YP J0 32 #[.int .i64 (List.getD (t.takes.getD s.toNat default) i.toNat default),.agg #[.int .i64 (if true=true then Qaa.slo (rf.places.getD i.toNat default) else Qaa.olo (rf.places.getD i.toNat default)),.int .i64 (if true=true then Qaa.shi (rf.places.getD i.toNat default) else Qaa.ohi (rf.places.getD i.toNat default))]] (.bool false)]++Qka B rf plan t s i dJ0):=by kernel_rfl
def QkY (B:Lo) (rf:Qae) (plan:List Int) (t:Qag) (s i:Int) (dJ0:Nat->Value):List Prop:=[QaA []/\Qa3 YP J0 61 #[.agg #[.int .i64 (Qaa.count (rf.places.getD i.toNat default)),.int .i64 (Qaa.room (rf.places.getD i.toNat default)),.int .i64 (Qaa.glo (rf.places.getD i.toNat default)),.int .i64 (Qaa.ghi (rf.places.getD i.toNat default)),.int .i64 (Qaa.drift (rf.places.getD i.toNat default)),.int .i64 (Qaa.into (rf.places.getD i.toNat default)),.int .i64 (Qaa.olo (rf.places.getD i.toNat default)),.int .i64 (Qaa.ohi (rf.places.getD i.toNat default)),.int .i64 (Qaa.slo (rf.places.getD i.toNat default)),.int .i64 (Qaa.shi (rf.places.getD i.toNat default)),.int .i64 (Qaa.goal (rf.places.getD i.toNat default)),.int .i64 (Qaa.worth (rf.places.getD i.toNat default))],.bool false] (.agg #[.int .i64 (if false=true then Qaa.slo (rf.places.getD i.toNat default) else Qaa.olo (rf.places.getD i.toNat default)),.int .i64 (if false=true then Qaa.shi (rf.places.getD i.toNat default) else Qaa.ohi (rf.places.getD i.toNat default))]),QaA []/\Qa3 YP J0 47 #[.int .i64 (plan.getD s.toNat default),.int .i64 i] (.bool false)]++QkQ B rf plan t s i dJ0
def Qqs (rf:Qae) (plan:List Int) (t:Qag) (s i:Int) (dJ0:Nat->Value):Qaw:=QqP rf plan t s i dJ0++[(40,Qan.pure (.bool false) []),(41,Qan.pure (.agg #[.int .i64 (if false=true then Qaa.slo (rf.places.getD i.toNat default) else Qaa.olo (rf.places.getD i.toNat default)),.int .i64 (if false=true then Qaa.shi (rf.places.getD i.toNat default) else Qaa.ohi (rf.places.getD i.toNat default))]) [])]
theorem QzT (B:Lo) (rf:Qae) (plan:List Int) (t:Qag) (s i:Int) (dJ0:Nat->Value):landM (Qap YP (QaF YP) J0 B 14 1 (QaL 27 136 (([1,3,5,8,9]:List Nat).zip (QcC rf plan t s i)) dJ0 QcF) (QaG (Qb3 rf plan t s i)) (2+(Qb3 rf plan t s i).length)
 (Qqs rf plan t s i dJ0++[(42,Qan.pure (.bool true) []),(46,hvI (i+1))]) 0 [] []) [1,3,5,8,9] [(2,KS.auto),(3,KS.auto)] []=some ⟨27,136,QcF,[],.run,none,QcC rf plan t (s) (i+1),Qb3 rf plan t (s) (i+1),
 [wq (i+1)=i+1,QaA []/\Qa3 YP J0 32 #[.int .i64 (List.getD (t.takes.getD s.toNat default) i.toNat default),.agg #[.int .i64 (if false=true then Qaa.slo (rf.places.getD i.toNat default) else Qaa.olo (rf.places.getD i.toNat default)),.int .i64 (if false=true then Qaa.shi (rf.places.getD i.toNat default) else Qaa.ohi (rf.places.getD i.toNat default))]] (.bool true)]++QkY B rf plan t s i dJ0⟩:=by kernel_rfl
theorem QwM (B:Lo) (rf:Qae) (plan:List Int) (t:Qag) (s i:Int) (dJ0:Nat->Value):Qbi (Qap YP (QaF YP) J0 B 14 1 (QaL 27 136 (([1,3,5,8,9]:List Nat).zip (QcC rf plan t s i)) dJ0 QcF) (QaG (Qb3 rf plan t s i)) (2+(Qb3 rf plan t s i).length)
 (Qqs rf plan t s i dJ0++[(42,Qan.pure (.bool false) [])]) 0 [] []) []=some (.bool false,
 [QaA []/\Qa3 YP J0 32 #[.int .i64 (List.getD (t.takes.getD s.toNat default) i.toNat default),.agg #[.int .i64 (if false=true then Qaa.slo (rf.places.getD i.toNat default) else Qaa.olo (rf.places.getD i.toNat default)),.int .i64 (if false=true then Qaa.shi (rf.places.getD i.toNat default) else Qaa.ohi (rf.places.getD i.toNat default))]] (.bool false)]++QkY B rf plan t s i dJ0):=by kernel_rfl
theorem Qww (B:Lo) (rf:Qae) (plan:List Int) (t:Qag) (s i:Int) (dJ0:Nat->Value):Qbi (Qap YP (QaF YP) J0 B 14 1 (QaL 27 136 (([1,3,5,8,9]:List Nat).zip (QcC rf plan t s i)) dJ0 QcF) (QaG (Qb3 rf plan t s i)) (2+(Qb3 rf plan t s i).length)
 (Qr3 rf plan t s i dJ0++[(19,Qan.pure (.bool false) [])]) 0 [] []) []=some (.bool false,
 [QaA []/\Qa3 YP J0 32 #[.int .i64 (List.getD (t.grows.getD s.toNat default) i.toNat default),.agg #[.int .i64 (Qaa.glo (rf.places.getD i.toNat default)),.int .i64 (Qaa.ghi (rf.places.getD i.toNat default))]] (.bool false)]++QkA B rf plan t s i dJ0):=by kernel_rfl
theorem QwU (B:Lo) (rf:Qae) (plan:List Int) (t:Qag) (s i:Int) (dJ0:Nat->Value):landM (Qap YP (QaF YP) J0 B 8 1 (QaL 27 136 (([1,3,5,8,9]:List Nat).zip (QcC rf plan t s i)) dJ0 QcF) (QaG (Qb3 rf plan t s i)) (2+(Qb3 rf plan t s i).length)
 [(4,hvF),(6,hvI (s+1))] 0 [] []) [1,3,5,8] [(2,KS.auto),(3,KS.auto)] []=some ⟨27,136,QdM,[],.run,none,Qec rf plan t (s+1),Qcj rf plan t (s+1),
 [wq (s+1)=s+1,ltq i (↑rf.places.length:Int)=false]⟩:=by kernel_rfl
theorem QxV (B:Lo) (rf:Qae) (plan:List Int) (t:Qag):Qbi (Qap YP (QaF YP) J0 B 10 1 (Qaq YP 27 136 (([.agg (Qar rf).toArray,slI plan,.agg #[slI t.starts,slT t.grows.length (Qai Qbt t.grows),slT t.takes.length (Qai Qbt t.takes)]]).map (Qa6 0 4))) H00 1
 [(9,hvT)] 0 [] []) []=some (.bool false,
 [(!eqq (↑t.starts.length:Int) (↑rf.places.length:Int))=true]):=by kernel_rfl
def Qky (B:Lo) (rf:Qae) (plan:List Int) (t:Qag):List Prop:=[(!eqq (↑t.starts.length:Int) (↑rf.places.length:Int))=false]++([]:List Prop)
def QpT (rf:Qae) (plan:List Int) (t:Qag):Qaw:=[(9,hvF)]
theorem Qxu (B:Lo) (rf:Qae) (plan:List Int) (t:Qag):Qbi (Qap YP (QaF YP) J0 B 10 1 (Qaq YP 27 136 (([.agg (Qar rf).toArray,slI plan,.agg #[slI t.starts,slT t.grows.length (Qai Qbt t.grows),slT t.takes.length (Qai Qbt t.takes)]]).map (Qa6 0 4))) H00 1
 (QpT rf plan t++[(16,hvT)]) 0 [] []) []=some (.bool false,
 [(!eqq (↑t.grows.length:Int) rf.seasons)=true]++Qky B rf plan t):=by kernel_rfl
def QlG (B:Lo) (rf:Qae) (plan:List Int) (t:Qag):List Prop:=[(!eqq (↑t.grows.length:Int) rf.seasons)=false]++Qky B rf plan t
def QpM (rf:Qae) (plan:List Int) (t:Qag):Qaw:=QpT rf plan t++[(16,hvF)]
theorem Qxp (B:Lo) (rf:Qae) (plan:List Int) (t:Qag):Qbi (Qap YP (QaF YP) J0 B 10 1 (Qaq YP 27 136 (([.agg (Qar rf).toArray,slI plan,.agg #[slI t.starts,slT t.grows.length (Qai Qbt t.grows),slT t.takes.length (Qai Qbt t.takes)]]).map (Qa6 0 4))) H00 1
 (QpM rf plan t++[(24,hvT)]) 0 [] []) []=some (.bool false,
 [(!eqq (↑t.takes.length:Int) rf.seasons)=true]++QlG B rf plan t):=by kernel_rfl
theorem Qw4 (B:Lo) (rf:Qae) (plan:List Int) (t:Qag):landM (Qap YP (QaF YP) J0 B 12 1 (Qaq YP 27 136 (([.agg (Qar rf).toArray,slI plan,.agg #[slI t.starts,slT t.grows.length (Qai Qbt t.grows),slT t.takes.length (Qai Qbt t.takes)]]).map (Qa6 0 4))) H00 1
 (QpM rf plan t++[(24,hvF)]) 0 [] []) [1,3,5,7] [(1,KS.auto),(2,KS.auto)] []=some ⟨27,136,QeB,[],.run,none,Qe1 rf plan t (0),Qc9 rf plan t (0),
 [(!eqq (↑t.takes.length:Int) rf.seasons)=false]++QlG B rf plan t⟩:=by kernel_rfl
set_option maxHeartbeats 4000000 in
theorem Q08 (rf:Qae) (plan:List Int) (t:Qag) (hr:Qav rf=true) (hpl:(plan.length:Int)=rf.seasons) (hp:∀j:Nat,0<=plan.getD j default/\plan.getD j default<=1000000) {B:Lo} (hJ:∀w,B.has w->J0 w) {c0:CF}:∀m:Nat,(∀(i:Int),(rf.places.length - i.toNat)+1000000=m->∀(h0:0<=i) (hgl:(t.grows.length:Int)=rf.seasons) (htl:(t.takes.length:Int)=rf.seasons) (hsl:t.starts.length=rf.places.length),QzD B c0 rf plan t i->EndsT YP B c0 (.bool (Qwx t.starts (rf.places.map (Qbg rf.miss)) i && Qlh rf plan t.grows t.takes 0)))/\(∀(s:Int),(rf.seasons - s).toNat * 1000+900=m->∀(s0:0<=s) (hgl:(t.grows.length:Int)=rf.seasons) (htl:(t.takes.length:Int)=rf.seasons),Qzj B c0 rf plan t s->EndsT YP B c0 (.bool (Qlh rf plan t.grows t.takes s)))/\(∀(s i:Int),(rf.seasons - s).toNat * 1000+800 - i.toNat=m->∀(s0:0<=s) (s1:s < rf.seasons) (i0:0<=i) (i1:i<=rf.places.length) (hgl:(t.grows.length:Int)=rf.seasons) (htl:(t.takes.length:Int)=rf.seasons) (hg:(t.grows.getD s.toNat default).length=rf.places.length) (ht:(t.takes.getD s.toNat default).length=rf.places.length),Q0I B c0 rf plan t s i->EndsT YP B c0 (.bool (Qwx (t.grows.getD s.toNat default) (rf.places.map Qbf) i && (Qwx (t.takes.getD s.toNat default) (Qbd rf.places (plan.getD s.toNat default)) i && Qlh rf plan t.grows t.takes (s+1))))):=by
 intro m0;induction m0 using Nat.strongRecOn with
 | _ m0 ih0=>
   refine ⟨?_, ?_, ?_⟩
   ·intro i hm0 h0 hgl htl hsl ⟨dJ0,hdJ0,hg0⟩;have hsz:=Qau (Qal hr).1;have hsz:=Qau (Qal hr).1;by_cases q0:(i:Int) < ((↑rf.places.length:Int))
    ·have hp0:QaA (Qlm B rf plan t i dJ0):=by
      have k1:t.starts.length=rf.places.length:=(by omega)
      have k2:(t.grows.length:Int)=rf.seasons:=(by omega)
      have k3:(t.takes.length:Int)=rf.seasons:=(by omega)
      have hcs:=(QbW ((Qal hr).2 i h0 q0).1).1;have s2:=Qbk (xs:=t.starts) (ss:=rf.places.map (Qbg rf.miss)) (i:=i) (by omega);have m1:=QbE (f:=Qbg rf.miss) h0 q0;exact ⟨⟨trivial,Q5O (rf) (Qaa.count (rf.places.getD i.toNat default)) (by omega) (by omega)⟩,⟨⟨by omega,by omega,(Qat (z:=12) (fun _=> rfl) (by omega))⟩,⟨⟨by omega,by omega,(Qat (z:=12) (fun _=> rfl) (by omega))⟩,⟨⟨by omega,by omega,(Qat (z:=1) (fun _=> rfl) (by omega))⟩,⟨(Qbw q0),trivial⟩⟩⟩⟩⟩
     cases q1:inB (t.starts.getD i.toNat default) (Qaa.count (rf.places.getD i.toNat default)) (Qjr rf.miss (Qaa.count (rf.places.getD i.toNat default))) with
     | true=>
       have k1:t.starts.length=rf.places.length:=(by omega)
       have k2:(t.grows.length:Int)=rf.seasons:=(by omega)
       have k3:(t.takes.length:Int)=rf.seasons:=(by omega)
       have hcs:=(QbW ((Qal hr).2 i h0 q0).1).1;have s2:=Qbk (xs:=t.starts) (ss:=rf.places.map (Qbg rf.miss)) (i:=i) (by omega);have m1:=QbE (f:=Qbg rf.miss) h0 q0;exact ((ih0 _ (by omega)).1 (i+1) rfl (by omega) (by with_reducible assumption) (by with_reducible assumption) (by with_reducible assumption)
        (hg0.landM okF hJ Qac (QyD B rf plan t i dJ0)
        ⟨(Qbj (by omega) (by omega)),⟨⟨trivial,(by have t_:=rin (t.starts.getD i.toNat default) (Qaa.count (rf.places.getD i.toNat default)) (Qjr rf.miss (Qaa.count (rf.places.getD i.toNat default)));rw [q1] at t_;exact t_)⟩,hp0⟩⟩ (by kernel_rfl) (by kernel_rfl))).cast (by (rw [s2,m1];simp_all [Qbg];done))
     | false=>
       have k1:t.starts.length=rf.places.length:=(by omega)
       have k2:(t.grows.length:Int)=rf.seasons:=(by omega)
       have k3:(t.takes.length:Int)=rf.seasons:=(by omega)
       have hcs:=(QbW ((Qal hr).2 i h0 q0).1).1;have s2:=Qbk (xs:=t.starts) (ss:=rf.places.map (Qbg rf.miss)) (i:=i) (by omega);have m1:=QbE (f:=Qbg rf.miss) h0 q0;exact (GoE.endsT okF hJ Qac hg0 (Q0F B rf plan t i dJ0)
        ⟨⟨trivial,(by have t_:=rin (t.starts.getD i.toNat default) (Qaa.count (rf.places.getD i.toNat default)) (Qjr rf.miss (Qaa.count (rf.places.getD i.toNat default)));rw [q1] at t_;exact t_)⟩,hp0⟩).cast (by (rw [s2,m1];simp_all [Qbg];done))
    ·have k1:t.starts.length=rf.places.length:=(by omega)
     have k2:(t.grows.length:Int)=rf.seasons:=(by omega)
     have k3:(t.takes.length:Int)=rf.seasons:=(by omega)
     have s2:=Qjz (xs:=t.starts) (ss:=rf.places.map (Qbg rf.miss)) (i:=i) (by omega);exact ((ih0 _ (by omega)).2.1 (0) rfl (by omega) (by with_reducible assumption) (by with_reducible assumption)
      (hg0.landM okF hJ Qac (QzU B rf plan t i dJ0)
      ⟨(Qby (Int.not_lt.1 q0)),trivial⟩ (by kernel_rfl) (by kernel_rfl))).cast (by (rw [s2];simp;done))
   ·intro s hm0 s0 hgl htl ⟨dJ0,hdJ0,hg0⟩;have hsz:=Qau (Qal hr).1;have hsz:=Qau (Qal hr).1;have pd:plan.getD s.toNat 0=plan.getD s.toNat default:=rfl;by_cases q0:(s:Int) < rf.seasons
    ·have hp1:QaA (QkM B rf plan t s dJ0):=by
      have k2:(t.grows.length:Int)=rf.seasons:=(by omega)
      have k3:(t.takes.length:Int)=rf.seasons:=(by omega)
      have s2:=QcB (plan:=plan) (gs:=t.grows) (ts:=t.takes) q0;exact ⟨⟨by omega,by omega,(Qat (z:=1) (fun _=> rfl) (by omega))⟩,⟨(Qbw q0),trivial⟩⟩
     by_cases q1:((↑(List.length (t.grows.getD s.toNat default)):Int):Int)≠((↑rf.places.length:Int))
     ·have k2:(t.grows.length:Int)=rf.seasons:=(by omega)
      have k3:(t.takes.length:Int)=rf.seasons:=(by omega)
      have s2:=QcB (plan:=plan) (gs:=t.grows) (ts:=t.takes) q0;exact (GoE.endsT okF hJ Qac hg0 (Q0h B rf plan t s dJ0)
       ⟨(Qej q1),hp1⟩).cast (by (rw [s2,Q3a (by omega)];rfl))
     ·have hp2:QaA (QjQ B rf plan t s dJ0):=by
       have k2:(t.grows.length:Int)=rf.seasons:=(by omega)
       have k3:(t.takes.length:Int)=rf.seasons:=(by omega)
       have s2:=QcB (plan:=plan) (gs:=t.grows) (ts:=t.takes) q0;exact ⟨⟨by omega,by omega,(Qat (z:=1) (fun _=> rfl) (by omega))⟩,⟨(Qep (Decidable.of_not_not q1)),hp1⟩⟩
      by_cases q2:((↑(List.length (t.takes.getD s.toNat default)):Int):Int)≠((↑rf.places.length:Int))
      ·have k2:(t.grows.length:Int)=rf.seasons:=(by omega)
       have k3:(t.takes.length:Int)=rf.seasons:=(by omega)
       have s2:=QcB (plan:=plan) (gs:=t.grows) (ts:=t.takes) q0;exact (GoE.endsT okF hJ Qac hg0 (Q0l B rf plan t s dJ0)
        ⟨(Qej q2),hp2⟩).cast (by (rw [s2,Q3a (by omega)];rfl))
      ·have k2:(t.grows.length:Int)=rf.seasons:=(by omega)
       have k3:(t.takes.length:Int)=rf.seasons:=(by omega)
       have s2:=QcB (plan:=plan) (gs:=t.grows) (ts:=t.takes) q0;exact ((ih0 _ (by omega)).2.2 (s) (0) rfl (by with_reducible assumption) (by with_reducible assumption) (by omega) (by omega) (by with_reducible assumption) (by with_reducible assumption) (by omega) (by omega)
        (hg0.landM okF hJ Qac (Qyu B rf plan t s dJ0)
        ⟨(Qep (Decidable.of_not_not q2)),hp2⟩ (by kernel_rfl) (by kernel_rfl))).cast (by (rw [s2,Q3O (by omega) (by omega),Bool.and_assoc];done))
    ·have k2:(t.grows.length:Int)=rf.seasons:=(by omega)
     have k3:(t.takes.length:Int)=rf.seasons:=(by omega)
     have s2:=QvZ (rf:=rf) (plan:=plan) (gs:=t.grows) (ts:=t.takes) (i:=s) (by omega);exact (GoE.endsT okF hJ Qac hg0 (Qyy B rf plan t s dJ0)
      ⟨(Qby (Int.not_lt.1 q0)),trivial⟩).cast (by (rw [s2];done))
   ·intro s i hm0 s0 s1 i0 i1 hgl htl hg ht ⟨dJ0,hdJ0,hg0⟩;have hsz:=Qau (Qal hr).1;have hsz:=Qau (Qal hr).1;have hpk:=hp s.toNat;by_cases q0:(i:Int) < ((↑rf.places.length:Int))
    ·have hp3:QaA (QkA B rf plan t s i dJ0):=by
      have k2:(t.grows.length:Int)=rf.seasons:=(by omega)
      have k3:(t.takes.length:Int)=rf.seasons:=(by omega)
      have s2:=Qbk (xs:=(t.grows.getD s.toNat default)) (ss:=rf.places.map Qbf) (i:=i) (by omega);have s3:=Qbk (xs:=(t.takes.getD s.toNat default)) (ss:=Qbd rf.places (plan.getD s.toNat default)) (i:=i) (by omega);have m1:=QbE (f:=Qbf) i0 q0;have m2:(Qbd rf.places (plan.getD s.toNat default)).getD i.toNat default=Qcn (plan.getD s.toNat default) i (rf.places.getD i.toNat default):=Qch i0 q0;exact ⟨⟨by omega,by omega,(Qat (z:=12) (fun _=> rfl) (by omega))⟩,⟨⟨by omega,by omega,(Qat (z:=1) (fun _=> rfl) (by omega))⟩,⟨⟨by omega,by omega,(Qat (z:=1) (fun _=> rfl) (by omega))⟩,⟨(Qbw q0),trivial⟩⟩⟩⟩
     cases q1:inB (List.getD (t.grows.getD s.toNat default) i.toNat default) (Qaa.glo (rf.places.getD i.toNat default)) (Qaa.ghi (rf.places.getD i.toNat default)) with
     | true=>
       have hp4:QaA (QkQ B rf plan t s i dJ0):=by
        have k2:(t.grows.length:Int)=rf.seasons:=(by omega)
        have k3:(t.takes.length:Int)=rf.seasons:=(by omega)
        have s2:=Qbk (xs:=(t.grows.getD s.toNat default)) (ss:=rf.places.map Qbf) (i:=i) (by omega);have s3:=Qbk (xs:=(t.takes.getD s.toNat default)) (ss:=Qbd rf.places (plan.getD s.toNat default)) (i:=i) (by omega);have m1:=QbE (f:=Qbf) i0 q0;have m2:(Qbd rf.places (plan.getD s.toNat default)).getD i.toNat default=Qcn (plan.getD s.toNat default) i (rf.places.getD i.toNat default):=Qch i0 q0;exact ⟨⟨by omega,by omega,(Qat (z:=1) (fun _=> rfl) (by omega))⟩,⟨⟨by omega,by omega,(Qat (z:=12) (fun _=> rfl) (by omega))⟩,⟨⟨by omega,by omega,(Qat (z:=1) (fun _=> rfl) (by omega))⟩,⟨⟨by omega,by omega,(Qat (z:=1) (fun _=> rfl) (by omega))⟩,⟨⟨trivial,(by have t_:=Qib (List.getD (t.grows.getD s.toNat default) i.toNat default) (Qaa.glo (rf.places.getD i.toNat default)) (Qaa.ghi (rf.places.getD i.toNat default));rw [q1] at t_;exact t_)⟩,hp3⟩⟩⟩⟩⟩
       cases q2:hasB (plan.getD s.toNat default) i with
       | true=>
         have hp5:QaA (Qka B rf plan t s i dJ0):=by
          have k2:(t.grows.length:Int)=rf.seasons:=(by omega)
          have k3:(t.takes.length:Int)=rf.seasons:=(by omega)
          have s2:=Qbk (xs:=(t.grows.getD s.toNat default)) (ss:=rf.places.map Qbf) (i:=i) (by omega);have s3:=Qbk (xs:=(t.takes.getD s.toNat default)) (ss:=Qbd rf.places (plan.getD s.toNat default)) (i:=i) (by omega);have m1:=QbE (f:=Qbf) i0 q0;have m2:(Qbd rf.places (plan.getD s.toNat default)).getD i.toNat default=Qcn (plan.getD s.toNat default) i (rf.places.getD i.toNat default):=Qch i0 q0;exact ⟨⟨trivial,Q2Z (rf.places.getD i.toNat default) (true)⟩,⟨⟨trivial,(by have t_:=Q6v (plan.getD s.toNat default) (i) (by omega) (by omega);rw [q2] at t_;exact t_)⟩,hp4⟩⟩
         cases q3:inB (List.getD (t.takes.getD s.toNat default) i.toNat default) (if true=true then Qaa.slo (rf.places.getD i.toNat default) else Qaa.olo (rf.places.getD i.toNat default)) (if true=true then Qaa.shi (rf.places.getD i.toNat default) else Qaa.ohi (rf.places.getD i.toNat default)) with
         | true=>
           have k2:(t.grows.length:Int)=rf.seasons:=(by omega)
           have k3:(t.takes.length:Int)=rf.seasons:=(by omega)
           have s2:=Qbk (xs:=(t.grows.getD s.toNat default)) (ss:=rf.places.map Qbf) (i:=i) (by omega);have s3:=Qbk (xs:=(t.takes.getD s.toNat default)) (ss:=Qbd rf.places (plan.getD s.toNat default)) (i:=i) (by omega);have m1:=QbE (f:=Qbf) i0 q0;have m2:(Qbd rf.places (plan.getD s.toNat default)).getD i.toNat default=Qcn (plan.getD s.toNat default) i (rf.places.getD i.toNat default):=Qch i0 q0;exact ((ih0 _ (by omega)).2.2 (s) (i+1) rfl (by with_reducible assumption) (by with_reducible assumption) (by omega) (by omega) (by with_reducible assumption) (by with_reducible assumption) (by with_reducible assumption) (by with_reducible assumption)
            (hg0.landM okF hJ Qac (Qzu B rf plan t s i dJ0)
            ⟨(Qbj (by omega) (by omega)),⟨⟨trivial,(by have t_:=Qib (List.getD (t.takes.getD s.toNat default) i.toNat default) (if true=true then Qaa.slo (rf.places.getD i.toNat default) else Qaa.olo (rf.places.getD i.toNat default)) (if true=true then Qaa.shi (rf.places.getD i.toNat default) else Qaa.ohi (rf.places.getD i.toNat default));rw [q3] at t_;exact t_)⟩,hp5⟩⟩ (by kernel_rfl) (by kernel_rfl))).cast (by (rw [s2,s3,m1,m2];simp_all [Qbf,Qcn,QlL,Qci];done))
         | false=>
           have k2:(t.grows.length:Int)=rf.seasons:=(by omega)
           have k3:(t.takes.length:Int)=rf.seasons:=(by omega)
           have s2:=Qbk (xs:=(t.grows.getD s.toNat default)) (ss:=rf.places.map Qbf) (i:=i) (by omega);have s3:=Qbk (xs:=(t.takes.getD s.toNat default)) (ss:=Qbd rf.places (plan.getD s.toNat default)) (i:=i) (by omega);have m1:=QbE (f:=Qbf) i0 q0;have m2:(Qbd rf.places (plan.getD s.toNat default)).getD i.toNat default=Qcn (plan.getD s.toNat default) i (rf.places.getD i.toNat default):=Qch i0 q0;exact (GoE.endsT okF hJ Qac hg0 (QzI B rf plan t s i dJ0)
            ⟨⟨trivial,(by have t_:=Qib (List.getD (t.takes.getD s.toNat default) i.toNat default) (if true=true then Qaa.slo (rf.places.getD i.toNat default) else Qaa.olo (rf.places.getD i.toNat default)) (if true=true then Qaa.shi (rf.places.getD i.toNat default) else Qaa.ohi (rf.places.getD i.toNat default));rw [q3] at t_;exact t_)⟩,hp5⟩).cast (by (rw [s2,s3,m1,m2];simp_all [Qbf,Qcn,QlL,Qci];done))
       | false=>
         have hp6:QaA (QkY B rf plan t s i dJ0):=by
          have k2:(t.grows.length:Int)=rf.seasons:=(by omega)
          have k3:(t.takes.length:Int)=rf.seasons:=(by omega)
          have s2:=Qbk (xs:=(t.grows.getD s.toNat default)) (ss:=rf.places.map Qbf) (i:=i) (by omega);have s3:=Qbk (xs:=(t.takes.getD s.toNat default)) (ss:=Qbd rf.places (plan.getD s.toNat default)) (i:=i) (by omega);have m1:=QbE (f:=Qbf) i0 q0;have m2:(Qbd rf.places (plan.getD s.toNat default)).getD i.toNat default=Qcn (plan.getD s.toNat default) i (rf.places.getD i.toNat default):=Qch i0 q0;exact ⟨⟨trivial,Q2Z (rf.places.getD i.toNat default) (false)⟩,⟨⟨trivial,(by have t_:=Q6v (plan.getD s.toNat default) (i) (by omega) (by omega);rw [q2] at t_;exact t_)⟩,hp4⟩⟩
         cases q3:inB (List.getD (t.takes.getD s.toNat default) i.toNat default) (if false=true then Qaa.slo (rf.places.getD i.toNat default) else Qaa.olo (rf.places.getD i.toNat default)) (if false=true then Qaa.shi (rf.places.getD i.toNat default) else Qaa.ohi (rf.places.getD i.toNat default)) with
         | true=>
           have k2:(t.grows.length:Int)=rf.seasons:=(by omega)
           have k3:(t.takes.length:Int)=rf.seasons:=(by omega)
           have s2:=Qbk (xs:=(t.grows.getD s.toNat default)) (ss:=rf.places.map Qbf) (i:=i) (by omega);have s3:=Qbk (xs:=(t.takes.getD s.toNat default)) (ss:=Qbd rf.places (plan.getD s.toNat default)) (i:=i) (by omega);have m1:=QbE (f:=Qbf) i0 q0;have m2:(Qbd rf.places (plan.getD s.toNat default)).getD i.toNat default=Qcn (plan.getD s.toNat default) i (rf.places.getD i.toNat default):=Qch i0 q0;exact ((ih0 _ (by omega)).2.2 (s) (i+1) rfl (by with_reducible assumption) (by with_reducible assumption) (by omega) (by omega) (by with_reducible assumption) (by with_reducible assumption) (by with_reducible assumption) (by with_reducible assumption)
            (hg0.landM okF hJ Qac (QzT B rf plan t s i dJ0)
            ⟨(Qbj (by omega) (by omega)),⟨⟨trivial,(by have t_:=Qib (List.getD (t.takes.getD s.toNat default) i.toNat default) (if false=true then Qaa.slo (rf.places.getD i.toNat default) else Qaa.olo (rf.places.getD i.toNat default)) (if false=true then Qaa.shi (rf.places.getD i.toNat default) else Qaa.ohi (rf.places.getD i.toNat default));rw [q3] at t_;exact t_)⟩,hp6⟩⟩ (by kernel_rfl) (by kernel_rfl))).cast (by (rw [s2,s3,m1,m2];simp_all [Qbf,Qcn,QlL,Qci];done))
         | false=>
           have k2:(t.grows.length:Int)=rf.seasons:=(by omega)
           have k3:(t.takes.length:Int)=rf.seasons:=(by omega)
           have s2:=Qbk (xs:=(t.grows.getD s.toNat default)) (ss:=rf.places.map Qbf) (i:=i) (by omega);have s3:=Qbk (xs:=(t.takes.getD s.toNat default)) (ss:=Qbd rf.places (plan.getD s.toNat default)) (i:=i) (by omega);have m1:=QbE (f:=Qbf) i0 q0;have m2:(Qbd rf.places (plan.getD s.toNat default)).getD i.toNat default=Qcn (plan.getD s.toNat default) i (rf.places.getD i.toNat default):=Qch i0 q0;exact (GoE.endsT okF hJ Qac hg0 (QwM B rf plan t s i dJ0)
            ⟨⟨trivial,(by have t_:=Qib (List.getD (t.takes.getD s.toNat default) i.toNat default) (if false=true then Qaa.slo (rf.places.getD i.toNat default) else Qaa.olo (rf.places.getD i.toNat default)) (if false=true then Qaa.shi (rf.places.getD i.toNat default) else Qaa.ohi (rf.places.getD i.toNat default));rw [q3] at t_;exact t_)⟩,hp6⟩).cast (by (rw [s2,s3,m1,m2];simp_all [Qbf,Qcn,QlL,Qci];done))
     | false=>
       have k2:(t.grows.length:Int)=rf.seasons:=(by omega)
       have k3:(t.takes.length:Int)=rf.seasons:=(by omega)
       have s2:=Qbk (xs:=(t.grows.getD s.toNat default)) (ss:=rf.places.map Qbf) (i:=i) (by omega);have s3:=Qbk (xs:=(t.takes.getD s.toNat default)) (ss:=Qbd rf.places (plan.getD s.toNat default)) (i:=i) (by omega);have m1:=QbE (f:=Qbf) i0 q0;have m2:(Qbd rf.places (plan.getD s.toNat default)).getD i.toNat default=Qcn (plan.getD s.toNat default) i (rf.places.getD i.toNat default):=Qch i0 q0;exact (GoE.endsT okF hJ Qac hg0 (Qww B rf plan t s i dJ0)
        ⟨⟨trivial,(by have t_:=Qib (List.getD (t.grows.getD s.toNat default) i.toNat default) (Qaa.glo (rf.places.getD i.toNat default)) (Qaa.ghi (rf.places.getD i.toNat default));rw [q1] at t_;exact t_)⟩,hp3⟩).cast (by (rw [s2,s3,m1,m2];simp_all [Qbf,Qcn,QlL,Qci];done))
    ·have k2:(t.grows.length:Int)=rf.seasons:=(by omega)
     have k3:(t.takes.length:Int)=rf.seasons:=(by omega)
     have s2:=Qjz (xs:=(t.grows.getD s.toNat default)) (ss:=rf.places.map Qbf) (i:=i) (by omega);have s3:=Qjz (xs:=(t.takes.getD s.toNat default)) (ss:=Qbd rf.places (plan.getD s.toNat default)) (i:=i) (by omega);exact ((ih0 _ (by omega)).2.1 (s+1) rfl (by omega) (by with_reducible assumption) (by with_reducible assumption)
      (hg0.landM okF hJ Qac (QwU B rf plan t s i dJ0)
      ⟨(Qbj (by omega) (by omega)),⟨(Qby (Int.not_lt.1 q0)),trivial⟩⟩ (by kernel_rfl) (by kernel_rfl))).cast (by (rw [s2,s3];simp;done))
set_option maxHeartbeats 4000000 in
theorem Q2F (rf:Qae) (plan:List Int) (t:Qag) (hr:Qav rf=true) (hpl:(plan.length:Int)=rf.seasons) (hp:∀j:Nat,0<=plan.getD j default/\plan.getD j default<=1000000) {B:Lo} (hJ:∀w,B.has w->J0 w):EndsT YP B (Qaq YP 27 136 (([.agg (Qar rf).toArray,slI plan,.agg #[slI t.starts,slT t.grows.length (Qai Qbt t.grows),slT t.takes.length (Qai Qbt t.takes)]]).map (Qa6 0 4))) (.bool (Qa5 rf plan t)):=by
 have hsz:=Qau (Qal hr).1;by_cases q0:((↑t.starts.length:Int):Int)≠((↑rf.places.length:Int))
 ·exact (GoE.endsT okF hJ Qac GoE.start (QxV B rf plan t)
   ⟨(Qej q0),trivial⟩).cast (by (rw [Qoq (by omega)];done))
 ·have hp7:QaA (Qky B rf plan t):=by
   exact ⟨(Qep (Decidable.of_not_not q0)),trivial⟩
  by_cases q1:((↑t.grows.length:Int):Int)≠rf.seasons
  ·have k1:t.starts.length=rf.places.length:=(by omega)
   exact (GoE.endsT okF hJ Qac GoE.start (Qxu B rf plan t)
    ⟨(Qej q1),hp7⟩).cast (by (rw [Qoq (by omega)];done))
  ·have hp8:QaA (QlG B rf plan t):=by
    exact ⟨(Qep (Decidable.of_not_not q1)),hp7⟩
   by_cases q2:((↑t.takes.length:Int):Int)≠rf.seasons
   ·have k1:t.starts.length=rf.places.length:=(by omega)
    have k2:(t.grows.length:Int)=rf.seasons:=(by omega)
    exact (GoE.endsT okF hJ Qac GoE.start (Qxp B rf plan t)
     ⟨(Qej q2),hp8⟩).cast (by (rw [Qoq (by omega)];done))
   ·have k1:t.starts.length=rf.places.length:=(by omega)
    have k2:(t.grows.length:Int)=rf.seasons:=(by omega)
    have k3:(t.takes.length:Int)=rf.seasons:=(by omega)
    exact ((Q08 rf plan t hr hpl hp hJ _).1 (0) rfl (by omega) (by with_reducible assumption) (by with_reducible assumption) (by with_reducible assumption)
     (GoE.start.landM okF hJ Qac (Qw4 B rf plan t)
     ⟨(Qep (Decidable.of_not_not q2)),hp8⟩ (by kernel_rfl) (by kernel_rfl))).cast (by (rw [Qyr (by omega) (by omega) (by omega)];done))
theorem Q2V (rf:Qae) (plan:List Int) (t:Qag) (hr:Qav rf=true) (hpl:(plan.length:Int)=rf.seasons) (hp:∀j:Nat,0<=plan.getD j default/\plan.getD j default<=1000000):Qa3 YP J0 27 #[.agg (Qar rf).toArray,slI plan,.agg #[slI t.starts,slT t.grows.length (Qai Qbt t.grows),slT t.takes.length (Qai Qbt t.takes)]] (.bool (Qa5 rf plan t)):=
 Qbr (ts:=[.agg (Qar rf).toArray,slI plan,.agg #[slI t.starts,slT t.grows.length (Qai Qbt t.grows),slT t.takes.length (Qai Qbt t.takes)]]) Qco (c0:=Qaq YP 27 136 (([.agg (Qar rf).toArray,slI plan,.agg #[slI t.starts,slT t.grows.length (Qai Qbt t.grows),slT t.takes.length (Qai Qbt t.takes)]]).map (Qa6 0 4))) (by kernel_rfl) (by kernel_rfl) fun B hJ=> Q2F rf plan t hr hpl hp hJ
end
end Go.Proofs.Ytncjjangllkokaa

namespace Go.Proofs.Ytncjjangllkokaa
open Go Go.CE Go.RowKit
noncomputable section
set_option maxRecDepth 100000
theorem Q4Y {n:Nat} (h:n<=4):((Qew n:Nat):Int)<=16:=by
 unfold Qew;have:n=0\/n=1\/n=2\/n=3\/n=4:=by omega
 rcases this with rfl | rfl | rfl | rfl | rfl <;> decide
theorem Qj5 {rf:Qae} {plan:List Int} (hr:Qav rf=true) (hp:QaO rf plan=true) (j:Nat):0<=plan.getD j 0/\plan.getD j 0<=15:=by
 have h:=(Qa8 hp).2;have h4:=Q4Y (n:=rf.places.length) (by have:=Qau (Qal hr).1;omega);by_cases hj:j < plan.length
 ·have e:plan.getD j 0=plan[j]:=by simp [List.getD_eq_getElem?_getD,hj]
  have:=h plan[j] (List.getElem_mem hj);rw [e];omega
 ·rw [List.getD_eq_getElem?_getD,List.getElem?_eq_none (by omega)];exact ⟨Int.le_refl _,by decide⟩
theorem Qht {xs:List Int} {ss:List Span} (h:Qox xs ss=true):xs.length=ss.length/\∀k:Int,0<=k->k < xs.length->(ss.getD k.toNat default).lo<=xs.getD k.toNat default/\xs.getD k.toNat default<=(ss.getD k.toNat default).hi:=by
 unfold Qox at h;simp only [YB,decide_eq_true_iff] at h;exact ⟨h.1,fun k h0 h1=> QhJ.1 (Qu7 h.2 h0 h1)⟩
theorem QkD {rf:Qae} {plan:List Int} {t:Qag} (h:Qa5 rf plan t=true):Qox t.starts (rf.places.map (Qbg rf.miss))=true/\(t.grows.length:Int)=rf.seasons/\(t.takes.length:Int)=rf.seasons/\∀s:Int,0<=s->s < rf.seasons->Qox (t.grows.getD s.toNat default) (rf.places.map Qbf)=true/\Qox (t.takes.getD s.toNat default) (Qbd rf.places (plan.getD s.toNat 0))=true:=by
 unfold Qa5 at h;simp only [YB,decide_eq_true_iff] at h;refine ⟨h.1,h.2.1,h.2.2.1,fun s h0 h1=> ?_⟩;have:=Qu7 h.2.2.2 h0 h1;unfold Q0P at this;simpa only [YB] using this
theorem Q4G {rf:Qae} (hr:Qav rf=true):Qje rf.places:=by
 have hs:=Qau (Qal hr).1;refine ⟨by omega,fun k h0 h1=> ?_⟩;have h:=(Qal hr).2 k h0 h1;have hp:=QbW h.1;exact ⟨hp.2.1,hp.2.2.2.2.2.1,h.2.1,h.2.2⟩
theorem Qsx {ps:List Qaa} {p k:Int} (h0:0<=k) (h:k < ps.length):(Qbd ps p).getD k.toNat default=Qcn p k (ps.getD k.toNat default):=Qch h0 h
theorem QxD {ps:List Qaa} {p:Int}:(Qbd ps p).length=ps.length:=by rw [Qbd,Qcb];omega
theorem Q0s {rf:Qae} (hr:Qav rf=true) {p k:Int} (h0:0<=k) (h:k < rf.places.length):0<=(Qcn p k (rf.places.getD k.toNat default)).lo/\(Qcn p k (rf.places.getD k.toNat default)).lo<=(Qcn p k (rf.places.getD k.toNat default)).hi/\(Qcn p k (rf.places.getD k.toNat default)).hi<=1000000:=by
 have hp:=QbW ((Qal hr).2 k h0 h).1;unfold Qcn;split
 ·exact hp.2.2.2.2.2.2.2.1
 ·exact hp.2.2.2.2.2.2.1
theorem Qbo {rf:Qae} {plan:List Int} {t:Qag} (hr:Qav rf=true) (ht:Qa5 rf plan t=true):OkT rf.places rf.seasons t.grows t.takes (Qab t.starts)/\t.starts.length=rf.places.length:=by
 have hs:=Qau (Qal hr).1;obtain ⟨h1,h2,h3,h4⟩:=QkD ht;obtain ⟨s1,s2⟩:=Qht h1;rw [List.length_map] at s1;have st:∀k:Int,0<=k->k < 4->0<=nth t.starts k/\nth t.starts k<=4000000:=fun k k0 k1=> by
  by_cases hk:k < rf.places.length
  ·have hp:=QbW ((Qal hr).2 k k0 hk).1;have:=s2 k k0 (by omega);rw [QbE k0 hk] at this;have hm:=QiA (a:=(rf.places.getD k.toNat default).count) (r:=rf.miss) (by omega) (by omega);have hm2:(rf.places.getD k.toNat default).count * rf.miss<=1000000 * 2000:=Int.mul_le_mul hp.1.2 hs.2.1.2 hs.2.1.1 (by omega);have e2:((rf.places.getD k.toNat default).count * rf.miss).tdiv 1000=((rf.places.getD k.toNat default).count * rf.miss) / 1000:=Int.tdiv_eq_ediv_of_nonneg hm.1;simp only [Qbg,Qjr] at this;unfold nth;omega
  ·unfold nth;rw [List.getD_eq_getElem?_getD,List.getElem?_eq_none (by omega)];exact ⟨Int.le_refl _,by decide⟩
 have a0:=st 0 (by omega) (by omega);have a1:=st 1 (by omega) (by omega);have a2:=st 2 (by omega) (by omega);have a3:=st 3 (by omega) (by omega);have es:(Qab t.starts).sum=nth t.starts 0+nth t.starts 1+nth t.starts 2+nth t.starts 3:=rfl;refine ⟨⟨Q4G hr,by omega,by omega,by omega,h2,h3,fun k hk=> ?_,fun k hk=> ?_,⟨⟨a0.1,a1.1,a2.1,a3.1⟩,by omega⟩,by omega⟩,s1⟩
 ·obtain ⟨g1,g2⟩:=Qht (h4 k (by omega) hk).1;rw [List.length_map] at g1;simp only [Int.toNat_natCast] at g1 g2;refine ⟨g1,fun j j0 j1=> ?_⟩;have hp:=QbW ((Qal hr).2 j j0 (by omega)).1;have:=g2 j j0 (by rw [g1];exact j1);rw [QbE j0 j1] at this;simp only [Qbf] at this;show 0<=(t.grows.getD k default).getD j.toNat default/\(t.grows.getD k default).getD j.toNat default<=2000;omega
 ·obtain ⟨g1,g2⟩:=Qht (h4 k (by omega) hk).2;rw [QxD] at g1;simp only [Int.toNat_natCast] at g1 g2;refine ⟨g1,fun j j0 j1=> ?_⟩;have:=g2 j j0 (by rw [g1];exact j1);rw [Qsx j0 j1] at this;have hp:=Q0s hr (p:=plan.getD k 0) j0 j1;show 0<=(t.takes.getD k default).getD j.toNat default/\(t.takes.getD k default).getD j.toNat default<=1000000;omega
abbrev QcI (xs:List (List Int)):Value:=slT xs.length (Qai Qbt xs)
def QjB (rf:Qae) (plan:List Int):Array Value:=#[slT rf.places.length (Qai Qad rf.places),.int .i64 rf.miss,.int .i64 rf.seasons,.int .i64 (plan.getD 0 0),.int .i64 (plan.getD 1 0),.int .i64 (plan.getD 2 0),.int .i64 (plan.getD 3 0)]
def Qp4 (rf:Qae) (plan:List Int):Array Value:=#[.agg #[slT rf.places.length (Qai Qad rf.places),.int .i64 rf.miss,.int .i64 rf.seasons],slT plan.length (Qai QaZ plan)]
def QmX (t:Qag):Array Value:=#[slT t.starts.length (Qai QaZ t.starts),slT t.grows.length (Qai Qbt t.grows),slT t.takes.length (Qai Qbt t.takes)]
def QmH (rf:Qae):Array Value:=#[slT rf.places.length (Qai Qad rf.places),.int .i64 rf.miss,.int .i64 rf.seasons]
def Qpp (B:Lo) (rf:Qae) (plan:List Int) (t:Qag):List Prop:=[QaA []/\Qa3 YP J0 50 #[.agg (QmH rf)] (.bool true)]++([]:List Prop)
def QvV (rf:Qae) (plan:List Int) (t:Qag):Qaw:=[(6,Qan.pure (.bool true) [])]
def Qnj (B:Lo) (rf:Qae) (plan:List Int) (t:Qag):List Prop:=[QaA []/\Qa3 YP J0 52 (Qp4 rf plan) (.agg (QjB rf plan)),QaA []/\Qa3 YP J0 51 (Qp4 rf plan) (.bool true)]++Qpp B rf plan t
def Qv3 (rf:Qae) (plan:List Int) (t:Qag):Qaw:=QvV rf plan t++[(11,Qan.pure (.bool true) []),(17,Qan.pure (.agg (QjB rf plan)) [])]
theorem Q2f (B:Lo) (rf:Qae) (plan:List Int) (t:Qag):Qbi (Qap YP (QaF YP) J0 B 13 1 (Qaq YP 26 37 (([.agg (Qar rf).toArray,slI plan,.agg #[slI t.starts,QcI t.grows,QcI t.takes]]).map (Qa6 0 4))) H00 1
 (Qv3 rf plan t++[(19,Qan.pure (.bool true) []),(24,Qan.pure (.tuple #[slT (List.length (Qa9 rf.seasons rf.places t.grows t.takes (Qab t.starts))) (Qai Qbt (Qa9 rf.seasons rf.places t.grows t.takes (Qab t.starts))),.agg #[.int .i64 (F4.sum (Qab t.starts)),.int .i64 (Qa4 0 rf.seasons (Qba rf.places t.grows t.takes (Qab t.starts))),.int .i64 (Qa4 0 rf.seasons (QaS rf.places t.grows t.takes (Qab t.starts))),.int .i64 (Qa4 0 rf.seasons (Qbe rf.places t.grows t.takes (Qab t.starts))),.int .i64 (F4.sum (stF rf.places t.grows t.takes (Qab t.starts) (Int.toNat rf.seasons)))]]) [])]) 0 [] []) []=some (.tuple #[slT (List.length (Qa9 rf.seasons rf.places t.grows t.takes (Qab t.starts))) (Qai Qbt (Qa9 rf.seasons rf.places t.grows t.takes (Qab t.starts))),.agg #[.int .i64 (F4.sum (Qab t.starts)),.int .i64 (Qa4 0 rf.seasons (Qba rf.places t.grows t.takes (Qab t.starts))),.int .i64 (Qa4 0 rf.seasons (QaS rf.places t.grows t.takes (Qab t.starts))),.int .i64 (Qa4 0 rf.seasons (Qbe rf.places t.grows t.takes (Qab t.starts))),.int .i64 (F4.sum (stF rf.places t.grows t.takes (Qab t.starts) (Int.toNat rf.seasons)))],.int .i64 0],
 [QaA []/\Qa3 YP J0 59 #[.agg (QmH rf),.agg (QmX t)] (.tuple #[slT (List.length (Qa9 rf.seasons rf.places t.grows t.takes (Qab t.starts))) (Qai Qbt (Qa9 rf.seasons rf.places t.grows t.takes (Qab t.starts))),.agg #[.int .i64 (F4.sum (Qab t.starts)),.int .i64 (Qa4 0 rf.seasons (Qba rf.places t.grows t.takes (Qab t.starts))),.int .i64 (Qa4 0 rf.seasons (QaS rf.places t.grows t.takes (Qab t.starts))),.int .i64 (Qa4 0 rf.seasons (Qbe rf.places t.grows t.takes (Qab t.starts))),.int .i64 (F4.sum (stF rf.places t.grows t.takes (Qab t.starts) (Int.toNat rf.seasons)))]]),QaA []/\Qa3 YP J0 58 #[.agg (QjB rf plan),.agg (QmX t)] (.bool true)]++Qnj B rf plan t):=by kernel_rfl
theorem Q17 (B:Lo) (rf:Qae) (plan:List Int) (t:Qag):Qbi (Qap YP (QaF YP) J0 B 10 1 (Qaq YP 26 37 (([.agg (Qar rf).toArray,slI plan,.agg #[slI t.starts,QcI t.grows,QcI t.takes]]).map (Qa6 0 4))) H00 1
 (Qv3 rf plan t++[(19,Qan.pure (.bool false) [])]) 0 [] []) []=some (.tuple #[slT 0 #[],.agg #[.int .i64 0,.int .i64 0,.int .i64 0,.int .i64 0,.int .i64 0],.int .i64 2],
 [QaA []/\Qa3 YP J0 58 #[.agg (QjB rf plan),.agg (QmX t)] (.bool false)]++Qnj B rf plan t):=by kernel_rfl
theorem Q2e (B:Lo) (rf:Qae) (plan:List Int) (t:Qag):Qbi (Qap YP (QaF YP) J0 B 10 1 (Qaq YP 26 37 (([.agg (Qar rf).toArray,slI plan,.agg #[slI t.starts,QcI t.grows,QcI t.takes]]).map (Qa6 0 4))) H00 1
 (QvV rf plan t++[(11,Qan.pure (.bool false) [])]) 0 [] []) []=some (.tuple #[slT 0 #[],.agg #[.int .i64 0,.int .i64 0,.int .i64 0,.int .i64 0,.int .i64 0],.int .i64 2],
 [QaA []/\Qa3 YP J0 51 (Qp4 rf plan) (.bool false)]++Qpp B rf plan t):=by kernel_rfl
theorem Q21 (B:Lo) (rf:Qae) (plan:List Int) (t:Qag):Qbi (Qap YP (QaF YP) J0 B 10 1 (Qaq YP 26 37 (([.agg (Qar rf).toArray,slI plan,.agg #[slI t.starts,QcI t.grows,QcI t.takes]]).map (Qa6 0 4))) H00 1
 [(6,Qan.pure (.bool false) [])] 0 [] []) []=some (.tuple #[slT 0 #[],.agg #[.int .i64 0,.int .i64 0,.int .i64 0,.int .i64 0,.int .i64 0],.int .i64 2],
 [QaA []/\Qa3 YP J0 50 #[.agg (QmH rf)] (.bool false)]):=by kernel_rfl
set_option maxHeartbeats 4000000 in
theorem Q3A (rf:Qae) (plan:List Int) (t:Qag)  {B:Lo} (hJ:∀w,B.has w->J0 w):EndsT YP B (Qaq YP 26 37 (([.agg (Qar rf).toArray,slI plan,.agg #[slI t.starts,QcI t.grows,QcI t.takes]]).map (Qa6 0 4))) (.tuple #[if Qav rf && (QaO rf plan && Qa5 rf plan t) then QcI (Qa9 rf.seasons rf.places t.grows t.takes (Qab t.starts)) else QcI [],.agg #[.int .i64 (if Qav rf && (QaO rf plan && Qa5 rf plan t) then (Qab t.starts).sum else 0),.int .i64 (if Qav rf && (QaO rf plan && Qa5 rf plan t) then Qa4 0 rf.seasons (Qba rf.places t.grows t.takes (Qab t.starts)) else 0),.int .i64 (if Qav rf && (QaO rf plan && Qa5 rf plan t) then Qa4 0 rf.seasons (QaS rf.places t.grows t.takes (Qab t.starts)) else 0),.int .i64 (if Qav rf && (QaO rf plan && Qa5 rf plan t) then Qa4 0 rf.seasons (Qbe rf.places t.grows t.takes (Qab t.starts)) else 0),.int .i64 (if Qav rf && (QaO rf plan && Qa5 rf plan t) then (stF rf.places t.grows t.takes (Qab t.starts) rf.seasons.toNat).sum else 0)],.int .i64 (if Qav rf && (QaO rf plan && Qa5 rf plan t) then 0 else 2)]):=by
 cases q0:Qav rf with
 | true=>
   have hp0:QaA (Qpp B rf plan t):=by
    have hsz:=Qau (Qal ‹Qav rf=true›).1;exact ⟨⟨trivial,(by have t_:=QzQ (rf);rw [q0] at t_;exact t_)⟩,trivial⟩
   cases q1:QaO rf plan with
   | true=>
     have hp1:QaA (Qnj B rf plan t):=by
      have hsz:=Qau (Qal ‹Qav rf=true›).1;have hpf:=(Qa8 ‹QaO rf plan=true›).1;have hpg:=(fun j=> (fun h=> ⟨h.1,by omega⟩) (Qj5 ‹Qav rf=true› ‹QaO rf plan=true› j):∀j:Nat,0<=plan.getD j 0/\plan.getD j 0<=1000000)
      exact ⟨⟨trivial,Q0x (rf) (plan) (by omega) (by omega)⟩,⟨⟨trivial,(by have t_:=Qz2 (rf) (plan) (by omega);rw [q1] at t_;exact t_)⟩,hp0⟩⟩
     cases q2:Qa5 rf plan t with
     | true=>
       have hsz:=Qau (Qal ‹Qav rf=true›).1;have hpf:=(Qa8 ‹QaO rf plan=true›).1;have hpg:=(fun j=> (fun h=> ⟨h.1,by omega⟩) (Qj5 ‹Qav rf=true› ‹QaO rf plan=true› j):∀j:Nat,0<=plan.getD j 0/\plan.getD j 0<=1000000)
       have hok:=Qbo ‹Qav rf=true› ‹Qa5 rf plan t=true›;have hok1:=hok.1;have hok2:=hok.2;exact (GoE.endsT okF hJ Qac GoE.start (Q2f B rf plan t)
        ⟨⟨trivial,Q6i (rf) (t) (by with_reducible assumption) (by with_reducible assumption) (by omega) (by omega)⟩,⟨⟨trivial,(by have t_:=Qvp (rf) (plan) (t) (by with_reducible assumption) (by omega) (by with_reducible assumption);rw [q2] at t_;exact t_)⟩,hp1⟩⟩).cast (by rfl)
     | false=>
       have hsz:=Qau (Qal ‹Qav rf=true›).1;have hpf:=(Qa8 ‹QaO rf plan=true›).1;have hpg:=(fun j=> (fun h=> ⟨h.1,by omega⟩) (Qj5 ‹Qav rf=true› ‹QaO rf plan=true› j):∀j:Nat,0<=plan.getD j 0/\plan.getD j 0<=1000000)
       exact (GoE.endsT okF hJ Qac GoE.start (Q17 B rf plan t)
        ⟨⟨trivial,(by have t_:=Qvp (rf) (plan) (t) (by with_reducible assumption) (by omega) (by with_reducible assumption);rw [q2] at t_;exact t_)⟩,hp1⟩).cast (by rfl)
   | false=>
     have hsz:=Qau (Qal ‹Qav rf=true›).1;exact (GoE.endsT okF hJ Qac GoE.start (Q2e B rf plan t)
      ⟨⟨trivial,(by have t_:=Qz2 (rf) (plan) (by omega);rw [q1] at t_;exact t_)⟩,hp0⟩).cast (by rfl)
 | false=>
   exact (GoE.endsT okF hJ Qac GoE.start (Q21 B rf plan t)
    ⟨⟨trivial,(by have t_:=QzQ (rf);rw [q0] at t_;exact t_)⟩,trivial⟩).cast (by rfl)
theorem Q6o (rf:Qae) (plan:List Int) (t:Qag)  :Qa3 YP J0 26 #[.agg (Qar rf).toArray,slI plan,.agg #[slI t.starts,QcI t.grows,QcI t.takes]] (.tuple #[if Qav rf && (QaO rf plan && Qa5 rf plan t) then QcI (Qa9 rf.seasons rf.places t.grows t.takes (Qab t.starts)) else QcI [],.agg #[.int .i64 (if Qav rf && (QaO rf plan && Qa5 rf plan t) then (Qab t.starts).sum else 0),.int .i64 (if Qav rf && (QaO rf plan && Qa5 rf plan t) then Qa4 0 rf.seasons (Qba rf.places t.grows t.takes (Qab t.starts)) else 0),.int .i64 (if Qav rf && (QaO rf plan && Qa5 rf plan t) then Qa4 0 rf.seasons (QaS rf.places t.grows t.takes (Qab t.starts)) else 0),.int .i64 (if Qav rf && (QaO rf plan && Qa5 rf plan t) then Qa4 0 rf.seasons (Qbe rf.places t.grows t.takes (Qab t.starts)) else 0),.int .i64 (if Qav rf && (QaO rf plan && Qa5 rf plan t) then (stF rf.places t.grows t.takes (Qab t.starts) rf.seasons.toNat).sum else 0)],.int .i64 (if Qav rf && (QaO rf plan && Qa5 rf plan t) then 0 else 2)]):=
 Qbr (ts:=[.agg (Qar rf).toArray,slI plan,.agg #[slI t.starts,QcI t.grows,QcI t.takes]]) Qco (c0:=Qaq YP 26 37 (([.agg (Qar rf).toArray,slI plan,.agg #[slI t.starts,QcI t.grows,QcI t.takes]]).map (Qa6 0 4))) (by kernel_rfl) (by kernel_rfl) fun B hJ=> Q3A rf plan t  hJ
end
end Go.Proofs.Ytncjjangllkokaa

namespace Go.Proofs.Ytncjjangllkokaa
open Go Go.CE Go.RowKit
def inN (n:Int):Value:=.int .i64 n
def QaI (g:FuncId):Bool:=Nat.ble 3 g && (Nat.blt g 116 && !([]:List Nat).any (Nat.beq g))
theorem Qaj:∀g,QaI g=true->QaF YP g=true:=by
 have h:(List.range 116).all (fun g=> !(QaI g) || QaF YP g)=true:=by decide+kernel
 intro g hg;have hg':=hg;simp only [QaI,YB] at hg;have h1:g < 116:=YL hg.2.1;have:=List.all_eq_true.1 h g (List.mem_range.2 h1);rw [hg'] at this;simpa using this
end Go.Proofs.Ytncjjangllkokaa

namespace Go.Proofs.Ytncjjangllkokaa
open Go Go.CE Go.RowKit
def Qz9:Memo:=
 ⟨26,#[.agg #[.slice (some ⟨7,0,none⟩) 2 12,inN 200,inN 2],.slice (some ⟨8,0,none⟩) 2 1,.agg #[.slice (some ⟨9,0,none⟩) 2 1,.slice (some ⟨12,0,none⟩) 2 1,.slice (some ⟨15,0,none⟩) 2 1]],[(9,.cells #[inN 1100,inN 550] 3 (0,0)),(12,.cells #[.slice (some ⟨10,0,none⟩) 2 1,.slice (some ⟨11,0,none⟩) 2 1] 25 (0,0)),(10,.cells #[inN 250,inN 150] 3 (0,0)),(15,.cells #[.slice (some ⟨13,0,none⟩) 2 1,.slice (some ⟨14,0,none⟩) 2 1] 25 (0,0)),(13,.cells #[inN 250,inN 150] 3 (0,0)),(11,.cells #[inN 200,inN 100] 3 (0,0)),(14,.cells #[inN 200,inN 100] 3 (0,0)),(8,.cells #[inN 0,inN 0] 3 (0,0)),(7,.cells #[inN 1000,inN 2000,inN 200,inN 300,inN 100,inN 1,inN 200,inN 300,inN 0,inN 50,inN 900,inN 10,inN 500,inN 800,inN 100,inN 200,inN 0,inN (-1),inN 100,inN 200,inN 0,inN 20,inN 450,inN 6] 54 (0,0))],16,.tuple #[.slice (some ⟨107,0,none⟩) 2 1,.agg #[inN 1650,inN 615,inN 700,inN 0,inN 1565],inN 0],[(121,.cells #[inN 867,inN 698] 3 (0,0)),(114,.cells #[inN 988,inN 619] 3 (0,0)),(107,.cells #[.slice (some ⟨114,0,none⟩) 2 1,.slice (some ⟨121,0,none⟩) 2 1] 25 (0,0))],123⟩
theorem QyJ:Qaz Qz9 (Qz9.run YP QaI QaP 100000)=true:=by decide+kernel
def QtG:Memo:=
 ⟨98,#[.agg #[.slice (some ⟨131,0,none⟩) 2 12,inN 200,inN 2,inN 0,inN 0,inN 0,inN 0],.agg #[inN 1000,inN 500,inN 0,inN 0],inN 0,.func (.func 76) #[] #[],.func (.func 77) #[] #[]],[(131,.cells #[inN 1000,inN 2000,inN 200,inN 300,inN 100,inN 1,inN 200,inN 300,inN 0,inN 50,inN 900,inN 10,inN 500,inN 800,inN 100,inN 200,inN 0,inN (-1),inN 100,inN 200,inN 0,inN 20,inN 450,inN 6] 54 (0,0))],195,.agg #[inN 780,inN 470,inN 0,inN 0],[],236⟩
theorem Qya:Qaz QtG (QtG.run YP QaI QaP 100000)=true:=by decide+kernel
def Quc:Memo:=
 ⟨98,#[.agg #[.slice (some ⟨131,0,none⟩) 2 12,inN 200,inN 2,inN 0,inN 0,inN 0,inN 0],.agg #[inN 1200,inN 600,inN 0,inN 0],inN 0,.func (.func 77) #[] #[],.func (.func 76) #[] #[]],[(131,.cells #[inN 1000,inN 2000,inN 200,inN 300,inN 100,inN 1,inN 200,inN 300,inN 0,inN 50,inN 900,inN 10,inN 500,inN 800,inN 100,inN 200,inN 0,inN (-1),inN 100,inN 200,inN 0,inN 20,inN 450,inN 6] 54 (0,0))],239,.agg #[inN 1204,inN 776,inN 0,inN 0],[],280⟩
theorem Qx4:Qaz Quc (Quc.run YP QaI QaP 100000)=true:=by decide+kernel
def QrN:Memo:=
 ⟨98,#[.agg #[.slice (some ⟨131,0,none⟩) 2 12,inN 200,inN 2,inN 0,inN 0,inN 0,inN 0],.agg #[inN 780,inN 470,inN 0,inN 0],inN 1,.func (.func 76) #[] #[],.func (.func 77) #[] #[]],[(131,.cells #[inN 1000,inN 2000,inN 200,inN 300,inN 100,inN 1,inN 200,inN 300,inN 0,inN 50,inN 900,inN 10,inN 500,inN 800,inN 100,inN 200,inN 0,inN (-1),inN 100,inN 200,inN 0,inN 20,inN 450,inN 6] 54 (0,0))],287,.agg #[inN 543,inN 410,inN 0,inN 0],[],328⟩
theorem Qyl:Qaz QrN (QrN.run YP QaI QaP 100000)=true:=by decide+kernel
def QtT:Memo:=
 ⟨98,#[.agg #[.slice (some ⟨131,0,none⟩) 2 12,inN 200,inN 2,inN 0,inN 0,inN 0,inN 0],.agg #[inN 1204,inN 776,inN 0,inN 0],inN 1,.func (.func 77) #[] #[],.func (.func 76) #[] #[]],[(131,.cells #[inN 1000,inN 2000,inN 200,inN 300,inN 100,inN 1,inN 200,inN 300,inN 0,inN 50,inN 900,inN 10,inN 500,inN 800,inN 100,inN 200,inN 0,inN (-1),inN 100,inN 200,inN 0,inN 20,inN 450,inN 6] 54 (0,0))],331,.agg #[inN 1209,inN 856,inN 0,inN 0],[],372⟩
theorem Qw5:Qaz QtT (QtT.run YP QaI QaP 100000)=true:=by decide+kernel
def Qu4:Memo:=
 ⟨98,#[.agg #[.slice (some ⟨383,0,none⟩) 2 12,inN 200,inN 2,inN 1,inN 1,inN 0,inN 0],.agg #[inN 1000,inN 500,inN 0,inN 0],inN 0,.func (.func 76) #[] #[],.func (.func 77) #[] #[]],[(383,.cells #[inN 1000,inN 2000,inN 200,inN 300,inN 100,inN 1,inN 200,inN 300,inN 0,inN 50,inN 900,inN 10,inN 500,inN 800,inN 100,inN 200,inN 0,inN (-1),inN 100,inN 200,inN 0,inN 20,inN 450,inN 6] 54 (0,0))],454,.agg #[inN 1030,inN 470,inN 0,inN 0],[],495⟩
theorem QxS:Qaz Qu4 (Qu4.run YP QaI QaP 100000)=true:=by decide+kernel
def QtC:Memo:=
 ⟨98,#[.agg #[.slice (some ⟨383,0,none⟩) 2 12,inN 200,inN 2,inN 1,inN 1,inN 0,inN 0],.agg #[inN 1030,inN 470,inN 0,inN 0],inN 1,.func (.func 76) #[] #[],.func (.func 77) #[] #[]],[(383,.cells #[inN 1000,inN 2000,inN 200,inN 300,inN 100,inN 1,inN 200,inN 300,inN 0,inN 50,inN 900,inN 10,inN 500,inN 800,inN 100,inN 200,inN 0,inN (-1),inN 100,inN 200,inN 0,inN 20,inN 450,inN 6] 54 (0,0))],498,.agg #[inN 1063,inN 440,inN 0,inN 0],[],539⟩
theorem Qxn:Qaz QtC (QtC.run YP QaI QaP 100000)=true:=by decide+kernel
def QrU:Memo:=
 ⟨88,#[.slice (some ⟨383,0,none⟩) 2 12,.agg #[inN 1063,inN 440,inN 0,inN 0]],[(383,.cells #[inN 1000,inN 2000,inN 200,inN 300,inN 100,inN 1,inN 200,inN 300,inN 0,inN 50,inN 900,inN 10,inN 500,inN 800,inN 100,inN 200,inN 0,inN (-1),inN 100,inN 200,inN 0,inN 20,inN 450,inN 6] 54 (0,0))],539,.tuple #[.agg #[inN 1,inN 10],.bool true],[],544⟩
theorem Qw2:Qaz QrU (QrU.drun YP QaI QaP 100000)=true:=by decide+kernel
def QtE:Memo:=
 ⟨98,#[.agg #[.slice (some ⟨552,0,none⟩) 2 12,inN 200,inN 2,inN 3,inN 3,inN 0,inN 0],.agg #[inN 1000,inN 500,inN 0,inN 0],inN 0,.func (.func 76) #[] #[],.func (.func 77) #[] #[]],[(552,.cells #[inN 1000,inN 2000,inN 200,inN 300,inN 100,inN 1,inN 200,inN 300,inN 0,inN 50,inN 900,inN 10,inN 500,inN 800,inN 100,inN 200,inN 0,inN (-1),inN 100,inN 200,inN 0,inN 20,inN 450,inN 6] 54 (0,0))],622,.agg #[inN 1030,inN 650,inN 0,inN 0],[],663⟩
theorem Qwz:Qaz QtE (QtE.run YP QaI QaP 100000)=true:=by decide+kernel
def Qtj:Memo:=
 ⟨98,#[.agg #[.slice (some ⟨552,0,none⟩) 2 12,inN 200,inN 2,inN 3,inN 3,inN 0,inN 0],.agg #[inN 1030,inN 650,inN 0,inN 0],inN 1,.func (.func 76) #[] #[],.func (.func 77) #[] #[]],[(552,.cells #[inN 1000,inN 2000,inN 200,inN 300,inN 100,inN 1,inN 200,inN 300,inN 0,inN 50,inN 900,inN 10,inN 500,inN 800,inN 100,inN 200,inN 0,inN (-1),inN 100,inN 200,inN 0,inN 20,inN 450,inN 6] 54 (0,0))],666,.agg #[inN 1063,inN 818,inN 0,inN 0],[],707⟩
theorem Qxg:Qaz Qtj (Qtj.run YP QaI QaP 100000)=true:=by decide+kernel
def QsC:Memo:=
 ⟨88,#[.slice (some ⟨552,0,none⟩) 2 12,.agg #[inN 1063,inN 818,inN 0,inN 0]],[(552,.cells #[inN 1000,inN 2000,inN 200,inN 300,inN 100,inN 1,inN 200,inN 300,inN 0,inN 50,inN 900,inN 10,inN 500,inN 800,inN 100,inN 200,inN 0,inN (-1),inN 100,inN 200,inN 0,inN 20,inN 450,inN 6] 54 (0,0))],707,.tuple #[.agg #[inN 0,inN 0],.bool false],[],712⟩
theorem Qxr:Qaz QsC (QsC.drun YP QaI QaP 100000)=true:=by decide+kernel
def QuB:Memo:=
 ⟨98,#[.agg #[.slice (some ⟨552,0,none⟩) 2 12,inN 200,inN 2,inN 0,inN 0,inN 0,inN 0],.agg #[inN 1000,inN 500,inN 0,inN 0],inN 0,.func (.func 76) #[] #[],.func (.func 77) #[] #[]],[(552,.cells #[inN 1000,inN 2000,inN 200,inN 300,inN 100,inN 1,inN 200,inN 300,inN 0,inN 50,inN 900,inN 10,inN 500,inN 800,inN 100,inN 200,inN 0,inN (-1),inN 100,inN 200,inN 0,inN 20,inN 450,inN 6] 54 (0,0))],760,.agg #[inN 780,inN 470,inN 0,inN 0],[],801⟩
theorem QwN:Qaz QuB (QuB.run YP QaI QaP 100000)=true:=by decide+kernel
def QsZ:Memo:=
 ⟨98,#[.agg #[.slice (some ⟨552,0,none⟩) 2 12,inN 200,inN 2,inN 0,inN 0,inN 0,inN 0],.agg #[inN 780,inN 470,inN 0,inN 0],inN 1,.func (.func 76) #[] #[],.func (.func 77) #[] #[]],[(552,.cells #[inN 1000,inN 2000,inN 200,inN 300,inN 100,inN 1,inN 200,inN 300,inN 0,inN 50,inN 900,inN 10,inN 500,inN 800,inN 100,inN 200,inN 0,inN (-1),inN 100,inN 200,inN 0,inN 20,inN 450,inN 6] 54 (0,0))],804,.agg #[inN 543,inN 410,inN 0,inN 0],[],845⟩
theorem Qxe:Qaz QsZ (QsZ.run YP QaI QaP 100000)=true:=by decide+kernel
def Qui:Memo:=
 ⟨88,#[.slice (some ⟨552,0,none⟩) 2 12,.agg #[inN 543,inN 410,inN 0,inN 0]],[(552,.cells #[inN 1000,inN 2000,inN 200,inN 300,inN 100,inN 1,inN 200,inN 300,inN 0,inN 50,inN 900,inN 10,inN 500,inN 800,inN 100,inN 200,inN 0,inN (-1),inN 100,inN 200,inN 0,inN 20,inN 450,inN 6] 54 (0,0))],845,.tuple #[.agg #[inN 0,inN 357],.bool true],[],849⟩
theorem Qw9:Qaz Qui (Qui.drun YP QaI QaP 100000)=true:=by decide+kernel
end Go.Proofs.Ytncjjangllkokaa

namespace Go.Proofs.Ytncjjangllkokaa
open Go Go.CE Go.RowKit
noncomputable def QlD:Orc:=Qbp [QtG,Quc,QrN,QtT]
theorem QlR (B:Lo):QdD YP B QlD:=Qam Qaj Qac (Qak _ _) Qya (Qam Qaj Qac (Qak _ _) Qx4 (Qam Qaj Qac (Qak _ _) Qyl (Qam Qaj Qac (Qak _ _) Qw5 (Qbs _ _))))
def Qua:Memo:=
 ⟨18,#[.agg #[.slice (some ⟨131,0,none⟩) 2 12,inN 200,inN 2],.slice (some ⟨132,0,none⟩) 2 1],[(132,.cells #[inN 0,inN 0] 3 (0,0)),(131,.cells #[inN 1000,inN 2000,inN 200,inN 300,inN 100,inN 1,inN 200,inN 300,inN 0,inN 50,inN 900,inN 10,inN 500,inN 800,inN 100,inN 200,inN 0,inN (-1),inN 100,inN 200,inN 0,inN 20,inN 450,inN 6] 54 (0,0))],133,.tuple #[.slice (some ⟨191,0,none⟩) 2 1,inN 0],[(375,.cells #[inN 543,inN 1209,inN 410,inN 856] 38 (0,0)),(283,.cells #[inN 780,inN 1204,inN 470,inN 776] 38 (0,0)),(191,.cells #[.slice (some ⟨283,0,none⟩) 2 2,.slice (some ⟨375,0,none⟩) 2 2] 36 (0,0))],376⟩
theorem Qyi:Qaz Qua (Qua.run YP QaI QlD 100000)=true:=by decide+kernel
end Go.Proofs.Ytncjjangllkokaa

namespace Go.Proofs.Ytncjjangllkokaa
open Go Go.CE Go.RowKit
noncomputable def QlM:Orc:=Qbp [Qu4,QtC,QrU]
theorem QlX (B:Lo):QdD YP B QlM:=Qam Qaj Qac (Qak _ _) QxS (Qam Qaj Qac (Qak _ _) Qxn (QaJ Qaj Qac (Qak _ _) Qw2 (Qbs _ _)))
def Qvi:Memo:=
 ⟨35,#[.agg #[.slice (some ⟨383,0,none⟩) 2 12,inN 200,inN 2],.slice (some ⟨384,0,none⟩) 2 1],[(384,.cells #[inN 1,inN 1] 3 (0,0)),(383,.cells #[inN 1000,inN 2000,inN 200,inN 300,inN 100,inN 1,inN 200,inN 300,inN 0,inN 50,inN 900,inN 10,inN 500,inN 800,inN 100,inN 200,inN 0,inN (-1),inN 100,inN 200,inN 0,inN 20,inN 450,inN 6] 54 (0,0))],385,.tuple #[inN 1,inN 10,inN 0],[],545⟩
theorem QxR:Qaz Qvi (Qvi.run YP QaI QlM 100000)=true:=by decide+kernel
end Go.Proofs.Ytncjjangllkokaa

namespace Go.Proofs.Ytncjjangllkokaa
open Go Go.CE Go.RowKit
def QtS:Memo:=
 ⟨98,#[.agg #[.slice (some ⟨552,0,none⟩) 2 12,inN 200,inN 2,inN 0,inN 1,inN 0,inN 0],.agg #[inN 780,inN 470,inN 0,inN 0],inN 1,.func (.func 76) #[] #[],.func (.func 77) #[] #[]],[(552,.cells #[inN 1000,inN 2000,inN 200,inN 300,inN 100,inN 1,inN 200,inN 300,inN 0,inN 50,inN 900,inN 10,inN 500,inN 800,inN 100,inN 200,inN 0,inN (-1),inN 100,inN 200,inN 0,inN 20,inN 450,inN 6] 54 (0,0))],876,.agg #[inN 793,inN 410,inN 0,inN 0],[],917⟩
theorem QxE:Qaz QtS (QtS.run YP QaI QaP 100000)=true:=by decide+kernel
def Qup:Memo:=
 ⟨88,#[.slice (some ⟨552,0,none⟩) 2 12,.agg #[inN 793,inN 410,inN 0,inN 0]],[(552,.cells #[inN 1000,inN 2000,inN 200,inN 300,inN 100,inN 1,inN 200,inN 300,inN 0,inN 50,inN 900,inN 10,inN 500,inN 800,inN 100,inN 200,inN 0,inN (-1),inN 100,inN 200,inN 0,inN 20,inN 450,inN 6] 54 (0,0))],917,.tuple #[.agg #[inN 0,inN 107],.bool true],[],921⟩
theorem Qxj:Qaz Qup (Qup.drun YP QaI QaP 100000)=true:=by decide+kernel
def Qsw:Memo:=
 ⟨98,#[.agg #[.slice (some ⟨552,0,none⟩) 2 12,inN 200,inN 2,inN 0,inN 2,inN 0,inN 0],.agg #[inN 780,inN 470,inN 0,inN 0],inN 1,.func (.func 76) #[] #[],.func (.func 77) #[] #[]],[(552,.cells #[inN 1000,inN 2000,inN 200,inN 300,inN 100,inN 1,inN 200,inN 300,inN 0,inN 50,inN 900,inN 10,inN 500,inN 800,inN 100,inN 200,inN 0,inN (-1),inN 100,inN 200,inN 0,inN 20,inN 450,inN 6] 54 (0,0))],948,.agg #[inN 543,inN 590,inN 0,inN 0],[],989⟩
theorem Qxo:Qaz Qsw (Qsw.run YP QaI QaP 100000)=true:=by decide+kernel
def Qsn:Memo:=
 ⟨88,#[.slice (some ⟨552,0,none⟩) 2 12,.agg #[inN 543,inN 590,inN 0,inN 0]],[(552,.cells #[inN 1000,inN 2000,inN 200,inN 300,inN 100,inN 1,inN 200,inN 300,inN 0,inN 50,inN 900,inN 10,inN 500,inN 800,inN 100,inN 200,inN 0,inN (-1),inN 100,inN 200,inN 0,inN 20,inN 450,inN 6] 54 (0,0))],989,.tuple #[.agg #[inN 0,inN 357],.bool true],[],993⟩
theorem Qyc:Qaz Qsn (Qsn.drun YP QaI QaP 100000)=true:=by decide+kernel
def Qoo:Memo:=
 ⟨98,#[.agg #[.slice (some ⟨552,0,none⟩) 2 12,inN 200,inN 2,inN 0,inN 3,inN 0,inN 0],.agg #[inN 780,inN 470,inN 0,inN 0],inN 1,.func (.func 76) #[] #[],.func (.func 77) #[] #[]],[(552,.cells #[inN 1000,inN 2000,inN 200,inN 300,inN 100,inN 1,inN 200,inN 300,inN 0,inN 50,inN 900,inN 10,inN 500,inN 800,inN 100,inN 200,inN 0,inN (-1),inN 100,inN 200,inN 0,inN 20,inN 450,inN 6] 54 (0,0))],1020,.agg #[inN 793,inN 590,inN 0,inN 0],[],1061⟩
theorem Qts:Qaz Qoo (Qoo.run YP QaI QaP 100000)=true:=by decide+kernel
def QoT:Memo:=
 ⟨88,#[.slice (some ⟨552,0,none⟩) 2 12,.agg #[inN 793,inN 590,inN 0,inN 0]],[(552,.cells #[inN 1000,inN 2000,inN 200,inN 300,inN 100,inN 1,inN 200,inN 300,inN 0,inN 50,inN 900,inN 10,inN 500,inN 800,inN 100,inN 200,inN 0,inN (-1),inN 100,inN 200,inN 0,inN 20,inN 450,inN 6] 54 (0,0))],1061,.tuple #[.agg #[inN 0,inN 107],.bool true],[],1065⟩
theorem Qu2:Qaz QoT (QoT.drun YP QaI QaP 100000)=true:=by decide+kernel
def Qor:Memo:=
 ⟨98,#[.agg #[.slice (some ⟨552,0,none⟩) 2 12,inN 200,inN 2,inN 1,inN 0,inN 0,inN 0],.agg #[inN 1000,inN 500,inN 0,inN 0],inN 0,.func (.func 76) #[] #[],.func (.func 77) #[] #[]],[(552,.cells #[inN 1000,inN 2000,inN 200,inN 300,inN 100,inN 1,inN 200,inN 300,inN 0,inN 50,inN 900,inN 10,inN 500,inN 800,inN 100,inN 200,inN 0,inN (-1),inN 100,inN 200,inN 0,inN 20,inN 450,inN 6] 54 (0,0))],1112,.agg #[inN 1030,inN 470,inN 0,inN 0],[],1153⟩
theorem QtV:Qaz Qor (Qor.run YP QaI QaP 100000)=true:=by decide+kernel
def Qo8:Memo:=
 ⟨98,#[.agg #[.slice (some ⟨552,0,none⟩) 2 12,inN 200,inN 2,inN 1,inN 0,inN 0,inN 0],.agg #[inN 1030,inN 470,inN 0,inN 0],inN 1,.func (.func 76) #[] #[],.func (.func 77) #[] #[]],[(552,.cells #[inN 1000,inN 2000,inN 200,inN 300,inN 100,inN 1,inN 200,inN 300,inN 0,inN 50,inN 900,inN 10,inN 500,inN 800,inN 100,inN 200,inN 0,inN (-1),inN 100,inN 200,inN 0,inN 20,inN 450,inN 6] 54 (0,0))],1156,.agg #[inN 813,inN 440,inN 0,inN 0],[],1197⟩
theorem QtP:Qaz Qo8 (Qo8.run YP QaI QaP 100000)=true:=by decide+kernel
def QmE:Memo:=
 ⟨88,#[.slice (some ⟨552,0,none⟩) 2 12,.agg #[inN 813,inN 440,inN 0,inN 0]],[(552,.cells #[inN 1000,inN 2000,inN 200,inN 300,inN 100,inN 1,inN 200,inN 300,inN 0,inN 50,inN 900,inN 10,inN 500,inN 800,inN 100,inN 200,inN 0,inN (-1),inN 100,inN 200,inN 0,inN 20,inN 450,inN 6] 54 (0,0))],1197,.tuple #[.agg #[inN 0,inN 87],.bool true],[],1201⟩
theorem Qsf:Qaz QmE (QmE.drun YP QaI QaP 100000)=true:=by decide+kernel
def QnS:Memo:=
 ⟨98,#[.agg #[.slice (some ⟨552,0,none⟩) 2 12,inN 200,inN 2,inN 1,inN 1,inN 0,inN 0],.agg #[inN 1030,inN 470,inN 0,inN 0],inN 1,.func (.func 76) #[] #[],.func (.func 77) #[] #[]],[(552,.cells #[inN 1000,inN 2000,inN 200,inN 300,inN 100,inN 1,inN 200,inN 300,inN 0,inN 50,inN 900,inN 10,inN 500,inN 800,inN 100,inN 200,inN 0,inN (-1),inN 100,inN 200,inN 0,inN 20,inN 450,inN 6] 54 (0,0))],1228,.agg #[inN 1063,inN 440,inN 0,inN 0],[],1269⟩
theorem QuD:Qaz QnS (QnS.run YP QaI QaP 100000)=true:=by decide+kernel
def Qpu:Memo:=
 ⟨88,#[.slice (some ⟨552,0,none⟩) 2 12,.agg #[inN 1063,inN 440,inN 0,inN 0]],[(552,.cells #[inN 1000,inN 2000,inN 200,inN 300,inN 100,inN 1,inN 200,inN 300,inN 0,inN 50,inN 900,inN 10,inN 500,inN 800,inN 100,inN 200,inN 0,inN (-1),inN 100,inN 200,inN 0,inN 20,inN 450,inN 6] 54 (0,0))],1269,.tuple #[.agg #[inN 1,inN 10],.bool true],[],1274⟩
theorem Qtp:Qaz Qpu (Qpu.drun YP QaI QaP 100000)=true:=by decide+kernel
def Qpw:Memo:=
 ⟨98,#[.agg #[.slice (some ⟨552,0,none⟩) 2 12,inN 200,inN 2,inN 1,inN 2,inN 0,inN 0],.agg #[inN 1030,inN 470,inN 0,inN 0],inN 1,.func (.func 76) #[] #[],.func (.func 77) #[] #[]],[(552,.cells #[inN 1000,inN 2000,inN 200,inN 300,inN 100,inN 1,inN 200,inN 300,inN 0,inN 50,inN 900,inN 10,inN 500,inN 800,inN 100,inN 200,inN 0,inN (-1),inN 100,inN 200,inN 0,inN 20,inN 450,inN 6] 54 (0,0))],1301,.agg #[inN 813,inN 620,inN 0,inN 0],[],1342⟩
theorem Qt3:Qaz Qpw (Qpw.run YP QaI QaP 100000)=true:=by decide+kernel
def QnG:Memo:=
 ⟨88,#[.slice (some ⟨552,0,none⟩) 2 12,.agg #[inN 813,inN 620,inN 0,inN 0]],[(552,.cells #[inN 1000,inN 2000,inN 200,inN 300,inN 100,inN 1,inN 200,inN 300,inN 0,inN 50,inN 900,inN 10,inN 500,inN 800,inN 100,inN 200,inN 0,inN (-1),inN 100,inN 200,inN 0,inN 20,inN 450,inN 6] 54 (0,0))],1342,.tuple #[.agg #[inN 0,inN 87],.bool true],[],1346⟩
theorem QtH:Qaz QnG (QnG.drun YP QaI QaP 100000)=true:=by decide+kernel
def QoK:Memo:=
 ⟨98,#[.agg #[.slice (some ⟨552,0,none⟩) 2 12,inN 200,inN 2,inN 1,inN 3,inN 0,inN 0],.agg #[inN 1030,inN 470,inN 0,inN 0],inN 1,.func (.func 76) #[] #[],.func (.func 77) #[] #[]],[(552,.cells #[inN 1000,inN 2000,inN 200,inN 300,inN 100,inN 1,inN 200,inN 300,inN 0,inN 50,inN 900,inN 10,inN 500,inN 800,inN 100,inN 200,inN 0,inN (-1),inN 100,inN 200,inN 0,inN 20,inN 450,inN 6] 54 (0,0))],1373,.agg #[inN 1063,inN 620,inN 0,inN 0],[],1414⟩
theorem QtJ:Qaz QoK (QoK.run YP QaI QaP 100000)=true:=by decide+kernel
end Go.Proofs.Ytncjjangllkokaa

namespace Go.Proofs.Ytncjjangllkokaa
open Go Go.CE Go.RowKit
def Qoz:Memo:=
 ⟨88,#[.slice (some ⟨552,0,none⟩) 2 12,.agg #[inN 1063,inN 620,inN 0,inN 0]],[(552,.cells #[inN 1000,inN 2000,inN 200,inN 300,inN 100,inN 1,inN 200,inN 300,inN 0,inN 50,inN 900,inN 10,inN 500,inN 800,inN 100,inN 200,inN 0,inN (-1),inN 100,inN 200,inN 0,inN 20,inN 450,inN 6] 54 (0,0))],1414,.tuple #[.agg #[inN 0,inN 0],.bool false],[],1419⟩
theorem Qt5:Qaz Qoz (Qoz.drun YP QaI QaP 100000)=true:=by decide+kernel
def Qo0:Memo:=
 ⟨98,#[.agg #[.slice (some ⟨552,0,none⟩) 2 12,inN 200,inN 2,inN 2,inN 0,inN 0,inN 0],.agg #[inN 1000,inN 500,inN 0,inN 0],inN 0,.func (.func 76) #[] #[],.func (.func 77) #[] #[]],[(552,.cells #[inN 1000,inN 2000,inN 200,inN 300,inN 100,inN 1,inN 200,inN 300,inN 0,inN 50,inN 900,inN 10,inN 500,inN 800,inN 100,inN 200,inN 0,inN (-1),inN 100,inN 200,inN 0,inN 20,inN 450,inN 6] 54 (0,0))],1486,.agg #[inN 780,inN 650,inN 0,inN 0],[],1527⟩
theorem Qs3:Qaz Qo0 (Qo0.run YP QaI QaP 100000)=true:=by decide+kernel
def QoV:Memo:=
 ⟨98,#[.agg #[.slice (some ⟨552,0,none⟩) 2 12,inN 200,inN 2,inN 2,inN 0,inN 0,inN 0],.agg #[inN 780,inN 650,inN 0,inN 0],inN 1,.func (.func 76) #[] #[],.func (.func 77) #[] #[]],[(552,.cells #[inN 1000,inN 2000,inN 200,inN 300,inN 100,inN 1,inN 200,inN 300,inN 0,inN 50,inN 900,inN 10,inN 500,inN 800,inN 100,inN 200,inN 0,inN (-1),inN 100,inN 200,inN 0,inN 20,inN 450,inN 6] 54 (0,0))],1530,.agg #[inN 543,inN 608,inN 0,inN 0],[],1571⟩
theorem QuY:Qaz QoV (QoV.run YP QaI QaP 100000)=true:=by decide+kernel
def Qn7:Memo:=
 ⟨88,#[.slice (some ⟨552,0,none⟩) 2 12,.agg #[inN 543,inN 608,inN 0,inN 0]],[(552,.cells #[inN 1000,inN 2000,inN 200,inN 300,inN 100,inN 1,inN 200,inN 300,inN 0,inN 50,inN 900,inN 10,inN 500,inN 800,inN 100,inN 200,inN 0,inN (-1),inN 100,inN 200,inN 0,inN 20,inN 450,inN 6] 54 (0,0))],1571,.tuple #[.agg #[inN 0,inN 357],.bool true],[],1575⟩
theorem Qub:Qaz Qn7 (Qn7.drun YP QaI QaP 100000)=true:=by decide+kernel
def Qpc:Memo:=
 ⟨98,#[.agg #[.slice (some ⟨552,0,none⟩) 2 12,inN 200,inN 2,inN 2,inN 1,inN 0,inN 0],.agg #[inN 780,inN 650,inN 0,inN 0],inN 1,.func (.func 76) #[] #[],.func (.func 77) #[] #[]],[(552,.cells #[inN 1000,inN 2000,inN 200,inN 300,inN 100,inN 1,inN 200,inN 300,inN 0,inN 50,inN 900,inN 10,inN 500,inN 800,inN 100,inN 200,inN 0,inN (-1),inN 100,inN 200,inN 0,inN 20,inN 450,inN 6] 54 (0,0))],1622,.agg #[inN 793,inN 608,inN 0,inN 0],[],1663⟩
theorem Qsm:Qaz Qpc (Qpc.run YP QaI QaP 100000)=true:=by decide+kernel
def QnM:Memo:=
 ⟨88,#[.slice (some ⟨552,0,none⟩) 2 12,.agg #[inN 793,inN 608,inN 0,inN 0]],[(552,.cells #[inN 1000,inN 2000,inN 200,inN 300,inN 100,inN 1,inN 200,inN 300,inN 0,inN 50,inN 900,inN 10,inN 500,inN 800,inN 100,inN 200,inN 0,inN (-1),inN 100,inN 200,inN 0,inN 20,inN 450,inN 6] 54 (0,0))],1663,.tuple #[.agg #[inN 0,inN 107],.bool true],[],1667⟩
theorem QuS:Qaz QnM (QnM.drun YP QaI QaP 100000)=true:=by decide+kernel
def Qnq:Memo:=
 ⟨98,#[.agg #[.slice (some ⟨552,0,none⟩) 2 12,inN 200,inN 2,inN 2,inN 2,inN 0,inN 0],.agg #[inN 780,inN 650,inN 0,inN 0],inN 1,.func (.func 76) #[] #[],.func (.func 77) #[] #[]],[(552,.cells #[inN 1000,inN 2000,inN 200,inN 300,inN 100,inN 1,inN 200,inN 300,inN 0,inN 50,inN 900,inN 10,inN 500,inN 800,inN 100,inN 200,inN 0,inN (-1),inN 100,inN 200,inN 0,inN 20,inN 450,inN 6] 54 (0,0))],1714,.agg #[inN 543,inN 788,inN 0,inN 0],[],1755⟩
theorem QtW:Qaz Qnq (Qnq.run YP QaI QaP 100000)=true:=by decide+kernel
def QmU:Memo:=
 ⟨88,#[.slice (some ⟨552,0,none⟩) 2 12,.agg #[inN 543,inN 788,inN 0,inN 0]],[(552,.cells #[inN 1000,inN 2000,inN 200,inN 300,inN 100,inN 1,inN 200,inN 300,inN 0,inN 50,inN 900,inN 10,inN 500,inN 800,inN 100,inN 200,inN 0,inN (-1),inN 100,inN 200,inN 0,inN 20,inN 450,inN 6] 54 (0,0))],1755,.tuple #[.agg #[inN 0,inN 357],.bool true],[],1759⟩
theorem Qs6:Qaz QmU (QmU.drun YP QaI QaP 100000)=true:=by decide+kernel
def Qo9:Memo:=
 ⟨98,#[.agg #[.slice (some ⟨552,0,none⟩) 2 12,inN 200,inN 2,inN 2,inN 3,inN 0,inN 0],.agg #[inN 780,inN 650,inN 0,inN 0],inN 1,.func (.func 76) #[] #[],.func (.func 77) #[] #[]],[(552,.cells #[inN 1000,inN 2000,inN 200,inN 300,inN 100,inN 1,inN 200,inN 300,inN 0,inN 50,inN 900,inN 10,inN 500,inN 800,inN 100,inN 200,inN 0,inN (-1),inN 100,inN 200,inN 0,inN 20,inN 450,inN 6] 54 (0,0))],1806,.agg #[inN 793,inN 788,inN 0,inN 0],[],1847⟩
theorem QtK:Qaz Qo9 (Qo9.run YP QaI QaP 100000)=true:=by decide+kernel
def Qow:Memo:=
 ⟨88,#[.slice (some ⟨552,0,none⟩) 2 12,.agg #[inN 793,inN 788,inN 0,inN 0]],[(552,.cells #[inN 1000,inN 2000,inN 200,inN 300,inN 100,inN 1,inN 200,inN 300,inN 0,inN 50,inN 900,inN 10,inN 500,inN 800,inN 100,inN 200,inN 0,inN (-1),inN 100,inN 200,inN 0,inN 20,inN 450,inN 6] 54 (0,0))],1847,.tuple #[.agg #[inN 0,inN 107],.bool true],[],1851⟩
theorem Qvj:Qaz Qow (Qow.drun YP QaI QaP 100000)=true:=by decide+kernel
def QoX:Memo:=
 ⟨98,#[.agg #[.slice (some ⟨552,0,none⟩) 2 12,inN 200,inN 2,inN 3,inN 0,inN 0,inN 0],.agg #[inN 1030,inN 650,inN 0,inN 0],inN 1,.func (.func 76) #[] #[],.func (.func 77) #[] #[]],[(552,.cells #[inN 1000,inN 2000,inN 200,inN 300,inN 100,inN 1,inN 200,inN 300,inN 0,inN 50,inN 900,inN 10,inN 500,inN 800,inN 100,inN 200,inN 0,inN (-1),inN 100,inN 200,inN 0,inN 20,inN 450,inN 6] 54 (0,0))],1898,.agg #[inN 813,inN 638,inN 0,inN 0],[],1939⟩
theorem Qvh:Qaz QoX (QoX.run YP QaI QaP 100000)=true:=by decide+kernel
def Qpq:Memo:=
 ⟨88,#[.slice (some ⟨552,0,none⟩) 2 12,.agg #[inN 813,inN 638,inN 0,inN 0]],[(552,.cells #[inN 1000,inN 2000,inN 200,inN 300,inN 100,inN 1,inN 200,inN 300,inN 0,inN 50,inN 900,inN 10,inN 500,inN 800,inN 100,inN 200,inN 0,inN (-1),inN 100,inN 200,inN 0,inN 20,inN 450,inN 6] 54 (0,0))],1939,.tuple #[.agg #[inN 0,inN 87],.bool true],[],1943⟩
theorem QrM:Qaz Qpq (Qpq.drun YP QaI QaP 100000)=true:=by decide+kernel
def QoR:Memo:=
 ⟨98,#[.agg #[.slice (some ⟨552,0,none⟩) 2 12,inN 200,inN 2,inN 3,inN 2,inN 0,inN 0],.agg #[inN 1030,inN 650,inN 0,inN 0],inN 1,.func (.func 76) #[] #[],.func (.func 77) #[] #[]],[(552,.cells #[inN 1000,inN 2000,inN 200,inN 300,inN 100,inN 1,inN 200,inN 300,inN 0,inN 50,inN 900,inN 10,inN 500,inN 800,inN 100,inN 200,inN 0,inN (-1),inN 100,inN 200,inN 0,inN 20,inN 450,inN 6] 54 (0,0))],2014,.agg #[inN 813,inN 818,inN 0,inN 0],[],2055⟩
theorem Qta:Qaz QoR (QoR.run YP QaI QaP 100000)=true:=by decide+kernel
def Qp7:Memo:=
 ⟨88,#[.slice (some ⟨552,0,none⟩) 2 12,.agg #[inN 813,inN 818,inN 0,inN 0]],[(552,.cells #[inN 1000,inN 2000,inN 200,inN 300,inN 100,inN 1,inN 200,inN 300,inN 0,inN 50,inN 900,inN 10,inN 500,inN 800,inN 100,inN 200,inN 0,inN (-1),inN 100,inN 200,inN 0,inN 20,inN 450,inN 6] 54 (0,0))],2055,.tuple #[.agg #[inN 0,inN 87],.bool true],[],2059⟩
theorem Qvc:Qaz Qp7 (Qp7.drun YP QaI QaP 100000)=true:=by decide+kernel
end Go.Proofs.Ytncjjangllkokaa
