/- ReefShorts: whatever the input, it returns true, and each argument reads as it did. The row, from the walk. -/
import Derived.Test.YtncjjangllkokaaZRS17
import Derived.Test.YtncjjangllkokaaZRS19
import Derived.JoinedOf
import Derived.Test.YtncjjangllkokaaRows
set_option linter.all false
open List renaming mem_cons_of_mem->Lw,flatMap_cons->L5,length->Li,getD->Lg,length_append->Ly,length_cons->LB,length_nil->LK
open Array renaming size->L4,extract->Lz
open Int renaming toNat->Lf
open Nat renaming strongRecOn->LQ
open List.Mem renaming head->Lr
open Inhabited renaming default->Le
namespace Go.Proofs.Ytncjjangllkokaa
open Go Go.CE Go.RowKit
section
variable {ps:List Qc} {n:Int} {gs ts:List (List Int)} {f:F4}
theorem Ek{k i:Int}(h4:ps.length<=4)(i0:0<=i)(i1:i<ps.length):(rv ps gs ts f k).getD i.toNat Le=(Z6 ps gs ts f (k.toNat+1)).at i:=by
 unfold rv;rw[<-yn h4];exact X4 i0 i1
end
end Go.Proofs.Ytncjjangllkokaa

namespace Go.Proofs.Ytncjjangllkokaa
open Go Go.CE Go.RowKit
noncomputable section
set_option maxRecDepth 100000
structure yu where
 n:Nat
 l:List Span
deriving Inhabited
def W4(r:yu):List Value:=[QV r.n (Qf QM r.l)]
theorem xG:∀(l:List Int) (g:Int->List Span) (n:Nat),(∀k∈l,(g k).length=n)->Qf W4 (l.map fun k=>⟨n,g k⟩)=Qf iz (l.map g)
 |[],_,_,_=>rfl
 |k::l,g,n,h=>by
  have ih:=xG l g n fun k hk=>h k (Lw _ hk)
  have e:W4 ⟨n,g k⟩=iz (g k):=by show [QV n (Qf QM (g k))]=_;rw[<-h k (List.mem_cons_self ..)]
  unfold Qf at ih ⊢;rw[List.map_cons,List.map_cons,L5,L5,e];apply Array.ext';have ih':=congrArg Array.toList ih;simp only at ih' ⊢;rw[ih']
theorem dc{β:Type}{f:Int->β}{s:Int}(h:0<=s):(((JV 0 s).map f).length:Int)=s:=by simp[JV];omega
theorem W5{rf:Qg}{gs ts:List (List Int)}{f:F4}{s:Int}(h4:rf.Qa.length<=4)(s0:0<=s)(s1:s<rf.Qd):((Q8 rf.Qd rf.Qa gs ts f).getD s.toNat Le).length=rf.Qa.length:=by
 rw[show(Q8 rf.Qd rf.Qa gs ts f).getD s.toNat Le=rv rf.Qa gs ts f s from X4 s0 s1,ru h4]
theorem WB{rf:Qg}{gs ts:List (List Int)}{f:F4}{s i:Int}(h4:rf.Qa.length<=4)(s0:0<=s)(s1:s<rf.Qd)(i0:0<=i)(i1:i<rf.Qa.length):((Q8 rf.Qd rf.Qa gs ts f).getD s.toNat Le).getD i.toNat Le=(Z6 rf.Qa gs ts f (s.toNat+1)).at i:=by
 rw[show(Q8 rf.Qd rf.Qa gs ts f).getD s.toNat Le=rv rf.Qa gs ts f s from X4 s0 s1,Ek h4 i0 i1]
theorem eQ{a b:Int}{s:Span}(h1:a=s.lo)(h2:b=s.hi):(⟨a,b⟩:Span)=s:=by subst h1 h2;rfl
theorem GK{rf:Qg}{Qb:List Int}{rs:List yu}{s:Int}{m:Nat}(h:rs=(JV 0 s).map fun z=>⟨rf.Qa.length,iF rf Qb z⟩)(hm:m=rs.length)(hs:s=rf.Qd):QV m (Qf W4 rs)=y2 (Zb rf Qb):=by
 subst hs;have e:Qf W4 rs=Qf iz (Zb rf Qb):=by rw[h];exact xG _ _ _ fun k _=>rr
 have e2:m=(Zb rf Qb).length:=by rw[hm,h,Zb,Z5,List.length_map,List.length_map]
 rw[e,e2]
theorem Gl(rf:Qg)(st:List Int)(gs ts:List (List Int))(QH:OkT rf.Qa rf.Qd gs ts (Qe st))(hl:st.length=rf.Qa.length)(hn:1<=rf.Qa.length/\rf.Qa.length<=4)(hs4:1<=rf.Qd/\rf.Qd<=4):Q6 YP J0 28 #[.agg (Q9 rf).toArray,.agg #[Zj st,QV gs.length (Qf XE gs),QV ts.length (Qf XE ts)]] (.tuple #[QV (Q8 rf.Qd rf.Qa gs ts (Qe st)).length (Qf XE (Q8 rf.Qd rf.Qa gs ts (Qe st))),.agg #[.int .i64 (Qe st).sum,.int .i64 (QW 0 rf.Qd (ZE rf.Qa gs ts (Qe st))),.int .i64 (QW 0 rf.Qd (XU rf.Qa gs ts (Qe st))),.int .i64 (QW 0 rf.Qd (ZD rf.Qa gs ts (Qe st))),.int .i64 (Z6 rf.Qa gs ts (Qe st) rf.Qd.toNat).sum]]):=IE rf ⟨st,gs,ts⟩ QH hl hn hs4
def Js(rf:Qg)(Qb:List Int)(i:Int)(zs:List Span)(zn:Nat):List Value:=[pA 2 0,Q4 1 (QV (Li (Q8 rf.Qd rf.Qa (Xr rf) (Xq rf Qb) (Qe (Zv rf)))) (Qf XE (Q8 rf.Qd rf.Qa (Xr rf) (Xq rf Qb) (Qe (Zv rf))))),Q4 1 (QV (Li (Q8 rf.Qd rf.Qa (Xt rf) (Xs rf Qb) (Qe (ZC rf)))) (Qf XE (Q8 rf.Qd rf.Qa (Xt rf) (Xs rf Qb) (Qe (ZC rf))))),.slice none 0 0,.int .i64 0,.slice (some ⟨3,0,none⟩) zn 2,.int .i64 i]
def Un(rf:Qg)(Qb:List Int)(i:Int)(zs:List Span)(zn:Nat):List Obj:=[Obj.cells #[Q4 1 (QV rf.Qa.length (Qf Qn rf.Qa)),.int .i64 rf.Qq,.int .i64 rf.Qd] 24,.cells (Qf QM zs) 38 (0,0)]
def Jv:List Item:=([.code [1,1,1,1,0,1,0,0,1,0,0,1,0,1,0,0],.inLoop [1,1,1,1,0,1,0,0,1,0,0,1,0,1,0,0],.inBlock 2,.code [1,1,1,1,0,1,0,0,1,0,0,1,1],.inBlock 1,.code [1,1,1,1,0,1,0,0,1,1],.inLoop [1,1,1,1,0,1,0,0],.inBlock 0,.code [1,1,1,1,1]]).map (it (Xa YP 22))
def vE(B:Lo)(c0:CF)(rf:Qg)(Qb:List Int)(i:Int)(zs:List Span)(zn:Nat):Prop:=∃dJ:Nat->Value,(∀t,XH (dJ t))/\GoE YP B c0 Z9 1 (QS 22 65 (([2,5,7,9,10,11,12]:List Nat).zip (Js rf Qb i zs zn)) dJ Jv) (QN (Un rf Qb i zs zn)) (2+(Un rf Qb i zs zn).length) []
def Jr(rf:Qg)(Qb:List Int)(s i:Int)(os:List yu)(zs:List Span)(on zn:Nat):List Value:=[pA 2 0,Q4 1 (QV (Li (Q8 rf.Qd rf.Qa (Xr rf) (Xq rf Qb) (Qe (Zv rf)))) (Qf XE (Q8 rf.Qd rf.Qa (Xr rf) (Xq rf Qb) (Qe (Zv rf))))),Q4 1 (QV (Li (Q8 rf.Qd rf.Qa (Xt rf) (Xs rf Qb) (Qe (ZC rf)))) (Qf XE (Q8 rf.Qd rf.Qa (Xt rf) (Xs rf Qb) (Qe (ZC rf))))),.slice (some ⟨3,0,none⟩) on 1,.int .i64 s,.slice (some ⟨4,0,none⟩) zn 2,.int .i64 i]
def Um(rf:Qg)(Qb:List Int)(s i:Int)(os:List yu)(zs:List Span)(on zn:Nat):List Obj:=[Obj.cells #[Q4 1 (QV rf.Qa.length (Qf Qn rf.Qa)),.int .i64 rf.Qq,.int .i64 rf.Qd] 24,.cells (Qf (QK 1 W4) os) 36 (0,0),.cells (Qf QM zs) 38 (0,0)]
def Ju:List Item:=([.code [1,1,1,1,0,1,0,0,1,0,0,1,0,1,0,0],.inLoop [1,1,1,1,0,1,0,0,1,0,0,1,0,1,0,0],.inBlock 2,.code [1,1,1,1,0,1,0,0,1,0,0,1,1],.inBlock 1,.code [1,1,1,1,0,1,0,0,1,1],.inLoop [1,1,1,1,0,1,0,0],.inBlock 0,.code [1,1,1,1,1]]).map (it (Xa YP 22))
def vD(B:Lo)(c0:CF)(rf:Qg)(Qb:List Int)(s i:Int)(os:List yu)(zs:List Span)(on zn:Nat):Prop:=∃dJ:Nat->Value,(∀t,XH (dJ t))/\GoE YP B c0 Z9 1 (QS 22 65 (([2,5,7,9,10,11,12]:List Nat).zip (Jr rf Qb s i os zs on zn)) dJ Ju) (QN (Um rf Qb s i os zs on zn)) (2+(Um rf Qb s i os zs on zn).length) []
def Jq(rf:Qg)(Qb:List Int)(s:Int)(os:List yu)(on:Nat):List Value:=[pA 2 0,Q4 1 (QV (Li (Q8 rf.Qd rf.Qa (Xr rf) (Xq rf Qb) (Qe (Zv rf)))) (Qf XE (Q8 rf.Qd rf.Qa (Xr rf) (Xq rf Qb) (Qe (Zv rf))))),Q4 1 (QV (Li (Q8 rf.Qd rf.Qa (Xt rf) (Xs rf Qb) (Qe (ZC rf)))) (Qf XE (Q8 rf.Qd rf.Qa (Xt rf) (Xs rf Qb) (Qe (ZC rf))))),.slice (some ⟨3,0,none⟩) on 1,.int .i64 s]
def Ul(rf:Qg)(Qb:List Int)(s:Int)(os:List yu)(on:Nat):List Obj:=[Obj.cells #[Q4 1 (QV rf.Qa.length (Qf Qn rf.Qa)),.int .i64 rf.Qq,.int .i64 rf.Qd] 24,.cells (Qf (QK 1 W4) os) 36 (0,0)]
def Jt:List Item:=([.code [1,1,1,1,0,1,0,0],.inLoop [1,1,1,1,0,1,0,0],.inBlock 0,.code [1,1,1,1,1]]).map (it (Xa YP 22))
def vC(B:Lo)(c0:CF)(rf:Qg)(Qb:List Int)(s:Int)(os:List yu)(on:Nat):Prop:=∃dJ:Nat->Value,(∀t,XH (dJ t))/\GoE YP B c0 Z9 1 (QS 22 65 (([2,5,7,9,10]:List Nat).zip (Jq rf Qb s os on)) dJ Jt) (QN (Ul rf Qb s os on)) (2+(Ul rf Qb s os on).length) []
def Sa(rf:Qg)(Qb:List Int):Array Value:=#[QV (Li (Lg (Q8 rf.Qd rf.Qa (Xr rf) (Xq rf Qb) (Qe (Zv rf))) 0 Le)) (Qf Qp (Lg (Q8 rf.Qd rf.Qa (Xr rf) (Xq rf Qb) (Qe (Zv rf))) 0 Le))]
def RZ(rf:Qg)(Qb:List Int):Array Value:=#[QV (Li (Lg (Q8 rf.Qd rf.Qa (Xt rf) (Xs rf Qb) (Qe (ZC rf))) 0 Le)) (Qf Qp (Lg (Q8 rf.Qd rf.Qa (Xt rf) (Xs rf Qb) (Qe (ZC rf))) 0 Le))]
def aN(rf:Qg)(Qb:List Int):Array Value:=#[QV (Li (Zv rf)) (Qf Qp (Zv rf)),QV (Li (Xr rf)) (Qf XE (Xr rf)),QV (Li (Xq rf Qb)) (Qf XE (Xq rf Qb))]
def aM(rf:Qg)(Qb:List Int):Array Value:=#[QV (Li (ZC rf)) (Qf Qp (ZC rf)),QV (Li (Xt rf)) (Qf XE (Xt rf)),QV (Li (Xs rf Qb)) (Qf XE (Xs rf Qb))]
def RY(rf:Qg):Array Value:=#[QV rf.Qa.length (Qf Qn rf.Qa),.int .i64 rf.Qq,.int .i64 rf.Qd]
theorem vA(B:Lo)(rf:Qg)(Qb:List Int)(i:Int)(zs:List Span)(zn:Nat)(Q0:Nat->Value):landM (Q2 YP (QE YP) J0 B 11 1 (QS 22 65 (([2,5,7,9,10,11,12]:List Nat).zip (Js rf Qb i zs zn)) Q0 Jv) (QN (Un rf Qb i zs zn)) (2+(Un rf Qb i zs zn).length)
 [(4,Vh),(8,Qk.tidx 0 (Sa rf Qb)),(11,Qk.tidx i.toNat #[.int .i64 (Lg (Lg (Q8 rf.Qd rf.Qa (Xr rf) (Xq rf Qb) (Qe (Zv rf))) 0 Le) i.toNat Le)]),(15,Qk.tidx 0 (RZ rf Qb)),(18,Qk.tidx i.toNat #[.int .i64 (Lg (Lg (Q8 rf.Qd rf.Qa (Xt rf) (Xs rf Qb) (Qe (ZC rf))) 0 Le) i.toNat Le)]),(22,Qk.Zl (Hint.app (Qf QM (zs++[{lo:=Lg (Lg (Q8 rf.Qd rf.Qa (Xr rf) (Xq rf Qb) (Qe (Zv rf))) 0 Le) i.toNat Le,hi:=Lg (Lg (Q8 rf.Qd rf.Qa (Xt rf) (Xs rf Qb) (Qe (ZC rf))) 0 Le) i.toNat Le}])))),(25,WL (i+1))] 0 [] []) [2,5,7,9,10,11,12] [(2,KS.auto),(5,KS.cells [] (Qf QM (zs++[{lo:=Lg (Lg (Q8 rf.Qd rf.Qa (Xr rf) (Xq rf Qb) (Qe (Zv rf))) 0 Le) i.toNat Le,hi:=Lg (Lg (Q8 rf.Qd rf.Qa (Xt rf) (Xs rf Qb) (Qe (ZC rf))) 0 Le) i.toNat Le}])))] []=some ⟨22,65,Jv,[],.run,none,Js rf Qb (i+1) (zs++[{lo:=Lg (Lg (Q8 rf.Qd rf.Qa (Xr rf) (Xq rf Qb) (Qe (Zv rf))) 0 Le) i.toNat Le,hi:=Lg (Lg (Q8 rf.Qd rf.Qa (Xt rf) (Xs rf Qb) (Qe (ZC rf))) 0 Le) i.toNat Le}]) (zn+1),Un rf Qb (i+1) (zs++[{lo:=Lg (Lg (Q8 rf.Qd rf.Qa (Xr rf) (Xq rf Qb) (Qe (Zv rf))) 0 Le) i.toNat Le,hi:=Lg (Lg (Q8 rf.Qd rf.Qa (Xt rf) (Xs rf Qb) (Qe (ZC rf))) 0 Le) i.toNat Le}]) (zn+1),
 [QQ 1 [] (Qf QM (zs++[{lo:=Lg (Lg (Q8 rf.Qd rf.Qa (Xr rf) (Xq rf Qb) (Qe (Zv rf))) 0 Le) i.toNat Le,hi:=Lg (Lg (Q8 rf.Qd rf.Qa (Xt rf) (Xs rf Qb) (Qe (ZC rf))) 0 Le) i.toNat Le}])) (Qf QM (zs++[{lo:=Lg (Lg (Q8 rf.Qd rf.Qa (Xr rf) (Xq rf Qb) (Qe (Zv rf))) 0 Le) i.toNat Le,hi:=Lg (Lg (Q8 rf.Qd rf.Qa (Xt rf) (Xs rf Qb) (Qe (ZC rf))) 0 Le) i.toNat Le}])),wq (i+1)=i+1,L4 (Qf QM zs)=zn*(1+1)/\zn+1<=maxLen/\(zn+1)*16<=140737488355328/\Qf QM zs++#[.int .i64 (Lg (Lg (Q8 rf.Qd rf.Qa (Xr rf) (Xq rf Qb) (Qe (Zv rf))) 0 Le) i.toNat Le),.int .i64 (Lg (Lg (Q8 rf.Qd rf.Qa (Xt rf) (Xs rf Qb) (Qe (ZC rf))) 0 Le) i.toNat Le)]=Qf QM (zs++[{lo:=Lg (Lg (Q8 rf.Qd rf.Qa (Xr rf) (Xq rf Qb) (Qe (Zv rf))) 0 Le) i.toNat Le,hi:=Lg (Lg (Q8 rf.Qd rf.Qa (Xt rf) (Xs rf Qb) (Qe (ZC rf))) 0 Le) i.toNat Le}]),i=(↑i.toNat:Int)/\Lf i<Li (Lg (Q8 rf.Qd rf.Qa (Xt rf) (Xs rf Qb) (Qe (ZC rf))) 0 Le)/\Lz (Qf Qp (Lg (Q8 rf.Qd rf.Qa (Xt rf) (Xs rf Qb) (Qe (ZC rf))) 0 Le)) (Lf i*TypeInfo.size Try.t3) (Lf i*TypeInfo.size Try.t3+TypeInfo.size Try.t3)=#[.int .i64 (Lg (Lg (Q8 rf.Qd rf.Qa (Xt rf) (Xs rf Qb) (Qe (ZC rf))) 0 Le) i.toNat Le)],0=(↑0:Int)/\0<Li (Q8 rf.Qd rf.Qa (Xt rf) (Xs rf Qb) (Qe (ZC rf)))/\Lz (Qf XE (Q8 rf.Qd rf.Qa (Xt rf) (Xs rf Qb) (Qe (ZC rf)))) (0*TypeInfo.size Try.t25) (0*TypeInfo.size Try.t25+TypeInfo.size Try.t25)=(RZ rf Qb),i=(↑i.toNat:Int)/\Lf i<Li (Lg (Q8 rf.Qd rf.Qa (Xr rf) (Xq rf Qb) (Qe (Zv rf))) 0 Le)/\Lz (Qf Qp (Lg (Q8 rf.Qd rf.Qa (Xr rf) (Xq rf Qb) (Qe (Zv rf))) 0 Le)) (Lf i*TypeInfo.size Try.t3) (Lf i*TypeInfo.size Try.t3+TypeInfo.size Try.t3)=#[.int .i64 (Lg (Lg (Q8 rf.Qd rf.Qa (Xr rf) (Xq rf Qb) (Qe (Zv rf))) 0 Le) i.toNat Le)],0=(↑0:Int)/\0<Li (Q8 rf.Qd rf.Qa (Xr rf) (Xq rf Qb) (Qe (Zv rf)))/\Lz (Qf XE (Q8 rf.Qd rf.Qa (Xr rf) (Xq rf Qb) (Qe (Zv rf)))) (0*TypeInfo.size Try.t25) (0*TypeInfo.size Try.t25+TypeInfo.size Try.t25)=(Sa rf Qb),Zs i (↑rf.Qa.length:Int)=true]⟩:=by kernel_rfl
theorem v9(B:Lo)(rf:Qg)(Qb:List Int)(i:Int)(zs:List Span)(zn:Nat)(Q0:Nat->Value):landM (Q2 YP (QE YP) J0 B 9 1 (QS 22 65 (([2,5,7,9,10,11,12]:List Nat).zip (Js rf Qb i zs zn)) Q0 Jv) (QN (Un rf Qb i zs zn)) (2+(Un rf Qb i zs zn).length)
 [(4,Ud)] 0 [] []) [2,5,7,9,10] [(2,KS.auto),(5,KS.rows [] [3] [] (Qf (QK 1 W4) [{n:=zn,l:=zs}]))] [{k:=3,rs:=[],cs:=Qf QM zs}]=some ⟨22,65,Jt,[],.run,none,Jq rf Qb (1) ([{n:=zn,l:=zs}]) (1),Ul rf Qb (1) ([{n:=zn,l:=zs}]) (1),
 [X3 1 [] [(3,Fz.cs {k:=3,rs:=[],cs:=Qf QM zs})] [] #[.slice (some {block:=3,off:=0}) zn 2] (Qf (QK 1 W4) [{n:=zn,l:=zs}]),Zk (Fz.rs {k:=3,rs:=[],cs:=Qf QM zs}) (Qf QM zs) (Fz.cs {k:=3,rs:=[],cs:=Qf QM zs}),Zs i (↑rf.Qa.length:Int)=false]⟩:=by kernel_rfl
theorem v8(B:Lo)(rf:Qg)(Qb:List Int)(s i:Int)(os:List yu)(zs:List Span)(on zn:Nat)(Q0:Nat->Value):landM (Q2 YP (QE YP) J0 B 11 1 (QS 22 65 (([2,5,7,9,10,11,12]:List Nat).zip (Jr rf Qb s i os zs on zn)) Q0 Ju) (QN (Um rf Qb s i os zs on zn)) (2+(Um rf Qb s i os zs on zn).length)
 [(4,Vh),(8,Qk.tidx s.toNat #[QV (Li (Lg (Q8 rf.Qd rf.Qa (Xr rf) (Xq rf Qb) (Qe (Zv rf))) s.toNat Le)) (Qf Qp (Lg (Q8 rf.Qd rf.Qa (Xr rf) (Xq rf Qb) (Qe (Zv rf))) s.toNat Le))]),(11,Qk.tidx i.toNat #[.int .i64 (Lg (Lg (Q8 rf.Qd rf.Qa (Xr rf) (Xq rf Qb) (Qe (Zv rf))) s.toNat Le) i.toNat Le)]),(15,Qk.tidx s.toNat #[QV (Li (Lg (Q8 rf.Qd rf.Qa (Xt rf) (Xs rf Qb) (Qe (ZC rf))) s.toNat Le)) (Qf Qp (Lg (Q8 rf.Qd rf.Qa (Xt rf) (Xs rf Qb) (Qe (ZC rf))) s.toNat Le))]),(18,Qk.tidx i.toNat #[.int .i64 (Lg (Lg (Q8 rf.Qd rf.Qa (Xt rf) (Xs rf Qb) (Qe (ZC rf))) s.toNat Le) i.toNat Le)]),(22,Qk.Zl (Hint.app (Qf QM (zs++[{lo:=Lg (Lg (Q8 rf.Qd rf.Qa (Xr rf) (Xq rf Qb) (Qe (Zv rf))) s.toNat Le) i.toNat Le,hi:=Lg (Lg (Q8 rf.Qd rf.Qa (Xt rf) (Xs rf Qb) (Qe (ZC rf))) s.toNat Le) i.toNat Le}])))),(25,WL (i+1))] 0 [] []) [2,5,7,9,10,11,12] [(2,KS.auto),(3,KS.rows [(1,1)] [] [] (Qf (QK 1 W4) os)),(6,KS.cells [] (Qf QM (zs++[{lo:=Lg (Lg (Q8 rf.Qd rf.Qa (Xr rf) (Xq rf Qb) (Qe (Zv rf))) s.toNat Le) i.toNat Le,hi:=Lg (Lg (Q8 rf.Qd rf.Qa (Xt rf) (Xs rf Qb) (Qe (ZC rf))) s.toNat Le) i.toNat Le}])))] []=some ⟨22,65,Ju,[],.run,none,Jr rf Qb (s) (i+1) (os) (zs++[{lo:=Lg (Lg (Q8 rf.Qd rf.Qa (Xr rf) (Xq rf Qb) (Qe (Zv rf))) s.toNat Le) i.toNat Le,hi:=Lg (Lg (Q8 rf.Qd rf.Qa (Xt rf) (Xs rf Qb) (Qe (ZC rf))) s.toNat Le) i.toNat Le}]) (on) (zn+1),Um rf Qb (s) (i+1) (os) (zs++[{lo:=Lg (Lg (Q8 rf.Qd rf.Qa (Xr rf) (Xq rf Qb) (Qe (Zv rf))) s.toNat Le) i.toNat Le,hi:=Lg (Lg (Q8 rf.Qd rf.Qa (Xt rf) (Xs rf Qb) (Qe (ZC rf))) s.toNat Le) i.toNat Le}]) (on) (zn+1),
 [X3 1 [(1,1)] [] [] (Qf (QK 1 W4) os) (Qf (QK 1 W4) os),QQ 1 [] (Qf QM (zs++[{lo:=Lg (Lg (Q8 rf.Qd rf.Qa (Xr rf) (Xq rf Qb) (Qe (Zv rf))) s.toNat Le) i.toNat Le,hi:=Lg (Lg (Q8 rf.Qd rf.Qa (Xt rf) (Xs rf Qb) (Qe (ZC rf))) s.toNat Le) i.toNat Le}])) (Qf QM (zs++[{lo:=Lg (Lg (Q8 rf.Qd rf.Qa (Xr rf) (Xq rf Qb) (Qe (Zv rf))) s.toNat Le) i.toNat Le,hi:=Lg (Lg (Q8 rf.Qd rf.Qa (Xt rf) (Xs rf Qb) (Qe (ZC rf))) s.toNat Le) i.toNat Le}])),wq (i+1)=i+1,L4 (Qf QM zs)=zn*(1+1)/\zn+1<=maxLen/\(zn+1)*16<=140737488355328/\Qf QM zs++#[.int .i64 (Lg (Lg (Q8 rf.Qd rf.Qa (Xr rf) (Xq rf Qb) (Qe (Zv rf))) s.toNat Le) i.toNat Le),.int .i64 (Lg (Lg (Q8 rf.Qd rf.Qa (Xt rf) (Xs rf Qb) (Qe (ZC rf))) s.toNat Le) i.toNat Le)]=Qf QM (zs++[{lo:=Lg (Lg (Q8 rf.Qd rf.Qa (Xr rf) (Xq rf Qb) (Qe (Zv rf))) s.toNat Le) i.toNat Le,hi:=Lg (Lg (Q8 rf.Qd rf.Qa (Xt rf) (Xs rf Qb) (Qe (ZC rf))) s.toNat Le) i.toNat Le}]),i=(↑i.toNat:Int)/\Lf i<Li (Lg (Q8 rf.Qd rf.Qa (Xt rf) (Xs rf Qb) (Qe (ZC rf))) s.toNat Le)/\Lz (Qf Qp (Lg (Q8 rf.Qd rf.Qa (Xt rf) (Xs rf Qb) (Qe (ZC rf))) s.toNat Le)) (Lf i*TypeInfo.size Try.t3) (Lf i*TypeInfo.size Try.t3+TypeInfo.size Try.t3)=#[.int .i64 (Lg (Lg (Q8 rf.Qd rf.Qa (Xt rf) (Xs rf Qb) (Qe (ZC rf))) s.toNat Le) i.toNat Le)],s=(↑s.toNat:Int)/\Lf s<Li (Q8 rf.Qd rf.Qa (Xt rf) (Xs rf Qb) (Qe (ZC rf)))/\Lz (Qf XE (Q8 rf.Qd rf.Qa (Xt rf) (Xs rf Qb) (Qe (ZC rf)))) (Lf s*TypeInfo.size Try.t25) (Lf s*TypeInfo.size Try.t25+TypeInfo.size Try.t25)=#[QV (Li (Lg (Q8 rf.Qd rf.Qa (Xt rf) (Xs rf Qb) (Qe (ZC rf))) s.toNat Le)) (Qf Qp (Lg (Q8 rf.Qd rf.Qa (Xt rf) (Xs rf Qb) (Qe (ZC rf))) s.toNat Le))],i=(↑i.toNat:Int)/\Lf i<Li (Lg (Q8 rf.Qd rf.Qa (Xr rf) (Xq rf Qb) (Qe (Zv rf))) s.toNat Le)/\Lz (Qf Qp (Lg (Q8 rf.Qd rf.Qa (Xr rf) (Xq rf Qb) (Qe (Zv rf))) s.toNat Le)) (Lf i*TypeInfo.size Try.t3) (Lf i*TypeInfo.size Try.t3+TypeInfo.size Try.t3)=#[.int .i64 (Lg (Lg (Q8 rf.Qd rf.Qa (Xr rf) (Xq rf Qb) (Qe (Zv rf))) s.toNat Le) i.toNat Le)],s=(↑s.toNat:Int)/\Lf s<Li (Q8 rf.Qd rf.Qa (Xr rf) (Xq rf Qb) (Qe (Zv rf)))/\Lz (Qf XE (Q8 rf.Qd rf.Qa (Xr rf) (Xq rf Qb) (Qe (Zv rf)))) (Lf s*TypeInfo.size Try.t25) (Lf s*TypeInfo.size Try.t25+TypeInfo.size Try.t25)=#[QV (Li (Lg (Q8 rf.Qd rf.Qa (Xr rf) (Xq rf Qb) (Qe (Zv rf))) s.toNat Le)) (Qf Qp (Lg (Q8 rf.Qd rf.Qa (Xr rf) (Xq rf Qb) (Qe (Zv rf))) s.toNat Le))],Zs i (↑rf.Qa.length:Int)=true]⟩:=by kernel_rfl
theorem v7(B:Lo)(rf:Qg)(Qb:List Int)(s i:Int)(os:List yu)(zs:List Span)(on zn:Nat)(Q0:Nat->Value):landM (Q2 YP (QE YP) J0 B 9 1 (QS 22 65 (([2,5,7,9,10,11,12]:List Nat).zip (Jr rf Qb s i os zs on zn)) Q0 Ju) (QN (Um rf Qb s i os zs on zn)) (2+(Um rf Qb s i os zs on zn).length)
 [(4,Ud),(8,Qk.Zl (Hint.app (Qf (QK 1 W4) os++#[.slice (some {block:=4,off:=0}) zn 2]))),(11,WL (s+1))] 0 [] []) [2,5,7,9,10] [(2,KS.auto),(6,KS.rows [(1,1)] [4] [] (Qf (QK 1 W4) (os++[{n:=zn,l:=zs}])))] [{k:=4,rs:=[],cs:=Qf QM zs}]=some ⟨22,65,Jt,[],.run,none,Jq rf Qb (s+1) (os++[{n:=zn,l:=zs}]) (on+1),Ul rf Qb (s+1) (os++[{n:=zn,l:=zs}]) (on+1),
 [X3 1 [(1,1)] [(4,Fz.cs {k:=4,rs:=[],cs:=Qf QM zs})] [] (Qf (QK 1 W4) os++#[.slice (some {block:=4,off:=0}) zn 2]) (Qf (QK 1 W4) (os++[{n:=zn,l:=zs}])),Zk (Fz.rs {k:=4,rs:=[],cs:=Qf QM zs}) (Qf QM zs) (Fz.cs {k:=4,rs:=[],cs:=Qf QM zs}),wq (s+1)=s+1,L4 (Qf (QK 1 W4) os)=on*(0+1)/\on+1<=maxLen/\(on+1)*24<=140737488355328/\Qf (QK 1 W4) os++#[.slice (some {block:=4,off:=0}) zn 2]=Qf (QK 1 W4) os++#[.slice (some {block:=4,off:=0}) zn 2],Zs i (↑rf.Qa.length:Int)=false]⟩:=by kernel_rfl
theorem v5(B:Lo)(rf:Qg)(Qb:List Int)(s:Int)(os:List yu)(on:Nat)(Q0:Nat->Value):landM (Q2 YP (QE YP) J0 B 25 1 (QS 22 65 (([2,5,7,9,10]:List Nat).zip (Jq rf Qb s os on)) Q0 Jt) (QN (Ul rf Qb s os on)) (2+(Ul rf Qb s os on).length)
 [(3,Vh),(10,Vh),(14,Qk.tidx s.toNat #[QV (Li (Lg (Q8 rf.Qd rf.Qa (Xr rf) (Xq rf Qb) (Qe (Zv rf))) s.toNat Le)) (Qf Qp (Lg (Q8 rf.Qd rf.Qa (Xr rf) (Xq rf Qb) (Qe (Zv rf))) s.toNat Le))]),(17,Qk.tidx 0 #[.int .i64 (Lg (Lg (Q8 rf.Qd rf.Qa (Xr rf) (Xq rf Qb) (Qe (Zv rf))) s.toNat Le) 0 Le)]),(21,Qk.tidx s.toNat #[QV (Li (Lg (Q8 rf.Qd rf.Qa (Xt rf) (Xs rf Qb) (Qe (ZC rf))) s.toNat Le)) (Qf Qp (Lg (Q8 rf.Qd rf.Qa (Xt rf) (Xs rf Qb) (Qe (ZC rf))) s.toNat Le))]),(24,Qk.tidx 0 #[.int .i64 (Lg (Lg (Q8 rf.Qd rf.Qa (Xt rf) (Xs rf Qb) (Qe (ZC rf))) s.toNat Le) 0 Le)])] 0 [] []) [2,5,7,9,10,11,12] [(2,KS.auto),(3,KS.rows [(1,1)] [] [] (Qf (QK 1 W4) os)),(5,KS.cells [] (Qf QM [{lo:=Lg (Lg (Q8 rf.Qd rf.Qa (Xr rf) (Xq rf Qb) (Qe (Zv rf))) s.toNat Le) 0 Le,hi:=Lg (Lg (Q8 rf.Qd rf.Qa (Xt rf) (Xs rf Qb) (Qe (ZC rf))) s.toNat Le) 0 Le}]))] []=some ⟨22,65,Ju,[],.run,none,Jr rf Qb (s) (1) (os) ([{lo:=Lg (Lg (Q8 rf.Qd rf.Qa (Xr rf) (Xq rf Qb) (Qe (Zv rf))) s.toNat Le) 0 Le,hi:=Lg (Lg (Q8 rf.Qd rf.Qa (Xt rf) (Xs rf Qb) (Qe (ZC rf))) s.toNat Le) 0 Le}]) (on) (1),Um rf Qb (s) (1) (os) ([{lo:=Lg (Lg (Q8 rf.Qd rf.Qa (Xr rf) (Xq rf Qb) (Qe (Zv rf))) s.toNat Le) 0 Le,hi:=Lg (Lg (Q8 rf.Qd rf.Qa (Xt rf) (Xs rf Qb) (Qe (ZC rf))) s.toNat Le) 0 Le}]) (on) (1),
 [X3 1 [(1,1)] [] [] (Qf (QK 1 W4) os) (Qf (QK 1 W4) os),QQ 1 [] (#[.int .i64 (Lg (Lg (Q8 rf.Qd rf.Qa (Xr rf) (Xq rf Qb) (Qe (Zv rf))) s.toNat Le) 0 Le),.int .i64 (Lg (Lg (Q8 rf.Qd rf.Qa (Xt rf) (Xs rf Qb) (Qe (ZC rf))) s.toNat Le) 0 Le)]) (Qf QM [{lo:=Lg (Lg (Q8 rf.Qd rf.Qa (Xr rf) (Xq rf Qb) (Qe (Zv rf))) s.toNat Le) 0 Le,hi:=Lg (Lg (Q8 rf.Qd rf.Qa (Xt rf) (Xs rf Qb) (Qe (ZC rf))) s.toNat Le) 0 Le}]),0=(↑0:Int)/\0<Li (Lg (Q8 rf.Qd rf.Qa (Xt rf) (Xs rf Qb) (Qe (ZC rf))) s.toNat Le)/\Lz (Qf Qp (Lg (Q8 rf.Qd rf.Qa (Xt rf) (Xs rf Qb) (Qe (ZC rf))) s.toNat Le)) (0*TypeInfo.size Try.t3) (0*TypeInfo.size Try.t3+TypeInfo.size Try.t3)=#[.int .i64 (Lg (Lg (Q8 rf.Qd rf.Qa (Xt rf) (Xs rf Qb) (Qe (ZC rf))) s.toNat Le) 0 Le)],s=(↑s.toNat:Int)/\Lf s<Li (Q8 rf.Qd rf.Qa (Xt rf) (Xs rf Qb) (Qe (ZC rf)))/\Lz (Qf XE (Q8 rf.Qd rf.Qa (Xt rf) (Xs rf Qb) (Qe (ZC rf)))) (Lf s*TypeInfo.size Try.t25) (Lf s*TypeInfo.size Try.t25+TypeInfo.size Try.t25)=#[QV (Li (Lg (Q8 rf.Qd rf.Qa (Xt rf) (Xs rf Qb) (Qe (ZC rf))) s.toNat Le)) (Qf Qp (Lg (Q8 rf.Qd rf.Qa (Xt rf) (Xs rf Qb) (Qe (ZC rf))) s.toNat Le))],0=(↑0:Int)/\0<Li (Lg (Q8 rf.Qd rf.Qa (Xr rf) (Xq rf Qb) (Qe (Zv rf))) s.toNat Le)/\Lz (Qf Qp (Lg (Q8 rf.Qd rf.Qa (Xr rf) (Xq rf Qb) (Qe (Zv rf))) s.toNat Le)) (0*TypeInfo.size Try.t3) (0*TypeInfo.size Try.t3+TypeInfo.size Try.t3)=#[.int .i64 (Lg (Lg (Q8 rf.Qd rf.Qa (Xr rf) (Xq rf Qb) (Qe (Zv rf))) s.toNat Le) 0 Le)],s=(↑s.toNat:Int)/\Lf s<Li (Q8 rf.Qd rf.Qa (Xr rf) (Xq rf Qb) (Qe (Zv rf)))/\Lz (Qf XE (Q8 rf.Qd rf.Qa (Xr rf) (Xq rf Qb) (Qe (Zv rf)))) (Lf s*TypeInfo.size Try.t25) (Lf s*TypeInfo.size Try.t25+TypeInfo.size Try.t25)=#[QV (Li (Lg (Q8 rf.Qd rf.Qa (Xr rf) (Xq rf Qb) (Qe (Zv rf))) s.toNat Le)) (Qf Qp (Lg (Q8 rf.Qd rf.Qa (Xr rf) (Xq rf Qb) (Qe (Zv rf))) s.toNat Le))],Zs 0 (↑rf.Qa.length:Int)=true,Zs s rf.Qd=true]⟩:=by kernel_rfl
theorem v3(B:Lo)(rf:Qg)(Qb:List Int)(s:Int)(os:List yu)(on:Nat)(Q0:Nat->Value):X2 (Q2 YP (QE YP) J0 B 9 1 (QS 22 65 (([2,5,7,9,10]:List Nat).zip (Jq rf Qb s os on)) Q0 Jt) (QN (Ul rf Qb s os on)) (2+(Ul rf Qb s os on).length)
 [(3,Ud)] 0 [] []) [{k:=3,rs:=[1],cs:=Qf W4 os}]=some (QV on (Fz.cs {k:=3,rs:=[1],cs:=Qf W4 os}),
 [Zk (Fz.rs {k:=3,rs:=[1],cs:=Qf W4 os}) (Qf (QK 1 W4) os) (Fz.cs {k:=3,rs:=[1],cs:=Qf W4 os}),Zs s rf.Qd=false]):=by kernel_rfl
theorem vz(B:Lo)(rf:Qg)(Qb:List Int):landM (Q2 YP (QE YP) J0 B 38 1 (Q3 YP 22 65 (([.agg (Q9 rf).toArray,Zj Qb]).map (QD 0 4))) Z9 1
 [(5,Qk.pure (.agg (aN rf Qb)) []),(6,Qk.pure (.tuple #[QV (Li (Q8 rf.Qd rf.Qa (Xr rf) (Xq rf Qb) (Qe (Zv rf)))) (Qf XE (Q8 rf.Qd rf.Qa (Xr rf) (Xq rf Qb) (Qe (Zv rf)))),.agg #[.int .i64 (F4.sum (Qe (Zv rf))),.int .i64 (QW 0 rf.Qd (ZE rf.Qa (Xr rf) (Xq rf Qb) (Qe (Zv rf)))),.int .i64 (QW 0 rf.Qd (XU rf.Qa (Xr rf) (Xq rf Qb) (Qe (Zv rf)))),.int .i64 (QW 0 rf.Qd (ZD rf.Qa (Xr rf) (Xq rf Qb) (Qe (Zv rf)))),.int .i64 (F4.sum (Z6 rf.Qa (Xr rf) (Xq rf Qb) (Qe (Zv rf)) (Lf rf.Qd)))]]) []),(16,Qk.pure (.agg (aM rf Qb)) []),(17,Qk.pure (.tuple #[QV (Li (Q8 rf.Qd rf.Qa (Xt rf) (Xs rf Qb) (Qe (ZC rf)))) (Qf XE (Q8 rf.Qd rf.Qa (Xt rf) (Xs rf Qb) (Qe (ZC rf)))),.agg #[.int .i64 (F4.sum (Qe (ZC rf))),.int .i64 (QW 0 rf.Qd (ZE rf.Qa (Xt rf) (Xs rf Qb) (Qe (ZC rf)))),.int .i64 (QW 0 rf.Qd (XU rf.Qa (Xt rf) (Xs rf Qb) (Qe (ZC rf)))),.int .i64 (QW 0 rf.Qd (ZD rf.Qa (Xt rf) (Xs rf Qb) (Qe (ZC rf)))),.int .i64 (F4.sum (Z6 rf.Qa (Xt rf) (Xs rf Qb) (Qe (ZC rf)) (Lf rf.Qd)))]]) []),(29,Vh),(36,Vh),(40,Qk.tidx 0 (Sa rf Qb)),(43,Qk.tidx 0 #[.int .i64 (Lg (Lg (Q8 rf.Qd rf.Qa (Xr rf) (Xq rf Qb) (Qe (Zv rf))) 0 Le) 0 Le)]),(47,Qk.tidx 0 (RZ rf Qb)),(50,Qk.tidx 0 #[.int .i64 (Lg (Lg (Q8 rf.Qd rf.Qa (Xt rf) (Xs rf Qb) (Qe (ZC rf))) 0 Le) 0 Le)])] 0 [] []) [2,5,7,9,10,11,12] [(1,KS.auto),(9,KS.cells [] (Qf QM [{lo:=Lg (Lg (Q8 rf.Qd rf.Qa (Xr rf) (Xq rf Qb) (Qe (Zv rf))) 0 Le) 0 Le,hi:=Lg (Lg (Q8 rf.Qd rf.Qa (Xt rf) (Xs rf Qb) (Qe (ZC rf))) 0 Le) 0 Le}]))] []=some ⟨22,65,Jv,[],.run,none,Js rf Qb (1) ([{lo:=Lg (Lg (Q8 rf.Qd rf.Qa (Xr rf) (Xq rf Qb) (Qe (Zv rf))) 0 Le) 0 Le,hi:=Lg (Lg (Q8 rf.Qd rf.Qa (Xt rf) (Xs rf Qb) (Qe (ZC rf))) 0 Le) 0 Le}]) (1),Un rf Qb (1) ([{lo:=Lg (Lg (Q8 rf.Qd rf.Qa (Xr rf) (Xq rf Qb) (Qe (Zv rf))) 0 Le) 0 Le,hi:=Lg (Lg (Q8 rf.Qd rf.Qa (Xt rf) (Xs rf Qb) (Qe (ZC rf))) 0 Le) 0 Le}]) (1),
 [QQ 1 [] (#[.int .i64 (Lg (Lg (Q8 rf.Qd rf.Qa (Xr rf) (Xq rf Qb) (Qe (Zv rf))) 0 Le) 0 Le),.int .i64 (Lg (Lg (Q8 rf.Qd rf.Qa (Xt rf) (Xs rf Qb) (Qe (ZC rf))) 0 Le) 0 Le)]) (Qf QM [{lo:=Lg (Lg (Q8 rf.Qd rf.Qa (Xr rf) (Xq rf Qb) (Qe (Zv rf))) 0 Le) 0 Le,hi:=Lg (Lg (Q8 rf.Qd rf.Qa (Xt rf) (Xs rf Qb) (Qe (ZC rf))) 0 Le) 0 Le}]),0=(↑0:Int)/\0<Li (Lg (Q8 rf.Qd rf.Qa (Xt rf) (Xs rf Qb) (Qe (ZC rf))) 0 Le)/\Lz (Qf Qp (Lg (Q8 rf.Qd rf.Qa (Xt rf) (Xs rf Qb) (Qe (ZC rf))) 0 Le)) (0*TypeInfo.size Try.t3) (0*TypeInfo.size Try.t3+TypeInfo.size Try.t3)=#[.int .i64 (Lg (Lg (Q8 rf.Qd rf.Qa (Xt rf) (Xs rf Qb) (Qe (ZC rf))) 0 Le) 0 Le)],0=(↑0:Int)/\0<Li (Q8 rf.Qd rf.Qa (Xt rf) (Xs rf Qb) (Qe (ZC rf)))/\Lz (Qf XE (Q8 rf.Qd rf.Qa (Xt rf) (Xs rf Qb) (Qe (ZC rf)))) (0*TypeInfo.size Try.t25) (0*TypeInfo.size Try.t25+TypeInfo.size Try.t25)=(RZ rf Qb),0=(↑0:Int)/\0<Li (Lg (Q8 rf.Qd rf.Qa (Xr rf) (Xq rf Qb) (Qe (Zv rf))) 0 Le)/\Lz (Qf Qp (Lg (Q8 rf.Qd rf.Qa (Xr rf) (Xq rf Qb) (Qe (Zv rf))) 0 Le)) (0*TypeInfo.size Try.t3) (0*TypeInfo.size Try.t3+TypeInfo.size Try.t3)=#[.int .i64 (Lg (Lg (Q8 rf.Qd rf.Qa (Xr rf) (Xq rf Qb) (Qe (Zv rf))) 0 Le) 0 Le)],0=(↑0:Int)/\0<Li (Q8 rf.Qd rf.Qa (Xr rf) (Xq rf Qb) (Qe (Zv rf)))/\Lz (Qf XE (Q8 rf.Qd rf.Qa (Xr rf) (Xq rf Qb) (Qe (Zv rf)))) (0*TypeInfo.size Try.t25) (0*TypeInfo.size Try.t25+TypeInfo.size Try.t25)=(Sa rf Qb),Zs 0 (↑rf.Qa.length:Int)=true,Zs 0 rf.Qd=true,QB []/\Q6 YP J0 28 #[.agg (RY rf),.agg (aM rf Qb)] (.tuple #[QV (Li (Q8 rf.Qd rf.Qa (Xt rf) (Xs rf Qb) (Qe (ZC rf)))) (Qf XE (Q8 rf.Qd rf.Qa (Xt rf) (Xs rf Qb) (Qe (ZC rf)))),.agg #[.int .i64 (F4.sum (Qe (ZC rf))),.int .i64 (QW 0 rf.Qd (ZE rf.Qa (Xt rf) (Xs rf Qb) (Qe (ZC rf)))),.int .i64 (QW 0 rf.Qd (XU rf.Qa (Xt rf) (Xs rf Qb) (Qe (ZC rf)))),.int .i64 (QW 0 rf.Qd (ZD rf.Qa (Xt rf) (Xs rf Qb) (Qe (ZC rf)))),.int .i64 (F4.sum (Z6 rf.Qa (Xt rf) (Xs rf Qb) (Qe (ZC rf)) (Lf rf.Qd)))]]),QB []/\Q6 YP J0 34 #[.agg (RY rf),QV Qb.length (Qf Qp Qb),.bool true] (.agg (aM rf Qb)),QB []/\Q6 YP J0 28 #[.agg (RY rf),.agg (aN rf Qb)] (.tuple #[QV (Li (Q8 rf.Qd rf.Qa (Xr rf) (Xq rf Qb) (Qe (Zv rf)))) (Qf XE (Q8 rf.Qd rf.Qa (Xr rf) (Xq rf Qb) (Qe (Zv rf)))),.agg #[.int .i64 (F4.sum (Qe (Zv rf))),.int .i64 (QW 0 rf.Qd (ZE rf.Qa (Xr rf) (Xq rf Qb) (Qe (Zv rf)))),.int .i64 (QW 0 rf.Qd (XU rf.Qa (Xr rf) (Xq rf Qb) (Qe (Zv rf)))),.int .i64 (QW 0 rf.Qd (ZD rf.Qa (Xr rf) (Xq rf Qb) (Qe (Zv rf)))),.int .i64 (F4.sum (Z6 rf.Qa (Xr rf) (Xq rf Qb) (Qe (Zv rf)) (Lf rf.Qd)))]]),QB []/\Q6 YP J0 34 #[.agg (RY rf),QV Qb.length (Qf Qp Qb),.bool false] (.agg (aN rf Qb))]⟩:=by kernel_rfl
set_option maxHeartbeats 4000000 in
theorem vB(rf:Qg)(Qb:List Int)(hr:Zq rf=true)(hp:XN rf Qb=true){B:Lo}(hJ:∀w,B.has w->J0 w){c0:CF}:∀m:Nat,(∀(i:Int) (zs:List Span) (zn:Nat),9000+(rf.Qa.length-i.toNat)=m->∀(h0:1<=i) (h1:i<=rf.Qa.length) (hzn:zn=zs.length) (hz:zs=(JV 0 i).map (fV rf Qb 0)),vE B c0 rf Qb i zs zn->EndsT YP B c0 (y2 (Zb rf Qb)))/\(∀(s i:Int) (os:List yu) (zs:List Span) (on zn:Nat),100*(rf.Qd-s).toNat+(rf.Qa.length-i.toNat)=m->∀(s0:1<=s) (s1:s<rf.Qd) (h0:1<=i) (h1:i<=rf.Qa.length) (hon:on=os.length) (ho:os=(JV 0 s).map fun z=>⟨rf.Qa.length,iF rf Qb z⟩) (hzn:zn=zs.length) (hz:zs=(JV 0 i).map (fV rf Qb s)),vD B c0 rf Qb s i os zs on zn->EndsT YP B c0 (y2 (Zb rf Qb)))/\(∀(s:Int) (os:List yu) (on:Nat),100*(rf.Qd-s).toNat+99=m->∀(s0:1<=s) (s1:s<=rf.Qd) (hon:on=os.length) (ho:os=(JV 0 s).map fun z=>⟨rf.Qa.length,iF rf Qb z⟩),vC B c0 rf Qb s os on->EndsT YP B c0 (y2 (Zb rf Qb))):=by
 intro m0;induction m0 using LQ with
 |_ m0 ih0=>
  refine⟨?_, ?_, ?_⟩
  ·intro i zs zn S1 h0 h1 hzn hz ⟨Q0,VE,Za⟩;have Wx:=QG (Qz hr).1;have hpf:=(Xy hp).1;have ho1:=ep Qb hr;have ho2:=gR Qb hr;have hl1:=Vj (rf:=rf);have hl2:=Vk (rf:=rf);have hq1:(Q8 rf.Qd rf.Qa (Xr rf) (Xq rf Qb) (Qe (Zv rf))).length=rf.Qd.toNat:=Xk;have hq2:(Q8 rf.Qd rf.Qa (Xt rf) (Xs rf Qb) (Qe (ZC rf))).length=rf.Qd.toNat:=Xk;have hq3:((Q8 rf.Qd rf.Qa (Xr rf) (Xq rf Qb) (Qe (Zv rf))).getD 0 Le).length=rf.Qa.length:=W5 (rf:=rf) (s:=0) (by omega) (by omega) (by omega);have hq4:((Q8 rf.Qd rf.Qa (Xt rf) (Xs rf Qb) (Qe (ZC rf))).getD 0 Le).length=rf.Qa.length:=W5 (rf:=rf) (s:=0) (by omega) (by omega) (by omega);have hz0:(⟨((Q8 rf.Qd rf.Qa (Xr rf) (Xq rf Qb) (Qe (Zv rf))).getD 0 Le).getD 0 Le,((Q8 rf.Qd rf.Qa (Xt rf) (Xs rf Qb) (Qe (ZC rf))).getD 0 Le).getD 0 Le⟩:Span)=fV rf Qb 0 0:=eQ ((WB (rf:=rf) (s:=0) (i:=0) (by omega) (by omega) (by omega) (by omega) (by omega))) (WB (rf:=rf) (s:=0) (i:=0) (by omega) (by omega) (by omega) (by omega) (by omega));have Wx:=QG (Qz hr).1;have hq1:(Q8 rf.Qd rf.Qa (Xr rf) (Xq rf Qb) (Qe (Zv rf))).length=rf.Qd.toNat:=Xk;have hq2:(Q8 rf.Qd rf.Qa (Xt rf) (Xs rf Qb) (Qe (ZC rf))).length=rf.Qd.toNat:=Xk;have hq3:((Q8 rf.Qd rf.Qa (Xr rf) (Xq rf Qb) (Qe (Zv rf))).getD 0 Le).length=rf.Qa.length:=W5 (rf:=rf) (s:=0) (by omega) (by omega) (by omega);have hq4:((Q8 rf.Qd rf.Qa (Xt rf) (Xs rf Qb) (Qe (ZC rf))).getD 0 Le).length=rf.Qa.length:=W5 (rf:=rf) (s:=0) (by omega) (by omega) (by omega);have hz0:(⟨((Q8 rf.Qd rf.Qa (Xr rf) (Xq rf Qb) (Qe (Zv rf))).getD 0 Le).getD 0 Le,((Q8 rf.Qd rf.Qa (Xt rf) (Xs rf Qb) (Qe (ZC rf))).getD 0 Le).getD 0 Le⟩:Span)=fV rf Qb 0 0:=eQ ((WB (rf:=rf) (s:=0) (i:=0) (by omega) (by omega) (by omega) (by omega) (by omega))) (WB (rf:=rf) (s:=0) (i:=0) (by omega) (by omega) (by omega) (by omega) (by omega));have hzl:(zs.length:Int)=i:=by rw[hz];exact dc (by omega)
   by_cases q0:(i:Int)<((↑rf.Qa.length:Int))
   ·have hzi:(⟨((Q8 rf.Qd rf.Qa (Xr rf) (Xq rf Qb) (Qe (Zv rf))).getD 0 Le).getD i.toNat Le,((Q8 rf.Qd rf.Qa (Xt rf) (Xs rf Qb) (Qe (ZC rf))).getD 0 Le).getD i.toNat Le⟩:Span)=fV rf Qb 0 i:=eQ ((WB (rf:=rf) (s:=0) (i:=i) (by omega) (by omega) (by omega) (by omega) (by omega))) (WB (rf:=rf) (s:=0) (i:=i) (by omega) (by omega) (by omega) (by omega) (by omega));exact((ih0 _ (by omega)).1 (i+1) (zs++[{lo:=Lg (Lg (Q8 rf.Qd rf.Qa (Xr rf) (Xq rf Qb) (Qe (Zv rf))) 0 Le) i.toNat Le,hi:=Lg (Lg (Q8 rf.Qd rf.Qa (Xt rf) (Xs rf Qb) (Qe (ZC rf))) 0 Le) i.toNat Le}]) (zn+1) rfl (by omega) (by omega) (by(simp only[Ly,LB,LK];omega)) (by(rw[hz,Kz (by omega),List.map_append,hzi];rfl))
     (Za.landM okF hJ Qh (vA B rf Qb i zs zn Q0)
     (by exact⟨(Qs (Q1 (fun x=>List.all_eq_true.1 (by rfl)))),⟨(Xi (by omega) (by omega)),⟨⟨(by(rw[X0 (z:=2) (fun _=>rfl)];first|omega|(simp;omega)|(simp_all;done))),(by unfold maxLen;omega),by omega,by first|exact Zf|exact XV rfl⟩,⟨⟨by omega,by omega,(Qy (z:=1) (fun _=>rfl) (by omega))⟩,⟨⟨by omega,by omega,(Qy (z:=1) (fun _=>rfl) (by omega))⟩,⟨⟨by omega,by omega,(Qy (z:=1) (fun _=>rfl) (by omega))⟩,⟨⟨by omega,by omega,(Qy (z:=1) (fun _=>rfl) (by omega))⟩,⟨(XT q0),trivial⟩⟩⟩⟩⟩⟩⟩⟩) (by kernel_rfl) (by kernel_rfl))).cast (by rfl)
   ·have hze:zs=iF rf Qb 0:=by rw[hz,show i=rf.Qa.length by omega];rfl
    exact((ih0 _ (by omega)).2.2 (1) ([{n:=zn,l:=zs}]) (1) rfl (by omega) (by omega) (by rfl) (by(rw[show zn=rf.Qa.length by omega,hze];rfl))
     (Za.landM okF hJ Qh (v9 B rf Qb i zs zn Q0)
     (by exact⟨(by exact(KW (by exact⟨(.own (Lr _)),trivial⟩))),⟨(XP (fun x=>List.all_eq_true.1 (by rfl))),⟨(Zw (Int.not_lt.1 q0)),trivial⟩⟩⟩) (by kernel_rfl) (by kernel_rfl))).cast (by rfl)
  ·intro s i os zs on zn S1 s0 s1 h0 h1 hon ho hzn hz ⟨Q0,VE,Za⟩;have Wx:=QG (Qz hr).1;have hpf:=(Xy hp).1;have ho1:=ep Qb hr;have ho2:=gR Qb hr;have hl1:=Vj (rf:=rf);have hl2:=Vk (rf:=rf);have hq1:(Q8 rf.Qd rf.Qa (Xr rf) (Xq rf Qb) (Qe (Zv rf))).length=rf.Qd.toNat:=Xk;have hq2:(Q8 rf.Qd rf.Qa (Xt rf) (Xs rf Qb) (Qe (ZC rf))).length=rf.Qd.toNat:=Xk;have hq3:((Q8 rf.Qd rf.Qa (Xr rf) (Xq rf Qb) (Qe (Zv rf))).getD 0 Le).length=rf.Qa.length:=W5 (rf:=rf) (s:=0) (by omega) (by omega) (by omega);have hq4:((Q8 rf.Qd rf.Qa (Xt rf) (Xs rf Qb) (Qe (ZC rf))).getD 0 Le).length=rf.Qa.length:=W5 (rf:=rf) (s:=0) (by omega) (by omega) (by omega);have hz0:(⟨((Q8 rf.Qd rf.Qa (Xr rf) (Xq rf Qb) (Qe (Zv rf))).getD 0 Le).getD 0 Le,((Q8 rf.Qd rf.Qa (Xt rf) (Xs rf Qb) (Qe (ZC rf))).getD 0 Le).getD 0 Le⟩:Span)=fV rf Qb 0 0:=eQ ((WB (rf:=rf) (s:=0) (i:=0) (by omega) (by omega) (by omega) (by omega) (by omega))) (WB (rf:=rf) (s:=0) (i:=0) (by omega) (by omega) (by omega) (by omega) (by omega));have Wx:=QG (Qz hr).1;have hq1:(Q8 rf.Qd rf.Qa (Xr rf) (Xq rf Qb) (Qe (Zv rf))).length=rf.Qd.toNat:=Xk;have hq2:(Q8 rf.Qd rf.Qa (Xt rf) (Xs rf Qb) (Qe (ZC rf))).length=rf.Qd.toNat:=Xk;have hq3:=W5 (rf:=rf) (gs:=Xr rf) (ts:=Xq rf Qb) (f:=Qe (Zv rf)) (s:=s) (by omega) (by omega) (by omega);have hq4:=W5 (rf:=rf) (gs:=Xt rf) (ts:=Xs rf Qb) (f:=Qe (ZC rf)) (s:=s) (by omega) (by omega) (by omega);have hzl:(zs.length:Int)=i:=by rw[hz];exact dc (by omega)
   have hol:(os.length:Int)=s:=by rw[ho];exact dc (by omega)
   by_cases q0:(i:Int)<((↑rf.Qa.length:Int))
   ·have hzi:(⟨((Q8 rf.Qd rf.Qa (Xr rf) (Xq rf Qb) (Qe (Zv rf))).getD s.toNat Le).getD i.toNat Le,((Q8 rf.Qd rf.Qa (Xt rf) (Xs rf Qb) (Qe (ZC rf))).getD s.toNat Le).getD i.toNat Le⟩:Span)=fV rf Qb s i:=eQ ((WB (rf:=rf) (s:=s) (i:=i) (by omega) (by omega) (by omega) (by omega) (by omega))) (WB (rf:=rf) (s:=s) (i:=i) (by omega) (by omega) (by omega) (by omega) (by omega));exact((ih0 _ (by omega)).2.1 (s) (i+1) (os) (zs++[{lo:=Lg (Lg (Q8 rf.Qd rf.Qa (Xr rf) (Xq rf Qb) (Qe (Zv rf))) s.toNat Le) i.toNat Le,hi:=Lg (Lg (Q8 rf.Qd rf.Qa (Xt rf) (Xs rf Qb) (Qe (ZC rf))) s.toNat Le) i.toNat Le}]) (on) (zn+1) rfl (by with_reducible assumption) (by with_reducible assumption) (by omega) (by omega) (by with_reducible assumption) (by with_reducible assumption) (by(simp only[Ly,LB,LK];omega)) (by(rw[hz,Kz (by omega),List.map_append,hzi];rfl))
     (Za.landM okF hJ Qh (v8 B rf Qb s i os zs on zn Q0)
     (by exact⟨(by exact(QY (Xv (by exact fun _=>rfl)) (Lr _))),⟨(Qs (Q1 (fun x=>List.all_eq_true.1 (by rfl)))),⟨(Xi (by omega) (by omega)),⟨⟨(by(rw[X0 (z:=2) (fun _=>rfl)];first|omega|(simp;omega)|(simp_all;done))),(by unfold maxLen;omega),by omega,by first|exact Zf|exact XV rfl⟩,⟨⟨by omega,by omega,(Qy (z:=1) (fun _=>rfl) (by omega))⟩,⟨⟨by omega,by omega,(Qy (z:=1) (fun _=>rfl) (by omega))⟩,⟨⟨by omega,by omega,(Qy (z:=1) (fun _=>rfl) (by omega))⟩,⟨⟨by omega,by omega,(Qy (z:=1) (fun _=>rfl) (by omega))⟩,⟨(XT q0),trivial⟩⟩⟩⟩⟩⟩⟩⟩⟩) (by kernel_rfl) (by kernel_rfl))).cast (by rfl)
   ·have hze:zs=iF rf Qb s:=by rw[hz,show i=rf.Qa.length by omega];rfl
    exact((ih0 _ (by omega)).2.2 (s+1) (os++[{n:=zn,l:=zs}]) (on+1) rfl (by omega) (by omega) (by(simp only[Ly,LB,LK];omega)) (by(rw[Kz (by omega),List.map_append,<-ho,show zn=rf.Qa.length by omega,hze];rfl))
     (Za.landM okF hJ Qh (v7 B rf Qb s i os zs on zn Q0)
     (by exact⟨(by exact(Kv (QY (Xv (by exact fun _=>rfl)) (Lr _)) (by exact⟨(.own (Lr _)),trivial⟩))),⟨(XP (fun x=>List.all_eq_true.1 (by rfl))),⟨(Xi (by omega) (by omega)),⟨⟨(by(rw[X0 (z:=1) (fun _=>rfl)];first|omega|(simp;omega)|(simp_all;done))),(by unfold maxLen;omega),by omega,rfl⟩,⟨(Zw (Int.not_lt.1 q0)),trivial⟩⟩⟩⟩⟩) (by kernel_rfl) (by kernel_rfl))).cast (by rfl)
  ·intro s os on S1 s0 s1 hon ho ⟨Q0,VE,Za⟩;have Wx:=QG (Qz hr).1;have hpf:=(Xy hp).1;have ho1:=ep Qb hr;have ho2:=gR Qb hr;have hl1:=Vj (rf:=rf);have hl2:=Vk (rf:=rf);have hq1:(Q8 rf.Qd rf.Qa (Xr rf) (Xq rf Qb) (Qe (Zv rf))).length=rf.Qd.toNat:=Xk;have hq2:(Q8 rf.Qd rf.Qa (Xt rf) (Xs rf Qb) (Qe (ZC rf))).length=rf.Qd.toNat:=Xk;have hq3:((Q8 rf.Qd rf.Qa (Xr rf) (Xq rf Qb) (Qe (Zv rf))).getD 0 Le).length=rf.Qa.length:=W5 (rf:=rf) (s:=0) (by omega) (by omega) (by omega);have hq4:((Q8 rf.Qd rf.Qa (Xt rf) (Xs rf Qb) (Qe (ZC rf))).getD 0 Le).length=rf.Qa.length:=W5 (rf:=rf) (s:=0) (by omega) (by omega) (by omega);have hz0:(⟨((Q8 rf.Qd rf.Qa (Xr rf) (Xq rf Qb) (Qe (Zv rf))).getD 0 Le).getD 0 Le,((Q8 rf.Qd rf.Qa (Xt rf) (Xs rf Qb) (Qe (ZC rf))).getD 0 Le).getD 0 Le⟩:Span)=fV rf Qb 0 0:=eQ ((WB (rf:=rf) (s:=0) (i:=0) (by omega) (by omega) (by omega) (by omega) (by omega))) (WB (rf:=rf) (s:=0) (i:=0) (by omega) (by omega) (by omega) (by omega) (by omega));have Wx:=QG (Qz hr).1;have hq1:(Q8 rf.Qd rf.Qa (Xr rf) (Xq rf Qb) (Qe (Zv rf))).length=rf.Qd.toNat:=Xk;have hq2:(Q8 rf.Qd rf.Qa (Xt rf) (Xs rf Qb) (Qe (ZC rf))).length=rf.Qd.toNat:=Xk;have hol:(os.length:Int)=s:=by rw[ho];exact dc (by omega)
   by_cases q0:(s:Int)<rf.Qd
   ·by_cases q1:(0:Int)<((↑rf.Qa.length:Int))
    ·have hq3:=W5 (rf:=rf) (gs:=Xr rf) (ts:=Xq rf Qb) (f:=Qe (Zv rf)) (s:=s) (by omega) (by omega) (by omega);have hq4:=W5 (rf:=rf) (gs:=Xt rf) (ts:=Xs rf Qb) (f:=Qe (ZC rf)) (s:=s) (by omega) (by omega) (by omega);have hz1:(⟨((Q8 rf.Qd rf.Qa (Xr rf) (Xq rf Qb) (Qe (Zv rf))).getD s.toNat Le).getD 0 Le,((Q8 rf.Qd rf.Qa (Xt rf) (Xs rf Qb) (Qe (ZC rf))).getD s.toNat Le).getD 0 Le⟩:Span)=fV rf Qb s 0:=eQ ((WB (rf:=rf) (s:=s) (i:=0) (by omega) (by omega) (by omega) (by omega) (by omega))) (WB (rf:=rf) (s:=s) (i:=0) (by omega) (by omega) (by omega) (by omega) (by omega));exact((ih0 _ (by omega)).2.1 (s) (1) (os) ([{lo:=Lg (Lg (Q8 rf.Qd rf.Qa (Xr rf) (Xq rf Qb) (Qe (Zv rf))) s.toNat Le) 0 Le,hi:=Lg (Lg (Q8 rf.Qd rf.Qa (Xt rf) (Xs rf Qb) (Qe (ZC rf))) s.toNat Le) 0 Le}]) (on) (1) rfl (by with_reducible assumption) (by with_reducible assumption) (by omega) (by omega) (by with_reducible assumption) (by with_reducible assumption) (by rfl) (by(rw[hz1];rfl))
      (Za.landM okF hJ Qh (v5 B rf Qb s os on Q0)
      (by exact⟨(by exact(QY (Xv (by exact fun _=>rfl)) (Lr _))),⟨(XX (by kernel_rfl)),⟨⟨by omega,by omega,(Qy (z:=1) (fun _=>rfl) (by omega))⟩,⟨⟨by omega,by omega,(Qy (z:=1) (fun _=>rfl) (by omega))⟩,⟨⟨by omega,by omega,(Qy (z:=1) (fun _=>rfl) (by omega))⟩,⟨⟨by omega,by omega,(Qy (z:=1) (fun _=>rfl) (by omega))⟩,⟨(XT q1),⟨(XT q0),trivial⟩⟩⟩⟩⟩⟩⟩⟩) (by kernel_rfl) (by kernel_rfl))).cast (by rfl)
    ·exfalso
     (have Wx:=QG (Qz hr).1;omega)
   ·exact(GoE.endsT okF hJ Qh Za (v3 B rf Qb s os on Q0)
     ⟨(U5 (Xv (by exact fun _=>rfl)) (Lr _)),⟨(Zw (Int.not_lt.1 q0)),trivial⟩⟩).cast (by exact GK ho hon (by omega))
set_option maxHeartbeats 4000000 in
theorem y7(rf:Qg)(Qb:List Int)(hr:Zq rf=true)(hp:XN rf Qb=true){B:Lo}(hJ:∀w,B.has w->J0 w):EndsT YP B (Q3 YP 22 65 (([.agg (Q9 rf).toArray,Zj Qb]).map (QD 0 4))) (y2 (Zb rf Qb)):=by
 have Wx:=QG (Qz hr).1;have hpf:=(Xy hp).1;have ho1:=ep Qb hr;have ho2:=gR Qb hr;have hl1:=Vj (rf:=rf);have hl2:=Vk (rf:=rf);have hq1:(Q8 rf.Qd rf.Qa (Xr rf) (Xq rf Qb) (Qe (Zv rf))).length=rf.Qd.toNat:=Xk;have hq2:(Q8 rf.Qd rf.Qa (Xt rf) (Xs rf Qb) (Qe (ZC rf))).length=rf.Qd.toNat:=Xk;have hq3:((Q8 rf.Qd rf.Qa (Xr rf) (Xq rf Qb) (Qe (Zv rf))).getD 0 Le).length=rf.Qa.length:=W5 (rf:=rf) (s:=0) (by omega) (by omega) (by omega);have hq4:((Q8 rf.Qd rf.Qa (Xt rf) (Xs rf Qb) (Qe (ZC rf))).getD 0 Le).length=rf.Qa.length:=W5 (rf:=rf) (s:=0) (by omega) (by omega) (by omega);have hz0:(⟨((Q8 rf.Qd rf.Qa (Xr rf) (Xq rf Qb) (Qe (Zv rf))).getD 0 Le).getD 0 Le,((Q8 rf.Qd rf.Qa (Xt rf) (Xs rf Qb) (Qe (ZC rf))).getD 0 Le).getD 0 Le⟩:Span)=fV rf Qb 0 0:=eQ ((WB (rf:=rf) (s:=0) (i:=0) (by omega) (by omega) (by omega) (by omega) (by omega))) (WB (rf:=rf) (s:=0) (i:=0) (by omega) (by omega) (by omega) (by omega) (by omega));by_cases q0:(0:Int)<rf.Qd
 ·by_cases q1:(0:Int)<((↑rf.Qa.length:Int))
  ·exact((vB rf Qb hr hp hJ _).1 (1) ([{lo:=Lg (Lg (Q8 rf.Qd rf.Qa (Xr rf) (Xq rf Qb) (Qe (Zv rf))) 0 Le) 0 Le,hi:=Lg (Lg (Q8 rf.Qd rf.Qa (Xt rf) (Xs rf Qb) (Qe (ZC rf))) 0 Le) 0 Le}]) (1) rfl (by omega) (by omega) (by rfl) (by(rw[hz0];rfl))
    (GoE.start.landM okF hJ Qh (vz B rf Qb)
    (by exact⟨(XX (by kernel_rfl)),⟨⟨by omega,by omega,(Qy (z:=1) (fun _=>rfl) (by omega))⟩,⟨⟨by omega,by omega,(Qy (z:=1) (fun _=>rfl) (by omega))⟩,⟨⟨by omega,by omega,(Qy (z:=1) (fun _=>rfl) (by omega))⟩,⟨⟨by omega,by omega,(Qy (z:=1) (fun _=>rfl) (by omega))⟩,⟨(XT q1),⟨(XT q0),⟨⟨trivial,Gl (rf) (ZC rf) (Xt rf) (Xs rf Qb) (by with_reducible assumption) (by with_reducible assumption) (by omega) (by omega)⟩,⟨⟨trivial,HT (rf) (Qb) (by with_reducible assumption) (by with_reducible assumption)⟩,⟨⟨trivial,Gl (rf) (Zv rf) (Xr rf) (Xq rf Qb) (by with_reducible assumption) (by with_reducible assumption) (by omega) (by omega)⟩,⟨⟨trivial,HU (rf) (Qb) (by with_reducible assumption) (by with_reducible assumption)⟩,trivial⟩⟩⟩⟩⟩⟩⟩⟩⟩⟩⟩) (by kernel_rfl) (by kernel_rfl))).cast (by rfl)
  ·exfalso
   (have Wx:=QG (Qz hr).1;omega)
 ·exfalso
  (have Wx:=QG (Qz hr).1;omega)
theorem Eo(rf:Qg)(Qb:List Int)(hr:Zq rf=true)(hp:XN rf Qb=true):Q6 YP J0 22 #[.agg (Q9 rf).toArray,Zj Qb] (y2 (Zb rf Qb)):=
 XD (ts:=[.agg (Q9 rf).toArray,Zj Qb]) ZF (c0:=Q3 YP 22 65 (([.agg (Q9 rf).toArray,Zj Qb]).map (QD 0 4))) (by kernel_rfl) (by kernel_rfl) fun B hJ=>y7 rf Qb hr hp hJ
end
end Go.Proofs.Ytncjjangllkokaa

namespace Go.Proofs.Ytncjjangllkokaa
open Go Go.CE Go.RowKit
noncomputable section
set_option maxRecDepth 100000
theorem iv{rf:Qg}{Qb:List Int}{i:Int}(h1:1<=rf.Qd)(i0:0<=i)(i1:i<rf.Qa.length):(((Zb rf Qb).getD (rf.Qd-1).toNat Le).getD i.toNat Le).lo=(Q7 rf Qb rf.Qd.toNat).at i:=by
 have e:(Zb rf Qb).getD (rf.Qd-1).toNat Le=iF rf Qb (rf.Qd-1):=X4 (by omega) (by omega);rw[e,show(iF rf Qb (rf.Qd-1)).getD i.toNat Le=fV rf Qb (rf.Qd-1) i from X4 i0 i1];show(Q7 rf Qb ((rf.Qd-1).toNat+1)).at i=_;rw[show(rf.Qd-1).toNat+1=rf.Qd.toNat by omega]
theorem qX{rf:Qg}{Qb:List Int}(h1:1<=rf.Qd):((Zb rf Qb).getD (rf.Qd-1).toNat Le).length=rf.Qa.length:=by
 have e:(Zb rf Qb).getD (rf.Qd-1).toNat Le=iF rf Qb (rf.Qd-1):=X4 (by omega) (by omega);rw[e];exact rr
def TE(x_:Qc):Array Value:=#[.int .i64 x_.count,.int .i64 x_.room,.int .i64 x_.WZ,.int .i64 x_.Va,.int .i64 x_.Qv,.int .i64 x_.QU,.int .i64 x_.Wj,.int .i64 x_.Wl,.int .i64 x_.ZU,.int .i64 x_.ZV,.int .i64 x_.goal,.int .i64 x_.Vf]
def TD(rf:Qg)(Qb:List Int)(i:Int):Array Value:=#[.int .i64 (Span.lo (Lg (Lg (Zb rf Qb) (Lf (rf.Qd-1)) Le) i.toNat Le)),.int .i64 (Span.hi (Lg (Lg (Zb rf Qb) (Lf (rf.Qd-1)) Le) i.toNat Le))]
def YX(rf:Qg)(Qb:List Int)(i:Int):List Value:=[pA 2 0,Q4 1 (QV (Li (Lg (Zb rf Qb) (Lf (rf.Qd-1)) Le)) (Qf QM (Lg (Zb rf Qb) (Lf (rf.Qd-1)) Le))),.int .i64 i]
def VP(rf:Qg)(Qb:List Int)(i:Int):List Obj:=[Obj.cells #[Q4 1 (QV rf.Qa.length (Qf Qn rf.Qa)),.int .i64 rf.Qq,.int .i64 rf.Qd] 24]
def YY:List Item:=([.code [1,1,0,1,0,0],.inLoop [1,1,0,1,0,0],.inBlock 0,.code [1,1,1]]).map (it (Xa YP 36))
def yD(B:Lo)(c0:CF)(rf:Qg)(Qb:List Int)(i:Int):Prop:=∃dJ:Nat->Value,(∀t,XH (dJ t))/\GoE YP B c0 Z9 1 (QS 36 49 (([2,7,8]:List Nat).zip (YX rf Qb i)) dJ YY) (QN (VP rf Qb i)) (2+(VP rf Qb i).length) []
def dH(B:Lo)(rf:Qg)(Qb:List Int)(i:Int)(Q0:Nat->Value):List Prop:=[i=(↑i.toNat:Int)/\Lf i<Li rf.Qa/\Lz (Qf Qn rf.Qa) (Lf i*TypeInfo.size Try.t54) (Lf i*TypeInfo.size Try.t54+TypeInfo.size Try.t54)=(TE (rf.Qa.getD i.toNat Le)),i=(↑i.toNat:Int)/\Lf i<Li (Lg (Zb rf Qb) (Lf (rf.Qd-1)) Le)/\Lz (Qf QM (Lg (Zb rf Qb) (Lf (rf.Qd-1)) Le)) (Lf i*TypeInfo.size Try.t38) (Lf i*TypeInfo.size Try.t38+TypeInfo.size Try.t38)=(TD rf Qb i),Zs i (↑rf.Qa.length:Int)=true]++([]:List Prop)
def mZ(rf:Qg)(Qb:List Int)(i:Int)(Q0:Nat->Value):QO:=[(4,Vh),(7,Qk.tidx i.toNat (TD rf Qb i)),(13,Qk.tidx i.toNat (TE (rf.Qa.getD i.toNat Le)))]
theorem yB(B:Lo)(rf:Qg)(Qb:List Int)(i:Int)(Q0:Nat->Value):X2 (Q2 YP (QE YP) J0 B 14 1 (QS 36 49 (([2,7,8]:List Nat).zip (YX rf Qb i)) Q0 YY) (QN (VP rf Qb i)) (2+(VP rf Qb i).length)
 (mZ rf Qb i Q0++[(16,Vh),(21,Qk.tidx i.toNat (TE (rf.Qa.getD i.toNat Le))),(26,Qk.tidx i.toNat (TD rf Qb i)),(29,WL (Qc.goal (rf.Qa.getD i.toNat Le)-Span.lo (Lg (Lg (Zb rf Qb) (Lf (rf.Qd-1)) Le) i.toNat Le)))]) 0 [] []) []=some (.tuple #[.int .i64 i,.int .i64 (Qc.goal (rf.Qa.getD i.toNat Le)-Span.lo (Lg (Lg (Zb rf Qb) (Lf (rf.Qd-1)) Le) i.toNat Le)),.bool true],
 [wq (Qc.goal (rf.Qa.getD i.toNat Le)-Span.lo (Lg (Lg (Zb rf Qb) (Lf (rf.Qd-1)) Le) i.toNat Le))=Qc.goal (rf.Qa.getD i.toNat Le)-Span.lo (Lg (Lg (Zb rf Qb) (Lf (rf.Qd-1)) Le) i.toNat Le),i=(↑i.toNat:Int)/\Lf i<Li (Lg (Zb rf Qb) (Lf (rf.Qd-1)) Le)/\Lz (Qf QM (Lg (Zb rf Qb) (Lf (rf.Qd-1)) Le)) (Lf i*TypeInfo.size Try.t38) (Lf i*TypeInfo.size Try.t38+TypeInfo.size Try.t38)=(TD rf Qb i),i=(↑i.toNat:Int)/\Lf i<Li rf.Qa/\Lz (Qf Qn rf.Qa) (Lf i*TypeInfo.size Try.t54) (Lf i*TypeInfo.size Try.t54+TypeInfo.size Try.t54)=(TE (rf.Qa.getD i.toNat Le)),Zs (Span.lo (Lg (Lg (Zb rf Qb) (Lf (rf.Qd-1)) Le) i.toNat Le)) (Qc.goal (rf.Qa.getD i.toNat Le))=true]++dH B rf Qb i Q0):=by kernel_rfl
theorem yA(B:Lo)(rf:Qg)(Qb:List Int)(i:Int)(Q0:Nat->Value):landM (Q2 YP (QE YP) J0 B 14 1 (QS 36 49 (([2,7,8]:List Nat).zip (YX rf Qb i)) Q0 YY) (QN (VP rf Qb i)) (2+(VP rf Qb i).length)
 (mZ rf Qb i Q0++[(16,Ud),(18,WL (i+1))]) 0 [] []) [2,7,8] [(2,KS.auto)] []=some ⟨36,49,YY,[],.run,none,YX rf Qb (i+1),VP rf Qb (i+1),
 [wq (i+1)=i+1,Zs (Span.lo (Lg (Lg (Zb rf Qb) (Lf (rf.Qd-1)) Le) i.toNat Le)) (Qc.goal (rf.Qa.getD i.toNat Le))=false]++dH B rf Qb i Q0⟩:=by kernel_rfl
theorem y9(B:Lo)(rf:Qg)(Qb:List Int)(i:Int)(Q0:Nat->Value):X2 (Q2 YP (QE YP) J0 B 9 1 (QS 36 49 (([2,7,8]:List Nat).zip (YX rf Qb i)) Q0 YY) (QN (VP rf Qb i)) (2+(VP rf Qb i).length)
 [(4,Ud)] 0 [] []) []=some (.tuple #[.int .i64 0,.int .i64 0,.bool false],
 [Zs i (↑rf.Qa.length:Int)=false]):=by kernel_rfl
theorem y8(B:Lo)(rf:Qg)(Qb:List Int):landM (Q2 YP (QE YP) J0 B 9 1 (Q3 YP 36 49 (([.agg (Q9 rf).toArray,Zj Qb]).map (QD 0 4))) Z9 1
 [(6,Qk.pure (QV (Li (Zb rf Qb)) (Qf iz (Zb rf Qb))) []),(9,WL (rf.Qd-1)),(10,Qk.tidx (Lf (rf.Qd-1)) #[QV (Li (Lg (Zb rf Qb) (Lf (rf.Qd-1)) Le)) (Qf QM (Lg (Zb rf Qb) (Lf (rf.Qd-1)) Le))])] 0 [] []) [2,7,8] [(1,KS.auto)] []=some ⟨36,49,YY,[],.run,none,YX rf Qb (0),VP rf Qb (0),
 [rf.Qd-1=(↑(Lf (rf.Qd-1)):Int)/\Lf (rf.Qd-1)<Li (Zb rf Qb)/\Lz (Qf iz (Zb rf Qb)) (Lf (rf.Qd-1)*TypeInfo.size Try.t36) (Lf (rf.Qd-1)*TypeInfo.size Try.t36+TypeInfo.size Try.t36)=#[QV (Li (Lg (Zb rf Qb) (Lf (rf.Qd-1)) Le)) (Qf QM (Lg (Zb rf Qb) (Lf (rf.Qd-1)) Le))],wq (rf.Qd-1)=rf.Qd-1,QB []/\Q6 YP J0 22 #[.agg #[QV rf.Qa.length (Qf Qn rf.Qa),.int .i64 rf.Qq,.int .i64 rf.Qd],QV Qb.length (Qf Qp Qb)] (QV (Li (Zb rf Qb)) (Qf iz (Zb rf Qb)))]⟩:=by kernel_rfl
set_option maxHeartbeats 4000000 in
theorem yC(rf:Qg)(Qb:List Int)(hr:Zq rf=true)(hp:XN rf Qb=true){B:Lo}(hJ:∀w,B.has w->J0 w){c0:CF}:∀m:Nat,(∀(i:Int),(rf.Qa.length-i.toNat)=m->∀(h0:0<=i),yD B c0 rf Qb i->EndsT YP B c0 (.tuple #[.int .i64 (XC (Q7 rf Qb rf.Qd.toNat) (rf.Qa.drop i.toNat) i).2.1,.int .i64 (XC (Q7 rf Qb rf.Qd.toNat) (rf.Qa.drop i.toNat) i).2.2,.bool (XC (Q7 rf Qb rf.Qd.toNat) (rf.Qa.drop i.toNat) i).1])):=by
 intro m0;induction m0 using LQ with
 |_ m0 ih0=>
  intro i S1 h0 ⟨Q0,VE,Za⟩;have Wx:=QG (Qz hr).1;have hsl:(Zb rf Qb).length=rf.Qd.toNat:=Xk;have Wx:=QG (Qz hr).1;have hll:=qX (rf:=rf) (Qb:=Qb) (by omega);by_cases q0:(i:Int)<((↑rf.Qa.length:Int))
  ·have VF:QB (dH B rf Qb i Q0):=by
    have hla:=iv (rf:=rf) (Qb:=Qb) (by omega) h0 q0;have JF:=(Xc ((Qz hr).2 i h0 q0).1).2.2.1;have hf4:=Wp (Y9 (Qb:=Qb) hr (s:=rf.Qd.toNat) (by omega)).1 h0 (show i<4 by omega);have hf5:0<=(Q7 rf Qb rf.Qd.toNat).at i/\(Q7 rf Qb rf.Qd.toNat).at i<=100000000000:=⟨hf4.1,Int.le_trans hf4.2.1 hf4.2.2⟩
    have s1:=Vy (f:=Q7 rf Qb rf.Qd.toNat) h0 q0;exact⟨⟨by omega,by omega,(Qy (z:=12) (fun _=>rfl) (by omega))⟩,⟨⟨by omega,by omega,(Qy (z:=2) (fun _=>rfl) (by omega))⟩,⟨(XT q0),trivial⟩⟩⟩
   by_cases q1:(Span.lo (Lg (Lg (Zb rf Qb) (Lf (rf.Qd-1)) Le) i.toNat Le):Int)<(Qc.goal (rf.Qa.getD i.toNat Le))
   ·have hla:=iv (rf:=rf) (Qb:=Qb) (by omega) h0 q0;have JF:=(Xc ((Qz hr).2 i h0 q0).1).2.2.1;have hf4:=Wp (Y9 (Qb:=Qb) hr (s:=rf.Qd.toNat) (by omega)).1 h0 (show i<4 by omega);have hf5:0<=(Q7 rf Qb rf.Qd.toNat).at i/\(Q7 rf Qb rf.Qd.toNat).at i<=100000000000:=⟨hf4.1,Int.le_trans hf4.2.1 hf4.2.2⟩
    have s1:=Vy (f:=Q7 rf Qb rf.Qd.toNat) h0 q0;rw[decide_eq_true (by omega),cond_true]at s1;exact(GoE.endsT okF hJ Qh Za (yB B rf Qb i Q0)
     ⟨(Xi (by omega) (by omega)),⟨⟨by omega,by omega,(Qy (z:=2) (fun _=>rfl) (by omega))⟩,⟨⟨by omega,by omega,(Qy (z:=12) (fun _=>rfl) (by omega))⟩,⟨(XT q1),VF⟩⟩⟩⟩).cast (by(rw[s1,<-hla];done))
   ·have hla:=iv (rf:=rf) (Qb:=Qb) (by omega) h0 q0;have JF:=(Xc ((Qz hr).2 i h0 q0).1).2.2.1;have hf4:=Wp (Y9 (Qb:=Qb) hr (s:=rf.Qd.toNat) (by omega)).1 h0 (show i<4 by omega);have hf5:0<=(Q7 rf Qb rf.Qd.toNat).at i/\(Q7 rf Qb rf.Qd.toNat).at i<=100000000000:=⟨hf4.1,Int.le_trans hf4.2.1 hf4.2.2⟩
    have s1:=Vy (f:=Q7 rf Qb rf.Qd.toNat) h0 q0;rw[decide_eq_false (by omega),cond_false]at s1;exact((ih0 _ (by omega)) (i+1) rfl (by omega)
     (Za.landM okF hJ Qh (yA B rf Qb i Q0)
     ⟨(Xi (by omega) (by omega)),⟨(Zw (Int.not_lt.1 q1)),VF⟩⟩ (by kernel_rfl) (by kernel_rfl))).cast (by(rw[s1];done))
  ·have s1:=iC (f:=Q7 rf Qb rf.Qd.toNat) (l:=rf.Qa) (i:=i) (by omega);exact(GoE.endsT okF hJ Qh Za (y9 B rf Qb i Q0)
    ⟨(Zw (Int.not_lt.1 q0)),trivial⟩).cast (by(rw[s1];done))
set_option maxHeartbeats 4000000 in
theorem AS(rf:Qg)(Qb:List Int)(hr:Zq rf=true)(hp:XN rf Qb=true){B:Lo}(hJ:∀w,B.has w->J0 w):EndsT YP B (Q3 YP 36 49 (([.agg (Q9 rf).toArray,Zj Qb]).map (QD 0 4))) (.tuple #[.int .i64 (Xw rf Qb).2.1,.int .i64 (Xw rf Qb).2.2,.bool (Xw rf Qb).1]):=by
 have Wx:=QG (Qz hr).1;have hsl:(Zb rf Qb).length=rf.Qd.toNat:=Xk;exact((yC rf Qb hr hp hJ _) (0) rfl (by omega)
  (GoE.start.landM okF hJ Qh (y8 B rf Qb)
  ⟨⟨by omega,by omega,(Qy (z:=1) (fun _=>rfl) (by omega))⟩,⟨(Xi (by omega) (by omega)),⟨⟨trivial,Eo (rf) (Qb) (by with_reducible assumption) (by with_reducible assumption)⟩,trivial⟩⟩⟩ (by kernel_rfl) (by kernel_rfl))).cast (by rfl)
theorem AT(rf:Qg)(Qb:List Int)(hr:Zq rf=true)(hp:XN rf Qb=true):Q6 YP J0 36 #[.agg (Q9 rf).toArray,Zj Qb] (.tuple #[.int .i64 (Xw rf Qb).2.1,.int .i64 (Xw rf Qb).2.2,.bool (Xw rf Qb).1]):=
 XD (ts:=[.agg (Q9 rf).toArray,Zj Qb]) ZF (c0:=Q3 YP 36 49 (([.agg (Q9 rf).toArray,Zj Qb]).map (QD 0 4))) (by kernel_rfl) (by kernel_rfl) fun B hJ=>AS rf Qb hr hp hJ
theorem xS{rf:Qg}{Qb:List Int}(h:(Xw rf Qb).1=false):(Xw rf Qb).2.1=0/\(Xw rf Qb).2.2=0:=by
 unfold Xw at h ⊢;rw[PH h];exact⟨rfl,rfl⟩
def Vb(rf:Qg)(Qb:List Int):Array Value:=#[.agg #[QV rf.Qa.length (Qf Qn rf.Qa),.int .i64 rf.Qq,.int .i64 rf.Qd],QV Qb.length (Qf Qp Qb)]
def RN  :Value:=(.tuple #[.int .i64 0,.int .i64 0,.int .i64 2])
def aJ(B:Lo)(rf:Qg)(Qb:List Int):List Prop:=[QB []/\Q6 YP J0 15 #[.agg #[QV rf.Qa.length (Qf Qn rf.Qa),.int .i64 rf.Qq,.int .i64 rf.Qd]] (.bool true)]++([]:List Prop)
def ij(rf:Qg)(Qb:List Int):QO:=[(3,Qk.pure (.bool true) [])]
theorem vo(B:Lo)(rf:Qg)(Qb:List Int):X2 (Q2 YP (QE YP) J0 B 10 1 (Q3 YP 8 81 (([.agg (Q9 rf).toArray,Zj Qb]).map (QD 0 4))) Z9 1
 (ij rf Qb++[(8,Vh),(10,Qk.pure (.bool true) [])]) 0 [] []) []=some (.bool true,
 [QB []/\Q6 YP J0 16 #[] (.bool true),Zs 8 (↑Qb.length:Int)=true]++aJ B rf Qb):=by kernel_rfl
def Jj(B:Lo)(rf:Qg)(Qb:List Int):List Prop:=[Zs 8 (↑Qb.length:Int)=false]++aJ B rf Qb
def RO(rf:Qg)(Qb:List Int):QO:=ij rf Qb++[(8,Ud)]
theorem vn(B:Lo)(rf:Qg)(Qb:List Int):X2 (Q2 YP (QE YP) J0 B 25 1 (Q3 YP 8 81 (([.agg (Q9 rf).toArray,Zj Qb]).map (QD 0 4))) Z9 1
 (RO rf Qb++[(12,Qk.pure (.tuple #[.int .i64 (Prod.fst (Prod.snd (Xw rf Qb))),.int .i64 (Prod.snd (Prod.snd (Xw rf Qb))),.int .i64 0]) []),(22,Qk.pure (.bool true) []),(26,Qk.pure (.tuple #[.int .i64 (Prod.fst (Prod.snd (Xw rf Qb))),.int .i64 (Prod.snd (Prod.snd (Xw rf Qb))),.bool true]) []),(41,Vh),(46,Vh),(49,Qk.pure (.bool true) [])]) 0 [] []) []=some (.bool true,
 [QB []/\Q6 YP J0 16 #[] (.bool true),T3 (Prod.snd (Prod.snd (Xw rf Qb))) (Prod.snd (Prod.snd (Xw rf Qb)))=true,T3 (Prod.fst (Prod.snd (Xw rf Qb))) (Prod.fst (Prod.snd (Xw rf Qb)))=true,QB []/\Q6 YP J0 36 (Vb rf Qb) (.tuple #[.int .i64 (Prod.fst (Prod.snd (Xw rf Qb))),.int .i64 (Prod.snd (Prod.snd (Xw rf Qb))),.bool true]),QB []/\Q6 YP J0 21 (Vb rf Qb) (.bool true),QB []/\Q6 YP J0 35 (Vb rf Qb) (.tuple #[.int .i64 (Prod.fst (Prod.snd (Xw rf Qb))),.int .i64 (Prod.snd (Prod.snd (Xw rf Qb))),.int .i64 0])]++Jj B rf Qb):=by kernel_rfl
def aI(B:Lo)(rf:Qg)(Qb:List Int):List Prop:=[QB []/\Q6 YP J0 36 (Vb rf Qb) (.tuple #[.int .i64 (Prod.fst (Prod.snd (Xw rf Qb))),.int .i64 (Prod.snd (Prod.snd (Xw rf Qb))),.bool false]),QB []/\Q6 YP J0 21 (Vb rf Qb) (.bool true),QB []/\Q6 YP J0 35 (Vb rf Qb) (.tuple #[.int .i64 (Prod.fst (Prod.snd (Xw rf Qb))),.int .i64 (Prod.snd (Prod.snd (Xw rf Qb))),.int .i64 5])]++Jj B rf Qb
def ig(rf:Qg)(Qb:List Int):QO:=RO rf Qb++[(12,Qk.pure (.tuple #[.int .i64 (Prod.fst (Prod.snd (Xw rf Qb))),.int .i64 (Prod.snd (Prod.snd (Xw rf Qb))),.int .i64 5]) []),(22,Qk.pure (.bool true) []),(26,Qk.pure (.tuple #[.int .i64 (Prod.fst (Prod.snd (Xw rf Qb))),.int .i64 (Prod.snd (Prod.snd (Xw rf Qb))),.bool false]) [])]
def aH(B:Lo)(rf:Qg)(Qb:List Int):List Prop:=[T3 (Prod.fst (Prod.snd (Xw rf Qb))) 0=true]++aI B rf Qb
def ic(rf:Qg)(Qb:List Int):QO:=ig rf Qb++[(40,Vh)]
theorem vm(B:Lo)(rf:Qg)(Qb:List Int):X2 (Q2 YP (QE YP) J0 B 24 1 (Q3 YP 8 81 (([.agg (Q9 rf).toArray,Zj Qb]).map (QD 0 4))) Z9 1
 (ic rf Qb++[(44,Vh),(47,Qk.pure (.bool true) [])]) 0 [] []) []=some (.bool true,
 [QB []/\Q6 YP J0 16 #[] (.bool true),T3 (Prod.snd (Prod.snd (Xw rf Qb))) 0=true]++aH B rf Qb):=by kernel_rfl
theorem vl(B:Lo)(rf:Qg)(Qb:List Int):X2 (Q2 YP (QE YP) J0 B 24 1 (Q3 YP 8 81 (([.agg (Q9 rf).toArray,Zj Qb]).map (QD 0 4))) Z9 1
 (ic rf Qb++[(44,Ud)]) 0 [] []) []=some (.bool false,
 [T3 (Prod.snd (Prod.snd (Xw rf Qb))) 0=false]++aH B rf Qb):=by kernel_rfl
theorem vk(B:Lo)(rf:Qg)(Qb:List Int):X2 (Q2 YP (QE YP) J0 B 24 1 (Q3 YP 8 81 (([.agg (Q9 rf).toArray,Zj Qb]).map (QD 0 4))) Z9 1
 (ig rf Qb++[(40,Ud)]) 0 [] []) []=some (.bool false,
 [T3 (Prod.fst (Prod.snd (Xw rf Qb))) 0=false]++aI B rf Qb):=by kernel_rfl
theorem vj(B:Lo)(rf:Qg)(Qb:List Int):X2 (Q2 YP (QE YP) J0 B 17 1 (Q3 YP 8 81 (([.agg (Q9 rf).toArray,Zj Qb]).map (QD 0 4))) Z9 1
 (RO rf Qb++[(12,Qk.pure RN []),(22,Qk.pure (.bool false) []),(35,Qk.pure (.bool true) [])]) 0 [] []) []=some (.bool true,
 [QB []/\Q6 YP J0 16 #[] (.bool true),QB []/\Q6 YP J0 21 (Vb rf Qb) (.bool false),QB []/\Q6 YP J0 35 (Vb rf Qb) RN]++Jj B rf Qb):=by kernel_rfl
theorem vi(B:Lo)(rf:Qg)(Qb:List Int):X2 (Q2 YP (QE YP) J0 B 17 1 (Q3 YP 8 81 (([.agg (Q9 rf).toArray,Zj Qb]).map (QD 0 4))) Z9 1
 (RO rf Qb++[(12,Qk.pure RN []),(22,Qk.pure (.bool false) []),(35,Qk.pure (.bool true) [])]) 0 [] []) []=some (.bool true,
 [QB []/\Q6 YP J0 16 #[] (.bool true),QB []/\Q6 YP J0 21 (Vb rf Qb) (.bool false),QB []/\Q6 YP J0 35 (Vb rf Qb) RN]++Jj B rf Qb):=by kernel_rfl
theorem vh(B:Lo)(rf:Qg)(Qb:List Int):X2 (Q2 YP (QE YP) J0 B 10 1 (Q3 YP 8 81 (([.agg (Q9 rf).toArray,Zj Qb]).map (QD 0 4))) Z9 1
 [(3,Qk.pure (.bool false) []),(10,Qk.pure (.bool true) [])] 0 [] []) []=some (.bool true,
 [QB []/\Q6 YP J0 16 #[] (.bool true),QB []/\Q6 YP J0 15 #[.agg #[QV rf.Qa.length (Qf Qn rf.Qa),.int .i64 rf.Qq,.int .i64 rf.Qd]] (.bool false)]):=by kernel_rfl
set_option maxHeartbeats 4000000 in
theorem yw(rf:Qg)(Qb:List Int)  (Z4:Qb.length<=9223372036854775807){B:Lo}(hJ:∀w,B.has w->J0 w):EndsT YP B (Q3 YP 8 81 (([.agg (Q9 rf).toArray,Zj Qb]).map (QD 0 4))) (.bool true):=by
 cases q0:decide (Li rf.Qa<=8)with
 |true=>
  have VF:QB (aJ B rf Qb):=by
   exact⟨⟨trivial,(by have t_:=CX (rf);rw[q0]at t_;exact t_)⟩,trivial⟩
  by_cases q1:(8:Int)<((↑Qb.length:Int))
  ·exact(GoE.endsT okF hJ Qh GoE.start (vo B rf Qb)
    ⟨⟨trivial,known⟩,⟨(XT q1),VF⟩⟩).cast rfl
  ·have hp1:QB (Jj B rf Qb):=by
    exact⟨(Zw (Int.not_lt.1 q1)),VF⟩
   cases q2:Zu rf with
   |true=>
    cases q3:XN rf Qb with
    |true=>
     cases q4:Prod.fst (Xw rf Qb)with
     |true=>
      have Pp:=KG ‹Zu rf=true›;exact(GoE.endsT okF hJ Qh GoE.start (vn B rf Qb)
       ⟨⟨trivial,known⟩,⟨(R6 rfl),⟨(R6 rfl),⟨⟨trivial,(by have t_:=AT (rf) (Qb) (by with_reducible assumption) (by with_reducible assumption);rw[q4]at t_;exact t_)⟩,⟨⟨trivial,(by have t_:=qa (rf) (Qb);rw[q2,q3]at t_;exact t_)⟩,⟨⟨trivial,(by have t_:=pj (rf) (Qb);rw[q2,q3,q4]at t_;exact t_)⟩,hp1⟩⟩⟩⟩⟩⟩).cast rfl
     |false=>
      have JP:QB (aI B rf Qb):=by
       have Pp:=KG ‹Zu rf=true›;exact⟨⟨trivial,(by have t_:=AT (rf) (Qb) (by with_reducible assumption) (by with_reducible assumption);rw[q4]at t_;exact t_)⟩,⟨⟨trivial,(by have t_:=qa (rf) (Qb);rw[q2,q3]at t_;exact t_)⟩,⟨⟨trivial,(by have t_:=pj (rf) (Qb);rw[q2,q3,q4]at t_;exact t_)⟩,hp1⟩⟩⟩
      by_cases q5:(Prod.fst (Prod.snd (Xw rf Qb)):Int)=(0)
      ·have hp3:QB (aH B rf Qb):=by
        exact⟨(R6 q5),JP⟩
       by_cases q6:(Prod.snd (Prod.snd (Xw rf Qb)):Int)=(0)
       ·exact(GoE.endsT okF hJ Qh GoE.start (vm B rf Qb)
         ⟨⟨trivial,known⟩,⟨(R6 q6),hp3⟩⟩).cast rfl
       ·have Pp:=KG ‹Zu rf=true›;exact(GoE.endsT okF hJ Qh GoE.start (vl B rf Qb)
         ⟨(T0 q6),hp3⟩).cast (by(exfalso;have hno:=xS (rf:=rf) (Qb:=Qb) (by assumption);simp_all;done))
      ·have Pp:=KG ‹Zu rf=true›;exact(GoE.endsT okF hJ Qh GoE.start (vk B rf Qb)
        ⟨(T0 q5),JP⟩).cast (by(exfalso;have hno:=xS (rf:=rf) (Qb:=Qb) (by assumption);simp_all;done))
    |false=>
     have Pp:=KG ‹Zu rf=true›;exact(GoE.endsT okF hJ Qh GoE.start (vj B rf Qb)
      ⟨⟨trivial,known⟩,⟨⟨trivial,(by have t_:=qa (rf) (Qb);rw[q2,q3]at t_;exact t_)⟩,⟨⟨trivial,(by have t_:=pj (rf) (Qb);rw[q2,q3]at t_;exact t_)⟩,hp1⟩⟩⟩).cast rfl
   |false=>
    exact(GoE.endsT okF hJ Qh GoE.start (vi B rf Qb)
     ⟨⟨trivial,known⟩,⟨⟨trivial,(by have t_:=qa (rf) (Qb);rw[q2]at t_;exact t_)⟩,⟨⟨trivial,(by have t_:=pj (rf) (Qb);rw[q2]at t_;exact t_)⟩,hp1⟩⟩⟩).cast rfl
 |false=>
  exact(GoE.endsT okF hJ Qh GoE.start (vh B rf Qb)
   ⟨⟨trivial,known⟩,⟨⟨trivial,(by have t_:=CX (rf);rw[q0]at t_;exact t_)⟩,trivial⟩⟩).cast rfl
theorem Eb(rf:Qg)(Qb:List Int)  :Q6 YP J0 8 #[.agg (Q9 rf).toArray,Zj Qb] (.bool true):=
 Km (ts:=[.agg (Q9 rf).toArray,Zj Qb]) (Qb.length<=9223372036854775807) (fun _ _ ht=>ht.ln (i:=1) rfl) ZF (c0:=Q3 YP 8 81 (([.agg (Q9 rf).toArray,Zj Qb]).map (QD 0 4))) (by kernel_rfl) (by kernel_rfl) fun Z4 B hJ=>yw rf Qb  Z4 hJ
end
end Go.Proofs.Ytncjjangllkokaa

namespace Go.Proofs.Ytncjjangllkokaa
open Go Go.CE Go.RowKit
theorem vx:∀trs,qJ [iD,.slice .int] trs->Q6 YP J0 8 trs.toArray (.bool true):=by
 rintro trs ⟨t0,_,rfl,h0,t1,_,rfl,h1,rfl⟩;obtain⟨r,rfl⟩:=DS h0;obtain⟨l,rfl⟩:=DT h1;exact Eb r l
end Go.Proofs.Ytncjjangllkokaa

namespace Go.Proofs.Ytncjjangllkokaa
open Go Go.CE Go.ChangeShapes Go.WideShapes Go.RowKit
set_option maxRecDepth 100000 in
theorem bH(os:Os)(started:os.Started)(H:Type)(enc:TypeId×Value->H):
 ReturnsInHanded {} Try.checked os 8 .any (Rows.reefShortsSpec.pre6 enc YP Try.f8 Rows.reefShortsRow.domain false) (Rows.reefShortsSpec.post enc YP Try.f8 false true false false):=by
 refine returnsInHanded_of_change (C:=Try.checked) (show ownKnob YP.godebug=none by kernel_rfl) started (by kernel_rfl) Try.func8
  (ChangeSpec.witness6 (enc:=enc) (C:=Try.checked) false ⟨#[],#[Sh.zeroA iD,Sh.zeroA (.slice .int)],[]⟩ 8 (by kernel_rfl) (by kernel_rfl) (by kernel_rfl) (by kernel_rfl)) ?_
 intro W base args ds gs before hval0 hW _ _;have hval:∀(j:Nat) t v,Try.f8.params[j]? =some t->args[j]? =some v->Value.okWide YP W .any base t v:=hval0;have hW':=hW;obtain⟨p,q,hA0,hV,rfl,_,_⟩:=hW;obtain⟨rfl,rfl⟩:=trodVars_none hV;have hA1:DataW.TrodAll enc YP W 0 (fun _=>true) true Try.f8.params.toList args.toList ds p:=hA0;have Xu:∀x∈p,x.block<W.heap.size:=fun x hx=>hW'.lt x (by simpa using hx)
 have P8:bm YP [iD,(.slice .int)] Try.f8.params.toList=true:=by kernel_rfl
 have hrd:(Try.f8.params.toList.all fun t=>YP.readableRec t && decide (t<YP.types.size))=true:=by kernel_rfl
 refine(Di (J:=J0) (ss:=[iD,(.slice .int)]) trivial P8 hA1 (fun j t v h1 h2=>hval j t v (by simpa using h1) h2) vx).mono fun e W' ⟨he,hB⟩=> ?_
 subst he;have hB2:=aA (show laidOutB YP=true by kernel_rfl) hB _ _ _ _ hrd hA1 Xu;have hA:DataW.TrodAll enc YP W 0 (fun _=>true) true Try.f8.params.toList args.toList ds p:=hA1;rw[Try.params8]at hA;simp only[List.toList_toArray]at hA;have hA:=hA;obtain⟨v0,vs0,d0,ds0,p0,q0,_,rfl,_,h0,_⟩:=CE.trodAll_cons hA;obtain⟨v1,vs1,d1,ds1,p1,q1,_,rfl,_,h1,_⟩:=CE.trodAll_cons h0;obtain⟨_,rfl,_⟩:=CE.trodAll_nil h1;exact⟨_,rfl,_,_,_,[],_,[],hW',trodAll_mk1 (shut_bool Try.underlying4 _),hB2,rfl,hB.frame _,fun h=>by cases h⟩
theorem reefShorts_row:Rows.ReefShortsSaid:=
 OpenClaim.holds_of_wide 8 Try.f8 rfl rfl rfl rfl rfl rfl rfl ⟨rfl,rfl,rfl,rfl,rfl⟩ rfl rfl rfl rfl rfl (by kernel_rfl) Try.func8 (by kernel_rfl)
  (of_decide_eq_true (by kernel_rfl)) (by unfold Func.isWrapper;first|(rw[if_pos (by decide+kernel)];kernel_rfl)|(rw[if_neg (by decide+kernel)];exact⟨rfl,rfl⟩))
  (fun os started H enc _=>bH os started H enc)
end Go.Proofs.Ytncjjangllkokaa
