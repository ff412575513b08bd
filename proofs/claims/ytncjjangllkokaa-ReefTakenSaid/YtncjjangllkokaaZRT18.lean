/- Reef: quotas of the program. -/
import Derived.Test.YtncjjangllkokaaZRT17
import Derived.Test.YtncjjangllkokaaZRT16
set_option linter.all false
namespace Go.Proofs.Ytncjjangllkokaa
open Go Go.CE Go.RowKit
noncomputable section
def Y1(x:Qd)(most:Int):Qd:={x with olo:=if most<x.olo then most else x.olo,ohi:=if most<x.ohi then most else x.ohi}
def XG(rf:Qe)(place most:Int):Qe:=⟨rf.Qb.set place.toNat (Y1 (Ve rf.Qb place) most),rf.miss,rf.seasons⟩
theorem Zi{rf:Qe}{place most:Int}:(XG rf place most).Qb.length=rf.Qb.length:=List.length_set
theorem JW{rf:Qe}{place most k:Int}(h0:0<=place)(h1:place<rf.Qb.length)(k0:0<=k)(k1:k<rf.Qb.length):(XG rf place most).Qb.getD k.toNat default=if k=place then Y1 (Ve rf.Qb k) most else Ve rf.Qb k:=by
 show(rf.Qb.set place.toNat _).getD k.toNat default=_;rw[List.getD_eq_getElem?_getD,List.getElem?_set];by_cases e:k=place
 ·subst e;rw[if_pos rfl,if_pos (by omega),if_pos rfl];rfl
 ·rw[if_neg (by omega),if_neg e];simp[Ve,List.getD_eq_getElem?_getD]
theorem No{x:Qd}{most:Int}(h:RP x=true)(hm:0<=most/\most<=1000000):RP (Y1 x most)=true:=by
 have hp:=Xx h;simp only[RP,Y1,YB,VL,TI];refine⟨hp.1,hp.2.1,hp.2.2.1,hp.2.2.2.1,hp.2.2.2.2.1,hp.2.2.2.2.2.1, ?_,hp.2.2.2.2.2.2.2.1⟩;have ho:=hp.2.2.2.2.2.2.1;split <;> split <;> omega
theorem Sd{rf:Qe}{place most:Int}(hr:XT rf=true)(h0:0<=place)(h1:place<rf.Qb.length)(hm:0<=most/\most<=1000000):XT (XG rf place most)=true:=by
 obtain⟨hs,hp⟩:=Q8 hr;unfold XT;rw[YB];constructor
 ·unfold KR at hs ⊢;rw[Zi];exact hs
 ·refine List.all_eq_true.2 fun k hk=> ?_
  unfold Sv at hk;obtain⟨m,hm',rfl⟩:=List.mem_map.1 hk;have hm2:=List.mem_range.1 hm';rw[Zi]at hm2;have k0:0<=0+(m:Int):=by omega
  have k1:0+(m:Int)<rf.Qb.length:=by omega
  have a:=hp (0+(m:Int)) k0 k1;rw[JW h0 h1 k0 k1,Zi];simp only[YB,Bool.not_eq_true',decide_eq_false_iff_not];split
  ·exact⟨No a.1 hm,a.2.1,a.2.2⟩
  ·exact⟨a.1,a.2.1,a.2.2⟩
theorem VD{rf:Qe}{place most:Int}{Qa:List Int}:QG (XG rf place most) Qa=QG rf Qa:=by
 unfold QG;rw[Zi];rfl
def Yf(rf:Qe)(Qa:List Int)(place most:Int):Qo:=[(2,Obj.cells #[.slice none 0 0,.int .i64 0,.int .i64 0,.int .i64 0,.int .i64 0,.int .i64 0,.int .i64 0] 84),(1,Obj.cells #[Qt 0 (QE rf.Qb.length (Qg Qh rf.Qb)),.int .i64 rf.miss,.int .i64 rf.seasons,.int .i64 (Qa.getD 0 0),.int .i64 (Qa.getD 1 0),.int .i64 (Qa.getD 2 0),.int .i64 (Qa.getD 3 0)] 84),(0,Obj.coro none)]
def JP(rf:Qe)(Qa:List Int)(place most:Int):CF:=⟨113,ofList 8 [Qt 0 (QE rf.Qb.length (Qg Qh rf.Qb))],[Item.code (QT YP 113)],[],.run,none⟩
def uW(rf:Qe)(place:Int):=(rf.Qb.getD place.toNat default)
def gu(rf:Qe):Array Value:=(Qg Qh rf.Qb)
def gq(rf:Qe):Value:=(.slice (some {block:=4,off:=0}) rf.Qb.length 12)
set_option maxRecDepth 100000 in
theorem uY(B:Lo)(rf:Qe)(Qa:List Int)(place most:Int):let b:=rf.Qb;let a:=gu rf;CE.finK 3 (Qq YP (Q3 YP) J0 B 11 3 (JP rf Qa place most) (Yf rf Qa place most) 3
 [(2,Qk.tnil),(5,Qk.tapp a)] 0 [] []) [] [(3,KS.cells [] a)] []=some (OO.ret (gq rf),[],[Obj.cells a 54],
 [XA 3 [] a a,0<List.length b/\List.length b<=maxLen/\List.length b*96<=140737488355328/\Array.size a=List.length b*(11+1)/\Array.map (ZA 0) a=Qg Qh b/\(Array.all a fun v=>simple v || W6 v)=true/\ones a=true,0<List.length b]):=by intro b a;kernel_rfl
set_option maxRecDepth 100000 in
theorem uX(B:Lo)(rf:Qe)(Qa:List Int)(place most:Int):let i:=OO.ret (gq rf);let h:=0+Int.toNat place*12+6;let g:=gu rf;let f:=rf.Qb;let e:=Int.toNat place;let d:=uW rf place;let c:=f.getD e default;let b:=List.set f e {count:=d.count,room:=d.room,glo:=d.glo,ghi:=d.ghi,drift:=d.drift,into:=d.into,olo:=if most<d.olo then most else d.olo,ohi:=if most<d.ohi then most else d.ohi,slo:=d.slo,shi:=d.shi,goal:=d.goal,worth:=d.worth};let a:=List.set f e {count:=c.count,room:=c.room,glo:=c.glo,ghi:=c.ghi,drift:=c.drift,into:=c.into,olo:=if most<c.olo then most else c.olo,ohi:=if most<c.ohi then most else c.ohi,slo:=c.slo,shi:=c.shi,goal:=c.goal,worth:=c.worth};QQ (Qq YP (Q3 YP) J0 B 12 1 (Qp YP 94 37 (([.agg (QL rf Qa).toArray,.int .i64 place,.int .i64 most]).map (Q2 0 4))) XV 1
 [(5,Qk.call (List.range 3) i ([]++(3,Xa)::QU 4 [Obj.cells g 54]) 5 []),(13,Qk.ZH (Hint.idx e)),(15,Qk.ZH (Hint.ld (.agg #[.int .i64 d.olo,.int .i64 d.ohi]))),(31,Qk.ZH (Hint.idx e)),(33,Qk.ZH (Hint.st (Qg Qh b)))] 0 [] []) [{k:=4,rs:=[],cs:=Qg Qh b}]=some (.agg #[QE f.length (Fz.cs {k:=4,rs:=[],cs:=Qg Qh b}),.int .i64 rf.miss,.int .i64 rf.seasons,.int .i64 (Qa.getD 0 0),.int .i64 (Qa.getD 1 0),.int .i64 (Qa.getD 2 0),.int .i64 (Qa.getD 3 0)],
 [Zu (Fz.rs {k:=4,rs:=[],cs:=Qg Qh a}) (Qg Qh a) (Fz.cs {k:=4,rs:=[],cs:=Qg Qh a}),0+Int.toNat place*12+6+TypeInfo.size Try.t38<=Array.size g/\splice g h (Value.cells (X7 {len:=16000,tr:=Tri.set 14 (Tri.set 14 Tri.lf 33 (.agg #[.int .i64 (if most<c.olo then most else c.olo),.int .i64 (if most<c.ohi then most else c.ohi)])) 35 (.pointer (some {block:=4,off:=0+Int.toNat place*12+6}))} 33))=Qg Qh a,place=(↑e:Int)/\Int.toNat place<List.length f,0+Int.toNat place*12+6+TypeInfo.size Try.t38<=Array.size g/\Array.extract g h (0+Int.toNat place*12+6+TypeInfo.size Try.t38)=#[.int .i64 c.olo,.int .i64 c.ohi],place=(↑e:Int)/\Int.toNat place<List.length f,FJ YP B (JP rf Qa place most) (Yf rf Qa place most) 3 i (([]++((3,Xa)::QU (3+1) [Obj.cells g 54]))++Yf rf Qa place most) 5 (List.range 3) []]):=by intro i h g f e d c b a;kernel_rfl
set_option maxHeartbeats 4000000 in
theorem zx(rf:Qe)(Qa:List Int)(place most:Int)(hn:1<=rf.Qb.length/\rf.Qb.length<=4)(h0:0<=place)(h1:place<rf.Qb.length){B:Lo}(hJ:∀w,B.has w->J0 w):EndsT YP B (Qp YP 94 37 (([.agg (QL rf Qa).toArray,.int .i64 place,.int .i64 most]).map (Q2 0 4))) (.agg (QL (XG rf place most) Qa).toArray):=by
 by_cases q0:(List.length rf.Qb:Int)=(0)
 ·exfalso
  (omega)
 ·have rj0:FJ YP B (JP rf Qa place most) (Yf rf Qa place most) 3 (OO.ret (.slice (some {block:=4,off:=0}) rf.Qb.length 12)) (([]++((3,Xa)::QU (3+1) [Obj.cells (Qg Qh rf.Qb) 54]))++Yf rf Qa place most) 5 (List.range 3) []:=by
   exact FinK.fjB (GoE.finK okF hJ Qf (Q1 (by kernel_rfl)) (Qr (by kernel_rfl)) ((GoE.refl (P:=YP) (B:=B) (c0:=JP rf Qa place most) (Q1 (by kernel_rfl))).widen (Wf:=((([]):List (Nat×KS)).map (·.1))) (by simp) (Qr (by kernel_rfl))) (uY B rf Qa place most)
    ⟨(QK (QN (fun x=>List.all_eq_true.1 (by rfl)))),⟨⟨by omega,(by unfold maxLen;omega),by omega,(by exact Zf (z:=12) (fun _=>rfl)),S0 (fun _=>rfl) _⟩,⟨(by omega),trivial⟩⟩⟩) (ex:=[]) (by kernel_rfl) (Wj _)
  exact(GoE.endsT okF hJ Qf GoE.start (uX B rf Qa place most)
   ⟨(Zd (fun x=>List.all_eq_true.1 (by rfl))),⟨(by exact S6 (z:=12) (k:=Int.toNat place) (j:=6) (fun _=>rfl) (by omega) rfl rfl (by decide)),⟨⟨by omega,by omega⟩,⟨(by exact eB (z:=12) (k:=Int.toNat place) (j:=6) (fun _=>rfl) (by omega) (by decide) rfl rfl),⟨⟨by omega,by omega⟩,⟨rj0,trivial⟩⟩⟩⟩⟩⟩).cast (by(have hs_:(XG rf place most).Qb.length=rf.Qb.length:=Zi;show _=Value.agg #[QE (XG rf place most).Qb.length _,_,_,_,_,_,_];rw[hs_];rfl))
theorem uZ(rf:Qe)(Qa:List Int)(place most:Int)(hn:1<=rf.Qb.length/\rf.Qb.length<=4)(h0:0<=place)(h1:place<rf.Qb.length):Qx YP J0 94 #[.agg (QL rf Qa).toArray,.int .i64 place,.int .i64 most] (.agg (QL (XG rf place most) Qa).toArray):=
 Xn (ts:=[.agg (QL rf Qa).toArray,.int .i64 place,.int .i64 most]) Za (c0:=Qp YP 94 37 (([.agg (QL rf Qa).toArray,.int .i64 place,.int .i64 most]).map (Q2 0 4))) (by kernel_rfl) (by kernel_rfl) fun B hJ=>zx rf Qa place most hn h0 h1 hJ
end
end Go.Proofs.Ytncjjangllkokaa

namespace Go.Proofs.Ytncjjangllkokaa
open Go Go.CE Go.RowKit
noncomputable section
set_option maxRecDepth 100000
def Y7(rf:Qe)(Qa:List Int)(place l:Int):Bool:=(ZR (XG rf place l) Qa).1
def QX(rf:Qe)(Qa:List Int)(place:Int):Int:=(Jv (Y7 rf Qa place) (fun _=>0) 0 1000001 0).1
def SB(x_:Qe):Array Value:=#[Qt 4 (QE x_.Qb.length (Qg Qh x_.Qb)),.int .i64 x_.miss,.int .i64 x_.seasons,Value.map (some 6)]
def gh(rf:Qe)(Qa:List Int)(place:Int)(a b:Int):Value:=let c:=XG rf place (Int.tdiv (a+b) 2);(.agg #[QE c.Qb.length (Qg Qh c.Qb),.int .i64 c.miss,.int .i64 c.seasons,.int .i64 (Qa.getD 0 0),.int .i64 (Qa.getD 1 0),.int .i64 (Qa.getD 2 0),.int .i64 (Qa.getD 3 0)])
def gf(rf:Qe)(Qa:List Int)(place:Int)(a b:Int):Array Value:=let d:=XG rf place (Int.tdiv (a+b) 2);let c:=Prod.snd (X4 (QR d Qa (Int.toNat d.seasons)) d.Qb 0);#[.int .i64 (Prod.fst c),.int .i64 (Prod.snd c)]
def ZW(rf:Qe)(Qa:List Int)(place:Int):Qo:=[(2,Obj.cells #[.int .i64 place] 3),(1,Obj.cells #[Qt 0 (QE rf.Qb.length (Qg Qh rf.Qb)),.int .i64 rf.miss,.int .i64 rf.seasons,.int .i64 (Qa.getD 0 0),.int .i64 (Qa.getD 1 0),.int .i64 (Qa.getD 2 0),.int .i64 (Qa.getD 3 0)] 84),(0,Obj.coro none)]
def UY(rf:Qe)(Qa:List Int)(place:Int):CF:=⟨92,ofList 26 [.int .i64 1000000,Value.func (Fn.func 93) #[] #[pA 1 0,pA 2 0]],[Item.code (QT YP 92)],[],.run,none⟩
def Wy(rf:Qe)(Qa:List Int)(place:Int)(a b:Int):List Value:=[Value.func (Fn.func 93) #[] #[pA 1 0,pA 2 0],.int .i64 a,.int .i64 b]
def Wx(rf:Qe)(Qa:List Int)(place:Int)(a b:Int):List Obj:=[]
def ZV(rf:Qe)(Qa:List Int)(place:Int)(a b:Int):List Obj:=[]
def Wz:List Item:=([.code [1,0,1,1,0,0,0],.inLoop [1,0,1,1,0,0,0],.inBlock 0,.code [1,0,1,1,1],.inScope [1,0]]).map (it (QT YP 92))
def SD(B:Lo)(rf:Qe)(Qa:List Int)(place:Int)(a b:Int)(Qn:Nat->Value):List Prop:=[IntKind.wrap .i64 (Int.tdiv (a+b) 2)=Int.tdiv (a+b) 2,wq (a+b)=a+b]++([]:List Prop)
def gj(rf:Qe)(Qa:List Int)(place:Int)(a b:Int)(Qn:Nat->Value):Q5:=[(2,VE (a+b)),(3,VE (Int.tdiv (a+b) 2))]
theorem uR(B:Lo)(rf:Qe)(Qa:List Int)(place:Int)(a b:Int)(Qn:Nat->Value):let c:=ZV rf Qa place a b;CE.finK 3 (Qq YP (Q3 YP) J0 B 12 3 (WO (none) 92 26 (([1,5,6]:List Nat).zip (Wy rf Qa place a b)) Qn Wz) (Z1 (ZW rf Qa place) 3 (([]:List Nat).zip (Wx rf Qa place a b)) c) (3+1+c.length)
 (gj rf Qa place a b Qn++[(7,Wo)]) 0 [] []) [] [] []=some (OO.ret (.int .i64 a),[],[],
 [Km a b=true]++SD B rf Qa place a b Qn):=by intro c;kernel_rfl
def SC(B:Lo)(rf:Qe)(Qa:List Int)(place:Int)(a b:Int)(Qn:Nat->Value):List Prop:=[Km a b=false]++SD B rf Qa place a b Qn
def gi(rf:Qe)(Qa:List Int)(place:Int)(a b:Int)(Qn:Nat->Value):Q5:=gj rf Qa place a b Qn++[(7,W8)]
def VV(rf:Qe)(Qa:List Int)(place:Int)(a b:Int)(Qn:Nat->Value):Qo:=[(4,Obj.coro none),(3,Obj.coro none),(2,Obj.cells #[.int .i64 place] 3),(1,Obj.cells #[Qt 0 (QE rf.Qb.length (Qg Qh rf.Qb)),.int .i64 rf.miss,.int .i64 rf.seasons,.int .i64 (Qa.getD 0 0),.int .i64 (Qa.getD 1 0),.int .i64 (Qa.getD 2 0),.int .i64 (Qa.getD 3 0)] 84),(0,Obj.coro none)]
def Ya(rf:Qe)(Qa:List Int)(place:Int)(a b:Int)(Qn:Nat->Value):CF:=⟨63,ofList 6 [.agg #[Qt 4 (QE (List.length (Qe.Qb (XG rf place (Int.tdiv (a+b) 2)))) (Qg Qh (Qe.Qb (XG rf place (Int.tdiv (a+b) 2))))),.int .i64 (Qe.miss (XG rf place (Int.tdiv (a+b) 2))),.int .i64 (Qe.seasons (XG rf place (Int.tdiv (a+b) 2)))]],[Item.code (QT YP 63)],[],.run,none⟩
theorem uQ(B:Lo)(rf:Qe)(Qa:List Int)(place:Int)(a b:Int)(Qn:Nat->Value):CE.finK 5 (Qq YP (Q3 YP) J0 B 6 5 (Ya rf Qa place a b Qn) (VV rf Qa place a b Qn) 5
 [] 0 [] []) [] [(7,KS.same)] []=some (OO.ret (.agg (SB (XG rf place (Int.tdiv (a+b) 2)))),[],[Obj.map #[] 0],
 [XE #[]]):=by kernel_rfl
def Wp(rf:Qe)(Qa:List Int)(place:Int)(a b:Int)(Qn:Nat->Value):Qo:=[(3,Obj.coro none),(2,Obj.cells #[.int .i64 place] 3),(1,Obj.cells #[Qt 0 (QE rf.Qb.length (Qg Qh rf.Qb)),.int .i64 rf.miss,.int .i64 rf.seasons,.int .i64 (Qa.getD 0 0),.int .i64 (Qa.getD 1 0),.int .i64 (Qa.getD 2 0),.int .i64 (Qa.getD 3 0)] 84),(0,Obj.coro none)]
def Vi(rf:Qe)(Qa:List Int)(place:Int)(a b:Int)(Qn:Nat->Value):CF:=⟨93,ofList 20 [.int .i64 (Int.tdiv (a+b) 2),pA 1 0,pA 2 0],[Item.code (QT YP 93)],[],.run,none⟩
theorem uP(B:Lo)(rf:Qe)(Qa:List Int)(place:Int)(a b:Int)(Qn:Nat->Value):let g:=gh rf Qa place a b;let f:=gf rf Qa place a b;let d:=Value.tuple #[.agg f,.bool true];let c:=XG rf place (Int.tdiv (a+b) 2);let h:=Int.toNat c.seasons;let e:=OO.ret (.agg (SB c));CE.finK 4 (Qq YP (Q3 YP) J0 B 8 4 (Vi rf Qa place a b Qn) (Wp rf Qa place a b Qn) 4
 [(4,Qk.pure g []),(6,Qk.call (List.range 5) e ([]++(5,Xa)::QU 6 [Obj.map #[] 0]) 7 []),(9,Qk.wriC [6] [4] [true] [] (cx c Qa []) (cw c Qa []) (cy c Qa []) (OO.ret d))] 0 [] []) [] [] []=some (OO.ret (.bool true),[],[],
 [(Qz [XE (mapA QB []),XE (mapA QB (XK c Qa h []))]/\uV c (Qa) ([]))/\OO.ret (.tuple #[.agg f,.bool (Prod.fst (X4 (QR c Qa h) c.Qb 0))])=OO.ret d,FJ YP B (Ya rf Qa place a b Qn) (VV rf Qa place a b Qn) 5 e (([]++((5,Xa)::QU (5+1) [Obj.map #[] 0]))++VV rf Qa place a b Qn) 7 (List.range 5) [],Qz []/\Qx YP J0 94 #[.agg #[QE rf.Qb.length (Qg Qh rf.Qb),.int .i64 rf.miss,.int .i64 rf.seasons,.int .i64 (Qa.getD 0 0),.int .i64 (Qa.getD 1 0),.int .i64 (Qa.getD 2 0),.int .i64 (Qa.getD 3 0)],.int .i64 place,.int .i64 (Int.tdiv (a+b) 2)] g]):=by intro g f d c h e;kernel_rfl
theorem uO(B:Lo)(rf:Qe)(Qa:List Int)(place:Int)(a b:Int)(Qn:Nat->Value):let e:=OO.ret (.bool true);let d:=ZV rf Qa place a b;let c:=Int.tdiv (a+b) 2;CE.landA 3 (Qq YP (Q3 YP) J0 B 14 3 (WO (none) 92 26 (([1,5,6]:List Nat).zip (Wy rf Qa place a b)) Qn Wz) (Z1 (ZW rf Qa place) 3 (([]:List Nat).zip (Wx rf Qa place a b)) d) (3+1+d.length)
 (gi rf Qa place a b Qn++[(11,Qk.call (List.range 4) e ([]++(4,Xa)::QU 5 []) 5 [])]) 0 [] []) [1,5,6] [] [] []=some ⟨92,26,Wz,[],.run,none,Wy rf Qa place (a) c,([]:List Nat).zip (Wx rf Qa place (a) c),ZV rf Qa place (a) c,
 [FJ YP B (Vi rf Qa place a b Qn) (Wp rf Qa place a b Qn) 4 e (([]++((4,Xa)::QU (4+1) []))++Wp rf Qa place a b Qn) 5 (List.range 4) []]++SC B rf Qa place a b Qn⟩:=by intro e d c;kernel_rfl
theorem uN(B:Lo)(rf:Qe)(Qa:List Int)(place:Int)(a b:Int)(Qn:Nat->Value):let g:=gh rf Qa place a b;let f:=gf rf Qa place a b;let d:=Value.tuple #[.agg f,.bool false];let c:=XG rf place (Int.tdiv (a+b) 2);let h:=Int.toNat c.seasons;let e:=OO.ret (.agg (SB c));CE.finK 4 (Qq YP (Q3 YP) J0 B 8 4 (Vi rf Qa place a b Qn) (Wp rf Qa place a b Qn) 4
 [(4,Qk.pure g []),(6,Qk.call (List.range 5) e ([]++(5,Xa)::QU 6 [Obj.map #[] 0]) 7 []),(9,Qk.wriC [6] [4] [true] [] (cx c Qa []) (cw c Qa []) (cy c Qa []) (OO.ret d))] 0 [] []) [] [] []=some (OO.ret (.bool false),[],[],
 [(Qz [XE (mapA QB []),XE (mapA QB (XK c Qa h []))]/\uV c (Qa) ([]))/\OO.ret (.tuple #[.agg f,.bool (Prod.fst (X4 (QR c Qa h) c.Qb 0))])=OO.ret d,FJ YP B (Ya rf Qa place a b Qn) (VV rf Qa place a b Qn) 5 e (([]++((5,Xa)::QU (5+1) [Obj.map #[] 0]))++VV rf Qa place a b Qn) 7 (List.range 5) [],Qz []/\Qx YP J0 94 #[.agg #[QE rf.Qb.length (Qg Qh rf.Qb),.int .i64 rf.miss,.int .i64 rf.seasons,.int .i64 (Qa.getD 0 0),.int .i64 (Qa.getD 1 0),.int .i64 (Qa.getD 2 0),.int .i64 (Qa.getD 3 0)],.int .i64 place,.int .i64 (Int.tdiv (a+b) 2)] g]):=by intro g f d c h e;kernel_rfl
theorem uM(B:Lo)(rf:Qe)(Qa:List Int)(place:Int)(a b:Int)(Qn:Nat->Value):let e:=OO.ret (.bool false);let d:=ZV rf Qa place a b;let c:=Int.tdiv (a+b) 2+1;CE.landA 3 (Qq YP (Q3 YP) J0 B 14 3 (WO (none) 92 26 (([1,5,6]:List Nat).zip (Wy rf Qa place a b)) Qn Wz) (Z1 (ZW rf Qa place) 3 (([]:List Nat).zip (Wx rf Qa place a b)) d) (3+1+d.length)
 (gi rf Qa place a b Qn++[(11,Qk.call (List.range 4) e ([]++(4,Xa)::QU 5 []) 5 []),(14,VE c)]) 0 [] []) [1,5,6] [] [] []=some ⟨92,26,Wz,[],.run,none,Wy rf Qa place c (b),([]:List Nat).zip (Wx rf Qa place c (b)),ZV rf Qa place c (b),
 [wq c=Int.tdiv (a+b) 2+1,FJ YP B (Vi rf Qa place a b Qn) (Wp rf Qa place a b Qn) 4 e (([]++((4,Xa)::QU (4+1) []))++Wp rf Qa place a b Qn) 5 (List.range 4) []]++SC B rf Qa place a b Qn⟩:=by intro e d c;kernel_rfl
set_option maxHeartbeats 4000000 in
theorem kY(rf:Qe)(Qa:List Int)(place:Int)(hr:XT rf=true)(hp:QG rf Qa=true)(p0:0<=place)(p1:place<rf.Qb.length){B:Lo}(hJ:∀w,B.has w->J0 w):∀m:Nat,(∀(a b:Int),(b-a).toNat=m->∀(a0:0<=a) (ab:a<=b) (b1:b<=1000001),(∃Qn:Nat->Value,(∀t,X6 (Qn t))/\GoE YP B (UY rf Qa place) (ZW rf Qa place) 3 (WO (none) 92 26 (([1,5,6]:List Nat).zip (Wy rf Qa place a b)) Qn Wz) (Z1 (ZW rf Qa place) 3 (([]:List Nat).zip (Wx rf Qa place a b)) (ZV rf Qa place a b)) (3+1+(ZV rf Qa place a b).length) ([]:List Nat))->FinK YP B (UY rf Qa place) (ZW rf Qa place) 3 (.ret (.int .i64 (Jv (Y7 rf Qa place) (fun _=>0) a b 0).1)) (([]:List Nat).zip ([])) ([]) ([]:List Nat)):=by
 intro m0;induction m0 using Nat.strongRecOn with
 |_ m0 ih0=>
  intro a b hm0 a0 ab b1 ⟨Qn,Ur,XM⟩;have Zm:=Qy (Q8 hr).1;have Zm:=Qy (Q8 hr).1;have hl:=Nm a0 ab;have WB:Qz (SD B rf Qa place a b Qn):=by
   have hP:=(VD (rf:=rf) (place:=place) (most:=(a+b).tdiv 2) (Qa:=Qa)).trans hp;have Kx:=J5 (rf:=XG rf place ((a+b).tdiv 2));exact⟨(Ty (by omega) (by omega)),⟨(Xy (by omega) (by omega)),trivial⟩⟩
  by_cases q0:(a:Int)=(b)
  ·have hP:=(VD (rf:=rf) (place:=place) (most:=(a+b).tdiv 2) (Qa:=Qa)).trans hp;have Kx:=J5 (rf:=XG rf place ((a+b).tdiv 2));have s2:=mm (p:=Y7 rf Qa place) (q:=fun _=>0) (u:=0) (show a=b by omega);exact(GoE.finK okF hJ Qf (Q1 (by kernel_rfl)) (Qr (by kernel_rfl)) XM (uR B rf Qa place a b Qn)
    ⟨(Pc q0),WB⟩).cast (by(rw[s2];done)) (by rfl) (by rfl)
  ·have JE:Qz (SC B rf Qa place a b Qn):=by
    exact⟨(Pd q0),WB⟩
   have rj2:FJ YP B (Ya rf Qa place a b Qn) (VV rf Qa place a b Qn) 5 (OO.ret (.agg #[Qt 4 (QE (List.length (Qe.Qb (XG rf place (Int.tdiv (a+b) 2)))) (Qg Qh (Qe.Qb (XG rf place (Int.tdiv (a+b) 2))))),.int .i64 (Qe.miss (XG rf place (Int.tdiv (a+b) 2))),.int .i64 (Qe.seasons (XG rf place (Int.tdiv (a+b) 2))),Value.map (some 6)])) (([]++((5,Xa)::QU (5+1) [Obj.map #[] 0]))++VV rf Qa place a b Qn) 7 (List.range 5) []:=by
    have hm:=b9 a0 (show a<b by omega);have hW:=Sd (most:=(a+b).tdiv 2) hr p0 p1 (by omega);have hP:=(VD (rf:=rf) (place:=place) (most:=(a+b).tdiv 2) (Qa:=Qa)).trans hp;have Kx:=J5 (rf:=XG rf place ((a+b).tdiv 2));exact FinK.fjB (GoE.finK okF hJ Qf (Q1 (by kernel_rfl)) (Qr (by kernel_rfl)) ((GoE.refl (P:=YP) (B:=B) (c0:=Ya rf Qa place a b Qn) (Q1 (by kernel_rfl))).widen (Wf:=((([]):List (Nat×KS)).map (·.1))) (by simp) (Qr (by kernel_rfl))) (uQ B rf Qa place a b Qn)
     ⟨(by(intro i e he;simp at he;done)),trivial⟩) (ex:=[]) (by kernel_rfl) (Wj _)
   cases q1:Prod.fst (X4 (QR (XG rf place (Int.tdiv (a+b) 2)) Qa (Int.toNat (Qe.seasons (XG rf place (Int.tdiv (a+b) 2))))) (Qe.Qb (XG rf place (Int.tdiv (a+b) 2))) 0)with
   |true=>
    have rj1:FJ YP B (Vi rf Qa place a b Qn) (Wp rf Qa place a b Qn) 4 (OO.ret (.bool true)) (([]++((4,Xa)::QU (4+1) []))++Wp rf Qa place a b Qn) 5 (List.range 4) []:=by
     have hm:=b9 a0 (show a<b by omega);have hW:=Sd (most:=(a+b).tdiv 2) hr p0 p1 (by omega);have hP:=(VD (rf:=rf) (place:=place) (most:=(a+b).tdiv 2) (Qa:=Qa)).trans hp;have Kx:=J5 (rf:=XG rf place ((a+b).tdiv 2));have s2:=dq (p:=Y7 rf Qa place) (q:=fun _=>0) (u:=0) a0 (show a<b by omega) (show Y7 rf Qa place ((a+b).tdiv 2)=_ by assumption);exact FinK.fjB (GoE.finK okF hJ Qf (Q1 (by kernel_rfl)) (Qr (by kernel_rfl)) ((GoE.refl (P:=YP) (B:=B) (c0:=Vi rf Qa place a b Qn) (Q1 (by kernel_rfl))).widen (Wf:=((([]):List (Nat×KS)).map (·.1))) (by simp) (Qr (by kernel_rfl))) (uP B rf Qa place a b Qn)
      ⟨⟨⟨⟨(X0 (fun _=>by kernel_rfl)),⟨(X0 (fun _=>by kernel_rfl)),trivial⟩⟩,FK (XG rf place (Int.tdiv (a+b) 2)) (Qa) ([]) (by with_reducible assumption) (by with_reducible assumption) (by with_reducible assumption)⟩,(by(rw[q1];done))⟩,⟨rj2,⟨⟨trivial,uZ (rf) (Qa) (place) (Int.tdiv (a+b) 2) (by omega) (by with_reducible assumption) (by with_reducible assumption)⟩,trivial⟩⟩⟩) (ex:=[]) (by kernel_rfl) (Wj _)
    have hm:=b9 a0 (show a<b by omega);have hW:=Sd (most:=(a+b).tdiv 2) hr p0 p1 (by omega);have hP:=(VD (rf:=rf) (place:=place) (most:=(a+b).tdiv 2) (Qa:=Qa)).trans hp;have Kx:=J5 (rf:=XG rf place ((a+b).tdiv 2));have s2:=dq (p:=Y7 rf Qa place) (q:=fun _=>0) (u:=0) a0 (show a<b by omega) (show Y7 rf Qa place ((a+b).tdiv 2)=_ by assumption);exact((ih0 _ (by omega)) (a) (Int.tdiv (a+b) 2) rfl (by with_reducible assumption) (by omega) (by omega)
     (GoE.landA okF hJ Qf (Q1 (by kernel_rfl)) (Qr (by kernel_rfl)) XM (uO B rf Qa place a b Qn)
     ⟨rj1,JE⟩ (by kernel_rfl) (by kernel_rfl) (fun l hl=>by cases hl <;> decide))).cast (by(rw[s2];done)) (by rfl) (by rfl)
   |false=>
    have rj1:FJ YP B (Vi rf Qa place a b Qn) (Wp rf Qa place a b Qn) 4 (OO.ret (.bool false)) (([]++((4,Xa)::QU (4+1) []))++Wp rf Qa place a b Qn) 5 (List.range 4) []:=by
     have hm:=b9 a0 (show a<b by omega);have hW:=Sd (most:=(a+b).tdiv 2) hr p0 p1 (by omega);have hP:=(VD (rf:=rf) (place:=place) (most:=(a+b).tdiv 2) (Qa:=Qa)).trans hp;have Kx:=J5 (rf:=XG rf place ((a+b).tdiv 2));have s2:=jl (p:=Y7 rf Qa place) (q:=fun _=>0) (u:=0) a0 (show a<b by omega) (show Y7 rf Qa place ((a+b).tdiv 2)=_ by assumption);exact FinK.fjB (GoE.finK okF hJ Qf (Q1 (by kernel_rfl)) (Qr (by kernel_rfl)) ((GoE.refl (P:=YP) (B:=B) (c0:=Vi rf Qa place a b Qn) (Q1 (by kernel_rfl))).widen (Wf:=((([]):List (Nat×KS)).map (·.1))) (by simp) (Qr (by kernel_rfl))) (uN B rf Qa place a b Qn)
      ⟨⟨⟨⟨(X0 (fun _=>by kernel_rfl)),⟨(X0 (fun _=>by kernel_rfl)),trivial⟩⟩,FK (XG rf place (Int.tdiv (a+b) 2)) (Qa) ([]) (by with_reducible assumption) (by with_reducible assumption) (by with_reducible assumption)⟩,(by(rw[q1];done))⟩,⟨rj2,⟨⟨trivial,uZ (rf) (Qa) (place) (Int.tdiv (a+b) 2) (by omega) (by with_reducible assumption) (by with_reducible assumption)⟩,trivial⟩⟩⟩) (ex:=[]) (by kernel_rfl) (Wj _)
    have hm:=b9 a0 (show a<b by omega);have hW:=Sd (most:=(a+b).tdiv 2) hr p0 p1 (by omega);have hP:=(VD (rf:=rf) (place:=place) (most:=(a+b).tdiv 2) (Qa:=Qa)).trans hp;have Kx:=J5 (rf:=XG rf place ((a+b).tdiv 2));have s2:=jl (p:=Y7 rf Qa place) (q:=fun _=>0) (u:=0) a0 (show a<b by omega) (show Y7 rf Qa place ((a+b).tdiv 2)=_ by assumption);exact((ih0 _ (by omega)) (Int.tdiv (a+b) 2+1) (b) rfl (by omega) (by omega) (by with_reducible assumption)
     (GoE.landA okF hJ Qf (Q1 (by kernel_rfl)) (Qr (by kernel_rfl)) XM (uM B rf Qa place a b Qn)
     ⟨(Xy (by omega) (by omega)),⟨rj1,JE⟩⟩ (by kernel_rfl) (by kernel_rfl) (fun l hl=>by cases hl <;> decide))).cast (by(rw[s2];done)) (by rfl) (by rfl)

theorem uS(B:Lo)(rf:Qe)(Qa:List Int)(place:Int):CE.landA 3 (Qq YP (Q3 YP) J0 B 10 3 (UY rf Qa place) (ZW rf Qa place) 3
 [] 0 [] []) [1,5,6] [] [] []=some ⟨92,26,Wz,[],.run,none,Wy rf Qa place (0) (1000001),([]:List Nat).zip (Wx rf Qa place (0) (1000001)),ZV rf Qa place (0) (1000001),
 []⟩:=by kernel_rfl
theorem uL(B:Lo)(rf:Qe)(Qa:List Int)(place:Int):let a:=Y7 rf Qa place;QQ (Qq YP (Q3 YP) J0 B 6 1 (Qp YP 71 7 (([.agg (QL rf Qa).toArray,.int .i64 place]).map (Q2 0 4))) XV 1
 [(4,Qk.call (List.range 3) (OO.ret (.int .i64 (Prod.fst (Jv a (fun x=>0) 0 1000001 0)))) ([]++(3,Xa)::QU 4 []) 4 [])] 0 [] []) []=some (.int .i64 (Prod.fst (Jv a (fun x=>0) 0 1000001 0)),
 [FJ YP B (UY rf Qa place) (ZW rf Qa place) 3 (OO.ret (.int .i64 (Prod.fst (Jv a (fun x=>0) 0 1000001 0)))) (([]++((3,Xa)::QU (3+1) []))++ZW rf Qa place) 4 (List.range 3) []]):=by intro a;kernel_rfl
set_option maxHeartbeats 4000000 in
theorem zl(rf:Qe)(Qa:List Int)(place:Int)(hr:XT rf=true)(hp:QG rf Qa=true)(p0:0<=place)(p1:place<rf.Qb.length){B:Lo}(hJ:∀w,B.has w->J0 w):EndsT YP B (Qp YP 71 7 (([.agg (QL rf Qa).toArray,.int .i64 place]).map (Q2 0 4))) (.int .i64 (QX rf Qa place)):=by
 have Zm:=Qy (Q8 hr).1;have rj0:FJ YP B (UY rf Qa place) (ZW rf Qa place) 3 (OO.ret (.int .i64 (Prod.fst (Jv (Y7 rf Qa place) (fun x=>0) 0 1000001 0)))) (([]++((3,Xa)::QU (3+1) []))++ZW rf Qa place) 4 (List.range 3) []:=by
  exact FinK.fjB ((kY rf Qa place hr hp p0 p1 hJ _) (0) (1000001) rfl (by omega) (by omega) (by omega)
   (GoE.landA okF hJ Qf (Q1 (by kernel_rfl)) (Qr (by kernel_rfl)) ((GoE.refl (P:=YP) (B:=B) (c0:=UY rf Qa place) (Q1 (by kernel_rfl))).widen (Wf:=((([]):List (Nat×KS)).map (·.1))) (by simp) (Qr (by kernel_rfl))) (uS B rf Qa place)
   trivial (by kernel_rfl) (by kernel_rfl) (fun l hl=>by cases hl <;> decide))) (ex:=[]) (by kernel_rfl) (Wj _)
 exact(GoE.endsT okF hJ Qf GoE.start (uL B rf Qa place)
  ⟨rj0,trivial⟩).cast (by rfl)
theorem F9(rf:Qe)(Qa:List Int)(place:Int)(hr:XT rf=true)(hp:QG rf Qa=true)(p0:0<=place)(p1:place<rf.Qb.length):Qx YP J0 71 #[.agg (QL rf Qa).toArray,.int .i64 place] (.int .i64 (QX rf Qa place)):=
 Xn (ts:=[.agg (QL rf Qa).toArray,.int .i64 place]) Za (c0:=Qp YP 71 7 (([.agg (QL rf Qa).toArray,.int .i64 place]).map (Q2 0 4))) (by kernel_rfl) (by kernel_rfl) fun B hJ=>zl rf Qa place hr hp p0 p1 hJ
end
end Go.Proofs.Ytncjjangllkokaa

namespace Go.Proofs.Ytncjjangllkokaa
open Go Go.CE Go.RowKit
theorem AW{g h:Int->Int}:∀(k:Nat),(∀m:Int,0<=m->m<k->g m<=h m)->Xb 0 k g<=Xb 0 k h
 |0,_=>by rw[VT (by omega),VT (by omega)];omega
 |k+1,H=>by
  have ih:=AW k fun m h0 h1=>H m h0 (by omega)
  have h2:=H k (by omega) (by omega);rw[show((k+1:Nat):Int)=(k:Int)+1 by omega,X3 (by omega),X3 (by omega)];omega
section
variable {ps:List Qd} {n:Int} {gs ts:List (List Int)} {f:F4}
theorem lr{k:Int}(k0:0<=k)(k1:k<n):(XB n ps gs ts f).getD k.toNat default=iD ps gs ts f k:=by
 unfold XB;exact X2 k0 k1
theorem r3{k i:Int}(h4:ps.length<=4)(i0:0<=i)(i1:i<ps.length):(iD ps gs ts f k).getD i.toNat default=(Yn ps gs ts f (k.toNat+1)).at i:=by
 unfold iD;rw[<-Ma h4];exact X2 i0 i1
theorem OkT.row(h:OkT ps n gs ts f){k i:Int}(k0:0<=k)(k1:k<n)(i0:0<=i)(i1:i<ps.length):0<=nth ((XB n ps gs ts f).getD k.toNat default) i/\nth ((XB n ps gs ts f).getD k.toNat default) i<=1000000000+16000000:=by
 have h4:=h.s4;have hp4:=h.hp.1;have hs:=h.st (k.toNat+1) (by omega);have ha:=Uh hs.1 i0 (by omega);have h9:=h.hs;rw[lr k0 k1];unfold nth;rw[r3 hp4 i0 i1];have:=hs.2;omega
end
theorem JJ{rf:Qe}{Qa:List Int}{t:Ql}(hr:XT rf=true)(ht:Xz rf Qa t=true):(Qu t.Qc).sum<=16000000:=by
 have hs:=Qy (Q8 hr).1;obtain⟨h1,h2,h3,h4⟩:=Sy ht;obtain⟨s1,s2⟩:=K4 h1;rw[List.length_map]at s1;have st:∀k:Int,0<=k->k<4->nth t.Qc k<=4000000:=fun k k0 k1=>by
  by_cases hk:k<rf.Qb.length
  ·have hp:=Xx ((Q8 hr).2 k k0 hk).1;have:=s2 k k0 (by omega);rw[Zy k0 hk]at this;have hm:=Po (a:=(rf.Qb.getD k.toNat default).count) (r:=rf.miss) (by omega) (by omega);have hm2:(rf.Qb.getD k.toNat default).count*rf.miss<=1000000*2000:=Int.mul_le_mul hp.1.2 hs.2.1.2 hs.2.1.1 (by omega);have e2:((rf.Qb.getD k.toNat default).count*rf.miss).tdiv 1000=((rf.Qb.getD k.toNat default).count*rf.miss) / 1000:=Int.tdiv_eq_ediv_of_nonneg hm.1;simp only[Xw,Yk]at this;unfold nth;omega
  ·unfold nth;rw[List.getD_eq_getElem?_getD,List.getElem?_eq_none (by omega)];show(0:Int)<=4000000;omega
 have a0:=st 0 (by omega) (by omega);have a1:=st 1 (by omega) (by omega);have a2:=st 2 (by omega) (by omega);have a3:=st 3 (by omega) (by omega);have es:(Qu t.Qc).sum=nth t.Qc 0+nth t.Qc 1+nth t.Qc 2+nth t.Qc 3:=rfl;omega
theorem OkT.shape{ps:List Qd}{n:Int}{gs ts:List (List Int)}{f:F4}(h:OkT ps n gs ts f)(hf:f.sum<=16000000):(XB n ps gs ts f).length=n/\∀s:Int,0<=s->s<n->((XB n ps gs ts f).getD s.toNat default).length=ps.length/\∀i:Int,0<=i->i<ps.length->0<=((XB n ps gs ts f).getD s.toNat default).getD i.toNat default/\((XB n ps gs ts f).getD s.toNat default).getD i.toNat default<=32000000:=by
 have h9:=h.s0;have h4:=h.s4;refine⟨by unfold XB;rw[Zo];omega,fun s s0 s1=> ?_⟩;rw[lr s0 s1];refine⟨k9 h.hp.1,fun i i0 i1=> ?_⟩;have hp4:=h.hp.1;have hs:=h.st (s.toNat+1) (by omega);have ha:=Uh hs.1 i0 (by omega);rw[r3 hp4 i0 i1];have:=hs.2;omega
def S5(m:Nat)(n:Int)(l:List (List Int)):Prop:=l.length=n/\∀s:Int,0<=s->s<n->(l.getD s.toNat default).length=m/\∀i:Int,0<=i->i<m->0<=(l.getD s.toNat default).getD i.toNat default/\(l.getD s.toNat default).getD i.toNat default<=32000000
end Go.Proofs.Ytncjjangllkokaa

namespace Go.Proofs.Ytncjjangllkokaa
open Go Go.CE Go.RowKit
def Bn(f g:F4):Prop:=∀j:Int,0<=j->j<4->f.at j<=g.at j
def L4(n:Nat)(xs ys:List Int):Prop:=∀k:Int,0<=k->k<n->nth xs k<=nth ys k
theorem bR{a:Int}(h:0<=a):a.tdiv 1000=a / 1000:=Int.tdiv_eq_ediv_of_nonneg h
theorem Aw{room x y g g':Int}(x0:0<=x)(xy:x<=y)(g0:0<=g)(gg:g<=g'):x+nR room x g<=y+nR room y g':=by
 have h0:0<=x*g:=Int.mul_nonneg x0 g0;have h1:x*g<=y*g':=Int.mul_le_mul xy gg g0 (by omega);have e1:=bR h0;have e2:=bR (a:=y*g') (by omega);unfold nR;rw[e1,e2];have hd:x*g / 1000<=y*g' / 1000:=Int.ediv_le_ediv (by omega) h1;have hn:0<=x*g / 1000:=Int.ediv_nonneg h0 (by omega);split <;> split <;> (try split) <;> (try split) <;> omega
theorem LD{gs gs':List Int}{ps:List Qd}{f f':F4}(hg:UR ps.length gs 2000)(hgg:L4 ps.length gs gs')(hf:J6 f)(hff:Bn f f'):Bn (JF gs ps f) (JF gs' ps f'):=fun j j0 j1=>by
 unfold JF;rw[TG j0 j1,TG j0 j1];unfold X9 ZI;have h:=hff j j0 j1;split
 ·rename_i hj;have a:=hg.2 j j0 hj;have b:=hgg j j0 hj;have c:=(Uh hf j0 j1).1;exact Aw c h a.1 b
 ·exact h
theorem ri{x y d:Int}(x0:0<=x)(xy:x<=y)(d0:0<=d)(d1:d<=1000):(x*d).tdiv 1000<=(y*d).tdiv 1000/\x-(x*d).tdiv 1000<=y-(y*d).tdiv 1000:=by
 have h0:0<=x*d:=Int.mul_nonneg x0 d0;have h1:x*d<=y*d:=Int.mul_le_mul_of_nonneg_right xy d0;have h2:(y-x)*d<=(y-x)*1000:=Int.mul_le_mul_of_nonneg_left d1 (by omega);have h3:(y-x)*d=y*d-x*d:=Int.sub_mul ..;rw[bR h0,bR (a:=y*d) (by omega)];omega
theorem LO{ps:List Qd}{b b':F4}(hp:Jq ps)(hf:J6 b)(h:Bn b b'):Bn (dS ps b) (dS ps b'):=fun j j0 j1=>by
 have h4:=hp.1;unfold dS;rw[TG j0 j1,TG j0 j1];unfold Vg;have hs:Xb 0 ps.length (fun m=>if(Ve ps m).into=j then WT ps b m else 0)<=Xb 0 ps.length (fun m=>if(Ve ps m).into=j then WT ps b' m else 0):=AW ps.length fun m m0 m1=>by
  have hd:=(hp.2 m m0 m1).2.1;have:=(ri (Uh hf m0 (by omega)).1 (h m m0 (by omega)) hd.1 hd.2).1;show(if(Ve ps m).into=j then WT ps b m else 0)<=(if(Ve ps m).into=j then WT ps b' m else 0)
  unfold WT;split <;> omega
 have hj:=h j j0 j1;split
 ·rename_i hn;have hd:=(hp.2 j j0 hn).2.1;have:b.at j-WT ps b j<=b'.at j-WT ps b' j:=(ri (Uh hf j0 j1).1 hj hd.1 hd.2).2;omega
 ·omega
theorem Iu{ts ts':List Int}{ps:List Qd}{b b':F4}(ht:L4 ps.length ts' ts)(h:Bn b b'):Bn (Ih ts ps b) (Ih ts' ps b'):=fun j j0 j1=>by
 unfold Ih;rw[TG j0 j1,TG j0 j1];unfold R9 Ze;have hj:=h j j0 j1;split
 ·rename_i hn;have:=ht j j0 hn;split <;> split <;> omega
 ·exact hj
theorem CL{gs gs' ts ts':List Int}{ps:List Qd}{f f':F4}(hp:Jq ps)(hg:UR ps.length gs 2000)(hgg:L4 ps.length gs gs')(ht:L4 ps.length ts' ts)(hf:J6 f)(hs:f.sum<=10000000000)(hff:Bn f f'):Bn (Q6 gs ts ps f) (Q6 gs' ts' ps f'):=
 Iu ht (LO hp (Hv hp hg hf hs) (LD hg hgg hf hff))
theorem jg{ps:List Qd}{n:Int}{gs gs' ts ts':List (List Int)}{f f':F4}(h:OkT ps n gs ts f)(hgg:∀k:Nat,k<n->L4 ps.length (gs.getD k default) (gs'.getD k default))(htt:∀k:Nat,k<n->L4 ps.length (ts'.getD k default) (ts.getD k default))(hff:Bn f f'):∀k:Nat,k<=n->Bn (Yn ps gs ts f k) (Yn ps gs' ts' f' k)
 |0,_=>hff
 |k+1,hk=>by
  have h4:=h.s4;have h9:=h.hs;have Z7:=h.st k (by omega);have:=Z7.2;exact CL h.hp (h.rg k (by omega)) (hgg k (by omega)) (htt k (by omega)) Z7.1 (by omega) (jg h hgg htt hff k (by omega))
theorem ew{l l':List Int}{n:Nat}(hl:l.length=n)(hl':l'.length=n)(h:L4 n l l'):Bn (Qu l) (Qu l'):=fun j j0 j1=>by
 rw[<-po j0 j1,<-po j0 j1];by_cases hj:j<n
 ·exact h j j0 hj
 ·unfold nth;rw[List.getD_eq_getElem?_getD,List.getD_eq_getElem?_getD,List.getElem?_eq_none (by omega),List.getElem?_eq_none (by omega)];exact Int.le_refl _
theorem jY{rf:Qe}{Qa:List Int}{t:Ql}(hr:QD rf=true)(ht:Xz rf Qa t=true){k:Nat}(hk:k<=rf.seasons):Bn (QR rf Qa k) (Yn rf.Qb t.Qi t.Qj (Qu t.Qc) k)/\Bn (Yn rf.Qb t.Qi t.Qj (Qu t.Qc) k) (Om rf Qa k):=by
 obtain⟨ho,hl⟩:=fx hr ht;obtain⟨h1,h2,h3,h4⟩:=Sy ht;obtain⟨s1,s2⟩:=K4 h1;rw[List.length_map]at s1;have hg:∀s:Nat,s<rf.seasons->∀j:Int,0<=j->j<rf.Qb.length->nth (Jc rf) j<=nth (t.Qi.getD s default) j/\nth (t.Qi.getD s default) j<=nth (Mv rf) j:=fun s hs j j0 j1=>by
  obtain⟨g1,g2⟩:=K4 (h4 s (by omega) hs).1;rw[List.length_map]at g1;simp only[Int.toNat_natCast]at g1 g2;have:=g2 j j0 (by rw[g1];exact j1);rw[Zy j0 j1]at this;unfold Jc Mv;rw[Wn j0 j1,Wn j0 j1];exact this
 have hk2:∀s:Nat,s<rf.seasons->∀j:Int,0<=j->j<rf.Qb.length->nth (Ip rf (Qa.getD s 0)) j<=nth (t.Qj.getD s default) j/\nth (t.Qj.getD s default) j<=nth (JD rf (Qa.getD s 0)) j:=fun s hs j j0 j1=>by
  obtain⟨g1,g2⟩:=K4 (h4 s (by omega) hs).2;rw[Wg]at g1;simp only[Int.toNat_natCast]at g1 g2;have:=g2 j j0 (by rw[g1];exact j1);unfold Ip JD;rw[KC j0 (by rw[Wg];exact j1),KC j0 (by rw[Wg];exact j1)];exact this
 have Z7:L4 rf.Qb.length (U1 rf) t.Qc/\L4 rf.Qb.length t.Qc (N8 rf):=by
  have h:∀j:Int,0<=j->j<rf.Qb.length->nth (U1 rf) j<=nth t.Qc j/\nth t.Qc j<=nth (N8 rf) j:=fun j j0 j1=>by
   have:=s2 j j0 (by omega);rw[Zy j0 j1]at this;unfold U1 N8;rw[Wn j0 j1,Wn j0 j1];exact this
  exact⟨fun j a b=>(h j a b).1,fun j a b=>(h j a b).2⟩
 have eL:∀s:Nat,s<rf.seasons->(ZQ rf).getD s default=Jc rf/\(Oo rf).getD s default=Mv rf/\(ZF rf Qa).getD s default=JD rf (Qa.getD s 0)/\(MA rf Qa).getD s default=Ip rf (Qa.getD s 0):=fun s hs=>by
  refine⟨X2 (k:=(s:Int)) (by omega) hs,X2 (k:=(s:Int)) (by omega) hs, ?_, ?_⟩
  ·have:(ZF rf Qa).getD s default=JD rf (Qa.getD ((s:Int)).toNat 0):=X2 (k:=(s:Int)) (by omega) hs;simpa using this
  ·have:(MA rf Qa).getD s default=Ip rf (Qa.getD ((s:Int)).toNat 0):=X2 (k:=(s:Int)) (by omega) hs;simpa using this
 constructor
 ·refine jg (s5 Qa hr) (fun s hs=> ?_) (fun s hs=> ?_) (ew (by simp[U1]) hl Z7.1) k hk
  ·rw[(eL s hs).1];exact fun j a b=>(hg s hs j a b).1
  ·rw[(eL s hs).2.2.1];exact fun j a b=>(hk2 s hs j a b).2
 ·refine jg ho (fun s hs=> ?_) (fun s hs=> ?_) (ew hl (by simp[N8]) Z7.2) k hk
  ·rw[(eL s hs).2.1];exact fun j a b=>(hg s hs j a b).2
  ·rw[(eL s hs).2.2.2];exact fun j a b=>(hk2 s hs j a b).1
end Go.Proofs.Ytncjjangllkokaa

namespace Go.Proofs.Ytncjjangllkokaa
open Go Go.CE Go.RowKit
theorem kf{g g':Int->Int}(h:∀j:Int,0<=j->j<4->g j=g' j):yT g=yT g':=by
 unfold yT;rw[h 0 (by omega) (by omega),h 1 (by omega) (by omega),h 2 (by omega) (by omega),h 3 (by omega) (by omega)]
theorem kg{g g':Int->Int}:∀(k:Nat),(∀m:Int,0<=m->m<k->g m=g' m)->Xb 0 k g=Xb 0 k g'
 |0,_=>by rw[VT (by omega),VT (by omega)]
 |k+1,h=>by
  have ih:=kg k fun m h0 h1=>h m h0 (by omega)
  rw[show((k+1:Nat):Int)=(k:Int)+1 by omega,X3 (by omega),X3 (by omega),ih,h k (by omega) (by omega)]
def tU(ps ps':List Qd):Prop:=ps'.length=ps.length/\∀k:Int,0<=k->k<ps.length->(Ve ps' k).room=(Ve ps k).room/\(Ve ps' k).drift=(Ve ps k).drift/\(Ve ps' k).into=(Ve ps k).into
theorem LC{ps ps':List Qd}(h:tU ps ps'){gs:List Int}{f:F4}:JF gs ps' f=JF gs ps f:=by
 unfold JF;rw[h.1];refine kf fun j j0 j1=> ?_
 unfold X9;split
 ·rename_i hj;unfold ZI;rw[(h.2 j j0 hj).1]
 ·rfl
theorem LN{ps ps':List Qd}(h:tU ps ps'){b:F4}:dS ps' b=dS ps b:=by
 unfold dS;rw[h.1];refine kf fun j j0 j1=> ?_
 unfold Vg;have hs:Xb 0 ps.length (fun m=>if(Ve ps' m).into=j then WT ps' b m else 0)=Xb 0 ps.length (fun m=>if(Ve ps m).into=j then WT ps b m else 0):=kg _ fun m m0 m1=>by
  unfold WT;rw[(h.2 m m0 m1).2.1,(h.2 m m0 m1).2.2]
 rw[hs];split
 ·rename_i hj;unfold WT;rw[(h.2 j j0 hj).2.1]
 ·rfl
theorem Is{ps ps':List Qd}(h:tU ps ps'){ts:List Int}{b:F4}:Ih ts ps' b=Ih ts ps b:=by
 unfold Ih;rw[h.1]
theorem jf{ps ps':List Qd}(h:tU ps ps'){gs ts:List (List Int)}{f:F4}:∀k:Nat,Yn ps' gs ts f k=Yn ps gs ts f k
 |0=>rfl
 |k+1=>by
  show Q6 _ _ ps' _=Q6 _ _ ps _;unfold Q6;rw[jf h k,LC h,LN h,Is h]
section
variable {rf:Qe} {Qa:List Int} {season place:Int} (hr:QD rf=true) (hpl:QG rf Qa=true) (hse:0<=season/\season<rf.seasons) (hpc:0<=place/\place<rf.Qb.length)
include hr hpl hse hpc
end
structure OZ (g:Qd->Qd):Prop where
 ok:∀x,XR x=true->XR (g x)=true
 rm:∀x,(g x).room=x.room
 dr:∀x,(g x).drift=x.drift
 it:∀x,(g x).into=x.into
 ct:∀x,(g x).count=x.count
 op:∀x,WS (g x)=WS x
 sh:∀x,RE (g x)=RE x
section
variable {rf:Qe} {g:Qd->Qd} (hr:QD rf=true) (hg:OZ g)
include hg in
include hr hg in
include hg in
include hg in
include hr hg in
include hr hg in
include hr hg in
end
end Go.Proofs.Ytncjjangllkokaa

namespace Go.Proofs.Ytncjjangllkokaa
open Go Go.CE Go.RowKit
noncomputable section
set_option maxRecDepth 100000
def dP(f:Int->Int)(i:Int):List Int:=(Sv 0 i).map f
theorem Tw{f:Int->Int}{i:Int}(h:0<=i):((dP f i).length:Int)=i:=by simp[dP,Sv];omega
theorem dO{f:Int->Int}:dP f 1=[f 0]:=rfl
theorem Uw{f:Int->Int}{i:Int}(h:0<=i):dP f i++[f i]=dP f (i+1):=by unfold dP;rw[jU h,List.map_append];rfl
def sV(b:Bool)(rf:Qe)(k:Int):Int:=bif b then Yk rf.miss (Ve rf.Qb k).count else(Ve rf.Qb k).count
def gV(b:Bool)(rf:Qe)(k:Int):Int:=bif b then(Ve rf.Qb k).ghi else(Ve rf.Qb k).glo
def kV(b:Bool)(rf:Qe)(p k:Int):Int:=bif b then(Z0 p k (Ve rf.Qb k)).lo else(Z0 p k (Ve rf.Qb k)).hi
theorem yV{b:Bool}{rf:Qe}:dP (sV b rf) rf.Qb.length=bif b then N8 rf else U1 rf:=by
 cases b
 ·show _=(rf.Qb.map (Xw rf.miss)).map bL;rw[List.map_map,dw];rfl
 ·show _=(rf.Qb.map (Xw rf.miss)).map oF;rw[List.map_map,dw];rfl
theorem H5{b:Bool}{rf:Qe}:dP (gV b rf) rf.Qb.length=bif b then Mv rf else Jc rf:=by
 cases b
 ·show _=(rf.Qb.map Xl).map bL;rw[List.map_map,dw];rfl
 ·show _=(rf.Qb.map Xl).map oF;rw[List.map_map,dw];rfl
theorem Hl{b:Bool}{rf:Qe}{p:Int}:dP (kV b rf p) rf.Qb.length=bif b then Ip rf p else JD rf p:=by
 cases b
 ·show _=(Xk rf.Qb p).map oF;unfold Xk KP;rw[List.map_map];rfl
 ·show _=(Xk rf.Qb p).map bL;unfold Xk KP;rw[List.map_map];rfl
theorem Bo{rf:Qe}{p k:Int}(h:hasB p k=true):kV false rf p k=(Ve rf.Qb k).shi:=by unfold kV Z0;rw[h];rfl
theorem Bp{rf:Qe}{p k:Int}(h:hasB p k=false):kV false rf p k=(Ve rf.Qb k).ohi:=by unfold kV Z0;rw[h];rfl
theorem E1{rf:Qe}{g:Int->List Int}{rs:List RW}{s:Int}{m:Nat}(hl:∀k,(g k).length=rf.Qb.length)(h:rs=(Sv 0 s).map fun z=>⟨rf.Qb.length,g z⟩)(hm:m=rs.length)(hs:s=rf.seasons):QE m (Qg Zc rs)=QE (KP rf.seasons g).length (Qg QZ (KP rf.seasons g)):=by
 subst hs;have e:Qg Zc rs=Qg QZ (KP rf.seasons g):=by rw[h];exact rz _ _ _ fun k _=>hl k
 have e2:m=(KP rf.seasons g).length:=by rw[hm,h,KP,List.length_map,List.length_map]
 rw[e,e2]
theorem LA{rf:Qe}:(Jc rf).length=rf.Qb.length:=by simp[Jc]
theorem Iq{rf:Qe}{p:Int}:(JD rf p).length=rf.Qb.length:=by simp[JD,Wg]
theorem VK{rf:Qe}:(U1 rf).length=rf.Qb.length:=by simp[U1]
theorem dx{f:Int->RW}{s:Int}(h:0<=s):(((Sv 0 s).map f).length:Int)=s:=by simp[Sv];omega
def ZG(x_:Qd):Array Value:=#[.int .i64 x_.count,.int .i64 x_.room,.int .i64 x_.glo,.int .i64 x_.ghi,.int .i64 x_.drift,.int .i64 x_.into,.int .i64 x_.olo,.int .i64 x_.ohi,.int .i64 x_.slo,.int .i64 x_.shi,.int .i64 x_.goal,.int .i64 x_.worth]
def PB(x_:Qd):Array Value:=#[.int .i64 (if false=true then x_.slo else x_.olo),.int .i64 (if false=true then x_.shi else x_.ohi)]
def PA(x_:Qd):Array Value:=#[.int .i64 (if true=true then x_.slo else x_.olo),.int .i64 (if true=true then x_.shi else x_.ohi)]
def P8(rf:Qe):Array Value:=(Qg Qh rf.Qb)
def cj(Qa:List Int):Array Value:=#[.int .i64 (Qa.getD 0 default)]
def P9(rf:Qe):=(rf.Qb.getD 0 default)
def Jl(rf:Qe):=(P9 rf)
def U2(rf:Qe):=(Jl rf)
def cm(rf:Qe):Array Value:=#[.int .i64 (Qd.glo (Jl rf))]
def cl(rf:Qe):Array Value:=(Qg Q9 [Qd.glo (Jl rf)])
def u7(rf:Qe):Array Value:=#[.int .i64 (if false=true then Qd.shi (Jl rf)else Qd.ohi (Jl rf))]
def u6(rf:Qe):Array Value:=#[.int .i64 (if true=true then Qd.shi (Jl rf)else Qd.ohi (Jl rf))]
def u5(rf:Qe):Array Value:=(Qg Q9 [if false=true then Qd.shi (P9 rf)else Qd.ohi (P9 rf)])
def u4(rf:Qe):Array Value:=(Qg Q9 [if true=true then Qd.shi (P9 rf)else Qd.ohi (P9 rf)])
def TP(rf:Qe):Array Value:=(Qg Q9 [Qd.glo (U2 rf)])
def pU(rf:Qe):Array Value:=(Qg Q9 [if false=true then Qd.shi (U2 rf)else Qd.ohi (U2 rf)])
def pT(rf:Qe):Array Value:=(Qg Q9 [if true=true then Qd.shi (U2 rf)else Qd.ohi (U2 rf)])
def pS(rf:Qe):Array Value:=#[.agg (ZG (rf.Qb.getD 0 default)),.bool false]
def pR(rf:Qe):Array Value:=#[.agg (ZG (rf.Qb.getD 0 default)),.bool true]
def PD(rf:Qe)(Qa:List Int)(i:Int)(st:List Int)(sn:Nat):List Value:=[Qt 1 (QE Qa.length (Qg Q9 Qa)),.bool false,pA 2 0,pA 3 0,pA 4 0,.int .i64 i]
def Jn(rf:Qe)(Qa:List Int)(i:Int)(st:List Int)(sn:Nat):List Obj:=[Obj.cells #[Qt 1 (QE rf.Qb.length (Qg Qh rf.Qb)),.int .i64 rf.miss,.int .i64 rf.seasons] 24,Obj.cells #[.slice none 0 0,.slice none 0 0,.slice none 0 0] 42,.cells #[.slice (some ⟨5,0,none⟩) sn 1,.slice none 0 0,.slice none 0 0] 42 (0,0),.cells (Qg Q9 st) 3 (0,0)]
def PF:List Item:=([.code [1,1,0,1,0,0],.inLoop [1,1,0,1,0,0],.inBlock 0,.code [1,1,1]]).map (it (QT YP 34))
def Fw(B:Lo)(c0:CF)(rf:Qe)(Qa:List Int)(i:Int)(st:List Int)(sn:Nat):Prop:=∃dJ:Nat->Value,(∀t,X6 (dJ t))/\GoE YP B c0 XV 1 (QJ 34 104 (([1,2,3,6,7,8]:List Nat).zip (PD rf Qa i st sn)) dJ PF) (QH (Jn rf Qa i st sn)) (2+(Jn rf Qa i st sn).length) []
def KX(rf:Qe)(Qa:List Int)(i:Int)(st gs ks:List Int)(sn gn kn:Nat):List Value:=[Qt 1 (QE Qa.length (Qg Q9 Qa)),.bool false,pA 2 0,pA 3 0,pA 4 0,.int .i64 0,.slice (some ⟨6,0,none⟩) gn 1,.slice (some ⟨7,0,none⟩) kn 1,.int .i64 i]
def Kq(rf:Qe)(Qa:List Int)(i:Int)(st gs ks:List Int)(sn gn kn:Nat):List Obj:=[Obj.cells #[Qt 1 (QE rf.Qb.length (Qg Qh rf.Qb)),.int .i64 rf.miss,.int .i64 rf.seasons] 24,Obj.cells #[.slice none 0 0,.slice none 0 0,.slice none 0 0] 42,.cells #[.slice (some ⟨5,0,none⟩) sn 1,.slice none 0 0,.slice none 0 0] 42 (0,0),.cells (Qg Q9 st) 3 (0,0),.cells (Qg Q9 gs) 3 (0,0),.cells (Qg Q9 ks) 3 (0,0)]
def KZ:List Item:=([.code [1,1,1,0,1,0,0,1,0,0,1,0,1,0,0],.inLoop [1,1,1,0,1,0,0,1,0,0,1,0,1,0,0],.inBlock 4,.code [1,1,1,0,1,0,0,1,0,0,1,1],.inBlock 3,.code [1,1,1,0,1,0,0,1,1],.inLoop [1,1,1,0,1,0,0],.inBlock 2,.code [1,1,1,1]]).map (it (QT YP 34))
def Fv(B:Lo)(c0:CF)(rf:Qe)(Qa:List Int)(i:Int)(st gs ks:List Int)(sn gn kn:Nat):Prop:=∃dJ:Nat->Value,(∀t,X6 (dJ t))/\GoE YP B c0 XV 1 (QJ 34 104 (([1,2,3,6,7,10,11,12,13]:List Nat).zip (KX rf Qa i st gs ks sn gn kn)) dJ KZ) (QH (Kq rf Qa i st gs ks sn gn kn)) (2+(Kq rf Qa i st gs ks sn gn kn).length) []
def KW(rf:Qe)(Qa:List Int)(s i:Int)(st gs ks:List Int)(gr kr:List RW)(sn gn kn gm km:Nat):List Value:=[Qt 1 (QE Qa.length (Qg Q9 Qa)),.bool false,pA 2 0,pA 3 0,pA 4 0,.int .i64 s,.slice (some ⟨8,0,none⟩) gn 1,.slice (some ⟨9,0,none⟩) kn 1,.int .i64 i]
def Kp(rf:Qe)(Qa:List Int)(s i:Int)(st gs ks:List Int)(gr kr:List RW)(sn gn kn gm km:Nat):List Obj:=[Obj.cells #[Qt 1 (QE rf.Qb.length (Qg Qh rf.Qb)),.int .i64 rf.miss,.int .i64 rf.seasons] 24,Obj.cells #[.slice none 0 0,.slice none 0 0,.slice none 0 0] 42,.cells #[.slice (some ⟨5,0,none⟩) sn 1,.slice (some ⟨6,0,none⟩) gm 1,.slice (some ⟨7,0,none⟩) km 1] 42 (0,0),.cells (Qg Q9 st) 3 (0,0),.cells (Qg (Zp 1 Zc) gr) 25 (0,0),.cells (Qg (Zp 1 Zc) kr) 25 (0,0),.cells (Qg Q9 gs) 3 (0,0),.cells (Qg Q9 ks) 3 (0,0)]
def KY:List Item:=([.code [1,1,1,0,1,0,0,1,0,0,1,0,1,0,0],.inLoop [1,1,1,0,1,0,0,1,0,0,1,0,1,0,0],.inBlock 4,.code [1,1,1,0,1,0,0,1,0,0,1,1],.inBlock 3,.code [1,1,1,0,1,0,0,1,1],.inLoop [1,1,1,0,1,0,0],.inBlock 2,.code [1,1,1,1]]).map (it (QT YP 34))
def Fu(B:Lo)(c0:CF)(rf:Qe)(Qa:List Int)(s i:Int)(st gs ks:List Int)(gr kr:List RW)(sn gn kn gm km:Nat):Prop:=∃dJ:Nat->Value,(∀t,X6 (dJ t))/\GoE YP B c0 XV 1 (QJ 34 104 (([1,2,3,6,7,10,11,12,13]:List Nat).zip (KW rf Qa s i st gs ks gr kr sn gn kn gm km)) dJ KY) (QH (Kp rf Qa s i st gs ks gr kr sn gn kn gm km)) (2+(Kp rf Qa s i st gs ks gr kr sn gn kn gm km).length) []
def PC(rf:Qe)(Qa:List Int)(s:Int)(st:List Int)(gr kr:List RW)(sn gm km:Nat):List Value:=[Qt 1 (QE Qa.length (Qg Q9 Qa)),.bool false,pA 2 0,pA 3 0,pA 4 0,.int .i64 s]
def Jm(rf:Qe)(Qa:List Int)(s:Int)(st:List Int)(gr kr:List RW)(sn gm km:Nat):List Obj:=[Obj.cells #[Qt 1 (QE rf.Qb.length (Qg Qh rf.Qb)),.int .i64 rf.miss,.int .i64 rf.seasons] 24,Obj.cells #[.slice none 0 0,.slice none 0 0,.slice none 0 0] 42,.cells #[.slice (some ⟨5,0,none⟩) sn 1,.slice (some ⟨6,0,none⟩) gm 1,.slice (some ⟨7,0,none⟩) km 1] 42 (0,0),.cells (Qg Q9 st) 3 (0,0),.cells (Qg (Zp 1 Zc) gr) 25 (0,0),.cells (Qg (Zp 1 Zc) kr) 25 (0,0)]
def PE:List Item:=([.code [1,1,1,0,1,0,0],.inLoop [1,1,1,0,1,0,0],.inBlock 2,.code [1,1,1,1]]).map (it (QT YP 34))
def Ft(B:Lo)(c0:CF)(rf:Qe)(Qa:List Int)(s:Int)(st:List Int)(gr kr:List RW)(sn gm km:Nat):Prop:=∃dJ:Nat->Value,(∀t,X6 (dJ t))/\GoE YP B c0 XV 1 (QJ 34 104 (([1,2,3,6,7,10]:List Nat).zip (PC rf Qa s st gr kr sn gm km)) dJ PE) (QH (Jm rf Qa s st gr kr sn gm km)) (2+(Jm rf Qa s st gr kr sn gm km).length) []
theorem Fq(B:Lo)(rf:Qe)(Qa:List Int)(i:Int)(st:List Int)(sn:Nat)(Qn:Nat->Value):let e:=Jn rf Qa i st sn;let d:=rf.Qb;let a:=d.getD i.toNat default;let c:=st++[a.count];let b:=Qg Q9 c;landM (Qq YP (Q3 YP) J0 B 18 1 (QJ 34 104 (([1,2,3,6,7,8]:List Nat).zip (PD rf Qa i st sn)) Qn PF) (QH e) (2+e.length)
 [(4,Wo),(8,Qk.tidx i.toNat (ZG a)),(17,Qk.ZH (Hint.app b)),(21,VE (i+1))] 0 [] []) [1,2,3,6,7,8] [(2,KS.auto),(3,KS.auto),(4,KS.auto),(7,KS.cells [] b)] []=some ⟨34,104,PF,[],.run,none,PD rf Qa (i+1) c (sn+1),Jn rf Qa (i+1) c (sn+1),
 [XA 1 [] b b,wq (i+1)=i+1,o7 (Qg Q9 st) #[.int .i64 a.count] b sn (0+1) 8,Ue i d.length (P8 rf) Try.t54.size (ZG a),XU i (↑d.length:Int)=true]⟩:=by intro e d a c b;kernel_rfl
def uF(B:Lo)(rf:Qe)(Qa:List Int)(i:Int)(st:List Int)(sn:Nat)(Qn:Nat->Value):List Prop:=[XU i (↑rf.Qb.length:Int)=false]++([]:List Prop)
def uC(rf:Qe)(Qa:List Int)(i:Int)(st:List Int)(sn:Nat)(Qn:Nat->Value):Q5:=[(4,W8),(9,Wo),(17,Wo),(21,Qk.tidx 0 (ZG (rf.Qb.getD 0 default))),(31,Qk.tidx 0 (cj Qa))]
def uE(B:Lo)(rf:Qe)(Qa:List Int)(i:Int)(st:List Int)(sn:Nat)(Qn:Nat->Value):List Prop:=[XU 0 rf.seasons=true]++uF B rf Qa i st sn Qn
def kU(B:Lo)(rf:Qe)(Qa:List Int)(i:Int)(st:List Int)(sn:Nat)(Qn:Nat->Value):List Prop:=let a:=rf.Qb;[0=(↑0:Int)/\0<List.length Qa/\Array.extract (Qg Q9 Qa) (0*TypeInfo.size Try.t3) (0*TypeInfo.size Try.t3+TypeInfo.size Try.t3)=(cj Qa),0=(↑0:Int)/\0<List.length a/\Array.extract (P8 rf) (0*TypeInfo.size Try.t54) (0*TypeInfo.size Try.t54+TypeInfo.size Try.t54)=(ZG (a.getD 0 default)),XU 0 (↑a.length:Int)=true]++uE B rf Qa i st sn Qn
theorem Fp(B:Lo)(rf:Qe)(Qa:List Int)(i:Int)(st:List Int)(sn:Nat)(Qn:Nat->Value):let d:=Jn rf Qa i st sn;let c:=Qg Q9 st;let b:=U2 rf;let a:=[if true=true then b.shi else b.ohi];landM (Qq YP (Q3 YP) J0 B 44 1 (QJ 34 104 (([1,2,3,6,7,8]:List Nat).zip (PD rf Qa i st sn)) Qn PF) (QH d) (2+d.length)
 (uC rf Qa i st sn Qn++[(34,Qk.pure (.bool true) []),(35,Qk.pure (.agg (PA b)) [])]) 0 [] []) [1,2,3,6,7,10,11,12,13] [(2,KS.auto),(3,KS.auto),(4,KS.auto),(5,KS.cells [] c),(8,KS.cells [] (TP rf)),(10,KS.cells [] (pT rf))] []=some ⟨34,104,KZ,[],.run,none,KX rf Qa (1) (st) ([b.glo]) a (sn) (1) (1),Kq rf Qa (1) (st) ([b.glo]) a (sn) (1) (1),
 [XA 1 [] c c,XA 1 [] ((cm rf)) (cl rf),XA 1 [] ((u6 rf)) (u4 rf),Qz []/\Qx YP J0 61 (pR rf) (.agg (PA (rf.Qb.getD 0 default))),Qz []/\Qx YP J0 47 #[.int .i64 (Qa.getD 0 default),.int .i64 0] (.bool true)]++kU B rf Qa i st sn Qn⟩:=by intro d c b a;kernel_rfl
theorem Fo(B:Lo)(rf:Qe)(Qa:List Int)(i:Int)(st:List Int)(sn:Nat)(Qn:Nat->Value):let d:=Jn rf Qa i st sn;let c:=Qg Q9 st;let b:=U2 rf;let a:=[if false=true then b.shi else b.ohi];landM (Qq YP (Q3 YP) J0 B 44 1 (QJ 34 104 (([1,2,3,6,7,8]:List Nat).zip (PD rf Qa i st sn)) Qn PF) (QH d) (2+d.length)
 (uC rf Qa i st sn Qn++[(34,Qk.pure (.bool false) []),(35,Qk.pure (.agg (PB b)) [])]) 0 [] []) [1,2,3,6,7,10,11,12,13] [(2,KS.auto),(3,KS.auto),(4,KS.auto),(5,KS.cells [] c),(8,KS.cells [] (TP rf)),(10,KS.cells [] (pU rf))] []=some ⟨34,104,KZ,[],.run,none,KX rf Qa (1) (st) ([b.glo]) a (sn) (1) (1),Kq rf Qa (1) (st) ([b.glo]) a (sn) (1) (1),
 [XA 1 [] c c,XA 1 [] ((cm rf)) (cl rf),XA 1 [] ((u7 rf)) (u5 rf),Qz []/\Qx YP J0 61 (pS rf) (.agg (PB (rf.Qb.getD 0 default))),Qz []/\Qx YP J0 47 #[.int .i64 (Qa.getD 0 default),.int .i64 0] (.bool false)]++kU B rf Qa i st sn Qn⟩:=by intro d c b a;kernel_rfl
def kT(B:Lo)(rf:Qe)(Qa:List Int)(i:Int)(st gs ks:List Int)(sn gn kn:Nat)(Qn:Nat->Value):List Prop:=let a:=rf.Qb;[0=(↑0:Int)/\0<List.length Qa/\Array.extract (Qg Q9 Qa) (0*TypeInfo.size Try.t3) (0*TypeInfo.size Try.t3+TypeInfo.size Try.t3)=(cj Qa),Ue i a.length (P8 rf) Try.t54.size (ZG (a.getD i.toNat default)),XU i (↑a.length:Int)=true]++([]:List Prop)
def uB(rf:Qe)(Qa:List Int)(i:Int)(st gs ks:List Int)(sn gn kn:Nat)(Qn:Nat->Value):Q5:=[(4,Wo),(8,Qk.tidx i.toNat (ZG (rf.Qb.getD i.toNat default))),(18,Qk.tidx 0 (cj Qa))]
theorem Fm(B:Lo)(rf:Qe)(Qa:List Int)(i:Int)(st gs ks:List Int)(sn gn kn:Nat)(Qn:Nat->Value):let g:=Qg Q9 st;let f:=Kq rf Qa i st gs ks sn gn kn;let a:=rf.Qb.getD i.toNat default;let h:=Value.agg (PA a);let e:=gs++[a.glo];let c:=Qg Q9 e;let b:=ks++[if true=true then a.shi else a.ohi];let d:=Qg Q9 b;landM (Qq YP (Q3 YP) J0 B 20 1 (QJ 34 104 (([1,2,3,6,7,10,11,12,13]:List Nat).zip (KX rf Qa i st gs ks sn gn kn)) Qn KZ) (QH f) (2+f.length)
 (uB rf Qa i st gs ks sn gn kn Qn++[(21,Qk.pure (.bool true) []),(22,Qk.pure h []),(30,Qk.ZH (Hint.app c)),(34,Qk.ZH (Hint.app d)),(38,VE (i+1))]) 0 [] []) [1,2,3,6,7,10,11,12,13] [(2,KS.auto),(3,KS.auto),(4,KS.auto),(5,KS.cells [] g),(10,KS.cells [] c),(12,KS.cells [] d)] []=some ⟨34,104,KZ,[],.run,none,KX rf Qa (i+1) (st) e b (sn) (gn+1) (kn+1),Kq rf Qa (i+1) (st) e b (sn) (gn+1) (kn+1),
 [XA 1 [] g g,XA 1 [] c c,XA 1 [] d d,wq (i+1)=i+1,o7 (Qg Q9 ks) #[.int .i64 (if true=true then a.shi else a.ohi)] d kn (0+1) 8,o7 (Qg Q9 gs) #[.int .i64 a.glo] c gn (0+1) 8,Qz []/\Qx YP J0 61 #[.agg (ZG a),.bool true] h,Qz []/\Qx YP J0 47 #[.int .i64 (Qa.getD 0 default),.int .i64 i] (.bool true)]++kT B rf Qa i st gs ks sn gn kn Qn⟩:=by intro g f a h e c b d;kernel_rfl
theorem Fl(B:Lo)(rf:Qe)(Qa:List Int)(i:Int)(st gs ks:List Int)(sn gn kn:Nat)(Qn:Nat->Value):let g:=Qg Q9 st;let f:=Kq rf Qa i st gs ks sn gn kn;let a:=rf.Qb.getD i.toNat default;let h:=Value.agg (PB a);let e:=gs++[a.glo];let c:=Qg Q9 e;let b:=ks++[if false=true then a.shi else a.ohi];let d:=Qg Q9 b;landM (Qq YP (Q3 YP) J0 B 20 1 (QJ 34 104 (([1,2,3,6,7,10,11,12,13]:List Nat).zip (KX rf Qa i st gs ks sn gn kn)) Qn KZ) (QH f) (2+f.length)
 (uB rf Qa i st gs ks sn gn kn Qn++[(21,Qk.pure (.bool false) []),(22,Qk.pure h []),(30,Qk.ZH (Hint.app c)),(34,Qk.ZH (Hint.app d)),(38,VE (i+1))]) 0 [] []) [1,2,3,6,7,10,11,12,13] [(2,KS.auto),(3,KS.auto),(4,KS.auto),(5,KS.cells [] g),(10,KS.cells [] c),(12,KS.cells [] d)] []=some ⟨34,104,KZ,[],.run,none,KX rf Qa (i+1) (st) e b (sn) (gn+1) (kn+1),Kq rf Qa (i+1) (st) e b (sn) (gn+1) (kn+1),
 [XA 1 [] g g,XA 1 [] c c,XA 1 [] d d,wq (i+1)=i+1,o7 (Qg Q9 ks) #[.int .i64 (if false=true then a.shi else a.ohi)] d kn (0+1) 8,o7 (Qg Q9 gs) #[.int .i64 a.glo] c gn (0+1) 8,Qz []/\Qx YP J0 61 #[.agg (ZG a),.bool false] h,Qz []/\Qx YP J0 47 #[.int .i64 (Qa.getD 0 default),.int .i64 i] (.bool false)]++kT B rf Qa i st gs ks sn gn kn Qn⟩:=by intro g f a h e c b d;kernel_rfl
theorem Fk(B:Lo)(rf:Qe)(Qa:List Int)(i:Int)(st gs ks:List Int)(sn gn kn:Nat)(Qn:Nat->Value):let f:=[{n:=kn,l:=ks}];let e:=[{n:=gn,l:=gs}];let d:=Qg Q9 st;let c:=Kq rf Qa i st gs ks sn gn kn;let b:=Qg (Zp 1 Zc) [{n:=kn,l:=ks}];let a:=Qg (Zp 1 Zc) [{n:=gn,l:=gs}];landM (Qq YP (Q3 YP) J0 B 9 1 (QJ 34 104 (([1,2,3,6,7,10,11,12,13]:List Nat).zip (KX rf Qa i st gs ks sn gn kn)) Qn KZ) (QH c) (2+c.length)
 [(4,W8)] 0 [] []) [1,2,3,6,7,10] [(2,KS.auto),(3,KS.auto),(4,KS.auto),(5,KS.cells [] d),(9,KS.rows [] [6] [] a),(11,KS.rows [] [7] [] b)] [{k:=6,rs:=[],cs:=Qg Q9 gs},{k:=7,rs:=[],cs:=Qg Q9 ks}]=some ⟨34,104,PE,[],.run,none,PC rf Qa (1) (st) e f (sn) (1) (1),Jm rf Qa (1) (st) e f (sn) (1) (1),
 [XA 1 [] d d,XX 1 [] [(6,Fz.cs {k:=6,rs:=[],cs:=Qg Q9 gs})] [] #[.slice (some {block:=6,off:=0}) gn 1] a,Zu (Fz.rs {k:=6,rs:=[],cs:=Qg Q9 gs}) (Qg Q9 gs) (Fz.cs {k:=6,rs:=[],cs:=Qg Q9 gs}),XX 1 [] [(7,Fz.cs {k:=7,rs:=[],cs:=Qg Q9 ks})] [] #[.slice (some {block:=7,off:=0}) kn 1] b,Zu (Fz.rs {k:=7,rs:=[],cs:=Qg Q9 ks}) (Qg Q9 ks) (Fz.cs {k:=7,rs:=[],cs:=Qg Q9 ks}),XU i (↑rf.Qb.length:Int)=false]⟩:=by intro f e d c b a;kernel_rfl
def kS(B:Lo)(rf:Qe)(Qa:List Int)(s i:Int)(st gs ks:List Int)(gr kr:List RW)(sn gn kn gm km:Nat)(Qn:Nat->Value):List Prop:=let a:=rf.Qb;[Ue s Qa.length (Qg Q9 Qa) Try.t3.size #[.int .i64 (Qa.getD s.toNat default)],Ue i a.length (P8 rf) Try.t54.size (ZG (a.getD i.toNat default)),XU i (↑a.length:Int)=true]++([]:List Prop)
def uA(rf:Qe)(Qa:List Int)(s i:Int)(st gs ks:List Int)(gr kr:List RW)(sn gn kn gm km:Nat)(Qn:Nat->Value):Q5:=[(4,Wo),(8,Qk.tidx i.toNat (ZG (rf.Qb.getD i.toNat default))),(18,Qk.tidx s.toNat #[.int .i64 (Qa.getD s.toNat default)])]
theorem Fj(B:Lo)(rf:Qe)(Qa:List Int)(s i:Int)(st gs ks:List Int)(gr kr:List RW)(sn gn kn gm km:Nat)(Qn:Nat->Value):let h:=Qg Q9 st;let e:=Kp rf Qa s i st gs ks gr kr sn gn kn gm km;let d:=Zp 1 Zc;let a:=rf.Qb.getD i.toNat default;let j:=Value.agg (PA a);let g:=gs++[a.glo];let c:=Qg Q9 g;let b:=ks++[if true=true then a.shi else a.ohi];let f:=Qg Q9 b;landM (Qq YP (Q3 YP) J0 B 20 1 (QJ 34 104 (([1,2,3,6,7,10,11,12,13]:List Nat).zip (KW rf Qa s i st gs ks gr kr sn gn kn gm km)) Qn KY) (QH e) (2+e.length)
 (uA rf Qa s i st gs ks gr kr sn gn kn gm km Qn++[(21,Qk.pure (.bool true) []),(22,Qk.pure j []),(30,Qk.ZH (Hint.app c)),(34,Qk.ZH (Hint.app f)),(38,VE (i+1))]) 0 [] []) [1,2,3,6,7,10,11,12,13] [(2,KS.auto),(3,KS.auto),(4,KS.auto),(5,KS.cells [] h),(6,KS.rows [(1,1)] [] [] (Qg d gr)),(7,KS.rows [(1,1)] [] [] (Qg d kr)),(12,KS.cells [] c),(14,KS.cells [] f)] []=some ⟨34,104,KY,[],.run,none,KW rf Qa (s) (i+1) (st) g b (gr) (kr) (sn) (gn+1) (kn+1) (gm) (km),Kp rf Qa (s) (i+1) (st) g b (gr) (kr) (sn) (gn+1) (kn+1) (gm) (km),
 [XA 1 [] h h,XX 1 [(1,1)] [] [] (Qg d gr) (Qg d gr),XX 1 [(1,1)] [] [] (Qg d kr) (Qg d kr),XA 1 [] c c,XA 1 [] f f,wq (i+1)=i+1,o7 (Qg Q9 ks) #[.int .i64 (if true=true then a.shi else a.ohi)] f kn (0+1) 8,o7 (Qg Q9 gs) #[.int .i64 a.glo] c gn (0+1) 8,Qz []/\Qx YP J0 61 #[.agg (ZG a),.bool true] j,Qz []/\Qx YP J0 47 #[.int .i64 (Qa.getD s.toNat default),.int .i64 i] (.bool true)]++kS B rf Qa s i st gs ks gr kr sn gn kn gm km Qn⟩:=by intro h e d a j g c b f;kernel_rfl
theorem Fi(B:Lo)(rf:Qe)(Qa:List Int)(s i:Int)(st gs ks:List Int)(gr kr:List RW)(sn gn kn gm km:Nat)(Qn:Nat->Value):let h:=Qg Q9 st;let e:=Kp rf Qa s i st gs ks gr kr sn gn kn gm km;let d:=Zp 1 Zc;let a:=rf.Qb.getD i.toNat default;let j:=Value.agg (PB a);let g:=gs++[a.glo];let c:=Qg Q9 g;let b:=ks++[if false=true then a.shi else a.ohi];let f:=Qg Q9 b;landM (Qq YP (Q3 YP) J0 B 20 1 (QJ 34 104 (([1,2,3,6,7,10,11,12,13]:List Nat).zip (KW rf Qa s i st gs ks gr kr sn gn kn gm km)) Qn KY) (QH e) (2+e.length)
 (uA rf Qa s i st gs ks gr kr sn gn kn gm km Qn++[(21,Qk.pure (.bool false) []),(22,Qk.pure j []),(30,Qk.ZH (Hint.app c)),(34,Qk.ZH (Hint.app f)),(38,VE (i+1))]) 0 [] []) [1,2,3,6,7,10,11,12,13] [(2,KS.auto),(3,KS.auto),(4,KS.auto),(5,KS.cells [] h),(6,KS.rows [(1,1)] [] [] (Qg d gr)),(7,KS.rows [(1,1)] [] [] (Qg d kr)),(12,KS.cells [] c),(14,KS.cells [] f)] []=some ⟨34,104,KY,[],.run,none,KW rf Qa (s) (i+1) (st) g b (gr) (kr) (sn) (gn+1) (kn+1) (gm) (km),Kp rf Qa (s) (i+1) (st) g b (gr) (kr) (sn) (gn+1) (kn+1) (gm) (km),
 [XA 1 [] h h,XX 1 [(1,1)] [] [] (Qg d gr) (Qg d gr),XX 1 [(1,1)] [] [] (Qg d kr) (Qg d kr),XA 1 [] c c,XA 1 [] f f,wq (i+1)=i+1,o7 (Qg Q9 ks) #[.int .i64 (if false=true then a.shi else a.ohi)] f kn (0+1) 8,o7 (Qg Q9 gs) #[.int .i64 a.glo] c gn (0+1) 8,Qz []/\Qx YP J0 61 #[.agg (ZG a),.bool false] j,Qz []/\Qx YP J0 47 #[.int .i64 (Qa.getD s.toNat default),.int .i64 i] (.bool false)]++kS B rf Qa s i st gs ks gr kr sn gn kn gm km Qn⟩:=by intro h e d a j g c b f;kernel_rfl
theorem Fh(B:Lo)(rf:Qe)(Qa:List Int)(s i:Int)(st gs ks:List Int)(gr kr:List RW)(sn gn kn gm km:Nat)(Qn:Nat->Value):let j:=Qg Q9 st;let h:=some {block:=8,off:=0};let g:=some {block:=9,off:=0};let f:=Kp rf Qa s i st gs ks gr kr sn gn kn gm km;let e:=kr++[{n:=kn,l:=ks}];let d:=gr++[{n:=gn,l:=gs}];let c:=Zp 1 Zc;let b:=Qg c kr++#[.slice g kn 1];let a:=Qg c gr++#[.slice h gn 1];landM (Qq YP (Q3 YP) J0 B 9 1 (QJ 34 104 (([1,2,3,6,7,10,11,12,13]:List Nat).zip (KW rf Qa s i st gs ks gr kr sn gn kn gm km)) Qn KY) (QH f) (2+f.length)
 [(4,W8),(9,Qk.ZH (Hint.app a)),(14,Qk.ZH (Hint.app b)),(20,VE (s+1))] 0 [] []) [1,2,3,6,7,10] [(2,KS.auto),(3,KS.auto),(4,KS.auto),(5,KS.cells [] j),(11,KS.rows [(1,1)] [8] [] (Qg c d)),(13,KS.rows [(1,1)] [9] [] (Qg c e))] [{k:=8,rs:=[],cs:=Qg Q9 gs},{k:=9,rs:=[],cs:=Qg Q9 ks}]=some ⟨34,104,PE,[],.run,none,PC rf Qa (s+1) (st) d e (sn) (gm+1) (km+1),Jm rf Qa (s+1) (st) d e (sn) (gm+1) (km+1),
 [XA 1 [] j j,XX 1 [(1,1)] [(8,Fz.cs {k:=8,rs:=[],cs:=Qg Q9 gs})] [] a (Qg c d),Zu (Fz.rs {k:=8,rs:=[],cs:=Qg Q9 gs}) (Qg Q9 gs) (Fz.cs {k:=8,rs:=[],cs:=Qg Q9 gs}),XX 1 [(1,1)] [(9,Fz.cs {k:=9,rs:=[],cs:=Qg Q9 ks})] [] b (Qg c e),Zu (Fz.rs {k:=9,rs:=[],cs:=Qg Q9 ks}) (Qg Q9 ks) (Fz.cs {k:=9,rs:=[],cs:=Qg Q9 ks}),wq (s+1)=s+1,o7 ((Qg c kr)) #[.slice g kn 1] b km (0+1) 24,o7 ((Qg c gr)) #[.slice h gn 1] a gm (0+1) 24,XU i (↑rf.Qb.length:Int)=false]⟩:=by intro j h g f e d c b a;kernel_rfl
def uD(B:Lo)(rf:Qe)(Qa:List Int)(s:Int)(st:List Int)(gr kr:List RW)(sn gm km:Nat)(Qn:Nat->Value):List Prop:=[XU s rf.seasons=true]++([]:List Prop)
def u9(rf:Qe)(Qa:List Int)(s:Int)(st:List Int)(gr kr:List RW)(sn gm km:Nat)(Qn:Nat->Value):Q5:=[(3,Wo),(11,Wo),(15,Qk.tidx 0 (ZG (rf.Qb.getD 0 default))),(25,Qk.tidx s.toNat #[.int .i64 (Qa.getD s.toNat default)])]
def kR(B:Lo)(rf:Qe)(Qa:List Int)(s:Int)(st:List Int)(gr kr:List RW)(sn gm km:Nat)(Qn:Nat->Value):List Prop:=let a:=rf.Qb;[Ue s Qa.length (Qg Q9 Qa) Try.t3.size #[.int .i64 (Qa.getD s.toNat default)],0=(↑0:Int)/\0<List.length a/\Array.extract (P8 rf) (0*TypeInfo.size Try.t54) (0*TypeInfo.size Try.t54+TypeInfo.size Try.t54)=(ZG (a.getD 0 default)),XU 0 (↑a.length:Int)=true]++uD B rf Qa s st gr kr sn gm km Qn
theorem Fg(B:Lo)(rf:Qe)(Qa:List Int)(s:Int)(st:List Int)(gr kr:List RW)(sn gm km:Nat)(Qn:Nat->Value):let e:=Qg Q9 st;let d:=Jm rf Qa s st gr kr sn gm km;let c:=U2 rf;let b:=Zp 1 Zc;let a:=[if true=true then c.shi else c.ohi];landM (Qq YP (Q3 YP) J0 B 34 1 (QJ 34 104 (([1,2,3,6,7,10]:List Nat).zip (PC rf Qa s st gr kr sn gm km)) Qn PE) (QH d) (2+d.length)
 (u9 rf Qa s st gr kr sn gm km Qn++[(28,Qk.pure (.bool true) []),(29,Qk.pure (.agg (PA c)) [])]) 0 [] []) [1,2,3,6,7,10,11,12,13] [(2,KS.auto),(3,KS.auto),(4,KS.auto),(5,KS.cells [] e),(6,KS.rows [(1,1)] [] [] (Qg b gr)),(7,KS.rows [(1,1)] [] [] (Qg b kr)),(10,KS.cells [] (TP rf)),(12,KS.cells [] (pT rf))] []=some ⟨34,104,KY,[],.run,none,KW rf Qa (s) (1) (st) ([c.glo]) a (gr) (kr) (sn) (1) (1) (gm) (km),Kp rf Qa (s) (1) (st) ([c.glo]) a (gr) (kr) (sn) (1) (1) (gm) (km),
 [XA 1 [] e e,XX 1 [(1,1)] [] [] (Qg b gr) (Qg b gr),XX 1 [(1,1)] [] [] (Qg b kr) (Qg b kr),XA 1 [] ((cm rf)) (cl rf),XA 1 [] ((u6 rf)) (u4 rf),Qz []/\Qx YP J0 61 (pR rf) (.agg (PA (rf.Qb.getD 0 default))),Qz []/\Qx YP J0 47 #[.int .i64 (Qa.getD s.toNat default),.int .i64 0] (.bool true)]++kR B rf Qa s st gr kr sn gm km Qn⟩:=by intro e d c b a;kernel_rfl
theorem Cs(B:Lo)(rf:Qe)(Qa:List Int)(s:Int)(st:List Int)(gr kr:List RW)(sn gm km:Nat)(Qn:Nat->Value):let e:=Qg Q9 st;let d:=Jm rf Qa s st gr kr sn gm km;let c:=U2 rf;let b:=Zp 1 Zc;let a:=[if false=true then c.shi else c.ohi];landM (Qq YP (Q3 YP) J0 B 34 1 (QJ 34 104 (([1,2,3,6,7,10]:List Nat).zip (PC rf Qa s st gr kr sn gm km)) Qn PE) (QH d) (2+d.length)
 (u9 rf Qa s st gr kr sn gm km Qn++[(28,Qk.pure (.bool false) []),(29,Qk.pure (.agg (PB c)) [])]) 0 [] []) [1,2,3,6,7,10,11,12,13] [(2,KS.auto),(3,KS.auto),(4,KS.auto),(5,KS.cells [] e),(6,KS.rows [(1,1)] [] [] (Qg b gr)),(7,KS.rows [(1,1)] [] [] (Qg b kr)),(10,KS.cells [] (TP rf)),(12,KS.cells [] (pU rf))] []=some ⟨34,104,KY,[],.run,none,KW rf Qa (s) (1) (st) ([c.glo]) a (gr) (kr) (sn) (1) (1) (gm) (km),Kp rf Qa (s) (1) (st) ([c.glo]) a (gr) (kr) (sn) (1) (1) (gm) (km),
 [XA 1 [] e e,XX 1 [(1,1)] [] [] (Qg b gr) (Qg b gr),XX 1 [(1,1)] [] [] (Qg b kr) (Qg b kr),XA 1 [] ((cm rf)) (cl rf),XA 1 [] ((u7 rf)) (u5 rf),Qz []/\Qx YP J0 61 (pS rf) (.agg (PB (rf.Qb.getD 0 default))),Qz []/\Qx YP J0 47 #[.int .i64 (Qa.getD s.toNat default),.int .i64 0] (.bool false)]++kR B rf Qa s st gr kr sn gm km Qn⟩:=by intro e d c b a;kernel_rfl
theorem Cr(B:Lo)(rf:Qe)(Qa:List Int)(s:Int)(st:List Int)(gr kr:List RW)(sn gm km:Nat)(Qn:Nat->Value):let d:=Jm rf Qa s st gr kr sn gm km;let c:=Fz.cs {k:=5,rs:=[],cs:=Qg Q9 st};let b:=Fz.cs {k:=7,rs:=[1],cs:=Qg Zc kr};let a:=Fz.cs {k:=6,rs:=[1],cs:=Qg Zc gr};QQ (Qq YP (Q3 YP) J0 B 9 1 (QJ 34 104 (([1,2,3,6,7,10]:List Nat).zip (PC rf Qa s st gr kr sn gm km)) Qn PE) (QH d) (2+d.length)
 [(3,W8)] 0 [] []) [{k:=5,rs:=[],cs:=Qg Q9 st},{k:=6,rs:=[1],cs:=Qg Zc gr},{k:=7,rs:=[1],cs:=Qg Zc kr}]=some (.agg #[QE sn c,QE gm a,QE km b],
 [Zu (Fz.rs {k:=5,rs:=[],cs:=Qg Q9 st}) (Qg Q9 st) c,Zu (Fz.rs {k:=6,rs:=[1],cs:=Qg Zc gr}) (Qg (Zp 1 Zc) gr) a,Zu (Fz.rs {k:=7,rs:=[1],cs:=Qg Zc kr}) (Qg (Zp 1 Zc) kr) b,XU s rf.seasons=false]):=by intro d c b a;kernel_rfl
theorem Cq(B:Lo)(rf:Qe)(Qa:List Int):let c:=rf.Qb;let b:=U2 rf;let a:=c.getD 0 default;landM (Qq YP (Q3 YP) J0 B 27 1 (Qp YP 34 104 (([.agg (Q0 rf).toArray,Xr Qa,.bool false]).map (Q2 0 4))) XV 1
 [(8,Wo),(12,Qk.tidx 0 (ZG b))] 0 [] []) [1,2,3,6,7,8] [(1,KS.auto),(2,KS.auto),(3,KS.auto),(5,KS.cells [] (Qg Q9 [b.count]))] []=some ⟨34,104,PF,[],.run,none,PD rf Qa (1) ([b.count]) (1),Jn rf Qa (1) ([b.count]) (1),
 [XA 1 [] (#[.int .i64 a.count]) (Qg Q9 [a.count]),0=(↑0:Int)/\0<List.length c/\Array.extract (P8 rf) (0*TypeInfo.size Try.t54) (0*TypeInfo.size Try.t54+TypeInfo.size Try.t54)=(ZG a),XU 0 (↑c.length:Int)=true]⟩:=by intro c b a;kernel_rfl
set_option maxHeartbeats 4000000 in
theorem Fs(rf:Qe)(Qa:List Int)(hr:XT rf=true)(hp:QG rf Qa=true){B:Lo}(hJ:∀w,B.has w->J0 w){c0:CF}:∀m:Nat,(∀(i:Int) (st:List Int) (sn:Nat),10000+(rf.Qb.length-i.toNat)=m->∀(h0:1<=i) (h1:i<=rf.Qb.length) (hsn:sn=st.length) (Z7:st=dP (sV false rf) i),Fw B c0 rf Qa i st sn->EndsT YP B c0 (.agg #[Xr (U1 rf),QE (ZQ rf).length (Qg QZ (ZQ rf)),QE (ZF rf Qa).length (Qg QZ (ZF rf Qa))]))/\(∀(i:Int) (st gs ks:List Int) (sn gn kn:Nat),9000+(rf.Qb.length-i.toNat)=m->∀(h0:1<=i) (h1:i<=rf.Qb.length) (hsn:sn=st.length) (Z7:st=U1 rf) (Kx:gn=gs.length) (hg:gs=dP (gV false rf) i) (hkn:kn=ks.length) (hk:ks=dP (kV false rf (Qa.getD 0 0)) i),Fv B c0 rf Qa i st gs ks sn gn kn->EndsT YP B c0 (.agg #[Xr (U1 rf),QE (ZQ rf).length (Qg QZ (ZQ rf)),QE (ZF rf Qa).length (Qg QZ (ZF rf Qa))]))/\(∀(s i:Int) (st gs ks:List Int) (gr kr:List RW) (sn gn kn gm km:Nat),100*(rf.seasons-s).toNat+(rf.Qb.length-i.toNat)=m->∀(s0:1<=s) (s1:s<rf.seasons) (h0:1<=i) (h1:i<=rf.Qb.length) (hsn:sn=st.length) (Z7:st=U1 rf) (hgm:gm=gr.length) (hgr:gr=(Sv 0 s).map fun _=>⟨rf.Qb.length,Jc rf⟩) (hkm:km=kr.length) (hkr:kr=(Sv 0 s).map fun z=>⟨rf.Qb.length,JD rf (Qa.getD z.toNat 0)⟩) (Kx:gn=gs.length) (hg:gs=dP (gV false rf) i) (hkn:kn=ks.length) (hk:ks=dP (kV false rf (Qa.getD s.toNat 0)) i),Fu B c0 rf Qa s i st gs ks gr kr sn gn kn gm km->EndsT YP B c0 (.agg #[Xr (U1 rf),QE (ZQ rf).length (Qg QZ (ZQ rf)),QE (ZF rf Qa).length (Qg QZ (ZF rf Qa))]))/\(∀(s:Int) (st:List Int) (gr kr:List RW) (sn gm km:Nat),100*(rf.seasons-s).toNat+99=m->∀(s0:1<=s) (s1:s<=rf.seasons) (hsn:sn=st.length) (Z7:st=U1 rf) (hgm:gm=gr.length) (hgr:gr=(Sv 0 s).map fun _=>⟨rf.Qb.length,Jc rf⟩) (hkm:km=kr.length) (hkr:kr=(Sv 0 s).map fun z=>⟨rf.Qb.length,JD rf (Qa.getD z.toNat 0)⟩),Ft B c0 rf Qa s st gr kr sn gm km->EndsT YP B c0 (.agg #[Xr (U1 rf),QE (ZQ rf).length (Qg QZ (ZQ rf)),QE (ZF rf Qa).length (Qg QZ (ZF rf Qa))])):=by
 intro m0;induction m0 using Nat.strongRecOn with
 |_ m0 ih0=>
  refine⟨?_, ?_, ?_, ?_⟩
  ·intro i st sn hm0 h0 h1 hsn Z7 ⟨Qn,Ur,XM⟩;have Zm:=Qy (Q8 hr).1;have hsl0:=VK (rf:=rf);have hpq:0<=Qa.getD 0 default/\Qa.getD 0 default<=1000000000:=by have:=Zq hr hp 0;show 0<=Qa.getD 0 0/\Qa.getD 0 0<=1000000000;omega
   have hcc:0<=(rf.Qb.getD 0 default).count/\(rf.Qb.getD 0 default).count<=1000000:=(Xx ((Q8 hr).2 0 (by omega) (by omega)).1).1;have Pr:=(QM hp).1;have Zm:=Qy (Q8 hr).1;have hsl0:=VK (rf:=rf);have hpq:0<=Qa.getD 0 default/\Qa.getD 0 default<=1000000000:=by have:=Zq hr hp 0;show 0<=Qa.getD 0 0/\Qa.getD 0 0<=1000000000;omega
   have hcc:0<=(rf.Qb.getD 0 default).count/\(rf.Qb.getD 0 default).count<=1000000:=(Xx ((Q8 hr).2 0 (by omega) (by omega)).1).1;have hsl:(st.length:Int)=i:=by rw[Z7];exact Tw (by omega)
   by_cases q0:(i:Int)<((↑rf.Qb.length:Int))
   ·have hci:=(Xx ((Q8 hr).2 i (by omega) q0).1).1;exact((ih0 _ (by omega)).1 (i+1) (st++[Qd.count (rf.Qb.getD i.toNat default)]) (sn+1) rfl (by omega) (by omega) (by(simp only[List.length_append,List.length_cons,List.length_nil];omega)) (by(rw[Z7];exact Uw (by omega)))
     (XM.landM okF hJ Qf (Fq B rf Qa i st sn Qn)
     ⟨(QK (QN (fun x=>List.all_eq_true.1 (by rfl)))),⟨(Xy (by omega) (by omega)),⟨⟨(by(rw[Zf (z:=1) (fun _=>rfl)];first|omega|(simp;omega)|(simp_all;done))),(by unfold maxLen;omega),by omega,by first|exact WY|exact Vo rfl⟩,⟨⟨by omega,by omega,(Q4 (z:=12) (fun _=>rfl) (by omega))⟩,⟨(XF q0),trivial⟩⟩⟩⟩⟩ (by kernel_rfl) (by kernel_rfl))).cast (by rfl)
   ·have WB:Qz (uF B rf Qa i st sn Qn):=by
     exact⟨(XO (Int.not_lt.1 q0)),trivial⟩
    by_cases q1:(0:Int)<rf.seasons
    ·have JE:Qz (uE B rf Qa i st sn Qn):=by
      exact⟨(XF q1),WB⟩
     by_cases q2:(0:Int)<((↑rf.Qb.length:Int))
     ·have KE:Qz (kU B rf Qa i st sn Qn):=by
       have hse:st=U1 rf:=by rw[Z7,show i=rf.Qb.length by omega];exact yV (b:=false)
       exact⟨⟨by omega,by omega,(Q4 (z:=1) (fun _=>rfl) (by omega))⟩,⟨⟨by omega,by omega,(Q4 (z:=12) (fun _=>rfl) (by omega))⟩,⟨(XF q2),JE⟩⟩⟩
      cases q3:hasB (Qa.getD 0 default) 0 with
      |true=>
       have hse:st=U1 rf:=by rw[Z7,show i=rf.Qb.length by omega];exact yV (b:=false)
       exact((ih0 _ (by omega)).2.1 (1) (st) ([Qd.glo (rf.Qb.getD 0 default)]) ([if true=true then Qd.shi (rf.Qb.getD 0 default)else Qd.ohi (rf.Qb.getD 0 default)]) (sn) (1) (1) rfl (by omega) (by omega) (by with_reducible assumption) (by with_reducible assumption) (by rfl) (by rfl) (by rfl) (by(rw[dO];exact congrArg (fun z=>[z]) (Bo (k:=0) (by assumption)).symm))
        (XM.landM okF hJ Qf (Fp B rf Qa i st sn Qn)
        ⟨(QK (QN (fun x=>List.all_eq_true.1 (by rfl)))),⟨(Vx (by kernel_rfl)),⟨(Vx (by kernel_rfl)),⟨⟨trivial,Pn (rf.Qb.getD 0 default) (true)⟩,⟨⟨trivial,(by have t_:=oH (Qa.getD 0 default) (0) (by with_reducible assumption) (by omega);rw[q3]at t_;exact t_)⟩,KE⟩⟩⟩⟩⟩ (by kernel_rfl) (by kernel_rfl))).cast (by rfl)
      |false=>
       have hse:st=U1 rf:=by rw[Z7,show i=rf.Qb.length by omega];exact yV (b:=false)
       exact((ih0 _ (by omega)).2.1 (1) (st) ([Qd.glo (rf.Qb.getD 0 default)]) ([if false=true then Qd.shi (rf.Qb.getD 0 default)else Qd.ohi (rf.Qb.getD 0 default)]) (sn) (1) (1) rfl (by omega) (by omega) (by with_reducible assumption) (by with_reducible assumption) (by rfl) (by rfl) (by rfl) (by(rw[dO];exact congrArg (fun z=>[z]) (Bp (k:=0) (by assumption)).symm))
        (XM.landM okF hJ Qf (Fo B rf Qa i st sn Qn)
        ⟨(QK (QN (fun x=>List.all_eq_true.1 (by rfl)))),⟨(Vx (by kernel_rfl)),⟨(Vx (by kernel_rfl)),⟨⟨trivial,Pn (rf.Qb.getD 0 default) (false)⟩,⟨⟨trivial,(by have t_:=oH (Qa.getD 0 default) (0) (by with_reducible assumption) (by omega);rw[q3]at t_;exact t_)⟩,KE⟩⟩⟩⟩⟩ (by kernel_rfl) (by kernel_rfl))).cast (by rfl)
     ·exfalso
      (have Zm:=Qy (Q8 hr).1;omega)
    ·exfalso
     (have Zm:=Qy (Q8 hr).1;omega)
  ·intro i st gs ks sn gn kn hm0 h0 h1 hsn Z7 Kx hg hkn hk ⟨Qn,Ur,XM⟩;have Zm:=Qy (Q8 hr).1;have hsl0:=VK (rf:=rf);have hpq:0<=Qa.getD 0 default/\Qa.getD 0 default<=1000000000:=by have:=Zq hr hp 0;show 0<=Qa.getD 0 0/\Qa.getD 0 0<=1000000000;omega
   have hcc:0<=(rf.Qb.getD 0 default).count/\(rf.Qb.getD 0 default).count<=1000000:=(Xx ((Q8 hr).2 0 (by omega) (by omega)).1).1;have Pr:=(QM hp).1;have Zm:=Qy (Q8 hr).1;have hsl0:=VK (rf:=rf);have hpq:0<=Qa.getD 0 default/\Qa.getD 0 default<=1000000000:=by have:=Zq hr hp 0;show 0<=Qa.getD 0 0/\Qa.getD 0 0<=1000000000;omega
   have hcc:0<=(rf.Qb.getD 0 default).count/\(rf.Qb.getD 0 default).count<=1000000:=(Xx ((Q8 hr).2 0 (by omega) (by omega)).1).1;have hsl:st.length=rf.Qb.length:=by rw[Z7];exact VK
   have hgl:(gs.length:Int)=i:=by rw[hg];exact Tw (by omega)
   have hkl:(ks.length:Int)=i:=by rw[hk];exact Tw (by omega)
   by_cases q0:(i:Int)<((↑rf.Qb.length:Int))
   ·have hp3:Qz (kT B rf Qa i st gs ks sn gn kn Qn):=by
     exact⟨⟨by omega,by omega,(Q4 (z:=1) (fun _=>rfl) (by omega))⟩,⟨⟨by omega,by omega,(Q4 (z:=12) (fun _=>rfl) (by omega))⟩,⟨(XF q0),trivial⟩⟩⟩
    cases q1:hasB (Qa.getD 0 default) i with
    |true=>
     exact((ih0 _ (by omega)).2.1 (i+1) (st) (gs++[Qd.glo (rf.Qb.getD i.toNat default)]) (ks++[if true=true then Qd.shi (rf.Qb.getD i.toNat default)else Qd.ohi (rf.Qb.getD i.toNat default)]) (sn) (gn+1) (kn+1) rfl (by omega) (by omega) (by with_reducible assumption) (by with_reducible assumption) (by(simp only[List.length_append,List.length_cons,List.length_nil];omega)) (by(rw[hg];exact Uw (by omega))) (by(simp only[List.length_append,List.length_cons,List.length_nil];omega)) (by(rw[hk,<-Uw (by omega)];exact congrArg (fun z=>_++[z]) (Bo (by assumption)).symm))
      (XM.landM okF hJ Qf (Fm B rf Qa i st gs ks sn gn kn Qn)
      ⟨(QK (QN (fun x=>List.all_eq_true.1 (by rfl)))),⟨(QK (QN (fun x=>List.all_eq_true.1 (by rfl)))),⟨(QK (QN (fun x=>List.all_eq_true.1 (by rfl)))),⟨(Xy (by omega) (by omega)),⟨⟨(by(rw[Zf (z:=1) (fun _=>rfl)];first|omega|(simp;omega)|(simp_all;done))),(by unfold maxLen;omega),by omega,by first|exact WY|exact Vo rfl⟩,⟨⟨(by(rw[Zf (z:=1) (fun _=>rfl)];first|omega|(simp;omega)|(simp_all;done))),(by unfold maxLen;omega),by omega,by first|exact WY|exact Vo rfl⟩,⟨⟨trivial,Pn (rf.Qb.getD i.toNat default) (true)⟩,⟨⟨trivial,(by have t_:=oH (Qa.getD 0 default) (i) (by with_reducible assumption) (by omega);rw[q1]at t_;exact t_)⟩,hp3⟩⟩⟩⟩⟩⟩⟩⟩ (by kernel_rfl) (by kernel_rfl))).cast (by rfl)
    |false=>
     exact((ih0 _ (by omega)).2.1 (i+1) (st) (gs++[Qd.glo (rf.Qb.getD i.toNat default)]) (ks++[if false=true then Qd.shi (rf.Qb.getD i.toNat default)else Qd.ohi (rf.Qb.getD i.toNat default)]) (sn) (gn+1) (kn+1) rfl (by omega) (by omega) (by with_reducible assumption) (by with_reducible assumption) (by(simp only[List.length_append,List.length_cons,List.length_nil];omega)) (by(rw[hg];exact Uw (by omega))) (by(simp only[List.length_append,List.length_cons,List.length_nil];omega)) (by(rw[hk,<-Uw (by omega)];exact congrArg (fun z=>_++[z]) (Bp (by assumption)).symm))
      (XM.landM okF hJ Qf (Fl B rf Qa i st gs ks sn gn kn Qn)
      ⟨(QK (QN (fun x=>List.all_eq_true.1 (by rfl)))),⟨(QK (QN (fun x=>List.all_eq_true.1 (by rfl)))),⟨(QK (QN (fun x=>List.all_eq_true.1 (by rfl)))),⟨(Xy (by omega) (by omega)),⟨⟨(by(rw[Zf (z:=1) (fun _=>rfl)];first|omega|(simp;omega)|(simp_all;done))),(by unfold maxLen;omega),by omega,by first|exact WY|exact Vo rfl⟩,⟨⟨(by(rw[Zf (z:=1) (fun _=>rfl)];first|omega|(simp;omega)|(simp_all;done))),(by unfold maxLen;omega),by omega,by first|exact WY|exact Vo rfl⟩,⟨⟨trivial,Pn (rf.Qb.getD i.toNat default) (false)⟩,⟨⟨trivial,(by have t_:=oH (Qa.getD 0 default) (i) (by with_reducible assumption) (by omega);rw[q1]at t_;exact t_)⟩,hp3⟩⟩⟩⟩⟩⟩⟩⟩ (by kernel_rfl) (by kernel_rfl))).cast (by rfl)
   ·have hge:gs=Jc rf:=by rw[hg,show i=rf.Qb.length by omega];exact H5 (b:=false)
    have hke:ks=JD rf (Qa.getD 0 0):=by rw[hk,show i=rf.Qb.length by omega];exact Hl (b:=false)
    exact((ih0 _ (by omega)).2.2.2 (1) (st) ([{n:=gn,l:=gs}]) ([{n:=kn,l:=ks}]) (sn) (1) (1) rfl (by omega) (by omega) (by with_reducible assumption) (by with_reducible assumption) (by rfl) (by(rw[show gn=rf.Qb.length by omega,hge];rfl)) (by rfl) (by(rw[show kn=rf.Qb.length by omega,hke];rfl))
     (XM.landM okF hJ Qf (Fk B rf Qa i st gs ks sn gn kn Qn)
     (by exact⟨(QK (QN (fun x=>List.all_eq_true.1 (by rfl)))),⟨(by exact(ot (by exact⟨(.own (List.Mem.head _)),trivial⟩))),⟨(Zd (fun x=>List.all_eq_true.1 (by rfl))),⟨(by exact(ot (by exact⟨(.own (List.Mem.head _)),trivial⟩))),⟨(Zd (fun x=>List.all_eq_true.1 (by rfl))),⟨(XO (Int.not_lt.1 q0)),trivial⟩⟩⟩⟩⟩⟩) (by kernel_rfl) (by kernel_rfl))).cast (by rfl)
  ·intro s i st gs ks gr kr sn gn kn gm km hm0 s0 s1 h0 h1 hsn Z7 hgm hgr hkm hkr Kx hg hkn hk ⟨Qn,Ur,XM⟩;have Zm:=Qy (Q8 hr).1;have hsl0:=VK (rf:=rf);have hpq:0<=Qa.getD 0 default/\Qa.getD 0 default<=1000000000:=by have:=Zq hr hp 0;show 0<=Qa.getD 0 0/\Qa.getD 0 0<=1000000000;omega
   have hcc:0<=(rf.Qb.getD 0 default).count/\(rf.Qb.getD 0 default).count<=1000000:=(Xx ((Q8 hr).2 0 (by omega) (by omega)).1).1;have Pr:=(QM hp).1;have Zm:=Qy (Q8 hr).1;have hsl0:=VK (rf:=rf);have hpq:0<=Qa.getD 0 default/\Qa.getD 0 default<=1000000000:=by have:=Zq hr hp 0;show 0<=Qa.getD 0 0/\Qa.getD 0 0<=1000000000;omega
   have hcc:0<=(rf.Qb.getD 0 default).count/\(rf.Qb.getD 0 default).count<=1000000:=(Xx ((Q8 hr).2 0 (by omega) (by omega)).1).1;have hsl:st.length=rf.Qb.length:=by rw[Z7];exact VK
   have hgl:(gs.length:Int)=i:=by rw[hg];exact Tw (by omega)
   have hkl:(ks.length:Int)=i:=by rw[hk];exact Tw (by omega)
   have hgrl:(gr.length:Int)=s:=by rw[hgr];exact dx (by omega)
   have hkrl:(kr.length:Int)=s:=by rw[hkr];exact dx (by omega)
   have hps:0<=Qa.getD s.toNat default/\Qa.getD s.toNat default<=1000000000:=by have:=Zq hr hp s.toNat;show 0<=Qa.getD s.toNat 0/\Qa.getD s.toNat 0<=1000000000;omega
   have Pr:=(QM hp).1;by_cases q0:(i:Int)<((↑rf.Qb.length:Int))
   ·have hp4:Qz (kS B rf Qa s i st gs ks gr kr sn gn kn gm km Qn):=by
     exact⟨⟨by omega,by omega,(Q4 (z:=1) (fun _=>rfl) (by omega))⟩,⟨⟨by omega,by omega,(Q4 (z:=12) (fun _=>rfl) (by omega))⟩,⟨(XF q0),trivial⟩⟩⟩
    cases q1:hasB (Qa.getD s.toNat default) i with
    |true=>
     exact((ih0 _ (by omega)).2.2.1 (s) (i+1) (st) (gs++[Qd.glo (rf.Qb.getD i.toNat default)]) (ks++[if true=true then Qd.shi (rf.Qb.getD i.toNat default)else Qd.ohi (rf.Qb.getD i.toNat default)]) (gr) (kr) (sn) (gn+1) (kn+1) (gm) (km) rfl (by with_reducible assumption) (by with_reducible assumption) (by omega) (by omega) (by with_reducible assumption) (by with_reducible assumption) (by with_reducible assumption) (by with_reducible assumption) (by with_reducible assumption) (by with_reducible assumption) (by(simp only[List.length_append,List.length_cons,List.length_nil];omega)) (by(rw[hg];exact Uw (by omega))) (by(simp only[List.length_append,List.length_cons,List.length_nil];omega)) (by(rw[hk,<-Uw (by omega)];exact congrArg (fun z=>_++[z]) (Bo (by assumption)).symm))
      (XM.landM okF hJ Qf (Fj B rf Qa s i st gs ks gr kr sn gn kn gm km Qn)
      ⟨(QK (QN (fun x=>List.all_eq_true.1 (by rfl)))),⟨(by exact(Z8 (Wi (by exact fun _=>rfl)) (List.Mem.head _))),⟨(by exact(Z8 (Wi (by exact fun _=>rfl)) (List.Mem.head _))),⟨(QK (QN (fun x=>List.all_eq_true.1 (by rfl)))),⟨(QK (QN (fun x=>List.all_eq_true.1 (by rfl)))),⟨(Xy (by omega) (by omega)),⟨⟨(by(rw[Zf (z:=1) (fun _=>rfl)];first|omega|(simp;omega)|(simp_all;done))),(by unfold maxLen;omega),by omega,by first|exact WY|exact Vo rfl⟩,⟨⟨(by(rw[Zf (z:=1) (fun _=>rfl)];first|omega|(simp;omega)|(simp_all;done))),(by unfold maxLen;omega),by omega,by first|exact WY|exact Vo rfl⟩,⟨⟨trivial,Pn (rf.Qb.getD i.toNat default) (true)⟩,⟨⟨trivial,(by have t_:=oH (Qa.getD s.toNat default) (i) (by with_reducible assumption) (by omega);rw[q1]at t_;exact t_)⟩,hp4⟩⟩⟩⟩⟩⟩⟩⟩⟩⟩ (by kernel_rfl) (by kernel_rfl))).cast (by rfl)
    |false=>
     exact((ih0 _ (by omega)).2.2.1 (s) (i+1) (st) (gs++[Qd.glo (rf.Qb.getD i.toNat default)]) (ks++[if false=true then Qd.shi (rf.Qb.getD i.toNat default)else Qd.ohi (rf.Qb.getD i.toNat default)]) (gr) (kr) (sn) (gn+1) (kn+1) (gm) (km) rfl (by with_reducible assumption) (by with_reducible assumption) (by omega) (by omega) (by with_reducible assumption) (by with_reducible assumption) (by with_reducible assumption) (by with_reducible assumption) (by with_reducible assumption) (by with_reducible assumption) (by(simp only[List.length_append,List.length_cons,List.length_nil];omega)) (by(rw[hg];exact Uw (by omega))) (by(simp only[List.length_append,List.length_cons,List.length_nil];omega)) (by(rw[hk,<-Uw (by omega)];exact congrArg (fun z=>_++[z]) (Bp (by assumption)).symm))
      (XM.landM okF hJ Qf (Fi B rf Qa s i st gs ks gr kr sn gn kn gm km Qn)
      ⟨(QK (QN (fun x=>List.all_eq_true.1 (by rfl)))),⟨(by exact(Z8 (Wi (by exact fun _=>rfl)) (List.Mem.head _))),⟨(by exact(Z8 (Wi (by exact fun _=>rfl)) (List.Mem.head _))),⟨(QK (QN (fun x=>List.all_eq_true.1 (by rfl)))),⟨(QK (QN (fun x=>List.all_eq_true.1 (by rfl)))),⟨(Xy (by omega) (by omega)),⟨⟨(by(rw[Zf (z:=1) (fun _=>rfl)];first|omega|(simp;omega)|(simp_all;done))),(by unfold maxLen;omega),by omega,by first|exact WY|exact Vo rfl⟩,⟨⟨(by(rw[Zf (z:=1) (fun _=>rfl)];first|omega|(simp;omega)|(simp_all;done))),(by unfold maxLen;omega),by omega,by first|exact WY|exact Vo rfl⟩,⟨⟨trivial,Pn (rf.Qb.getD i.toNat default) (false)⟩,⟨⟨trivial,(by have t_:=oH (Qa.getD s.toNat default) (i) (by with_reducible assumption) (by omega);rw[q1]at t_;exact t_)⟩,hp4⟩⟩⟩⟩⟩⟩⟩⟩⟩⟩ (by kernel_rfl) (by kernel_rfl))).cast (by rfl)
   ·have hge:gs=Jc rf:=by rw[hg,show i=rf.Qb.length by omega];exact H5 (b:=false)
    have hke:ks=JD rf (Qa.getD s.toNat 0):=by rw[hk,show i=rf.Qb.length by omega];exact Hl (b:=false)
    exact((ih0 _ (by omega)).2.2.2 (s+1) (st) (gr++[{n:=gn,l:=gs}]) (kr++[{n:=kn,l:=ks}]) (sn) (gm+1) (km+1) rfl (by omega) (by omega) (by with_reducible assumption) (by with_reducible assumption) (by(simp only[List.length_append,List.length_cons,List.length_nil];omega)) (by(rw[jU (by omega),List.map_append,<-hgr,show gn=rf.Qb.length by omega,hge];rfl)) (by(simp only[List.length_append,List.length_cons,List.length_nil];omega)) (by(rw[jU (by omega),List.map_append,<-hkr,show kn=rf.Qb.length by omega,hke];rfl))
     (XM.landM okF hJ Qf (Fh B rf Qa s i st gs ks gr kr sn gn kn gm km Qn)
     (by exact⟨(QK (QN (fun x=>List.all_eq_true.1 (by rfl)))),⟨(by exact(iq (Z8 (Wi (by exact fun _=>rfl)) (List.Mem.head _)) (by exact⟨(.own (List.Mem.head _)),trivial⟩))),⟨(Zd (fun x=>List.all_eq_true.1 (by rfl))),⟨(by exact(iq (Z8 (Wi (by exact fun _=>rfl)) (List.Mem.head _)) (by exact⟨(.own (List.Mem.head _)),trivial⟩))),⟨(Zd (fun x=>List.all_eq_true.1 (by rfl))),⟨(Xy (by omega) (by omega)),⟨⟨(by(rw[Zf (z:=1) (fun _=>rfl)];first|omega|(simp;omega)|(simp_all;done))),(by unfold maxLen;omega),by omega,rfl⟩,⟨⟨(by(rw[Zf (z:=1) (fun _=>rfl)];first|omega|(simp;omega)|(simp_all;done))),(by unfold maxLen;omega),by omega,rfl⟩,⟨(XO (Int.not_lt.1 q0)),trivial⟩⟩⟩⟩⟩⟩⟩⟩⟩) (by kernel_rfl) (by kernel_rfl))).cast (by rfl)
  ·intro s st gr kr sn gm km hm0 s0 s1 hsn Z7 hgm hgr hkm hkr ⟨Qn,Ur,XM⟩;have Zm:=Qy (Q8 hr).1;have hsl0:=VK (rf:=rf);have hpq:0<=Qa.getD 0 default/\Qa.getD 0 default<=1000000000:=by have:=Zq hr hp 0;show 0<=Qa.getD 0 0/\Qa.getD 0 0<=1000000000;omega
   have hcc:0<=(rf.Qb.getD 0 default).count/\(rf.Qb.getD 0 default).count<=1000000:=(Xx ((Q8 hr).2 0 (by omega) (by omega)).1).1;have Pr:=(QM hp).1;have Zm:=Qy (Q8 hr).1;have hsl0:=VK (rf:=rf);have hpq:0<=Qa.getD 0 default/\Qa.getD 0 default<=1000000000:=by have:=Zq hr hp 0;show 0<=Qa.getD 0 0/\Qa.getD 0 0<=1000000000;omega
   have hcc:0<=(rf.Qb.getD 0 default).count/\(rf.Qb.getD 0 default).count<=1000000:=(Xx ((Q8 hr).2 0 (by omega) (by omega)).1).1;have hsl:st.length=rf.Qb.length:=by rw[Z7];exact VK
   have hgrl:(gr.length:Int)=s:=by rw[hgr];exact dx (by omega)
   have hkrl:(kr.length:Int)=s:=by rw[hkr];exact dx (by omega)
   have hps:0<=Qa.getD s.toNat default/\Qa.getD s.toNat default<=1000000000:=by have:=Zq hr hp s.toNat;show 0<=Qa.getD s.toNat 0/\Qa.getD s.toNat 0<=1000000000;omega
   have Pr:=(QM hp).1;by_cases q0:(s:Int)<rf.seasons
   ·have hp5:Qz (uD B rf Qa s st gr kr sn gm km Qn):=by
     exact⟨(XF q0),trivial⟩
    by_cases q1:(0:Int)<((↑rf.Qb.length:Int))
    ·have hp6:Qz (kR B rf Qa s st gr kr sn gm km Qn):=by
      exact⟨⟨by omega,by omega,(Q4 (z:=1) (fun _=>rfl) (by omega))⟩,⟨⟨by omega,by omega,(Q4 (z:=12) (fun _=>rfl) (by omega))⟩,⟨(XF q1),hp5⟩⟩⟩
     cases q2:hasB (Qa.getD s.toNat default) 0 with
     |true=>
      exact((ih0 _ (by omega)).2.2.1 (s) (1) (st) ([Qd.glo (rf.Qb.getD 0 default)]) ([if true=true then Qd.shi (rf.Qb.getD 0 default)else Qd.ohi (rf.Qb.getD 0 default)]) (gr) (kr) (sn) (1) (1) (gm) (km) rfl (by with_reducible assumption) (by with_reducible assumption) (by omega) (by omega) (by with_reducible assumption) (by with_reducible assumption) (by with_reducible assumption) (by with_reducible assumption) (by with_reducible assumption) (by with_reducible assumption) (by rfl) (by rfl) (by rfl) (by(rw[dO];exact congrArg (fun z=>[z]) (Bo (k:=0) (by assumption)).symm))
       (XM.landM okF hJ Qf (Fg B rf Qa s st gr kr sn gm km Qn)
       ⟨(QK (QN (fun x=>List.all_eq_true.1 (by rfl)))),⟨(by exact(Z8 (Wi (by exact fun _=>rfl)) (List.Mem.head _))),⟨(by exact(Z8 (Wi (by exact fun _=>rfl)) (List.Mem.head _))),⟨(Vx (by kernel_rfl)),⟨(Vx (by kernel_rfl)),⟨⟨trivial,Pn (rf.Qb.getD 0 default) (true)⟩,⟨⟨trivial,(by have t_:=oH (Qa.getD s.toNat default) (0) (by with_reducible assumption) (by omega);rw[q2]at t_;exact t_)⟩,hp6⟩⟩⟩⟩⟩⟩⟩ (by kernel_rfl) (by kernel_rfl))).cast (by rfl)
     |false=>
      exact((ih0 _ (by omega)).2.2.1 (s) (1) (st) ([Qd.glo (rf.Qb.getD 0 default)]) ([if false=true then Qd.shi (rf.Qb.getD 0 default)else Qd.ohi (rf.Qb.getD 0 default)]) (gr) (kr) (sn) (1) (1) (gm) (km) rfl (by with_reducible assumption) (by with_reducible assumption) (by omega) (by omega) (by with_reducible assumption) (by with_reducible assumption) (by with_reducible assumption) (by with_reducible assumption) (by with_reducible assumption) (by with_reducible assumption) (by rfl) (by rfl) (by rfl) (by(rw[dO];exact congrArg (fun z=>[z]) (Bp (k:=0) (by assumption)).symm))
       (XM.landM okF hJ Qf (Cs B rf Qa s st gr kr sn gm km Qn)
       ⟨(QK (QN (fun x=>List.all_eq_true.1 (by rfl)))),⟨(by exact(Z8 (Wi (by exact fun _=>rfl)) (List.Mem.head _))),⟨(by exact(Z8 (Wi (by exact fun _=>rfl)) (List.Mem.head _))),⟨(Vx (by kernel_rfl)),⟨(Vx (by kernel_rfl)),⟨⟨trivial,Pn (rf.Qb.getD 0 default) (false)⟩,⟨⟨trivial,(by have t_:=oH (Qa.getD s.toNat default) (0) (by with_reducible assumption) (by omega);rw[q2]at t_;exact t_)⟩,hp6⟩⟩⟩⟩⟩⟩⟩ (by kernel_rfl) (by kernel_rfl))).cast (by rfl)
    ·exfalso
     (have Zm:=Qy (Q8 hr).1;omega)
   ·exact(GoE.endsT okF hJ Qf XM (Cr B rf Qa s st gr kr sn gm km Qn)
     ⟨(Zd (fun x=>List.all_eq_true.1 (by rfl))),⟨(Sn (Wi (by exact fun _=>rfl)) (List.Mem.head _)),⟨(Sn (Wi (by exact fun _=>rfl)) (List.Mem.head _)),⟨(XO (Int.not_lt.1 q0)),trivial⟩⟩⟩⟩).cast (by(rw[show QE gm (Qg Zc gr)=QE (ZQ rf).length (Qg QZ (ZQ rf))from E1 (g:=fun _=>Jc rf) (fun _=>LA) hgr hgm (by omega),show QE km (Qg Zc kr)=QE (ZF rf Qa).length (Qg QZ (ZF rf Qa))from E1 (g:=fun z=>JD rf (Qa.getD z.toNat 0)) (fun _=>Iq) hkr hkm (by omega),hsn,Z7]))
set_option maxHeartbeats 4000000 in
theorem ID(rf:Qe)(Qa:List Int)(hr:XT rf=true)(hp:QG rf Qa=true){B:Lo}(hJ:∀w,B.has w->J0 w):EndsT YP B (Qp YP 34 104 (([.agg (Q0 rf).toArray,Xr Qa,.bool false]).map (Q2 0 4))) (.agg #[Xr (U1 rf),QE (ZQ rf).length (Qg QZ (ZQ rf)),QE (ZF rf Qa).length (Qg QZ (ZF rf Qa))]):=by
 have Zm:=Qy (Q8 hr).1;have hsl0:=VK (rf:=rf);have hpq:0<=Qa.getD 0 default/\Qa.getD 0 default<=1000000000:=by have:=Zq hr hp 0;show 0<=Qa.getD 0 0/\Qa.getD 0 0<=1000000000;omega
 have hcc:0<=(rf.Qb.getD 0 default).count/\(rf.Qb.getD 0 default).count<=1000000:=(Xx ((Q8 hr).2 0 (by omega) (by omega)).1).1;have Pr:=(QM hp).1;by_cases q0:(0:Int)<((↑rf.Qb.length:Int))
 ·exact((Fs rf Qa hr hp hJ _).1 (1) ([Qd.count (rf.Qb.getD 0 default)]) (1) rfl (by omega) (by omega) (by rfl) (by rfl)
   (GoE.start.landM okF hJ Qf (Cq B rf Qa)
   ⟨(Vx (by kernel_rfl)),⟨⟨by omega,by omega,(Q4 (z:=12) (fun _=>rfl) (by omega))⟩,⟨(XF q0),trivial⟩⟩⟩ (by kernel_rfl) (by kernel_rfl))).cast (by rfl)
 ·exfalso
  (have Zm:=Qy (Q8 hr).1;omega)
theorem NO(rf:Qe)(Qa:List Int)(hr:XT rf=true)(hp:QG rf Qa=true):Qx YP J0 34 #[.agg (Q0 rf).toArray,Xr Qa,.bool false] (.agg #[Xr (U1 rf),QE (ZQ rf).length (Qg QZ (ZQ rf)),QE (ZF rf Qa).length (Qg QZ (ZF rf Qa))]):=
 Xn (ts:=[.agg (Q0 rf).toArray,Xr Qa,.bool false]) Za (c0:=Qp YP 34 104 (([.agg (Q0 rf).toArray,Xr Qa,.bool false]).map (Q2 0 4))) (by kernel_rfl) (by kernel_rfl) fun B hJ=>ID rf Qa hr hp hJ
end
end Go.Proofs.Ytncjjangllkokaa

namespace Go.Proofs.Ytncjjangllkokaa
open Go Go.CE Go.RowKit
set_option maxRecDepth 100000
theorem qg{rf:Qe}{gs ts:List (List Int)}{f:F4}{s:Int}(h4:rf.Qb.length<=4)(s0:0<=s)(s1:s<rf.seasons):((XB rf.seasons rf.Qb gs ts f).getD s.toNat default).length=rf.Qb.length:=by
 rw[show(XB rf.seasons rf.Qb gs ts f).getD s.toNat default=iD rf.Qb gs ts f s from X2 s0 s1,k9 h4]
theorem Ga{rf:Qe}{gs ts:List (List Int)}{f:F4}{s i:Int}(h4:rf.Qb.length<=4)(s0:0<=s)(s1:s<rf.seasons)(i0:0<=i)(i1:i<rf.Qb.length):((XB rf.seasons rf.Qb gs ts f).getD s.toNat default).getD i.toNat default=(Yn rf.Qb gs ts f (s.toNat+1)).at i:=by
 rw[show(XB rf.seasons rf.Qb gs ts f).getD s.toNat default=iD rf.Qb gs ts f s from X2 s0 s1,r3 h4 i0 i1]
end Go.Proofs.Ytncjjangllkokaa

namespace Go.Proofs.Ytncjjangllkokaa
open Go Go.CE Go.RowKit
set_option maxRecDepth 100000
end Go.Proofs.Ytncjjangllkokaa

namespace Go.Proofs.Ytncjjangllkokaa
open Go Go.CE Go.RowKit
theorem ru{ss:List Span}{g:Span->Int}(h:∀s∈ss,s.lo<=g s/\g s<=s.hi):Pk (ss.map g) ss=true:=by
 unfold Pk bW;simp only[YB,decide_eq_true_iff,List.length_map,true_and,List.all_eq_true];intro k hk;unfold Sv at hk;obtain⟨m,hm,rfl⟩:=List.mem_map.1 hk;have hm':=List.mem_range.1 hm;have h0:0<=0+(m:Int):=by omega
 have h1:0+(m:Int)<ss.length:=by omega
 have e:(ss.map g).getD (0+(m:Int)).toNat default=g (ss.getD (0+(m:Int)).toNat default):=KC h0 h1;rw[e];exact VL.2 (h _ (H4 h0 h1))
theorem qF{rf:Qe}(hr:QD rf=true){x:Qd}(hx:x∈rf.Qb):XR x=true:=by
 obtain⟨i,h0,h1,rfl⟩:=vP hx;exact((Q7 hr).2 i h0 h1).1
theorem Eu{rf:Qe}(hr:QD rf=true):∀s∈rf.Qb.map (Xw rf.miss),s.lo<=s.hi:=fun s hs=>by
 obtain⟨x,hx,rfl⟩:=List.mem_map.1 hs;have hp:=Vj (qF hr hx);have Zm:=Qy (Q7 hr).1;exact(Lj (a:=x.count) (r:=rf.miss) (by omega) (by omega)).1
theorem LB{rf:Qe}(hr:QD rf=true):∀s∈rf.Qb.map Xl,s.lo<=s.hi:=fun s hs=>by
 obtain⟨x,hx,rfl⟩:=List.mem_map.1 hs;have hp:=Vj (qF hr hx);exact hp.2.2.2.2.1.2.1
theorem Iv{rf:Qe}(hr:QD rf=true){p:Int}:∀s∈Xk rf.Qb p,s.lo<=s.hi:=fun s hs=>by
 obtain⟨i,h0,h1,rfl⟩:=vP hs;rw[Wg]at h1;rw[KO h0 h1];exact(TF hr h0 h1).2.1
theorem bF{rf:Qe}{Qa:List Int}(hr:QD rf=true):Xz rf Qa ⟨U1 rf,ZQ rf,ZF rf Qa⟩=true:=by
 have Zm:=Qy (Q7 hr).1;have e1:((ZQ rf).length:Int)=rf.seasons:=by rw[ZQ,Zo];omega
 have e2:((ZF rf Qa).length:Int)=rf.seasons:=by rw[ZF,Zo];omega
 unfold Xz Ss;simp only[YB,decide_eq_true_iff,List.all_eq_true];refine⟨ru fun s hs=>⟨Int.le_refl _,Eu hr s hs⟩,e1,e2,fun s hs=> ?_⟩;unfold Sv at hs;obtain⟨m,hm,rfl⟩:=List.mem_map.1 hs;have hm':=List.mem_range.1 hm;have h0:0<=0+(m:Int):=by omega
 have h1:0+(m:Int)<rf.seasons:=by omega
 unfold k8;rw[show(ZQ rf).getD (0+(m:Int)).toNat default=Jc rf from X2 h0 h1,show(ZF rf Qa).getD (0+(m:Int)).toNat default=JD rf (Qa.getD (0+(m:Int)).toNat 0)from X2 h0 h1,YB];exact⟨ru fun s hs=>⟨Int.le_refl _,LB hr s hs⟩,ru fun s hs=>⟨Iv hr s hs,Int.le_refl _⟩⟩
theorem S4{f:F4}{ps:List Qd}:∀(n:Nat) (i:Int),0<=i->(ps.length-i).toNat=n->
 ((X4 f (ps.drop i.toNat) i).1=true->i<=(X4 f (ps.drop i.toNat) i).2.1/\(X4 f (ps.drop i.toNat) i).2.1<ps.length/\0<(X4 f (ps.drop i.toNat) i).2.2/\(X4 f (ps.drop i.toNat) i).2.2=(Ve ps (X4 f (ps.drop i.toNat) i).2.1).goal-f.at (X4 f (ps.drop i.toNat) i).2.1/\∀k,i<=k->k<(X4 f (ps.drop i.toNat) i).2.1->(Ve ps k).goal<=f.at k)/\
 ((X4 f (ps.drop i.toNat) i).1=false->∀k,i<=k->k<ps.length->(Ve ps k).goal<=f.at k)
 |0,i,h0,hn=>by
  rw[kx (l:=ps) (i:=i) (by omega)];exact⟨fun h=>Bool.noConfusion h,fun _ k k0 k1=>by omega⟩
 |n+1,i,h0,hn=>by
  have ih:=S4 (f:=f) (ps:=ps) n (i+1) (by omega) (by omega);rw[UX (l:=ps) h0 (by omega)];by_cases hd:0<(ps.getD i.toNat default).goal-f.at i
  ·rw[decide_eq_true hd,cond_true];exact⟨fun _=>⟨Int.le_refl _,(show i<ps.length by omega),hd,rfl,fun k k0 k1=>by simp only at k1;omega⟩,fun h=>Bool.noConfusion h⟩
  ·rw[decide_eq_false hd,cond_false];have hi:(Ve ps i).goal<=f.at i:=by show(ps.getD i.toNat default).goal<=_;omega
   refine⟨fun h=> ?_,fun h k k0 k1=> ?_⟩
   ·obtain⟨a,b,c,d,e⟩:=ih.1 h;refine⟨by omega,b,c,d,fun k k0 k1=> ?_⟩;by_cases ek:k=i
    ·subst ek;exact hi
    ·exact e k (by omega) k1
   ·by_cases ek:k=i
    ·subst ek;exact hi
    ·exact ih.2 h k (by omega) k1
theorem pq{rf:Qe}{Qa:List Int}(h:(ZR rf Qa).1=true):0<=(ZR rf Qa).2.1/\(ZR rf Qa).2.1<rf.Qb.length/\0<(ZR rf Qa).2.2/\(ZR rf Qa).2.2=(Ve rf.Qb (ZR rf Qa).2.1).goal-(QR rf Qa rf.seasons.toNat).at (ZR rf Qa).2.1/\∀k:Int,0<=k->k<(ZR rf Qa).2.1->(Ve rf.Qb k).goal<=(QR rf Qa rf.seasons.toNat).at k:=
 (S4 (f:=QR rf Qa rf.seasons.toNat) (ps:=rf.Qb) _ 0 (Int.le_refl _) rfl).1 h
theorem tR{rf:Qe}{Qa:List Int}(h:(ZR rf Qa).1=false):∀k:Int,0<=k->k<rf.Qb.length->(Ve rf.Qb k).goal<=(QR rf Qa rf.seasons.toNat).at k:=
 (S4 (f:=QR rf Qa rf.seasons.toNat) (ps:=rf.Qb) _ 0 (Int.le_refl _) rfl).2 h
end Go.Proofs.Ytncjjangllkokaa

namespace Go.Proofs.Ytncjjangllkokaa
open Go Go.CE Go.RowKit
section
variable {rf:Qe} {k:Int} (k0:0<=k) (k1:k<rf.Qb.length)
include k0 k1
theorem Ht:nth (Jc rf) k=(Ve rf.Qb k).glo:=Wn k0 k1
theorem Ev:nth (U1 rf) k=(Ve rf.Qb k).count:=Wn k0 k1
theorem Er{p:Int}:nth (JD rf p) k=(Z0 p k (Ve rf.Qb k)).hi:=by
 unfold JD;rw[KC k0 (by rw[Wg];exact k1),KO k0 k1];rfl
end
section
variable {rf:Qe} {place l l':Int} {Qa:List Int} (hr:XT rf=true) (p0:0<=place) (p1:place<rf.Qb.length) (h0:0<=l) (hl:l<=l') (h1:l'<=1000000)
theorem nI{m m':Int}(p0:0<=place)(p1:place<rf.Qb.length):tU (XG rf place m).Qb (XG rf place m').Qb:=⟨by rw[Zi,Zi],fun k k0 k1=>by
 rw[Zi]at k1;have a:=JW (most:=m) p0 p1 k0 k1;have b:=JW (most:=m') p0 p1 k0 k1;show(Ve (XG rf place m').Qb k).room=(Ve (XG rf place m).Qb k).room/\_;rw[show Ve (XG rf place m').Qb k=_ from b,show Ve (XG rf place m).Qb k=_ from a];split <;> exact⟨rfl,rfl,rfl⟩⟩
include hr p0 p1 h0 hl h1
theorem GQ{k:Nat}(hk:k<=rf.seasons):Bn (QR (XG rf place l') Qa k) (QR (XG rf place l) Qa k):=by
 have hW:=Sd (most:=l') hr p0 p1 ⟨by omega,h1⟩;unfold QR;rw[<-jf (nI (m:=l') (m':=l) p0 p1) k];have at':∀j:Int,0<=j->j<(XG rf place l').Qb.length->Ve (XG rf place l').Qb j=(if j=place then Y1 (Ve rf.Qb j) l' else Ve rf.Qb j)/\Ve (XG rf place l).Qb j=(if j=place then Y1 (Ve rf.Qb j) l else Ve rf.Qb j)/\j<(XG rf place l).Qb.length:=fun j j0 j1=>by
  rw[Zi]at j1;exact⟨JW p0 p1 j0 j1,JW p0 p1 j0 j1,by rw[Zi];exact j1⟩
 rw[jf (nI (m:=l') (m':=l) p0 p1) k,<-jf (nI (m:=l) (m':=l') p0 p1) k];refine jg (s5 Qa hW) (fun s hs=> ?_) (fun s hs=> ?_) ?_ k hk
 ·have e1:(ZQ (XG rf place l')).getD s default=Jc (XG rf place l'):=X2 (k:=(s:Int)) (by omega) hs;have e2:(ZQ (XG rf place l)).getD s default=Jc (XG rf place l):=X2 (k:=(s:Int)) (by omega) hs;rw[e1,e2];intro j j0 j1;obtain⟨a,b,c⟩:=at' j j0 j1;rw[Ht j0 j1,Ht j0 c,a,b];split <;> exact Int.le_refl _
 ·have e1:(ZF (XG rf place l') Qa).getD s default=JD (XG rf place l') (Qa.getD ((s:Int)).toNat 0):=X2 (k:=(s:Int)) (by omega) hs;have e2:(ZF (XG rf place l) Qa).getD s default=JD (XG rf place l) (Qa.getD ((s:Int)).toNat 0):=X2 (k:=(s:Int)) (by omega) hs;rw[e1,e2];intro j j0 j1;obtain⟨a,b,c⟩:=at' j j0 j1;rw[Er j0 j1,Er j0 c,a,b];split
  ·unfold Z0;split
   ·exact Int.le_refl _
   ·show(Y1 _ l).ohi<=(Y1 _ l').ohi;unfold Y1;simp only;split <;> split <;> omega
  ·exact Int.le_refl _
 ·refine ew (n:=rf.Qb.length) (by rw[VK,Zi]) (by rw[VK,Zi]) fun j j0 j1=> ?_
  have j1':j<(XG rf place l').Qb.length:=by rw[Zi];exact j1
  obtain⟨a,b,c⟩:=at' j j0 j1';rw[Ev j0 j1',Ev j0 c,a,b];split <;> exact Int.le_refl _
theorem HW(h:Y7 rf Qa place l=true)(hs:1<=rf.seasons):Y7 rf Qa place l'=true:=by
 cases hb:Y7 rf Qa place l' with
 |true=>rfl
 |false=>
  exfalso;have Zm:=Qy (Q8 hr).1;have y:=pq (rf:=XG rf place l) (Qa:=Qa) h;have n:=tR (rf:=XG rf place l') (Qa:=Qa) hb (ZR (XG rf place l) Qa).2.1 y.1 (by have:=y.2.1;rw[Zi]at this ⊢;exact this);have m:=GQ (Qa:=Qa) hr p0 p1 h0 hl h1 (k:=rf.seasons.toNat) (by omega) (ZR (XG rf place l) Qa).2.1 y.1 (by have:=y.2.1;rw[Zi]at this;omega);have k1:(ZR (XG rf place l) Qa).2.1<rf.Qb.length:=by have:=y.2.1;rw[Zi]at this;exact this
  have a:=JW (most:=l) p0 p1 y.1 k1;have b:=JW (most:=l') p0 p1 y.1 k1;have y4:=y.2.2.2.1;have y3:=y.2.2.1;rw[show Ve (XG rf place l).Qb (ZR (XG rf place l) Qa).2.1=_ from a]at y4;rw[show Ve (XG rf place l').Qb (ZR (XG rf place l) Qa).2.1=_ from b]at n;have n':(if(ZR (XG rf place l) Qa).2.1=place then Y1 (Ve rf.Qb (ZR (XG rf place l) Qa).2.1) l else Ve rf.Qb (ZR (XG rf place l) Qa).2.1).goal=(if(ZR (XG rf place l) Qa).2.1=place then Y1 (Ve rf.Qb (ZR (XG rf place l) Qa).2.1) l' else Ve rf.Qb (ZR (XG rf place l) Qa).2.1).goal:=by split <;> rfl
  have s1:(XG rf place l).seasons=rf.seasons:=rfl;have s2:(XG rf place l').seasons=rf.seasons:=rfl;rw[s1]at y4;rw[s2]at n;omega
end
end Go.Proofs.Ytncjjangllkokaa

namespace Go.Proofs.Ytncjjangllkokaa
open Go Go.CE Go.RowKit
noncomputable section
set_option maxRecDepth 100000
theorem uG{rf:Qe}{Qa:List Int}{place:Int}:0<=QX rf Qa place/\QX rf Qa place<=1000001:=Lg _ 0 1000001 0 rfl (by omega) (by omega)
def fo(rf:Qe)(Qa:List Int):Array Value:=#[QE rf.Qb.length (Qg Qh rf.Qb),.int .i64 rf.miss,.int .i64 rf.seasons,.int .i64 (Qa.getD 0 0),.int .i64 (Qa.getD 1 0),.int .i64 (Qa.getD 2 0),.int .i64 (Qa.getD 3 0)]
def fi(rf:Qe)(Qa:List Int):Array Value:=#[.agg #[QE rf.Qb.length (Qg Qh rf.Qb),.int .i64 rf.miss,.int .i64 rf.seasons],QE Qa.length (Qg Q9 Qa)]
def au(rf:Qe):Array Value:=#[QE rf.Qb.length (Qg Qh rf.Qb),.int .i64 rf.miss,.int .i64 rf.seasons]
def ft(B:Lo)(rf:Qe)(Qa:List Int)(place:Int):List Prop:=[Qz []/\Qx YP J0 50 #[.agg (au rf)] (.bool true)]++([]:List Prop)
def qq(rf:Qe)(Qa:List Int)(place:Int):Q5:=[(4,Qk.pure (.bool true) [])]
def fq(B:Lo)(rf:Qe)(Qa:List Int)(place:Int):List Prop:=[Qz []/\Qx YP J0 51 (fi rf Qa) (.bool true)]++ft B rf Qa place
def qp(rf:Qe)(Qa:List Int)(place:Int):Q5:=qq rf Qa place++[(9,Qk.pure (.bool true) [])]
def fp(B:Lo)(rf:Qe)(Qa:List Int)(place:Int):List Prop:=[Qz []/\Qx YP J0 71 #[.agg (fo rf Qa),.int .i64 place] (.int .i64 (QX rf Qa place)),Qz []/\Qx YP J0 52 (fi rf Qa) (.agg (fo rf Qa)),Qz []/\Qx YP J0 70 #[.agg (au rf),.int .i64 place] (.bool true)]++fq B rf Qa place
def qo(rf:Qe)(Qa:List Int)(place:Int):Q5:=qp rf Qa place++[(15,Qk.pure (.bool true) []),(20,Qk.pure (.agg (fo rf Qa)) []),(22,Qk.pure (.int .i64 (QX rf Qa place)) [])]
theorem CT(B:Lo)(rf:Qe)(Qa:List Int)(place:Int):QQ (Qq YP (Q3 YP) J0 B 17 1 (Qp YP 43 33 (([.agg (Q0 rf).toArray,Xr Qa,.int .i64 place]).map (Q2 0 4))) XV 1
 (qo rf Qa place++[(25,Wo)]) 0 [] []) []=some (.tuple #[.int .i64 0,.int .i64 5],
 [Km (QX rf Qa place) 0=true]++fp B rf Qa place):=by kernel_rfl
theorem CS(B:Lo)(rf:Qe)(Qa:List Int)(place:Int):let a:=QX rf Qa place-1;QQ (Qq YP (Q3 YP) J0 B 18 1 (Qp YP 43 33 (([.agg (Q0 rf).toArray,Xr Qa,.int .i64 place]).map (Q2 0 4))) XV 1
 (qo rf Qa place++[(25,W8),(27,VE a)]) 0 [] []) []=some (.tuple #[.int .i64 a,.int .i64 0],
 [wq a=QX rf Qa place-1,Km (QX rf Qa place) 0=false]++fp B rf Qa place):=by intro a;kernel_rfl
theorem CQ(B:Lo)(rf:Qe)(Qa:List Int)(place:Int):QQ (Qq YP (Q3 YP) J0 B 10 1 (Qp YP 43 33 (([.agg (Q0 rf).toArray,Xr Qa,.int .i64 place]).map (Q2 0 4))) XV 1
 (qp rf Qa place++[(15,Qk.pure (.bool false) [])]) 0 [] []) []=some (.tuple #[.int .i64 0,.int .i64 2],
 [Qz []/\Qx YP J0 70 #[.agg (au rf),.int .i64 place] (.bool false)]++fq B rf Qa place):=by kernel_rfl
theorem CP(B:Lo)(rf:Qe)(Qa:List Int)(place:Int):QQ (Qq YP (Q3 YP) J0 B 10 1 (Qp YP 43 33 (([.agg (Q0 rf).toArray,Xr Qa,.int .i64 place]).map (Q2 0 4))) XV 1
 (qq rf Qa place++[(9,Qk.pure (.bool false) [])]) 0 [] []) []=some (.tuple #[.int .i64 0,.int .i64 2],
 [Qz []/\Qx YP J0 51 (fi rf Qa) (.bool false)]++ft B rf Qa place):=by kernel_rfl
theorem CO(B:Lo)(rf:Qe)(Qa:List Int)(place:Int):QQ (Qq YP (Q3 YP) J0 B 10 1 (Qp YP 43 33 (([.agg (Q0 rf).toArray,Xr Qa,.int .i64 place]).map (Q2 0 4))) XV 1
 [(4,Qk.pure (.bool false) [])] 0 [] []) []=some (.tuple #[.int .i64 0,.int .i64 2],
 [Qz []/\Qx YP J0 50 #[.agg (au rf)] (.bool false)]):=by kernel_rfl
set_option maxHeartbeats 4000000 in
theorem Gn(rf:Qe)(Qa:List Int)(place:Int)  {B:Lo}(hJ:∀w,B.has w->J0 w):EndsT YP B (Qp YP 43 33 (([.agg (Q0 rf).toArray,Xr Qa,.int .i64 place]).map (Q2 0 4))) (.tuple #[.int .i64 (if QD rf && (QG rf Qa && WQ place 0 (rf.Qb.length-1))then(if QX rf Qa place=0 then 0 else QX rf Qa place-1)else 0),.int .i64 (if QD rf && (QG rf Qa && WQ place 0 (rf.Qb.length-1))then(if QX rf Qa place=0 then 5 else 0)else 2)]):=by
 have hq:=uG (rf:=rf) (Qa:=Qa) (place:=place);cases q0:QD rf with
 |true=>
  have WB:Qz (ft B rf Qa place):=by
   have Wc:=XJ ‹QD rf=true›;have Zm:=Qy (Q7 ‹QD rf=true›).1;exact⟨⟨trivial,(by have t_:=ji (rf);rw[q0]at t_;exact t_)⟩,trivial⟩
  cases q1:QG rf Qa with
  |true=>
   have JE:Qz (fq B rf Qa place):=by
    have Wc:=XJ ‹QD rf=true›;have Zm:=Qy (Q7 ‹QD rf=true›).1;have Pr:=(QM ‹QG rf Qa=true›).1;exact⟨⟨trivial,(by have t_:=jj (rf) (Qa) (by omega);rw[q1]at t_;exact t_)⟩,WB⟩
   cases q2:WQ place 0 ((↑rf.Qb.length:Int)-1)with
   |true=>
    have KE:Qz (fp B rf Qa place):=by
     have Wc:=XJ ‹QD rf=true›;have Zm:=Qy (Q7 ‹QD rf=true›).1;have Pr:=(QM ‹QG rf Qa=true›).1;have hpi:=VL.1 ‹WQ place 0 _=true›;exact⟨⟨trivial,F9 (rf) (Qa) (place) (by with_reducible assumption) (by with_reducible assumption) (by omega) (by omega)⟩,⟨⟨trivial,pW (rf) (Qa) (by omega) (by omega)⟩,⟨⟨trivial,(by have t_:=ah (rf) (place);rw[q2]at t_;exact t_)⟩,JE⟩⟩⟩
    by_cases q3:(QX rf Qa place:Int)=(0)
    ·have Wc:=XJ ‹QD rf=true›;have Zm:=Qy (Q7 ‹QD rf=true›).1;have Pr:=(QM ‹QG rf Qa=true›).1;have hpi:=VL.1 ‹WQ place 0 _=true›;exact(GoE.endsT okF hJ Qf GoE.start (CT B rf Qa place)
      ⟨(Pc q3),KE⟩).cast (by(simp[*];done))
    ·have Wc:=XJ ‹QD rf=true›;have Zm:=Qy (Q7 ‹QD rf=true›).1;have Pr:=(QM ‹QG rf Qa=true›).1;have hpi:=VL.1 ‹WQ place 0 _=true›;exact(GoE.endsT okF hJ Qf GoE.start (CS B rf Qa place)
      ⟨(Xy (by omega) (by omega)),⟨(Pd q3),KE⟩⟩).cast (by(simp[*];done))
   |false=>
    have Wc:=XJ ‹QD rf=true›;have Zm:=Qy (Q7 ‹QD rf=true›).1;have Pr:=(QM ‹QG rf Qa=true›).1;exact(GoE.endsT okF hJ Qf GoE.start (CQ B rf Qa place)
     ⟨⟨trivial,(by have t_:=ah (rf) (place);rw[q2]at t_;exact t_)⟩,JE⟩).cast (by rfl)
  |false=>
   have Wc:=XJ ‹QD rf=true›;have Zm:=Qy (Q7 ‹QD rf=true›).1;exact(GoE.endsT okF hJ Qf GoE.start (CP B rf Qa place)
    ⟨⟨trivial,(by have t_:=jj (rf) (Qa) (by omega);rw[q1]at t_;exact t_)⟩,WB⟩).cast (by rfl)
 |false=>
  exact(GoE.endsT okF hJ Qf GoE.start (CO B rf Qa place)
   ⟨⟨trivial,(by have t_:=ji (rf);rw[q0]at t_;exact t_)⟩,trivial⟩).cast (by rfl)
theorem Gp(rf:Qe)(Qa:List Int)(place:Int)  :Qx YP J0 43 #[.agg (Q0 rf).toArray,Xr Qa,.int .i64 place] (.tuple #[.int .i64 (if QD rf && (QG rf Qa && WQ place 0 (rf.Qb.length-1))then(if QX rf Qa place=0 then 0 else QX rf Qa place-1)else 0),.int .i64 (if QD rf && (QG rf Qa && WQ place 0 (rf.Qb.length-1))then(if QX rf Qa place=0 then 5 else 0)else 2)]):=
 Xn (ts:=[.agg (Q0 rf).toArray,Xr Qa,.int .i64 place]) Za (c0:=Qp YP 43 33 (([.agg (Q0 rf).toArray,Xr Qa,.int .i64 place]).map (Q2 0 4))) (by kernel_rfl) (by kernel_rfl) fun B hJ=>Gn rf Qa place  hJ
end
end Go.Proofs.Ytncjjangllkokaa

