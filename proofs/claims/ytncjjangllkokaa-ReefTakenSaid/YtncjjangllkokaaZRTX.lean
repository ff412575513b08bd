/- ReefTaken: whatever the input, it returns true, and each argument reads as it did. The row, from the walk. -/
import Derived.Test.YtncjjangllkokaaZRT18
import Derived.Test.YtncjjangllkokaaZRT16
import Derived.JoinedOf
import Derived.Test.YtncjjangllkokaaRows
set_option linter.all false
namespace Go.Proofs.Ytncjjangllkokaa
open Go Go.CE Go.RowKit
noncomputable section
set_option maxRecDepth 100000
def UH(rf:Qe)(l:List (List Int))(s:Int):List Value:=[Qt 1 (QE l.length (Qg QZ l)),pA 2 0,.int .i64 s]
def We(rf:Qe)(l:List (List Int))(s:Int):List Obj:=[Obj.cells #[Qt 1 (QE rf.Qb.length (Qg Qh rf.Qb)),.int .i64 rf.miss,.int .i64 rf.seasons] 24]
def UK:List Item:=([.code [1,0,1,0,0],.inLoop [1,0,1,0,0],.inBlock 0,.code [1,1]]).map (it (QT YP 31))
def y1(B:Lo)(c0:CF)(rf:Qe)(l:List (List Int))(s:Int):Prop:=∃dJ:Nat->Value,(∀t,X6 (dJ t))/\GoE YP B c0 XV 1 (QJ 31 54 (([1,2,5]:List Nat).zip (UH rf l s)) dJ UK) (QH (We rf l s)) (2+(We rf l s).length) []
def UG(rf:Qe)(l:List (List Int))(s i:Int):List Value:=[Qt 1 (QE l.length (Qg QZ l)),pA 2 0,.int .i64 s,.int .i64 i]
def Wd(rf:Qe)(l:List (List Int))(s i:Int):List Obj:=[Obj.cells #[Qt 1 (QE rf.Qb.length (Qg Qh rf.Qb)),.int .i64 rf.miss,.int .i64 rf.seasons] 24]
def UI:List Item:=([.code [1,0,1,0,0,1,0,0,1,1,0,0],.inLoop [1,0,1,0,0,1,0,0,1,1,0,0],.inBlock 2,.inBlock 1,.code [1,0,1,0,0,1,1],.inLoop [1,0,1,0,0],.inBlock 0,.code [1,1]]).map (it (QT YP 31))
def y0(B:Lo)(c0:CF)(rf:Qe)(l:List (List Int))(s i:Int):Prop:=∃dJ:Nat->Value,(∀t,X6 (dJ t))/\GoE YP B c0 XV 1 (QJ 31 54 (([1,2,5,6]:List Nat).zip (UG rf l s i)) dJ UI) (QH (Wd rf l s i)) (2+(Wd rf l s i).length) []
def aV(B:Lo)(rf:Qe)(l:List (List Int))(s:Int)(Qn:Nat->Value):List Prop:=let a:=l.getD s.toNat default;[s=(↑s.toNat:Int)/\Int.toNat s<List.length l/\Array.extract (Qg QZ l) (Int.toNat s*TypeInfo.size Try.t25) (Int.toNat s*TypeInfo.size Try.t25+TypeInfo.size Try.t25)=#[QE a.length (Qg Q9 a)],XU s (↑l.length:Int)=true]++([]:List Prop)
def jF(rf:Qe)(l:List (List Int))(s:Int)(Qn:Nat->Value):Q5:=[(3,Wo),(6,Qk.tidx s.toNat #[QE (List.length (l.getD s.toNat default)) (Qg Q9 (l.getD s.toNat default))])]
theorem yy(B:Lo)(rf:Qe)(l:List (List Int))(s:Int)(Qn:Nat->Value):QQ (Qq YP (Q3 YP) J0 B 15 1 (QJ 31 54 (([1,2,5]:List Nat).zip (UH rf l s)) Qn UK) (QH (We rf l s)) (2+(We rf l s).length)
 (jF rf l s Qn++[(12,Wo)]) 0 [] []) []=some (.bool false,
 [(!Km (↑(List.length (l.getD s.toNat default)):Int) (↑rf.Qb.length:Int))=true]++aV B rf l s Qn):=by kernel_rfl
theorem yx(B:Lo)(rf:Qe)(l:List (List Int))(s:Int)(Qn:Nat->Value):landM (Qq YP (Q3 YP) J0 B 16 1 (QJ 31 54 (([1,2,5]:List Nat).zip (UH rf l s)) Qn UK) (QH (We rf l s)) (2+(We rf l s).length)
 (jF rf l s Qn++[(12,W8)]) 0 [] []) [1,2,5,6] [(2,KS.auto)] []=some ⟨31,54,UI,[],.run,none,UG rf l (s) (0),Wd rf l (s) (0),
 [(!Km (↑(List.length (l.getD s.toNat default)):Int) (↑rf.Qb.length:Int))=false]++aV B rf l s Qn⟩:=by kernel_rfl
def aU(B:Lo)(rf:Qe)(l:List (List Int))(s:Int)(Qn:Nat->Value):List Prop:=[XU s (↑l.length:Int)=false]++([]:List Prop)
def jE(rf:Qe)(l:List (List Int))(s:Int)(Qn:Nat->Value):Q5:=[(3,W8)]
theorem yw(B:Lo)(rf:Qe)(l:List (List Int))(s:Int)(Qn:Nat->Value):QQ (Qq YP (Q3 YP) J0 B 9 1 (QJ 31 54 (([1,2,5]:List Nat).zip (UH rf l s)) Qn UK) (QH (We rf l s)) (2+(We rf l s).length)
 (jE rf l s Qn++[(8,Wo)]) 0 [] []) []=some (.bool true,
 [Km (↑l.length:Int) rf.seasons=true]++aU B rf l s Qn):=by kernel_rfl
theorem yv(B:Lo)(rf:Qe)(l:List (List Int))(s:Int)(Qn:Nat->Value):QQ (Qq YP (Q3 YP) J0 B 9 1 (QJ 31 54 (([1,2,5]:List Nat).zip (UH rf l s)) Qn UK) (QH (We rf l s)) (2+(We rf l s).length)
 (jE rf l s Qn++[(8,W8)]) 0 [] []) []=some (.bool false,
 [Km (↑l.length:Int) rf.seasons=false]++aU B rf l s Qn):=by kernel_rfl
def aT(B:Lo)(rf:Qe)(l:List (List Int))(s i:Int)(Qn:Nat->Value):List Prop:=let a:=l.getD s.toNat default;[s=(↑s.toNat:Int)/\Int.toNat s<List.length l/\Array.extract (Qg QZ l) (Int.toNat s*TypeInfo.size Try.t25) (Int.toNat s*TypeInfo.size Try.t25+TypeInfo.size Try.t25)=#[QE a.length (Qg Q9 a)]]++([]:List Prop)
def jD(rf:Qe)(l:List (List Int))(s i:Int)(Qn:Nat->Value):Q5:=[(3,Qk.tidx s.toNat #[QE (List.length (l.getD s.toNat default)) (Qg Q9 (l.getD s.toNat default))])]
def aR(B:Lo)(rf:Qe)(l:List (List Int))(s i:Int)(Qn:Nat->Value):List Prop:=let a:=l.getD s.toNat default;[i=(↑i.toNat:Int)/\Int.toNat i<List.length a/\Array.extract (Qg Q9 a) (Int.toNat i*TypeInfo.size Try.t3) (Int.toNat i*TypeInfo.size Try.t3+TypeInfo.size Try.t3)=#[.int .i64 (a.getD i.toNat default)],s=(↑s.toNat:Int)/\Int.toNat s<List.length l/\Array.extract (Qg QZ l) (Int.toNat s*TypeInfo.size Try.t25) (Int.toNat s*TypeInfo.size Try.t25+TypeInfo.size Try.t25)=#[QE a.length (Qg Q9 a)],XU i (↑a.length:Int)=true]++aT B rf l s i Qn
def jC(rf:Qe)(l:List (List Int))(s i:Int)(Qn:Nat->Value):Q5:=let a:=l.getD s.toNat default;jD rf l s i Qn++[(6,Wo),(9,Qk.tidx s.toNat #[QE a.length (Qg Q9 a)]),(12,Qk.tidx i.toNat #[.int .i64 (a.getD i.toNat default)])]
theorem yu(B:Lo)(rf:Qe)(l:List (List Int))(s i:Int)(Qn:Nat->Value):QQ (Qq YP (Q3 YP) J0 B 14 1 (QJ 31 54 (([1,2,5,6]:List Nat).zip (UG rf l s i)) Qn UI) (QH (Wd rf l s i)) (2+(Wd rf l s i).length)
 (jC rf l s i Qn++[(14,Wo)]) 0 [] []) []=some (.bool false,
 [XU (List.getD (l.getD s.toNat default) i.toNat default) 0=true]++aR B rf l s i Qn):=by kernel_rfl
def aQ(B:Lo)(rf:Qe)(l:List (List Int))(s i:Int)(Qn:Nat->Value):List Prop:=let a:=l.getD s.toNat default;let b:=a.getD i.toNat default;[i=(↑i.toNat:Int)/\Int.toNat i<List.length a/\Array.extract (Qg Q9 a) (Int.toNat i*TypeInfo.size Try.t3) (Int.toNat i*TypeInfo.size Try.t3+TypeInfo.size Try.t3)=#[.int .i64 b],s=(↑s.toNat:Int)/\Int.toNat s<List.length l/\Array.extract (Qg QZ l) (Int.toNat s*TypeInfo.size Try.t25) (Int.toNat s*TypeInfo.size Try.t25+TypeInfo.size Try.t25)=#[QE a.length (Qg Q9 a)],XU b 0=false]++aR B rf l s i Qn
def jB(rf:Qe)(l:List (List Int))(s i:Int)(Qn:Nat->Value):Q5:=let a:=l.getD s.toNat default;jC rf l s i Qn++[(14,W8),(18,Qk.tidx s.toNat #[QE a.length (Qg Q9 a)]),(21,Qk.tidx i.toNat #[.int .i64 (a.getD i.toNat default)])]
theorem yr(B:Lo)(rf:Qe)(l:List (List Int))(s i:Int)(Qn:Nat->Value):QQ (Qq YP (Q3 YP) J0 B 14 1 (QJ 31 54 (([1,2,5,6]:List Nat).zip (UG rf l s i)) Qn UI) (QH (Wd rf l s i)) (2+(Wd rf l s i).length)
 (jB rf l s i Qn++[(23,Wo)]) 0 [] []) []=some (.bool false,
 [XU 1000000000 (List.getD (l.getD s.toNat default) i.toNat default)=true]++aQ B rf l s i Qn):=by kernel_rfl
theorem yq(B:Lo)(rf:Qe)(l:List (List Int))(s i:Int)(Qn:Nat->Value):landM (Qq YP (Q3 YP) J0 B 14 1 (QJ 31 54 (([1,2,5,6]:List Nat).zip (UG rf l s i)) Qn UI) (QH (Wd rf l s i)) (2+(Wd rf l s i).length)
 (jB rf l s i Qn++[(23,W8),(26,VE (i+1))]) 0 [] []) [1,2,5,6] [(2,KS.auto)] []=some ⟨31,54,UI,[],.run,none,UG rf l (s) (i+1),Wd rf l (s) (i+1),
 [wq (i+1)=i+1,XU 1000000000 (List.getD (l.getD s.toNat default) i.toNat default)=false]++aQ B rf l s i Qn⟩:=by kernel_rfl
theorem yp(B:Lo)(rf:Qe)(l:List (List Int))(s i:Int)(Qn:Nat->Value):landM (Qq YP (Q3 YP) J0 B 8 1 (QJ 31 54 (([1,2,5,6]:List Nat).zip (UG rf l s i)) Qn UI) (QH (Wd rf l s i)) (2+(Wd rf l s i).length)
 (jD rf l s i Qn++[(6,W8),(8,VE (s+1))]) 0 [] []) [1,2,5] [(2,KS.auto)] []=some ⟨31,54,UK,[],.run,none,UH rf l (s+1),We rf l (s+1),
 [wq (s+1)=s+1,XU i (↑(List.length (l.getD s.toNat default)):Int)=false]++aT B rf l s i Qn⟩:=by kernel_rfl
theorem yo(B:Lo)(rf:Qe)(l:List (List Int)):landM (Qq YP (Q3 YP) J0 B 7 1 (Qp YP 31 54 (([.agg (Q0 rf).toArray,X8 l]).map (Q2 0 4))) XV 1
 [] 0 [] []) [1,2,5] [(1,KS.auto)] []=some ⟨31,54,UK,[],.run,none,UH rf l (0),We rf l (0),
 []⟩:=by kernel_rfl
set_option maxHeartbeats 4000000 in
theorem yz(rf:Qe)(l:List (List Int))(hl:S5 rf.Qb.length rf.seasons l)(hn:rf.Qb.length<=8)(Xt:l.length<=9223372036854775807/\rf.Qb.length<=9223372036854775807){B:Lo}(hJ:∀w,B.has w->J0 w){c0:CF}:∀m:Nat,(∀(s:Int),100*(l.length-s.toNat)=m->∀(h0:0<=s),y1 B c0 rf l s->EndsT YP B c0 (.bool true))/\(∀(s i:Int),100*(l.length-s.toNat)-99+((l.getD s.toNat default).length-i.toNat)=m->∀(h0:0<=s) (h1:s<rf.seasons) (h2:0<=i),y0 B c0 rf l s i->EndsT YP B c0 (.bool true)):=by
 intro m0;induction m0 using Nat.strongRecOn with
 |_ m0 ih0=>
  refine⟨?_, ?_⟩
  ·intro s hm0 h0 ⟨Qn,Ur,XM⟩;have hl1:=hl.1;have hl1:=hl.1;by_cases q0:(s:Int)<((↑l.length:Int))
   ·have WB:Qz (aV B rf l s Qn):=by
     have hls:=hl.2 s (by omega) (by omega);have hl2:=hls.1;exact⟨⟨by omega,by omega,(Q4 (z:=1) (fun _=>rfl) (by omega))⟩,⟨(XF q0),trivial⟩⟩
    by_cases q1:((↑(List.length (l.getD s.toNat default)):Int):Int)≠((↑rf.Qb.length:Int))
    ·have hls:=hl.2 s (by omega) (by omega);have hl2:=hls.1;exact(GoE.endsT okF hJ Qf XM (yy B rf l s Qn)
      ⟨(Jx q1),WB⟩).cast (by omega)
    ·have hls:=hl.2 s (by omega) (by omega);have hl2:=hls.1;exact((ih0 _ (by omega)).2 (s) (0) rfl (by with_reducible assumption) (by omega) (by omega)
      (XM.landM okF hJ Qf (yx B rf l s Qn)
      ⟨(Yq (Decidable.of_not_not q1)),WB⟩ (by kernel_rfl) (by kernel_rfl))).cast (by rfl)
   ·have JE:Qz (aU B rf l s Qn):=by
     exact⟨(XO (Int.not_lt.1 q0)),trivial⟩
    by_cases q1:((↑l.length:Int):Int)=rf.seasons
    ·exact(GoE.endsT okF hJ Qf XM (yw B rf l s Qn)
      ⟨(Pc q1),JE⟩).cast rfl
    ·have hls:=hl.2 s (by omega) (by omega);have hl2:=hls.1;exact(GoE.endsT okF hJ Qf XM (yv B rf l s Qn)
      ⟨(Pd q1),JE⟩).cast (by omega)
  ·intro s i hm0 h0 h1 h2 ⟨Qn,Ur,XM⟩;have hl1:=hl.1;have hl1:=hl.1;have hls:=hl.2 s h0 h1;have hl2:=hls.1;have KE:Qz (aT B rf l s i Qn):=by
    exact⟨⟨by omega,by omega,(Q4 (z:=1) (fun _=>rfl) (by omega))⟩,trivial⟩
   by_cases q0:(i:Int)<((↑(List.length (l.getD s.toNat default)):Int))
   ·have hp3:Qz (aR B rf l s i Qn):=by
     have P0:=hls.2 i h2 (by omega);exact⟨⟨by omega,by omega,(Q4 (z:=1) (fun _=>rfl) (by omega))⟩,⟨⟨by omega,by omega,(Q4 (z:=1) (fun _=>rfl) (by omega))⟩,⟨(XF q0),KE⟩⟩⟩
    by_cases q1:(List.getD (l.getD s.toNat default) i.toNat default:Int)<(0)
    ·have P0:=hls.2 i h2 (by omega);exact(GoE.endsT okF hJ Qf XM (yu B rf l s i Qn)
      ⟨(XF q1),hp3⟩).cast (by omega)
    ·have hp4:Qz (aQ B rf l s i Qn):=by
      have P0:=hls.2 i h2 (by omega);exact⟨⟨by omega,by omega,(Q4 (z:=1) (fun _=>rfl) (by omega))⟩,⟨⟨by omega,by omega,(Q4 (z:=1) (fun _=>rfl) (by omega))⟩,⟨(XO (Int.not_lt.1 q1)),hp3⟩⟩⟩
     by_cases q2:(1000000000:Int)<(List.getD (l.getD s.toNat default) i.toNat default)
     ·have P0:=hls.2 i h2 (by omega);exact(GoE.endsT okF hJ Qf XM (yr B rf l s i Qn)
       ⟨(XF q2),hp4⟩).cast (by omega)
     ·have P0:=hls.2 i h2 (by omega);exact((ih0 _ (by omega)).2 (s) (i+1) rfl (by with_reducible assumption) (by with_reducible assumption) (by omega)
       (XM.landM okF hJ Qf (yq B rf l s i Qn)
       ⟨(Xy (by omega) (by omega)),⟨(XO (Int.not_lt.1 q2)),hp4⟩⟩ (by kernel_rfl) (by kernel_rfl))).cast (by rfl)
   ·exact((ih0 _ (by omega)).1 (s+1) rfl (by omega)
     (XM.landM okF hJ Qf (yp B rf l s i Qn)
     ⟨(Xy (by omega) (by omega)),⟨(XO (Int.not_lt.1 q0)),KE⟩⟩ (by kernel_rfl) (by kernel_rfl))).cast (by rfl)
set_option maxHeartbeats 4000000 in
theorem B6(rf:Qe)(l:List (List Int))(hl:S5 rf.Qb.length rf.seasons l)(hn:rf.Qb.length<=8)(Xt:l.length<=9223372036854775807/\rf.Qb.length<=9223372036854775807){B:Lo}(hJ:∀w,B.has w->J0 w):EndsT YP B (Qp YP 31 54 (([.agg (Q0 rf).toArray,X8 l]).map (Q2 0 4))) (.bool true):=by
 have hl1:=hl.1;exact((yz rf l hl hn Xt hJ _).1 (0) rfl (by omega)
  (GoE.start.landM okF hJ Qf (yo B rf l)
  trivial (by kernel_rfl) (by kernel_rfl))).cast (by rfl)
theorem Im(rf:Qe)(l:List (List Int))(hl:S5 rf.Qb.length rf.seasons l)(hn:rf.Qb.length<=8):Qx YP J0 31 #[.agg (Q0 rf).toArray,X8 l] (.bool true):=
 Va (ts:=[.agg (Q0 rf).toArray,X8 l]) (l.length<=9223372036854775807/\rf.Qb.length<=9223372036854775807) (fun _ _ ht=>⟨ht.ln (i:=1) rfl,ht.ln2 (i:=0) (j:=0) rfl rfl⟩) Za (c0:=Qp YP 31 54 (([.agg (Q0 rf).toArray,X8 l]).map (Q2 0 4))) (by kernel_rfl) (by kernel_rfl) fun Xt B hJ=>B6 rf l hl hn Xt hJ
end
end Go.Proofs.Ytncjjangllkokaa

namespace Go.Proofs.Ytncjjangllkokaa
open Go Go.CE Go.RowKit
set_option maxRecDepth 100000
theorem Na(rf:Qe)(Qa:List Int)(st:List Int)(gs ts:List (List Int)):Qx YP J0 26 #[.agg (Q0 rf).toArray,Xr Qa,.agg #[Xr st,X8 gs,X8 ts]] (.tuple #[if QD rf && (QG rf Qa && Xz rf Qa ⟨st,gs,ts⟩)then X8 (XB rf.seasons rf.Qb gs ts (Qu st))else X8 [],.agg #[.int .i64 (if QD rf && (QG rf Qa && Xz rf Qa ⟨st,gs,ts⟩)then(Qu st).sum else 0),.int .i64 (if QD rf && (QG rf Qa && Xz rf Qa ⟨st,gs,ts⟩)then Xb 0 rf.seasons (Ul rf.Qb gs ts (Qu st))else 0),.int .i64 (if QD rf && (QG rf Qa && Xz rf Qa ⟨st,gs,ts⟩)then Xb 0 rf.seasons (Wv rf.Qb gs ts (Qu st))else 0),.int .i64 (if QD rf && (QG rf Qa && Xz rf Qa ⟨st,gs,ts⟩)then Xb 0 rf.seasons (Ug rf.Qb gs ts (Qu st))else 0),.int .i64 (if QD rf && (QG rf Qa && Xz rf Qa ⟨st,gs,ts⟩)then(Yn rf.Qb gs ts (Qu st) rf.seasons.toNat).sum else 0)],.int .i64 (if QD rf && (QG rf Qa && Xz rf Qa ⟨st,gs,ts⟩)then 0 else 2)]):=Ob rf Qa ⟨st,gs,ts⟩
theorem Se{rf:Qe}{gs ts:List (List Int)}{f:F4}{i:Int}(h4:rf.Qb.length<=4)(h1:1<=rf.seasons)(i0:0<=i)(i1:i<rf.Qb.length):((XB rf.seasons rf.Qb gs ts f).getD (rf.seasons-1).toNat default).getD i.toNat default=(Yn rf.Qb gs ts f rf.seasons.toNat).at i:=by
 rw[Ga h4 (by omega) (by omega) i0 i1,show(rf.seasons-1).toNat+1=rf.seasons.toNat by omega]
end Go.Proofs.Ytncjjangllkokaa

namespace Go.Proofs.Ytncjjangllkokaa
open Go Go.CE Go.RowKit
noncomputable section
abbrev Zk(rf:Qe)(place other:Int):List Qd:=List.set rf.Qb place.toNat {count:=Qd.count (rf.Qb.getD place.toNat default),room:=Qd.room (rf.Qb.getD place.toNat default),glo:=Qd.glo (rf.Qb.getD place.toNat default),ghi:=Qd.ghi (rf.Qb.getD place.toNat default),drift:=Qd.drift (rf.Qb.getD place.toNat default),into:=Qd.into (rf.Qb.getD place.toNat default),olo:=if other<Qd.olo (rf.Qb.getD place.toNat default)then other else Qd.olo (rf.Qb.getD place.toNat default),ohi:=if other<Qd.ohi (rf.Qb.getD place.toNat default)then other else Qd.ohi (rf.Qb.getD place.toNat default),slo:=Qd.slo (rf.Qb.getD place.toNat default),shi:=Qd.shi (rf.Qb.getD place.toNat default),goal:=Qd.goal (rf.Qb.getD place.toNat default),worth:=Qd.worth (rf.Qb.getD place.toNat default)}
abbrev xo(rf:Qe)(place other:Int):List Qd:=List.set (Zk rf place other) place.toNat {count:=Qd.count (List.getD (Zk rf place other) place.toNat default),room:=Qd.room (List.getD (Zk rf place other) place.toNat default),glo:=Qd.glo (List.getD (Zk rf place other) place.toNat default),ghi:=Qd.ghi (List.getD (Zk rf place other) place.toNat default),drift:=Qd.drift (List.getD (Zk rf place other) place.toNat default),into:=Qd.into (List.getD (Zk rf place other) place.toNat default),olo:=Qd.olo (List.getD (Zk rf place other) place.toNat default),ohi:=Qd.ohi (List.getD (Zk rf place other) place.toNat default),slo:=if Qd.olo (List.getD (Zk rf place other) place.toNat default)<Qd.slo (List.getD (Zk rf place other) place.toNat default)then Qd.olo (List.getD (Zk rf place other) place.toNat default)else Qd.slo (List.getD (Zk rf place other) place.toNat default),shi:=if Qd.ohi (List.getD (Zk rf place other) place.toNat default)<Qd.shi (List.getD (Zk rf place other) place.toNat default)then Qd.ohi (List.getD (Zk rf place other) place.toNat default)else Qd.shi (List.getD (Zk rf place other) place.toNat default),goal:=Qd.goal (List.getD (Zk rf place other) place.toNat default),worth:=Qd.worth (List.getD (Zk rf place other) place.toNat default)}
set_option maxRecDepth 100000
structure RX where
 n:Nat
 l:List Qd
 mi:Int
 se:Int
deriving Inhabited
def Oq(x:RX):List Value:=[QE x.n (Qg Qh x.l),.int .i64 x.mi,.int .i64 x.se]
theorem Ou(ps:List Qd)(pn:Nat)(mi se:Int)(Qa:List Int)(hpn:pn=ps.length)(hr:XT ⟨ps,mi,se⟩=true)(hp:QG ⟨ps,mi,se⟩ Qa=true):Qx YP J0 34 #[.agg #[QE pn (Qg Qh ps),.int .i64 mi,.int .i64 se],Xr Qa,.bool false] (.agg #[Xr (U1 ⟨ps,mi,se⟩),QE (ZQ ⟨ps,mi,se⟩).length (Qg QZ (ZQ ⟨ps,mi,se⟩)),QE (ZF ⟨ps,mi,se⟩ Qa).length (Qg QZ (ZF ⟨ps,mi,se⟩ Qa))]):=by
 subst hpn;exact NO ⟨ps,mi,se⟩ Qa hr hp
theorem Mx(ps:List Qd)(pn:Nat)(mi se:Int)(Qa:List Int)(st:List Int)(gs ts:List (List Int))(hpn:pn=ps.length)(hb:QD ⟨ps,mi,se⟩=true)(hp:QG ⟨ps,mi,se⟩ Qa=true)(ht:Xz ⟨ps,mi,se⟩ Qa ⟨st,gs,ts⟩=true):Qx YP J0 26 #[.agg #[QE pn (Qg Qh ps),.int .i64 mi,.int .i64 se],Xr Qa,.agg #[Xr st,X8 gs,X8 ts]] (.tuple #[X8 (XB se ps gs ts (Qu st)),.agg #[.int .i64 (Qu st).sum,.int .i64 (Xb 0 se (Ul ps gs ts (Qu st))),.int .i64 (Xb 0 se (Wv ps gs ts (Qu st))),.int .i64 (Xb 0 se (Ug ps gs ts (Qu st))),.int .i64 (Yn ps gs ts (Qu st) se.toNat).sum],.int .i64 0]):=by
 subst hpn;have h:=Na ⟨ps,mi,se⟩ Qa st gs ts;rw[hb,hp,ht]at h;exact h
theorem HM(ps:List Qd)(pn:Nat)(mi se:Int)(Qa:List Int)(t:Ql)(hpn:pn=ps.length)(hr:QD ⟨ps,mi,se⟩=true)(hp:QG ⟨ps,mi,se⟩ Qa=true):Qx YP J0 27 #[.agg #[QE pn (Qg Qh ps),.int .i64 mi,.int .i64 se],Xr Qa,.agg #[Xr t.Qc,X8 t.Qi,X8 t.Qj]] (.bool (Xz ⟨ps,mi,se⟩ Qa t)):=by
 subst hpn;exact MJ ⟨ps,mi,se⟩ Qa t hr (QM hp).1 (XD (XJ hr) hp)
theorem Bw(ps:List Qd)(pn:Nat)(mi se:Int)(w:List (List Int))(hpn:pn=ps.length)(hl:S5 ps.length se w)(hn:ps.length<=8):Qx YP J0 31 #[.agg #[QE pn (Qg Qh ps),.int .i64 mi,.int .i64 se],X8 w] (.bool true):=by
 subst hpn;exact Im ⟨ps,mi,se⟩ w hl hn
theorem Np{x:Qd}{most:Int}(h:XR x=true)(h0:0<=most)(h1:most<=1000000)(hl:(Y1 x most).slo<=(Y1 x most).olo)(hh:(Y1 x most).shi<=(Y1 x most).ohi):XR (Y1 x most)=true:=by
 have hp:=Vj h;simp only[XR,Y1,YB,VL,TI,decide_eq_true_iff];refine⟨hp.1,hp.2.1,hp.2.2.1,hp.2.2.2.1,hp.2.2.2.2.1,hp.2.2.2.2.2.1, ?_, ?_,decide_eq_true hl,decide_eq_true hh⟩
 ·have ho:=hp.2.2.2.2.2.2.1;split <;> split <;> omega
 ·have ho:=hp.2.2.2.2.2.2.2;omega
theorem GR{rf:Qe}{place other:Int}(hr:QD rf=true)(p0:0<=place)(p1:place<rf.Qb.length)(h0:0<=other)(h1:other<=1000000)(hl:(Y1 (Ve rf.Qb place) other).slo<=(Y1 (Ve rf.Qb place) other).olo)(hh:(Y1 (Ve rf.Qb place) other).shi<=(Y1 (Ve rf.Qb place) other).ohi):QD (XG rf place other)=true:=by
 obtain⟨hs,hp⟩:=Q7 hr;unfold QD;rw[YB];constructor
 ·unfold KR at hs ⊢;rw[Zi];exact hs
 ·refine List.all_eq_true.2 fun k hk=> ?_
  unfold Sv at hk;obtain⟨m,hm',rfl⟩:=List.mem_map.1 hk;have hm2:=List.mem_range.1 hm';rw[Zi]at hm2;have k0:0<=0+(m:Int):=by omega
  have k1:0+(m:Int)<rf.Qb.length:=by omega
  have a:=hp (0+(m:Int)) k0 k1;rw[JW p0 p1 k0 k1,Zi];simp only[Z2,YB,Bool.not_eq_true',decide_eq_false_iff_not];split
  ·rename_i e;refine⟨?_,a.2.1,a.2.2⟩;have a1:=a.1;rw[e]at a1 ⊢;exact Np a1 h0 h1 hl hh
  ·exact⟨a.1,a.2.1,a.2.2⟩
theorem VF{l:List Qd}{n:Nat}{x:Qd}(h:n<l.length):(l.set n x).getD n default=x:=by simp[List.getD_eq_getElem?_getD,List.getElem?_set,h]
theorem HH{rf:Qe}{place other:Int}(p0:0<=place)(p1:place<rf.Qb.length)(Y:Qd)(hY:Y=Y1 (Ve rf.Qb place) other)(X:Qd):(rf.Qb.set place.toNat X).set place.toNat Y=(XG rf place other).Qb:=by
 subst hY;rw[List.set_set];rfl
theorem LZ{rf:Qe}{Qa:List Int}{place other:Int}(hr:XT rf=true)(p0:0<=place)(p1:place<rf.Qb.length)(o0:0<=other)(o1:other<=1000000):(Y7 rf Qa place other=true->QX rf Qa place<=other)/\(Y7 rf Qa place other=false->other<QX rf Qa place):=by
 have Zm:=Qy (Q8 hr).1;obtain⟨a1,a2,a3,a4⟩:=D1 (p:=Y7 rf Qa place) (q:=fun _=>0) _ 0 1000001 0 rfl (by omega) (by omega) (fun r r' g1 g2 g3 h=>HW hr p0 p1 g1 g2 (by omega) h (by omega));have e:QX rf Qa place=(Jv (Y7 rf Qa place) (fun _=>0) 0 1000001 0).1:=rfl;constructor
 ·intro h;rcases Int.lt_or_le other (QX rf Qa place)with x|x
  ·have:=a3 other o0 (by omega);rw[h]at this;cases this
  ·exact x
 ·intro h;rcases Int.lt_or_le other (QX rf Qa place)with x|x
  ·exact x
  ·have:=a4 other (by omega) (by omega);rw[h]at this;cases this
theorem tp{X rf:Qe}{Qa:List Int}{place other:Int}(hX:X=XG rf place other)(h:∀k:Int,0<=k->k<X.Qb.length->(X.Qb.getD k.toNat default).goal<=(QR X Qa X.seasons.toNat).at k):Y7 rf Qa place other=false:=by
 subst hX;cases hb:Y7 rf Qa place other with
 |false=>rfl
 |true=>
  have hy:=pq (rf:=XG rf place other) (Qa:=Qa) hb;have:=h _ hy.1 hy.2.1;have e:=hy.2.2.2.1;simp only[Ve]at e;omega
theorem Ib{X rf:Qe}{Qa:List Int}{place other:Int}(hX:X=XG rf place other)(h:∃k:Int,0<=k/\k<X.Qb.length/\(QR X Qa X.seasons.toNat).at k<(X.Qb.getD k.toNat default).goal):Y7 rf Qa place other=true:=by
 subst hX;cases hb:Y7 rf Qa place other with
 |true=>rfl
 |false=>
  obtain⟨k,k0,k1,k2⟩:=h;have:=tR (rf:=XG rf place other) (Qa:=Qa) hb k k0 k1;simp only[Ve]at this;omega
theorem Mb{al:Bool}{ps:List Qd}{f:F4}{i:Int}(hal:al=true->∀k:Int,0<=k->k<i->(ps.getD k.toNat default).goal<=f.at k)(hq:al=true)(h:(ps.getD i.toNat default).goal<=f.at i):true=true->∀k:Int,0<=k->k<i+1->(ps.getD k.toNat default).goal<=f.at k:=fun _ k k0 k1=>by
 by_cases e:k=i
 ·subst e;exact h
 ·exact hal hq k k0 (by omega)
def T6(x_:Qd):Array Value:=#[.int .i64 x_.count,.int .i64 x_.room,.int .i64 x_.glo,.int .i64 x_.ghi,.int .i64 x_.drift,.int .i64 x_.into,.int .i64 x_.olo,.int .i64 x_.ohi,.int .i64 x_.slo,.int .i64 x_.shi,.int .i64 x_.goal,.int .i64 x_.worth]
def T5(rf:Qe)(place other:Int):Array Value:=let a:=List.getD (Zk rf place other) place.toNat default;#[.int .i64 a.count,.int .i64 a.room,.int .i64 a.glo,.int .i64 a.ghi,.int .i64 a.drift,.int .i64 a.into,.int .i64 a.olo,.int .i64 a.ohi,.int .i64 a.slo,.int .i64 a.shi,.int .i64 a.goal,.int .i64 a.worth]
def T4(rf:Qe)(place other:Int):Value:=let a:=List.getD (Zk rf place other) place.toNat default;(.agg #[.int .i64 (if a.olo<a.slo then a.olo else a.slo),.int .i64 (if a.ohi<a.shi then a.ohi else a.shi)])
def B7(rf:Qe)(Qa:List Int)(ps:List Qd):Array Value:=let c:=U1 {Qb:=ps,miss:=rf.miss,seasons:=rf.seasons};let b:=ZQ {Qb:=ps,miss:=rf.miss,seasons:=rf.seasons};let a:=ZF {Qb:=ps,miss:=rf.miss,seasons:=rf.seasons} Qa;#[QE c.length (Qg Q9 c),QE b.length (Qg QZ b),QE a.length (Qg QZ a)]
def oS(rf:Qe)(Qa:List Int)(t:Ql)(pn:Nat)(ps:List Qd):Array Value:=#[.agg #[QE pn (Qg Qh ps),.int .i64 rf.miss,.int .i64 rf.seasons],QE Qa.length (Qg Q9 Qa),.agg #[QE t.Qc.length (Qg Q9 t.Qc),QE t.Qi.length (Qg QZ t.Qi),QE t.Qj.length (Qg QZ t.Qj)]]
def dT(rf:Qe)(Qa:List Int):Array Value:=#[.agg #[QE rf.Qb.length (Qg Qh rf.Qb),.int .i64 rf.miss,.int .i64 rf.seasons],QE Qa.length (Qg Q9 Qa)]
def T3(rf:Qe)(place:Int):Array Value:=#[.int .i64 (Qd.olo (rf.Qb.getD place.toNat default)),.int .i64 (Qd.ohi (rf.Qb.getD place.toNat default))]
def T0(rf:Qe):Value:=(.agg #[.slice (some {block:=4,off:=0}) rf.Qb.length 12,.int .i64 rf.miss,.int .i64 rf.seasons])
def Tz(rf:Qe):Array Value:=#[QE rf.Qb.length (Qg Qh rf.Qb),.int .i64 rf.miss,.int .i64 rf.seasons]
def oR(rf:Qe)(pn:Nat)(ps:List Qd):Array Value:=#[QE pn (Qg Qh ps),.int .i64 rf.miss,.int .i64 rf.seasons]
def T7(rf:Qe)(Qa:List Int)(place other:Int)(t:Ql)(pn:Nat)(ps:List Qd):List Value:=[Qt 1 (QE Qa.length (Qg Q9 Qa)),.int .i64 other,pA 2 0,.int .i64 (if QX rf Qa place=0 then 0 else QX rf Qa place-1),.int .i64 (if QX rf Qa place=0 then 5 else 0),pA 3 0]
def P1(rf:Qe)(Qa:List Int)(place other:Int)(t:Ql)(pn:Nat)(ps:List Qd):List Obj:=[Obj.cells #[Qt 1 (QE t.Qc.length (Qg Q9 t.Qc)),Qt 1 (QE t.Qi.length (Qg QZ t.Qi)),Qt 1 (QE t.Qj.length (Qg QZ t.Qj))] 42,.cells (Qg (Zp 1 Oq) [⟨pn,ps,rf.miss,rf.seasons⟩]) 24 (0,0)]
def T8:List Item:=([.code [1,1,1,1,1,1,1,1,0],.code [1,1,1,1,1,1,1,1,1]]).map (it (QT YP 13))
def BK(B:Lo)(c0:CF)(rf:Qe)(Qa:List Int)(place other:Int)(t:Ql)(pn:Nat)(ps:List Qd):Prop:=∃dJ:Nat->Value,(∀t,X6 (dJ t))/\GoE YP B c0 XV 1 (QJ 13 225 (([1,3,9,11,12,13]:List Nat).zip (T7 rf Qa place other t pn ps)) dJ T8) (QH (P1 rf Qa place other t pn ps)) (2+(P1 rf Qa place other t pn ps).length) []
def ZM(rf:Qe)(Qa:List Int)(place other:Int)(t:Ql)(pn:Nat)(ps:List Qd)(al:Bool)(i:Int):List Value:=let a:=XB rf.seasons ps (ZQ {Qb:=ps,miss:=rf.miss,seasons:=rf.seasons}) (ZF {Qb:=ps,miss:=rf.miss,seasons:=rf.seasons} Qa) (Qu (U1 {Qb:=ps,miss:=rf.miss,seasons:=rf.seasons}));[Qt 1 (QE Qa.length (Qg Q9 Qa)),.int .i64 other,pA 2 0,.int .i64 (if QX rf Qa place=0 then 0 else QX rf Qa place-1),.int .i64 (if QX rf Qa place=0 then 5 else 0),pA 3 0,Qt 1 (QE a.length (Qg QZ a)),.bool al,.int .i64 i]
def Z9(rf:Qe)(Qa:List Int)(place other:Int)(t:Ql)(pn:Nat)(ps:List Qd)(al:Bool)(i:Int):List Obj:=[Obj.cells #[Qt 1 (QE t.Qc.length (Qg Q9 t.Qc)),Qt 1 (QE t.Qi.length (Qg QZ t.Qi)),Qt 1 (QE t.Qj.length (Qg QZ t.Qj))] 42,Obj.cells #[Qt 1 (QE (RX.n {n:=pn,l:=ps,mi:=rf.miss,se:=rf.seasons}) (Qg Qh (RX.l {n:=pn,l:=ps,mi:=rf.miss,se:=rf.seasons}))),.int .i64 (RX.mi {n:=pn,l:=ps,mi:=rf.miss,se:=rf.seasons}),.int .i64 (RX.se {n:=pn,l:=ps,mi:=rf.miss,se:=rf.seasons})] 24]
def ZN:List Item:=([.code [1,1,1,1,1,1,1,1,1,1,1,0,1,0,0],.inLoop [1,1,1,1,1,1,1,1,1,1,1,0,1,0,0],.inBlock 0,.code [1,1,1,1,1,1,1,1,1,1,1,1]]).map (it (QT YP 13))
def BJ(B:Lo)(c0:CF)(rf:Qe)(Qa:List Int)(place other:Int)(t:Ql)(pn:Nat)(ps:List Qd)(al:Bool)(i:Int):Prop:=∃dJ:Nat->Value,(∀t,X6 (dJ t))/\GoE YP B c0 XV 1 (QJ 13 225 (([1,3,9,11,12,13,15,18,19]:List Nat).zip (ZM rf Qa place other t pn ps al i)) dJ ZN) (QH (Z9 rf Qa place other t pn ps al i)) (2+(Z9 rf Qa place other t pn ps al i).length) []
def Y9(rf:Qe)(Qa:List Int)(place other:Int)(t:Ql)(pn:Nat)(ps:List Qd)(i:Int):List Value:=[pA 2 0,Qt 1 (QE (List.length (XB rf.seasons ps t.Qi t.Qj (Qu t.Qc))) (Qg QZ (XB rf.seasons ps t.Qi t.Qj (Qu t.Qc)))),.int .i64 i]
def K2(rf:Qe)(Qa:List Int)(place other:Int)(t:Ql)(pn:Nat)(ps:List Qd)(i:Int):List Obj:=[Obj.cells #[Qt 1 (QE (RX.n {n:=pn,l:=ps,mi:=rf.miss,se:=rf.seasons}) (Qg Qh (RX.l {n:=pn,l:=ps,mi:=rf.miss,se:=rf.seasons}))),.int .i64 (RX.mi {n:=pn,l:=ps,mi:=rf.miss,se:=rf.seasons}),.int .i64 (RX.se {n:=pn,l:=ps,mi:=rf.miss,se:=rf.seasons})] 24]
def YA:List Item:=([.code [1,1,1,1,1,1,1,1,1,1,1,1,1,1,1,1,0,1,0,0],.inLoop [1,1,1,1,1,1,1,1,1,1,1,1,1,1,1,1,0,1,0,0],.inBlock 2,.code [1,1,1,1,1,1,1,1,1,1,1,1,1,1,1,1,1]]).map (it (QT YP 13))
def BI(B:Lo)(c0:CF)(rf:Qe)(Qa:List Int)(place other:Int)(t:Ql)(pn:Nat)(ps:List Qd)(i:Int):Prop:=∃dJ:Nat->Value,(∀t,X6 (dJ t))/\GoE YP B c0 XV 1 (QJ 13 225 (([13,20,23]:List Nat).zip (Y9 rf Qa place other t pn ps i)) dJ YA) (QH (K2 rf Qa place other t pn ps i)) (2+(K2 rf Qa place other t pn ps i).length) []
theorem BH(B:Lo)(rf:Qe)(Qa:List Int)(place other:Int)(t:Ql)(pn:Nat)(ps:List Qd)(Qn:Nat->Value):let i:=oR rf pn ps;let h:=P1 rf Qa place other t pn ps;let g:=B7 rf Qa ps;let f:=rf.seasons;let e:=ZQ {Qb:=ps,miss:=rf.miss,seasons:=rf.seasons};let d:=ZF {Qb:=ps,miss:=rf.miss,seasons:=rf.seasons} Qa;let c:=Qu (U1 {Qb:=ps,miss:=rf.miss,seasons:=rf.seasons});let b:=XB f ps e d c;let a:=Value.tuple #[QE b.length (Qg QZ b),.agg #[.int .i64 c.sum,.int .i64 (Xb 0 f (Ul ps e d c)),.int .i64 (Xb 0 f (Wv ps e d c)),.int .i64 (Xb 0 f (Ug ps e d c)),.int .i64 (F4.sum (Yn ps e d c f.toNat))],.int .i64 0];landM (Qq YP (Q3 YP) J0 B 13 1 (QJ 13 225 (([1,3,9,11,12,13]:List Nat).zip (T7 rf Qa place other t pn ps)) Qn T8) (QH h) (2+h.length)
 [(4,Qk.pure (.agg g) []),(5,Qk.pure a []),(19,Qk.pure (.bool true) [])] 0 [] []) [1,3,9,11,12,13,15,18,19] [(2,KS.auto),(3,KS.auto)] []=some ⟨13,225,ZN,[],.run,none,ZM rf Qa place other t (pn) (ps) (true) (0),Z9 rf Qa place other t (pn) (ps) (true) (0),
 [Qz []/\Qx YP J0 31 #[.agg i,QE b.length (Qg QZ b)] (.bool true),Qz []/\Qx YP J0 26 #[.agg i,QE Qa.length (Qg Q9 Qa),.agg g] a,Qz []/\Qx YP J0 34 #[.agg i,QE Qa.length (Qg Q9 Qa),.bool false] (.agg g)]⟩:=by intro i h g f e d c b a;kernel_rfl
def eh(B:Lo)(rf:Qe)(Qa:List Int)(place other:Int)(t:Ql)(pn:Nat)(ps:List Qd)  (i:Int)(Qn:Nat->Value):List Prop:=let d:=Int.toNat i;let c:=rf.seasons-1;let a:=XB rf.seasons ps (ZQ {Qb:=ps,miss:=rf.miss,seasons:=rf.seasons}) (ZF {Qb:=ps,miss:=rf.miss,seasons:=rf.seasons} Qa) (Qu (U1 {Qb:=ps,miss:=rf.miss,seasons:=rf.seasons}));let b:=a.getD c.toNat default;[i=(↑d:Int)/\Int.toNat i<pn/\Array.extract (Qg Qh ps) (Int.toNat i*TypeInfo.size Try.t54) (Int.toNat i*TypeInfo.size Try.t54+TypeInfo.size Try.t54)=(T6 (ps.getD d default)),i=(↑d:Int)/\Int.toNat i<List.length b/\Array.extract (Qg Q9 b) (Int.toNat i*TypeInfo.size Try.t3) (Int.toNat i*TypeInfo.size Try.t3+TypeInfo.size Try.t3)=#[.int .i64 (b.getD d default)],rf.seasons-1=(↑c.toNat:Int)/\Int.toNat c<List.length a/\Array.extract (Qg QZ a) (Int.toNat c*TypeInfo.size Try.t25) (Int.toNat c*TypeInfo.size Try.t25+TypeInfo.size Try.t25)=#[QE b.length (Qg Q9 b)],wq c=rf.seasons-1,XU i (↑pn:Int)=true]++([]:List Prop)
def pf(rf:Qe)(Qa:List Int)(place other:Int)(t:Ql)(pn:Nat)(ps:List Qd)  (i:Int)(Qn:Nat->Value):Q5:=let c:=Int.toNat i;let b:=rf.seasons-1;let a:=List.getD (XB rf.seasons ps (ZQ {Qb:=ps,miss:=rf.miss,seasons:=rf.seasons}) (ZF {Qb:=ps,miss:=rf.miss,seasons:=rf.seasons} Qa) (Qu (U1 {Qb:=ps,miss:=rf.miss,seasons:=rf.seasons}))) b.toNat default;[(4,Wo),(10,VE b),(11,Qk.tidx b.toNat #[QE a.length (Qg Q9 a)]),(14,Qk.tidx c #[.int .i64 (a.getD c default)]),(19,Qk.tidx c (T6 (ps.getD c default)))]
theorem BG(B:Lo)(rf:Qe)(Qa:List Int)(place other:Int)(t:Ql)(pn:Nat)(ps:List Qd)  (i:Int)(Qn:Nat->Value):let a:=Z9 rf Qa place other t pn ps true i;landM (Qq YP (Q3 YP) J0 B 11 1 (QJ 13 225 (([1,3,9,11,12,13,15,18,19]:List Nat).zip (ZM rf Qa place other t pn ps true i)) Qn ZN) (QH a) (2+a.length)
 (pf rf Qa place other t pn ps i Qn++[(22,Wo),(26,VE (i+1))]) 0 [] []) [1,3,9,11,12,13,15,18,19] [(2,KS.auto),(3,KS.auto)] []=some ⟨13,225,ZN,[],.run,none,ZM rf Qa place other t (pn) (ps) (true) (i+1),Z9 rf Qa place other t (pn) (ps) (true) (i+1),
 [wq (i+1)=i+1,(!XU (List.getD (List.getD (XB rf.seasons ps (ZQ {Qb:=ps,miss:=rf.miss,seasons:=rf.seasons}) (ZF {Qb:=ps,miss:=rf.miss,seasons:=rf.seasons} Qa) (Qu (U1 {Qb:=ps,miss:=rf.miss,seasons:=rf.seasons}))) (Int.toNat (rf.seasons-1)) default) i.toNat default) (Qd.goal (ps.getD i.toNat default)))=true]++eh B rf Qa place other t pn ps i Qn⟩:=by intro a;kernel_rfl
theorem BF(B:Lo)(rf:Qe)(Qa:List Int)(place other:Int)(t:Ql)(pn:Nat)(ps:List Qd)  (i:Int)(Qn:Nat->Value):let a:=Z9 rf Qa place other t pn ps true i;landM (Qq YP (Q3 YP) J0 B 11 1 (QJ 13 225 (([1,3,9,11,12,13,15,18,19]:List Nat).zip (ZM rf Qa place other t pn ps true i)) Qn ZN) (QH a) (2+a.length)
 (pf rf Qa place other t pn ps i Qn++[(22,W8),(26,VE (i+1))]) 0 [] []) [1,3,9,11,12,13,15,18,19] [(2,KS.auto),(3,KS.auto)] []=some ⟨13,225,ZN,[],.run,none,ZM rf Qa place other t (pn) (ps) (false) (i+1),Z9 rf Qa place other t (pn) (ps) (false) (i+1),
 [wq (i+1)=i+1,(!XU (List.getD (List.getD (XB rf.seasons ps (ZQ {Qb:=ps,miss:=rf.miss,seasons:=rf.seasons}) (ZF {Qb:=ps,miss:=rf.miss,seasons:=rf.seasons} Qa) (Qu (U1 {Qb:=ps,miss:=rf.miss,seasons:=rf.seasons}))) (Int.toNat (rf.seasons-1)) default) i.toNat default) (Qd.goal (ps.getD i.toNat default)))=false]++eh B rf Qa place other t pn ps i Qn⟩:=by intro a;kernel_rfl
def eg(B:Lo)(rf:Qe)(Qa:List Int)(place other:Int)(t:Ql)(pn:Nat)(ps:List Qd)  (i:Int)(Qn:Nat->Value):List Prop:=[XU i (↑pn:Int)=false]++([]:List Prop)
def pc(rf:Qe)(Qa:List Int)(place other:Int)(t:Ql)(pn:Nat)(ps:List Qd)  (i:Int)(Qn:Nat->Value):Q5:=[(4,W8)]
def ef(B:Lo)(rf:Qe)(Qa:List Int)(place other:Int)(t:Ql)(pn:Nat)(ps:List Qd)  (i:Int)(Qn:Nat->Value):List Prop:=[Km (if QX rf Qa place=0 then 5 else 0) 0=true]++eg B rf Qa place other t pn ps i Qn
def oZ(rf:Qe)(Qa:List Int)(place other:Int)(t:Ql)(pn:Nat)(ps:List Qd)  (i:Int)(Qn:Nat->Value):Q5:=pc rf Qa place other t pn ps i Qn++[(7,Wo)]
def ee(B:Lo)(rf:Qe)(Qa:List Int)(place other:Int)(t:Ql)(pn:Nat)(ps:List Qd)  (i:Int)(Qn:Nat->Value):List Prop:=[(!XU (if QX rf Qa place=0 then 0 else QX rf Qa place-1) other)=true]++ef B rf Qa place other t pn ps i Qn
def oY(rf:Qe)(Qa:List Int)(place other:Int)(t:Ql)(pn:Nat)(ps:List Qd)  (i:Int)(Qn:Nat->Value):Q5:=oZ rf Qa place other t pn ps i Qn++[(11,Wo)]
theorem BE(B:Lo)(rf:Qe)(Qa:List Int)(place other:Int)(t:Ql)(pn:Nat)(ps:List Qd)  (i:Int)(Qn:Nat->Value):let j:=oS rf Qa t pn ps;let h:=Z9 rf Qa place other t pn ps true i;let g:=Value.bool true;let f:=t.Qj;let e:=t.Qi;let d:=rf.seasons;let c:=Qu t.Qc;let b:=XB d ps e f c;let a:=Value.tuple #[QE b.length (Qg QZ b),.agg #[.int .i64 c.sum,.int .i64 (Xb 0 d (Ul ps e f c)),.int .i64 (Xb 0 d (Wv ps e f c)),.int .i64 (Xb 0 d (Ug ps e f c)),.int .i64 (F4.sum (Yn ps e f c d.toNat))],.int .i64 0];landM (Qq YP (Q3 YP) J0 B 27 1 (QJ 13 225 (([1,3,9,11,12,13,15,18,19]:List Nat).zip (ZM rf Qa place other t pn ps true i)) Qn ZN) (QH h) (2+h.length)
 (oY rf Qa place other t pn ps i Qn++[(20,Qk.pure g []),(26,Qk.pure a []),(40,Qk.pure g [])]) 0 [] []) [13,20,23] [(3,KS.auto)] []=some ⟨13,225,YA,[],.run,none,Y9 rf Qa place other t (pn) (ps) (0),K2 rf Qa place other t (pn) (ps) (0),
 [Qz []/\Qx YP J0 31 #[.agg (oR rf pn ps),QE b.length (Qg QZ b)] g,Qz []/\Qx YP J0 26 j a,Qz []/\Qx YP J0 27 j g]++ee B rf Qa place other t pn ps i Qn⟩:=by intro j h g f e d c b a;kernel_rfl
theorem BD(B:Lo)(rf:Qe)(Qa:List Int)(place other:Int)(t:Ql)(pn:Nat)(ps:List Qd)  (i:Int)(Qn:Nat->Value):let a:=Z9 rf Qa place other t pn ps true i;QQ (Qq YP (Q3 YP) J0 B 18 1 (QJ 13 225 (([1,3,9,11,12,13,15,18,19]:List Nat).zip (ZM rf Qa place other t pn ps true i)) Qn ZN) (QH a) (2+a.length)
 (oY rf Qa place other t pn ps i Qn++[(20,Qk.pure (.bool false) []),(23,Qk.pure (.bool true) [])]) 0 [] []) []=some (.bool true,
 [Qz []/\Qx YP J0 16 #[] (.bool true),Qz []/\Qx YP J0 27 (oS rf Qa t pn ps) (.bool false)]++ee B rf Qa place other t pn ps i Qn):=by intro a;kernel_rfl
theorem BC(B:Lo)(rf:Qe)(Qa:List Int)(place other:Int)(t:Ql)(pn:Nat)(ps:List Qd)  (i:Int)(Qn:Nat->Value):let a:=Z9 rf Qa place other t pn ps true i;QQ (Qq YP (Q3 YP) J0 B 13 1 (QJ 13 225 (([1,3,9,11,12,13,15,18,19]:List Nat).zip (ZM rf Qa place other t pn ps true i)) Qn ZN) (QH a) (2+a.length)
 (oZ rf Qa place other t pn ps i Qn++[(11,W8)]) 0 [] []) []=some (.bool false,
 [(!XU (if QX rf Qa place=0 then 0 else QX rf Qa place-1) other)=false]++ef B rf Qa place other t pn ps i Qn):=by intro a;kernel_rfl
theorem BB(B:Lo)(rf:Qe)(Qa:List Int)(place other:Int)(t:Ql)(pn:Nat)(ps:List Qd)  (i:Int)(Qn:Nat->Value):let a:=Z9 rf Qa place other t pn ps true i;QQ (Qq YP (Q3 YP) J0 B 13 1 (QJ 13 225 (([1,3,9,11,12,13,15,18,19]:List Nat).zip (ZM rf Qa place other t pn ps true i)) Qn ZN) (QH a) (2+a.length)
 (pc rf Qa place other t pn ps i Qn++[(7,W8)]) 0 [] []) []=some (.bool false,
 [Km (if QX rf Qa place=0 then 5 else 0) 0=false]++eg B rf Qa place other t pn ps i Qn):=by intro a;kernel_rfl
theorem BA(B:Lo)(rf:Qe)(Qa:List Int)(place other:Int)(t:Ql)(pn:Nat)(ps:List Qd)  (i:Int)(Qn:Nat->Value):let a:=Z9 rf Qa place other t pn ps false i;landM (Qq YP (Q3 YP) J0 B 11 1 (QJ 13 225 (([1,3,9,11,12,13,15,18,19]:List Nat).zip (ZM rf Qa place other t pn ps false i)) Qn ZN) (QH a) (2+a.length)
 [(4,Wo),(26,VE (i+1))] 0 [] []) [1,3,9,11,12,13,15,18,19] [(2,KS.auto),(3,KS.auto)] []=some ⟨13,225,ZN,[],.run,none,ZM rf Qa place other t (pn) (ps) (false) (i+1),Z9 rf Qa place other t (pn) (ps) (false) (i+1),
 [wq (i+1)=i+1,XU i (↑pn:Int)=true]⟩:=by intro a;kernel_rfl
def dZ(B:Lo)(rf:Qe)(Qa:List Int)(place other:Int)(t:Ql)(pn:Nat)(ps:List Qd)  (i:Int)(Qn:Nat->Value):List Prop:=[XU i (↑pn:Int)=false]++([]:List Prop)
def oX(rf:Qe)(Qa:List Int)(place other:Int)(t:Ql)(pn:Nat)(ps:List Qd)  (i:Int)(Qn:Nat->Value):Q5:=[(4,W8)]
def dY(B:Lo)(rf:Qe)(Qa:List Int)(place other:Int)(t:Ql)(pn:Nat)(ps:List Qd)  (i:Int)(Qn:Nat->Value):List Prop:=[Km (if QX rf Qa place=0 then 5 else 0) 0=true]++dZ B rf Qa place other t pn ps i Qn
def oW(rf:Qe)(Qa:List Int)(place other:Int)(t:Ql)(pn:Nat)(ps:List Qd)  (i:Int)(Qn:Nat->Value):Q5:=oX rf Qa place other t pn ps i Qn++[(7,Wo)]
theorem B9(B:Lo)(rf:Qe)(Qa:List Int)(place other:Int)(t:Ql)(pn:Nat)(ps:List Qd)  (i:Int)(Qn:Nat->Value):let a:=Z9 rf Qa place other t pn ps false i;QQ (Qq YP (Q3 YP) J0 B 13 1 (QJ 13 225 (([1,3,9,11,12,13,15,18,19]:List Nat).zip (ZM rf Qa place other t pn ps false i)) Qn ZN) (QH a) (2+a.length)
 (oW rf Qa place other t pn ps i Qn++[(11,Wo)]) 0 [] []) []=some (.bool false,
 [(!XU (if QX rf Qa place=0 then 0 else QX rf Qa place-1) other)=true]++dY B rf Qa place other t pn ps i Qn):=by intro a;kernel_rfl
theorem B8(B:Lo)(rf:Qe)(Qa:List Int)(place other:Int)(t:Ql)(pn:Nat)(ps:List Qd)  (i:Int)(Qn:Nat->Value):let a:=Z9 rf Qa place other t pn ps false i;QQ (Qq YP (Q3 YP) J0 B 18 1 (QJ 13 225 (([1,3,9,11,12,13,15,18,19]:List Nat).zip (ZM rf Qa place other t pn ps false i)) Qn ZN) (QH a) (2+a.length)
 (oW rf Qa place other t pn ps i Qn++[(11,W8),(23,Qk.pure (.bool true) [])]) 0 [] []) []=some (.bool true,
 [Qz []/\Qx YP J0 16 #[] (.bool true),(!XU (if QX rf Qa place=0 then 0 else QX rf Qa place-1) other)=false]++dY B rf Qa place other t pn ps i Qn):=by intro a;kernel_rfl
theorem yP(B:Lo)(rf:Qe)(Qa:List Int)(place other:Int)(t:Ql)(pn:Nat)(ps:List Qd)  (i:Int)(Qn:Nat->Value):let a:=Z9 rf Qa place other t pn ps false i;QQ (Qq YP (Q3 YP) J0 B 18 1 (QJ 13 225 (([1,3,9,11,12,13,15,18,19]:List Nat).zip (ZM rf Qa place other t pn ps false i)) Qn ZN) (QH a) (2+a.length)
 (oX rf Qa place other t pn ps i Qn++[(7,W8),(23,Qk.pure (.bool true) [])]) 0 [] []) []=some (.bool true,
 [Qz []/\Qx YP J0 16 #[] (.bool true),Km (if QX rf Qa place=0 then 5 else 0) 0=false]++dZ B rf Qa place other t pn ps i Qn):=by intro a;kernel_rfl
def dX(B:Lo)(rf:Qe)(Qa:List Int)(place other:Int)(t:Ql)(pn:Nat)(ps:List Qd)(i:Int)(Qn:Nat->Value):List Prop:=let d:=Int.toNat i;let c:=rf.seasons-1;let b:=XB rf.seasons ps t.Qi t.Qj (Qu t.Qc);let a:=b.getD c.toNat default;[i=(↑d:Int)/\Int.toNat i<pn/\Array.extract (Qg Qh ps) (Int.toNat i*TypeInfo.size Try.t54) (Int.toNat i*TypeInfo.size Try.t54+TypeInfo.size Try.t54)=(T6 (ps.getD d default)),i=(↑d:Int)/\Int.toNat i<List.length a/\Array.extract (Qg Q9 a) (Int.toNat i*TypeInfo.size Try.t3) (Int.toNat i*TypeInfo.size Try.t3+TypeInfo.size Try.t3)=#[.int .i64 (a.getD d default)],rf.seasons-1=(↑c.toNat:Int)/\Int.toNat c<List.length b/\Array.extract (Qg QZ b) (Int.toNat c*TypeInfo.size Try.t25) (Int.toNat c*TypeInfo.size Try.t25+TypeInfo.size Try.t25)=#[QE a.length (Qg Q9 a)],wq c=rf.seasons-1,XU i (↑pn:Int)=true]++([]:List Prop)
def oV(rf:Qe)(Qa:List Int)(place other:Int)(t:Ql)(pn:Nat)(ps:List Qd)(i:Int)(Qn:Nat->Value):Q5:=let c:=Int.toNat i;let b:=rf.seasons-1;let a:=List.getD (XB rf.seasons ps t.Qi t.Qj (Qu t.Qc)) b.toNat default;[(4,Wo),(8,VE b),(9,Qk.tidx b.toNat #[QE a.length (Qg Q9 a)]),(12,Qk.tidx c #[.int .i64 (a.getD c default)]),(17,Qk.tidx c (T6 (ps.getD c default)))]
theorem yO(B:Lo)(rf:Qe)(Qa:List Int)(place other:Int)(t:Ql)(pn:Nat)(ps:List Qd)(i:Int)(Qn:Nat->Value):let a:=K2 rf Qa place other t pn ps i;QQ (Qq YP (Q3 YP) J0 B 14 1 (QJ 13 225 (([13,20,23]:List Nat).zip (Y9 rf Qa place other t pn ps i)) Qn YA) (QH a) (2+a.length)
 (oV rf Qa place other t pn ps i Qn++[(20,Wo)]) 0 [] []) []=some (.bool false,
 [XU (List.getD (List.getD (XB rf.seasons ps t.Qi t.Qj (Qu t.Qc)) (Int.toNat (rf.seasons-1)) default) i.toNat default) (Qd.goal (ps.getD i.toNat default))=true]++dX B rf Qa place other t pn ps i Qn):=by intro a;kernel_rfl
theorem yN(B:Lo)(rf:Qe)(Qa:List Int)(place other:Int)(t:Ql)(pn:Nat)(ps:List Qd)(i:Int)(Qn:Nat->Value):let a:=K2 rf Qa place other t pn ps i;landM (Qq YP (Q3 YP) J0 B 14 1 (QJ 13 225 (([13,20,23]:List Nat).zip (Y9 rf Qa place other t pn ps i)) Qn YA) (QH a) (2+a.length)
 (oV rf Qa place other t pn ps i Qn++[(20,W8),(22,VE (i+1))]) 0 [] []) [13,20,23] [(2,KS.auto)] []=some ⟨13,225,YA,[],.run,none,Y9 rf Qa place other t (pn) (ps) (i+1),K2 rf Qa place other t (pn) (ps) (i+1),
 [wq (i+1)=i+1,XU (List.getD (List.getD (XB rf.seasons ps t.Qi t.Qj (Qu t.Qc)) (Int.toNat (rf.seasons-1)) default) i.toNat default) (Qd.goal (ps.getD i.toNat default))=false]++dX B rf Qa place other t pn ps i Qn⟩:=by intro a;kernel_rfl
theorem yM(B:Lo)(rf:Qe)(Qa:List Int)(place other:Int)(t:Ql)(pn:Nat)(ps:List Qd)(i:Int)(Qn:Nat->Value):let a:=K2 rf Qa place other t pn ps i;QQ (Qq YP (Q3 YP) J0 B 9 1 (QJ 13 225 (([13,20,23]:List Nat).zip (Y9 rf Qa place other t pn ps i)) Qn YA) (QH a) (2+a.length)
 [(4,W8),(5,Qk.pure (.bool true) [])] 0 [] []) []=some (.bool true,
 [Qz []/\Qx YP J0 16 #[] (.bool true),XU i (↑pn:Int)=false]):=by intro a;kernel_rfl
def dW(B:Lo)(rf:Qe)(Qa:List Int)(place other:Int)(t:Ql):List Prop:=[Qz []/\Qx YP J0 15 #[.agg (Tz rf)] (.bool true)]++([]:List Prop)
def oU(rf:Qe)(Qa:List Int)(place other:Int)(t:Ql):Q5:=[(4,Qk.pure (.bool true) [])]
theorem yL(B:Lo)(rf:Qe)(Qa:List Int)(place other:Int)(t:Ql):QQ (Qq YP (Q3 YP) J0 B 10 1 (Qp YP 13 225 (([.agg (Q0 rf).toArray,Xr Qa,.int .i64 place,.int .i64 other,.agg #[Xr t.Qc,X8 t.Qi,X8 t.Qj]]).map (Q2 0 4))) XV 1
 (oU rf Qa place other t++[(9,Wo),(41,Qk.pure (.bool true) [])]) 0 [] []) []=some (.bool true,
 [Qz []/\Qx YP J0 16 #[] (.bool true),XU 8 (↑Qa.length:Int)=true]++dW B rf Qa place other t):=by kernel_rfl
def T9(B:Lo)(rf:Qe)(Qa:List Int)(place other:Int)(t:Ql):List Prop:=[XU 8 (↑Qa.length:Int)=false]++dW B rf Qa place other t
def dU(rf:Qe)(Qa:List Int)(place other:Int)(t:Ql):Q5:=oU rf Qa place other t++[(9,W8)]
def dV(B:Lo)(rf:Qe)(Qa:List Int)(place other:Int)(t:Ql):List Prop:=[Qz []/\Qx YP J0 21 (dT rf Qa) (.bool true)]++T9 B rf Qa place other t
def oT(rf:Qe)(Qa:List Int)(place other:Int)(t:Ql):Q5:=dU rf Qa place other t++[(14,Qk.pure (.bool true) [])]
def bh(B:Lo)(rf:Qe)(Qa:List Int)(place other:Int)(t:Ql):List Prop:=[Qz []/\Qx YP J0 25 #[.agg #[QE t.Qc.length (Qg Q9 t.Qc),QE t.Qi.length (Qg QZ t.Qi),QE t.Qj.length (Qg QZ t.Qj)]] (.bool true)]++dV B rf Qa place other t
def jQ(rf:Qe)(Qa:List Int)(place other:Int)(t:Ql):Q5:=oT rf Qa place other t++[(19,Qk.pure (.bool true) [])]
theorem yK(B:Lo)(rf:Qe)(Qa:List Int)(place other:Int)(t:Ql):QQ (Qq YP (Q3 YP) J0 B 10 1 (Qp YP 13 225 (([.agg (Q0 rf).toArray,Xr Qa,.int .i64 place,.int .i64 other,.agg #[Xr t.Qc,X8 t.Qi,X8 t.Qj]]).map (Q2 0 4))) XV 1
 (jQ rf Qa place other t++[(24,Wo),(41,Qk.pure (.bool true) [])]) 0 [] []) []=some (.bool true,
 [Qz []/\Qx YP J0 16 #[] (.bool true),XU place 0=true]++bh B rf Qa place other t):=by kernel_rfl
def bg(B:Lo)(rf:Qe)(Qa:List Int)(place other:Int)(t:Ql):List Prop:=[XU place 0=false]++bh B rf Qa place other t
def jP(rf:Qe)(Qa:List Int)(place other:Int)(t:Ql):Q5:=jQ rf Qa place other t++[(24,W8)]
theorem yJ(B:Lo)(rf:Qe)(Qa:List Int)(place other:Int)(t:Ql):QQ (Qq YP (Q3 YP) J0 B 10 1 (Qp YP 13 225 (([.agg (Q0 rf).toArray,Xr Qa,.int .i64 place,.int .i64 other,.agg #[Xr t.Qc,X8 t.Qi,X8 t.Qj]]).map (Q2 0 4))) XV 1
 (jP rf Qa place other t++[(31,Wo),(41,Qk.pure (.bool true) [])]) 0 [] []) []=some (.bool true,
 [Qz []/\Qx YP J0 16 #[] (.bool true),(!XU place (↑rf.Qb.length:Int))=true]++bg B rf Qa place other t):=by kernel_rfl
def bf(B:Lo)(rf:Qe)(Qa:List Int)(place other:Int)(t:Ql):List Prop:=[(!XU place (↑rf.Qb.length:Int))=false]++bg B rf Qa place other t
def jO(rf:Qe)(Qa:List Int)(place other:Int)(t:Ql):Q5:=jP rf Qa place other t++[(31,W8)]
theorem yI(B:Lo)(rf:Qe)(Qa:List Int)(place other:Int)(t:Ql):QQ (Qq YP (Q3 YP) J0 B 10 1 (Qp YP 13 225 (([.agg (Q0 rf).toArray,Xr Qa,.int .i64 place,.int .i64 other,.agg #[Xr t.Qc,X8 t.Qi,X8 t.Qj]]).map (Q2 0 4))) XV 1
 (jO rf Qa place other t++[(35,Wo),(41,Qk.pure (.bool true) [])]) 0 [] []) []=some (.bool true,
 [Qz []/\Qx YP J0 16 #[] (.bool true),XU other 0=true]++bf B rf Qa place other t):=by kernel_rfl
def bd(B:Lo)(rf:Qe)(Qa:List Int)(place other:Int)(t:Ql):List Prop:=[XU other 0=false]++bf B rf Qa place other t
def jN(rf:Qe)(Qa:List Int)(place other:Int)(t:Ql):Q5:=jO rf Qa place other t++[(35,W8)]
theorem yH(B:Lo)(rf:Qe)(Qa:List Int)(place other:Int)(t:Ql):QQ (Qq YP (Q3 YP) J0 B 10 1 (Qp YP 13 225 (([.agg (Q0 rf).toArray,Xr Qa,.int .i64 place,.int .i64 other,.agg #[Xr t.Qc,X8 t.Qi,X8 t.Qj]]).map (Q2 0 4))) XV 1
 (jN rf Qa place other t++[(39,Wo),(41,Qk.pure (.bool true) [])]) 0 [] []) []=some (.bool true,
 [Qz []/\Qx YP J0 16 #[] (.bool true),XU 1000000 other=true]++bd B rf Qa place other t):=by kernel_rfl
def bc(B:Lo)(rf:Qe)(Qa:List Int)(place other:Int)(t:Ql):List Prop:=[XU 1000000 other=false]++bd B rf Qa place other t
def jM(rf:Qe)(Qa:List Int)(place other:Int)(t:Ql):Q5:=jN rf Qa place other t++[(39,W8)]
def ba(B:Lo)(rf:Qe)(Qa:List Int)(place other:Int)(t:Ql):List Prop:=[Qz []/\Qx YP J0 43 #[.agg (Tz rf),QE Qa.length (Qg Q9 Qa),.int .i64 place] (.tuple #[.int .i64 (if QX rf Qa place=0 then 0 else QX rf Qa place-1),.int .i64 (if QX rf Qa place=0 then 5 else 0)])]++bc B rf Qa place other t
def jL(rf:Qe)(Qa:List Int)(place other:Int)(t:Ql):Q5:=jM rf Qa place other t++[(44,Qk.pure (.tuple #[.int .i64 (if QX rf Qa place=0 then 0 else QX rf Qa place-1),.int .i64 (if QX rf Qa place=0 then 5 else 0)]) [])]
def jT(B:Lo)(rf:Qe)(Qa:List Int)(place other:Int)(t:Ql):List Prop:=[(!Km (if QX rf Qa place=0 then 5 else 0) 0)=true]++ba B rf Qa place other t
def jK(rf:Qe)(Qa:List Int)(place other:Int)(t:Ql):Q5:=let a:=Hint.idx place.toNat;jL rf Qa place other t++[(51,Wo),(54,W8),(59,Qk.call (List.range 3) (OO.ret (T0 rf)) ([]++(3,Xa)::QU 4 [Obj.cells (Qg Qh (Zk rf place other)) 54]) 5 []),(65,Qk.ZH a),(66,Qk.ZH (Hint.ld (.agg (T5 rf place other)))),(86,Qk.pure (T4 rf place other) []),(87,Qk.ZH a),(89,Qk.ZH (Hint.st (Qg Qh (xo rf place other))))]
def jS(B:Lo)(rf:Qe)(Qa:List Int)(place other:Int)(t:Ql):List Prop:=[(!Km (if QX rf Qa place=0 then 5 else 0) 5)=false]++jT B rf Qa place other t
def P3(rf:Qe)(Qa:List Int)(place other:Int)(t:Ql):Qo:=[(2,Obj.cells #[Qt 0 (QE t.Qc.length (Qg Q9 t.Qc)),Qt 0 (QE t.Qi.length (Qg QZ t.Qi)),Qt 0 (QE t.Qj.length (Qg QZ t.Qj))] 42),(1,Obj.cells #[Qt 0 (QE rf.Qb.length (Qg Qh rf.Qb)),.int .i64 rf.miss,.int .i64 rf.seasons] 24),(0,Obj.coro none)]
def TB(rf:Qe)(Qa:List Int)(place other:Int)(t:Ql):CF:=⟨45,ofList 35 [.agg #[Qt 0 (QE rf.Qb.length (Qg Qh rf.Qb)),.int .i64 rf.miss,.int .i64 rf.seasons],.int .i64 place,.int .i64 other],[Item.code (QT YP 45)],[],.run,none⟩
theorem yG(B:Lo)(rf:Qe)(Qa:List Int)(place other:Int)(t:Ql):let f:=0+Int.toNat place*12+6;let e:=Int.toNat place;let b:=Qg Qh (Zk rf place other);let a:=rf.Qb;let d:=a.getD e default;let c:=Qg Qh a;CE.finK 3 (Qq YP (Q3 YP) J0 B 14 3 (TB rf Qa place other t) (P3 rf Qa place other t) 3
 [(7,Qk.tapp c),(13,Qk.ZH (Hint.idx e)),(15,Qk.ZH (Hint.ld (.agg (T3 rf place)))),(30,Qk.ZH (Hint.idx e)),(32,Qk.ZH (Hint.st b))] 0 [] []) [] [(6,KS.cells [] b)] []=some (OO.ret (.agg #[.slice (some {block:=4,off:=0}) a.length 12,.int .i64 rf.miss,.int .i64 rf.seasons]),[],[Obj.cells b 54],
 [XA 3 [] b b,0+Int.toNat place*12+6+TypeInfo.size Try.t38<=Array.size c/\splice c f (Value.cells (X7 {len:=16000,tr:=Tri.set 14 (Tri.set 14 Tri.lf 31 (.agg #[.int .i64 (if other<d.olo then other else d.olo),.int .i64 (if other<d.ohi then other else d.ohi)])) 33 (.pointer (some {block:=6,off:=0+Int.toNat place*12+6}))} 31))=Qg Qh (Zk rf place other),place=(↑e:Int)/\Int.toNat place<List.length a,0+Int.toNat place*12+6+TypeInfo.size Try.t38<=Array.size c/\Array.extract c f (0+Int.toNat place*12+6+TypeInfo.size Try.t38)=(T3 rf place),place=(↑e:Int)/\Int.toNat place<List.length a,0<List.length a/\List.length a<=maxLen/\List.length a*96<=140737488355328/\Array.size c=List.length a*(11+1)/\Array.map (ZA 0) c=Qg Qh a/\(Array.all c fun v=>simple v || W6 v)=true/\ones c=true]):=by intro f e b a d c;kernel_rfl
def aZ(B:Lo)(rf:Qe)(Qa:List Int)(place other:Int)(t:Ql):List Prop:=let d:=T4 rf place other;let c:=Int.toNat place;let b:=Qg Qh (Zk rf place other);let a:=List.getD (Zk rf place other) c default;[0+Int.toNat place*12+8+TypeInfo.size Try.t38<=Array.size b/\splice b (0+Int.toNat place*12+8) (Value.cells (X7 {len:=16000,tr:=Tri.set 14 (Tri.set 14 Tri.lf 102 d) 104 (.pointer (some {block:=4,off:=0+Int.toNat place*12+8}))} 102))=Qg Qh (xo rf place other),place=(↑c:Int)/\Int.toNat place<List.length rf.Qb,Qz []/\Qx YP J0 46 #[.int .i64 (if a.olo<a.slo then a.olo else a.slo),.int .i64 (if a.ohi<a.shi then a.ohi else a.shi)] d,0+Int.toNat place*12+TypeInfo.size Try.t54<=Array.size b/\Array.extract b (0+Int.toNat place*12) (0+Int.toNat place*12+TypeInfo.size Try.t54)=(T5 rf place other),place=(↑c:Int)/\Int.toNat place<List.length rf.Qb,FJ YP B (TB rf Qa place other t) (P3 rf Qa place other t) 3 (OO.ret (T0 rf)) (([]++((3,Xa)::QU (3+1) [Obj.cells b 54]))++P3 rf Qa place other t) 5 (List.range 3) []]++jS B rf Qa place other t
theorem yF(B:Lo)(rf:Qe)(Qa:List Int)(place other:Int)(t:Ql):let a:=List.getD (Zk rf place other) place.toNat default;QQ (Qq YP (Q3 YP) J0 B 28 1 (Qp YP 13 225 (([.agg (Q0 rf).toArray,Xr Qa,.int .i64 place,.int .i64 other,.agg #[Xr t.Qc,X8 t.Qi,X8 t.Qj]]).map (Q2 0 4))) XV 1
 (jK rf Qa place other t++[(96,Wo),(106,Qk.pure (.bool true) [])]) 0 [] []) []=some (.bool true,
 [Qz []/\Qx YP J0 16 #[] (.bool true),XU a.ohi a.shi=true]++aZ B rf Qa place other t):=by intro a;kernel_rfl
def aY(B:Lo)(rf:Qe)(Qa:List Int)(place other:Int)(t:Ql):List Prop:=[XU (Qd.ohi (List.getD (Zk rf place other) place.toNat default)) (Qd.shi (List.getD (Zk rf place other) place.toNat default))=false]++aZ B rf Qa place other t
def jJ(rf:Qe)(Qa:List Int)(place other:Int)(t:Ql):Q5:=jK rf Qa place other t++[(96,W8)]
theorem yE(B:Lo)(rf:Qe)(Qa:List Int)(place other:Int)(t:Ql):let a:=List.getD (Zk rf place other) place.toNat default;QQ (Qq YP (Q3 YP) J0 B 28 1 (Qp YP 13 225 (([.agg (Q0 rf).toArray,Xr Qa,.int .i64 place,.int .i64 other,.agg #[Xr t.Qc,X8 t.Qi,X8 t.Qj]]).map (Q2 0 4))) XV 1
 (jJ rf Qa place other t++[(104,Wo),(106,Qk.pure (.bool true) [])]) 0 [] []) []=some (.bool true,
 [Qz []/\Qx YP J0 16 #[] (.bool true),XU a.olo a.slo=true]++aY B rf Qa place other t):=by intro a;kernel_rfl
theorem yD(B:Lo)(rf:Qe)(Qa:List Int)(place other:Int)(t:Ql):let c:=List.length rf.Qb;let b:=List.getD (Zk rf place other) place.toNat default;let a:=xo rf place other;landM (Qq YP (Q3 YP) J0 B 26 1 (Qp YP 13 225 (([.agg (Q0 rf).toArray,Xr Qa,.int .i64 place,.int .i64 other,.agg #[Xr t.Qc,X8 t.Qi,X8 t.Qj]]).map (Q2 0 4))) XV 1
 (jJ rf Qa place other t++[(104,W8)]) 0 [] []) [1,3,9,11,12,13] [(2,KS.auto),(5,KS.auto)] [{k:=4,rs:=[],cs:=Qg Qh a}]=some ⟨13,225,T8,[],.run,none,T7 rf Qa place other t c a,P1 rf Qa place other t c a,
 [Zu (Fz.rs {k:=4,rs:=[],cs:=Qg Qh a}) (Qg Qh a) (Fz.cs {k:=4,rs:=[],cs:=Qg Qh a}),XU b.olo b.slo=false]++aY B rf Qa place other t⟩:=by intro c b a;kernel_rfl
def jR(B:Lo)(rf:Qe)(Qa:List Int)(place other:Int)(t:Ql):List Prop:=[(!Km (if QX rf Qa place=0 then 5 else 0) 0)=false]++ba B rf Qa place other t
def jI(rf:Qe)(Qa:List Int)(place other:Int)(t:Ql):Q5:=let a:=Hint.idx place.toNat;jL rf Qa place other t++[(51,W8),(59,Qk.call (List.range 3) (OO.ret (T0 rf)) ([]++(3,Xa)::QU 4 [Obj.cells (Qg Qh (Zk rf place other)) 54]) 5 []),(65,Qk.ZH a),(66,Qk.ZH (Hint.ld (.agg (T5 rf place other)))),(86,Qk.pure (T4 rf place other) []),(87,Qk.ZH a),(89,Qk.ZH (Hint.st (Qg Qh (xo rf place other))))]
def P2(rf:Qe)(Qa:List Int)(place other:Int)(t:Ql):Qo:=[(2,Obj.cells #[Qt 0 (QE t.Qc.length (Qg Q9 t.Qc)),Qt 0 (QE t.Qi.length (Qg QZ t.Qi)),Qt 0 (QE t.Qj.length (Qg QZ t.Qj))] 42),(1,Obj.cells #[Qt 0 (QE rf.Qb.length (Qg Qh rf.Qb)),.int .i64 rf.miss,.int .i64 rf.seasons] 24),(0,Obj.coro none)]
def TA(rf:Qe)(Qa:List Int)(place other:Int)(t:Ql):CF:=⟨45,ofList 35 [.agg #[Qt 0 (QE rf.Qb.length (Qg Qh rf.Qb)),.int .i64 rf.miss,.int .i64 rf.seasons],.int .i64 place,.int .i64 other],[Item.code (QT YP 45)],[],.run,none⟩
theorem yC(B:Lo)(rf:Qe)(Qa:List Int)(place other:Int)(t:Ql):let f:=0+Int.toNat place*12+6;let e:=Int.toNat place;let b:=Qg Qh (Zk rf place other);let a:=rf.Qb;let d:=a.getD e default;let c:=Qg Qh a;CE.finK 3 (Qq YP (Q3 YP) J0 B 14 3 (TA rf Qa place other t) (P2 rf Qa place other t) 3
 [(7,Qk.tapp c),(13,Qk.ZH (Hint.idx e)),(15,Qk.ZH (Hint.ld (.agg (T3 rf place)))),(30,Qk.ZH (Hint.idx e)),(32,Qk.ZH (Hint.st b))] 0 [] []) [] [(6,KS.cells [] b)] []=some (OO.ret (.agg #[.slice (some {block:=4,off:=0}) a.length 12,.int .i64 rf.miss,.int .i64 rf.seasons]),[],[Obj.cells b 54],
 [XA 3 [] b b,0+Int.toNat place*12+6+TypeInfo.size Try.t38<=Array.size c/\splice c f (Value.cells (X7 {len:=16000,tr:=Tri.set 14 (Tri.set 14 Tri.lf 31 (.agg #[.int .i64 (if other<d.olo then other else d.olo),.int .i64 (if other<d.ohi then other else d.ohi)])) 33 (.pointer (some {block:=6,off:=0+Int.toNat place*12+6}))} 31))=Qg Qh (Zk rf place other),place=(↑e:Int)/\Int.toNat place<List.length a,0+Int.toNat place*12+6+TypeInfo.size Try.t38<=Array.size c/\Array.extract c f (0+Int.toNat place*12+6+TypeInfo.size Try.t38)=(T3 rf place),place=(↑e:Int)/\Int.toNat place<List.length a,0<List.length a/\List.length a<=maxLen/\List.length a*96<=140737488355328/\Array.size c=List.length a*(11+1)/\Array.map (ZA 0) c=Qg Qh a/\(Array.all c fun v=>simple v || W6 v)=true/\ones c=true]):=by intro f e b a d c;kernel_rfl
def aX(B:Lo)(rf:Qe)(Qa:List Int)(place other:Int)(t:Ql):List Prop:=let d:=T4 rf place other;let c:=Int.toNat place;let b:=Qg Qh (Zk rf place other);let a:=List.getD (Zk rf place other) c default;[0+Int.toNat place*12+8+TypeInfo.size Try.t38<=Array.size b/\splice b (0+Int.toNat place*12+8) (Value.cells (X7 {len:=16000,tr:=Tri.set 14 (Tri.set 14 Tri.lf 102 d) 104 (.pointer (some {block:=4,off:=0+Int.toNat place*12+8}))} 102))=Qg Qh (xo rf place other),place=(↑c:Int)/\Int.toNat place<List.length rf.Qb,Qz []/\Qx YP J0 46 #[.int .i64 (if a.olo<a.slo then a.olo else a.slo),.int .i64 (if a.ohi<a.shi then a.ohi else a.shi)] d,0+Int.toNat place*12+TypeInfo.size Try.t54<=Array.size b/\Array.extract b (0+Int.toNat place*12) (0+Int.toNat place*12+TypeInfo.size Try.t54)=(T5 rf place other),place=(↑c:Int)/\Int.toNat place<List.length rf.Qb,FJ YP B (TA rf Qa place other t) (P2 rf Qa place other t) 3 (OO.ret (T0 rf)) (([]++((3,Xa)::QU (3+1) [Obj.cells b 54]))++P2 rf Qa place other t) 5 (List.range 3) []]++jR B rf Qa place other t
theorem yB(B:Lo)(rf:Qe)(Qa:List Int)(place other:Int)(t:Ql):let a:=List.getD (Zk rf place other) place.toNat default;QQ (Qq YP (Q3 YP) J0 B 28 1 (Qp YP 13 225 (([.agg (Q0 rf).toArray,Xr Qa,.int .i64 place,.int .i64 other,.agg #[Xr t.Qc,X8 t.Qi,X8 t.Qj]]).map (Q2 0 4))) XV 1
 (jI rf Qa place other t++[(96,Wo),(106,Qk.pure (.bool true) [])]) 0 [] []) []=some (.bool true,
 [Qz []/\Qx YP J0 16 #[] (.bool true),XU a.ohi a.shi=true]++aX B rf Qa place other t):=by intro a;kernel_rfl
def aW(B:Lo)(rf:Qe)(Qa:List Int)(place other:Int)(t:Ql):List Prop:=[XU (Qd.ohi (List.getD (Zk rf place other) place.toNat default)) (Qd.shi (List.getD (Zk rf place other) place.toNat default))=false]++aX B rf Qa place other t
def jH(rf:Qe)(Qa:List Int)(place other:Int)(t:Ql):Q5:=jI rf Qa place other t++[(96,W8)]
theorem yA(B:Lo)(rf:Qe)(Qa:List Int)(place other:Int)(t:Ql):let a:=List.getD (Zk rf place other) place.toNat default;QQ (Qq YP (Q3 YP) J0 B 28 1 (Qp YP 13 225 (([.agg (Q0 rf).toArray,Xr Qa,.int .i64 place,.int .i64 other,.agg #[Xr t.Qc,X8 t.Qi,X8 t.Qj]]).map (Q2 0 4))) XV 1
 (jH rf Qa place other t++[(104,Wo),(106,Qk.pure (.bool true) [])]) 0 [] []) []=some (.bool true,
 [Qz []/\Qx YP J0 16 #[] (.bool true),XU a.olo a.slo=true]++aW B rf Qa place other t):=by intro a;kernel_rfl
theorem y9(B:Lo)(rf:Qe)(Qa:List Int)(place other:Int)(t:Ql):let c:=List.length rf.Qb;let b:=List.getD (Zk rf place other) place.toNat default;let a:=xo rf place other;landM (Qq YP (Q3 YP) J0 B 26 1 (Qp YP 13 225 (([.agg (Q0 rf).toArray,Xr Qa,.int .i64 place,.int .i64 other,.agg #[Xr t.Qc,X8 t.Qi,X8 t.Qj]]).map (Q2 0 4))) XV 1
 (jH rf Qa place other t++[(104,W8)]) 0 [] []) [1,3,9,11,12,13] [(2,KS.auto),(5,KS.auto)] [{k:=4,rs:=[],cs:=Qg Qh a}]=some ⟨13,225,T8,[],.run,none,T7 rf Qa place other t c a,P1 rf Qa place other t c a,
 [Zu (Fz.rs {k:=4,rs:=[],cs:=Qg Qh a}) (Qg Qh a) (Fz.cs {k:=4,rs:=[],cs:=Qg Qh a}),XU b.olo b.slo=false]++aW B rf Qa place other t⟩:=by intro c b a;kernel_rfl
theorem y8(B:Lo)(rf:Qe)(Qa:List Int)(place other:Int)(t:Ql):let a:=Value.tuple #[.int .i64 0,.int .i64 2];QQ (Qq YP (Q3 YP) J0 B 17 1 (Qp YP 13 225 (([.agg (Q0 rf).toArray,Xr Qa,.int .i64 place,.int .i64 other,.agg #[Xr t.Qc,X8 t.Qi,X8 t.Qj]]).map (Q2 0 4))) XV 1
 (jM rf Qa place other t++[(44,Qk.pure a [])]) 0 [] []) []=some (.bool false,
 [Qz []/\Qx YP J0 43 #[.agg (Tz rf),QE Qa.length (Qg Q9 Qa),.int .i64 place] a]++bc B rf Qa place other t):=by intro a;kernel_rfl
theorem y7(B:Lo)(rf:Qe)(Qa:List Int)(place other:Int)(t:Ql):QQ (Qq YP (Q3 YP) J0 B 10 1 (Qp YP 13 225 (([.agg (Q0 rf).toArray,Xr Qa,.int .i64 place,.int .i64 other,.agg #[Xr t.Qc,X8 t.Qi,X8 t.Qj]]).map (Q2 0 4))) XV 1
 (oT rf Qa place other t++[(19,Qk.pure (.bool false) []),(41,Qk.pure (.bool true) [])]) 0 [] []) []=some (.bool true,
 [Qz []/\Qx YP J0 16 #[] (.bool true),Qz []/\Qx YP J0 25 #[.agg #[QE t.Qc.length (Qg Q9 t.Qc),QE t.Qi.length (Qg QZ t.Qi),QE t.Qj.length (Qg QZ t.Qj)]] (.bool false)]++dV B rf Qa place other t):=by kernel_rfl
theorem y6(B:Lo)(rf:Qe)(Qa:List Int)(place other:Int)(t:Ql):QQ (Qq YP (Q3 YP) J0 B 10 1 (Qp YP 13 225 (([.agg (Q0 rf).toArray,Xr Qa,.int .i64 place,.int .i64 other,.agg #[Xr t.Qc,X8 t.Qi,X8 t.Qj]]).map (Q2 0 4))) XV 1
 (dU rf Qa place other t++[(14,Qk.pure (.bool false) []),(41,Qk.pure (.bool true) [])]) 0 [] []) []=some (.bool true,
 [Qz []/\Qx YP J0 16 #[] (.bool true),Qz []/\Qx YP J0 21 (dT rf Qa) (.bool false)]++T9 B rf Qa place other t):=by kernel_rfl
theorem y5(B:Lo)(rf:Qe)(Qa:List Int)(place other:Int)(t:Ql):QQ (Qq YP (Q3 YP) J0 B 10 1 (Qp YP 13 225 (([.agg (Q0 rf).toArray,Xr Qa,.int .i64 place,.int .i64 other,.agg #[Xr t.Qc,X8 t.Qi,X8 t.Qj]]).map (Q2 0 4))) XV 1
 (dU rf Qa place other t++[(14,Qk.pure (.bool false) []),(41,Qk.pure (.bool true) [])]) 0 [] []) []=some (.bool true,
 [Qz []/\Qx YP J0 16 #[] (.bool true),Qz []/\Qx YP J0 21 (dT rf Qa) (.bool false)]++T9 B rf Qa place other t):=by kernel_rfl
theorem y2(B:Lo)(rf:Qe)(Qa:List Int)(place other:Int)(t:Ql):QQ (Qq YP (Q3 YP) J0 B 10 1 (Qp YP 13 225 (([.agg (Q0 rf).toArray,Xr Qa,.int .i64 place,.int .i64 other,.agg #[Xr t.Qc,X8 t.Qi,X8 t.Qj]]).map (Q2 0 4))) XV 1
 [(4,Qk.pure (.bool false) []),(41,Qk.pure (.bool true) [])] 0 [] []) []=some (.bool true,
 [Qz []/\Qx YP J0 16 #[] (.bool true),Qz []/\Qx YP J0 15 #[.agg (Tz rf)] (.bool false)]):=by kernel_rfl
set_option maxHeartbeats 4000000 in
theorem ph(rf:Qe)(Qa:List Int)(place other:Int)(t:Ql)  (Xt:Qa.length<=9223372036854775807){B:Lo}(hJ:∀w,B.has w->J0 w){c0:CF}:∀m:Nat,(∀(pn:Nat) (ps:List Qd),10000=m->∀(hr:QD rf=true) (hp:QG rf Qa=true) (p0:0<=place) (p1:place<rf.Qb.length) (o0:0<=other) (o1:other<=1000000) (hb:QD (XG rf place other)=true) (hpn:pn=ps.length) (eps:ps=(XG rf place other).Qb),BK B c0 rf Qa place other t pn ps->EndsT YP B c0 (.bool true))/\(∀(pn:Nat) (ps:List Qd) (al:Bool) (i:Int),5000+(ps.length-i.toNat)=m->∀(hr:QD rf=true) (hp:QG rf Qa=true) (p0:0<=place) (p1:place<rf.Qb.length) (o0:0<=other) (o1:other<=1000000) (hb:QD (XG rf place other)=true) (hpn:pn=ps.length) (eps:ps=(XG rf place other).Qb) (h0:0<=i) (h1:i<=ps.length) (hal:al=true->∀k:Int,0<=k->k<i->(ps.getD k.toNat default).goal<=(QR ⟨ps,rf.miss,rf.seasons⟩ Qa rf.seasons.toNat).at k) (hal2:al=false->∃k:Int,0<=k/\k<ps.length/\(QR ⟨ps,rf.miss,rf.seasons⟩ Qa rf.seasons.toNat).at k<(ps.getD k.toNat default).goal),BJ B c0 rf Qa place other t pn ps al i->EndsT YP B c0 (.bool true))/\(∀(pn:Nat) (ps:List Qd) (i:Int),(ps.length-i.toNat)=m->∀(hr:QD rf=true) (hp:QG rf Qa=true) (p0:0<=place) (p1:place<rf.Qb.length) (o0:0<=other) (o1:other<=1000000) (hb:QD (XG rf place other)=true) (hpn:pn=ps.length) (eps:ps=(XG rf place other).Qb) (h0:0<=i) (htr:Xz ⟨ps,rf.miss,rf.seasons⟩ Qa t=true) (J4:∀k:Int,0<=k->k<ps.length->(ps.getD k.toNat default).goal<=(QR ⟨ps,rf.miss,rf.seasons⟩ Qa rf.seasons.toNat).at k),BI B c0 rf Qa place other t pn ps i->EndsT YP B c0 (.bool true)):=by
 intro m0;induction m0 using Nat.strongRecOn with
 |_ m0 ih0=>
  refine⟨?_, ?_, ?_⟩
  ·intro pn ps hm0 hr hp p0 p1 o0 o1 hb hpn eps ⟨Qn,Ur,XM⟩;have Zm:=Qy (Q7 hr).1;have hX:(⟨ps,rf.miss,rf.seasons⟩:Qe)=XG rf place other:=by rw[eps];rfl
   have Wc:=XJ hr;have hrx:XT ⟨ps,rf.miss,rf.seasons⟩=true:=by rw[hX];exact Sd Wc p0 p1 ⟨o0,o1⟩
   have hbx:QD ⟨ps,rf.miss,rf.seasons⟩=true:=by rw[hX];exact hb
   have hpx:QG ⟨ps,rf.miss,rf.seasons⟩ Qa=true:=by rw[hX];exact VD.trans hp
   have hpl:ps.length=rf.Qb.length:=by rw[eps];exact Zi
   have het:Xz ⟨ps,rf.miss,rf.seasons⟩ Qa ⟨U1 ⟨ps,rf.miss,rf.seasons⟩,ZQ ⟨ps,rf.miss,rf.seasons⟩,ZF ⟨ps,rf.miss,rf.seasons⟩ Qa⟩=true:=bF hbx;have hoe:=(fx hrx het).1;have hshe:S5 ps.length rf.seasons (XB rf.seasons ps (ZQ ⟨ps,rf.miss,rf.seasons⟩) (ZF ⟨ps,rf.miss,rf.seasons⟩ Qa) (Qu (U1 ⟨ps,rf.miss,rf.seasons⟩))):=hoe.shape (JJ hrx het);have Wc:=XJ ‹QD rf=true›;have Zm:=Qy (Q7 ‹QD rf=true›).1;have Pr:=(QM ‹QG rf Qa=true›).1;have hpg:=XD Wc ‹QG rf Qa=true›;exact((ih0 _ (by omega)).2.1 (pn) (ps) (true) (0) rfl (by with_reducible assumption) (by with_reducible assumption) (by with_reducible assumption) (by with_reducible assumption) (by with_reducible assumption) (by with_reducible assumption) (by with_reducible assumption) (by with_reducible assumption) (by with_reducible assumption) (by omega) (by omega) (by omega) (by(intro h;cases h;done))
    (XM.landM okF hJ Qf (BH B rf Qa place other t pn ps Qn)
    ⟨⟨trivial,Bw (ps) (pn) rf.miss rf.seasons (XB rf.seasons ps (ZQ {Qb:=ps,miss:=rf.miss,seasons:=rf.seasons}) (ZF {Qb:=ps,miss:=rf.miss,seasons:=rf.seasons} Qa) (Qu (U1 {Qb:=ps,miss:=rf.miss,seasons:=rf.seasons}))) (by with_reducible assumption) (by with_reducible assumption) (by omega)⟩,⟨⟨trivial,Mx (ps) (pn) rf.miss rf.seasons (Qa) (U1 {Qb:=ps,miss:=rf.miss,seasons:=rf.seasons}) (ZQ {Qb:=ps,miss:=rf.miss,seasons:=rf.seasons}) (ZF {Qb:=ps,miss:=rf.miss,seasons:=rf.seasons} Qa) (by with_reducible assumption) (by with_reducible assumption) (by with_reducible assumption) (by with_reducible assumption)⟩,⟨⟨trivial,Ou (ps) (pn) rf.miss rf.seasons (Qa) (by with_reducible assumption) (by with_reducible assumption) (by with_reducible assumption)⟩,trivial⟩⟩⟩ (by kernel_rfl) (by kernel_rfl))).cast (by rfl)
  ·intro pn ps al i hm0 hr hp p0 p1 o0 o1 hb hpn eps h0 h1 hal hal2 ⟨Qn,Ur,XM⟩;have Zm:=Qy (Q7 hr).1;have hX:(⟨ps,rf.miss,rf.seasons⟩:Qe)=XG rf place other:=by rw[eps];rfl
   have Wc:=XJ hr;have hrx:XT ⟨ps,rf.miss,rf.seasons⟩=true:=by rw[hX];exact Sd Wc p0 p1 ⟨o0,o1⟩
   have hbx:QD ⟨ps,rf.miss,rf.seasons⟩=true:=by rw[hX];exact hb
   have hpx:QG ⟨ps,rf.miss,rf.seasons⟩ Qa=true:=by rw[hX];exact VD.trans hp
   have hpl:ps.length=rf.Qb.length:=by rw[eps];exact Zi
   have het:Xz ⟨ps,rf.miss,rf.seasons⟩ Qa ⟨U1 ⟨ps,rf.miss,rf.seasons⟩,ZQ ⟨ps,rf.miss,rf.seasons⟩,ZF ⟨ps,rf.miss,rf.seasons⟩ Qa⟩=true:=bF hbx;have hoe:=(fx hrx het).1;have hshe:S5 ps.length rf.seasons (XB rf.seasons ps (ZQ ⟨ps,rf.miss,rf.seasons⟩) (ZF ⟨ps,rf.miss,rf.seasons⟩ Qa) (Qu (U1 ⟨ps,rf.miss,rf.seasons⟩))):=hoe.shape (JJ hrx het);have hq1:(XB rf.seasons ps (ZQ ⟨ps,rf.miss,rf.seasons⟩) (ZF ⟨ps,rf.miss,rf.seasons⟩ Qa) (Qu (U1 ⟨ps,rf.miss,rf.seasons⟩))).length=rf.seasons.toNat:=Zo;have hq2:((XB rf.seasons ps (ZQ ⟨ps,rf.miss,rf.seasons⟩) (ZF ⟨ps,rf.miss,rf.seasons⟩ Qa) (Qu (U1 ⟨ps,rf.miss,rf.seasons⟩))).getD (rf.seasons-1).toNat default).length=ps.length:=qg (rf:=⟨ps,rf.miss,rf.seasons⟩) (gs:=ZQ ⟨ps,rf.miss,rf.seasons⟩) (ts:=ZF ⟨ps,rf.miss,rf.seasons⟩ Qa) (f:=Qu (U1 ⟨ps,rf.miss,rf.seasons⟩)) (s:=rf.seasons-1) (show ps.length<=4 by omega) (by omega) (show rf.seasons-1<rf.seasons by omega);have hqi:=LZ (Qa:=Qa) Wc p0 p1 o0 o1;have hqn:=uG (rf:=rf) (Qa:=Qa) (place:=place);cases al with
   |true=>
    by_cases q0:(i:Int)<((↑pn:Int))
    ·have WB:Qz (eh B rf Qa place other t pn ps i Qn):=by
      have Wc:=XJ ‹QD rf=true›;have Zm:=Qy (Q7 ‹QD rf=true›).1;have Pr:=(QM ‹QG rf Qa=true›).1;have hpg:=XD Wc ‹QG rf Qa=true›;have hla:((XB rf.seasons ps (ZQ ⟨ps,rf.miss,rf.seasons⟩) (ZF ⟨ps,rf.miss,rf.seasons⟩ Qa) (Qu (U1 ⟨ps,rf.miss,rf.seasons⟩))).getD (rf.seasons-1).toNat default).getD i.toNat default=(QR ⟨ps,rf.miss,rf.seasons⟩ Qa rf.seasons.toNat).at i:=Se (rf:=⟨ps,rf.miss,rf.seasons⟩) (gs:=ZQ ⟨ps,rf.miss,rf.seasons⟩) (ts:=ZF ⟨ps,rf.miss,rf.seasons⟩ Qa) (f:=Qu (U1 ⟨ps,rf.miss,rf.seasons⟩)) (show ps.length<=4 by omega) (show 1<=rf.seasons by omega) h0 (show i<ps.length by omega);exact⟨⟨by omega,by omega,(Q4 (z:=12) (fun _=>rfl) (by omega))⟩,⟨⟨by omega,by omega,(Q4 (z:=1) (fun _=>rfl) (by omega))⟩,⟨⟨by omega,by omega,(Q4 (z:=1) (fun _=>rfl) (by omega))⟩,⟨(Xy (by omega) (by omega)),⟨(XF q0),trivial⟩⟩⟩⟩⟩
     by_cases q1:(Qd.goal (ps.getD i.toNat default):Int)<=(List.getD (List.getD (XB rf.seasons ps (ZQ {Qb:=ps,miss:=rf.miss,seasons:=rf.seasons}) (ZF {Qb:=ps,miss:=rf.miss,seasons:=rf.seasons} Qa) (Qu (U1 {Qb:=ps,miss:=rf.miss,seasons:=rf.seasons}))) (Int.toNat (rf.seasons-1)) default) i.toNat default)
     ·have Wc:=XJ ‹QD rf=true›;have Zm:=Qy (Q7 ‹QD rf=true›).1;have Pr:=(QM ‹QG rf Qa=true›).1;have hpg:=XD Wc ‹QG rf Qa=true›;have hla:((XB rf.seasons ps (ZQ ⟨ps,rf.miss,rf.seasons⟩) (ZF ⟨ps,rf.miss,rf.seasons⟩ Qa) (Qu (U1 ⟨ps,rf.miss,rf.seasons⟩))).getD (rf.seasons-1).toNat default).getD i.toNat default=(QR ⟨ps,rf.miss,rf.seasons⟩ Qa rf.seasons.toNat).at i:=Se (rf:=⟨ps,rf.miss,rf.seasons⟩) (gs:=ZQ ⟨ps,rf.miss,rf.seasons⟩) (ts:=ZF ⟨ps,rf.miss,rf.seasons⟩ Qa) (f:=Qu (U1 ⟨ps,rf.miss,rf.seasons⟩)) (show ps.length<=4 by omega) (show 1<=rf.seasons by omega) h0 (show i<ps.length by omega);exact((ih0 _ (by omega)).2.1 (pn) (ps) (true) (i+1) rfl (by with_reducible assumption) (by with_reducible assumption) (by with_reducible assumption) (by with_reducible assumption) (by with_reducible assumption) (by with_reducible assumption) (by with_reducible assumption) (by with_reducible assumption) (by with_reducible assumption) (by omega) (by omega) (by exact Mb hal rfl (by omega)) (by with_reducible assumption)
       (XM.landM okF hJ Qf (BG B rf Qa place other t pn ps i Qn)
       ⟨(Xy (by omega) (by omega)),⟨(Ua q1),WB⟩⟩ (by kernel_rfl) (by kernel_rfl))).cast (by rfl)
     ·have Wc:=XJ ‹QD rf=true›;have Zm:=Qy (Q7 ‹QD rf=true›).1;have Pr:=(QM ‹QG rf Qa=true›).1;have hpg:=XD Wc ‹QG rf Qa=true›;have hla:((XB rf.seasons ps (ZQ ⟨ps,rf.miss,rf.seasons⟩) (ZF ⟨ps,rf.miss,rf.seasons⟩ Qa) (Qu (U1 ⟨ps,rf.miss,rf.seasons⟩))).getD (rf.seasons-1).toNat default).getD i.toNat default=(QR ⟨ps,rf.miss,rf.seasons⟩ Qa rf.seasons.toNat).at i:=Se (rf:=⟨ps,rf.miss,rf.seasons⟩) (gs:=ZQ ⟨ps,rf.miss,rf.seasons⟩) (ts:=ZF ⟨ps,rf.miss,rf.seasons⟩ Qa) (f:=Qu (U1 ⟨ps,rf.miss,rf.seasons⟩)) (show ps.length<=4 by omega) (show 1<=rf.seasons by omega) h0 (show i<ps.length by omega);exact((ih0 _ (by omega)).2.1 (pn) (ps) (false) (i+1) rfl (by with_reducible assumption) (by with_reducible assumption) (by with_reducible assumption) (by with_reducible assumption) (by with_reducible assumption) (by with_reducible assumption) (by with_reducible assumption) (by with_reducible assumption) (by with_reducible assumption) (by omega) (by omega) (by(intro h;cases h;done)) (by exact fun _=>⟨i,h0,by omega,by omega⟩)
       (XM.landM okF hJ Qf (BF B rf Qa place other t pn ps i Qn)
       ⟨(Xy (by omega) (by omega)),⟨(Ub (Int.not_le.1 q1)),WB⟩⟩ (by kernel_rfl) (by kernel_rfl))).cast (by rfl)
    ·have JE:Qz (eg B rf Qa place other t pn ps i Qn):=by
      exact⟨(XO (Int.not_lt.1 q0)),trivial⟩
     by_cases q1:(if QX rf Qa place=0 then 5 else 0:Int)=(0)
     ·have KE:Qz (ef B rf Qa place other t pn ps i Qn):=by
       exact⟨(Pc q1),JE⟩
      by_cases q2:(other:Int)<=(if QX rf Qa place=0 then 0 else QX rf Qa place-1)
      ·have hp3:Qz (ee B rf Qa place other t pn ps i Qn):=by
        exact⟨(Ua q2),KE⟩
       cases q3:Xz {Qb:=ps,miss:=rf.miss,seasons:=rf.seasons} Qa t with
       |true=>
        have Wc:=XJ ‹QD rf=true›;have Zm:=Qy (Q7 ‹QD rf=true›).1;have Pr:=(QM ‹QG rf Qa=true›).1;have hpg:=XD Wc ‹QG rf Qa=true›;have hshp:S5 ps.length rf.seasons (XB rf.seasons ps t.Qi t.Qj (Qu t.Qc)):=(fx hrx ‹Xz ⟨ps,rf.miss,rf.seasons⟩ Qa t=true›).1.shape (JJ hrx ‹Xz ⟨ps,rf.miss,rf.seasons⟩ Qa t=true›);have hlb:=hqi.2 (tp (X:=⟨ps,rf.miss,rf.seasons⟩) hX (fun k k0 k1=>hal rfl k k0 (by have:k<ps.length:=k1;omega)));exact((ih0 _ (by omega)).2.2 (pn) (ps) (0) rfl (by with_reducible assumption) (by with_reducible assumption) (by with_reducible assumption) (by with_reducible assumption) (by with_reducible assumption) (by with_reducible assumption) (by with_reducible assumption) (by with_reducible assumption) (by with_reducible assumption) (by omega) (by with_reducible assumption) (by exact fun k k0 k1=>hal rfl k k0 (by omega))
         (XM.landM okF hJ Qf (BE B rf Qa place other t pn ps i Qn)
         ⟨⟨trivial,Bw (ps) (pn) rf.miss rf.seasons (XB rf.seasons ps t.Qi t.Qj (Qu t.Qc)) (by with_reducible assumption) (by with_reducible assumption) (by omega)⟩,⟨⟨trivial,Mx (ps) (pn) rf.miss rf.seasons (Qa) t.Qc t.Qi t.Qj (by with_reducible assumption) (by with_reducible assumption) (by with_reducible assumption) (by with_reducible assumption)⟩,⟨⟨trivial,(by have t_:=HM (ps) (pn) rf.miss rf.seasons (Qa) (t) (by with_reducible assumption) (by with_reducible assumption) (by with_reducible assumption);rw[q3]at t_;exact t_)⟩,hp3⟩⟩⟩ (by kernel_rfl) (by kernel_rfl))).cast (by rfl)
       |false=>
        have Wc:=XJ ‹QD rf=true›;have Zm:=Qy (Q7 ‹QD rf=true›).1;have Pr:=(QM ‹QG rf Qa=true›).1;have hpg:=XD Wc ‹QG rf Qa=true›;have hlb:=hqi.2 (tp (X:=⟨ps,rf.miss,rf.seasons⟩) hX (fun k k0 k1=>hal rfl k k0 (by have:k<ps.length:=k1;omega)));exact(GoE.endsT okF hJ Qf XM (BD B rf Qa place other t pn ps i Qn)
         ⟨⟨trivial,known⟩,⟨⟨trivial,(by have t_:=HM (ps) (pn) rf.miss rf.seasons (Qa) (t) (by with_reducible assumption) (by with_reducible assumption) (by with_reducible assumption);rw[q3]at t_;exact t_)⟩,hp3⟩⟩).cast rfl
      ·have Wc:=XJ ‹QD rf=true›;have Zm:=Qy (Q7 ‹QD rf=true›).1;have Pr:=(QM ‹QG rf Qa=true›).1;have hpg:=XD Wc ‹QG rf Qa=true›;have hlb:=hqi.2 (tp (X:=⟨ps,rf.miss,rf.seasons⟩) hX (fun k k0 k1=>hal rfl k k0 (by have:k<ps.length:=k1;omega)));exact(GoE.endsT okF hJ Qf XM (BC B rf Qa place other t pn ps i Qn)
        ⟨(Ub (Int.not_le.1 q2)),KE⟩).cast (by(exfalso;omega))
     ·have Wc:=XJ ‹QD rf=true›;have Zm:=Qy (Q7 ‹QD rf=true›).1;have Pr:=(QM ‹QG rf Qa=true›).1;have hpg:=XD Wc ‹QG rf Qa=true›;have hlb:=hqi.2 (tp (X:=⟨ps,rf.miss,rf.seasons⟩) hX (fun k k0 k1=>hal rfl k k0 (by have:k<ps.length:=k1;omega)));exact(GoE.endsT okF hJ Qf XM (BB B rf Qa place other t pn ps i Qn)
       ⟨(Pd q1),JE⟩).cast (by(exfalso;omega))
   |false=>
    by_cases q0:(i:Int)<((↑pn:Int))
    ·have Wc:=XJ ‹QD rf=true›;have Zm:=Qy (Q7 ‹QD rf=true›).1;have Pr:=(QM ‹QG rf Qa=true›).1;have hpg:=XD Wc ‹QG rf Qa=true›;have hla:((XB rf.seasons ps (ZQ ⟨ps,rf.miss,rf.seasons⟩) (ZF ⟨ps,rf.miss,rf.seasons⟩ Qa) (Qu (U1 ⟨ps,rf.miss,rf.seasons⟩))).getD (rf.seasons-1).toNat default).getD i.toNat default=(QR ⟨ps,rf.miss,rf.seasons⟩ Qa rf.seasons.toNat).at i:=Se (rf:=⟨ps,rf.miss,rf.seasons⟩) (gs:=ZQ ⟨ps,rf.miss,rf.seasons⟩) (ts:=ZF ⟨ps,rf.miss,rf.seasons⟩ Qa) (f:=Qu (U1 ⟨ps,rf.miss,rf.seasons⟩)) (show ps.length<=4 by omega) (show 1<=rf.seasons by omega) h0 (show i<ps.length by omega);have hlc:=hqi.1 (Ib (X:=⟨ps,rf.miss,rf.seasons⟩) hX (hal2 rfl));exact((ih0 _ (by omega)).2.1 (pn) (ps) (false) (i+1) rfl (by with_reducible assumption) (by with_reducible assumption) (by with_reducible assumption) (by with_reducible assumption) (by with_reducible assumption) (by with_reducible assumption) (by with_reducible assumption) (by with_reducible assumption) (by with_reducible assumption) (by omega) (by omega) (by(intro h;cases h;done)) (by with_reducible assumption)
      (XM.landM okF hJ Qf (BA B rf Qa place other t pn ps i Qn)
      ⟨(Xy (by omega) (by omega)),⟨(XF q0),trivial⟩⟩ (by kernel_rfl) (by kernel_rfl))).cast (by rfl)
    ·have hp4:Qz (dZ B rf Qa place other t pn ps i Qn):=by
      exact⟨(XO (Int.not_lt.1 q0)),trivial⟩
     by_cases q1:(if QX rf Qa place=0 then 5 else 0:Int)=(0)
     ·have hp5:Qz (dY B rf Qa place other t pn ps i Qn):=by
       exact⟨(Pc q1),hp4⟩
      by_cases q2:(other:Int)<=(if QX rf Qa place=0 then 0 else QX rf Qa place-1)
      ·have Wc:=XJ ‹QD rf=true›;have Zm:=Qy (Q7 ‹QD rf=true›).1;have Pr:=(QM ‹QG rf Qa=true›).1;have hpg:=XD Wc ‹QG rf Qa=true›;have hlc:=hqi.1 (Ib (X:=⟨ps,rf.miss,rf.seasons⟩) hX (hal2 rfl));exact(GoE.endsT okF hJ Qf XM (B9 B rf Qa place other t pn ps i Qn)
        ⟨(Ua q2),hp5⟩).cast (by(exfalso;omega))
      ·exact(GoE.endsT okF hJ Qf XM (B8 B rf Qa place other t pn ps i Qn)
        ⟨⟨trivial,known⟩,⟨(Ub (Int.not_le.1 q2)),hp5⟩⟩).cast rfl
     ·exact(GoE.endsT okF hJ Qf XM (yP B rf Qa place other t pn ps i Qn)
       ⟨⟨trivial,known⟩,⟨(Pd q1),hp4⟩⟩).cast rfl
  ·intro pn ps i hm0 hr hp p0 p1 o0 o1 hb hpn eps h0 htr J4 ⟨Qn,Ur,XM⟩;have Zm:=Qy (Q7 hr).1;have hX:(⟨ps,rf.miss,rf.seasons⟩:Qe)=XG rf place other:=by rw[eps];rfl
   have Wc:=XJ hr;have hrx:XT ⟨ps,rf.miss,rf.seasons⟩=true:=by rw[hX];exact Sd Wc p0 p1 ⟨o0,o1⟩
   have hbx:QD ⟨ps,rf.miss,rf.seasons⟩=true:=by rw[hX];exact hb
   have hpx:QG ⟨ps,rf.miss,rf.seasons⟩ Qa=true:=by rw[hX];exact VD.trans hp
   have hpl:ps.length=rf.Qb.length:=by rw[eps];exact Zi
   have het:Xz ⟨ps,rf.miss,rf.seasons⟩ Qa ⟨U1 ⟨ps,rf.miss,rf.seasons⟩,ZQ ⟨ps,rf.miss,rf.seasons⟩,ZF ⟨ps,rf.miss,rf.seasons⟩ Qa⟩=true:=bF hbx;have hoe:=(fx hrx het).1;have hshe:S5 ps.length rf.seasons (XB rf.seasons ps (ZQ ⟨ps,rf.miss,rf.seasons⟩) (ZF ⟨ps,rf.miss,rf.seasons⟩ Qa) (Qu (U1 ⟨ps,rf.miss,rf.seasons⟩))):=hoe.shape (JJ hrx het);have hq1:(XB rf.seasons ps t.Qi t.Qj (Qu t.Qc)).length=rf.seasons.toNat:=Zo;have hq2:((XB rf.seasons ps t.Qi t.Qj (Qu t.Qc)).getD (rf.seasons-1).toNat default).length=ps.length:=qg (rf:=⟨ps,rf.miss,rf.seasons⟩) (gs:=t.Qi) (ts:=t.Qj) (f:=Qu t.Qc) (s:=rf.seasons-1) (show ps.length<=4 by omega) (by omega) (show rf.seasons-1<rf.seasons by omega);by_cases q0:(i:Int)<((↑pn:Int))
   ·have hp6:Qz (dX B rf Qa place other t pn ps i Qn):=by
     have Wc:=XJ ‹QD rf=true›;have Zm:=Qy (Q7 ‹QD rf=true›).1;have Pr:=(QM ‹QG rf Qa=true›).1;have hpg:=XD Wc ‹QG rf Qa=true›;have hla:((XB rf.seasons ps t.Qi t.Qj (Qu t.Qc)).getD (rf.seasons-1).toNat default).getD i.toNat default=(Yn ps t.Qi t.Qj (Qu t.Qc) rf.seasons.toNat).at i:=Se (rf:=⟨ps,rf.miss,rf.seasons⟩) (show ps.length<=4 by omega) (show 1<=rf.seasons by omega) h0 (show i<ps.length by omega);have hti:(QR ⟨ps,rf.miss,rf.seasons⟩ Qa rf.seasons.toNat).at i<=(Yn ps t.Qi t.Qj (Qu t.Qc) rf.seasons.toNat).at i:=(jY hbx htr (k:=rf.seasons.toNat) (show((rf.seasons.toNat:Nat):Int)<=rf.seasons by omega)).1 i h0 (by omega);have hmi:=J4 i h0 (show i<ps.length by omega);exact⟨⟨by omega,by omega,(Q4 (z:=12) (fun _=>rfl) (by omega))⟩,⟨⟨by omega,by omega,(Q4 (z:=1) (fun _=>rfl) (by omega))⟩,⟨⟨by omega,by omega,(Q4 (z:=1) (fun _=>rfl) (by omega))⟩,⟨(Xy (by omega) (by omega)),⟨(XF q0),trivial⟩⟩⟩⟩⟩
    by_cases q1:(List.getD (List.getD (XB rf.seasons ps t.Qi t.Qj (Qu t.Qc)) (Int.toNat (rf.seasons-1)) default) i.toNat default:Int)<(Qd.goal (ps.getD i.toNat default))
    ·have Wc:=XJ ‹QD rf=true›;have Zm:=Qy (Q7 ‹QD rf=true›).1;have Pr:=(QM ‹QG rf Qa=true›).1;have hpg:=XD Wc ‹QG rf Qa=true›;have hla:((XB rf.seasons ps t.Qi t.Qj (Qu t.Qc)).getD (rf.seasons-1).toNat default).getD i.toNat default=(Yn ps t.Qi t.Qj (Qu t.Qc) rf.seasons.toNat).at i:=Se (rf:=⟨ps,rf.miss,rf.seasons⟩) (show ps.length<=4 by omega) (show 1<=rf.seasons by omega) h0 (show i<ps.length by omega);have hti:(QR ⟨ps,rf.miss,rf.seasons⟩ Qa rf.seasons.toNat).at i<=(Yn ps t.Qi t.Qj (Qu t.Qc) rf.seasons.toNat).at i:=(jY hbx htr (k:=rf.seasons.toNat) (show((rf.seasons.toNat:Nat):Int)<=rf.seasons by omega)).1 i h0 (by omega);have hmi:=J4 i h0 (show i<ps.length by omega);exact(GoE.endsT okF hJ Qf XM (yO B rf Qa place other t pn ps i Qn)
      ⟨(XF q1),hp6⟩).cast (by(exfalso;omega))
    ·have Wc:=XJ ‹QD rf=true›;have Zm:=Qy (Q7 ‹QD rf=true›).1;have Pr:=(QM ‹QG rf Qa=true›).1;have hpg:=XD Wc ‹QG rf Qa=true›;have hla:((XB rf.seasons ps t.Qi t.Qj (Qu t.Qc)).getD (rf.seasons-1).toNat default).getD i.toNat default=(Yn ps t.Qi t.Qj (Qu t.Qc) rf.seasons.toNat).at i:=Se (rf:=⟨ps,rf.miss,rf.seasons⟩) (show ps.length<=4 by omega) (show 1<=rf.seasons by omega) h0 (show i<ps.length by omega);have hti:(QR ⟨ps,rf.miss,rf.seasons⟩ Qa rf.seasons.toNat).at i<=(Yn ps t.Qi t.Qj (Qu t.Qc) rf.seasons.toNat).at i:=(jY hbx htr (k:=rf.seasons.toNat) (show((rf.seasons.toNat:Nat):Int)<=rf.seasons by omega)).1 i h0 (by omega);have hmi:=J4 i h0 (show i<ps.length by omega);exact((ih0 _ (by omega)).2.2 (pn) (ps) (i+1) rfl (by with_reducible assumption) (by with_reducible assumption) (by with_reducible assumption) (by with_reducible assumption) (by with_reducible assumption) (by with_reducible assumption) (by with_reducible assumption) (by with_reducible assumption) (by with_reducible assumption) (by omega) (by with_reducible assumption) (by with_reducible assumption)
      (XM.landM okF hJ Qf (yN B rf Qa place other t pn ps i Qn)
      ⟨(Xy (by omega) (by omega)),⟨(XO (Int.not_lt.1 q1)),hp6⟩⟩ (by kernel_rfl) (by kernel_rfl))).cast (by rfl)
   ·exact(GoE.endsT okF hJ Qf XM (yM B rf Qa place other t pn ps i Qn)
     ⟨⟨trivial,known⟩,⟨(XO (Int.not_lt.1 q0)),trivial⟩⟩).cast rfl
set_option maxHeartbeats 4000000 in
theorem En(rf:Qe)(Qa:List Int)(place other:Int)(t:Ql)  (Xt:Qa.length<=9223372036854775807){B:Lo}(hJ:∀w,B.has w->J0 w):EndsT YP B (Qp YP 13 225 (([.agg (Q0 rf).toArray,Xr Qa,.int .i64 place,.int .i64 other,.agg #[Xr t.Qc,X8 t.Qi,X8 t.Qj]]).map (Q2 0 4))) (.bool true):=by
 cases q0:decide (List.length rf.Qb<=8)with
 |true=>
  have hp7:Qz (dW B rf Qa place other t):=by
   exact⟨⟨trivial,(by have t_:=GO (rf);rw[q0]at t_;exact t_)⟩,trivial⟩
  by_cases q1:(8:Int)<((↑Qa.length:Int))
  ·exact(GoE.endsT okF hJ Qf GoE.start (yL B rf Qa place other t)
    ⟨⟨trivial,known⟩,⟨(XF q1),hp7⟩⟩).cast rfl
  ·have hp8:Qz (T9 B rf Qa place other t):=by
    exact⟨(XO (Int.not_lt.1 q1)),hp7⟩
   cases q2:QD rf with
   |true=>
    cases q3:QG rf Qa with
    |true=>
     have hp9:Qz (dV B rf Qa place other t):=by
      have Wc:=XJ ‹QD rf=true›;have Zm:=Qy (Q7 ‹QD rf=true›).1;have Pr:=(QM ‹QG rf Qa=true›).1;have hpg:=XD Wc ‹QG rf Qa=true›;exact⟨⟨trivial,(by have t_:=As (rf) (Qa);rw[q2,q3]at t_;exact t_)⟩,hp8⟩
     cases q4:sizedB t with
     |true=>
      have hp10:Qz (bh B rf Qa place other t):=by
       have Wc:=XJ ‹QD rf=true›;have Zm:=Qy (Q7 ‹QD rf=true›).1;have Pr:=(QM ‹QG rf Qa=true›).1;have hpg:=XD Wc ‹QG rf Qa=true›;exact⟨⟨trivial,(by have t_:=GM (t);rw[q4]at t_;exact t_)⟩,hp9⟩
      by_cases q5:(place:Int)<(0)
      ·exact(GoE.endsT okF hJ Qf GoE.start (yK B rf Qa place other t)
        ⟨⟨trivial,known⟩,⟨(XF q5),hp10⟩⟩).cast rfl
      ·have hp11:Qz (bg B rf Qa place other t):=by
        exact⟨(XO (Int.not_lt.1 q5)),hp10⟩
       by_cases q6:((↑rf.Qb.length:Int):Int)<=(place)
       ·exact(GoE.endsT okF hJ Qf GoE.start (yJ B rf Qa place other t)
         ⟨⟨trivial,known⟩,⟨(Ua q6),hp11⟩⟩).cast rfl
       ·have hp12:Qz (bf B rf Qa place other t):=by
         exact⟨(Ub (Int.not_le.1 q6)),hp11⟩
        by_cases q7:(other:Int)<(0)
        ·exact(GoE.endsT okF hJ Qf GoE.start (yI B rf Qa place other t)
          ⟨⟨trivial,known⟩,⟨(XF q7),hp12⟩⟩).cast rfl
        ·have hp13:Qz (bd B rf Qa place other t):=by
          exact⟨(XO (Int.not_lt.1 q7)),hp12⟩
         by_cases q8:(1000000:Int)<(other)
         ·exact(GoE.endsT okF hJ Qf GoE.start (yH B rf Qa place other t)
           ⟨⟨trivial,known⟩,⟨(XF q8),hp13⟩⟩).cast rfl
         ·have hp14:Qz (bc B rf Qa place other t):=by
           exact⟨(XO (Int.not_lt.1 q8)),hp13⟩
          cases q9:WQ place 0 ((↑rf.Qb.length:Int)-1)with
          |true=>
           have hp15:Qz (ba B rf Qa place other t):=by
            have Wc:=XJ ‹QD rf=true›;have Zm:=Qy (Q7 ‹QD rf=true›).1;have Pr:=(QM ‹QG rf Qa=true›).1;have hpg:=XD Wc ‹QG rf Qa=true›;exact⟨⟨trivial,(by have t_:=Gp (rf) (Qa) (place);rw[q2,q3,q9]at t_;exact t_)⟩,hp14⟩
           by_cases q10:(if QX rf Qa place=0 then 5 else 0:Int)≠(0)
           ·have hp16:Qz (jT B rf Qa place other t):=by
             exact⟨(Jx q10),hp15⟩
            by_cases q11:(if QX rf Qa place=0 then 5 else 0:Int)≠(5)
            ·exfalso
             (have Zm:=Qy (Q7 ‹QD rf=true›).1;omega)
            ·have hp17:Qz (jS B rf Qa place other t):=by
              exact⟨(Yq (Decidable.of_not_not q11)),hp16⟩
             by_cases q12:(List.length rf.Qb:Int)=(0)
             ·exfalso
              (have Zm:=Qy (Q7 ‹QD rf=true›).1;omega)
             ·have rj0:FJ YP B (TB rf Qa place other t) (P3 rf Qa place other t) 3 (OO.ret (.agg #[.slice (some {block:=4,off:=0}) rf.Qb.length 12,.int .i64 rf.miss,.int .i64 rf.seasons])) (([]++((3,Xa)::QU (3+1) [Obj.cells (Qg Qh (Zk rf place other)) 54]))++P3 rf Qa place other t) 5 (List.range 3) []:=by
               have Wc:=XJ ‹QD rf=true›;have Zm:=Qy (Q7 ‹QD rf=true›).1;have Pr:=(QM ‹QG rf Qa=true›).1;have hpg:=XD Wc ‹QG rf Qa=true›;exact FinK.fjB (GoE.finK okF hJ Qf (Q1 (by kernel_rfl)) (Qr (by kernel_rfl)) ((GoE.refl (P:=YP) (B:=B) (c0:=TB rf Qa place other t) (Q1 (by kernel_rfl))).widen (Wf:=((([]):List (Nat×KS)).map (·.1))) (by simp) (Qr (by kernel_rfl))) (yG B rf Qa place other t)
                ⟨(QK (QN (fun x=>List.all_eq_true.1 (by rfl)))),⟨(by exact S6 (z:=12) (k:=Int.toNat place) (j:=6) (fun _=>rfl) (by omega) rfl rfl (by decide)),⟨⟨by omega,by omega⟩,⟨(by exact eB (z:=12) (k:=Int.toNat place) (j:=6) (fun _=>rfl) (by omega) (by decide) rfl rfl),⟨⟨by omega,by omega⟩,⟨⟨by omega,(by unfold maxLen;omega),by omega,(by exact Zf (z:=12) (fun _=>rfl)),S0 (fun _=>rfl) _⟩,trivial⟩⟩⟩⟩⟩⟩) (ex:=[]) (by kernel_rfl) (Wj _)
              have hp18:Qz (aZ B rf Qa place other t):=by
               have Wc:=XJ ‹QD rf=true›;have Zm:=Qy (Q7 ‹QD rf=true›).1;have Pr:=(QM ‹QG rf Qa=true›).1;have hpg:=XD Wc ‹QG rf Qa=true›;exact⟨(by exact S6 (z:=12) (k:=Int.toNat place) (j:=8) (fun _=>rfl) (by(rw[List.length_set];omega)) rfl rfl (by decide)),⟨⟨by omega,by omega⟩,⟨⟨trivial,Mm (if Qd.olo (List.getD (Zk rf place other) place.toNat default)<Qd.slo (List.getD (Zk rf place other) place.toNat default)then Qd.olo (List.getD (Zk rf place other) place.toNat default)else Qd.slo (List.getD (Zk rf place other) place.toNat default)) (if Qd.ohi (List.getD (Zk rf place other) place.toNat default)<Qd.shi (List.getD (Zk rf place other) place.toNat default)then Qd.ohi (List.getD (Zk rf place other) place.toNat default)else Qd.shi (List.getD (Zk rf place other) place.toNat default))⟩,⟨(by exact pt (z:=12) (k:=Int.toNat place) (fun _=>rfl) (by first|omega|(rw[List.length_set];omega)|(rw[List.length_replicate];omega)) rfl rfl),⟨⟨by omega,by omega⟩,⟨rj0,hp17⟩⟩⟩⟩⟩⟩
              by_cases q13:(Qd.ohi (List.getD (Zk rf place other) place.toNat default):Int)<(Qd.shi (List.getD (Zk rf place other) place.toNat default))
              ·exact(GoE.endsT okF hJ Qf GoE.start (yF B rf Qa place other t)
                ⟨⟨trivial,known⟩,⟨(XF q13),hp18⟩⟩).cast rfl
              ·have hp19:Qz (aY B rf Qa place other t):=by
                exact⟨(XO (Int.not_lt.1 q13)),hp18⟩
               by_cases q14:(Qd.olo (List.getD (Zk rf place other) place.toNat default):Int)<(Qd.slo (List.getD (Zk rf place other) place.toNat default))
               ·exact(GoE.endsT okF hJ Qf GoE.start (yE B rf Qa place other t)
                 ⟨⟨trivial,known⟩,⟨(XF q14),hp19⟩⟩).cast rfl
               ·have Wc:=XJ ‹QD rf=true›;have Zm:=Qy (Q7 ‹QD rf=true›).1;have Pr:=(QM ‹QG rf Qa=true›).1;have hpg:=XD Wc ‹QG rf Qa=true›;exact((ph rf Qa place other t Xt hJ _).1 rf.Qb.length (xo rf place other) rfl (by with_reducible assumption) (by with_reducible assumption) (by omega) (by omega) (by omega) (by omega) (by exact GR (by assumption) (by omega) (by omega) (by omega) (by omega) (by try simp only[VF (show place.toNat<rf.Qb.length by omega)]at *;show(rf.Qb.getD place.toNat default).slo<=(if other<(rf.Qb.getD place.toNat default).olo then other else(rf.Qb.getD place.toNat default).olo);omega) (by try simp only[VF (show place.toNat<rf.Qb.length by omega)]at *;show(rf.Qb.getD place.toNat default).shi<=(if other<(rf.Qb.getD place.toNat default).ohi then other else(rf.Qb.getD place.toNat default).ohi);omega)) (by(simp only[List.length_set];done)) (by(refine HH (by omega) (by omega) _ ?_ _;simp only[VF (show place.toNat<rf.Qb.length by omega),Y1,Ve,Qd.mk.injEq,true_and,and_true]at *;constructor <;> (rw[if_neg];omega)))
                 (GoE.start.landM okF hJ Qf (yD B rf Qa place other t)
                 (by exact⟨(Zd (fun x=>List.all_eq_true.1 (by rfl))),⟨(XO (Int.not_lt.1 q14)),hp19⟩⟩) (by kernel_rfl) (by kernel_rfl))).cast (by rfl)
           ·have hp20:Qz (jR B rf Qa place other t):=by
             exact⟨(Yq (Decidable.of_not_not q10)),hp15⟩
            by_cases q11:(List.length rf.Qb:Int)=(0)
            ·exfalso
             (have Zm:=Qy (Q7 ‹QD rf=true›).1;omega)
            ·have rj0:FJ YP B (TA rf Qa place other t) (P2 rf Qa place other t) 3 (OO.ret (.agg #[.slice (some {block:=4,off:=0}) rf.Qb.length 12,.int .i64 rf.miss,.int .i64 rf.seasons])) (([]++((3,Xa)::QU (3+1) [Obj.cells (Qg Qh (Zk rf place other)) 54]))++P2 rf Qa place other t) 5 (List.range 3) []:=by
              have Wc:=XJ ‹QD rf=true›;have Zm:=Qy (Q7 ‹QD rf=true›).1;have Pr:=(QM ‹QG rf Qa=true›).1;have hpg:=XD Wc ‹QG rf Qa=true›;exact FinK.fjB (GoE.finK okF hJ Qf (Q1 (by kernel_rfl)) (Qr (by kernel_rfl)) ((GoE.refl (P:=YP) (B:=B) (c0:=TA rf Qa place other t) (Q1 (by kernel_rfl))).widen (Wf:=((([]):List (Nat×KS)).map (·.1))) (by simp) (Qr (by kernel_rfl))) (yC B rf Qa place other t)
               ⟨(QK (QN (fun x=>List.all_eq_true.1 (by rfl)))),⟨(by exact S6 (z:=12) (k:=Int.toNat place) (j:=6) (fun _=>rfl) (by omega) rfl rfl (by decide)),⟨⟨by omega,by omega⟩,⟨(by exact eB (z:=12) (k:=Int.toNat place) (j:=6) (fun _=>rfl) (by omega) (by decide) rfl rfl),⟨⟨by omega,by omega⟩,⟨⟨by omega,(by unfold maxLen;omega),by omega,(by exact Zf (z:=12) (fun _=>rfl)),S0 (fun _=>rfl) _⟩,trivial⟩⟩⟩⟩⟩⟩) (ex:=[]) (by kernel_rfl) (Wj _)
             have hp21:Qz (aX B rf Qa place other t):=by
              have Wc:=XJ ‹QD rf=true›;have Zm:=Qy (Q7 ‹QD rf=true›).1;have Pr:=(QM ‹QG rf Qa=true›).1;have hpg:=XD Wc ‹QG rf Qa=true›;exact⟨(by exact S6 (z:=12) (k:=Int.toNat place) (j:=8) (fun _=>rfl) (by(rw[List.length_set];omega)) rfl rfl (by decide)),⟨⟨by omega,by omega⟩,⟨⟨trivial,Mm (if Qd.olo (List.getD (Zk rf place other) place.toNat default)<Qd.slo (List.getD (Zk rf place other) place.toNat default)then Qd.olo (List.getD (Zk rf place other) place.toNat default)else Qd.slo (List.getD (Zk rf place other) place.toNat default)) (if Qd.ohi (List.getD (Zk rf place other) place.toNat default)<Qd.shi (List.getD (Zk rf place other) place.toNat default)then Qd.ohi (List.getD (Zk rf place other) place.toNat default)else Qd.shi (List.getD (Zk rf place other) place.toNat default))⟩,⟨(by exact pt (z:=12) (k:=Int.toNat place) (fun _=>rfl) (by first|omega|(rw[List.length_set];omega)|(rw[List.length_replicate];omega)) rfl rfl),⟨⟨by omega,by omega⟩,⟨rj0,hp20⟩⟩⟩⟩⟩⟩
             by_cases q12:(Qd.ohi (List.getD (Zk rf place other) place.toNat default):Int)<(Qd.shi (List.getD (Zk rf place other) place.toNat default))
             ·exact(GoE.endsT okF hJ Qf GoE.start (yB B rf Qa place other t)
               ⟨⟨trivial,known⟩,⟨(XF q12),hp21⟩⟩).cast rfl
             ·have hp22:Qz (aW B rf Qa place other t):=by
               exact⟨(XO (Int.not_lt.1 q12)),hp21⟩
              by_cases q13:(Qd.olo (List.getD (Zk rf place other) place.toNat default):Int)<(Qd.slo (List.getD (Zk rf place other) place.toNat default))
              ·exact(GoE.endsT okF hJ Qf GoE.start (yA B rf Qa place other t)
                ⟨⟨trivial,known⟩,⟨(XF q13),hp22⟩⟩).cast rfl
              ·have Wc:=XJ ‹QD rf=true›;have Zm:=Qy (Q7 ‹QD rf=true›).1;have Pr:=(QM ‹QG rf Qa=true›).1;have hpg:=XD Wc ‹QG rf Qa=true›;exact((ph rf Qa place other t Xt hJ _).1 rf.Qb.length (xo rf place other) rfl (by with_reducible assumption) (by with_reducible assumption) (by omega) (by omega) (by omega) (by omega) (by exact GR (by assumption) (by omega) (by omega) (by omega) (by omega) (by try simp only[VF (show place.toNat<rf.Qb.length by omega)]at *;show(rf.Qb.getD place.toNat default).slo<=(if other<(rf.Qb.getD place.toNat default).olo then other else(rf.Qb.getD place.toNat default).olo);omega) (by try simp only[VF (show place.toNat<rf.Qb.length by omega)]at *;show(rf.Qb.getD place.toNat default).shi<=(if other<(rf.Qb.getD place.toNat default).ohi then other else(rf.Qb.getD place.toNat default).ohi);omega)) (by(simp only[List.length_set];done)) (by(refine HH (by omega) (by omega) _ ?_ _;simp only[VF (show place.toNat<rf.Qb.length by omega),Y1,Ve,Qd.mk.injEq,true_and,and_true]at *;constructor <;> (rw[if_neg];omega)))
                (GoE.start.landM okF hJ Qf (y9 B rf Qa place other t)
                (by exact⟨(Zd (fun x=>List.all_eq_true.1 (by rfl))),⟨(XO (Int.not_lt.1 q13)),hp22⟩⟩) (by kernel_rfl) (by kernel_rfl))).cast (by rfl)
          |false=>
           have Wc:=XJ ‹QD rf=true›;have Zm:=Qy (Q7 ‹QD rf=true›).1;have Pr:=(QM ‹QG rf Qa=true›).1;have hpg:=XD Wc ‹QG rf Qa=true›;exact(GoE.endsT okF hJ Qf GoE.start (y8 B rf Qa place other t)
            ⟨⟨trivial,(by have t_:=Gp (rf) (Qa) (place);rw[q2,q3,q9]at t_;exact t_)⟩,hp14⟩).cast (by(exfalso;have hx:WQ place 0 ((rf.Qb.length:Int)-1)=true:=VL.2 ⟨by omega,by omega⟩;simp_all;done))
     |false=>
      have Wc:=XJ ‹QD rf=true›;have Zm:=Qy (Q7 ‹QD rf=true›).1;have Pr:=(QM ‹QG rf Qa=true›).1;have hpg:=XD Wc ‹QG rf Qa=true›;exact(GoE.endsT okF hJ Qf GoE.start (y7 B rf Qa place other t)
       ⟨⟨trivial,known⟩,⟨⟨trivial,(by have t_:=GM (t);rw[q4]at t_;exact t_)⟩,hp9⟩⟩).cast rfl
    |false=>
     have Wc:=XJ ‹QD rf=true›;have Zm:=Qy (Q7 ‹QD rf=true›).1;exact(GoE.endsT okF hJ Qf GoE.start (y6 B rf Qa place other t)
      ⟨⟨trivial,known⟩,⟨⟨trivial,(by have t_:=As (rf) (Qa);rw[q2,q3]at t_;exact t_)⟩,hp8⟩⟩).cast rfl
   |false=>
    exact(GoE.endsT okF hJ Qf GoE.start (y5 B rf Qa place other t)
     ⟨⟨trivial,known⟩,⟨⟨trivial,(by have t_:=As (rf) (Qa);rw[q2]at t_;exact t_)⟩,hp8⟩⟩).cast rfl
 |false=>
  exact(GoE.endsT okF hJ Qf GoE.start (y2 B rf Qa place other t)
   ⟨⟨trivial,known⟩,⟨⟨trivial,(by have t_:=GO (rf);rw[q0]at t_;exact t_)⟩,trivial⟩⟩).cast rfl
theorem M6(rf:Qe)(Qa:List Int)(place other:Int)(t:Ql)  :Qx YP J0 13 #[.agg (Q0 rf).toArray,Xr Qa,.int .i64 place,.int .i64 other,.agg #[Xr t.Qc,X8 t.Qi,X8 t.Qj]] (.bool true):=
 Va (ts:=[.agg (Q0 rf).toArray,Xr Qa,.int .i64 place,.int .i64 other,.agg #[Xr t.Qc,X8 t.Qi,X8 t.Qj]]) (Qa.length<=9223372036854775807) (fun _ _ ht=>ht.ln (i:=1) rfl) Za (c0:=Qp YP 13 225 (([.agg (Q0 rf).toArray,Xr Qa,.int .i64 place,.int .i64 other,.agg #[Xr t.Qc,X8 t.Qi,X8 t.Qj]]).map (Q2 0 4))) (by kernel_rfl) (by kernel_rfl) fun Xt B hJ=>En rf Qa place other t  Xt hJ
end
end Go.Proofs.Ytncjjangllkokaa

namespace Go.Proofs.Ytncjjangllkokaa
open Go Go.CE Go.RowKit
theorem BO:∀trs,tx [ky,.slice .int,.int,.int,bY] trs->Qx YP J0 13 trs.toArray (.bool true):=by
 rintro trs ⟨t0,_,rfl,h0,t1,_,rfl,h1,t2,_,rfl,h2,t3,_,rfl,h3,t4,_,rfl,h4,rfl⟩;obtain⟨r,rfl⟩:=HZ h0;obtain⟨l,rfl⟩:=Ia h1;obtain⟨n,rfl⟩:=B1 h2;obtain⟨o,rfl⟩:=B1 h3;obtain⟨t,rfl⟩:=Ei h4;exact M6 r l n o t
end Go.Proofs.Ytncjjangllkokaa

namespace Go.Proofs.Ytncjjangllkokaa
open Go Go.CE Go.ChangeShapes Go.WideShapes Go.RowKit
set_option maxRecDepth 100000 in
theorem eC(os:Os)(started:os.Started)(H:Type)(enc:TypeId×Value->H):
 ReturnsInHanded {} Try.checked os 13 .any (Rows.reefTakenSpec.pre6 enc YP Try.f13 Rows.reefTakenRow.domain false) (Rows.reefTakenSpec.post enc YP Try.f13 false true false false):=by
 refine returnsInHanded_of_change (C:=Try.checked) (show ownKnob YP.godebug=none by kernel_rfl) started (by kernel_rfl) Try.func13
  (ChangeSpec.witness6 (enc:=enc) (C:=Try.checked) false ⟨#[],#[Sh.zeroA ky,Sh.zeroA (.slice .int),Sh.zeroA .int,Sh.zeroA .int,Sh.zeroA bY],[]⟩ 8 (by kernel_rfl) (by kernel_rfl) (by kernel_rfl) (by kernel_rfl)) ?_
 intro W base args ds gs before hval0 hW _ _;have hval:∀(j:Nat) t v,Try.f13.params[j]? =some t->args[j]? =some v->Value.okWide YP W .any base t v:=hval0;have hW':=hW;obtain⟨p,q,hA0,hV,rfl,_,_⟩:=hW;obtain⟨rfl,rfl⟩:=trodVars_none hV;have hA1:DataW.TrodAll enc YP W 0 (fun _=>true) true Try.f13.params.toList args.toList ds p:=hA0;have Xh:∀x∈p,x.block<W.heap.size:=fun x hx=>hW'.lt x (by simpa using hx)
 have Pw:bG YP [ky,(.slice .int),.int,.int,bY] Try.f13.params.toList=true:=by kernel_rfl
 have hrd:(Try.f13.params.toList.all fun t=>YP.readableRec t && decide (t<YP.types.size))=true:=by kernel_rfl
 refine(Hi (J:=J0) (ss:=[ky,(.slice .int),.int,.int,bY]) trivial Pw hA1 (fun j t v h1 h2=>hval j t v (by simpa using h1) h2) BO).mono fun e W' ⟨he,hB⟩=> ?_
 subst he;have hB2:=aJ (show laidOutB YP=true by kernel_rfl) hB _ _ _ _ hrd hA1 Xh;have hA:DataW.TrodAll enc YP W 0 (fun _=>true) true Try.f13.params.toList args.toList ds p:=hA1;rw[Try.params13]at hA;simp only[List.toList_toArray]at hA;have hA:=hA;obtain⟨v0,vs0,d0,ds0,p0,q0,_,rfl,_,h0,_⟩:=CE.trodAll_cons hA;obtain⟨v1,vs1,d1,ds1,p1,q1,_,rfl,_,h1,_⟩:=CE.trodAll_cons h0;obtain⟨v2,vs2,d2,ds2,p2,q2,_,rfl,_,h2,_⟩:=CE.trodAll_cons h1;obtain⟨v3,vs3,d3,ds3,p3,q3,_,rfl,_,h3,_⟩:=CE.trodAll_cons h2;obtain⟨v4,vs4,d4,ds4,p4,q4,_,rfl,_,h4,_⟩:=CE.trodAll_cons h3;obtain⟨_,rfl,_⟩:=CE.trodAll_nil h4;exact⟨_,rfl,_,_,_,[],_,[],hW',trodAll_mk1 (shut_bool Try.underlying4 _),hB2,rfl,hB.frame _,fun h=>by cases h⟩
theorem reefTaken_row:Rows.ReefTakenSaid:=
 OpenClaim.holds_of_wide 13 Try.f13 rfl rfl rfl rfl rfl rfl rfl ⟨rfl,rfl,rfl,rfl,rfl⟩ rfl rfl rfl rfl rfl (by kernel_rfl) Try.func13 (by kernel_rfl)
  (of_decide_eq_true (by kernel_rfl)) (by unfold Func.isWrapper;first|(rw[if_pos (by decide+kernel)];kernel_rfl)|(rw[if_neg (by decide+kernel)];exact⟨rfl,rfl⟩))
  (fun os started H enc _=>eC os started H enc)
end Go.Proofs.Ytncjjangllkokaa
