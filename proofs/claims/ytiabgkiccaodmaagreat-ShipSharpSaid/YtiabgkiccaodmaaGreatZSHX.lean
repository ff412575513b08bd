/- ShipSharp: whatever the input, it returns true, and each argument reads as it did. The row, from the walk. -/
import Derived.Test.YtiabgkiccaodmaaGreatZSH15
import Derived.Test.YtiabgkiccaodmaaGreatZSH14
import Derived.Test.YtiabgkiccaodmaaGreatZSH16
import Derived.JoinedOf
import Derived.Test.YtiabgkiccaodmaaGreatRows
set_option linter.all false
namespace Go.Proofs.YtiabgkiccaodmaaGreat
open Go Go.CE Go.RowKit
noncomputable section
set_option maxRecDepth 100000
theorem getD_map {α β:Type} [Inhabited α] [Inhabited β] {f:α->β} {l:List α} {k:Nat} (h:k < l.length):(l.map f).getD k default=f (l.getD k default):=by
 simp [List.getD_eq_getElem?_getD,h]
theorem Qzu {a b x:Int}:x∈upI a b<->a<=x/\x < b:=by
 refine ⟨Qo5,fun h=> ?_⟩;unfold upI;exact List.mem_map.2 ⟨(x - a).toNat,List.mem_range.2 (by omega),by omega⟩
def QwQ (f:Span->Int):Prop:=∀x:Span,x.lo<=x.hi->x.lo<=f x/\f x<=x.hi
theorem QaZ:QwQ Span.lo:=fun _ h=> ⟨Int.le_refl _,h⟩
theorem Qba:QwQ Span.hi:=fun _ h=> ⟨h,Int.le_refl _⟩
theorem Qmi {ss:List Span} {f:Span->Int} (hf:QwQ f) (h:∀x∈ss,x.lo<=x.hi):QcJ (ss.map f) ss=true:=by
 unfold QcJ Q3D;rw [List.length_map,decide_eq_true rfl,Bool.true_and,List.all_eq_true];intro k hk;have hk:=Qzu.1 hk;rw [getD_map (by omega),QaU];exact hf _ (h _ (QaH (l:=ss) hk.1 hk.2))
theorem Qux {x:Int}:∀n:Nat,QfG (List.replicate n x)=n * x
 | 0=> by simp [QfG]
 | n+1=> by
   rw [List.replicate_succ];show x+QfG (List.replicate n x)=_;rw [Qux n,Int.natCast_add,Int.add_mul];omega
theorem Q4o {d g:Int} (hd:0<=d) (hg:1<=g):d<=((d+g - 1).tdiv g).toNat * g:=by
 rw [Int.tdiv_eq_ediv_of_nonneg (by omega)];have h0:0<=(d+g - 1) / g:=Int.ediv_nonneg (by omega) (by omega);rw [Int.toNat_of_nonneg h0];have h1:=Int.lt_ediv_add_one_mul_self (d+g - 1) (show 0 < g by omega);rw [Int.add_mul] at h1;omega
theorem QaM {f g:Span->Int} {s:Qaa} {days:Int} (hf:QwQ f) (hg:QwQ g) (hs:Qa3 s=true) (hd:0<=days/\days<=300):Qb7 s days (Qag f g s days)=true:=by
 have hgp:=Qaw hs;have hst:=Qai hs;have hlo:=Qav hs;have hgg:=hg ⟨s.glo,s.ghi⟩ hgp.2.1;have hqf:=Qcx (g:=g ⟨s.glo,s.ghi⟩) hd (by simp only at hgg;omega);simp only at hgg;have h1:QcJ (Qag f g s days).uses s.use=true:=Qmi hg fun x hx=> (hst.2.2.2 x hx).2.1
 have h2:Qhl s days (Qag f g s days).gaps=true:=by
  have e:(Qag f g s days).gaps=List.replicate ((days+g ⟨s.glo,s.ghi⟩ - 1).tdiv (g ⟨s.glo,s.ghi⟩)).toNat (g ⟨s.glo,s.ghi⟩):=rfl;rw [e];unfold Qhl;rw [List.length_replicate,decide_eq_true (by omega),Bool.true_and,YB,List.all_eq_true];refine ⟨fun x hx=> ?_,decide_eq_true ?_⟩
  ·rw [(List.mem_replicate.1 hx).2,QaU];exact hgg
  ·rw [Qux];exact Q4o hd.1 (by omega)
 have h3:QhW s (Qag f g s days).goods=true:=by
  have e:(Qag f g s days).goods=s.lots.map fun (l:Qad)=> (l.goods.map f:Row):=rfl
  rw [e];unfold QhW Q39;rw [List.length_map,decide_eq_true rfl,Bool.true_and,List.all_eq_true];intro k hk;have hk:=Qzu.1 hk;have hm:=QaH (l:=s.lots) hk.1 hk.2;have e:(s.lots.map fun (l:Qad)=> (l.goods.map f:Row)).getD k.toNat default=(s.lots.getD k.toNat default).goods.map f:=getD_map (f:=fun (l:Qad)=> (l.goods.map f:Row)) (by omega);rw [e];exact Qmi hf fun x hx=> ((QdW (hlo.2 _ hm)).2.1 x hx).2.1
 unfold Qb7;rw [h1,h2,h3];rfl
structure Wnt where
 may:Int
 must:Int
deriving Inhabited
def Qbi (w:Wnt):List Value:=[.int .i64 w.may,.int .i64 w.must]
abbrev QkP (xs:List Wnt):Value:=slT xs.length (Qac Qbi xs)
def Q7e (s:Qaa) (load days k:Int):Int:=Qay (QeW s load days (Qag Span.lo Span.hi s days) k)
def Q5u (s:Qaa) (load days k:Int):Int:=Qay (QeW s load days (Qag Span.hi Span.lo s days) k)
def Qtx (s:Qaa) (load days k:Int):Wnt:=⟨Q7e s load days k,Q5u s load days k⟩
def Qbr (s:Qaa) (load days:Int):List Wnt:=(upI 0 s.stock.length).map (Qtx s load days)
theorem Qla {s:Qaa} {load days:Int}:(Qbr s load days).length=s.stock.length:=by simp [Qbr,QbI]
theorem Qot {s:Qaa} {load days k:Int} (h0:0<=k) (h1:k < s.stock.length):(Qbr s load days).getD k.toNat default=Qtx s load days k:=by
 unfold Qbr;rw [getD_map (by rw [QbI];omega),Qh9 h0 h1]
def Qr2 (s:Qaa) (load days i:Int):List Wnt:=Qg1 (Qtx s load days) ⟨0,0⟩ (upI 0 s.stock.length) i
theorem Qz2 {s:Qaa} {load days i:Int}:(Qr2 s load days i).length=s.stock.length:=by
 unfold Qr2;rw [Qdz,QbI];omega
theorem Q4r {s:Qaa} {load days:Int}:List.replicate s.stock.length (⟨0,0⟩:Wnt)=Qr2 s load days 0:=by
 unfold Qr2;rw [<-QfE,QbI];rfl
theorem Qzq {s:Qaa} {load days i:Int} (h0:0<=i) (h:i < s.stock.length):(Qr2 s load days i).set i.toNat ⟨((Qbb s load days (Qag Span.lo Span.hi s days)).map Qay).getD i.toNat default,((Qbb s load days (Qag Span.hi Span.lo s days)).map Qay).getD i.toNat default⟩=Qr2 s load days (i+1):=by
 have:=Qd0 (f:=Qtx s load days) (x0:=⟨0,0⟩) (xs:=upI 0 s.stock.length) (i:=i) h0 (by rw [QbI];omega);rw [Qh9 h0 h] at this;rw [Qfz h0 h,Qfz h0 h];exact this
theorem Q0g {s:Qaa} {load days i:Int} (h:s.stock.length<=i):Qr2 s load days i=Qbr s load days:=Qdp (by rw [QbI];omega)
def QgV (s:Qaa) (days:Int):Array Value:=#[slT (List.length (Qao.uses (Qag Span.lo Span.hi s days))) (Qac Qal (Qao.uses (Qag Span.lo Span.hi s days))),slT (List.length (Qao.gaps (Qag Span.lo Span.hi s days))) (Qac Qal (Qao.gaps (Qag Span.lo Span.hi s days))),slT (List.length (Qao.goods (Qag Span.lo Span.hi s days))) (Qac Qa0 (Qao.goods (Qag Span.lo Span.hi s days)))]
theorem QqY (B:Lo) (s:Qaa) (load days:Int):QaY (Qam YP (Qa1 YP) J0 B 6 1 (Qaj YP 128 7 (([.agg (QaI s load days).toArray]).map (Qat 0 4))) H00 1
 [(4,Qaf.pure (.agg (QgV s days)) []),(5,Qaf.pure (slT (List.length (Qbb s load days (Qag Span.lo Span.hi s days))) (Qac QbL (Qbb s load days (Qag Span.lo Span.hi s days)))) [])] 0 [] []) []=some (slT (List.length (Qbb s load days (Qag Span.lo Span.hi s days))) (Qac QbL (Qbb s load days (Qag Span.lo Span.hi s days))),
 [QaA []/\Qaq YP J0 84 #[.agg #[slT s.stock.length (Qac Qal s.stock),slT s.use.length (Qac Qa7 s.use),.int .i64 s.glo,.int .i64 s.ghi,slT s.lots.length (Qac Qap s.lots),.int .i64 s.hold,.int .i64 load,.int .i64 days],.agg (QgV s days)] (slT (List.length (Qbb s load days (Qag Span.lo Span.hi s days))) (Qac QbL (Qbb s load days (Qag Span.lo Span.hi s days)))),QaA []/\Qaq YP J0 150 #[.agg #[slT s.stock.length (Qac Qal s.stock),slT s.use.length (Qac Qa7 s.use),.int .i64 s.glo,.int .i64 s.ghi,slT s.lots.length (Qac Qap s.lots),.int .i64 s.hold,.int .i64 load,.int .i64 days],Value.func (Fn.func 104) #[] #[],Value.func (Fn.func 103) #[] #[]] (.agg (QgV s days))]):=by kernel_rfl
set_option maxHeartbeats 4000000 in
theorem Qtv (s:Qaa) (load days:Int) (hs:Qa3 s=true) (hd:0<=days/\days<=300) (h0:0<=load) (h1:load < 64) (hx:QcF load<=s.lots.length) {B:Lo} (hJ:∀w,B.has w->J0 w):EndsT YP B (Qaj YP 128 7 (([.agg (QaI s load days).toArray]).map (Qat 0 4))) (slG (Qbb s load days (Qag Span.lo Span.hi s days))):=by
 have ht1:=QaM QaZ Qba hs hd;have ht2:=QaM Qba QaZ hs hd;exact (GoE.endsT okF hJ Qab GoE.start (QqY B s load days)
  ⟨⟨trivial,Qzx (s) (load) (days) (Qag Span.lo Span.hi s days) (by with_reducible assumption) (by with_reducible assumption) (by with_reducible assumption) (by with_reducible assumption) (by with_reducible assumption) (by with_reducible assumption)⟩,⟨⟨trivial,Q40 (s) (load) (days) (by with_reducible assumption) (by with_reducible assumption)⟩,trivial⟩⟩).cast (by rfl)
theorem Qyb (s:Qaa) (load days:Int) (hs:Qa3 s=true) (hd:0<=days/\days<=300) (h0:0<=load) (h1:load < 64) (hx:QcF load<=s.lots.length):Qaq YP J0 128 #[.agg (QaI s load days).toArray] (slG (Qbb s load days (Qag Span.lo Span.hi s days))):=
 QaE (ts:=[.agg (QaI s load days).toArray]) Qbw (c0:=Qaj YP 128 7 (([.agg (QaI s load days).toArray]).map (Qat 0 4))) (by kernel_rfl) (by kernel_rfl) fun B hJ=> Qtv s load days hs hd h0 h1 hx hJ
def Qii (s:Qaa) (days:Int):Array Value:=#[slT (List.length (Qao.uses (Qag Span.hi Span.lo s days))) (Qac Qal (Qao.uses (Qag Span.hi Span.lo s days))),slT (List.length (Qao.gaps (Qag Span.hi Span.lo s days))) (Qac Qal (Qao.gaps (Qag Span.hi Span.lo s days))),slT (List.length (Qao.goods (Qag Span.hi Span.lo s days))) (Qac Qa0 (Qao.goods (Qag Span.hi Span.lo s days)))]
theorem Qst (B:Lo) (s:Qaa) (load days:Int):QaY (Qam YP (Qa1 YP) J0 B 6 1 (Qaj YP 129 7 (([.agg (QaI s load days).toArray]).map (Qat 0 4))) H00 1
 [(4,Qaf.pure (.agg (Qii s days)) []),(5,Qaf.pure (slT (List.length (Qbb s load days (Qag Span.hi Span.lo s days))) (Qac QbL (Qbb s load days (Qag Span.hi Span.lo s days)))) [])] 0 [] []) []=some (slT (List.length (Qbb s load days (Qag Span.hi Span.lo s days))) (Qac QbL (Qbb s load days (Qag Span.hi Span.lo s days))),
 [QaA []/\Qaq YP J0 84 #[.agg #[slT s.stock.length (Qac Qal s.stock),slT s.use.length (Qac Qa7 s.use),.int .i64 s.glo,.int .i64 s.ghi,slT s.lots.length (Qac Qap s.lots),.int .i64 s.hold,.int .i64 load,.int .i64 days],.agg (Qii s days)] (slT (List.length (Qbb s load days (Qag Span.hi Span.lo s days))) (Qac QbL (Qbb s load days (Qag Span.hi Span.lo s days)))),QaA []/\Qaq YP J0 150 #[.agg #[slT s.stock.length (Qac Qal s.stock),slT s.use.length (Qac Qa7 s.use),.int .i64 s.glo,.int .i64 s.ghi,slT s.lots.length (Qac Qap s.lots),.int .i64 s.hold,.int .i64 load,.int .i64 days],Value.func (Fn.func 103) #[] #[],Value.func (Fn.func 104) #[] #[]] (.agg (Qii s days))]):=by kernel_rfl
set_option maxHeartbeats 4000000 in
theorem Qvs (s:Qaa) (load days:Int) (hs:Qa3 s=true) (hd:0<=days/\days<=300) (h0:0<=load) (h1:load < 64) (hx:QcF load<=s.lots.length) {B:Lo} (hJ:∀w,B.has w->J0 w):EndsT YP B (Qaj YP 129 7 (([.agg (QaI s load days).toArray]).map (Qat 0 4))) (slG (Qbb s load days (Qag Span.hi Span.lo s days))):=by
 have ht1:=QaM QaZ Qba hs hd;have ht2:=QaM Qba QaZ hs hd;exact (GoE.endsT okF hJ Qab GoE.start (Qst B s load days)
  ⟨⟨trivial,Qzx (s) (load) (days) (Qag Span.hi Span.lo s days) (by with_reducible assumption) (by with_reducible assumption) (by with_reducible assumption) (by with_reducible assumption) (by with_reducible assumption) (by with_reducible assumption)⟩,⟨⟨trivial,Q5d (s) (load) (days) (by with_reducible assumption) (by with_reducible assumption)⟩,trivial⟩⟩).cast (by rfl)
theorem Q2G (s:Qaa) (load days:Int) (hs:Qa3 s=true) (hd:0<=days/\days<=300) (h0:0<=load) (h1:load < 64) (hx:QcF load<=s.lots.length):Qaq YP J0 129 #[.agg (QaI s load days).toArray] (slG (Qbb s load days (Qag Span.hi Span.lo s days))):=
 QaE (ts:=[.agg (QaI s load days).toArray]) Qbw (c0:=Qaj YP 129 7 (([.agg (QaI s load days).toArray]).map (Qat 0 4))) (by kernel_rfl) (by kernel_rfl) fun B hJ=> Qvs s load days hs hd h0 h1 hx hJ
def Qhy (s:Qaa) (load days:Int) (i:Int) (ys:List Wnt):List Value:=[Qa4 1 (slT (List.length (List.map Qay (Qbb s load days (Qag Span.lo Span.hi s days)))) (Qac Qal (List.map Qay (Qbb s load days (Qag Span.lo Span.hi s days))))),Qa4 1 (slT (List.length (List.map Qay (Qbb s load days (Qag Span.hi Span.lo s days)))) (Qac Qal (List.map Qay (Qbb s load days (Qag Span.hi Span.lo s days))))),.slice (some {block:=2,off:=0}) s.stock.length 2,.int .i64 (↑s.stock.length:Int),.int .i64 i]
def QeD (s:Qaa) (load days:Int) (i:Int) (ys:List Wnt):List Obj:=[.cells (Qac Qbi ys) 81 (0,0)]
def QgM:List Item:=([.code [1,1,1,0,1,0,0],.inLoop [1,1,1,0,1,0,0],.inBlock 0,.code [1,1,1,1]]).map (it (Qar YP 89))
def Qyo (B:Lo) (c0:CF) (s:Qaa) (load days:Int) (i:Int) (ys:List Wnt):Prop:=∃dJ:Nat->Value,(∀t,Qbc (dJ t))/\GoE YP B c0 H00 1 (Qa9 89 37 (([3,4,5,19,20]:List Nat).zip (Qhy s load days i ys)) dJ QgM) (Qa5 (QeD s load days i ys)) (2+(QeD s load days i ys).length) []
theorem Qzd (B:Lo) (s:Qaa) (load days:Int) (i:Int) (ys:List Wnt) (dJ0:Nat->Value):landM (Qam YP (Qa1 YP) J0 B 13 1 (Qa9 89 37 (([3,4,5,19,20]:List Nat).zip (Qhy s load days i ys)) dJ0 QgM) (Qa5 (QeD s load days i ys)) (2+(QeD s load days i ys).length)
 [(0,hvT),(7,Qaf.tidx i.toNat #[.int .i64 (List.getD (List.map Qay (Qbb s load days (Qag Span.lo Span.hi s days))) i.toNat default)]),(11,Qaf.tidx i.toNat #[.int .i64 (List.getD (List.map Qay (Qbb s load days (Qag Span.hi Span.lo s days))) i.toNat default)]),(14,Qaf.old (Hint.idx i.toNat)),(15,Qaf.old (Hint.st (Qac Qbi (List.set ys i.toNat {may:=List.getD (List.map Qay (Qbb s load days (Qag Span.lo Span.hi s days))) i.toNat default,must:=List.getD (List.map Qay (Qbb s load days (Qag Span.hi Span.lo s days))) i.toNat default})))),(16,hvI (i+1))] 0 [] []) [3,4,5,19,20] [(2,KS.cells [] (Qac Qbi (List.set ys i.toNat {may:=List.getD (List.map Qay (Qbb s load days (Qag Span.lo Span.hi s days))) i.toNat default,must:=List.getD (List.map Qay (Qbb s load days (Qag Span.hi Span.lo s days))) i.toNat default})))] []=some ⟨89,37,QgM,[],.run,none,Qhy s load days (i+1) (List.set ys i.toNat {may:=List.getD (List.map Qay (Qbb s load days (Qag Span.lo Span.hi s days))) i.toNat default,must:=List.getD (List.map Qay (Qbb s load days (Qag Span.hi Span.lo s days))) i.toNat default}),QeD s load days (i+1) (List.set ys i.toNat {may:=List.getD (List.map Qay (Qbb s load days (Qag Span.lo Span.hi s days))) i.toNat default,must:=List.getD (List.map Qay (Qbb s load days (Qag Span.hi Span.lo s days))) i.toNat default}),
 [QaF 1 [] (Qac Qbi (List.set ys i.toNat {may:=List.getD (List.map Qay (Qbb s load days (Qag Span.lo Span.hi s days))) i.toNat default,must:=List.getD (List.map Qay (Qbb s load days (Qag Span.hi Span.lo s days))) i.toNat default})) (Qac Qbi (List.set ys i.toNat {may:=List.getD (List.map Qay (Qbb s load days (Qag Span.lo Span.hi s days))) i.toNat default,must:=List.getD (List.map Qay (Qbb s load days (Qag Span.hi Span.lo s days))) i.toNat default})),wq (i+1)=i+1,0+Int.toNat i * 2+TypeInfo.size Tryz.t81<=Array.size (Qac Qbi ys)/\splice (Qac Qbi ys) (0+Int.toNat i * 2) (Value.cells (Qcd {len:=16000,tr:=Tri.set 14 (Tri.set 14 Tri.lf 33 (.agg #[.int .i64 (List.getD (List.map Qay (Qbb s load days (Qag Span.lo Span.hi s days))) i.toNat default),.int .i64 (List.getD (List.map Qay (Qbb s load days (Qag Span.hi Span.lo s days))) i.toNat default)])) 34 (.pointer (some {block:=2,off:=0+Int.toNat i * 2}))} 33))=Qac Qbi (List.set ys i.toNat {may:=List.getD (List.map Qay (Qbb s load days (Qag Span.lo Span.hi s days))) i.toNat default,must:=List.getD (List.map Qay (Qbb s load days (Qag Span.hi Span.lo s days))) i.toNat default}),i=(↑i.toNat:Int)/\Int.toNat i < List.length s.stock,i=(↑i.toNat:Int)/\Int.toNat i < List.length (List.map Qay (Qbb s load days (Qag Span.hi Span.lo s days)))/\Array.extract (Qac Qal (List.map Qay (Qbb s load days (Qag Span.hi Span.lo s days)))) (Int.toNat i * TypeInfo.size Tryz.t3) (Int.toNat i * TypeInfo.size Tryz.t3+TypeInfo.size Tryz.t3)=#[.int .i64 (List.getD (List.map Qay (Qbb s load days (Qag Span.hi Span.lo s days))) i.toNat default)],i=(↑i.toNat:Int)/\Int.toNat i < List.length (List.map Qay (Qbb s load days (Qag Span.lo Span.hi s days)))/\Array.extract (Qac Qal (List.map Qay (Qbb s load days (Qag Span.lo Span.hi s days)))) (Int.toNat i * TypeInfo.size Tryz.t3) (Int.toNat i * TypeInfo.size Tryz.t3+TypeInfo.size Tryz.t3)=#[.int .i64 (List.getD (List.map Qay (Qbb s load days (Qag Span.lo Span.hi s days))) i.toNat default)],ltq i (↑s.stock.length:Int)=true]⟩:=by kernel_rfl
theorem QyI (B:Lo) (s:Qaa) (load days:Int) (i:Int) (ys:List Wnt) (dJ0:Nat->Value):QaY (Qam YP (Qa1 YP) J0 B 9 1 (Qa9 89 37 (([3,4,5,19,20]:List Nat).zip (Qhy s load days i ys)) dJ0 QgM) (Qa5 (QeD s load days i ys)) (2+(QeD s load days i ys).length)
 [(0,hvF)] 0 [] []) [{k:=2,rs:=[],cs:=Qac Qbi ys}]=some (slT s.stock.length (Fz.cs {k:=2,rs:=[],cs:=Qac Qbi ys}),
 [Qbj (Fz.rs {k:=2,rs:=[],cs:=Qac Qbi ys}) (Qac Qbi ys) (Fz.cs {k:=2,rs:=[],cs:=Qac Qbi ys}),ltq i (↑s.stock.length:Int)=false]):=by kernel_rfl
theorem Qzp (B:Lo) (s:Qaa) (load days:Int):landM (Qam YP (Qa1 YP) J0 B 11 1 (Qaj YP 89 37 (([.agg (QaI s load days).toArray]).map (Qat 0 4))) H00 1
 [(3,Qaf.pure (slT (List.length (Qbb s load days (Qag Span.lo Span.hi s days))) (Qac QbL (Qbb s load days (Qag Span.lo Span.hi s days)))) []),(4,Qaf.pure (slT (List.length (List.map Qay (Qbb s load days (Qag Span.lo Span.hi s days)))) (Qac Qal (List.map Qay (Qbb s load days (Qag Span.lo Span.hi s days))))) []),(6,Qaf.pure (slT (List.length (Qbb s load days (Qag Span.hi Span.lo s days))) (Qac QbL (Qbb s load days (Qag Span.hi Span.lo s days)))) []),(7,Qaf.pure (slT (List.length (List.map Qay (Qbb s load days (Qag Span.hi Span.lo s days)))) (Qac Qal (List.map Qay (Qbb s load days (Qag Span.hi Span.lo s days))))) []),(14,Qaf.old (Hint.mk s.stock.length (Qac (QbD [.int .i64 0,.int .i64 0]) (List.replicate s.stock.length ()))))] 0 [] []) [3,4,5,19,20] [(6,KS.rows [] [] (Qac Qbi (List.replicate s.stock.length {may:=0,must:=0})))] []=some ⟨89,37,QgM,[],.run,none,Qhy s load days (0) (List.replicate s.stock.length {may:=0,must:=0}),QeD s load days (0) (List.replicate s.stock.length {may:=0,must:=0}),
 [QaX 1 [] [] (Qac (QbD [.int .i64 0,.int .i64 0]) (List.replicate s.stock.length ())) (Qac Qbi (List.replicate s.stock.length {may:=0,must:=0})),QfK YP 75 (Qcd {len:=16000,tr:=Tri.set 14 Tri.lf 16 (.int .i64 (↑s.stock.length:Int))} 16) (Qcd {len:=16000,tr:=Tri.set 14 Tri.lf 16 (.int .i64 (↑s.stock.length:Int))} 16)=some (81,Qac (QbD [.int .i64 0,.int .i64 0]) (List.replicate s.stock.length ()),List.length s.stock,TypeInfo.size Tryz.t81),QaA []/\Qaq YP J0 85 #[slT (List.length (Qbb s load days (Qag Span.hi Span.lo s days))) (Qac QbL (Qbb s load days (Qag Span.hi Span.lo s days)))] (slT (List.length (List.map Qay (Qbb s load days (Qag Span.hi Span.lo s days)))) (Qac Qal (List.map Qay (Qbb s load days (Qag Span.hi Span.lo s days))))),QaA []/\Qaq YP J0 129 #[.agg #[slT s.stock.length (Qac Qal s.stock),slT s.use.length (Qac Qa7 s.use),.int .i64 s.glo,.int .i64 s.ghi,slT s.lots.length (Qac Qap s.lots),.int .i64 s.hold,.int .i64 load,.int .i64 days]] (slT (List.length (Qbb s load days (Qag Span.hi Span.lo s days))) (Qac QbL (Qbb s load days (Qag Span.hi Span.lo s days)))),QaA []/\Qaq YP J0 85 #[slT (List.length (Qbb s load days (Qag Span.lo Span.hi s days))) (Qac QbL (Qbb s load days (Qag Span.lo Span.hi s days)))] (slT (List.length (List.map Qay (Qbb s load days (Qag Span.lo Span.hi s days)))) (Qac Qal (List.map Qay (Qbb s load days (Qag Span.lo Span.hi s days))))),QaA []/\Qaq YP J0 128 #[.agg #[slT s.stock.length (Qac Qal s.stock),slT s.use.length (Qac Qa7 s.use),.int .i64 s.glo,.int .i64 s.ghi,slT s.lots.length (Qac Qap s.lots),.int .i64 s.hold,.int .i64 load,.int .i64 days]] (slT (List.length (Qbb s load days (Qag Span.lo Span.hi s days))) (Qac QbL (Qbb s load days (Qag Span.lo Span.hi s days))))]⟩:=by kernel_rfl
set_option maxHeartbeats 4000000 in
theorem Qyx (s:Qaa) (load days:Int) (hs:Qa3 s=true) (hd:0<=days/\days<=300) (h0:0<=load) (h1:load < 64) (hx:QcF load<=s.lots.length) {B:Lo} (hJ:∀w,B.has w->J0 w) {c0:CF}:∀m:Nat,(∀(i:Int) (ys:List Wnt),s.stock.length - i.toNat=m->∀(i0:0<=i) (hy:ys=Qr2 s load days i),Qyo B c0 s load days i ys->EndsT YP B c0 (QkP (Qbr s load days))):=by
 intro m0;induction m0 using Nat.strongRecOn with
 | _ m0 ih0=>
   intro i ys hm0 i0 hy ⟨dJ0,hdJ0,hg0⟩;have ht1:=QaM QaZ Qba hs hd;have ht2:=QaM Qba QaZ hs hd;have hst:=Qai hs;have g1:=Qzn (load:=load) hs ht1 hd h0 h1 hx;have g2:=Qzn (load:=load) hs ht2 hd h0 h1 hx;have e1:=Qfd (s:=s) (load:=load) (days:=days) (t:=Qag Span.lo Span.hi s days);have e2:=Qfd (s:=s) (load:=load) (days:=days) (t:=Qag Span.hi Span.lo s days);have e3:((Qbb s load days (Qag Span.lo Span.hi s days)).map Qay).length=s.stock.length:=by rw [List.length_map,e1]
   have e4:((Qbb s load days (Qag Span.hi Span.lo s days)).map Qay).length=s.stock.length:=by rw [List.length_map,e2]
   have hyl:ys.length=s.stock.length:=by rw [hy];exact Qz2
   have e1:=Qfd (s:=s) (load:=load) (days:=days) (t:=Qag Span.lo Span.hi s days);have e2:=Qfd (s:=s) (load:=load) (days:=days) (t:=Qag Span.hi Span.lo s days);have e3:((Qbb s load days (Qag Span.lo Span.hi s days)).map Qay).length=s.stock.length:=by rw [List.length_map,e1]
   have e4:((Qbb s load days (Qag Span.hi Span.lo s days)).map Qay).length=s.stock.length:=by rw [List.length_map,e2]
   by_cases q0:(i:Int) < ((↑s.stock.length:Int))
   ·exact ((ih0 _ (by omega)) (i+1) (List.set ys i.toNat {may:=List.getD (List.map Qay (Qbb s load days (Qag Span.lo Span.hi s days))) i.toNat default,must:=List.getD (List.map Qay (Qbb s load days (Qag Span.hi Span.lo s days))) i.toNat default}) rfl (by omega) (by (subst hy;exact Qzq i0 q0))
     (hg0.landM okF hJ Qab (Qzd B s load days i ys dJ0)
     (by exact ⟨(Qan (Qas (fun x=> List.all_eq_true.1 (by rfl)))),⟨(QaL (by omega) (by omega)),⟨(by exact Qf0 (z:=2) (fun _=> rfl) (by omega) rfl rfl),⟨⟨by omega,by omega⟩,⟨⟨by omega,by omega,(Qae (z:=1) (fun _=> rfl) (by omega))⟩,⟨⟨by omega,by omega,(Qae (z:=1) (fun _=> rfl) (by omega))⟩,⟨(QaW q0),trivial⟩⟩⟩⟩⟩⟩⟩) (by kernel_rfl) (by kernel_rfl))).cast (by rfl)
   ·exact (GoE.endsT okF hJ Qab hg0 (QyI B s load days i ys dJ0)
     ⟨(QaD (fun x=> List.all_eq_true.1 (by rfl))),⟨(Qbh (Int.not_lt.1 q0)),trivial⟩⟩).cast (by exact Qfn (hy.trans (Q0g (by omega))) (by simp [Qbr,QbI]))
set_option maxHeartbeats 4000000 in
theorem Q3u (s:Qaa) (load days:Int) (hs:Qa3 s=true) (hd:0<=days/\days<=300) (h0:0<=load) (h1:load < 64) (hx:QcF load<=s.lots.length) {B:Lo} (hJ:∀w,B.has w->J0 w):EndsT YP B (Qaj YP 89 37 (([.agg (QaI s load days).toArray]).map (Qat 0 4))) (QkP (Qbr s load days)):=by
 have ht1:=QaM QaZ Qba hs hd;have ht2:=QaM Qba QaZ hs hd;have hst:=Qai hs;have g1:=Qzn (load:=load) hs ht1 hd h0 h1 hx;have g2:=Qzn (load:=load) hs ht2 hd h0 h1 hx;have e1:=Qfd (s:=s) (load:=load) (days:=days) (t:=Qag Span.lo Span.hi s days);have e2:=Qfd (s:=s) (load:=load) (days:=days) (t:=Qag Span.hi Span.lo s days);have e3:((Qbb s load days (Qag Span.lo Span.hi s days)).map Qay).length=s.stock.length:=by rw [List.length_map,e1]
 have e4:((Qbb s load days (Qag Span.hi Span.lo s days)).map Qay).length=s.stock.length:=by rw [List.length_map,e2]
 exact ((Qyx s load days hs hd h0 h1 hx hJ _) (0) (List.replicate s.stock.length {may:=0,must:=0}) rfl (by omega) (by exact Q4r)
  (GoE.start.landM okF hJ Qab (Qzp B s load days)
  (by exact ⟨(by exact (QbJ (by exact ⟨(.simple rfl),⟨(.simple rfl),trivial⟩⟩) _)),⟨(QfS (bytes:=16) (by kernel_rfl) (by omega) (by omega) (by omega)),⟨⟨trivial,QjZ (Qbb s load days (Qag Span.hi Span.lo s days)) (by omega) (by with_reducible assumption)⟩,⟨⟨trivial,Q2G (s) (load) (days) (by with_reducible assumption) (by with_reducible assumption) (by with_reducible assumption) (by with_reducible assumption) (by with_reducible assumption)⟩,⟨⟨trivial,QjZ (Qbb s load days (Qag Span.lo Span.hi s days)) (by omega) (by with_reducible assumption)⟩,⟨⟨trivial,Qyb (s) (load) (days) (by with_reducible assumption) (by with_reducible assumption) (by with_reducible assumption) (by with_reducible assumption) (by with_reducible assumption)⟩,trivial⟩⟩⟩⟩⟩⟩) (by kernel_rfl) (by kernel_rfl))).cast (by rfl)
theorem Q6q (s:Qaa) (load days:Int) (hs:Qa3 s=true) (hd:0<=days/\days<=300) (h0:0<=load) (h1:load < 64) (hx:QcF load<=s.lots.length):Qaq YP J0 89 #[.agg (QaI s load days).toArray] (QkP (Qbr s load days)):=
 QaE (ts:=[.agg (QaI s load days).toArray]) Qbw (c0:=Qaj YP 89 37 (([.agg (QaI s load days).toArray]).map (Qat 0 4))) (by kernel_rfl) (by kernel_rfl) fun B hJ=> Q3u s load days hs hd h0 h1 hx hJ
def Qpm (s:Qaa) (load:List Int) (days:Int):Array Value:=#[slT s.stock.length (Qac Qal s.stock),slT s.use.length (Qac Qa7 s.use),.int .i64 s.glo,.int .i64 s.ghi,slT s.lots.length (Qac Qap s.lots),.int .i64 s.hold,.int .i64 (QaG load 0),.int .i64 days]
def Qj9 (s:Qaa):Array Value:=#[slT s.stock.length (Qac Qal s.stock),slT s.use.length (Qac Qa7 s.use),.int .i64 s.glo,.int .i64 s.ghi,slT s.lots.length (Qac Qap s.lots),.int .i64 s.hold]
def QoV (B:Lo) (s:Qaa) (load:List Int) (days:Int):List Prop:=[QaA []/\Qaq YP J0 79 #[.agg (Qj9 s)] (.bool true)]++([]:List Prop)
def QtI (s:Qaa) (load:List Int) (days:Int):Qaz:=[(4,Qaf.pure (.bool true) [])]
def Qpi (B:Lo) (s:Qaa) (load:List Int) (days:Int):List Prop:=[QaA []/\Qaq YP J0 80 #[.agg (Qj9 s),slT load.length (Qac Qal load)] (.bool true)]++QoV B s load days
def QtU (s:Qaa) (load:List Int) (days:Int):Qaz:=QtI s load days++[(9,Qaf.pure (.bool true) [])]
theorem Q2T (B:Lo) (s:Qaa) (load:List Int) (days:Int):QaY (Qam YP (Qa1 YP) J0 B 11 1 (Qaj YP 43 27 (([.agg (Qah s).toArray,slI load,.int .i64 days]).map (Qat 0 4))) H00 1
 (QtU s load days++[(14,Qaf.pure (.bool true) []),(20,Qaf.pure (.agg (Qpm s load days)) []),(21,Qaf.pure (slT (List.length (Qbr s (QaG load 0) days)) (Qac Qbi (Qbr s (QaG load 0) days))) [])]) 0 [] []) []=some (.tuple #[slT (List.length (Qbr s (QaG load 0) days)) (Qac Qbi (Qbr s (QaG load 0) days)),.int .i64 0],
 [QaA []/\Qaq YP J0 89 #[.agg (Qpm s load days)] (slT (List.length (Qbr s (QaG load 0) days)) (Qac Qbi (Qbr s (QaG load 0) days))),QaA []/\Qaq YP J0 83 #[.agg (Qj9 s),slT load.length (Qac Qal load),.int .i64 days] (.agg (Qpm s load days)),QaA []/\Qaq YP J0 81 #[.int .i64 days] (.bool true)]++Qpi B s load days):=by kernel_rfl
theorem Q3j (B:Lo) (s:Qaa) (load:List Int) (days:Int):QaY (Qam YP (Qa1 YP) J0 B 10 1 (Qaj YP 43 27 (([.agg (Qah s).toArray,slI load,.int .i64 days]).map (Qat 0 4))) H00 1
 (QtU s load days++[(14,Qaf.pure (.bool false) [])]) 0 [] []) []=some (.tuple #[slT 0 #[],.int .i64 2],
 [QaA []/\Qaq YP J0 81 #[.int .i64 days] (.bool false)]++Qpi B s load days):=by kernel_rfl
theorem Q2p (B:Lo) (s:Qaa) (load:List Int) (days:Int):QaY (Qam YP (Qa1 YP) J0 B 10 1 (Qaj YP 43 27 (([.agg (Qah s).toArray,slI load,.int .i64 days]).map (Qat 0 4))) H00 1
 (QtI s load days++[(9,Qaf.pure (.bool false) [])]) 0 [] []) []=some (.tuple #[slT 0 #[],.int .i64 2],
 [QaA []/\Qaq YP J0 80 #[.agg (Qj9 s),slT load.length (Qac Qal load)] (.bool false)]++QoV B s load days):=by kernel_rfl
theorem Q1H (B:Lo) (s:Qaa) (load:List Int) (days:Int):QaY (Qam YP (Qa1 YP) J0 B 10 1 (Qaj YP 43 27 (([.agg (Qah s).toArray,slI load,.int .i64 days]).map (Qat 0 4))) H00 1
 [(4,Qaf.pure (.bool false) [])] 0 [] []) []=some (.tuple #[slT 0 #[],.int .i64 2],
 [QaA []/\Qaq YP J0 79 #[.agg (Qj9 s)] (.bool false)]):=by kernel_rfl
set_option maxHeartbeats 4000000 in
theorem Q4K (s:Qaa) (load:List Int) (days:Int)  {B:Lo} (hJ:∀w,B.has w->J0 w):EndsT YP B (Qaj YP 43 27 (([.agg (Qah s).toArray,slI load,.int .i64 days]).map (Qat 0 4))) (.tuple #[if Qa3 s && (Qck s load && inB days 0 300) then QkP (Qbr s (QaG load 0) days) else QkP [],.int .i64 (if Qa3 s && (Qck s load && inB days 0 300) then 0 else 2)]):=by
 cases q0:Qa3 s with
 | true=>
   have hp0:QaA (QoV B s load days):=by
    exact ⟨⟨trivial,(by have t_:=Qh7 (s);rw [q0] at t_;exact t_)⟩,trivial⟩
   cases q1:Qck s load with
   | true=>
     have hp1:QaA (Qpi B s load days):=by
      have g1:=Qd8 ‹Qa3 s=true› ‹Qck s load=true›;have g5:=g1.1;have g6:=g1.2.2.1;have g7:=g1.2.2.2;have g8:=g1.2.1;exact ⟨⟨trivial,(by have t_:=QoL (s) (load) (by with_reducible assumption);rw [q1] at t_;exact t_)⟩,hp0⟩
     cases q2:inB days 0 300 with
     | true=>
       have g1:=Qd8 ‹Qa3 s=true› ‹Qck s load=true›;have g2:=QaU.1 ‹inB days 0 300=true›;have g5:=g1.1;have g6:=g1.2.2.1;have g7:=g1.2.2.2;have g8:=g1.2.1;exact (GoE.endsT okF hJ Qab GoE.start (Q2T B s load days)
        ⟨⟨trivial,Q6q (s) (QaG load 0) (days) (by with_reducible assumption) (by with_reducible assumption) (by with_reducible assumption) (by with_reducible assumption) (by with_reducible assumption)⟩,⟨⟨trivial,QrT (s) (load) (days) (by with_reducible assumption)⟩,⟨⟨trivial,(by have t_:=Qlh (days);rw [q2] at t_;exact t_)⟩,hp1⟩⟩⟩).cast (by rfl)
     | false=>
       have g1:=Qd8 ‹Qa3 s=true› ‹Qck s load=true›;have g5:=g1.1;have g6:=g1.2.2.1;have g7:=g1.2.2.2;have g8:=g1.2.1;exact (GoE.endsT okF hJ Qab GoE.start (Q3j B s load days)
        ⟨⟨trivial,(by have t_:=Qlh (days);rw [q2] at t_;exact t_)⟩,hp1⟩).cast (by rfl)
   | false=>
     exact (GoE.endsT okF hJ Qab GoE.start (Q2p B s load days)
      ⟨⟨trivial,(by have t_:=QoL (s) (load) (by with_reducible assumption);rw [q1] at t_;exact t_)⟩,hp0⟩).cast (by rfl)
 | false=>
   exact (GoE.endsT okF hJ Qab GoE.start (Q1H B s load days)
    ⟨⟨trivial,(by have t_:=Qh7 (s);rw [q0] at t_;exact t_)⟩,trivial⟩).cast (by rfl)
theorem QzT (s:Qaa) (load:List Int) (days:Int)  :Qaq YP J0 43 #[.agg (Qah s).toArray,slI load,.int .i64 days] (.tuple #[if Qa3 s && (Qck s load && inB days 0 300) then QkP (Qbr s (QaG load 0) days) else QkP [],.int .i64 (if Qa3 s && (Qck s load && inB days 0 300) then 0 else 2)]):=
 QaE (ts:=[.agg (Qah s).toArray,slI load,.int .i64 days]) Qbw (c0:=Qaj YP 43 27 (([.agg (Qah s).toArray,slI load,.int .i64 days]).map (Qat 0 4))) (by kernel_rfl) (by kernel_rfl) fun B hJ=> Q4K s load days  hJ
end
end Go.Proofs.YtiabgkiccaodmaaGreat

namespace Go.Proofs.YtiabgkiccaodmaaGreat
open Go Go.CE Go.RowKit
noncomputable section
set_option maxRecDepth 100000
theorem Qum (s:Qaa) (load:List Int) (days:Int) (t:Qao) (kind:Int) (hs:Qa3 s=true) (hl:Qck s load=true) (hll:load.length<=10) (ht:Qb7 s days t=true) (hd:0<=days/\days<=300) (hk:0<=kind/\kind < s.stock.length):Qaq YP J0 41 #[.agg (Qah s).toArray,slI load,.int .i64 days,.agg (QaC t).toArray,.int .i64 kind,.int .i64 1000] (.tuple #[.int .i64 (Qay (QeW s (QaG load 0) days t kind)),.int .i64 (QeG (QeW s (QaG load 0) days t kind))]):=by
 have hn:=hl;simp only [Qck,YB] at hn;have h:=Q6Y s load days t kind 1000 hs hll (Qm7 hn.1) ht hd hk (by omega);rw [QxC hs hl ht hd] at h;exact h
theorem Q3I {β:Type} {f:Int->β} {n:Nat} {k:Int} {ws:List β} (k0:0<=k) (k1:k < n) (h:Qiw f (upI 0 n) k ws):Qiw f (upI 0 n) (k+1) (ws++[f k]):=by
 have:=Qdk k0 (by rw [QbI];omega) h;rw [Qh9 k0 k1] at this;exact this
theorem Q4v {β:Type} {f:Int->β} {n:Nat} {k:Int} (k0:k=0) (k1:k < n):Qiw f (upI 0 n) (k+1) [f k]:=by
 subst k0;exact Q3I (ws:=[]) (Int.le_refl _) k1 Q5K
theorem Q3a {s:Qaa} {load days k:Int} {ws:List Wnt} {w:Nat} (wm:w=ws.length) (h:s.stock.length<=k) (hw:Qiw (Qtx s load days) (upI 0 s.stock.length) k ws):slT w (Qac Qbi ws)=QkP (Qbr s load days):=by
 have e:=Qca (by rw [QbI];omega) hw;subst wm;rw [e];rfl
theorem Q3J {a b:Wnt}:a=b<->a.may=b.may/\a.must=b.must:=by
 cases a;cases b;simp
instance:DecidableEq Wnt:=fun a b=> decidable_of_iff _ Q3J.symm
theorem QrU {xs ys:List Wnt} {i:Int} (h0:0<=i) (hx:i < xs.length) (hy:i < ys.length):decide (xs.drop i.toNat=ys.drop i.toNat)=((eqq (xs.getD i.toNat default).may (ys.getD i.toNat default).may && eqq (xs.getD i.toNat default).must (ys.getD i.toNat default).must) && decide (xs.drop (i+1).toNat=ys.drop (i+1).toNat)):=by
 rw [drop_cons h0 hx,drop_cons h0 hy];refine Bool.eq_iff_iff.2 ?_;simp only [decide_eq_true_iff,YB,Qk3,beq_iff_eq,List.cons.injEq,Q3J]
def Qdh (xs ys:List Wnt) (i:Int):List Value:=[Qa4 1 (slT xs.length (Qac Qbi xs)),Qa4 1 (slT ys.length (Qac Qbi ys)),.int .i64 i]
def Qb8 (xs ys:List Wnt) (i:Int):List Obj:=[]
def Qdf:List Item:=([.code [1,1,0,1,0,0],.inLoop [1,1,0,1,0,0],.inBlock 0,.code [1,1,1]]).map (it (Qar YP 45))
def Qpo (B:Lo) (c0:CF) (xs ys:List Wnt) (i:Int):Prop:=∃dJ:Nat->Value,(∀t,Qbc (dJ t))/\GoE YP B c0 H00 1 (Qa9 45 26 (([0,1,5]:List Nat).zip (Qdh xs ys i)) dJ Qdf) (Qa5 (Qb8 xs ys i)) (2+(Qb8 xs ys i).length) []
def Qgo (B:Lo) (xs ys:List Wnt) (i:Int) (dJ0:Nat->Value):List Prop:=[i=(↑i.toNat:Int)/\Int.toNat i < List.length ys/\Array.extract (Qac Qbi ys) (Int.toNat i * TypeInfo.size Tryz.t81) (Int.toNat i * TypeInfo.size Tryz.t81+TypeInfo.size Tryz.t81)=#[.int .i64 (Wnt.may (ys.getD i.toNat default)),.int .i64 (Wnt.must (ys.getD i.toNat default))],i=(↑i.toNat:Int)/\Int.toNat i < List.length xs/\Array.extract (Qac Qbi xs) (Int.toNat i * TypeInfo.size Tryz.t81) (Int.toNat i * TypeInfo.size Tryz.t81+TypeInfo.size Tryz.t81)=#[.int .i64 (Wnt.may (xs.getD i.toNat default)),.int .i64 (Wnt.must (xs.getD i.toNat default))],ltq i (↑xs.length:Int)=true]++([]:List Prop)
def QjB (xs ys:List Wnt) (i:Int) (dJ0:Nat->Value):Qaz:=[(3,hvT),(6,Qaf.tidx i.toNat #[.int .i64 (Wnt.may (xs.getD i.toNat default)),.int .i64 (Wnt.must (xs.getD i.toNat default))]),(10,Qaf.tidx i.toNat #[.int .i64 (Wnt.may (ys.getD i.toNat default)),.int .i64 (Wnt.must (ys.getD i.toNat default))])]
theorem Qo2 (B:Lo) (xs ys:List Wnt) (i:Int) (dJ0:Nat->Value):landM (Qam YP (Qa1 YP) J0 B 14 1 (Qa9 45 26 (([0,1,5]:List Nat).zip (Qdh xs ys i)) dJ0 Qdf) (Qa5 (Qb8 xs ys i)) (2+(Qb8 xs ys i).length)
 (QjB xs ys i dJ0++[(12,Qaf.old (Hint.eq false)),(14,hvI (i+1))]) 0 [] []) [0,1,5] [] []=some ⟨45,26,Qdf,[],.run,none,Qdh xs ys (i+1),Qb8 xs ys (i+1),
 [wq (i+1)=i+1,(!(eqq (Wnt.may (xs.getD i.toNat default)) (Wnt.may (ys.getD i.toNat default)) && (eqq (Wnt.must (xs.getD i.toNat default)) (Wnt.must (ys.getD i.toNat default)) && true)))=false]++Qgo B xs ys i dJ0⟩:=by kernel_rfl
theorem Qpk (B:Lo) (xs ys:List Wnt) (i:Int) (dJ0:Nat->Value):QaY (Qam YP (Qa1 YP) J0 B 14 1 (Qa9 45 26 (([0,1,5]:List Nat).zip (Qdh xs ys i)) dJ0 Qdf) (Qa5 (Qb8 xs ys i)) (2+(Qb8 xs ys i).length)
 (QjB xs ys i dJ0++[(12,Qaf.old (Hint.eq true))]) 0 [] []) []=some (.bool false,
 [(!(eqq (Wnt.may (xs.getD i.toNat default)) (Wnt.may (ys.getD i.toNat default)) && (eqq (Wnt.must (xs.getD i.toNat default)) (Wnt.must (ys.getD i.toNat default)) && true)))=true]++Qgo B xs ys i dJ0):=by kernel_rfl
theorem QpB (B:Lo) (xs ys:List Wnt) (i:Int) (dJ0:Nat->Value):QaY (Qam YP (Qa1 YP) J0 B 9 1 (Qa9 45 26 (([0,1,5]:List Nat).zip (Qdh xs ys i)) dJ0 Qdf) (Qa5 (Qb8 xs ys i)) (2+(Qb8 xs ys i).length)
 [(3,hvF)] 0 [] []) []=some (.bool true,
 [ltq i (↑xs.length:Int)=false]):=by kernel_rfl
theorem QpH (B:Lo) (xs ys:List Wnt):QaY (Qam YP (Qa1 YP) J0 B 10 1 (Qaj YP 45 26 (([QkP xs,QkP ys]).map (Qat 0 4))) H00 1
 [(5,hvT)] 0 [] []) []=some (.bool false,
 [(!eqq (↑xs.length:Int) (↑ys.length:Int))=true]):=by kernel_rfl
theorem QoK (B:Lo) (xs ys:List Wnt):landM (Qam YP (Qa1 YP) J0 B 12 1 (Qaj YP 45 26 (([QkP xs,QkP ys]).map (Qat 0 4))) H00 1
 [(5,hvF)] 0 [] []) [0,1,5] [] []=some ⟨45,26,Qdf,[],.run,none,Qdh xs ys (0),Qb8 xs ys (0),
 [(!eqq (↑xs.length:Int) (↑ys.length:Int))=false]⟩:=by kernel_rfl
set_option maxHeartbeats 4000000 in
theorem Qpv (xs ys:List Wnt)  (hfacts:xs.length<=9223372036854775807/\ys.length<=9223372036854775807) {B:Lo} (hJ:∀w,B.has w->J0 w) {c0:CF}:∀m:Nat,(∀(i:Int),xs.length - i.toNat=m->∀(h0:0<=i) (hl:xs.length=ys.length),Qpo B c0 xs ys i->EndsT YP B c0 (.bool (decide (xs.drop i.toNat=ys.drop i.toNat)))):=by
 intro m0;induction m0 using Nat.strongRecOn with
 | _ m0 ih0=>
   intro i hm0 h0 hl ⟨dJ0,hdJ0,hg0⟩;by_cases q0:(i:Int) < ((↑xs.length:Int))
   ·have hp0:QaA (Qgo B xs ys i dJ0):=by
     exact ⟨⟨by omega,by omega,(Qae (z:=2) (fun _=> rfl) (by omega))⟩,⟨⟨by omega,by omega,(Qae (z:=2) (fun _=> rfl) (by omega))⟩,⟨(QaW q0),trivial⟩⟩⟩
    cases q1:eqq (Wnt.may (xs.getD i.toNat default)) (Wnt.may (ys.getD i.toNat default)) && eqq (Wnt.must (xs.getD i.toNat default)) (Wnt.must (ys.getD i.toNat default)) with
    | true=>
      exact ((ih0 _ (by omega)) (i+1) rfl (by omega) (by with_reducible assumption)
       (hg0.landM okF hJ Qab (Qo2 B xs ys i dJ0)
       ⟨(QaL (by omega) (by omega)),⟨(by (rw [Bool.and_true,q1];rfl)),hp0⟩⟩ (by kernel_rfl) (by kernel_rfl))).cast (by (rw [QrU h0 (by omega) (by omega),q1];rfl))
    | false=>
      exact (GoE.endsT okF hJ Qab hg0 (Qpk B xs ys i dJ0)
       ⟨(by (rw [Bool.and_true,q1];rfl)),hp0⟩).cast (by (rw [QrU h0 (by omega) (by omega),q1];rfl))
   ·exact (GoE.endsT okF hJ Qab hg0 (QpB B xs ys i dJ0)
     ⟨(Qbh (Int.not_lt.1 q0)),trivial⟩).cast (by (rw [QhD (i:=i) (xs:=xs) (by omega),QhD (i:=i) (xs:=ys) (by omega)];simp;done))
set_option maxHeartbeats 4000000 in
theorem QrD (xs ys:List Wnt)  (hfacts:xs.length<=9223372036854775807/\ys.length<=9223372036854775807) {B:Lo} (hJ:∀w,B.has w->J0 w):EndsT YP B (Qaj YP 45 26 (([QkP xs,QkP ys]).map (Qat 0 4))) (.bool (decide (xs=ys))):=by
 by_cases q0:((↑xs.length:Int):Int)≠((↑ys.length:Int))
 ·exact (GoE.endsT okF hJ Qab GoE.start (QpH B xs ys)
   ⟨(QmQ q0),trivial⟩).cast (by (simp;intro h;subst h;omega))
 ·exact ((Qpv xs ys hfacts hJ _) (0) rfl (by omega) (by omega)
   (GoE.start.landM okF hJ Qab (QoK B xs ys)
   ⟨(QmC (Decidable.of_not_not q0)),trivial⟩ (by kernel_rfl) (by kernel_rfl))).cast (by rfl)
theorem QnO (xs ys:List Wnt)  :Qaq YP J0 45 #[QkP xs,QkP ys] (.bool (decide (xs=ys))):=
 Qcw (ts:=[QkP xs,QkP ys]) (xs.length<=9223372036854775807/\ys.length<=9223372036854775807) (fun _ _ ht=> ⟨ht.ln (i:=0) rfl,ht.ln (i:=1) rfl⟩) Qbw (c0:=Qaj YP 45 26 (([QkP xs,QkP ys]).map (Qat 0 4))) (by kernel_rfl) (by kernel_rfl) fun hfacts B hJ=> QrD xs ys  hfacts hJ
def Qpu (s:Qaa) (load:List Int) (days:Int) (k:Int):List Value:=[Qa4 1 (slT load.length (Qac Qal load)),.int .i64 days,pA 2 0,.slice none 0 0,.int .i64 k]
def QiW (s:Qaa) (load:List Int) (days:Int) (k:Int):List Obj:=[Obj.cells #[Qa4 1 (slT s.stock.length (Qac Qal s.stock)),Qa4 1 (slT s.use.length (Qac Qa7 s.use)),.int .i64 s.glo,.int .i64 s.ghi,Qa4 1 (slT s.lots.length (Qac Qap s.lots)),.int .i64 s.hold] 62]
def QoF:List Item:=([.code [1,1,0,1,0,0],.inLoop [1,1,0,1,0,0],.inBlock 0,.code [1,1,1]]).map (it (Qar YP 46))
def Q2B (B:Lo) (c0:CF) (s:Qaa) (load:List Int) (days:Int) (k:Int):Prop:=∃dJ:Nat->Value,(∀t,Qbc (dJ t))/\GoE YP B c0 H00 1 (Qa9 46 49 (([1,2,3,7,8]:List Nat).zip (Qpu s load days k)) dJ QoF) (Qa5 (QiW s load days k)) (2+(QiW s load days k).length) []
def Qj4 (s:Qaa) (load:List Int) (days:Int) (k:Int) (ws:List Wnt) (w:Nat):List Value:=[Qa4 1 (slT load.length (Qac Qal load)),.int .i64 days,pA 2 0,.slice (some ⟨3,0,none⟩) w 2,.int .i64 k]
def Qf6 (s:Qaa) (load:List Int) (days:Int) (k:Int) (ws:List Wnt) (w:Nat):List Obj:=[Obj.cells #[Qa4 1 (slT s.stock.length (Qac Qal s.stock)),Qa4 1 (slT s.use.length (Qac Qa7 s.use)),.int .i64 s.glo,.int .i64 s.ghi,Qa4 1 (slT s.lots.length (Qac Qap s.lots)),.int .i64 s.hold] 62,.cells (Qac Qbi ws) 81 (0,0)]
def Qi0:List Item:=([.code [1,1,0,1,0,0],.inLoop [1,1,0,1,0,0],.inBlock 0,.code [1,1,1]]).map (it (Qar YP 46))
def Q1j (B:Lo) (c0:CF) (s:Qaa) (load:List Int) (days:Int) (k:Int) (ws:List Wnt) (w:Nat):Prop:=∃dJ:Nat->Value,(∀t,Qbc (dJ t))/\GoE YP B c0 H00 1 (Qa9 46 49 (([1,2,3,7,8]:List Nat).zip (Qj4 s load days k ws w)) dJ Qi0) (Qa5 (Qf6 s load days k ws w)) (2+(Qf6 s load days k ws w).length) []
def QkS (s:Qaa) (days:Int):Value:=(.agg #[slT (List.length (Qao.uses (Qag Span.lo Span.hi s days))) (Qac Qal (Qao.uses (Qag Span.lo Span.hi s days))),slT (List.length (Qao.gaps (Qag Span.lo Span.hi s days))) (Qac Qal (Qao.gaps (Qag Span.lo Span.hi s days))),slT (List.length (Qao.goods (Qag Span.lo Span.hi s days))) (Qac Qa0 (Qao.goods (Qag Span.lo Span.hi s days)))])
def Qlk (s:Qaa) (days:Int):Value:=(.agg #[slT (List.length (Qao.uses (Qag Span.hi Span.lo s days))) (Qac Qal (Qao.uses (Qag Span.hi Span.lo s days))),slT (List.length (Qao.gaps (Qag Span.hi Span.lo s days))) (Qac Qal (Qao.gaps (Qag Span.hi Span.lo s days))),slT (List.length (Qao.goods (Qag Span.hi Span.lo s days))) (Qac Qa0 (Qao.goods (Qag Span.hi Span.lo s days)))])
def Qf3 (s:Qaa):Array Value:=#[slT s.stock.length (Qac Qal s.stock),slT s.use.length (Qac Qa7 s.use),.int .i64 s.glo,.int .i64 s.ghi,slT s.lots.length (Qac Qap s.lots),.int .i64 s.hold]
def QkO (s:Qaa) (load:List Int) (days:Int) (k:Int):Value:=(.tuple #[.int .i64 (Qay (QeW s (QaG load 0) days (Qag Span.lo Span.hi s days) k)),.int .i64 (QeG (QeW s (QaG load 0) days (Qag Span.lo Span.hi s days) k))])
def Qlb (s:Qaa) (load:List Int) (days:Int) (k:Int):Value:=(.tuple #[.int .i64 (Qay (QeW s (QaG load 0) days (Qag Span.hi Span.lo s days) k)),.int .i64 (QeG (QeW s (QaG load 0) days (Qag Span.hi Span.lo s days) k))])
theorem Q3r (B:Lo) (s:Qaa) (load:List Int) (days:Int) (k:Int) (dJ0:Nat->Value):landM (Qam YP (Qa1 YP) J0 B 15 1 (Qa9 46 49 (([1,2,3,7,8]:List Nat).zip (Qpu s load days k)) dJ0 QoF) (Qa5 (QiW s load days k)) (2+(QiW s load days k).length)
 [(4,hvT),(10,Qaf.pure (QkS s days) []),(12,Qaf.pure (QkO s load days k) []),(23,Qaf.pure (Qlk s days) []),(25,Qaf.pure (Qlb s load days k) []),(39,hvI (k+1))] 0 [] []) [1,2,3,7,8] [(2,KS.auto),(6,KS.cells [] (Qac Qbi [{may:=Qay (QeW s (QaG load 0) days (Qag Span.lo Span.hi s days) k),must:=Qay (QeW s (QaG load 0) days (Qag Span.hi Span.lo s days) k)}]))] []=some ⟨46,49,Qi0,[],.run,none,Qj4 s load days (k+1) ([{may:=Qay (QeW s (QaG load 0) days (Qag Span.lo Span.hi s days) k),must:=Qay (QeW s (QaG load 0) days (Qag Span.hi Span.lo s days) k)}]) (1),Qf6 s load days (k+1) ([{may:=Qay (QeW s (QaG load 0) days (Qag Span.lo Span.hi s days) k),must:=Qay (QeW s (QaG load 0) days (Qag Span.hi Span.lo s days) k)}]) (1),
 [QaF 1 [] (#[.int .i64 (Qay (QeW s (QaG load 0) days (Qag Span.lo Span.hi s days) k)),.int .i64 (Qay (QeW s (QaG load 0) days (Qag Span.hi Span.lo s days) k))]) (Qac Qbi [{may:=Qay (QeW s (QaG load 0) days (Qag Span.lo Span.hi s days) k),must:=Qay (QeW s (QaG load 0) days (Qag Span.hi Span.lo s days) k)}]),wq (k+1)=k+1,QaA []/\Qaq YP J0 41 #[.agg (Qf3 s),slT load.length (Qac Qal load),.int .i64 days,.agg #[slT (List.length (Qao.uses (Qag Span.hi Span.lo s days))) (Qac Qal (Qao.uses (Qag Span.hi Span.lo s days))),slT (List.length (Qao.gaps (Qag Span.hi Span.lo s days))) (Qac Qal (Qao.gaps (Qag Span.hi Span.lo s days))),slT (List.length (Qao.goods (Qag Span.hi Span.lo s days))) (Qac Qa0 (Qao.goods (Qag Span.hi Span.lo s days)))],.int .i64 k,.int .i64 1000] (Qlb s load days k),QaA []/\Qaq YP J0 47 #[.agg (Qf3 s),.int .i64 days,.bool false] (Qlk s days),QaA []/\Qaq YP J0 41 #[.agg (Qf3 s),slT load.length (Qac Qal load),.int .i64 days,.agg #[slT (List.length (Qao.uses (Qag Span.lo Span.hi s days))) (Qac Qal (Qao.uses (Qag Span.lo Span.hi s days))),slT (List.length (Qao.gaps (Qag Span.lo Span.hi s days))) (Qac Qal (Qao.gaps (Qag Span.lo Span.hi s days))),slT (List.length (Qao.goods (Qag Span.lo Span.hi s days))) (Qac Qa0 (Qao.goods (Qag Span.lo Span.hi s days)))],.int .i64 k,.int .i64 1000] (QkO s load days k),QaA []/\Qaq YP J0 47 #[.agg (Qf3 s),.int .i64 days,.bool true] (QkS s days),ltq k (↑s.stock.length:Int)=true]⟩:=by kernel_rfl
theorem Q2a (B:Lo) (s:Qaa) (load:List Int) (days:Int) (k:Int) (ws:List Wnt) (w:Nat) (dJ0:Nat->Value):landM (Qam YP (Qa1 YP) J0 B 15 1 (Qa9 46 49 (([1,2,3,7,8]:List Nat).zip (Qj4 s load days k ws w)) dJ0 Qi0) (Qa5 (Qf6 s load days k ws w)) (2+(Qf6 s load days k ws w).length)
 [(4,hvT),(10,Qaf.pure (QkS s days) []),(12,Qaf.pure (QkO s load days k) []),(23,Qaf.pure (Qlk s days) []),(25,Qaf.pure (Qlb s load days k) []),(36,Qaf.old (Hint.app (Qac Qbi (ws++[{may:=Qay (QeW s (QaG load 0) days (Qag Span.lo Span.hi s days) k),must:=Qay (QeW s (QaG load 0) days (Qag Span.hi Span.lo s days) k)}])))),(39,hvI (k+1))] 0 [] []) [1,2,3,7,8] [(2,KS.auto),(7,KS.cells [] (Qac Qbi (ws++[{may:=Qay (QeW s (QaG load 0) days (Qag Span.lo Span.hi s days) k),must:=Qay (QeW s (QaG load 0) days (Qag Span.hi Span.lo s days) k)}])))] []=some ⟨46,49,Qi0,[],.run,none,Qj4 s load days (k+1) (ws++[{may:=Qay (QeW s (QaG load 0) days (Qag Span.lo Span.hi s days) k),must:=Qay (QeW s (QaG load 0) days (Qag Span.hi Span.lo s days) k)}]) (w+1),Qf6 s load days (k+1) (ws++[{may:=Qay (QeW s (QaG load 0) days (Qag Span.lo Span.hi s days) k),must:=Qay (QeW s (QaG load 0) days (Qag Span.hi Span.lo s days) k)}]) (w+1),
 [QaF 1 [] (Qac Qbi (ws++[{may:=Qay (QeW s (QaG load 0) days (Qag Span.lo Span.hi s days) k),must:=Qay (QeW s (QaG load 0) days (Qag Span.hi Span.lo s days) k)}])) (Qac Qbi (ws++[{may:=Qay (QeW s (QaG load 0) days (Qag Span.lo Span.hi s days) k),must:=Qay (QeW s (QaG load 0) days (Qag Span.hi Span.lo s days) k)}])),wq (k+1)=k+1,Array.size (Qac Qbi ws)=w * (1+1)/\w+1<=maxLen/\(w+1) * 16<=140737488355328/\Qac Qbi ws++#[.int .i64 (Qay (QeW s (QaG load 0) days (Qag Span.lo Span.hi s days) k)),.int .i64 (Qay (QeW s (QaG load 0) days (Qag Span.hi Span.lo s days) k))]=Qac Qbi (ws++[{may:=Qay (QeW s (QaG load 0) days (Qag Span.lo Span.hi s days) k),must:=Qay (QeW s (QaG load 0) days (Qag Span.hi Span.lo s days) k)}]),QaA []/\Qaq YP J0 41 #[.agg (Qf3 s),slT load.length (Qac Qal load),.int .i64 days,.agg #[slT (List.length (Qao.uses (Qag Span.hi Span.lo s days))) (Qac Qal (Qao.uses (Qag Span.hi Span.lo s days))),slT (List.length (Qao.gaps (Qag Span.hi Span.lo s days))) (Qac Qal (Qao.gaps (Qag Span.hi Span.lo s days))),slT (List.length (Qao.goods (Qag Span.hi Span.lo s days))) (Qac Qa0 (Qao.goods (Qag Span.hi Span.lo s days)))],.int .i64 k,.int .i64 1000] (Qlb s load days k),QaA []/\Qaq YP J0 47 #[.agg (Qf3 s),.int .i64 days,.bool false] (Qlk s days),QaA []/\Qaq YP J0 41 #[.agg (Qf3 s),slT load.length (Qac Qal load),.int .i64 days,.agg #[slT (List.length (Qao.uses (Qag Span.lo Span.hi s days))) (Qac Qal (Qao.uses (Qag Span.lo Span.hi s days))),slT (List.length (Qao.gaps (Qag Span.lo Span.hi s days))) (Qac Qal (Qao.gaps (Qag Span.lo Span.hi s days))),slT (List.length (Qao.goods (Qag Span.lo Span.hi s days))) (Qac Qa0 (Qao.goods (Qag Span.lo Span.hi s days)))],.int .i64 k,.int .i64 1000] (QkO s load days k),QaA []/\Qaq YP J0 47 #[.agg (Qf3 s),.int .i64 days,.bool true] (QkS s days),ltq k (↑s.stock.length:Int)=true]⟩:=by kernel_rfl
theorem Q1I (B:Lo) (s:Qaa) (load:List Int) (days:Int) (k:Int) (ws:List Wnt) (w:Nat) (dJ0:Nat->Value):QaY (Qam YP (Qa1 YP) J0 B 9 1 (Qa9 46 49 (([1,2,3,7,8]:List Nat).zip (Qj4 s load days k ws w)) dJ0 Qi0) (Qa5 (Qf6 s load days k ws w)) (2+(Qf6 s load days k ws w).length)
 [(4,hvF)] 0 [] []) [{k:=3,rs:=[],cs:=Qac Qbi ws}]=some (slT w (Fz.cs {k:=3,rs:=[],cs:=Qac Qbi ws}),
 [Qbj (Fz.rs {k:=3,rs:=[],cs:=Qac Qbi ws}) (Qac Qbi ws) (Fz.cs {k:=3,rs:=[],cs:=Qac Qbi ws}),ltq k (↑s.stock.length:Int)=false]):=by kernel_rfl
theorem Q3c (B:Lo) (s:Qaa) (load:List Int) (days:Int):landM (Qam YP (Qa1 YP) J0 B 9 1 (Qaj YP 46 49 (([.agg (Qah s).toArray,slI load,.int .i64 days]).map (Qat 0 4))) H00 1
 [] 0 [] []) [1,2,3,7,8] [(1,KS.auto)] []=some ⟨46,49,QoF,[],.run,none,Qpu s load days (0),QiW s load days (0),
 []⟩:=by kernel_rfl
set_option maxHeartbeats 4000000 in
theorem Q0F (s:Qaa) (load:List Int) (days:Int) (hs:Qa3 s=true) (hl:Qck s load=true) (hll:load.length<=10) (hd:0<=days/\days<=300) {B:Lo} (hJ:∀w,B.has w->J0 w) {c0:CF}:∀m:Nat,(∀(k:Int),1000+(s.stock.length - k.toNat)=m->∀(k0:k=0),Q2B B c0 s load days k->EndsT YP B c0 (QkP (Qbr s (QaG load 0) days)))/\(∀(k:Int) (ws:List Wnt) (w:Nat),s.stock.length - k.toNat=m->∀(k0:0<=k) (wm:w=ws.length) (wx:(w:Int)<=k) (hw:Qiw (Qtx s (QaG load 0) days) (upI 0 s.stock.length) k ws),Q1j B c0 s load days k ws w->EndsT YP B c0 (QkP (Qbr s (QaG load 0) days))):=by
 intro m0;induction m0 using Nat.strongRecOn with
 | _ m0 ih0=>
   refine ⟨?_, ?_⟩
   ·intro k hm0 k0 ⟨dJ0,hdJ0,hg0⟩;have hst:=Qai hs;have ht1:=QaM QaZ Qba hs hd;have ht2:=QaM Qba QaZ hs hd;have hst:=Qai hs;have ht1:=QaM QaZ Qba hs hd;have ht2:=QaM Qba QaZ hs hd;by_cases q0:(k:Int) < ((↑s.stock.length:Int))
    ·exact ((ih0 _ (by omega)).2 (k+1) ([{may:=Qay (QeW s (QaG load 0) days (Qag Span.lo Span.hi s days) k),must:=Qay (QeW s (QaG load 0) days (Qag Span.hi Span.lo s days) k)}]) (1) rfl (by omega) (by rfl) (by omega) (by exact Q4v k0 (by omega))
      (hg0.landM okF hJ Qab (Q3r B s load days k dJ0)
      (by exact ⟨(QbT (by kernel_rfl)),⟨(QaL (by omega) (by omega)),⟨⟨trivial,Qum (s) (load) (days) (Qag Span.hi Span.lo s days) (k) (by with_reducible assumption) (by with_reducible assumption) (by with_reducible assumption) (by with_reducible assumption) (by with_reducible assumption) (by omega)⟩,⟨⟨trivial,Q49 (s) (days) (by with_reducible assumption) (by with_reducible assumption)⟩,⟨⟨trivial,Qum (s) (load) (days) (Qag Span.lo Span.hi s days) (k) (by with_reducible assumption) (by with_reducible assumption) (by with_reducible assumption) (by with_reducible assumption) (by with_reducible assumption) (by omega)⟩,⟨⟨trivial,Q4Y (s) (days) (by with_reducible assumption) (by with_reducible assumption)⟩,⟨(QaW q0),trivial⟩⟩⟩⟩⟩⟩⟩) (by kernel_rfl) (by kernel_rfl))).cast (by rfl)
    ·exfalso
     (have hst:=Qai hs;omega)
   ·intro k ws w hm0 k0 wm wx hw ⟨dJ0,hdJ0,hg0⟩;have hst:=Qai hs;have ht1:=QaM QaZ Qba hs hd;have ht2:=QaM Qba QaZ hs hd;have ht1:=QaM QaZ Qba hs hd;have ht2:=QaM Qba QaZ hs hd;by_cases q0:(k:Int) < ((↑s.stock.length:Int))
    ·exact ((ih0 _ (by omega)).2 (k+1) (ws++[{may:=Qay (QeW s (QaG load 0) days (Qag Span.lo Span.hi s days) k),must:=Qay (QeW s (QaG load 0) days (Qag Span.hi Span.lo s days) k)}]) (w+1) rfl (by omega) (by exact Qch wm) (by omega) (by exact Q3I k0 (by omega) hw)
      (hg0.landM okF hJ Qab (Q2a B s load days k ws w dJ0)
      (by exact ⟨(Qan (Qas (fun x=> List.all_eq_true.1 (by rfl)))),⟨(QaL (by omega) (by omega)),⟨⟨(by (rw [Qbf (z:=2) (fun _=> rfl)];first | omega | (simp;omega) | (simp_all;done))),(by unfold maxLen;omega),by omega,by first | exact Qcb | exact QbS rfl⟩,⟨⟨trivial,Qum (s) (load) (days) (Qag Span.hi Span.lo s days) (k) (by with_reducible assumption) (by with_reducible assumption) (by with_reducible assumption) (by with_reducible assumption) (by with_reducible assumption) (by omega)⟩,⟨⟨trivial,Q49 (s) (days) (by with_reducible assumption) (by with_reducible assumption)⟩,⟨⟨trivial,Qum (s) (load) (days) (Qag Span.lo Span.hi s days) (k) (by with_reducible assumption) (by with_reducible assumption) (by with_reducible assumption) (by with_reducible assumption) (by with_reducible assumption) (by omega)⟩,⟨⟨trivial,Q4Y (s) (days) (by with_reducible assumption) (by with_reducible assumption)⟩,⟨(QaW q0),trivial⟩⟩⟩⟩⟩⟩⟩⟩) (by kernel_rfl) (by kernel_rfl))).cast (by rfl)
    ·exact (GoE.endsT okF hJ Qab hg0 (Q1I B s load days k ws w dJ0)
      ⟨(QaD (fun x=> List.all_eq_true.1 (by rfl))),⟨(Qbh (Int.not_lt.1 q0)),trivial⟩⟩).cast (by exact Q3a wm (by omega) hw)
set_option maxHeartbeats 4000000 in
theorem Q4O (s:Qaa) (load:List Int) (days:Int) (hs:Qa3 s=true) (hl:Qck s load=true) (hll:load.length<=10) (hd:0<=days/\days<=300) {B:Lo} (hJ:∀w,B.has w->J0 w):EndsT YP B (Qaj YP 46 49 (([.agg (Qah s).toArray,slI load,.int .i64 days]).map (Qat 0 4))) (QkP (Qbr s (QaG load 0) days)):=by
 have hst:=Qai hs;have ht1:=QaM QaZ Qba hs hd;have ht2:=QaM Qba QaZ hs hd;exact ((Q0F s load days hs hl hll hd hJ _).1 (0) rfl (by omega)
  (GoE.start.landM okF hJ Qab (Q3c B s load days)
  trivial (by kernel_rfl) (by kernel_rfl))).cast (by rfl)
theorem Q6R (s:Qaa) (load:List Int) (days:Int) (hs:Qa3 s=true) (hl:Qck s load=true) (hll:load.length<=10) (hd:0<=days/\days<=300):Qaq YP J0 46 #[.agg (Qah s).toArray,slI load,.int .i64 days] (QkP (Qbr s (QaG load 0) days)):=
 QaE (ts:=[.agg (Qah s).toArray,slI load,.int .i64 days]) Qbw (c0:=Qaj YP 46 49 (([.agg (Qah s).toArray,slI load,.int .i64 days]).map (Qat 0 4))) (by kernel_rfl) (by kernel_rfl) fun B hJ=> Q4O s load days hs hl hll hd hJ
end
end Go.Proofs.YtiabgkiccaodmaaGreat

namespace Go.Proofs.YtiabgkiccaodmaaGreat
open Go Go.CE Go.RowKit
noncomputable section
set_option maxRecDepth 100000
def Qea (s:Qaa) (load:List Int) (days:Int):Array Value:=#[.agg #[slT s.stock.length (Qac Qal s.stock),slT s.use.length (Qac Qa7 s.use),.int .i64 s.glo,.int .i64 s.ghi,slT s.lots.length (Qac Qap s.lots),.int .i64 s.hold],slT load.length (Qac Qal load),.int .i64 days]
def QeF (s:Qaa):Array Value:=#[.agg #[slT s.stock.length (Qac Qal s.stock),slT s.use.length (Qac Qa7 s.use),.int .i64 s.glo,.int .i64 s.ghi,slT s.lots.length (Qac Qap s.lots),.int .i64 s.hold]]
def Qln (B:Lo) (s:Qaa) (load:List Int) (days:Int):List Prop:=[QaA []/\Qaq YP J0 36 (QeF s) (.bool true)]++([]:List Prop)
def Qri (s:Qaa) (load:List Int) (days:Int):Qaz:=[(3,Qaf.pure (.bool true) [])]
theorem QxP (B:Lo) (s:Qaa) (load:List Int) (days:Int):QaY (Qam YP (Qa1 YP) J0 B 10 1 (Qaj YP 8 72 (([.agg (Qah s).toArray,slI load,.int .i64 days]).map (Qat 0 4))) H00 1
 (Qri s load days++[(8,hvT),(10,Qaf.pure (.bool true) [])]) 0 [] []) []=some (.bool true,
 [QaA []/\Qaq YP J0 17 #[] (.bool true),ltq 10 (↑load.length:Int)=true]++Qln B s load days):=by kernel_rfl
def Ql3 (B:Lo) (s:Qaa) (load:List Int) (days:Int):List Prop:=[ltq 10 (↑load.length:Int)=false]++Qln B s load days
def Qrr (s:Qaa) (load:List Int) (days:Int):Qaz:=Qri s load days++[(8,hvF)]
def Qjo (B:Lo) (s:Qaa) (load:List Int) (days:Int):List Prop:=[QaA []/\Qaq YP J0 42 (QeF s) (.int .i64 0)]++Ql3 B s load days
def QlP (s:Qaa) (load:List Int) (days:Int):Qaz:=Qrr s load days++[(11,Qaf.pure (.int .i64 0) [])]
def Qno (B:Lo) (s:Qaa) (load:List Int) (days:Int):List Prop:=[QaA []/\Qaq YP J0 46 (Qea s load days) (slT (List.length (Qbr s (QaG load 0) days)) (Qac Qbi (Qbr s (QaG load 0) days))),QaA []/\Qaq YP J0 39 (Qea s load days) (.bool true),QaA []/\Qaq YP J0 44 (QeF s) (.bool true),QaA []/\Qaq YP J0 43 (Qea s load days) (.tuple #[slT (List.length (Qbr s (QaG load 0) days)) (Qac Qbi (Qbr s (QaG load 0) days)),.int .i64 0])]++Qjo B s load days
def QrQ (s:Qaa) (load:List Int) (days:Int):Qaz:=QlP s load days++[(16,Qaf.pure (.tuple #[slT (List.length (Qbr s (QaG load 0) days)) (Qac Qbi (Qbr s (QaG load 0) days)),.int .i64 0]) []),(23,Qaf.pure (.bool true) []),(41,Qaf.pure (.bool true) []),(50,Qaf.pure (slT (List.length (Qbr s (QaG load 0) days)) (Qac Qbi (Qbr s (QaG load 0) days))) [])]
theorem QzR (B:Lo) (s:Qaa) (load:List Int) (days:Int):QaY (Qam YP (Qa1 YP) J0 B 27 1 (Qaj YP 8 72 (([.agg (Qah s).toArray,slI load,.int .i64 days]).map (Qat 0 4))) H00 1
 (QrQ s load days++[(51,Qaf.pure (.bool true) []),(54,Qaf.pure (.bool true) [])]) 0 [] []) []=some (.bool true,
 [QaA []/\Qaq YP J0 17 #[] (.bool true),QaA []/\Qaq YP J0 45 #[slT (List.length (Qbr s (QaG load 0) days)) (Qac Qbi (Qbr s (QaG load 0) days)),slT (List.length (Qbr s (QaG load 0) days)) (Qac Qbi (Qbr s (QaG load 0) days))] (.bool true)]++Qno B s load days):=by kernel_rfl
theorem QxD (B:Lo) (s:Qaa) (load:List Int) (days:Int):QaY (Qam YP (Qa1 YP) J0 B 27 1 (Qaj YP 8 72 (([.agg (Qah s).toArray,slI load,.int .i64 days]).map (Qat 0 4))) H00 1
 (QrQ s load days++[(51,Qaf.pure (.bool false) [])]) 0 [] []) []=some (.bool false,
 [QaA []/\Qaq YP J0 45 #[slT (List.length (Qbr s (QaG load 0) days)) (Qac Qbi (Qbr s (QaG load 0) days)),slT (List.length (Qbr s (QaG load 0) days)) (Qac Qbi (Qbr s (QaG load 0) days))] (.bool false)]++Qno B s load days):=by kernel_rfl
theorem Qyy (B:Lo) (s:Qaa) (load:List Int) (days:Int):QaY (Qam YP (Qa1 YP) J0 B 26 1 (Qaj YP 8 72 (([.agg (Qah s).toArray,slI load,.int .i64 days]).map (Qat 0 4))) H00 1
 (QlP s load days++[(16,Qaf.pure (.tuple #[slT 0 #[],.int .i64 2]) []),(23,Qaf.pure (.bool true) []),(41,Qaf.pure (.bool false) []),(51,Qaf.pure (.bool true) [])]) 0 [] []) []=some (.bool true,
 [QaA []/\Qaq YP J0 17 #[] (.bool true),QaA []/\Qaq YP J0 39 (Qea s load days) (.bool false),QaA []/\Qaq YP J0 44 (QeF s) (.bool true),QaA []/\Qaq YP J0 43 (Qea s load days) (.tuple #[slT 0 #[],.int .i64 2])]++Qjo B s load days):=by kernel_rfl
theorem Q0o (B:Lo) (s:Qaa) (load:List Int) (days:Int):QaY (Qam YP (Qa1 YP) J0 B 26 1 (Qaj YP 8 72 (([.agg (Qah s).toArray,slI load,.int .i64 days]).map (Qat 0 4))) H00 1
 (QlP s load days++[(16,Qaf.pure (.tuple #[slT 0 #[],.int .i64 2]) []),(23,Qaf.pure (.bool true) []),(41,Qaf.pure (.bool false) []),(51,Qaf.pure (.bool true) [])]) 0 [] []) []=some (.bool true,
 [QaA []/\Qaq YP J0 17 #[] (.bool true),QaA []/\Qaq YP J0 39 (Qea s load days) (.bool false),QaA []/\Qaq YP J0 44 (QeF s) (.bool true),QaA []/\Qaq YP J0 43 (Qea s load days) (.tuple #[slT 0 #[],.int .i64 2])]++Qjo B s load days):=by kernel_rfl
theorem Qyp (B:Lo) (s:Qaa) (load:List Int) (days:Int):QaY (Qam YP (Qa1 YP) J0 B 26 1 (Qaj YP 8 72 (([.agg (Qah s).toArray,slI load,.int .i64 days]).map (Qat 0 4))) H00 1
 (Qrr s load days++[(11,Qaf.pure (.int .i64 2) []),(16,Qaf.pure (.tuple #[slT 0 #[],.int .i64 2]) []),(23,Qaf.pure (.bool false) []),(41,Qaf.pure (.bool false) []),(51,Qaf.pure (.bool true) [])]) 0 [] []) []=some (.bool true,
 [QaA []/\Qaq YP J0 17 #[] (.bool true),QaA []/\Qaq YP J0 39 (Qea s load days) (.bool false),QaA []/\Qaq YP J0 44 (QeF s) (.bool false),QaA []/\Qaq YP J0 43 (Qea s load days) (.tuple #[slT 0 #[],.int .i64 2]),QaA []/\Qaq YP J0 42 (QeF s) (.int .i64 2)]++Ql3 B s load days):=by kernel_rfl
theorem Qz5 (B:Lo) (s:Qaa) (load:List Int) (days:Int):QaY (Qam YP (Qa1 YP) J0 B 10 1 (Qaj YP 8 72 (([.agg (Qah s).toArray,slI load,.int .i64 days]).map (Qat 0 4))) H00 1
 [(3,Qaf.pure (.bool false) []),(10,Qaf.pure (.bool true) [])] 0 [] []) []=some (.bool true,
 [QaA []/\Qaq YP J0 17 #[] (.bool true),QaA []/\Qaq YP J0 36 (QeF s) (.bool false)]):=by kernel_rfl
set_option maxHeartbeats 4000000 in
theorem Q63 (s:Qaa) (load:List Int) (days:Int)  (hfacts:s.stock.length<=9223372036854775807) {B:Lo} (hJ:∀w,B.has w->J0 w):EndsT YP B (Qaj YP 8 72 (([.agg (Qah s).toArray,slI load,.int .i64 days]).map (Qat 0 4))) (.bool true):=by
 have hwl:=Qla (s:=s) (load:=QaG load 0) (days:=days);cases q0:QcH s with
 | true=>
   have hp0:QaA (Qln B s load days):=by
    have hb:=QaV ‹QcH s=true›;exact ⟨⟨trivial,(by have t_:=Qpx (s);rw [q0] at t_;exact t_)⟩,trivial⟩
   by_cases q1:(10:Int) < ((↑load.length:Int))
   ·exact (GoE.endsT okF hJ Qab GoE.start (QxP B s load days)
     ⟨⟨trivial,known⟩,⟨(QaW q1),hp0⟩⟩).cast rfl
   ·have hp1:QaA (Ql3 B s load days):=by
     exact ⟨(Qbh (Int.not_lt.1 q1)),hp0⟩
    cases q2:Qa3 s with
    | true=>
      have hp2:QaA (Qjo B s load days):=by
       have hb:=QaV ‹QcH s=true›;exact ⟨⟨trivial,(by have t_:=Qnk (s);rw [q2] at t_;exact t_)⟩,hp1⟩
      cases q3:Qck s load with
      | true=>
        cases q4:inB days 0 300 with
        | true=>
          have hp3:QaA (Qno B s load days):=by
           have hb:=QaV ‹QcH s=true›;have g2:=QaU.1 ‹inB days 0 300=true›;exact ⟨⟨trivial,Q6R (s) (load) (days) (by with_reducible assumption) (by with_reducible assumption) (by omega) (by with_reducible assumption)⟩,⟨⟨trivial,(by have t_:=Qhm (s) (load) (days) (by with_reducible assumption) (by omega);rw [q2,q3,q4] at t_;exact t_)⟩,⟨⟨trivial,(by have t_:=QjM (s) (by with_reducible assumption);rw [q2] at t_;exact t_)⟩,⟨⟨trivial,(by have t_:=QzT (s) (load) (days);rw [q2,q3,q4] at t_;exact t_)⟩,hp2⟩⟩⟩⟩
          cases q5:decide (Qbr s (QaG load 0) days=Qbr s (QaG load 0) days) with
          | true=>
            have hb:=QaV ‹QcH s=true›;have g2:=QaU.1 ‹inB days 0 300=true›;exact (GoE.endsT okF hJ Qab GoE.start (QzR B s load days)
             ⟨⟨trivial,known⟩,⟨⟨trivial,(by have t_:=QnO (Qbr s (QaG load 0) days) (Qbr s (QaG load 0) days);rw [q5] at t_;exact t_)⟩,hp3⟩⟩).cast rfl
          | false=>
            have hb:=QaV ‹QcH s=true›;have g2:=QaU.1 ‹inB days 0 300=true›;exact (GoE.endsT okF hJ Qab GoE.start (QxD B s load days)
             ⟨⟨trivial,(by have t_:=QnO (Qbr s (QaG load 0) days) (Qbr s (QaG load 0) days);rw [q5] at t_;exact t_)⟩,hp3⟩).cast (by (exfalso;simp_all;done))
        | false=>
          have hb:=QaV ‹QcH s=true›;exact (GoE.endsT okF hJ Qab GoE.start (Qyy B s load days)
           ⟨⟨trivial,known⟩,⟨⟨trivial,(by have t_:=Qhm (s) (load) (days) (by with_reducible assumption) (by omega);rw [q2,q3,q4] at t_;exact t_)⟩,⟨⟨trivial,(by have t_:=QjM (s) (by with_reducible assumption);rw [q2] at t_;exact t_)⟩,⟨⟨trivial,(by have t_:=QzT (s) (load) (days);rw [q2,q3,q4] at t_;exact t_)⟩,hp2⟩⟩⟩⟩).cast rfl
      | false=>
        have hb:=QaV ‹QcH s=true›;exact (GoE.endsT okF hJ Qab GoE.start (Q0o B s load days)
         ⟨⟨trivial,known⟩,⟨⟨trivial,(by have t_:=Qhm (s) (load) (days) (by with_reducible assumption) (by omega);rw [q2,q3] at t_;exact t_)⟩,⟨⟨trivial,(by have t_:=QjM (s) (by with_reducible assumption);rw [q2] at t_;exact t_)⟩,⟨⟨trivial,(by have t_:=QzT (s) (load) (days);rw [q2,q3] at t_;exact t_)⟩,hp2⟩⟩⟩⟩).cast rfl
    | false=>
      have hb:=QaV ‹QcH s=true›;exact (GoE.endsT okF hJ Qab GoE.start (Qyp B s load days)
       ⟨⟨trivial,known⟩,⟨⟨trivial,(by have t_:=Qhm (s) (load) (days) (by with_reducible assumption) (by omega);rw [q2] at t_;exact t_)⟩,⟨⟨trivial,(by have t_:=QjM (s) (by with_reducible assumption);rw [q2] at t_;exact t_)⟩,⟨⟨trivial,(by have t_:=QzT (s) (load) (days);rw [q2] at t_;exact t_)⟩,⟨⟨trivial,(by have t_:=Qnk (s);rw [q2] at t_;exact t_)⟩,hp1⟩⟩⟩⟩⟩).cast rfl
 | false=>
   exact (GoE.endsT okF hJ Qab GoE.start (Qz5 B s load days)
    ⟨⟨trivial,known⟩,⟨⟨trivial,(by have t_:=Qpx (s);rw [q0] at t_;exact t_)⟩,trivial⟩⟩).cast rfl
def QfM (s:Qaa) (load:List Int) (days:Int) (k:Int):List Value:=[Qa4 1 (slT (List.length (Qbr s (QaG load 0) days)) (Qac Qbi (Qbr s (QaG load 0) days))),Qa4 1 (slT (List.length (List.map Qay (Qbb s (QaG load 0) days (Qag Span.lo Span.hi s days)))) (Qac Qal (List.map Qay (Qbb s (QaG load 0) days (Qag Span.lo Span.hi s days))))),Qa4 1 (slT (List.length (List.map Qay (Qbb s (QaG load 0) days (Qag Span.hi Span.lo s days)))) (Qac Qal (List.map Qay (Qbb s (QaG load 0) days (Qag Span.hi Span.lo s days))))),.int .i64 k]
def Qdt (s:Qaa) (load:List Int) (days:Int) (k:Int):List Obj:=[]
def QfV:List Item:=([.code [1,1,1,1,1,1,0,1,0,0],.inLoop [1,1,1,1,1,1,0,1,0,0],.inBlock 0,.code [1,1,1,1,1,1,1]]).map (it (Qar YP 10))
def QyK (B:Lo) (c0:CF) (s:Qaa) (load:List Int) (days:Int) (k:Int):Prop:=∃dJ:Nat->Value,(∀t,Qbc (dJ t))/\GoE YP B c0 H00 1 (Qa9 10 116 (([7,9,12,15]:List Nat).zip (QfM s load days k)) dJ QfV) (Qa5 (Qdt s load days k)) (2+(Qdt s load days k).length) []
def Qhi (s:Qaa) (load:List Int) (days:Int):Array Value:=#[.agg #[slT s.stock.length (Qac Qal s.stock),slT s.use.length (Qac Qa7 s.use),.int .i64 s.glo,.int .i64 s.ghi,slT s.lots.length (Qac Qap s.lots),.int .i64 s.hold],slT load.length (Qac Qal load),.int .i64 days]
def Qmt (s:Qaa) (days:Int):Array Value:=#[slT (List.length (Qao.uses (Qag Span.lo Span.hi s days))) (Qac Qal (Qao.uses (Qag Span.lo Span.hi s days))),slT (List.length (Qao.gaps (Qag Span.lo Span.hi s days))) (Qac Qal (Qao.gaps (Qag Span.lo Span.hi s days))),slT (List.length (Qao.goods (Qag Span.lo Span.hi s days))) (Qac Qa0 (Qao.goods (Qag Span.lo Span.hi s days)))]
def Qmh (s:Qaa) (days:Int):Array Value:=#[slT (List.length (Qao.uses (Qag Span.hi Span.lo s days))) (Qac Qal (Qao.uses (Qag Span.hi Span.lo s days))),slT (List.length (Qao.gaps (Qag Span.hi Span.lo s days))) (Qac Qal (Qao.gaps (Qag Span.hi Span.lo s days))),slT (List.length (Qao.goods (Qag Span.hi Span.lo s days))) (Qac Qa0 (Qao.goods (Qag Span.hi Span.lo s days)))]
def Qgd (s:Qaa):Array Value:=#[slT s.stock.length (Qac Qal s.stock),slT s.use.length (Qac Qa7 s.use),.int .i64 s.glo,.int .i64 s.ghi,slT s.lots.length (Qac Qap s.lots),.int .i64 s.hold]
def QlB (B:Lo) (s:Qaa) (load:List Int) (days:Int) (k:Int) (dJ0:Nat->Value):List Prop:=[k=(↑k.toNat:Int)/\Int.toNat k < List.length (List.map Qay (Qbb s (QaG load 0) days (Qag Span.hi Span.lo s days)))/\Array.extract (Qac Qal (List.map Qay (Qbb s (QaG load 0) days (Qag Span.hi Span.lo s days)))) (Int.toNat k * TypeInfo.size Tryz.t3) (Int.toNat k * TypeInfo.size Tryz.t3+TypeInfo.size Tryz.t3)=#[.int .i64 (List.getD (List.map Qay (Qbb s (QaG load 0) days (Qag Span.hi Span.lo s days))) k.toNat default)],k=(↑k.toNat:Int)/\Int.toNat k < List.length (List.map Qay (Qbb s (QaG load 0) days (Qag Span.lo Span.hi s days)))/\Array.extract (Qac Qal (List.map Qay (Qbb s (QaG load 0) days (Qag Span.lo Span.hi s days)))) (Int.toNat k * TypeInfo.size Tryz.t3) (Int.toNat k * TypeInfo.size Tryz.t3+TypeInfo.size Tryz.t3)=#[.int .i64 (List.getD (List.map Qay (Qbb s (QaG load 0) days (Qag Span.lo Span.hi s days))) k.toNat default)],k=(↑k.toNat:Int)/\Int.toNat k < List.length (Qbr s (QaG load 0) days)/\Array.extract (Qac Qbi (Qbr s (QaG load 0) days)) (Int.toNat k * TypeInfo.size Tryz.t81) (Int.toNat k * TypeInfo.size Tryz.t81+TypeInfo.size Tryz.t81)=#[.int .i64 (Wnt.may (List.getD (Qbr s (QaG load 0) days) k.toNat default)),.int .i64 (Wnt.must (List.getD (Qbr s (QaG load 0) days) k.toNat default))],ltq k (↑(List.length (Qbr s (QaG load 0) days)):Int)=true]++([]:List Prop)
def Qqf (s:Qaa) (load:List Int) (days:Int) (k:Int) (dJ0:Nat->Value):Qaz:=[(3,hvT),(6,Qaf.tidx k.toNat #[.int .i64 (Wnt.may (List.getD (Qbr s (QaG load 0) days) k.toNat default)),.int .i64 (Wnt.must (List.getD (Qbr s (QaG load 0) days) k.toNat default))]),(10,Qaf.tidx k.toNat #[.int .i64 (List.getD (List.map Qay (Qbb s (QaG load 0) days (Qag Span.lo Span.hi s days))) k.toNat default)]),(14,Qaf.tidx k.toNat #[.int .i64 (List.getD (List.map Qay (Qbb s (QaG load 0) days (Qag Span.hi Span.lo s days))) k.toNat default)])]
theorem Q0i (B:Lo) (s:Qaa) (load:List Int) (days:Int) (k:Int) (dJ0:Nat->Value):landM (Qam YP (Qa1 YP) J0 B 14 1 (Qa9 10 116 (([7,9,12,15]:List Nat).zip (QfM s load days k)) dJ0 QfV) (Qa5 (Qdt s load days k)) (2+(Qdt s load days k).length)
 (Qqf s load days k dJ0++[(17,Qaf.old (Hint.eq false)),(19,hvI (k+1))]) 0 [] []) [7,9,12,15] [] []=some ⟨10,116,QfV,[],.run,none,QfM s load days (k+1),Qdt s load days (k+1),
 [wq (k+1)=k+1,(!(eqq (Wnt.may (List.getD (Qbr s (QaG load 0) days) k.toNat default)) (List.getD (List.map Qay (Qbb s (QaG load 0) days (Qag Span.lo Span.hi s days))) k.toNat default) && (eqq (Wnt.must (List.getD (Qbr s (QaG load 0) days) k.toNat default)) (List.getD (List.map Qay (Qbb s (QaG load 0) days (Qag Span.hi Span.lo s days))) k.toNat default) && true)))=false]++QlB B s load days k dJ0⟩:=by kernel_rfl
theorem QzI (B:Lo) (s:Qaa) (load:List Int) (days:Int) (k:Int) (dJ0:Nat->Value):QaY (Qam YP (Qa1 YP) J0 B 14 1 (Qa9 10 116 (([7,9,12,15]:List Nat).zip (QfM s load days k)) dJ0 QfV) (Qa5 (Qdt s load days k)) (2+(Qdt s load days k).length)
 (Qqf s load days k dJ0++[(17,Qaf.old (Hint.eq true))]) 0 [] []) []=some (.bool false,
 [(!(eqq (Wnt.may (List.getD (Qbr s (QaG load 0) days) k.toNat default)) (List.getD (List.map Qay (Qbb s (QaG load 0) days (Qag Span.lo Span.hi s days))) k.toNat default) && (eqq (Wnt.must (List.getD (Qbr s (QaG load 0) days) k.toNat default)) (List.getD (List.map Qay (Qbb s (QaG load 0) days (Qag Span.hi Span.lo s days))) k.toNat default) && true)))=true]++QlB B s load days k dJ0):=by kernel_rfl
theorem Q0m (B:Lo) (s:Qaa) (load:List Int) (days:Int) (k:Int) (dJ0:Nat->Value):QaY (Qam YP (Qa1 YP) J0 B 9 1 (Qa9 10 116 (([7,9,12,15]:List Nat).zip (QfM s load days k)) dJ0 QfV) (Qa5 (Qdt s load days k)) (2+(Qdt s load days k).length)
 [(3,hvF),(4,Qaf.pure (.bool true) [])] 0 [] []) []=some (.bool true,
 [QaA []/\Qaq YP J0 17 #[] (.bool true),ltq k (↑(List.length (Qbr s (QaG load 0) days)):Int)=false]):=by kernel_rfl
def QlJ (B:Lo) (s:Qaa) (load:List Int) (days:Int):List Prop:=[QaA []/\Qaq YP J0 36 #[.agg (Qgd s)] (.bool true)]++([]:List Prop)
def QqV (s:Qaa) (load:List Int) (days:Int):Qaz:=[(3,Qaf.pure (.bool true) [])]
theorem Qzm (B:Lo) (s:Qaa) (load:List Int) (days:Int):QaY (Qam YP (Qa1 YP) J0 B 10 1 (Qaj YP 10 116 (([.agg (Qah s).toArray,slI load,.int .i64 days]).map (Qat 0 4))) H00 1
 (QqV s load days++[(8,hvT),(17,Qaf.pure (.bool true) [])]) 0 [] []) []=some (.bool true,
 [QaA []/\Qaq YP J0 17 #[] (.bool true),ltq 10 (↑load.length:Int)=true]++QlJ B s load days):=by kernel_rfl
def QgL (B:Lo) (s:Qaa) (load:List Int) (days:Int):List Prop:=[ltq 10 (↑load.length:Int)=false]++QlJ B s load days
def Qjr (s:Qaa) (load:List Int) (days:Int):Qaz:=QqV s load days++[(8,hvF)]
def QqR (B:Lo) (s:Qaa) (load:List Int) (days:Int):List Prop:=[QaA []/\Qaq YP J0 47 #[.agg (Qgd s),.int .i64 days,.bool true] (.agg (Qmt s days)),QaA []/\Qaq YP J0 43 (Qhi s load days) (.tuple #[slT (List.length (Qbr s (QaG load 0) days)) (Qac Qbi (Qbr s (QaG load 0) days)),.int .i64 0]),QaA []/\Qaq YP J0 39 (Qhi s load days) (.bool true)]++QgL B s load days
def Qrx (s:Qaa) (load:List Int) (days:Int):Qaz:=Qjr s load days++[(14,Qaf.pure (.bool true) []),(20,Qaf.pure (.tuple #[slT (List.length (Qbr s (QaG load 0) days)) (Qac Qbi (Qbr s (QaG load 0) days)),.int .i64 0]) []),(31,Qaf.pure (.agg (Qmt s days)) []),(32,Qaf.pure (.tuple #[slT (List.length (List.map Qay (Qbb s (QaG load 0) days (Qag Span.lo Span.hi s days)))) (Qac Qal (List.map Qay (Qbb s (QaG load 0) days (Qag Span.lo Span.hi s days)))),slT (List.length (List.map QeG (Qbb s (QaG load 0) days (Qag Span.lo Span.hi s days)))) (Qac Qal (List.map QeG (Qbb s (QaG load 0) days (Qag Span.lo Span.hi s days)))),.int .i64 0]) []),(45,Qaf.pure (.agg (Qmh s days)) []),(46,Qaf.pure (.tuple #[slT (List.length (List.map Qay (Qbb s (QaG load 0) days (Qag Span.hi Span.lo s days)))) (Qac Qal (List.map Qay (Qbb s (QaG load 0) days (Qag Span.hi Span.lo s days)))),slT (List.length (List.map QeG (Qbb s (QaG load 0) days (Qag Span.hi Span.lo s days)))) (Qac Qal (List.map QeG (Qbb s (QaG load 0) days (Qag Span.hi Span.lo s days)))),.int .i64 0]) [])]
def Qr9 (B:Lo) (s:Qaa) (load:List Int) (days:Int):List Prop:=[QaA []/\Qaq YP J0 47 #[.agg (Qgd s),.int .i64 days,.bool false] (.agg (Qmh s days)),QaA []/\Qaq YP J0 38 #[.agg (Qgd s),slT load.length (Qac Qal load),.int .i64 days,.agg (Qmt s days)] (.tuple #[slT (List.length (List.map Qay (Qbb s (QaG load 0) days (Qag Span.lo Span.hi s days)))) (Qac Qal (List.map Qay (Qbb s (QaG load 0) days (Qag Span.lo Span.hi s days)))),slT (List.length (List.map QeG (Qbb s (QaG load 0) days (Qag Span.lo Span.hi s days)))) (Qac Qal (List.map QeG (Qbb s (QaG load 0) days (Qag Span.lo Span.hi s days)))),.int .i64 0])]++QqR B s load days
def Qnh (B:Lo) (s:Qaa) (load:List Int) (days:Int):List Prop:=[QaA []/\Qaq YP J0 38 #[.agg (Qgd s),slT load.length (Qac Qal load),.int .i64 days,.agg (Qmh s days)] (.tuple #[slT (List.length (List.map Qay (Qbb s (QaG load 0) days (Qag Span.hi Span.lo s days)))) (Qac Qal (List.map Qay (Qbb s (QaG load 0) days (Qag Span.hi Span.lo s days)))),slT (List.length (List.map QeG (Qbb s (QaG load 0) days (Qag Span.hi Span.lo s days)))) (Qac Qal (List.map QeG (Qbb s (QaG load 0) days (Qag Span.hi Span.lo s days)))),.int .i64 0])]++Qr9 B s load days
theorem Qyj (B:Lo) (s:Qaa) (load:List Int) (days:Int):QaY (Qam YP (Qa1 YP) J0 B 21 1 (Qaj YP 10 116 (([.agg (Qah s).toArray,slI load,.int .i64 days]).map (Qat 0 4))) H00 1
 (Qrx s load days++[(70,hvT)]) 0 [] []) []=some (.bool false,
 [(!eqq (↑(List.length (Qbr s (QaG load 0) days)):Int) (↑s.stock.length:Int))=true]++Qnh B s load days):=by kernel_rfl
def Qm2 (B:Lo) (s:Qaa) (load:List Int) (days:Int):List Prop:=[(!eqq (↑(List.length (Qbr s (QaG load 0) days)):Int) (↑s.stock.length:Int))=false]++Qnh B s load days
def Qra (s:Qaa) (load:List Int) (days:Int):Qaz:=Qrx s load days++[(70,hvF)]
theorem QxT (B:Lo) (s:Qaa) (load:List Int) (days:Int):QaY (Qam YP (Qa1 YP) J0 B 21 1 (Qaj YP 10 116 (([.agg (Qah s).toArray,slI load,.int .i64 days]).map (Qat 0 4))) H00 1
 (Qra s load days++[(78,hvT)]) 0 [] []) []=some (.bool false,
 [(!eqq (↑(List.length (List.map Qay (Qbb s (QaG load 0) days (Qag Span.lo Span.hi s days)))):Int) (↑s.stock.length:Int))=true]++Qm2 B s load days):=by kernel_rfl
def Qme (B:Lo) (s:Qaa) (load:List Int) (days:Int):List Prop:=[(!eqq (↑(List.length (List.map Qay (Qbb s (QaG load 0) days (Qag Span.lo Span.hi s days)))):Int) (↑s.stock.length:Int))=false]++Qm2 B s load days
def QpZ (s:Qaa) (load:List Int) (days:Int):Qaz:=Qra s load days++[(78,hvF)]
theorem QzJ (B:Lo) (s:Qaa) (load:List Int) (days:Int):QaY (Qam YP (Qa1 YP) J0 B 21 1 (Qaj YP 10 116 (([.agg (Qah s).toArray,slI load,.int .i64 days]).map (Qat 0 4))) H00 1
 (QpZ s load days++[(86,hvT)]) 0 [] []) []=some (.bool false,
 [(!eqq (↑(List.length (List.map Qay (Qbb s (QaG load 0) days (Qag Span.hi Span.lo s days)))):Int) (↑s.stock.length:Int))=true]++Qme B s load days):=by kernel_rfl
theorem QzV (B:Lo) (s:Qaa) (load:List Int) (days:Int):landM (Qam YP (Qa1 YP) J0 B 23 1 (Qaj YP 10 116 (([.agg (Qah s).toArray,slI load,.int .i64 days]).map (Qat 0 4))) H00 1
 (QpZ s load days++[(86,hvF)]) 0 [] []) [7,9,12,15] [] []=some ⟨10,116,QfV,[],.run,none,QfM s load days (0),Qdt s load days (0),
 [(!eqq (↑(List.length (List.map Qay (Qbb s (QaG load 0) days (Qag Span.hi Span.lo s days)))):Int) (↑s.stock.length:Int))=false]++Qme B s load days⟩:=by kernel_rfl
theorem QyB (B:Lo) (s:Qaa) (load:List Int) (days:Int):QaY (Qam YP (Qa1 YP) J0 B 10 1 (Qaj YP 10 116 (([.agg (Qah s).toArray,slI load,.int .i64 days]).map (Qat 0 4))) H00 1
 (Qjr s load days++[(14,Qaf.pure (.bool false) []),(17,Qaf.pure (.bool true) [])]) 0 [] []) []=some (.bool true,
 [QaA []/\Qaq YP J0 17 #[] (.bool true),QaA []/\Qaq YP J0 39 (Qhi s load days) (.bool false)]++QgL B s load days):=by kernel_rfl
theorem Q0h (B:Lo) (s:Qaa) (load:List Int) (days:Int):QaY (Qam YP (Qa1 YP) J0 B 10 1 (Qaj YP 10 116 (([.agg (Qah s).toArray,slI load,.int .i64 days]).map (Qat 0 4))) H00 1
 (Qjr s load days++[(14,Qaf.pure (.bool false) []),(17,Qaf.pure (.bool true) [])]) 0 [] []) []=some (.bool true,
 [QaA []/\Qaq YP J0 17 #[] (.bool true),QaA []/\Qaq YP J0 39 (Qhi s load days) (.bool false)]++QgL B s load days):=by kernel_rfl
theorem QvQ (B:Lo) (s:Qaa) (load:List Int) (days:Int):QaY (Qam YP (Qa1 YP) J0 B 10 1 (Qaj YP 10 116 (([.agg (Qah s).toArray,slI load,.int .i64 days]).map (Qat 0 4))) H00 1
 (Qjr s load days++[(14,Qaf.pure (.bool false) []),(17,Qaf.pure (.bool true) [])]) 0 [] []) []=some (.bool true,
 [QaA []/\Qaq YP J0 17 #[] (.bool true),QaA []/\Qaq YP J0 39 (Qhi s load days) (.bool false)]++QgL B s load days):=by kernel_rfl
theorem QuO (B:Lo) (s:Qaa) (load:List Int) (days:Int):QaY (Qam YP (Qa1 YP) J0 B 10 1 (Qaj YP 10 116 (([.agg (Qah s).toArray,slI load,.int .i64 days]).map (Qat 0 4))) H00 1
 [(3,Qaf.pure (.bool false) []),(17,Qaf.pure (.bool true) [])] 0 [] []) []=some (.bool true,
 [QaA []/\Qaq YP J0 17 #[] (.bool true),QaA []/\Qaq YP J0 36 #[.agg (Qgd s)] (.bool false)]):=by kernel_rfl
set_option maxHeartbeats 4000000 in
theorem Qzo (s:Qaa) (load:List Int) (days:Int)  (hfacts:s.stock.length<=9223372036854775807) {B:Lo} (hJ:∀w,B.has w->J0 w) {c0:CF}:∀m:Nat,(∀(k:Int),s.stock.length - k.toNat=m->∀(k0:0<=k) (hs:Qa3 s=true) (hl:Qck s load=true) (hd:0<=days/\days<=300),QyK B c0 s load days k->EndsT YP B c0 (.bool true)):=by
 intro m0;induction m0 using Nat.strongRecOn with
 | _ m0 ih0=>
   intro k hm0 k0 hs hl hd ⟨dJ0,hdJ0,hg0⟩;have hwl:=Qla (s:=s) (load:=QaG load 0) (days:=days);have hgl1:=Qfd (s:=s) (load:=QaG load 0) (days:=days) (t:=Qag Span.lo Span.hi s days);have hgm1:((Qbb s (QaG load 0) days (Qag Span.lo Span.hi s days)).map Qay).length=s.stock.length:=by rw [List.length_map,hgl1]
   have hgl2:=Qfd (s:=s) (load:=QaG load 0) (days:=days) (t:=Qag Span.hi Span.lo s days);have hgm2:((Qbb s (QaG load 0) days (Qag Span.hi Span.lo s days)).map Qay).length=s.stock.length:=by rw [List.length_map,hgl2]
   have hwl:=Qla (s:=s) (load:=QaG load 0) (days:=days);by_cases q0:(k:Int) < ((↑(List.length (Qbr s (QaG load 0) days)):Int))
   ·have hp0:QaA (QlB B s load days k dJ0):=by
     have m0:=Qot (s:=s) (load:=QaG load 0) (days:=days) k0 (by omega);have m1:=Qfz (s:=s) (load:=QaG load 0) (days:=days) (t:=Qag Span.lo Span.hi s days) (f:=Qay) k0 (by omega);have m2:=Qfz (s:=s) (load:=QaG load 0) (days:=days) (t:=Qag Span.hi Span.lo s days) (f:=Qay) k0 (by omega);exact ⟨⟨by omega,by omega,(Qae (z:=1) (fun _=> rfl) (by omega))⟩,⟨⟨by omega,by omega,(Qae (z:=1) (fun _=> rfl) (by omega))⟩,⟨⟨by omega,by omega,(Qae (z:=2) (fun _=> rfl) (by omega))⟩,⟨(QaW q0),trivial⟩⟩⟩⟩
    cases q1:eqq (Wnt.may (List.getD (Qbr s (QaG load 0) days) k.toNat default)) (List.getD (List.map Qay (Qbb s (QaG load 0) days (Qag Span.lo Span.hi s days))) k.toNat default) && eqq (Wnt.must (List.getD (Qbr s (QaG load 0) days) k.toNat default)) (List.getD (List.map Qay (Qbb s (QaG load 0) days (Qag Span.hi Span.lo s days))) k.toNat default) with
    | true=>
      have m0:=Qot (s:=s) (load:=QaG load 0) (days:=days) k0 (by omega);have m1:=Qfz (s:=s) (load:=QaG load 0) (days:=days) (t:=Qag Span.lo Span.hi s days) (f:=Qay) k0 (by omega);have m2:=Qfz (s:=s) (load:=QaG load 0) (days:=days) (t:=Qag Span.hi Span.lo s days) (f:=Qay) k0 (by omega);exact ((ih0 _ (by omega)) (k+1) rfl (by omega) (by with_reducible assumption) (by with_reducible assumption) (by with_reducible assumption)
       (hg0.landM okF hJ Qab (Q0i B s load days k dJ0)
       ⟨(QaL (by omega) (by omega)),⟨(by (rw [Bool.and_true,q1];rfl)),hp0⟩⟩ (by kernel_rfl) (by kernel_rfl))).cast (by rfl)
    | false=>
      have m0:=Qot (s:=s) (load:=QaG load 0) (days:=days) k0 (by omega);have m1:=Qfz (s:=s) (load:=QaG load 0) (days:=days) (t:=Qag Span.lo Span.hi s days) (f:=Qay) k0 (by omega);have m2:=Qfz (s:=s) (load:=QaG load 0) (days:=days) (t:=Qag Span.hi Span.lo s days) (f:=Qay) k0 (by omega);exact (GoE.endsT okF hJ Qab hg0 (QzI B s load days k dJ0)
       ⟨(by (rw [Bool.and_true,q1];rfl)),hp0⟩).cast (by (exfalso;simp_all [Qtx,Q7e,Q5u,Qk3];done))
   ·exact (GoE.endsT okF hJ Qab hg0 (Q0m B s load days k dJ0)
     ⟨⟨trivial,known⟩,⟨(Qbh (Int.not_lt.1 q0)),trivial⟩⟩).cast rfl
set_option maxHeartbeats 4000000 in
theorem Q0Q (s:Qaa) (load:List Int) (days:Int)  (hfacts:s.stock.length<=9223372036854775807) {B:Lo} (hJ:∀w,B.has w->J0 w):EndsT YP B (Qaj YP 10 116 (([.agg (Qah s).toArray,slI load,.int .i64 days]).map (Qat 0 4))) (.bool true):=by
 have hwl:=Qla (s:=s) (load:=QaG load 0) (days:=days);have hgl1:=Qfd (s:=s) (load:=QaG load 0) (days:=days) (t:=Qag Span.lo Span.hi s days);have hgm1:((Qbb s (QaG load 0) days (Qag Span.lo Span.hi s days)).map Qay).length=s.stock.length:=by rw [List.length_map,hgl1]
 have hgl2:=Qfd (s:=s) (load:=QaG load 0) (days:=days) (t:=Qag Span.hi Span.lo s days);have hgm2:((Qbb s (QaG load 0) days (Qag Span.hi Span.lo s days)).map Qay).length=s.stock.length:=by rw [List.length_map,hgl2]
 cases q0:QcH s with
 | true=>
   have hp1:QaA (QlJ B s load days):=by
    have hb:=QaV ‹QcH s=true›;exact ⟨⟨trivial,(by have t_:=Qpx (s);rw [q0] at t_;exact t_)⟩,trivial⟩
   by_cases q1:(10:Int) < ((↑load.length:Int))
   ·exact (GoE.endsT okF hJ Qab GoE.start (Qzm B s load days)
     ⟨⟨trivial,known⟩,⟨(QaW q1),hp1⟩⟩).cast rfl
   ·have hp2:QaA (QgL B s load days):=by
     exact ⟨(Qbh (Int.not_lt.1 q1)),hp1⟩
    cases q2:Qa3 s with
    | true=>
      cases q3:Qck s load with
      | true=>
        cases q4:inB days 0 300 with
        | true=>
          have hp3:QaA (QqR B s load days):=by
           have hb:=QaV ‹QcH s=true›;have g2:=QaU.1 ‹inB days 0 300=true›;have ht1:=QaM QaZ Qba ‹Qa3 s=true› g2;have ht2:=QaM Qba QaZ ‹Qa3 s=true› g2;exact ⟨⟨trivial,Q4Y (s) (days) (by with_reducible assumption) (by with_reducible assumption)⟩,⟨⟨trivial,(by have t_:=QzT (s) (load) (days);rw [q2,q3,q4] at t_;exact t_)⟩,⟨⟨trivial,(by have t_:=Qhm (s) (load) (days) (by with_reducible assumption) (by omega);rw [q2,q3,q4] at t_;exact t_)⟩,hp2⟩⟩⟩
          cases q5:Qb7 s days (Qag Span.lo Span.hi s days) with
          | true=>
            have hp4:QaA (Qr9 B s load days):=by
             have hb:=QaV ‹QcH s=true›;have g2:=QaU.1 ‹inB days 0 300=true›;have ht1:=QaM QaZ Qba ‹Qa3 s=true› g2;have ht2:=QaM Qba QaZ ‹Qa3 s=true› g2;exact ⟨⟨trivial,Q49 (s) (days) (by with_reducible assumption) (by with_reducible assumption)⟩,⟨⟨trivial,(by have t_:=Q5p (s) (load) (days) (Qag Span.lo Span.hi s days);rw [q2,q3,q4,q5] at t_;exact t_)⟩,hp3⟩⟩
            cases q6:Qb7 s days (Qag Span.hi Span.lo s days) with
            | true=>
              have hp5:QaA (Qnh B s load days):=by
               have hb:=QaV ‹QcH s=true›;have g2:=QaU.1 ‹inB days 0 300=true›;have ht1:=QaM QaZ Qba ‹Qa3 s=true› g2;have ht2:=QaM Qba QaZ ‹Qa3 s=true› g2;exact ⟨⟨trivial,(by have t_:=Q5p (s) (load) (days) (Qag Span.hi Span.lo s days);rw [q2,q3,q4,q6] at t_;exact t_)⟩,hp4⟩
              by_cases q7:((↑(List.length (Qbr s (QaG load 0) days)):Int):Int)≠((↑s.stock.length:Int))
              ·have hb:=QaV ‹QcH s=true›;have g2:=QaU.1 ‹inB days 0 300=true›;have ht1:=QaM QaZ Qba ‹Qa3 s=true› g2;have ht2:=QaM Qba QaZ ‹Qa3 s=true› g2;exact (GoE.endsT okF hJ Qab GoE.start (Qyj B s load days)
                ⟨(QmQ q7),hp5⟩).cast (by (exfalso;omega))
              ·have hp6:QaA (Qm2 B s load days):=by
                exact ⟨(QmC (Decidable.of_not_not q7)),hp5⟩
               by_cases q8:((↑(List.length (List.map Qay (Qbb s (QaG load 0) days (Qag Span.lo Span.hi s days)))):Int):Int)≠((↑s.stock.length:Int))
               ·have hb:=QaV ‹QcH s=true›;have g2:=QaU.1 ‹inB days 0 300=true›;have ht1:=QaM QaZ Qba ‹Qa3 s=true› g2;have ht2:=QaM Qba QaZ ‹Qa3 s=true› g2;exact (GoE.endsT okF hJ Qab GoE.start (QxT B s load days)
                 ⟨(QmQ q8),hp6⟩).cast (by (exfalso;omega))
               ·have hp7:QaA (Qme B s load days):=by
                 exact ⟨(QmC (Decidable.of_not_not q8)),hp6⟩
                by_cases q9:((↑(List.length (List.map Qay (Qbb s (QaG load 0) days (Qag Span.hi Span.lo s days)))):Int):Int)≠((↑s.stock.length:Int))
                ·have hb:=QaV ‹QcH s=true›;have g2:=QaU.1 ‹inB days 0 300=true›;have ht1:=QaM QaZ Qba ‹Qa3 s=true› g2;have ht2:=QaM Qba QaZ ‹Qa3 s=true› g2;exact (GoE.endsT okF hJ Qab GoE.start (QzJ B s load days)
                  ⟨(QmQ q9),hp7⟩).cast (by (exfalso;omega))
                ·have hb:=QaV ‹QcH s=true›;have g2:=QaU.1 ‹inB days 0 300=true›;have ht1:=QaM QaZ Qba ‹Qa3 s=true› g2;have ht2:=QaM Qba QaZ ‹Qa3 s=true› g2;exact ((Qzo s load days hfacts hJ _) (0) rfl (by omega) (by with_reducible assumption) (by with_reducible assumption) (by with_reducible assumption)
                  (GoE.start.landM okF hJ Qab (QzV B s load days)
                  ⟨(QmC (Decidable.of_not_not q9)),hp7⟩ (by kernel_rfl) (by kernel_rfl))).cast (by rfl)
            | false=>
              exfalso
              (have g2:=QaU.1 ‹inB days 0 300=true›;have ht2:=QaM Qba QaZ ‹Qa3 s=true› g2;simp_all;done)
          | false=>
            exfalso
            (have g2:=QaU.1 ‹inB days 0 300=true›;have ht1:=QaM QaZ Qba ‹Qa3 s=true› g2;simp_all;done)
        | false=>
          have hb:=QaV ‹QcH s=true›;exact (GoE.endsT okF hJ Qab GoE.start (QyB B s load days)
           ⟨⟨trivial,known⟩,⟨⟨trivial,(by have t_:=Qhm (s) (load) (days) (by with_reducible assumption) (by omega);rw [q2,q3,q4] at t_;exact t_)⟩,hp2⟩⟩).cast rfl
      | false=>
        have hb:=QaV ‹QcH s=true›;exact (GoE.endsT okF hJ Qab GoE.start (Q0h B s load days)
         ⟨⟨trivial,known⟩,⟨⟨trivial,(by have t_:=Qhm (s) (load) (days) (by with_reducible assumption) (by omega);rw [q2,q3] at t_;exact t_)⟩,hp2⟩⟩).cast rfl
    | false=>
      have hb:=QaV ‹QcH s=true›;exact (GoE.endsT okF hJ Qab GoE.start (QvQ B s load days)
       ⟨⟨trivial,known⟩,⟨⟨trivial,(by have t_:=Qhm (s) (load) (days) (by with_reducible assumption) (by omega);rw [q2] at t_;exact t_)⟩,hp2⟩⟩).cast rfl
 | false=>
   exact (GoE.endsT okF hJ Qab GoE.start (QuO B s load days)
    ⟨⟨trivial,known⟩,⟨⟨trivial,(by have t_:=Qpx (s);rw [q0] at t_;exact t_)⟩,trivial⟩⟩).cast rfl
theorem Q5G (s:Qaa) (load:List Int) (days:Int)  :Qaq YP J0 10 #[.agg (Qah s).toArray,slI load,.int .i64 days] (.bool true):=
 Qcw (ts:=[.agg (Qah s).toArray,slI load,.int .i64 days]) (s.stock.length<=9223372036854775807) (fun _ _ ht=> ht.ln2 (i:=0) (j:=0) rfl rfl) Qbw (c0:=Qaj YP 10 116 (([.agg (Qah s).toArray,slI load,.int .i64 days]).map (Qat 0 4))) (by kernel_rfl) (by kernel_rfl) fun hfacts B hJ=> Q0Q s load days  hfacts hJ
end
end Go.Proofs.YtiabgkiccaodmaaGreat

namespace Go.Proofs.YtiabgkiccaodmaaGreat
open Go Go.CE Go.RowKit
theorem Qzl:∀trs,QuE [QmN,.slice .int,.int] trs->Qaq YP J0 10 trs.toArray (.bool true):=by
 rintro trs ⟨t0,_,rfl,h0,t1,_,rfl,h1,t2,_,rfl,h2,rfl⟩;obtain ⟨s,rfl⟩:=Qxq h0;obtain ⟨l,rfl⟩:=Q14 h1;obtain ⟨z,rfl⟩:=Q45 h2;exact Q5G s l z
end Go.Proofs.YtiabgkiccaodmaaGreat

namespace Go.Proofs.YtiabgkiccaodmaaGreat
open Go Go.CE Go.ChangeShapes Go.WideShapes Go.RowKit
set_option maxRecDepth 100000 in
theorem QkN (os:Os) (started:os.Started) (H:Type) (enc:TypeId×Value->H):
 ReturnsInHanded {} Tryz.checked os 10 .any (Rows.shipSharpSpec.pre6 enc YP Tryz.f10 Rows.shipSharpRow.domain false) (Rows.shipSharpSpec.post enc YP Tryz.f10 false true false false):=by
 refine returnsInHanded_of_change (C:=Tryz.checked) (show ownKnob YP.godebug=none by kernel_rfl) started (by kernel_rfl) Tryz.func10
  (ChangeSpec.witness6 (enc:=enc) (C:=Tryz.checked) false ⟨#[],#[Sh.zeroA QmN,Sh.zeroA (.slice .int),Sh.zeroA .int],[]⟩ 8 (by kernel_rfl) (by kernel_rfl) (by kernel_rfl) (by kernel_rfl)) ?_
 intro W base args ds gs before hval0 hW _ _;have hval:∀(j:Nat) t v,Tryz.f10.params[j]? =some t->args[j]? =some v->Value.okWide YP W .any base t v:=hval0;have hW':=hW;obtain ⟨p,q,hA0,hV,rfl,_,_⟩:=hW;obtain ⟨rfl,rfl⟩:=trodVars_none hV;have hA1:DataW.TrodAll enc YP W 0 (fun _=> true) true Tryz.f10.params.toList args.toList ds p:=hA0;have hlt:∀x∈p,x.block < W.heap.size:=fun x hx=> hW'.lt x (by simpa using hx)
 have hch:Qlm YP [QmN,(.slice .int),.int] Tryz.f10.params.toList=true:=by kernel_rfl
 have hrd:(Tryz.f10.params.toList.all fun t=> YP.readableRec t && decide (t < YP.types.size))=true:=by kernel_rfl
 refine (Q2d (J:=J0) (ss:=[QmN,(.slice .int),.int]) trivial hch hA1 (fun j t v h1 h2=> hval j t v (by simpa using h1) h2) Qzl).mono fun e W' ⟨he,hB⟩=> ?_
 subst he;have hB2:=Qjd (show laidOutB YP=true by kernel_rfl) hB _ _ _ _ hrd hA1 hlt;have hA:DataW.TrodAll enc YP W 0 (fun _=> true) true Tryz.f10.params.toList args.toList ds p:=hA1;rw [Tryz.params10] at hA;simp only [List.toList_toArray] at hA;have hA:=hA;obtain ⟨v0,vs0,d0,ds0,p0,q0,_,rfl,_,h0,_⟩:=CE.trodAll_cons hA;obtain ⟨v1,vs1,d1,ds1,p1,q1,_,rfl,_,h1,_⟩:=CE.trodAll_cons h0;obtain ⟨v2,vs2,d2,ds2,p2,q2,_,rfl,_,h2,_⟩:=CE.trodAll_cons h1;obtain ⟨_,rfl,_⟩:=CE.trodAll_nil h2;exact ⟨_,rfl,_,_,_,[],_,[],hW',trodAll_mk1 (shut_bool Tryz.underlying4 _),hB2,rfl,hB.frame _,fun h=> by cases h⟩
theorem shipSharp_row:Rows.ShipSharpSaid:=
 OpenClaim.holds_of_wide 10 Tryz.f10 rfl rfl rfl rfl rfl rfl rfl ⟨rfl,rfl,rfl,rfl,rfl⟩ rfl rfl rfl rfl rfl (by kernel_rfl) Tryz.func10 (by kernel_rfl)
  (of_decide_eq_true (by kernel_rfl)) (by unfold Func.isWrapper;first | (rw [if_pos (by decide+kernel)];kernel_rfl) | (rw [if_neg (by decide+kernel)];exact ⟨rfl,rfl⟩))
  (fun os started H enc _=> QkN os started H enc)
end Go.Proofs.YtiabgkiccaodmaaGreat
