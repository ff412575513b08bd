/- ShipWants: whatever the input, it returns true, and each argument reads as it did. The row, from the walk. -/
import Derived.Test.YtiabgkiccaodmaaGreatZWN13
import Derived.Test.YtiabgkiccaodmaaGreatZWN12
import Derived.Test.YtiabgkiccaodmaaGreatZWN14
import Derived.JoinedOf
import Derived.Test.YtiabgkiccaodmaaGreatRows
set_option linter.all false
namespace Go.Proofs.YtiabgkiccaodmaaGreat
open Go Go.CE Go.RowKit
noncomputable section
set_option maxRecDepth 100000
theorem getD_map {α β:Type} [Inhabited α] [Inhabited β] {f:α->β} {l:List α} {k:Nat} (h:k < l.length):(l.map f).getD k default=f (l.getD k default):=by
 simp [List.getD_eq_getElem?_getD,h]
theorem Qwu {a b x:Int}:x∈upI a b<->a<=x/\x < b:=by
 refine ⟨QnQ,fun h=> ?_⟩
 unfold upI
 exact List.mem_map.2 ⟨(x - a).toNat,List.mem_range.2 (by omega),by omega⟩
def QvN (f:Span->Int):Prop:=∀x:Span,x.lo<=x.hi->x.lo<=f x/\f x<=x.hi
theorem QbO:QvN Span.lo:=fun _ h=> ⟨Int.le_refl _,h⟩
theorem QbN:QvN Span.hi:=fun _ h=> ⟨h,Int.le_refl _⟩
theorem QkP {ss:List Span} {f:Span->Int} (hf:QvN f) (h:∀x∈ss,x.lo<=x.hi):QfJ (ss.map f) ss=true:=by
 unfold QfJ Q5D
 rw [List.length_map,decide_eq_true rfl,Bool.true_and,List.all_eq_true]
 intro k hk
 have hk:=Qwu.1 hk
 rw [getD_map (by omega),Qbn]
 exact hf _ (h _ (QaI (l:=ss) hk.1 hk.2))
theorem Qtp {x:Int}:∀n:Nat,Qgn (List.replicate n x)=n * x
 | 0=> by simp [Qgn]
 | n+1=> by
   rw [List.replicate_succ];show x+Qgn (List.replicate n x)=_
   rw [Qtp n,Int.natCast_add,Int.add_mul];omega
theorem Q3H {d g:Int} (hd:0<=d) (hg:1<=g):d<=((d+g - 1).tdiv g).toNat * g:=by
 rw [Int.tdiv_eq_ediv_of_nonneg (by omega)]
 have h0:0<=(d+g - 1) / g:=Int.ediv_nonneg (by omega) (by omega)
 rw [Int.toNat_of_nonneg h0]
 have h1:=Int.lt_ediv_add_one_mul_self (d+g - 1) (show 0 < g by omega)
 rw [Int.add_mul] at h1
 omega
theorem Qbs {f g:Span->Int} {s:Qaa} {days:Int} (hf:QvN f) (hg:QvN g) (hs:QaD s=true) (hd:0<=days/\days<=300):Qdq s days (Qak f g s days)=true:=by
 have hgp:=Qa0 hs
 have hst:=Qaj hs
 have hlo:=Qas hs
 have hgg:=hg ⟨s.glo,s.ghi⟩ hgp.2.1
 have hqf:=Qci (g:=g ⟨s.glo,s.ghi⟩) hd (by simp only at hgg;omega)
 simp only at hgg
 have h1:QfJ (Qak f g s days).uses s.use=true:=QkP hg fun x hx=> (hst.2.2.2 x hx).2.1
 have h2:Qnk s days (Qak f g s days).gaps=true:=by
  have e:(Qak f g s days).gaps=List.replicate ((days+g ⟨s.glo,s.ghi⟩ - 1).tdiv (g ⟨s.glo,s.ghi⟩)).toNat (g ⟨s.glo,s.ghi⟩):=rfl
  rw [e]
  unfold Qnk
  rw [List.length_replicate,decide_eq_true (by omega),Bool.true_and,Bool.and_eq_true,List.all_eq_true]
  refine ⟨fun x hx=> ?_,decide_eq_true ?_⟩
  ·rw [(List.mem_replicate.1 hx).2,Qbn];exact hgg
  ·rw [Qtp];exact Q3H hd.1 (by omega)
 have h3:QpG s (Qak f g s days).goods=true:=by
  have e:(Qak f g s days).goods=s.lots.map fun (l:Qad)=> (l.goods.map f:Row):=rfl
  rw [e]
  unfold QpG Q5M
  rw [List.length_map,decide_eq_true rfl,Bool.true_and,List.all_eq_true]
  intro k hk
  have hk:=Qwu.1 hk
  have hm:=QaI (l:=s.lots) hk.1 hk.2
  have e:(s.lots.map fun (l:Qad)=> (l.goods.map f:Row)).getD k.toNat default=(s.lots.getD k.toNat default).goods.map f:=getD_map (f:=fun (l:Qad)=> (l.goods.map f:Row)) (by omega)
  rw [e]
  exact QkP hf fun x hx=> ((Qd6 (hlo.2 _ hm)).2.1 x hx).2.1
 unfold Qdq
 rw [h1,h2,h3];rfl
structure Wnt where
 may:Int
 must:Int
deriving Inhabited
def Qbd (w:Wnt):List Value:=[.int .i64 w.may,.int .i64 w.must]
abbrev QkK (xs:List Wnt):Value:=slT xs.length (Qab Qbd xs)
def Q5T (s:Qaa) (load days k:Int):Int:=Qa9 (Qe9 s load days (Qak Span.lo Span.hi s days) k)
def Q56 (s:Qaa) (load days k:Int):Int:=Qa9 (Qe9 s load days (Qak Span.hi Span.lo s days) k)
def Qzd (s:Qaa) (load days k:Int):Wnt:=⟨Q5T s load days k,Q56 s load days k⟩
def Qce (s:Qaa) (load days:Int):List Wnt:=(upI 0 s.stock.length).map (Qzd s load days)
theorem Q1w {s:Qaa} {load days:Int}:(Qce s load days).length=s.stock.length:=by simp [Qce,Qc7]
def Qrh (s:Qaa) (load days i:Int):List Wnt:=Qgp (Qzd s load days) ⟨0,0⟩ (upI 0 s.stock.length) i
theorem Qyz {s:Qaa} {load days i:Int}:(Qrh s load days i).length=s.stock.length:=by
 unfold Qrh;rw [QdD,Qc7];omega
theorem Q3J {s:Qaa} {load days:Int}:List.replicate s.stock.length (⟨0,0⟩:Wnt)=Qrh s load days 0:=by
 unfold Qrh;rw [<-QfL,Qc7];rfl
theorem Qzi {s:Qaa} {load days i:Int} (h0:0<=i) (h:i < s.stock.length):(Qrh s load days i).set i.toNat ⟨((Qcb s load days (Qak Span.lo Span.hi s days)).map Qa9).getD i.toNat default,((Qcb s load days (Qak Span.hi Span.lo s days)).map Qa9).getD i.toNat default⟩=Qrh s load days (i+1):=by
 have:=QdJ (f:=Qzd s load days) (x0:=⟨0,0⟩) (xs:=upI 0 s.stock.length) (i:=i) h0 (by rw [Qc7];omega)
 rw [QiC h0 h] at this
 rw [Qtx h0 h,Qtx h0 h]
 exact this
theorem QvP {s:Qaa} {load days i:Int} (h:s.stock.length<=i):Qrh s load days i=Qce s load days:=QdC (by rw [Qc7];omega)
def QgE (s:Qaa) (days:Int):Array Value:=#[slT (List.length (Qar.uses (Qak Span.lo Span.hi s days))) (Qab Qag (Qar.uses (Qak Span.lo Span.hi s days))),slT (List.length (Qar.gaps (Qak Span.lo Span.hi s days))) (Qab Qag (Qar.gaps (Qak Span.lo Span.hi s days))),slT (List.length (Qar.goods (Qak Span.lo Span.hi s days))) (Qab Qax (Qar.goods (Qak Span.lo Span.hi s days)))]
theorem QqN (B:Lo) (s:Qaa) (load days:Int):Qbe (Qan Tryz.prog (Qa6 Tryz.prog) J0 B 6 1 (Qal Tryz.prog 128 7 (([.agg (QaH s load days).toArray]).map (Qav 0 4))) H00 1
 [(4,Qah.pure (.agg (QgE s days)) []),(5,Qah.pure (slT (List.length (Qcb s load days (Qak Span.lo Span.hi s days))) (Qab Qco (Qcb s load days (Qak Span.lo Span.hi s days)))) [])] 0 [] []) []=some (slT (List.length (Qcb s load days (Qak Span.lo Span.hi s days))) (Qab Qco (Qcb s load days (Qak Span.lo Span.hi s days))),
 [QaB []/\Qau Tryz.prog J0 84 #[.agg #[slT s.stock.length (Qab Qag s.stock),slT s.use.length (Qab Qa3 s.use),.int .i64 s.glo,.int .i64 s.ghi,slT s.lots.length (Qab Qao s.lots),.int .i64 s.hold,.int .i64 load,.int .i64 days],.agg (QgE s days)] (slT (List.length (Qcb s load days (Qak Span.lo Span.hi s days))) (Qab Qco (Qcb s load days (Qak Span.lo Span.hi s days)))),QaB []/\Qau Tryz.prog J0 150 #[.agg #[slT s.stock.length (Qab Qag s.stock),slT s.use.length (Qab Qa3 s.use),.int .i64 s.glo,.int .i64 s.ghi,slT s.lots.length (Qab Qao s.lots),.int .i64 s.hold,.int .i64 load,.int .i64 days],Value.func (Fn.func 104) #[] #[],Value.func (Fn.func 103) #[] #[]] (.agg (QgE s days))]):=by kernel_rfl
set_option maxHeartbeats 4000000 in
theorem QrJ (s:Qaa) (load days:Int) (hs:QaD s=true) (hd:0<=days/\days<=300) (h0:0<=load) (h1:load < 64) (hx:Qcv load<=s.lots.length) {B:Lo} (hJ:∀w,B.has w->J0 w):EndsT Tryz.prog B (Qal Tryz.prog 128 7 (([.agg (QaH s load days).toArray]).map (Qav 0 4))) (slG (Qcb s load days (Qak Span.lo Span.hi s days))):=by
 have ht1:=Qbs QbO QbN hs hd
 have ht2:=Qbs QbN QbO hs hd
 exact (GoE.endsT okF hJ Qac GoE.start (QqN B s load days)
  ⟨⟨trivial,Q2v (s) (load) (days) (Qak Span.lo Span.hi s days) (by with_reducible assumption) (by with_reducible assumption) (by with_reducible assumption) (by with_reducible assumption) (by with_reducible assumption) (by with_reducible assumption)⟩,⟨⟨trivial,Q3v (s) (load) (days) (by with_reducible assumption) (by with_reducible assumption)⟩,trivial⟩⟩).cast (by rfl)
theorem QvS (s:Qaa) (load days:Int) (hs:QaD s=true) (hd:0<=days/\days<=300) (h0:0<=load) (h1:load < 64) (hx:Qcv load<=s.lots.length):Qau Tryz.prog J0 128 #[.agg (QaH s load days).toArray] (slG (Qcb s load days (Qak Span.lo Span.hi s days))):=
 QaF (ts:=[.agg (QaH s load days).toArray]) Qbw (c0:=Qal Tryz.prog 128 7 (([.agg (QaH s load days).toArray]).map (Qav 0 4))) (by kernel_rfl) (by kernel_rfl) fun B hJ=> QrJ s load days hs hd h0 h1 hx hJ
def QhJ (s:Qaa) (days:Int):Array Value:=#[slT (List.length (Qar.uses (Qak Span.hi Span.lo s days))) (Qab Qag (Qar.uses (Qak Span.hi Span.lo s days))),slT (List.length (Qar.gaps (Qak Span.hi Span.lo s days))) (Qab Qag (Qar.gaps (Qak Span.hi Span.lo s days))),slT (List.length (Qar.goods (Qak Span.hi Span.lo s days))) (Qab Qax (Qar.goods (Qak Span.hi Span.lo s days)))]
theorem Qsh (B:Lo) (s:Qaa) (load days:Int):Qbe (Qan Tryz.prog (Qa6 Tryz.prog) J0 B 6 1 (Qal Tryz.prog 129 7 (([.agg (QaH s load days).toArray]).map (Qav 0 4))) H00 1
 [(4,Qah.pure (.agg (QhJ s days)) []),(5,Qah.pure (slT (List.length (Qcb s load days (Qak Span.hi Span.lo s days))) (Qab Qco (Qcb s load days (Qak Span.hi Span.lo s days)))) [])] 0 [] []) []=some (slT (List.length (Qcb s load days (Qak Span.hi Span.lo s days))) (Qab Qco (Qcb s load days (Qak Span.hi Span.lo s days))),
 [QaB []/\Qau Tryz.prog J0 84 #[.agg #[slT s.stock.length (Qab Qag s.stock),slT s.use.length (Qab Qa3 s.use),.int .i64 s.glo,.int .i64 s.ghi,slT s.lots.length (Qab Qao s.lots),.int .i64 s.hold,.int .i64 load,.int .i64 days],.agg (QhJ s days)] (slT (List.length (Qcb s load days (Qak Span.hi Span.lo s days))) (Qab Qco (Qcb s load days (Qak Span.hi Span.lo s days)))),QaB []/\Qau Tryz.prog J0 150 #[.agg #[slT s.stock.length (Qab Qag s.stock),slT s.use.length (Qab Qa3 s.use),.int .i64 s.glo,.int .i64 s.ghi,slT s.lots.length (Qab Qao s.lots),.int .i64 s.hold,.int .i64 load,.int .i64 days],Value.func (Fn.func 103) #[] #[],Value.func (Fn.func 104) #[] #[]] (.agg (QhJ s days))]):=by kernel_rfl
set_option maxHeartbeats 4000000 in
theorem QtV (s:Qaa) (load days:Int) (hs:QaD s=true) (hd:0<=days/\days<=300) (h0:0<=load) (h1:load < 64) (hx:Qcv load<=s.lots.length) {B:Lo} (hJ:∀w,B.has w->J0 w):EndsT Tryz.prog B (Qal Tryz.prog 129 7 (([.agg (QaH s load days).toArray]).map (Qav 0 4))) (slG (Qcb s load days (Qak Span.hi Span.lo s days))):=by
 have ht1:=Qbs QbO QbN hs hd
 have ht2:=Qbs QbN QbO hs hd
 exact (GoE.endsT okF hJ Qac GoE.start (Qsh B s load days)
  ⟨⟨trivial,Q2v (s) (load) (days) (Qak Span.hi Span.lo s days) (by with_reducible assumption) (by with_reducible assumption) (by with_reducible assumption) (by with_reducible assumption) (by with_reducible assumption) (by with_reducible assumption)⟩,⟨⟨trivial,Q2Q (s) (load) (days) (by with_reducible assumption) (by with_reducible assumption)⟩,trivial⟩⟩).cast (by rfl)
theorem QzB (s:Qaa) (load days:Int) (hs:QaD s=true) (hd:0<=days/\days<=300) (h0:0<=load) (h1:load < 64) (hx:Qcv load<=s.lots.length):Qau Tryz.prog J0 129 #[.agg (QaH s load days).toArray] (slG (Qcb s load days (Qak Span.hi Span.lo s days))):=
 QaF (ts:=[.agg (QaH s load days).toArray]) Qbw (c0:=Qal Tryz.prog 129 7 (([.agg (QaH s load days).toArray]).map (Qav 0 4))) (by kernel_rfl) (by kernel_rfl) fun B hJ=> QtV s load days hs hd h0 h1 hx hJ
def Qhm (s:Qaa) (load days:Int) (i:Int) (ys:List Wnt):List Value:=[Qay 1 (slT (List.length (List.map Qa9 (Qcb s load days (Qak Span.lo Span.hi s days)))) (Qab Qag (List.map Qa9 (Qcb s load days (Qak Span.lo Span.hi s days))))),Qay 1 (slT (List.length (List.map Qa9 (Qcb s load days (Qak Span.hi Span.lo s days)))) (Qab Qag (List.map Qa9 (Qcb s load days (Qak Span.hi Span.lo s days))))),.slice (some {block:=2,off:=0}) s.stock.length 2,.int .i64 (↑s.stock.length:Int),.int .i64 i]
def Qet (s:Qaa) (load days:Int) (i:Int) (ys:List Wnt):List Obj:=[.cells (Qab Qbd ys) 81 (0,0)]
def Qgx:List Item:=([.code [1,1,1,0,1,0,0],.inLoop [1,1,1,0,1,0,0],.inBlock 0,.code [1,1,1,1]]).map (it (Qaq Tryz.prog 89))
def QwA (B:Lo) (c0:CF) (s:Qaa) (load days:Int) (i:Int) (ys:List Wnt):Prop:=∃dJ:Nat->Value,(∀t,QaP (dJ t))/\GoE Tryz.prog B c0 H00 1 (Qa2 89 37 (([3,4,5,19,20]:List Nat).zip (Qhm s load days i ys)) dJ Qgx) (Qaz (Qet s load days i ys)) (2+(Qet s load days i ys).length) []
theorem Qzl (B:Lo) (s:Qaa) (load days:Int) (i:Int) (ys:List Wnt) (dJ0:Nat->Value):landM (Qan Tryz.prog (Qa6 Tryz.prog) J0 B 13 1 (Qa2 89 37 (([3,4,5,19,20]:List Nat).zip (Qhm s load days i ys)) dJ0 Qgx) (Qaz (Qet s load days i ys)) (2+(Qet s load days i ys).length)
 [(0,hvT),(7,Qah.tidx i.toNat #[.int .i64 (List.getD (List.map Qa9 (Qcb s load days (Qak Span.lo Span.hi s days))) i.toNat default)]),(11,Qah.tidx i.toNat #[.int .i64 (List.getD (List.map Qa9 (Qcb s load days (Qak Span.hi Span.lo s days))) i.toNat default)]),(14,Qah.old (Hint.idx i.toNat)),(15,Qah.old (Hint.st (Qab Qbd (List.set ys i.toNat {may:=List.getD (List.map Qa9 (Qcb s load days (Qak Span.lo Span.hi s days))) i.toNat default,must:=List.getD (List.map Qa9 (Qcb s load days (Qak Span.hi Span.lo s days))) i.toNat default})))),(16,hvI (i+1))] 0 [] []) [3,4,5,19,20] [(2,KS.cells [] (Qab Qbd (List.set ys i.toNat {may:=List.getD (List.map Qa9 (Qcb s load days (Qak Span.lo Span.hi s days))) i.toNat default,must:=List.getD (List.map Qa9 (Qcb s load days (Qak Span.hi Span.lo s days))) i.toNat default})))] []=some ⟨89,37,Qgx,[],.run,none,Qhm s load days (i+1) (List.set ys i.toNat {may:=List.getD (List.map Qa9 (Qcb s load days (Qak Span.lo Span.hi s days))) i.toNat default,must:=List.getD (List.map Qa9 (Qcb s load days (Qak Span.hi Span.lo s days))) i.toNat default}),Qet s load days (i+1) (List.set ys i.toNat {may:=List.getD (List.map Qa9 (Qcb s load days (Qak Span.lo Span.hi s days))) i.toNat default,must:=List.getD (List.map Qa9 (Qcb s load days (Qak Span.hi Span.lo s days))) i.toNat default}),
 [Qa8 1 [] (Qab Qbd (List.set ys i.toNat {may:=List.getD (List.map Qa9 (Qcb s load days (Qak Span.lo Span.hi s days))) i.toNat default,must:=List.getD (List.map Qa9 (Qcb s load days (Qak Span.hi Span.lo s days))) i.toNat default})) (Qab Qbd (List.set ys i.toNat {may:=List.getD (List.map Qa9 (Qcb s load days (Qak Span.lo Span.hi s days))) i.toNat default,must:=List.getD (List.map Qa9 (Qcb s load days (Qak Span.hi Span.lo s days))) i.toNat default})),wq (i+1)=i+1,0+Int.toNat i * 2+TypeInfo.size Tryz.t81<=Array.size (Qab Qbd ys)/\splice (Qab Qbd ys) (0+Int.toNat i * 2) (Value.cells (Qca {len:=16000,tr:=Tri.set 14 (Tri.set 14 Tri.lf 33 (.agg #[.int .i64 (List.getD (List.map Qa9 (Qcb s load days (Qak Span.lo Span.hi s days))) i.toNat default),.int .i64 (List.getD (List.map Qa9 (Qcb s load days (Qak Span.hi Span.lo s days))) i.toNat default)])) 34 (.pointer (some {block:=2,off:=0+Int.toNat i * 2}))} 33))=Qab Qbd (List.set ys i.toNat {may:=List.getD (List.map Qa9 (Qcb s load days (Qak Span.lo Span.hi s days))) i.toNat default,must:=List.getD (List.map Qa9 (Qcb s load days (Qak Span.hi Span.lo s days))) i.toNat default}),i=(↑i.toNat:Int)/\Int.toNat i < List.length s.stock,i=(↑i.toNat:Int)/\Int.toNat i < List.length (List.map Qa9 (Qcb s load days (Qak Span.hi Span.lo s days)))/\Array.extract (Qab Qag (List.map Qa9 (Qcb s load days (Qak Span.hi Span.lo s days)))) (Int.toNat i * TypeInfo.size Tryz.t3) (Int.toNat i * TypeInfo.size Tryz.t3+TypeInfo.size Tryz.t3)=#[.int .i64 (List.getD (List.map Qa9 (Qcb s load days (Qak Span.hi Span.lo s days))) i.toNat default)],i=(↑i.toNat:Int)/\Int.toNat i < List.length (List.map Qa9 (Qcb s load days (Qak Span.lo Span.hi s days)))/\Array.extract (Qab Qag (List.map Qa9 (Qcb s load days (Qak Span.lo Span.hi s days)))) (Int.toNat i * TypeInfo.size Tryz.t3) (Int.toNat i * TypeInfo.size Tryz.t3+TypeInfo.size Tryz.t3)=#[.int .i64 (List.getD (List.map Qa9 (Qcb s load days (Qak Span.lo Span.hi s days))) i.toNat default)],ltq i (↑s.stock.length:Int)=true]⟩:=by kernel_rfl
theorem Qx3 (B:Lo) (s:Qaa) (load days:Int) (i:Int) (ys:List Wnt) (dJ0:Nat->Value):Qbe (Qan Tryz.prog (Qa6 Tryz.prog) J0 B 9 1 (Qa2 89 37 (([3,4,5,19,20]:List Nat).zip (Qhm s load days i ys)) dJ0 Qgx) (Qaz (Qet s load days i ys)) (2+(Qet s load days i ys).length)
 [(0,hvF)] 0 [] []) [{k:=2,rs:=[],cs:=Qab Qbd ys}]=some (slT s.stock.length (Fz.cs {k:=2,rs:=[],cs:=Qab Qbd ys}),
 [QaY (Fz.rs {k:=2,rs:=[],cs:=Qab Qbd ys}) (Qab Qbd ys) (Fz.cs {k:=2,rs:=[],cs:=Qab Qbd ys}),ltq i (↑s.stock.length:Int)=false]):=by kernel_rfl
theorem QyT (B:Lo) (s:Qaa) (load days:Int):landM (Qan Tryz.prog (Qa6 Tryz.prog) J0 B 11 1 (Qal Tryz.prog 89 37 (([.agg (QaH s load days).toArray]).map (Qav 0 4))) H00 1
 [(3,Qah.pure (slT (List.length (Qcb s load days (Qak Span.lo Span.hi s days))) (Qab Qco (Qcb s load days (Qak Span.lo Span.hi s days)))) []),(4,Qah.pure (slT (List.length (List.map Qa9 (Qcb s load days (Qak Span.lo Span.hi s days)))) (Qab Qag (List.map Qa9 (Qcb s load days (Qak Span.lo Span.hi s days))))) []),(6,Qah.pure (slT (List.length (Qcb s load days (Qak Span.hi Span.lo s days))) (Qab Qco (Qcb s load days (Qak Span.hi Span.lo s days)))) []),(7,Qah.pure (slT (List.length (List.map Qa9 (Qcb s load days (Qak Span.hi Span.lo s days)))) (Qab Qag (List.map Qa9 (Qcb s load days (Qak Span.hi Span.lo s days))))) []),(14,Qah.old (Hint.mk s.stock.length (Qab (QbA [.int .i64 0,.int .i64 0]) (List.replicate s.stock.length ()))))] 0 [] []) [3,4,5,19,20] [(6,KS.rows [] [] (Qab Qbd (List.replicate s.stock.length {may:=0,must:=0})))] []=some ⟨89,37,Qgx,[],.run,none,Qhm s load days (0) (List.replicate s.stock.length {may:=0,must:=0}),Qet s load days (0) (List.replicate s.stock.length {may:=0,must:=0}),
 [QaQ 1 [] [] (Qab (QbA [.int .i64 0,.int .i64 0]) (List.replicate s.stock.length ())) (Qab Qbd (List.replicate s.stock.length {may:=0,must:=0})),QfR Tryz.prog 75 (Qca {len:=16000,tr:=Tri.set 14 Tri.lf 16 (.int .i64 (↑s.stock.length:Int))} 16) (Qca {len:=16000,tr:=Tri.set 14 Tri.lf 16 (.int .i64 (↑s.stock.length:Int))} 16)=some (81,Qab (QbA [.int .i64 0,.int .i64 0]) (List.replicate s.stock.length ()),List.length s.stock,TypeInfo.size Tryz.t81),QaB []/\Qau Tryz.prog J0 85 #[slT (List.length (Qcb s load days (Qak Span.hi Span.lo s days))) (Qab Qco (Qcb s load days (Qak Span.hi Span.lo s days)))] (slT (List.length (List.map Qa9 (Qcb s load days (Qak Span.hi Span.lo s days)))) (Qab Qag (List.map Qa9 (Qcb s load days (Qak Span.hi Span.lo s days))))),QaB []/\Qau Tryz.prog J0 129 #[.agg #[slT s.stock.length (Qab Qag s.stock),slT s.use.length (Qab Qa3 s.use),.int .i64 s.glo,.int .i64 s.ghi,slT s.lots.length (Qab Qao s.lots),.int .i64 s.hold,.int .i64 load,.int .i64 days]] (slT (List.length (Qcb s load days (Qak Span.hi Span.lo s days))) (Qab Qco (Qcb s load days (Qak Span.hi Span.lo s days)))),QaB []/\Qau Tryz.prog J0 85 #[slT (List.length (Qcb s load days (Qak Span.lo Span.hi s days))) (Qab Qco (Qcb s load days (Qak Span.lo Span.hi s days)))] (slT (List.length (List.map Qa9 (Qcb s load days (Qak Span.lo Span.hi s days)))) (Qab Qag (List.map Qa9 (Qcb s load days (Qak Span.lo Span.hi s days))))),QaB []/\Qau Tryz.prog J0 128 #[.agg #[slT s.stock.length (Qab Qag s.stock),slT s.use.length (Qab Qa3 s.use),.int .i64 s.glo,.int .i64 s.ghi,slT s.lots.length (Qab Qao s.lots),.int .i64 s.hold,.int .i64 load,.int .i64 days]] (slT (List.length (Qcb s load days (Qak Span.lo Span.hi s days))) (Qab Qco (Qcb s load days (Qak Span.lo Span.hi s days))))]⟩:=by kernel_rfl
set_option maxHeartbeats 4000000 in
theorem Qyg (s:Qaa) (load days:Int) (hs:QaD s=true) (hd:0<=days/\days<=300) (h0:0<=load) (h1:load < 64) (hx:Qcv load<=s.lots.length) {B:Lo} (hJ:∀w,B.has w->J0 w) {c0:CF}:∀m:Nat,(∀(i:Int) (ys:List Wnt),s.stock.length - i.toNat=m->∀(i0:0<=i) (hy:ys=Qrh s load days i),QwA B c0 s load days i ys->EndsT Tryz.prog B c0 (QkK (Qce s load days))):=by
 intro m0
 induction m0 using Nat.strongRecOn with
 | _ m0 ih0=>
   intro i ys hm0 i0 hy ⟨dJ0,hdJ0,hg0⟩
   have ht1:=Qbs QbO QbN hs hd
   have ht2:=Qbs QbN QbO hs hd
   have hst:=Qaj hs
   have g1:=Q01 (load:=load) hs ht1 hd h0 h1 hx
   have g2:=Q01 (load:=load) hs ht2 hd h0 h1 hx
   have e1:=QhV (s:=s) (load:=load) (days:=days) (t:=Qak Span.lo Span.hi s days)
   have e2:=QhV (s:=s) (load:=load) (days:=days) (t:=Qak Span.hi Span.lo s days)
   have e3:((Qcb s load days (Qak Span.lo Span.hi s days)).map Qa9).length=s.stock.length:=by rw [List.length_map,e1]
   have e4:((Qcb s load days (Qak Span.hi Span.lo s days)).map Qa9).length=s.stock.length:=by rw [List.length_map,e2]
   have hyl:ys.length=s.stock.length:=by rw [hy];exact Qyz
   have e1:=QhV (s:=s) (load:=load) (days:=days) (t:=Qak Span.lo Span.hi s days)
   have e2:=QhV (s:=s) (load:=load) (days:=days) (t:=Qak Span.hi Span.lo s days)
   have e3:((Qcb s load days (Qak Span.lo Span.hi s days)).map Qa9).length=s.stock.length:=by rw [List.length_map,e1]
   have e4:((Qcb s load days (Qak Span.hi Span.lo s days)).map Qa9).length=s.stock.length:=by rw [List.length_map,e2]
   by_cases q0:(i:Int) < ((↑s.stock.length:Int))
   ·
    exact ((ih0 _ (by omega)) (i+1) (List.set ys i.toNat {may:=List.getD (List.map Qa9 (Qcb s load days (Qak Span.lo Span.hi s days))) i.toNat default,must:=List.getD (List.map Qa9 (Qcb s load days (Qak Span.hi Span.lo s days))) i.toNat default}) rfl (by omega) (by (subst hy;exact Qzi i0 q0))
     (hg0.landM okF hJ Qac (Qzl B s load days i ys dJ0)
     (by exact ⟨(Qaf (Qai (fun x=> List.all_eq_true.1 (by rfl)))),⟨(QaM (by omega) (by omega)),⟨(by exact QfO (z:=2) (fun _=> rfl) (by omega) rfl rfl),⟨⟨by omega,by omega⟩,⟨⟨by omega,by omega,(Qae (z:=1) (fun _=> rfl) (by omega))⟩,⟨⟨by omega,by omega,(Qae (z:=1) (fun _=> rfl) (by omega))⟩,⟨(QaW q0),trivial⟩⟩⟩⟩⟩⟩⟩) (by kernel_rfl) (by kernel_rfl))).cast (by rfl)
   ·
    exact (GoE.endsT okF hJ Qac hg0 (Qx3 B s load days i ys dJ0)
     ⟨(QaE (fun x=> List.all_eq_true.1 (by rfl))),⟨(Qbb (Int.not_lt.1 q0)),trivial⟩⟩).cast (by exact Qfp (hy.trans (QvP (by omega))) (by simp [Qce,Qc7]))
set_option maxHeartbeats 4000000 in
theorem Q1y (s:Qaa) (load days:Int) (hs:QaD s=true) (hd:0<=days/\days<=300) (h0:0<=load) (h1:load < 64) (hx:Qcv load<=s.lots.length) {B:Lo} (hJ:∀w,B.has w->J0 w):EndsT Tryz.prog B (Qal Tryz.prog 89 37 (([.agg (QaH s load days).toArray]).map (Qav 0 4))) (QkK (Qce s load days)):=by
 have ht1:=Qbs QbO QbN hs hd
 have ht2:=Qbs QbN QbO hs hd
 have hst:=Qaj hs
 have g1:=Q01 (load:=load) hs ht1 hd h0 h1 hx
 have g2:=Q01 (load:=load) hs ht2 hd h0 h1 hx
 have e1:=QhV (s:=s) (load:=load) (days:=days) (t:=Qak Span.lo Span.hi s days)
 have e2:=QhV (s:=s) (load:=load) (days:=days) (t:=Qak Span.hi Span.lo s days)
 have e3:((Qcb s load days (Qak Span.lo Span.hi s days)).map Qa9).length=s.stock.length:=by rw [List.length_map,e1]
 have e4:((Qcb s load days (Qak Span.hi Span.lo s days)).map Qa9).length=s.stock.length:=by rw [List.length_map,e2]
 exact ((Qyg s load days hs hd h0 h1 hx hJ _) (0) (List.replicate s.stock.length {may:=0,must:=0}) rfl (by omega) (by exact Q3J)
  (GoE.start.landM okF hJ Qac (QyT B s load days)
  (by exact ⟨(by exact (QbK (by exact ⟨(.simple rfl),⟨(.simple rfl),trivial⟩⟩) _)),⟨(Qgo (bytes:=16) (by kernel_rfl) (by omega) (by omega) (by omega)),⟨⟨trivial,QnF (Qcb s load days (Qak Span.hi Span.lo s days)) (by omega) (by with_reducible assumption)⟩,⟨⟨trivial,QzB (s) (load) (days) (by with_reducible assumption) (by with_reducible assumption) (by with_reducible assumption) (by with_reducible assumption) (by with_reducible assumption)⟩,⟨⟨trivial,QnF (Qcb s load days (Qak Span.lo Span.hi s days)) (by omega) (by with_reducible assumption)⟩,⟨⟨trivial,QvS (s) (load) (days) (by with_reducible assumption) (by with_reducible assumption) (by with_reducible assumption) (by with_reducible assumption) (by with_reducible assumption)⟩,trivial⟩⟩⟩⟩⟩⟩) (by kernel_rfl) (by kernel_rfl))).cast (by rfl)
theorem Q4H (s:Qaa) (load days:Int) (hs:QaD s=true) (hd:0<=days/\days<=300) (h0:0<=load) (h1:load < 64) (hx:Qcv load<=s.lots.length):Qau Tryz.prog J0 89 #[.agg (QaH s load days).toArray] (QkK (Qce s load days)):=
 QaF (ts:=[.agg (QaH s load days).toArray]) Qbw (c0:=Qal Tryz.prog 89 37 (([.agg (QaH s load days).toArray]).map (Qav 0 4))) (by kernel_rfl) (by kernel_rfl) fun B hJ=> Q1y s load days hs hd h0 h1 hx hJ
def QoQ (s:Qaa) (load:List Int) (days:Int):Array Value:=#[slT s.stock.length (Qab Qag s.stock),slT s.use.length (Qab Qa3 s.use),.int .i64 s.glo,.int .i64 s.ghi,slT s.lots.length (Qab Qao s.lots),.int .i64 s.hold,.int .i64 (Qbp load 0),.int .i64 days]
def QhX (s:Qaa):Array Value:=#[slT s.stock.length (Qab Qag s.stock),slT s.use.length (Qab Qa3 s.use),.int .i64 s.glo,.int .i64 s.ghi,slT s.lots.length (Qab Qao s.lots),.int .i64 s.hold]
def QoP (B:Lo) (s:Qaa) (load:List Int) (days:Int):List Prop:=[QaB []/\Qau Tryz.prog J0 79 #[.agg (QhX s)] (.bool true)]++([]:List Prop)
def QsM (s:Qaa) (load:List Int) (days:Int):Qa7:=[(4,Qah.pure (.bool true) [])]
def QoW (B:Lo) (s:Qaa) (load:List Int) (days:Int):List Prop:=[QaB []/\Qau Tryz.prog J0 80 #[.agg (QhX s),slT load.length (Qab Qag load)] (.bool true)]++QoP B s load days
def Qta (s:Qaa) (load:List Int) (days:Int):Qa7:=QsM s load days++[(9,Qah.pure (.bool true) [])]
theorem QzW (B:Lo) (s:Qaa) (load:List Int) (days:Int):Qbe (Qan Tryz.prog (Qa6 Tryz.prog) J0 B 11 1 (Qal Tryz.prog 43 27 (([.agg (Qap s).toArray,slI load,.int .i64 days]).map (Qav 0 4))) H00 1
 (Qta s load days++[(14,Qah.pure (.bool true) []),(20,Qah.pure (.agg (QoQ s load days)) []),(21,Qah.pure (slT (List.length (Qce s (Qbp load 0) days)) (Qab Qbd (Qce s (Qbp load 0) days))) [])]) 0 [] []) []=some (.tuple #[slT (List.length (Qce s (Qbp load 0) days)) (Qab Qbd (Qce s (Qbp load 0) days)),.int .i64 0],
 [QaB []/\Qau Tryz.prog J0 89 #[.agg (QoQ s load days)] (slT (List.length (Qce s (Qbp load 0) days)) (Qab Qbd (Qce s (Qbp load 0) days))),QaB []/\Qau Tryz.prog J0 83 #[.agg (QhX s),slT load.length (Qab Qag load),.int .i64 days] (.agg (QoQ s load days)),QaB []/\Qau Tryz.prog J0 81 #[.int .i64 days] (.bool true)]++QoW B s load days):=by kernel_rfl
theorem Q1d (B:Lo) (s:Qaa) (load:List Int) (days:Int):Qbe (Qan Tryz.prog (Qa6 Tryz.prog) J0 B 10 1 (Qal Tryz.prog 43 27 (([.agg (Qap s).toArray,slI load,.int .i64 days]).map (Qav 0 4))) H00 1
 (Qta s load days++[(14,Qah.pure (.bool false) [])]) 0 [] []) []=some (.tuple #[slT 0 #[],.int .i64 2],
 [QaB []/\Qau Tryz.prog J0 81 #[.int .i64 days] (.bool false)]++QoW B s load days):=by kernel_rfl
theorem Q1K (B:Lo) (s:Qaa) (load:List Int) (days:Int):Qbe (Qan Tryz.prog (Qa6 Tryz.prog) J0 B 10 1 (Qal Tryz.prog 43 27 (([.agg (Qap s).toArray,slI load,.int .i64 days]).map (Qav 0 4))) H00 1
 (QsM s load days++[(9,Qah.pure (.bool false) [])]) 0 [] []) []=some (.tuple #[slT 0 #[],.int .i64 2],
 [QaB []/\Qau Tryz.prog J0 80 #[.agg (QhX s),slT load.length (Qab Qag load)] (.bool false)]++QoP B s load days):=by kernel_rfl
theorem Qzy (B:Lo) (s:Qaa) (load:List Int) (days:Int):Qbe (Qan Tryz.prog (Qa6 Tryz.prog) J0 B 10 1 (Qal Tryz.prog 43 27 (([.agg (Qap s).toArray,slI load,.int .i64 days]).map (Qav 0 4))) H00 1
 [(4,Qah.pure (.bool false) [])] 0 [] []) []=some (.tuple #[slT 0 #[],.int .i64 2],
 [QaB []/\Qau Tryz.prog J0 79 #[.agg (QhX s)] (.bool false)]):=by kernel_rfl
set_option maxHeartbeats 4000000 in
theorem Q2F (s:Qaa) (load:List Int) (days:Int)  {B:Lo} (hJ:∀w,B.has w->J0 w):EndsT Tryz.prog B (Qal Tryz.prog 43 27 (([.agg (Qap s).toArray,slI load,.int .i64 days]).map (Qav 0 4))) (.tuple #[if QaD s && (Qdy s load && inB days 0 300) then QkK (Qce s (Qbp load 0) days) else QkK [],.int .i64 (if QaD s && (Qdy s load && inB days 0 300) then 0 else 2)]):=by
 cases q0:QaD s with
 | true=>
   have hp0:QaB (QoP B s load days):=by
    exact ⟨⟨trivial,(by have t_:=Qkz (s);rw [q0] at t_;exact t_)⟩,trivial⟩
   cases q1:Qdy s load with
   | true=>
     have hp1:QaB (QoW B s load days):=by
      have g1:=Qju ‹QaD s=true› ‹Qdy s load=true›
      have g5:=g1.1
      have g6:=g1.2.2.1
      have g7:=g1.2.2.2
      have g8:=g1.2.1
      exact ⟨⟨trivial,(by have t_:=QxK (s) (load) (by with_reducible assumption);rw [q1] at t_;exact t_)⟩,hp0⟩
     cases q2:inB days 0 300 with
     | true=>
       have g1:=Qju ‹QaD s=true› ‹Qdy s load=true›
       have g2:=Qbn.1 ‹inB days 0 300=true›
       have g5:=g1.1
       have g6:=g1.2.2.1
       have g7:=g1.2.2.2
       have g8:=g1.2.1
       exact (GoE.endsT okF hJ Qac GoE.start (QzW B s load days)
        ⟨⟨trivial,Q4H (s) (Qbp load 0) (days) (by with_reducible assumption) (by with_reducible assumption) (by with_reducible assumption) (by with_reducible assumption) (by with_reducible assumption)⟩,⟨⟨trivial,Qxv (s) (load) (days) (by with_reducible assumption)⟩,⟨⟨trivial,(by have t_:=QsS (days);rw [q2] at t_;exact t_)⟩,hp1⟩⟩⟩).cast (by rfl)
     | false=>
       have g1:=Qju ‹QaD s=true› ‹Qdy s load=true›
       have g5:=g1.1
       have g6:=g1.2.2.1
       have g7:=g1.2.2.2
       have g8:=g1.2.1
       exact (GoE.endsT okF hJ Qac GoE.start (Q1d B s load days)
        ⟨⟨trivial,(by have t_:=QsS (days);rw [q2] at t_;exact t_)⟩,hp1⟩).cast (by rfl)
   | false=>
     exact (GoE.endsT okF hJ Qac GoE.start (Q1K B s load days)
      ⟨⟨trivial,(by have t_:=QxK (s) (load) (by with_reducible assumption);rw [q1] at t_;exact t_)⟩,hp0⟩).cast (by rfl)
 | false=>
   exact (GoE.endsT okF hJ Qac GoE.start (Qzy B s load days)
    ⟨⟨trivial,(by have t_:=Qkz (s);rw [q0] at t_;exact t_)⟩,trivial⟩).cast (by rfl)
theorem Q1N (s:Qaa) (load:List Int) (days:Int)  :Qau Tryz.prog J0 43 #[.agg (Qap s).toArray,slI load,.int .i64 days] (.tuple #[if QaD s && (Qdy s load && inB days 0 300) then QkK (Qce s (Qbp load 0) days) else QkK [],.int .i64 (if QaD s && (Qdy s load && inB days 0 300) then 0 else 2)]):=
 QaF (ts:=[.agg (Qap s).toArray,slI load,.int .i64 days]) Qbw (c0:=Qal Tryz.prog 43 27 (([.agg (Qap s).toArray,slI load,.int .i64 days]).map (Qav 0 4))) (by kernel_rfl) (by kernel_rfl) fun B hJ=> Q2F s load days  hJ
end
end Go.Proofs.YtiabgkiccaodmaaGreat

namespace Go.Proofs.YtiabgkiccaodmaaGreat
open Go Go.CE Go.RowKit
noncomputable section
set_option maxRecDepth 100000
theorem QsZ (s:Qaa) (load:List Int) (days:Int) (t:Qar) (kind:Int) (hs:QaD s=true) (hl:Qdy s load=true) (hll:load.length<=10) (ht:Qdq s days t=true) (hd:0<=days/\days<=300) (hk:0<=kind/\kind < s.stock.length):Qau Tryz.prog J0 41 #[.agg (Qap s).toArray,slI load,.int .i64 days,.agg (QaA t).toArray,.int .i64 kind,.int .i64 1000] (.tuple #[.int .i64 (Qa9 (Qe9 s (Qbp load 0) days t kind)),.int .i64 (Qzf (Qe9 s (Qbp load 0) days t kind))]):=by
 have hn:=hl
 simp only [Qdy,Bool.and_eq_true] at hn
 have h:=Q5u s load days t kind 1000 hs hll (QmM hn.1) ht hd hk (by omega)
 rw [QwB hs hl ht hd] at h
 exact h
theorem Q2s {β:Type} {f:Int->β} {n:Nat} {k:Int} {ws:List β} (k0:0<=k) (k1:k < n) (h:Qhy f (upI 0 n) k ws):Qhy f (upI 0 n) (k+1) (ws++[f k]):=by
 have:=QcU k0 (by rw [Qc7];omega) h
 rw [QiC k0 k1] at this;exact this
theorem Q3t {β:Type} {f:Int->β} {n:Nat} {k:Int} (k0:k=0) (k1:k < n):Qhy f (upI 0 n) (k+1) [f k]:=by
 subst k0
 exact Q2s (ws:=[]) (Int.le_refl _) k1 Q4T
theorem Q0w {s:Qaa} {load days k:Int} {ws:List Wnt} {w:Nat} (wm:w=ws.length) (h:s.stock.length<=k) (hw:Qhy (Qzd s load days) (upI 0 s.stock.length) k ws):slT w (Qab Qbd ws)=QkK (Qce s load days):=by
 have e:=QcC (by rw [Qc7];omega) hw
 subst wm;rw [e];rfl
theorem Q2t {a b:Wnt}:a=b<->a.may=b.may/\a.must=b.must:=by
 cases a;cases b;simp
instance:DecidableEq Wnt:=fun a b=> decidable_of_iff _ Q2t.symm
theorem Qpq {xs ys:List Wnt} {i:Int} (h0:0<=i) (hx:i < xs.length) (hy:i < ys.length):decide (xs.drop i.toNat=ys.drop i.toNat)=((eqq (xs.getD i.toNat default).may (ys.getD i.toNat default).may && eqq (xs.getD i.toNat default).must (ys.getD i.toNat default).must) && decide (xs.drop (i+1).toNat=ys.drop (i+1).toNat)):=by
 rw [drop_cons h0 hx,drop_cons h0 hy]
 refine Bool.eq_iff_iff.2 ?_
 simp only [decide_eq_true_iff,Bool.and_eq_true,QkZ,beq_iff_eq,List.cons.injEq,Q2t]
def QcS (xs ys:List Wnt) (i:Int):List Value:=[Qay 1 (slT xs.length (Qab Qbd xs)),Qay 1 (slT ys.length (Qab Qbd ys)),.int .i64 i]
def Qbv (xs ys:List Wnt) (i:Int):List Obj:=[]
def QcT:List Item:=([.code [1,1,0,1,0,0],.inLoop [1,1,0,1,0,0],.inBlock 0,.code [1,1,1]]).map (it (Qaq Tryz.prog 45))
def QnX (B:Lo) (c0:CF) (xs ys:List Wnt) (i:Int):Prop:=∃dJ:Nat->Value,(∀t,QaP (dJ t))/\GoE Tryz.prog B c0 H00 1 (Qa2 45 26 (([0,1,5]:List Nat).zip (QcS xs ys i)) dJ QcT) (Qaz (Qbv xs ys i)) (2+(Qbv xs ys i).length) []
def QfP (B:Lo) (xs ys:List Wnt) (i:Int) (dJ0:Nat->Value):List Prop:=[i=(↑i.toNat:Int)/\Int.toNat i < List.length ys/\Array.extract (Qab Qbd ys) (Int.toNat i * TypeInfo.size Tryz.t81) (Int.toNat i * TypeInfo.size Tryz.t81+TypeInfo.size Tryz.t81)=#[.int .i64 (Wnt.may (ys.getD i.toNat default)),.int .i64 (Wnt.must (ys.getD i.toNat default))],i=(↑i.toNat:Int)/\Int.toNat i < List.length xs/\Array.extract (Qab Qbd xs) (Int.toNat i * TypeInfo.size Tryz.t81) (Int.toNat i * TypeInfo.size Tryz.t81+TypeInfo.size Tryz.t81)=#[.int .i64 (Wnt.may (xs.getD i.toNat default)),.int .i64 (Wnt.must (xs.getD i.toNat default))],ltq i (↑xs.length:Int)=true]++([]:List Prop)
def Qi2 (xs ys:List Wnt) (i:Int) (dJ0:Nat->Value):Qa7:=[(3,hvT),(6,Qah.tidx i.toNat #[.int .i64 (Wnt.may (xs.getD i.toNat default)),.int .i64 (Wnt.must (xs.getD i.toNat default))]),(10,Qah.tidx i.toNat #[.int .i64 (Wnt.may (ys.getD i.toNat default)),.int .i64 (Wnt.must (ys.getD i.toNat default))])]
theorem Qox (B:Lo) (xs ys:List Wnt) (i:Int) (dJ0:Nat->Value):landM (Qan Tryz.prog (Qa6 Tryz.prog) J0 B 14 1 (Qa2 45 26 (([0,1,5]:List Nat).zip (QcS xs ys i)) dJ0 QcT) (Qaz (Qbv xs ys i)) (2+(Qbv xs ys i).length)
 (Qi2 xs ys i dJ0++[(12,Qah.old (Hint.eq false)),(14,hvI (i+1))]) 0 [] []) [0,1,5] [] []=some ⟨45,26,QcT,[],.run,none,QcS xs ys (i+1),Qbv xs ys (i+1),
 [wq (i+1)=i+1,(!(eqq (Wnt.may (xs.getD i.toNat default)) (Wnt.may (ys.getD i.toNat default)) && (eqq (Wnt.must (xs.getD i.toNat default)) (Wnt.must (ys.getD i.toNat default)) && true)))=false]++QfP B xs ys i dJ0⟩:=by kernel_rfl
theorem Qo8 (B:Lo) (xs ys:List Wnt) (i:Int) (dJ0:Nat->Value):Qbe (Qan Tryz.prog (Qa6 Tryz.prog) J0 B 14 1 (Qa2 45 26 (([0,1,5]:List Nat).zip (QcS xs ys i)) dJ0 QcT) (Qaz (Qbv xs ys i)) (2+(Qbv xs ys i).length)
 (Qi2 xs ys i dJ0++[(12,Qah.old (Hint.eq true))]) 0 [] []) []=some (.bool false,
 [(!(eqq (Wnt.may (xs.getD i.toNat default)) (Wnt.may (ys.getD i.toNat default)) && (eqq (Wnt.must (xs.getD i.toNat default)) (Wnt.must (ys.getD i.toNat default)) && true)))=true]++QfP B xs ys i dJ0):=by kernel_rfl
theorem QoD (B:Lo) (xs ys:List Wnt) (i:Int) (dJ0:Nat->Value):Qbe (Qan Tryz.prog (Qa6 Tryz.prog) J0 B 9 1 (Qa2 45 26 (([0,1,5]:List Nat).zip (QcS xs ys i)) dJ0 QcT) (Qaz (Qbv xs ys i)) (2+(Qbv xs ys i).length)
 [(3,hvF)] 0 [] []) []=some (.bool true,
 [ltq i (↑xs.length:Int)=false]):=by kernel_rfl
theorem Qo7 (B:Lo) (xs ys:List Wnt):Qbe (Qan Tryz.prog (Qa6 Tryz.prog) J0 B 10 1 (Qal Tryz.prog 45 26 (([QkK xs,QkK ys]).map (Qav 0 4))) H00 1
 [(5,hvT)] 0 [] []) []=some (.bool false,
 [(!eqq (↑xs.length:Int) (↑ys.length:Int))=true]):=by kernel_rfl
theorem Qot (B:Lo) (xs ys:List Wnt):landM (Qan Tryz.prog (Qa6 Tryz.prog) J0 B 12 1 (Qal Tryz.prog 45 26 (([QkK xs,QkK ys]).map (Qav 0 4))) H00 1
 [(5,hvF)] 0 [] []) [0,1,5] [] []=some ⟨45,26,QcT,[],.run,none,QcS xs ys (0),Qbv xs ys (0),
 [(!eqq (↑xs.length:Int) (↑ys.length:Int))=false]⟩:=by kernel_rfl
set_option maxHeartbeats 4000000 in
theorem QoG (xs ys:List Wnt)  (hfacts:xs.length<=9223372036854775807/\ys.length<=9223372036854775807) {B:Lo} (hJ:∀w,B.has w->J0 w) {c0:CF}:∀m:Nat,(∀(i:Int),xs.length - i.toNat=m->∀(h0:0<=i) (hl:xs.length=ys.length),QnX B c0 xs ys i->EndsT Tryz.prog B c0 (.bool (decide (xs.drop i.toNat=ys.drop i.toNat)))):=by
 intro m0
 induction m0 using Nat.strongRecOn with
 | _ m0 ih0=>
   intro i hm0 h0 hl ⟨dJ0,hdJ0,hg0⟩
   by_cases q0:(i:Int) < ((↑xs.length:Int))
   ·
    have hp0:QaB (QfP B xs ys i dJ0):=by
     exact ⟨⟨by omega,by omega,(Qae (z:=2) (fun _=> rfl) (by omega))⟩,⟨⟨by omega,by omega,(Qae (z:=2) (fun _=> rfl) (by omega))⟩,⟨(QaW q0),trivial⟩⟩⟩
    cases q1:eqq (Wnt.may (xs.getD i.toNat default)) (Wnt.may (ys.getD i.toNat default)) && eqq (Wnt.must (xs.getD i.toNat default)) (Wnt.must (ys.getD i.toNat default)) with
    | true=>
      exact ((ih0 _ (by omega)) (i+1) rfl (by omega) (by with_reducible assumption)
       (hg0.landM okF hJ Qac (Qox B xs ys i dJ0)
       ⟨(QaM (by omega) (by omega)),⟨(by (rw [Bool.and_true,q1];rfl)),hp0⟩⟩ (by kernel_rfl) (by kernel_rfl))).cast (by (rw [Qpq h0 (by omega) (by omega),q1];rfl))
    | false=>
      exact (GoE.endsT okF hJ Qac hg0 (Qo8 B xs ys i dJ0)
       ⟨(by (rw [Bool.and_true,q1];rfl)),hp0⟩).cast (by (rw [Qpq h0 (by omega) (by omega),q1];rfl))
   ·
    exact (GoE.endsT okF hJ Qac hg0 (QoD B xs ys i dJ0)
     ⟨(Qbb (Int.not_lt.1 q0)),trivial⟩).cast (by (rw [Qht (i:=i) (xs:=xs) (by omega),Qht (i:=i) (xs:=ys) (by omega)];simp;done))
set_option maxHeartbeats 4000000 in
theorem Qpp (xs ys:List Wnt)  (hfacts:xs.length<=9223372036854775807/\ys.length<=9223372036854775807) {B:Lo} (hJ:∀w,B.has w->J0 w):EndsT Tryz.prog B (Qal Tryz.prog 45 26 (([QkK xs,QkK ys]).map (Qav 0 4))) (.bool (decide (xs=ys))):=by
 by_cases q0:((↑xs.length:Int):Int)≠((↑ys.length:Int))
 ·
  exact (GoE.endsT okF hJ Qac GoE.start (Qo7 B xs ys)
   ⟨(Q2y q0),trivial⟩).cast (by (simp;intro h;subst h;omega))
 ·
  exact ((QoG xs ys hfacts hJ _) (0) rfl (by omega) (by omega)
   (GoE.start.landM okF hJ Qac (Qot B xs ys)
   ⟨(Q2c (Decidable.of_not_not q0)),trivial⟩ (by kernel_rfl) (by kernel_rfl))).cast (by rfl)
theorem QnI (xs ys:List Wnt)  :Qau Tryz.prog J0 45 #[QkK xs,QkK ys] (.bool (decide (xs=ys))):=
 QcY (ts:=[QkK xs,QkK ys]) (xs.length<=9223372036854775807/\ys.length<=9223372036854775807) (fun _ _ ht=> ⟨ht.ln (i:=0) rfl,ht.ln (i:=1) rfl⟩) Qbw (c0:=Qal Tryz.prog 45 26 (([QkK xs,QkK ys]).map (Qav 0 4))) (by kernel_rfl) (by kernel_rfl) fun hfacts B hJ=> Qpp xs ys  hfacts hJ
def Qoz (s:Qaa) (load:List Int) (days:Int) (k:Int):List Value:=[Qay 1 (slT load.length (Qab Qag load)),.int .i64 days,pA 2 0,.slice none 0 0,.int .i64 k]
def QiZ (s:Qaa) (load:List Int) (days:Int) (k:Int):List Obj:=[Obj.cells #[Qay 1 (slT s.stock.length (Qab Qag s.stock)),Qay 1 (slT s.use.length (Qab Qa3 s.use)),.int .i64 s.glo,.int .i64 s.ghi,Qay 1 (slT s.lots.length (Qab Qao s.lots)),.int .i64 s.hold] 62]
def QnW:List Item:=([.code [1,1,0,1,0,0],.inLoop [1,1,0,1,0,0],.inBlock 0,.code [1,1,1]]).map (it (Qaq Tryz.prog 46))
def Q0k (B:Lo) (c0:CF) (s:Qaa) (load:List Int) (days:Int) (k:Int):Prop:=∃dJ:Nat->Value,(∀t,QaP (dJ t))/\GoE Tryz.prog B c0 H00 1 (Qa2 46 49 (([1,2,3,7,8]:List Nat).zip (Qoz s load days k)) dJ QnW) (Qaz (QiZ s load days k)) (2+(QiZ s load days k).length) []
def Qi8 (s:Qaa) (load:List Int) (days:Int) (k:Int) (ws:List Wnt) (w:Nat):List Value:=[Qay 1 (slT load.length (Qab Qag load)),.int .i64 days,pA 2 0,.slice (some ⟨3,0,none⟩) w 2,.int .i64 k]
def QeV (s:Qaa) (load:List Int) (days:Int) (k:Int) (ws:List Wnt) (w:Nat):List Obj:=[Obj.cells #[Qay 1 (slT s.stock.length (Qab Qag s.stock)),Qay 1 (slT s.use.length (Qab Qa3 s.use)),.int .i64 s.glo,.int .i64 s.ghi,Qay 1 (slT s.lots.length (Qab Qao s.lots)),.int .i64 s.hold] 62,.cells (Qab Qbd ws) 81 (0,0)]
def Qij:List Item:=([.code [1,1,0,1,0,0],.inLoop [1,1,0,1,0,0],.inBlock 0,.code [1,1,1]]).map (it (Qaq Tryz.prog 46))
def Qz2 (B:Lo) (c0:CF) (s:Qaa) (load:List Int) (days:Int) (k:Int) (ws:List Wnt) (w:Nat):Prop:=∃dJ:Nat->Value,(∀t,QaP (dJ t))/\GoE Tryz.prog B c0 H00 1 (Qa2 46 49 (([1,2,3,7,8]:List Nat).zip (Qi8 s load days k ws w)) dJ Qij) (Qaz (QeV s load days k ws w)) (2+(QeV s load days k ws w).length) []
def QkC (s:Qaa) (days:Int):Value:=(.agg #[slT (List.length (Qar.uses (Qak Span.lo Span.hi s days))) (Qab Qag (Qar.uses (Qak Span.lo Span.hi s days))),slT (List.length (Qar.gaps (Qak Span.lo Span.hi s days))) (Qab Qag (Qar.gaps (Qak Span.lo Span.hi s days))),slT (List.length (Qar.goods (Qak Span.lo Span.hi s days))) (Qab Qax (Qar.goods (Qak Span.lo Span.hi s days)))])
def Qk2 (s:Qaa) (days:Int):Value:=(.agg #[slT (List.length (Qar.uses (Qak Span.hi Span.lo s days))) (Qab Qag (Qar.uses (Qak Span.hi Span.lo s days))),slT (List.length (Qar.gaps (Qak Span.hi Span.lo s days))) (Qab Qag (Qar.gaps (Qak Span.hi Span.lo s days))),slT (List.length (Qar.goods (Qak Span.hi Span.lo s days))) (Qab Qax (Qar.goods (Qak Span.hi Span.lo s days)))])
def Qfk (s:Qaa):Array Value:=#[slT s.stock.length (Qab Qag s.stock),slT s.use.length (Qab Qa3 s.use),.int .i64 s.glo,.int .i64 s.ghi,slT s.lots.length (Qab Qao s.lots),.int .i64 s.hold]
def QkG (s:Qaa) (load:List Int) (days:Int) (k:Int):Value:=(.tuple #[.int .i64 (Qa9 (Qe9 s (Qbp load 0) days (Qak Span.lo Span.hi s days) k)),.int .i64 (Qzf (Qe9 s (Qbp load 0) days (Qak Span.lo Span.hi s days) k))])
def Qk1 (s:Qaa) (load:List Int) (days:Int) (k:Int):Value:=(.tuple #[.int .i64 (Qa9 (Qe9 s (Qbp load 0) days (Qak Span.hi Span.lo s days) k)),.int .i64 (Qzf (Qe9 s (Qbp load 0) days (Qak Span.hi Span.lo s days) k))])
theorem QzY (B:Lo) (s:Qaa) (load:List Int) (days:Int) (k:Int) (dJ0:Nat->Value):landM (Qan Tryz.prog (Qa6 Tryz.prog) J0 B 15 1 (Qa2 46 49 (([1,2,3,7,8]:List Nat).zip (Qoz s load days k)) dJ0 QnW) (Qaz (QiZ s load days k)) (2+(QiZ s load days k).length)
 [(4,hvT),(10,Qah.pure (QkC s days) []),(12,Qah.pure (QkG s load days k) []),(23,Qah.pure (Qk2 s days) []),(25,Qah.pure (Qk1 s load days k) []),(39,hvI (k+1))] 0 [] []) [1,2,3,7,8] [(2,KS.auto),(6,KS.cells [] (Qab Qbd [{may:=Qa9 (Qe9 s (Qbp load 0) days (Qak Span.lo Span.hi s days) k),must:=Qa9 (Qe9 s (Qbp load 0) days (Qak Span.hi Span.lo s days) k)}]))] []=some ⟨46,49,Qij,[],.run,none,Qi8 s load days (k+1) ([{may:=Qa9 (Qe9 s (Qbp load 0) days (Qak Span.lo Span.hi s days) k),must:=Qa9 (Qe9 s (Qbp load 0) days (Qak Span.hi Span.lo s days) k)}]) (1),QeV s load days (k+1) ([{may:=Qa9 (Qe9 s (Qbp load 0) days (Qak Span.lo Span.hi s days) k),must:=Qa9 (Qe9 s (Qbp load 0) days (Qak Span.hi Span.lo s days) k)}]) (1),
 [Qa8 1 [] (#[.int .i64 (Qa9 (Qe9 s (Qbp load 0) days (Qak Span.lo Span.hi s days) k)),.int .i64 (Qa9 (Qe9 s (Qbp load 0) days (Qak Span.hi Span.lo s days) k))]) (Qab Qbd [{may:=Qa9 (Qe9 s (Qbp load 0) days (Qak Span.lo Span.hi s days) k),must:=Qa9 (Qe9 s (Qbp load 0) days (Qak Span.hi Span.lo s days) k)}]),wq (k+1)=k+1,QaB []/\Qau Tryz.prog J0 41 #[.agg (Qfk s),slT load.length (Qab Qag load),.int .i64 days,.agg #[slT (List.length (Qar.uses (Qak Span.hi Span.lo s days))) (Qab Qag (Qar.uses (Qak Span.hi Span.lo s days))),slT (List.length (Qar.gaps (Qak Span.hi Span.lo s days))) (Qab Qag (Qar.gaps (Qak Span.hi Span.lo s days))),slT (List.length (Qar.goods (Qak Span.hi Span.lo s days))) (Qab Qax (Qar.goods (Qak Span.hi Span.lo s days)))],.int .i64 k,.int .i64 1000] (Qk1 s load days k),QaB []/\Qau Tryz.prog J0 47 #[.agg (Qfk s),.int .i64 days,.bool false] (Qk2 s days),QaB []/\Qau Tryz.prog J0 41 #[.agg (Qfk s),slT load.length (Qab Qag load),.int .i64 days,.agg #[slT (List.length (Qar.uses (Qak Span.lo Span.hi s days))) (Qab Qag (Qar.uses (Qak Span.lo Span.hi s days))),slT (List.length (Qar.gaps (Qak Span.lo Span.hi s days))) (Qab Qag (Qar.gaps (Qak Span.lo Span.hi s days))),slT (List.length (Qar.goods (Qak Span.lo Span.hi s days))) (Qab Qax (Qar.goods (Qak Span.lo Span.hi s days)))],.int .i64 k,.int .i64 1000] (QkG s load days k),QaB []/\Qau Tryz.prog J0 47 #[.agg (Qfk s),.int .i64 days,.bool true] (QkC s days),ltq k (↑s.stock.length:Int)=true]⟩:=by kernel_rfl
theorem Qzw (B:Lo) (s:Qaa) (load:List Int) (days:Int) (k:Int) (ws:List Wnt) (w:Nat) (dJ0:Nat->Value):landM (Qan Tryz.prog (Qa6 Tryz.prog) J0 B 15 1 (Qa2 46 49 (([1,2,3,7,8]:List Nat).zip (Qi8 s load days k ws w)) dJ0 Qij) (Qaz (QeV s load days k ws w)) (2+(QeV s load days k ws w).length)
 [(4,hvT),(10,Qah.pure (QkC s days) []),(12,Qah.pure (QkG s load days k) []),(23,Qah.pure (Qk2 s days) []),(25,Qah.pure (Qk1 s load days k) []),(36,Qah.old (Hint.app (Qab Qbd (ws++[{may:=Qa9 (Qe9 s (Qbp load 0) days (Qak Span.lo Span.hi s days) k),must:=Qa9 (Qe9 s (Qbp load 0) days (Qak Span.hi Span.lo s days) k)}])))),(39,hvI (k+1))] 0 [] []) [1,2,3,7,8] [(2,KS.auto),(7,KS.cells [] (Qab Qbd (ws++[{may:=Qa9 (Qe9 s (Qbp load 0) days (Qak Span.lo Span.hi s days) k),must:=Qa9 (Qe9 s (Qbp load 0) days (Qak Span.hi Span.lo s days) k)}])))] []=some ⟨46,49,Qij,[],.run,none,Qi8 s load days (k+1) (ws++[{may:=Qa9 (Qe9 s (Qbp load 0) days (Qak Span.lo Span.hi s days) k),must:=Qa9 (Qe9 s (Qbp load 0) days (Qak Span.hi Span.lo s days) k)}]) (w+1),QeV s load days (k+1) (ws++[{may:=Qa9 (Qe9 s (Qbp load 0) days (Qak Span.lo Span.hi s days) k),must:=Qa9 (Qe9 s (Qbp load 0) days (Qak Span.hi Span.lo s days) k)}]) (w+1),
 [Qa8 1 [] (Qab Qbd (ws++[{may:=Qa9 (Qe9 s (Qbp load 0) days (Qak Span.lo Span.hi s days) k),must:=Qa9 (Qe9 s (Qbp load 0) days (Qak Span.hi Span.lo s days) k)}])) (Qab Qbd (ws++[{may:=Qa9 (Qe9 s (Qbp load 0) days (Qak Span.lo Span.hi s days) k),must:=Qa9 (Qe9 s (Qbp load 0) days (Qak Span.hi Span.lo s days) k)}])),wq (k+1)=k+1,Array.size (Qab Qbd ws)=w * (1+1)/\w+1<=maxLen/\(w+1) * 16<=140737488355328/\Qab Qbd ws++#[.int .i64 (Qa9 (Qe9 s (Qbp load 0) days (Qak Span.lo Span.hi s days) k)),.int .i64 (Qa9 (Qe9 s (Qbp load 0) days (Qak Span.hi Span.lo s days) k))]=Qab Qbd (ws++[{may:=Qa9 (Qe9 s (Qbp load 0) days (Qak Span.lo Span.hi s days) k),must:=Qa9 (Qe9 s (Qbp load 0) days (Qak Span.hi Span.lo s days) k)}]),QaB []/\Qau Tryz.prog J0 41 #[.agg (Qfk s),slT load.length (Qab Qag load),.int .i64 days,.agg #[slT (List.length (Qar.uses (Qak Span.hi Span.lo s days))) (Qab Qag (Qar.uses (Qak Span.hi Span.lo s days))),slT (List.length (Qar.gaps (Qak Span.hi Span.lo s days))) (Qab Qag (Qar.gaps (Qak Span.hi Span.lo s days))),slT (List.length (Qar.goods (Qak Span.hi Span.lo s days))) (Qab Qax (Qar.goods (Qak Span.hi Span.lo s days)))],.int .i64 k,.int .i64 1000] (Qk1 s load days k),QaB []/\Qau Tryz.prog J0 47 #[.agg (Qfk s),.int .i64 days,.bool false] (Qk2 s days),QaB []/\Qau Tryz.prog J0 41 #[.agg (Qfk s),slT load.length (Qab Qag load),.int .i64 days,.agg #[slT (List.length (Qar.uses (Qak Span.lo Span.hi s days))) (Qab Qag (Qar.uses (Qak Span.lo Span.hi s days))),slT (List.length (Qar.gaps (Qak Span.lo Span.hi s days))) (Qab Qag (Qar.gaps (Qak Span.lo Span.hi s days))),slT (List.length (Qar.goods (Qak Span.lo Span.hi s days))) (Qab Qax (Qar.goods (Qak Span.lo Span.hi s days)))],.int .i64 k,.int .i64 1000] (QkG s load days k),QaB []/\Qau Tryz.prog J0 47 #[.agg (Qfk s),.int .i64 days,.bool true] (QkC s days),ltq k (↑s.stock.length:Int)=true]⟩:=by kernel_rfl
theorem QzL (B:Lo) (s:Qaa) (load:List Int) (days:Int) (k:Int) (ws:List Wnt) (w:Nat) (dJ0:Nat->Value):Qbe (Qan Tryz.prog (Qa6 Tryz.prog) J0 B 9 1 (Qa2 46 49 (([1,2,3,7,8]:List Nat).zip (Qi8 s load days k ws w)) dJ0 Qij) (Qaz (QeV s load days k ws w)) (2+(QeV s load days k ws w).length)
 [(4,hvF)] 0 [] []) [{k:=3,rs:=[],cs:=Qab Qbd ws}]=some (slT w (Fz.cs {k:=3,rs:=[],cs:=Qab Qbd ws}),
 [QaY (Fz.rs {k:=3,rs:=[],cs:=Qab Qbd ws}) (Qab Qbd ws) (Fz.cs {k:=3,rs:=[],cs:=Qab Qbd ws}),ltq k (↑s.stock.length:Int)=false]):=by kernel_rfl
theorem QzH (B:Lo) (s:Qaa) (load:List Int) (days:Int):landM (Qan Tryz.prog (Qa6 Tryz.prog) J0 B 9 1 (Qal Tryz.prog 46 49 (([.agg (Qap s).toArray,slI load,.int .i64 days]).map (Qav 0 4))) H00 1
 [] 0 [] []) [1,2,3,7,8] [(1,KS.auto)] []=some ⟨46,49,QnW,[],.run,none,Qoz s load days (0),QiZ s load days (0),
 []⟩:=by kernel_rfl
set_option maxHeartbeats 4000000 in
theorem Q19 (s:Qaa) (load:List Int) (days:Int) (hs:QaD s=true) (hl:Qdy s load=true) (hll:load.length<=10) (hd:0<=days/\days<=300) {B:Lo} (hJ:∀w,B.has w->J0 w) {c0:CF}:∀m:Nat,(∀(k:Int),1000+(s.stock.length - k.toNat)=m->∀(k0:k=0),Q0k B c0 s load days k->EndsT Tryz.prog B c0 (QkK (Qce s (Qbp load 0) days)))/\(∀(k:Int) (ws:List Wnt) (w:Nat),s.stock.length - k.toNat=m->∀(k0:0<=k) (wm:w=ws.length) (wx:(w:Int)<=k) (hw:Qhy (Qzd s (Qbp load 0) days) (upI 0 s.stock.length) k ws),Qz2 B c0 s load days k ws w->EndsT Tryz.prog B c0 (QkK (Qce s (Qbp load 0) days))):=by
 intro m0
 induction m0 using Nat.strongRecOn with
 | _ m0 ih0=>
   refine ⟨?_, ?_⟩
   ·intro k hm0 k0 ⟨dJ0,hdJ0,hg0⟩
    have hst:=Qaj hs
    have ht1:=Qbs QbO QbN hs hd
    have ht2:=Qbs QbN QbO hs hd
    have hst:=Qaj hs
    have ht1:=Qbs QbO QbN hs hd
    have ht2:=Qbs QbN QbO hs hd
    by_cases q0:(k:Int) < ((↑s.stock.length:Int))
    ·
     exact ((ih0 _ (by omega)).2 (k+1) ([{may:=Qa9 (Qe9 s (Qbp load 0) days (Qak Span.lo Span.hi s days) k),must:=Qa9 (Qe9 s (Qbp load 0) days (Qak Span.hi Span.lo s days) k)}]) (1) rfl (by omega) (by rfl) (by omega) (by exact Q3t k0 (by omega))
      (hg0.landM okF hJ Qac (QzY B s load days k dJ0)
      (by exact ⟨(QbF (by kernel_rfl)),⟨(QaM (by omega) (by omega)),⟨⟨trivial,QsZ (s) (load) (days) (Qak Span.hi Span.lo s days) (k) (by with_reducible assumption) (by with_reducible assumption) (by with_reducible assumption) (by with_reducible assumption) (by with_reducible assumption) (by omega)⟩,⟨⟨trivial,Q4b (s) (days) (by with_reducible assumption) (by with_reducible assumption)⟩,⟨⟨trivial,QsZ (s) (load) (days) (Qak Span.lo Span.hi s days) (k) (by with_reducible assumption) (by with_reducible assumption) (by with_reducible assumption) (by with_reducible assumption) (by with_reducible assumption) (by omega)⟩,⟨⟨trivial,Q4Y (s) (days) (by with_reducible assumption) (by with_reducible assumption)⟩,⟨(QaW q0),trivial⟩⟩⟩⟩⟩⟩⟩) (by kernel_rfl) (by kernel_rfl))).cast (by rfl)
    ·
     exfalso
     (have hst:=Qaj hs;omega)
   ·intro k ws w hm0 k0 wm wx hw ⟨dJ0,hdJ0,hg0⟩
    have hst:=Qaj hs
    have ht1:=Qbs QbO QbN hs hd
    have ht2:=Qbs QbN QbO hs hd
    have ht1:=Qbs QbO QbN hs hd
    have ht2:=Qbs QbN QbO hs hd
    by_cases q0:(k:Int) < ((↑s.stock.length:Int))
    ·
     exact ((ih0 _ (by omega)).2 (k+1) (ws++[{may:=Qa9 (Qe9 s (Qbp load 0) days (Qak Span.lo Span.hi s days) k),must:=Qa9 (Qe9 s (Qbp load 0) days (Qak Span.hi Span.lo s days) k)}]) (w+1) rfl (by omega) (by exact QbY wm) (by omega) (by exact Q2s k0 (by omega) hw)
      (hg0.landM okF hJ Qac (Qzw B s load days k ws w dJ0)
      (by exact ⟨(Qaf (Qai (fun x=> List.all_eq_true.1 (by rfl)))),⟨(QaM (by omega) (by omega)),⟨⟨(by (rw [QaU (z:=2) (fun _=> rfl)];first | omega | (simp;omega) | (simp_all;done))),(by unfold maxLen;omega),by omega,by first | exact QbM | exact QbG rfl⟩,⟨⟨trivial,QsZ (s) (load) (days) (Qak Span.hi Span.lo s days) (k) (by with_reducible assumption) (by with_reducible assumption) (by with_reducible assumption) (by with_reducible assumption) (by with_reducible assumption) (by omega)⟩,⟨⟨trivial,Q4b (s) (days) (by with_reducible assumption) (by with_reducible assumption)⟩,⟨⟨trivial,QsZ (s) (load) (days) (Qak Span.lo Span.hi s days) (k) (by with_reducible assumption) (by with_reducible assumption) (by with_reducible assumption) (by with_reducible assumption) (by with_reducible assumption) (by omega)⟩,⟨⟨trivial,Q4Y (s) (days) (by with_reducible assumption) (by with_reducible assumption)⟩,⟨(QaW q0),trivial⟩⟩⟩⟩⟩⟩⟩⟩) (by kernel_rfl) (by kernel_rfl))).cast (by rfl)
    ·
     exact (GoE.endsT okF hJ Qac hg0 (QzL B s load days k ws w dJ0)
      ⟨(QaE (fun x=> List.all_eq_true.1 (by rfl))),⟨(Qbb (Int.not_lt.1 q0)),trivial⟩⟩).cast (by exact Q0w wm (by omega) hw)
set_option maxHeartbeats 4000000 in
theorem Q3w (s:Qaa) (load:List Int) (days:Int) (hs:QaD s=true) (hl:Qdy s load=true) (hll:load.length<=10) (hd:0<=days/\days<=300) {B:Lo} (hJ:∀w,B.has w->J0 w):EndsT Tryz.prog B (Qal Tryz.prog 46 49 (([.agg (Qap s).toArray,slI load,.int .i64 days]).map (Qav 0 4))) (QkK (Qce s (Qbp load 0) days)):=by
 have hst:=Qaj hs
 have ht1:=Qbs QbO QbN hs hd
 have ht2:=Qbs QbN QbO hs hd
 exact ((Q19 s load days hs hl hll hd hJ _).1 (0) rfl (by omega)
  (GoE.start.landM okF hJ Qac (QzH B s load days)
  trivial (by kernel_rfl) (by kernel_rfl))).cast (by rfl)
theorem Q58 (s:Qaa) (load:List Int) (days:Int) (hs:QaD s=true) (hl:Qdy s load=true) (hll:load.length<=10) (hd:0<=days/\days<=300):Qau Tryz.prog J0 46 #[.agg (Qap s).toArray,slI load,.int .i64 days] (QkK (Qce s (Qbp load 0) days)):=
 QaF (ts:=[.agg (Qap s).toArray,slI load,.int .i64 days]) Qbw (c0:=Qal Tryz.prog 46 49 (([.agg (Qap s).toArray,slI load,.int .i64 days]).map (Qav 0 4))) (by kernel_rfl) (by kernel_rfl) fun B hJ=> Q3w s load days hs hl hll hd hJ
end
end Go.Proofs.YtiabgkiccaodmaaGreat

namespace Go.Proofs.YtiabgkiccaodmaaGreat
open Go Go.CE Go.RowKit
noncomputable section
set_option maxRecDepth 100000
def Qd5 (s:Qaa) (load:List Int) (days:Int):Array Value:=#[.agg #[slT s.stock.length (Qab Qag s.stock),slT s.use.length (Qab Qa3 s.use),.int .i64 s.glo,.int .i64 s.ghi,slT s.lots.length (Qab Qao s.lots),.int .i64 s.hold],slT load.length (Qab Qag load),.int .i64 days]
def Qe0 (s:Qaa):Array Value:=#[.agg #[slT s.stock.length (Qab Qag s.stock),slT s.use.length (Qab Qa3 s.use),.int .i64 s.glo,.int .i64 s.ghi,slT s.lots.length (Qab Qao s.lots),.int .i64 s.hold]]
def QkW (B:Lo) (s:Qaa) (load:List Int) (days:Int):List Prop:=[QaB []/\Qau Tryz.prog J0 36 (Qe0 s) (.bool true)]++([]:List Prop)
def Qq5 (s:Qaa) (load:List Int) (days:Int):Qa7:=[(3,Qah.pure (.bool true) [])]
theorem QxS (B:Lo) (s:Qaa) (load:List Int) (days:Int):Qbe (Qan Tryz.prog (Qa6 Tryz.prog) J0 B 10 1 (Qal Tryz.prog 8 72 (([.agg (Qap s).toArray,slI load,.int .i64 days]).map (Qav 0 4))) H00 1
 (Qq5 s load days++[(8,hvT),(10,Qah.pure (.bool true) [])]) 0 [] []) []=some (.bool true,
 [QaB []/\Qau Tryz.prog J0 17 #[] (.bool true),ltq 10 (↑load.length:Int)=true]++QkW B s load days):=by kernel_rfl
def QlD (B:Lo) (s:Qaa) (load:List Int) (days:Int):List Prop:=[ltq 10 (↑load.length:Int)=false]++QkW B s load days
def QpK (s:Qaa) (load:List Int) (days:Int):Qa7:=Qq5 s load days++[(8,hvF)]
def QiS (B:Lo) (s:Qaa) (load:List Int) (days:Int):List Prop:=[QaB []/\Qau Tryz.prog J0 42 (Qe0 s) (.int .i64 0)]++QlD B s load days
def QkN (s:Qaa) (load:List Int) (days:Int):Qa7:=QpK s load days++[(11,Qah.pure (.int .i64 0) [])]
def Qm9 (B:Lo) (s:Qaa) (load:List Int) (days:Int):List Prop:=[QaB []/\Qau Tryz.prog J0 46 (Qd5 s load days) (slT (List.length (Qce s (Qbp load 0) days)) (Qab Qbd (Qce s (Qbp load 0) days))),QaB []/\Qau Tryz.prog J0 39 (Qd5 s load days) (.bool true),QaB []/\Qau Tryz.prog J0 44 (Qe0 s) (.bool true),QaB []/\Qau Tryz.prog J0 43 (Qd5 s load days) (.tuple #[slT (List.length (Qce s (Qbp load 0) days)) (Qab Qbd (Qce s (Qbp load 0) days)),.int .i64 0])]++QiS B s load days
def Qqd (s:Qaa) (load:List Int) (days:Int):Qa7:=QkN s load days++[(16,Qah.pure (.tuple #[slT (List.length (Qce s (Qbp load 0) days)) (Qab Qbd (Qce s (Qbp load 0) days)),.int .i64 0]) []),(23,Qah.pure (.bool true) []),(41,Qah.pure (.bool true) []),(50,Qah.pure (slT (List.length (Qce s (Qbp load 0) days)) (Qab Qbd (Qce s (Qbp load 0) days))) [])]
theorem Qzc (B:Lo) (s:Qaa) (load:List Int) (days:Int):Qbe (Qan Tryz.prog (Qa6 Tryz.prog) J0 B 27 1 (Qal Tryz.prog 8 72 (([.agg (Qap s).toArray,slI load,.int .i64 days]).map (Qav 0 4))) H00 1
 (Qqd s load days++[(51,Qah.pure (.bool true) []),(54,Qah.pure (.bool true) [])]) 0 [] []) []=some (.bool true,
 [QaB []/\Qau Tryz.prog J0 17 #[] (.bool true),QaB []/\Qau Tryz.prog J0 45 #[slT (List.length (Qce s (Qbp load 0) days)) (Qab Qbd (Qce s (Qbp load 0) days)),slT (List.length (Qce s (Qbp load 0) days)) (Qab Qbd (Qce s (Qbp load 0) days))] (.bool true)]++Qm9 B s load days):=by kernel_rfl
theorem QyB (B:Lo) (s:Qaa) (load:List Int) (days:Int):Qbe (Qan Tryz.prog (Qa6 Tryz.prog) J0 B 27 1 (Qal Tryz.prog 8 72 (([.agg (Qap s).toArray,slI load,.int .i64 days]).map (Qav 0 4))) H00 1
 (Qqd s load days++[(51,Qah.pure (.bool false) [])]) 0 [] []) []=some (.bool false,
 [QaB []/\Qau Tryz.prog J0 45 #[slT (List.length (Qce s (Qbp load 0) days)) (Qab Qbd (Qce s (Qbp load 0) days)),slT (List.length (Qce s (Qbp load 0) days)) (Qab Qbd (Qce s (Qbp load 0) days))] (.bool false)]++Qm9 B s load days):=by kernel_rfl
theorem QvZ (B:Lo) (s:Qaa) (load:List Int) (days:Int):Qbe (Qan Tryz.prog (Qa6 Tryz.prog) J0 B 26 1 (Qal Tryz.prog 8 72 (([.agg (Qap s).toArray,slI load,.int .i64 days]).map (Qav 0 4))) H00 1
 (QkN s load days++[(16,Qah.pure (.tuple #[slT 0 #[],.int .i64 2]) []),(23,Qah.pure (.bool true) []),(41,Qah.pure (.bool false) []),(51,Qah.pure (.bool true) [])]) 0 [] []) []=some (.bool true,
 [QaB []/\Qau Tryz.prog J0 17 #[] (.bool true),QaB []/\Qau Tryz.prog J0 39 (Qd5 s load days) (.bool false),QaB []/\Qau Tryz.prog J0 44 (Qe0 s) (.bool true),QaB []/\Qau Tryz.prog J0 43 (Qd5 s load days) (.tuple #[slT 0 #[],.int .i64 2])]++QiS B s load days):=by kernel_rfl
theorem QyG (B:Lo) (s:Qaa) (load:List Int) (days:Int):Qbe (Qan Tryz.prog (Qa6 Tryz.prog) J0 B 26 1 (Qal Tryz.prog 8 72 (([.agg (Qap s).toArray,slI load,.int .i64 days]).map (Qav 0 4))) H00 1
 (QkN s load days++[(16,Qah.pure (.tuple #[slT 0 #[],.int .i64 2]) []),(23,Qah.pure (.bool true) []),(41,Qah.pure (.bool false) []),(51,Qah.pure (.bool true) [])]) 0 [] []) []=some (.bool true,
 [QaB []/\Qau Tryz.prog J0 17 #[] (.bool true),QaB []/\Qau Tryz.prog J0 39 (Qd5 s load days) (.bool false),QaB []/\Qau Tryz.prog J0 44 (Qe0 s) (.bool true),QaB []/\Qau Tryz.prog J0 43 (Qd5 s load days) (.tuple #[slT 0 #[],.int .i64 2])]++QiS B s load days):=by kernel_rfl
theorem Qvw (B:Lo) (s:Qaa) (load:List Int) (days:Int):Qbe (Qan Tryz.prog (Qa6 Tryz.prog) J0 B 26 1 (Qal Tryz.prog 8 72 (([.agg (Qap s).toArray,slI load,.int .i64 days]).map (Qav 0 4))) H00 1
 (QpK s load days++[(11,Qah.pure (.int .i64 2) []),(16,Qah.pure (.tuple #[slT 0 #[],.int .i64 2]) []),(23,Qah.pure (.bool false) []),(41,Qah.pure (.bool false) []),(51,Qah.pure (.bool true) [])]) 0 [] []) []=some (.bool true,
 [QaB []/\Qau Tryz.prog J0 17 #[] (.bool true),QaB []/\Qau Tryz.prog J0 39 (Qd5 s load days) (.bool false),QaB []/\Qau Tryz.prog J0 44 (Qe0 s) (.bool false),QaB []/\Qau Tryz.prog J0 43 (Qd5 s load days) (.tuple #[slT 0 #[],.int .i64 2]),QaB []/\Qau Tryz.prog J0 42 (Qe0 s) (.int .i64 2)]++QlD B s load days):=by kernel_rfl
theorem QxJ (B:Lo) (s:Qaa) (load:List Int) (days:Int):Qbe (Qan Tryz.prog (Qa6 Tryz.prog) J0 B 10 1 (Qal Tryz.prog 8 72 (([.agg (Qap s).toArray,slI load,.int .i64 days]).map (Qav 0 4))) H00 1
 [(3,Qah.pure (.bool false) []),(10,Qah.pure (.bool true) [])] 0 [] []) []=some (.bool true,
 [QaB []/\Qau Tryz.prog J0 17 #[] (.bool true),QaB []/\Qau Tryz.prog J0 36 (Qe0 s) (.bool false)]):=by kernel_rfl
set_option maxHeartbeats 4000000 in
theorem Q0j (s:Qaa) (load:List Int) (days:Int)  (hfacts:s.stock.length<=9223372036854775807) {B:Lo} (hJ:∀w,B.has w->J0 w):EndsT Tryz.prog B (Qal Tryz.prog 8 72 (([.agg (Qap s).toArray,slI load,.int .i64 days]).map (Qav 0 4))) (.bool true):=by
 have hwl:=Q1w (s:=s) (load:=Qbp load 0) (days:=days)
 cases q0:Qgk s with
 | true=>
   have hp0:QaB (QkW B s load days):=by
    have hb:=Qcj ‹Qgk s=true›
    exact ⟨⟨trivial,(by have t_:=QwY (s);rw [q0] at t_;exact t_)⟩,trivial⟩
   by_cases q1:(10:Int) < ((↑load.length:Int))
   ·
    exact (GoE.endsT okF hJ Qac GoE.start (QxS B s load days)
     ⟨⟨trivial,known⟩,⟨(QaW q1),hp0⟩⟩).cast rfl
   ·
    have hp1:QaB (QlD B s load days):=by
     exact ⟨(Qbb (Int.not_lt.1 q1)),hp0⟩
    cases q2:QaD s with
    | true=>
      have hp2:QaB (QiS B s load days):=by
       have hb:=Qcj ‹Qgk s=true›
       exact ⟨⟨trivial,(by have t_:=QlY (s);rw [q2] at t_;exact t_)⟩,hp1⟩
      cases q3:Qdy s load with
      | true=>
        cases q4:inB days 0 300 with
        | true=>
          have hp3:QaB (Qm9 B s load days):=by
           have hb:=Qcj ‹Qgk s=true›
           have g2:=Qbn.1 ‹inB days 0 300=true›
           exact ⟨⟨trivial,Q58 (s) (load) (days) (by with_reducible assumption) (by with_reducible assumption) (by omega) (by with_reducible assumption)⟩,⟨⟨trivial,(by have t_:=QoT (s) (load) (days) (by with_reducible assumption) (by omega);rw [q2,q3,q4] at t_;exact t_)⟩,⟨⟨trivial,(by have t_:=Qj9 (s) (by with_reducible assumption);rw [q2] at t_;exact t_)⟩,⟨⟨trivial,(by have t_:=Q1N (s) (load) (days);rw [q2,q3,q4] at t_;exact t_)⟩,hp2⟩⟩⟩⟩
          cases q5:decide (Qce s (Qbp load 0) days=Qce s (Qbp load 0) days) with
          | true=>
            have hb:=Qcj ‹Qgk s=true›
            have g2:=Qbn.1 ‹inB days 0 300=true›
            exact (GoE.endsT okF hJ Qac GoE.start (Qzc B s load days)
             ⟨⟨trivial,known⟩,⟨⟨trivial,(by have t_:=QnI (Qce s (Qbp load 0) days) (Qce s (Qbp load 0) days);rw [q5] at t_;exact t_)⟩,hp3⟩⟩).cast rfl
          | false=>
            have hb:=Qcj ‹Qgk s=true›
            have g2:=Qbn.1 ‹inB days 0 300=true›
            exact (GoE.endsT okF hJ Qac GoE.start (QyB B s load days)
             ⟨⟨trivial,(by have t_:=QnI (Qce s (Qbp load 0) days) (Qce s (Qbp load 0) days);rw [q5] at t_;exact t_)⟩,hp3⟩).cast (by (exfalso;simp_all;done))
        | false=>
          have hb:=Qcj ‹Qgk s=true›
          exact (GoE.endsT okF hJ Qac GoE.start (QvZ B s load days)
           ⟨⟨trivial,known⟩,⟨⟨trivial,(by have t_:=QoT (s) (load) (days) (by with_reducible assumption) (by omega);rw [q2,q3,q4] at t_;exact t_)⟩,⟨⟨trivial,(by have t_:=Qj9 (s) (by with_reducible assumption);rw [q2] at t_;exact t_)⟩,⟨⟨trivial,(by have t_:=Q1N (s) (load) (days);rw [q2,q3,q4] at t_;exact t_)⟩,hp2⟩⟩⟩⟩).cast rfl
      | false=>
        have hb:=Qcj ‹Qgk s=true›
        exact (GoE.endsT okF hJ Qac GoE.start (QyG B s load days)
         ⟨⟨trivial,known⟩,⟨⟨trivial,(by have t_:=QoT (s) (load) (days) (by with_reducible assumption) (by omega);rw [q2,q3] at t_;exact t_)⟩,⟨⟨trivial,(by have t_:=Qj9 (s) (by with_reducible assumption);rw [q2] at t_;exact t_)⟩,⟨⟨trivial,(by have t_:=Q1N (s) (load) (days);rw [q2,q3] at t_;exact t_)⟩,hp2⟩⟩⟩⟩).cast rfl
    | false=>
      have hb:=Qcj ‹Qgk s=true›
      exact (GoE.endsT okF hJ Qac GoE.start (Qvw B s load days)
       ⟨⟨trivial,known⟩,⟨⟨trivial,(by have t_:=QoT (s) (load) (days) (by with_reducible assumption) (by omega);rw [q2] at t_;exact t_)⟩,⟨⟨trivial,(by have t_:=Qj9 (s) (by with_reducible assumption);rw [q2] at t_;exact t_)⟩,⟨⟨trivial,(by have t_:=Q1N (s) (load) (days);rw [q2] at t_;exact t_)⟩,⟨⟨trivial,(by have t_:=QlY (s);rw [q2] at t_;exact t_)⟩,hp1⟩⟩⟩⟩⟩).cast rfl
 | false=>
   exact (GoE.endsT okF hJ Qac GoE.start (QxJ B s load days)
    ⟨⟨trivial,known⟩,⟨⟨trivial,(by have t_:=QwY (s);rw [q0] at t_;exact t_)⟩,trivial⟩⟩).cast rfl
theorem Q4w (s:Qaa) (load:List Int) (days:Int)  :Qau Tryz.prog J0 8 #[.agg (Qap s).toArray,slI load,.int .i64 days] (.bool true):=
 QcY (ts:=[.agg (Qap s).toArray,slI load,.int .i64 days]) (s.stock.length<=9223372036854775807) (fun _ _ ht=> ht.ln2 (i:=0) (j:=0) rfl rfl) Qbw (c0:=Qal Tryz.prog 8 72 (([.agg (Qap s).toArray,slI load,.int .i64 days]).map (Qav 0 4))) (by kernel_rfl) (by kernel_rfl) fun hfacts B hJ=> Q0j s load days  hfacts hJ
end
end Go.Proofs.YtiabgkiccaodmaaGreat

namespace Go.Proofs.YtiabgkiccaodmaaGreat
open Go Go.CE Go.RowKit
theorem QyV:∀trs,QsY [Qld,.slice .int,.int] trs->Qau Tryz.prog J0 8 trs.toArray (.bool true):=by
 rintro trs ⟨t0,_,rfl,h0,t1,_,rfl,h1,t2,_,rfl,h2,rfl⟩
 obtain ⟨s,rfl⟩:=QxP h0
 obtain ⟨l,rfl⟩:=Q1q h1
 obtain ⟨z,rfl⟩:=Q3q h2
 exact Q4w s l z
end Go.Proofs.YtiabgkiccaodmaaGreat

namespace Go.Proofs.YtiabgkiccaodmaaGreat
open Go Go.CE Go.ChangeShapes Go.WideShapes Go.RowKit
set_option maxRecDepth 100000 in
theorem Qks (os:Os) (started:os.Started) (H:Type) (enc:TypeId×Value->H):
 ReturnsInHanded {} Tryz.checked os 8 .any (Rows.shipWantsSpec.pre6 enc Tryz.prog Tryz.f8 Rows.shipWantsRow.domain false) (Rows.shipWantsSpec.post enc Tryz.prog Tryz.f8 false true false false):=by
 refine returnsInHanded_of_change (C:=Tryz.checked) (show ownKnob Tryz.prog.godebug=none by kernel_rfl) started (by kernel_rfl) Tryz.func8
  (ChangeSpec.witness6 (enc:=enc) (C:=Tryz.checked) false ⟨#[],#[Sh.zeroA Qld,Sh.zeroA (.slice .int),Sh.zeroA .int],[]⟩ 8 (by kernel_rfl) (by kernel_rfl) (by kernel_rfl) (by kernel_rfl)) ?_
 intro W base args ds gs before hval0 hW _ _
 have hval:∀(j:Nat) t v,Tryz.f8.params[j]? =some t->args[j]? =some v->Value.okWide Tryz.prog W .any base t v:=hval0
 have hW':=hW
 obtain ⟨p,q,hA0,hV,rfl,_,_⟩:=hW
 obtain ⟨rfl,rfl⟩:=trodVars_none hV
 have hA1:DataW.TrodAll enc Tryz.prog W 0 (fun _=> true) true Tryz.f8.params.toList args.toList ds p:=hA0
 have hlt:∀x∈p,x.block < W.heap.size:=fun x hx=> hW'.lt x (by simpa using hx)
 have hch:Qm1 Tryz.prog [Qld,(.slice .int),.int] Tryz.f8.params.toList=true:=by kernel_rfl
 have hrd:(Tryz.f8.params.toList.all fun t=> Tryz.prog.readableRec t && decide (t < Tryz.prog.types.size))=true:=by kernel_rfl
 refine (Q1I (J:=J0) (ss:=[Qld,(.slice .int),.int]) trivial hch hA1 (fun j t v h1 h2=> hval j t v (by simpa using h1) h2) QyV).mono fun e W' ⟨he,hB⟩=> ?_
 subst he
 have hB2:=QiT (show laidOutB Tryz.prog=true by kernel_rfl) hB _ _ _ _ hrd hA1 hlt
 have hA:DataW.TrodAll enc Tryz.prog W 0 (fun _=> true) true Tryz.f8.params.toList args.toList ds p:=hA1
 rw [Tryz.params8] at hA
 simp only [List.toList_toArray] at hA
 have hA:=hA
 obtain ⟨v0,vs0,d0,ds0,p0,q0,_,rfl,_,h0,_⟩:=CE.trodAll_cons hA
 obtain ⟨v1,vs1,d1,ds1,p1,q1,_,rfl,_,h1,_⟩:=CE.trodAll_cons h0
 obtain ⟨v2,vs2,d2,ds2,p2,q2,_,rfl,_,h2,_⟩:=CE.trodAll_cons h1
 obtain ⟨_,rfl,_⟩:=CE.trodAll_nil h2
 exact ⟨_,rfl,_,_,_,[],_,[],hW',trodAll_mk1 (shut_bool Tryz.underlying4 _),hB2,rfl,hB.frame _,fun h=> by cases h⟩
theorem shipWants_row:Rows.ShipWantsSaid:=
 OpenClaim.holds_of_wide 8 Tryz.f8 rfl rfl rfl rfl rfl rfl rfl ⟨rfl,rfl,rfl,rfl,rfl⟩ rfl rfl rfl rfl rfl (by kernel_rfl) Tryz.func8 (by kernel_rfl)
  (of_decide_eq_true (by kernel_rfl)) (by unfold Func.isWrapper;first | (rw [if_pos (by decide+kernel)];kernel_rfl) | (rw [if_neg (by decide+kernel)];exact ⟨rfl,rfl⟩))
  (fun os started H enc _=> Qks os started H enc)
end Go.Proofs.YtiabgkiccaodmaaGreat
