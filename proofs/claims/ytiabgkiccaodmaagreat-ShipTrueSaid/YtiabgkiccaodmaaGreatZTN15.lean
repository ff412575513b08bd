/- The truths at the ends of stores. -/
import Derived.Test.YtiabgkiccaodmaaGreatZTN14
set_option linter.all false
namespace Go.Proofs.YtiabgkiccaodmaaGreat
open Go Go.CE Go.RowKit
noncomputable section
set_option maxRecDepth 100000
theorem Q2f:(List.range 301).all (fun x=> Qqc (Ql3 Tryz.prog (Qaw Tryz.prog) Qby 10000 168 #[.int .u64 1,.int .u64 (x:Nat)] (Qfh 0 []) ([]:List (Array Value×TypeId)).length) (.tuple #[.int .u64 0,.int .u64 (x:Nat)]) [])=true:=by decide+kernel
theorem Q5o (s:Int) (h0:0<=s) (h1:s<=300):Qao Tryz.prog J0 168 #[.int .u64 1,.int .u64 s] (.tuple #[.int .u64 0,.int .u64 s]):=by
 obtain ⟨k,rfl⟩:∃k:Nat,s=k:=⟨s.toNat,by omega⟩
 exact Qni okF Qab (fuel:=10000) (by kernel_rfl) (fun _=> Qwg (by kernel_rfl)) (by kernel_rfl) (List.all_eq_true.1 Q2f k (List.mem_range.2 (by omega)))
def Qax (f g:Span->Int) (s:Qaa) (days:Int):Qad:=⟨s.use.map g,List.replicate ((days+g ⟨s.glo,s.ghi⟩ - 1).tdiv (g ⟨s.glo,s.ghi⟩)).toNat (g ⟨s.glo,s.ghi⟩),s.lots.map fun l=> l.goods.map f⟩
theorem Qco {d g:Int} (hd:0<=d/\d<=300) (hg:1<=g):0<=(d+g - 1).tdiv g/\(d+g - 1).tdiv g<=300:=by
 rw [Int.tdiv_eq_ediv_of_nonneg (by omega)]
 refine ⟨Int.ediv_nonneg (by omega) (by omega), ?_⟩
 have h1:d<=d * g:=by
  have:=Int.mul_le_mul_of_nonneg_left hg hd.1
  simpa using this
 have:(d+g - 1) / g < d+1:=Int.ediv_lt_of_lt_mul (by omega) (by rw [Int.add_mul];omega)
 omega
def Qc4 (s:Qaa) (load days:Int):Qar:=[(5,Obj.cells #[.int .i64 s.ghi] 3),(4,Obj.coro none),(3,Obj.cells #[.slice none 0 0,.slice none 0 0,.slice none 0 0] 65),(2,Obj.cells #[Value.func (Fn.func 104) #[] #[]] 101),(1,Obj.cells #[Qay 0 (slT s.stock.length (Qac Qa1 s.stock)),Qay 0 (slT s.use.length (Qac QaD s.use)),.int .i64 s.glo,.int .i64 s.ghi,Qay 0 (slT s.lots.length (Qac Qaq s.lots)),.int .i64 s.hold,.int .i64 load,.int .i64 days] 122),(0,Obj.coro none)]
def QeJ (s:Qaa) (load days:Int):CF:=⟨161,ofList 48 [.slice (some {block:=5,off:=0}) 1 1,.int .i64 (Int.tdiv (days+s.ghi - 1) s.ghi)],[Item.code (Qan Tryz.prog 161)],[],.run,none⟩
def QdC (s:Qaa) (load days:Int) (j:Int) (ys:List Bool):List Value:=[.slice (some {block:=7,off:=0}) (Int.toNat (Int.tdiv (days+s.ghi - 1) s.ghi)) 1,.int .i64 j]
def QdE (s:Qaa) (load days:Int) (j:Int) (ys:List Bool):List Obj:=[]
def QbY (s:Qaa) (load days:Int) (j:Int) (ys:List Bool):List Obj:=[.cells (Qac (cpE [.int .i64 s.ghi] [.int .i64 0]) ys) 3 (0,0)]
def QdB:List Item:=([.code [1,1,1,1,1,1,0,0,0],.inLoop [1,1,1,1,1,1,0,0,0],.inBlock 0,.code [1,1,1,1,1,1,1]]).map (it (Qan Tryz.prog 161))
def QbT (s:Qaa) (load days:Int):Array Value:=#[Qay 0 (slT s.stock.length (Qac Qa1 s.stock)),Qay 0 (slT s.use.length (Qac QaD s.use)),.int .i64 s.glo,.int .i64 s.ghi,Qay 0 (slT s.lots.length (Qac Qaq s.lots)),.int .i64 s.hold,.int .i64 load,.int .i64 days]
def Qje (s:Qaa) (i:Int):Array Value:=#[Qay 10 (slT (List.length (List.map Span.lo (Qag.goods (s.lots.getD i.toNat default)))) (Qac Qa1 (List.map Span.lo (Qag.goods (s.lots.getD i.toNat default)))))]
def Qi6 (s:Qaa) (i:Int):Value:=(Qay 10 (slT (List.length (List.map Span.lo (Qag.goods (s.lots.getD i.toNat default)))) (Qac Qa1 (List.map Span.lo (Qag.goods (s.lots.getD i.toNat default))))))
theorem Qui (B:Lo) (s:Qaa) (load days:Int) (j:Int) (ys:List Bool) (dJ0:Nat->Value):CE.landA 6 (Qak Tryz.prog (Qaw Tryz.prog) J0 B 9 6 (QbX (none) 161 48 (([7,8]:List Nat).zip (QdC s load days j ys)) dJ0 QdB) (Qbx (Qc4 s load days) 6 (([]:List Nat).zip (QdE s load days j ys)) (QbY s load days j ys)) (6+1+(QbY s load days j ys).length)
 [(3,hvT),(7,Qai.eval {out:=OO.ret (.slice (some {block:=7,off:=0+Int.toNat j * 1}) (Int.toNat (Int.tdiv (days+s.ghi - 1) s.ghi) - Int.toNat j) 0),H:=[(6,Obj.coro none),(7,Obj.cells (Qac (cpE [.int .i64 s.ghi] [.int .i64 0]) ys) 3),(5,Obj.cells #[.int .i64 s.ghi] 3),(4,Obj.coro none),(3,Obj.cells #[.slice none 0 0,.slice none 0 0,.slice none 0 0] 65),(2,Obj.cells #[Value.func (Fn.func 104) #[] #[]] 101),(1,Obj.cells (QbT s load days) 122),(0,Obj.coro none)],n:=8,R:=[],W:=[]}),(10,Qai.eval {out:=OO.ret (.slice (some {block:=7,off:=0}) j.toNat 1),H:=[(6,Obj.coro none),(7,Obj.cells (Qac (cpE [.int .i64 s.ghi] [.int .i64 0]) ys) 3),(5,Obj.cells #[.int .i64 s.ghi] 3),(4,Obj.coro none),(3,Obj.cells #[.slice none 0 0,.slice none 0 0,.slice none 0 0] 65),(2,Obj.cells #[Value.func (Fn.func 104) #[] #[]] 101),(1,Obj.cells (QbT s load days) 122),(0,Obj.coro none)],n:=8,R:=[],W:=[]}),(11,Qai.eval {out:=OO.ret (.int .i64 (↑(min j.toNat (Int.toNat (Int.tdiv (days+s.ghi - 1) s.ghi) - Int.toNat j)):Int)),H:=[(6,Obj.coro none),(7,Obj.cells (Qac (cpE [.int .i64 s.ghi] [.int .i64 0]) (QiS ys j.toNat (List.take (min j.toNat (Int.toNat (Int.tdiv (days+s.ghi - 1) s.ghi) - Int.toNat j)) (List.drop 0 ys)))) 3),(5,Obj.cells #[.int .i64 s.ghi] 3),(4,Obj.coro none),(3,Obj.cells #[.slice none 0 0,.slice none 0 0,.slice none 0 0] 65),(2,Obj.cells #[Value.func (Fn.func 104) #[] #[]] 101),(1,Obj.cells (QbT s load days) 122),(0,Obj.coro none)],n:=8,R:=[7,7],W:=[7]}),(12,hvI (j+(↑(min j.toNat (Int.toNat (Int.tdiv (days+s.ghi - 1) s.ghi) - Int.toNat j)):Int)))] 0 [] []) [7,8] [] [(7,KS.cells [] (Qac (cpE [.int .i64 s.ghi] [.int .i64 0]) (QiS ys j.toNat (List.take (min j.toNat (Int.toNat (Int.tdiv (days+s.ghi - 1) s.ghi) - Int.toNat j)) (List.drop 0 ys)))))] []=some ⟨161,48,QdB,[],.run,none,QdC s load days (j+(↑(min j.toNat (Int.toNat (Int.tdiv (days+s.ghi - 1) s.ghi) - Int.toNat j)):Int)) (QiS ys j.toNat (List.take (min j.toNat (Int.toNat (Int.tdiv (days+s.ghi - 1) s.ghi) - Int.toNat j)) (List.drop 0 ys))),([]:List Nat).zip (QdE s load days (j+(↑(min j.toNat (Int.toNat (Int.tdiv (days+s.ghi - 1) s.ghi) - Int.toNat j)):Int)) (QiS ys j.toNat (List.take (min j.toNat (Int.toNat (Int.tdiv (days+s.ghi - 1) s.ghi) - Int.toNat j)) (List.drop 0 ys)))),QbY s load days (j+(↑(min j.toNat (Int.toNat (Int.tdiv (days+s.ghi - 1) s.ghi) - Int.toNat j)):Int)) (QiS ys j.toNat (List.take (min j.toNat (Int.toNat (Int.tdiv (days+s.ghi - 1) s.ghi) - Int.toNat j)) (List.drop 0 ys))),
 [QeR 6 [] (Qac (cpE [.int .i64 s.ghi] [.int .i64 0]) (QiS ys j.toNat (List.take (min j.toNat (Int.toNat (Int.tdiv (days+s.ghi - 1) s.ghi) - Int.toNat j)) (List.drop 0 ys)))) (Qac (cpE [.int .i64 s.ghi] [.int .i64 0]) (QiS ys j.toNat (List.take (min j.toNat (Int.toNat (Int.tdiv (days+s.ghi - 1) s.ghi) - Int.toNat j)) (List.drop 0 ys)))),wq (j+(↑(min j.toNat (Int.toNat (Int.tdiv (days+s.ghi - 1) s.ghi) - Int.toNat j)):Int))=j+(↑(min j.toNat (Int.toNat (Int.tdiv (days+s.ghi - 1) s.ghi) - Int.toNat j)):Int),opS Tryz.prog (Qaw Tryz.prog) Qby (fun x x_1 x_2=> none) {len:=16000,tr:=Tri.set 14 (Tri.set 14 Tri.lf 44 (.slice (some {block:=7,off:=0}) j.toNat 1)) 41 (.slice (some {block:=7,off:=0+Int.toNat j * 1}) (Int.toNat (Int.tdiv (days+s.ghi - 1) s.ghi) - Int.toNat j) 0)} {dst:=some 45,op:=Op.call {callee:=Callee.builtin Builtin.copy,args:=#[Operand.tmp 41,Operand.tmp 44],argTypes:=#[22,22]},type:=3,pos:= "slices.go:528",after:=#[{on:=3,ground:=Ground.data},{on:=6,ground:=Ground.data}],guard:=none} [(6,Obj.coro none),(7,Obj.cells (Qac (cpE [.int .i64 s.ghi] [.int .i64 0]) ys) 3),(5,Obj.cells #[.int .i64 s.ghi] 3),(4,Obj.coro none),(3,Obj.cells #[.slice none 0 0,.slice none 0 0,.slice none 0 0] 65),(2,Obj.cells #[Value.func (Fn.func 104) #[] #[]] 101),(1,Obj.cells (QbT s load days) 122),(0,Obj.coro none)] 8=some {out:=OO.ret (.int .i64 (↑(min j.toNat (Int.toNat (Int.tdiv (days+s.ghi - 1) s.ghi) - Int.toNat j)):Int)),H:=[(6,Obj.coro none),(7,Obj.cells (Qac (cpE [.int .i64 s.ghi] [.int .i64 0]) (QiS ys j.toNat (List.take (min j.toNat (Int.toNat (Int.tdiv (days+s.ghi - 1) s.ghi) - Int.toNat j)) (List.drop 0 ys)))) 3),(5,Obj.cells #[.int .i64 s.ghi] 3),(4,Obj.coro none),(3,Obj.cells #[.slice none 0 0,.slice none 0 0,.slice none 0 0] 65),(2,Obj.cells #[Value.func (Fn.func 104) #[] #[]] 101),(1,Obj.cells (QbT s load days) 122),(0,Obj.coro none)],n:=8,R:=[7,7],W:=[7]},opS Tryz.prog (Qaw Tryz.prog) Qby (fun x x_1 x_2=> none) {len:=16000,tr:=Tri.set 14 (Tri.set 14 Tri.lf 43 (.int .i64 j)) 42 (.slice (some {block:=7,off:=0}) (Int.toNat (Int.tdiv (days+s.ghi - 1) s.ghi)) 1)} {dst:=some 44,op:=Op.slice 22 (Operand.tmp 42) none (some (Operand.tmp 43)) none,type:=22,pos:= "slices.go:528",after:=#[{on:=4,ground:=Ground.data},{on:=5,ground:=Ground.data}],guard:=none} [(6,Obj.coro none),(7,Obj.cells (Qac (cpE [.int .i64 s.ghi] [.int .i64 0]) ys) 3),(5,Obj.cells #[.int .i64 s.ghi] 3),(4,Obj.coro none),(3,Obj.cells #[.slice none 0 0,.slice none 0 0,.slice none 0 0] 65),(2,Obj.cells #[Value.func (Fn.func 104) #[] #[]] 101),(1,Obj.cells (QbT s load days) 122),(0,Obj.coro none)] 8=some {out:=OO.ret (.slice (some {block:=7,off:=0}) j.toNat 1),H:=[(6,Obj.coro none),(7,Obj.cells (Qac (cpE [.int .i64 s.ghi] [.int .i64 0]) ys) 3),(5,Obj.cells #[.int .i64 s.ghi] 3),(4,Obj.coro none),(3,Obj.cells #[.slice none 0 0,.slice none 0 0,.slice none 0 0] 65),(2,Obj.cells #[Value.func (Fn.func 104) #[] #[]] 101),(1,Obj.cells (QbT s load days) 122),(0,Obj.coro none)],n:=8,R:=[],W:=[]},opS Tryz.prog (Qaw Tryz.prog) Qby (fun x x_1 x_2=> none) {len:=16000,tr:=Tri.set 14 (Tri.set 14 Tri.lf 40 (.int .i64 j)) 39 (.slice (some {block:=7,off:=0}) (Int.toNat (Int.tdiv (days+s.ghi - 1) s.ghi)) 1)} {dst:=some 41,op:=Op.slice 22 (Operand.tmp 39) (some (Operand.tmp 40)) none none,type:=22,pos:= "slices.go:528",after:=#[{on:=1,ground:=Ground.data},{on:=2,ground:=Ground.data}],guard:=none} [(6,Obj.coro none),(7,Obj.cells (Qac (cpE [.int .i64 s.ghi] [.int .i64 0]) ys) 3),(5,Obj.cells #[.int .i64 s.ghi] 3),(4,Obj.coro none),(3,Obj.cells #[.slice none 0 0,.slice none 0 0,.slice none 0 0] 65),(2,Obj.cells #[Value.func (Fn.func 104) #[] #[]] 101),(1,Obj.cells (QbT s load days) 122),(0,Obj.coro none)] 8=some {out:=OO.ret (.slice (some {block:=7,off:=0+Int.toNat j * 1}) (Int.toNat (Int.tdiv (days+s.ghi - 1) s.ghi) - Int.toNat j) 0),H:=[(6,Obj.coro none),(7,Obj.cells (Qac (cpE [.int .i64 s.ghi] [.int .i64 0]) ys) 3),(5,Obj.cells #[.int .i64 s.ghi] 3),(4,Obj.coro none),(3,Obj.cells #[.slice none 0 0,.slice none 0 0,.slice none 0 0] 65),(2,Obj.cells #[Value.func (Fn.func 104) #[] #[]] 101),(1,Obj.cells (QbT s load days) 122),(0,Obj.coro none)],n:=8,R:=[],W:=[]},ltq j (↑(Int.toNat (Int.tdiv (days+s.ghi - 1) s.ghi)):Int)=true]⟩:=by kernel_rfl
theorem QtU (B:Lo) (s:Qaa) (load days:Int) (j:Int) (ys:List Bool) (dJ0:Nat->Value):CE.finK 6 (Qak Tryz.prog (Qaw Tryz.prog) J0 B 9 6 (QbX (none) 161 48 (([7,8]:List Nat).zip (QdC s load days j ys)) dJ0 QdB) (Qbx (Qc4 s load days) 6 (([]:List Nat).zip (QdE s load days j ys)) (QbY s load days j ys)) (6+1+(QbY s load days j ys).length)
 [(3,hvF)] 0 [] []) [] [] [{k:=7,rs:=[],cs:=Qac (cpE [.int .i64 s.ghi] [.int .i64 0]) ys}]=some (OO.ret (Qay 6 (slT (Int.toNat (Int.tdiv (days+s.ghi - 1) s.ghi)) (Fz.cs {k:=7,rs:=[],cs:=Qac (cpE [.int .i64 s.ghi] [.int .i64 0]) ys}))),[],[],
 [Qct (Fz.rs {k:=7,rs:=[],cs:=Qac (cpE [.int .i64 s.ghi] [.int .i64 0]) ys}) (Qac (cpE [.int .i64 s.ghi] [.int .i64 0]) ys) (Fz.cs {k:=7,rs:=[],cs:=Qac (cpE [.int .i64 s.ghi] [.int .i64 0]) ys}),ltq j (↑(Int.toNat (Int.tdiv (days+s.ghi - 1) s.ghi)):Int)=false]):=by kernel_rfl
set_option maxHeartbeats 4000000 in
theorem QnV (s:Qaa) (load days:Int) (hs:Qa0 s=true) (hd:0<=days/\days<=300) {B:Lo} (hJ:∀w,B.has w->J0 w):∀m:Nat,(∀(j:Int) (ys:List Bool),(((days+s.ghi - 1).tdiv s.ghi) - j).toNat=m->∀(j0:0<=j) (j1:j<=((days+s.ghi - 1).tdiv s.ghi)) (j2:((days+s.ghi - 1).tdiv s.ghi)=0\/0 < j) (hy:ys=Qgd true false ((days+s.ghi - 1).tdiv s.ghi).toNat j.toNat),(∃dJ0:Nat->Value,(∀t,Qbb (dJ0 t))/\GoE Tryz.prog B (QeJ s load days) (Qc4 s load days) 6 (QbX (none) 161 48 (([7,8]:List Nat).zip (QdC s load days j ys)) dJ0 QdB) (Qbx (Qc4 s load days) 6 (([]:List Nat).zip (QdE s load days j ys)) (QbY s load days j ys)) (6+1+(QbY s load days j ys).length) ([]:List Nat))->FinK Tryz.prog B (QeJ s load days) (Qc4 s load days) 6 (.ret (Qay 6 (slI (List.replicate ((days+s.ghi - 1).tdiv s.ghi).toNat s.ghi)))) (([]:List Nat).zip ([])) ([]) ([]:List Nat)):=by
 intro m0
 induction m0 using Nat.strongRecOn with
 | _ m0 ih0=>
   intro j ys hm0 j0 j1 j2 hy ⟨dJ0,hdJ0,hg0⟩
   have hgp:=QaS hs
   have hst:=Qa5 hs
   have hlo:=QaL hs
   have hqf:=Qco (g:=s.ghi) hd (by omega)
   have hgp:=QaS hs
   have hqf:=Qco (g:=s.ghi) hd (by omega)
   have hyl:ys.length=((days+s.ghi - 1).tdiv s.ghi).toNat:=by rw [hy];exact Qtw (by omega)
   by_cases q0:(j:Int) < ((↑(Int.toNat (Int.tdiv (days+s.ghi - 1) s.ghi)):Int))
   ·
    exact ((ih0 _ (by omega)) (j+(↑(min j.toNat (Int.toNat (Int.tdiv (days+s.ghi - 1) s.ghi) - Int.toNat j)):Int)) (QiS ys j.toNat (List.take (min j.toNat (Int.toNat (Int.tdiv (days+s.ghi - 1) s.ghi) - Int.toNat j)) (List.drop 0 ys))) rfl (by omega) (by omega) (by omega) (by (subst hy;rw [QsR (by omega) (by omega)];congr 1;omega))
     (GoE.landA okF hJ Qab (Qal (by kernel_rfl)) (Qaf (by kernel_rfl)) hg0 (Qui B s load days j ys dJ0)
     ⟨(QaY (Qbj (fun x=> List.all_eq_true.1 (by (cases x <;> rfl))))),⟨(QaV (by omega) (by omega)),⟨(QnM (z:=1) rfl rfl rfl rfl rfl rfl rfl rfl rfl rfl (by decide) (by decide) rfl rfl (Qja (c:=0) (fun x=> by first | rfl | (cases x <;> rfl)) (fun x=> by first | rfl | (cases x <;> rfl)) (by omega) (by omega))),⟨(QmU (z:=0) rfl rfl rfl rfl rfl (by omega) (by omega)),⟨(QmW (z:=0) rfl rfl rfl rfl rfl (by omega) (by omega)),⟨(Qbn q0),trivial⟩⟩⟩⟩⟩⟩ (by kernel_rfl) (by kernel_rfl) (fun l hl=> by cases hl <;> decide))).cast (by rfl) (by rfl) (by rfl)
   ·
    exact (GoE.finK okF hJ Qab (Qal (by kernel_rfl)) (Qaf (by kernel_rfl)) hg0 (QtU B s load days j ys dJ0)
     ⟨(Qcg (fun x=> List.all_eq_true.1 (by (cases x <;> rfl)))),⟨(Qbk (Int.not_lt.1 q0)),trivial⟩⟩).cast (by (have e9:j.toNat=((days+s.ghi - 1).tdiv s.ghi).toNat:=(by omega);rw [hy,e9,Qt2];exact congrArg (fun v=> OO.ret (Qay 6 v)) (by show slT _ (Qac (cpE (Qa1 s.ghi) [Value.int .i64 0]) (List.replicate _ true))=_;rw [Qze];show slT _ _=slT (List.replicate _ _).length _;rw [List.length_replicate]))) (by rfl) (by rfl)

theorem Qvl (B:Lo) (s:Qaa) (load days:Int):CE.landA 6 (Qak Tryz.prog (Qaw Tryz.prog) J0 B 21 6 (QeJ s load days) (Qc4 s load days) 6
 [(2,hvF),(7,Qai.old (Hint.val (Value.int IntKind.u64 (Int.tdiv (days+s.ghi - 1) s.ghi)))),(8,Qai.pure (.tuple #[Value.int IntKind.u64 0,Value.int IntKind.u64 (Int.tdiv (days+s.ghi - 1) s.ghi)]) []),(18,hvF),(21,hvI (Int.tdiv (days+s.ghi - 1) s.ghi)),(22,Qai.old (Hint.mk (Int.toNat (Int.tdiv (days+s.ghi - 1) s.ghi)) (Qac (Qb5 [.int .i64 0]) (List.replicate (Int.toNat (Int.tdiv (days+s.ghi - 1) s.ghi)) ())))),(26,Qai.eval {out:=OO.ret (.int .i64 (↑(min 1 (Int.toNat (Int.tdiv (days+s.ghi - 1) s.ghi))):Int)),H:=[(6,Obj.cells (Qac (cpE [.int .i64 s.ghi] [.int .i64 0]) (Qgd true false (Int.toNat (Int.tdiv (days+s.ghi - 1) s.ghi)) (min 1 (Int.toNat (Int.tdiv (days+s.ghi - 1) s.ghi))))) 3),(5,Obj.cells #[.int .i64 s.ghi] 3),(4,Obj.coro none),(3,Obj.cells #[.slice none 0 0,.slice none 0 0,.slice none 0 0] 65),(2,Obj.cells #[Value.func (Fn.func 104) #[] #[]] 101),(1,Obj.cells (QbT s load days) 122),(0,Obj.coro none)],n:=7,R:=[6,5],W:=[6]})] 0 [] []) [7,8] [] [(6,KS.cells [] (Qac (cpE [.int .i64 s.ghi] [.int .i64 0]) (Qgd true false (Int.toNat (Int.tdiv (days+s.ghi - 1) s.ghi)) (min 1 (Int.toNat (Int.tdiv (days+s.ghi - 1) s.ghi))))))] []=some ⟨161,48,QdB,[],.run,none,QdC s load days ((↑(min 1 (Int.toNat (Int.tdiv (days+s.ghi - 1) s.ghi))):Int)) (Qgd true false (Int.toNat (Int.tdiv (days+s.ghi - 1) s.ghi)) (min 1 (Int.toNat (Int.tdiv (days+s.ghi - 1) s.ghi)))),([]:List Nat).zip (QdE s load days ((↑(min 1 (Int.toNat (Int.tdiv (days+s.ghi - 1) s.ghi))):Int)) (Qgd true false (Int.toNat (Int.tdiv (days+s.ghi - 1) s.ghi)) (min 1 (Int.toNat (Int.tdiv (days+s.ghi - 1) s.ghi))))),QbY s load days ((↑(min 1 (Int.toNat (Int.tdiv (days+s.ghi - 1) s.ghi))):Int)) (Qgd true false (Int.toNat (Int.tdiv (days+s.ghi - 1) s.ghi)) (min 1 (Int.toNat (Int.tdiv (days+s.ghi - 1) s.ghi)))),
 [QeR 6 [] (Qac (cpE [.int .i64 s.ghi] [.int .i64 0]) (Qgd true false (Int.toNat (Int.tdiv (days+s.ghi - 1) s.ghi)) (min 1 (Int.toNat (Int.tdiv (days+s.ghi - 1) s.ghi))))) (Qac (cpE [.int .i64 s.ghi] [.int .i64 0]) (Qgd true false (Int.toNat (Int.tdiv (days+s.ghi - 1) s.ghi)) (min 1 (Int.toNat (Int.tdiv (days+s.ghi - 1) s.ghi))))),opS Tryz.prog (Qaw Tryz.prog) Qby (fun x x_1 x_2=> none) {len:=16000,tr:=Tri.set 14 (Tri.set 14 Tri.lf 32 (.slice (some {block:=5,off:=0}) 1 1)) 31 (.slice (some {block:=6,off:=0}) (Int.toNat (Int.tdiv (days+s.ghi - 1) s.ghi)) 1)} {dst:=some 33,op:=Op.call {callee:=Callee.builtin Builtin.copy,args:=#[Operand.tmp 31,Operand.tmp 32],argTypes:=#[22,22]},type:=3,pos:= "slices.go:526",after:=#[{on:=0,ground:=Ground.data},{on:=1,ground:=Ground.data}],guard:=none} [(6,Obj.cells (Qac (Qb5 [.int .i64 0]) (List.replicate (Int.toNat (Int.tdiv (days+s.ghi - 1) s.ghi)) ())) 3),(5,Obj.cells #[.int .i64 s.ghi] 3),(4,Obj.coro none),(3,Obj.cells #[.slice none 0 0,.slice none 0 0,.slice none 0 0] 65),(2,Obj.cells #[Value.func (Fn.func 104) #[] #[]] 101),(1,Obj.cells (QbT s load days) 122),(0,Obj.coro none)] 7=some {out:=OO.ret (.int .i64 (↑(min 1 (Int.toNat (Int.tdiv (days+s.ghi - 1) s.ghi))):Int)),H:=[(6,Obj.cells (Qac (cpE [.int .i64 s.ghi] [.int .i64 0]) (Qgd true false (Int.toNat (Int.tdiv (days+s.ghi - 1) s.ghi)) (min 1 (Int.toNat (Int.tdiv (days+s.ghi - 1) s.ghi))))) 3),(5,Obj.cells #[.int .i64 s.ghi] 3),(4,Obj.coro none),(3,Obj.cells #[.slice none 0 0,.slice none 0 0,.slice none 0 0] 65),(2,Obj.cells #[Value.func (Fn.func 104) #[] #[]] 101),(1,Obj.cells (QbT s load days) 122),(0,Obj.coro none)],n:=7,R:=[6,5],W:=[6]},Qf6 Tryz.prog 22 (QbR {len:=16000,tr:=Tri.set 14 Tri.lf 29 (.int .i64 (Int.tdiv (days+s.ghi - 1) s.ghi))} 29) (QbR {len:=16000,tr:=Tri.set 14 Tri.lf 29 (.int .i64 (Int.tdiv (days+s.ghi - 1) s.ghi))} 29)=some (3,Qac (Qb5 [.int .i64 0]) (List.replicate (Int.toNat (Int.tdiv (days+s.ghi - 1) s.ghi)) ()),Int.toNat (Int.tdiv (days+s.ghi - 1) s.ghi),TypeInfo.size Tryz.t3),IntKind.wrap .i64 (Int.tdiv (days+s.ghi - 1) s.ghi)=Int.tdiv (days+s.ghi - 1) s.ghi,decide (Int.tdiv (days+s.ghi - 1) s.ghi > 9223372036854775807)=false,Qaz []/\Qao Tryz.prog J0 168 #[Value.int IntKind.u64 1,Value.int IntKind.u64 (Int.tdiv (days+s.ghi - 1) s.ghi)] (.tuple #[Value.int IntKind.u64 0,Value.int IntKind.u64 (Int.tdiv (days+s.ghi - 1) s.ghi)]),IntKind.wrap IntKind.u64 (Int.tdiv (days+s.ghi - 1) s.ghi)=Int.tdiv (days+s.ghi - 1) s.ghi,ltq (Int.tdiv (days+s.ghi - 1) s.ghi) 0=false]⟩:=by kernel_rfl
def QcB (s:Qaa) (load days:Int):Qar:=[(6,Obj.coro none),(5,Obj.cells #[.int .i64 s.ghi] 3),(4,Obj.coro none),(3,Obj.cells #[.slice none 0 0,.slice none 0 0,.slice none 0 0] 65),(2,Obj.cells #[Value.func (Fn.func 104) #[] #[]] 101),(1,Obj.cells #[Qay 0 (slT s.stock.length (Qac Qa1 s.stock)),Qay 0 (slT s.use.length (Qac QaD s.use)),.int .i64 s.glo,.int .i64 s.ghi,Qay 0 (slT s.lots.length (Qac Qaq s.lots)),.int .i64 s.hold,.int .i64 load,.int .i64 days] 122),(0,Obj.coro none)]
def QeK (s:Qaa) (load days:Int):CF:=⟨162,ofList 26 [Qay 0 (slT s.lots.length (Qac Qaq s.lots)),Value.func (Fn.func 163) #[] #[pA 2 0]],[Item.code (Qan Tryz.prog 162)],[],.run,none⟩
def QdH (s:Qaa) (load days:Int) (i:Int) (zs:List Row):List Value:=[Value.func (Fn.func 163) #[] #[pA 2 0],.slice (some {block:=8,off:=0}) s.lots.length 1,Qay 0 (slT s.lots.length (Qac Qaq s.lots)),.int .i64 (↑s.lots.length:Int),.int .i64 i]
def QdA (s:Qaa) (load days:Int) (i:Int) (zs:List Row):List Obj:=[]
def Qca (s:Qaa) (load days:Int) (i:Int) (zs:List Row):List Obj:=[.cells (Qac (Qa9 7 Qas) zs) 22 (0,0)]
def Qd7:List Item:=([.code [1,1,0,1,0,0],.inLoop [1,1,0,1,0,0],.inBlock 0,.code [1,1,1]]).map (it (Qan Tryz.prog 162))
def Qfw (s:Qaa) (load days:Int) (i:Int) (zs:List Row) (dJ0:Nat->Value):Qar:=[(9,Obj.cells #[Qay 0 (slT (List.length (Qag.goods (s.lots.getD i.toNat default))) (Qac QaD (Qag.goods (s.lots.getD i.toNat default)))),.int .i64 (Qag.weight (s.lots.getD i.toNat default)),.int .i64 (Qag.cost (s.lots.getD i.toNat default))] 118),(7,Obj.coro none),(8,Obj.cells (Qac (Qa9 7 Qas) zs) 22),(6,Obj.coro none),(5,Obj.cells #[.int .i64 s.ghi] 3),(4,Obj.coro none),(3,Obj.cells #[.slice none 0 0,.slice none 0 0,.slice none 0 0] 65),(2,Obj.cells #[Value.func (Fn.func 104) #[] #[]] 101),(1,Obj.cells #[Qay 0 (slT s.stock.length (Qac Qa1 s.stock)),Qay 0 (slT s.use.length (Qac QaD s.use)),.int .i64 s.glo,.int .i64 s.ghi,Qay 0 (slT s.lots.length (Qac Qaq s.lots)),.int .i64 s.hold,.int .i64 load,.int .i64 days] 122),(0,Obj.coro none)]
def QgW (s:Qaa) (load days:Int) (i:Int) (zs:List Row) (dJ0:Nat->Value):CF:=⟨163,ofList 8 [.agg #[Qay 0 (slT (List.length (Qag.goods (s.lots.getD i.toNat default))) (Qac QaD (Qag.goods (s.lots.getD i.toNat default)))),.int .i64 (Qag.weight (s.lots.getD i.toNat default)),.int .i64 (Qag.cost (s.lots.getD i.toNat default))],pA 2 0],[Item.code (Qan Tryz.prog 163)],[],.run,none⟩
theorem Quy (B:Lo) (s:Qaa) (load days:Int) (i:Int) (zs:List Row) (dJ0:Nat->Value):CE.finK 10 (Qak Tryz.prog (Qaw Tryz.prog) J0 B 6 10 (QgW s load days i zs dJ0) (Qfw s load days i zs dJ0) 10
 [(5,Qai.pure (slT (List.length (List.map Span.lo (Qag.goods (s.lots.getD i.toNat default)))) (Qac Qa1 (List.map Span.lo (Qag.goods (s.lots.getD i.toNat default))))) [])] 0 [] []) [] [] []=some (OO.ret (Qay 10 (slT (List.length (List.map Span.lo (Qag.goods (s.lots.getD i.toNat default)))) (Qac Qa1 (List.map Span.lo (Qag.goods (s.lots.getD i.toNat default)))))),[],[],
 [Qaz []/\Qao Tryz.prog J0 160 #[slT (List.length (Qag.goods (s.lots.getD i.toNat default))) (Qac QaD (Qag.goods (s.lots.getD i.toNat default))),Value.func (Fn.func 104) #[] #[]] (slT (List.length (List.map Span.lo (Qag.goods (s.lots.getD i.toNat default)))) (Qac Qa1 (List.map Span.lo (Qag.goods (s.lots.getD i.toNat default)))))]):=by kernel_rfl
theorem Qu5 (B:Lo) (s:Qaa) (load days:Int) (i:Int) (zs:List Row) (dJ0:Nat->Value):CE.landA 7 (Qak Tryz.prog (Qaw Tryz.prog) J0 B 13 7 (QbX (none) 162 26 (([1,5,11,12,13]:List Nat).zip (QdH s load days i zs)) dJ0 Qd7) (Qbx (QcB s load days) 7 (([]:List Nat).zip (QdA s load days i zs)) (Qca s load days i zs)) (7+1+(Qca s load days i zs).length)
 [(0,hvT),(2,Qai.tidx i.toNat #[slT (List.length (Qag.goods (s.lots.getD i.toNat default))) (Qac QaD (Qag.goods (s.lots.getD i.toNat default))),.int .i64 (Qag.weight (s.lots.getD i.toNat default)),.int .i64 (Qag.cost (s.lots.getD i.toNat default))]),(11,Qai.call (List.range 10) (OO.ret (Qi6 s i)) ([]++(10,Qbq)::QaG 11 []) 11 []),(12,Qai.old (Hint.idx i.toNat)),(13,Qai.old (Hint.st (splice (Qac (Qa9 7 Qas) zs) (0+Int.toNat i * 1) (Qje s i)))),(14,hvI (i+1))] 0 [] []) [1,5,11,12,13] [] [(8,KS.rows [(7,7),(10,7)] [] (Qac (Qa9 7 Qas) (List.set zs i.toNat (List.map Span.lo (Qag.goods (s.lots.getD i.toNat default))))))] []=some ⟨162,26,Qd7,[],.run,none,QdH s load days (i+1) (List.set zs i.toNat (List.map Span.lo (Qag.goods (s.lots.getD i.toNat default)))),([]:List Nat).zip (QdA s load days (i+1) (List.set zs i.toNat (List.map Span.lo (Qag.goods (s.lots.getD i.toNat default))))),Qca s load days (i+1) (List.set zs i.toNat (List.map Span.lo (Qag.goods (s.lots.getD i.toNat default)))),
 [Qbi 7 [(7,7),(10,7)] [] (splice (Qac (Qa9 7 Qas) zs) (0+Int.toNat i * 1) (Qje s i)) (Qac (Qa9 7 Qas) (List.set zs i.toNat (List.map Span.lo (Qag.goods (s.lots.getD i.toNat default))))),wq (i+1)=i+1,0+Int.toNat i * 1+TypeInfo.size Tryz.t22<=Array.size (Qac (Qa9 7 Qas) zs)/\splice (Qac (Qa9 7 Qas) zs) (0+Int.toNat i * 1) (Value.cells (QbR {len:=16000,tr:=Tri.set 14 (Tri.set 14 Tri.lf 22 (Qi6 s i)) 23 (.pointer (some {block:=8,off:=0+Int.toNat i * 1}))} 22))=splice (Qac (Qa9 7 Qas) zs) (0+Int.toNat i * 1) (Qje s i),i=(↑i.toNat:Int)/\Int.toNat i < List.length s.lots,FJ Tryz.prog B (QgW s load days i zs dJ0) (Qfw s load days i zs dJ0) 10 (OO.ret (Qi6 s i)) (([]++((10,Qbq)::QaG (10+1) []))++Qfw s load days i zs dJ0) 11 (List.range 10) [],i=(↑i.toNat:Int)/\Int.toNat i < List.length s.lots/\Array.extract (Qac Qaq s.lots) (Int.toNat i * TypeInfo.size Tryz.t118) (Int.toNat i * TypeInfo.size Tryz.t118+TypeInfo.size Tryz.t118)=#[slT (List.length (Qag.goods (s.lots.getD i.toNat default))) (Qac QaD (Qag.goods (s.lots.getD i.toNat default))),.int .i64 (Qag.weight (s.lots.getD i.toNat default)),.int .i64 (Qag.cost (s.lots.getD i.toNat default))],ltq i (↑s.lots.length:Int)=true]⟩:=by kernel_rfl
theorem Qvq (B:Lo) (s:Qaa) (load days:Int) (i:Int) (zs:List Row) (dJ0:Nat->Value):CE.finK 7 (Qak Tryz.prog (Qaw Tryz.prog) J0 B 9 7 (QbX (none) 162 26 (([1,5,11,12,13]:List Nat).zip (QdH s load days i zs)) dJ0 Qd7) (Qbx (QcB s load days) 7 (([]:List Nat).zip (QdA s load days i zs)) (Qca s load days i zs)) (7+1+(Qca s load days i zs).length)
 [(0,hvF)] 0 [] []) [] [] [{k:=8,rs:=[7],cs:=Qac Qas zs}]=some (OO.ret (Qay 7 (slT s.lots.length (Fz.cs {k:=8,rs:=[7],cs:=Qac Qas zs}))),[],[],
 [Qct (Fz.rs {k:=8,rs:=[7],cs:=Qac Qas zs}) (Qac (Qa9 7 Qas) zs) (Fz.cs {k:=8,rs:=[7],cs:=Qac Qas zs}),ltq i (↑s.lots.length:Int)=false]):=by kernel_rfl
set_option maxHeartbeats 4000000 in
theorem QnH (s:Qaa) (load days:Int) (hs:Qa0 s=true) (hd:0<=days/\days<=300) (q0:¬((Int.tdiv (days+s.ghi - 1) s.ghi:Int) < (0))) (q1:(decide (Int.tdiv (days+s.ghi - 1) s.ghi > 9223372036854775807))=false) {B:Lo} (hJ:∀w,B.has w->J0 w):∀m:Nat,(∀(i:Int) (zs:List Row),s.lots.length - i.toNat=m->∀(i0:0<=i) (hz:zs=QfU (fun (l:Qag)=> (l.goods.map Span.lo:Row)) [] s.lots i),(∃dJ0:Nat->Value,(∀t,Qbb (dJ0 t))/\GoE Tryz.prog B (QeK s load days) (QcB s load days) 7 (QbX (none) 162 26 (([1,5,11,12,13]:List Nat).zip (QdH s load days i zs)) dJ0 Qd7) (Qbx (QcB s load days) 7 (([]:List Nat).zip (QdA s load days i zs)) (Qca s load days i zs)) (7+1+(Qca s load days i zs).length) ([]:List Nat))->FinK Tryz.prog B (QeK s load days) (QcB s load days) 7 (.ret (Qay 7 (slR (s.lots.map (fun (l:Qag)=> (l.goods.map Span.lo:Row)))))) (([]:List Nat).zip ([])) ([]) ([]:List Nat)):=by
 intro m0
 induction m0 using Nat.strongRecOn with
 | _ m0 ih0=>
   intro i zs hm0 i0 hz ⟨dJ0,hdJ0,hg0⟩
   have hgp:=QaS hs
   have hst:=Qa5 hs
   have hlo:=QaL hs
   have hqf:=Qco (g:=s.ghi) hd (by omega)
   have hlo:=QaL hs
   have hst:=Qa5 hs
   have hzl:zs.length=s.lots.length:=by rw [hz];exact Qdl
   by_cases q2:(i:Int) < ((↑s.lots.length:Int))
   ·
    have rj2:FJ Tryz.prog B (QgW s load days i zs dJ0) (Qfw s load days i zs dJ0) 10 (OO.ret (Qay 10 (slT (List.length (List.map Span.lo (Qag.goods (s.lots.getD i.toNat default)))) (Qac Qa1 (List.map Span.lo (Qag.goods (s.lots.getD i.toNat default))))))) (([]++((10,Qbq)::QaG (10+1) []))++Qfw s load days i zs dJ0) 11 (List.range 10) []:=by
     have hgl:(s.lots.getD i.toNat default).goods.length<=4:=by have:=hlo.2 _ (QaJ i0 (by assumption));simp only [QmE,Bool.and_eq_true,decide_eq_true_iff] at this;omega
     exact FinK.fjB (GoE.finK okF hJ Qab (Qal (by kernel_rfl)) (Qaf (by kernel_rfl)) ((GoE.refl (P:=Tryz.prog) (B:=B) (c0:=QgW s load days i zs dJ0) (Qal (by kernel_rfl))).widen (Wf:=((([]):List (Nat×KS)).map (·.1))) (by simp) (Qaf (by kernel_rfl))) (Quy B s load days i zs dJ0)
      ⟨⟨trivial,QyT (Qag.goods (s.lots.getD i.toNat default)) (by omega)⟩,trivial⟩) (ex:=[8]) (by kernel_rfl) ⟨trivial,⟨trivial,⟨(QeG (t:=22) (fl:=(0,0)) (Qbt (fun _=> rfl)) (by decide)),⟨trivial,⟨trivial,⟨trivial,⟨trivial,⟨trivial,⟨trivial,⟨trivial,trivial⟩⟩⟩⟩⟩⟩⟩⟩⟩⟩
    have hgl:(s.lots.getD i.toNat default).goods.length<=4:=by have:=hlo.2 _ (QaJ i0 (by assumption));simp only [QmE,Bool.and_eq_true,decide_eq_true_iff] at this;omega
    exact ((ih0 _ (by omega)) (i+1) (List.set zs i.toNat (List.map Span.lo (Qag.goods (s.lots.getD i.toNat default)))) rfl (by omega) (by (subst hz;exact Qdh (f:=(fun (l:Qag)=> (l.goods.map Span.lo:Row))) i0 (by assumption)))
     (GoE.landA okF hJ Qab (Qal (by kernel_rfl)) (Qaf (by kernel_rfl)) hg0 (Qu5 B s load days i zs dJ0)
     ⟨(by exact (Qh9 (z:=1) (fun _=> rfl) (Qb1 (Qbt (fun _=> rfl)) (List.Mem.head _)) (by omega) (by exact ⟨(.reg (List.Mem.tail _ (List.Mem.head _)) rfl),trivial⟩))),⟨(QaV (by omega) (by omega)),⟨⟨(by exact Qrn (z:=1) (fun _=> rfl) (by omega)),rfl⟩,⟨⟨by omega,by omega⟩,⟨rj2,⟨⟨by omega,by omega,(Qaj (z:=3) (fun _=> rfl) (by omega))⟩,⟨(Qbn q2),trivial⟩⟩⟩⟩⟩⟩⟩ (by kernel_rfl) (by kernel_rfl) (fun l hl=> by cases hl <;> decide))).cast (by rfl) (by rfl) (by rfl)
   ·
    exact (GoE.finK okF hJ Qab (Qal (by kernel_rfl)) (Qaf (by kernel_rfl)) hg0 (Qvq B s load days i zs dJ0)
     ⟨(Qe0 (Qbt (fun _=> rfl)) (List.Mem.head _)),⟨(Qbk (Int.not_lt.1 q2)),trivial⟩⟩).cast (by exact congrArg (fun v=> OO.ret (Qay 7 v)) (QeM (hz.trans (Qda (by omega))) (by simp))) (by rfl) (by rfl)

theorem QvJ (B:Lo) (s:Qaa) (load days:Int):CE.landA 7 (Qak Tryz.prog (Qaw Tryz.prog) J0 B 9 7 (QeK s load days) (QcB s load days) 7
 [(3,Qai.old (Hint.mk s.lots.length (Qac (Qb5 [.slice none 0 0]) (List.replicate s.lots.length ()))))] 0 [] []) [1,5,11,12,13] [] [(7,KS.rows [] [] (Qac (Qa9 7 Qas) (List.replicate s.lots.length [])))] []=some ⟨162,26,Qd7,[],.run,none,QdH s load days (0) (List.replicate s.lots.length []),([]:List Nat).zip (QdA s load days (0) (List.replicate s.lots.length [])),Qca s load days (0) (List.replicate s.lots.length []),
 [Qbi 7 [] [] (Qac (Qb5 [.slice none 0 0]) (List.replicate s.lots.length ())) (Qac (Qa9 7 Qas) (List.replicate s.lots.length [])),Qf6 Tryz.prog 63 (QbR {len:=16000,tr:=Tri.set 14 Tri.lf 9 (.int .i64 (↑s.lots.length:Int))} 9) (QbR {len:=16000,tr:=Tri.set 14 Tri.lf 9 (.int .i64 (↑s.lots.length:Int))} 9)=some (22,Qac (Qb5 [.slice none 0 0]) (List.replicate s.lots.length ()),List.length s.lots,TypeInfo.size Tryz.t22)]⟩:=by kernel_rfl
theorem Qv3 (B:Lo) (s:Qaa) (load days:Int):QaK (Qak Tryz.prog (Qaw Tryz.prog) J0 B 8 1 (Qae Tryz.prog 150 31 (([.agg (Qa7 s load days).toArray,.func (.func 104) #[] #[],.func (.func 103) #[] #[]]).map (Qam 0 4))) H00 1
 [(7,Qai.pure (.int .i64 s.ghi) []),(13,Qai.pure (slT (List.length (List.map Span.hi s.use)) (Qac Qa1 (List.map Span.hi s.use))) []),(19,Qai.pure (.int .i64 (Int.tdiv (days+s.ghi - 1) s.ghi)) []),(20,Qai.call (List.range 6) (OO.ret (Qay 6 (slT (List.length (List.replicate (Int.toNat (Int.tdiv (days+s.ghi - 1) s.ghi)) s.ghi)) (Qac Qa1 (List.replicate (Int.toNat (Int.tdiv (days+s.ghi - 1) s.ghi)) s.ghi))))) ([]++(6,Qbq)::QaG 7 []) 7 []),(25,Qai.call (List.range 7) (OO.ret (Qay 7 (slT (List.length (List.map (fun l=> List.map Span.lo l.goods) s.lots)) (Qac Qas (List.map (fun l=> List.map Span.lo l.goods) s.lots))))) ([]++(7,Qbq)::QaG 8 []) 8 [])] 0 [] []) []=some (.agg #[slT (List.length (List.map Span.hi s.use)) (Qac Qa1 (List.map Span.hi s.use)),slT (List.length (List.replicate (Int.toNat (Int.tdiv (days+s.ghi - 1) s.ghi)) s.ghi)) (Qac Qa1 (List.replicate (Int.toNat (Int.tdiv (days+s.ghi - 1) s.ghi)) s.ghi)),slT (List.length (List.map (fun l=> List.map Span.lo l.goods) s.lots)) (Qac Qas (List.map (fun l=> List.map Span.lo l.goods) s.lots))],
 [FJ Tryz.prog B (QeK s load days) (QcB s load days) 7 (OO.ret (Qay 7 (slT (List.length (List.map (fun l=> List.map Span.lo l.goods) s.lots)) (Qac Qas (List.map (fun l=> List.map Span.lo l.goods) s.lots))))) (([]++((7,Qbq)::QaG (7+1) []))++QcB s load days) 8 (List.range 7) [],FJ Tryz.prog B (QeJ s load days) (Qc4 s load days) 6 (OO.ret (Qay 6 (slT (List.length (List.replicate (Int.toNat (Int.tdiv (days+s.ghi - 1) s.ghi)) s.ghi)) (Qac Qa1 (List.replicate (Int.toNat (Int.tdiv (days+s.ghi - 1) s.ghi)) s.ghi))))) (([]++((6,Qbq)::QaG (6+1) []))++Qc4 s load days) 7 (List.range 6) [],Qaz []/\Qao Tryz.prog J0 132 #[.int .i64 days,.int .i64 s.ghi] (.int .i64 (Int.tdiv (days+s.ghi - 1) s.ghi)),Qaz []/\Qao Tryz.prog J0 160 #[slT s.use.length (Qac QaD s.use),Value.func (Fn.func 103) #[] #[]] (slT (List.length (List.map Span.hi s.use)) (Qac Qa1 (List.map Span.hi s.use))),Qaz []/\Qao Tryz.prog J0 103 #[.agg #[.int .i64 s.glo,.int .i64 s.ghi]] (.int .i64 s.ghi)]):=by kernel_rfl
set_option maxHeartbeats 4000000 in
theorem Qwn (s:Qaa) (load days:Int) (hs:Qa0 s=true) (hd:0<=days/\days<=300) {B:Lo} (hJ:∀w,B.has w->J0 w):EndsT Tryz.prog B (Qae Tryz.prog 150 31 (([.agg (Qa7 s load days).toArray,.func (.func 104) #[] #[],.func (.func 103) #[] #[]]).map (Qam 0 4))) (.agg (Qa2 (Qax Span.lo Span.hi s days)).toArray):=by
 have hgp:=QaS hs
 have hst:=Qa5 hs
 have hlo:=QaL hs
 have hqf:=Qco (g:=s.ghi) hd (by omega)
 by_cases q0:(Int.tdiv (days+s.ghi - 1) s.ghi:Int) < (0)
 ·
  exfalso
  (have hgp:=QaS hs;have hqf:=Qco (g:=s.ghi) hd (by omega);omega)
 ·
  cases q1:decide (Int.tdiv (days+s.ghi - 1) s.ghi > 9223372036854775807) with
  | true=>
    exfalso
    (have hgp:=QaS hs;have hqf:=Qco (g:=s.ghi) hd (by omega);have q9:=of_decide_eq_true q1;omega)
  | false=>
    have rj0:FJ Tryz.prog B (QeJ s load days) (Qc4 s load days) 6 (OO.ret (Qay 6 (slT (List.length (List.replicate (Int.toNat (Int.tdiv (days+s.ghi - 1) s.ghi)) s.ghi)) (Qac Qa1 (List.replicate (Int.toNat (Int.tdiv (days+s.ghi - 1) s.ghi)) s.ghi))))) (([]++((6,Qbq)::QaG (6+1) []))++Qc4 s load days) 7 (List.range 6) []:=by
     exact FinK.fjB ((QnV s load days hs hd hJ _) ((↑(min 1 (Int.toNat (Int.tdiv (days+s.ghi - 1) s.ghi))):Int)) (Qgd true false (Int.toNat (Int.tdiv (days+s.ghi - 1) s.ghi)) (min 1 (Int.toNat (Int.tdiv (days+s.ghi - 1) s.ghi)))) rfl (by omega) (by omega) (by omega) (by (rw [Int.toNat_natCast]))
      (GoE.landA okF hJ Qab (Qal (by kernel_rfl)) (Qaf (by kernel_rfl)) ((GoE.refl (P:=Tryz.prog) (B:=B) (c0:=QeJ s load days) (Qal (by kernel_rfl))).widen (Wf:=((([]):List (Nat×KS)).map (·.1))) (by simp) (Qaf (by kernel_rfl))) (Qvl B s load days)
      ⟨(QaY (Qbj (fun x=> List.all_eq_true.1 (by (cases x <;> rfl))))),⟨(QnM (z:=1) rfl rfl rfl rfl rfl rfl rfl rfl rfl rfl (by decide) (by decide) rfl rfl (QoO rfl rfl rfl rfl rfl)),⟨(QfE (bytes:=8) (by kernel_rfl) (by omega) (by omega) (by omega)),⟨(QiJ (by omega) (by omega)),⟨q1,⟨⟨trivial,Q5o (Int.tdiv (days+s.ghi - 1) s.ghi) (by omega) (by omega)⟩,⟨(IntWalk.u64_in _ ⟨by omega,by omega⟩),⟨(Qbk (Int.not_lt.1 q0)),trivial⟩⟩⟩⟩⟩⟩⟩⟩ (by kernel_rfl) (by kernel_rfl) (fun l hl=> by cases hl <;> decide))) (ex:=[]) (by kernel_rfl) (Qbu _)
    have rj1:FJ Tryz.prog B (QeK s load days) (QcB s load days) 7 (OO.ret (Qay 7 (slT (List.length (List.map (fun l=> List.map Span.lo l.goods) s.lots)) (Qac Qas (List.map (fun l=> List.map Span.lo l.goods) s.lots))))) (([]++((7,Qbq)::QaG (7+1) []))++QcB s load days) 8 (List.range 7) []:=by
     exact FinK.fjB ((QnH s load days hs hd q0 q1 hJ _) (0) (List.replicate s.lots.length []) rfl (by omega) (by exact Qfq)
      (GoE.landA okF hJ Qab (Qal (by kernel_rfl)) (Qaf (by kernel_rfl)) ((GoE.refl (P:=Tryz.prog) (B:=B) (c0:=QeK s load days) (Qal (by kernel_rfl))).widen (Wf:=((([]):List (Nat×KS)).map (·.1))) (by simp) (Qaf (by kernel_rfl))) (QvJ B s load days)
      ⟨(by exact (QbA (by exact ⟨.nil,trivial⟩) _)),⟨(QfE (bytes:=24) (by kernel_rfl) (by omega) (by omega) (by omega)),trivial⟩⟩ (by kernel_rfl) (by kernel_rfl) (fun l hl=> by cases hl <;> decide))) (ex:=[]) (by kernel_rfl) (Qbu _)
    exact (GoE.endsT okF hJ Qab GoE.start (Qv3 B s load days)
     ⟨rj1,⟨rj0,⟨⟨trivial,QwH (days) s.ghi (by omega) (by omega)⟩,⟨⟨trivial,Qwe s.use (by omega)⟩,⟨⟨trivial,Q4k s.glo s.ghi⟩,trivial⟩⟩⟩⟩⟩).cast (by rfl)
theorem Q25 (s:Qaa) (load days:Int) (hs:Qa0 s=true) (hd:0<=days/\days<=300):Qao Tryz.prog J0 150 #[.agg (Qa7 s load days).toArray,.func (.func 104) #[] #[],.func (.func 103) #[] #[]] (.agg (Qa2 (Qax Span.lo Span.hi s days)).toArray):=
 Qa8 (ts:=[.agg (Qa7 s load days).toArray,.func (.func 104) #[] #[],.func (.func 103) #[] #[]]) Qbr (c0:=Qae Tryz.prog 150 31 (([.agg (Qa7 s load days).toArray,.func (.func 104) #[] #[],.func (.func 103) #[] #[]]).map (Qam 0 4))) (by kernel_rfl) (by kernel_rfl) fun B hJ=> Qwn s load days hs hd hJ
def Qc5 (s:Qaa) (load days:Int):Qar:=[(5,Obj.cells #[.int .i64 s.glo] 3),(4,Obj.coro none),(3,Obj.cells #[.slice none 0 0,.slice none 0 0,.slice none 0 0] 65),(2,Obj.cells #[Value.func (Fn.func 103) #[] #[]] 101),(1,Obj.cells #[Qay 0 (slT s.stock.length (Qac Qa1 s.stock)),Qay 0 (slT s.use.length (Qac QaD s.use)),.int .i64 s.glo,.int .i64 s.ghi,Qay 0 (slT s.lots.length (Qac Qaq s.lots)),.int .i64 s.hold,.int .i64 load,.int .i64 days] 122),(0,Obj.coro none)]
def QeB (s:Qaa) (load days:Int):CF:=⟨161,ofList 48 [.slice (some {block:=5,off:=0}) 1 1,.int .i64 (Int.tdiv (days+s.glo - 1) s.glo)],[Item.code (Qan Tryz.prog 161)],[],.run,none⟩
def QdF (s:Qaa) (load days:Int) (j:Int) (ys:List Bool):List Value:=[.slice (some {block:=7,off:=0}) (Int.toNat (Int.tdiv (days+s.glo - 1) s.glo)) 1,.int .i64 j]
def Qd9 (s:Qaa) (load days:Int) (j:Int) (ys:List Bool):List Obj:=[]
def QbV (s:Qaa) (load days:Int) (j:Int) (ys:List Bool):List Obj:=[.cells (Qac (cpE [.int .i64 s.glo] [.int .i64 0]) ys) 3 (0,0)]
def Qd8:List Item:=([.code [1,1,1,1,1,1,0,0,0],.inLoop [1,1,1,1,1,1,0,0,0],.inBlock 0,.code [1,1,1,1,1,1,1]]).map (it (Qan Tryz.prog 161))
def QbS (s:Qaa) (load days:Int):Array Value:=#[Qay 0 (slT s.stock.length (Qac Qa1 s.stock)),Qay 0 (slT s.use.length (Qac QaD s.use)),.int .i64 s.glo,.int .i64 s.ghi,Qay 0 (slT s.lots.length (Qac Qaq s.lots)),.int .i64 s.hold,.int .i64 load,.int .i64 days]
def Qjj (s:Qaa) (i:Int):Array Value:=#[Qay 10 (slT (List.length (List.map Span.hi (Qag.goods (s.lots.getD i.toNat default)))) (Qac Qa1 (List.map Span.hi (Qag.goods (s.lots.getD i.toNat default)))))]
def Qi3 (s:Qaa) (i:Int):Value:=(Qay 10 (slT (List.length (List.map Span.hi (Qag.goods (s.lots.getD i.toNat default)))) (Qac Qa1 (List.map Span.hi (Qag.goods (s.lots.getD i.toNat default))))))
theorem QuK (B:Lo) (s:Qaa) (load days:Int) (j:Int) (ys:List Bool) (dJ0:Nat->Value):CE.landA 6 (Qak Tryz.prog (Qaw Tryz.prog) J0 B 9 6 (QbX (none) 161 48 (([7,8]:List Nat).zip (QdF s load days j ys)) dJ0 Qd8) (Qbx (Qc5 s load days) 6 (([]:List Nat).zip (Qd9 s load days j ys)) (QbV s load days j ys)) (6+1+(QbV s load days j ys).length)
 [(3,hvT),(7,Qai.eval {out:=OO.ret (.slice (some {block:=7,off:=0+Int.toNat j * 1}) (Int.toNat (Int.tdiv (days+s.glo - 1) s.glo) - Int.toNat j) 0),H:=[(6,Obj.coro none),(7,Obj.cells (Qac (cpE [.int .i64 s.glo] [.int .i64 0]) ys) 3),(5,Obj.cells #[.int .i64 s.glo] 3),(4,Obj.coro none),(3,Obj.cells #[.slice none 0 0,.slice none 0 0,.slice none 0 0] 65),(2,Obj.cells #[Value.func (Fn.func 103) #[] #[]] 101),(1,Obj.cells (QbS s load days) 122),(0,Obj.coro none)],n:=8,R:=[],W:=[]}),(10,Qai.eval {out:=OO.ret (.slice (some {block:=7,off:=0}) j.toNat 1),H:=[(6,Obj.coro none),(7,Obj.cells (Qac (cpE [.int .i64 s.glo] [.int .i64 0]) ys) 3),(5,Obj.cells #[.int .i64 s.glo] 3),(4,Obj.coro none),(3,Obj.cells #[.slice none 0 0,.slice none 0 0,.slice none 0 0] 65),(2,Obj.cells #[Value.func (Fn.func 103) #[] #[]] 101),(1,Obj.cells (QbS s load days) 122),(0,Obj.coro none)],n:=8,R:=[],W:=[]}),(11,Qai.eval {out:=OO.ret (.int .i64 (↑(min j.toNat (Int.toNat (Int.tdiv (days+s.glo - 1) s.glo) - Int.toNat j)):Int)),H:=[(6,Obj.coro none),(7,Obj.cells (Qac (cpE [.int .i64 s.glo] [.int .i64 0]) (QiS ys j.toNat (List.take (min j.toNat (Int.toNat (Int.tdiv (days+s.glo - 1) s.glo) - Int.toNat j)) (List.drop 0 ys)))) 3),(5,Obj.cells #[.int .i64 s.glo] 3),(4,Obj.coro none),(3,Obj.cells #[.slice none 0 0,.slice none 0 0,.slice none 0 0] 65),(2,Obj.cells #[Value.func (Fn.func 103) #[] #[]] 101),(1,Obj.cells (QbS s load days) 122),(0,Obj.coro none)],n:=8,R:=[7,7],W:=[7]}),(12,hvI (j+(↑(min j.toNat (Int.toNat (Int.tdiv (days+s.glo - 1) s.glo) - Int.toNat j)):Int)))] 0 [] []) [7,8] [] [(7,KS.cells [] (Qac (cpE [.int .i64 s.glo] [.int .i64 0]) (QiS ys j.toNat (List.take (min j.toNat (Int.toNat (Int.tdiv (days+s.glo - 1) s.glo) - Int.toNat j)) (List.drop 0 ys)))))] []=some ⟨161,48,Qd8,[],.run,none,QdF s load days (j+(↑(min j.toNat (Int.toNat (Int.tdiv (days+s.glo - 1) s.glo) - Int.toNat j)):Int)) (QiS ys j.toNat (List.take (min j.toNat (Int.toNat (Int.tdiv (days+s.glo - 1) s.glo) - Int.toNat j)) (List.drop 0 ys))),([]:List Nat).zip (Qd9 s load days (j+(↑(min j.toNat (Int.toNat (Int.tdiv (days+s.glo - 1) s.glo) - Int.toNat j)):Int)) (QiS ys j.toNat (List.take (min j.toNat (Int.toNat (Int.tdiv (days+s.glo - 1) s.glo) - Int.toNat j)) (List.drop 0 ys)))),QbV s load days (j+(↑(min j.toNat (Int.toNat (Int.tdiv (days+s.glo - 1) s.glo) - Int.toNat j)):Int)) (QiS ys j.toNat (List.take (min j.toNat (Int.toNat (Int.tdiv (days+s.glo - 1) s.glo) - Int.toNat j)) (List.drop 0 ys))),
 [QeR 6 [] (Qac (cpE [.int .i64 s.glo] [.int .i64 0]) (QiS ys j.toNat (List.take (min j.toNat (Int.toNat (Int.tdiv (days+s.glo - 1) s.glo) - Int.toNat j)) (List.drop 0 ys)))) (Qac (cpE [.int .i64 s.glo] [.int .i64 0]) (QiS ys j.toNat (List.take (min j.toNat (Int.toNat (Int.tdiv (days+s.glo - 1) s.glo) - Int.toNat j)) (List.drop 0 ys)))),wq (j+(↑(min j.toNat (Int.toNat (Int.tdiv (days+s.glo - 1) s.glo) - Int.toNat j)):Int))=j+(↑(min j.toNat (Int.toNat (Int.tdiv (days+s.glo - 1) s.glo) - Int.toNat j)):Int),opS Tryz.prog (Qaw Tryz.prog) Qby (fun x x_1 x_2=> none) {len:=16000,tr:=Tri.set 14 (Tri.set 14 Tri.lf 44 (.slice (some {block:=7,off:=0}) j.toNat 1)) 41 (.slice (some {block:=7,off:=0+Int.toNat j * 1}) (Int.toNat (Int.tdiv (days+s.glo - 1) s.glo) - Int.toNat j) 0)} {dst:=some 45,op:=Op.call {callee:=Callee.builtin Builtin.copy,args:=#[Operand.tmp 41,Operand.tmp 44],argTypes:=#[22,22]},type:=3,pos:= "slices.go:528",after:=#[{on:=3,ground:=Ground.data},{on:=6,ground:=Ground.data}],guard:=none} [(6,Obj.coro none),(7,Obj.cells (Qac (cpE [.int .i64 s.glo] [.int .i64 0]) ys) 3),(5,Obj.cells #[.int .i64 s.glo] 3),(4,Obj.coro none),(3,Obj.cells #[.slice none 0 0,.slice none 0 0,.slice none 0 0] 65),(2,Obj.cells #[Value.func (Fn.func 103) #[] #[]] 101),(1,Obj.cells (QbS s load days) 122),(0,Obj.coro none)] 8=some {out:=OO.ret (.int .i64 (↑(min j.toNat (Int.toNat (Int.tdiv (days+s.glo - 1) s.glo) - Int.toNat j)):Int)),H:=[(6,Obj.coro none),(7,Obj.cells (Qac (cpE [.int .i64 s.glo] [.int .i64 0]) (QiS ys j.toNat (List.take (min j.toNat (Int.toNat (Int.tdiv (days+s.glo - 1) s.glo) - Int.toNat j)) (List.drop 0 ys)))) 3),(5,Obj.cells #[.int .i64 s.glo] 3),(4,Obj.coro none),(3,Obj.cells #[.slice none 0 0,.slice none 0 0,.slice none 0 0] 65),(2,Obj.cells #[Value.func (Fn.func 103) #[] #[]] 101),(1,Obj.cells (QbS s load days) 122),(0,Obj.coro none)],n:=8,R:=[7,7],W:=[7]},opS Tryz.prog (Qaw Tryz.prog) Qby (fun x x_1 x_2=> none) {len:=16000,tr:=Tri.set 14 (Tri.set 14 Tri.lf 43 (.int .i64 j)) 42 (.slice (some {block:=7,off:=0}) (Int.toNat (Int.tdiv (days+s.glo - 1) s.glo)) 1)} {dst:=some 44,op:=Op.slice 22 (Operand.tmp 42) none (some (Operand.tmp 43)) none,type:=22,pos:= "slices.go:528",after:=#[{on:=4,ground:=Ground.data},{on:=5,ground:=Ground.data}],guard:=none} [(6,Obj.coro none),(7,Obj.cells (Qac (cpE [.int .i64 s.glo] [.int .i64 0]) ys) 3),(5,Obj.cells #[.int .i64 s.glo] 3),(4,Obj.coro none),(3,Obj.cells #[.slice none 0 0,.slice none 0 0,.slice none 0 0] 65),(2,Obj.cells #[Value.func (Fn.func 103) #[] #[]] 101),(1,Obj.cells (QbS s load days) 122),(0,Obj.coro none)] 8=some {out:=OO.ret (.slice (some {block:=7,off:=0}) j.toNat 1),H:=[(6,Obj.coro none),(7,Obj.cells (Qac (cpE [.int .i64 s.glo] [.int .i64 0]) ys) 3),(5,Obj.cells #[.int .i64 s.glo] 3),(4,Obj.coro none),(3,Obj.cells #[.slice none 0 0,.slice none 0 0,.slice none 0 0] 65),(2,Obj.cells #[Value.func (Fn.func 103) #[] #[]] 101),(1,Obj.cells (QbS s load days) 122),(0,Obj.coro none)],n:=8,R:=[],W:=[]},opS Tryz.prog (Qaw Tryz.prog) Qby (fun x x_1 x_2=> none) {len:=16000,tr:=Tri.set 14 (Tri.set 14 Tri.lf 40 (.int .i64 j)) 39 (.slice (some {block:=7,off:=0}) (Int.toNat (Int.tdiv (days+s.glo - 1) s.glo)) 1)} {dst:=some 41,op:=Op.slice 22 (Operand.tmp 39) (some (Operand.tmp 40)) none none,type:=22,pos:= "slices.go:528",after:=#[{on:=1,ground:=Ground.data},{on:=2,ground:=Ground.data}],guard:=none} [(6,Obj.coro none),(7,Obj.cells (Qac (cpE [.int .i64 s.glo] [.int .i64 0]) ys) 3),(5,Obj.cells #[.int .i64 s.glo] 3),(4,Obj.coro none),(3,Obj.cells #[.slice none 0 0,.slice none 0 0,.slice none 0 0] 65),(2,Obj.cells #[Value.func (Fn.func 103) #[] #[]] 101),(1,Obj.cells (QbS s load days) 122),(0,Obj.coro none)] 8=some {out:=OO.ret (.slice (some {block:=7,off:=0+Int.toNat j * 1}) (Int.toNat (Int.tdiv (days+s.glo - 1) s.glo) - Int.toNat j) 0),H:=[(6,Obj.coro none),(7,Obj.cells (Qac (cpE [.int .i64 s.glo] [.int .i64 0]) ys) 3),(5,Obj.cells #[.int .i64 s.glo] 3),(4,Obj.coro none),(3,Obj.cells #[.slice none 0 0,.slice none 0 0,.slice none 0 0] 65),(2,Obj.cells #[Value.func (Fn.func 103) #[] #[]] 101),(1,Obj.cells (QbS s load days) 122),(0,Obj.coro none)],n:=8,R:=[],W:=[]},ltq j (↑(Int.toNat (Int.tdiv (days+s.glo - 1) s.glo)):Int)=true]⟩:=by kernel_rfl
theorem Qu6 (B:Lo) (s:Qaa) (load days:Int) (j:Int) (ys:List Bool) (dJ0:Nat->Value):CE.finK 6 (Qak Tryz.prog (Qaw Tryz.prog) J0 B 9 6 (QbX (none) 161 48 (([7,8]:List Nat).zip (QdF s load days j ys)) dJ0 Qd8) (Qbx (Qc5 s load days) 6 (([]:List Nat).zip (Qd9 s load days j ys)) (QbV s load days j ys)) (6+1+(QbV s load days j ys).length)
 [(3,hvF)] 0 [] []) [] [] [{k:=7,rs:=[],cs:=Qac (cpE [.int .i64 s.glo] [.int .i64 0]) ys}]=some (OO.ret (Qay 6 (slT (Int.toNat (Int.tdiv (days+s.glo - 1) s.glo)) (Fz.cs {k:=7,rs:=[],cs:=Qac (cpE [.int .i64 s.glo] [.int .i64 0]) ys}))),[],[],
 [Qct (Fz.rs {k:=7,rs:=[],cs:=Qac (cpE [.int .i64 s.glo] [.int .i64 0]) ys}) (Qac (cpE [.int .i64 s.glo] [.int .i64 0]) ys) (Fz.cs {k:=7,rs:=[],cs:=Qac (cpE [.int .i64 s.glo] [.int .i64 0]) ys}),ltq j (↑(Int.toNat (Int.tdiv (days+s.glo - 1) s.glo)):Int)=false]):=by kernel_rfl
set_option maxHeartbeats 4000000 in
theorem QnB (s:Qaa) (load days:Int) (hs:Qa0 s=true) (hd:0<=days/\days<=300) {B:Lo} (hJ:∀w,B.has w->J0 w):∀m:Nat,(∀(j:Int) (ys:List Bool),(((days+s.glo - 1).tdiv s.glo) - j).toNat=m->∀(j0:0<=j) (j1:j<=((days+s.glo - 1).tdiv s.glo)) (j2:((days+s.glo - 1).tdiv s.glo)=0\/0 < j) (hy:ys=Qgd true false ((days+s.glo - 1).tdiv s.glo).toNat j.toNat),(∃dJ0:Nat->Value,(∀t,Qbb (dJ0 t))/\GoE Tryz.prog B (QeB s load days) (Qc5 s load days) 6 (QbX (none) 161 48 (([7,8]:List Nat).zip (QdF s load days j ys)) dJ0 Qd8) (Qbx (Qc5 s load days) 6 (([]:List Nat).zip (Qd9 s load days j ys)) (QbV s load days j ys)) (6+1+(QbV s load days j ys).length) ([]:List Nat))->FinK Tryz.prog B (QeB s load days) (Qc5 s load days) 6 (.ret (Qay 6 (slI (List.replicate ((days+s.glo - 1).tdiv s.glo).toNat s.glo)))) (([]:List Nat).zip ([])) ([]) ([]:List Nat)):=by
 intro m0
 induction m0 using Nat.strongRecOn with
 | _ m0 ih0=>
   intro j ys hm0 j0 j1 j2 hy ⟨dJ0,hdJ0,hg0⟩
   have hgp:=QaS hs
   have hst:=Qa5 hs
   have hlo:=QaL hs
   have hqf:=Qco (g:=s.glo) hd (by omega)
   have hgp:=QaS hs
   have hqf:=Qco (g:=s.glo) hd (by omega)
   have hyl:ys.length=((days+s.glo - 1).tdiv s.glo).toNat:=by rw [hy];exact Qtw (by omega)
   by_cases q0:(j:Int) < ((↑(Int.toNat (Int.tdiv (days+s.glo - 1) s.glo)):Int))
   ·
    exact ((ih0 _ (by omega)) (j+(↑(min j.toNat (Int.toNat (Int.tdiv (days+s.glo - 1) s.glo) - Int.toNat j)):Int)) (QiS ys j.toNat (List.take (min j.toNat (Int.toNat (Int.tdiv (days+s.glo - 1) s.glo) - Int.toNat j)) (List.drop 0 ys))) rfl (by omega) (by omega) (by omega) (by (subst hy;rw [QsR (by omega) (by omega)];congr 1;omega))
     (GoE.landA okF hJ Qab (Qal (by kernel_rfl)) (Qaf (by kernel_rfl)) hg0 (QuK B s load days j ys dJ0)
     ⟨(QaY (Qbj (fun x=> List.all_eq_true.1 (by (cases x <;> rfl))))),⟨(QaV (by omega) (by omega)),⟨(QnM (z:=1) rfl rfl rfl rfl rfl rfl rfl rfl rfl rfl (by decide) (by decide) rfl rfl (Qja (c:=0) (fun x=> by first | rfl | (cases x <;> rfl)) (fun x=> by first | rfl | (cases x <;> rfl)) (by omega) (by omega))),⟨(QmU (z:=0) rfl rfl rfl rfl rfl (by omega) (by omega)),⟨(QmW (z:=0) rfl rfl rfl rfl rfl (by omega) (by omega)),⟨(Qbn q0),trivial⟩⟩⟩⟩⟩⟩ (by kernel_rfl) (by kernel_rfl) (fun l hl=> by cases hl <;> decide))).cast (by rfl) (by rfl) (by rfl)
   ·
    exact (GoE.finK okF hJ Qab (Qal (by kernel_rfl)) (Qaf (by kernel_rfl)) hg0 (Qu6 B s load days j ys dJ0)
     ⟨(Qcg (fun x=> List.all_eq_true.1 (by (cases x <;> rfl)))),⟨(Qbk (Int.not_lt.1 q0)),trivial⟩⟩).cast (by (have e9:j.toNat=((days+s.glo - 1).tdiv s.glo).toNat:=(by omega);rw [hy,e9,Qt2];exact congrArg (fun v=> OO.ret (Qay 6 v)) (by show slT _ (Qac (cpE (Qa1 s.glo) [Value.int .i64 0]) (List.replicate _ true))=_;rw [Qze];show slT _ _=slT (List.replicate _ _).length _;rw [List.length_replicate]))) (by rfl) (by rfl)

theorem Qvc (B:Lo) (s:Qaa) (load days:Int):CE.landA 6 (Qak Tryz.prog (Qaw Tryz.prog) J0 B 21 6 (QeB s load days) (Qc5 s load days) 6
 [(2,hvF),(7,Qai.old (Hint.val (Value.int IntKind.u64 (Int.tdiv (days+s.glo - 1) s.glo)))),(8,Qai.pure (.tuple #[Value.int IntKind.u64 0,Value.int IntKind.u64 (Int.tdiv (days+s.glo - 1) s.glo)]) []),(18,hvF),(21,hvI (Int.tdiv (days+s.glo - 1) s.glo)),(22,Qai.old (Hint.mk (Int.toNat (Int.tdiv (days+s.glo - 1) s.glo)) (Qac (Qb5 [.int .i64 0]) (List.replicate (Int.toNat (Int.tdiv (days+s.glo - 1) s.glo)) ())))),(26,Qai.eval {out:=OO.ret (.int .i64 (↑(min 1 (Int.toNat (Int.tdiv (days+s.glo - 1) s.glo))):Int)),H:=[(6,Obj.cells (Qac (cpE [.int .i64 s.glo] [.int .i64 0]) (Qgd true false (Int.toNat (Int.tdiv (days+s.glo - 1) s.glo)) (min 1 (Int.toNat (Int.tdiv (days+s.glo - 1) s.glo))))) 3),(5,Obj.cells #[.int .i64 s.glo] 3),(4,Obj.coro none),(3,Obj.cells #[.slice none 0 0,.slice none 0 0,.slice none 0 0] 65),(2,Obj.cells #[Value.func (Fn.func 103) #[] #[]] 101),(1,Obj.cells (QbS s load days) 122),(0,Obj.coro none)],n:=7,R:=[6,5],W:=[6]})] 0 [] []) [7,8] [] [(6,KS.cells [] (Qac (cpE [.int .i64 s.glo] [.int .i64 0]) (Qgd true false (Int.toNat (Int.tdiv (days+s.glo - 1) s.glo)) (min 1 (Int.toNat (Int.tdiv (days+s.glo - 1) s.glo))))))] []=some ⟨161,48,Qd8,[],.run,none,QdF s load days ((↑(min 1 (Int.toNat (Int.tdiv (days+s.glo - 1) s.glo))):Int)) (Qgd true false (Int.toNat (Int.tdiv (days+s.glo - 1) s.glo)) (min 1 (Int.toNat (Int.tdiv (days+s.glo - 1) s.glo)))),([]:List Nat).zip (Qd9 s load days ((↑(min 1 (Int.toNat (Int.tdiv (days+s.glo - 1) s.glo))):Int)) (Qgd true false (Int.toNat (Int.tdiv (days+s.glo - 1) s.glo)) (min 1 (Int.toNat (Int.tdiv (days+s.glo - 1) s.glo))))),QbV s load days ((↑(min 1 (Int.toNat (Int.tdiv (days+s.glo - 1) s.glo))):Int)) (Qgd true false (Int.toNat (Int.tdiv (days+s.glo - 1) s.glo)) (min 1 (Int.toNat (Int.tdiv (days+s.glo - 1) s.glo)))),
 [QeR 6 [] (Qac (cpE [.int .i64 s.glo] [.int .i64 0]) (Qgd true false (Int.toNat (Int.tdiv (days+s.glo - 1) s.glo)) (min 1 (Int.toNat (Int.tdiv (days+s.glo - 1) s.glo))))) (Qac (cpE [.int .i64 s.glo] [.int .i64 0]) (Qgd true false (Int.toNat (Int.tdiv (days+s.glo - 1) s.glo)) (min 1 (Int.toNat (Int.tdiv (days+s.glo - 1) s.glo))))),opS Tryz.prog (Qaw Tryz.prog) Qby (fun x x_1 x_2=> none) {len:=16000,tr:=Tri.set 14 (Tri.set 14 Tri.lf 32 (.slice (some {block:=5,off:=0}) 1 1)) 31 (.slice (some {block:=6,off:=0}) (Int.toNat (Int.tdiv (days+s.glo - 1) s.glo)) 1)} {dst:=some 33,op:=Op.call {callee:=Callee.builtin Builtin.copy,args:=#[Operand.tmp 31,Operand.tmp 32],argTypes:=#[22,22]},type:=3,pos:= "slices.go:526",after:=#[{on:=0,ground:=Ground.data},{on:=1,ground:=Ground.data}],guard:=none} [(6,Obj.cells (Qac (Qb5 [.int .i64 0]) (List.replicate (Int.toNat (Int.tdiv (days+s.glo - 1) s.glo)) ())) 3),(5,Obj.cells #[.int .i64 s.glo] 3),(4,Obj.coro none),(3,Obj.cells #[.slice none 0 0,.slice none 0 0,.slice none 0 0] 65),(2,Obj.cells #[Value.func (Fn.func 103) #[] #[]] 101),(1,Obj.cells (QbS s load days) 122),(0,Obj.coro none)] 7=some {out:=OO.ret (.int .i64 (↑(min 1 (Int.toNat (Int.tdiv (days+s.glo - 1) s.glo))):Int)),H:=[(6,Obj.cells (Qac (cpE [.int .i64 s.glo] [.int .i64 0]) (Qgd true false (Int.toNat (Int.tdiv (days+s.glo - 1) s.glo)) (min 1 (Int.toNat (Int.tdiv (days+s.glo - 1) s.glo))))) 3),(5,Obj.cells #[.int .i64 s.glo] 3),(4,Obj.coro none),(3,Obj.cells #[.slice none 0 0,.slice none 0 0,.slice none 0 0] 65),(2,Obj.cells #[Value.func (Fn.func 103) #[] #[]] 101),(1,Obj.cells (QbS s load days) 122),(0,Obj.coro none)],n:=7,R:=[6,5],W:=[6]},Qf6 Tryz.prog 22 (QbR {len:=16000,tr:=Tri.set 14 Tri.lf 29 (.int .i64 (Int.tdiv (days+s.glo - 1) s.glo))} 29) (QbR {len:=16000,tr:=Tri.set 14 Tri.lf 29 (.int .i64 (Int.tdiv (days+s.glo - 1) s.glo))} 29)=some (3,Qac (Qb5 [.int .i64 0]) (List.replicate (Int.toNat (Int.tdiv (days+s.glo - 1) s.glo)) ()),Int.toNat (Int.tdiv (days+s.glo - 1) s.glo),TypeInfo.size Tryz.t3),IntKind.wrap .i64 (Int.tdiv (days+s.glo - 1) s.glo)=Int.tdiv (days+s.glo - 1) s.glo,decide (Int.tdiv (days+s.glo - 1) s.glo > 9223372036854775807)=false,Qaz []/\Qao Tryz.prog J0 168 #[Value.int IntKind.u64 1,Value.int IntKind.u64 (Int.tdiv (days+s.glo - 1) s.glo)] (.tuple #[Value.int IntKind.u64 0,Value.int IntKind.u64 (Int.tdiv (days+s.glo - 1) s.glo)]),IntKind.wrap IntKind.u64 (Int.tdiv (days+s.glo - 1) s.glo)=Int.tdiv (days+s.glo - 1) s.glo,ltq (Int.tdiv (days+s.glo - 1) s.glo) 0=false]⟩:=by kernel_rfl
def Qc8 (s:Qaa) (load days:Int):Qar:=[(6,Obj.coro none),(5,Obj.cells #[.int .i64 s.glo] 3),(4,Obj.coro none),(3,Obj.cells #[.slice none 0 0,.slice none 0 0,.slice none 0 0] 65),(2,Obj.cells #[Value.func (Fn.func 103) #[] #[]] 101),(1,Obj.cells #[Qay 0 (slT s.stock.length (Qac Qa1 s.stock)),Qay 0 (slT s.use.length (Qac QaD s.use)),.int .i64 s.glo,.int .i64 s.ghi,Qay 0 (slT s.lots.length (Qac Qaq s.lots)),.int .i64 s.hold,.int .i64 load,.int .i64 days] 122),(0,Obj.coro none)]
def QeL (s:Qaa) (load days:Int):CF:=⟨162,ofList 26 [Qay 0 (slT s.lots.length (Qac Qaq s.lots)),Value.func (Fn.func 163) #[] #[pA 2 0]],[Item.code (Qan Tryz.prog 162)],[],.run,none⟩
def QdD (s:Qaa) (load days:Int) (i:Int) (zs:List Row):List Value:=[Value.func (Fn.func 163) #[] #[pA 2 0],.slice (some {block:=8,off:=0}) s.lots.length 1,Qay 0 (slT s.lots.length (Qac Qaq s.lots)),.int .i64 (↑s.lots.length:Int),.int .i64 i]
def QdM (s:Qaa) (load days:Int) (i:Int) (zs:List Row):List Obj:=[]
def Qce (s:Qaa) (load days:Int) (i:Int) (zs:List Row):List Obj:=[.cells (Qac (Qa9 7 Qas) zs) 22 (0,0)]
def QdK:List Item:=([.code [1,1,0,1,0,0],.inLoop [1,1,0,1,0,0],.inBlock 0,.code [1,1,1]]).map (it (Qan Tryz.prog 162))
def QfM (s:Qaa) (load days:Int) (i:Int) (zs:List Row) (dJ0:Nat->Value):Qar:=[(9,Obj.cells #[Qay 0 (slT (List.length (Qag.goods (s.lots.getD i.toNat default))) (Qac QaD (Qag.goods (s.lots.getD i.toNat default)))),.int .i64 (Qag.weight (s.lots.getD i.toNat default)),.int .i64 (Qag.cost (s.lots.getD i.toNat default))] 118),(7,Obj.coro none),(8,Obj.cells (Qac (Qa9 7 Qas) zs) 22),(6,Obj.coro none),(5,Obj.cells #[.int .i64 s.glo] 3),(4,Obj.coro none),(3,Obj.cells #[.slice none 0 0,.slice none 0 0,.slice none 0 0] 65),(2,Obj.cells #[Value.func (Fn.func 103) #[] #[]] 101),(1,Obj.cells #[Qay 0 (slT s.stock.length (Qac Qa1 s.stock)),Qay 0 (slT s.use.length (Qac QaD s.use)),.int .i64 s.glo,.int .i64 s.ghi,Qay 0 (slT s.lots.length (Qac Qaq s.lots)),.int .i64 s.hold,.int .i64 load,.int .i64 days] 122),(0,Obj.coro none)]
def Qha (s:Qaa) (load days:Int) (i:Int) (zs:List Row) (dJ0:Nat->Value):CF:=⟨163,ofList 8 [.agg #[Qay 0 (slT (List.length (Qag.goods (s.lots.getD i.toNat default))) (Qac QaD (Qag.goods (s.lots.getD i.toNat default)))),.int .i64 (Qag.weight (s.lots.getD i.toNat default)),.int .i64 (Qag.cost (s.lots.getD i.toNat default))],pA 2 0],[Item.code (Qan Tryz.prog 163)],[],.run,none⟩
theorem Qut (B:Lo) (s:Qaa) (load days:Int) (i:Int) (zs:List Row) (dJ0:Nat->Value):CE.finK 10 (Qak Tryz.prog (Qaw Tryz.prog) J0 B 6 10 (Qha s load days i zs dJ0) (QfM s load days i zs dJ0) 10
 [(5,Qai.pure (slT (List.length (List.map Span.hi (Qag.goods (s.lots.getD i.toNat default)))) (Qac Qa1 (List.map Span.hi (Qag.goods (s.lots.getD i.toNat default))))) [])] 0 [] []) [] [] []=some (OO.ret (Qay 10 (slT (List.length (List.map Span.hi (Qag.goods (s.lots.getD i.toNat default)))) (Qac Qa1 (List.map Span.hi (Qag.goods (s.lots.getD i.toNat default)))))),[],[],
 [Qaz []/\Qao Tryz.prog J0 160 #[slT (List.length (Qag.goods (s.lots.getD i.toNat default))) (Qac QaD (Qag.goods (s.lots.getD i.toNat default))),Value.func (Fn.func 103) #[] #[]] (slT (List.length (List.map Span.hi (Qag.goods (s.lots.getD i.toNat default)))) (Qac Qa1 (List.map Span.hi (Qag.goods (s.lots.getD i.toNat default)))))]):=by kernel_rfl
theorem QtV (B:Lo) (s:Qaa) (load days:Int) (i:Int) (zs:List Row) (dJ0:Nat->Value):CE.landA 7 (Qak Tryz.prog (Qaw Tryz.prog) J0 B 13 7 (QbX (none) 162 26 (([1,5,11,12,13]:List Nat).zip (QdD s load days i zs)) dJ0 QdK) (Qbx (Qc8 s load days) 7 (([]:List Nat).zip (QdM s load days i zs)) (Qce s load days i zs)) (7+1+(Qce s load days i zs).length)
 [(0,hvT),(2,Qai.tidx i.toNat #[slT (List.length (Qag.goods (s.lots.getD i.toNat default))) (Qac QaD (Qag.goods (s.lots.getD i.toNat default))),.int .i64 (Qag.weight (s.lots.getD i.toNat default)),.int .i64 (Qag.cost (s.lots.getD i.toNat default))]),(11,Qai.call (List.range 10) (OO.ret (Qi3 s i)) ([]++(10,Qbq)::QaG 11 []) 11 []),(12,Qai.old (Hint.idx i.toNat)),(13,Qai.old (Hint.st (splice (Qac (Qa9 7 Qas) zs) (0+Int.toNat i * 1) (Qjj s i)))),(14,hvI (i+1))] 0 [] []) [1,5,11,12,13] [] [(8,KS.rows [(7,7),(10,7)] [] (Qac (Qa9 7 Qas) (List.set zs i.toNat (List.map Span.hi (Qag.goods (s.lots.getD i.toNat default))))))] []=some ⟨162,26,QdK,[],.run,none,QdD s load days (i+1) (List.set zs i.toNat (List.map Span.hi (Qag.goods (s.lots.getD i.toNat default)))),([]:List Nat).zip (QdM s load days (i+1) (List.set zs i.toNat (List.map Span.hi (Qag.goods (s.lots.getD i.toNat default))))),Qce s load days (i+1) (List.set zs i.toNat (List.map Span.hi (Qag.goods (s.lots.getD i.toNat default)))),
 [Qbi 7 [(7,7),(10,7)] [] (splice (Qac (Qa9 7 Qas) zs) (0+Int.toNat i * 1) (Qjj s i)) (Qac (Qa9 7 Qas) (List.set zs i.toNat (List.map Span.hi (Qag.goods (s.lots.getD i.toNat default))))),wq (i+1)=i+1,0+Int.toNat i * 1+TypeInfo.size Tryz.t22<=Array.size (Qac (Qa9 7 Qas) zs)/\splice (Qac (Qa9 7 Qas) zs) (0+Int.toNat i * 1) (Value.cells (QbR {len:=16000,tr:=Tri.set 14 (Tri.set 14 Tri.lf 22 (Qi3 s i)) 23 (.pointer (some {block:=8,off:=0+Int.toNat i * 1}))} 22))=splice (Qac (Qa9 7 Qas) zs) (0+Int.toNat i * 1) (Qjj s i),i=(↑i.toNat:Int)/\Int.toNat i < List.length s.lots,FJ Tryz.prog B (Qha s load days i zs dJ0) (QfM s load days i zs dJ0) 10 (OO.ret (Qi3 s i)) (([]++((10,Qbq)::QaG (10+1) []))++QfM s load days i zs dJ0) 11 (List.range 10) [],i=(↑i.toNat:Int)/\Int.toNat i < List.length s.lots/\Array.extract (Qac Qaq s.lots) (Int.toNat i * TypeInfo.size Tryz.t118) (Int.toNat i * TypeInfo.size Tryz.t118+TypeInfo.size Tryz.t118)=#[slT (List.length (Qag.goods (s.lots.getD i.toNat default))) (Qac QaD (Qag.goods (s.lots.getD i.toNat default))),.int .i64 (Qag.weight (s.lots.getD i.toNat default)),.int .i64 (Qag.cost (s.lots.getD i.toNat default))],ltq i (↑s.lots.length:Int)=true]⟩:=by kernel_rfl
theorem Qvf (B:Lo) (s:Qaa) (load days:Int) (i:Int) (zs:List Row) (dJ0:Nat->Value):CE.finK 7 (Qak Tryz.prog (Qaw Tryz.prog) J0 B 9 7 (QbX (none) 162 26 (([1,5,11,12,13]:List Nat).zip (QdD s load days i zs)) dJ0 QdK) (Qbx (Qc8 s load days) 7 (([]:List Nat).zip (QdM s load days i zs)) (Qce s load days i zs)) (7+1+(Qce s load days i zs).length)
 [(0,hvF)] 0 [] []) [] [] [{k:=8,rs:=[7],cs:=Qac Qas zs}]=some (OO.ret (Qay 7 (slT s.lots.length (Fz.cs {k:=8,rs:=[7],cs:=Qac Qas zs}))),[],[],
 [Qct (Fz.rs {k:=8,rs:=[7],cs:=Qac Qas zs}) (Qac (Qa9 7 Qas) zs) (Fz.cs {k:=8,rs:=[7],cs:=Qac Qas zs}),ltq i (↑s.lots.length:Int)=false]):=by kernel_rfl
set_option maxHeartbeats 4000000 in
theorem Qom (s:Qaa) (load days:Int) (hs:Qa0 s=true) (hd:0<=days/\days<=300) (q0:¬((Int.tdiv (days+s.glo - 1) s.glo:Int) < (0))) (q1:(decide (Int.tdiv (days+s.glo - 1) s.glo > 9223372036854775807))=false) {B:Lo} (hJ:∀w,B.has w->J0 w):∀m:Nat,(∀(i:Int) (zs:List Row),s.lots.length - i.toNat=m->∀(i0:0<=i) (hz:zs=QfU (fun (l:Qag)=> (l.goods.map Span.hi:Row)) [] s.lots i),(∃dJ0:Nat->Value,(∀t,Qbb (dJ0 t))/\GoE Tryz.prog B (QeL s load days) (Qc8 s load days) 7 (QbX (none) 162 26 (([1,5,11,12,13]:List Nat).zip (QdD s load days i zs)) dJ0 QdK) (Qbx (Qc8 s load days) 7 (([]:List Nat).zip (QdM s load days i zs)) (Qce s load days i zs)) (7+1+(Qce s load days i zs).length) ([]:List Nat))->FinK Tryz.prog B (QeL s load days) (Qc8 s load days) 7 (.ret (Qay 7 (slR (s.lots.map (fun (l:Qag)=> (l.goods.map Span.hi:Row)))))) (([]:List Nat).zip ([])) ([]) ([]:List Nat)):=by
 intro m0
 induction m0 using Nat.strongRecOn with
 | _ m0 ih0=>
   intro i zs hm0 i0 hz ⟨dJ0,hdJ0,hg0⟩
   have hgp:=QaS hs
   have hst:=Qa5 hs
   have hlo:=QaL hs
   have hqf:=Qco (g:=s.glo) hd (by omega)
   have hlo:=QaL hs
   have hst:=Qa5 hs
   have hzl:zs.length=s.lots.length:=by rw [hz];exact Qdl
   by_cases q2:(i:Int) < ((↑s.lots.length:Int))
   ·
    have rj2:FJ Tryz.prog B (Qha s load days i zs dJ0) (QfM s load days i zs dJ0) 10 (OO.ret (Qay 10 (slT (List.length (List.map Span.hi (Qag.goods (s.lots.getD i.toNat default)))) (Qac Qa1 (List.map Span.hi (Qag.goods (s.lots.getD i.toNat default))))))) (([]++((10,Qbq)::QaG (10+1) []))++QfM s load days i zs dJ0) 11 (List.range 10) []:=by
     have hgl:(s.lots.getD i.toNat default).goods.length<=4:=by have:=hlo.2 _ (QaJ i0 (by assumption));simp only [QmE,Bool.and_eq_true,decide_eq_true_iff] at this;omega
     exact FinK.fjB (GoE.finK okF hJ Qab (Qal (by kernel_rfl)) (Qaf (by kernel_rfl)) ((GoE.refl (P:=Tryz.prog) (B:=B) (c0:=Qha s load days i zs dJ0) (Qal (by kernel_rfl))).widen (Wf:=((([]):List (Nat×KS)).map (·.1))) (by simp) (Qaf (by kernel_rfl))) (Qut B s load days i zs dJ0)
      ⟨⟨trivial,Qwe (Qag.goods (s.lots.getD i.toNat default)) (by omega)⟩,trivial⟩) (ex:=[8]) (by kernel_rfl) ⟨trivial,⟨trivial,⟨(QeG (t:=22) (fl:=(0,0)) (Qbt (fun _=> rfl)) (by decide)),⟨trivial,⟨trivial,⟨trivial,⟨trivial,⟨trivial,⟨trivial,⟨trivial,trivial⟩⟩⟩⟩⟩⟩⟩⟩⟩⟩
    have hgl:(s.lots.getD i.toNat default).goods.length<=4:=by have:=hlo.2 _ (QaJ i0 (by assumption));simp only [QmE,Bool.and_eq_true,decide_eq_true_iff] at this;omega
    exact ((ih0 _ (by omega)) (i+1) (List.set zs i.toNat (List.map Span.hi (Qag.goods (s.lots.getD i.toNat default)))) rfl (by omega) (by (subst hz;exact Qdh (f:=(fun (l:Qag)=> (l.goods.map Span.hi:Row))) i0 (by assumption)))
     (GoE.landA okF hJ Qab (Qal (by kernel_rfl)) (Qaf (by kernel_rfl)) hg0 (QtV B s load days i zs dJ0)
     ⟨(by exact (Qh9 (z:=1) (fun _=> rfl) (Qb1 (Qbt (fun _=> rfl)) (List.Mem.head _)) (by omega) (by exact ⟨(.reg (List.Mem.tail _ (List.Mem.head _)) rfl),trivial⟩))),⟨(QaV (by omega) (by omega)),⟨⟨(by exact Qrn (z:=1) (fun _=> rfl) (by omega)),rfl⟩,⟨⟨by omega,by omega⟩,⟨rj2,⟨⟨by omega,by omega,(Qaj (z:=3) (fun _=> rfl) (by omega))⟩,⟨(Qbn q2),trivial⟩⟩⟩⟩⟩⟩⟩ (by kernel_rfl) (by kernel_rfl) (fun l hl=> by cases hl <;> decide))).cast (by rfl) (by rfl) (by rfl)
   ·
    exact (GoE.finK okF hJ Qab (Qal (by kernel_rfl)) (Qaf (by kernel_rfl)) hg0 (Qvf B s load days i zs dJ0)
     ⟨(Qe0 (Qbt (fun _=> rfl)) (List.Mem.head _)),⟨(Qbk (Int.not_lt.1 q2)),trivial⟩⟩).cast (by exact congrArg (fun v=> OO.ret (Qay 7 v)) (QeM (hz.trans (Qda (by omega))) (by simp))) (by rfl) (by rfl)

theorem QuS (B:Lo) (s:Qaa) (load days:Int):CE.landA 7 (Qak Tryz.prog (Qaw Tryz.prog) J0 B 9 7 (QeL s load days) (Qc8 s load days) 7
 [(3,Qai.old (Hint.mk s.lots.length (Qac (Qb5 [.slice none 0 0]) (List.replicate s.lots.length ()))))] 0 [] []) [1,5,11,12,13] [] [(7,KS.rows [] [] (Qac (Qa9 7 Qas) (List.replicate s.lots.length [])))] []=some ⟨162,26,QdK,[],.run,none,QdD s load days (0) (List.replicate s.lots.length []),([]:List Nat).zip (QdM s load days (0) (List.replicate s.lots.length [])),Qce s load days (0) (List.replicate s.lots.length []),
 [Qbi 7 [] [] (Qac (Qb5 [.slice none 0 0]) (List.replicate s.lots.length ())) (Qac (Qa9 7 Qas) (List.replicate s.lots.length [])),Qf6 Tryz.prog 63 (QbR {len:=16000,tr:=Tri.set 14 Tri.lf 9 (.int .i64 (↑s.lots.length:Int))} 9) (QbR {len:=16000,tr:=Tri.set 14 Tri.lf 9 (.int .i64 (↑s.lots.length:Int))} 9)=some (22,Qac (Qb5 [.slice none 0 0]) (List.replicate s.lots.length ()),List.length s.lots,TypeInfo.size Tryz.t22)]⟩:=by kernel_rfl
theorem Quq (B:Lo) (s:Qaa) (load days:Int):QaK (Qak Tryz.prog (Qaw Tryz.prog) J0 B 8 1 (Qae Tryz.prog 150 31 (([.agg (Qa7 s load days).toArray,.func (.func 103) #[] #[],.func (.func 104) #[] #[]]).map (Qam 0 4))) H00 1
 [(7,Qai.pure (.int .i64 s.glo) []),(13,Qai.pure (slT (List.length (List.map Span.lo s.use)) (Qac Qa1 (List.map Span.lo s.use))) []),(19,Qai.pure (.int .i64 (Int.tdiv (days+s.glo - 1) s.glo)) []),(20,Qai.call (List.range 6) (OO.ret (Qay 6 (slT (List.length (List.replicate (Int.toNat (Int.tdiv (days+s.glo - 1) s.glo)) s.glo)) (Qac Qa1 (List.replicate (Int.toNat (Int.tdiv (days+s.glo - 1) s.glo)) s.glo))))) ([]++(6,Qbq)::QaG 7 []) 7 []),(25,Qai.call (List.range 7) (OO.ret (Qay 7 (slT (List.length (List.map (fun l=> List.map Span.hi l.goods) s.lots)) (Qac Qas (List.map (fun l=> List.map Span.hi l.goods) s.lots))))) ([]++(7,Qbq)::QaG 8 []) 8 [])] 0 [] []) []=some (.agg #[slT (List.length (List.map Span.lo s.use)) (Qac Qa1 (List.map Span.lo s.use)),slT (List.length (List.replicate (Int.toNat (Int.tdiv (days+s.glo - 1) s.glo)) s.glo)) (Qac Qa1 (List.replicate (Int.toNat (Int.tdiv (days+s.glo - 1) s.glo)) s.glo)),slT (List.length (List.map (fun l=> List.map Span.hi l.goods) s.lots)) (Qac Qas (List.map (fun l=> List.map Span.hi l.goods) s.lots))],
 [FJ Tryz.prog B (QeL s load days) (Qc8 s load days) 7 (OO.ret (Qay 7 (slT (List.length (List.map (fun l=> List.map Span.hi l.goods) s.lots)) (Qac Qas (List.map (fun l=> List.map Span.hi l.goods) s.lots))))) (([]++((7,Qbq)::QaG (7+1) []))++Qc8 s load days) 8 (List.range 7) [],FJ Tryz.prog B (QeB s load days) (Qc5 s load days) 6 (OO.ret (Qay 6 (slT (List.length (List.replicate (Int.toNat (Int.tdiv (days+s.glo - 1) s.glo)) s.glo)) (Qac Qa1 (List.replicate (Int.toNat (Int.tdiv (days+s.glo - 1) s.glo)) s.glo))))) (([]++((6,Qbq)::QaG (6+1) []))++Qc5 s load days) 7 (List.range 6) [],Qaz []/\Qao Tryz.prog J0 132 #[.int .i64 days,.int .i64 s.glo] (.int .i64 (Int.tdiv (days+s.glo - 1) s.glo)),Qaz []/\Qao Tryz.prog J0 160 #[slT s.use.length (Qac QaD s.use),Value.func (Fn.func 104) #[] #[]] (slT (List.length (List.map Span.lo s.use)) (Qac Qa1 (List.map Span.lo s.use))),Qaz []/\Qao Tryz.prog J0 104 #[.agg #[.int .i64 s.glo,.int .i64 s.ghi]] (.int .i64 s.glo)]):=by kernel_rfl
set_option maxHeartbeats 4000000 in
theorem Qwr (s:Qaa) (load days:Int) (hs:Qa0 s=true) (hd:0<=days/\days<=300) {B:Lo} (hJ:∀w,B.has w->J0 w):EndsT Tryz.prog B (Qae Tryz.prog 150 31 (([.agg (Qa7 s load days).toArray,.func (.func 103) #[] #[],.func (.func 104) #[] #[]]).map (Qam 0 4))) (.agg (Qa2 (Qax Span.hi Span.lo s days)).toArray):=by
 have hgp:=QaS hs
 have hst:=Qa5 hs
 have hlo:=QaL hs
 have hqf:=Qco (g:=s.glo) hd (by omega)
 by_cases q0:(Int.tdiv (days+s.glo - 1) s.glo:Int) < (0)
 ·
  exfalso
  (have hgp:=QaS hs;have hqf:=Qco (g:=s.glo) hd (by omega);omega)
 ·
  cases q1:decide (Int.tdiv (days+s.glo - 1) s.glo > 9223372036854775807) with
  | true=>
    exfalso
    (have hgp:=QaS hs;have hqf:=Qco (g:=s.glo) hd (by omega);have q9:=of_decide_eq_true q1;omega)
  | false=>
    have rj0:FJ Tryz.prog B (QeB s load days) (Qc5 s load days) 6 (OO.ret (Qay 6 (slT (List.length (List.replicate (Int.toNat (Int.tdiv (days+s.glo - 1) s.glo)) s.glo)) (Qac Qa1 (List.replicate (Int.toNat (Int.tdiv (days+s.glo - 1) s.glo)) s.glo))))) (([]++((6,Qbq)::QaG (6+1) []))++Qc5 s load days) 7 (List.range 6) []:=by
     exact FinK.fjB ((QnB s load days hs hd hJ _) ((↑(min 1 (Int.toNat (Int.tdiv (days+s.glo - 1) s.glo))):Int)) (Qgd true false (Int.toNat (Int.tdiv (days+s.glo - 1) s.glo)) (min 1 (Int.toNat (Int.tdiv (days+s.glo - 1) s.glo)))) rfl (by omega) (by omega) (by omega) (by (rw [Int.toNat_natCast]))
      (GoE.landA okF hJ Qab (Qal (by kernel_rfl)) (Qaf (by kernel_rfl)) ((GoE.refl (P:=Tryz.prog) (B:=B) (c0:=QeB s load days) (Qal (by kernel_rfl))).widen (Wf:=((([]):List (Nat×KS)).map (·.1))) (by simp) (Qaf (by kernel_rfl))) (Qvc B s load days)
      ⟨(QaY (Qbj (fun x=> List.all_eq_true.1 (by (cases x <;> rfl))))),⟨(QnM (z:=1) rfl rfl rfl rfl rfl rfl rfl rfl rfl rfl (by decide) (by decide) rfl rfl (QoO rfl rfl rfl rfl rfl)),⟨(QfE (bytes:=8) (by kernel_rfl) (by omega) (by omega) (by omega)),⟨(QiJ (by omega) (by omega)),⟨q1,⟨⟨trivial,Q5o (Int.tdiv (days+s.glo - 1) s.glo) (by omega) (by omega)⟩,⟨(IntWalk.u64_in _ ⟨by omega,by omega⟩),⟨(Qbk (Int.not_lt.1 q0)),trivial⟩⟩⟩⟩⟩⟩⟩⟩ (by kernel_rfl) (by kernel_rfl) (fun l hl=> by cases hl <;> decide))) (ex:=[]) (by kernel_rfl) (Qbu _)
    have rj1:FJ Tryz.prog B (QeL s load days) (Qc8 s load days) 7 (OO.ret (Qay 7 (slT (List.length (List.map (fun l=> List.map Span.hi l.goods) s.lots)) (Qac Qas (List.map (fun l=> List.map Span.hi l.goods) s.lots))))) (([]++((7,Qbq)::QaG (7+1) []))++Qc8 s load days) 8 (List.range 7) []:=by
     exact FinK.fjB ((Qom s load days hs hd q0 q1 hJ _) (0) (List.replicate s.lots.length []) rfl (by omega) (by exact Qfq)
      (GoE.landA okF hJ Qab (Qal (by kernel_rfl)) (Qaf (by kernel_rfl)) ((GoE.refl (P:=Tryz.prog) (B:=B) (c0:=QeL s load days) (Qal (by kernel_rfl))).widen (Wf:=((([]):List (Nat×KS)).map (·.1))) (by simp) (Qaf (by kernel_rfl))) (QuS B s load days)
      ⟨(by exact (QbA (by exact ⟨.nil,trivial⟩) _)),⟨(QfE (bytes:=24) (by kernel_rfl) (by omega) (by omega) (by omega)),trivial⟩⟩ (by kernel_rfl) (by kernel_rfl) (fun l hl=> by cases hl <;> decide))) (ex:=[]) (by kernel_rfl) (Qbu _)
    exact (GoE.endsT okF hJ Qab GoE.start (Quq B s load days)
     ⟨rj1,⟨rj0,⟨⟨trivial,QwH (days) s.glo (by omega) (by omega)⟩,⟨⟨trivial,QyT s.use (by omega)⟩,⟨⟨trivial,Q5m s.glo s.ghi⟩,trivial⟩⟩⟩⟩⟩).cast (by rfl)
theorem Q2U (s:Qaa) (load days:Int) (hs:Qa0 s=true) (hd:0<=days/\days<=300):Qao Tryz.prog J0 150 #[.agg (Qa7 s load days).toArray,.func (.func 103) #[] #[],.func (.func 104) #[] #[]] (.agg (Qa2 (Qax Span.hi Span.lo s days)).toArray):=
 Qa8 (ts:=[.agg (Qa7 s load days).toArray,.func (.func 103) #[] #[],.func (.func 104) #[] #[]]) Qbr (c0:=Qae Tryz.prog 150 31 (([.agg (Qa7 s load days).toArray,.func (.func 103) #[] #[],.func (.func 104) #[] #[]]).map (Qam 0 4))) (by kernel_rfl) (by kernel_rfl) fun B hJ=> Qwr s load days hs hd hJ
end
end Go.Proofs.YtiabgkiccaodmaaGreat

namespace Go.Proofs.YtiabgkiccaodmaaGreat
open Go Go.CE Go.RowKit
noncomputable section
set_option maxRecDepth 100000
theorem getD_map {α β:Type} [Inhabited α] [Inhabited β] {f:α->β} {l:List α} {k:Nat} (h:k < l.length):(l.map f).getD k default=f (l.getD k default):=by
 simp [List.getD_eq_getElem?_getD,h]
theorem QrD {a b x:Int}:x∈upI a b<->a<=x/\x < b:=by
 refine ⟨Qgk,fun h=> ?_⟩
 unfold upI
 exact List.mem_map.2 ⟨(x - a).toNat,List.mem_range.2 (by omega),by omega⟩
def Qy1 (f:Span->Int):Prop:=∀x:Span,x.lo<=x.hi->x.lo<=f x/\f x<=x.hi
theorem Qei:Qy1 Span.lo:=fun _ h=> ⟨Int.le_refl _,h⟩
theorem Qeg:Qy1 Span.hi:=fun _ h=> ⟨h,Int.le_refl _⟩
theorem QlP {ss:List Span} {f:Span->Int} (hf:Qy1 f) (h:∀x∈ss,x.lo<=x.hi):Qcb (ss.map f) ss=true:=by
 unfold Qcb Qsb
 rw [List.length_map,decide_eq_true rfl,Bool.true_and,List.all_eq_true]
 intro k hk
 have hk:=QrD.1 hk
 rw [getD_map (by omega),QaP]
 exact hf _ (h _ (QaJ (l:=ss) hk.1 hk.2))
theorem Qta {x:Int}:∀n:Nat,Qel (List.replicate n x)=n * x
 | 0=> by simp [Qel]
 | n+1=> by
   rw [List.replicate_succ];show x+Qel (List.replicate n x)=_
   rw [Qta n,Int.natCast_add,Int.add_mul];omega
theorem Q2P {d g:Int} (hd:0<=d) (hg:1<=g):d<=((d+g - 1).tdiv g).toNat * g:=by
 rw [Int.tdiv_eq_ediv_of_nonneg (by omega)]
 have h0:0<=(d+g - 1) / g:=Int.ediv_nonneg (by omega) (by omega)
 rw [Int.toNat_of_nonneg h0]
 have h1:=Int.lt_ediv_add_one_mul_self (d+g - 1) (show 0 < g by omega)
 rw [Int.add_mul] at h1
 omega
theorem Qdi {f g:Span->Int} {s:Qaa} {days:Int} (hf:Qy1 f) (hg:Qy1 g) (hs:Qa0 s=true) (hd:0<=days/\days<=300):Qbv s days (Qax f g s days)=true:=by
 have hgp:=QaS hs
 have hst:=Qa5 hs
 have hlo:=QaL hs
 have hgg:=hg ⟨s.glo,s.ghi⟩ hgp.2.1
 have hqf:=Qco (g:=g ⟨s.glo,s.ghi⟩) hd (by simp only at hgg;omega)
 simp only at hgg
 have h1:Qcb (Qax f g s days).uses s.use=true:=QlP hg fun x hx=> (hst.2.2.2 x hx).2.1
 have h2:Qhy s days (Qax f g s days).gaps=true:=by
  have e:(Qax f g s days).gaps=List.replicate ((days+g ⟨s.glo,s.ghi⟩ - 1).tdiv (g ⟨s.glo,s.ghi⟩)).toNat (g ⟨s.glo,s.ghi⟩):=rfl
  rw [e]
  unfold Qhy
  rw [List.length_replicate,decide_eq_true (by omega),Bool.true_and,Bool.and_eq_true,List.all_eq_true]
  refine ⟨fun x hx=> ?_,decide_eq_true ?_⟩
  ·rw [(List.mem_replicate.1 hx).2,QaP];exact hgg
  ·rw [Qta];exact Q2P hd.1 (by omega)
 have h3:Qf3 s (Qax f g s days).goods=true:=by
  have e:(Qax f g s days).goods=s.lots.map fun (l:Qag)=> (l.goods.map f:Row):=rfl
  rw [e]
  unfold Qf3 Qwy
  rw [List.length_map,decide_eq_true rfl,Bool.true_and,List.all_eq_true]
  intro k hk
  have hk:=QrD.1 hk
  have hm:=QaJ (l:=s.lots) hk.1 hk.2
  have e:(s.lots.map fun (l:Qag)=> (l.goods.map f:Row)).getD k.toNat default=(s.lots.getD k.toNat default).goods.map f:=getD_map (f:=fun (l:Qag)=> (l.goods.map f:Row)) (by omega)
  rw [e]
  exact QlP hf fun x hx=> ((Qc1 (hlo.2 _ hm)).2.1 x hx).2.1
 unfold Qbv
 rw [h1,h2,h3];rfl
structure Wnt where
 may:Int
 must:Int
deriving Inhabited
def Qci (w:Wnt):List Value:=[.int .i64 w.may,.int .i64 w.must]
abbrev Q2m (xs:List Wnt):Value:=slT xs.length (Qac Qci xs)
def Q3q (s:Qaa) (load days k:Int):Int:=Qat (Qm3 s load days (Qax Span.lo Span.hi s days) k)
def QvK (s:Qaa) (load days k:Int):Int:=Qat (Qm3 s load days (Qax Span.hi Span.lo s days) k)
def Q06 (s:Qaa) (load days k:Int):Wnt:=⟨Q3q s load days k,QvK s load days k⟩
def Qbl (s:Qaa) (load days:Int):List Wnt:=(upI 0 s.stock.length).map (Q06 s load days)
theorem Qn3 {s:Qaa} {load days:Int}:(Qbl s load days).length=s.stock.length:=by simp [Qbl,QbM]
theorem QsD {s:Qaa} {load days k:Int} (h0:0<=k) (h1:k < s.stock.length):(Qbl s load days).getD k.toNat default=Q06 s load days k:=by
 unfold Qbl
 rw [getD_map (by rw [QbM];omega),Qif h0 h1]
def QoN (s:Qaa) (load days i:Int):List Wnt:=QfU (Q06 s load days) ⟨0,0⟩ (upI 0 s.stock.length) i
theorem QwW {s:Qaa} {load days i:Int}:(QoN s load days i).length=s.stock.length:=by
 unfold QoN;rw [Qdl,QbM];omega
theorem Q2C {s:Qaa} {load days:Int}:List.replicate s.stock.length (⟨0,0⟩:Wnt)=QoN s load days 0:=by
 unfold QoN;rw [<-Qfq,QbM];rfl
theorem QyR {s:Qaa} {load days i:Int} (h0:0<=i) (h:i < s.stock.length):(QoN s load days i).set i.toNat ⟨((QaI s load days (Qax Span.lo Span.hi s days)).map Qat).getD i.toNat default,((QaI s load days (Qax Span.hi Span.lo s days)).map Qat).getD i.toNat default⟩=QoN s load days (i+1):=by
 have:=Qdh (f:=Q06 s load days) (x0:=⟨0,0⟩) (xs:=upI 0 s.stock.length) (i:=i) h0 (by rw [QbM];omega)
 rw [Qif h0 h] at this
 rw [Qny h0 h,Qny h0 h]
 exact this
theorem QvY {s:Qaa} {load days i:Int} (h:s.stock.length<=i):QoN s load days i=Qbl s load days:=Qda (by rw [QbM];omega)
def Qg7 (s:Qaa) (days:Int):Array Value:=#[slT (List.length (Qad.uses (Qax Span.lo Span.hi s days))) (Qac Qa1 (Qad.uses (Qax Span.lo Span.hi s days))),slT (List.length (Qad.gaps (Qax Span.lo Span.hi s days))) (Qac Qa1 (Qad.gaps (Qax Span.lo Span.hi s days))),slT (List.length (Qad.goods (Qax Span.lo Span.hi s days))) (Qac Qas (Qad.goods (Qax Span.lo Span.hi s days)))]
theorem Qrd (B:Lo) (s:Qaa) (load days:Int):QaK (Qak Tryz.prog (Qaw Tryz.prog) J0 B 6 1 (Qae Tryz.prog 128 7 (([.agg (Qa7 s load days).toArray]).map (Qam 0 4))) H00 1
 [(4,Qai.pure (.agg (Qg7 s days)) []),(5,Qai.pure (slT (List.length (QaI s load days (Qax Span.lo Span.hi s days))) (Qac QbB (QaI s load days (Qax Span.lo Span.hi s days)))) [])] 0 [] []) []=some (slT (List.length (QaI s load days (Qax Span.lo Span.hi s days))) (Qac QbB (QaI s load days (Qax Span.lo Span.hi s days))),
 [Qaz []/\Qao Tryz.prog J0 84 #[.agg #[slT s.stock.length (Qac Qa1 s.stock),slT s.use.length (Qac QaD s.use),.int .i64 s.glo,.int .i64 s.ghi,slT s.lots.length (Qac Qaq s.lots),.int .i64 s.hold,.int .i64 load,.int .i64 days],.agg (Qg7 s days)] (slT (List.length (QaI s load days (Qax Span.lo Span.hi s days))) (Qac QbB (QaI s load days (Qax Span.lo Span.hi s days)))),Qaz []/\Qao Tryz.prog J0 150 #[.agg #[slT s.stock.length (Qac Qa1 s.stock),slT s.use.length (Qac QaD s.use),.int .i64 s.glo,.int .i64 s.ghi,slT s.lots.length (Qac Qaq s.lots),.int .i64 s.hold,.int .i64 load,.int .i64 days],Value.func (Fn.func 104) #[] #[],Value.func (Fn.func 103) #[] #[]] (.agg (Qg7 s days))]):=by kernel_rfl
set_option maxHeartbeats 4000000 in
theorem Qrm (s:Qaa) (load days:Int) (hs:Qa0 s=true) (hd:0<=days/\days<=300) (h0:0<=load) (h1:load < 64) (hx:Qcs load<=s.lots.length) {B:Lo} (hJ:∀w,B.has w->J0 w):EndsT Tryz.prog B (Qae Tryz.prog 128 7 (([.agg (Qa7 s load days).toArray]).map (Qam 0 4))) (slG (QaI s load days (Qax Span.lo Span.hi s days))):=by
 have ht1:=Qdi Qei Qeg hs hd
 have ht2:=Qdi Qeg Qei hs hd
 exact (GoE.endsT okF hJ Qab GoE.start (Qrd B s load days)
  ⟨⟨trivial,Qxt (s) (load) (days) (Qax Span.lo Span.hi s days) (by with_reducible assumption) (by with_reducible assumption) (by with_reducible assumption) (by with_reducible assumption) (by with_reducible assumption) (by with_reducible assumption)⟩,⟨⟨trivial,Q25 (s) (load) (days) (by with_reducible assumption) (by with_reducible assumption)⟩,trivial⟩⟩).cast (by rfl)
theorem Qwk (s:Qaa) (load days:Int) (hs:Qa0 s=true) (hd:0<=days/\days<=300) (h0:0<=load) (h1:load < 64) (hx:Qcs load<=s.lots.length):Qao Tryz.prog J0 128 #[.agg (Qa7 s load days).toArray] (slG (QaI s load days (Qax Span.lo Span.hi s days))):=
 Qa8 (ts:=[.agg (Qa7 s load days).toArray]) Qbr (c0:=Qae Tryz.prog 128 7 (([.agg (Qa7 s load days).toArray]).map (Qam 0 4))) (by kernel_rfl) (by kernel_rfl) fun B hJ=> Qrm s load days hs hd h0 h1 hx hJ
def Qh6 (s:Qaa) (days:Int):Array Value:=#[slT (List.length (Qad.uses (Qax Span.hi Span.lo s days))) (Qac Qa1 (Qad.uses (Qax Span.hi Span.lo s days))),slT (List.length (Qad.gaps (Qax Span.hi Span.lo s days))) (Qac Qa1 (Qad.gaps (Qax Span.hi Span.lo s days))),slT (List.length (Qad.goods (Qax Span.hi Span.lo s days))) (Qac Qas (Qad.goods (Qax Span.hi Span.lo s days)))]
theorem QrF (B:Lo) (s:Qaa) (load days:Int):QaK (Qak Tryz.prog (Qaw Tryz.prog) J0 B 6 1 (Qae Tryz.prog 129 7 (([.agg (Qa7 s load days).toArray]).map (Qam 0 4))) H00 1
 [(4,Qai.pure (.agg (Qh6 s days)) []),(5,Qai.pure (slT (List.length (QaI s load days (Qax Span.hi Span.lo s days))) (Qac QbB (QaI s load days (Qax Span.hi Span.lo s days)))) [])] 0 [] []) []=some (slT (List.length (QaI s load days (Qax Span.hi Span.lo s days))) (Qac QbB (QaI s load days (Qax Span.hi Span.lo s days))),
 [Qaz []/\Qao Tryz.prog J0 84 #[.agg #[slT s.stock.length (Qac Qa1 s.stock),slT s.use.length (Qac QaD s.use),.int .i64 s.glo,.int .i64 s.ghi,slT s.lots.length (Qac Qaq s.lots),.int .i64 s.hold,.int .i64 load,.int .i64 days],.agg (Qh6 s days)] (slT (List.length (QaI s load days (Qax Span.hi Span.lo s days))) (Qac QbB (QaI s load days (Qax Span.hi Span.lo s days)))),Qaz []/\Qao Tryz.prog J0 150 #[.agg #[slT s.stock.length (Qac Qa1 s.stock),slT s.use.length (Qac QaD s.use),.int .i64 s.glo,.int .i64 s.ghi,slT s.lots.length (Qac Qaq s.lots),.int .i64 s.hold,.int .i64 load,.int .i64 days],Value.func (Fn.func 103) #[] #[],Value.func (Fn.func 104) #[] #[]] (.agg (Qh6 s days))]):=by kernel_rfl
set_option maxHeartbeats 4000000 in
theorem QuL (s:Qaa) (load days:Int) (hs:Qa0 s=true) (hd:0<=days/\days<=300) (h0:0<=load) (h1:load < 64) (hx:Qcs load<=s.lots.length) {B:Lo} (hJ:∀w,B.has w->J0 w):EndsT Tryz.prog B (Qae Tryz.prog 129 7 (([.agg (Qa7 s load days).toArray]).map (Qam 0 4))) (slG (QaI s load days (Qax Span.hi Span.lo s days))):=by
 have ht1:=Qdi Qei Qeg hs hd
 have ht2:=Qdi Qeg Qei hs hd
 exact (GoE.endsT okF hJ Qab GoE.start (QrF B s load days)
  ⟨⟨trivial,Qxt (s) (load) (days) (Qax Span.hi Span.lo s days) (by with_reducible assumption) (by with_reducible assumption) (by with_reducible assumption) (by with_reducible assumption) (by with_reducible assumption) (by with_reducible assumption)⟩,⟨⟨trivial,Q2U (s) (load) (days) (by with_reducible assumption) (by with_reducible assumption)⟩,trivial⟩⟩).cast (by rfl)
theorem QzR (s:Qaa) (load days:Int) (hs:Qa0 s=true) (hd:0<=days/\days<=300) (h0:0<=load) (h1:load < 64) (hx:Qcs load<=s.lots.length):Qao Tryz.prog J0 129 #[.agg (Qa7 s load days).toArray] (slG (QaI s load days (Qax Span.hi Span.lo s days))):=
 Qa8 (ts:=[.agg (Qa7 s load days).toArray]) Qbr (c0:=Qae Tryz.prog 129 7 (([.agg (Qa7 s load days).toArray]).map (Qam 0 4))) (by kernel_rfl) (by kernel_rfl) fun B hJ=> QuL s load days hs hd h0 h1 hx hJ
def Qgt (s:Qaa) (load days:Int) (i:Int) (ys:List Wnt):List Value:=[Qay 1 (slT (List.length (List.map Qat (QaI s load days (Qax Span.lo Span.hi s days)))) (Qac Qa1 (List.map Qat (QaI s load days (Qax Span.lo Span.hi s days))))),Qay 1 (slT (List.length (List.map Qat (QaI s load days (Qax Span.hi Span.lo s days)))) (Qac Qa1 (List.map Qat (QaI s load days (Qax Span.hi Span.lo s days))))),.slice (some {block:=2,off:=0}) s.stock.length 2,.int .i64 (↑s.stock.length:Int),.int .i64 i]
def Qez (s:Qaa) (load days:Int) (i:Int) (ys:List Wnt):List Obj:=[.cells (Qac Qci ys) 81 (0,0)]
def Qgz:List Item:=([.code [1,1,1,0,1,0,0],.inLoop [1,1,1,0,1,0,0],.inBlock 0,.code [1,1,1,1]]).map (it (Qan Tryz.prog 89))
def QxS (B:Lo) (c0:CF) (s:Qaa) (load days:Int) (i:Int) (ys:List Wnt):Prop:=∃dJ:Nat->Value,(∀t,Qbb (dJ t))/\GoE Tryz.prog B c0 H00 1 (Qa4 89 37 (([3,4,5,19,20]:List Nat).zip (Qgt s load days i ys)) dJ Qgz) (Qa3 (Qez s load days i ys)) (2+(Qez s load days i ys).length) []
theorem QyI (B:Lo) (s:Qaa) (load days:Int) (i:Int) (ys:List Wnt) (dJ0:Nat->Value):landM (Qak Tryz.prog (Qaw Tryz.prog) J0 B 13 1 (Qa4 89 37 (([3,4,5,19,20]:List Nat).zip (Qgt s load days i ys)) dJ0 Qgz) (Qa3 (Qez s load days i ys)) (2+(Qez s load days i ys).length)
 [(0,hvT),(7,Qai.tidx i.toNat #[.int .i64 (List.getD (List.map Qat (QaI s load days (Qax Span.lo Span.hi s days))) i.toNat default)]),(11,Qai.tidx i.toNat #[.int .i64 (List.getD (List.map Qat (QaI s load days (Qax Span.hi Span.lo s days))) i.toNat default)]),(14,Qai.old (Hint.idx i.toNat)),(15,Qai.old (Hint.st (Qac Qci (List.set ys i.toNat {may:=List.getD (List.map Qat (QaI s load days (Qax Span.lo Span.hi s days))) i.toNat default,must:=List.getD (List.map Qat (QaI s load days (Qax Span.hi Span.lo s days))) i.toNat default})))),(16,hvI (i+1))] 0 [] []) [3,4,5,19,20] [(2,KS.cells [] (Qac Qci (List.set ys i.toNat {may:=List.getD (List.map Qat (QaI s load days (Qax Span.lo Span.hi s days))) i.toNat default,must:=List.getD (List.map Qat (QaI s load days (Qax Span.hi Span.lo s days))) i.toNat default})))] []=some ⟨89,37,Qgz,[],.run,none,Qgt s load days (i+1) (List.set ys i.toNat {may:=List.getD (List.map Qat (QaI s load days (Qax Span.lo Span.hi s days))) i.toNat default,must:=List.getD (List.map Qat (QaI s load days (Qax Span.hi Span.lo s days))) i.toNat default}),Qez s load days (i+1) (List.set ys i.toNat {may:=List.getD (List.map Qat (QaI s load days (Qax Span.lo Span.hi s days))) i.toNat default,must:=List.getD (List.map Qat (QaI s load days (Qax Span.hi Span.lo s days))) i.toNat default}),
 [QeR 1 [] (Qac Qci (List.set ys i.toNat {may:=List.getD (List.map Qat (QaI s load days (Qax Span.lo Span.hi s days))) i.toNat default,must:=List.getD (List.map Qat (QaI s load days (Qax Span.hi Span.lo s days))) i.toNat default})) (Qac Qci (List.set ys i.toNat {may:=List.getD (List.map Qat (QaI s load days (Qax Span.lo Span.hi s days))) i.toNat default,must:=List.getD (List.map Qat (QaI s load days (Qax Span.hi Span.lo s days))) i.toNat default})),wq (i+1)=i+1,0+Int.toNat i * 2+TypeInfo.size Tryz.t81<=Array.size (Qac Qci ys)/\splice (Qac Qci ys) (0+Int.toNat i * 2) (Value.cells (QbR {len:=16000,tr:=Tri.set 14 (Tri.set 14 Tri.lf 33 (.agg #[.int .i64 (List.getD (List.map Qat (QaI s load days (Qax Span.lo Span.hi s days))) i.toNat default),.int .i64 (List.getD (List.map Qat (QaI s load days (Qax Span.hi Span.lo s days))) i.toNat default)])) 34 (.pointer (some {block:=2,off:=0+Int.toNat i * 2}))} 33))=Qac Qci (List.set ys i.toNat {may:=List.getD (List.map Qat (QaI s load days (Qax Span.lo Span.hi s days))) i.toNat default,must:=List.getD (List.map Qat (QaI s load days (Qax Span.hi Span.lo s days))) i.toNat default}),i=(↑i.toNat:Int)/\Int.toNat i < List.length s.stock,i=(↑i.toNat:Int)/\Int.toNat i < List.length (List.map Qat (QaI s load days (Qax Span.hi Span.lo s days)))/\Array.extract (Qac Qa1 (List.map Qat (QaI s load days (Qax Span.hi Span.lo s days)))) (Int.toNat i * TypeInfo.size Tryz.t3) (Int.toNat i * TypeInfo.size Tryz.t3+TypeInfo.size Tryz.t3)=#[.int .i64 (List.getD (List.map Qat (QaI s load days (Qax Span.hi Span.lo s days))) i.toNat default)],i=(↑i.toNat:Int)/\Int.toNat i < List.length (List.map Qat (QaI s load days (Qax Span.lo Span.hi s days)))/\Array.extract (Qac Qa1 (List.map Qat (QaI s load days (Qax Span.lo Span.hi s days)))) (Int.toNat i * TypeInfo.size Tryz.t3) (Int.toNat i * TypeInfo.size Tryz.t3+TypeInfo.size Tryz.t3)=#[.int .i64 (List.getD (List.map Qat (QaI s load days (Qax Span.lo Span.hi s days))) i.toNat default)],ltq i (↑s.stock.length:Int)=true]⟩:=by kernel_rfl
theorem Qxv (B:Lo) (s:Qaa) (load days:Int) (i:Int) (ys:List Wnt) (dJ0:Nat->Value):QaK (Qak Tryz.prog (Qaw Tryz.prog) J0 B 9 1 (Qa4 89 37 (([3,4,5,19,20]:List Nat).zip (Qgt s load days i ys)) dJ0 Qgz) (Qa3 (Qez s load days i ys)) (2+(Qez s load days i ys).length)
 [(0,hvF)] 0 [] []) [{k:=2,rs:=[],cs:=Qac Qci ys}]=some (slT s.stock.length (Fz.cs {k:=2,rs:=[],cs:=Qac Qci ys}),
 [Qct (Fz.rs {k:=2,rs:=[],cs:=Qac Qci ys}) (Qac Qci ys) (Fz.cs {k:=2,rs:=[],cs:=Qac Qci ys}),ltq i (↑s.stock.length:Int)=false]):=by kernel_rfl
theorem QyA (B:Lo) (s:Qaa) (load days:Int):landM (Qak Tryz.prog (Qaw Tryz.prog) J0 B 11 1 (Qae Tryz.prog 89 37 (([.agg (Qa7 s load days).toArray]).map (Qam 0 4))) H00 1
 [(3,Qai.pure (slT (List.length (QaI s load days (Qax Span.lo Span.hi s days))) (Qac QbB (QaI s load days (Qax Span.lo Span.hi s days)))) []),(4,Qai.pure (slT (List.length (List.map Qat (QaI s load days (Qax Span.lo Span.hi s days)))) (Qac Qa1 (List.map Qat (QaI s load days (Qax Span.lo Span.hi s days))))) []),(6,Qai.pure (slT (List.length (QaI s load days (Qax Span.hi Span.lo s days))) (Qac QbB (QaI s load days (Qax Span.hi Span.lo s days)))) []),(7,Qai.pure (slT (List.length (List.map Qat (QaI s load days (Qax Span.hi Span.lo s days)))) (Qac Qa1 (List.map Qat (QaI s load days (Qax Span.hi Span.lo s days))))) []),(14,Qai.old (Hint.mk s.stock.length (Qac (Qb5 [.int .i64 0,.int .i64 0]) (List.replicate s.stock.length ()))))] 0 [] []) [3,4,5,19,20] [(6,KS.rows [] [] (Qac Qci (List.replicate s.stock.length {may:=0,must:=0})))] []=some ⟨89,37,Qgz,[],.run,none,Qgt s load days (0) (List.replicate s.stock.length {may:=0,must:=0}),Qez s load days (0) (List.replicate s.stock.length {may:=0,must:=0}),
 [Qbi 1 [] [] (Qac (Qb5 [.int .i64 0,.int .i64 0]) (List.replicate s.stock.length ())) (Qac Qci (List.replicate s.stock.length {may:=0,must:=0})),Qf6 Tryz.prog 75 (QbR {len:=16000,tr:=Tri.set 14 Tri.lf 16 (.int .i64 (↑s.stock.length:Int))} 16) (QbR {len:=16000,tr:=Tri.set 14 Tri.lf 16 (.int .i64 (↑s.stock.length:Int))} 16)=some (81,Qac (Qb5 [.int .i64 0,.int .i64 0]) (List.replicate s.stock.length ()),List.length s.stock,TypeInfo.size Tryz.t81),Qaz []/\Qao Tryz.prog J0 85 #[slT (List.length (QaI s load days (Qax Span.hi Span.lo s days))) (Qac QbB (QaI s load days (Qax Span.hi Span.lo s days)))] (slT (List.length (List.map Qat (QaI s load days (Qax Span.hi Span.lo s days)))) (Qac Qa1 (List.map Qat (QaI s load days (Qax Span.hi Span.lo s days))))),Qaz []/\Qao Tryz.prog J0 129 #[.agg #[slT s.stock.length (Qac Qa1 s.stock),slT s.use.length (Qac QaD s.use),.int .i64 s.glo,.int .i64 s.ghi,slT s.lots.length (Qac Qaq s.lots),.int .i64 s.hold,.int .i64 load,.int .i64 days]] (slT (List.length (QaI s load days (Qax Span.hi Span.lo s days))) (Qac QbB (QaI s load days (Qax Span.hi Span.lo s days)))),Qaz []/\Qao Tryz.prog J0 85 #[slT (List.length (QaI s load days (Qax Span.lo Span.hi s days))) (Qac QbB (QaI s load days (Qax Span.lo Span.hi s days)))] (slT (List.length (List.map Qat (QaI s load days (Qax Span.lo Span.hi s days)))) (Qac Qa1 (List.map Qat (QaI s load days (Qax Span.lo Span.hi s days))))),Qaz []/\Qao Tryz.prog J0 128 #[.agg #[slT s.stock.length (Qac Qa1 s.stock),slT s.use.length (Qac QaD s.use),.int .i64 s.glo,.int .i64 s.ghi,slT s.lots.length (Qac Qaq s.lots),.int .i64 s.hold,.int .i64 load,.int .i64 days]] (slT (List.length (QaI s load days (Qax Span.lo Span.hi s days))) (Qac QbB (QaI s load days (Qax Span.lo Span.hi s days))))]⟩:=by kernel_rfl
set_option maxHeartbeats 4000000 in
theorem QyL (s:Qaa) (load days:Int) (hs:Qa0 s=true) (hd:0<=days/\days<=300) (h0:0<=load) (h1:load < 64) (hx:Qcs load<=s.lots.length) {B:Lo} (hJ:∀w,B.has w->J0 w) {c0:CF}:∀m:Nat,(∀(i:Int) (ys:List Wnt),s.stock.length - i.toNat=m->∀(i0:0<=i) (hy:ys=QoN s load days i),QxS B c0 s load days i ys->EndsT Tryz.prog B c0 (Q2m (Qbl s load days))):=by
 intro m0
 induction m0 using Nat.strongRecOn with
 | _ m0 ih0=>
   intro i ys hm0 i0 hy ⟨dJ0,hdJ0,hg0⟩
   have ht1:=Qdi Qei Qeg hs hd
   have ht2:=Qdi Qeg Qei hs hd
   have hst:=Qa5 hs
   have g1:=QuB (load:=load) hs ht1 hd h0 h1 hx
   have g2:=QuB (load:=load) hs ht2 hd h0 h1 hx
   have e1:=Qfl (s:=s) (load:=load) (days:=days) (t:=Qax Span.lo Span.hi s days)
   have e2:=Qfl (s:=s) (load:=load) (days:=days) (t:=Qax Span.hi Span.lo s days)
   have e3:((QaI s load days (Qax Span.lo Span.hi s days)).map Qat).length=s.stock.length:=by rw [List.length_map,e1]
   have e4:((QaI s load days (Qax Span.hi Span.lo s days)).map Qat).length=s.stock.length:=by rw [List.length_map,e2]
   have hyl:ys.length=s.stock.length:=by rw [hy];exact QwW
   have e1:=Qfl (s:=s) (load:=load) (days:=days) (t:=Qax Span.lo Span.hi s days)
   have e2:=Qfl (s:=s) (load:=load) (days:=days) (t:=Qax Span.hi Span.lo s days)
   have e3:((QaI s load days (Qax Span.lo Span.hi s days)).map Qat).length=s.stock.length:=by rw [List.length_map,e1]
   have e4:((QaI s load days (Qax Span.hi Span.lo s days)).map Qat).length=s.stock.length:=by rw [List.length_map,e2]
   by_cases q0:(i:Int) < ((↑s.stock.length:Int))
   ·
    exact ((ih0 _ (by omega)) (i+1) (List.set ys i.toNat {may:=List.getD (List.map Qat (QaI s load days (Qax Span.lo Span.hi s days))) i.toNat default,must:=List.getD (List.map Qat (QaI s load days (Qax Span.hi Span.lo s days))) i.toNat default}) rfl (by omega) (by (subst hy;exact QyR i0 q0))
     (hg0.landM okF hJ Qab (QyI B s load days i ys dJ0)
     (by exact ⟨(QaY (Qbj (fun x=> List.all_eq_true.1 (by rfl)))),⟨(QaV (by omega) (by omega)),⟨(by exact Qfb (z:=2) (fun _=> rfl) (by omega) rfl rfl),⟨⟨by omega,by omega⟩,⟨⟨by omega,by omega,(Qaj (z:=1) (fun _=> rfl) (by omega))⟩,⟨⟨by omega,by omega,(Qaj (z:=1) (fun _=> rfl) (by omega))⟩,⟨(Qbn q0),trivial⟩⟩⟩⟩⟩⟩⟩) (by kernel_rfl) (by kernel_rfl))).cast (by rfl)
   ·
    exact (GoE.endsT okF hJ Qab hg0 (Qxv B s load days i ys dJ0)
     ⟨(Qcg (fun x=> List.all_eq_true.1 (by rfl))),⟨(Qbk (Int.not_lt.1 q0)),trivial⟩⟩).cast (by exact QeM (hy.trans (QvY (by omega))) (by simp [Qbl,QbM]))
set_option maxHeartbeats 4000000 in
theorem Q19 (s:Qaa) (load days:Int) (hs:Qa0 s=true) (hd:0<=days/\days<=300) (h0:0<=load) (h1:load < 64) (hx:Qcs load<=s.lots.length) {B:Lo} (hJ:∀w,B.has w->J0 w):EndsT Tryz.prog B (Qae Tryz.prog 89 37 (([.agg (Qa7 s load days).toArray]).map (Qam 0 4))) (Q2m (Qbl s load days)):=by
 have ht1:=Qdi Qei Qeg hs hd
 have ht2:=Qdi Qeg Qei hs hd
 have hst:=Qa5 hs
 have g1:=QuB (load:=load) hs ht1 hd h0 h1 hx
 have g2:=QuB (load:=load) hs ht2 hd h0 h1 hx
 have e1:=Qfl (s:=s) (load:=load) (days:=days) (t:=Qax Span.lo Span.hi s days)
 have e2:=Qfl (s:=s) (load:=load) (days:=days) (t:=Qax Span.hi Span.lo s days)
 have e3:((QaI s load days (Qax Span.lo Span.hi s days)).map Qat).length=s.stock.length:=by rw [List.length_map,e1]
 have e4:((QaI s load days (Qax Span.hi Span.lo s days)).map Qat).length=s.stock.length:=by rw [List.length_map,e2]
 exact ((QyL s load days hs hd h0 h1 hx hJ _) (0) (List.replicate s.stock.length {may:=0,must:=0}) rfl (by omega) (by exact Q2C)
  (GoE.start.landM okF hJ Qab (QyA B s load days)
  (by exact ⟨(by exact (QbA (by exact ⟨(.simple rfl),⟨(.simple rfl),trivial⟩⟩) _)),⟨(QfE (bytes:=16) (by kernel_rfl) (by omega) (by omega) (by omega)),⟨⟨trivial,QiV (QaI s load days (Qax Span.hi Span.lo s days)) (by omega) (by with_reducible assumption)⟩,⟨⟨trivial,QzR (s) (load) (days) (by with_reducible assumption) (by with_reducible assumption) (by with_reducible assumption) (by with_reducible assumption) (by with_reducible assumption)⟩,⟨⟨trivial,QiV (QaI s load days (Qax Span.lo Span.hi s days)) (by omega) (by with_reducible assumption)⟩,⟨⟨trivial,Qwk (s) (load) (days) (by with_reducible assumption) (by with_reducible assumption) (by with_reducible assumption) (by with_reducible assumption) (by with_reducible assumption)⟩,trivial⟩⟩⟩⟩⟩⟩) (by kernel_rfl) (by kernel_rfl))).cast (by rfl)
theorem Q4r (s:Qaa) (load days:Int) (hs:Qa0 s=true) (hd:0<=days/\days<=300) (h0:0<=load) (h1:load < 64) (hx:Qcs load<=s.lots.length):Qao Tryz.prog J0 89 #[.agg (Qa7 s load days).toArray] (Q2m (Qbl s load days)):=
 Qa8 (ts:=[.agg (Qa7 s load days).toArray]) Qbr (c0:=Qae Tryz.prog 89 37 (([.agg (Qa7 s load days).toArray]).map (Qam 0 4))) (by kernel_rfl) (by kernel_rfl) fun B hJ=> Q19 s load days hs hd h0 h1 hx hJ
def QnX (s:Qaa) (load:List Int) (days:Int):Array Value:=#[slT s.stock.length (Qac Qa1 s.stock),slT s.use.length (Qac QaD s.use),.int .i64 s.glo,.int .i64 s.ghi,slT s.lots.length (Qac Qaq s.lots),.int .i64 s.hold,.int .i64 (QaF load 0),.int .i64 days]
def Qin (s:Qaa):Array Value:=#[slT s.stock.length (Qac Qa1 s.stock),slT s.use.length (Qac QaD s.use),.int .i64 s.glo,.int .i64 s.ghi,slT s.lots.length (Qac Qaq s.lots),.int .i64 s.hold]
def Qod (B:Lo) (s:Qaa) (load:List Int) (days:Int):List Prop:=[Qaz []/\Qao Tryz.prog J0 79 #[.agg (Qin s)] (.bool true)]++([]:List Prop)
def QtJ (s:Qaa) (load:List Int) (days:Int):Qap:=[(4,Qai.pure (.bool true) [])]
def Qn5 (B:Lo) (s:Qaa) (load:List Int) (days:Int):List Prop:=[Qaz []/\Qao Tryz.prog J0 80 #[.agg (Qin s),slT load.length (Qac Qa1 load)] (.bool true)]++Qod B s load days
def QsB (s:Qaa) (load:List Int) (days:Int):Qap:=QtJ s load days++[(9,Qai.pure (.bool true) [])]
theorem QzX (B:Lo) (s:Qaa) (load:List Int) (days:Int):QaK (Qak Tryz.prog (Qaw Tryz.prog) J0 B 11 1 (Qae Tryz.prog 43 27 (([.agg (Qah s).toArray,slI load,.int .i64 days]).map (Qam 0 4))) H00 1
 (QsB s load days++[(14,Qai.pure (.bool true) []),(20,Qai.pure (.agg (QnX s load days)) []),(21,Qai.pure (slT (List.length (Qbl s (QaF load 0) days)) (Qac Qci (Qbl s (QaF load 0) days))) [])]) 0 [] []) []=some (.tuple #[slT (List.length (Qbl s (QaF load 0) days)) (Qac Qci (Qbl s (QaF load 0) days)),.int .i64 0],
 [Qaz []/\Qao Tryz.prog J0 89 #[.agg (QnX s load days)] (slT (List.length (Qbl s (QaF load 0) days)) (Qac Qci (Qbl s (QaF load 0) days))),Qaz []/\Qao Tryz.prog J0 83 #[.agg (Qin s),slT load.length (Qac Qa1 load),.int .i64 days] (.agg (QnX s load days)),Qaz []/\Qao Tryz.prog J0 81 #[.int .i64 days] (.bool true)]++Qn5 B s load days):=by kernel_rfl
theorem QzK (B:Lo) (s:Qaa) (load:List Int) (days:Int):QaK (Qak Tryz.prog (Qaw Tryz.prog) J0 B 10 1 (Qae Tryz.prog 43 27 (([.agg (Qah s).toArray,slI load,.int .i64 days]).map (Qam 0 4))) H00 1
 (QsB s load days++[(14,Qai.pure (.bool false) [])]) 0 [] []) []=some (.tuple #[slT 0 #[],.int .i64 2],
 [Qaz []/\Qao Tryz.prog J0 81 #[.int .i64 days] (.bool false)]++Qn5 B s load days):=by kernel_rfl
theorem Q0E (B:Lo) (s:Qaa) (load:List Int) (days:Int):QaK (Qak Tryz.prog (Qaw Tryz.prog) J0 B 10 1 (Qae Tryz.prog 43 27 (([.agg (Qah s).toArray,slI load,.int .i64 days]).map (Qam 0 4))) H00 1
 (QtJ s load days++[(9,Qai.pure (.bool false) [])]) 0 [] []) []=some (.tuple #[slT 0 #[],.int .i64 2],
 [Qaz []/\Qao Tryz.prog J0 80 #[.agg (Qin s),slT load.length (Qac Qa1 load)] (.bool false)]++Qod B s load days):=by kernel_rfl
theorem Q0C (B:Lo) (s:Qaa) (load:List Int) (days:Int):QaK (Qak Tryz.prog (Qaw Tryz.prog) J0 B 10 1 (Qae Tryz.prog 43 27 (([.agg (Qah s).toArray,slI load,.int .i64 days]).map (Qam 0 4))) H00 1
 [(4,Qai.pure (.bool false) [])] 0 [] []) []=some (.tuple #[slT 0 #[],.int .i64 2],
 [Qaz []/\Qao Tryz.prog J0 79 #[.agg (Qin s)] (.bool false)]):=by kernel_rfl
set_option maxHeartbeats 4000000 in
theorem Q2E (s:Qaa) (load:List Int) (days:Int)  {B:Lo} (hJ:∀w,B.has w->J0 w):EndsT Tryz.prog B (Qae Tryz.prog 43 27 (([.agg (Qah s).toArray,slI load,.int .i64 days]).map (Qam 0 4))) (.tuple #[if Qa0 s && (QcF s load && inB days 0 300) then Q2m (Qbl s (QaF load 0) days) else Q2m [],.int .i64 (if Qa0 s && (QcF s load && inB days 0 300) then 0 else 2)]):=by
 cases q0:Qa0 s with
 | true=>
   have hp0:Qaz (Qod B s load days):=by
    exact ⟨⟨trivial,(by have t_:=QjN (s);rw [q0] at t_;exact t_)⟩,trivial⟩
   cases q1:QcF s load with
   | true=>
     have hp1:Qaz (Qn5 B s load days):=by
      have g1:=QcX ‹Qa0 s=true› ‹QcF s load=true›
      have g5:=g1.1
      have g6:=g1.2.2.1
      have g7:=g1.2.2.2
      have g8:=g1.2.1
      exact ⟨⟨trivial,(by have t_:=Qns (s) (load) (by with_reducible assumption);rw [q1] at t_;exact t_)⟩,hp0⟩
     cases q2:inB days 0 300 with
     | true=>
       have g1:=QcX ‹Qa0 s=true› ‹QcF s load=true›
       have g2:=QaP.1 ‹inB days 0 300=true›
       have g5:=g1.1
       have g6:=g1.2.2.1
       have g7:=g1.2.2.2
       have g8:=g1.2.1
       exact (GoE.endsT okF hJ Qab GoE.start (QzX B s load days)
        ⟨⟨trivial,Q4r (s) (QaF load 0) (days) (by with_reducible assumption) (by with_reducible assumption) (by with_reducible assumption) (by with_reducible assumption) (by with_reducible assumption)⟩,⟨⟨trivial,Qpz (s) (load) (days) (by with_reducible assumption)⟩,⟨⟨trivial,(by have t_:=QjI (days);rw [q2] at t_;exact t_)⟩,hp1⟩⟩⟩).cast (by rfl)
     | false=>
       have g1:=QcX ‹Qa0 s=true› ‹QcF s load=true›
       have g5:=g1.1
       have g6:=g1.2.2.1
       have g7:=g1.2.2.2
       have g8:=g1.2.1
       exact (GoE.endsT okF hJ Qab GoE.start (QzK B s load days)
        ⟨⟨trivial,(by have t_:=QjI (days);rw [q2] at t_;exact t_)⟩,hp1⟩).cast (by rfl)
   | false=>
     exact (GoE.endsT okF hJ Qab GoE.start (Q0E B s load days)
      ⟨⟨trivial,(by have t_:=Qns (s) (load) (by with_reducible assumption);rw [q1] at t_;exact t_)⟩,hp0⟩).cast (by rfl)
 | false=>
   exact (GoE.endsT okF hJ Qab GoE.start (Q0C B s load days)
    ⟨⟨trivial,(by have t_:=QjN (s);rw [q0] at t_;exact t_)⟩,trivial⟩).cast (by rfl)
theorem Q4X (s:Qaa) (load:List Int) (days:Int)  :Qao Tryz.prog J0 43 #[.agg (Qah s).toArray,slI load,.int .i64 days] (.tuple #[if Qa0 s && (QcF s load && inB days 0 300) then Q2m (Qbl s (QaF load 0) days) else Q2m [],.int .i64 (if Qa0 s && (QcF s load && inB days 0 300) then 0 else 2)]):=
 Qa8 (ts:=[.agg (Qah s).toArray,slI load,.int .i64 days]) Qbr (c0:=Qae Tryz.prog 43 27 (([.agg (Qah s).toArray,slI load,.int .i64 days]).map (Qam 0 4))) (by kernel_rfl) (by kernel_rfl) fun B hJ=> Q2E s load days  hJ
end
end Go.Proofs.YtiabgkiccaodmaaGreat

namespace Go.Proofs.YtiabgkiccaodmaaGreat
open Go Go.CE Go.RowKit
def Qrj:List Int->Int->Int->Int
 | [],_,_=> 0
 | g::l,s,d=> (if s+g<=d then 1 else 0)+Qrj l (s+g) d
theorem Qtb:∀(l:List Int) (s d:Int),0<=Qrj l s d
 | [],_,_=> Int.le_refl _
 | g::l,s,d=> by have:=Qtb l (s+g) d;unfold Qrj;split <;> omega
theorem Qzc:∀(l:List Int) (s d:Int),(∀g∈l,1<=g)->d<=s->Qrj l s d=0
 | [],_,_,_,_=> rfl
 | g::l,s,d,h,hd=> by
   have hg:=h g (by simp)
   unfold Qrj
   rw [if_neg (by omega),Qzc l (s+g) d (fun x hx=> h x (by simp [hx])) (by omega)];rfl
theorem Qt4:∀(l:List Int) (s d:Int),(∀g∈l,1<=g)->Qrj l s d=Qrj l s (d - 1)+(if Qid d l s=true then 1 else 0)
 | [],_,_,_=> rfl
 | g::l,s,d,h=> by
   have hl:∀x∈l,1<=x:=fun x hx=> h x (by simp [hx])
   have ih:=Qt4 l (s+g) d hl
   unfold Qrj Qid
   by_cases e:s+g=d
   ·rw [decide_eq_true e,Bool.true_or,if_pos rfl,if_pos (by omega),if_neg (by omega),Qzc l (s+g) d hl (by omega),Qzc l (s+g) (d - 1) hl (by omega)];rfl
   ·rw [decide_eq_false e,Bool.false_or,ih]
    by_cases e2:s+g<=d
    ·rw [if_pos e2,if_pos (show s+g<=d - 1 by omega)];omega
    ·rw [if_neg e2,if_neg (show ¬s+g<=d - 1 by omega)];omega
theorem Q1B {days d:Int} (hd:d < days):∀(l l':List Int) (s s':Int),(∀h∈l,∀g∈l',g<=h)->(∀g∈l,1<=g)->(∀g∈l',1<=g)->s'<=s->days<=s'+Qel l'->Qrj l s d<=Qrj l' s' d
 | [],l',_,s',_,_,_,_,_=> Qtb l' s' d
 | h::l,l',s,s',hh,h1,h2,hs,hsum=> by
   have hp:=h1 h (by simp)
   by_cases e:s+h<=d
   ·cases l' with
    | nil=> simp only [Qel] at hsum;omega
    | cons g l'=>
      have hg:=hh h (by simp) g (by simp)
      have hgp:=h2 g (by simp)
      have ih:=Q1B hd l l' (s+h) (s'+g) (fun a ha b hb=> hh a (by simp [ha]) b (by simp [hb])) (fun x hx=> h1 x (by simp [hx])) (fun x hx=> h2 x (by simp [hx])) (by omega) (by simp only [Qel] at hsum;omega)
      unfold Qrj
      rw [if_pos e,if_pos (by omega)];omega
   ·have e1:Qrj (h::l) s d=(if s+h<=d then 1 else 0)+Qrj l (s+h) d:=rfl
    rw [e1,if_neg e,Qzc l (s+h) d (fun x hx=> h1 x (by simp [hx])) (by omega)]
    have:=Qtb l' s' d
    omega
def Qff (b:Int->Int):List Int->Int
 | []=> -1
 | d::l=> if b d < 0 then d else Qff b l
theorem QqI {use br:Int} {comes:Int->Bool} {b:Int->Int}:∀(cs:List Bool) (d left:Int),(∀j:Nat,j < cs.length->comes (d+j)=cs.getD j default)->(∀e,d<=e->b e=b (e - 1)+(if comes e=true then br else 0) - use)->left=b (d - 1)->Qbd use br cs d left=Qff b (upI d (d+cs.length))
 | [],d,left,_,_,_=> by rw [Qgl (by simp)];rfl
 | c::cs,d,left,h,hb,hl=> by
   have hc:comes d=c:=by have:=h 0 (by simp);simpa using this
   have h1:=hb d (Int.le_refl _)
   rw [Qej (by simp;omega),show d+((c::cs).length:Int)=(d+1)+cs.length by simp;omega]
   have f1:Qbd use br (c::cs) d left=bif decide ((left+bif c then br else 0) < use) then d else Qbd use br cs (d+1) (Que use (left+bif c then br else 0)):=rfl
   have eL:(if comes d=true then br else 0)=bif c then br else 0:=by rw [hc];cases c <;> rfl
   rw [f1]
   rw [eL,<-hl] at h1
   show _=if b d < 0 then d else Qff b (upI (d+1) ((d+1)+cs.length))
   by_cases e:(left+bif c then br else 0) < use
   ·rw [decide_eq_true e,cond_true,if_pos (by omega)]
   ·rw [decide_eq_false e,cond_false,if_neg (by omega)]
    refine QqI cs (d+1) _ (fun j hj=> ?_) (fun x hx=> hb x (by omega)) ?_
    ·have:=h (j+1) (by simp;omega)
     rw [show d+((j+1:Nat):Int)=d+1+(j:Int) by omega] at this
     rw [this];simp
    ·rw [show d+1 - 1=d by omega,h1]
     unfold Que;split <;> omega
theorem QkE {b b':Int->Int}:∀l:List Int,(∀d∈l,b d<=b' d)->(∀d∈l,0<=d)->l.Pairwise (· < ·)->0<=Qff b' l->0<=Qff b l/\Qff b l<=Qff b' l
 | [],_,_,_,h=> by simp [Qff] at h
 | d::l,h,h0,hp,hf=> by
   have h1:=h d (by simp)
   have h2:=h0 d (by simp)
   rw [List.pairwise_cons] at hp
   unfold Qff at hf ⊢
   by_cases e:b' d < 0
   ·rw [if_pos (by omega),if_pos e];omega
   ·rw [if_neg e] at hf ⊢
    by_cases e2:b d < 0
    ·rw [if_pos e2]
     refine ⟨h2, ?_⟩
     have:∀m:List Int,(∀x∈m,d < x)->0<=Qff b' m->d<=Qff b' m:=by
      intro m
      induction m with
      | nil=> intro _ h;simp [Qff] at h
      | cons x m ih=>
        intro hm h
        unfold Qff at h ⊢
        have:=hm x (by simp)
        split
        ·omega
        ·rename_i hn
         rw [if_neg hn] at h
         exact ih (fun y hy=> hm y (by simp [hy])) h
     exact this l hp.1 hf
    ·rw [if_neg e2]
     exact QkE l (fun x hx=> h x (by simp [hx])) (fun x hx=> h0 x (by simp [hx])) hp.2 hf
theorem QtF:∀(n:Nat) (a:Int),(upI a (a+n)).Pairwise (· < ·)
 | 0,a=> by rw [Qgl (by simp)];exact List.Pairwise.nil
 | n+1,a=> by
   rw [Qej (by omega),show a+((n+1:Nat):Int)=(a+1)+n by omega]
   exact List.Pairwise.cons (fun x hx=> by have:=Qgk hx;omega) (QtF n (a+1))
def Q3W (stock use br:Int) (gaps:List Int) (d:Int):Int:=stock+br * Qrj gaps 0 d - use * (d+1)
theorem QmD {stock use br days:Int} {gaps:List Int} (hg:∀g∈gaps,1<=g) (hd:0<=days):Qbd use br (QcC days gaps) 0 stock=Qff (Q3W stock use br gaps) (upI 0 days):=by
 have hlen:(QcC days gaps).length=days.toNat:=by unfold QcC;rw [Qjc,List.length_replicate]
 have h:=QqI (use:=use) (br:=br) (comes:=fun d=> Qid d gaps 0) (b:=Q3W stock use br gaps) (QcC days gaps) 0 stock (fun j hj=> by
  have:=QuN (days:=days) (d:=(j:Int)) (gaps:=gaps) (fun g hx=> by have:=hg g hx;omega) (by omega) (by omega)
  rw [Int.zero_add,<-this,Int.toNat_natCast]) (fun e he=> by
   unfold Q3W
   rw [Qt4 gaps 0 e hg,Int.mul_add]
   have e2:use * (e - 1+1)=use * (e+1) - use:=by rw [show e - 1+1=e by omega,Int.mul_add];omega
   by_cases hc:Qid e gaps 0=true
   ·rw [if_pos hc,if_pos hc];omega
   ·rw [if_neg hc,if_neg hc];omega) (by unfold Q3W;rw [Qzc gaps 0 (0 - 1) hg (by omega)];simp)
 rw [h,hlen,show (0:Int)+(days.toNat:Int)=days by omega]
theorem Qtf {stock use br use' br' days:Int} {gaps gaps':List Int} (hd:0<=days) (hu:0<=use'/\use'<=use) (hb:0<=br/\br<=br') (hg:∀h∈gaps,∀g∈gaps',g<=h) (h1:∀g∈gaps,1<=g) (h2:∀g∈gaps',1<=g) (hs:days<=Qel gaps'):
 0<=Qbd use' br' (QcC days gaps') 0 stock->0<=Qbd use br (QcC days gaps) 0 stock/\Qbd use br (QcC days gaps) 0 stock<=Qbd use' br' (QcC days gaps') 0 stock:=by
 rw [QmD h1 hd,QmD h2 hd]
 have hp:=QtF days.toNat 0
 rw [show (0:Int)+(days.toNat:Int)=days by omega] at hp
 refine QkE _ (fun d hx=> ?_) (fun d hx=> (Qgk hx).1) hp
 have hd2:=Qgk hx
 have c:=Q1B hd2.2 gaps gaps' 0 0 hg h1 h2 (Int.le_refl _) (by omega)
 have m1:br * Qrj gaps 0 d<=br' * Qrj gaps' 0 d:=Int.mul_le_mul hb.2 c (Qtb _ _ _) (by omega)
 have m2:use' * (d+1)<=use * (d+1):=Int.mul_le_mul_of_nonneg_right hu.2 (by omega)
 unfold Q3W;omega
theorem QqH {α:Type} {f g:α->Int}:∀l:List α,(∀x∈l,f x<=g x)->Qel (l.map f)<=Qel (l.map g)
 | [],_=> Int.le_refl _
 | x::l,h=> by
   have h1:=h x (by simp)
   have h2:=QqH l fun y hy=> h y (by simp [hy])
   simp only [List.map_cons,Qel];omega
theorem QjD {s:Qaa} {load k:Int} {g g':List Row} (hx:Qcs load<=s.lots.length) (h:∀x:Int,0<=x->x < s.lots.length->(g.getD x.toNat default).getD k.toNat default<=(g'.getD x.toNat default).getD k.toNat default):QhU load g k<=QhU load g' k:=by
 unfold QhU Qav
 rw [List.map_map,List.map_map]
 refine QqH _ fun x hm=> ?_
 have:=Qgk (List.mem_filter.1 hm).1
 exact h x this.1 (by omega)
theorem Qkq {s:Qaa} {days:Int} {t:Qad} (hs:Qa0 s=true) (ht:Qbv s days t=true):
 (∀k:Int,0<=k->k < s.stock.length->(s.use.getD k.toNat default).lo<=t.uses.getD k.toNat default/\t.uses.getD k.toNat default<=(s.use.getD k.toNat default).hi)/\(∀g∈t.gaps,s.glo<=g/\g<=s.ghi)/\days<=Qel t.gaps/\
 ∀x k:Int,0<=x->x < s.lots.length->0<=k->k < s.stock.length->((s.lots.getD x.toNat default).goods.getD k.toNat default).lo<=(t.goods.getD x.toNat default).getD k.toNat default/\(t.goods.getD x.toNat default).getD k.toNat default<=((s.lots.getD x.toNat default).goods.getD k.toNat default).hi:=by
 simp only [Qbv,Qhy,Qf3,Bool.and_eq_true,decide_eq_true_iff,List.all_eq_true,QaP] at ht
 have h1:=Qcu ht.1
 have hst:=Qa5 hs
 refine ⟨fun k k0 k1=> h1.2 k k0 (by omega),ht.2.1.2.1,ht.2.1.2.2,fun x k x0 x1 k0 k1=> ?_⟩
 have h2:=Qcu (Qs1 ht.2.2.2 x0 x1)
 have h3:=Qc1 ((QaL hs).2 _ (QaJ (l:=s.lots) x0 x1))
 exact h2.2 k k0 (by omega)
theorem Qmc {f g:Span->Int} {s:Qaa} {days k:Int} (hs:Qa0 s=true) (_:0<=k) (k1:k < s.stock.length):(Qax f g s days).uses.getD k.toNat default=g (s.use.getD k.toNat default):=by
 have hst:=Qa5 hs
 exact getD_map (by omega)
theorem QjC {f g:Span->Int} {s:Qaa} {days x k:Int} (hs:Qa0 s=true) (x0:0<=x) (x1:x < s.lots.length) (k0:0<=k) (k1:k < s.stock.length):((Qax f g s days).goods.getD x.toNat default).getD k.toNat default=f ((s.lots.getD x.toNat default).goods.getD k.toNat default):=by
 have h3:=Qc1 ((QaL hs).2 _ (QaJ (l:=s.lots) x0 x1))
 have e:(s.lots.map fun (l:Qag)=> (l.goods.map f:Row)).getD x.toNat default=(s.lots.getD x.toNat default).goods.map f:=getD_map (f:=fun (l:Qag)=> (l.goods.map f:Row)) (by omega)
 show ((s.lots.map fun (l:Qag)=> (l.goods.map f:Row)).getD x.toNat default).getD k.toNat default=_
 rw [e]
 exact getD_map (by omega)
theorem QhN {f g:Span->Int} {s:Qaa} {days x:Int} (h:x∈(Qax f g s days).gaps):x=g ⟨s.glo,s.ghi⟩:=(List.mem_replicate.1 h).2
theorem Q1r {s:Qaa} {load days k:Int} {t:Qad} (hs:Qa0 s=true) (ht:Qbv s days t=true) (hd:0<=days/\days<=300) (h0:0<=load) (h1:load < 64) (hx:Qcs load<=s.lots.length) (k0:0<=k) (k1:k < s.stock.length):gdB (Qm3 s load days t k):=
 QuB hs ht hd h0 h1 hx _ (List.mem_map.2 ⟨k,QrD.2 ⟨k0,k1⟩,rfl⟩)
theorem Q0k {s:Qaa} {load days k:Int} {t:Qad} (hs:Qa0 s=true) (ht:Qbv s days t=true) (hd:0<=days/\days<=300) (h0:0<=load) (h1:load < 64) (hx:Qcs load<=s.lots.length) (k0:0<=k) (k1:k < s.stock.length) (h:0<=Qat (Qm3 s load days t k)):
 0<=Q3q s load days k/\Q3q s load days k<=Qat (Qm3 s load days t k):=by
 have hE:=Qdi Qei Qeg hs hd
 have a:=Qkq hs ht
 have hgp:=QaS hs
 have n1:=Q1r (k:=k) hs ht hd h0 h1 hx k0 k1
 have n2:=Q1r (k:=k) hs hE hd h0 h1 hx k0 k1
 simp only [gdB,Qm3] at n1 n2
 have u:=a.1 k k0 k1
 have ue:=Qmc (f:=Span.lo) (g:=Span.hi) (days:=days) hs k0 k1
 refine Qtf hd.1 ⟨n1.2.2.1,by show t.uses.getD k.toNat default<=(Qax Span.lo Span.hi s days).uses.getD k.toNat default;rw [ue];exact u.2⟩ ⟨n2.2.2.2.2.1,QjD hx fun x x0 x1=> ?_⟩ (fun g hg' x hx'=> ?_) (fun g hg'=> ?_) (fun g hg'=> ?_) a.2.2.1 h
 ·rw [QjC hs x0 x1 k0 k1];exact (a.2.2.2 x k x0 x1 k0 k1).1
 ·rw [QhN hg'];exact (a.2.1 x hx').2
 ·rw [QhN hg'];show 1<=s.ghi;omega
 ·have:=a.2.1 g hg';omega
theorem Qx1 {s:Qaa} {load days k:Int} {t:Qad} (hs:Qa0 s=true) (ht:Qbv s days t=true) (hd:0<=days/\days<=300) (h0:0<=load) (h1:load < 64) (hx:Qcs load<=s.lots.length) (k0:0<=k) (k1:k < s.stock.length) (h:0<=QvK s load days k):
 0<=Qat (Qm3 s load days t k)/\Qat (Qm3 s load days t k)<=QvK s load days k:=by
 have hE:=Qdi Qeg Qei hs hd
 have a:=Qkq hs ht
 have aE:=Qkq hs hE
 have hgp:=QaS hs
 have n1:=Q1r (k:=k) hs ht hd h0 h1 hx k0 k1
 have n2:=Q1r (k:=k) hs hE hd h0 h1 hx k0 k1
 simp only [gdB,Qm3] at n1 n2
 have u:=a.1 k k0 k1
 have ue:=Qmc (f:=Span.hi) (g:=Span.lo) (days:=days) hs k0 k1
 refine Qtf hd.1 ⟨n2.2.2.1,by show (Qax Span.hi Span.lo s days).uses.getD k.toNat default<=t.uses.getD k.toNat default;rw [ue];exact u.1⟩ ⟨n1.2.2.2.2.1,QjD hx fun x x0 x1=> ?_⟩ (fun x hx' g hg'=> ?_) (fun g hg'=> ?_) (fun g hg'=> ?_) aE.2.2.1 h
 ·rw [QjC hs x0 x1 k0 k1];exact (a.2.2.2 x k x0 x1 k0 k1).2
 ·rw [QhN hg'];exact (a.2.1 x hx').1
 ·have:=a.2.1 g hg';omega
 ·rw [QhN hg'];show 1<=s.glo;omega
end Go.Proofs.YtiabgkiccaodmaaGreat
