/- Wall: the program's depths, by its iterator. -/
import Derived.Test.YtiigkdhaofaijaaZWM11
import Derived.WalkKit
import Derived.Lib.Hide
import Derived.Lib.Overlaps
import Derived.Lib.AppendZerosOnto
import Derived.Shelf.Spec.SlicesInsert
import Derived.Deep.RegionHeld3
import Derived.Test.YtiigkdhaofaijaaZWM06
import Derived.Test.YtiigkdhaofaijaaProg
import Derived.Test.YtiigkdhaofaijaaZWM09
set_option linter.all false
namespace Go.Proofs.Ytiigkdhaofaijaa
open Go Go.CE Go.RowKit
set_option maxRecDepth 100000
theorem goes_eq {s : WShore} {plan : List Int} {t : WTruth} {i lv : Int} : goesOn s i lv (t.drags.getD i.toNat default) (plan.getD i.toNat default) = decide (gr s i + (wk s plan i).rise < lv - t.drags.getD i.toNat default - (wk s plan i).calm) := rfl
def P0 (s : WShore) (plan : List Int) (t : WTruth) (i lv : Int) : Prop := (playL s plan t).drop i.toNat = playI s plan t (upI i s.cells.length) lv true
theorem P0_0 {s : WShore} {plan : List Int} {t : WTruth} : P0 s plan t 0 (levelF s t) := rfl
theorem drop_succ {l m : List Int} {i x : Int} (h0 : 0 ≤ i) (h : l.drop i.toNat = x :: m) : l.drop (i + 1).toNat = m ∧ l.getD i.toNat default = x ∧ i < l.length := by
 have hl : i < l.length := by
  have := congrArg List.length h
  simp only [List.length_drop, List.length_cons] at this; omega
 rw [drop_cons h0 hl] at h
 injection h with h1 h2
 exact ⟨h2, h1, hl⟩
theorem P0_on {s : WShore} {plan : List Int} {t : WTruth} {i lv : Int} (h0 : 0 ≤ i) (h1 : i < s.cells.length) (h : P0 s plan t i lv) (hg : goesOn s i lv (t.drags.getD i.toNat default) (plan.getD i.toNat default) = true) : P0 s plan t (i + 1) (lv - t.drags.getD i.toNat default - (workOf s (plan.getD i.toNat default)).calm) ∧ (playL s plan t).getD i.toNat default = lv - t.drags.getD i.toNat default - (workOf s (plan.getD i.toNat default)).calm - gr s i := by
 unfold P0 at h ⊢
 rw [playI_cons h1] at h
 rw [goes_eq] at hg
 rw [hg] at h
 obtain ⟨a, b, _⟩ := drop_succ h0 h
 exact ⟨a, b⟩
theorem doneL_off {l : List Int} {i : Int} (h0 : 0 ≤ i) (h : l.drop i.toNat = List.replicate (l.length - i.toNat) 0) : doneL (fun (x : Int) => x) 0 l i = l := by
 unfold doneL
 rw [← h, List.map_id', List.take_append_drop]
theorem P0_off {s : WShore} {plan : List Int} {t : WTruth} {i lv : Int} (h0 : 0 ≤ i) (h1 : i < s.cells.length) (h : P0 s plan t i lv) (hg : goesOn s i lv (t.drags.getD i.toNat default) (plan.getD i.toNat default) = false) : doneL (fun (x : Int) => x) 0 (playL s plan t) i = playL s plan t := by
 refine doneL_off h0 ?_
 unfold P0 at h
 rw [h, playI_cons h1]
 rw [goes_eq] at hg
 rw [hg, Bool.and_false, playI_off, playL_len, cond_false]
 rw [← List.replicate_succ]
 congr 1
 have : (upI (i + 1) (s.cells.length : Int)).length = s.cells.length - i.toNat - 1 := by simp [upI]; omega
 omega
theorem P0_end {s : WShore} {plan : List Int} {t : WTruth} {i : Int} (h0 : 0 ≤ i) (h1 : s.cells.length ≤ i) : doneL (fun (x : Int) => x) 0 (playL s plan t) i = playL s plan t := by
 rw [doneL_end (by rw [playL_len]; exact h1), List.map_id']
noncomputable def pdepths_H0 (s : WShore) (c : WStorm) (plan : List Int) (t : WTruth) : Heap := [(4, Obj.cells #[Value.slice (some { block := 3, off := 0 }) s.cells.length 1] 36), (3, Obj.cells (rowL (zeroE [.int .i64 0]) (List.replicate s.cells.length ())) 3), (2, Obj.cells #[.int .i64 t.wind, .int .i64 t.fetch, .int .i64 t.tide, .int .i64 t.loss, topV 0 (slT t.drags.length (rowL encI t.drags))] 38), (1, Obj.cells #[topV 0 (slT s.cells.length (rowL encWCell s.cells)), topV 0 (slT s.works.length (rowL encWWork s.works)), .int .i64 s.reef, .int .i64 s.llo, .int .i64 s.lhi, .int .i64 c.wlo, .int .i64 c.whi, .int .i64 c.flo, .int .i64 c.fhi, .int .i64 c.tlo, .int .i64 c.thi, topV 0 (slT plan.length (rowL encI plan))] 99), (0, Obj.coro none)]
noncomputable def pdepths_c0 (s : WShore) (c : WStorm) (plan : List Int) (t : WTruth) : CF := ⟨83, ofList 6 [Value.agg #[topV 0 (slT s.cells.length (rowL encWCell s.cells)), topV 0 (slT s.works.length (rowL encWWork s.works)), .int .i64 s.reef, .int .i64 s.llo, .int .i64 s.lhi, .int .i64 c.wlo, .int .i64 c.whi, .int .i64 c.flo, .int .i64 c.fhi, .int .i64 c.tlo, .int .i64 c.thi, topV 0 (slT plan.length (rowL encI plan))], Value.agg #[.int .i64 t.wind, .int .i64 t.fetch, .int .i64 t.tide, .int .i64 t.loss, topV 0 (slT t.drags.length (rowL encI t.drags))]], [Item.code (bodyOf Try.prog 83)], [], .run, none⟩
noncomputable def pdepths_z0 (s : WShore) (c : WStorm) (plan : List Int) (t : WTruth) : Array Value := #[Value.agg #[topV 0 (slT s.cells.length (rowL encWCell s.cells)), topV 0 (slT s.works.length (rowL encWWork s.works)), .int .i64 s.reef, .int .i64 s.llo, .int .i64 s.lhi, .int .i64 c.wlo, .int .i64 c.whi, .int .i64 c.flo, .int .i64 c.fhi, .int .i64 c.tlo, .int .i64 c.thi, topV 0 (slT plan.length (rowL encI plan))], Value.agg #[.int .i64 t.wind, .int .i64 t.fetch, .int .i64 t.tide, .int .i64 t.loss, topV 0 (slT t.drags.length (rowL encI t.drags))], pA 1 0, pA 2 0, Value.slice none 0 0, pA 4 0, Value.tuple #[], Value.tuple #[], pA 1 0, pA 1 0, pA 1 0, topV 0 (slT s.cells.length (rowL encWCell s.cells)), .int .i64 (↑s.cells.length : Int), Value.slice (some { block := 3, off := 0 }) s.cells.length 1, Value.agg #[topV 0 (slT s.cells.length (rowL encWCell s.cells)), topV 0 (slT s.works.length (rowL encWWork s.works)), .int .i64 s.reef, .int .i64 s.llo, .int .i64 s.lhi, .int .i64 c.wlo, .int .i64 c.whi, .int .i64 c.flo, .int .i64 c.fhi, .int .i64 c.tlo, .int .i64 c.thi, topV 0 (slT plan.length (rowL encI plan))], Value.agg #[.int .i64 t.wind, .int .i64 t.fetch, .int .i64 t.tide, .int .i64 t.loss, topV 0 (slT t.drags.length (rowL encI t.drags))], Value.func (Fn.func 102) #[] #[topV 5 (ptT 0 #[slT s.cells.length (rowL encWCell s.cells), slT s.works.length (rowL encWWork s.works), .int .i64 s.reef, .int .i64 s.llo, .int .i64 s.lhi, .int .i64 c.wlo, .int .i64 c.whi, .int .i64 c.flo, .int .i64 c.fhi, .int .i64 c.tlo, .int .i64 c.thi, slT plan.length (rowL encI plan)]), topV 5 (ptT 0 #[.int .i64 t.wind, .int .i64 t.fetch, .int .i64 t.tide, .int .i64 t.loss, slT t.drags.length (rowL encI t.drags)])], Value.tuple #[], Value.tuple #[], Value.tuple #[], Value.tuple #[], Value.tuple #[], Value.tuple #[], Value.tuple #[], Value.tuple #[], Value.tuple #[], Value.tuple #[], Value.tuple #[], Value.tuple #[], Value.tuple #[], Value.tuple #[], Value.tuple #[], Value.tuple #[]]
noncomputable def pdepths_z1 (s : WShore) (c : WStorm) (plan : List Int) : Array Value := #[slT s.cells.length (rowL encWCell s.cells), slT s.works.length (rowL encWWork s.works), .int .i64 s.reef, .int .i64 s.llo, .int .i64 s.lhi, .int .i64 c.wlo, .int .i64 c.whi, .int .i64 c.flo, .int .i64 c.fhi, .int .i64 c.tlo, .int .i64 c.thi, slT plan.length (rowL encI plan)]
noncomputable def pdepths_z2 (s : WShore) (c : WStorm) : Array Value := #[slT s.cells.length (rowL encWCell s.cells), slT s.works.length (rowL encWWork s.works), .int .i64 s.reef, .int .i64 s.llo, .int .i64 s.lhi, .int .i64 c.wlo, .int .i64 c.whi, .int .i64 c.flo, .int .i64 c.fhi, .int .i64 c.tlo, .int .i64 c.thi]
noncomputable def pdepths_z3 (t : WTruth) : Array Value := #[.int .i64 t.wind, .int .i64 t.fetch, .int .i64 t.tide, .int .i64 t.loss, slT t.drags.length (rowL encI t.drags)]
theorem pdepths_s0 (B : Lo) (s : WShore) (c : WStorm) (plan : List Int) (t : WTruth) : CE.finK 5 (srunT Try.prog (okFn Try.prog) J0 B 6 5 (pdepths_c0 s c plan t) (pdepths_H0 s c plan t) 5
 [] 0 [] []) [] [] [{ k := 5, rs := [0], cs := #[slT s.cells.length (rowL encWCell s.cells), slT s.works.length (rowL encWWork s.works), .int .i64 s.reef, .int .i64 s.llo, .int .i64 s.lhi, .int .i64 c.wlo, .int .i64 c.whi, .int .i64 c.flo, .int .i64 c.fhi, .int .i64 c.tlo, .int .i64 c.thi, slT plan.length (rowL encI plan)] }, { k := 6, rs := [0], cs := #[.int .i64 t.wind, .int .i64 t.fetch, .int .i64 t.tide, .int .i64 t.loss, slT t.drags.length (rowL encI t.drags)] }] = some (OO.ret (Value.func (Fn.func 102) #[] #[topV 5 (ptT 0 #[slT s.cells.length (rowL encWCell s.cells), slT s.works.length (rowL encWWork s.works), .int .i64 s.reef, .int .i64 s.llo, .int .i64 s.lhi, .int .i64 c.wlo, .int .i64 c.whi, .int .i64 c.flo, .int .i64 c.fhi, .int .i64 c.tlo, .int .i64 c.thi, slT plan.length (rowL encI plan)]), topV 5 (ptT 0 #[.int .i64 t.wind, .int .i64 t.fetch, .int .i64 t.tide, .int .i64 t.loss, slT t.drags.length (rowL encI t.drags)])]), [], [],
 [CellsT (Fz.rs { k := 5, rs := [0], cs := (pdepths_z1 s c plan) }) #[topV 0 (slT s.cells.length (rowL encWCell s.cells)), topV 0 (slT s.works.length (rowL encWWork s.works)), .int .i64 s.reef, .int .i64 s.llo, .int .i64 s.lhi, .int .i64 c.wlo, .int .i64 c.whi, .int .i64 c.flo, .int .i64 c.fhi, .int .i64 c.tlo, .int .i64 c.thi, topV 0 (slT plan.length (rowL encI plan))] (Fz.cs { k := 5, rs := [0], cs := (pdepths_z1 s c plan) }), CellsT (Fz.rs { k := 6, rs := [0], cs := (pdepths_z3 t) }) #[.int .i64 t.wind, .int .i64 t.fetch, .int .i64 t.tide, .int .i64 t.loss, topV 0 (slT t.drags.length (rowL encI t.drags))] (Fz.cs { k := 6, rs := [0], cs := (pdepths_z3 t) })]) := by kernel_rfl
noncomputable def pdepths_H1 (s : WShore) (c : WStorm) (plan : List Int) (t : WTruth) : Heap := [(7, Obj.loop { state := LoopState.ready, pending := none, fn := 61, tmps := #[Value.agg #[topV 0 (slT s.cells.length (rowL encWCell s.cells)), topV 0 (slT s.works.length (rowL encWWork s.works)), .int .i64 s.reef, .int .i64 s.llo, .int .i64 s.lhi, .int .i64 c.wlo, .int .i64 c.whi, .int .i64 c.flo, .int .i64 c.fhi, .int .i64 c.tlo, .int .i64 c.thi, topV 0 (slT plan.length (rowL encI plan))], Value.agg #[.int .i64 t.wind, .int .i64 t.fetch, .int .i64 t.tide, .int .i64 t.loss, topV 0 (slT t.drags.length (rowL encI t.drags))], pA 1 0, pA 2 0, Value.slice none 0 0, pA 4 0, Value.tuple #[], Value.tuple #[], pA 1 0, pA 1 0, pA 1 0, topV 0 (slT s.cells.length (rowL encWCell s.cells)), .int .i64 (↑s.cells.length : Int), Value.slice (some { block := 3, off := 0 }) s.cells.length 1, Value.agg #[topV 0 (slT s.cells.length (rowL encWCell s.cells)), topV 0 (slT s.works.length (rowL encWWork s.works)), .int .i64 s.reef, .int .i64 s.llo, .int .i64 s.lhi, .int .i64 c.wlo, .int .i64 c.whi, .int .i64 c.flo, .int .i64 c.fhi, .int .i64 c.tlo, .int .i64 c.thi, topV 0 (slT plan.length (rowL encI plan))], Value.agg #[.int .i64 t.wind, .int .i64 t.fetch, .int .i64 t.tide, .int .i64 t.loss, topV 0 (slT t.drags.length (rowL encI t.drags))], Value.func (Fn.func 102) #[] #[topV 5 (ptT 0 #[slT s.cells.length (rowL encWCell s.cells), slT s.works.length (rowL encWWork s.works), .int .i64 s.reef, .int .i64 s.llo, .int .i64 s.lhi, .int .i64 c.wlo, .int .i64 c.whi, .int .i64 c.flo, .int .i64 c.fhi, .int .i64 c.tlo, .int .i64 c.thi, slT plan.length (rowL encI plan)]), topV 5 (ptT 0 #[.int .i64 t.wind, .int .i64 t.fetch, .int .i64 t.tide, .int .i64 t.loss, slT t.drags.length (rowL encI t.drags)])], Value.tuple #[], Value.tuple #[], Value.tuple #[], Value.tuple #[], Value.tuple #[], Value.tuple #[], Value.tuple #[], Value.tuple #[], Value.tuple #[], Value.tuple #[], Value.tuple #[], Value.tuple #[], Value.tuple #[], Value.tuple #[], Value.tuple #[], Value.tuple #[]], params := #[17, 18], assign := nav (bodyOf Try.prog 61) [1, 1, 0, 1, 0, 0], body := nav (bodyOf Try.prog 61) [1, 1, 0, 1, 0, 1], defers := 6 }), (6, Obj.deferred (some [])), (5, Obj.coro none), (4, Obj.cells #[Value.slice (some { block := 3, off := 0 }) s.cells.length 1] 36), (3, Obj.cells (rowL (zeroE [.int .i64 0]) (List.replicate s.cells.length ())) 3), (2, Obj.cells #[.int .i64 t.wind, .int .i64 t.fetch, .int .i64 t.tide, .int .i64 t.loss, topV 0 (slT t.drags.length (rowL encI t.drags))] 38), (1, Obj.cells #[topV 0 (slT s.cells.length (rowL encWCell s.cells)), topV 0 (slT s.works.length (rowL encWWork s.works)), .int .i64 s.reef, .int .i64 s.llo, .int .i64 s.lhi, .int .i64 c.wlo, .int .i64 c.whi, .int .i64 c.flo, .int .i64 c.fhi, .int .i64 c.tlo, .int .i64 c.thi, topV 0 (slT plan.length (rowL encI plan))] 99), (0, Obj.coro none)]
noncomputable def pdepths_c1 (s : WShore) (c : WStorm) (plan : List Int) (t : WTruth) : CF := ⟨102, ofList 49 [Value.func (Fn.yield 7) #[] #[], topV 5 (ptT 0 #[slT s.cells.length (rowL encWCell s.cells), slT s.works.length (rowL encWWork s.works), .int .i64 s.reef, .int .i64 s.llo, .int .i64 s.lhi, .int .i64 c.wlo, .int .i64 c.whi, .int .i64 c.flo, .int .i64 c.fhi, .int .i64 c.tlo, .int .i64 c.thi, slT plan.length (rowL encI plan)]), topV 5 (ptT 0 #[.int .i64 t.wind, .int .i64 t.fetch, .int .i64 t.tide, .int .i64 t.loss, slT t.drags.length (rowL encI t.drags)])], [Item.code (bodyOf Try.prog 102)], [], .run, none⟩
noncomputable def pdepths_k1_v0 (s : WShore) (c : WStorm) (plan : List Int) (t : WTruth) (c0 i lv : Int) (ds : List Int) : List Value := [Value.func (Fn.yield 7) #[] #[], topV 5 (ptT 0 #[slT s.cells.length (rowL encWCell s.cells), slT s.works.length (rowL encWWork s.works), .int .i64 s.reef, .int .i64 s.llo, .int .i64 s.lhi, .int .i64 c.wlo, .int .i64 c.whi, .int .i64 c.flo, .int .i64 c.fhi, .int .i64 c.tlo, .int .i64 c.thi, slT plan.length (rowL encI plan)]), pA 9 0, topV 5 (slT t.drags.length (rowL encI t.drags)), .int .i64 (↑t.drags.length : Int), .int .i64 i]
noncomputable def pdepths_k1_w0 (s : WShore) (c : WStorm) (plan : List Int) (t : WTruth) (c0 i lv : Int) (ds : List Int) : List Obj := [Obj.loop { state := LoopState.ready, pending := none, fn := 61, tmps := #[Value.agg #[topV 0 (slT s.cells.length (rowL encWCell s.cells)), topV 0 (slT s.works.length (rowL encWWork s.works)), .int .i64 s.reef, .int .i64 s.llo, .int .i64 s.lhi, .int .i64 c.wlo, .int .i64 c.whi, .int .i64 c.flo, .int .i64 c.fhi, .int .i64 c.tlo, .int .i64 c.thi, topV 0 (slT plan.length (rowL encI plan))], Value.agg #[.int .i64 t.wind, .int .i64 t.fetch, .int .i64 t.tide, .int .i64 t.loss, topV 0 (slT t.drags.length (rowL encI t.drags))], pA 1 0, pA 2 0, Value.slice none 0 0, pA 4 0, Value.tuple #[], Value.tuple #[], pA 1 0, pA 1 0, pA 1 0, topV 0 (slT s.cells.length (rowL encWCell s.cells)), .int .i64 (↑s.cells.length : Int), Value.slice (some { block := 3, off := 0 }) s.cells.length 1, Value.agg #[topV 0 (slT s.cells.length (rowL encWCell s.cells)), topV 0 (slT s.works.length (rowL encWWork s.works)), .int .i64 s.reef, .int .i64 s.llo, .int .i64 s.lhi, .int .i64 c.wlo, .int .i64 c.whi, .int .i64 c.flo, .int .i64 c.fhi, .int .i64 c.tlo, .int .i64 c.thi, topV 0 (slT plan.length (rowL encI plan))], Value.agg #[.int .i64 t.wind, .int .i64 t.fetch, .int .i64 t.tide, .int .i64 t.loss, topV 0 (slT t.drags.length (rowL encI t.drags))], Value.func (Fn.func 102) #[] #[topV 5 (ptT 0 #[slT s.cells.length (rowL encWCell s.cells), slT s.works.length (rowL encWWork s.works), .int .i64 s.reef, .int .i64 s.llo, .int .i64 s.lhi, .int .i64 c.wlo, .int .i64 c.whi, .int .i64 c.flo, .int .i64 c.fhi, .int .i64 c.tlo, .int .i64 c.thi, slT plan.length (rowL encI plan)]), topV 5 (ptT 0 #[.int .i64 t.wind, .int .i64 t.fetch, .int .i64 t.tide, .int .i64 t.loss, slT t.drags.length (rowL encI t.drags)])], Value.tuple #[], Value.tuple #[], Value.tuple #[], Value.tuple #[], Value.tuple #[], Value.tuple #[], Value.tuple #[], Value.tuple #[], Value.tuple #[], Value.tuple #[], Value.tuple #[], Value.tuple #[], Value.tuple #[], Value.tuple #[], Value.tuple #[], Value.tuple #[]], params := #[17, 18], assign := nav (bodyOf Try.prog 61) [1, 1, 0, 1, 0, 0], body := nav (bodyOf Try.prog 61) [1, 1, 0, 1, 0, 1], defers := 6 }, .cells (rowL encI ds) 3 (0, 0)]
noncomputable def pdepths_k1_o0 (s : WShore) (c : WStorm) (plan : List Int) (t : WTruth) (c0 i lv : Int) (ds : List Int) : List Obj := [.cells #[.int .i64 c0, .int .i64 lv] 144 (0, 0)]
noncomputable def pdepths_k1_t0 : List Item := ([.code [1, 1, 0, 0], .inLoop [1, 1, 0, 0], .inBlock 0]).map (it (bodyOf Try.prog 102))
noncomputable def pdepths_p0 (B : Lo) (s : WShore) (c : WStorm) (plan : List Int) (t : WTruth) (c0 i lv : Int) (ds : List Int) (dJ0 : Nat → Value) : List Prop := [i = (↑i.toNat : Int) ∧ Int.toNat i < List.length plan ∧ Array.extract (rowL encI plan) (Int.toNat i * TypeInfo.size Try.t3) (Int.toNat i * TypeInfo.size Try.t3 + TypeInfo.size Try.t3) = #[.int .i64 (List.getD plan i.toNat default)], i = (↑i.toNat : Int) ∧ Int.toNat i < List.length t.drags ∧ Array.extract (rowL encI t.drags) (Int.toNat i * TypeInfo.size Try.t3) (Int.toNat i * TypeInfo.size Try.t3 + TypeInfo.size Try.t3) = #[.int .i64 (List.getD t.drags i.toNat default)], ltq i (↑t.drags.length : Int) = true] ++ ([] : List Prop)
noncomputable def pdepths_q0 (s : WShore) (c : WStorm) (plan : List Int) (t : WTruth) (c0 i lv : Int) (ds : List Int) (dJ0 : Nat → Value) : ScriptT := [(0, hvT), (2, HintT.tidx i.toNat #[.int .i64 (List.getD t.drags i.toNat default)]), (16, HintT.tidx i.toNat #[.int .i64 (List.getD plan i.toNat default)])]
noncomputable def pdepths_H2 (s : WShore) (c : WStorm) (plan : List Int) (t : WTruth) (c0 i lv : Int) (ds : List Int) (dJ0 : Nat → Value) : Heap := [(7, Obj.loop { state := LoopState.ready, pending := none, fn := 61, tmps := #[Value.agg #[topV 0 (slT s.cells.length (rowL encWCell s.cells)), topV 0 (slT s.works.length (rowL encWWork s.works)), .int .i64 s.reef, .int .i64 s.llo, .int .i64 s.lhi, .int .i64 c.wlo, .int .i64 c.whi, .int .i64 c.flo, .int .i64 c.fhi, .int .i64 c.tlo, .int .i64 c.thi, topV 0 (slT plan.length (rowL encI plan))], Value.agg #[.int .i64 t.wind, .int .i64 t.fetch, .int .i64 t.tide, .int .i64 t.loss, topV 0 (slT t.drags.length (rowL encI t.drags))], pA 1 0, pA 2 0, Value.slice none 0 0, pA 4 0, Value.tuple #[], Value.tuple #[], pA 1 0, pA 1 0, pA 1 0, topV 0 (slT s.cells.length (rowL encWCell s.cells)), .int .i64 (↑s.cells.length : Int), Value.slice (some { block := 3, off := 0 }) s.cells.length 1, Value.agg #[topV 0 (slT s.cells.length (rowL encWCell s.cells)), topV 0 (slT s.works.length (rowL encWWork s.works)), .int .i64 s.reef, .int .i64 s.llo, .int .i64 s.lhi, .int .i64 c.wlo, .int .i64 c.whi, .int .i64 c.flo, .int .i64 c.fhi, .int .i64 c.tlo, .int .i64 c.thi, topV 0 (slT plan.length (rowL encI plan))], Value.agg #[.int .i64 t.wind, .int .i64 t.fetch, .int .i64 t.tide, .int .i64 t.loss, topV 0 (slT t.drags.length (rowL encI t.drags))], Value.func (Fn.func 102) #[] #[topV 5 (ptT 0 #[slT s.cells.length (rowL encWCell s.cells), slT s.works.length (rowL encWWork s.works), .int .i64 s.reef, .int .i64 s.llo, .int .i64 s.lhi, .int .i64 c.wlo, .int .i64 c.whi, .int .i64 c.flo, .int .i64 c.fhi, .int .i64 c.tlo, .int .i64 c.thi, slT plan.length (rowL encI plan)]), topV 5 (ptT 0 #[.int .i64 t.wind, .int .i64 t.fetch, .int .i64 t.tide, .int .i64 t.loss, slT t.drags.length (rowL encI t.drags)])], Value.tuple #[], Value.tuple #[], Value.tuple #[], Value.tuple #[], Value.tuple #[], Value.tuple #[], Value.tuple #[], Value.tuple #[], Value.tuple #[], Value.tuple #[], Value.tuple #[], Value.tuple #[], Value.tuple #[], Value.tuple #[], Value.tuple #[], Value.tuple #[]], params := #[17, 18], assign := nav (bodyOf Try.prog 61) [1, 1, 0, 1, 0, 0], body := nav (bodyOf Try.prog 61) [1, 1, 0, 1, 0, 1], defers := 6 }), (3, Obj.cells (rowL encI ds) 3), (8, Obj.coro none), (9, Obj.cells #[.int .i64 i, .int .i64 lv] 144), (7, Obj.loop { state := LoopState.ready, pending := none, fn := 61, tmps := List.toArray (let y := let y := let y := [Value.tuple #[], Value.tuple #[], Value.tuple #[], Value.tuple #[], Value.tuple #[]]; Value.tuple #[] :: Value.tuple #[] :: Value.tuple #[] :: Value.tuple #[] :: y; let y := Value.tuple #[] :: Value.tuple #[] :: Value.tuple #[] :: Value.tuple #[] :: y; Value.func (Fn.func 102) #[] #[topV 5 (ptT 0 #[slT s.cells.length (rowL encWCell s.cells), slT s.works.length (rowL encWWork s.works), .int .i64 s.reef, .int .i64 s.llo, .int .i64 s.lhi, .int .i64 c.wlo, .int .i64 c.whi, .int .i64 c.flo, .int .i64 c.fhi, .int .i64 c.tlo, .int .i64 c.thi, slT plan.length (rowL encI plan)]), topV 5 (ptT 0 #[.int .i64 t.wind, .int .i64 t.fetch, .int .i64 t.tide, .int .i64 t.loss, slT t.drags.length (rowL encI t.drags)])] :: Value.tuple #[] :: Value.tuple #[] :: Value.tuple #[] :: y; let y := let y := .int .i64 (↑s.cells.length : Int) :: Value.slice (some { block := 3, off := 0 }) s.cells.length 1 :: Value.agg #[topV 0 (slT s.cells.length (rowL encWCell s.cells)), topV 0 (slT s.works.length (rowL encWWork s.works)), .int .i64 s.reef, .int .i64 s.llo, .int .i64 s.lhi, .int .i64 c.wlo, .int .i64 c.whi, .int .i64 c.flo, .int .i64 c.fhi, .int .i64 c.tlo, .int .i64 c.thi, topV 0 (slT plan.length (rowL encI plan))] :: Value.agg #[.int .i64 t.wind, .int .i64 t.fetch, .int .i64 t.tide, .int .i64 t.loss, topV 0 (slT t.drags.length (rowL encI t.drags))] :: y; pA 1 0 :: pA 1 0 :: pA 1 0 :: topV 0 (slT s.cells.length (rowL encWCell s.cells)) :: y; let y := Value.slice none 0 0 :: pA 4 0 :: Value.tuple #[] :: Value.tuple #[] :: y; Value.agg #[topV 0 (slT s.cells.length (rowL encWCell s.cells)), topV 0 (slT s.works.length (rowL encWWork s.works)), .int .i64 s.reef, .int .i64 s.llo, .int .i64 s.lhi, .int .i64 c.wlo, .int .i64 c.whi, .int .i64 c.flo, .int .i64 c.fhi, .int .i64 c.tlo, .int .i64 c.thi, topV 0 (slT plan.length (rowL encI plan))] :: Value.agg #[.int .i64 t.wind, .int .i64 t.fetch, .int .i64 t.tide, .int .i64 t.loss, topV 0 (slT t.drags.length (rowL encI t.drags))] :: pA 1 0 :: pA 2 0 :: y), params := #[17, 18], assign := nav (bodyOf Try.prog 61) [1, 1, 0, 1, 0, 0], body := nav (bodyOf Try.prog 61) [1, 1, 0, 1, 0, 1], defers := 6 }), (6, Obj.deferred (some [])), (5, Obj.coro none), (4, Obj.cells #[Value.slice (some { block := 3, off := 0 }) s.cells.length 1] 36), (3, Obj.cells (rowL (zeroE [.int .i64 0]) (List.replicate s.cells.length ())) 3), (2, Obj.cells #[.int .i64 t.wind, .int .i64 t.fetch, .int .i64 t.tide, .int .i64 t.loss, topV 0 (slT t.drags.length (rowL encI t.drags))] 38), (1, Obj.cells #[topV 0 (slT s.cells.length (rowL encWCell s.cells)), topV 0 (slT s.works.length (rowL encWWork s.works)), .int .i64 s.reef, .int .i64 s.llo, .int .i64 s.lhi, .int .i64 c.wlo, .int .i64 c.whi, .int .i64 c.flo, .int .i64 c.fhi, .int .i64 c.tlo, .int .i64 c.thi, topV 0 (slT plan.length (rowL encI plan))] 99), (0, Obj.coro none)]
noncomputable def pdepths_c2 (s : WShore) (c : WStorm) (plan : List Int) (t : WTruth) (c0 i lv : Int) (ds : List Int) (dJ0 : Nat → Value) : CF := ⟨61, ofList 33 [Value.agg #[topV 0 (slT s.cells.length (rowL encWCell s.cells)), topV 0 (slT s.works.length (rowL encWWork s.works)), .int .i64 s.reef, .int .i64 s.llo, .int .i64 s.lhi, .int .i64 c.wlo, .int .i64 c.whi, .int .i64 c.flo, .int .i64 c.fhi, .int .i64 c.tlo, .int .i64 c.thi, topV 0 (slT plan.length (rowL encI plan))], Value.agg #[.int .i64 t.wind, .int .i64 t.fetch, .int .i64 t.tide, .int .i64 t.loss, topV 0 (slT t.drags.length (rowL encI t.drags))], pA 1 0, pA 2 0, Value.slice none 0 0, pA 4 0, Value.tuple #[], Value.tuple #[], pA 1 0, pA 1 0, pA 1 0, topV 0 (slT s.cells.length (rowL encWCell s.cells)), .int .i64 (↑s.cells.length : Int), Value.slice (some { block := 3, off := 0 }) s.cells.length 1, Value.agg #[topV 0 (slT s.cells.length (rowL encWCell s.cells)), topV 0 (slT s.works.length (rowL encWWork s.works)), .int .i64 s.reef, .int .i64 s.llo, .int .i64 s.lhi, .int .i64 c.wlo, .int .i64 c.whi, .int .i64 c.flo, .int .i64 c.fhi, .int .i64 c.tlo, .int .i64 c.thi, topV 0 (slT plan.length (rowL encI plan))], Value.agg #[.int .i64 t.wind, .int .i64 t.fetch, .int .i64 t.tide, .int .i64 t.loss, topV 0 (slT t.drags.length (rowL encI t.drags))], Value.func (Fn.func 102) #[] #[topV 5 (ptT 0 #[slT s.cells.length (rowL encWCell s.cells), slT s.works.length (rowL encWWork s.works), .int .i64 s.reef, .int .i64 s.llo, .int .i64 s.lhi, .int .i64 c.wlo, .int .i64 c.whi, .int .i64 c.flo, .int .i64 c.fhi, .int .i64 c.tlo, .int .i64 c.thi, slT plan.length (rowL encI plan)]), topV 5 (ptT 0 #[.int .i64 t.wind, .int .i64 t.fetch, .int .i64 t.tide, .int .i64 t.loss, slT t.drags.length (rowL encI t.drags)])], .int .i64 i, .int .i64 (lv - List.getD t.drags i.toNat default - WWork.calm (workOf s (List.getD plan i.toNat default))), Value.tuple #[], Value.tuple #[], Value.tuple #[], Value.tuple #[], Value.tuple #[], Value.tuple #[], Value.tuple #[], Value.tuple #[], Value.tuple #[], Value.tuple #[], Value.tuple #[], Value.tuple #[], Value.tuple #[], Value.tuple #[]], [Item.code (nav (bodyOf Try.prog 61) [1, 1, 0, 1, 0, 0]), Item.beginRound, Item.code (nav (bodyOf Try.prog 61) [1, 1, 0, 1, 0, 1])], [], .run, some 7⟩
theorem pdepths_s2 (B : Lo) (s : WShore) (c : WStorm) (plan : List Int) (t : WTruth) (c0 i lv : Int) (ds : List Int) (dJ0 : Nat → Value) : CE.finK 10 (srunT Try.prog (okFn Try.prog) J0 B 8 10 (pdepths_c2 s c plan t c0 i lv ds dJ0) (pdepths_H2 s c plan t c0 i lv ds dJ0) 10
 [(10, HintT.tidx i.toNat #[.int .i64 (WCell.ground (List.getD s.cells i.toNat default)), .int .i64 (WCell.dlo (List.getD s.cells i.toNat default)), .int .i64 (WCell.dhi (List.getD s.cells i.toNat default)), .int .i64 (WCell.floor (List.getD s.cells i.toNat default))]), (13, hvI (lv - List.getD t.drags i.toNat default - WWork.calm (workOf s (List.getD plan i.toNat default)) - WCell.ground (List.getD s.cells i.toNat default))), (14, HintT.old (Hint.idx i.toNat)), (15, HintT.old (Hint.st (rowL encI (List.set ds i.toNat (lv - List.getD t.drags i.toNat default - WWork.calm (workOf s (List.getD plan i.toNat default)) - WCell.ground (List.getD s.cells i.toNat default))))))] 0 [] []) [(7, KS.auto), (3, KS.cells [] (rowL encI (List.set ds i.toNat (lv - List.getD t.drags i.toNat default - WWork.calm (workOf s (List.getD plan i.toNat default)) - WCell.ground (List.getD s.cells i.toNat default)))))] [] [] = some (OO.ret (Value.bool true), [(7, Obj.loop { state := LoopState.ready, pending := none, fn := 61, tmps := #[Value.agg #[topV 0 (slT s.cells.length (rowL encWCell s.cells)), topV 0 (slT s.works.length (rowL encWWork s.works)), .int .i64 s.reef, .int .i64 s.llo, .int .i64 s.lhi, .int .i64 c.wlo, .int .i64 c.whi, .int .i64 c.flo, .int .i64 c.fhi, .int .i64 c.tlo, .int .i64 c.thi, topV 0 (slT plan.length (rowL encI plan))], Value.agg #[.int .i64 t.wind, .int .i64 t.fetch, .int .i64 t.tide, .int .i64 t.loss, topV 0 (slT t.drags.length (rowL encI t.drags))], pA 1 0, pA 2 0, Value.slice none 0 0, pA 4 0, Value.tuple #[], Value.tuple #[], pA 1 0, pA 1 0, pA 1 0, topV 0 (slT s.cells.length (rowL encWCell s.cells)), .int .i64 (↑s.cells.length : Int), Value.slice (some { block := 3, off := 0 }) s.cells.length 1, Value.agg #[topV 0 (slT s.cells.length (rowL encWCell s.cells)), topV 0 (slT s.works.length (rowL encWWork s.works)), .int .i64 s.reef, .int .i64 s.llo, .int .i64 s.lhi, .int .i64 c.wlo, .int .i64 c.whi, .int .i64 c.flo, .int .i64 c.fhi, .int .i64 c.tlo, .int .i64 c.thi, topV 0 (slT plan.length (rowL encI plan))], Value.agg #[.int .i64 t.wind, .int .i64 t.fetch, .int .i64 t.tide, .int .i64 t.loss, topV 0 (slT t.drags.length (rowL encI t.drags))], Value.func (Fn.func 102) #[] #[topV 5 (ptT 0 #[slT s.cells.length (rowL encWCell s.cells), slT s.works.length (rowL encWWork s.works), .int .i64 s.reef, .int .i64 s.llo, .int .i64 s.lhi, .int .i64 c.wlo, .int .i64 c.whi, .int .i64 c.flo, .int .i64 c.fhi, .int .i64 c.tlo, .int .i64 c.thi, slT plan.length (rowL encI plan)]), topV 5 (ptT 0 #[.int .i64 t.wind, .int .i64 t.fetch, .int .i64 t.tide, .int .i64 t.loss, slT t.drags.length (rowL encI t.drags)])], Value.tuple #[], Value.tuple #[], Value.tuple #[], Value.tuple #[], Value.tuple #[], Value.tuple #[], Value.tuple #[], Value.tuple #[], Value.tuple #[], Value.tuple #[], Value.tuple #[], Value.tuple #[], Value.tuple #[], Value.tuple #[], Value.tuple #[], Value.tuple #[]], params := #[17, 18], assign := nav (bodyOf Try.prog 61) [1, 1, 0, 1, 0, 0], body := nav (bodyOf Try.prog 61) [1, 1, 0, 1, 0, 1], defers := 6 }), (3, Obj.cells (rowL encI (List.set ds i.toNat (lv - List.getD t.drags i.toNat default - WWork.calm (workOf s (List.getD plan i.toNat default)) - WCell.ground (List.getD s.cells i.toNat default)))) 3)], [],
 [CellsM 10 [] (rowL encI (List.set ds i.toNat (lv - List.getD t.drags i.toNat default - WWork.calm (workOf s (List.getD plan i.toNat default)) - WCell.ground (List.getD s.cells i.toNat default)))) (rowL encI (List.set ds i.toNat (lv - List.getD t.drags i.toNat default - WWork.calm (workOf s (List.getD plan i.toNat default)) - WCell.ground (List.getD s.cells i.toNat default)))), 0 + Int.toNat i * 1 + TypeInfo.size Try.t3 ≤ Array.size (rowL encI ds) ∧ splice (rowL encI ds) (0 + Int.toNat i * 1) (Value.cells (tget { len := 16000, tr := Tri.set 14 (Tri.set 14 Tri.lf 30 (.int .i64 (lv - List.getD t.drags i.toNat default - WWork.calm (workOf s (List.getD plan i.toNat default)) - WCell.ground (List.getD s.cells i.toNat default)))) 31 (Value.pointer (some { block := 3, off := 0 + Int.toNat i * 1 })) } 30)) = rowL encI (List.set ds i.toNat (lv - List.getD t.drags i.toNat default - WWork.calm (workOf s (List.getD plan i.toNat default)) - WCell.ground (List.getD s.cells i.toNat default))), i = (↑i.toNat : Int) ∧ Int.toNat i < List.length s.cells, wq (lv - List.getD t.drags i.toNat default - WWork.calm (workOf s (List.getD plan i.toNat default)) - WCell.ground (List.getD s.cells i.toNat default)) = lv - List.getD t.drags i.toNat default - WWork.calm (workOf s (List.getD plan i.toNat default)) - WCell.ground (List.getD s.cells i.toNat default), i = (↑i.toNat : Int) ∧ Int.toNat i < List.length s.cells ∧ Array.extract (rowL encWCell s.cells) (Int.toNat i * TypeInfo.size Try.t59) (Int.toNat i * TypeInfo.size Try.t59 + TypeInfo.size Try.t59) = #[.int .i64 (WCell.ground (List.getD s.cells i.toNat default)), .int .i64 (WCell.dlo (List.getD s.cells i.toNat default)), .int .i64 (WCell.dhi (List.getD s.cells i.toNat default)), .int .i64 (WCell.floor (List.getD s.cells i.toNat default))]]) := by kernel_rfl
theorem pdepths_s3 (B : Lo) (s : WShore) (c : WStorm) (plan : List Int) (t : WTruth) (c0 i lv : Int) (ds : List Int) (dJ0 : Nat → Value) : CE.landA 8 (srunT Try.prog (okFn Try.prog) J0 B 22 8 (headR (none) 102 49 (([0, 1, 4, 15, 16, 17] : List Nat).zip (pdepths_k1_v0 s c plan t c0 i lv ds)) dJ0 pdepths_k1_t0) (headA (pdepths_H1 s c plan t) 8 (([7, 3] : List Nat).zip (pdepths_k1_w0 s c plan t c0 i lv ds)) (pdepths_k1_o0 s c plan t c0 i lv ds)) (8 + 1 + (pdepths_k1_o0 s c plan t c0 i lv ds).length)
 (pdepths_q0 s c plan t c0 i lv ds dJ0 ++ [(18, HintT.pure (Value.tuple #[.int .i64 (lv - List.getD t.drags i.toNat default - WWork.calm (workOf s (List.getD plan i.toNat default))), Value.bool true]) []), (30, HintT.call (List.range 10) (OO.ret (Value.bool true)) ([(7, Obj.loop { state := LoopState.ready, pending := none, fn := 61, tmps := (pdepths_z0 s c plan t), params := #[17, 18], assign := nav (bodyOf Try.prog 61) [1, 1, 0, 1, 0, 0], body := nav (bodyOf Try.prog 61) [1, 1, 0, 1, 0, 1], defers := 6 }), (3, Obj.cells (rowL encI (List.set ds i.toNat (lv - List.getD t.drags i.toNat default - WWork.calm (workOf s (List.getD plan i.toNat default)) - WCell.ground (List.getD s.cells i.toNat default)))) 3)] ++ (10, regO) :: heapL 11 []) 11 [7, 3]), (36, hvI (i + 1))]) 0 [] []) [0, 1, 4, 15, 16, 17] [(7, KS.auto), (3, KS.cells [] (rowL encI (List.set ds i.toNat (lv - List.getD t.drags i.toNat default - WWork.calm (workOf s (List.getD plan i.toNat default)) - WCell.ground (List.getD s.cells i.toNat default)))))] [(9, KS.auto)] [] = some ⟨102, 49, pdepths_k1_t0, [], .run, none, pdepths_k1_v0 s c plan t (i) (i + 1) (lv - List.getD t.drags i.toNat default - WWork.calm (workOf s (List.getD plan i.toNat default))) (List.set ds i.toNat (lv - List.getD t.drags i.toNat default - WWork.calm (workOf s (List.getD plan i.toNat default)) - WCell.ground (List.getD s.cells i.toNat default))), ([7, 3] : List Nat).zip (pdepths_k1_w0 s c plan t (i) (i + 1) (lv - List.getD t.drags i.toNat default - WWork.calm (workOf s (List.getD plan i.toNat default))) (List.set ds i.toNat (lv - List.getD t.drags i.toNat default - WWork.calm (workOf s (List.getD plan i.toNat default)) - WCell.ground (List.getD s.cells i.toNat default)))), pdepths_k1_o0 s c plan t (i) (i + 1) (lv - List.getD t.drags i.toNat default - WWork.calm (workOf s (List.getD plan i.toNat default))) (List.set ds i.toNat (lv - List.getD t.drags i.toNat default - WWork.calm (workOf s (List.getD plan i.toNat default)) - WCell.ground (List.getD s.cells i.toNat default))),
 [CellsM 8 [] (rowL encI (List.set ds i.toNat (lv - List.getD t.drags i.toNat default - WWork.calm (workOf s (List.getD plan i.toNat default)) - WCell.ground (List.getD s.cells i.toNat default)))) (rowL encI (List.set ds i.toNat (lv - List.getD t.drags i.toNat default - WWork.calm (workOf s (List.getD plan i.toNat default)) - WCell.ground (List.getD s.cells i.toNat default)))), wq (i + 1) = i + 1, FJ Try.prog B (pdepths_c2 s c plan t c0 i lv ds dJ0) (pdepths_H2 s c plan t c0 i lv ds dJ0) 10 (OO.ret (Value.bool true)) (([(7, Obj.loop { state := LoopState.ready, pending := none, fn := 61, tmps := (pdepths_z0 s c plan t), params := #[17, 18], assign := nav (bodyOf Try.prog 61) [1, 1, 0, 1, 0, 0], body := nav (bodyOf Try.prog 61) [1, 1, 0, 1, 0, 1], defers := 6 }), (3, Obj.cells (rowL encI (List.set ds i.toNat (lv - List.getD t.drags i.toNat default - WWork.calm (workOf s (List.getD plan i.toNat default)) - WCell.ground (List.getD s.cells i.toNat default)))) 3)] ++ ((10, regO) :: heapL (10 + 1) [])) ++ pdepths_H2 s c plan t c0 i lv ds dJ0) 11 (List.range 10) [7, 3], AllP [] ∧ PureC Try.prog J0 103 #[Value.agg (pdepths_z2 s c), Value.agg #[.int .i64 i, .int .i64 lv], .int .i64 (List.getD t.drags i.toNat default), .int .i64 (List.getD plan i.toNat default)] (Value.tuple #[.int .i64 (lv - List.getD t.drags i.toNat default - WWork.calm (workOf s (List.getD plan i.toNat default))), Value.bool true])] ++ pdepths_p0 B s c plan t c0 i lv ds dJ0⟩ := by kernel_rfl
theorem pdepths_s4 (B : Lo) (s : WShore) (c : WStorm) (plan : List Int) (t : WTruth) (c0 i lv : Int) (ds : List Int) (dJ0 : Nat → Value) : CE.finK 8 (srunT Try.prog (okFn Try.prog) J0 B 19 8 (headR (none) 102 49 (([0, 1, 4, 15, 16, 17] : List Nat).zip (pdepths_k1_v0 s c plan t c0 i lv ds)) dJ0 pdepths_k1_t0) (headA (pdepths_H1 s c plan t) 8 (([7, 3] : List Nat).zip (pdepths_k1_w0 s c plan t c0 i lv ds)) (pdepths_k1_o0 s c plan t c0 i lv ds)) (8 + 1 + (pdepths_k1_o0 s c plan t c0 i lv ds).length)
 (pdepths_q0 s c plan t c0 i lv ds dJ0 ++ [(18, HintT.pure (Value.tuple #[.int .i64 0, Value.bool false]) [])]) 0 [] []) [(7, KS.auto), (3, KS.cells [] (rowL encI ds))] [] [] = some (OO.ret (Value.tuple #[]), [(7, Obj.loop { state := LoopState.ready, pending := none, fn := 61, tmps := #[Value.agg #[topV 0 (slT s.cells.length (rowL encWCell s.cells)), topV 0 (slT s.works.length (rowL encWWork s.works)), .int .i64 s.reef, .int .i64 s.llo, .int .i64 s.lhi, .int .i64 c.wlo, .int .i64 c.whi, .int .i64 c.flo, .int .i64 c.fhi, .int .i64 c.tlo, .int .i64 c.thi, topV 0 (slT plan.length (rowL encI plan))], Value.agg #[.int .i64 t.wind, .int .i64 t.fetch, .int .i64 t.tide, .int .i64 t.loss, topV 0 (slT t.drags.length (rowL encI t.drags))], pA 1 0, pA 2 0, Value.slice none 0 0, pA 4 0, Value.tuple #[], Value.tuple #[], pA 1 0, pA 1 0, pA 1 0, topV 0 (slT s.cells.length (rowL encWCell s.cells)), .int .i64 (↑s.cells.length : Int), Value.slice (some { block := 3, off := 0 }) s.cells.length 1, Value.agg #[topV 0 (slT s.cells.length (rowL encWCell s.cells)), topV 0 (slT s.works.length (rowL encWWork s.works)), .int .i64 s.reef, .int .i64 s.llo, .int .i64 s.lhi, .int .i64 c.wlo, .int .i64 c.whi, .int .i64 c.flo, .int .i64 c.fhi, .int .i64 c.tlo, .int .i64 c.thi, topV 0 (slT plan.length (rowL encI plan))], Value.agg #[.int .i64 t.wind, .int .i64 t.fetch, .int .i64 t.tide, .int .i64 t.loss, topV 0 (slT t.drags.length (rowL encI t.drags))], Value.func (Fn.func 102) #[] #[topV 5 (ptT 0 #[slT s.cells.length (rowL encWCell s.cells), slT s.works.length (rowL encWWork s.works), .int .i64 s.reef, .int .i64 s.llo, .int .i64 s.lhi, .int .i64 c.wlo, .int .i64 c.whi, .int .i64 c.flo, .int .i64 c.fhi, .int .i64 c.tlo, .int .i64 c.thi, slT plan.length (rowL encI plan)]), topV 5 (ptT 0 #[.int .i64 t.wind, .int .i64 t.fetch, .int .i64 t.tide, .int .i64 t.loss, slT t.drags.length (rowL encI t.drags)])], Value.tuple #[], Value.tuple #[], Value.tuple #[], Value.tuple #[], Value.tuple #[], Value.tuple #[], Value.tuple #[], Value.tuple #[], Value.tuple #[], Value.tuple #[], Value.tuple #[], Value.tuple #[], Value.tuple #[], Value.tuple #[], Value.tuple #[], Value.tuple #[]], params := #[17, 18], assign := nav (bodyOf Try.prog 61) [1, 1, 0, 1, 0, 0], body := nav (bodyOf Try.prog 61) [1, 1, 0, 1, 0, 1], defers := 6 }), (3, Obj.cells (rowL encI ds) 3)], [],
 [CellsM 8 [] (rowL encI ds) (rowL encI ds), AllP [] ∧ PureC Try.prog J0 103 #[Value.agg (pdepths_z2 s c), Value.agg #[.int .i64 i, .int .i64 lv], .int .i64 (List.getD t.drags i.toNat default), .int .i64 (List.getD plan i.toNat default)] (Value.tuple #[.int .i64 0, Value.bool false])] ++ pdepths_p0 B s c plan t c0 i lv ds dJ0) := by kernel_rfl
theorem pdepths_s5 (B : Lo) (s : WShore) (c : WStorm) (plan : List Int) (t : WTruth) (c0 i lv : Int) (ds : List Int) (dJ0 : Nat → Value) : CE.finK 8 (srunT Try.prog (okFn Try.prog) J0 B 7 8 (headR (none) 102 49 (([0, 1, 4, 15, 16, 17] : List Nat).zip (pdepths_k1_v0 s c plan t c0 i lv ds)) dJ0 pdepths_k1_t0) (headA (pdepths_H1 s c plan t) 8 (([7, 3] : List Nat).zip (pdepths_k1_w0 s c plan t c0 i lv ds)) (pdepths_k1_o0 s c plan t c0 i lv ds)) (8 + 1 + (pdepths_k1_o0 s c plan t c0 i lv ds).length)
 [(0, hvF)] 0 [] []) [(7, KS.auto), (3, KS.cells [] (rowL encI ds))] [] [] = some (OO.ret (Value.tuple #[]), [(7, Obj.loop { state := LoopState.ready, pending := none, fn := 61, tmps := #[Value.agg #[topV 0 (slT s.cells.length (rowL encWCell s.cells)), topV 0 (slT s.works.length (rowL encWWork s.works)), .int .i64 s.reef, .int .i64 s.llo, .int .i64 s.lhi, .int .i64 c.wlo, .int .i64 c.whi, .int .i64 c.flo, .int .i64 c.fhi, .int .i64 c.tlo, .int .i64 c.thi, topV 0 (slT plan.length (rowL encI plan))], Value.agg #[.int .i64 t.wind, .int .i64 t.fetch, .int .i64 t.tide, .int .i64 t.loss, topV 0 (slT t.drags.length (rowL encI t.drags))], pA 1 0, pA 2 0, Value.slice none 0 0, pA 4 0, Value.tuple #[], Value.tuple #[], pA 1 0, pA 1 0, pA 1 0, topV 0 (slT s.cells.length (rowL encWCell s.cells)), .int .i64 (↑s.cells.length : Int), Value.slice (some { block := 3, off := 0 }) s.cells.length 1, Value.agg #[topV 0 (slT s.cells.length (rowL encWCell s.cells)), topV 0 (slT s.works.length (rowL encWWork s.works)), .int .i64 s.reef, .int .i64 s.llo, .int .i64 s.lhi, .int .i64 c.wlo, .int .i64 c.whi, .int .i64 c.flo, .int .i64 c.fhi, .int .i64 c.tlo, .int .i64 c.thi, topV 0 (slT plan.length (rowL encI plan))], Value.agg #[.int .i64 t.wind, .int .i64 t.fetch, .int .i64 t.tide, .int .i64 t.loss, topV 0 (slT t.drags.length (rowL encI t.drags))], Value.func (Fn.func 102) #[] #[topV 5 (ptT 0 #[slT s.cells.length (rowL encWCell s.cells), slT s.works.length (rowL encWWork s.works), .int .i64 s.reef, .int .i64 s.llo, .int .i64 s.lhi, .int .i64 c.wlo, .int .i64 c.whi, .int .i64 c.flo, .int .i64 c.fhi, .int .i64 c.tlo, .int .i64 c.thi, slT plan.length (rowL encI plan)]), topV 5 (ptT 0 #[.int .i64 t.wind, .int .i64 t.fetch, .int .i64 t.tide, .int .i64 t.loss, slT t.drags.length (rowL encI t.drags)])], Value.tuple #[], Value.tuple #[], Value.tuple #[], Value.tuple #[], Value.tuple #[], Value.tuple #[], Value.tuple #[], Value.tuple #[], Value.tuple #[], Value.tuple #[], Value.tuple #[], Value.tuple #[], Value.tuple #[], Value.tuple #[], Value.tuple #[], Value.tuple #[]], params := #[17, 18], assign := nav (bodyOf Try.prog 61) [1, 1, 0, 1, 0, 0], body := nav (bodyOf Try.prog 61) [1, 1, 0, 1, 0, 1], defers := 6 }), (3, Obj.cells (rowL encI ds) 3)], [],
 [CellsM 8 [] (rowL encI ds) (rowL encI ds), ltq i (↑t.drags.length : Int) = false]) := by kernel_rfl
set_option maxHeartbeats 4000000 in
theorem pdepths_k1_ls (s : WShore) (c : WStorm) (plan : List Int) (t : WTruth) (hs : shoreB s = true) (hp : planB s plan = true) (ht : tOk s t) {B : Lo} (hJ : ∀ w, B.has w → J0 w) : ∀ m : Nat, (∀ (c0 i lv : Int) (ds : List Int), s.cells.length - i.toNat = m → ∀ (i0 : 0 ≤ i) (hv : -5000 - 10000 * i ≤ lv ∧ lv ≤ 15000) (hq : P0 s plan t i lv) (hd : ds = doneL (fun (x : Int) => x) 0 (playL s plan t) i), (∃ dJ0 : Nat → Value, (∀ t, Loose (dJ0 t)) ∧ GoE Try.prog B (pdepths_c1 s c plan t) (pdepths_H1 s c plan t) 8 (headR (none) 102 49 (([0, 1, 4, 15, 16, 17] : List Nat).zip (pdepths_k1_v0 s c plan t c0 i lv ds)) dJ0 pdepths_k1_t0) (headA (pdepths_H1 s c plan t) 8 (([7, 3] : List Nat).zip (pdepths_k1_w0 s c plan t c0 i lv ds)) (pdepths_k1_o0 s c plan t c0 i lv ds)) (8 + 1 + (pdepths_k1_o0 s c plan t c0 i lv ds).length) ([7, 3] : List Nat)) → FinK Try.prog B (pdepths_c1 s c plan t) (pdepths_H1 s c plan t) 8 (.ret (.tuple #[])) (([7, 3] : List Nat).zip ([Obj.loop { state := LoopState.ready, pending := none, fn := 61, tmps := #[Value.agg #[topV 0 (slT s.cells.length (rowL encWCell s.cells)), topV 0 (slT s.works.length (rowL encWWork s.works)), .int .i64 s.reef, .int .i64 s.llo, .int .i64 s.lhi, .int .i64 c.wlo, .int .i64 c.whi, .int .i64 c.flo, .int .i64 c.fhi, .int .i64 c.tlo, .int .i64 c.thi, topV 0 (slT plan.length (rowL encI plan))], Value.agg #[.int .i64 t.wind, .int .i64 t.fetch, .int .i64 t.tide, .int .i64 t.loss, topV 0 (slT t.drags.length (rowL encI t.drags))], pA 1 0, pA 2 0, Value.slice none 0 0, pA 4 0, Value.tuple #[], Value.tuple #[], pA 1 0, pA 1 0, pA 1 0, topV 0 (slT s.cells.length (rowL encWCell s.cells)), .int .i64 (↑s.cells.length : Int), Value.slice (some { block := 3, off := 0 }) s.cells.length 1, Value.agg #[topV 0 (slT s.cells.length (rowL encWCell s.cells)), topV 0 (slT s.works.length (rowL encWWork s.works)), .int .i64 s.reef, .int .i64 s.llo, .int .i64 s.lhi, .int .i64 c.wlo, .int .i64 c.whi, .int .i64 c.flo, .int .i64 c.fhi, .int .i64 c.tlo, .int .i64 c.thi, topV 0 (slT plan.length (rowL encI plan))], Value.agg #[.int .i64 t.wind, .int .i64 t.fetch, .int .i64 t.tide, .int .i64 t.loss, topV 0 (slT t.drags.length (rowL encI t.drags))], Value.func (Fn.func 102) #[] #[topV 5 (ptT 0 #[slT s.cells.length (rowL encWCell s.cells), slT s.works.length (rowL encWWork s.works), .int .i64 s.reef, .int .i64 s.llo, .int .i64 s.lhi, .int .i64 c.wlo, .int .i64 c.whi, .int .i64 c.flo, .int .i64 c.fhi, .int .i64 c.tlo, .int .i64 c.thi, slT plan.length (rowL encI plan)]), topV 5 (ptT 0 #[.int .i64 t.wind, .int .i64 t.fetch, .int .i64 t.tide, .int .i64 t.loss, slT t.drags.length (rowL encI t.drags)])], Value.tuple #[], Value.tuple #[], Value.tuple #[], Value.tuple #[], Value.tuple #[], Value.tuple #[], Value.tuple #[], Value.tuple #[], Value.tuple #[], Value.tuple #[], Value.tuple #[], Value.tuple #[], Value.tuple #[], Value.tuple #[], Value.tuple #[], Value.tuple #[]], params := #[17, 18], assign := nav (bodyOf Try.prog 61) [1, 1, 0, 1, 0, 0], body := nav (bodyOf Try.prog 61) [1, 1, 0, 1, 0, 1], defers := 6 }, .cells (rowL encI (playL s plan t)) 3 (0, 0)])) ([]) ([7, 3] : List Nat)) := by
 intro m0
 induction m0 using Nat.strongRecOn with
 | _ m0 ih0 =>
   intro c0 i lv ds hm0 i0 hv hq hd ⟨dJ0, hdJ0, hg0⟩
   have hsf := shore_facts hs
   have hpf := plan_facts hp
   have hlv := level_in ht
   have hdl := ht.2.2.2.2.1
   have hpl := playL_len (s := s) (plan := plan) (t := t)
   have hsf := shore_facts hs
   have hpf := plan_facts hp
   have hdl := ht.2.2.2.2.1
   have hpl := playL_len (s := s) (plan := plan) (t := t)
   have hyl : ds.length = s.cells.length := by rw [hd, doneL_len, hpl]
   by_cases q0 : (i : Int) < ((↑t.drags.length : Int))
   ·
    have hp0 : AllP (pdepths_p0 B s c plan t c0 i lv ds dJ0) := by
     have hd1 := drag_in ht i0 (by omega)
     have hk1 := hpf.2 _ (getD_mem (l := plan) (i := i) i0 (by omega))
     have hw1 := workOf_in hs hk1.2
     have hg1 := gr_in hs i0 (by omega)
     unfold gr at hg1
     exact ⟨⟨by omega, by omega, (rowL_extract (z := 1) (fun _ => rfl) (by omega))⟩, ⟨⟨by omega, by omega, (rowL_extract (z := 1) (fun _ => rfl) (by omega))⟩, ⟨(ltq_t q0), trivial⟩⟩⟩
    cases q1 : goesOn s i lv (List.getD t.drags i.toNat default) (List.getD plan i.toNat default) with
    | true =>
      have rj2 : FJ Try.prog B (pdepths_c2 s c plan t c0 i lv ds dJ0) (pdepths_H2 s c plan t c0 i lv ds dJ0) 10 (OO.ret (Value.bool true)) (([(7, Obj.loop { state := LoopState.ready, pending := none, fn := 61, tmps := #[Value.agg #[topV 0 (slT s.cells.length (rowL encWCell s.cells)), topV 0 (slT s.works.length (rowL encWWork s.works)), .int .i64 s.reef, .int .i64 s.llo, .int .i64 s.lhi, .int .i64 c.wlo, .int .i64 c.whi, .int .i64 c.flo, .int .i64 c.fhi, .int .i64 c.tlo, .int .i64 c.thi, topV 0 (slT plan.length (rowL encI plan))], Value.agg #[.int .i64 t.wind, .int .i64 t.fetch, .int .i64 t.tide, .int .i64 t.loss, topV 0 (slT t.drags.length (rowL encI t.drags))], pA 1 0, pA 2 0, Value.slice none 0 0, pA 4 0, Value.tuple #[], Value.tuple #[], pA 1 0, pA 1 0, pA 1 0, topV 0 (slT s.cells.length (rowL encWCell s.cells)), .int .i64 (↑s.cells.length : Int), Value.slice (some { block := 3, off := 0 }) s.cells.length 1, Value.agg #[topV 0 (slT s.cells.length (rowL encWCell s.cells)), topV 0 (slT s.works.length (rowL encWWork s.works)), .int .i64 s.reef, .int .i64 s.llo, .int .i64 s.lhi, .int .i64 c.wlo, .int .i64 c.whi, .int .i64 c.flo, .int .i64 c.fhi, .int .i64 c.tlo, .int .i64 c.thi, topV 0 (slT plan.length (rowL encI plan))], Value.agg #[.int .i64 t.wind, .int .i64 t.fetch, .int .i64 t.tide, .int .i64 t.loss, topV 0 (slT t.drags.length (rowL encI t.drags))], Value.func (Fn.func 102) #[] #[topV 5 (ptT 0 #[slT s.cells.length (rowL encWCell s.cells), slT s.works.length (rowL encWWork s.works), .int .i64 s.reef, .int .i64 s.llo, .int .i64 s.lhi, .int .i64 c.wlo, .int .i64 c.whi, .int .i64 c.flo, .int .i64 c.fhi, .int .i64 c.tlo, .int .i64 c.thi, slT plan.length (rowL encI plan)]), topV 5 (ptT 0 #[.int .i64 t.wind, .int .i64 t.fetch, .int .i64 t.tide, .int .i64 t.loss, slT t.drags.length (rowL encI t.drags)])], Value.tuple #[], Value.tuple #[], Value.tuple #[], Value.tuple #[], Value.tuple #[], Value.tuple #[], Value.tuple #[], Value.tuple #[], Value.tuple #[], Value.tuple #[], Value.tuple #[], Value.tuple #[], Value.tuple #[], Value.tuple #[], Value.tuple #[], Value.tuple #[]], params := #[17, 18], assign := nav (bodyOf Try.prog 61) [1, 1, 0, 1, 0, 0], body := nav (bodyOf Try.prog 61) [1, 1, 0, 1, 0, 1], defers := 6 }), (3, Obj.cells (rowL encI (List.set ds i.toNat (lv - List.getD t.drags i.toNat default - WWork.calm (workOf s (List.getD plan i.toNat default)) - WCell.ground (List.getD s.cells i.toNat default)))) 3)] ++ ((10, regO) :: heapL (10 + 1) [])) ++ pdepths_H2 s c plan t c0 i lv ds dJ0) 11 (List.range 10) [7, 3] := by
       have hd1 := drag_in ht i0 (by omega)
       have hk1 := hpf.2 _ (getD_mem (l := plan) (i := i) i0 (by omega))
       have hw1 := workOf_in hs hk1.2
       have hg1 := gr_in hs i0 (by omega)
       unfold gr at hg1
       have hon := P0_on i0 (by omega) hq (by assumption)
       exact FinK.fjB (GoE.finK okF hJ mixed_ok (under_all (by kernel_rfl)) (writable_of (by kernel_rfl)) ((GoE.refl (P := Try.prog) (B := B) (c0 := pdepths_c2 s c plan t c0 i lv ds dJ0) (under_all (by kernel_rfl))).widen (Wf := ((([(7, KS.auto), (3, KS.cells [] (rowL encI (List.set ds i.toNat (lv - List.getD t.drags i.toNat default - WWork.calm (workOf s (List.getD plan i.toNat default)) - WCell.ground (List.getD s.cells i.toNat default)))))]) : List (Nat × KS)).map (·.1))) (by simp) (writable_of (by kernel_rfl))) (pdepths_s2 B s c plan t c0 i lv ds dJ0)
        ⟨(cellsM_simple (rowL_simple (fun x => List.all_eq_true.1 (by rfl)))), ⟨(by exact rowL_st0 (z := 1) (fun _ => rfl) (by omega) rfl rfl), ⟨⟨by omega, by omega⟩, ⟨(wq_in (by omega) (by omega)), ⟨⟨by omega, by omega, (rowL_extract (z := 4) (fun _ => rfl) (by omega))⟩, trivial⟩⟩⟩⟩⟩) (ex := [3]) (by kernel_rfl) ⟨trivial, ⟨(lowO_row (t := 3) (fl := (0, 0)) (fun x => List.all_eq_true.1 (by rfl))), ⟨trivial, ⟨trivial, ⟨trivial, ⟨trivial, ⟨trivial, ⟨trivial, ⟨(lowO_row (t := 3) (fl := (0, 0)) (fun x => List.all_eq_true.1 (by rfl))), ⟨trivial, ⟨trivial, ⟨trivial, trivial⟩⟩⟩⟩⟩⟩⟩⟩⟩⟩⟩⟩
      have hd1 := drag_in ht i0 (by omega)
      have hk1 := hpf.2 _ (getD_mem (l := plan) (i := i) i0 (by omega))
      have hw1 := workOf_in hs hk1.2
      have hg1 := gr_in hs i0 (by omega)
      unfold gr at hg1
      have hon := P0_on i0 (by omega) hq (by assumption)
      exact ((ih0 _ (by omega)) (i) (i + 1) (lv - List.getD t.drags i.toNat default - WWork.calm (workOf s (List.getD plan i.toNat default))) (List.set ds i.toNat (lv - List.getD t.drags i.toNat default - WWork.calm (workOf s (List.getD plan i.toNat default)) - WCell.ground (List.getD s.cells i.toNat default))) rfl (by omega) (by omega) (by exact hon.1) (by (subst hd; have e := doneL_set (f := fun (x : Int) => x) (x0 := 0) (xs := playL s plan t) i0 (by omega); rw [hon.2] at e; exact e))
       (GoE.landA okF hJ mixed_ok (under_all (by kernel_rfl)) (writable_of (by kernel_rfl)) hg0 (pdepths_s3 B s c plan t c0 i lv ds dJ0)
       ⟨(cellsM_simple (rowL_simple (fun x => List.all_eq_true.1 (by rfl)))), ⟨(wq_in (by omega) (by omega)), ⟨rj2, ⟨⟨trivial, (by have t_ := plevelIn (s) (c) (i) (lv) (List.getD t.drags i.toNat default) (List.getD plan i.toNat default) (by with_reducible assumption) (by omega) (by with_reducible assumption) (by omega) (by with_reducible assumption); rw [q1] at t_; exact t_)⟩, hp0⟩⟩⟩⟩ (by kernel_rfl) (by kernel_rfl) (fun l hl => by cases hl <;> decide))).cast (by rfl) (by rfl) (by rfl)
    | false =>
      have hd1 := drag_in ht i0 (by omega)
      have hk1 := hpf.2 _ (getD_mem (l := plan) (i := i) i0 (by omega))
      have hw1 := workOf_in hs hk1.2
      have hg1 := gr_in hs i0 (by omega)
      unfold gr at hg1
      have hoff := P0_off i0 (by omega) hq (by assumption)
      exact (GoE.finK okF hJ mixed_ok (under_all (by kernel_rfl)) (writable_of (by kernel_rfl)) hg0 (pdepths_s4 B s c plan t c0 i lv ds dJ0)
       ⟨(cellsM_simple (rowL_simple (fun x => List.all_eq_true.1 (by rfl)))), ⟨⟨trivial, (by have t_ := plevelIn (s) (c) (i) (lv) (List.getD t.drags i.toNat default) (List.getD plan i.toNat default) (by with_reducible assumption) (by omega) (by with_reducible assumption) (by omega) (by with_reducible assumption); rw [q1] at t_; exact t_)⟩, hp0⟩⟩).cast (by rfl) (by (rw [hd, hoff]; rfl)) (by rfl)
   ·
    exact (GoE.finK okF hJ mixed_ok (under_all (by kernel_rfl)) (writable_of (by kernel_rfl)) hg0 (pdepths_s5 B s c plan t c0 i lv ds dJ0)
     ⟨(cellsM_simple (rowL_simple (fun x => List.all_eq_true.1 (by rfl)))), ⟨(ltq_f (Int.not_lt.1 q0)), trivial⟩⟩).cast (by rfl) (by (rw [hd, P0_end i0 (by omega)]; rfl)) (by rfl)

theorem pdepths_s1 (B : Lo) (s : WShore) (c : WStorm) (plan : List Int) (t : WTruth) : CE.landA 8 (srunT Try.prog (okFn Try.prog) J0 B 6 8 (pdepths_c1 s c plan t) (pdepths_H1 s c plan t) 8
 [(3, HintT.pure (.int .i64 (levelF s t)) [])] 0 [] []) [0, 1, 4, 15, 16, 17] [(7, KS.auto), (3, KS.rows [] [] (rowL encI (List.replicate s.cells.length 0)))] [(8, KS.auto)] [] = some ⟨102, 49, pdepths_k1_t0, [], .run, none, pdepths_k1_v0 s c plan t (0) (0) (levelF s t) (List.replicate s.cells.length 0), ([7, 3] : List Nat).zip (pdepths_k1_w0 s c plan t (0) (0) (levelF s t) (List.replicate s.cells.length 0)), pdepths_k1_o0 s c plan t (0) (0) (levelF s t) (List.replicate s.cells.length 0),
 [CellsX 8 [] [] (rowL (zeroE [.int .i64 0]) (List.replicate s.cells.length ())) (rowL encI (List.replicate s.cells.length 0)), AllP [] ∧ PureC Try.prog J0 75 #[Value.agg (pdepths_z2 s c), Value.agg (pdepths_z3 t)] (.int .i64 (levelF s t))]⟩ := by kernel_rfl
theorem pdepths_s6 (B : Lo) (s : WShore) (c : WStorm) (plan : List Int) (t : WTruth) : endT (srunT Try.prog (okFn Try.prog) J0 B 16 1 (entryC Try.prog 61 33 (([.agg (encBuilt s c plan).toArray, .agg (encTruth t).toArray]).map (pushT 0 4))) H00 1
 [(8, HintT.old (Hint.mk s.cells.length (rowL (zeroE [.int .i64 0]) (List.replicate s.cells.length ())))), (13, HintT.call (List.range 5) (OO.ret (Value.func (Fn.func 102) #[] #[topV 5 (ptT 0 (pdepths_z1 s c plan)), topV 5 (ptT 0 (pdepths_z3 t))])) ([] ++ (5, regO) :: heapL 6 []) 6 []), (14, HintT.call (List.range 8) (OO.ret (Value.tuple #[])) ([(7, Obj.loop { state := LoopState.ready, pending := none, fn := 61, tmps := (pdepths_z0 s c plan t), params := #[17, 18], assign := nav (bodyOf Try.prog 61) [1, 1, 0, 1, 0, 0], body := nav (bodyOf Try.prog 61) [1, 1, 0, 1, 0, 1], defers := 6 }), (3, Obj.cells (rowL encI (playL s plan t)) 3)] ++ (8, regO) :: heapL 9 []) 9 [7, 3])] 0 [] []) [{ k := 3, rs := [], cs := rowL encI (playL s plan t) }] = some (slT s.cells.length (Fz.cs { k := 3, rs := [], cs := rowL encI (playL s plan t) }),
 [CellsT (Fz.rs { k := 3, rs := [], cs := rowL encI (playL s plan t) }) (rowL encI (playL s plan t)) (Fz.cs { k := 3, rs := [], cs := rowL encI (playL s plan t) }), FJ Try.prog B (pdepths_c1 s c plan t) (pdepths_H1 s c plan t) 8 (OO.ret (Value.tuple #[])) (([(7, Obj.loop { state := LoopState.ready, pending := none, fn := 61, tmps := (pdepths_z0 s c plan t), params := #[17, 18], assign := nav (bodyOf Try.prog 61) [1, 1, 0, 1, 0, 0], body := nav (bodyOf Try.prog 61) [1, 1, 0, 1, 0, 1], defers := 6 }), (3, Obj.cells (rowL encI (playL s plan t)) 3)] ++ ((8, regO) :: heapL (8 + 1) [])) ++ pdepths_H1 s c plan t) 9 (List.range 8) [7, 3], FJ Try.prog B (pdepths_c0 s c plan t) (pdepths_H0 s c plan t) 5 (OO.ret (Value.func (Fn.func 102) #[] #[topV 5 (ptT 0 (pdepths_z1 s c plan)), topV 5 (ptT 0 (pdepths_z3 t))])) (([] ++ ((5, regO) :: heapL (5 + 1) [])) ++ pdepths_H0 s c plan t) 6 (List.range 5) [], cMake Try.prog 36 (tget { len := 16000, tr := Tri.set 14 Tri.lf 12 (.int .i64 (↑s.cells.length : Int)) } 12) (tget { len := 16000, tr := Tri.set 14 Tri.lf 12 (.int .i64 (↑s.cells.length : Int)) } 12) = some (3, rowL (zeroE [.int .i64 0]) (List.replicate s.cells.length ()), List.length s.cells, TypeInfo.size Try.t3)]) := by kernel_rfl
set_option maxHeartbeats 4000000 in
theorem pdepths_e (s : WShore) (c : WStorm) (plan : List Int) (t : WTruth) (hs : shoreB s = true) (hp : planB s plan = true) (ht : tOk s t) {B : Lo} (hJ : ∀ w, B.has w → J0 w) : EndsT Try.prog B (entryC Try.prog 61 33 (([.agg (encBuilt s c plan).toArray, .agg (encTruth t).toArray]).map (pushT 0 4))) (slI (playL s plan t)) := by
 have hsf := shore_facts hs
 have hpf := plan_facts hp
 have hlv := level_in ht
 have hdl := ht.2.2.2.2.1
 have hpl := playL_len (s := s) (plan := plan) (t := t)
 have rj0 : FJ Try.prog B (pdepths_c0 s c plan t) (pdepths_H0 s c plan t) 5 (OO.ret (Value.func (Fn.func 102) #[] #[topV 5 (ptT 0 #[slT s.cells.length (rowL encWCell s.cells), slT s.works.length (rowL encWWork s.works), .int .i64 s.reef, .int .i64 s.llo, .int .i64 s.lhi, .int .i64 c.wlo, .int .i64 c.whi, .int .i64 c.flo, .int .i64 c.fhi, .int .i64 c.tlo, .int .i64 c.thi, slT plan.length (rowL encI plan)]), topV 5 (ptT 0 #[.int .i64 t.wind, .int .i64 t.fetch, .int .i64 t.tide, .int .i64 t.loss, slT t.drags.length (rowL encI t.drags)])])) (([] ++ ((5, regO) :: heapL (5 + 1) [])) ++ pdepths_H0 s c plan t) 6 (List.range 5) [] := by
  exact FinK.fjB (GoE.finK okF hJ mixed_ok (under_all (by kernel_rfl)) (writable_of (by kernel_rfl)) ((GoE.refl (P := Try.prog) (B := B) (c0 := pdepths_c0 s c plan t) (under_all (by kernel_rfl))).widen (Wf := ((([]) : List (Nat × KS)).map (·.1))) (by simp) (writable_of (by kernel_rfl))) (pdepths_s0 B s c plan t)
   ⟨(cellsT_un (by kernel_rfl)), ⟨(cellsT_un (by kernel_rfl)), trivial⟩⟩) (ex := [3]) (by kernel_rfl) ⟨trivial, ⟨(lowO_row (t := 3) (fl := (0, 0)) (fun x => List.all_eq_true.1 (by rfl))), ⟨trivial, ⟨trivial, ⟨trivial, trivial⟩⟩⟩⟩⟩
 have rj1 : FJ Try.prog B (pdepths_c1 s c plan t) (pdepths_H1 s c plan t) 8 (OO.ret (Value.tuple #[])) (([(7, Obj.loop { state := LoopState.ready, pending := none, fn := 61, tmps := #[Value.agg #[topV 0 (slT s.cells.length (rowL encWCell s.cells)), topV 0 (slT s.works.length (rowL encWWork s.works)), .int .i64 s.reef, .int .i64 s.llo, .int .i64 s.lhi, .int .i64 c.wlo, .int .i64 c.whi, .int .i64 c.flo, .int .i64 c.fhi, .int .i64 c.tlo, .int .i64 c.thi, topV 0 (slT plan.length (rowL encI plan))], Value.agg #[.int .i64 t.wind, .int .i64 t.fetch, .int .i64 t.tide, .int .i64 t.loss, topV 0 (slT t.drags.length (rowL encI t.drags))], pA 1 0, pA 2 0, Value.slice none 0 0, pA 4 0, Value.tuple #[], Value.tuple #[], pA 1 0, pA 1 0, pA 1 0, topV 0 (slT s.cells.length (rowL encWCell s.cells)), .int .i64 (↑s.cells.length : Int), Value.slice (some { block := 3, off := 0 }) s.cells.length 1, Value.agg #[topV 0 (slT s.cells.length (rowL encWCell s.cells)), topV 0 (slT s.works.length (rowL encWWork s.works)), .int .i64 s.reef, .int .i64 s.llo, .int .i64 s.lhi, .int .i64 c.wlo, .int .i64 c.whi, .int .i64 c.flo, .int .i64 c.fhi, .int .i64 c.tlo, .int .i64 c.thi, topV 0 (slT plan.length (rowL encI plan))], Value.agg #[.int .i64 t.wind, .int .i64 t.fetch, .int .i64 t.tide, .int .i64 t.loss, topV 0 (slT t.drags.length (rowL encI t.drags))], Value.func (Fn.func 102) #[] #[topV 5 (ptT 0 #[slT s.cells.length (rowL encWCell s.cells), slT s.works.length (rowL encWWork s.works), .int .i64 s.reef, .int .i64 s.llo, .int .i64 s.lhi, .int .i64 c.wlo, .int .i64 c.whi, .int .i64 c.flo, .int .i64 c.fhi, .int .i64 c.tlo, .int .i64 c.thi, slT plan.length (rowL encI plan)]), topV 5 (ptT 0 #[.int .i64 t.wind, .int .i64 t.fetch, .int .i64 t.tide, .int .i64 t.loss, slT t.drags.length (rowL encI t.drags)])], Value.tuple #[], Value.tuple #[], Value.tuple #[], Value.tuple #[], Value.tuple #[], Value.tuple #[], Value.tuple #[], Value.tuple #[], Value.tuple #[], Value.tuple #[], Value.tuple #[], Value.tuple #[], Value.tuple #[], Value.tuple #[], Value.tuple #[], Value.tuple #[]], params := #[17, 18], assign := nav (bodyOf Try.prog 61) [1, 1, 0, 1, 0, 0], body := nav (bodyOf Try.prog 61) [1, 1, 0, 1, 0, 1], defers := 6 }), (3, Obj.cells (rowL encI (playL s plan t)) 3)] ++ ((8, regO) :: heapL (8 + 1) [])) ++ pdepths_H1 s c plan t) 9 (List.range 8) [7, 3] := by
  exact FinK.fjB ((pdepths_k1_ls s c plan t hs hp ht hJ _) (0) (0) (levelF s t) (List.replicate s.cells.length 0) rfl (by omega) (by omega) (by exact P0_0) (by (rw [← hpl]; exact doneL_0))
   (GoE.landA okF hJ mixed_ok (under_all (by kernel_rfl)) (writable_of (by kernel_rfl)) ((GoE.refl (P := Try.prog) (B := B) (c0 := pdepths_c1 s c plan t) (under_all (by kernel_rfl))).widen (Wf := ((([(7, KS.auto), (3, KS.rows [] [] (rowL encI (List.replicate s.cells.length 0)))]) : List (Nat × KS)).map (·.1))) (by simp) (writable_of (by kernel_rfl))) (pdepths_s1 B s c plan t)
   ⟨(by exact (cellsX_zero (by exact ⟨(.simple rfl), trivial⟩) _)), ⟨⟨trivial, plevel (s) (c) (t) (by omega) (by with_reducible assumption)⟩, trivial⟩⟩ (by kernel_rfl) (by kernel_rfl) (fun l hl => by cases hl <;> decide))) (ex := [3]) (by kernel_rfl) ⟨trivial, ⟨trivial, ⟨trivial, ⟨trivial, ⟨(lowO_row (t := 3) (fl := (0, 0)) (fun x => List.all_eq_true.1 (by rfl))), ⟨trivial, ⟨trivial, ⟨trivial, trivial⟩⟩⟩⟩⟩⟩⟩⟩
 exact (GoE.endsT okF hJ mixed_ok GoE.start (pdepths_s6 B s c plan t)
  ⟨(rowL_cellsT (fun x => List.all_eq_true.1 (by rfl))), ⟨rj1, ⟨rj0, ⟨(cMakeL (bytes := 8) (by kernel_rfl) (by omega) (by omega) (by omega)), trivial⟩⟩⟩⟩).cast (by exact row_len rfl hpl.symm)
theorem pdepths (s : WShore) (c : WStorm) (plan : List Int) (t : WTruth) (hs : shoreB s = true) (hp : planB s plan = true) (ht : tOk s t) : PureC Try.prog J0 61 #[.agg (encBuilt s c plan).toArray, .agg (encTruth t).toArray] (slI (playL s plan t)) :=
 pureC_of (ts := [.agg (encBuilt s c plan).toArray, .agg (encTruth t).toArray]) J0_st (c0 := entryC Try.prog 61 33 (([.agg (encBuilt s c plan).toArray, .agg (encTruth t).toArray]).map (pushT 0 4))) (by kernel_rfl) (by kernel_rfl) fun B hJ => pdepths_e s c plan t hs hp ht hJ
end Go.Proofs.Ytiigkdhaofaijaa

namespace Go.Proofs.Ytiigkdhaofaijaa
open Go Go.CE Go.RowKit Go.Lib
theorem copy_rowZ {P : Program} (w : World) (t ty e : TypeId) (g o dLen dCap : Nat) (a : Addr) (sLen sCap : Nat) (cur : Array Value) (te : TypeId) (cs : List Value) (z : Nat) (hu : P.underlying t = some (.slice e)) (hz : szOf P e = some z)
 (hg : w.heap[g]? = some (.cells cur te (0, 0))) (hn : cs.length = Nat.min sLen dLen * z) (hsrc : ∀ j v, cs[j]? = some v → w.cell? (a.add j) = some v) (hfit : o + cs.length ≤ cur.size) (h1 : ∀ v ∈ cs, v.oneCell' = true) :
 (Builtin.copy_ #[t, t] ty #[.slice (some ⟨g, o, none⟩) dLen dCap, .slice (some a) sLen sCap]).run P w = .ok (goInt (Nat.min sLen dLen)) (w.setRow g (cur.toList.take o ++ (cs ++ cur.toList.drop (o + cs.length))).toArray) := by
 have hl := run_loadCells_list (P := P) w a cs hsrc
 have hst := run_storeCells_at P g o te cs 0 cur w hg (by simpa using hfit) h1
 simp [Builtin.copy_, Builtin.lenOf, Builtin.firstCells, Sem.run_bind, Sem.run_pure, Result.andThen_ok, run_underlying hu, szOf_run hz, ← hn, hl, hst]
theorem seg_in {cur : Array Value} {w : World} {g : Nat} {te : TypeId} {fr : Nat × Nat} (hg : w.heap[g]? = some (.cells cur te fr)) (o k : Nat) : ∀ j v, ((cur.toList.drop o).take k)[j]? = some v → w.cell? ((⟨g, o, none⟩ : Addr).add j) = some v := by
 intro j v h
 rw [List.getElem?_take] at h
 split at h
 ·rw [List.getElem?_drop] at h
  rw [Addr.add_lit, World.cell?]
  simp [hg]
  simpa using h
 ·cases h
theorem t130 : Try.prog.underlying 130 = some (.slice 108) := by kernel_rfl
theorem t3i : Try.prog.underlying 3 = some (.int .i64) := by kernel_rfl
theorem z108 : szOf Try.prog 108 = some 2 := by kernel_rfl
def Inserted (w w' : World) (g n : Nat) (cs : List Value) (v : Value) : Prop := ∃ g' c' cur', v = .slice (some ⟨g', 0, none⟩) (n + 1) c' ∧ (g' = g ∨ g' = w.heap.size) ∧ w'.heap[g']? = some (.cells cur' 108 (0, 0)) ∧ n + 1 ≤ c' ∧ c' ≤ maxLen ∧ cur'.size = c' * 2 ∧
 cur'.toList.take ((n + 1) * 2) = cs ∧ w.grownBy w' (some g)
set_option maxHeartbeats 4000000 in
set_option maxRecDepth 100000 in
theorem insert_room (w : World) (g n c vb voff vc : Nat) (cur : Array Value) (vs : List Value) (tv : TypeId) (kv : Array Value) (hn : 1 ≤ n) (hr : n + 1 ≤ c) (hc : c ≤ maxLen) (hg : w.heap[g]? = some (.cells cur 108 (0, 0))) (hs : cur.size = c * 2)
 (hvb : vb ≠ g) (hv : w.heap[vb]? = some (.cells kv tv (0, 0))) (hvl : vs.length = 2) (hvs : ∀ j v, vs[j]? = some v → w.cell? ((⟨vb, voff, none⟩ : Addr).add j) = some v) (h1v : ∀ v ∈ vs, v.oneCell' = true) (h1c : ∀ v ∈ cur.toList.take (n * 2), v.oneCell' = true) :
 Calls Try.prog 117 #[.slice (some ⟨g, 0, none⟩) n c, .int .i64 0, .slice (some ⟨vb, voff, none⟩) 1 vc] w fun e w' => ∃ v, e = .returned v ∧ Inserted w w' g n (vs ++ cur.toList.take (n * 2)) v := by
 have mixed : Try.prog.follows .mixedOrders = true := by decide +kernel
 have hc63 : c ≤ 9223372036854775807 := by unfold maxLen at hc; omega
 have hz2 : ¬ (0 = (n : Int)) := by omega
 have hw1 : IntKind.i64.wrap 1 = 1 := by decide
 have hw0 : IntKind.i64.wrap 0 = 0 := by decide
 have hb1 : (1 : Int) ≤ (n : Int) + 1 := by omega
 have hb2 : ¬ (c = 1) := by omega
 have hb4 : ¬ (c = 0) := by omega
 have hb5 : (0 : Int) ≤ (n : Int) + 1 := by omega
 have hz3 : ¬ ((c : Int) < (n : Int) + 1) := by omega
 have hov : ∀ lb cb, (callFunc 120 #[.slice (some ⟨vb, voff, none⟩) 1 vc, .slice (some ⟨g, 2, none⟩) lb cb]).run Try.prog w = .ok (.value (.bool false)) w := fun lb cb => by
  rw [run_callFunc_extern Try.func120 (by kernel_rfl) (by kernel_rfl) (by kernel_rfl) (e := Extern.SlicesOverlaps.overlaps #[130, 130] #[4]) (by kernel_rfl),
   Lib.run_overlaps_apart w 130 4 108 t130 2 (szOf_run z108) ⟨vb, voff, none⟩ ⟨g, 2, none⟩ 1 vc lb cb hvb tv 108 kv.size cur.size (by simp [World.shape?, hv]) (by simp [World.shape?, hg]) (by omega) (by simp [World.frozen?, hv]) (by simp [World.frozen?, hv])]
  rfl
 have hmin : Nat.min (n + 1) n = n := by simp only [Nat.min_def]; split <;> omega
 have hmin2 : Nat.min 1 (n + 1) = 1 := by simp only [Nat.min_def]; split <;> omega
 have htl : (cur.toList.take (n * 2)).length = n * 2 := by rw [List.length_take]; simp only [Array.length_toList]; omega
 have ht2 : (cur.toList.take 2).length = 2 := by rw [List.length_take]; simp only [Array.length_toList]; omega
 have hW2 : ∀ (v2 : List Value), v2.length = 2 → (v2 ++ (cur.toList.take (n * 2) ++ cur.toList.drop (2 + n * 2))).length = cur.size := fun v2 h2 => by
  rw [List.length_append, List.length_append, htl, h2, List.length_drop]; simp only [Array.length_toList]; omega
 obtain ⟨R1, hR1⟩ : ∃ R1, R1 = (cur.toList.take 2 ++ (cur.toList.take (n * 2) ++ cur.toList.drop (2 + n * 2))).toArray := ⟨_, rfl⟩
 have hR1s : R1.size = cur.size := by rw [hR1]; simpa using hW2 _ ht2
 have hcp1 : ∀ ty dc sc, (Builtin.copy_ #[130, 130] ty #[.slice (some ⟨g, 2, none⟩) n dc, .slice (some ⟨g, 0, none⟩) (n + 1) sc]).run Try.prog w.drew = .ok (goInt n) (w.drew.setRow g R1) := fun ty dc sc => by
  have h := copy_rowZ (P := Try.prog) w.drew 130 ty 108 g 2 n dc ⟨g, 0, none⟩ (n + 1) sc cur 108 (cur.toList.take (n * 2)) 2 t130 z108 hg (by rw [hmin, htl]) (by have := seg_in (w := w.drew) hg 0 (n * 2); simpa using this) (by rw [htl]; omega) h1c
  rw [hmin, htl, ← hR1] at h
  exact h
 have hgl : g < w.heap.size := (Array.getElem?_eq_some_iff.1 hg).1
 have hg1 : (w.drew.setRow g R1).heap[g]? = some (.cells R1 108 (0, 0)) := setRow_heap w.drew g cur _ _ _ hg
 obtain ⟨R2, hR2⟩ : ∃ R2, R2 = (vs ++ (cur.toList.take (n * 2) ++ cur.toList.drop (2 + n * 2))).toArray := ⟨_, rfl⟩
 have hcp2 : ∀ ty dc, (Builtin.copy_ #[130, 130] ty #[.slice (some ⟨g, 0, none⟩) (n + 1) dc, .slice (some ⟨vb, voff, none⟩) 1 vc]).run Try.prog (w.drew.setRow g R1) = .ok (goInt 1) ((w.drew.setRow g R1).setRow g R2) := fun ty dc => by
  have hb := setRow_other w.drew g vb R1 hvb
  have h := copy_rowZ (P := Try.prog) (w.drew.setRow g R1) 130 ty 108 g 0 (n + 1) dc ⟨vb, voff, none⟩ 1 vc R1 108 vs 2 t130 z108 hg1 (by rw [hmin2, hvl]) (fun j v hj => by have h0 := hvs j v hj; rw [Addr.add_lit] at h0 ⊢; exact (World.cell?_of_block (a := ⟨vb, voff + j, none⟩) hb).trans h0) (by rw [hvl, hR1s]; omega) h1v
  rw [hmin2, hvl] at h
  have e : (R1.toList.take 0 ++ (vs ++ R1.toList.drop (0 + 2))).toArray = R2 := by
   rw [hR2, hR1]
   simp [List.drop_append, ht2]
  rw [e] at h
  exact h
 have HR1 := Lib.hid hR1; clear hR1
 have HR2 := Lib.hid hR2; clear hR2
 go_enter Try.func117, Try.ntmps117
 go_wp2_with (simp only [hov])
 go_region_law_o (refine step_copy_runI rfl _ _ 130 130 rfl _ _ (by simp [Act.eval, Act.put]; exact ⟨rfl, rfl, rfl⟩) (by simp [Act.eval, Act.put]; exact ⟨rfl, rfl, rfl⟩) (hcp1 _ _ _) ?_)
 go_wp2_with (at_builtin; refine wpList_copy_runI _ rfl _ _ 130 130 rfl _ _ rfl rfl (hcp2 _ _) ?_)
 go_ret
 have hR1 := HR1.out
 have hR2 := HR2.out
 refine ⟨_, rfl, g, c, R2, rfl, .inl rfl, setRow_heap _ g R1 _ _ _ hg1, hr, hc, ?_, ?_, ⟨rfl, rfl, rfl, ?_, fun k hk hne => ?_⟩⟩
 ·rw [hR2, List.size_toArray, hW2 _ hvl, hs]
 ·rw [hR2, show (n + 1) * 2 = (vs ++ cur.toList.take (n * 2)).length by rw [List.length_append, htl, hvl]; omega]
  simp only [← List.append_assoc]
  exact List.take_left
 ·simp [World.setRow]
 ·have hk : k ≠ g := fun e => hne (by rw [e])
  rw [setRow_other _ g k R2 hk, setRow_other _ g k R1 hk]; rfl
theorem info108 : ∃ (i : TypeInfo) (zv : Value), Try.prog.info? 108 = some i ∧ i.zero = some zv ∧ i.size = 2 ∧ i.bytes = 32 ∧ zv.cells.size = 2 := by
 cases h : Try.prog.info? 108 with
 | none => have : (inf Try.prog 108).isSome = true := by kernel_rfl
           rw [inf_eq, h] at this; cases this
 | some i =>
   have h1 : (inf Try.prog 108).map (·.size) = some 2 := by kernel_rfl
   have h2 : (inf Try.prog 108).map (·.bytes) = some 32 := by kernel_rfl
   have h3 : (zeroOf Try.prog 108).map (·.cells.size) = some 2 := by kernel_rfl
   unfold zeroOf at h3
   rw [inf_eq, h] at h1 h2 h3
   simp only [Option.map_some, Option.some.injEq] at h1 h2 h3
   cases hz : i.zero with
   | none => rw [hz] at h3; cases h3
   | some zv =>
     rw [hz] at h3
     simp only [Option.map_some, Option.some.injEq] at h3
     exact ⟨i, zv, rfl, hz, h1, h2, h3⟩
set_option maxHeartbeats 4000000 in
set_option maxRecDepth 100000 in
theorem insert_grow (w : World) (g n vb voff vc : Nat) (cur : Array Value) (vs : List Value) (hn : 1 ≤ n) (hnb : n ≤ 1000000) (hg : w.heap[g]? = some (.cells cur 108 (0, 0))) (hs : cur.size = n * 2)
 (hvl : vs.length = 2) (hvs : ∀ j v, vs[j]? = some v → w.cell? ((⟨vb, voff, none⟩ : Addr).add j) = some v) (h1v : ∀ v ∈ vs, v.oneCell' = true) (h1c : ∀ v ∈ cur.toList.take (n * 2), v.oneCell' = true) :
 Calls Try.prog 117 #[.slice (some ⟨g, 0, none⟩) n n, .int .i64 0, .slice (some ⟨vb, voff, none⟩) 1 vc] w fun e w' => ∃ v, e = .returned v ∧ Inserted w w' g n (vs ++ cur.toList.take (n * 2)) v := by
 have mixed : Try.prog.follows .mixedOrders = true := by decide +kernel
 have hz2 : ¬ (0 = (n : Int)) := by omega
 have hw1 : IntKind.i64.wrap 1 = 1 := by decide
 have hw0 : IntKind.i64.wrap 0 = 0 := by decide
 obtain ⟨i0, zv, hi0, hz0, hi2, hib, hzv⟩ := info108
 obtain ⟨C, hC⟩ : ∃ C, C = grownCap w (n + 1) n 108 := ⟨_, rfl⟩
 have hC1 : n + 1 ≤ C := by rw [hC]; exact grownCap_ge w _ _ _
 have hC2 : C ≤ maxLen := by rw [hC]; exact grownCap_le_maxLen w _ _ _ (by unfold maxLen; omega)
 obtain ⟨R0, hR0⟩ : ∃ R0, R0 = Builtin.zeroCells zv.cells (n + 1) ++ Builtin.zeroCells zv.cells (C - (n + 1)) := ⟨_, rfl⟩
 have hR0s : R0.size = C * 2 := by rw [hR0, Array.size_append, size_zeroCells, size_zeroCells, hzv, ← Nat.add_mul]; congr 1; omega
 have hrz : ∀ ty, (Builtin.append_ #[130, 3] ty #[.slice (some ⟨g, 0, none⟩) 0 n, .int .i64 ((n : Int) + 1)]).run Try.prog w = .ok (.slice (some ⟨w.heap.size, 0, none⟩) (n + 1) C) (w.drew.alloc (.cells R0 108)) := fun ty => by
  have hold : (Builtin.firstCells i0.size 0 (.slice (some ⟨g, 0, none⟩) 0 n)).run Try.prog w.drew = .ok ([] : List Value).toArray w.drew := by
   exact run_firstCells_some w.drew i0.size 0 ⟨g, 0, none⟩ 0 n [] (by simp) (fun j v h => by simp at h)
  have h := Lib.run_append_grow_zeros (P := Try.prog) w 130 3 ty 108 i0 zv .i64 .i64 t130 t3i hi0 hz0 (some ⟨g, 0, none⟩) 0 n [] hold (n + 1) (by omega) (by omega) (by omega) (by omega) (by rw [hib]; omega) (by rw [hib, Nat.zero_add]; exact growslice_fits (by omega) (by omega))
  rw [Nat.zero_add, ← hC] at h
  have e : ([] : List Value).toArray ++ Builtin.zeroCells zv.cells (n + 1) ++ Builtin.zeroCells zv.cells (C - (n + 1)) = R0 := by rw [hR0]; simp
  rw [e] at h
  exact h
 have hgl : g < w.heap.size := (Array.getElem?_eq_some_iff.1 hg).1
 have hvl0 : vb < w.heap.size := block_lt_of_cell (hvs 0 _ (List.getElem?_eq_getElem (by omega)))
 obtain ⟨N, hN⟩ : ∃ N, N = w.heap.size := ⟨_, rfl⟩
 rw [← hN] at hrz hgl hvl0
 obtain ⟨W0, hW0⟩ : ∃ W0, W0 = w.drew.alloc (.cells R0 108) := ⟨_, rfl⟩
 have hW0g : W0.heap[N]? = some (.cells R0 108 (0, 0)) := by rw [hW0, hN]; exact heap_alloc_new w.drew _
 have hW0o : ∀ k, k < N → W0.heap[k]? = w.heap[k]? := fun k hk => by rw [hW0]; exact Below.heap_alloc w.drew _ k (by rw [hN] at hk; exact hk)
 have hmin : Nat.min n n = n := by simp only [Nat.min_def]; split <;> omega
 have hmin2 : Nat.min 1 (n + 1) = 1 := by simp only [Nat.min_def]; split <;> omega
 have htl : (cur.toList.take (n * 2)).length = n * 2 := by rw [List.length_take]; simp only [Array.length_toList]; omega
 obtain ⟨R1, hR1⟩ : ∃ R1, R1 = (vs ++ R0.toList.drop 2).toArray := ⟨_, rfl⟩
 have hR1s : R1.size = R0.size := by rw [hR1]; simp [hvl]; omega
 have hcp1 : ∀ ty dc, (Builtin.copy_ #[130, 130] ty #[.slice (some ⟨N, 0, none⟩) (n + 1) dc, .slice (some ⟨vb, voff, none⟩) 1 vc]).run Try.prog W0 = .ok (goInt 1) (W0.setRow N R1) := fun ty dc => by
  have h := copy_rowZ (P := Try.prog) W0 130 ty 108 N 0 (n + 1) dc ⟨vb, voff, none⟩ 1 vc R0 108 vs 2 t130 z108 hW0g (by rw [hmin2, hvl]) (fun j v hj => by have h0 := hvs j v hj; rw [Addr.add_lit] at h0 ⊢; exact (World.cell?_of_block (a := ⟨vb, voff + j, none⟩) (hW0o vb hvl0)).trans h0) (by rw [hvl]; omega) h1v
  rw [hmin2, hvl] at h
  have e : (R0.toList.take 0 ++ (vs ++ R0.toList.drop (0 + 2))).toArray = R1 := by rw [hR1]; simp
  rw [e] at h
  exact h
 obtain ⟨W1, hW1⟩ : ∃ W1, W1 = W0.setRow N R1 := ⟨_, rfl⟩
 rw [← hW1] at hcp1
 have hW1g : W1.heap[N]? = some (.cells R1 108 (0, 0)) := by rw [hW1]; exact setRow_heap W0 N R0 R1 _ _ hW0g
 have hW1o : ∀ k, k < N → W1.heap[k]? = w.heap[k]? := fun k hk => by rw [hW1, setRow_other W0 N k R1 (by omega)]; exact hW0o k hk
 have hW1d : W1.drew.heap = W1.heap := rfl
 obtain ⟨R2, hR2⟩ : ∃ R2, R2 = (vs ++ (cur.toList.take (n * 2) ++ R1.toList.drop (2 + n * 2))).toArray := ⟨_, rfl⟩
 have hcp2 : ∀ ty dc sc, (Builtin.copy_ #[130, 130] ty #[.slice (some ⟨N, 2, none⟩) n dc, .slice (some ⟨g, 0, none⟩) n sc]).run Try.prog W1.drew = .ok (goInt n) (W1.drew.setRow N R2) := fun ty dc sc => by
  have hg1 : W1.drew.heap[g]? = some (.cells cur 108 (0, 0)) := (hW1o g hgl).trans hg
  have h := copy_rowZ (P := Try.prog) W1.drew 130 ty 108 N 2 n dc ⟨g, 0, none⟩ n sc R1 108 (cur.toList.take (n * 2)) 2 t130 z108 hW1g (by rw [hmin, htl]) (by have := seg_in (w := W1.drew) hg1 0 (n * 2); simpa using this) (by rw [htl, hR1s, hR0s]; omega) h1c
  rw [hmin, htl] at h
  have e : (R1.toList.take 2 ++ (cur.toList.take (n * 2) ++ R1.toList.drop (2 + n * 2))).toArray = R2 := by
   rw [hR2, hR1]
   simp [← hvl]
  rw [e] at h
  exact h
 have hc0 : ¬ (C = 0) := by omega
 have hc1 : ¬ (C = 1) := by omega
 have hn0 : ¬ (n = 0) := by omega
 have hb1 : (1 : Int) ≤ (n : Int) + 1 := by omega
 have hb5 : (0 : Int) ≤ (n : Int) + 1 := by omega
 have hz3 : (n : Int) < (n : Int) + 1 := by omega
 have HC := Lib.hid hC; clear hC
 have HR0 := Lib.hid hR0; clear hR0
 have HR1 := Lib.hid hR1; clear hR1
 have HR2 := Lib.hid hR2; clear hR2
 have HW0 := Lib.hid hW0; clear hW0
 have HW1 := Lib.hid hW1; clear hW1
 have HN := Lib.hid hN; clear hN
 rw [← HW0.out] at hrz
 go_enter Try.func117, Try.ntmps117
 go_wp2_with (first
  | (at_builtin; refine Lib.wpList_append_run _ rfl _ _ _ _ rfl _ _ rfl rfl _ _ (hrz _) ?_)
  | (at_builtin; refine wpList_copy_runI _ rfl _ _ 130 130 rfl _ _ rfl rfl (hcp1 _ _) ?_))
 go_region_law_o (refine step_copy_runI rfl _ _ 130 130 rfl _ _ (by simp [Act.eval, Act.put]; exact ⟨rfl, rfl, rfl⟩) (by simp [Act.eval, Act.put]; exact ⟨rfl, rfl, rfl⟩) (hcp2 _ _ _) ?_)
 go_wp2
 go_ret
 have hR1 := HR1.out
 have hR2 := HR2.out
 have hN := HN.out
 have hR2s : R2.size = C * 2 := by rw [hR2]; simp [hvl, htl, hR1s, hR0s]; omega
 refine ⟨_, rfl, N, C, R2, rfl, .inr hN, setRow_heap _ N R1 _ _ _ hW1g, hC1, hC2, hR2s, ?_, ⟨?_, ?_, ?_, ?_, fun k hk hne => ?_⟩⟩
 ·rw [hR2, show (n + 1) * 2 = (vs ++ cur.toList.take (n * 2)).length by rw [List.length_append, htl, hvl]; omega]
  simp only [← List.append_assoc]
  exact List.take_left
 ·have := HW1.out; have h0 := HW0.out; subst this h0; rfl
 ·have := HW1.out; have h0 := HW0.out; subst this h0; rfl
 ·have := HW1.out; have h0 := HW0.out; subst this h0; rfl
 ·have := HW1.out; have h0 := HW0.out; subst this h0; simp [World.setRow]
 ·have hk' : k < N := by omega
  rw [setRow_other _ N k R2 (by omega)]
  exact hW1o k hk'
theorem insert_any (w : World) (g n c vb voff vc : Nat) (cur : Array Value) (vs : List Value) (tv : TypeId) (kv : Array Value) (hn : 1 ≤ n) (hnb : n ≤ 1000000) (hr : n ≤ c) (hc : c ≤ maxLen) (hg : w.heap[g]? = some (.cells cur 108 (0, 0))) (hs : cur.size = c * 2)
 (hvb : vb ≠ g) (hv : w.heap[vb]? = some (.cells kv tv (0, 0))) (hvl : vs.length = 2) (hvs : ∀ j v, vs[j]? = some v → w.cell? ((⟨vb, voff, none⟩ : Addr).add j) = some v) (h1v : ∀ v ∈ vs, v.oneCell' = true) (h1c : ∀ v ∈ cur.toList.take (n * 2), v.oneCell' = true) :
 Calls Try.prog 117 #[.slice (some ⟨g, 0, none⟩) n c, .int .i64 0, .slice (some ⟨vb, voff, none⟩) 1 vc] w fun e w' => ∃ v, e = .returned v ∧ Inserted w w' g n (vs ++ cur.toList.take (n * 2)) v := by
 rcases Nat.lt_or_ge n c with h | h
 ·exact insert_room w g n c vb voff vc cur vs tv kv hn h hc hg hs hvb hv hvl hvs h1v h1c
 ·obtain rfl : c = n := by omega
  exact insert_grow w g c vb voff vc cur vs hn hnb hg hs hvl hvs h1v h1c
end Go.Proofs.Ytiigkdhaofaijaa

namespace Go.Proofs.Ytiigkdhaofaijaa
open Go Go.CE Go.RowKit
def insC (args : Array Value) (H : Heap) (n : Nat) : Option Rs := match args.toList with
 | [.slice (some ⟨b, 0, none⟩) k s, .int .i64 (.ofNat 0), .slice (some ⟨b2, off2, none⟩) 1 _] => match hget H b, hget H b2 with
   | some (.cells cs te (0, 0)), some (.cells cs2 _ (0, 0)) =>
     bif Nat.beq te 108 && Nat.beq s 2 && Nat.ble (k * 2) cs.size && Nat.ble 1 k && Nat.ble k 1000000 && Nat.ble (off2 + 2) cs2.size && !(Nat.beq b b2) && Nat.blt b n && Nat.blt b2 n && ones (cs2.extract off2 (off2 + 2)) && ones (cs.extract 0 (k * 2)) then
      some ⟨.ret (.slice (some ⟨n, 0, none⟩) (k + 1) 2), (n, .cells (cs2.extract off2 (off2 + 2) ++ cs.extract 0 (k * 2)) 108 (0, 0)) :: killo H (some b), n + 1, [b2, b], [b]⟩ else none
   | _, _ => none
 | _ => none
def insOrc : Orc := fun g args H n => bif Nat.beq g 117 then insC args H n else none
theorem insOrc_ok (B : Lo) : OrcS Try.prog B insOrc := by
 intro g args H n s hu h
 unfold insOrc at h
 cases hg : Nat.beq g 117 with
 | false => rw [hg] at h; cases h
 | true =>
   rw [hg] at h
   simp only [cond_true] at h
   obtain rfl := Nat.eq_of_beq_eq_true hg
   unfold insC at h
   split at h
   ·rename_i b k sz b2 off2 z2 hl
    split at h
    ·rename_i cs te cs2 te2 hb hb2
     cases hq : (Nat.beq te 108 && Nat.beq sz 2 && Nat.ble (k * 2) cs.size && Nat.ble 1 k && Nat.ble k 1000000 && Nat.ble (off2 + 2) cs2.size && !(Nat.beq b b2) && Nat.blt b n && Nat.blt b2 n && ones (cs2.extract off2 (off2 + 2)) && ones (cs.extract 0 (k * 2))) with
     | false => rw [hq] at h; cases h
     | true =>
       rw [hq] at h
       simp only [cond_true, Option.some.injEq] at h
       subst h
       simp only [Bool.and_eq_true, Bool.not_eq_true'] at hq
       obtain ⟨⟨⟨⟨⟨⟨⟨⟨⟨⟨q1, q2⟩, q3⟩, q4⟩, q5⟩, q6⟩, q7⟩, q8⟩, q9⟩, q10⟩, q11⟩ := hq
       obtain rfl := Nat.eq_of_beq_eq_true q1
       obtain rfl := Nat.eq_of_beq_eq_true q2
       have q3 := Nat.le_of_ble_eq_true q3
       have q4 := Nat.le_of_ble_eq_true q4
       have q5 := Nat.le_of_ble_eq_true q5
       have q6 := Nat.le_of_ble_eq_true q6
       have q7 : b ≠ b2 := fun e => by subst e; simp at q7
       have q8 : b < n := Nat.le_of_ble_eq_true q8
       have q9 : b2 < n := Nat.le_of_ble_eq_true q9
       have hsh : Shape H n ((n, Obj.cells (cs2.extract off2 (off2 + 2) ++ cs.extract 0 (k * 2)) 108 (0, 0)) :: killo H (some b)) (n + 1) [b2, b] [b] := by
        refine ⟨by simp, fun i hi hw => ?_, fun i hi => ?_, fun i hi => List.mem_cons_of_mem _ hi, fun i hi => ?_⟩
        ·rw [hget_cons, if_neg (by omega), hget_killo, if_neg]
         rintro ⟨⟨q, e, rfl⟩, _⟩
         cases e
         exact hw (by simp)
        ·rw [hget_cons, if_neg (by omega), hget_killo, if_neg]
         rintro ⟨⟨q, e, rfl⟩, _⟩
         cases e
         omega
        ·simp only [List.mem_singleton] at hi
         omega
       refine ⟨hsh, fun S μ w args' ks hok hB hS hf hv hR => ?_⟩
       have hSb := hR b (by simp) q8
       have hSb2 := hR b2 (by simp) q9
       obtain ⟨im, him, hor⟩ := hok.rel b _ hSb hb trivial
       obtain ⟨im2, him2, hor2⟩ := hok.rel b2 _ hSb2 hb2 trivial
       rcases hor with ⟨_, hr, ho, arr, ha, hle, hcap, hcc⟩ | ⟨hz, _⟩
       ·rcases hor2 with ⟨hz2, hr2, ho2, arr2, ha2, hle2, hcap2, hcc2⟩ | ⟨hz, _⟩
        ·have hl' := vrl_mk [.slice (some ⟨b, 0, none⟩) k 2, .int .i64 (.ofNat 0), .slice (some ⟨b2, off2, none⟩) 1 z2] args'.toList (by rw [← hl]; simpa using hv.1) fun i v v' a b => hv.2 i v v' (by rw [← Array.getElem?_toList, hl]; exact a) (by simpa using b)
         obtain ⟨c, vc, hkc, hcm, hce, harg⟩ : ∃ c vc, k ≤ c ∧ c ≤ maxLen ∧ c * 2 = im.cap ∧ args' = #[.slice (some ⟨im.blk, 0, none⟩) k c, .int .i64 0, .slice (some ⟨im2.blk, off2, none⟩) 1 vc] := by
          generalize hy : args'.toList = ys at hl'
          cases hl' with
          | cons x1 hl' => cases hl' with
            | cons x2 hl' => cases hl' with
              | cons x3 hl' =>
                cases hl'
                rw [af_eq rfl x2] at hy
                cases x1 with
                | @slice _ a' _ _ c' har h1 h2 h3 =>
                  obtain ⟨im', him', _, rfl⟩ := har
                  simp only at him'
                  rw [him] at him'; cases him'
                  cases x3 with
                  | @slice _ a2' _ _ c2' har2 g1 g2 g3 =>
                    obtain ⟨im2', him2', _, rfl⟩ := har2
                    simp only at him2'
                    rw [him2] at him2'; cases him2'
                    refine ⟨c', c2', h1, h2, h3 (by omega) im him hr rfl, ?_⟩
                    apply Array.ext'
                    rw [hy, ho, ho2]
                    simp
         subst harg
         have hne : im2.blk ≠ im.blk := fun e => hok.inj b b2 _ _ im im2 hSb hSb2 q7 hb hb2 trivial trivial him him2 hr hr2 e.symm
         have hcells : ∀ (i : Nat) v, (cs.extract 0 (k * 2))[i]? = some v → ∃ v', (arr.toList.take (k * 2))[i]? = some v' ∧ VR μ v v' := by
          intro i v hv
          rw [Array.getElem?_extract] at hv
          split at hv
          ·rename_i hi
           rw [Nat.zero_add] at hv
           obtain ⟨v', e1, e2⟩ := hcc i v hv
           exact ⟨v', by rw [List.getElem?_take_of_lt (by omega)]; simpa using e1, e2⟩
          ·cases hv
         have hvs2 : ∀ (i : Nat) v, (cs2.extract off2 (off2 + 2))[i]? = some v → ∃ v', ((arr2.toList.drop off2).take 2)[i]? = some v' ∧ VR μ v v' := by
          intro i v hv
          rw [Array.getElem?_extract] at hv
          split at hv
          ·rename_i hi
           obtain ⟨v', e1, e2⟩ := hcc2 _ v hv
           exact ⟨v', by rw [List.getElem?_take_of_lt (by omega), List.getElem?_drop]; simpa using e1, e2⟩
          ·cases hv
         have hl1 : (arr.toList.take (k * 2)).length = k * 2 := by rw [List.length_take, Array.length_toList]; omega
         have hl2 : ((arr2.toList.drop off2).take 2).length = 2 := by rw [List.length_take, List.length_drop, Array.length_toList]; omega
         have he1 : (cs.extract 0 (k * 2)).size = k * 2 := by simp; omega
         have he2 : (cs2.extract off2 (off2 + 2)).size = 2 := by simp; omega
         have hV1 : VRs μ (cs.extract 0 (k * 2)) (arr.toList.take (k * 2)).toArray := ⟨by simp [hl1, -List.length_take]; omega, fun i v v' hv hv' => by
          obtain ⟨u, e1, e2⟩ := hcells i v hv
          simp only [List.getElem?_toArray] at hv'
          rw [e1] at hv'; cases hv'; exact e2⟩
         have hV2 : VRs μ (cs2.extract off2 (off2 + 2)) ((arr2.toList.drop off2).take 2).toArray := ⟨by simp only [List.size_toArray]; rw [hl2, he2], fun i v v' hv hv' => by
          obtain ⟨u, e1, e2⟩ := hvs2 i v hv
          simp only [List.getElem?_toArray] at hv'
          rw [e1] at hv'; cases hv'; exact e2⟩
         obtain ⟨e, w', fr, ⟨v, rfl, g', c', cur', rfl, hg', hcur, hc1, hc2, hcs, htk, hgr⟩, s1, s2, s3⟩ := insert_any w im.blk k c im2.blk off2 vc arr ((arr2.toList.drop off2).take 2) te2 arr2 q4 q5 hkc hcm ha (by omega) hne ha2 hl2
          (seg_in ha2 off2 2) (hV2.ones q10) (hV1.ones q11) ks
         have hgl : g' < w'.heap.size := (Array.getElem?_eq_some_iff.1 hcur).1
         have hlow := hok.low b _ im hSb hb trivial him
         refine ⟨.ret (.slice (some ⟨g', 0, none⟩) (k + 1) c'), w', _, post_grow hok hS (hf n (Nat.le_refl _) (by simp)) (some b) (fun q e => by cases e; exact ⟨hSb, ⟨_, hb, trivial⟩, im, him, hr⟩) g' cur'.size _ ?_ hgl ?_ hgr.size ?_ (.ofCells hcur ?_ rfl fun j v hv => ?_) ⟨hgr.os, hgr.tape, hgr.output⟩, .ret ?_, fun _ => ⟨fr, s1, s2, s3⟩, fun c0 cs' e => by subst e; exact Steps.trans s1 (.one (step_leave_returned s3))⟩
         ·rcases hg' with rfl | rfl
          ·exact hlow.2.1 hr
          ·have := hlow.1; have := hlow.2.1 hr; omega
         ·rcases hg' with rfl | rfl
          ·exact .inr ⟨b, im, rfl, him, rfl⟩
          ·exact .inl (Nat.le_refl _)
         ·intro q hq hne'
          refine hgr.block q hq fun e0 => ?_
          simp only [Option.some.injEq] at e0
          exact hne' b im rfl him e0.symm
         ·rw [Array.size_append, he1, he2, hcs]; omega
         ·have hj := (Array.getElem?_eq_some_iff.1 hv).1
          rw [Array.size_append, he1, he2] at hj
          have hcu : cur'[j]? = ((arr2.toList.drop off2).take 2 ++ arr.toList.take (k * 2))[j]? := by
           rw [← htk, List.getElem?_take_of_lt (by omega)]
           simp
          rw [hcu]
          rw [Array.getElem?_append] at hv
          split at hv
          ·rename_i hlt
           rw [he2] at hlt
           obtain ⟨u, e1, e2⟩ := hvs2 j v hv
           rw [List.getElem?_append_left (by omega)]
           exact ⟨u, e1, e2.mono (upd_ext (hf n (Nat.le_refl _) (by simp)))⟩
          ·rename_i hlt
           rw [he2] at hlt hv
           obtain ⟨u, e1, e2⟩ := hcells (j - 2) v hv
           rw [List.getElem?_append_right (by omega), hl2]
           exact ⟨u, e1, e2.mono (upd_ext (hf n (Nat.le_refl _) (by simp)))⟩
         ·refine .slice ⟨_, upd_self, rfl, rfl⟩ hc1 hc2 (fun _ im' him' _ _ => ?_)
          rw [upd_self] at him'
          cases him'
          exact hcs.symm
        ·exact absurd rfl hz
       ·exact absurd rfl hz
    ·cases h
   ·cases h
end Go.Proofs.Ytiigkdhaofaijaa

namespace Go.Proofs.Ytiigkdhaofaijaa
open Go Go.CE Go.RowKit
def inN (n : Int) : Value := .int .i64 n
def goFns (g : FuncId) : Bool := Nat.ble 3 g && (Nat.blt g 129 && !([120] : List Nat).any (Nat.beq g))
theorem goFns_ok : ∀ g, goFns g = true → okFn Try.prog g = true := by
 have h : (List.range 129).all (fun g => !(goFns g) || okFn Try.prog g) = true := by decide +kernel
 intro g hg
 have hg' := hg
 simp only [goFns, Bool.and_eq_true] at hg
 have h1 : g < 129 := Nat.le_of_ble_eq_true hg.2.1
 have := List.all_eq_true.1 h g (List.mem_range.2 h1)
 rw [hg'] at this
 simpa using this
end Go.Proofs.Ytiigkdhaofaijaa

namespace Go.Proofs.Ytiigkdhaofaijaa
open Go Go.CE Go.RowKit
def m17_4 : Memo :=
 ⟨17, #[.agg #[.slice (some ⟨1, 0, none⟩) 4 4, .slice (some ⟨2, 0, none⟩) 2 3, inN 2, inN 100, inN 200], .agg #[inN 200, inN 300, inN 500, inN 1000, inN 20, inN 50]], [(2, .cells #[inN 60, inN 0, inN 50, inN 0, inN 25, inN 20] 85 (0, 0)), (1, .cells #[inN 100, inN 10, inN 20, inN (-1), inN 150, inN 20, inN 30, inN (-1), inN 180, inN 20, inN 40, inN 10, inN 175, inN 10, inN 20, inN 0] 59 (0, 0))], 4, .tuple #[.agg #[inN 84, inN 293], inN 0], [], 113⟩
theorem m17_4_ok : isMemo m17_4 (m17_4.run Try.prog goFns insOrc 100000) = true := by decide +kernel
def m103_201 : Memo :=
 ⟨103, #[.agg #[.slice (some ⟨115, 0, none⟩) 4 4, .slice (some ⟨116, 0, none⟩) 2 3, inN 2, inN 100, inN 200, inN 200, inN 300, inN 500, inN 1000, inN 20, inN 50], .agg #[inN 0, inN 84], inN 20, inN (-1)], [(115, .cells #[inN 100, inN 10, inN 20, inN (-1), inN 150, inN 20, inN 30, inN (-1), inN 180, inN 20, inN 40, inN 10, inN 175, inN 10, inN 20, inN 0] 59 (0, 0))], 201, .tuple #[inN 0, .bool false], [], 213⟩
theorem m103_201_ok : isMemo m103_201 (m103_201.drun Try.prog goFns insOrc 100000) = true := by decide +kernel
def m103_264 : Memo :=
 ⟨103, #[.agg #[.slice (some ⟨115, 0, none⟩) 4 4, .slice (some ⟨116, 0, none⟩) 2 3, inN 2, inN 100, inN 200, inN 200, inN 300, inN 500, inN 1000, inN 20, inN 50], .agg #[inN 0, inN 293], inN 10, inN (-1)], [(115, .cells #[inN 100, inN 10, inN 20, inN (-1), inN 150, inN 20, inN 30, inN (-1), inN 180, inN 20, inN 40, inN 10, inN 175, inN 10, inN 20, inN 0] 59 (0, 0))], 264, .tuple #[inN 283, .bool true], [], 276⟩
theorem m103_264_ok : isMemo m103_264 (m103_264.drun Try.prog goFns insOrc 100000) = true := by decide +kernel
def m103_276 : Memo :=
 ⟨103, #[.agg #[.slice (some ⟨115, 0, none⟩) 4 4, .slice (some ⟨116, 0, none⟩) 2 3, inN 2, inN 100, inN 200, inN 200, inN 300, inN 500, inN 1000, inN 20, inN 50], .agg #[inN 1, inN 283], inN 20, inN (-1)], [(115, .cells #[inN 100, inN 10, inN 20, inN (-1), inN 150, inN 20, inN 30, inN (-1), inN 180, inN 20, inN 40, inN 10, inN 175, inN 10, inN 20, inN 0] 59 (0, 0))], 276, .tuple #[inN 263, .bool true], [], 288⟩
theorem m103_276_ok : isMemo m103_276 (m103_276.drun Try.prog goFns insOrc 100000) = true := by decide +kernel
def m103_288 : Memo :=
 ⟨103, #[.agg #[.slice (some ⟨115, 0, none⟩) 4 4, .slice (some ⟨116, 0, none⟩) 2 3, inN 2, inN 100, inN 200, inN 200, inN 300, inN 500, inN 1000, inN 20, inN 50], .agg #[inN 2, inN 263], inN 20, inN (-1)], [(115, .cells #[inN 100, inN 10, inN 20, inN (-1), inN 150, inN 20, inN 30, inN (-1), inN 180, inN 20, inN 40, inN 10, inN 175, inN 10, inN 20, inN 0] 59 (0, 0))], 288, .tuple #[inN 243, .bool true], [], 300⟩
theorem m103_288_ok : isMemo m103_288 (m103_288.drun Try.prog goFns insOrc 100000) = true := by decide +kernel
def m103_300 : Memo :=
 ⟨103, #[.agg #[.slice (some ⟨115, 0, none⟩) 4 4, .slice (some ⟨116, 0, none⟩) 2 3, inN 2, inN 100, inN 200, inN 200, inN 300, inN 500, inN 1000, inN 20, inN 50], .agg #[inN 3, inN 243], inN 10, inN (-1)], [(115, .cells #[inN 100, inN 10, inN 20, inN (-1), inN 150, inN 20, inN 30, inN (-1), inN 180, inN 20, inN 40, inN 10, inN 175, inN 10, inN 20, inN 0] 59 (0, 0))], 300, .tuple #[inN 233, .bool true], [], 312⟩
theorem m103_300_ok : isMemo m103_300 (m103_300.drun Try.prog goFns insOrc 100000) = true := by decide +kernel
def m103_396 : Memo :=
 ⟨103, #[.agg #[.slice (some ⟨321, 0, none⟩) 4 4, .slice (some ⟨322, 0, none⟩) 2 3, inN 2, inN 100, inN 200, inN 200, inN 300, inN 500, inN 1000, inN 20, inN 50], .agg #[inN 0, inN 185], inN 15, inN (-1)], [(321, .cells #[inN 100, inN 10, inN 20, inN (-1), inN 150, inN 20, inN 30, inN (-1), inN 180, inN 20, inN 40, inN 10, inN 175, inN 10, inN 20, inN 0] 59 (0, 0))], 396, .tuple #[inN 170, .bool true], [], 408⟩
theorem m103_396_ok : isMemo m103_396 (m103_396.drun Try.prog goFns insOrc 100000) = true := by decide +kernel
def m103_408 : Memo :=
 ⟨103, #[.agg #[.slice (some ⟨321, 0, none⟩) 4 4, .slice (some ⟨322, 0, none⟩) 2 3, inN 2, inN 100, inN 200, inN 200, inN 300, inN 500, inN 1000, inN 20, inN 50], .agg #[inN 1, inN 170], inN 25, inN (-1)], [(321, .cells #[inN 100, inN 10, inN 20, inN (-1), inN 150, inN 20, inN 30, inN (-1), inN 180, inN 20, inN 40, inN 10, inN 175, inN 10, inN 20, inN 0] 59 (0, 0))], 408, .tuple #[inN 0, .bool false], [], 420⟩
theorem m103_408_ok : isMemo m103_408 (m103_408.drun Try.prog goFns insOrc 100000) = true := by decide +kernel
def m103_500 : Memo :=
 ⟨103, #[.agg #[.slice (some ⟨421, 0, none⟩) 4 4, .slice (some ⟨422, 0, none⟩) 2 3, inN 2, inN 100, inN 200, inN 200, inN 300, inN 500, inN 1000, inN 20, inN 50], .agg #[inN 0, inN 293], inN 10, inN (-1)], [(421, .cells #[inN 100, inN 10, inN 20, inN (-1), inN 150, inN 20, inN 30, inN (-1), inN 180, inN 20, inN 40, inN 10, inN 175, inN 10, inN 20, inN 0] 59 (0, 0))], 500, .tuple #[inN 283, .bool true], [], 512⟩
theorem m103_500_ok : isMemo m103_500 (m103_500.drun Try.prog goFns insOrc 100000) = true := by decide +kernel
def m103_519 : Memo :=
 ⟨103, #[.agg #[.slice (some ⟨421, 0, none⟩) 4 4, .slice (some ⟨422, 0, none⟩) 2 3, inN 2, inN 100, inN 200, inN 200, inN 300, inN 500, inN 1000, inN 20, inN 50], .agg #[inN 1, inN 283], inN 20, inN (-1)], [(421, .cells #[inN 100, inN 10, inN 20, inN (-1), inN 150, inN 20, inN 30, inN (-1), inN 180, inN 20, inN 40, inN 10, inN 175, inN 10, inN 20, inN 0] 59 (0, 0))], 519, .tuple #[inN 263, .bool true], [], 531⟩
theorem m103_519_ok : isMemo m103_519 (m103_519.drun Try.prog goFns insOrc 100000) = true := by decide +kernel
def m103_538 : Memo :=
 ⟨103, #[.agg #[.slice (some ⟨421, 0, none⟩) 4 4, .slice (some ⟨422, 0, none⟩) 2 3, inN 2, inN 100, inN 200, inN 200, inN 300, inN 500, inN 1000, inN 20, inN 50], .agg #[inN 2, inN 263], inN 20, inN (-1)], [(421, .cells #[inN 100, inN 10, inN 20, inN (-1), inN 150, inN 20, inN 30, inN (-1), inN 180, inN 20, inN 40, inN 10, inN 175, inN 10, inN 20, inN 0] 59 (0, 0))], 538, .tuple #[inN 243, .bool true], [], 550⟩
theorem m103_538_ok : isMemo m103_538 (m103_538.drun Try.prog goFns insOrc 100000) = true := by decide +kernel
def m103_557 : Memo :=
 ⟨103, #[.agg #[.slice (some ⟨421, 0, none⟩) 4 4, .slice (some ⟨422, 0, none⟩) 2 3, inN 2, inN 100, inN 200, inN 200, inN 300, inN 500, inN 1000, inN 20, inN 50], .agg #[inN 3, inN 243], inN 10, inN (-1)], [(421, .cells #[inN 100, inN 10, inN 20, inN (-1), inN 150, inN 20, inN 30, inN (-1), inN 180, inN 20, inN 40, inN 10, inN 175, inN 10, inN 20, inN 0] 59 (0, 0))], 557, .tuple #[inN 233, .bool true], [], 569⟩
theorem m103_557_ok : isMemo m103_557 (m103_557.drun Try.prog goFns insOrc 100000) = true := by decide +kernel
def m103_594 : Memo :=
 ⟨103, #[.agg #[.slice (some ⟨421, 0, none⟩) 4 4, .slice (some ⟨422, 0, none⟩) 2 3, inN 2, inN 100, inN 200, inN 200, inN 300, inN 500, inN 1000, inN 20, inN 50], .agg #[inN 3, inN 243], inN 10, inN 0], [(421, .cells #[inN 100, inN 10, inN 20, inN (-1), inN 150, inN 20, inN 30, inN (-1), inN 180, inN 20, inN 40, inN 10, inN 175, inN 10, inN 20, inN 0] 59 (0, 0)), (422, .cells #[inN 60, inN 0, inN 50, inN 0, inN 25, inN 20] 85 (0, 0))], 594, .tuple #[inN 0, .bool false], [], 606⟩
theorem m103_594_ok : isMemo m103_594 (m103_594.drun Try.prog goFns insOrc 100000) = true := by decide +kernel
def m103_633 : Memo :=
 ⟨103, #[.agg #[.slice (some ⟨421, 0, none⟩) 4 4, .slice (some ⟨422, 0, none⟩) 2 3, inN 2, inN 100, inN 200, inN 200, inN 300, inN 500, inN 1000, inN 20, inN 50], .agg #[inN 3, inN 243], inN 10, inN 1], [(421, .cells #[inN 100, inN 10, inN 20, inN (-1), inN 150, inN 20, inN 30, inN (-1), inN 180, inN 20, inN 40, inN 10, inN 175, inN 10, inN 20, inN 0] 59 (0, 0)), (422, .cells #[inN 60, inN 0, inN 50, inN 0, inN 25, inN 20] 85 (0, 0))], 633, .tuple #[inN 208, .bool true], [], 645⟩
theorem m103_633_ok : isMemo m103_633 (m103_633.drun Try.prog goFns insOrc 100000) = true := by decide +kernel
def m108_666 : Memo :=
 ⟨108, #[.slice (some ⟨665, 0, none⟩) 3 1], [(651, .cells #[.slice (some ⟨662, 0, none⟩) 1 1, inN 20] 108 (0, 0)), (626, .cells #[.slice (some ⟨623, 0, none⟩) 1 1, inN 50, .slice (some ⟨623, 0, none⟩) 1 1, inN 50] 108 (0, 0)), (575, .cells #[.slice (some ⟨586, 0, none⟩) 1 1, inN 0] 108 (0, 0)), (665, .cells #[.slice (some ⟨575, 0, none⟩) 1 2, .slice (some ⟨626, 0, none⟩) 2 2, .slice (some ⟨651, 0, none⟩) 1 2] 130 (0, 0))], 666, .slice (some ⟨707, 0, none⟩) 2 2, [(707, .cells #[.slice (some ⟨586, 0, none⟩) 1 1, inN 0, .slice (some ⟨623, 0, none⟩) 1 1, inN 50] 108 (0, 0))], 717⟩
theorem m108_666_ok : isMemo m108_666 (m108_666.run Try.prog goFns insOrc 100000) = true := by decide +kernel
def m103_752 : Memo :=
 ⟨103, #[.agg #[.slice (some ⟨421, 0, none⟩) 4 4, .slice (some ⟨422, 0, none⟩) 2 3, inN 2, inN 100, inN 200, inN 200, inN 300, inN 500, inN 1000, inN 20, inN 50], .agg #[inN 2, inN 263], inN 20, inN 0], [(421, .cells #[inN 100, inN 10, inN 20, inN (-1), inN 150, inN 20, inN 30, inN (-1), inN 180, inN 20, inN 40, inN 10, inN 175, inN 10, inN 20, inN 0] 59 (0, 0)), (422, .cells #[inN 60, inN 0, inN 50, inN 0, inN 25, inN 20] 85 (0, 0))], 752, .tuple #[inN 243, .bool true], [], 764⟩
theorem m103_752_ok : isMemo m103_752 (m103_752.drun Try.prog goFns insOrc 100000) = true := by decide +kernel
def m103_802 : Memo :=
 ⟨103, #[.agg #[.slice (some ⟨421, 0, none⟩) 4 4, .slice (some ⟨422, 0, none⟩) 2 3, inN 2, inN 100, inN 200, inN 200, inN 300, inN 500, inN 1000, inN 20, inN 50], .agg #[inN 2, inN 263], inN 20, inN 1], [(421, .cells #[inN 100, inN 10, inN 20, inN (-1), inN 150, inN 20, inN 30, inN (-1), inN 180, inN 20, inN 40, inN 10, inN 175, inN 10, inN 20, inN 0] 59 (0, 0)), (422, .cells #[inN 60, inN 0, inN 50, inN 0, inN 25, inN 20] 85 (0, 0))], 802, .tuple #[inN 218, .bool true], [], 814⟩
theorem m103_802_ok : isMemo m103_802 (m103_802.drun Try.prog goFns insOrc 100000) = true := by decide +kernel
def m103_821 : Memo :=
 ⟨103, #[.agg #[.slice (some ⟨421, 0, none⟩) 4 4, .slice (some ⟨422, 0, none⟩) 2 3, inN 2, inN 100, inN 200, inN 200, inN 300, inN 500, inN 1000, inN 20, inN 50], .agg #[inN 3, inN 218], inN 10, inN (-1)], [(421, .cells #[inN 100, inN 10, inN 20, inN (-1), inN 150, inN 20, inN 30, inN (-1), inN 180, inN 20, inN 40, inN 10, inN 175, inN 10, inN 20, inN 0] 59 (0, 0))], 821, .tuple #[inN 208, .bool true], [], 833⟩
theorem m103_821_ok : isMemo m103_821 (m103_821.drun Try.prog goFns insOrc 100000) = true := by decide +kernel
def m103_858 : Memo :=
 ⟨103, #[.agg #[.slice (some ⟨421, 0, none⟩) 4 4, .slice (some ⟨422, 0, none⟩) 2 3, inN 2, inN 100, inN 200, inN 200, inN 300, inN 500, inN 1000, inN 20, inN 50], .agg #[inN 3, inN 218], inN 10, inN 0], [(421, .cells #[inN 100, inN 10, inN 20, inN (-1), inN 150, inN 20, inN 30, inN (-1), inN 180, inN 20, inN 40, inN 10, inN 175, inN 10, inN 20, inN 0] 59 (0, 0)), (422, .cells #[inN 60, inN 0, inN 50, inN 0, inN 25, inN 20] 85 (0, 0))], 858, .tuple #[inN 0, .bool false], [], 870⟩
theorem m103_858_ok : isMemo m103_858 (m103_858.drun Try.prog goFns insOrc 100000) = true := by decide +kernel
def m103_897 : Memo :=
 ⟨103, #[.agg #[.slice (some ⟨421, 0, none⟩) 4 4, .slice (some ⟨422, 0, none⟩) 2 3, inN 2, inN 100, inN 200, inN 200, inN 300, inN 500, inN 1000, inN 20, inN 50], .agg #[inN 3, inN 218], inN 10, inN 1], [(421, .cells #[inN 100, inN 10, inN 20, inN (-1), inN 150, inN 20, inN 30, inN (-1), inN 180, inN 20, inN 40, inN 10, inN 175, inN 10, inN 20, inN 0] 59 (0, 0)), (422, .cells #[inN 60, inN 0, inN 50, inN 0, inN 25, inN 20] 85 (0, 0))], 897, .tuple #[inN 183, .bool true], [], 909⟩
theorem m103_897_ok : isMemo m103_897 (m103_897.drun Try.prog goFns insOrc 100000) = true := by decide +kernel
def m108_930 : Memo :=
 ⟨108, #[.slice (some ⟨929, 0, none⟩) 3 1], [(915, .cells #[.slice (some ⟨926, 0, none⟩) 1 1, inN 20] 108 (0, 0)), (890, .cells #[.slice (some ⟨887, 0, none⟩) 1 1, inN 50, .slice (some ⟨887, 0, none⟩) 1 1, inN 50] 108 (0, 0)), (839, .cells #[.slice (some ⟨850, 0, none⟩) 1 1, inN 0] 108 (0, 0)), (929, .cells #[.slice (some ⟨839, 0, none⟩) 1 2, .slice (some ⟨890, 0, none⟩) 2 2, .slice (some ⟨915, 0, none⟩) 1 2] 130 (0, 0))], 930, .slice (some ⟨971, 0, none⟩) 2 2, [(971, .cells #[.slice (some ⟨850, 0, none⟩) 1 1, inN 0, .slice (some ⟨887, 0, none⟩) 1 1, inN 50] 108 (0, 0))], 981⟩
theorem m108_930_ok : isMemo m108_930 (m108_930.run Try.prog goFns insOrc 100000) = true := by decide +kernel
def m108_1012 : Memo :=
 ⟨108, #[.slice (some ⟨1011, 0, none⟩) 3 1], [(983, .cells #[.slice (some ⟨995, 0, none⟩) 2 1, inN 20, .slice (some ⟨1008, 0, none⟩) 2 1, inN 70] 108 (0, 0)), (769, .cells #[.slice (some ⟨781, 0, none⟩) 2 1, inN 50, .slice (some ⟨794, 0, none⟩) 2 1, inN 100] 108 (0, 0)), (719, .cells #[.slice (some ⟨731, 0, none⟩) 2 1, inN 0, .slice (some ⟨744, 0, none⟩) 2 1, inN 50] 108 (0, 0)), (1011, .cells #[.slice (some ⟨719, 0, none⟩) 2 2, .slice (some ⟨769, 0, none⟩) 2 2, .slice (some ⟨983, 0, none⟩) 2 2] 130 (0, 0))], 1012, .slice (some ⟨1065, 0, none⟩) 2 2, [(1065, .cells #[.slice (some ⟨731, 0, none⟩) 2 1, inN 0, .slice (some ⟨744, 0, none⟩) 2 1, inN 50] 108 (0, 0))], 1075⟩
theorem m108_1012_ok : isMemo m108_1012 (m108_1012.run Try.prog goFns insOrc 100000) = true := by decide +kernel
def m103_1110 : Memo :=
 ⟨103, #[.agg #[.slice (some ⟨421, 0, none⟩) 4 4, .slice (some ⟨422, 0, none⟩) 2 3, inN 2, inN 100, inN 200, inN 200, inN 300, inN 500, inN 1000, inN 20, inN 50], .agg #[inN 1, inN 283], inN 20, inN 0], [(421, .cells #[inN 100, inN 10, inN 20, inN (-1), inN 150, inN 20, inN 30, inN (-1), inN 180, inN 20, inN 40, inN 10, inN 175, inN 10, inN 20, inN 0] 59 (0, 0)), (422, .cells #[inN 60, inN 0, inN 50, inN 0, inN 25, inN 20] 85 (0, 0))], 1110, .tuple #[inN 263, .bool true], [], 1122⟩
theorem m103_1110_ok : isMemo m103_1110 (m103_1110.drun Try.prog goFns insOrc 100000) = true := by decide +kernel
def m103_1160 : Memo :=
 ⟨103, #[.agg #[.slice (some ⟨421, 0, none⟩) 4 4, .slice (some ⟨422, 0, none⟩) 2 3, inN 2, inN 100, inN 200, inN 200, inN 300, inN 500, inN 1000, inN 20, inN 50], .agg #[inN 1, inN 283], inN 20, inN 1], [(421, .cells #[inN 100, inN 10, inN 20, inN (-1), inN 150, inN 20, inN 30, inN (-1), inN 180, inN 20, inN 40, inN 10, inN 175, inN 10, inN 20, inN 0] 59 (0, 0)), (422, .cells #[inN 60, inN 0, inN 50, inN 0, inN 25, inN 20] 85 (0, 0))], 1160, .tuple #[inN 238, .bool true], [], 1172⟩
theorem m103_1160_ok : isMemo m103_1160 (m103_1160.drun Try.prog goFns insOrc 100000) = true := by decide +kernel
end Go.Proofs.Ytiigkdhaofaijaa

namespace Go.Proofs.Ytiigkdhaofaijaa
open Go Go.CE Go.RowKit
noncomputable def orc_m29_119 : Orc := orElse insOrc (memoOrc [m103_201, m103_264, m103_276, m103_288, m103_300])
theorem orc_m29_119_ok (B : Lo) : OrcS Try.prog B orc_m29_119 := orElse_ok (insOrc_ok _) (orcS_consD goFns_ok mixed_ok (insOrc_ok _) m103_201_ok (orcS_consD goFns_ok mixed_ok (insOrc_ok _) m103_264_ok (orcS_consD goFns_ok mixed_ok (insOrc_ok _) m103_276_ok (orcS_consD goFns_ok mixed_ok (insOrc_ok _) m103_288_ok (orcS_consD goFns_ok mixed_ok (insOrc_ok _) m103_300_ok (orcS_nil _ _))))))
def m29_119 : Memo :=
 ⟨29, #[.agg #[.slice (some ⟨115, 0, none⟩) 4 4, .slice (some ⟨116, 0, none⟩) 2 3, inN 2, inN 100, inN 200], .agg #[inN 200, inN 300, inN 500, inN 1000, inN 20, inN 50], .slice (some ⟨118, 0, none⟩) 4 1], [(115, .cells #[inN 100, inN 10, inN 20, inN (-1), inN 150, inN 20, inN 30, inN (-1), inN 180, inN 20, inN 40, inN 10, inN 175, inN 10, inN 20, inN 0] 59 (0, 0)), (116, .cells #[inN 60, inN 0, inN 50, inN 0, inN 25, inN 20] 85 (0, 0)), (118, .cells #[inN (-1), inN (-1), inN (-1), inN (-1)] 3 (0, 0))], 119, .tuple #[.slice (some ⟨155, 0, none⟩) 4 2, inN 0], [(155, .cells #[inN 0, inN 183, inN 0, inN 113, inN 0, inN 63, inN 0, inN 58] 25 (0, 0))], 320⟩
theorem m29_119_ok : isMemo m29_119 (m29_119.run Try.prog goFns orc_m29_119 100000) = true := by decide +kernel
end Go.Proofs.Ytiigkdhaofaijaa

namespace Go.Proofs.Ytiigkdhaofaijaa
open Go Go.CE Go.RowKit
noncomputable def orc_m24_326 : Orc := orElse insOrc (memoOrc [m103_396, m103_408])
theorem orc_m24_326_ok (B : Lo) : OrcS Try.prog B orc_m24_326 := orElse_ok (insOrc_ok _) (orcS_consD goFns_ok mixed_ok (insOrc_ok _) m103_396_ok (orcS_consD goFns_ok mixed_ok (insOrc_ok _) m103_408_ok (orcS_nil _ _)))
def m24_326 : Memo :=
 ⟨24, #[.agg #[.slice (some ⟨321, 0, none⟩) 4 4, .slice (some ⟨322, 0, none⟩) 2 3, inN 2, inN 100, inN 200], .agg #[inN 200, inN 300, inN 500, inN 1000, inN 20, inN 50], .slice (some ⟨324, 0, none⟩) 4 1, .agg #[inN 250, inN 800, inN 40, inN 150, .slice (some ⟨325, 0, none⟩) 4 1]], [(325, .cells #[inN 15, inN 25, inN 30, inN 15] 3 (0, 0)), (321, .cells #[inN 100, inN 10, inN 20, inN (-1), inN 150, inN 20, inN 30, inN (-1), inN 180, inN 20, inN 40, inN 10, inN 175, inN 10, inN 20, inN 0] 59 (0, 0)), (322, .cells #[inN 60, inN 0, inN 50, inN 0, inN 25, inN 20] 85 (0, 0)), (324, .cells #[inN (-1), inN (-1), inN (-1), inN (-1)] 3 (0, 0))], 326, .tuple #[.slice (some ⟨386, 0, none⟩) 4 1, inN 0], [(386, .cells #[inN 70, inN 0, inN 0, inN 0] 3 (0, 0))], 420⟩
theorem m24_326_ok : isMemo m24_326 (m24_326.run Try.prog goFns orc_m24_326 100000) = true := by decide +kernel
end Go.Proofs.Ytiigkdhaofaijaa
