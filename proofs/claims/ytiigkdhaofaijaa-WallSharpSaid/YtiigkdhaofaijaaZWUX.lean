/- WallSharp: whatever the input, it returns true, and each argument reads as it did. The row, from the walk. -/
import Derived.Test.YtiigkdhaofaijaaZWU16
import Derived.Test.YtiigkdhaofaijaaZWU15
import Derived.JoinedOf
import Derived.Test.YtiigkdhaofaijaaRows
set_option linter.all false
namespace Go.Proofs.Ytiigkdhaofaijaa
open Go Go.CE Go.RowKit
set_option maxRecDepth 100000
theorem rowL_pushC {α : Type} {e : α → List Value} {xs : List α} {x : α} {cs : Array Value} (h : cs = (e x).toArray) : rowL e xs ++ cs = rowL e (xs ++ [x]) := by
 rw [h]; exact rowL_push
def rDepths_v0 (s : WShore) (c : WStorm) (plan : List Int) (i : Int) : List Value := [topV 1 (slT (List.length (playL s plan (endE false s c))) (rowL encI (playL s plan (endE false s c)))), topV 1 (slT (List.length (playL s plan (endE true s c))) (rowL encI (playL s plan (endE true s c)))), .slice none 0 0, .int .i64 i]
def rDepths_o0 (s : WShore) (c : WStorm) (plan : List Int) (i : Int) : List Obj := []
noncomputable def rDepths_t0 : List Item := ([.code [1, 1, 1, 0, 1, 0, 0], .inLoop [1, 1, 1, 0, 1, 0, 0], .inBlock 0, .code [1, 1, 1, 1]]).map (it (bodyOf Try.prog 31))
def rDepths_h0 (B : Lo) (c0 : CF) (s : WShore) (c : WStorm) (plan : List Int) (i : Int) : Prop := ∃ dJ : Nat → Value, (∀ t, Loose (dJ t)) ∧ GoE Try.prog B c0 H00 1 (headC 31 42 (([7, 8, 9, 10] : List Nat).zip (rDepths_v0 s c plan i)) dJ rDepths_t0) (headH (rDepths_o0 s c plan i)) (2 + (rDepths_o0 s c plan i).length) []
def rDepths_v1 (s : WShore) (c : WStorm) (plan : List Int) (i : Int) (out : List Span) (out_n : Nat) : List Value := [topV 1 (slT (List.length (playL s plan (endE false s c))) (rowL encI (playL s plan (endE false s c)))), topV 1 (slT (List.length (playL s plan (endE true s c))) (rowL encI (playL s plan (endE true s c)))), .slice (some ⟨2, 0, none⟩) out_n 2, .int .i64 i]
def rDepths_o1 (s : WShore) (c : WStorm) (plan : List Int) (i : Int) (out : List Span) (out_n : Nat) : List Obj := [Obj.cells (rowL encSp out) 25 (0, 0)]
noncomputable def rDepths_t1 : List Item := ([.code [1, 1, 1, 0, 1, 0, 0], .inLoop [1, 1, 1, 0, 1, 0, 0], .inBlock 0, .code [1, 1, 1, 1]]).map (it (bodyOf Try.prog 31))
def rDepths_h1 (B : Lo) (c0 : CF) (s : WShore) (c : WStorm) (plan : List Int) (i : Int) (out : List Span) (out_n : Nat) : Prop := ∃ dJ : Nat → Value, (∀ t, Loose (dJ t)) ∧ GoE Try.prog B c0 H00 1 (headC 31 42 (([7, 8, 9, 10] : List Nat).zip (rDepths_v1 s c plan i out out_n)) dJ rDepths_t1) (headH (rDepths_o1 s c plan i out out_n)) (2 + (rDepths_o1 s c plan i out out_n).length) []
noncomputable def rDepths_z0 (s : WShore) (c : WStorm) : Array Value := #[Value.int IntKind.i64 (WTruth.wind (endE false s c)), Value.int IntKind.i64 (WTruth.fetch (endE false s c)), Value.int IntKind.i64 (WTruth.tide (endE false s c)), Value.int IntKind.i64 (WTruth.loss (endE false s c)), slT (List.length (WTruth.drags (endE false s c))) (rowL encI (WTruth.drags (endE false s c)))]
noncomputable def rDepths_z1 (s : WShore) (c : WStorm) : Array Value := #[Value.int IntKind.i64 (WTruth.wind (endE true s c)), Value.int IntKind.i64 (WTruth.fetch (endE true s c)), Value.int IntKind.i64 (WTruth.tide (endE true s c)), Value.int IntKind.i64 (WTruth.loss (endE true s c)), slT (List.length (WTruth.drags (endE true s c))) (rowL encI (WTruth.drags (endE true s c)))]
noncomputable def rDepths_z2 (s : WShore) : Array Value := #[slT s.cells.length (rowL encWCell s.cells), slT s.works.length (rowL encWWork s.works), Value.int IntKind.i64 s.reef, Value.int IntKind.i64 s.llo, Value.int IntKind.i64 s.lhi]
noncomputable def rDepths_z3 (s : WShore) (c : WStorm) (plan : List Int) (i : Int) : Array Value := #[Value.int IntKind.i64 (List.getD (playL s plan (endE false s c)) i.toNat default)]
noncomputable def rDepths_z4 (s : WShore) (c : WStorm) (plan : List Int) (i : Int) : Array Value := #[Value.int IntKind.i64 (List.getD (playL s plan (endE true s c)) i.toNat default)]
theorem rDepths_s0 (B : Lo) (s : WShore) (c : WStorm) (plan : List Int) (i : Int) (dJ0 : Nat → Value) : landM (srunT Try.prog (okFn Try.prog) J0 B 11 1 (headC 31 42 (([7, 8, 9, 10] : List Nat).zip (rDepths_v0 s c plan i)) dJ0 rDepths_t0) (headH (rDepths_o0 s c plan i)) (2 + (rDepths_o0 s c plan i).length)
 [(3, hvT), (7, HintT.tidx i.toNat (rDepths_z3 s c plan i)), (11, HintT.tidx i.toNat (rDepths_z4 s c plan i)), (18, hvI (i + 1))] 0 [] []) [7, 8, 9, 10] [(3, KS.cells [] (rowL encSp [{ lo := List.getD (playL s plan (endE false s c)) i.toNat default, hi := List.getD (playL s plan (endE true s c)) i.toNat default }]))] [] = some ⟨31, 42, rDepths_t1, [], .run, none, rDepths_v1 s c plan (i + 1) ([{ lo := List.getD (playL s plan (endE false s c)) i.toNat default, hi := List.getD (playL s plan (endE true s c)) i.toNat default }]) (1), rDepths_o1 s c plan (i + 1) ([{ lo := List.getD (playL s plan (endE false s c)) i.toNat default, hi := List.getD (playL s plan (endE true s c)) i.toNat default }]) (1),
 [CellsM 1 [] (#[Value.int IntKind.i64 (List.getD (playL s plan (endE false s c)) i.toNat default), Value.int IntKind.i64 (List.getD (playL s plan (endE true s c)) i.toNat default)]) (rowL encSp [{ lo := List.getD (playL s plan (endE false s c)) i.toNat default, hi := List.getD (playL s plan (endE true s c)) i.toNat default }]), wq (i + 1) = i + 1, i = (↑i.toNat : Int) ∧ Int.toNat i < List.length (playL s plan (endE true s c)) ∧ Array.extract (rowL encI (playL s plan (endE true s c))) (Int.toNat i * TypeInfo.size Try.t3) (Int.toNat i * TypeInfo.size Try.t3 + TypeInfo.size Try.t3) = (rDepths_z4 s c plan i), i = (↑i.toNat : Int) ∧ Int.toNat i < List.length (playL s plan (endE false s c)) ∧ Array.extract (rowL encI (playL s plan (endE false s c))) (Int.toNat i * TypeInfo.size Try.t3) (Int.toNat i * TypeInfo.size Try.t3 + TypeInfo.size Try.t3) = (rDepths_z3 s c plan i), ltq i (↑(List.length (playL s plan (endE false s c))) : Int) = true]⟩ := by kernel_rfl
theorem rDepths_s1 (B : Lo) (s : WShore) (c : WStorm) (plan : List Int) (i : Int) (dJ0 : Nat → Value) : endT (srunT Try.prog (okFn Try.prog) J0 B 9 1 (headC 31 42 (([7, 8, 9, 10] : List Nat).zip (rDepths_v0 s c plan i)) dJ0 rDepths_t0) (headH (rDepths_o0 s c plan i)) (2 + (rDepths_o0 s c plan i).length)
 [(3, hvF)] 0 [] []) [] = some (slT 0 #[],
 [ltq i (↑(List.length (playL s plan (endE false s c))) : Int) = false]) := by kernel_rfl
theorem rDepths_s2 (B : Lo) (s : WShore) (c : WStorm) (plan : List Int) (i : Int) (out : List Span) (out_n : Nat) (dJ0 : Nat → Value) : landM (srunT Try.prog (okFn Try.prog) J0 B 11 1 (headC 31 42 (([7, 8, 9, 10] : List Nat).zip (rDepths_v1 s c plan i out out_n)) dJ0 rDepths_t1) (headH (rDepths_o1 s c plan i out out_n)) (2 + (rDepths_o1 s c plan i out out_n).length)
 [(3, hvT), (7, HintT.tidx i.toNat (rDepths_z3 s c plan i)), (11, HintT.tidx i.toNat (rDepths_z4 s c plan i)), (15, HintT.old (Hint.app (rowL encSp (out ++ [{ lo := List.getD (playL s plan (endE false s c)) i.toNat default, hi := List.getD (playL s plan (endE true s c)) i.toNat default }])))), (18, hvI (i + 1))] 0 [] []) [7, 8, 9, 10] [(4, KS.cells [] (rowL encSp (out ++ [{ lo := List.getD (playL s plan (endE false s c)) i.toNat default, hi := List.getD (playL s plan (endE true s c)) i.toNat default }])))] [] = some ⟨31, 42, rDepths_t1, [], .run, none, rDepths_v1 s c plan (i + 1) (out ++ [{ lo := List.getD (playL s plan (endE false s c)) i.toNat default, hi := List.getD (playL s plan (endE true s c)) i.toNat default }]) (out_n + 1), rDepths_o1 s c plan (i + 1) (out ++ [{ lo := List.getD (playL s plan (endE false s c)) i.toNat default, hi := List.getD (playL s plan (endE true s c)) i.toNat default }]) (out_n + 1),
 [CellsM 1 [] (rowL encSp (out ++ [{ lo := List.getD (playL s plan (endE false s c)) i.toNat default, hi := List.getD (playL s plan (endE true s c)) i.toNat default }])) (rowL encSp (out ++ [{ lo := List.getD (playL s plan (endE false s c)) i.toNat default, hi := List.getD (playL s plan (endE true s c)) i.toNat default }])), wq (i + 1) = i + 1, Array.size (rowL encSp out) = out_n * (1 + 1) ∧ out_n + 1 ≤ maxLen ∧ (out_n + 1) * 16 ≤ 140737488355328 ∧ rowL encSp out ++ #[Value.int IntKind.i64 (List.getD (playL s plan (endE false s c)) i.toNat default), Value.int IntKind.i64 (List.getD (playL s plan (endE true s c)) i.toNat default)] = rowL encSp (out ++ [{ lo := List.getD (playL s plan (endE false s c)) i.toNat default, hi := List.getD (playL s plan (endE true s c)) i.toNat default }]), i = (↑i.toNat : Int) ∧ Int.toNat i < List.length (playL s plan (endE true s c)) ∧ Array.extract (rowL encI (playL s plan (endE true s c))) (Int.toNat i * TypeInfo.size Try.t3) (Int.toNat i * TypeInfo.size Try.t3 + TypeInfo.size Try.t3) = (rDepths_z4 s c plan i), i = (↑i.toNat : Int) ∧ Int.toNat i < List.length (playL s plan (endE false s c)) ∧ Array.extract (rowL encI (playL s plan (endE false s c))) (Int.toNat i * TypeInfo.size Try.t3) (Int.toNat i * TypeInfo.size Try.t3 + TypeInfo.size Try.t3) = (rDepths_z3 s c plan i), ltq i (↑(List.length (playL s plan (endE false s c))) : Int) = true]⟩ := by kernel_rfl
theorem rDepths_s3 (B : Lo) (s : WShore) (c : WStorm) (plan : List Int) (i : Int) (out : List Span) (out_n : Nat) (dJ0 : Nat → Value) : endT (srunT Try.prog (okFn Try.prog) J0 B 9 1 (headC 31 42 (([7, 8, 9, 10] : List Nat).zip (rDepths_v1 s c plan i out out_n)) dJ0 rDepths_t1) (headH (rDepths_o1 s c plan i out out_n)) (2 + (rDepths_o1 s c plan i out out_n).length)
 [(3, hvF)] 0 [] []) [{ k := 2, rs := [], cs := rowL encSp out }] = some (slT out_n (Fz.cs { k := 2, rs := [], cs := rowL encSp out }),
 [CellsT (Fz.rs { k := 2, rs := [], cs := rowL encSp out }) (rowL encSp out) (Fz.cs { k := 2, rs := [], cs := rowL encSp out }), ltq i (↑(List.length (playL s plan (endE false s c))) : Int) = false]) := by kernel_rfl
theorem rDepths_s4 (B : Lo) (s : WShore) (c : WStorm) (plan : List Int) : landM (srunT Try.prog (okFn Try.prog) J0 B 11 1 (entryC Try.prog 31 42 (([.agg (encShore s).toArray, .agg (encStorm c).toArray, slI plan]).map (pushT 0 4))) H00 1
 [(7, HintT.pure (Value.agg (rDepths_z0 s c)) []), (8, HintT.pure (slT (List.length (playL s plan (endE false s c))) (rowL encI (playL s plan (endE false s c)))) []), (13, HintT.pure (Value.agg (rDepths_z1 s c)) []), (14, HintT.pure (slT (List.length (playL s plan (endE true s c))) (rowL encI (playL s plan (endE true s c)))) [])] 0 [] []) [7, 8, 9, 10] [] [] = some ⟨31, 42, rDepths_t0, [], .run, none, rDepths_v0 s c plan (0), rDepths_o0 s c plan (0),
 [AllP [] ∧ PureC Try.prog J0 28 #[Value.agg (rDepths_z2 s), slT plan.length (rowL encI plan), Value.agg (rDepths_z1 s c)] (slT (List.length (playL s plan (endE true s c))) (rowL encI (playL s plan (endE true s c)))), AllP [] ∧ PureC Try.prog J0 23 #[Value.agg (rDepths_z2 s), Value.agg #[Value.int IntKind.i64 c.wlo, Value.int IntKind.i64 c.whi, Value.int IntKind.i64 c.flo, Value.int IntKind.i64 c.fhi, Value.int IntKind.i64 c.tlo, Value.int IntKind.i64 c.thi], Value.bool true] (Value.agg (rDepths_z1 s c)), AllP [] ∧ PureC Try.prog J0 28 #[Value.agg (rDepths_z2 s), slT plan.length (rowL encI plan), Value.agg (rDepths_z0 s c)] (slT (List.length (playL s plan (endE false s c))) (rowL encI (playL s plan (endE false s c)))), AllP [] ∧ PureC Try.prog J0 23 #[Value.agg (rDepths_z2 s), Value.agg #[Value.int IntKind.i64 c.wlo, Value.int IntKind.i64 c.whi, Value.int IntKind.i64 c.flo, Value.int IntKind.i64 c.fhi, Value.int IntKind.i64 c.tlo, Value.int IntKind.i64 c.thi], Value.bool false] (Value.agg (rDepths_z0 s c))]⟩ := by kernel_rfl
set_option maxHeartbeats 4000000 in
theorem rDepths_ls (s : WShore) (c : WStorm) (plan : List Int) (hs : shoreB s = true) (hc : stormB c = true) (hp : planB s plan = true) {B : Lo} (hJ : ∀ w, B.has w → J0 w) {c0 : CF} : ∀ m : Nat, (∀ (i : Int), s.cells.length - i.toNat = m → ∀ (h0 : 0 ≤ i), rDepths_h0 B c0 s c plan i → EndsT Try.prog B c0 (slSp (([] : List Span) ++ zipS ((playL s plan (endE false s c)).drop i.toNat) ((playL s plan (endE true s c)).drop i.toNat)))) ∧ (∀ (i : Int) (out : List Span) (out_n : Nat), s.cells.length - i.toNat = m → ∀ (h0 : 0 ≤ i) (hout : out_n = out.length) (houtb : (out_n : Int) ≤ i), rDepths_h1 B c0 s c plan i out out_n → EndsT Try.prog B c0 (slSp (out ++ zipS ((playL s plan (endE false s c)).drop i.toNat) ((playL s plan (endE true s c)).drop i.toNat)))) := by
 intro m0
 induction m0 using Nat.strongRecOn with
 | _ m0 ih0 =>
   refine ⟨?_, ?_⟩
   ·intro i hm0 h0 ⟨dJ0, hdJ0, hg0⟩
    have h1 := shore_facts hs
    have h2 := tOk_end (b := false) hs hc
    have h3 := tOk_end (b := true) hs hc
    have hl1 := playL_len (s := s) (plan := plan) (t := endE false s c)
    have hl2 := playL_len (s := s) (plan := plan) (t := endE true s c)
    have hl1 := playL_len (s := s) (plan := plan) (t := endE false s c)
    have hl2 := playL_len (s := s) (plan := plan) (t := endE true s c)
    have hsf := shore_facts hs
    by_cases q0 : (i : Int) < ((↑(List.length (playL s plan (endE false s c))) : Int))
    ·
     have e1 := drop_cons (xs := playL s plan (endE false s c)) (i := i) h0 (by omega)
     have e2 := drop_cons (xs := playL s plan (endE true s c)) (i := i) h0 (by omega)
     exact ((ih0 _ (by omega)).2 (i + 1) ([{ lo := List.getD (playL s plan (endE false s c)) i.toNat default, hi := List.getD (playL s plan (endE true s c)) i.toNat default }]) (1) rfl (by omega) (by (simp_all; done)) (by omega)
      (hg0.landM okF hJ mixed_ok (rDepths_s0 B s c plan i dJ0)
      (by exact ⟨(cellsM_lit (by kernel_rfl)), ⟨(wq_in (by omega) (by omega)), ⟨⟨by omega, by omega, (rowL_extract (z := 1) (fun _ => rfl) (by omega))⟩, ⟨⟨by omega, by omega, (rowL_extract (z := 1) (fun _ => rfl) (by omega))⟩, ⟨(ltq_t q0), trivial⟩⟩⟩⟩⟩) (by kernel_rfl) (by kernel_rfl))).cast (by (rw [e1, e2]; rfl))
    ·
     have e1 := drop_end (xs := playL s plan (endE false s c)) (i := i) (by omega)
     have e2 := drop_end (xs := playL s plan (endE true s c)) (i := i) (by omega)
     exact (GoE.endsT okF hJ mixed_ok hg0 (rDepths_s1 B s c plan i dJ0)
      ⟨(ltq_f (Int.not_lt.1 q0)), trivial⟩).cast (by (rw [e1, e2]; rfl))
   ·intro i out out_n hm0 h0 hout houtb ⟨dJ0, hdJ0, hg0⟩
    have h1 := shore_facts hs
    have h2 := tOk_end (b := false) hs hc
    have h3 := tOk_end (b := true) hs hc
    have hl1 := playL_len (s := s) (plan := plan) (t := endE false s c)
    have hl2 := playL_len (s := s) (plan := plan) (t := endE true s c)
    have hl1 := playL_len (s := s) (plan := plan) (t := endE false s c)
    have hl2 := playL_len (s := s) (plan := plan) (t := endE true s c)
    have hsf := shore_facts hs
    by_cases q0 : (i : Int) < ((↑(List.length (playL s plan (endE false s c))) : Int))
    ·
     have e1 := drop_cons (xs := playL s plan (endE false s c)) (i := i) h0 (by omega)
     have e2 := drop_cons (xs := playL s plan (endE true s c)) (i := i) h0 (by omega)
     exact ((ih0 _ (by omega)).2 (i + 1) (out ++ [{ lo := List.getD (playL s plan (endE false s c)) i.toNat default, hi := List.getD (playL s plan (endE true s c)) i.toNat default }]) (out_n + 1) rfl (by omega) (by (simp_all; done)) (by omega)
      (hg0.landM okF hJ mixed_ok (rDepths_s2 B s c plan i out out_n dJ0)
      (by exact ⟨(cellsM_simple (rowL_simple (fun x => List.all_eq_true.1 (by rfl)))), ⟨(wq_in (by omega) (by omega)), ⟨⟨(by (rw [rowL_size (z := 2) (fun _ => rfl)]; first | omega | (simp; omega) | (simp_all; done))), (by unfold maxLen; omega), by omega, by first | exact rowL_push | exact rowL_pushC rfl⟩, ⟨⟨by omega, by omega, (rowL_extract (z := 1) (fun _ => rfl) (by omega))⟩, ⟨⟨by omega, by omega, (rowL_extract (z := 1) (fun _ => rfl) (by omega))⟩, ⟨(ltq_t q0), trivial⟩⟩⟩⟩⟩⟩) (by kernel_rfl) (by kernel_rfl))).cast (by (rw [e1, e2]; simp [zipS]; done))
    ·
     have e1 := drop_end (xs := playL s plan (endE false s c)) (i := i) (by omega)
     have e2 := drop_end (xs := playL s plan (endE true s c)) (i := i) (by omega)
     exact (GoE.endsT okF hJ mixed_ok hg0 (rDepths_s3 B s c plan i out out_n dJ0)
      ⟨(rowL_cellsT (fun x => List.all_eq_true.1 (by rfl))), ⟨(ltq_f (Int.not_lt.1 q0)), trivial⟩⟩).cast (by (rw [e1]; simp [zipS, hout]; done))
set_option maxHeartbeats 4000000 in
theorem rDepths_e (s : WShore) (c : WStorm) (plan : List Int) (hs : shoreB s = true) (hc : stormB c = true) (hp : planB s plan = true) {B : Lo} (hJ : ∀ w, B.has w → J0 w) : EndsT Try.prog B (entryC Try.prog 31 42 (([.agg (encShore s).toArray, .agg (encStorm c).toArray, slI plan]).map (pushT 0 4))) (slSp (zipS (playL s plan (endE false s c)) (playL s plan (endE true s c)))) := by
 have h1 := shore_facts hs
 have h2 := tOk_end (b := false) hs hc
 have h3 := tOk_end (b := true) hs hc
 have hl1 := playL_len (s := s) (plan := plan) (t := endE false s c)
 have hl2 := playL_len (s := s) (plan := plan) (t := endE true s c)
 exact ((rDepths_ls s c plan hs hc hp hJ _).1 (0) rfl (by omega)
  (GoE.start.landM okF hJ mixed_ok (rDepths_s4 B s c plan)
  ⟨⟨trivial, rPlay (s) (plan) (endE true s c) (by with_reducible assumption) (by with_reducible assumption) (by with_reducible assumption)⟩, ⟨⟨trivial, rEndT (s) (c) (by omega)⟩, ⟨⟨trivial, rPlay (s) (plan) (endE false s c) (by with_reducible assumption) (by with_reducible assumption) (by with_reducible assumption)⟩, ⟨⟨trivial, rEndF (s) (c) (by omega)⟩, trivial⟩⟩⟩⟩ (by kernel_rfl) (by kernel_rfl))).cast (by rfl)
theorem zipS_lo {us vs : List Int} (h : us.length = vs.length) {i : Int} (h0 : 0 ≤ i) (hk : i < us.length) : ((zipS us vs).getD i.toNat default).lo = us.getD i.toNat default := by rw [zipS_get h (by omega)]
theorem zipS_hi {us vs : List Int} (h : us.length = vs.length) {i : Int} (h0 : 0 ≤ i) (hk : i < us.length) : ((zipS us vs).getD i.toNat default).hi = vs.getD i.toNat default := by rw [zipS_get h (by omega)]
def wSharp_v0 (s : WShore) (c : WStorm) (plan : List Int) (i : Int) : List Value := [topV 1 (slT (List.length (zipS (playL s plan (endE false s c)) (playL s plan (endE true s c)))) (rowL encSp (zipS (playL s plan (endE false s c)) (playL s plan (endE true s c))))), topV 1 (slT (List.length (playL s plan (endE false s c))) (rowL encI (playL s plan (endE false s c)))), topV 1 (slT (List.length (playL s plan (endE true s c))) (rowL encI (playL s plan (endE true s c)))), .int .i64 i]
def wSharp_o0 (s : WShore) (c : WStorm) (plan : List Int) (i : Int) : List Obj := []
noncomputable def wSharp_t0 : List Item := ([.code [1, 1, 1, 1, 1, 1, 1, 1, 0, 1, 0, 0], .inLoop [1, 1, 1, 1, 1, 1, 1, 1, 0, 1, 0, 0], .inBlock 0, .code [1, 1, 1, 1, 1, 1, 1, 1, 1]]).map (it (bodyOf Try.prog 7))
def wSharp_h0 (B : Lo) (c0 : CF) (s : WShore) (c : WStorm) (plan : List Int) (i : Int) : Prop := ∃ dJ : Nat → Value, (∀ t, Loose (dJ t)) ∧ GoE Try.prog B c0 H00 1 (headC 7 133 (([9, 11, 13, 15] : List Nat).zip (wSharp_v0 s c plan i)) dJ wSharp_t0) (headH (wSharp_o0 s c plan i)) (2 + (wSharp_o0 s c plan i).length) []
noncomputable def wSharp_z0 (s : WShore) (c : WStorm) (plan : List Int) : Array Value := #[Value.agg #[slT s.cells.length (rowL encWCell s.cells), slT s.works.length (rowL encWWork s.works), Value.int IntKind.i64 s.reef, Value.int IntKind.i64 s.llo, Value.int IntKind.i64 s.lhi], Value.agg #[Value.int IntKind.i64 c.wlo, Value.int IntKind.i64 c.whi, Value.int IntKind.i64 c.flo, Value.int IntKind.i64 c.fhi, Value.int IntKind.i64 c.tlo, Value.int IntKind.i64 c.thi], slT plan.length (rowL encI plan)]
noncomputable def wSharp_z1 (s : WShore) (c : WStorm) : Array Value := #[Value.int IntKind.i64 (WTruth.wind (endE false s c)), Value.int IntKind.i64 (WTruth.fetch (endE false s c)), Value.int IntKind.i64 (WTruth.tide (endE false s c)), Value.int IntKind.i64 (WTruth.loss (endE false s c)), slT (List.length (WTruth.drags (endE false s c))) (rowL encI (WTruth.drags (endE false s c)))]
noncomputable def wSharp_z2 (s : WShore) (c : WStorm) : Array Value := #[Value.int IntKind.i64 (WTruth.wind (endE true s c)), Value.int IntKind.i64 (WTruth.fetch (endE true s c)), Value.int IntKind.i64 (WTruth.tide (endE true s c)), Value.int IntKind.i64 (WTruth.loss (endE true s c)), slT (List.length (WTruth.drags (endE true s c))) (rowL encI (WTruth.drags (endE true s c)))]
noncomputable def wSharp_z3 (s : WShore) : Array Value := #[Value.agg #[slT s.cells.length (rowL encWCell s.cells), slT s.works.length (rowL encWWork s.works), Value.int IntKind.i64 s.reef, Value.int IntKind.i64 s.llo, Value.int IntKind.i64 s.lhi]]
noncomputable def wSharp_z4 (s : WShore) : Array Value := #[slT s.cells.length (rowL encWCell s.cells), slT s.works.length (rowL encWWork s.works), Value.int IntKind.i64 s.reef, Value.int IntKind.i64 s.llo, Value.int IntKind.i64 s.lhi]
noncomputable def wSharp_z5 (c : WStorm) : Array Value := #[Value.int IntKind.i64 c.wlo, Value.int IntKind.i64 c.whi, Value.int IntKind.i64 c.flo, Value.int IntKind.i64 c.fhi, Value.int IntKind.i64 c.tlo, Value.int IntKind.i64 c.thi]
noncomputable def wSharp_z6 (s : WShore) (c : WStorm) (plan : List Int) : Value := (Value.tuple #[slT (List.length (playL s plan (endE true s c))) (rowL encI (playL s plan (endE true s c))), Value.int IntKind.i64 0])
noncomputable def wSharp_p0 (B : Lo) (s : WShore) (c : WStorm) (plan : List Int) (i : Int) (dJ0 : Nat → Value) : List Prop := [i = (↑i.toNat : Int) ∧ Int.toNat i < List.length (playL s plan (endE true s c)) ∧ Array.extract (rowL encI (playL s plan (endE true s c))) (Int.toNat i * TypeInfo.size Try.t3) (Int.toNat i * TypeInfo.size Try.t3 + TypeInfo.size Try.t3) = #[Value.int IntKind.i64 (List.getD (playL s plan (endE true s c)) i.toNat default)], i = (↑i.toNat : Int) ∧ Int.toNat i < List.length (playL s plan (endE false s c)) ∧ Array.extract (rowL encI (playL s plan (endE false s c))) (Int.toNat i * TypeInfo.size Try.t3) (Int.toNat i * TypeInfo.size Try.t3 + TypeInfo.size Try.t3) = #[Value.int IntKind.i64 (List.getD (playL s plan (endE false s c)) i.toNat default)], i = (↑i.toNat : Int) ∧ Int.toNat i < List.length (zipS (playL s plan (endE false s c)) (playL s plan (endE true s c))) ∧ Array.extract (rowL encSp (zipS (playL s plan (endE false s c)) (playL s plan (endE true s c)))) (Int.toNat i * TypeInfo.size Try.t25) (Int.toNat i * TypeInfo.size Try.t25 + TypeInfo.size Try.t25) = #[Value.int IntKind.i64 (Span.lo (List.getD (zipS (playL s plan (endE false s c)) (playL s plan (endE true s c))) i.toNat default)), Value.int IntKind.i64 (Span.hi (List.getD (zipS (playL s plan (endE false s c)) (playL s plan (endE true s c))) i.toNat default))], ltq i (↑(List.length (zipS (playL s plan (endE false s c)) (playL s plan (endE true s c)))) : Int) = true] ++ ([] : List Prop)
noncomputable def wSharp_q0 (s : WShore) (c : WStorm) (plan : List Int) (i : Int) (dJ0 : Nat → Value) : ScriptT := [(3, hvT), (6, HintT.tidx i.toNat #[Value.int IntKind.i64 (Span.lo (List.getD (zipS (playL s plan (endE false s c)) (playL s plan (endE true s c))) i.toNat default)), Value.int IntKind.i64 (Span.hi (List.getD (zipS (playL s plan (endE false s c)) (playL s plan (endE true s c))) i.toNat default))]), (10, HintT.tidx i.toNat #[Value.int IntKind.i64 (List.getD (playL s plan (endE false s c)) i.toNat default)]), (14, HintT.tidx i.toNat #[Value.int IntKind.i64 (List.getD (playL s plan (endE true s c)) i.toNat default)])]
theorem wSharp_s0 (B : Lo) (s : WShore) (c : WStorm) (plan : List Int) (i : Int) (dJ0 : Nat → Value) : landM (srunT Try.prog (okFn Try.prog) J0 B 14 1 (headC 7 133 (([9, 11, 13, 15] : List Nat).zip (wSharp_v0 s c plan i)) dJ0 wSharp_t0) (headH (wSharp_o0 s c plan i)) (2 + (wSharp_o0 s c plan i).length)
 (wSharp_q0 s c plan i dJ0 ++ [(17, HintT.old (Hint.eq false)), (19, hvI (i + 1))]) 0 [] []) [9, 11, 13, 15] [] [] = some ⟨7, 133, wSharp_t0, [], .run, none, wSharp_v0 s c plan (i + 1), wSharp_o0 s c plan (i + 1),
 [wq (i + 1) = i + 1, (!(eqq (Span.lo (List.getD (zipS (playL s plan (endE false s c)) (playL s plan (endE true s c))) i.toNat default)) (List.getD (playL s plan (endE false s c)) i.toNat default) && (eqq (Span.hi (List.getD (zipS (playL s plan (endE false s c)) (playL s plan (endE true s c))) i.toNat default)) (List.getD (playL s plan (endE true s c)) i.toNat default) && true))) = false] ++ wSharp_p0 B s c plan i dJ0⟩ := by kernel_rfl
theorem wSharp_s1 (B : Lo) (s : WShore) (c : WStorm) (plan : List Int) (i : Int) (dJ0 : Nat → Value) : endT (srunT Try.prog (okFn Try.prog) J0 B 14 1 (headC 7 133 (([9, 11, 13, 15] : List Nat).zip (wSharp_v0 s c plan i)) dJ0 wSharp_t0) (headH (wSharp_o0 s c plan i)) (2 + (wSharp_o0 s c plan i).length)
 (wSharp_q0 s c plan i dJ0 ++ [(17, HintT.old (Hint.eq true))]) 0 [] []) [] = some (Value.bool false,
 [(!(eqq (Span.lo (List.getD (zipS (playL s plan (endE false s c)) (playL s plan (endE true s c))) i.toNat default)) (List.getD (playL s plan (endE false s c)) i.toNat default) && (eqq (Span.hi (List.getD (zipS (playL s plan (endE false s c)) (playL s plan (endE true s c))) i.toNat default)) (List.getD (playL s plan (endE true s c)) i.toNat default) && true))) = true] ++ wSharp_p0 B s c plan i dJ0) := by kernel_rfl
theorem wSharp_s2 (B : Lo) (s : WShore) (c : WStorm) (plan : List Int) (i : Int) (dJ0 : Nat → Value) : endT (srunT Try.prog (okFn Try.prog) J0 B 9 1 (headC 7 133 (([9, 11, 13, 15] : List Nat).zip (wSharp_v0 s c plan i)) dJ0 wSharp_t0) (headH (wSharp_o0 s c plan i)) (2 + (wSharp_o0 s c plan i).length)
 [(3, hvF), (4, HintT.pure (Value.bool true) [])] 0 [] []) [] = some (Value.bool true,
 [AllP [] ∧ PureC Try.prog J0 15 #[] (Value.bool true), ltq i (↑(List.length (zipS (playL s plan (endE false s c)) (playL s plan (endE true s c)))) : Int) = false]) := by kernel_rfl
noncomputable def wSharp_p1 (B : Lo) (s : WShore) (c : WStorm) (plan : List Int) : List Prop := [AllP [] ∧ PureC Try.prog J0 14 (wSharp_z3 s) (Value.bool true)] ++ ([] : List Prop)
noncomputable def wSharp_q1 (s : WShore) (c : WStorm) (plan : List Int) : ScriptT := [(4, HintT.pure (Value.bool true) [])]
theorem wSharp_s3 (B : Lo) (s : WShore) (c : WStorm) (plan : List Int) : endT (srunT Try.prog (okFn Try.prog) J0 B 10 1 (entryC Try.prog 7 133 (([.agg (encShore s).toArray, .agg (encStorm c).toArray, slI plan]).map (pushT 0 4))) H00 1
 (wSharp_q1 s c plan ++ [(9, hvT), (18, HintT.pure (Value.bool true) [])]) 0 [] []) [] = some (Value.bool true,
 [AllP [] ∧ PureC Try.prog J0 15 #[] (Value.bool true), ltq 12 (↑plan.length : Int) = true] ++ wSharp_p1 B s c plan) := by kernel_rfl
noncomputable def wSharp_p2 (B : Lo) (s : WShore) (c : WStorm) (plan : List Int) : List Prop := [ltq 12 (↑plan.length : Int) = false] ++ wSharp_p1 B s c plan
noncomputable def wSharp_q2 (s : WShore) (c : WStorm) (plan : List Int) : ScriptT := wSharp_q1 s c plan ++ [(9, hvF)]
noncomputable def wSharp_p3 (B : Lo) (s : WShore) (c : WStorm) (plan : List Int) : List Prop := [AllP [] ∧ PureC Try.prog J0 18 #[Value.agg (wSharp_z4 s), Value.agg (wSharp_z5 c)] (Value.tuple #[Value.agg (wSharp_z2 s c), Value.int IntKind.i64 0]), AllP [] ∧ PureC Try.prog J0 25 (wSharp_z0 s c plan) (Value.bool true)] ++ wSharp_p2 B s c plan
noncomputable def wSharp_q3 (s : WShore) (c : WStorm) (plan : List Int) : ScriptT := wSharp_q2 s c plan ++ [(15, HintT.pure (Value.bool true) []), (20, HintT.pure (Value.tuple #[Value.agg (wSharp_z2 s c), Value.int IntKind.i64 0]) [])]
theorem wSharp_s4 (B : Lo) (s : WShore) (c : WStorm) (plan : List Int) : endT (srunT Try.prog (okFn Try.prog) J0 B 17 1 (entryC Try.prog 7 133 (([.agg (encShore s).toArray, .agg (encStorm c).toArray, slI plan]).map (pushT 0 4))) H00 1
 (wSharp_q3 s c plan ++ [(33, hvT)]) 0 [] []) [] = some (Value.bool false,
 [ltq 12 (↑(List.length (WTruth.drags (endE true s c))) : Int) = true] ++ wSharp_p3 B s c plan) := by kernel_rfl
noncomputable def wSharp_p4 (B : Lo) (s : WShore) (c : WStorm) (plan : List Int) : List Prop := [ltq 12 (↑(List.length (WTruth.drags (endE true s c))) : Int) = false] ++ wSharp_p3 B s c plan
noncomputable def wSharp_q4 (s : WShore) (c : WStorm) (plan : List Int) : ScriptT := wSharp_q3 s c plan ++ [(33, hvF)]
noncomputable def wSharp_p5 (B : Lo) (s : WShore) (c : WStorm) (plan : List Int) : List Prop := [AllP [] ∧ PureC Try.prog J0 23 #[Value.agg (wSharp_z4 s), Value.agg (wSharp_z5 c), Value.bool false] (Value.agg (wSharp_z1 s c)), AllP [] ∧ PureC Try.prog J0 29 (wSharp_z0 s c plan) (Value.tuple #[slT (List.length (zipS (playL s plan (endE false s c)) (playL s plan (endE true s c)))) (rowL encSp (zipS (playL s plan (endE false s c)) (playL s plan (endE true s c)))), Value.int IntKind.i64 0]), AllP [] ∧ PureC Try.prog J0 26 #[Value.agg (wSharp_z4 s), Value.agg (wSharp_z5 c), Value.agg (wSharp_z2 s c)] (Value.bool true)] ++ wSharp_p4 B s c plan
noncomputable def wSharp_q5 (s : WShore) (c : WStorm) (plan : List Int) : ScriptT := wSharp_q4 s c plan ++ [(39, HintT.pure (Value.bool true) []), (45, HintT.pure (Value.tuple #[slT (List.length (zipS (playL s plan (endE false s c)) (playL s plan (endE true s c)))) (rowL encSp (zipS (playL s plan (endE false s c)) (playL s plan (endE true s c)))), Value.int IntKind.i64 0]) []), (56, HintT.pure (Value.agg (wSharp_z1 s c)) [])]
noncomputable def wSharp_p6 (B : Lo) (s : WShore) (c : WStorm) (plan : List Int) : List Prop := [AllP [] ∧ PureC Try.prog J0 24 #[Value.agg (wSharp_z4 s), Value.agg (wSharp_z5 c), slT plan.length (rowL encI plan), Value.agg (wSharp_z2 s c)] (wSharp_z6 s c plan), AllP [] ∧ PureC Try.prog J0 24 #[Value.agg (wSharp_z4 s), Value.agg (wSharp_z5 c), slT plan.length (rowL encI plan), Value.agg (wSharp_z1 s c)] (Value.tuple #[slT (List.length (playL s plan (endE false s c))) (rowL encI (playL s plan (endE false s c))), Value.int IntKind.i64 0])] ++ wSharp_p5 B s c plan
noncomputable def wSharp_q6 (s : WShore) (c : WStorm) (plan : List Int) : ScriptT := wSharp_q5 s c plan ++ [(57, HintT.pure (Value.tuple #[slT (List.length (playL s plan (endE false s c))) (rowL encI (playL s plan (endE false s c))), Value.int IntKind.i64 0]) []), (67, HintT.pure (wSharp_z6 s c plan) [])]
theorem wSharp_s5 (B : Lo) (s : WShore) (c : WStorm) (plan : List Int) : endT (srunT Try.prog (okFn Try.prog) J0 B 28 1 (entryC Try.prog 7 133 (([.agg (encShore s).toArray, .agg (encStorm c).toArray, slI plan]).map (pushT 0 4))) H00 1
 (wSharp_q6 s c plan ++ [(89, hvT)]) 0 [] []) [] = some (Value.bool false,
 [(!eqq (↑(List.length (zipS (playL s plan (endE false s c)) (playL s plan (endE true s c)))) : Int) (↑s.cells.length : Int)) = true] ++ wSharp_p6 B s c plan) := by kernel_rfl
noncomputable def wSharp_p7 (B : Lo) (s : WShore) (c : WStorm) (plan : List Int) : List Prop := [(!eqq (↑(List.length (zipS (playL s plan (endE false s c)) (playL s plan (endE true s c)))) : Int) (↑s.cells.length : Int)) = false] ++ wSharp_p6 B s c plan
noncomputable def wSharp_q7 (s : WShore) (c : WStorm) (plan : List Int) : ScriptT := wSharp_q6 s c plan ++ [(89, hvF)]
theorem wSharp_s6 (B : Lo) (s : WShore) (c : WStorm) (plan : List Int) : endT (srunT Try.prog (okFn Try.prog) J0 B 28 1 (entryC Try.prog 7 133 (([.agg (encShore s).toArray, .agg (encStorm c).toArray, slI plan]).map (pushT 0 4))) H00 1
 (wSharp_q7 s c plan ++ [(97, hvT)]) 0 [] []) [] = some (Value.bool false,
 [(!eqq (↑(List.length (playL s plan (endE false s c))) : Int) (↑s.cells.length : Int)) = true] ++ wSharp_p7 B s c plan) := by kernel_rfl
noncomputable def wSharp_p8 (B : Lo) (s : WShore) (c : WStorm) (plan : List Int) : List Prop := [(!eqq (↑(List.length (playL s plan (endE false s c))) : Int) (↑s.cells.length : Int)) = false] ++ wSharp_p7 B s c plan
noncomputable def wSharp_q8 (s : WShore) (c : WStorm) (plan : List Int) : ScriptT := wSharp_q7 s c plan ++ [(97, hvF)]
theorem wSharp_s7 (B : Lo) (s : WShore) (c : WStorm) (plan : List Int) : endT (srunT Try.prog (okFn Try.prog) J0 B 28 1 (entryC Try.prog 7 133 (([.agg (encShore s).toArray, .agg (encStorm c).toArray, slI plan]).map (pushT 0 4))) H00 1
 (wSharp_q8 s c plan ++ [(105, hvT)]) 0 [] []) [] = some (Value.bool false,
 [(!eqq (↑(List.length (playL s plan (endE true s c))) : Int) (↑s.cells.length : Int)) = true] ++ wSharp_p8 B s c plan) := by kernel_rfl
theorem wSharp_s8 (B : Lo) (s : WShore) (c : WStorm) (plan : List Int) : landM (srunT Try.prog (okFn Try.prog) J0 B 30 1 (entryC Try.prog 7 133 (([.agg (encShore s).toArray, .agg (encStorm c).toArray, slI plan]).map (pushT 0 4))) H00 1
 (wSharp_q8 s c plan ++ [(105, hvF)]) 0 [] []) [9, 11, 13, 15] [] [] = some ⟨7, 133, wSharp_t0, [], .run, none, wSharp_v0 s c plan (0), wSharp_o0 s c plan (0),
 [(!eqq (↑(List.length (playL s plan (endE true s c))) : Int) (↑s.cells.length : Int)) = false] ++ wSharp_p8 B s c plan⟩ := by kernel_rfl
theorem wSharp_s9 (B : Lo) (s : WShore) (c : WStorm) (plan : List Int) : endT (srunT Try.prog (okFn Try.prog) J0 B 28 1 (entryC Try.prog 7 133 (([.agg (encShore s).toArray, .agg (encStorm c).toArray, slI plan]).map (pushT 0 4))) H00 1
 (wSharp_q5 s c plan ++ [(57, HintT.pure (Value.tuple #[slT 0 #[], Value.int IntKind.i64 2]) []), (67, HintT.pure (wSharp_z6 s c plan) [])]) 0 [] []) [] = some (Value.bool false,
 [AllP [] ∧ PureC Try.prog J0 24 #[Value.agg (wSharp_z4 s), Value.agg (wSharp_z5 c), slT plan.length (rowL encI plan), Value.agg (wSharp_z2 s c)] (wSharp_z6 s c plan), AllP [] ∧ PureC Try.prog J0 24 #[Value.agg (wSharp_z4 s), Value.agg (wSharp_z5 c), slT plan.length (rowL encI plan), Value.agg (wSharp_z1 s c)] (Value.tuple #[slT 0 #[], Value.int IntKind.i64 2])] ++ wSharp_p5 B s c plan) := by kernel_rfl
theorem wSharp_s10 (B : Lo) (s : WShore) (c : WStorm) (plan : List Int) : endT (srunT Try.prog (okFn Try.prog) J0 B 17 1 (entryC Try.prog 7 133 (([.agg (encShore s).toArray, .agg (encStorm c).toArray, slI plan]).map (pushT 0 4))) H00 1
 (wSharp_q4 s c plan ++ [(39, HintT.pure (Value.bool false) [])]) 0 [] []) [] = some (Value.bool false,
 [AllP [] ∧ PureC Try.prog J0 26 #[Value.agg (wSharp_z4 s), Value.agg (wSharp_z5 c), Value.agg (wSharp_z2 s c)] (Value.bool false)] ++ wSharp_p4 B s c plan) := by kernel_rfl
theorem wSharp_s11 (B : Lo) (s : WShore) (c : WStorm) (plan : List Int) : endT (srunT Try.prog (okFn Try.prog) J0 B 10 1 (entryC Try.prog 7 133 (([.agg (encShore s).toArray, .agg (encStorm c).toArray, slI plan]).map (pushT 0 4))) H00 1
 (wSharp_q2 s c plan ++ [(15, HintT.pure (Value.bool false) []), (18, HintT.pure (Value.bool true) [])]) 0 [] []) [] = some (Value.bool true,
 [AllP [] ∧ PureC Try.prog J0 15 #[] (Value.bool true), AllP [] ∧ PureC Try.prog J0 25 (wSharp_z0 s c plan) (Value.bool false)] ++ wSharp_p2 B s c plan) := by kernel_rfl
theorem wSharp_s12 (B : Lo) (s : WShore) (c : WStorm) (plan : List Int) : endT (srunT Try.prog (okFn Try.prog) J0 B 10 1 (entryC Try.prog 7 133 (([.agg (encShore s).toArray, .agg (encStorm c).toArray, slI plan]).map (pushT 0 4))) H00 1
 (wSharp_q2 s c plan ++ [(15, HintT.pure (Value.bool false) []), (18, HintT.pure (Value.bool true) [])]) 0 [] []) [] = some (Value.bool true,
 [AllP [] ∧ PureC Try.prog J0 15 #[] (Value.bool true), AllP [] ∧ PureC Try.prog J0 25 (wSharp_z0 s c plan) (Value.bool false)] ++ wSharp_p2 B s c plan) := by kernel_rfl
theorem wSharp_s13 (B : Lo) (s : WShore) (c : WStorm) (plan : List Int) : endT (srunT Try.prog (okFn Try.prog) J0 B 10 1 (entryC Try.prog 7 133 (([.agg (encShore s).toArray, .agg (encStorm c).toArray, slI plan]).map (pushT 0 4))) H00 1
 (wSharp_q2 s c plan ++ [(15, HintT.pure (Value.bool false) []), (18, HintT.pure (Value.bool true) [])]) 0 [] []) [] = some (Value.bool true,
 [AllP [] ∧ PureC Try.prog J0 15 #[] (Value.bool true), AllP [] ∧ PureC Try.prog J0 25 (wSharp_z0 s c plan) (Value.bool false)] ++ wSharp_p2 B s c plan) := by kernel_rfl
theorem wSharp_s14 (B : Lo) (s : WShore) (c : WStorm) (plan : List Int) : endT (srunT Try.prog (okFn Try.prog) J0 B 10 1 (entryC Try.prog 7 133 (([.agg (encShore s).toArray, .agg (encStorm c).toArray, slI plan]).map (pushT 0 4))) H00 1
 [(4, HintT.pure (Value.bool false) []), (18, HintT.pure (Value.bool true) [])] 0 [] []) [] = some (Value.bool true,
 [AllP [] ∧ PureC Try.prog J0 15 #[] (Value.bool true), AllP [] ∧ PureC Try.prog J0 14 (wSharp_z3 s) (Value.bool false)]) := by kernel_rfl
theorem wSharp_s15 (B : Lo) (s : WShore) (c : WStorm) (plan : List Int) : endT (srunT Try.prog (okFn Try.prog) J0 B 10 1 (entryC Try.prog 7 133 (([.agg (encShore s).toArray, .agg (encStorm c).toArray, slI plan]).map (pushT 0 4))) H00 1
 [(4, HintT.pure (Value.bool false) []), (18, HintT.pure (Value.bool true) [])] 0 [] []) [] = some (Value.bool true,
 [AllP [] ∧ PureC Try.prog J0 15 #[] (Value.bool true), AllP [] ∧ PureC Try.prog J0 14 (wSharp_z3 s) (Value.bool false)]) := by kernel_rfl
set_option maxHeartbeats 4000000 in
theorem wSharp_ls (s : WShore) (c : WStorm) (plan : List Int)  {B : Lo} (hJ : ∀ w, B.has w → J0 w) {c0 : CF} : ∀ m : Nat, (∀ (i : Int), s.cells.length - i.toNat = m → ∀ (i0 : 0 ≤ i) (hs : shoreB s = true) (hc : stormB c = true) (hp : planB s plan = true), wSharp_h0 B c0 s c plan i → EndsT Try.prog B c0 (.bool true)) := by
 intro m0
 induction m0 using Nat.strongRecOn with
 | _ m0 ih0 =>
   intro i hm0 i0 hs hc hp ⟨dJ0, hdJ0, hg0⟩
   have hl1 := playL_len (s := s) (plan := plan) (t := endE false s c)
   have hl2 := playL_len (s := s) (plan := plan) (t := endE true s c)
   have hl3 : (zipS (playL s plan (endE false s c)) (playL s plan (endE true s c))).length = s.cells.length := by rw [zipS_len (by rw [hl1, hl2]), hl1]
   have hl4 : (endE true s c).drags.length = s.cells.length := by simp [endE]
   have hsf := shore_facts hs
   by_cases q0 : (i : Int) < ((↑(List.length (zipS (playL s plan (endE false s c)) (playL s plan (endE true s c)))) : Int))
   ·
    have hp0 : AllP (wSharp_p0 B s c plan i dJ0) := by
     have h1 := shore_facts ‹shoreB s = true›
     have h2 := end_truth (b := true) ‹shoreB s = true› ‹stormB c = true›
     have h3 := end_truth (b := false) ‹shoreB s = true› ‹stormB c = true›
     have g6 := zipS_lo (us := playL s plan (endE false s c)) (vs := playL s plan (endE true s c)) (by rw [hl1, hl2]) i0 (by omega)
     have g7 := zipS_hi (us := playL s plan (endE false s c)) (vs := playL s plan (endE true s c)) (by rw [hl1, hl2]) i0 (by omega)
     exact ⟨⟨by omega, by omega, (rowL_extract (z := 1) (fun _ => rfl) (by omega))⟩, ⟨⟨by omega, by omega, (rowL_extract (z := 1) (fun _ => rfl) (by omega))⟩, ⟨⟨by omega, by omega, (rowL_extract (z := 2) (fun _ => rfl) (by omega))⟩, ⟨(ltq_t q0), trivial⟩⟩⟩⟩
    cases q1 : eqq (Span.lo (List.getD (zipS (playL s plan (endE false s c)) (playL s plan (endE true s c))) i.toNat default)) (List.getD (playL s plan (endE false s c)) i.toNat default) && eqq (Span.hi (List.getD (zipS (playL s plan (endE false s c)) (playL s plan (endE true s c))) i.toNat default)) (List.getD (playL s plan (endE true s c)) i.toNat default) with
    | true =>
      have h1 := shore_facts ‹shoreB s = true›
      have h2 := end_truth (b := true) ‹shoreB s = true› ‹stormB c = true›
      have h3 := end_truth (b := false) ‹shoreB s = true› ‹stormB c = true›
      have g6 := zipS_lo (us := playL s plan (endE false s c)) (vs := playL s plan (endE true s c)) (by rw [hl1, hl2]) i0 (by omega)
      have g7 := zipS_hi (us := playL s plan (endE false s c)) (vs := playL s plan (endE true s c)) (by rw [hl1, hl2]) i0 (by omega)
      exact ((ih0 _ (by omega)) (i + 1) rfl (by omega) (by with_reducible assumption) (by with_reducible assumption) (by with_reducible assumption)
       (hg0.landM okF hJ mixed_ok (wSharp_s0 B s c plan i dJ0)
       ⟨(wq_in (by omega) (by omega)), ⟨(by (rw [Bool.and_true, q1]; rfl)), hp0⟩⟩ (by kernel_rfl) (by kernel_rfl))).cast (by rfl)
    | false =>
      have h1 := shore_facts ‹shoreB s = true›
      have h2 := end_truth (b := true) ‹shoreB s = true› ‹stormB c = true›
      have h3 := end_truth (b := false) ‹shoreB s = true› ‹stormB c = true›
      have g6 := zipS_lo (us := playL s plan (endE false s c)) (vs := playL s plan (endE true s c)) (by rw [hl1, hl2]) i0 (by omega)
      have g7 := zipS_hi (us := playL s plan (endE false s c)) (vs := playL s plan (endE true s c)) (by rw [hl1, hl2]) i0 (by omega)
      exact (GoE.endsT okF hJ mixed_ok hg0 (wSharp_s1 B s c plan i dJ0)
       ⟨(by (rw [Bool.and_true, q1]; rfl)), hp0⟩).cast (by (exfalso; simp_all [eqq_eq]; done))
   ·
    exact (GoE.endsT okF hJ mixed_ok hg0 (wSharp_s2 B s c plan i dJ0)
     ⟨⟨trivial, known⟩, ⟨(ltq_f (Int.not_lt.1 q0)), trivial⟩⟩).cast rfl
set_option maxHeartbeats 4000000 in
theorem wSharp_e (s : WShore) (c : WStorm) (plan : List Int)  {B : Lo} (hJ : ∀ w, B.has w → J0 w) : EndsT Try.prog B (entryC Try.prog 7 133 (([.agg (encShore s).toArray, .agg (encStorm c).toArray, slI plan]).map (pushT 0 4))) (.bool true) := by
 have hl1 := playL_len (s := s) (plan := plan) (t := endE false s c)
 have hl2 := playL_len (s := s) (plan := plan) (t := endE true s c)
 have hl3 : (zipS (playL s plan (endE false s c)) (playL s plan (endE true s c))).length = s.cells.length := by rw [zipS_len (by rw [hl1, hl2]), hl1]
 have hl4 : (endE true s c).drags.length = s.cells.length := by simp [endE]
 cases q0 : decide (List.length s.cells ≤ 12) with
 | true =>
   cases q1 : decide (List.length s.works ≤ 8) with
   | true =>
     have hp1 : AllP (wSharp_p1 B s c plan) := by
      exact ⟨⟨trivial, (by have t_ := lshort (s); rw [q0, q1] at t_; exact t_)⟩, trivial⟩
     by_cases q2 : (12 : Int) < ((↑plan.length : Int))
     ·
      exact (GoE.endsT okF hJ mixed_ok GoE.start (wSharp_s3 B s c plan)
       ⟨⟨trivial, known⟩, ⟨(ltq_t q2), hp1⟩⟩).cast rfl
     ·
      have hp2 : AllP (wSharp_p2 B s c plan) := by
       exact ⟨(ltq_f (Int.not_lt.1 q2)), hp1⟩
      cases q3 : shoreB s with
      | true =>
        cases q4 : stormB c with
        | true =>
          cases q5 : planB s plan with
          | true =>
            have hp3 : AllP (wSharp_p3 B s c plan) := by
             have h1 := shore_facts ‹shoreB s = true›
             have h2 := end_truth (b := true) ‹shoreB s = true› ‹stormB c = true›
             have h3 := end_truth (b := false) ‹shoreB s = true› ‹stormB c = true›
             exact ⟨⟨trivial, (by have t_ := pWorst (s) (c); rw [q3, q4] at t_; exact t_)⟩, ⟨⟨trivial, (by have t_ := lbuilt (s) (c) (plan); rw [q3, q4, q5] at t_; exact t_)⟩, hp2⟩⟩
            by_cases q6 : (12 : Int) < ((↑(List.length (WTruth.drags (endE true s c))) : Int))
            ·
             have h1 := shore_facts ‹shoreB s = true›
             have h2 := end_truth (b := true) ‹shoreB s = true› ‹stormB c = true›
             have h3 := end_truth (b := false) ‹shoreB s = true› ‹stormB c = true›
             exact (GoE.endsT okF hJ mixed_ok GoE.start (wSharp_s4 B s c plan)
              ⟨(ltq_t q6), hp3⟩).cast (by (exfalso; omega))
            ·
             have hp4 : AllP (wSharp_p4 B s c plan) := by
              exact ⟨(ltq_f (Int.not_lt.1 q6)), hp3⟩
             cases q7 : truthB s c (endE true s c) with
             | true =>
               have hp5 : AllP (wSharp_p5 B s c plan) := by
                have h1 := shore_facts ‹shoreB s = true›
                have h2 := end_truth (b := true) ‹shoreB s = true› ‹stormB c = true›
                have h3 := end_truth (b := false) ‹shoreB s = true› ‹stormB c = true›
                exact ⟨⟨trivial, rEndF (s) (c) (by omega)⟩, ⟨⟨trivial, (by have t_ := pDepths (s) (c) (plan); rw [q3, q4, q5] at t_; exact t_)⟩, ⟨⟨trivial, (by have t_ := rTruth (s) (c) (endE true s c); rw [q7] at t_; exact t_)⟩, hp4⟩⟩⟩
               cases q8 : truthB s c (endE false s c) with
               | true =>
                 have hp6 : AllP (wSharp_p6 B s c plan) := by
                  have h1 := shore_facts ‹shoreB s = true›
                  have h2 := end_truth (b := true) ‹shoreB s = true› ‹stormB c = true›
                  have h3 := end_truth (b := false) ‹shoreB s = true› ‹stormB c = true›
                  exact ⟨⟨trivial, (by have t_ := pPlay (s) (c) (plan) (endE true s c); rw [q3, q4, q5, q7] at t_; exact t_)⟩, ⟨⟨trivial, (by have t_ := pPlay (s) (c) (plan) (endE false s c); rw [q3, q4, q5, q8] at t_; exact t_)⟩, hp5⟩⟩
                 by_cases q9 : ((↑(List.length (zipS (playL s plan (endE false s c)) (playL s plan (endE true s c)))) : Int) : Int) ≠ ((↑s.cells.length : Int))
                 ·
                  have h1 := shore_facts ‹shoreB s = true›
                  have h2 := end_truth (b := true) ‹shoreB s = true› ‹stormB c = true›
                  have h3 := end_truth (b := false) ‹shoreB s = true› ‹stormB c = true›
                  exact (GoE.endsT okF hJ mixed_ok GoE.start (wSharp_s5 B s c plan)
                   ⟨(neqq_t q9), hp6⟩).cast (by (exfalso; omega))
                 ·
                  have hp7 : AllP (wSharp_p7 B s c plan) := by
                   exact ⟨(neqq_f (Decidable.of_not_not q9)), hp6⟩
                  by_cases q10 : ((↑(List.length (playL s plan (endE false s c))) : Int) : Int) ≠ ((↑s.cells.length : Int))
                  ·
                   have h1 := shore_facts ‹shoreB s = true›
                   have h2 := end_truth (b := true) ‹shoreB s = true› ‹stormB c = true›
                   have h3 := end_truth (b := false) ‹shoreB s = true› ‹stormB c = true›
                   exact (GoE.endsT okF hJ mixed_ok GoE.start (wSharp_s6 B s c plan)
                    ⟨(neqq_t q10), hp7⟩).cast (by (exfalso; omega))
                  ·
                   have hp8 : AllP (wSharp_p8 B s c plan) := by
                    exact ⟨(neqq_f (Decidable.of_not_not q10)), hp7⟩
                   by_cases q11 : ((↑(List.length (playL s plan (endE true s c))) : Int) : Int) ≠ ((↑s.cells.length : Int))
                   ·
                    have h1 := shore_facts ‹shoreB s = true›
                    have h2 := end_truth (b := true) ‹shoreB s = true› ‹stormB c = true›
                    have h3 := end_truth (b := false) ‹shoreB s = true› ‹stormB c = true›
                    exact (GoE.endsT okF hJ mixed_ok GoE.start (wSharp_s7 B s c plan)
                     ⟨(neqq_t q11), hp8⟩).cast (by (exfalso; omega))
                   ·
                    have h1 := shore_facts ‹shoreB s = true›
                    have h2 := end_truth (b := true) ‹shoreB s = true› ‹stormB c = true›
                    have h3 := end_truth (b := false) ‹shoreB s = true› ‹stormB c = true›
                    exact ((wSharp_ls s c plan  hJ _) (0) rfl (by omega) (by with_reducible assumption) (by with_reducible assumption) (by with_reducible assumption)
                     (GoE.start.landM okF hJ mixed_ok (wSharp_s8 B s c plan)
                     ⟨(neqq_f (Decidable.of_not_not q11)), hp8⟩ (by kernel_rfl) (by kernel_rfl))).cast (by rfl)
               | false =>
                 have h1 := shore_facts ‹shoreB s = true›
                 have h2 := end_truth (b := true) ‹shoreB s = true› ‹stormB c = true›
                 have h3 := end_truth (b := false) ‹shoreB s = true› ‹stormB c = true›
                 exact (GoE.endsT okF hJ mixed_ok GoE.start (wSharp_s9 B s c plan)
                  ⟨⟨trivial, (by have t_ := pPlay (s) (c) (plan) (endE true s c); rw [q3, q4, q5, q7] at t_; exact t_)⟩, ⟨⟨trivial, (by have t_ := pPlay (s) (c) (plan) (endE false s c); rw [q3, q4, q5, q8] at t_; exact t_)⟩, hp5⟩⟩).cast (by (exfalso; simp_all; done))
             | false =>
               have h1 := shore_facts ‹shoreB s = true›
               have h2 := end_truth (b := true) ‹shoreB s = true› ‹stormB c = true›
               have h3 := end_truth (b := false) ‹shoreB s = true› ‹stormB c = true›
               exact (GoE.endsT okF hJ mixed_ok GoE.start (wSharp_s10 B s c plan)
                ⟨⟨trivial, (by have t_ := rTruth (s) (c) (endE true s c); rw [q7] at t_; exact t_)⟩, hp4⟩).cast (by (exfalso; simp_all; done))
          | false =>
            have h1 := shore_facts ‹shoreB s = true›
            have h2 := end_truth (b := true) ‹shoreB s = true› ‹stormB c = true›
            have h3 := end_truth (b := false) ‹shoreB s = true› ‹stormB c = true›
            exact (GoE.endsT okF hJ mixed_ok GoE.start (wSharp_s11 B s c plan)
             ⟨⟨trivial, known⟩, ⟨⟨trivial, (by have t_ := lbuilt (s) (c) (plan); rw [q3, q4, q5] at t_; exact t_)⟩, hp2⟩⟩).cast rfl
        | false =>
          have h1 := shore_facts ‹shoreB s = true›
          exact (GoE.endsT okF hJ mixed_ok GoE.start (wSharp_s12 B s c plan)
           ⟨⟨trivial, known⟩, ⟨⟨trivial, (by have t_ := lbuilt (s) (c) (plan); rw [q3, q4] at t_; exact t_)⟩, hp2⟩⟩).cast rfl
      | false =>
        exact (GoE.endsT okF hJ mixed_ok GoE.start (wSharp_s13 B s c plan)
         ⟨⟨trivial, known⟩, ⟨⟨trivial, (by have t_ := lbuilt (s) (c) (plan); rw [q3] at t_; exact t_)⟩, hp2⟩⟩).cast rfl
   | false =>
     exact (GoE.endsT okF hJ mixed_ok GoE.start (wSharp_s14 B s c plan)
      ⟨⟨trivial, known⟩, ⟨⟨trivial, (by have t_ := lshort (s); rw [q0, q1] at t_; exact t_)⟩, trivial⟩⟩).cast rfl
 | false =>
   exact (GoE.endsT okF hJ mixed_ok GoE.start (wSharp_s15 B s c plan)
    ⟨⟨trivial, known⟩, ⟨⟨trivial, (by have t_ := lshort (s); rw [q0] at t_; exact t_)⟩, trivial⟩⟩).cast rfl
theorem wSharp (s : WShore) (c : WStorm) (plan : List Int)  : PureC Try.prog J0 7 #[.agg (encShore s).toArray, .agg (encStorm c).toArray, slI plan] (.bool true) :=
 pureC_of (ts := [.agg (encShore s).toArray, .agg (encStorm c).toArray, slI plan]) J0_st (c0 := entryC Try.prog 7 133 (([.agg (encShore s).toArray, .agg (encStorm c).toArray, slI plan]).map (pushT 0 4))) (by kernel_rfl) (by kernel_rfl) fun B hJ => wSharp_e s c plan  hJ
end Go.Proofs.Ytiigkdhaofaijaa

namespace Go.Proofs.Ytiigkdhaofaijaa
open Go Go.CE Go.RowKit
theorem sharp_all : ∀ trs, ArgAll [shShore, shStorm, .slice .int] trs → PureC Try.prog J0 7 trs.toArray (.bool true) := by
 rintro trs ⟨t0, _, rfl, h0, t1, _, rfl, h1, t2, _, rfl, h2, rfl⟩
 obtain ⟨s, rfl⟩ := arg_shore h0
 obtain ⟨c, rfl⟩ := arg_storm h1
 obtain ⟨l, rfl⟩ := arg_ints h2
 exact wSharp s c l
end Go.Proofs.Ytiigkdhaofaijaa

namespace Go.Proofs.Ytiigkdhaofaijaa
open Go Go.CE Go.ChangeShapes Go.WideShapes Go.RowKit
set_option maxRecDepth 100000 in
theorem wallSharp_lifted (os : Os) (started : os.Started) (H : Type) (enc : TypeId × Value → H) :
 ReturnsInHanded {} Try.checked os 7 .any (Rows.wallSharpSpec.pre6 enc Try.prog Try.f7 Rows.wallSharpRow.domain false) (Rows.wallSharpSpec.post enc Try.prog Try.f7 false true false false) := by
 refine returnsInHanded_of_change (C := Try.checked) (show ownKnob Try.prog.godebug = none by kernel_rfl) started (by kernel_rfl) Try.func7
  (ChangeSpec.witness6 (enc := enc) (C := Try.checked) false ⟨#[], #[Sh.zeroA shShore, Sh.zeroA shStorm, Sh.zeroA (.slice .int)], []⟩ 8 (by kernel_rfl) (by kernel_rfl) (by kernel_rfl) (by kernel_rfl)) ?_
 intro W base args ds gs before hval0 hW _ _
 have hval : ∀ (j : Nat) t v, Try.f7.params[j]? = some t → args[j]? = some v → Value.okWide Try.prog W .any base t v := hval0
 have hW' := hW
 obtain ⟨p, q, hA0, hV, rfl, _, _⟩ := hW
 obtain ⟨rfl, rfl⟩ := trodVars_none hV
 have hA1 : DataW.TrodAll enc Try.prog W 0 (fun _ => true) true Try.f7.params.toList args.toList ds p := hA0
 have hlt : ∀ x ∈ p, x.block < W.heap.size := fun x hx => hW'.lt x (by simpa using hx)
 have hch : chkAll Try.prog [shShore, shStorm, (.slice .int)] Try.f7.params.toList = true := by kernel_rfl
 have hrd : (Try.f7.params.toList.all fun t => Try.prog.readableRec t && decide (t < Try.prog.types.size)) = true := by kernel_rfl
 refine (law_call (J := J0) (ss := [shShore, shStorm, (.slice .int)]) trivial hch hA1 (fun j t v h1 h2 => hval j t v (by simpa using h1) h2) sharp_all).mono fun e W' ⟨he, hB⟩ => ?_
 subst he
 have hB2 := trodAll_below (show laidOutB Try.prog = true by kernel_rfl) hB _ _ _ _ hrd hA1 hlt
 have hA : DataW.TrodAll enc Try.prog W 0 (fun _ => true) true Try.f7.params.toList args.toList ds p := hA1
 rw [Try.params7] at hA
 simp only [List.toList_toArray] at hA
 have hA := hA
 obtain ⟨v0, vs0, d0, ds0, p0, q0, _, rfl, _, h0, _⟩ := CE.trodAll_cons hA
 obtain ⟨v1, vs1, d1, ds1, p1, q1, _, rfl, _, h1, _⟩ := CE.trodAll_cons h0
 obtain ⟨v2, vs2, d2, ds2, p2, q2, _, rfl, _, h2, _⟩ := CE.trodAll_cons h1
 obtain ⟨_, rfl, _⟩ := CE.trodAll_nil h2
 exact ⟨_, rfl, _, _, _, [], _, [], hW', trodAll_mk1 (shut_bool Try.underlying4 _), hB2, rfl, hB.frame _, fun h => by cases h⟩
theorem wallSharp_row : Rows.WallSharpSaid :=
 OpenClaim.holds_of_wide 7 Try.f7 rfl rfl rfl rfl rfl rfl rfl ⟨rfl, rfl, rfl, rfl, rfl⟩ rfl rfl rfl rfl rfl (by kernel_rfl) Try.func7 (by kernel_rfl)
  (of_decide_eq_true (by kernel_rfl)) (by unfold Func.isWrapper; first | (rw [if_pos (by decide +kernel)]; kernel_rfl) | (rw [if_neg (by decide +kernel)]; exact ⟨rfl, rfl⟩))
  (fun os started H enc _ => wallSharp_lifted os started H enc)
end Go.Proofs.Ytiigkdhaofaijaa
