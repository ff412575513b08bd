/- Wall: what is as defined. -/
import Derived.Test.YtiigkdhaofaijaaZWU09
set_option linter.all false
namespace Go.Proofs.Ytiigkdhaofaijaa
open Go Go.CE Go.RowKit
set_option maxRecDepth 100000
structure WCell where
 ground : Int
 dlo : Int
 dhi : Int
 floor : Int
deriving Inhabited
structure WWork where
 rise : Int
 calm : Int
 cost : Int
deriving Inhabited
structure WShore where
 cells : List WCell
 works : List WWork
 reef : Int
 llo : Int
 lhi : Int
deriving Inhabited
structure WStorm where
 wlo : Int
 whi : Int
 flo : Int
 fhi : Int
 tlo : Int
 thi : Int
deriving Inhabited
structure WTruth where
 wind : Int
 fetch : Int
 tide : Int
 loss : Int
 drags : List Int
deriving Inhabited
def encWCell (c : WCell) : List Value := [.int .i64 c.ground, .int .i64 c.dlo, .int .i64 c.dhi, .int .i64 c.floor]
def encWWork (c : WWork) : List Value := [.int .i64 c.rise, .int .i64 c.calm, .int .i64 c.cost]
abbrev slC (xs : List WCell) : Value := slT xs.length (rowL encWCell xs)
abbrev slW (xs : List WWork) : Value := slT xs.length (rowL encWWork xs)
def encShore (s : WShore) : List Value := [slC s.cells, slW s.works, .int .i64 s.reef, .int .i64 s.llo, .int .i64 s.lhi]
def encStorm (c : WStorm) : List Value := [.int .i64 c.wlo, .int .i64 c.whi, .int .i64 c.flo, .int .i64 c.fhi, .int .i64 c.tlo, .int .i64 c.thi]
def encStormy (s : WShore) (c : WStorm) : List Value := [slC s.cells, slW s.works, .int .i64 s.reef, .int .i64 s.llo, .int .i64 s.lhi, .int .i64 c.wlo, .int .i64 c.whi, .int .i64 c.flo, .int .i64 c.fhi, .int .i64 c.tlo, .int .i64 c.thi]
def encBuilt (s : WShore) (c : WStorm) (plan : List Int) : List Value := [slC s.cells, slW s.works, .int .i64 s.reef, .int .i64 s.llo, .int .i64 s.lhi, .int .i64 c.wlo, .int .i64 c.whi, .int .i64 c.flo, .int .i64 c.fhi, .int .i64 c.tlo, .int .i64 c.thi, slI plan]
def encTruth (t : WTruth) : List Value := [.int .i64 t.wind, .int .i64 t.fetch, .int .i64 t.tide, .int .i64 t.loss, slI t.drags]
def cellB (c : WCell) : Bool := inB c.ground (-5000) 5000 && (spanB c.dlo c.dhi 0 5000 && inB c.floor (-1) 5000)
def workB (w : WWork) : Bool := inB w.rise 0 5000 && (inB w.calm 0 5000 && inB w.cost 0 1000000)
def cellsB (cs : List WCell) : Bool := inB cs.length 1 7 && cs.all cellB
def worksB (ws : List WWork) : Bool := decide (ws.length ≤ 3) && ws.all workB
def shoreB (s : WShore) : Bool := cellsB s.cells && (worksB s.works && (inB s.reef 0 20 && spanB s.llo s.lhi 0 1000))
def stormB (c : WStorm) : Bool := spanB c.wlo c.whi 0 1000 && (spanB c.flo c.fhi 0 10000 && spanB c.tlo c.thi (-5000) 5000)
def planB (s : WShore) (plan : List Int) : Bool := decide (plan.length = s.cells.length) && plan.all (fun x => inB x (-1) (s.works.length - 1))
def dragsB (ns : List Int) (cs : List WCell) : Bool := decide (ns.length = cs.length) && (upI 0 ns.length).all (fun k => inB (ns.getD k.toNat default) (cs.getD k.toNat default).dlo (cs.getD k.toNat default).dhi)
def truthB (s : WShore) (c : WStorm) (t : WTruth) : Bool := inB t.wind c.wlo c.whi && (inB t.fetch c.flo c.fhi && (inB t.tide c.tlo c.thi && (inB t.loss s.llo s.lhi && dragsB t.drags s.cells)))
def spanOf (c : WCell) : Span := ⟨c.dlo, c.dhi⟩
theorem cell_facts {c : WCell} (h : cellB c = true) : (-5000 ≤ c.ground ∧ c.ground ≤ 5000) ∧ (0 ≤ c.dlo ∧ c.dlo ≤ c.dhi ∧ c.dhi ≤ 5000) ∧ (-1 ≤ c.floor ∧ c.floor ≤ 5000) := by
 simp only [cellB, Bool.and_eq_true, inB_iff, spanB_iff] at h; omega
theorem work_facts {w : WWork} (h : workB w = true) : (0 ≤ w.rise ∧ w.rise ≤ 5000) ∧ (0 ≤ w.calm ∧ w.calm ≤ 5000) ∧ (0 ≤ w.cost ∧ w.cost ≤ 1000000) := by
 simp only [workB, Bool.and_eq_true, inB_iff] at h; omega
theorem shore_facts {s : WShore} (h : shoreB s = true) : (1 ≤ s.cells.length ∧ s.cells.length ≤ 7) ∧ s.works.length ≤ 3 ∧ (0 ≤ s.reef ∧ s.reef ≤ 20) ∧ (0 ≤ s.llo ∧ s.llo ≤ s.lhi ∧ s.lhi ≤ 1000) ∧ (∀ c ∈ s.cells, cellB c = true) ∧ ∀ w ∈ s.works, workB w = true := by
 simp only [shoreB, cellsB, worksB, Bool.and_eq_true, inB_iff, spanB_iff, decide_eq_true_iff, List.all_eq_true] at h
 exact ⟨by omega, h.2.1.1, by omega, by omega, h.1.2, h.2.1.2⟩
theorem storm_facts {c : WStorm} (h : stormB c = true) : (0 ≤ c.wlo ∧ c.wlo ≤ c.whi ∧ c.whi ≤ 1000) ∧ (0 ≤ c.flo ∧ c.flo ≤ c.fhi ∧ c.fhi ≤ 10000) ∧ (-5000 ≤ c.tlo ∧ c.tlo ≤ c.thi ∧ c.thi ≤ 5000) := by
 simp only [stormB, Bool.and_eq_true, spanB_iff] at h; omega
theorem plan_facts {s : WShore} {plan : List Int} (h : planB s plan = true) : plan.length = s.cells.length ∧ ∀ x ∈ plan, -1 ≤ x ∧ x < s.works.length := by
 simp only [planB, Bool.and_eq_true, decide_eq_true_iff, List.all_eq_true, inB_iff] at h
 exact ⟨h.1, fun x hx => by have := h.2 x hx; omega⟩
theorem drags_facts {ns : List Int} {cs : List WCell} (h : dragsB ns cs = true) : ns.length = cs.length ∧ ∀ k : Int, 0 ≤ k → k < ns.length → (cs.getD k.toNat default).dlo ≤ ns.getD k.toNat default ∧ ns.getD k.toNat default ≤ (cs.getD k.toNat default).dhi := by
 simp only [dragsB, Bool.and_eq_true, decide_eq_true_iff] at h
 exact ⟨h.1, fun k h0 h1 => inB_iff.1 (all_upI h.2 h0 h1)⟩
theorem truth_facts {s : WShore} {c : WStorm} {t : WTruth} (h : truthB s c t = true) : (c.wlo ≤ t.wind ∧ t.wind ≤ c.whi) ∧ (c.flo ≤ t.fetch ∧ t.fetch ≤ c.fhi) ∧ (c.tlo ≤ t.tide ∧ t.tide ≤ c.thi) ∧ (s.llo ≤ t.loss ∧ t.loss ≤ s.lhi) ∧ dragsB t.drags s.cells = true := by
 simp only [truthB, Bool.and_eq_true, inB_iff] at h; exact ⟨h.1, h.2.1, h.2.2.1, h.2.2.2.1, h.2.2.2.2⟩
def pareCells_v0 (xs : List WCell) (i : Int) : List Value := [topV 1 (slT xs.length (rowL encWCell xs)), Value.int IntKind.i64 (↑xs.length : Int), .int .i64 i]
def pareCells_o0 (xs : List WCell) (i : Int) : List Obj := []
noncomputable def pareCells_t0 : List Item := ([.code [1, 1, 0, 1, 0, 0], .inLoop [1, 1, 0, 1, 0, 0], .inBlock 0, .code [1, 1, 1]]).map (it (bodyOf Try.prog 92))
def pareCells_h0 (B : Lo) (c0 : CF) (xs : List WCell) (i : Int) : Prop := ∃ dJ : Nat → Value, (∀ t, Loose (dJ t)) ∧ GoE Try.prog B c0 H00 1 (headC 92 32 (([9, 10, 11] : List Nat).zip (pareCells_v0 xs i)) dJ pareCells_t0) (headH (pareCells_o0 xs i)) (2 + (pareCells_o0 xs i).length) []
noncomputable def pareCells_p0 (B : Lo) (xs : List WCell) (i : Int) (dJ0 : Nat → Value) : List Prop := [i = (↑i.toNat : Int) ∧ Int.toNat i < List.length xs ∧ Array.extract (rowL encWCell xs) (Int.toNat i * TypeInfo.size Try.t59) (Int.toNat i * TypeInfo.size Try.t59 + TypeInfo.size Try.t59) = #[Value.int IntKind.i64 (WCell.ground (List.getD xs i.toNat default)), Value.int IntKind.i64 (WCell.dlo (List.getD xs i.toNat default)), Value.int IntKind.i64 (WCell.dhi (List.getD xs i.toNat default)), Value.int IntKind.i64 (WCell.floor (List.getD xs i.toNat default))], ltq i (↑xs.length : Int) = true] ++ ([] : List Prop)
noncomputable def pareCells_q0 (xs : List WCell) (i : Int) (dJ0 : Nat → Value) : ScriptT := [(0, hvT), (1, HintT.tidx i.toNat #[Value.int IntKind.i64 (WCell.ground (List.getD xs i.toNat default)), Value.int IntKind.i64 (WCell.dlo (List.getD xs i.toNat default)), Value.int IntKind.i64 (WCell.dhi (List.getD xs i.toNat default)), Value.int IntKind.i64 (WCell.floor (List.getD xs i.toNat default))])]
noncomputable def pareCells_p1 (B : Lo) (xs : List WCell) (i : Int) (dJ0 : Nat → Value) : List Prop := [AllP [] ∧ PureC Try.prog J0 86 #[Value.int IntKind.i64 (WCell.ground (List.getD xs i.toNat default)), Value.int IntKind.i64 (-5000), Value.int IntKind.i64 5000] (Value.bool true)] ++ pareCells_p0 B xs i dJ0
noncomputable def pareCells_q1 (xs : List WCell) (i : Int) (dJ0 : Nat → Value) : ScriptT := pareCells_q0 xs i dJ0 ++ [(7, HintT.pure (Value.bool true) [])]
noncomputable def pareCells_p2 (B : Lo) (xs : List WCell) (i : Int) (dJ0 : Nat → Value) : List Prop := [AllP [] ∧ PureC Try.prog J0 94 #[Value.agg #[Value.int IntKind.i64 (WCell.dlo (List.getD xs i.toNat default)), Value.int IntKind.i64 (WCell.dhi (List.getD xs i.toNat default))], Value.int IntKind.i64 5000] (Value.bool true)] ++ pareCells_p1 B xs i dJ0
noncomputable def pareCells_q2 (xs : List WCell) (i : Int) (dJ0 : Nat → Value) : ScriptT := pareCells_q1 xs i dJ0 ++ [(12, HintT.pure (Value.bool true) [])]
theorem pareCells_s0 (B : Lo) (xs : List WCell) (i : Int) (dJ0 : Nat → Value) : landM (srunT Try.prog (okFn Try.prog) J0 B 16 1 (headC 92 32 (([9, 10, 11] : List Nat).zip (pareCells_v0 xs i)) dJ0 pareCells_t0) (headH (pareCells_o0 xs i)) (2 + (pareCells_o0 xs i).length)
 (pareCells_q2 xs i dJ0 ++ [(18, HintT.pure (Value.bool true) []), (21, hvI (i + 1))]) 0 [] []) [9, 10, 11] [] [] = some ⟨92, 32, pareCells_t0, [], .run, none, pareCells_v0 xs (i + 1), pareCells_o0 xs (i + 1),
 [wq (i + 1) = i + 1, AllP [] ∧ PureC Try.prog J0 86 #[Value.int IntKind.i64 (WCell.floor (List.getD xs i.toNat default)), Value.int IntKind.i64 (-1), Value.int IntKind.i64 5000] (Value.bool true)] ++ pareCells_p2 B xs i dJ0⟩ := by kernel_rfl
theorem pareCells_s1 (B : Lo) (xs : List WCell) (i : Int) (dJ0 : Nat → Value) : endT (srunT Try.prog (okFn Try.prog) J0 B 16 1 (headC 92 32 (([9, 10, 11] : List Nat).zip (pareCells_v0 xs i)) dJ0 pareCells_t0) (headH (pareCells_o0 xs i)) (2 + (pareCells_o0 xs i).length)
 (pareCells_q2 xs i dJ0 ++ [(18, HintT.pure (Value.bool false) [])]) 0 [] []) [] = some (Value.bool false,
 [AllP [] ∧ PureC Try.prog J0 86 #[Value.int IntKind.i64 (WCell.floor (List.getD xs i.toNat default)), Value.int IntKind.i64 (-1), Value.int IntKind.i64 5000] (Value.bool false)] ++ pareCells_p2 B xs i dJ0) := by kernel_rfl
theorem pareCells_s2 (B : Lo) (xs : List WCell) (i : Int) (dJ0 : Nat → Value) : endT (srunT Try.prog (okFn Try.prog) J0 B 16 1 (headC 92 32 (([9, 10, 11] : List Nat).zip (pareCells_v0 xs i)) dJ0 pareCells_t0) (headH (pareCells_o0 xs i)) (2 + (pareCells_o0 xs i).length)
 (pareCells_q1 xs i dJ0 ++ [(12, HintT.pure (Value.bool false) [])]) 0 [] []) [] = some (Value.bool false,
 [AllP [] ∧ PureC Try.prog J0 94 #[Value.agg #[Value.int IntKind.i64 (WCell.dlo (List.getD xs i.toNat default)), Value.int IntKind.i64 (WCell.dhi (List.getD xs i.toNat default))], Value.int IntKind.i64 5000] (Value.bool false)] ++ pareCells_p1 B xs i dJ0) := by kernel_rfl
theorem pareCells_s3 (B : Lo) (xs : List WCell) (i : Int) (dJ0 : Nat → Value) : endT (srunT Try.prog (okFn Try.prog) J0 B 16 1 (headC 92 32 (([9, 10, 11] : List Nat).zip (pareCells_v0 xs i)) dJ0 pareCells_t0) (headH (pareCells_o0 xs i)) (2 + (pareCells_o0 xs i).length)
 (pareCells_q0 xs i dJ0 ++ [(7, HintT.pure (Value.bool false) [])]) 0 [] []) [] = some (Value.bool false,
 [AllP [] ∧ PureC Try.prog J0 86 #[Value.int IntKind.i64 (WCell.ground (List.getD xs i.toNat default)), Value.int IntKind.i64 (-5000), Value.int IntKind.i64 5000] (Value.bool false)] ++ pareCells_p0 B xs i dJ0) := by kernel_rfl
theorem pareCells_s4 (B : Lo) (xs : List WCell) (i : Int) (dJ0 : Nat → Value) : endT (srunT Try.prog (okFn Try.prog) J0 B 9 1 (headC 92 32 (([9, 10, 11] : List Nat).zip (pareCells_v0 xs i)) dJ0 pareCells_t0) (headH (pareCells_o0 xs i)) (2 + (pareCells_o0 xs i).length)
 [(0, hvF)] 0 [] []) [] = some (Value.bool true,
 [ltq i (↑xs.length : Int) = false]) := by kernel_rfl
theorem pareCells_s5 (B : Lo) (xs : List WCell) : landM (srunT Try.prog (okFn Try.prog) J0 B 12 1 (entryC Try.prog 92 32 (([slC xs]).map (pushT 0 4))) H00 1
 [(3, HintT.pure (Value.bool true) [])] 0 [] []) [9, 10, 11] [] [] = some ⟨92, 32, pareCells_t0, [], .run, none, pareCells_v0 xs (0), pareCells_o0 xs (0),
 [AllP [] ∧ PureC Try.prog J0 86 #[Value.int IntKind.i64 (↑xs.length : Int), Value.int IntKind.i64 1, Value.int IntKind.i64 7] (Value.bool true)]⟩ := by kernel_rfl
theorem pareCells_s6 (B : Lo) (xs : List WCell) : endT (srunT Try.prog (okFn Try.prog) J0 B 10 1 (entryC Try.prog 92 32 (([slC xs]).map (pushT 0 4))) H00 1
 [(3, HintT.pure (Value.bool false) [])] 0 [] []) [] = some (Value.bool false,
 [AllP [] ∧ PureC Try.prog J0 86 #[Value.int IntKind.i64 (↑xs.length : Int), Value.int IntKind.i64 1, Value.int IntKind.i64 7] (Value.bool false)]) := by kernel_rfl
set_option maxHeartbeats 4000000 in
theorem pareCells_ls (xs : List WCell)  (hfacts : xs.length ≤ 9223372036854775807) {B : Lo} (hJ : ∀ w, B.has w → J0 w) {c0 : CF} : ∀ m : Nat, (∀ (i : Int), xs.length - i.toNat = m → ∀ (h0 : 0 ≤ i), pareCells_h0 B c0 xs i → EndsT Try.prog B c0 (.bool ((xs.drop i.toNat).all cellB))) := by
 intro m0
 induction m0 using Nat.strongRecOn with
 | _ m0 ih0 =>
   intro i hm0 h0 ⟨dJ0, hdJ0, hg0⟩
   by_cases q0 : (i : Int) < ((↑xs.length : Int))
   ·
    have hp0 : AllP (pareCells_p0 B xs i dJ0) := by
     have s2 := drop_all2 (l := xs) (p := cellB) h0 q0
     exact ⟨⟨by omega, by omega, (rowL_extract (z := 4) (fun _ => rfl) (by omega))⟩, ⟨(ltq_t q0), trivial⟩⟩
    cases q1 : inB (WCell.ground (List.getD xs i.toNat default)) (-5000) 5000 with
    | true =>
      have hp1 : AllP (pareCells_p1 B xs i dJ0) := by
       have s2 := drop_all2 (l := xs) (p := cellB) h0 q0
       exact ⟨⟨trivial, (by have t_ := pIn (WCell.ground (List.getD xs i.toNat default)) (-5000) (5000); rw [q1] at t_; exact t_)⟩, hp0⟩
      cases q2 : spanB (WCell.dlo (List.getD xs i.toNat default)) (WCell.dhi (List.getD xs i.toNat default)) 0 5000 with
      | true =>
        have hp2 : AllP (pareCells_p2 B xs i dJ0) := by
         have s2 := drop_all2 (l := xs) (p := cellB) h0 q0
         exact ⟨⟨trivial, (by have t_ := pIsSpan (WCell.dlo (List.getD xs i.toNat default)) (WCell.dhi (List.getD xs i.toNat default)) (5000); rw [q2] at t_; exact t_)⟩, hp1⟩
        cases q3 : inB (WCell.floor (List.getD xs i.toNat default)) (-1) 5000 with
        | true =>
          have s2 := drop_all2 (l := xs) (p := cellB) h0 q0
          exact ((ih0 _ (by omega)) (i + 1) rfl (by omega)
           (hg0.landM okF hJ mixed_ok (pareCells_s0 B xs i dJ0)
           ⟨(wq_in (by omega) (by omega)), ⟨⟨trivial, (by have t_ := pIn (WCell.floor (List.getD xs i.toNat default)) (-1) (5000); rw [q3] at t_; exact t_)⟩, hp2⟩⟩ (by kernel_rfl) (by kernel_rfl))).cast (by (rw [s2]; simp_all [cellB]; done))
        | false =>
          have s2 := drop_all2 (l := xs) (p := cellB) h0 q0
          exact (GoE.endsT okF hJ mixed_ok hg0 (pareCells_s1 B xs i dJ0)
           ⟨⟨trivial, (by have t_ := pIn (WCell.floor (List.getD xs i.toNat default)) (-1) (5000); rw [q3] at t_; exact t_)⟩, hp2⟩).cast (by (rw [s2]; simp_all [cellB]; done))
      | false =>
        have s2 := drop_all2 (l := xs) (p := cellB) h0 q0
        exact (GoE.endsT okF hJ mixed_ok hg0 (pareCells_s2 B xs i dJ0)
         ⟨⟨trivial, (by have t_ := pIsSpan (WCell.dlo (List.getD xs i.toNat default)) (WCell.dhi (List.getD xs i.toNat default)) (5000); rw [q2] at t_; exact t_)⟩, hp1⟩).cast (by (rw [s2]; simp_all [cellB]; done))
    | false =>
      have s2 := drop_all2 (l := xs) (p := cellB) h0 q0
      exact (GoE.endsT okF hJ mixed_ok hg0 (pareCells_s3 B xs i dJ0)
       ⟨⟨trivial, (by have t_ := pIn (WCell.ground (List.getD xs i.toNat default)) (-5000) (5000); rw [q1] at t_; exact t_)⟩, hp0⟩).cast (by (rw [s2]; simp_all [cellB]; done))
   ·
    have s2 := drop_nil2 (l := xs) (p := cellB) (i := i) (by omega)
    exact (GoE.endsT okF hJ mixed_ok hg0 (pareCells_s4 B xs i dJ0)
     ⟨(ltq_f (Int.not_lt.1 q0)), trivial⟩).cast (by (rw [s2]; done))
set_option maxHeartbeats 4000000 in
theorem pareCells_e (xs : List WCell)  (hfacts : xs.length ≤ 9223372036854775807) {B : Lo} (hJ : ∀ w, B.has w → J0 w) : EndsT Try.prog B (entryC Try.prog 92 32 (([slC xs]).map (pushT 0 4))) (.bool (cellsB xs)) := by
 cases q0 : inB (↑xs.length : Int) 1 7 with
 | true =>
   exact ((pareCells_ls xs hfacts hJ _) (0) rfl (by omega)
    (GoE.start.landM okF hJ mixed_ok (pareCells_s5 B xs)
    ⟨⟨trivial, (by have t_ := pIn ((↑xs.length : Int)) (1) (7); rw [q0] at t_; exact t_)⟩, trivial⟩ (by kernel_rfl) (by kernel_rfl))).cast (by (simp [cellsB, *]; done))
 | false =>
   exact (GoE.endsT okF hJ mixed_ok GoE.start (pareCells_s6 B xs)
    ⟨⟨trivial, (by have t_ := pIn ((↑xs.length : Int)) (1) (7); rw [q0] at t_; exact t_)⟩, trivial⟩).cast (by (simp [cellsB, *]; done))
theorem pareCells (xs : List WCell)  : PureC Try.prog J0 92 #[slC xs] (.bool (cellsB xs)) :=
 pureC_ofF (ts := [slC xs]) (xs.length ≤ 9223372036854775807) (fun _ _ ht => ht.ln (i := 0) rfl) J0_st (c0 := entryC Try.prog 92 32 (([slC xs]).map (pushT 0 4))) (by kernel_rfl) (by kernel_rfl) fun hfacts B hJ => pareCells_e xs  hfacts hJ
def pareWorks_v0 (xs : List WWork) (i : Int) : List Value := [topV 1 (slT xs.length (rowL encWWork xs)), Value.int IntKind.i64 (↑xs.length : Int), .int .i64 i]
def pareWorks_o0 (xs : List WWork) (i : Int) : List Obj := []
noncomputable def pareWorks_t0 : List Item := ([.code [1, 1, 0, 1, 0, 0], .inLoop [1, 1, 0, 1, 0, 0], .inBlock 0, .code [1, 1, 1]]).map (it (bodyOf Try.prog 93))
def pareWorks_h0 (B : Lo) (c0 : CF) (xs : List WWork) (i : Int) : Prop := ∃ dJ : Nat → Value, (∀ t, Loose (dJ t)) ∧ GoE Try.prog B c0 H00 1 (headC 93 31 (([8, 9, 10] : List Nat).zip (pareWorks_v0 xs i)) dJ pareWorks_t0) (headH (pareWorks_o0 xs i)) (2 + (pareWorks_o0 xs i).length) []
noncomputable def pareWorks_p0 (B : Lo) (xs : List WWork) (i : Int) (dJ0 : Nat → Value) : List Prop := [i = (↑i.toNat : Int) ∧ Int.toNat i < List.length xs ∧ Array.extract (rowL encWWork xs) (Int.toNat i * TypeInfo.size Try.t85) (Int.toNat i * TypeInfo.size Try.t85 + TypeInfo.size Try.t85) = #[Value.int IntKind.i64 (WWork.rise (List.getD xs i.toNat default)), Value.int IntKind.i64 (WWork.calm (List.getD xs i.toNat default)), Value.int IntKind.i64 (WWork.cost (List.getD xs i.toNat default))], ltq i (↑xs.length : Int) = true] ++ ([] : List Prop)
noncomputable def pareWorks_q0 (xs : List WWork) (i : Int) (dJ0 : Nat → Value) : ScriptT := [(0, hvT), (1, HintT.tidx i.toNat #[Value.int IntKind.i64 (WWork.rise (List.getD xs i.toNat default)), Value.int IntKind.i64 (WWork.calm (List.getD xs i.toNat default)), Value.int IntKind.i64 (WWork.cost (List.getD xs i.toNat default))])]
noncomputable def pareWorks_p1 (B : Lo) (xs : List WWork) (i : Int) (dJ0 : Nat → Value) : List Prop := [AllP [] ∧ PureC Try.prog J0 86 #[Value.int IntKind.i64 (WWork.rise (List.getD xs i.toNat default)), Value.int IntKind.i64 0, Value.int IntKind.i64 5000] (Value.bool true)] ++ pareWorks_p0 B xs i dJ0
noncomputable def pareWorks_q1 (xs : List WWork) (i : Int) (dJ0 : Nat → Value) : ScriptT := pareWorks_q0 xs i dJ0 ++ [(7, HintT.pure (Value.bool true) [])]
noncomputable def pareWorks_p2 (B : Lo) (xs : List WWork) (i : Int) (dJ0 : Nat → Value) : List Prop := [AllP [] ∧ PureC Try.prog J0 86 #[Value.int IntKind.i64 (WWork.calm (List.getD xs i.toNat default)), Value.int IntKind.i64 0, Value.int IntKind.i64 5000] (Value.bool true)] ++ pareWorks_p1 B xs i dJ0
noncomputable def pareWorks_q2 (xs : List WWork) (i : Int) (dJ0 : Nat → Value) : ScriptT := pareWorks_q1 xs i dJ0 ++ [(12, HintT.pure (Value.bool true) [])]
theorem pareWorks_s0 (B : Lo) (xs : List WWork) (i : Int) (dJ0 : Nat → Value) : landM (srunT Try.prog (okFn Try.prog) J0 B 16 1 (headC 93 31 (([8, 9, 10] : List Nat).zip (pareWorks_v0 xs i)) dJ0 pareWorks_t0) (headH (pareWorks_o0 xs i)) (2 + (pareWorks_o0 xs i).length)
 (pareWorks_q2 xs i dJ0 ++ [(18, HintT.pure (Value.bool true) []), (21, hvI (i + 1))]) 0 [] []) [8, 9, 10] [] [] = some ⟨93, 31, pareWorks_t0, [], .run, none, pareWorks_v0 xs (i + 1), pareWorks_o0 xs (i + 1),
 [wq (i + 1) = i + 1, AllP [] ∧ PureC Try.prog J0 86 #[Value.int IntKind.i64 (WWork.cost (List.getD xs i.toNat default)), Value.int IntKind.i64 0, Value.int IntKind.i64 1000000] (Value.bool true)] ++ pareWorks_p2 B xs i dJ0⟩ := by kernel_rfl
theorem pareWorks_s1 (B : Lo) (xs : List WWork) (i : Int) (dJ0 : Nat → Value) : endT (srunT Try.prog (okFn Try.prog) J0 B 16 1 (headC 93 31 (([8, 9, 10] : List Nat).zip (pareWorks_v0 xs i)) dJ0 pareWorks_t0) (headH (pareWorks_o0 xs i)) (2 + (pareWorks_o0 xs i).length)
 (pareWorks_q2 xs i dJ0 ++ [(18, HintT.pure (Value.bool false) [])]) 0 [] []) [] = some (Value.bool false,
 [AllP [] ∧ PureC Try.prog J0 86 #[Value.int IntKind.i64 (WWork.cost (List.getD xs i.toNat default)), Value.int IntKind.i64 0, Value.int IntKind.i64 1000000] (Value.bool false)] ++ pareWorks_p2 B xs i dJ0) := by kernel_rfl
theorem pareWorks_s2 (B : Lo) (xs : List WWork) (i : Int) (dJ0 : Nat → Value) : endT (srunT Try.prog (okFn Try.prog) J0 B 16 1 (headC 93 31 (([8, 9, 10] : List Nat).zip (pareWorks_v0 xs i)) dJ0 pareWorks_t0) (headH (pareWorks_o0 xs i)) (2 + (pareWorks_o0 xs i).length)
 (pareWorks_q1 xs i dJ0 ++ [(12, HintT.pure (Value.bool false) [])]) 0 [] []) [] = some (Value.bool false,
 [AllP [] ∧ PureC Try.prog J0 86 #[Value.int IntKind.i64 (WWork.calm (List.getD xs i.toNat default)), Value.int IntKind.i64 0, Value.int IntKind.i64 5000] (Value.bool false)] ++ pareWorks_p1 B xs i dJ0) := by kernel_rfl
theorem pareWorks_s3 (B : Lo) (xs : List WWork) (i : Int) (dJ0 : Nat → Value) : endT (srunT Try.prog (okFn Try.prog) J0 B 16 1 (headC 93 31 (([8, 9, 10] : List Nat).zip (pareWorks_v0 xs i)) dJ0 pareWorks_t0) (headH (pareWorks_o0 xs i)) (2 + (pareWorks_o0 xs i).length)
 (pareWorks_q0 xs i dJ0 ++ [(7, HintT.pure (Value.bool false) [])]) 0 [] []) [] = some (Value.bool false,
 [AllP [] ∧ PureC Try.prog J0 86 #[Value.int IntKind.i64 (WWork.rise (List.getD xs i.toNat default)), Value.int IntKind.i64 0, Value.int IntKind.i64 5000] (Value.bool false)] ++ pareWorks_p0 B xs i dJ0) := by kernel_rfl
theorem pareWorks_s4 (B : Lo) (xs : List WWork) (i : Int) (dJ0 : Nat → Value) : endT (srunT Try.prog (okFn Try.prog) J0 B 9 1 (headC 93 31 (([8, 9, 10] : List Nat).zip (pareWorks_v0 xs i)) dJ0 pareWorks_t0) (headH (pareWorks_o0 xs i)) (2 + (pareWorks_o0 xs i).length)
 [(0, hvF)] 0 [] []) [] = some (Value.bool true,
 [ltq i (↑xs.length : Int) = false]) := by kernel_rfl
theorem pareWorks_s5 (B : Lo) (xs : List WWork) : endT (srunT Try.prog (okFn Try.prog) J0 B 10 1 (entryC Try.prog 93 31 (([slW xs]).map (pushT 0 4))) H00 1
 [(3, hvT)] 0 [] []) [] = some (Value.bool false,
 [ltq 3 (↑xs.length : Int) = true]) := by kernel_rfl
theorem pareWorks_s6 (B : Lo) (xs : List WWork) : landM (srunT Try.prog (okFn Try.prog) J0 B 12 1 (entryC Try.prog 93 31 (([slW xs]).map (pushT 0 4))) H00 1
 [(3, hvF)] 0 [] []) [8, 9, 10] [] [] = some ⟨93, 31, pareWorks_t0, [], .run, none, pareWorks_v0 xs (0), pareWorks_o0 xs (0),
 [ltq 3 (↑xs.length : Int) = false]⟩ := by kernel_rfl
set_option maxHeartbeats 4000000 in
theorem pareWorks_ls (xs : List WWork)  (hfacts : xs.length ≤ 9223372036854775807) {B : Lo} (hJ : ∀ w, B.has w → J0 w) {c0 : CF} : ∀ m : Nat, (∀ (i : Int), xs.length - i.toNat = m → ∀ (h0 : 0 ≤ i) (h3 : xs.length ≤ 3), pareWorks_h0 B c0 xs i → EndsT Try.prog B c0 (.bool ((xs.drop i.toNat).all workB))) := by
 intro m0
 induction m0 using Nat.strongRecOn with
 | _ m0 ih0 =>
   intro i hm0 h0 h3 ⟨dJ0, hdJ0, hg0⟩
   by_cases q0 : (i : Int) < ((↑xs.length : Int))
   ·
    have hp0 : AllP (pareWorks_p0 B xs i dJ0) := by
     have s2 := drop_all2 (l := xs) (p := workB) h0 q0
     exact ⟨⟨by omega, by omega, (rowL_extract (z := 3) (fun _ => rfl) (by omega))⟩, ⟨(ltq_t q0), trivial⟩⟩
    cases q1 : inB (WWork.rise (List.getD xs i.toNat default)) 0 5000 with
    | true =>
      have hp1 : AllP (pareWorks_p1 B xs i dJ0) := by
       have s2 := drop_all2 (l := xs) (p := workB) h0 q0
       exact ⟨⟨trivial, (by have t_ := pIn (WWork.rise (List.getD xs i.toNat default)) (0) (5000); rw [q1] at t_; exact t_)⟩, hp0⟩
      cases q2 : inB (WWork.calm (List.getD xs i.toNat default)) 0 5000 with
      | true =>
        have hp2 : AllP (pareWorks_p2 B xs i dJ0) := by
         have s2 := drop_all2 (l := xs) (p := workB) h0 q0
         exact ⟨⟨trivial, (by have t_ := pIn (WWork.calm (List.getD xs i.toNat default)) (0) (5000); rw [q2] at t_; exact t_)⟩, hp1⟩
        cases q3 : inB (WWork.cost (List.getD xs i.toNat default)) 0 1000000 with
        | true =>
          have s2 := drop_all2 (l := xs) (p := workB) h0 q0
          exact ((ih0 _ (by omega)) (i + 1) rfl (by omega) (by with_reducible assumption)
           (hg0.landM okF hJ mixed_ok (pareWorks_s0 B xs i dJ0)
           ⟨(wq_in (by omega) (by omega)), ⟨⟨trivial, (by have t_ := pIn (WWork.cost (List.getD xs i.toNat default)) (0) (1000000); rw [q3] at t_; exact t_)⟩, hp2⟩⟩ (by kernel_rfl) (by kernel_rfl))).cast (by (rw [s2]; simp_all [workB]; done))
        | false =>
          have s2 := drop_all2 (l := xs) (p := workB) h0 q0
          exact (GoE.endsT okF hJ mixed_ok hg0 (pareWorks_s1 B xs i dJ0)
           ⟨⟨trivial, (by have t_ := pIn (WWork.cost (List.getD xs i.toNat default)) (0) (1000000); rw [q3] at t_; exact t_)⟩, hp2⟩).cast (by (rw [s2]; simp_all [workB]; done))
      | false =>
        have s2 := drop_all2 (l := xs) (p := workB) h0 q0
        exact (GoE.endsT okF hJ mixed_ok hg0 (pareWorks_s2 B xs i dJ0)
         ⟨⟨trivial, (by have t_ := pIn (WWork.calm (List.getD xs i.toNat default)) (0) (5000); rw [q2] at t_; exact t_)⟩, hp1⟩).cast (by (rw [s2]; simp_all [workB]; done))
    | false =>
      have s2 := drop_all2 (l := xs) (p := workB) h0 q0
      exact (GoE.endsT okF hJ mixed_ok hg0 (pareWorks_s3 B xs i dJ0)
       ⟨⟨trivial, (by have t_ := pIn (WWork.rise (List.getD xs i.toNat default)) (0) (5000); rw [q1] at t_; exact t_)⟩, hp0⟩).cast (by (rw [s2]; simp_all [workB]; done))
   ·
    have s2 := drop_nil2 (l := xs) (p := workB) (i := i) (by omega)
    exact (GoE.endsT okF hJ mixed_ok hg0 (pareWorks_s4 B xs i dJ0)
     ⟨(ltq_f (Int.not_lt.1 q0)), trivial⟩).cast (by (rw [s2]; done))
set_option maxHeartbeats 4000000 in
theorem pareWorks_e (xs : List WWork)  (hfacts : xs.length ≤ 9223372036854775807) {B : Lo} (hJ : ∀ w, B.has w → J0 w) : EndsT Try.prog B (entryC Try.prog 93 31 (([slW xs]).map (pushT 0 4))) (.bool (worksB xs)) := by
 by_cases q0 : (3 : Int) < ((↑xs.length : Int))
 ·
  exact (GoE.endsT okF hJ mixed_ok GoE.start (pareWorks_s5 B xs)
   ⟨(ltq_t q0), trivial⟩).cast (by (simp_all [worksB]; omega))
 ·
  exact ((pareWorks_ls xs hfacts hJ _) (0) rfl (by omega) (by omega)
   (GoE.start.landM okF hJ mixed_ok (pareWorks_s6 B xs)
   ⟨(ltq_f (Int.not_lt.1 q0)), trivial⟩ (by kernel_rfl) (by kernel_rfl))).cast (by (simp_all [worksB]; omega))
theorem pareWorks (xs : List WWork)  : PureC Try.prog J0 93 #[slW xs] (.bool (worksB xs)) :=
 pureC_ofF (ts := [slW xs]) (xs.length ≤ 9223372036854775807) (fun _ _ ht => ht.ln (i := 0) rfl) J0_st (c0 := entryC Try.prog 93 31 (([slW xs]).map (pushT 0 4))) (by kernel_rfl) (by kernel_rfl) fun hfacts B hJ => pareWorks_e xs  hfacts hJ
noncomputable def pisShore_p0 (B : Lo) (s : WShore) : List Prop := [AllP [] ∧ PureC Try.prog J0 92 #[slT s.cells.length (rowL encWCell s.cells)] (Value.bool true)] ++ ([] : List Prop)
noncomputable def pisShore_q0 (s : WShore) : ScriptT := [(4, HintT.pure (Value.bool true) [])]
noncomputable def pisShore_p1 (B : Lo) (s : WShore) : List Prop := [AllP [] ∧ PureC Try.prog J0 93 #[slT s.works.length (rowL encWWork s.works)] (Value.bool true)] ++ pisShore_p0 B s
noncomputable def pisShore_q1 (s : WShore) : ScriptT := pisShore_q0 s ++ [(8, HintT.pure (Value.bool true) [])]
noncomputable def pisShore_p2 (B : Lo) (s : WShore) : List Prop := [AllP [] ∧ PureC Try.prog J0 86 #[Value.int IntKind.i64 s.reef, Value.int IntKind.i64 0, Value.int IntKind.i64 20] (Value.bool true)] ++ pisShore_p1 B s
noncomputable def pisShore_q2 (s : WShore) : ScriptT := pisShore_q1 s ++ [(13, HintT.pure (Value.bool true) [])]
theorem pisShore_s0 (B : Lo) (s : WShore) : endT (srunT Try.prog (okFn Try.prog) J0 B 6 1 (entryC Try.prog 70 21 (([.agg (encShore s).toArray]).map (pushT 0 4))) H00 1
 (pisShore_q2 s ++ [(18, HintT.pure (Value.bool true) [])]) 0 [] []) [] = some (Value.bool true,
 [AllP [] ∧ PureC Try.prog J0 94 #[Value.agg #[Value.int IntKind.i64 s.llo, Value.int IntKind.i64 s.lhi], Value.int IntKind.i64 1000] (Value.bool true)] ++ pisShore_p2 B s) := by kernel_rfl
theorem pisShore_s1 (B : Lo) (s : WShore) : endT (srunT Try.prog (okFn Try.prog) J0 B 6 1 (entryC Try.prog 70 21 (([.agg (encShore s).toArray]).map (pushT 0 4))) H00 1
 (pisShore_q2 s ++ [(18, HintT.pure (Value.bool false) [])]) 0 [] []) [] = some (Value.bool false,
 [AllP [] ∧ PureC Try.prog J0 94 #[Value.agg #[Value.int IntKind.i64 s.llo, Value.int IntKind.i64 s.lhi], Value.int IntKind.i64 1000] (Value.bool false)] ++ pisShore_p2 B s) := by kernel_rfl
theorem pisShore_s2 (B : Lo) (s : WShore) : endT (srunT Try.prog (okFn Try.prog) J0 B 6 1 (entryC Try.prog 70 21 (([.agg (encShore s).toArray]).map (pushT 0 4))) H00 1
 (pisShore_q1 s ++ [(13, HintT.pure (Value.bool false) [])]) 0 [] []) [] = some (Value.bool false,
 [AllP [] ∧ PureC Try.prog J0 86 #[Value.int IntKind.i64 s.reef, Value.int IntKind.i64 0, Value.int IntKind.i64 20] (Value.bool false)] ++ pisShore_p1 B s) := by kernel_rfl
theorem pisShore_s3 (B : Lo) (s : WShore) : endT (srunT Try.prog (okFn Try.prog) J0 B 6 1 (entryC Try.prog 70 21 (([.agg (encShore s).toArray]).map (pushT 0 4))) H00 1
 (pisShore_q0 s ++ [(8, HintT.pure (Value.bool false) [])]) 0 [] []) [] = some (Value.bool false,
 [AllP [] ∧ PureC Try.prog J0 93 #[slT s.works.length (rowL encWWork s.works)] (Value.bool false)] ++ pisShore_p0 B s) := by kernel_rfl
theorem pisShore_s4 (B : Lo) (s : WShore) : endT (srunT Try.prog (okFn Try.prog) J0 B 6 1 (entryC Try.prog 70 21 (([.agg (encShore s).toArray]).map (pushT 0 4))) H00 1
 [(4, HintT.pure (Value.bool false) [])] 0 [] []) [] = some (Value.bool false,
 [AllP [] ∧ PureC Try.prog J0 92 #[slT s.cells.length (rowL encWCell s.cells)] (Value.bool false)]) := by kernel_rfl
set_option maxHeartbeats 4000000 in
theorem pisShore_e (s : WShore)  {B : Lo} (hJ : ∀ w, B.has w → J0 w) : EndsT Try.prog B (entryC Try.prog 70 21 (([.agg (encShore s).toArray]).map (pushT 0 4))) (.bool (shoreB s)) := by
 cases q0 : cellsB s.cells with
 | true =>
   have hp0 : AllP (pisShore_p0 B s) := by
    exact ⟨⟨trivial, (by have t_ := pareCells s.cells; rw [q0] at t_; exact t_)⟩, trivial⟩
   cases q1 : worksB s.works with
   | true =>
     have hp1 : AllP (pisShore_p1 B s) := by
      exact ⟨⟨trivial, (by have t_ := pareWorks s.works; rw [q1] at t_; exact t_)⟩, hp0⟩
     cases q2 : inB s.reef 0 20 with
     | true =>
       have hp2 : AllP (pisShore_p2 B s) := by
        exact ⟨⟨trivial, (by have t_ := pIn s.reef (0) (20); rw [q2] at t_; exact t_)⟩, hp1⟩
       cases q3 : spanB s.llo s.lhi 0 1000 with
       | true =>
         exact (GoE.endsT okF hJ mixed_ok GoE.start (pisShore_s0 B s)
          ⟨⟨trivial, (by have t_ := pIsSpan s.llo s.lhi (1000); rw [q3] at t_; exact t_)⟩, hp2⟩).cast (by (simp [shoreB, *]; done))
       | false =>
         exact (GoE.endsT okF hJ mixed_ok GoE.start (pisShore_s1 B s)
          ⟨⟨trivial, (by have t_ := pIsSpan s.llo s.lhi (1000); rw [q3] at t_; exact t_)⟩, hp2⟩).cast (by (simp [shoreB, *]; done))
     | false =>
       exact (GoE.endsT okF hJ mixed_ok GoE.start (pisShore_s2 B s)
        ⟨⟨trivial, (by have t_ := pIn s.reef (0) (20); rw [q2] at t_; exact t_)⟩, hp1⟩).cast (by (simp [shoreB, *]; done))
   | false =>
     exact (GoE.endsT okF hJ mixed_ok GoE.start (pisShore_s3 B s)
      ⟨⟨trivial, (by have t_ := pareWorks s.works; rw [q1] at t_; exact t_)⟩, hp0⟩).cast (by (simp [shoreB, *]; done))
 | false =>
   exact (GoE.endsT okF hJ mixed_ok GoE.start (pisShore_s4 B s)
    ⟨⟨trivial, (by have t_ := pareCells s.cells; rw [q0] at t_; exact t_)⟩, trivial⟩).cast (by (simp [shoreB, *]; done))
theorem pisShore (s : WShore)  : PureC Try.prog J0 70 #[.agg (encShore s).toArray] (.bool (shoreB s)) :=
 pureC_of (ts := [.agg (encShore s).toArray]) J0_st (c0 := entryC Try.prog 70 21 (([.agg (encShore s).toArray]).map (pushT 0 4))) (by kernel_rfl) (by kernel_rfl) fun B hJ => pisShore_e s  hJ
noncomputable def pisStorm_p0 (B : Lo) (c : WStorm) : List Prop := [AllP [] ∧ PureC Try.prog J0 94 #[Value.agg #[Value.int IntKind.i64 c.wlo, Value.int IntKind.i64 c.whi], Value.int IntKind.i64 1000] (Value.bool true)] ++ ([] : List Prop)
noncomputable def pisStorm_q0 (c : WStorm) : ScriptT := [(4, HintT.pure (Value.bool true) [])]
noncomputable def pisStorm_p1 (B : Lo) (c : WStorm) : List Prop := [AllP [] ∧ PureC Try.prog J0 94 #[Value.agg #[Value.int IntKind.i64 c.flo, Value.int IntKind.i64 c.fhi], Value.int IntKind.i64 10000] (Value.bool true)] ++ pisStorm_p0 B c
noncomputable def pisStorm_q1 (c : WStorm) : ScriptT := pisStorm_q0 c ++ [(8, HintT.pure (Value.bool true) [])]
theorem pisStorm_s0 (B : Lo) (c : WStorm) : endT (srunT Try.prog (okFn Try.prog) J0 B 6 1 (entryC Try.prog 71 16 (([.agg (encStorm c).toArray]).map (pushT 0 4))) H00 1
 (pisStorm_q1 c ++ [(13, HintT.pure (Value.bool true) [])]) 0 [] []) [] = some (Value.bool true,
 [AllP [] ∧ PureC Try.prog J0 95 #[Value.agg #[Value.int IntKind.i64 c.tlo, Value.int IntKind.i64 c.thi], Value.int IntKind.i64 (-5000), Value.int IntKind.i64 5000] (Value.bool true)] ++ pisStorm_p1 B c) := by kernel_rfl
theorem pisStorm_s1 (B : Lo) (c : WStorm) : endT (srunT Try.prog (okFn Try.prog) J0 B 6 1 (entryC Try.prog 71 16 (([.agg (encStorm c).toArray]).map (pushT 0 4))) H00 1
 (pisStorm_q1 c ++ [(13, HintT.pure (Value.bool false) [])]) 0 [] []) [] = some (Value.bool false,
 [AllP [] ∧ PureC Try.prog J0 95 #[Value.agg #[Value.int IntKind.i64 c.tlo, Value.int IntKind.i64 c.thi], Value.int IntKind.i64 (-5000), Value.int IntKind.i64 5000] (Value.bool false)] ++ pisStorm_p1 B c) := by kernel_rfl
theorem pisStorm_s2 (B : Lo) (c : WStorm) : endT (srunT Try.prog (okFn Try.prog) J0 B 6 1 (entryC Try.prog 71 16 (([.agg (encStorm c).toArray]).map (pushT 0 4))) H00 1
 (pisStorm_q0 c ++ [(8, HintT.pure (Value.bool false) [])]) 0 [] []) [] = some (Value.bool false,
 [AllP [] ∧ PureC Try.prog J0 94 #[Value.agg #[Value.int IntKind.i64 c.flo, Value.int IntKind.i64 c.fhi], Value.int IntKind.i64 10000] (Value.bool false)] ++ pisStorm_p0 B c) := by kernel_rfl
theorem pisStorm_s3 (B : Lo) (c : WStorm) : endT (srunT Try.prog (okFn Try.prog) J0 B 6 1 (entryC Try.prog 71 16 (([.agg (encStorm c).toArray]).map (pushT 0 4))) H00 1
 [(4, HintT.pure (Value.bool false) [])] 0 [] []) [] = some (Value.bool false,
 [AllP [] ∧ PureC Try.prog J0 94 #[Value.agg #[Value.int IntKind.i64 c.wlo, Value.int IntKind.i64 c.whi], Value.int IntKind.i64 1000] (Value.bool false)]) := by kernel_rfl
set_option maxHeartbeats 4000000 in
theorem pisStorm_e (c : WStorm)  {B : Lo} (hJ : ∀ w, B.has w → J0 w) : EndsT Try.prog B (entryC Try.prog 71 16 (([.agg (encStorm c).toArray]).map (pushT 0 4))) (.bool (stormB c)) := by
 cases q0 : spanB c.wlo c.whi 0 1000 with
 | true =>
   have hp0 : AllP (pisStorm_p0 B c) := by
    exact ⟨⟨trivial, (by have t_ := pIsSpan c.wlo c.whi (1000); rw [q0] at t_; exact t_)⟩, trivial⟩
   cases q1 : spanB c.flo c.fhi 0 10000 with
   | true =>
     have hp1 : AllP (pisStorm_p1 B c) := by
      exact ⟨⟨trivial, (by have t_ := pIsSpan c.flo c.fhi (10000); rw [q1] at t_; exact t_)⟩, hp0⟩
     cases q2 : spanB c.tlo c.thi (-5000) 5000 with
     | true =>
       exact (GoE.endsT okF hJ mixed_ok GoE.start (pisStorm_s0 B c)
        ⟨⟨trivial, (by have t_ := pIsWithin c.tlo c.thi (-5000) (5000); rw [q2] at t_; exact t_)⟩, hp1⟩).cast (by (simp [stormB, *]; done))
     | false =>
       exact (GoE.endsT okF hJ mixed_ok GoE.start (pisStorm_s1 B c)
        ⟨⟨trivial, (by have t_ := pIsWithin c.tlo c.thi (-5000) (5000); rw [q2] at t_; exact t_)⟩, hp1⟩).cast (by (simp [stormB, *]; done))
   | false =>
     exact (GoE.endsT okF hJ mixed_ok GoE.start (pisStorm_s2 B c)
      ⟨⟨trivial, (by have t_ := pIsSpan c.flo c.fhi (10000); rw [q1] at t_; exact t_)⟩, hp0⟩).cast (by (simp [stormB, *]; done))
 | false =>
   exact (GoE.endsT okF hJ mixed_ok GoE.start (pisStorm_s3 B c)
    ⟨⟨trivial, (by have t_ := pIsSpan c.wlo c.whi (1000); rw [q0] at t_; exact t_)⟩, trivial⟩).cast (by (simp [stormB, *]; done))
theorem pisStorm (c : WStorm)  : PureC Try.prog J0 71 #[.agg (encStorm c).toArray] (.bool (stormB c)) :=
 pureC_of (ts := [.agg (encStorm c).toArray]) J0_st (c0 := entryC Try.prog 71 16 (([.agg (encStorm c).toArray]).map (pushT 0 4))) (by kernel_rfl) (by kernel_rfl) fun B hJ => pisStorm_e c  hJ
noncomputable def pisStormy_p0 (B : Lo) (s : WShore) (c : WStorm) : List Prop := [AllP [] ∧ PureC Try.prog J0 70 #[Value.agg #[slT s.cells.length (rowL encWCell s.cells), slT s.works.length (rowL encWWork s.works), Value.int IntKind.i64 s.reef, Value.int IntKind.i64 s.llo, Value.int IntKind.i64 s.lhi]] (Value.bool true)] ++ ([] : List Prop)
noncomputable def pisStormy_q0 (s : WShore) (c : WStorm) : ScriptT := [(4, HintT.pure (Value.bool true) [])]
theorem pisStormy_s0 (B : Lo) (s : WShore) (c : WStorm) : endT (srunT Try.prog (okFn Try.prog) J0 B 6 1 (entryC Try.prog 52 11 (([.agg (encStormy s c).toArray]).map (pushT 0 4))) H00 1
 (pisStormy_q0 s c ++ [(8, HintT.pure (Value.bool true) [])]) 0 [] []) [] = some (Value.bool true,
 [AllP [] ∧ PureC Try.prog J0 71 #[Value.agg #[Value.int IntKind.i64 c.wlo, Value.int IntKind.i64 c.whi, Value.int IntKind.i64 c.flo, Value.int IntKind.i64 c.fhi, Value.int IntKind.i64 c.tlo, Value.int IntKind.i64 c.thi]] (Value.bool true)] ++ pisStormy_p0 B s c) := by kernel_rfl
theorem pisStormy_s1 (B : Lo) (s : WShore) (c : WStorm) : endT (srunT Try.prog (okFn Try.prog) J0 B 6 1 (entryC Try.prog 52 11 (([.agg (encStormy s c).toArray]).map (pushT 0 4))) H00 1
 (pisStormy_q0 s c ++ [(8, HintT.pure (Value.bool false) [])]) 0 [] []) [] = some (Value.bool false,
 [AllP [] ∧ PureC Try.prog J0 71 #[Value.agg #[Value.int IntKind.i64 c.wlo, Value.int IntKind.i64 c.whi, Value.int IntKind.i64 c.flo, Value.int IntKind.i64 c.fhi, Value.int IntKind.i64 c.tlo, Value.int IntKind.i64 c.thi]] (Value.bool false)] ++ pisStormy_p0 B s c) := by kernel_rfl
theorem pisStormy_s2 (B : Lo) (s : WShore) (c : WStorm) : endT (srunT Try.prog (okFn Try.prog) J0 B 6 1 (entryC Try.prog 52 11 (([.agg (encStormy s c).toArray]).map (pushT 0 4))) H00 1
 [(4, HintT.pure (Value.bool false) [])] 0 [] []) [] = some (Value.bool false,
 [AllP [] ∧ PureC Try.prog J0 70 #[Value.agg #[slT s.cells.length (rowL encWCell s.cells), slT s.works.length (rowL encWWork s.works), Value.int IntKind.i64 s.reef, Value.int IntKind.i64 s.llo, Value.int IntKind.i64 s.lhi]] (Value.bool false)]) := by kernel_rfl
set_option maxHeartbeats 4000000 in
theorem pisStormy_e (s : WShore) (c : WStorm)  {B : Lo} (hJ : ∀ w, B.has w → J0 w) : EndsT Try.prog B (entryC Try.prog 52 11 (([.agg (encStormy s c).toArray]).map (pushT 0 4))) (.bool (shoreB s && stormB c)) := by
 cases q0 : shoreB s with
 | true =>
   have hp0 : AllP (pisStormy_p0 B s c) := by
    exact ⟨⟨trivial, (by have t_ := pisShore (s); rw [q0] at t_; exact t_)⟩, trivial⟩
   cases q1 : stormB c with
   | true =>
     exact (GoE.endsT okF hJ mixed_ok GoE.start (pisStormy_s0 B s c)
      ⟨⟨trivial, (by have t_ := pisStorm (c); rw [q1] at t_; exact t_)⟩, hp0⟩).cast (by rfl)
   | false =>
     exact (GoE.endsT okF hJ mixed_ok GoE.start (pisStormy_s1 B s c)
      ⟨⟨trivial, (by have t_ := pisStorm (c); rw [q1] at t_; exact t_)⟩, hp0⟩).cast (by rfl)
 | false =>
   exact (GoE.endsT okF hJ mixed_ok GoE.start (pisStormy_s2 B s c)
    ⟨⟨trivial, (by have t_ := pisShore (s); rw [q0] at t_; exact t_)⟩, trivial⟩).cast (by rfl)
theorem pisStormy (s : WShore) (c : WStorm)  : PureC Try.prog J0 52 #[.agg (encStormy s c).toArray] (.bool (shoreB s && stormB c)) :=
 pureC_of (ts := [.agg (encStormy s c).toArray]) J0_st (c0 := entryC Try.prog 52 11 (([.agg (encStormy s c).toArray]).map (pushT 0 4))) (by kernel_rfl) (by kernel_rfl) fun B hJ => pisStormy_e s c  hJ
theorem pinStorm_s0 (B : Lo) (s : WShore) (c : WStorm) : endT (srunT Try.prog (okFn Try.prog) J0 B 6 1 (entryC Try.prog 53 8 (([.agg (encShore s).toArray, .agg (encStorm c).toArray]).map (pushT 0 4))) H00 1
 [] 0 [] []) [] = some (Value.agg #[slT s.cells.length (rowL encWCell s.cells), slT s.works.length (rowL encWWork s.works), Value.int IntKind.i64 s.reef, Value.int IntKind.i64 s.llo, Value.int IntKind.i64 s.lhi, Value.int IntKind.i64 c.wlo, Value.int IntKind.i64 c.whi, Value.int IntKind.i64 c.flo, Value.int IntKind.i64 c.fhi, Value.int IntKind.i64 c.tlo, Value.int IntKind.i64 c.thi],
 []) := by kernel_rfl
set_option maxHeartbeats 4000000 in
theorem pinStorm_e (s : WShore) (c : WStorm)  {B : Lo} (hJ : ∀ w, B.has w → J0 w) : EndsT Try.prog B (entryC Try.prog 53 8 (([.agg (encShore s).toArray, .agg (encStorm c).toArray]).map (pushT 0 4))) (.agg (encStormy s c).toArray) := by
 exact (GoE.endsT okF hJ mixed_ok GoE.start (pinStorm_s0 B s c)
  trivial).cast (by rfl)
theorem pinStorm (s : WShore) (c : WStorm)  : PureC Try.prog J0 53 #[.agg (encShore s).toArray, .agg (encStorm c).toArray] (.agg (encStormy s c).toArray) :=
 pureC_of (ts := [.agg (encShore s).toArray, .agg (encStorm c).toArray]) J0_st (c0 := entryC Try.prog 53 8 (([.agg (encShore s).toArray, .agg (encStorm c).toArray]).map (pushT 0 4))) (by kernel_rfl) (by kernel_rfl) fun B hJ => pinStorm_e s c  hJ
theorem pwithPlan_s0 (B : Lo) (s : WShore) (c : WStorm) (plan : List Int) : endT (srunT Try.prog (okFn Try.prog) J0 B 6 1 (entryC Try.prog 58 8 (([.agg (encStormy s c).toArray, slI plan]).map (pushT 0 4))) H00 1
 [] 0 [] []) [] = some (Value.agg #[slT s.cells.length (rowL encWCell s.cells), slT s.works.length (rowL encWWork s.works), Value.int IntKind.i64 s.reef, Value.int IntKind.i64 s.llo, Value.int IntKind.i64 s.lhi, Value.int IntKind.i64 c.wlo, Value.int IntKind.i64 c.whi, Value.int IntKind.i64 c.flo, Value.int IntKind.i64 c.fhi, Value.int IntKind.i64 c.tlo, Value.int IntKind.i64 c.thi, slT plan.length (rowL encI plan)],
 []) := by kernel_rfl
set_option maxHeartbeats 4000000 in
theorem pwithPlan_e (s : WShore) (c : WStorm) (plan : List Int)  {B : Lo} (hJ : ∀ w, B.has w → J0 w) : EndsT Try.prog B (entryC Try.prog 58 8 (([.agg (encStormy s c).toArray, slI plan]).map (pushT 0 4))) (.agg (encBuilt s c plan).toArray) := by
 exact (GoE.endsT okF hJ mixed_ok GoE.start (pwithPlan_s0 B s c plan)
  trivial).cast (by rfl)
theorem pwithPlan (s : WShore) (c : WStorm) (plan : List Int)  : PureC Try.prog J0 58 #[.agg (encStormy s c).toArray, slI plan] (.agg (encBuilt s c plan).toArray) :=
 pureC_of (ts := [.agg (encStormy s c).toArray, slI plan]) J0_st (c0 := entryC Try.prog 58 8 (([.agg (encStormy s c).toArray, slI plan]).map (pushT 0 4))) (by kernel_rfl) (by kernel_rfl) fun B hJ => pwithPlan_e s c plan  hJ
noncomputable def pisBuilt_z0 (s : WShore) (c : WStorm) : Array Value := #[Value.agg #[slT s.cells.length (rowL encWCell s.cells), slT s.works.length (rowL encWWork s.works), Value.int IntKind.i64 s.reef, Value.int IntKind.i64 s.llo, Value.int IntKind.i64 s.lhi, Value.int IntKind.i64 c.wlo, Value.int IntKind.i64 c.whi, Value.int IntKind.i64 c.flo, Value.int IntKind.i64 c.fhi, Value.int IntKind.i64 c.tlo, Value.int IntKind.i64 c.thi]]
noncomputable def pisBuilt_p0 (B : Lo) (s : WShore) (c : WStorm) (plan : List Int) : List Prop := [AllP [] ∧ PureC Try.prog J0 52 (pisBuilt_z0 s c) (Value.bool true)] ++ ([] : List Prop)
noncomputable def pisBuilt_q0 (s : WShore) (c : WStorm) (plan : List Int) : ScriptT := [(4, HintT.pure (Value.bool true) [])]
noncomputable def pisBuilt_p1 (B : Lo) (s : WShore) (c : WStorm) (plan : List Int) : List Prop := [wq ((↑s.works.length : Int) - 1) = (↑s.works.length : Int) - 1, eqq (↑plan.length : Int) (↑s.cells.length : Int) = true] ++ pisBuilt_p0 B s c plan
noncomputable def pisBuilt_q1 (s : WShore) (c : WStorm) (plan : List Int) : ScriptT := pisBuilt_q0 s c plan ++ [(14, hvT), (24, hvI ((↑s.works.length : Int) - 1))]
theorem pisBuilt_s0 (B : Lo) (s : WShore) (c : WStorm) (plan : List Int) : endT (srunT Try.prog (okFn Try.prog) J0 B 6 1 (entryC Try.prog 59 28 (([.agg (encBuilt s c plan).toArray]).map (pushT 0 4))) H00 1
 (pisBuilt_q1 s c plan ++ [(25, HintT.pure (Value.bool true) [])]) 0 [] []) [] = some (Value.bool true,
 [AllP [] ∧ PureC Try.prog J0 79 #[slT plan.length (rowL encI plan), Value.int IntKind.i64 (-1), Value.int IntKind.i64 ((↑s.works.length : Int) - 1)] (Value.bool true)] ++ pisBuilt_p1 B s c plan) := by kernel_rfl
theorem pisBuilt_s1 (B : Lo) (s : WShore) (c : WStorm) (plan : List Int) : endT (srunT Try.prog (okFn Try.prog) J0 B 6 1 (entryC Try.prog 59 28 (([.agg (encBuilt s c plan).toArray]).map (pushT 0 4))) H00 1
 (pisBuilt_q1 s c plan ++ [(25, HintT.pure (Value.bool false) [])]) 0 [] []) [] = some (Value.bool false,
 [AllP [] ∧ PureC Try.prog J0 79 #[slT plan.length (rowL encI plan), Value.int IntKind.i64 (-1), Value.int IntKind.i64 ((↑s.works.length : Int) - 1)] (Value.bool false)] ++ pisBuilt_p1 B s c plan) := by kernel_rfl
theorem pisBuilt_s2 (B : Lo) (s : WShore) (c : WStorm) (plan : List Int) : endT (srunT Try.prog (okFn Try.prog) J0 B 6 1 (entryC Try.prog 59 28 (([.agg (encBuilt s c plan).toArray]).map (pushT 0 4))) H00 1
 (pisBuilt_q0 s c plan ++ [(14, hvF)]) 0 [] []) [] = some (Value.bool false,
 [eqq (↑plan.length : Int) (↑s.cells.length : Int) = false] ++ pisBuilt_p0 B s c plan) := by kernel_rfl
theorem pisBuilt_s3 (B : Lo) (s : WShore) (c : WStorm) (plan : List Int) : endT (srunT Try.prog (okFn Try.prog) J0 B 6 1 (entryC Try.prog 59 28 (([.agg (encBuilt s c plan).toArray]).map (pushT 0 4))) H00 1
 [(4, HintT.pure (Value.bool false) [])] 0 [] []) [] = some (Value.bool false,
 [AllP [] ∧ PureC Try.prog J0 52 (pisBuilt_z0 s c) (Value.bool false)]) := by kernel_rfl
theorem pisBuilt_s4 (B : Lo) (s : WShore) (c : WStorm) (plan : List Int) : endT (srunT Try.prog (okFn Try.prog) J0 B 6 1 (entryC Try.prog 59 28 (([.agg (encBuilt s c plan).toArray]).map (pushT 0 4))) H00 1
 [(4, HintT.pure (Value.bool false) [])] 0 [] []) [] = some (Value.bool false,
 [AllP [] ∧ PureC Try.prog J0 52 (pisBuilt_z0 s c) (Value.bool false)]) := by kernel_rfl
set_option maxHeartbeats 4000000 in
theorem pisBuilt_e (s : WShore) (c : WStorm) (plan : List Int)  (hfacts : plan.length ≤ 9223372036854775807 ∧ s.cells.length ≤ 9223372036854775807 ∧ s.works.length ≤ 9223372036854775807) {B : Lo} (hJ : ∀ w, B.has w → J0 w) : EndsT Try.prog B (entryC Try.prog 59 28 (([.agg (encBuilt s c plan).toArray]).map (pushT 0 4))) (.bool ((shoreB s && stormB c) && planB s plan)) := by
 cases q0 : shoreB s with
 | true =>
   cases q1 : stormB c with
   | true =>
     have hp0 : AllP (pisBuilt_p0 B s c plan) := by
      exact ⟨⟨trivial, (by have t_ := pisStormy (s) (c); rw [q0, q1] at t_; exact t_)⟩, trivial⟩
     by_cases q2 : ((↑plan.length : Int) : Int) = ((↑s.cells.length : Int))
     ·
      have hp1 : AllP (pisBuilt_p1 B s c plan) := by
       exact ⟨(wq_in (by omega) (by omega)), ⟨(eqq_t q2), hp0⟩⟩
      cases q3 : List.all plan fun x => inB x (-1) ((↑s.works.length : Int) - 1) with
      | true =>
        exact (GoE.endsT okF hJ mixed_ok GoE.start (pisBuilt_s0 B s c plan)
         ⟨⟨trivial, (by have t_ := pAllIn (plan) (-1) ((↑s.works.length : Int) - 1); rw [q3] at t_; exact t_)⟩, hp1⟩).cast (by (simp_all [planB]; omega))
      | false =>
        exact (GoE.endsT okF hJ mixed_ok GoE.start (pisBuilt_s1 B s c plan)
         ⟨⟨trivial, (by have t_ := pAllIn (plan) (-1) ((↑s.works.length : Int) - 1); rw [q3] at t_; exact t_)⟩, hp1⟩).cast (by (simp [planB, *]; done))
     ·
      exact (GoE.endsT okF hJ mixed_ok GoE.start (pisBuilt_s2 B s c plan)
       ⟨(eqq_f q2), hp0⟩).cast (by (simp_all [planB]; omega))
   | false =>
     exact (GoE.endsT okF hJ mixed_ok GoE.start (pisBuilt_s3 B s c plan)
      ⟨⟨trivial, (by have t_ := pisStormy (s) (c); rw [q0, q1] at t_; exact t_)⟩, trivial⟩).cast (by rfl)
 | false =>
   exact (GoE.endsT okF hJ mixed_ok GoE.start (pisBuilt_s4 B s c plan)
    ⟨⟨trivial, (by have t_ := pisStormy (s) (c); rw [q0] at t_; exact t_)⟩, trivial⟩).cast (by rfl)
theorem pisBuilt (s : WShore) (c : WStorm) (plan : List Int)  : PureC Try.prog J0 59 #[.agg (encBuilt s c plan).toArray] (.bool ((shoreB s && stormB c) && planB s plan)) :=
 pureC_ofF (ts := [.agg (encBuilt s c plan).toArray]) (plan.length ≤ 9223372036854775807 ∧ s.cells.length ≤ 9223372036854775807 ∧ s.works.length ≤ 9223372036854775807) (fun _ _ ht => ⟨ht.ln2 (i := 0) (j := 11) rfl rfl, ht.ln2 (i := 0) (j := 0) rfl rfl, ht.ln2 (i := 0) (j := 1) rfl rfl⟩) J0_st (c0 := entryC Try.prog 59 28 (([.agg (encBuilt s c plan).toArray]).map (pushT 0 4))) (by kernel_rfl) (by kernel_rfl) fun hfacts B hJ => pisBuilt_e s c plan  hfacts hJ
def pEachC_v0 (xs : List WCell) (i : Int) (ys : List Span) : List Value := [Value.func (Fn.func 101) #[] #[], Value.slice (some { block := 2, off := 0 }) xs.length 2, topV 1 (slT xs.length (rowL encWCell xs)), Value.int IntKind.i64 (↑xs.length : Int), .int .i64 i]
def pEachC_o0 (xs : List WCell) (i : Int) (ys : List Span) : List Obj := [.cells (rowL encSp ys) 25 (0, 0)]
noncomputable def pEachC_t0 : List Item := ([.code [1, 1, 0, 1, 0, 0], .inLoop [1, 1, 0, 1, 0, 0], .inBlock 0, .code [1, 1, 1]]).map (it (bodyOf Try.prog 100))
def pEachC_h0 (B : Lo) (c0 : CF) (xs : List WCell) (i : Int) (ys : List Span) : Prop := ∃ dJ : Nat → Value, (∀ t, Loose (dJ t)) ∧ GoE Try.prog B c0 H00 1 (headC 100 26 (([1, 5, 11, 12, 13] : List Nat).zip (pEachC_v0 xs i ys)) dJ pEachC_t0) (headH (pEachC_o0 xs i ys)) (2 + (pEachC_o0 xs i ys).length) []
noncomputable def pEachC_H0 (xs : List WCell) (i : Int) (ys : List Span) (dJ0 : Nat → Value) : Heap := [(3, Obj.cells #[Value.int IntKind.i64 (WCell.ground (List.getD xs i.toNat default)), Value.int IntKind.i64 (WCell.dlo (List.getD xs i.toNat default)), Value.int IntKind.i64 (WCell.dhi (List.getD xs i.toNat default)), Value.int IntKind.i64 (WCell.floor (List.getD xs i.toNat default))] 59), (0, Obj.coro none), (1, Obj.coro none), (2, Obj.cells (rowL encSp ys) 25)]
noncomputable def pEachC_c0 (xs : List WCell) (i : Int) (ys : List Span) (dJ0 : Nat → Value) : CF := ⟨101, ofList 5 [Value.agg #[Value.int IntKind.i64 (WCell.ground (List.getD xs i.toNat default)), Value.int IntKind.i64 (WCell.dlo (List.getD xs i.toNat default)), Value.int IntKind.i64 (WCell.dhi (List.getD xs i.toNat default)), Value.int IntKind.i64 (WCell.floor (List.getD xs i.toNat default))]], [Item.code (bodyOf Try.prog 101)], [], .run, none⟩
noncomputable def pEachC_z0 (xs : List WCell) (i : Int) : Value := (Value.agg #[Value.int IntKind.i64 (WCell.dlo (List.getD xs i.toNat default)), Value.int IntKind.i64 (WCell.dhi (List.getD xs i.toNat default))])
theorem pEachC_s0 (B : Lo) (xs : List WCell) (i : Int) (ys : List Span) (dJ0 : Nat → Value) : CE.finK 4 (srunT Try.prog (okFn Try.prog) J0 B 6 4 (pEachC_c0 xs i ys dJ0) (pEachC_H0 xs i ys dJ0) 4
 [] 0 [] []) [] [] [] = some (OO.ret (Value.agg #[Value.int IntKind.i64 (WCell.dlo (List.getD xs i.toNat default)), Value.int IntKind.i64 (WCell.dhi (List.getD xs i.toNat default))]), [], [],
 []) := by kernel_rfl
theorem pEachC_s1 (B : Lo) (xs : List WCell) (i : Int) (ys : List Span) (dJ0 : Nat → Value) : landM (srunT Try.prog (okFn Try.prog) J0 B 13 1 (headC 100 26 (([1, 5, 11, 12, 13] : List Nat).zip (pEachC_v0 xs i ys)) dJ0 pEachC_t0) (headH (pEachC_o0 xs i ys)) (2 + (pEachC_o0 xs i ys).length)
 [(0, hvT), (2, HintT.tidx i.toNat #[Value.int IntKind.i64 (WCell.ground (List.getD xs i.toNat default)), Value.int IntKind.i64 (WCell.dlo (List.getD xs i.toNat default)), Value.int IntKind.i64 (WCell.dhi (List.getD xs i.toNat default)), Value.int IntKind.i64 (WCell.floor (List.getD xs i.toNat default))]), (11, HintT.call (List.range 4) (OO.ret (pEachC_z0 xs i)) ([] ++ (4, regO) :: heapL 5 []) 5 []), (12, HintT.old (Hint.idx i.toNat)), (13, HintT.old (Hint.st (rowL encSp (List.set ys i.toNat { lo := WCell.dlo (List.getD xs i.toNat default), hi := WCell.dhi (List.getD xs i.toNat default) })))), (14, hvI (i + 1))] 0 [] []) [1, 5, 11, 12, 13] [(2, KS.cells [] (rowL encSp (List.set ys i.toNat { lo := WCell.dlo (List.getD xs i.toNat default), hi := WCell.dhi (List.getD xs i.toNat default) })))] [] = some ⟨100, 26, pEachC_t0, [], .run, none, pEachC_v0 xs (i + 1) (List.set ys i.toNat { lo := WCell.dlo (List.getD xs i.toNat default), hi := WCell.dhi (List.getD xs i.toNat default) }), pEachC_o0 xs (i + 1) (List.set ys i.toNat { lo := WCell.dlo (List.getD xs i.toNat default), hi := WCell.dhi (List.getD xs i.toNat default) }),
 [CellsM 1 [] (rowL encSp (List.set ys i.toNat { lo := WCell.dlo (List.getD xs i.toNat default), hi := WCell.dhi (List.getD xs i.toNat default) })) (rowL encSp (List.set ys i.toNat { lo := WCell.dlo (List.getD xs i.toNat default), hi := WCell.dhi (List.getD xs i.toNat default) })), wq (i + 1) = i + 1, 0 + Int.toNat i * 2 + TypeInfo.size Try.t25 ≤ Array.size (rowL encSp ys) ∧ splice (rowL encSp ys) (0 + Int.toNat i * 2) (Value.cells (tget { len := 16000, tr := Tri.set 14 (Tri.set 14 Tri.lf 22 (pEachC_z0 xs i)) 23 (Value.pointer (some { block := 2, off := 0 + Int.toNat i * 2 })) } 22)) = rowL encSp (List.set ys i.toNat { lo := WCell.dlo (List.getD xs i.toNat default), hi := WCell.dhi (List.getD xs i.toNat default) }), i = (↑i.toNat : Int) ∧ Int.toNat i < List.length xs, FJ Try.prog B (pEachC_c0 xs i ys dJ0) (pEachC_H0 xs i ys dJ0) 4 (OO.ret (pEachC_z0 xs i)) (([] ++ ((4, regO) :: heapL (4 + 1) [])) ++ pEachC_H0 xs i ys dJ0) 5 (List.range 4) [], i = (↑i.toNat : Int) ∧ Int.toNat i < List.length xs ∧ Array.extract (rowL encWCell xs) (Int.toNat i * TypeInfo.size Try.t59) (Int.toNat i * TypeInfo.size Try.t59 + TypeInfo.size Try.t59) = #[Value.int IntKind.i64 (WCell.ground (List.getD xs i.toNat default)), Value.int IntKind.i64 (WCell.dlo (List.getD xs i.toNat default)), Value.int IntKind.i64 (WCell.dhi (List.getD xs i.toNat default)), Value.int IntKind.i64 (WCell.floor (List.getD xs i.toNat default))], ltq i (↑xs.length : Int) = true]⟩ := by kernel_rfl
theorem pEachC_s2 (B : Lo) (xs : List WCell) (i : Int) (ys : List Span) (dJ0 : Nat → Value) : endT (srunT Try.prog (okFn Try.prog) J0 B 9 1 (headC 100 26 (([1, 5, 11, 12, 13] : List Nat).zip (pEachC_v0 xs i ys)) dJ0 pEachC_t0) (headH (pEachC_o0 xs i ys)) (2 + (pEachC_o0 xs i ys).length)
 [(0, hvF)] 0 [] []) [{ k := 2, rs := [], cs := rowL encSp ys }] = some (slT xs.length (Fz.cs { k := 2, rs := [], cs := rowL encSp ys }),
 [CellsT (Fz.rs { k := 2, rs := [], cs := rowL encSp ys }) (rowL encSp ys) (Fz.cs { k := 2, rs := [], cs := rowL encSp ys }), ltq i (↑xs.length : Int) = false]) := by kernel_rfl
theorem pEachC_s3 (B : Lo) (xs : List WCell) : landM (srunT Try.prog (okFn Try.prog) J0 B 9 1 (entryC Try.prog 100 26 (([slC xs, .func (.func 101) #[] #[]]).map (pushT 0 4))) H00 1
 [(3, HintT.old (Hint.mk xs.length (rowL (zeroE [Value.int IntKind.i64 0, Value.int IntKind.i64 0]) (List.replicate xs.length ()))))] 0 [] []) [1, 5, 11, 12, 13] [(1, KS.rows [] [] (rowL encSp (List.replicate xs.length { lo := 0, hi := 0 })))] [] = some ⟨100, 26, pEachC_t0, [], .run, none, pEachC_v0 xs (0) (List.replicate xs.length { lo := 0, hi := 0 }), pEachC_o0 xs (0) (List.replicate xs.length { lo := 0, hi := 0 }),
 [CellsX 1 [] [] (rowL (zeroE [Value.int IntKind.i64 0, Value.int IntKind.i64 0]) (List.replicate xs.length ())) (rowL encSp (List.replicate xs.length { lo := 0, hi := 0 })), cMake Try.prog 53 (tget { len := 16000, tr := Tri.set 14 Tri.lf 9 (Value.int IntKind.i64 (↑xs.length : Int)) } 9) (tget { len := 16000, tr := Tri.set 14 Tri.lf 9 (Value.int IntKind.i64 (↑xs.length : Int)) } 9) = some (25, rowL (zeroE [Value.int IntKind.i64 0, Value.int IntKind.i64 0]) (List.replicate xs.length ()), List.length xs, TypeInfo.size Try.t25)]⟩ := by kernel_rfl
set_option maxHeartbeats 4000000 in
theorem pEachC_ls (xs : List WCell) (hn : xs.length ≤ 1000000) {B : Lo} (hJ : ∀ w, B.has w → J0 w) {c0 : CF} : ∀ m : Nat, (∀ (i : Int) (ys : List Span), (xs.length - i.toNat) = m → ∀ (h0 : 0 ≤ i) (hy : ys = doneL spanOf ⟨0, 0⟩ xs i), pEachC_h0 B c0 xs i ys → EndsT Try.prog B c0 (slSp (xs.map spanOf))) := by
 intro m0
 induction m0 using Nat.strongRecOn with
 | _ m0 ih0 =>
   intro i ys hm0 h0 hy ⟨dJ0, hdJ0, hg0⟩
   have hyl : ys.length = xs.length := by rw [hy]; exact doneL_len
   by_cases q0 : (i : Int) < ((↑xs.length : Int))
   ·
    have rj0 : FJ Try.prog B (pEachC_c0 xs i ys dJ0) (pEachC_H0 xs i ys dJ0) 4 (OO.ret (Value.agg #[Value.int IntKind.i64 (WCell.dlo (List.getD xs i.toNat default)), Value.int IntKind.i64 (WCell.dhi (List.getD xs i.toNat default))])) (([] ++ ((4, regO) :: heapL (4 + 1) [])) ++ pEachC_H0 xs i ys dJ0) 5 (List.range 4) [] := by
     exact FinK.fjB (GoE.finK okF hJ mixed_ok (under_all (by kernel_rfl)) (writable_of (by kernel_rfl)) ((GoE.refl (P := Try.prog) (B := B) (c0 := pEachC_c0 xs i ys dJ0) (under_all (by kernel_rfl))).widen (Wf := ((([]) : List (Nat × KS)).map (·.1))) (by simp) (writable_of (by kernel_rfl))) (pEachC_s0 B xs i ys dJ0)
      trivial) (ex := [2]) (by kernel_rfl) ⟨trivial, ⟨trivial, ⟨trivial, ⟨(lowO_row (t := 25) (fl := (0, 0)) (fun x => List.all_eq_true.1 (by rfl))), trivial⟩⟩⟩⟩
    exact ((ih0 _ (by omega)) (i + 1) (List.set ys i.toNat { lo := WCell.dlo (List.getD xs i.toNat default), hi := WCell.dhi (List.getD xs i.toNat default) }) rfl (by omega) (by (subst hy; exact doneL_set (f := spanOf) h0 q0))
     (hg0.landM okF hJ mixed_ok (pEachC_s1 B xs i ys dJ0)
     (by exact ⟨(cellsM_simple (rowL_simple (fun x => List.all_eq_true.1 (by rfl)))), ⟨(wq_in (by omega) (by omega)), ⟨(by exact rowL_st0 (z := 2) (fun _ => rfl) (by omega) rfl rfl), ⟨⟨by omega, by omega⟩, ⟨rj0, ⟨⟨by omega, by omega, (rowL_extract (z := 4) (fun _ => rfl) (by omega))⟩, ⟨(ltq_t q0), trivial⟩⟩⟩⟩⟩⟩⟩) (by kernel_rfl) (by kernel_rfl))).cast (by rfl)
   ·
    exact (GoE.endsT okF hJ mixed_ok hg0 (pEachC_s2 B xs i ys dJ0)
     ⟨(rowL_cellsT (fun x => List.all_eq_true.1 (by rfl))), ⟨(ltq_f (Int.not_lt.1 q0)), trivial⟩⟩).cast (by exact row_len (hy.trans (doneL_end (by omega))) (by simp))
set_option maxHeartbeats 4000000 in
theorem pEachC_e (xs : List WCell) (hn : xs.length ≤ 1000000) {B : Lo} (hJ : ∀ w, B.has w → J0 w) : EndsT Try.prog B (entryC Try.prog 100 26 (([slC xs, .func (.func 101) #[] #[]]).map (pushT 0 4))) (slSp (xs.map spanOf)) := by
 exact ((pEachC_ls xs hn hJ _) (0) (List.replicate xs.length { lo := 0, hi := 0 }) rfl (by omega) (by exact doneL_0)
  (GoE.start.landM okF hJ mixed_ok (pEachC_s3 B xs)
  (by exact ⟨(by exact (cellsX_zero (by exact ⟨(.simple rfl), ⟨(.simple rfl), trivial⟩⟩) _)), ⟨(cMakeL (bytes := 16) (by kernel_rfl) (by omega) (by omega) (by omega)), trivial⟩⟩) (by kernel_rfl) (by kernel_rfl))).cast (by rfl)
theorem pEachC (xs : List WCell) (hn : xs.length ≤ 1000000) : PureC Try.prog J0 100 #[slC xs, .func (.func 101) #[] #[]] (slSp (xs.map spanOf)) :=
 pureC_of (ts := [slC xs, .func (.func 101) #[] #[]]) J0_st (c0 := entryC Try.prog 100 26 (([slC xs, .func (.func 101) #[] #[]]).map (pushT 0 4))) (by kernel_rfl) (by kernel_rfl) fun B hJ => pEachC_e xs hn hJ
theorem pdrags_s0 (B : Lo) (s : WShore) (c : WStorm) : endT (srunT Try.prog (okFn Try.prog) J0 B 6 1 (entryC Try.prog 82 7 (([.agg (encStormy s c).toArray]).map (pushT 0 4))) H00 1
 [(5, HintT.pure (slT (List.length (List.map spanOf s.cells)) (rowL encSp (List.map spanOf s.cells))) [])] 0 [] []) [] = some (slT (List.length (List.map spanOf s.cells)) (rowL encSp (List.map spanOf s.cells)),
 [AllP [] ∧ PureC Try.prog J0 100 #[slT s.cells.length (rowL encWCell s.cells), Value.func (Fn.func 101) #[] #[]] (slT (List.length (List.map spanOf s.cells)) (rowL encSp (List.map spanOf s.cells)))]) := by kernel_rfl
set_option maxHeartbeats 4000000 in
theorem pdrags_e (s : WShore) (c : WStorm) (hn : s.cells.length ≤ 1000000) {B : Lo} (hJ : ∀ w, B.has w → J0 w) : EndsT Try.prog B (entryC Try.prog 82 7 (([.agg (encStormy s c).toArray]).map (pushT 0 4))) (slSp (s.cells.map spanOf)) := by
 exact (GoE.endsT okF hJ mixed_ok GoE.start (pdrags_s0 B s c)
  ⟨⟨trivial, pEachC s.cells (by with_reducible assumption)⟩, trivial⟩).cast (by rfl)
theorem pdrags (s : WShore) (c : WStorm) (hn : s.cells.length ≤ 1000000) : PureC Try.prog J0 82 #[.agg (encStormy s c).toArray] (slSp (s.cells.map spanOf)) :=
 pureC_of (ts := [.agg (encStormy s c).toArray]) J0_st (c0 := entryC Try.prog 82 7 (([.agg (encStormy s c).toArray]).map (pushT 0 4))) (by kernel_rfl) (by kernel_rfl) fun B hJ => pdrags_e s c hn hJ
def allU (ns : List Int) (ss : List Span) (i : Int) : Bool := (upI i ns.length).all fun k => inB (ns.getD k.toNat default) (ss.getD k.toNat default).lo (ss.getD k.toNat default).hi
def inSpansB (ns : List Int) (ss : List Span) : Bool := decide (ns.length = ss.length) && allU ns ss 0
theorem allU_cons {ns : List Int} {ss : List Span} {i : Int} (h : i < ns.length) : allU ns ss i = (inB (ns.getD i.toNat default) (ss.getD i.toNat default).lo (ss.getD i.toNat default).hi && allU ns ss (i + 1)) := by
 unfold allU; rw [upI_cons h, List.all_cons]
theorem allU_nil {ns : List Int} {ss : List Span} {i : Int} (h : ns.length ≤ i) : allU ns ss i = true := by
 unfold allU; rw [upI_nil h]; rfl
theorem getD_map {α β : Type} [Inhabited α] [Inhabited β] {f : α → β} {l : List α} {k : Nat} (h : k < l.length) : (l.map f).getD k default = f (l.getD k default) := by
 simp [List.getD_eq_getElem?_getD, h]
theorem inSpans_drags {ns : List Int} {cs : List WCell} : inSpansB ns (cs.map spanOf) = dragsB ns cs := by
 unfold inSpansB dragsB allU
 rw [List.length_map]
 by_cases h : ns.length = cs.length
 ·rw [decide_eq_true h, Bool.true_and, Bool.true_and]
  refine Bool.eq_iff_iff.2 ?_
  simp only [List.all_eq_true, mem_upI]
  constructor <;> intro g k hk <;> have := g k hk <;> rw [getD_map (by omega)] at * <;> exact this
 ·rw [decide_eq_false h, Bool.false_and, Bool.false_and]
def pInSpans_v0 (ns : List Int) (ss : List Span) (i : Int) : List Value := [topV 1 (slT ss.length (rowL encSp ss)), topV 1 (slT ns.length (rowL encI ns)), Value.int IntKind.i64 (↑ns.length : Int), .int .i64 i]
def pInSpans_o0 (ns : List Int) (ss : List Span) (i : Int) : List Obj := []
noncomputable def pInSpans_t0 : List Item := ([.code [1, 1, 0, 1, 0, 0], .inLoop [1, 1, 0, 1, 0, 0], .inBlock 0, .code [1, 1, 1]]).map (it (bodyOf Try.prog 81))
def pInSpans_h0 (B : Lo) (c0 : CF) (ns : List Int) (ss : List Span) (i : Int) : Prop := ∃ dJ : Nat → Value, (∀ t, Loose (dJ t)) ∧ GoE Try.prog B c0 H00 1 (headC 81 27 (([1, 12, 13, 14] : List Nat).zip (pInSpans_v0 ns ss i)) dJ pInSpans_t0) (headH (pInSpans_o0 ns ss i)) (2 + (pInSpans_o0 ns ss i).length) []
noncomputable def pInSpans_z0 (ss : List Span) (i : Int) : Array Value := #[Value.int IntKind.i64 (Span.lo (List.getD ss i.toNat default)), Value.int IntKind.i64 (Span.hi (List.getD ss i.toNat default))]
noncomputable def pInSpans_p0 (B : Lo) (ns : List Int) (ss : List Span) (i : Int) (dJ0 : Nat → Value) : List Prop := [i = (↑i.toNat : Int) ∧ Int.toNat i < List.length ss ∧ Array.extract (rowL encSp ss) (Int.toNat i * TypeInfo.size Try.t25) (Int.toNat i * TypeInfo.size Try.t25 + TypeInfo.size Try.t25) = (pInSpans_z0 ss i), i = (↑i.toNat : Int) ∧ Int.toNat i < List.length ns ∧ Array.extract (rowL encI ns) (Int.toNat i * TypeInfo.size Try.t3) (Int.toNat i * TypeInfo.size Try.t3 + TypeInfo.size Try.t3) = #[Value.int IntKind.i64 (List.getD ns i.toNat default)], ltq i (↑ns.length : Int) = true] ++ ([] : List Prop)
noncomputable def pInSpans_q0 (ns : List Int) (ss : List Span) (i : Int) (dJ0 : Nat → Value) : ScriptT := [(0, hvT), (2, HintT.tidx i.toNat #[Value.int IntKind.i64 (List.getD ns i.toNat default)]), (9, HintT.tidx i.toNat (pInSpans_z0 ss i))]
theorem pInSpans_s0 (B : Lo) (ns : List Int) (ss : List Span) (i : Int) (dJ0 : Nat → Value) : landM (srunT Try.prog (okFn Try.prog) J0 B 16 1 (headC 81 27 (([1, 12, 13, 14] : List Nat).zip (pInSpans_v0 ns ss i)) dJ0 pInSpans_t0) (headH (pInSpans_o0 ns ss i)) (2 + (pInSpans_o0 ns ss i).length)
 (pInSpans_q0 ns ss i dJ0 ++ [(11, HintT.pure (Value.bool true) []), (13, hvI (i + 1))]) 0 [] []) [1, 12, 13, 14] [] [] = some ⟨81, 27, pInSpans_t0, [], .run, none, pInSpans_v0 ns ss (i + 1), pInSpans_o0 ns ss (i + 1),
 [wq (i + 1) = i + 1, AllP [] ∧ PureC Try.prog J0 80 #[Value.int IntKind.i64 (List.getD ns i.toNat default), Value.agg (pInSpans_z0 ss i)] (Value.bool true)] ++ pInSpans_p0 B ns ss i dJ0⟩ := by kernel_rfl
theorem pInSpans_s1 (B : Lo) (ns : List Int) (ss : List Span) (i : Int) (dJ0 : Nat → Value) : endT (srunT Try.prog (okFn Try.prog) J0 B 16 1 (headC 81 27 (([1, 12, 13, 14] : List Nat).zip (pInSpans_v0 ns ss i)) dJ0 pInSpans_t0) (headH (pInSpans_o0 ns ss i)) (2 + (pInSpans_o0 ns ss i).length)
 (pInSpans_q0 ns ss i dJ0 ++ [(11, HintT.pure (Value.bool false) [])]) 0 [] []) [] = some (Value.bool false,
 [AllP [] ∧ PureC Try.prog J0 80 #[Value.int IntKind.i64 (List.getD ns i.toNat default), Value.agg (pInSpans_z0 ss i)] (Value.bool false)] ++ pInSpans_p0 B ns ss i dJ0) := by kernel_rfl
theorem pInSpans_s2 (B : Lo) (ns : List Int) (ss : List Span) (i : Int) (dJ0 : Nat → Value) : endT (srunT Try.prog (okFn Try.prog) J0 B 9 1 (headC 81 27 (([1, 12, 13, 14] : List Nat).zip (pInSpans_v0 ns ss i)) dJ0 pInSpans_t0) (headH (pInSpans_o0 ns ss i)) (2 + (pInSpans_o0 ns ss i).length)
 [(0, hvF)] 0 [] []) [] = some (Value.bool true,
 [ltq i (↑ns.length : Int) = false]) := by kernel_rfl
theorem pInSpans_s3 (B : Lo) (ns : List Int) (ss : List Span) : endT (srunT Try.prog (okFn Try.prog) J0 B 10 1 (entryC Try.prog 81 27 (([slI ns, slSp ss]).map (pushT 0 4))) H00 1
 [(5, hvT)] 0 [] []) [] = some (Value.bool false,
 [(!eqq (↑ns.length : Int) (↑ss.length : Int)) = true]) := by kernel_rfl
theorem pInSpans_s4 (B : Lo) (ns : List Int) (ss : List Span) : landM (srunT Try.prog (okFn Try.prog) J0 B 12 1 (entryC Try.prog 81 27 (([slI ns, slSp ss]).map (pushT 0 4))) H00 1
 [(5, hvF)] 0 [] []) [1, 12, 13, 14] [] [] = some ⟨81, 27, pInSpans_t0, [], .run, none, pInSpans_v0 ns ss (0), pInSpans_o0 ns ss (0),
 [(!eqq (↑ns.length : Int) (↑ss.length : Int)) = false]⟩ := by kernel_rfl
set_option maxHeartbeats 4000000 in
theorem pInSpans_ls (ns : List Int) (ss : List Span)  (hfacts : ns.length ≤ 9223372036854775807 ∧ ss.length ≤ 9223372036854775807) {B : Lo} (hJ : ∀ w, B.has w → J0 w) {c0 : CF} : ∀ m : Nat, (∀ (i : Int), ns.length - i.toNat = m → ∀ (h0 : 0 ≤ i) (hl : ns.length = ss.length), pInSpans_h0 B c0 ns ss i → EndsT Try.prog B c0 (.bool (allU ns ss i))) := by
 intro m0
 induction m0 using Nat.strongRecOn with
 | _ m0 ih0 =>
   intro i hm0 h0 hl ⟨dJ0, hdJ0, hg0⟩
   by_cases q0 : (i : Int) < ((↑ns.length : Int))
   ·
    have hp0 : AllP (pInSpans_p0 B ns ss i dJ0) := by
     have s2 := allU_cons (ns := ns) (ss := ss) q0
     exact ⟨⟨by omega, by omega, (rowL_extract (z := 2) (fun _ => rfl) (by omega))⟩, ⟨⟨by omega, by omega, (rowL_extract (z := 1) (fun _ => rfl) (by omega))⟩, ⟨(ltq_t q0), trivial⟩⟩⟩
    cases q1 : inB (List.getD ns i.toNat default) (Span.lo (List.getD ss i.toNat default)) (Span.hi (List.getD ss i.toNat default)) with
    | true =>
      have s2 := allU_cons (ns := ns) (ss := ss) q0
      exact ((ih0 _ (by omega)) (i + 1) rfl (by omega) (by with_reducible assumption)
       (hg0.landM okF hJ mixed_ok (pInSpans_s0 B ns ss i dJ0)
       ⟨(wq_in (by omega) (by omega)), ⟨⟨trivial, (by have t_ := pInSpan (List.getD ns i.toNat default) (Span.lo (List.getD ss i.toNat default)) (Span.hi (List.getD ss i.toNat default)); rw [q1] at t_; exact t_)⟩, hp0⟩⟩ (by kernel_rfl) (by kernel_rfl))).cast (by (rw [s2]; simp_all; done))
    | false =>
      have s2 := allU_cons (ns := ns) (ss := ss) q0
      exact (GoE.endsT okF hJ mixed_ok hg0 (pInSpans_s1 B ns ss i dJ0)
       ⟨⟨trivial, (by have t_ := pInSpan (List.getD ns i.toNat default) (Span.lo (List.getD ss i.toNat default)) (Span.hi (List.getD ss i.toNat default)); rw [q1] at t_; exact t_)⟩, hp0⟩).cast (by (rw [s2]; simp_all; done))
   ·
    have s2 := allU_nil (ns := ns) (ss := ss) (i := i) (by omega)
    exact (GoE.endsT okF hJ mixed_ok hg0 (pInSpans_s2 B ns ss i dJ0)
     ⟨(ltq_f (Int.not_lt.1 q0)), trivial⟩).cast (by (rw [s2]; done))
set_option maxHeartbeats 4000000 in
theorem pInSpans_e (ns : List Int) (ss : List Span)  (hfacts : ns.length ≤ 9223372036854775807 ∧ ss.length ≤ 9223372036854775807) {B : Lo} (hJ : ∀ w, B.has w → J0 w) : EndsT Try.prog B (entryC Try.prog 81 27 (([slI ns, slSp ss]).map (pushT 0 4))) (.bool (inSpansB ns ss)) := by
 by_cases q0 : ((↑ns.length : Int) : Int) ≠ ((↑ss.length : Int))
 ·
  exact (GoE.endsT okF hJ mixed_ok GoE.start (pInSpans_s3 B ns ss)
   ⟨(neqq_t q0), trivial⟩).cast (by (simp only [inSpansB]; rw [decide_eq_false (by omega)]; rfl))
 ·
  exact ((pInSpans_ls ns ss hfacts hJ _) (0) rfl (by omega) (by omega)
   (GoE.start.landM okF hJ mixed_ok (pInSpans_s4 B ns ss)
   ⟨(neqq_f (Decidable.of_not_not q0)), trivial⟩ (by kernel_rfl) (by kernel_rfl))).cast (by (simp only [inSpansB]; rw [decide_eq_true (by omega)]; rfl))
theorem pInSpans (ns : List Int) (ss : List Span)  : PureC Try.prog J0 81 #[slI ns, slSp ss] (.bool (inSpansB ns ss)) :=
 pureC_ofF (ts := [slI ns, slSp ss]) (ns.length ≤ 9223372036854775807 ∧ ss.length ≤ 9223372036854775807) (fun _ _ ht => ⟨ht.ln (i := 0) rfl, ht.ln (i := 1) rfl⟩) J0_st (c0 := entryC Try.prog 81 27 (([slI ns, slSp ss]).map (pushT 0 4))) (by kernel_rfl) (by kernel_rfl) fun hfacts B hJ => pInSpans_e ns ss  hfacts hJ
noncomputable def pisTruth0_p0 (B : Lo) (s : WShore) (c : WStorm) (t : WTruth) : List Prop := [AllP [] ∧ PureC Try.prog J0 80 #[Value.int IntKind.i64 t.wind, Value.agg #[Value.int IntKind.i64 c.wlo, Value.int IntKind.i64 c.whi]] (Value.bool true)] ++ ([] : List Prop)
noncomputable def pisTruth0_q0 (s : WShore) (c : WStorm) (t : WTruth) : ScriptT := [(8, HintT.pure (Value.bool true) [])]
noncomputable def pisTruth0_p1 (B : Lo) (s : WShore) (c : WStorm) (t : WTruth) : List Prop := [AllP [] ∧ PureC Try.prog J0 80 #[Value.int IntKind.i64 t.fetch, Value.agg #[Value.int IntKind.i64 c.flo, Value.int IntKind.i64 c.fhi]] (Value.bool true)] ++ pisTruth0_p0 B s c t
noncomputable def pisTruth0_q1 (s : WShore) (c : WStorm) (t : WTruth) : ScriptT := pisTruth0_q0 s c t ++ [(15, HintT.pure (Value.bool true) [])]
noncomputable def pisTruth0_p2 (B : Lo) (s : WShore) (c : WStorm) (t : WTruth) : List Prop := [AllP [] ∧ PureC Try.prog J0 80 #[Value.int IntKind.i64 t.tide, Value.agg #[Value.int IntKind.i64 c.tlo, Value.int IntKind.i64 c.thi]] (Value.bool true)] ++ pisTruth0_p1 B s c t
noncomputable def pisTruth0_q2 (s : WShore) (c : WStorm) (t : WTruth) : ScriptT := pisTruth0_q1 s c t ++ [(23, HintT.pure (Value.bool true) [])]
noncomputable def pisTruth0_p3 (B : Lo) (s : WShore) (c : WStorm) (t : WTruth) : List Prop := [AllP [] ∧ PureC Try.prog J0 82 #[Value.agg #[slT s.cells.length (rowL encWCell s.cells), slT s.works.length (rowL encWWork s.works), Value.int IntKind.i64 s.reef, Value.int IntKind.i64 s.llo, Value.int IntKind.i64 s.lhi, Value.int IntKind.i64 c.wlo, Value.int IntKind.i64 c.whi, Value.int IntKind.i64 c.flo, Value.int IntKind.i64 c.fhi, Value.int IntKind.i64 c.tlo, Value.int IntKind.i64 c.thi]] (slT (List.length (List.map spanOf s.cells)) (rowL encSp (List.map spanOf s.cells))), AllP [] ∧ PureC Try.prog J0 80 #[Value.int IntKind.i64 t.loss, Value.agg #[Value.int IntKind.i64 s.llo, Value.int IntKind.i64 s.lhi]] (Value.bool true)] ++ pisTruth0_p2 B s c t
noncomputable def pisTruth0_q3 (s : WShore) (c : WStorm) (t : WTruth) : ScriptT := pisTruth0_q2 s c t ++ [(31, HintT.pure (Value.bool true) []), (37, HintT.pure (slT (List.length (List.map spanOf s.cells)) (rowL encSp (List.map spanOf s.cells))) [])]
theorem pisTruth0_s0 (B : Lo) (s : WShore) (c : WStorm) (t : WTruth) : endT (srunT Try.prog (okFn Try.prog) J0 B 6 1 (entryC Try.prog 60 42 (([.agg (encStormy s c).toArray, .agg (encTruth t).toArray]).map (pushT 0 4))) H00 1
 (pisTruth0_q3 s c t ++ [(38, HintT.pure (Value.bool true) [])]) 0 [] []) [] = some (Value.bool true,
 [AllP [] ∧ PureC Try.prog J0 81 #[slT t.drags.length (rowL encI t.drags), slT (List.length (List.map spanOf s.cells)) (rowL encSp (List.map spanOf s.cells))] (Value.bool true)] ++ pisTruth0_p3 B s c t) := by kernel_rfl
theorem pisTruth0_s1 (B : Lo) (s : WShore) (c : WStorm) (t : WTruth) : endT (srunT Try.prog (okFn Try.prog) J0 B 6 1 (entryC Try.prog 60 42 (([.agg (encStormy s c).toArray, .agg (encTruth t).toArray]).map (pushT 0 4))) H00 1
 (pisTruth0_q3 s c t ++ [(38, HintT.pure (Value.bool false) [])]) 0 [] []) [] = some (Value.bool false,
 [AllP [] ∧ PureC Try.prog J0 81 #[slT t.drags.length (rowL encI t.drags), slT (List.length (List.map spanOf s.cells)) (rowL encSp (List.map spanOf s.cells))] (Value.bool false)] ++ pisTruth0_p3 B s c t) := by kernel_rfl
theorem pisTruth0_s2 (B : Lo) (s : WShore) (c : WStorm) (t : WTruth) : endT (srunT Try.prog (okFn Try.prog) J0 B 6 1 (entryC Try.prog 60 42 (([.agg (encStormy s c).toArray, .agg (encTruth t).toArray]).map (pushT 0 4))) H00 1
 (pisTruth0_q2 s c t ++ [(31, HintT.pure (Value.bool false) [])]) 0 [] []) [] = some (Value.bool false,
 [AllP [] ∧ PureC Try.prog J0 80 #[Value.int IntKind.i64 t.loss, Value.agg #[Value.int IntKind.i64 s.llo, Value.int IntKind.i64 s.lhi]] (Value.bool false)] ++ pisTruth0_p2 B s c t) := by kernel_rfl
theorem pisTruth0_s3 (B : Lo) (s : WShore) (c : WStorm) (t : WTruth) : endT (srunT Try.prog (okFn Try.prog) J0 B 6 1 (entryC Try.prog 60 42 (([.agg (encStormy s c).toArray, .agg (encTruth t).toArray]).map (pushT 0 4))) H00 1
 (pisTruth0_q1 s c t ++ [(23, HintT.pure (Value.bool false) [])]) 0 [] []) [] = some (Value.bool false,
 [AllP [] ∧ PureC Try.prog J0 80 #[Value.int IntKind.i64 t.tide, Value.agg #[Value.int IntKind.i64 c.tlo, Value.int IntKind.i64 c.thi]] (Value.bool false)] ++ pisTruth0_p1 B s c t) := by kernel_rfl
theorem pisTruth0_s4 (B : Lo) (s : WShore) (c : WStorm) (t : WTruth) : endT (srunT Try.prog (okFn Try.prog) J0 B 6 1 (entryC Try.prog 60 42 (([.agg (encStormy s c).toArray, .agg (encTruth t).toArray]).map (pushT 0 4))) H00 1
 (pisTruth0_q0 s c t ++ [(15, HintT.pure (Value.bool false) [])]) 0 [] []) [] = some (Value.bool false,
 [AllP [] ∧ PureC Try.prog J0 80 #[Value.int IntKind.i64 t.fetch, Value.agg #[Value.int IntKind.i64 c.flo, Value.int IntKind.i64 c.fhi]] (Value.bool false)] ++ pisTruth0_p0 B s c t) := by kernel_rfl
theorem pisTruth0_s5 (B : Lo) (s : WShore) (c : WStorm) (t : WTruth) : endT (srunT Try.prog (okFn Try.prog) J0 B 6 1 (entryC Try.prog 60 42 (([.agg (encStormy s c).toArray, .agg (encTruth t).toArray]).map (pushT 0 4))) H00 1
 [(8, HintT.pure (Value.bool false) [])] 0 [] []) [] = some (Value.bool false,
 [AllP [] ∧ PureC Try.prog J0 80 #[Value.int IntKind.i64 t.wind, Value.agg #[Value.int IntKind.i64 c.wlo, Value.int IntKind.i64 c.whi]] (Value.bool false)]) := by kernel_rfl
set_option maxHeartbeats 4000000 in
theorem pisTruth0_e (s : WShore) (c : WStorm) (t : WTruth) (hn : s.cells.length ≤ 1000000) {B : Lo} (hJ : ∀ w, B.has w → J0 w) : EndsT Try.prog B (entryC Try.prog 60 42 (([.agg (encStormy s c).toArray, .agg (encTruth t).toArray]).map (pushT 0 4))) (.bool (inB t.wind c.wlo c.whi && (inB t.fetch c.flo c.fhi && (inB t.tide c.tlo c.thi && (inB t.loss s.llo s.lhi && inSpansB t.drags (s.cells.map spanOf)))))) := by
 cases q0 : inB t.wind c.wlo c.whi with
 | true =>
   have hp0 : AllP (pisTruth0_p0 B s c t) := by
    exact ⟨⟨trivial, (by have t_ := pInSpan t.wind c.wlo c.whi; rw [q0] at t_; exact t_)⟩, trivial⟩
   cases q1 : inB t.fetch c.flo c.fhi with
   | true =>
     have hp1 : AllP (pisTruth0_p1 B s c t) := by
      exact ⟨⟨trivial, (by have t_ := pInSpan t.fetch c.flo c.fhi; rw [q1] at t_; exact t_)⟩, hp0⟩
     cases q2 : inB t.tide c.tlo c.thi with
     | true =>
       have hp2 : AllP (pisTruth0_p2 B s c t) := by
        exact ⟨⟨trivial, (by have t_ := pInSpan t.tide c.tlo c.thi; rw [q2] at t_; exact t_)⟩, hp1⟩
       cases q3 : inB t.loss s.llo s.lhi with
       | true =>
         have hp3 : AllP (pisTruth0_p3 B s c t) := by
          exact ⟨⟨trivial, pdrags (s) (c) (by with_reducible assumption)⟩, ⟨⟨trivial, (by have t_ := pInSpan t.loss s.llo s.lhi; rw [q3] at t_; exact t_)⟩, hp2⟩⟩
         cases q4 : inSpansB t.drags (List.map spanOf s.cells) with
         | true =>
           exact (GoE.endsT okF hJ mixed_ok GoE.start (pisTruth0_s0 B s c t)
            ⟨⟨trivial, (by have t_ := pInSpans t.drags (List.map spanOf s.cells); rw [q4] at t_; exact t_)⟩, hp3⟩).cast (by rfl)
         | false =>
           exact (GoE.endsT okF hJ mixed_ok GoE.start (pisTruth0_s1 B s c t)
            ⟨⟨trivial, (by have t_ := pInSpans t.drags (List.map spanOf s.cells); rw [q4] at t_; exact t_)⟩, hp3⟩).cast (by rfl)
       | false =>
         exact (GoE.endsT okF hJ mixed_ok GoE.start (pisTruth0_s2 B s c t)
          ⟨⟨trivial, (by have t_ := pInSpan t.loss s.llo s.lhi; rw [q3] at t_; exact t_)⟩, hp2⟩).cast (by rfl)
     | false =>
       exact (GoE.endsT okF hJ mixed_ok GoE.start (pisTruth0_s3 B s c t)
        ⟨⟨trivial, (by have t_ := pInSpan t.tide c.tlo c.thi; rw [q2] at t_; exact t_)⟩, hp1⟩).cast (by rfl)
   | false =>
     exact (GoE.endsT okF hJ mixed_ok GoE.start (pisTruth0_s4 B s c t)
      ⟨⟨trivial, (by have t_ := pInSpan t.fetch c.flo c.fhi; rw [q1] at t_; exact t_)⟩, hp0⟩).cast (by rfl)
 | false =>
   exact (GoE.endsT okF hJ mixed_ok GoE.start (pisTruth0_s5 B s c t)
    ⟨⟨trivial, (by have t_ := pInSpan t.wind c.wlo c.whi; rw [q0] at t_; exact t_)⟩, trivial⟩).cast (by rfl)
theorem pisTruth0 (s : WShore) (c : WStorm) (t : WTruth) (hn : s.cells.length ≤ 1000000) : PureC Try.prog J0 60 #[.agg (encStormy s c).toArray, .agg (encTruth t).toArray] (.bool (inB t.wind c.wlo c.whi && (inB t.fetch c.flo c.fhi && (inB t.tide c.tlo c.thi && (inB t.loss s.llo s.lhi && inSpansB t.drags (s.cells.map spanOf)))))) :=
 pureC_of (ts := [.agg (encStormy s c).toArray, .agg (encTruth t).toArray]) J0_st (c0 := entryC Try.prog 60 42 (([.agg (encStormy s c).toArray, .agg (encTruth t).toArray]).map (pushT 0 4))) (by kernel_rfl) (by kernel_rfl) fun B hJ => pisTruth0_e s c t hn hJ
theorem pisTruth (s : WShore) (c : WStorm) (t : WTruth) (hn : s.cells.length ≤ 1000000) : PureC Try.prog J0 60 #[.agg (encStormy s c).toArray, .agg (encTruth t).toArray] (.bool (truthB s c t)) := by
 have h := pisTruth0 s c t hn; rw [inSpans_drags] at h; exact h
end Go.Proofs.Ytiigkdhaofaijaa

