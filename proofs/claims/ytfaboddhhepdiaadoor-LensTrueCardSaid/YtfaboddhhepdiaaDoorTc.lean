/- Known's contract; in any truth all ends lie within what is known; LensTrue's walk. -/
import Derived.Test.YtfaboddhhepdiaaDoorTb
import Derived.Test.YtfaboddhhepdiaaDoorA2
import Derived.Test.YtfaboddhhepdiaaDoorPure4
import Derived.Test.YtfaboddhhepdiaaDoorPure2
import Derived.Test.YtfaboddhhepdiaaDoorSeCon
/- Contract of known: the bounds of all months, over all droughts. -/
namespace Go.Proofs.YtfaboddhhepdiaaDoor
open Go Go.CE Go.Proofs Go.RowKit Lens
theorem slots_args {a len : Nat} {l : List Value} (hl : l.length ≤ 16000) (h : ∀ v ∈ l, Loose v ∨ okV a 3 v = true) : SlotsOk a (ofList len l) := fun t => by
  have hg := ofL_get l 0 .lf t (by omega)
  have e : tget (ofList len l) t = (ofL l 0 .lf).get t := rfl
  rw [e, hg]
  simp only [Nat.zero_le, true_and, Nat.zero_add, Nat.sub_zero, Tri.get_lf]
  split
  · rename_i ht
    have : l.getD t undef ∈ l := by
      rw [List.getD_eq_getElem?_getD, List.getElem?_eq_getElem ht]
      exact List.getElem_mem ht
    exact h _ this
  · exact .inl fun _ _ _ hv => by
      have := af_eq (v := undef) (by simp [Go.undef, af]) hv
      rw [this]; exact VR.undef
section
variable {i : Isl} {wa : Option Addr} {wc mb mo mc : Nat} {ma : Option Addr} {tanks : Int} {w : World} {dk : Nat → Value} {k : Nat}
theorem dr_rj (hi : IslAt w w.heap.size i wa (some ⟨mb, mo, none⟩)) (h1 : 1 ≤ i.nm) (hdk : ∀ t, Loose (dk t)) (hf : ∀ much d, Fit i tanks (endTru i much i.nm d)) (kn : Nat → Kn) :
    RJ Tryd.prog (worldLo w) (entryC Tryd.prog 77 43 [.func (.yield 7) #[] #[], .pointer (some ⟨5, 0, none⟩)]) ((List.range 8).map fun q => (q, hget (heapO 0 (drO i (rawS wa i.nw wc) mb mo mc tanks (rowA (knE kn) i.nm) k dk)) q)) 8 (.tuple #[])
      [(3, .cells (rowA (knE (upTo i tanks kn (2 ^ i.nm))) i.nm) 56 (0, 0)), (7, .loop (knRec i (rawS wa i.nw wc) mb mo mc k dk))] 8 [3, 7] :=
  StdX.rj (os := drO i (rawS wa i.nw wc) mb mo mc tanks (rowA (knE kn) i.nm) k dk) (os' := drO i (rawS wa i.nw wc) mb mo mc tanks (rowA (knE (upTo i tanks kn (2 ^ i.nm))) i.nm) k dk)
    (dr_std hi h1 hdk hf kn) (slots_args (by decide) fun v hv => by
      simp only [List.mem_cons, List.not_mem_nil, or_false] at hv
      rcases hv with rfl | rfl
      · exact .inr (by kernel_rfl)
      · exact .inr (by kernel_rfl)) (by kernel_rfl) rfl rfl (fun l e => by cases e) (dr_fix (Nat.le_refl 8) hdk (loose_knE _ _)) (dr_fix (Nat.le_refl 8) hdk (loose_knE _ _)) (by kernel_rfl) (by kernel_rfl) (by kernel_rfl) (by kernel_rfl) (by kernel_rfl) (by kernel_rfl)
theorem con_droughts {n : Nat} : CJ Tryd.prog (worldLo w) 62 #[islR i wa wc (some ⟨mb, mo, none⟩) mc] [] n (.func (.func 77) #[] #[.pointer (some ⟨n, 0, none⟩)]) [(n, .cells (islC i (rawS wa i.nw wc) (rawS (some ⟨mb, mo, none⟩) i.nm mc)) 27 (0, 0))] (n + 1) [] := by
  have hl : looseO (.cells (islC i (rawS wa i.nw wc) (rawS (some ⟨mb, mo, none⟩) i.nm mc)) 27 (0, 0)) := loose_isl i wa wc (some ⟨mb, mo, none⟩) mc
  have h : StdJ Tryd.prog (worldLo w) 62 #[islR i wa wc (some ⟨mb, mo, none⟩) mc] (heapO 0 []) 0 (.func (.func 77) #[] #[.pointer (some ⟨0, 0, none⟩)])
      (heapO 0 [(false, .cells (islC i (rawS wa i.nw wc) (rawS (some ⟨mb, mo, none⟩) i.nm mc)) 27 (0, 0))]) 1 [] :=
    (GoE.refl (P := Tryd.prog) (B := worldLo w) (c0 := entryC Tryd.prog 62 4 [islR i wa wc (some ⟨mb, mo, none⟩) mc]) (under_heapO [] (Nat.le_refl 0))).std goFns_ok mixed_ok (by kernel_rfl) (writable_nil _ _)
      (os := [(false, .cells (islC i (rawS wa i.nw wc) (rawS (some ⟨mb, mo, none⟩) i.nm mc)) 27 (0, 0))]) (dro_run (worldLo w) i (rawS wa i.nw wc) (rawS (some ⟨mb, mo, none⟩) i.nm mc)) trivial
      (by kernel_rfl) (by kernel_rfl) (by kernel_rfl) (by kernel_rfl) (by kernel_rfl) (by kernel_rfl) (by kernel_rfl) (by kernel_rfl) ⟨.inr ⟨rfl, .inl hl⟩, trivial⟩ (fun j hj _ => by omega)
  have hloose : ∀ b ∈ ([] : List (Bool × Obj)) ++ [(false, Obj.cells (islC i (rawS wa i.nw wc) (rawS (some ⟨mb, mo, none⟩) i.nm mc)) 27 (0, 0))], looseO b.2 := by
    intro b hb
    simp only [List.nil_append, List.mem_cons, List.not_mem_nil, or_false] at hb
    rw [hb]; exact hl
  rcases wa with _ | ⟨b, o, _ | z⟩
  all_goals exact (StdJ.rows (kept := []) (l := []) (n := n) h rfl (fun k hk => by simp at hk) rfl hloose (by kernel_rfl) (by kernel_rfl)).cast (by kernel_rfl) (by kernel_rfl) (by kernel_rfl) (by kernel_rfl) (by kernel_rfl)
end
end Go.Proofs.YtfaboddhhepdiaaDoor
/- Contract of known: what it comes to. -/
namespace Go.Proofs.YtfaboddhhepdiaaDoor
open Go Go.CE Go.Proofs Go.RowKit Lens
/-- No bounds yet. -/
def noKn : Kn := ⟨9223372036854775807, -9223372036854775808, 9223372036854775807, -9223372036854775808, 9223372036854775807, -9223372036854775808⟩
def zeroKn : Kn := ⟨0, 0, 0, 0, 0, 0⟩
def fillK (m j : Nat) : Kn := if j < m then noKn else zeroKn
theorem fill_splice {n m : Nat} (hm : m < n) : 0 + m * 6 + 6 ≤ (rowA (knE (fillK m)) n).size ∧ splice (rowA (knE (fillK m)) n) (0 + m * 6) #[.int .i64 9223372036854775807, .int .i64 (-9223372036854775808), .int .i64 9223372036854775807, .int .i64 (-9223372036854775808), .int .i64 9223372036854775807, .int .i64 (-9223372036854775808)] = rowA (knE (fillK (m + 1))) n := by
  have := row_splice (e := knE (fillK m)) (z := 6) (n := n) (x := knE (fun _ => noKn) m) (fun _ => rfl) rfl hm
  rw [Nat.zero_add]
  refine ⟨this.1, this.2.trans (row_congr n fun k hk => ?_)⟩
  by_cases h : k = m
  · subst h
    simp only [if_true, knE, fillK, show k < k + 1 by omega]
  · rw [if_neg h]
    simp only [knE, fillK]
    by_cases h2 : k < m
    · simp only [h2, show k < m + 1 by omega]
    · simp only [h2, show ¬ k < m + 1 by omega]
theorem fill_all (n : Nat) : rowA (knE (fillK n)) n = rowA (knE fun _ => noKn) n := row_congr n fun k hk => by simp [knE, fillK, hk]
section
variable {i : Isl} {wa : Option Addr} {wc mb mo mc : Nat} {ma : Option Addr} {tanks : Int} {w : World} {dk : Nat → Value} {k : Nat}
set_option maxRecDepth 100000 in
theorem known_any (hi : IslAt w w.heap.size i wa ma) (h1 : 1 ≤ i.nm) (hf : ∀ much d, Fit i tanks (endTru i much i.nm d)) :
    Calls Tryd.prog 46 #[islV i wa wc ma mc, .int .i64 tanks] w fun e' w' => (∃ g c, e' = .returned (.slice (some ⟨g, 0, none⟩) i.nm c) ∧ w.heap.size ≤ g ∧ g < w'.heap.size ∧ i.nm ≤ c ∧ c ≤ maxLen ∧
      ∀ (j : Nat) v, (rowA (knE (upTo i tanks (fun _ => noKn) (2 ^ i.nm))) i.nm)[j]? = some v → w'.cell? ⟨g, j, none⟩ = some v) ∧ Below w.heap.size w w' := by
  have h8 : i.nm ≤ 8 := (hf true fun _ => false).nm
  obtain ⟨mb, mo, rfl, _⟩ := monsGet hi.months (show 0 < i.nm by omega)
  have ok1 : ∀ kn', OkAll 5 (knO i (rawS wa i.nw wc) mb mo mc tanks (rowA (knE kn') i.nm)) := fun kn' =>
    ⟨.inr ⟨rfl, loose_isl i wa wc (some ⟨mb, mo, none⟩) mc⟩, .inl ⟨rfl, by kernel_rfl⟩, .inl ⟨rfl, by kernel_rfl⟩, .inr ⟨rfl, loose_knE _ _⟩, .inl ⟨rfl, by kernel_rfl⟩, trivial⟩
  let c0 := entryC Tryd.prog 46 72 [islR i wa wc (some ⟨mb, mo, none⟩) mc, .int .i64 tanks]
  let at1 : Nat → Prop := fun m => ∃ d' : Nat → Value, (∀ t, Loose (d' t)) ∧ GoE Tryd.prog (worldLo w) c0 [] 0
    (headC 46 72 (knL i.nm m) d' (knT.map (it (bodyOf Tryd.prog 46)))) (heapO 0 (knO i (rawS wa i.nw wc) mb mo mc tanks (rowA (knE (fillK m)) i.nm))) 5 []
  have hmk : cMake Tryd.prog 32 (.int .i64 (i.nm : Int)) (.int .i64 (i.nm : Int)) = some (56, rowA (knE (fillK 0)) i.nm, i.nm, 6) := by
    have e : rowA (knE (fillK 0)) i.nm = rowA (fun _ => [.int .i64 0, .int .i64 0, .int .i64 0, .int .i64 0, .int .i64 0, .int .i64 0]) i.nm := row_congr _ fun k _ => by simp [knE, fillK, zeroKn]
    rw [e]
    exact cMake_row (P := Tryd.prog) (t := 32) (e := 56) (i := Go.Proofs.Tryd.t56) (zv := .agg #[.int .i64 0, .int .i64 0, .int .i64 0, .int .i64 0, .int .i64 0, .int .i64 0]) (by kernel_rfl) (by kernel_rfl) (by kernel_rfl) (by kernel_rfl) (by decide) (by kernel_rfl) (by show 48 * i.nm ≤ _; omega) (by omega)
  have s0 : at1 0 := (GoE.refl (P := Tryd.prog) (B := worldLo w) (c0 := c0) under_nil).headO goFns_ok mixed_ok
    (kn_entry (worldLo w) i (rawS wa i.nw wc) mb mo mc tanks (rowA (knE (fillK 0)) i.nm)) ⟨hmk, trivial⟩
    (by kernel_rfl) (by kernel_rfl) (by kernel_rfl) (by kernel_rfl) (by kernel_rfl) (by kernel_rfl) (ok1 _)
  have all : ∀ m, m ≤ i.nm → at1 m := by
    intro m
    induction m with
    | zero => intro _; exact s0
    | succ m ih =>
      intro hm
      obtain ⟨d', _, g⟩ := ih (by omega)
      have hlt : m < i.nm := by omega
      exact g.headO goFns_ok mixed_ok
        (kn_fill (worldLo w) i (rawS wa i.nw wc) mb mo mc tanks (rowA (knE (fillK m)) i.nm) (rowA (knE (fillK (m + 1))) i.nm) m d') ⟨wq_in (by omega) (by omega), fill_splice hlt, ⟨rfl, hlt⟩, ltq_t (by omega), trivial⟩
        (by kernel_rfl) (by kernel_rfl) (by kernel_rfl) (by kernel_rfl) (by kernel_rfl) (by kernel_rfl) (ok1 _)
  obtain ⟨d1, hd1, g⟩ := all _ (Nat.le_refl _)
  rw [fill_all] at g
  have hcalls := g.calls goFns_ok mixed_ok (f := 46) (args := #[islR i wa wc (some ⟨mb, mo, none⟩) mc, .int .i64 tanks]) (args' := #[islV i wa wc (some ⟨mb, mo, none⟩) mc, .int .i64 tanks]) (by kernel_rfl)
    (kn_range (worldLo w) i (rawS wa i.nw wc) mb mo mc tanks (rowA (knE fun _ => noKn) i.nm) (rowA (knE (upTo i tanks (fun _ => noKn) (2 ^ i.nm))) i.nm) i.nm d1) ⟨dr_rj hi h1 hd1 hf _, con_droughts, ltq_f (by omega), trivial⟩ (worldLo_has w)
    (VRl.vrs' (.cons (vr_isl i wa wc (some ⟨mb, mo, none⟩) mc) (.cons (.int _ _) .nil)))
  refine hcalls.mono fun en w' ⟨v', μ', he, hv, hb, hnew⟩ => ⟨?_, hb⟩
  have hrow := af_row (hnew 0 3 (rowA (knE (upTo i tanks (fun _ => noKn) (2 ^ i.nm))) i.nm) 56 rfl rfl) (rowA_mem i.nm fun j _ v hv => by
    simp only [knE, List.mem_cons, List.not_mem_nil, or_false] at hv
    rcases hv with rfl | rfl | rfl | rfl | rfl | rfl <;> rfl)
  obtain ⟨g', cap, k1, k2, k3, k4⟩ := hrow
  obtain ⟨c, rfl, hc1, hc2⟩ := hv.slice_new k3
  exact ⟨g', c, he, k1, k2, hc1, hc2, k4⟩
end
end Go.Proofs.YtfaboddhhepdiaaDoor
/- Contract of Known, as runs of laws use it. -/
namespace Go.Proofs.YtfaboddhhepdiaaDoor
open Go Go.CE Go.Proofs Go.RowKit Lens
set_option maxRecDepth 100000 in
theorem kw_fine (B : Lo) (i : Isl) (W M : Value) (tanks : Int) (A : Array Value) : endedB (srun Tryd.prog goFns B 11 0 (entryC Tryd.prog 16 17 [.agg (islC i W M), .int .i64 tanks]) (heapO 0 []) 0
    [(4, Hint.call [] (Value.bool true) [] 1 []),
(8, Hint.call [] (Value.bool true) [] 1 []),
(13, Hint.call [] (Value.slice (some { block := 1, off := 0 }) (Isl.nm i) 0) [(1, Obj.cells A 56 (1, 1))] 2 [])] 0 [] []) ((kz [1] [(false, .cells A 56 (1, 1))]).map (·.old)) = some (⟨.ret (rnV (rhoK (kz [1] [(false, .cells A 56 (1, 1))])) 3 (.tuple #[.slice (some ⟨0, 0, none⟩) i.nm 0, .int .i64 0])), (kz [1] [(false, .cells A 56 (1, 1))]).map (fun kept_ => some (wasK (rhoK (kz [1] [(false, .cells A 56 (1, 1))])) kept_)), 2,
    [CJ Tryd.prog B 46
  #[Value.agg
      #[Value.int IntKind.i64 (Isl.cap i), Value.int IntKind.i64 (Isl.sl i), Value.int IntKind.i64 (Isl.sh i),
        Value.int IntKind.i64 (Isl.roof i), Value.int IntKind.i64 (Isl.sand i), Value.int IntKind.i64 (Isl.kl i),
        Value.int IntKind.i64 (Isl.kh i), Value.int IntKind.i64 (Isl.ll i), Value.int IntKind.i64 (Isl.lh i),
        Value.int IntKind.i64 (Isl.pump i), Value.int IntKind.i64 (Isl.keep i), Value.int IntKind.i64 (Isl.size i), W,
        M, Value.int IntKind.i64 (Isl.most i), Value.int IntKind.i64 (Isl.row i)],
    Value.int IntKind.i64 tanks]
  [] 1 (Value.slice (some { block := 1, off := 0 }) (Isl.nm i) 0) [(1, Obj.cells A 56 (1, 1))] 2 [],
CJ Tryd.prog B 45 #[Value.int IntKind.i64 tanks] [] 1 (Value.bool true) [] 1 [],
CJ Tryd.prog B 44
  #[Value.agg
      #[Value.int IntKind.i64 (Isl.cap i), Value.int IntKind.i64 (Isl.sl i), Value.int IntKind.i64 (Isl.sh i),
        Value.int IntKind.i64 (Isl.roof i), Value.int IntKind.i64 (Isl.sand i), Value.int IntKind.i64 (Isl.kl i),
        Value.int IntKind.i64 (Isl.kh i), Value.int IntKind.i64 (Isl.ll i), Value.int IntKind.i64 (Isl.lh i),
        Value.int IntKind.i64 (Isl.pump i), Value.int IntKind.i64 (Isl.keep i), Value.int IntKind.i64 (Isl.size i), W,
        M, Value.int IntKind.i64 (Isl.most i), Value.int IntKind.i64 (Isl.row i)]]
  [] 1 (Value.bool true) [] 1 []]⟩, []) := by kernel_rfl
theorem fit_end {i : Isl} {tanks : Int} (hi : islB i = true) (ht : tanksB tanks = true) (much : Bool) (nd : Nat) (d : Nat → Bool) : Fit i tanks (endTru i much nd d) := by
  simp only [islB, monthsB, tanksB, Bool.and_eq_true, isInB_iff, isSpanB_iff, decide_eq_true_eq, allTo_iff] at hi ht
  obtain ⟨⟨⟨⟨⟨⟨⟨⟨⟨⟨⟨⟨i1, i2⟩, i3⟩, i4⟩, i5⟩, i6⟩, i7⟩, i8⟩, i9⟩, i10⟩, ⟨i11, i12⟩⟩, i13⟩, i14⟩ := hi
  have mon : ∀ k, k < i.nm → (0 ≤ (i.months k).wl ∧ (i.months k).wl ≤ (i.months k).wh ∧ (i.months k).wh ≤ 2000) ∧ (0 ≤ (i.months k).dl ∧ (i.months k).dl ≤ (i.months k).dh ∧ (i.months k).dh ≤ 2000) ∧ (0 ≤ (i.months k).nl ∧ (i.months k).nl ≤ (i.months k).nh ∧ (i.months k).nh ≤ 10000000) := by
    intro k hk
    have := i12 k hk
    simp only [monB, Bool.and_eq_true, isSpanB_iff, decide_eq_true_eq] at this
    obtain ⟨⟨⟨⟨m1, m2⟩, m3⟩, _⟩, _⟩ := this
    exact ⟨m1, m2, m3⟩
  refine ⟨by omega, by omega, i3.1, i3.2, i4.1, i4.2, i7.1, i7.2, i9.1, i9.2, i8.1, i8.2, ht.1, ht.2, by omega, ?_, ?_, ?_, ?_, ?_, ?_, rfl, rfl, ?_, ?_⟩
  · cases much <;> simp only [endTru, lohi] <;> simp <;> omega
  · cases much <;> simp only [endTru, lohi] <;> simp <;> omega
  · cases much <;> simp only [endTru, lohi] <;> simp <;> omega
  · cases much <;> simp only [endTru, lohi] <;> simp <;> omega
  · cases much <;> simp only [endTru, lohi] <;> simp <;> omega
  · cases much <;> simp only [endTru, lohi] <;> simp <;> omega
  · intro k hk
    have := mon k hk
    cases much <;> cases h : d k <;> simp only [endTru, lohi, rlo, rhi, h] <;> simp <;> omega
  · intro k hk
    have := mon k hk
    cases much <;> simp only [endTru, lohi] <;> simp <;> omega
section
variable {i : Isl} {wa : Option Addr} {wc mc : Nat} {ma : Option Addr} {tanks : Int} {w : World}
def knA (i : Isl) (tanks : Int) : Array Value := rowA (knE (upTo i tanks (fun _ => noKn) (2 ^ i.nm))) i.nm
theorem knE_af (kn : Nat → Kn) (n : Nat) : ∀ v ∈ rowA (knE kn) n, af v = true := rowA_mem n fun j _ v hv => by
  simp only [knE, List.mem_cons, List.not_mem_nil, or_false] at hv
  rcases hv with rfl | rfl | rfl | rfl | rfl | rfl <;> rfl
theorem con_known0 {n : Nat} (hi : IslAt w w.heap.size i wa ma) (h1 : islB i = true) (h2 : tanksB tanks = true) :
    CJ Tryd.prog (worldLo w) 46 #[islR i wa wc ma mc, .int .i64 tanks] [] n (.slice (some ⟨n, 0, none⟩) i.nm 0) [(n, .cells (knA i tanks) 56 (1, 1))] (n + 1) [] :=
  cj_row (knE_af _ _) fun μ w' args' hB ha => by
    have hl : ExL [islR i wa wc ma mc, .int .i64 tanks] [islV i wa wc ma mc, .int .i64 tanks] := .cons (exact_isl _ _ _ _ _) (.cons (exact_af rfl) .nil)
    rw [hl.args ha]
    have hnm : 1 ≤ i.nm := by
      simp only [islB, monthsB, Bool.and_eq_true, isInB_iff] at h1
      omega
    refine (known_any (islAt_lo hi hB) hnm fun much d => fit_end h1 h2 much _ d).mono fun e w'' ⟨⟨g, c, he, k1, k2, k3, k4, k5⟩, hb⟩ => ⟨⟨g, _, k1, k2, he, k5, fun μ' hμ => .slice ⟨_, hμ, rfl, rfl⟩ k3 k4 fun h => absurd rfl h⟩, hb⟩
theorem con_isIslet {n : Nat} (hi : IslAt w w.heap.size i wa ma) : CJ Tryd.prog (worldLo w) 44 #[islR i wa wc ma mc] [] n (.bool (islB i)) [] n [] :=
  con_of (.cons (exact_isl _ _ _ _ _) .nil) (exact_af rfl) fun w' hw => isIslet_any i wa wc ma mc w' (islAt_lo hi hw)
theorem con_areTanks {n : Nat} : CJ Tryd.prog (worldLo w) 45 #[.int .i64 tanks] [] n (.bool (tanksB tanks)) [] n [] :=
  con_of (l := [.int .i64 tanks]) (l' := [.int .i64 tanks]) (.cons (exact_af rfl) .nil) (exact_af rfl) fun w' _ => (areTanks_any tanks w').mono fun _ _ ⟨h1, h2⟩ => ⟨h1, h2 ▸ Below.refl _ _⟩
theorem con_Known {n : Nat} (hi : IslAt w w.heap.size i wa ma) (h1 : islB i = true) (h2 : tanksB tanks = true) :
    CJ Tryd.prog (worldLo w) 16 #[islR i wa wc ma mc, .int .i64 tanks] [] n (.tuple #[.slice (some ⟨n, 0, none⟩) i.nm 0, .int .i64 0]) [(n, .cells (knA i tanks) 56 (1, 1))] (n + 1) [] := by
  have hA : looseO (.cells (knA i tanks) 56 (1, 1)) := loose_knE _ _
  have h : StdJ Tryd.prog (worldLo w) 16 #[islR i wa wc ma mc, .int .i64 tanks] (heapO 0 []) 0 (.tuple #[.slice (some ⟨0, 0, none⟩) i.nm 0, .int .i64 0]) (heapO 0 [(false, .cells (knA i tanks) 56 (1, 1))]) 1 [] :=
    (GoE.refl (P := Tryd.prog) (B := worldLo w) (c0 := entryC Tryd.prog 16 17 [islR i wa wc ma mc, .int .i64 tanks]) (under_heapO [] (Nat.le_refl 0))).std goFns_ok mixed_ok (by kernel_rfl) (writable_nil _ _)
      (os := [(false, .cells (knA i tanks) 56 (1, 1))]) (kw_fine (worldLo w) i (rawS wa i.nw wc) (rawS ma i.nm mc) tanks (knA i tanks)) ⟨con_known0 hi h1 h2, h2 ▸ con_areTanks, h1 ▸ con_isIslet hi, trivial⟩
      (by kernel_rfl) (by kernel_rfl) (by kernel_rfl) (by kernel_rfl) (by kernel_rfl) (by kernel_rfl) (by kernel_rfl) (by kernel_rfl) ⟨.inr ⟨rfl, .inl hA⟩, trivial⟩ (fun j hj _ => by omega)
  have hloose : ∀ b ∈ ([] : List (Bool × Obj)) ++ [(false, Obj.cells (knA i tanks) 56 (1, 1))], looseO b.2 := by
    intro b hb
    simp only [List.nil_append, List.mem_cons, List.not_mem_nil, or_false] at hb
    rw [hb]; exact hA
  rcases wa with _ | ⟨b, o, _ | z⟩ <;> rcases ma with _ | ⟨b', o', _ | z'⟩
  all_goals exact (StdJ.rows (kept := []) (l := []) (n := n) h rfl (fun k hk => by simp at hk) rfl hloose (by kernel_rfl) (by kernel_rfl)).cast (by kernel_rfl) (by kernel_rfl) (by kernel_rfl) (by kernel_rfl) (by kernel_rfl)
end
end Go.Proofs.YtfaboddhhepdiaaDoor

/- The plain functions of layer 1: more water never makes less. -/
namespace Lens
theorem leak_mono {b b' l l' : Int} (h0 : 0 ≤ b) (hb : b ≤ b') (_hl0 : 0 ≤ l') (hl : l' ≤ l) (h1 : l ≤ 1000) : b - b * l / 1000 ≤ b' - b' * l' / 1000 := by
  have p1 : b' * l' ≤ b' * l := Int.mul_le_mul_of_nonneg_left hl (by omega)
  have p2 : (b' - b) * l ≤ (b' - b) * 1000 := Int.mul_le_mul_of_nonneg_left h1 (by omega)
  have p3 : (b' - b) * l = b' * l - b * l := Int.sub_mul _ _ _
  generalize b' * l' = x at *
  generalize b' * l = y at *
  generalize b * l = z at *
  omega
theorem min_mono {x x' f a a' : Int} (h : x ≤ x') (e : (if x < f then x else f) = a) (e' : (if x' < f then x' else f) = a') : a ≤ a' := by
  split at e <;> split at e' <;> omega
/-- What is left of tanks, and what is still wanted. -/
theorem take_mono {a a' n n' T T' : Int} (ha : a ≤ a') (hn : n' ≤ n) (e : (if n < a then n else a) = T) (e' : (if n' < a' then n' else a') = T') : a - T ≤ a' - T' ∧ n' - T' ≤ n - T := by
  split at e <;> split at e' <;> omega
theorem pump_mono {c c' r r' p k M M' U U' : Int} (hc : c ≤ c') (hr : r' ≤ r) (hr0 : 0 ≤ r') (hp : 0 ≤ p) (eM : (if k < c then c - k else 0) = M) (eM' : (if k < c' then c' - k else 0) = M')
    (e : (if M < (if p < r then p else r) then M else (if p < r then p else r)) = U) (e' : (if M' < (if p < r' then p else r') then M' else (if p < r' then p else r')) = U') : c - U ≤ c' - U' ∧ r' - U' ≤ r - U := by
  obtain ⟨q, hq⟩ : ∃ x, (if p < r then p else r) = x := ⟨_, rfl⟩
  obtain ⟨q', hq'⟩ : ∃ x, (if p < r' then p else r') = x := ⟨_, rfl⟩
  rw [hq] at e
  rw [hq'] at e'
  have h1 : q ≤ p ∧ q ≤ r ∧ (q = p ∨ q = r) := by split at hq <;> omega
  have h2 : q' ≤ p ∧ q' ≤ r' ∧ (q' = p ∨ q' = r') := by split at hq' <;> omega
  have h3 : 0 ≤ M ∧ c - k ≤ M ∧ (M = 0 ∨ M = c - k) := by split at eM <;> omega
  have h4 : 0 ≤ M' ∧ c' - k ≤ M' ∧ (M' = 0 ∨ M' = c' - k) := by split at eM' <;> omega
  have h5 : U ≤ M ∧ U ≤ q ∧ (U = M ∨ U = q) := by split at e <;> omega
  have h6 : U' ≤ M' ∧ U' ≤ q' ∧ (U' = M' ∨ U' = q') := by split at e' <;> omega
  clear hq hq' eM eM' e e'
  omega
/-- A state with less water than another one. -/
structure Less (s s' : St) : Prop where
  tanks : s.tanks ≤ s'.tanks
  lens : s.lens ≤ s'.lens
  lack : s'.lack ≤ s.lack
/-- A truth with less water than another one, in the first n months. -/
structure LessT (n : Nat) (t t' : Tru) : Prop where
  start : t.start ≤ t'.start
  soak : t.soak ≤ t'.soak
  leak : t'.leak ≤ t.leak
  rains : ∀ k, k < n → t.rains k ≤ t'.rains k
  needs : ∀ k, k < n → t'.needs k ≤ t.needs k
theorem step_mono {i : Isl} {tanks : Int} {t t' : Tru} (h : Fit i tanks t) (h' : Fit i tanks t') (hl : LessT i.nm t t') {k : Nat} (hk : k < i.nm) {s s' : St} (hs : StOk i (i.size * tanks) k s) (hs' : StOk i (i.size * tanks) k s') (ht : s.tanks ≤ s'.tanks) (hle : s.lens ≤ s'.lens) :
    Less (stepSt i (i.size * tanks) t k s) (stepSt i (i.size * tanks) t' k s') := by
  obtain ⟨r1, r2, a, b, g, T, M, U, p⟩ := parts h hk hs
  obtain ⟨r1', r2', a', b', g', T', M', U', p'⟩ := parts h' hk hs'
  have hr := hl.rains k hk
  have hn := hl.needs k hk
  have q0 := (h.rain k hk).1
  have q1 := (h'.rain k hk).1
  have x1 : r1 ≤ r1' := by
    rw [← p.e1, ← p'.e1]
    exact Int.ediv_le_ediv (by decide) (Int.mul_le_mul_of_nonneg_left hr h.roof0)
  have x2 : r2 ≤ r2' := by
    rw [← p.e2, ← p'.e2]
    exact Int.ediv_le_ediv (by decide) (Int.mul_le_mul (Int.mul_le_mul_of_nonneg_left hr h.sand0) hl.soak h.soak0 (Int.mul_nonneg h.sand0 q1))
  have ha : a ≤ a' := min_mono (by omega) p.ea p'.ea
  have hb : b ≤ b' := min_mono (by omega) p.eb p'.eb
  have hc : b - g ≤ b' - g' := by
    rw [← p.eg, ← p'.eg]
    exact leak_mono p.b0 hb h'.leak0 hl.leak h.leak1
  obtain ⟨y1, y2⟩ := take_mono ha hn p.eT p'.eT
  obtain ⟨z1, z2⟩ := pump_mono hc y2 (by have := p'.T1; omega) h.pump0 p.eM' p'.eM' p.eU p'.eU
  rw [p.out, p'.out]
  exact ⟨y1, z1, z2⟩
theorem run_mono {i : Isl} {tanks : Int} {t t' : Tru} (h : Fit i tanks t) (h' : Fit i tanks t') (hl : LessT i.nm t t') : ∀ k, k ≤ i.nm → Less (runTo i tanks t k) (runTo i tanks t' k)
  | 0, _ => ⟨Int.le_refl _, hl.start, Int.le_refl _⟩
  | k + 1, hk => by
    have ih := run_mono h h' hl k (by omega)
    exact step_mono h h' hl (by omega) (runTo_ok h (by omega)) (runTo_ok h' (by omega)) ih.tanks ih.lens
end Lens
/- In any truth, all ends lie within what is known (pure). -/
namespace Go.Proofs.YtfaboddhhepdiaaDoor
open Lens
/-- An end lies within bounds. -/
structure Within (s : Seen) (k : Kn) : Prop where
  t0 : k.tl ≤ s.tanks
  t1 : s.tanks ≤ k.th
  l0 : k.ll ≤ s.lens
  l1 : s.lens ≤ k.lh
  k0 : k.kl ≤ s.lack
  k1 : s.lack ≤ k.kh
theorem wid_in (k : Kn) (s : Seen) : Within s (wid k s) := by
  constructor <;> simp only [wid] <;> omega
theorem wid_keeps {k : Kn} {s : Seen} (x : Seen) (h : Within s k) : Within s (wid k x) := by
  obtain ⟨a, b, c, d, e, f⟩ := h
  constructor <;> simp only [wid] <;> omega
theorem widest_at {i : Isl} {tanks : Int} {d : Nat → Bool} {kn : Nat → Kn} {j : Nat} (hj : j < i.nm) : widest i tanks d kn j = wid (wid (kn j) (endsOf i tanks false d j)) (endsOf i tanks true d j) := by
  simp only [widest, pass, hj, if_true]
theorem upTo_keeps {i : Isl} {tanks : Int} {kn : Nat → Kn} {j : Nat} (hj : j < i.nm) {s : Seen} {b : Nat} (h : Within s (upTo i tanks kn b j)) : Within s (upTo i tanks kn (b + 1) j) := by
  simp only [upTo]
  split
  · rw [widest_at hj]
    exact wid_keeps _ (wid_keeps _ h)
  · exact h
theorem upTo_has {i : Isl} {tanks : Int} {kn : Nat → Kn} {j : Nat} (hj : j < i.nm) {b0 : Nat} (hd : drB i.most i.row i.nm (bitsDry i.nm b0) = true) : ∀ b, b0 < b → Within (endsOf i tanks false (bitsDry i.nm b0) j) (upTo i tanks kn b j) ∧ Within (endsOf i tanks true (bitsDry i.nm b0) j) (upTo i tanks kn b j) := by
  intro b
  induction b with
  | zero => intro h; omega
  | succ b ih =>
    intro h
    rcases Nat.lt_or_ge b0 b with hlt | hge
    · exact ⟨upTo_keeps hj (ih hlt).1, upTo_keeps hj (ih hlt).2⟩
    · have : b0 = b := by omega
      subst this
      simp only [upTo, hd, if_true]
      rw [widest_at hj]
      exact ⟨wid_keeps _ (wid_in _ _), wid_in _ _⟩
theorem bits_of (d : Nat → Bool) : ∀ n, ∃ b, b < 2 ^ n ∧ ∀ j, j < n → bitsDry n b j = d j
  | 0 => ⟨0, by simp, fun j h => by omega⟩
  | n + 1 => by
    obtain ⟨b, hb, h⟩ := bits_of d n
    refine ⟨2 * b + (d n).toNat, ?_, fun j hj => ?_⟩
    · have : (d n).toNat ≤ 1 := Bool.toNat_le _
      rw [Nat.pow_succ]; omega
    · have h1 : (d n).toNat ≤ 1 := Bool.toNat_le _
      simp only [bitsDry]
      rcases Nat.lt_or_ge j n with hlt | hge
      · have e : n + 1 - 1 - j = (n - 1 - j) + 1 := by omega
        rw [e, Nat.testBit_succ, show (2 * b + (d n).toNat) / 2 = b by omega]
        exact h j hlt
      · have : j = n := by omega
        subst this
        rw [show j + 1 - 1 - j = 0 by omega, Nat.testBit_zero]
        cases d j <;> simp <;> omega
theorem drAll_congr {d d' : Nat → Bool} : ∀ k, (∀ j, j < k → d j = d' j) → drAll d k = drAll d' k
  | 0, _ => rfl
  | k + 1, h => by simp only [drAll, h k (by omega), drAll_congr k fun j hj => h j (by omega)]
theorem drRow_congr {d d' : Nat → Bool} : ∀ k, (∀ j, j < k → d j = d' j) → drRow d k = drRow d' k
  | 0, _ => rfl
  | k + 1, h => by simp only [drRow, h k (by omega), drRow_congr k fun j hj => h j (by omega)]
theorem drB_congr {most row : Int} {n : Nat} {d d' : Nat → Bool} (h : ∀ j, j < n → d j = d' j) (hd : drB most row n d = true) : drB most row n d' = true := by
  simp only [drB, allTo_iff] at hd ⊢
  intro k hk
  have := hd k hk
  simp only [drOk] at this ⊢
  rw [← h k hk, ← drAll_congr (k + 1) fun j hj => h j (by omega), ← drRow_congr (k + 1) fun j hj => h j (by omega)]
  exact this
theorem less_low {i : Isl} {t : Tru} {d : Nat → Bool} (ht : truB i t = true) (hd : ∀ j, j < i.nm → d j = t.dry j) : LessT i.nm (endTru i false i.nm d) t := by
  simp only [truB, Bool.and_eq_true, isInB_iff, allTo_iff] at ht
  obtain ⟨⟨⟨⟨⟨⟨⟨u1, u2⟩, u3⟩, _⟩, _⟩, _⟩, _⟩, u8⟩ := ht
  refine ⟨u1.1, u2.1, u3.2, fun k hk => ?_, fun k hk => ?_⟩
  · have := u8 k hk
    simp only [truOk, Bool.and_eq_true, isInB_iff] at this
    rw [← hd k hk] at this
    exact this.1.1
  · have := u8 k hk
    simp only [truOk, Bool.and_eq_true, isInB_iff] at this
    exact this.2.2
theorem less_high {i : Isl} {t : Tru} {d : Nat → Bool} (ht : truB i t = true) (hd : ∀ j, j < i.nm → d j = t.dry j) : LessT i.nm t (endTru i true i.nm d) := by
  simp only [truB, Bool.and_eq_true, isInB_iff, allTo_iff] at ht
  obtain ⟨⟨⟨⟨⟨⟨⟨u1, u2⟩, u3⟩, _⟩, _⟩, _⟩, _⟩, u8⟩ := ht
  refine ⟨u1.2, u2.2, u3.1, fun k hk => ?_, fun k hk => ?_⟩
  · have := u8 k hk
    simp only [truOk, Bool.and_eq_true, isInB_iff] at this
    rw [← hd k hk] at this
    exact this.1.2
  · have := u8 k hk
    simp only [truOk, Bool.and_eq_true, isInB_iff] at this
    exact this.2.1
/-- Whatever is true, each month's end lies within what is known. -/
theorem true_within {i : Isl} {tanks : Int} {t : Tru} (h1 : islB i = true) (h2 : tanksB tanks = true) (h3 : truB i t = true) {j : Nat} (hj : j < i.nm) : Within (seenOf (runTo i tanks t (j + 1))) (upTo i tanks (fun _ => noKn) (2 ^ i.nm) j) := by
  obtain ⟨b0, hb, hd⟩ := bits_of t.dry i.nm
  have hdr : drB i.most i.row i.nm (bitsDry i.nm b0) = true := by
    have h := h3
    simp only [truB, Bool.and_eq_true, decide_eq_true_eq] at h
    obtain ⟨⟨⟨⟨⟨_, e⟩, _⟩, _⟩, hdr⟩, _⟩ := h
    rw [e] at hdr
    exact drB_congr (fun j hj => (hd j hj).symm) hdr
  obtain ⟨lo, hi⟩ := upTo_has (tanks := tanks) (kn := fun _ => noKn) hj hdr _ hb
  have ft := fit_of h1 h2 h3
  have m1 := run_mono (fit_end h1 h2 false i.nm (bitsDry i.nm b0)) ft (less_low h3 hd) (j + 1) (by omega)
  have m2 := run_mono ft (fit_end h1 h2 true i.nm (bitsDry i.nm b0)) (less_high h3 hd) (j + 1) (by omega)
  exact ⟨Int.le_trans lo.t0 m1.tanks, Int.le_trans m2.tanks hi.t1, Int.le_trans lo.l0 m1.lens, Int.le_trans m2.lens hi.l1, Int.le_trans hi.k0 m2.lack, Int.le_trans m1.lack lo.k1⟩
end Go.Proofs.YtfaboddhhepdiaaDoor
/- LensTrue: the law's runs. -/
namespace Go.Proofs.YtfaboddhhepdiaaDoor
open Go Go.CE Go.Proofs Go.RowKit Lens
def ltL (nm k : Nat) : List (Nat × Value) := [(7, .slice (some ⟨0, 0, none⟩) nm 0), (10, .slice (some ⟨1, 0, none⟩) nm 0), (12, .int .i64 k)]
def ltO (E K : Array Value) : List (Bool × Obj) := [(false, .cells E 53 (1, 1)), (false, .cells K 56 (1, 1))]
def ltT : List It := [.code [1, 1, 1, 1, 1, 0, 1, 0, 0], .inLoop [1, 1, 1, 1, 1, 0, 1, 0, 0], .inBlock 0, .code [1, 1, 1, 1, 1, 1]]
set_option maxRecDepth 100000 in
theorem lt_short (B : Lo) (i : Isl) (t : Tru) (tanks : Int) (W M D R N : Value) : ended (srun Tryd.prog goFns B 10 0 (entryC Tryd.prog 6 116 [.agg (islC i W M), .int .i64 tanks, .agg (truC t D R N)]) [] 0
    [(4, Hint.call [] (Value.bool false) [] 2 []),
(23, Hint.call [] (Value.bool true) [] 2 [])] 0 [] []) [] = some ⟨.ret (.bool true), [], 2,
    [CJ Tryd.prog B 14 #[] [] 2 (Value.bool true) [] 2 [],
CJ Tryd.prog B 21
  #[Value.agg
      #[Value.int IntKind.i64 (Isl.cap i), Value.int IntKind.i64 (Isl.sl i), Value.int IntKind.i64 (Isl.sh i),
        Value.int IntKind.i64 (Isl.roof i), Value.int IntKind.i64 (Isl.sand i), Value.int IntKind.i64 (Isl.kl i),
        Value.int IntKind.i64 (Isl.kh i), Value.int IntKind.i64 (Isl.ll i), Value.int IntKind.i64 (Isl.lh i),
        Value.int IntKind.i64 (Isl.pump i), Value.int IntKind.i64 (Isl.keep i), Value.int IntKind.i64 (Isl.size i), W,
        M, Value.int IntKind.i64 (Isl.most i), Value.int IntKind.i64 (Isl.row i)]]
  [] 2 (Value.bool false) [] 2 []]⟩ := by kernel_rfl
set_option maxRecDepth 100000 in
theorem lt_sized (B : Lo) (i : Isl) (t : Tru) (tanks : Int) (W M D R N : Value) : ended (srun Tryd.prog goFns B 10 0 (entryC Tryd.prog 6 116 [.agg (islC i W M), .int .i64 tanks, .agg (truC t D R N)]) [] 0
    [(4, Hint.call [] (Value.bool true) [] 2 []),
(8, Hint.call [] (Value.bool false) [] 2 []),
(23, Hint.call [] (Value.bool true) [] 2 [])] 0 [] []) [] = some ⟨.ret (.bool true), [], 2,
    [CJ Tryd.prog B 14 #[] [] 2 (Value.bool true) [] 2 [],
CJ Tryd.prog B 22
  #[Value.agg
      #[Value.int IntKind.i64 (Tru.start t), Value.int IntKind.i64 (Tru.soak t), Value.int IntKind.i64 (Tru.leak t), D,
        R, N]]
  [] 2 (Value.bool false) [] 2 [],
CJ Tryd.prog B 21
  #[Value.agg
      #[Value.int IntKind.i64 (Isl.cap i), Value.int IntKind.i64 (Isl.sl i), Value.int IntKind.i64 (Isl.sh i),
        Value.int IntKind.i64 (Isl.roof i), Value.int IntKind.i64 (Isl.sand i), Value.int IntKind.i64 (Isl.kl i),
        Value.int IntKind.i64 (Isl.kh i), Value.int IntKind.i64 (Isl.ll i), Value.int IntKind.i64 (Isl.lh i),
        Value.int IntKind.i64 (Isl.pump i), Value.int IntKind.i64 (Isl.keep i), Value.int IntKind.i64 (Isl.size i), W,
        M, Value.int IntKind.i64 (Isl.most i), Value.int IntKind.i64 (Isl.row i)]]
  [] 2 (Value.bool true) [] 2 []]⟩ := by kernel_rfl
set_option maxRecDepth 100000 in
theorem lt_asked (B : Lo) (i : Isl) (t : Tru) (tanks : Int) (W M D R N : Value) : ended (srun Tryd.prog goFns B 10 0 (entryC Tryd.prog 6 116 [.agg (islC i W M), .int .i64 tanks, .agg (truC t D R N)]) [] 0
    [(4, Hint.call [] (Value.bool true) [] 2 []),
(8, Hint.call [] (Value.bool true) [] 2 []),
(14, Hint.call [] (Value.bool false) [] 2 []),
(23, Hint.call [] (Value.bool true) [] 2 [])] 0 [] []) [] = some ⟨.ret (.bool true), [], 2,
    [CJ Tryd.prog B 14 #[] [] 2 (Value.bool true) [] 2 [],
CJ Tryd.prog B 18
  #[Value.agg
      #[Value.int IntKind.i64 (Isl.cap i), Value.int IntKind.i64 (Isl.sl i), Value.int IntKind.i64 (Isl.sh i),
        Value.int IntKind.i64 (Isl.roof i), Value.int IntKind.i64 (Isl.sand i), Value.int IntKind.i64 (Isl.kl i),
        Value.int IntKind.i64 (Isl.kh i), Value.int IntKind.i64 (Isl.ll i), Value.int IntKind.i64 (Isl.lh i),
        Value.int IntKind.i64 (Isl.pump i), Value.int IntKind.i64 (Isl.keep i), Value.int IntKind.i64 (Isl.size i), W,
        M, Value.int IntKind.i64 (Isl.most i), Value.int IntKind.i64 (Isl.row i)],
    Value.int IntKind.i64 tanks]
  [] 2 (Value.bool false) [] 2 [],
CJ Tryd.prog B 22
  #[Value.agg
      #[Value.int IntKind.i64 (Tru.start t), Value.int IntKind.i64 (Tru.soak t), Value.int IntKind.i64 (Tru.leak t), D,
        R, N]]
  [] 2 (Value.bool true) [] 2 [],
CJ Tryd.prog B 21
  #[Value.agg
      #[Value.int IntKind.i64 (Isl.cap i), Value.int IntKind.i64 (Isl.sl i), Value.int IntKind.i64 (Isl.sh i),
        Value.int IntKind.i64 (Isl.roof i), Value.int IntKind.i64 (Isl.sand i), Value.int IntKind.i64 (Isl.kl i),
        Value.int IntKind.i64 (Isl.kh i), Value.int IntKind.i64 (Isl.ll i), Value.int IntKind.i64 (Isl.lh i),
        Value.int IntKind.i64 (Isl.pump i), Value.int IntKind.i64 (Isl.keep i), Value.int IntKind.i64 (Isl.size i), W,
        M, Value.int IntKind.i64 (Isl.most i), Value.int IntKind.i64 (Isl.row i)]]
  [] 2 (Value.bool true) [] 2 []]⟩ := by kernel_rfl
set_option maxRecDepth 100000 in
theorem lt_truth (B : Lo) (i : Isl) (t : Tru) (tanks : Int) (W M D R N : Value) : ended (srun Tryd.prog goFns B 10 0 (entryC Tryd.prog 6 116 [.agg (islC i W M), .int .i64 tanks, .agg (truC t D R N)]) [] 0
    [(4, Hint.call [] (Value.bool true) [] 2 []),
(8, Hint.call [] (Value.bool true) [] 2 []),
(14, Hint.call [] (Value.bool true) [] 2 []),
(20, Hint.call [] (Value.bool false) [] 2 []),
(23, Hint.call [] (Value.bool true) [] 2 [])] 0 [] []) [] = some ⟨.ret (.bool true), [], 2,
    [CJ Tryd.prog B 14 #[] [] 2 (Value.bool true) [] 2 [],
CJ Tryd.prog B 24
  #[Value.agg
      #[Value.int IntKind.i64 (Isl.cap i), Value.int IntKind.i64 (Isl.sl i), Value.int IntKind.i64 (Isl.sh i),
        Value.int IntKind.i64 (Isl.roof i), Value.int IntKind.i64 (Isl.sand i), Value.int IntKind.i64 (Isl.kl i),
        Value.int IntKind.i64 (Isl.kh i), Value.int IntKind.i64 (Isl.ll i), Value.int IntKind.i64 (Isl.lh i),
        Value.int IntKind.i64 (Isl.pump i), Value.int IntKind.i64 (Isl.keep i), Value.int IntKind.i64 (Isl.size i), W,
        M, Value.int IntKind.i64 (Isl.most i), Value.int IntKind.i64 (Isl.row i)],
    Value.agg
      #[Value.int IntKind.i64 (Tru.start t), Value.int IntKind.i64 (Tru.soak t), Value.int IntKind.i64 (Tru.leak t), D,
        R, N]]
  [] 2 (Value.bool false) [] 2 [],
CJ Tryd.prog B 18
  #[Value.agg
      #[Value.int IntKind.i64 (Isl.cap i), Value.int IntKind.i64 (Isl.sl i), Value.int IntKind.i64 (Isl.sh i),
        Value.int IntKind.i64 (Isl.roof i), Value.int IntKind.i64 (Isl.sand i), Value.int IntKind.i64 (Isl.kl i),
        Value.int IntKind.i64 (Isl.kh i), Value.int IntKind.i64 (Isl.ll i), Value.int IntKind.i64 (Isl.lh i),
        Value.int IntKind.i64 (Isl.pump i), Value.int IntKind.i64 (Isl.keep i), Value.int IntKind.i64 (Isl.size i), W,
        M, Value.int IntKind.i64 (Isl.most i), Value.int IntKind.i64 (Isl.row i)],
    Value.int IntKind.i64 tanks]
  [] 2 (Value.bool true) [] 2 [],
CJ Tryd.prog B 22
  #[Value.agg
      #[Value.int IntKind.i64 (Tru.start t), Value.int IntKind.i64 (Tru.soak t), Value.int IntKind.i64 (Tru.leak t), D,
        R, N]]
  [] 2 (Value.bool true) [] 2 [],
CJ Tryd.prog B 21
  #[Value.agg
      #[Value.int IntKind.i64 (Isl.cap i), Value.int IntKind.i64 (Isl.sl i), Value.int IntKind.i64 (Isl.sh i),
        Value.int IntKind.i64 (Isl.roof i), Value.int IntKind.i64 (Isl.sand i), Value.int IntKind.i64 (Isl.kl i),
        Value.int IntKind.i64 (Isl.kh i), Value.int IntKind.i64 (Isl.ll i), Value.int IntKind.i64 (Isl.lh i),
        Value.int IntKind.i64 (Isl.pump i), Value.int IntKind.i64 (Isl.keep i), Value.int IntKind.i64 (Isl.size i), W,
        M, Value.int IntKind.i64 (Isl.most i), Value.int IntKind.i64 (Isl.row i)]]
  [] 2 (Value.bool true) [] 2 []]⟩ := by kernel_rfl
set_option maxRecDepth 100000 in
theorem lt_entry (B : Lo) (i : Isl) (t : Tru) (tanks : Int) (W D R N : Value) (mb mo mc : Nat) (E K : Array Value) (g0 g1 g2 g3 g4 g5 : Int) : land (srun Tryd.prog goFns B 21 0 (entryC Tryd.prog 6 116 [.agg (islC i W (.slice (some ⟨mb, mo, some 0⟩) i.nm mc)), .int .i64 tanks, .agg (truC t D R N)]) [] 0
    [(4, Hint.call [] (Value.bool true) [] 2 []),
(8, Hint.call [] (Value.bool true) [] 2 []),
(14, Hint.call [] (Value.bool true) [] 2 []),
(20, Hint.call [] (Value.bool true) [] 2 []),
(26, Hint.call []
  (Value.tuple
    #[Value.slice (some { block := 2, off := 0 }) (Isl.nm i) 0,
      Value.agg
        #[Value.int IntKind.i64 g0, Value.int IntKind.i64 g1, Value.int IntKind.i64 g2, Value.int IntKind.i64 g3,
          Value.int IntKind.i64 g4, Value.int IntKind.i64 g5],
      Value.int IntKind.i64 0])
  [(2, Obj.cells E 53 (1, 1))] 3 []),
(37, Hint.call [] (Value.tuple #[Value.slice (some { block := 4, off := 0 }) (Isl.nm i) 0, Value.int IntKind.i64 0])
  [(4, Obj.cells K 56 (1, 1))] 5 []),
(55, Hint.val (Value.bool false)),
(62, Hint.val (Value.bool false))] 0 [] []) ((ltL i.nm 0).map (·.1)) ((kz [2, 4] (ltO E K)).map (·.old)) = some ⟨6, 116, ltT.map (it (bodyOf Tryd.prog 6)), [], .run, none, (ltL i.nm 0).map (fun p => rnV (rhoK (kz [2, 4] (ltO E K))) 3 p.2), (kz [2, 4] (ltO E K)).map (fun kept_ => some (wasK (rhoK (kz [2, 4] (ltO E K))) kept_)), 5,
    [(!eqq (↑(Isl.nm i) : Int) (↑(Isl.nm i) : Int)) = false,
(!eqq (↑(Isl.nm i) : Int) (↑(Isl.nm i) : Int)) = false,
CJ Tryd.prog B 16
  #[Value.agg
      #[Value.int IntKind.i64 (Isl.cap i), Value.int IntKind.i64 (Isl.sl i), Value.int IntKind.i64 (Isl.sh i),
        Value.int IntKind.i64 (Isl.roof i), Value.int IntKind.i64 (Isl.sand i), Value.int IntKind.i64 (Isl.kl i),
        Value.int IntKind.i64 (Isl.kh i), Value.int IntKind.i64 (Isl.ll i), Value.int IntKind.i64 (Isl.lh i),
        Value.int IntKind.i64 (Isl.pump i), Value.int IntKind.i64 (Isl.keep i), Value.int IntKind.i64 (Isl.size i), W,
        Value.slice (some { block := mb, off := mo, spot := some 0 }) (Isl.nm i) mc, Value.int IntKind.i64 (Isl.most i),
        Value.int IntKind.i64 (Isl.row i)],
    Value.int IntKind.i64 tanks]
  [] 4 (Value.tuple #[Value.slice (some { block := 4, off := 0 }) (Isl.nm i) 0, Value.int IntKind.i64 0])
  [(4, Obj.cells K 56 (1, 1))] 5 [],
CJ Tryd.prog B 23
  #[Value.agg
      #[Value.int IntKind.i64 (Isl.cap i), Value.int IntKind.i64 (Isl.sl i), Value.int IntKind.i64 (Isl.sh i),
        Value.int IntKind.i64 (Isl.roof i), Value.int IntKind.i64 (Isl.sand i), Value.int IntKind.i64 (Isl.kl i),
        Value.int IntKind.i64 (Isl.kh i), Value.int IntKind.i64 (Isl.ll i), Value.int IntKind.i64 (Isl.lh i),
        Value.int IntKind.i64 (Isl.pump i), Value.int IntKind.i64 (Isl.keep i), Value.int IntKind.i64 (Isl.size i), W,
        Value.slice (some { block := mb, off := mo, spot := some 0 }) (Isl.nm i) mc, Value.int IntKind.i64 (Isl.most i),
        Value.int IntKind.i64 (Isl.row i)],
    Value.int IntKind.i64 tanks,
    Value.agg
      #[Value.int IntKind.i64 (Tru.start t), Value.int IntKind.i64 (Tru.soak t), Value.int IntKind.i64 (Tru.leak t), D,
        R, N]]
  [] 2
  (Value.tuple
    #[Value.slice (some { block := 2, off := 0 }) (Isl.nm i) 0,
      Value.agg
        #[Value.int IntKind.i64 g0, Value.int IntKind.i64 g1, Value.int IntKind.i64 g2, Value.int IntKind.i64 g3,
          Value.int IntKind.i64 g4, Value.int IntKind.i64 g5],
      Value.int IntKind.i64 0])
  [(2, Obj.cells E 53 (1, 1))] 3 [],
CJ Tryd.prog B 24
  #[Value.agg
      #[Value.int IntKind.i64 (Isl.cap i), Value.int IntKind.i64 (Isl.sl i), Value.int IntKind.i64 (Isl.sh i),
        Value.int IntKind.i64 (Isl.roof i), Value.int IntKind.i64 (Isl.sand i), Value.int IntKind.i64 (Isl.kl i),
        Value.int IntKind.i64 (Isl.kh i), Value.int IntKind.i64 (Isl.ll i), Value.int IntKind.i64 (Isl.lh i),
        Value.int IntKind.i64 (Isl.pump i), Value.int IntKind.i64 (Isl.keep i), Value.int IntKind.i64 (Isl.size i), W,
        Value.slice (some { block := mb, off := mo, spot := some 0 }) (Isl.nm i) mc, Value.int IntKind.i64 (Isl.most i),
        Value.int IntKind.i64 (Isl.row i)],
    Value.agg
      #[Value.int IntKind.i64 (Tru.start t), Value.int IntKind.i64 (Tru.soak t), Value.int IntKind.i64 (Tru.leak t), D,
        R, N]]
  [] 2 (Value.bool true) [] 2 [],
CJ Tryd.prog B 18
  #[Value.agg
      #[Value.int IntKind.i64 (Isl.cap i), Value.int IntKind.i64 (Isl.sl i), Value.int IntKind.i64 (Isl.sh i),
        Value.int IntKind.i64 (Isl.roof i), Value.int IntKind.i64 (Isl.sand i), Value.int IntKind.i64 (Isl.kl i),
        Value.int IntKind.i64 (Isl.kh i), Value.int IntKind.i64 (Isl.ll i), Value.int IntKind.i64 (Isl.lh i),
        Value.int IntKind.i64 (Isl.pump i), Value.int IntKind.i64 (Isl.keep i), Value.int IntKind.i64 (Isl.size i), W,
        Value.slice (some { block := mb, off := mo, spot := some 0 }) (Isl.nm i) mc, Value.int IntKind.i64 (Isl.most i),
        Value.int IntKind.i64 (Isl.row i)],
    Value.int IntKind.i64 tanks]
  [] 2 (Value.bool true) [] 2 [],
CJ Tryd.prog B 22
  #[Value.agg
      #[Value.int IntKind.i64 (Tru.start t), Value.int IntKind.i64 (Tru.soak t), Value.int IntKind.i64 (Tru.leak t), D,
        R, N]]
  [] 2 (Value.bool true) [] 2 [],
CJ Tryd.prog B 21
  #[Value.agg
      #[Value.int IntKind.i64 (Isl.cap i), Value.int IntKind.i64 (Isl.sl i), Value.int IntKind.i64 (Isl.sh i),
        Value.int IntKind.i64 (Isl.roof i), Value.int IntKind.i64 (Isl.sand i), Value.int IntKind.i64 (Isl.kl i),
        Value.int IntKind.i64 (Isl.kh i), Value.int IntKind.i64 (Isl.ll i), Value.int IntKind.i64 (Isl.lh i),
        Value.int IntKind.i64 (Isl.pump i), Value.int IntKind.i64 (Isl.keep i), Value.int IntKind.i64 (Isl.size i), W,
        Value.slice (some { block := mb, off := mo, spot := some 0 }) (Isl.nm i) mc, Value.int IntKind.i64 (Isl.most i),
        Value.int IntKind.i64 (Isl.row i)]]
  [] 2 (Value.bool true) [] 2 []]⟩ := by kernel_rfl
set_option maxRecDepth 100000 in
theorem lt_round (B : Lo) (nm k : Nat) (E K : Array Value) (e0 e1 e2 b0 b1 b2 b3 b4 b5 : Int) (d : Nat → Value) : land (srun Tryd.prog goFns B 14 0 (headC 6 116 (ltL nm k) d (ltT.map (it (bodyOf Tryd.prog 6)))) (heapO 0 (ltO E K)) ((ltO E K)).length
    [(3, Hint.val (Value.bool true)),
(6, Hint.idx k),
(8, Hint.ld (Value.int IntKind.i64 e0)),
(11, Hint.idx k),
(13, Hint.ld (Value.agg #[Value.int IntKind.i64 b0, Value.int IntKind.i64 b1])),
(14, Hint.call [] (Value.bool true) [] 2 []),
(19, Hint.idx k),
(21, Hint.ld (Value.int IntKind.i64 e1)),
(24, Hint.idx k),
(26, Hint.ld (Value.agg #[Value.int IntKind.i64 b2, Value.int IntKind.i64 b3])),
(27, Hint.call [] (Value.bool true) [] 2 []),
(33, Hint.idx k),
(35, Hint.ld (Value.int IntKind.i64 e2)),
(38, Hint.idx k),
(40, Hint.ld (Value.agg #[Value.int IntKind.i64 b4, Value.int IntKind.i64 b5])),
(41, Hint.call [] (Value.bool true) [] 2 []),
(45, Hint.val (Value.int IntKind.i64 ((↑k : Int) + 1)))] 0 [] []) ((ltL nm (k + 1)).map (·.1)) ((kz [0, 1] (ltO E K)).map (·.old)) = some ⟨6, 116, ltT.map (it (bodyOf Tryd.prog 6)), [], .run, none, (ltL nm (k + 1)).map (fun p => rnV (rhoK (kz [0, 1] (ltO E K))) 3 p.2), (kz [0, 1] (ltO E K)).map (fun kept_ => some (wasK (rhoK (kz [0, 1] (ltO E K))) kept_)), 2,
    [wq ((↑k : Int) + 1) = (↑k : Int) + 1,
CJ Tryd.prog B 27 #[Value.int IntKind.i64 e2, Value.agg #[Value.int IntKind.i64 b4, Value.int IntKind.i64 b5]] [] 2
  (Value.bool true) [] 2 [],
0 + k * 6 + 4 + TypeInfo.size Tryd.t23 ≤ Array.size K ∧
  Array.extract K (0 + k * 6 + 4) (0 + k * 6 + 4 + TypeInfo.size Tryd.t23) =
    #[Value.int IntKind.i64 b4, Value.int IntKind.i64 b5],
(↑k : Int) = (↑k : Int) ∧ k < nm,
E[0 + k * 3 + 2]? = some (Value.int IntKind.i64 e2),
(↑k : Int) = (↑k : Int) ∧ k < nm,
CJ Tryd.prog B 27 #[Value.int IntKind.i64 e1, Value.agg #[Value.int IntKind.i64 b2, Value.int IntKind.i64 b3]] [] 2
  (Value.bool true) [] 2 [],
0 + k * 6 + 2 + TypeInfo.size Tryd.t23 ≤ Array.size K ∧
  Array.extract K (0 + k * 6 + 2) (0 + k * 6 + 2 + TypeInfo.size Tryd.t23) =
    #[Value.int IntKind.i64 b2, Value.int IntKind.i64 b3],
(↑k : Int) = (↑k : Int) ∧ k < nm,
E[0 + k * 3 + 1]? = some (Value.int IntKind.i64 e1),
(↑k : Int) = (↑k : Int) ∧ k < nm,
CJ Tryd.prog B 27 #[Value.int IntKind.i64 e0, Value.agg #[Value.int IntKind.i64 b0, Value.int IntKind.i64 b1]] [] 2
  (Value.bool true) [] 2 [],
0 + k * 6 + 0 + TypeInfo.size Tryd.t23 ≤ Array.size K ∧
  Array.extract K (0 + k * 6 + 0) (0 + k * 6 + 0 + TypeInfo.size Tryd.t23) =
    #[Value.int IntKind.i64 b0, Value.int IntKind.i64 b1],
(↑k : Int) = (↑k : Int) ∧ k < nm,
E[0 + k * 3 + 0]? = some (Value.int IntKind.i64 e0),
(↑k : Int) = (↑k : Int) ∧ k < nm,
ltq (↑k : Int) (↑nm : Int) = true]⟩ := by kernel_rfl
set_option maxRecDepth 100000 in
theorem lt_end (B : Lo) (nm k : Nat) (E K : Array Value) (d : Nat → Value) : ended (srun Tryd.prog goFns B 9 0 (headC 6 116 (ltL nm k) d (ltT.map (it (bodyOf Tryd.prog 6)))) (heapO 0 (ltO E K)) ((ltO E K)).length
    [(3, Hint.val (Value.bool false)),
(4, Hint.call [] (Value.bool true) [] 2 [])] 0 [] []) [] = some ⟨.ret (.bool true), [], 2,
    [CJ Tryd.prog B 14 #[] [] 2 (Value.bool true) [] 2 [],
ltq (↑k : Int) (↑nm : Int) = false]⟩ := by kernel_rfl
theorem row_piece {e : Nat → List Value} {z n m off c : Nat} {x : List Value} (h : ∀ k, (e k).length = z) (hm : m < n) (hc : off + c ≤ z) (hx : x.length = c) (hg : ∀ j, j < c → (e m)[off + j]? = x[j]?) : 0 + m * z + off + c ≤ (rowA e n).size ∧ (rowA e n).extract (0 + m * z + off) (0 + m * z + off + c) = x.toArray := by
  have hs := rowA_size h n
  have hle : m * z + z ≤ n * z := by
    rw [← Nat.succ_mul]; exact Nat.mul_le_mul_right _ hm
  have h0 : 0 + m * z + off + c ≤ (rowA e n).size := by rw [hs]; omega
  refine ⟨h0, Array.ext (by simp [hx]; omega) fun j q1 q2 => ?_⟩
  have hj : j < c := by simpa [hx] using q2
  have h3 : 0 + m * z + off + j < (rowA e n).size := by omega
  rw [Array.getElem_extract]
  have a := rowA_get h (show off + j < z by omega) n m hm
  have b := hg j hj
  have e1 : (rowA e n)[0 + m * z + off + j]? = some (rowA e n)[0 + m * z + off + j] := by simp
  rw [show m * z + (off + j) = 0 + m * z + off + j by omega, e1, b] at a
  have hj' : j < x.length := by omega
  have e2 : x[j]? = some x[j] := by simp [hj']
  rw [e2] at a
  simpa using a
theorem con_inside {w : World} {n : Nat} {x lo hi : Int} (h : lo ≤ x) (k : x ≤ hi) : CJ Tryd.prog (worldLo w) 27 #[.int .i64 x, .agg #[.int .i64 lo, .int .i64 hi]] [] n (.bool true) [] n [] :=
  con_of (l := [.int .i64 x, .agg #[.int .i64 lo, .int .i64 hi]]) (l' := [.int .i64 x, .agg #[.int .i64 lo, .int .i64 hi]]) (.cons (exact_af rfl) (.cons (exact_agg (.cons (exact_af rfl) (.cons (exact_af rfl) .nil))) .nil)) (exact_af rfl) fun w' _ => by
    have := rInside_any x lo hi w'
    rw [isInB_iff.2 ⟨h, k⟩] at this
    exact this
theorem lt_ret {B : Lo} {f : FuncId} {len : Nat} {w : World} {i : Isl} {wa : Option Addr} {wc : Nat} {ma : Option Addr} {mc : Nat} {tanks : Int} {t : Tru} {da : Option Addr} {dc : Nat} {ra : Option Addr} {rc : Nat} {na : Option Addr} {nc : Nat} {c : CF} {H : Heap} {n fuel n' : Nat} {sc : Script} {L : List Prop} {W : List Nat}
    (hc : enterC Tryd.prog f #[islR i wa wc ma mc, .int .i64 tanks, truR t da dc ra rc na nc] = some (entryC Tryd.prog f len [islR i wa wc ma mc, .int .i64 tanks, truR t da dc ra rc na nc]))
    (hg : GoE Tryd.prog B (entryC Tryd.prog f len [islR i wa wc ma mc, .int .i64 tanks, truR t da dc ra rc na nc]) [] 0 c H n W)
    (e : ended (srun Tryd.prog goFns B fuel 0 c H n sc 0 [] []) [] = some ⟨.ret (.bool true), [], n', L⟩) (hL : AllP L) (hB : B.has w) :
    Calls Tryd.prog f #[islV i wa wc ma mc, .int .i64 tanks, truV t da dc ra rc na nc] w fun e' w' => e' = .returned (.bool true) ∧ Below w.heap.size w w' :=
  (hg.calls goFns_ok mixed_ok hc e hL hB (VRl.vrs' ex_it.vrl)).mono fun _ _ ⟨v', _, he, hv, hb, _⟩ => ⟨by rw [he, af_eq (v := .bool true) rfl hv], hb⟩
set_option maxRecDepth 100000 in
theorem true_walk : Walk3 6 := by
  intro i wa wc ma mc tanks t da dc ra rc na nc w hi ht hp
  have hB := worldLo_has w
  cases hs : shortB i with
  | false => exact lt_ret (by kernel_rfl) (GoE.refl under_nil) (lt_short (worldLo w) i t tanks _ _ _ _ _) ⟨con_known hp, hs ▸ con_short, trivial⟩ hB
  | true =>
    cases hz : sizedB t with
    | false => exact lt_ret (by kernel_rfl) (GoE.refl under_nil) (lt_sized (worldLo w) i t tanks _ _ _ _ _) ⟨con_known hp, hz ▸ con_sized, hs ▸ con_short, trivial⟩ hB
    | true =>
      cases ha : (islB i && tanksB tanks) with
      | false => exact lt_ret (by kernel_rfl) (GoE.refl under_nil) (lt_asked (worldLo w) i t tanks _ _ _ _ _) ⟨con_known hp, ha ▸ con_asked hi, hz ▸ con_sized, hs ▸ con_short, trivial⟩ hB
      | true =>
        have hmr : 0 ≤ i.most ∧ 0 ≤ i.row ∧ 1 ≤ i.nm := by
          have := ha
          simp only [islB, monthsB, Bool.and_eq_true, isInB_iff] at this
          exact ⟨this.1.1.2.1, this.1.2.1, by omega⟩
        cases htr : truB i t with
        | false => exact lt_ret (by kernel_rfl) (GoE.refl under_nil) (lt_truth (worldLo w) i t tanks _ _ _ _ _) ⟨con_known hp, htr ▸ con_truth hi ht hmr.1 hmr.2.1, ha ▸ con_asked hi, hz ▸ con_sized, hs ▸ con_short, trivial⟩ hB
        | true =>
          have ha' := ha
          simp only [Bool.and_eq_true] at ha'
          obtain ⟨mb, mo, rfl, _⟩ := monsGet hi.months (show 0 < i.nm by omega)
          have hnm8 : i.nm ≤ 8 := (fit_of ha'.1 ha'.2 htr).nm
          have ok : OkAll 2 (ltO (rowA (seenE i tanks t) i.nm) (knA i tanks)) := ⟨.inr ⟨rfl, loose_seenE _ _ _ _⟩, .inr ⟨rfl, loose_knE _ _⟩, trivial⟩
          have all : ∀ k, k ≤ i.nm → ∃ d : Nat → Value, (∀ t, Loose (d t)) ∧ GoE Tryd.prog (worldLo w) (entryC Tryd.prog 6 116 [islR i wa wc (some ⟨mb, mo, none⟩) mc, .int .i64 tanks, truR t da dc ra rc na nc]) [] 0
              (headC 6 116 (ltL i.nm k) d (ltT.map (it (bodyOf Tryd.prog 6)))) (heapO 0 (ltO (rowA (seenE i tanks t) i.nm) (knA i tanks))) 2 [] := by
            intro k
            induction k with
            | zero =>
              intro _
              exact (GoE.refl under_nil).headO goFns_ok mixed_ok
                (lt_entry (worldLo w) i t tanks (rawS wa i.nw wc) (rawS da t.nd dc) (rawS ra t.nr rc) (rawS na t.nn nc) mb mo mc (rowA (seenE i tanks t) i.nm) (knA i tanks) (i.size * tanks + t.start) (runTo i tanks t i.nm).rain (runTo i tanks t i.nm).used (runTo i tanks t i.nm).leak (runTo i tanks t i.nm).sea ((runTo i tanks t i.nm).tanks + (runTo i tanks t i.nm).lens))
                ⟨by simp [eqq_eq], by simp [eqq_eq], con_Known hi ha'.1 ha'.2, con_play hi ht ha'.1 ha'.2 htr, htr ▸ con_truth hi ht hmr.1 hmr.2.1, ha ▸ con_asked hi, hz ▸ con_sized, hs ▸ con_short (w := w) (i := i) (wa := wa) (wc := wc) (ma := some ⟨mb, mo, none⟩) (mc := mc) (n := 2), trivial⟩
                (by kernel_rfl) (by kernel_rfl) (by kernel_rfl) (by kernel_rfl) (by kernel_rfl) (by kernel_rfl) ok
            | succ k ih =>
              intro hk
              obtain ⟨d, _, hg⟩ := ih (by omega)
              have hlt : k < i.nm := by omega
              have hin := true_within ha'.1 ha'.2 htr hlt
              have hE : ∀ j, j < 3 → (rowA (seenE i tanks t) i.nm)[0 + k * 3 + j]? = (seenE i tanks t k)[j]? := fun j hj => by rw [Nat.zero_add]; exact rowA_get (z := 3) (fun _ => rfl) hj i.nm k hlt
              have hK : ∀ off (x : List Value), x.length = 2 → off + 2 ≤ 6 → (∀ j, j < 2 → (knE (upTo i tanks (fun _ => noKn) (2 ^ i.nm)) k)[off + j]? = x[j]?) → 0 + k * 6 + off + 2 ≤ (knA i tanks).size ∧ (knA i tanks).extract (0 + k * 6 + off) (0 + k * 6 + off + 2) = x.toArray := fun off x hx h6 hg => row_piece (z := 6) (fun _ => rfl) hlt h6 hx hg
              have two : ∀ {p : Nat → Prop}, p 0 → p 1 → ∀ j, j < 2 → p j := fun h0 h1 j hj => by
                rcases (show j = 0 ∨ j = 1 by omega) with rfl | rfl
                · exact h0
                · exact h1
              exact hg.headO goFns_ok mixed_ok
                (lt_round (worldLo w) i.nm k (rowA (seenE i tanks t) i.nm) (knA i tanks) (runTo i tanks t (k + 1)).tanks (runTo i tanks t (k + 1)).lens (runTo i tanks t (k + 1)).lack (upTo i tanks (fun _ => noKn) (2 ^ i.nm) k).tl (upTo i tanks (fun _ => noKn) (2 ^ i.nm) k).th (upTo i tanks (fun _ => noKn) (2 ^ i.nm) k).ll (upTo i tanks (fun _ => noKn) (2 ^ i.nm) k).lh (upTo i tanks (fun _ => noKn) (2 ^ i.nm) k).kl (upTo i tanks (fun _ => noKn) (2 ^ i.nm) k).kh d)
                ⟨wq_in (by omega) (by omega), con_inside hin.k0 hin.k1, hK 4 [_, _] rfl (by omega) (two rfl rfl), ⟨rfl, hlt⟩, hE 2 (by omega), ⟨rfl, hlt⟩, con_inside hin.l0 hin.l1, hK 2 [_, _] rfl (by omega) (two rfl rfl), ⟨rfl, hlt⟩, hE 1 (by omega), ⟨rfl, hlt⟩,
                  con_inside hin.t0 hin.t1, hK 0 [_, _] rfl (by omega) (two rfl rfl), ⟨rfl, hlt⟩, hE 0 (by omega), ⟨rfl, hlt⟩, ltq_t (by omega), trivial⟩
                (by kernel_rfl) (by kernel_rfl) (by kernel_rfl) (by kernel_rfl) (by kernel_rfl) (by kernel_rfl) ok
          obtain ⟨d, _, hg⟩ := all i.nm (Nat.le_refl _)
          exact lt_ret (by kernel_rfl) hg (lt_end (worldLo w) i.nm i.nm (rowA (seenE i tanks t) i.nm) (knA i tanks) d) ⟨con_known hp, ltq_f (by omega), trivial⟩ hB
end Go.Proofs.YtfaboddhhepdiaaDoor

