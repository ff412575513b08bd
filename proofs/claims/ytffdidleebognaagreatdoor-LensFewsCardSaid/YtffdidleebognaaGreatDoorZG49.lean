/- Contract of the reference's End at a list that stands in memory that nobody writes. -/
import Derived.Test.YtffdidleebognaaGreatDoorZG48
import Derived.Test.YtffdidleebognaaGreatDoorZG23
import Derived.Test.YtffdidleebognaaGreatDoorZG43
import Derived.Test.YtffdidleebognaaGreatDoorZG07
namespace Go.Proofs.YtffdidleebognaaGreatDoor
open Go Go.CE Go.Proofs Go.RowKit Lens
def erO (i : Isl) (W : Value) (mb mo ms : Nat) (a b c : Int) (db do_ nd z : Nat) (R N : Value) : List (Bool × Obj) :=
  [(false, .cells (islC i W (.slice (some ⟨mb, mo, some 0⟩) i.nm ms)) 27 (0, 0)),
   (true, .cells #[.int .i64 0, .int .i64 0, .int .i64 0, .slice none 0 0, .slice none 0 0, .slice none 0 0] 40 (0, 0)),
   (true, .cells #[.int .i64 a, .int .i64 b, .int .i64 c, .slice (some ⟨db, do_, some 0⟩) nd z, R, N] 40 (0, 0))]
def erL (db do_ nd z k : Nat) (much : Bool) : List (Nat × Value) :=
  [(1, .slice (some ⟨db, do_, some 0⟩) nd z), (2, .bool much), (3, .pointer (some ⟨0, 0, none⟩)), (6, .pointer (some ⟨1, 0, none⟩)), (7, .pointer (some ⟨2, 0, none⟩)), (8, .int .i64 k)]
set_option maxRecDepth 100000 in
theorem ler_entry (B : Lo) (i : Isl) (W : Value) (mb mo ms db do_ nd z : Nat) : landB (srun Tryz.prog goFns B 14 0 (entryC Tryz.prog 29 91 [.agg (islC i W (.slice (some ⟨mb, mo, some 0⟩) i.nm ms)), .slice (some ⟨db, do_, some 0⟩) nd z, .bool false]) (heapO 0 ([] : List (Bool × Obj))) 0
    [] 0 [] []) ((erL db do_ nd z 0 false).map (·.1)) ((kz [0, 1, 2] (erO i W mb mo ms i.sl i.kl i.lh db do_ nd z (.slice none 0 0) (.slice none 0 0))).map (·.old)) = some (⟨29, 91, enT.map (it (bodyOf Tryz.prog 29)), [], .run, none, (erL db do_ nd z 0 false).map (fun p => rnV (rhoK (kz [0, 1, 2] (erO i W mb mo ms i.sl i.kl i.lh db do_ nd z (.slice none 0 0) (.slice none 0 0)))) 3 p.2), (kz [0, 1, 2] (erO i W mb mo ms i.sl i.kl i.lh db do_ nd z (.slice none 0 0) (.slice none 0 0))).map (fun kept_ => some (wasK (rhoK (kz [0, 1, 2] (erO i W mb mo ms i.sl i.kl i.lh db do_ nd z (.slice none 0 0) (.slice none 0 0)))) kept_)), 3,
    []⟩, []) := by kernel_rfl
set_option maxRecDepth 100000 in
theorem ler_first (B : Lo) (i : Isl) (W : Value) (mb mo ms db do_ nd z : Nat) (a b c : Int) (m : Mon) (y : Bool) (r0 r1 : Int) (d : Nat → Value) : landB (srun Tryz.prog goFns B 18 0 (headC 29 91 (erL db do_ nd z 0 false) d (enT.map (it (bodyOf Tryz.prog 29)))) (heapO 0 (erO i W mb mo ms a b c db do_ nd z (.slice none 0 0) (.slice none 0 0))) ((erO i W mb mo ms a b c db do_ nd z (.slice none 0 0) (.slice none 0 0))).length
    [(4, Hint.val (Value.bool true)),
(8, Hint.idx 0),
(9, Hint.raw
  (Value.agg
    #[Value.int IntKind.i64 (Mon.wl m), Value.int IntKind.i64 (Mon.wh m), Value.int IntKind.i64 (Mon.dl m),
      Value.int IntKind.i64 (Mon.dh m), Value.int IntKind.i64 (Mon.nl m), Value.int IntKind.i64 (Mon.nh m)])),
(12, Hint.idx 0),
(13, Hint.raw (Value.bool y)),
(14, Hint.call [] (Value.agg #[Value.int IntKind.i64 r0, Value.int IntKind.i64 r1]) [] 3 []),
(19, Hint.idx 0),
(22, Hint.raw (Value.int IntKind.i64 (Mon.nh m)))] 0 [] []) ((erL db do_ nd z 1 false).map (·.1)) ((kz [0, 1, 2, 4, 6] (erO i W mb mo ms a b c db do_ nd z (.slice (some ⟨3, 0, none⟩) 1 1) (.slice (some ⟨4, 0, none⟩) 1 1) ++ [(false, Obj.cells #[.int .i64 r0] 3 (0, 0)), (false, Obj.cells #[.int .i64 m.nh] 3 (0, 0))])).map (·.old)) = some (⟨29, 91, enT.map (it (bodyOf Tryz.prog 29)), [], .run, none, (erL db do_ nd z 1 false).map (fun p => rnV (rhoK (kz [0, 1, 2, 4, 6] (erO i W mb mo ms a b c db do_ nd z (.slice (some ⟨3, 0, none⟩) 1 1) (.slice (some ⟨4, 0, none⟩) 1 1) ++ [(false, Obj.cells #[.int .i64 r0] 3 (0, 0)), (false, Obj.cells #[.int .i64 m.nh] 3 (0, 0))]))) 3 p.2), (kz [0, 1, 2, 4, 6] (erO i W mb mo ms a b c db do_ nd z (.slice (some ⟨3, 0, none⟩) 1 1) (.slice (some ⟨4, 0, none⟩) 1 1) ++ [(false, Obj.cells #[.int .i64 r0] 3 (0, 0)), (false, Obj.cells #[.int .i64 m.nh] 3 (0, 0))])).map (fun kept_ => some (wasK (rhoK (kz [0, 1, 2, 4, 6] (erO i W mb mo ms a b c db do_ nd z (.slice (some ⟨3, 0, none⟩) 1 1) (.slice (some ⟨4, 0, none⟩) 1 1) ++ [(false, Obj.cells #[.int .i64 r0] 3 (0, 0)), (false, Obj.cells #[.int .i64 m.nh] 3 (0, 0))]))) kept_)), 7,
    [RawCell B mb (mo + 0 + 4 + 1) (Value.int IntKind.i64 (Mon.nh m)),
0 = (↑0 : Int) ∧ 0 < Isl.nm i,
CJ Tryz.prog B 46
  #[Value.agg
      #[Value.int IntKind.i64 (Mon.wl m), Value.int IntKind.i64 (Mon.wh m), Value.int IntKind.i64 (Mon.dl m),
        Value.int IntKind.i64 (Mon.dh m), Value.int IntKind.i64 (Mon.nl m), Value.int IntKind.i64 (Mon.nh m)],
    Value.bool y]
  [] 3 (Value.agg #[Value.int IntKind.i64 r0, Value.int IntKind.i64 r1]) [] 3 [],
RawCell B db (do_ + 0) (Value.bool y),
0 = (↑0 : Int) ∧ 0 < nd,
∀ (j : Nat) (u : Value),
  #[Value.int IntKind.i64 (Mon.wl m), Value.int IntKind.i64 (Mon.wh m), Value.int IntKind.i64 (Mon.dl m),
          Value.int IntKind.i64 (Mon.dh m), Value.int IntKind.i64 (Mon.nl m), Value.int IntKind.i64 (Mon.nh m)][j]? =
      some u →
    RawCell B mb (mo + 0 + j) u,
0 = (↑0 : Int) ∧ 0 < Isl.nm i,
ltq 0 (↑(Isl.nm i) : Int) = true]⟩, []) := by kernel_rfl
set_option maxRecDepth 100000 in
theorem ler_round (B : Lo) (i : Isl) (W : Value) (mb mo ms db do_ nd z k : Nat) (a b c : Int) (m : Mon) (y : Bool) (r0 r1 : Int) (X Y : Array Value) (d : Nat → Value) : landB (srun Tryz.prog goFns B 18 0 (headC 29 91 (erL db do_ nd z k false) d (enT.map (it (bodyOf Tryz.prog 29)))) (heapO 0 (erO i W mb mo ms a b c db do_ nd z (.slice (some ⟨3, 0, none⟩) k 1) (.slice (some ⟨4, 0, none⟩) k 1) ++ [(false, Obj.cells X 3 (0, 0)), (false, Obj.cells Y 3 (0, 0))])) ((erO i W mb mo ms a b c db do_ nd z (.slice (some ⟨3, 0, none⟩) k 1) (.slice (some ⟨4, 0, none⟩) k 1) ++ [(false, Obj.cells X 3 (0, 0)), (false, Obj.cells Y 3 (0, 0))])).length
    [(4, Hint.val (Value.bool true)),
(8, Hint.idx k),
(9, Hint.raw
  (Value.agg
    #[Value.int IntKind.i64 (Mon.wl m), Value.int IntKind.i64 (Mon.wh m), Value.int IntKind.i64 (Mon.dl m),
      Value.int IntKind.i64 (Mon.dh m), Value.int IntKind.i64 (Mon.nl m), Value.int IntKind.i64 (Mon.nh m)])),
(12, Hint.idx k),
(13, Hint.raw (Value.bool y)),
(14, Hint.call [] (Value.agg #[Value.int IntKind.i64 r0, Value.int IntKind.i64 r1]) [] 5 []),
(19, Hint.idx k),
(22, Hint.raw (Value.int IntKind.i64 (Mon.nh m))),
(30, Hint.app (X ++ #[Value.int IntKind.i64 r0])),
(35, Hint.app (Y ++ #[Value.int IntKind.i64 (Mon.nh m)])),
(41, Hint.val (Value.int IntKind.i64 ((↑k : Int) + 1)))] 0 [] []) ((erL db do_ nd z (k + 1) false).map (·.1)) ((kz [0, 1, 2, 6, 8] (erO i W mb mo ms a b c db do_ nd z (.slice (some ⟨3, 0, none⟩) (k + 1) 1) (.slice (some ⟨4, 0, none⟩) (k + 1) 1) ++ [(false, Obj.cells (X ++ #[.int .i64 r0]) 3 (0, 0)), (false, Obj.cells (Y ++ #[.int .i64 m.nh]) 3 (0, 0))])).map (·.old)) = some (⟨29, 91, enT.map (it (bodyOf Tryz.prog 29)), [], .run, none, (erL db do_ nd z (k + 1) false).map (fun p => rnV (rhoK (kz [0, 1, 2, 6, 8] (erO i W mb mo ms a b c db do_ nd z (.slice (some ⟨3, 0, none⟩) (k + 1) 1) (.slice (some ⟨4, 0, none⟩) (k + 1) 1) ++ [(false, Obj.cells (X ++ #[.int .i64 r0]) 3 (0, 0)), (false, Obj.cells (Y ++ #[.int .i64 m.nh]) 3 (0, 0))]))) 3 p.2), (kz [0, 1, 2, 6, 8] (erO i W mb mo ms a b c db do_ nd z (.slice (some ⟨3, 0, none⟩) (k + 1) 1) (.slice (some ⟨4, 0, none⟩) (k + 1) 1) ++ [(false, Obj.cells (X ++ #[.int .i64 r0]) 3 (0, 0)), (false, Obj.cells (Y ++ #[.int .i64 m.nh]) 3 (0, 0))])).map (fun kept_ => some (wasK (rhoK (kz [0, 1, 2, 6, 8] (erO i W mb mo ms a b c db do_ nd z (.slice (some ⟨3, 0, none⟩) (k + 1) 1) (.slice (some ⟨4, 0, none⟩) (k + 1) 1) ++ [(false, Obj.cells (X ++ #[.int .i64 r0]) 3 (0, 0)), (false, Obj.cells (Y ++ #[.int .i64 m.nh]) 3 (0, 0))]))) kept_)), 9,
    [wq ((↑k : Int) + 1) = (↑k : Int) + 1,
Array.size Y = k * (0 + 1) ∧
  k + 1 ≤ maxLen ∧
    (k + 1) * TypeInfo.bytes Tryz.t3 ≤ 140737488355328 ∧
      Y ++ Array.extract #[Value.int IntKind.i64 (Mon.nh m)] 0 (0 + 1 * (0 + 1)) =
        Y ++ #[Value.int IntKind.i64 (Mon.nh m)],
Array.size X = k * (0 + 1) ∧
  k + 1 ≤ maxLen ∧
    (k + 1) * TypeInfo.bytes Tryz.t3 ≤ 140737488355328 ∧
      X ++ Array.extract #[Value.int IntKind.i64 r0] 0 (0 + 1 * (0 + 1)) = X ++ #[Value.int IntKind.i64 r0],
RawCell B mb (mo + k * 6 + 4 + 1) (Value.int IntKind.i64 (Mon.nh m)),
(↑k : Int) = (↑k : Int) ∧ k < Isl.nm i,
CJ Tryz.prog B 46
  #[Value.agg
      #[Value.int IntKind.i64 (Mon.wl m), Value.int IntKind.i64 (Mon.wh m), Value.int IntKind.i64 (Mon.dl m),
        Value.int IntKind.i64 (Mon.dh m), Value.int IntKind.i64 (Mon.nl m), Value.int IntKind.i64 (Mon.nh m)],
    Value.bool y]
  [] 5 (Value.agg #[Value.int IntKind.i64 r0, Value.int IntKind.i64 r1]) [] 5 [],
RawCell B db (do_ + k * 1) (Value.bool y),
(↑k : Int) = (↑k : Int) ∧ k < nd,
∀ (j : Nat) (u : Value),
  #[Value.int IntKind.i64 (Mon.wl m), Value.int IntKind.i64 (Mon.wh m), Value.int IntKind.i64 (Mon.dl m),
          Value.int IntKind.i64 (Mon.dh m), Value.int IntKind.i64 (Mon.nl m), Value.int IntKind.i64 (Mon.nh m)][j]? =
      some u →
    RawCell B mb (mo + k * 6 + j) u,
(↑k : Int) = (↑k : Int) ∧ k < Isl.nm i,
ltq (↑k : Int) (↑(Isl.nm i) : Int) = true]⟩, []) := by kernel_rfl
set_option maxRecDepth 100000 in
theorem ler_end (B : Lo) (i : Isl) (W : Value) (mb mo ms db do_ nd z k : Nat) (a b c : Int) (X Y : Array Value) (d : Nat → Value) : endedB (srun Tryz.prog goFns B 9 0 (headC 29 91 (erL db do_ nd z k false) d (enT.map (it (bodyOf Tryz.prog 29)))) (heapO 0 (erO i W mb mo ms a b c db do_ nd z (.slice (some ⟨3, 0, none⟩) k 1) (.slice (some ⟨4, 0, none⟩) k 1) ++ [(false, Obj.cells X 3 (0, 0)), (false, Obj.cells Y 3 (0, 0))])) ((erO i W mb mo ms a b c db do_ nd z (.slice (some ⟨3, 0, none⟩) k 1) (.slice (some ⟨4, 0, none⟩) k 1) ++ [(false, Obj.cells X 3 (0, 0)), (false, Obj.cells Y 3 (0, 0))])).length
    [(4, Hint.val (Value.bool false))] 0 [] []) ((kz [3, 4] [(false, .cells X 3 (0, 0)), (false, .cells Y 3 (0, 0))]).map (·.old)) = some (⟨.ret (rnV (rhoK (kz [3, 4] [(false, .cells X 3 (0, 0)), (false, .cells Y 3 (0, 0))])) 3 (.agg #[.int .i64 a, .int .i64 b, .int .i64 c, .slice (some ⟨db, do_, some 0⟩) nd z, .slice (some ⟨0, 0, none⟩) k 1, .slice (some ⟨1, 0, none⟩) k 1])), (kz [3, 4] [(false, .cells X 3 (0, 0)), (false, .cells Y 3 (0, 0))]).map (fun kept_ => some (wasK (rhoK (kz [3, 4] [(false, .cells X 3 (0, 0)), (false, .cells Y 3 (0, 0))])) kept_)), 5,
    [ltq (↑k : Int) (↑(Isl.nm i) : Int) = false]⟩, []) := by kernel_rfl

theorem ler_con {i : Isl} {wa : Option Addr} {wc : Nat} {ma : Option Addr} {mc : Nat} {w : World} {db do_ nd z n : Nat} {d : Nat → Bool} (hi : IslAt w w.heap.size i wa ma) (h1 : 1 ≤ i.nm) (hn : i.nm ≤ nd) (h8 : i.nm ≤ 8) (hA : ∀ k, k < nd → RawCell (worldLo w) db (do_ + k * 1) (.bool (d k))) :
    CJ Tryz.prog (worldLo w) 29 #[islR i wa wc ma mc, .slice (some ⟨db, do_, some 0⟩) nd z, .bool false] [] n
      (.agg #[.int .i64 i.sl, .int .i64 i.kl, .int .i64 i.lh, .slice (some ⟨db, do_, some 0⟩) nd z, .slice (some ⟨n, 0, none⟩) i.nm 1, .slice (some ⟨n + 1, 0, none⟩) i.nm 1])
      [(n, .cells (rowA (intE (endTru i false nd d).rains) i.nm) 3 (0, 0)), (n + 1, .cells (rowA (intE (endTru i false nd d).needs) i.nm) 3 (0, 0))] (n + 2) [] := by
  obtain ⟨mb, mo, rfl, _⟩ := monsGet hi.months (show 0 < i.nm by omega)
  have hM : ∀ k, k < i.nm → ∀ (j : Nat) u, (monC (i.months k))[j]? = some u → RawCell (worldLo w) mb (mo + k * 6 + j) u := fun k hk => monsRaw hi.months hk
  have hl0 : looseO (.cells (islC i (rawS wa i.nw wc) (.slice (some ⟨mb, mo, some 0⟩) i.nm mc)) 27 (0, 0)) := loose_isl i wa wc (some ⟨mb, mo, none⟩) mc
  have hlI : ∀ (f : Nat → Int) k, looseO (.cells (rowA (intE f) k) 3 (0, 0)) := fun f k => loose_intE _ _
  have hby : Go.Proofs.Tryz.t3.bytes = 8 := by kernel_rfl
  have entry := (GoE.refl (P := Tryz.prog) (B := worldLo w) (c0 := entryC Tryz.prog 29 91 [.agg (islC i (rawS wa i.nw wc) (.slice (some ⟨mb, mo, some 0⟩) i.nm mc)), .slice (some ⟨db, do_, some 0⟩) nd z, .bool false]) (under_heapO [] (Nat.le_refl 0))).headB goFns_ok mixed_ok (writable_nil _ _)
    (ler_entry (worldLo w) i (rawS wa i.nw wc) mb mo mc db do_ nd z) trivial (by kernel_rfl) (by kernel_rfl) (by kernel_rfl) (by kernel_rfl) (by kernel_rfl) (by kernel_rfl) (by kernel_rfl) (by kernel_rfl) (by kernel_rfl) (by kernel_rfl)
    ⟨.inr ⟨rfl, .inl hl0⟩, .inl ⟨rfl, by kernel_rfl⟩, .inl ⟨rfl, by kernel_rfl⟩, trivial⟩ (fun j hj _ => by omega)
  generalize hc0 : entryC Tryz.prog 29 91 [.agg (islC i (rawS wa i.nw wc) (.slice (some ⟨mb, mo, some 0⟩) i.nm mc)), .slice (some ⟨db, do_, some 0⟩) nd z, .bool false] = c0 at entry
  let t := endTru i false nd d
  let os : Nat → List (Bool × Obj) := fun k => erO i (rawS wa i.nw wc) mb mo mc i.sl i.kl i.lh db do_ nd z (.slice (some ⟨3, 0, none⟩) k 1) (.slice (some ⟨4, 0, none⟩) k 1) ++ [(false, Obj.cells (rowA (intE t.rains) k) 3 (0, 0)), (false, Obj.cells (rowA (intE t.needs) k) 3 (0, 0))]
  have hos : ∀ k, OkB 0 5 (os k) := fun k => ⟨.inr ⟨rfl, .inl hl0⟩, .inl ⟨rfl, by kernel_rfl⟩, .inl ⟨rfl, by kernel_rfl⟩, .inr ⟨rfl, .inl (hlI _ _)⟩, .inr ⟨rfl, .inl (hlI _ _)⟩, trivial⟩
  have step : ∀ k, k < i.nm → ∃ d' : Nat → Value, (∀ t, Loose (d' t)) ∧ GoE Tryz.prog (worldLo w) c0 (heapO 0 []) 0
      (headC 29 91 (erL db do_ nd z (k + 1) false) d' (enT.map (it (bodyOf Tryz.prog 29)))) (heapO 0 (os (k + 1))) 5 [] := by
    intro k
    induction k with
    | zero =>
      intro hk
      obtain ⟨d', _, hg⟩ := entry
      have hr := ler_first (worldLo w) i (rawS wa i.nw wc) mb mo mc db do_ nd z i.sl i.kl i.lh (i.months 0) (d 0) (rlo (i.months 0) (d 0)) (rhi (i.months 0) (d 0)) d'
      refine hg.headB goFns_ok mixed_ok (writable_nil _ _) (os := os 1) hr ?_ (by kernel_rfl) (by kernel_rfl) (by kernel_rfl) (by kernel_rfl) (by kernel_rfl) (by kernel_rfl) (by kernel_rfl) (by kernel_rfl) (by kernel_rfl) (by kernel_rfl) (hos 1) (fun j hj _ => by omega)
      have hMk := hM 0 hk
      have hAk : RawCell (worldLo w) db (do_ + 0) (.bool (d 0)) := hA 0 (by omega)
      have hH := hMk 5 (.int .i64 (i.months 0).nh) rfl
      have hL := hMk 4 (.int .i64 (i.months 0).nl) rfl
      clear hg hr hos hM hA
      simp only [AllP]
      repeat' apply And.intro
      all_goals first
        | exact hMk
        | exact hAk
        | exact hH
        | exact hL
        | exact con_rRain _ _ _
        | with_reducible exact ltq_t (by omega)
        | with_reducible exact wq_in (by omega) (by omega)
        | (unfold maxLen; omega)
        | (rw [hby]; omega)
        | omega
        | rfl
        | trivial
    | succ k ih =>
      intro hk
      obtain ⟨d', _, hg⟩ := ih (by omega)
      have hr := ler_round (worldLo w) i (rawS wa i.nw wc) mb mo mc db do_ nd z (k + 1) i.sl i.kl i.lh (i.months (k + 1)) (d (k + 1)) (rlo (i.months (k + 1)) (d (k + 1))) (rhi (i.months (k + 1)) (d (k + 1))) (rowA (intE t.rains) (k + 1)) (rowA (intE t.needs) (k + 1)) d'
      refine hg.headB goFns_ok mixed_ok (writable_nil _ _) (os := os (k + 1 + 1)) hr ?_ (by kernel_rfl) (by kernel_rfl) (by kernel_rfl) (by kernel_rfl) (by kernel_rfl) (by kernel_rfl) (by kernel_rfl) (by kernel_rfl) (by kernel_rfl) (by kernel_rfl) (hos (k + 1 + 1)) (fun j hj _ => by omega)
      have hMk := hM (k + 1) hk
      have hAk := hA (k + 1) (by omega)
      have s1 := rowA_size (e := intE t.rains) (z := 1) (fun _ => rfl) (k + 1)
      have s2 := rowA_size (e := intE t.needs) (z := 1) (fun _ => rfl) (k + 1)
      have hH := hMk 5 (.int .i64 (i.months (k + 1)).nh) rfl
      have hL := hMk 4 (.int .i64 (i.months (k + 1)).nl) rfl
      simp only [AllP]
      repeat' apply And.intro
      all_goals first
        | exact hMk
        | exact hAk
        | exact hH
        | exact hL
        | exact con_rRain _ _ _
        | with_reducible exact ltq_t (by omega)
        | with_reducible exact wq_in (by omega) (by omega)
        | exact s1
        | exact s2
        | (unfold maxLen; omega)
        | (rw [hby]; omega)
        | omega
        | rfl
        | trivial
  obtain ⟨k, hk⟩ : ∃ k, i.nm = k + 1 := ⟨i.nm - 1, by omega⟩
  obtain ⟨d', _, hg⟩ := step k (by omega)
  rw [← hk] at hg
  have h : StdJ Tryz.prog (worldLo w) 29 #[islR i wa wc (some ⟨mb, mo, none⟩) mc, .slice (some ⟨db, do_, some 0⟩) nd z, .bool false] (heapO 0 []) 0
      (.agg #[.int .i64 i.sl, .int .i64 i.kl, .int .i64 i.lh, .slice (some ⟨db, do_, some 0⟩) nd z, .slice (some ⟨0, 0, none⟩) i.nm 1, .slice (some ⟨1, 0, none⟩) i.nm 1])
      (heapO 0 [(false, .cells (rowA (intE t.rains) i.nm) 3 (0, 0)), (false, .cells (rowA (intE t.needs) i.nm) 3 (0, 0))]) 2 [] :=
    hg.std goFns_ok mixed_ok (by rw [← hc0]; kernel_rfl) (writable_nil _ _) (os := [(false, .cells (rowA (intE t.rains) i.nm) 3 (0, 0)), (false, .cells (rowA (intE t.needs) i.nm) 3 (0, 0))])
      (ler_end (worldLo w) i (rawS wa i.nw wc) mb mo mc db do_ nd z i.nm i.sl i.kl i.lh (rowA (intE t.rains) i.nm) (rowA (intE t.needs) i.nm) d') ⟨ltq_f (by omega), trivial⟩ (by kernel_rfl) (by kernel_rfl) (by kernel_rfl) (by kernel_rfl) (by kernel_rfl) (by kernel_rfl) (by kernel_rfl) (by kernel_rfl)
      ⟨.inr ⟨rfl, .inl (hlI _ _)⟩, .inr ⟨rfl, .inl (hlI _ _)⟩, trivial⟩ (fun j hj _ => by omega)
  have hloose : ∀ b ∈ ([] : List (Bool × Obj)) ++ [(false, Obj.cells (rowA (intE t.rains) i.nm) 3 (0, 0)), (false, Obj.cells (rowA (intE t.needs) i.nm) 3 (0, 0))], looseO b.2 := by
    intro b hb
    simp only [List.nil_append, List.mem_cons, List.not_mem_nil, or_false] at hb
    rcases hb with rfl | rfl
    · exact hlI _ _
    · exact hlI _ _
  rcases wa with _ | ⟨b, o, _ | z'⟩
  all_goals exact (StdJ.rows (kept := []) (l := []) (n := n) h rfl (fun k hk => by simp at hk) rfl hloose (by kernel_rfl) (by kernel_rfl)).cast (by kernel_rfl) (by kernel_rfl) (by kernel_rfl) (by kernel_rfl) (by kernel_rfl)

end Go.Proofs.YtffdidleebognaaGreatDoor

namespace Go.Proofs.YtffdidleebognaaGreatDoor
open Go Go.CE Go.Proofs Go.RowKit Lens
section
variable {i : Isl} {wa : Option Addr} {wc mb mo mc : Nat} {ma : Option Addr} {tanks : Int} {w : World} {dk : Nat → Value} {k : Nat}
end
end Go.Proofs.YtffdidleebognaaGreatDoor

namespace Go.Proofs.YtffdidleebognaaGreatDoor
open Go Go.CE Go.Proofs Go.RowKit Lens
theorem fit_end {i : Isl} {tanks : Int} (hi : islB i = true) (ht : tanksB tanks = true) (much : Bool) (nd : Nat) (d : Nat → Bool) : Fit i tanks (endTru i much nd d) := by
  simp only [islB, monthsB, tanksB, Bool.and_eq_true, isInB_iff, isSpanB_iff, allTo_iff] at hi ht
  obtain ⟨⟨⟨⟨⟨⟨⟨⟨⟨⟨⟨⟨i1, i2⟩, i3⟩, i4⟩, i5⟩, i6⟩, i7⟩, i8⟩, i9⟩, i10⟩, ⟨i11, i12⟩⟩, i13⟩, i14⟩ := hi
  have mon : ∀ k, k < i.nm → (0 ≤ (i.months k).wl ∧ (i.months k).wl ≤ (i.months k).wh ∧ (i.months k).wh ≤ 2000) ∧ (0 ≤ (i.months k).dl ∧ (i.months k).dl ≤ (i.months k).dh ∧ (i.months k).dh ≤ 2000) ∧ (0 ≤ (i.months k).nl ∧ (i.months k).nl ≤ (i.months k).nh ∧ (i.months k).nh ≤ 10000000) := by
    intro k hk
    have := i12 k hk
    simp only [monB, Bool.and_eq_true, isSpanB_iff, decide_eq_true_eq] at this
    obtain ⟨⟨⟨⟨m1, m2⟩, m3⟩, _⟩, _⟩ := this
    exact ⟨m1, m2, m3⟩
  refine ⟨by omega, by omega, i3.1, i3.2, i4.1, i4.2, i7.1, i7.2, i9.1, i9.2, i8.1, i8.2, ht.1, ht.2, by omega, ?_, ?_, ?_, ?_, ?_, ?_, rfl, rfl, ?_, ?_⟩
  · cases much <;> simp only [endTru, lohi] <;> simp <;> omega
  · cases much <;> simp only [endTru, lohi] <;> simp <;> omega
  · cases much <;> simp only [endTru, lohi] <;> simp <;> omega
  · cases much <;> simp only [endTru, lohi] <;> simp <;> omega
  · cases much <;> simp only [endTru, lohi] <;> simp <;> omega
  · cases much <;> simp only [endTru, lohi] <;> simp <;> omega
  · intro k hk
    have := mon k hk
    cases much <;> cases h : d k <;> simp only [endTru, lohi, rlo, rhi, h] <;> simp <;> omega
  · intro k hk
    have := mon k hk
    cases much <;> simp only [endTru, lohi] <;> simp <;> omega
section
variable {i : Isl} {wa : Option Addr} {wc mc : Nat} {ma : Option Addr} {tanks : Int} {w : World}
theorem con_isIslet {n : Nat} (hi : IslAt w w.heap.size i wa ma) : CJ Tryz.prog (worldLo w) 36 #[islR i wa wc ma mc] [] n (.bool (islB i)) [] n [] :=
  con_of (.cons (exact_isl _ _ _ _ _) .nil) (exact_af rfl) fun w' hw => isIslet_any i wa wc ma mc w' (islAt_lo hi hw)
end
end Go.Proofs.YtffdidleebognaaGreatDoor

namespace Go.Proofs.YtffdidleebognaaGreatDoor
open Go Go.CE Go.Proofs Go.RowKit Lens
/-- No fault. -/
def ffN : Array Value := #[.slice none 0 0, .int .i64 0, .int .i64 1, .int .i64 0]
/-- A fault, of a drought that stands at a block. -/
def ffF (b nm : Nat) (m r w : Int) : Array Value := #[.slice (some ⟨b, 0, none⟩) nm 1, .int .i64 m, .int .i64 r, .int .i64 w]
def ffO (i : Isl) (W : Value) (mb mo ms : Nat) (tanks : Int) (F : Array Value) : List (Bool × Obj) :=
  [(false, .cells (islC i W (.slice (some ⟨mb, mo, some 0⟩) i.nm ms)) 27 (0, 0)), (true, .cells #[.int .i64 tanks] 3 (0, 0)), (true, .cells #[.slice none 0 0, .int .i64 0, .int .i64 0, .int .i64 0] 59 (0, 0)), (true, .cells F 59 (0, 0))]
def ffR (i : Isl) (W : Value) (mb mo ms : Nat) (tanks : Int) : List (Nat × Value) :=
  [(0, .agg (islC i W (.slice (some ⟨mb, mo, some 0⟩) i.nm ms))), (1, .int .i64 tanks), (2, .pointer (some ⟨0, 0, none⟩)), (3, .pointer (some ⟨1, 0, none⟩)), (4, .pointer (some ⟨2, 0, none⟩)), (5, .pointer (some ⟨3, 0, none⟩)), (13, .agg ffN), (14, .agg (islC i W (.slice (some ⟨mb, mo, some 0⟩) i.nm ms))), (15, .func (.func 76) #[] #[.pointer (some ⟨4, 0, none⟩)])]
noncomputable def ffS (i : Isl) (W : Value) (mb mo ms : Nat) (tanks : Int) (s : LoopState) (p : Option Code) : Loop :=
  ⟨s, p, 47, tmArr (mkT 48 (ffR i W mb mo ms tanks) (fun _ => undef)), #[16], nav (bodyOf Tryz.prog 47) [1, 0, 1, 1, 0, 1, 0, 0], nav (bodyOf Tryz.prog 47) [1, 0, 1, 1, 0, 1, 0, 1], 5⟩
noncomputable def fdO (i : Isl) (W : Value) (mb mo ms : Nat) (tanks : Int) (F : Array Value) (s : LoopState) (p : Option Code) : List (Bool × Obj) :=
  ffO i W mb mo ms tanks F ++ [(false, .cells (islC i W (.slice (some ⟨mb, mo, some 0⟩) i.nm ms)) 27 (0, 0)), (false, .deferred (some [])), (false, .loop (ffS i W mb mo ms tanks s p))]
noncomputable def frC (i : Isl) (W : Value) (mb mo ms : Nat) (tanks : Int) : CF :=
  headR (some 6) 47 48 (ffR i W mb mo ms tanks ++ [(16, .slice (some ⟨7, 0, none⟩) i.nm 1)]) (fun _ => undef) [.code (nav (bodyOf Tryz.prog 47) [1, 0, 1, 1, 0, 1, 0, 0]), .beginRound, .code (nav (bodyOf Tryz.prog 47) [1, 0, 1, 1, 0, 1, 0, 1])]
set_option maxRecDepth 100000 in
theorem ff_fine (B : Lo) (i : Isl) (W : Value) (mb mo ms : Nat) (tanks : Int) : ended (srun Tryz.prog goFns B 19 0 (entryC Tryz.prog 47 48 [.agg (islC i W (.slice (some ⟨mb, mo, some 0⟩) i.nm ms)), .int .i64 tanks]) [] 0
    [(7, Hint.call [] (Value.func (Fn.func 76) #[] #[Value.pointer (some { block := 4, off := 0 })])
  [(4, Obj.cells (islC i W (Value.slice (some { block := mb, off := mo, spot := some 0 }) (Isl.nm i) ms)) 27)] 5 []),
(8, Hint.call [0, 1, 2, 3, 4, 5, 6] (Value.tuple #[]) [(6, Obj.loop (ffS i W mb mo ms tanks LoopState.ready none))] 7
  [6])] 0 [] []) [] = some ⟨.ret (.agg ffN), [], 7,
    [(RJ Tryz.prog B (entryC Tryz.prog 76 43 [.func (.yield 6) #[] #[], .pointer (some ⟨4, 0, none⟩)]) ((List.range 7).map fun q => (q, hget (heapO 0 (fdO i W mb mo ms tanks ffN .ready none)) q)) 7 (.tuple #[]) [(6, .loop (ffS i W mb mo ms tanks .ready none))] 7 [6]),
CJ Tryz.prog B 57
  #[Value.agg
      #[Value.int IntKind.i64 (Isl.cap i), Value.int IntKind.i64 (Isl.sl i), Value.int IntKind.i64 (Isl.sh i),
        Value.int IntKind.i64 (Isl.roof i), Value.int IntKind.i64 (Isl.sand i), Value.int IntKind.i64 (Isl.kl i),
        Value.int IntKind.i64 (Isl.kh i), Value.int IntKind.i64 (Isl.ll i), Value.int IntKind.i64 (Isl.lh i),
        Value.int IntKind.i64 (Isl.pump i), Value.int IntKind.i64 (Isl.keep i), Value.int IntKind.i64 (Isl.size i), W,
        Value.slice (some { block := mb, off := mo, spot := some 0 }) (Isl.nm i) ms, Value.int IntKind.i64 (Isl.most i),
        Value.int IntKind.i64 (Isl.row i)]]
  [] 4 (Value.func (Fn.func 76) #[] #[Value.pointer (some { block := 4, off := 0 })])
  [(4, Obj.cells (islC i W (Value.slice (some { block := mb, off := mo, spot := some 0 }) (Isl.nm i) ms)) 27)] 5 []]⟩ := by kernel_rfl
set_option maxRecDepth 100000 in
theorem ff_bad (B : Lo) (i : Isl) (W : Value) (mb mo ms : Nat) (tanks : Int) (m r v : Int) (D : Array Value) : ended (srun Tryz.prog goFns B 19 0 (entryC Tryz.prog 47 48 [.agg (islC i W (.slice (some ⟨mb, mo, some 0⟩) i.nm ms)), .int .i64 tanks]) [] 0
    [(7, Hint.call [] (Value.func (Fn.func 76) #[] #[Value.pointer (some { block := 4, off := 0 })])
  [(4, Obj.cells (islC i W (Value.slice (some { block := mb, off := mo, spot := some 0 }) (Isl.nm i) ms)) 27)] 5 []),
(8, Hint.call [0, 1, 2, 3, 4, 5, 6] (Value.tuple #[])
  [(3, Obj.cells (ffF 7 (Isl.nm i) m r v) 59),
    (6, Obj.loop (ffS i W mb mo ms tanks LoopState.done (some (Code.exit 0)))), (7, Obj.cells D 4)]
  8 [3, 6])] 0 [] []) [7] = some ⟨.ret (.agg (ffF 7 i.nm m r v)), [some (.cells D 4 (0, 0))], 8,
    [(RJ Tryz.prog B (entryC Tryz.prog 76 43 [.func (.yield 6) #[] #[], .pointer (some ⟨4, 0, none⟩)]) ((List.range 7).map fun q => (q, hget (heapO 0 (fdO i W mb mo ms tanks ffN .ready none)) q)) 7 (.tuple #[]) [(3, .cells (ffF 7 i.nm m r v) 59 (0, 0)), (6, .loop (ffS i W mb mo ms tanks .done (some (.exit 0)))), (7, .cells D 4 (0, 0))] 8 [3, 6]),
CJ Tryz.prog B 57
  #[Value.agg
      #[Value.int IntKind.i64 (Isl.cap i), Value.int IntKind.i64 (Isl.sl i), Value.int IntKind.i64 (Isl.sh i),
        Value.int IntKind.i64 (Isl.roof i), Value.int IntKind.i64 (Isl.sand i), Value.int IntKind.i64 (Isl.kl i),
        Value.int IntKind.i64 (Isl.kh i), Value.int IntKind.i64 (Isl.ll i), Value.int IntKind.i64 (Isl.lh i),
        Value.int IntKind.i64 (Isl.pump i), Value.int IntKind.i64 (Isl.keep i), Value.int IntKind.i64 (Isl.size i), W,
        Value.slice (some { block := mb, off := mo, spot := some 0 }) (Isl.nm i) ms, Value.int IntKind.i64 (Isl.most i),
        Value.int IntKind.i64 (Isl.row i)]]
  [] 4 (Value.func (Fn.func 76) #[] #[Value.pointer (some { block := 4, off := 0 })])
  [(4, Obj.cells (islC i W (Value.slice (some { block := mb, off := mo, spot := some 0 }) (Isl.nm i) ms)) 27)] 5 []]⟩ := by kernel_rfl
def fdL (nm : Nat) (p2 : Int) (b : Nat) : List (Nat × Value) := [(0, .func (.yield 6) #[] #[]), (1, .pointer (some ⟨4, 0, none⟩)), (3, .int .i64 nm), (11, .int .i64 p2), (12, .int .i64 b)]
def fdM (nm : Nat) (p2 : Int) (b m : Nat) : List (Nat × Value) := [(0, .func (.yield 6) #[] #[]), (1, .pointer (some ⟨4, 0, none⟩)), (3, .int .i64 nm), (4, .int .i64 b), (5, .slice (some ⟨7, 0, none⟩) nm 1), (11, .int .i64 p2), (12, .int .i64 b), (17, .int .i64 nm), (18, .int .i64 m)]
set_option maxRecDepth 100000 in
theorem fd_entry (B : Lo) (i : Isl) (W : Value) (mb mo ms : Nat) (tanks : Int) (p2 : Int) : landB (srun Tryz.prog goFns B 6 7 (entryC Tryz.prog 76 43 [.func (.yield 6) #[] #[], .pointer (some ⟨4, 0, none⟩)]) (heapO 0 (fdO i W mb mo ms tanks ffN .ready none)) 7
    [(5, Hint.val (Value.int IntKind.i64 p2))] 0 [] []) ((fdL i.nm p2 0).map (·.1)) ((kz [0, 1, 2, 3, 4, 5, 6] (fdO i W mb mo ms tanks ffN .ready none)).map (·.old)) = some (⟨76, 43, drT.map (it (bodyOf Tryz.prog 76)), [], .run, none, (fdL i.nm p2 0).map (fun p => rnV (rhoK (kz [0, 1, 2, 3, 4, 5, 6] (fdO i W mb mo ms tanks ffN .ready none))) 3 p.2), (kz [0, 1, 2, 3, 4, 5, 6] (fdO i W mb mo ms tanks ffN .ready none)).map (fun kept_ => some (wasK (rhoK (kz [0, 1, 2, 3, 4, 5, 6] (fdO i W mb mo ms tanks ffN .ready none))) kept_)), 7,
    [IntKind.wrap IntKind.i64 (1 * 2 ^ min (Int.toNat (↑(Isl.nm i) : Int)) (IntKind.bits IntKind.i64)) = p2]⟩, []) := by kernel_rfl
set_option maxRecDepth 100000 in
theorem fd_bits (B : Lo) (i : Isl) (W : Value) (mb mo ms : Nat) (tanks : Int) (p2 : Int) (b : Nat) (D : Array Value) (d : Nat → Value) : landB (srun Tryz.prog goFns B 16 7 (headC 76 43 (fdL i.nm p2 b) d (drT.map (it (bodyOf Tryz.prog 76)))) (heapO 0 (fdO i W mb mo ms tanks ffN .ready none)) ((fdO i W mb mo ms tanks ffN .ready none)).length
    [(0, Hint.val (Value.bool true)),
(4, Hint.mk (Isl.nm i) D)] 0 [] []) ((fdM i.nm p2 b 0).map (·.1)) ((kz [0, 1, 2, 3, 4, 5, 6, 7] ((fdO i W mb mo ms tanks ffN .ready none) ++ [(false, Obj.cells D 4 (0, 0))])).map (·.old)) = some (⟨76, 43, drU.map (it (bodyOf Tryz.prog 76)), [], .run, none, (fdM i.nm p2 b 0).map (fun p => rnV (rhoK (kz [0, 1, 2, 3, 4, 5, 6, 7] ((fdO i W mb mo ms tanks ffN .ready none) ++ [(false, Obj.cells D 4 (0, 0))]))) 3 p.2), (kz [0, 1, 2, 3, 4, 5, 6, 7] ((fdO i W mb mo ms tanks ffN .ready none) ++ [(false, Obj.cells D 4 (0, 0))])).map (fun kept_ => some (wasK (rhoK (kz [0, 1, 2, 3, 4, 5, 6, 7] ((fdO i W mb mo ms tanks ffN .ready none) ++ [(false, Obj.cells D 4 (0, 0))]))) kept_)), 8,
    [cMake Tryz.prog 38 (Value.int IntKind.i64 (↑(Isl.nm i) : Int)) (Value.int IntKind.i64 (↑(Isl.nm i) : Int)) =
  some (4, D, Isl.nm i, 1),
ltq (↑b : Int) p2 = true]⟩, []) := by kernel_rfl
set_option maxRecDepth 100000 in
theorem fd_bit (B : Lo) (i : Isl) (W : Value) (mb mo ms : Nat) (tanks : Int) (p2 : Int) (b m : Nat) (D D' : Array Value) (sh an : Int) (y : Bool) (d : Nat → Value) : landB (srun Tryz.prog goFns B 13 7 (headC 76 43 (fdM i.nm p2 b m) d (drU.map (it (bodyOf Tryz.prog 76)))) (heapO 0 ((fdO i W mb mo ms tanks ffN .ready none) ++ [(false, Obj.cells D 4 (0, 0))])) (((fdO i W mb mo ms tanks ffN .ready none) ++ [(false, Obj.cells D 4 (0, 0))])).length
    [(0, Hint.val (Value.bool true)),
(7, Hint.val (Value.int IntKind.i64 ((↑(Isl.nm i) : Int) - 1))),
(9, Hint.val (Value.int IntKind.i64 (↑(Isl.nm i - 1 - m) : Int))),
(10, Hint.val (Value.int IntKind.i64 sh)),
(11, Hint.val (Value.int IntKind.i64 an)),
(12, Hint.val (Value.bool y)),
(13, Hint.idx m),
(14, Hint.st D'),
(15, Hint.val (Value.int IntKind.i64 ((↑m : Int) + 1)))] 0 [] []) ((fdM i.nm p2 b (m + 1)).map (·.1)) ((kz [0, 1, 2, 3, 4, 5, 6, 7] ((fdO i W mb mo ms tanks ffN .ready none) ++ [(false, Obj.cells D' 4 (0, 0))])).map (·.old)) = some (⟨76, 43, drU.map (it (bodyOf Tryz.prog 76)), [], .run, none, (fdM i.nm p2 b (m + 1)).map (fun p => rnV (rhoK (kz [0, 1, 2, 3, 4, 5, 6, 7] ((fdO i W mb mo ms tanks ffN .ready none) ++ [(false, Obj.cells D' 4 (0, 0))]))) 3 p.2), (kz [0, 1, 2, 3, 4, 5, 6, 7] ((fdO i W mb mo ms tanks ffN .ready none) ++ [(false, Obj.cells D' 4 (0, 0))])).map (fun kept_ => some (wasK (rhoK (kz [0, 1, 2, 3, 4, 5, 6, 7] ((fdO i W mb mo ms tanks ffN .ready none) ++ [(false, Obj.cells D' 4 (0, 0))]))) kept_)), 8,
    [wq ((↑m : Int) + 1) = (↑m : Int) + 1,
0 + m * 1 + TypeInfo.size Tryz.t4 ≤ Array.size D ∧ splice D (0 + m * 1) #[Value.bool y] = D',
(↑m : Int) = (↑m : Int) ∧ m < Isl.nm i,
eqq an 1 = y,
IntKind.wrap IntKind.i64
    (↑(BitVec.toNat (BitVec.ofInt (IntKind.bits IntKind.i64) sh &&& BitVec.ofInt (IntKind.bits IntKind.i64) 1)) : Int) =
  an,
Int.fdiv (↑b : Int) (2 ^ min (Int.toNat (↑(Isl.nm i - 1 - m) : Int)) (IntKind.bits IntKind.i64)) = sh,
wq ((↑(Isl.nm i) : Int) - 1 - (↑m : Int)) = (↑(Isl.nm i - 1 - m) : Int),
wq ((↑(Isl.nm i) : Int) - 1) = (↑(Isl.nm i) : Int) - 1,
ltq (↑m : Int) (↑(Isl.nm i) : Int) = true]⟩, []) := by kernel_rfl
set_option maxRecDepth 100000 in
theorem fd_no (B : Lo) (i : Isl) (W : Value) (mb mo ms : Nat) (tanks : Int) (p2 : Int) (b m : Nat) (D : Array Value) (d : Nat → Value) : landB (srun Tryz.prog goFns B 12 7 (headC 76 43 (fdM i.nm p2 b m) d (drU.map (it (bodyOf Tryz.prog 76)))) (heapO 0 ((fdO i W mb mo ms tanks ffN .ready none) ++ [(false, Obj.cells D 4 (0, 0))])) (((fdO i W mb mo ms tanks ffN .ready none) ++ [(false, Obj.cells D 4 (0, 0))])).length
    [(0, Hint.val (Value.bool false)),
(3, Hint.call [7] (Value.bool false) [] 8 []),
(10, Hint.val (Value.int IntKind.i64 ((↑b : Int) + 1)))] 0 [] []) ((fdL i.nm p2 (b + 1)).map (·.1)) ((kz [0, 1, 2, 3, 4, 5, 6] (fdO i W mb mo ms tanks ffN .ready none)).map (·.old)) = some (⟨76, 43, drT.map (it (bodyOf Tryz.prog 76)), [], .run, none, (fdL i.nm p2 (b + 1)).map (fun p => rnV (rhoK (kz [0, 1, 2, 3, 4, 5, 6] (fdO i W mb mo ms tanks ffN .ready none))) 3 p.2), (kz [0, 1, 2, 3, 4, 5, 6] (fdO i W mb mo ms tanks ffN .ready none)).map (fun kept_ => some (wasK (rhoK (kz [0, 1, 2, 3, 4, 5, 6] (fdO i W mb mo ms tanks ffN .ready none))) kept_)), 8,
    [wq ((↑b : Int) + 1) = (↑b : Int) + 1,
CJ Tryz.prog B 62
  #[Value.agg
      #[Value.int IntKind.i64 (Isl.cap i), Value.int IntKind.i64 (Isl.sl i), Value.int IntKind.i64 (Isl.sh i),
        Value.int IntKind.i64 (Isl.roof i), Value.int IntKind.i64 (Isl.sand i), Value.int IntKind.i64 (Isl.kl i),
        Value.int IntKind.i64 (Isl.kh i), Value.int IntKind.i64 (Isl.ll i), Value.int IntKind.i64 (Isl.lh i),
        Value.int IntKind.i64 (Isl.pump i), Value.int IntKind.i64 (Isl.keep i), Value.int IntKind.i64 (Isl.size i), W,
        Value.slice (some { block := mb, off := mo, spot := some 0 }) (Isl.nm i) ms, Value.int IntKind.i64 (Isl.most i),
        Value.int IntKind.i64 (Isl.row i)],
    Value.slice (some { block := 7, off := 0 }) (Isl.nm i) 1]
  [(7, some (Obj.cells D 4))] 8 (Value.bool false) [] 8 [],
ltq (↑m : Int) (↑(Isl.nm i) : Int) = false]⟩, []) := by kernel_rfl
set_option maxRecDepth 100000 in
theorem fd_end (B : Lo) (i : Isl) (W : Value) (mb mo ms : Nat) (tanks : Int) (p2 : Int) (b : Nat) (d : Nat → Value) : endedB (srun Tryz.prog goFns B 7 7 (headC 76 43 (fdL i.nm p2 b) d (drT.map (it (bodyOf Tryz.prog 76)))) (heapO 0 (fdO i W mb mo ms tanks ffN .ready none)) ((fdO i W mb mo ms tanks ffN .ready none)).length
    [(0, Hint.val (Value.bool false))] 0 [] []) ((kz [0, 1, 2, 3, 4, 5, 6] (fdO i W mb mo ms tanks ffN .ready none)).map (·.old)) = some (⟨.ret (rnV (rhoK (kz [0, 1, 2, 3, 4, 5, 6] (fdO i W mb mo ms tanks ffN .ready none))) 3 (.tuple #[])), (kz [0, 1, 2, 3, 4, 5, 6] (fdO i W mb mo ms tanks ffN .ready none)).map (fun kept_ => some (wasK (rhoK (kz [0, 1, 2, 3, 4, 5, 6] (fdO i W mb mo ms tanks ffN .ready none))) kept_)), 7,
    [ltq (↑b : Int) p2 = false]⟩, []) := by kernel_rfl
set_option maxRecDepth 100000 in
theorem fd_yield (B : Lo) (i : Isl) (W : Value) (mb mo ms : Nat) (tanks : Int) (p2 : Int) (b m : Nat) (D : Array Value) (d : Nat → Value) : landB (srun Tryz.prog goFns B 12 7 (headC 76 43 (fdM i.nm p2 b m) d (drU.map (it (bodyOf Tryz.prog 76)))) (heapO 0 ((fdO i W mb mo ms tanks ffN .ready none) ++ [(false, Obj.cells D 4 (0, 0))])) (((fdO i W mb mo ms tanks ffN .ready none) ++ [(false, Obj.cells D 4 (0, 0))])).length
    [(0, Hint.val (Value.bool false)),
(3, Hint.call [7] (Value.bool true) [] 8 []),
(7, Hint.call [0, 1, 2, 3, 4, 5, 6, 7] (Value.bool true) [(6, Obj.loop (ffS i W mb mo ms tanks LoopState.ready none))] 8
  [6]),
(10, Hint.val (Value.int IntKind.i64 ((↑b : Int) + 1)))] 0 [] []) ((fdL i.nm p2 (b + 1)).map (·.1)) ((kz [0, 1, 2, 3, 4, 5, 6] (fdO i W mb mo ms tanks ffN .ready none)).map (·.old)) = some (⟨76, 43, drT.map (it (bodyOf Tryz.prog 76)), [], .run, none, (fdL i.nm p2 (b + 1)).map (fun p => rnV (rhoK (kz [0, 1, 2, 3, 4, 5, 6] (fdO i W mb mo ms tanks ffN .ready none))) 3 p.2), (kz [0, 1, 2, 3, 4, 5, 6] (fdO i W mb mo ms tanks ffN .ready none)).map (fun kept_ => some (wasK (rhoK (kz [0, 1, 2, 3, 4, 5, 6] (fdO i W mb mo ms tanks ffN .ready none))) kept_)), 8,
    [wq ((↑b : Int) + 1) = (↑b : Int) + 1,
(RJ Tryz.prog B (frC i W mb mo ms tanks) ((List.range 8).map fun q => (q, hget (heapO 0 ((fdO i W mb mo ms tanks ffN .ready none) ++ [(false, Obj.cells D 4 (0, 0))])) q)) 8 (.bool true) [(6, .loop (ffS i W mb mo ms tanks .ready none))] 8 [6]),
CJ Tryz.prog B 62
  #[Value.agg
      #[Value.int IntKind.i64 (Isl.cap i), Value.int IntKind.i64 (Isl.sl i), Value.int IntKind.i64 (Isl.sh i),
        Value.int IntKind.i64 (Isl.roof i), Value.int IntKind.i64 (Isl.sand i), Value.int IntKind.i64 (Isl.kl i),
        Value.int IntKind.i64 (Isl.kh i), Value.int IntKind.i64 (Isl.ll i), Value.int IntKind.i64 (Isl.lh i),
        Value.int IntKind.i64 (Isl.pump i), Value.int IntKind.i64 (Isl.keep i), Value.int IntKind.i64 (Isl.size i), W,
        Value.slice (some { block := mb, off := mo, spot := some 0 }) (Isl.nm i) ms, Value.int IntKind.i64 (Isl.most i),
        Value.int IntKind.i64 (Isl.row i)],
    Value.slice (some { block := 7, off := 0 }) (Isl.nm i) 1]
  [(7, some (Obj.cells D 4))] 8 (Value.bool true) [] 8 [],
ltq (↑m : Int) (↑(Isl.nm i) : Int) = false]⟩, [6]) := by kernel_rfl
set_option maxRecDepth 100000 in
theorem fd_break (B : Lo) (i : Isl) (W : Value) (mb mo ms : Nat) (tanks : Int) (p2 : Int) (b n : Nat) (D : Array Value) (m r v : Int) (d : Nat → Value) : endedB (srun Tryz.prog goFns B 10 7 (headC 76 43 (fdM i.nm p2 b n) d (drU.map (it (bodyOf Tryz.prog 76)))) (heapO 0 ((fdO i W mb mo ms tanks ffN .ready none) ++ [(false, Obj.cells D 4 (0, 0))])) (((fdO i W mb mo ms tanks ffN .ready none) ++ [(false, Obj.cells D 4 (0, 0))])).length
    [(0, Hint.val (Value.bool false)),
(3, Hint.call [7] (Value.bool true) [] 8 []),
(7, Hint.call [0, 1, 2, 3, 4, 5, 6, 7] (Value.bool false)
  [(3, Obj.cells (ffF 7 (Isl.nm i) m r v) 59),
    (6, Obj.loop (ffS i W mb mo ms tanks LoopState.done (some (Code.exit 0))))]
  8 [3, 6])] 0 [] []) ((kz [0, 1, 2, 3, 4, 5, 6, 7] ((fdO i W mb mo ms tanks (ffF 7 i.nm m r v) .done (some (.exit 0))) ++ [(false, Obj.cells D 4 (0, 0))])).map (·.old)) = some (⟨.ret (rnV (rhoK (kz [0, 1, 2, 3, 4, 5, 6, 7] ((fdO i W mb mo ms tanks (ffF 7 i.nm m r v) .done (some (.exit 0))) ++ [(false, Obj.cells D 4 (0, 0))]))) 3 (.tuple #[])), (kz [0, 1, 2, 3, 4, 5, 6, 7] ((fdO i W mb mo ms tanks (ffF 7 i.nm m r v) .done (some (.exit 0))) ++ [(false, Obj.cells D 4 (0, 0))])).map (fun kept_ => some (wasK (rhoK (kz [0, 1, 2, 3, 4, 5, 6, 7] ((fdO i W mb mo ms tanks (ffF 7 i.nm m r v) .done (some (.exit 0))) ++ [(false, Obj.cells D 4 (0, 0))]))) kept_)), 8,
    [(RJ Tryz.prog B (frC i W mb mo ms tanks) ((List.range 8).map fun q => (q, hget (heapO 0 ((fdO i W mb mo ms tanks ffN .ready none) ++ [(false, Obj.cells D 4 (0, 0))])) q)) 8 (.bool false) [(3, .cells (ffF 7 i.nm m r v) 59 (0, 0)), (6, .loop (ffS i W mb mo ms tanks .done (some (.exit 0))))] 8 [3, 6]),
CJ Tryz.prog B 62
  #[Value.agg
      #[Value.int IntKind.i64 (Isl.cap i), Value.int IntKind.i64 (Isl.sl i), Value.int IntKind.i64 (Isl.sh i),
        Value.int IntKind.i64 (Isl.roof i), Value.int IntKind.i64 (Isl.sand i), Value.int IntKind.i64 (Isl.kl i),
        Value.int IntKind.i64 (Isl.kh i), Value.int IntKind.i64 (Isl.ll i), Value.int IntKind.i64 (Isl.lh i),
        Value.int IntKind.i64 (Isl.pump i), Value.int IntKind.i64 (Isl.keep i), Value.int IntKind.i64 (Isl.size i), W,
        Value.slice (some { block := mb, off := mo, spot := some 0 }) (Isl.nm i) ms, Value.int IntKind.i64 (Isl.most i),
        Value.int IntKind.i64 (Isl.row i)],
    Value.slice (some { block := 7, off := 0 }) (Isl.nm i) 1]
  [(7, some (Obj.cells D 4))] 8 (Value.bool true) [] 8 [],
ltq (↑n : Int) (↑(Isl.nm i) : Int) = false]⟩, [6, 3]) := by kernel_rfl
noncomputable def frO (i : Isl) (W : Value) (mb mo ms : Nat) (tanks : Int) (D E : Array Value) : List (Bool × Obj) :=
  fdO i W mb mo ms tanks ffN .busy none ++ [(false, .cells D 4 (0, 0)), (false, .cells E 53 (1, 1))]
def frL (nm m : Nat) : List (Nat × Value) :=
  [(2, .pointer (some ⟨0, 0, none⟩)), (3, .pointer (some ⟨1, 0, none⟩)), (5, .pointer (some ⟨3, 0, none⟩)), (6, .slice (some ⟨7, 0, none⟩) nm 1), (26, .slice (some ⟨8, 0, none⟩) nm 0), (27, .int .i64 nm), (28, .int .i64 m)]
def frT : List It := [.code [1, 0, 1, 1, 0, 1, 0, 1, 0, 1, 1, 0, 0], .inLoop [1, 0, 1, 1, 0, 1, 0, 1, 0, 1, 1, 0, 0], .inBlock 2, .inBlock 1]
set_option maxRecDepth 100000 in
theorem fr_start (B : Lo) (i : Isl) (W : Value) (mb mo ms : Nat) (tanks : Int) (D R1 N1 : Array Value) (s1 k1 l1 : Int) (E : Array Value) (g0 g1 g2 g3 g4 g5 : Int) : landB (srun Tryz.prog goFns B 9 8 (frC i W mb mo ms tanks) (heapO 0 (fdO i W mb mo ms tanks ffN .ready none ++ [(false, Obj.cells D 4 (0, 0))])) ((fdO i W mb mo ms tanks ffN .ready none ++ [(false, Obj.cells D 4 (0, 0))])).length
    [(5, Hint.call [7]
  (Value.agg
    #[Value.int IntKind.i64 s1, Value.int IntKind.i64 k1, Value.int IntKind.i64 l1,
      Value.slice (some { block := 7, off := 0 }) (Isl.nm i) 1,
      Value.slice (some { block := 8, off := 0 }) (Isl.nm i) 1,
      Value.slice (some { block := 9, off := 0 }) (Isl.nm i) 1])
  [(8, Obj.cells R1 3), (9, Obj.cells N1 3)] 10 []),
(6, Hint.call [7, 8, 9]
  (Value.tuple
    #[Value.slice (some { block := 10, off := 0 }) (Isl.nm i) 0,
      Value.agg
        #[Value.int IntKind.i64 g0, Value.int IntKind.i64 g1, Value.int IntKind.i64 g2, Value.int IntKind.i64 g3,
          Value.int IntKind.i64 g4, Value.int IntKind.i64 g5]])
  [(10, Obj.cells E 53 (1, 1))] 11 [])] 0 [] []) ((frL i.nm 0).map (·.1)) ((kz [0, 1, 2, 3, 4, 5, 6, 7, 10] (frO i W mb mo ms tanks D E)).map (·.old)) = some (⟨47, 48, frT.map (it (bodyOf Tryz.prog 47)), [], .run, some 6, (frL i.nm 0).map (fun p => rnV (rhoK (kz [0, 1, 2, 3, 4, 5, 6, 7, 10] (frO i W mb mo ms tanks D E))) 3 p.2), (kz [0, 1, 2, 3, 4, 5, 6, 7, 10] (frO i W mb mo ms tanks D E)).map (fun kept_ => some (wasK (rhoK (kz [0, 1, 2, 3, 4, 5, 6, 7, 10] (frO i W mb mo ms tanks D E))) kept_)), 12,
    [CJ Tryz.prog B 45
  #[Value.agg
      #[Value.int IntKind.i64 (Isl.cap i), Value.int IntKind.i64 (Isl.sl i), Value.int IntKind.i64 (Isl.sh i),
        Value.int IntKind.i64 (Isl.roof i), Value.int IntKind.i64 (Isl.sand i), Value.int IntKind.i64 (Isl.kl i),
        Value.int IntKind.i64 (Isl.kh i), Value.int IntKind.i64 (Isl.ll i), Value.int IntKind.i64 (Isl.lh i),
        Value.int IntKind.i64 (Isl.pump i), Value.int IntKind.i64 (Isl.keep i), Value.int IntKind.i64 (Isl.size i), W,
        Value.slice (some { block := mb, off := mo, spot := some 0 }) (Isl.nm i) ms, Value.int IntKind.i64 (Isl.most i),
        Value.int IntKind.i64 (Isl.row i)],
    Value.int IntKind.i64 tanks,
    Value.agg
      #[Value.int IntKind.i64 s1, Value.int IntKind.i64 k1, Value.int IntKind.i64 l1,
        Value.slice (some { block := 7, off := 0 }) (Isl.nm i) 1,
        Value.slice (some { block := 8, off := 0 }) (Isl.nm i) 1,
        Value.slice (some { block := 9, off := 0 }) (Isl.nm i) 1]]
  [(7, some (Obj.cells D 4)), (8, some (Obj.cells R1 3)), (9, some (Obj.cells N1 3))] 10
  (Value.tuple
    #[Value.slice (some { block := 10, off := 0 }) (Isl.nm i) 0,
      Value.agg
        #[Value.int IntKind.i64 g0, Value.int IntKind.i64 g1, Value.int IntKind.i64 g2, Value.int IntKind.i64 g3,
          Value.int IntKind.i64 g4, Value.int IntKind.i64 g5]])
  [(10, Obj.cells E 53 (1, 1))] 11 [],
CJ Tryz.prog B 58
  #[Value.agg
      #[Value.int IntKind.i64 (Isl.cap i), Value.int IntKind.i64 (Isl.sl i), Value.int IntKind.i64 (Isl.sh i),
        Value.int IntKind.i64 (Isl.roof i), Value.int IntKind.i64 (Isl.sand i), Value.int IntKind.i64 (Isl.kl i),
        Value.int IntKind.i64 (Isl.kh i), Value.int IntKind.i64 (Isl.ll i), Value.int IntKind.i64 (Isl.lh i),
        Value.int IntKind.i64 (Isl.pump i), Value.int IntKind.i64 (Isl.keep i), Value.int IntKind.i64 (Isl.size i), W,
        Value.slice (some { block := mb, off := mo, spot := some 0 }) (Isl.nm i) ms, Value.int IntKind.i64 (Isl.most i),
        Value.int IntKind.i64 (Isl.row i)],
    Value.slice (some { block := 7, off := 0 }) (Isl.nm i) 1]
  [(7, some (Obj.cells D 4))] 8
  (Value.agg
    #[Value.int IntKind.i64 s1, Value.int IntKind.i64 k1, Value.int IntKind.i64 l1,
      Value.slice (some { block := 7, off := 0 }) (Isl.nm i) 1,
      Value.slice (some { block := 8, off := 0 }) (Isl.nm i) 1,
      Value.slice (some { block := 9, off := 0 }) (Isl.nm i) 1])
  [(8, Obj.cells R1 3), (9, Obj.cells N1 3)] 10 []]⟩, [6]) := by kernel_rfl
set_option maxRecDepth 100000 in
theorem fr_month (B : Lo) (i : Isl) (W : Value) (mb mo ms : Nat) (tanks : Int) (D E : Array Value) (m : Nat) (e0 e1 e2 : Int) (d : Nat → Value) : landB (srun Tryz.prog goFns B 18 8 (headR (some 6) 47 48 (frL i.nm m) d (frT.map (it (bodyOf Tryz.prog 47)))) (heapO 0 (frO i W mb mo ms tanks D E)) ((frO i W mb mo ms tanks D E)).length
    [(0, Hint.val (Value.bool true)),
(2, Hint.idx m),
(3, Hint.ld (Value.agg #[Value.int IntKind.i64 e0, Value.int IntKind.i64 e1, Value.int IntKind.i64 e2])),
(9, Hint.call [] (Value.tuple #[Value.int IntKind.i64 1, Value.int IntKind.i64 0]) [] 10 []),
(17, Hint.val (Value.int IntKind.i64 ((↑m : Int) + 1)))] 0 [] []) ((frL i.nm (m + 1)).map (·.1)) ((kz [0, 1, 2, 3, 4, 5, 6, 7, 8] (frO i W mb mo ms tanks D E)).map (·.old)) = some (⟨47, 48, frT.map (it (bodyOf Tryz.prog 47)), [], .run, some 6, (frL i.nm (m + 1)).map (fun p => rnV (rhoK (kz [0, 1, 2, 3, 4, 5, 6, 7, 8] (frO i W mb mo ms tanks D E))) 3 p.2), (kz [0, 1, 2, 3, 4, 5, 6, 7, 8] (frO i W mb mo ms tanks D E)).map (fun kept_ => some (wasK (rhoK (kz [0, 1, 2, 3, 4, 5, 6, 7, 8] (frO i W mb mo ms tanks D E))) kept_)), 10,
    [wq ((↑m : Int) + 1) = (↑m : Int) + 1,
CJ Tryz.prog B 67
  #[Value.agg
      #[Value.int IntKind.i64 (Isl.cap i), Value.int IntKind.i64 (Isl.sl i), Value.int IntKind.i64 (Isl.sh i),
        Value.int IntKind.i64 (Isl.roof i), Value.int IntKind.i64 (Isl.sand i), Value.int IntKind.i64 (Isl.kl i),
        Value.int IntKind.i64 (Isl.kh i), Value.int IntKind.i64 (Isl.ll i), Value.int IntKind.i64 (Isl.lh i),
        Value.int IntKind.i64 (Isl.pump i), Value.int IntKind.i64 (Isl.keep i), Value.int IntKind.i64 (Isl.size i), W,
        Value.slice (some { block := mb, off := mo, spot := some 0 }) (Isl.nm i) ms, Value.int IntKind.i64 (Isl.most i),
        Value.int IntKind.i64 (Isl.row i)],
    Value.agg #[Value.int IntKind.i64 e0, Value.int IntKind.i64 e1, Value.int IntKind.i64 e2]]
  [] 10 (Value.tuple #[Value.int IntKind.i64 1, Value.int IntKind.i64 0]) [] 10 [],
0 + m * 3 + TypeInfo.size Tryz.t53 ≤ Array.size E ∧
  Array.extract E (0 + m * 3) (0 + m * 3 + TypeInfo.size Tryz.t53) =
    #[Value.int IntKind.i64 e0, Value.int IntKind.i64 e1, Value.int IntKind.i64 e2],
(↑m : Int) = (↑m : Int) ∧ m < Isl.nm i,
ltq (↑m : Int) (↑(Isl.nm i) : Int) = true]⟩, []) := by kernel_rfl
set_option maxRecDepth 100000 in
theorem fr_bad (B : Lo) (i : Isl) (W : Value) (mb mo ms : Nat) (tanks : Int) (D E : Array Value) (m : Nat) (e0 e1 e2 r v : Int) (d : Nat → Value) : endedB (srun Tryz.prog goFns B 17 8 (headR (some 6) 47 48 (frL i.nm m) d (frT.map (it (bodyOf Tryz.prog 47)))) (heapO 0 (frO i W mb mo ms tanks D E)) ((frO i W mb mo ms tanks D E)).length
    [(0, Hint.val (Value.bool true)),
(2, Hint.idx m),
(3, Hint.ld (Value.agg #[Value.int IntKind.i64 e0, Value.int IntKind.i64 e1, Value.int IntKind.i64 e2])),
(9, Hint.call [] (Value.tuple #[Value.int IntKind.i64 r, Value.int IntKind.i64 v]) [] 10 []),
(16, Hint.val (Value.bool true))] 0 [] []) ((kz [0, 1, 2, 3, 4, 5, 6, 7] (fdO i W mb mo ms tanks (ffF 7 i.nm m r v) .done (some (.exit 0)) ++ [(false, Obj.cells D 4 (0, 0))])).map (·.old)) = some (⟨.ret (rnV (rhoK (kz [0, 1, 2, 3, 4, 5, 6, 7] (fdO i W mb mo ms tanks (ffF 7 i.nm m r v) .done (some (.exit 0)) ++ [(false, Obj.cells D 4 (0, 0))]))) 3 (.bool false)), (kz [0, 1, 2, 3, 4, 5, 6, 7] (fdO i W mb mo ms tanks (ffF 7 i.nm m r v) .done (some (.exit 0)) ++ [(false, Obj.cells D 4 (0, 0))])).map (fun kept_ => some (wasK (rhoK (kz [0, 1, 2, 3, 4, 5, 6, 7] (fdO i W mb mo ms tanks (ffF 7 i.nm m r v) .done (some (.exit 0)) ++ [(false, Obj.cells D 4 (0, 0))]))) kept_)), 10,
    [(!eqq r 1) = true,
CJ Tryz.prog B 67
  #[Value.agg
      #[Value.int IntKind.i64 (Isl.cap i), Value.int IntKind.i64 (Isl.sl i), Value.int IntKind.i64 (Isl.sh i),
        Value.int IntKind.i64 (Isl.roof i), Value.int IntKind.i64 (Isl.sand i), Value.int IntKind.i64 (Isl.kl i),
        Value.int IntKind.i64 (Isl.kh i), Value.int IntKind.i64 (Isl.ll i), Value.int IntKind.i64 (Isl.lh i),
        Value.int IntKind.i64 (Isl.pump i), Value.int IntKind.i64 (Isl.keep i), Value.int IntKind.i64 (Isl.size i), W,
        Value.slice (some { block := mb, off := mo, spot := some 0 }) (Isl.nm i) ms, Value.int IntKind.i64 (Isl.most i),
        Value.int IntKind.i64 (Isl.row i)],
    Value.agg #[Value.int IntKind.i64 e0, Value.int IntKind.i64 e1, Value.int IntKind.i64 e2]]
  [] 10 (Value.tuple #[Value.int IntKind.i64 r, Value.int IntKind.i64 v]) [] 10 [],
0 + m * 3 + TypeInfo.size Tryz.t53 ≤ Array.size E ∧
  Array.extract E (0 + m * 3) (0 + m * 3 + TypeInfo.size Tryz.t53) =
    #[Value.int IntKind.i64 e0, Value.int IntKind.i64 e1, Value.int IntKind.i64 e2],
(↑m : Int) = (↑m : Int) ∧ m < Isl.nm i,
ltq (↑m : Int) (↑(Isl.nm i) : Int) = true]⟩, [6, 3]) := by kernel_rfl
set_option maxRecDepth 100000 in
theorem fr_end (B : Lo) (i : Isl) (W : Value) (mb mo ms : Nat) (tanks : Int) (D E : Array Value) (m : Nat) (d : Nat → Value) : endedB (srun Tryz.prog goFns B 7 8 (headR (some 6) 47 48 (frL i.nm m) d (frT.map (it (bodyOf Tryz.prog 47)))) (heapO 0 (frO i W mb mo ms tanks D E)) ((frO i W mb mo ms tanks D E)).length
    [(0, Hint.val (Value.bool false))] 0 [] []) ((kz [0, 1, 2, 3, 4, 5, 6, 7] (fdO i W mb mo ms tanks ffN .ready none ++ [(false, Obj.cells D 4 (0, 0))])).map (·.old)) = some (⟨.ret (rnV (rhoK (kz [0, 1, 2, 3, 4, 5, 6, 7] (fdO i W mb mo ms tanks ffN .ready none ++ [(false, Obj.cells D 4 (0, 0))]))) 3 (.bool true)), (kz [0, 1, 2, 3, 4, 5, 6, 7] (fdO i W mb mo ms tanks ffN .ready none ++ [(false, Obj.cells D 4 (0, 0))])).map (fun kept_ => some (wasK (rhoK (kz [0, 1, 2, 3, 4, 5, 6, 7] (fdO i W mb mo ms tanks ffN .ready none ++ [(false, Obj.cells D 4 (0, 0))]))) kept_)), 9,
    [ltq (↑m : Int) (↑(Isl.nm i) : Int) = false]⟩, [6]) := by kernel_rfl
end Go.Proofs.YtffdidleebognaaGreatDoor

namespace Go.Proofs.YtffdidleebognaaGreatDoor
open Go Go.CE Go.Proofs Go.RowKit Lens
/-- The first month below m at whose end something is wrong, where water is scarcest in a drought. -/
def badTo (i : Isl) (tanks : Int) (d : Nat → Bool) : Nat → Option Nat
  | 0 => none
  | m + 1 => match badTo i tanks d m with
    | some k => some k
    | none => if wrongRule i (endsOf i tanks false d m) = 1 then none else some m
theorem badTo_none {i : Isl} {tanks : Int} {d : Nat → Bool} : ∀ {m : Nat}, badTo i tanks d m = none → ∀ k, k < m → wrongRule i (endsOf i tanks false d k) = 1 ∧ badTo i tanks d k = none
  | 0, _, k, hk => by omega
  | m + 1, h, k, hk => by
    simp only [badTo] at h
    split at h
    · cases h
    · rename_i hm
      split at h
      · rename_i hr
        rcases Nat.lt_or_ge k m with hlt | hge
        · exact badTo_none hm k hlt
        · have : k = m := by omega
          subst this
          exact ⟨hr, hm⟩
      · cases h
theorem badTo_some {i : Isl} {tanks : Int} {d : Nat → Bool} : ∀ {n m : Nat}, badTo i tanks d n = some m → m < n ∧ wrongRule i (endsOf i tanks false d m) ≠ 1 ∧ badTo i tanks d m = none
  | 0, _, h => by cases h
  | n + 1, m, h => by
    simp only [badTo] at h
    split at h
    · rename_i k hk
      cases h
      have := badTo_some hk
      exact ⟨by omega, this.2⟩
    · rename_i hn
      split at h
      · cases h
      · rename_i hr
        cases h
        exact ⟨by omega, hr, hn⟩
theorem wrongRule_one {i : Isl} {s : Seen} (h : wrongRule i s = 1) : wrongWell i s = 0 := by
  unfold wrongRule at h
  unfold wrongWell
  split at h
  · omega
  · rename_i hl
    rw [if_neg hl]
    generalize firstLow i s i.nw = x at *
    cases x with
    | none => rfl
    | some k => simp at h
theorem undef_loose : Loose undef := fun _ _ _ hv => by
  have := af_eq (v := undef) (by simp [Go.undef, af]) hv
  rw [this]; exact VR.undef
section
variable {i : Isl} {wa : Option Addr} {wc mb mo mc : Nat} {tanks : Int} {w : World} {d : Nat → Bool}
theorem con_wrong {n : Nat} {ma : Option Addr} (hi : IslAt w w.heap.size i wa ma) (s : Seen) : CJ Tryz.prog (worldLo w) 67 #[islR i wa wc ma mc, .agg #[.int .i64 s.tanks, .int .i64 s.lens, .int .i64 s.lack]] [] n (.tuple #[.int .i64 (wrongRule i s), .int .i64 (wrongWell i s)]) [] n [] :=
  con_of (l := [islR i wa wc ma mc, .agg #[.int .i64 s.tanks, .int .i64 s.lens, .int .i64 s.lack]]) (l' := [islV i wa wc ma mc, .agg #[.int .i64 s.tanks, .int .i64 s.lens, .int .i64 s.lack]]) (v' := .tuple #[.int .i64 (wrongRule i s), .int .i64 (wrongWell i s)])
    (.cons (exact_isl _ _ _ _ _) (.cons (exact_agg (.cons (exact_af rfl) (.cons (exact_af rfl) (.cons (exact_af rfl) .nil)))) .nil)) (exact_tuple (.cons (exact_af rfl) (.cons (exact_af rfl) .nil))) fun w' hw => wrong_any i wa wc ma mc s w' (islAt_lo hi hw)
theorem ffR_slot {a : Nat} (ha : 6 ≤ a) : ∀ p ∈ ffR i (rawS wa i.nw wc) mb mo mc tanks, Loose p.2 ∨ okV a 3 p.2 = true := fun p hp => by
  have h3 : ∀ k, k < 6 → okV a 3 (.pointer (some ⟨k, 0, none⟩)) = true := fun k hk => Nat.ble_eq_true_of_le (show k + 1 ≤ a by omega)
  simp only [ffR, List.mem_cons, List.not_mem_nil, or_false] at hp
  rcases hp with rfl | rfl | rfl | rfl | rfl | rfl | rfl | rfl | rfl
  · exact .inl (exact_isl i wa wc (some ⟨mb, mo, none⟩) mc).loose
  · exact .inl (loose_int _ _)
  · exact .inr (h3 0 (by omega))
  · exact .inr (h3 1 (by omega))
  · exact .inr (h3 2 (by omega))
  · exact .inr (h3 3 (by omega))
  · exact .inl (loose_agg fun v hv => by
      simp only [ffN, List.mem_toArray, List.mem_cons, List.not_mem_nil, or_false] at hv
      rcases hv with rfl | rfl | rfl | rfl
      · exact loose_af rfl
      · exact loose_int _ _
      · exact loose_int _ _
      · exact loose_int _ _)
  · exact .inl (exact_isl i wa wc (some ⟨mb, mo, none⟩) mc).loose
  · refine .inr ?_
    have := h3 4 (by omega)
    exact okV_mono (a := 6) ha 3 _ (by kernel_rfl)
theorem ffS_fix {n : Nat} (h7 : 6 ≤ n) {s : LoopState} {p : Option Code} : FixO n (.loop (ffS i (rawS wa i.nw wc) mb mo mc tanks s p)) := fun v hv => by
  exact slots_arr (slots_mkT (by decide) (fun _ => undef_loose) (ffR_slot h7)) v hv
theorem okO_ffN {n : Nat} : okO n (.cells ffN 59 (0, 0)) = true := by kernel_rfl
theorem okO_ffF {n nm : Nat} (h : 8 ≤ n) {m r v : Int} : okO n (.cells (ffF 7 nm m r v) 59 (0, 0)) = true := by
  have := okV_mono h 3 (.slice (some ⟨7, 0, none⟩) nm 1) (by kernel_rfl)
  simp only [okO, ffF, List.all_toArray, List.all_cons, List.all_nil, Bool.and_true, Bool.and_eq_true]
  exact ⟨this, rfl, rfl, rfl⟩
theorem fd_ok {a n : Nat} (h7 : 6 ≤ a) {F : Array Value} (hF : okO n (.cells F 59 (0, 0)) = true) {s : LoopState} {p : Option Code} {l : List (Bool × Obj)} (hl : OkB a n l) : OkB a n (fdO i (rawS wa i.nw wc) mb mo mc tanks F s p ++ l) :=
  ⟨.inr ⟨rfl, .inl (loose_isl i wa wc (some ⟨mb, mo, none⟩) mc)⟩, .inl ⟨rfl, by kernel_rfl⟩, .inl ⟨rfl, by kernel_rfl⟩, .inl ⟨rfl, hF⟩, .inr ⟨rfl, .inl (loose_isl i wa wc (some ⟨mb, mo, none⟩) mc)⟩, .inr ⟨rfl, .inr trivial⟩, .inr ⟨rfl, .inr (ffS_fix h7)⟩, hl⟩
theorem fr_same {W : Value} {F : Array Value} {s : LoopState} {p : Option Code} {D : Array Value} {l : List (Bool × Obj)} : ∀ j, j < 8 → j ∉ [3, 6] → hget (heapO 0 (fdO i W mb mo mc tanks F s p ++ ((false, Obj.cells D 4 (0, 0)) :: l))) j = hget (heapO 0 (fdO i W mb mo mc tanks ffN .ready none ++ [(false, Obj.cells D 4 (0, 0))])) j := fun j hj hn => by
  have : j = 0 ∨ j = 1 ∨ j = 2 ∨ j = 3 ∨ j = 4 ∨ j = 5 ∨ j = 6 ∨ j = 7 := by omega
  rcases this with rfl | rfl | rfl | rfl | rfl | rfl | rfl | rfl
  all_goals first
    | (exact absurd (by decide) hn; done)
    | rfl
theorem fr_same6 {W : Value} {s : LoopState} {p : Option Code} {D : Array Value} {l : List (Bool × Obj)} : ∀ j, j < 8 → j ∉ [6] → hget (heapO 0 (fdO i W mb mo mc tanks ffN s p ++ ((false, Obj.cells D 4 (0, 0)) :: l))) j = hget (heapO 0 (fdO i W mb mo mc tanks ffN .ready none ++ [(false, Obj.cells D 4 (0, 0))])) j := fun j hj hn => by
  have : j = 0 ∨ j = 1 ∨ j = 2 ∨ j = 3 ∨ j = 4 ∨ j = 5 ∨ j = 6 ∨ j = 7 := by omega
  rcases this with rfl | rfl | rfl | rfl | rfl | rfl | rfl | rfl
  all_goals first
    | (exact absurd (by decide) hn; done)
    | rfl
theorem fr_writable {W : Value} {D : Array Value} {l : List Nat} (hl : ∀ j ∈ l, j = 3 ∨ j = 6) : Writable (heapO 0 (fdO i W mb mo mc tanks ffN .ready none ++ [(false, Obj.cells D 4 (0, 0))])) 8 l := fun j _ hj => by
  rcases hl j hj with rfl | rfl
  · exact .inl ⟨_, _, rfl⟩
  · exact .inr (.inl ⟨_, rfl⟩)
set_option maxRecDepth 100000 in
theorem fr_at (hi : IslAt w w.heap.size i wa (some ⟨mb, mo, none⟩)) (h1 : 1 ≤ i.nm) (hf : Fit i tanks (endTru i false i.nm d)) {W : List Nat} (hW : ∀ j ∈ W, j = 3 ∨ j = 6) (h6 : [6].all (fun j => W.contains j) = true)
    (hsm : ∀ j, j < 8 → j ∉ W → hget (heapO 0 (frO i (rawS wa i.nw wc) mb mo mc tanks (rowA (boolE d) i.nm) (rowA (seenE i tanks (endTru i false i.nm d)) i.nm))) j = hget (heapO 0 (fdO i (rawS wa i.nw wc) mb mo mc tanks ffN .ready none ++ [(false, Obj.cells (rowA (boolE d) i.nm) 4 (0, 0))])) j) :
    ∀ m, m ≤ i.nm → badTo i tanks d m = none → ∃ d' : Nat → Value, (∀ t, Loose (d' t)) ∧ GoE Tryz.prog (worldLo w) (frC i (rawS wa i.nw wc) mb mo mc tanks) (heapO 0 (fdO i (rawS wa i.nw wc) mb mo mc tanks ffN .ready none ++ [(false, Obj.cells (rowA (boolE d) i.nm) 4 (0, 0))])) 8
      (headR (some 6) 47 48 (frL i.nm m) d' (frT.map (it (bodyOf Tryz.prog 47)))) (heapO 0 (frO i (rawS wa i.nw wc) mb mo mc tanks (rowA (boolE d) i.nm) (rowA (seenE i tanks (endTru i false i.nm d)) i.nm))) 9 W := by
  have h8 : i.nm ≤ 8 := hf.nm
  have hml : i.nm ≤ maxLen := by unfold maxLen; omega
  have hr6 : ∀ l, some 6 = some l → l < 8 := fun l e => by cases e; omega
  have ok : OkB 8 9 (frO i (rawS wa i.nw wc) mb mo mc tanks (rowA (boolE d) i.nm) (rowA (seenE i tanks (endTru i false i.nm d)) i.nm)) :=
    fd_ok (by omega) okO_ffN ⟨.inr ⟨rfl, .inl (loose_boolE _ _)⟩, .inr ⟨rfl, .inl (loose_seenE _ _ _ _)⟩, trivial⟩
  intro m
  induction m with
  | zero =>
    intro _ _
    exact ((GoE.refl (P := Tryz.prog) (B := worldLo w) (c0 := frC i (rawS wa i.nw wc) mb mo mc tanks) (under_heapO (fdO i (rawS wa i.nw wc) mb mo mc tanks ffN .ready none ++ [(false, Obj.cells (rowA (boolE d) i.nm) 4 (0, 0))]) (Nat.le_refl 8))).widen (Wf := W) (fun _ _ h => by simp at h) (fr_writable hW)).headR goFns_ok mixed_ok (fr_writable hW)
      (fr_start (worldLo w) i (rawS wa i.nw wc) mb mo mc tanks (rowA (boolE d) i.nm) (rowA (intE (endTru i false i.nm d).rains) i.nm) (rowA (intE (endTru i false i.nm d).needs) i.nm) i.sl i.kl i.lh (rowA (seenE i tanks (endTru i false i.nm d)) i.nm)
        (i.size * tanks + (endTru i false i.nm d).start) (runTo i tanks (endTru i false i.nm d) i.nm).rain (runTo i tanks (endTru i false i.nm d) i.nm).used (runTo i tanks (endTru i false i.nm d) i.nm).leak (runTo i tanks (endTru i false i.nm d) i.nm).sea ((runTo i tanks (endTru i false i.nm d) i.nm).tanks + (runTo i tanks (endTru i false i.nm d) i.nm).lens))
      ⟨con_follow (w := w) (i := i) (tanks := tanks) (wa := wa) (wc := wc) (ma := some ⟨mb, mo, none⟩) (mc := mc) (t := endTru i false i.nm d) (n := 10) (k := 7) (r := 8) (s := 9) (by omega) (by omega) (by omega) hml hml hml hf h1 hml, sca_con hi h1 (Nat.le_refl _) h8 (k := 7) (n := 8) (by omega), trivial⟩
      h6 (by kernel_rfl) (by kernel_rfl) (by kernel_rfl) (by kernel_rfl) (by kernel_rfl) (by kernel_rfl) (by kernel_rfl) (by kernel_rfl) (by kernel_rfl) ok hsm hr6
  | succ m ih =>
    intro hm hb
    have hbm := badTo_none hb m (by omega)
    obtain ⟨d', _, hg⟩ := ih (by omega) hbm.2
    have hlt : m < i.nm := by omega
    have hw := con_wrong (w := w) (i := i) (wa := wa) (wc := wc) (ma := some ⟨mb, mo, none⟩) (mc := mc) (n := 10) hi (endsOf i tanks false d m)
    rw [hbm.1, wrongRule_one hbm.1] at hw
    exact hg.headR goFns_ok mixed_ok (fr_writable hW)
      (fr_month (worldLo w) i (rawS wa i.nw wc) mb mo mc tanks (rowA (boolE d) i.nm) (rowA (seenE i tanks (endTru i false i.nm d)) i.nm) m (runTo i tanks (endTru i false i.nm d) (m + 1)).tanks (runTo i tanks (endTru i false i.nm d) (m + 1)).lens (runTo i tanks (endTru i false i.nm d) (m + 1)).lack d')
      ⟨wq_in (by omega) (by omega), hw, seen_get hlt, ⟨rfl, hlt⟩, ltq_t (by omega), trivial⟩
      (by kernel_rfl) (by kernel_rfl) (by kernel_rfl) (by kernel_rfl) (by kernel_rfl) (by kernel_rfl) (by kernel_rfl) (by kernel_rfl) (by kernel_rfl) (by kernel_rfl) ok hsm hr6
set_option maxRecDepth 100000 in
theorem fr_fine (hi : IslAt w w.heap.size i wa (some ⟨mb, mo, none⟩)) (h1 : 1 ≤ i.nm) (hf : Fit i tanks (endTru i false i.nm d)) (hb : badTo i tanks d i.nm = none) :
    StdF Tryz.prog (worldLo w) (frC i (rawS wa i.nw wc) mb mo mc tanks) (heapO 0 (fdO i (rawS wa i.nw wc) mb mo mc tanks ffN .ready none ++ [(false, Obj.cells (rowA (boolE d) i.nm) 4 (0, 0))])) 8 (.bool true)
      (heapO 0 (fdO i (rawS wa i.nw wc) mb mo mc tanks ffN .ready none ++ [(false, Obj.cells (rowA (boolE d) i.nm) 4 (0, 0))])) 8 [6] := by
  obtain ⟨d1, _, g⟩ := fr_at (wc := wc) (mc := mc) hi h1 hf (W := [6]) (fun j hj => by simp at hj; exact .inr hj) rfl fr_same6 i.nm (Nat.le_refl _) hb
  exact g.stdF goFns_ok mixed_ok (fr_writable fun j hj => by simp at hj; exact .inr hj) (os := fdO i (rawS wa i.nw wc) mb mo mc tanks ffN .ready none ++ [(false, Obj.cells (rowA (boolE d) i.nm) 4 (0, 0))])
    (fr_end (worldLo w) i (rawS wa i.nw wc) mb mo mc tanks (rowA (boolE d) i.nm) (rowA (seenE i tanks (endTru i false i.nm d)) i.nm) i.nm d1)
    ⟨ltq_f (by omega), trivial⟩ (by kernel_rfl) (by kernel_rfl) (by kernel_rfl) (by kernel_rfl) (by kernel_rfl) (by kernel_rfl) (by kernel_rfl) (by kernel_rfl) (fd_ok (by omega) okO_ffN ⟨.inr ⟨rfl, .inl (loose_boolE _ _)⟩, trivial⟩) (fun _ _ _ => rfl)
set_option maxRecDepth 100000 in
theorem fr_broken (hi : IslAt w w.heap.size i wa (some ⟨mb, mo, none⟩)) (h1 : 1 ≤ i.nm) (hf : Fit i tanks (endTru i false i.nm d)) {m : Nat} (hb : badTo i tanks d i.nm = some m) :
    StdF Tryz.prog (worldLo w) (frC i (rawS wa i.nw wc) mb mo mc tanks) (heapO 0 (fdO i (rawS wa i.nw wc) mb mo mc tanks ffN .ready none ++ [(false, Obj.cells (rowA (boolE d) i.nm) 4 (0, 0))])) 8 (.bool false)
      (heapO 0 (fdO i (rawS wa i.nw wc) mb mo mc tanks (ffF 7 i.nm m (wrongRule i (endsOf i tanks false d m)) (wrongWell i (endsOf i tanks false d m))) .done (some (.exit 0)) ++ [(false, Obj.cells (rowA (boolE d) i.nm) 4 (0, 0))])) 8 [3, 6] := by
  obtain ⟨hlt, hr, hn⟩ := badTo_some hb
  have hW : ∀ j ∈ [3, 6], j = 3 ∨ j = 6 := fun j hj => by simpa using hj
  obtain ⟨d1, _, g⟩ := fr_at (wc := wc) (mc := mc) hi h1 hf (W := [3, 6]) hW rfl fr_same m (by omega) hn
  exact g.stdF goFns_ok mixed_ok (fr_writable hW) (os := fdO i (rawS wa i.nw wc) mb mo mc tanks (ffF 7 i.nm m (wrongRule i (endsOf i tanks false d m)) (wrongWell i (endsOf i tanks false d m))) .done (some (.exit 0)) ++ [(false, Obj.cells (rowA (boolE d) i.nm) 4 (0, 0))])
    (fr_bad (worldLo w) i (rawS wa i.nw wc) mb mo mc tanks (rowA (boolE d) i.nm) (rowA (seenE i tanks (endTru i false i.nm d)) i.nm) m (runTo i tanks (endTru i false i.nm d) (m + 1)).tanks (runTo i tanks (endTru i false i.nm d) (m + 1)).lens (runTo i tanks (endTru i false i.nm d) (m + 1)).lack (wrongRule i (endsOf i tanks false d m)) (wrongWell i (endsOf i tanks false d m)) d1)
    ⟨by rw [eqq_f hr]; rfl, con_wrong hi (endsOf i tanks false d m), seen_get hlt, ⟨rfl, hlt⟩, ltq_t (by omega), trivial⟩ (by kernel_rfl) (by kernel_rfl) (by kernel_rfl) (by kernel_rfl) (by kernel_rfl) (by kernel_rfl) (by kernel_rfl) (by kernel_rfl) (fd_ok (by omega) (okO_ffF (by show 8 ≤ 8; omega)) ⟨.inr ⟨rfl, .inl (loose_boolE _ _)⟩, trivial⟩) fr_same
theorem frC_slots : SlotsOk 8 (frC i (rawS wa i.nw wc) mb mo mc tanks).tmps := slots_mkT (by decide) (fun _ => undef_loose) fun p hp => by
  rcases List.mem_append.1 hp with h | h
  · exact ffR_slot (by omega) p h
  · simp only [List.mem_cons, List.not_mem_nil, or_false] at h
    rw [h]; exact .inr (by kernel_rfl)
theorem fd_fix {n : Nat} (h7 : 6 ≤ n) {F : Array Value} (hF : okO n (.cells F 59 (0, 0)) = true) {s : LoopState} {p : Option Code} {l : List (Bool × Obj)} (hl : ∀ b ∈ l, FixO n b.2) : ∀ b ∈ fdO i (rawS wa i.nw wc) mb mo mc tanks F s p ++ l, FixO n b.2 := by
  intro b hb
  rcases List.mem_append.1 hb with hb | hb
  · simp only [fdO, ffO, List.cons_append, List.nil_append, List.mem_cons, List.not_mem_nil, or_false] at hb
    rcases hb with rfl | rfl | rfl | rfl | rfl | rfl | rfl
    · exact fix_loose (loose_isl i wa wc (some ⟨mb, mo, none⟩) mc)
    · exact fix_ok (by kernel_rfl)
    · exact fix_ok (by kernel_rfl)
    · exact fix_ok hF
    · exact fix_loose (loose_isl i wa wc (some ⟨mb, mo, none⟩) mc)
    · trivial
    · exact ffS_fix h7
  · exact hl b hb
theorem fd_fixD {n : Nat} : ∀ b ∈ [(false, Obj.cells (rowA (boolE d) i.nm) 4 (0, 0))], FixO n b.2 := fun b hb => by
  simp only [List.mem_cons, List.not_mem_nil, or_false] at hb
  rw [hb]; exact fix_loose (o := .cells (rowA (boolE d) i.nm) 4 (0, 0)) (loose_boolE _ _)
theorem fr_rj (hi : IslAt w w.heap.size i wa (some ⟨mb, mo, none⟩)) (h1 : 1 ≤ i.nm) (hf : Fit i tanks (endTru i false i.nm d)) (hb : badTo i tanks d i.nm = none) :
    RJ Tryz.prog (worldLo w) (frC i (rawS wa i.nw wc) mb mo mc tanks) ((List.range 8).map fun q => (q, hget (heapO 0 (fdO i (rawS wa i.nw wc) mb mo mc tanks ffN .ready none ++ [(false, Obj.cells (rowA (boolE d) i.nm) 4 (0, 0))])) q)) 8 (.bool true)
      [(6, .loop (ffS i (rawS wa i.nw wc) mb mo mc tanks .ready none))] 8 [6] :=
  StdX.rj (os := fdO i (rawS wa i.nw wc) mb mo mc tanks ffN .ready none ++ [(false, Obj.cells (rowA (boolE d) i.nm) 4 (0, 0))]) (os' := fdO i (rawS wa i.nw wc) mb mo mc tanks ffN .ready none ++ [(false, Obj.cells (rowA (boolE d) i.nm) 4 (0, 0))])
    (fr_fine hi h1 hf hb) frC_slots (by kernel_rfl) rfl rfl (fun l e => by cases e; show 6 < 8; omega) (fd_fix (by show 6 ≤ 8; omega) okO_ffN fd_fixD) (fd_fix (by show 6 ≤ 8; omega) okO_ffN fd_fixD) (by kernel_rfl) (by kernel_rfl) (by kernel_rfl) (by kernel_rfl) (by kernel_rfl) (by kernel_rfl)
theorem fr_rjB (hi : IslAt w w.heap.size i wa (some ⟨mb, mo, none⟩)) (h1 : 1 ≤ i.nm) (hf : Fit i tanks (endTru i false i.nm d)) {m : Nat} (hb : badTo i tanks d i.nm = some m) :
    RJ Tryz.prog (worldLo w) (frC i (rawS wa i.nw wc) mb mo mc tanks) ((List.range 8).map fun q => (q, hget (heapO 0 (fdO i (rawS wa i.nw wc) mb mo mc tanks ffN .ready none ++ [(false, Obj.cells (rowA (boolE d) i.nm) 4 (0, 0))])) q)) 8 (.bool false)
      [(3, .cells (ffF 7 i.nm m (wrongRule i (endsOf i tanks false d m)) (wrongWell i (endsOf i tanks false d m))) 59 (0, 0)), (6, .loop (ffS i (rawS wa i.nw wc) mb mo mc tanks .done (some (.exit 0))))] 8 [3, 6] :=
  StdX.rj (os := fdO i (rawS wa i.nw wc) mb mo mc tanks ffN .ready none ++ [(false, Obj.cells (rowA (boolE d) i.nm) 4 (0, 0))]) (os' := fdO i (rawS wa i.nw wc) mb mo mc tanks (ffF 7 i.nm m (wrongRule i (endsOf i tanks false d m)) (wrongWell i (endsOf i tanks false d m))) .done (some (.exit 0)) ++ [(false, Obj.cells (rowA (boolE d) i.nm) 4 (0, 0))])
    (fr_broken hi h1 hf hb) frC_slots (by kernel_rfl) rfl rfl (fun l e => by cases e; show 6 < 8; omega) (fd_fix (by show 6 ≤ 8; omega) okO_ffN fd_fixD) (fd_fix (by show 6 ≤ 8; omega) (okO_ffF (by show 8 ≤ 8; omega)) fd_fixD) (by kernel_rfl) (by kernel_rfl) (by kernel_rfl) (by kernel_rfl) (by kernel_rfl) (by kernel_rfl)
end
end Go.Proofs.YtffdidleebognaaGreatDoor

namespace Go.Proofs.YtffdidleebognaaGreatDoor
open Go Go.CE Go.Proofs Go.RowKit Lens
def wrO (i : Isl) (W M : Value) (s : Seen) : List (Bool × Obj) :=
  [(false, .cells (islC i W M) 27 (0, 0)), (true, .cells #[.int .i64 s.tanks, .int .i64 s.lens, .int .i64 s.lack] 53 (0, 0))]
def wrL (k : Nat) : List (Nat × Value) := [(2, .pointer (some ⟨0, 0, none⟩)), (3, .pointer (some ⟨1, 0, none⟩)), (6, .int .i64 k)]
def wrT : List It := [.code [1, 1, 0, 1, 0, 0], .inLoop [1, 1, 0, 1, 0, 0], .inBlock 0, .code [1, 1, 1]]
set_option maxRecDepth 100000 in
theorem wr_lack (B : Lo) (i : Isl) (W M : Value) (s : Seen) : ended (srun Tryz.prog goFns B 10 0 (entryC Tryz.prog 30 26 [.agg (islC i W M), .agg #[.int .i64 s.tanks, .int .i64 s.lens, .int .i64 s.lack]]) [] 0
    [(6, Hint.val (Value.bool true))] 0 [] []) [] = some ⟨.ret (.tuple #[.int .i64 2, .int .i64 0]), [], 2,
    [ltq 0 (Seen.lack s) = true]⟩ := by kernel_rfl
set_option maxRecDepth 100000 in
theorem wr_entry (B : Lo) (i : Isl) (W M : Value) (s : Seen) : land (srun Tryz.prog goFns B 12 0 (entryC Tryz.prog 30 26 [.agg (islC i W M), .agg #[.int .i64 s.tanks, .int .i64 s.lens, .int .i64 s.lack]]) [] 0
    [(6, Hint.val (Value.bool false))] 0 [] []) ((wrL 0).map (·.1)) ((kz [0, 1] (wrO i W M s)).map (·.old)) = some ⟨30, 26, wrT.map (it (bodyOf Tryz.prog 30)), [], .run, none, (wrL 0).map (fun p => rnV (rhoK (kz [0, 1] (wrO i W M s))) 3 p.2), (kz [0, 1] (wrO i W M s)).map (fun kept_ => some (wasK (rhoK (kz [0, 1] (wrO i W M s))) kept_)), 2,
    [ltq 0 (Seen.lack s) = false]⟩ := by kernel_rfl
set_option maxRecDepth 100000 in
theorem wr_round (B : Lo) (i : Isl) (M : Value) (s : Seen) (wb wo ws k : Nat) (wk : Int) (d : Nat → Value) : land (srun Tryz.prog goFns B 14 0 (headC 30 26 (wrL k) d (wrT.map (it (bodyOf Tryz.prog 30)))) (heapO 0 (wrO i (.slice (some ⟨wb, wo, some 0⟩) i.nw ws) M s)) ((wrO i (.slice (some ⟨wb, wo, some 0⟩) i.nw ws) M s)).length
    [(4, Hint.val (Value.bool true)),
(10, Hint.idx k),
(11, Hint.raw (Value.int IntKind.i64 wk)),
(12, Hint.val (Value.bool false)),
(14, Hint.val (Value.int IntKind.i64 ((↑k : Int) + 1)))] 0 [] []) ((wrL (k + 1)).map (·.1)) ((kz [0, 1] (wrO i (.slice (some ⟨wb, wo, some 0⟩) i.nw ws) M s)).map (·.old)) = some ⟨30, 26, wrT.map (it (bodyOf Tryz.prog 30)), [], .run, none, (wrL (k + 1)).map (fun p => rnV (rhoK (kz [0, 1] (wrO i (.slice (some ⟨wb, wo, some 0⟩) i.nw ws) M s))) 3 p.2), (kz [0, 1] (wrO i (.slice (some ⟨wb, wo, some 0⟩) i.nw ws) M s)).map (fun kept_ => some (wasK (rhoK (kz [0, 1] (wrO i (.slice (some ⟨wb, wo, some 0⟩) i.nw ws) M s))) kept_)), 2,
    [wq ((↑k : Int) + 1) = (↑k : Int) + 1,
ltq (Seen.lens s) wk = false,
RawCell B wb (wo + k * 1) (Value.int IntKind.i64 wk),
(↑k : Int) = (↑k : Int) ∧ k < Isl.nw i,
ltq (↑k : Int) (↑(Isl.nw i) : Int) = true]⟩ := by kernel_rfl
set_option maxRecDepth 100000 in
theorem wr_low (B : Lo) (i : Isl) (M : Value) (s : Seen) (wb wo ws k : Nat) (wk : Int) (d : Nat → Value) : ended (srun Tryz.prog goFns B 14 0 (headC 30 26 (wrL k) d (wrT.map (it (bodyOf Tryz.prog 30)))) (heapO 0 (wrO i (.slice (some ⟨wb, wo, some 0⟩) i.nw ws) M s)) ((wrO i (.slice (some ⟨wb, wo, some 0⟩) i.nw ws) M s)).length
    [(4, Hint.val (Value.bool true)),
(10, Hint.idx k),
(11, Hint.raw (Value.int IntKind.i64 wk)),
(12, Hint.val (Value.bool true))] 0 [] []) [] = some ⟨.ret (.tuple #[.int .i64 3, .int .i64 k]), [], 2,
    [ltq (Seen.lens s) wk = true,
RawCell B wb (wo + k * 1) (Value.int IntKind.i64 wk),
(↑k : Int) = (↑k : Int) ∧ k < Isl.nw i,
ltq (↑k : Int) (↑(Isl.nw i) : Int) = true]⟩ := by kernel_rfl
set_option maxRecDepth 100000 in
theorem wr_end (B : Lo) (i : Isl) (A : Option Addr) (M : Value) (s : Seen) (ws k : Nat) (d : Nat → Value) : ended (srun Tryz.prog goFns B 9 0 (headC 30 26 (wrL k) d (wrT.map (it (bodyOf Tryz.prog 30)))) (heapO 0 (wrO i (.slice A i.nw ws) M s)) ((wrO i (.slice A i.nw ws) M s)).length
    [(3, Hint.len (Isl.nw i)),
(4, Hint.val (Value.bool false))] 0 [] []) [] = some ⟨.ret (.tuple #[.int .i64 1, .int .i64 0]), [], 2,
    [ltq (↑k : Int) (↑(Isl.nw i) : Int) = false,
SliceLen (tget { len := 16000, tr := Tri.set 14 Tri.lf 12 (Value.slice A (Isl.nw i) ws) } 12) (Isl.nw i)]⟩ := by kernel_rfl
theorem af3 (s : Seen) : Exact (.agg #[.int .i64 s.tanks, .int .i64 s.lens, .int .i64 s.lack]) (.agg #[.int .i64 s.tanks, .int .i64 s.lens, .int .i64 s.lack]) := exact_agg (.cons (exact_af rfl) (.cons (exact_af rfl) (.cons (exact_af rfl) .nil)))
section
variable {i : Isl} {wa : Option Addr} {wc mc : Nat} {ma : Option Addr} {w : World}
theorem rWrong_any (hi : IslAt w w.heap.size i wa ma) (s : Seen) : Calls Tryz.prog 30 #[islV i wa wc ma mc, .agg #[.int .i64 s.tanks, .int .i64 s.lens, .int .i64 s.lack]] w
    fun e' w' => e' = .returned (.tuple #[.int .i64 (wrongRule i s), .int .i64 (wrongWell i s)]) ∧ Below w.heap.size w w' := by
  have hn := hi.nw
  unfold maxLen at hn
  have hx : ExL [islR i wa wc ma mc, .agg #[.int .i64 s.tanks, .int .i64 s.lens, .int .i64 s.lack]] [islV i wa wc ma mc, .agg #[.int .i64 s.tanks, .int .i64 s.lens, .int .i64 s.lack]] := .cons (exact_isl _ _ _ _ _) (.cons (af3 s) .nil)
  have fin : ∀ {c : CF} {H : Heap} {n W fuel n' : _} {sc : Script} {L : List Prop} {r v : Int}, GoE Tryz.prog (worldLo w) (entryC Tryz.prog 30 26 [islR i wa wc ma mc, .agg #[.int .i64 s.tanks, .int .i64 s.lens, .int .i64 s.lack]]) [] 0 c H n W →
      ended (srun Tryz.prog goFns (worldLo w) fuel 0 c H n sc 0 [] []) [] = some ⟨.ret (.tuple #[.int .i64 r, .int .i64 v]), [], n', L⟩ → AllP L →
      Calls Tryz.prog 30 #[islV i wa wc ma mc, .agg #[.int .i64 s.tanks, .int .i64 s.lens, .int .i64 s.lack]] w fun e' w' => e' = .returned (.tuple #[.int .i64 r, .int .i64 v]) ∧ Below w.heap.size w w' := fun hg e hL =>
    (hg.calls goFns_ok mixed_ok (args := #[islR i wa wc ma mc, .agg #[.int .i64 s.tanks, .int .i64 s.lens, .int .i64 s.lack]]) (by kernel_rfl) e hL (worldLo_has w) (VRl.vrs' hx.vrl)).mono fun _ _ ⟨v', _, he, hv, hb, _⟩ => ⟨by rw [he, af_eq (by kernel_rfl) hv], hb⟩
  by_cases hl : 0 < s.lack
  · rw [wrongRule_lack hl, wrongWell_lack hl]
    exact fin (GoE.refl under_nil) (wr_lack (worldLo w) i (rawS wa i.nw wc) (rawS ma i.nm mc) s) ⟨ltq_t hl, trivial⟩
  · have hok : OkAll 2 (wrO i (rawS wa i.nw wc) (rawS ma i.nm mc) s) := ⟨.inr ⟨rfl, loose_isl i wa wc ma mc⟩, .inl ⟨rfl, by kernel_rfl⟩, trivial⟩
    have step : ∀ k, k ≤ i.nw → firstLow i s k = none → ∃ d : Nat → Value, (∀ t, Loose (d t)) ∧ GoE Tryz.prog (worldLo w) (entryC Tryz.prog 30 26 [islR i wa wc ma mc, .agg #[.int .i64 s.tanks, .int .i64 s.lens, .int .i64 s.lack]]) [] 0
        (headC 30 26 (wrL k) d (wrT.map (it (bodyOf Tryz.prog 30)))) (heapO 0 (wrO i (rawS wa i.nw wc) (rawS ma i.nm mc) s)) 2 [] := by
      intro k
      induction k with
      | zero =>
        intro _ _
        exact (GoE.refl (P := Tryz.prog) (B := worldLo w) under_nil).headO goFns_ok mixed_ok (wr_entry (worldLo w) i (rawS wa i.nw wc) (rawS ma i.nm mc) s) ⟨ltq_f (by omega), trivial⟩
          (by kernel_rfl) (by kernel_rfl) (by kernel_rfl) (by kernel_rfl) (by kernel_rfl) (by kernel_rfl) hok
      | succ k ih =>
        intro hk hnone
        have hk0 : firstLow i s k = none ∧ ¬ s.lens < i.wells k := by
          simp only [firstLow] at hnone
          split at hnone
          · cases hnone
          · rename_i h0
            split at hnone
            · cases hnone
            · rename_i h1
              exact ⟨h0, h1⟩
        obtain ⟨d, _, hg⟩ := ih (by omega) hk0.1
        obtain ⟨b, o, hwa, _, _⟩ := hi.wells (show 0 < i.nw by omega)
        subst hwa
        exact hg.headO goFns_ok mixed_ok (wr_round (worldLo w) i (rawS ma i.nm mc) s b o wc k (i.wells k) d) ⟨wq_in (by omega) (by omega), ltq_f (by omega), intsRaw hi.wells (by omega), ⟨rfl, by omega⟩, ltq_t (by omega), trivial⟩
          (by kernel_rfl) (by kernel_rfl) (by kernel_rfl) (by kernel_rfl) (by kernel_rfl) (by kernel_rfl) hok
    cases hfl : firstLow i s i.nw with
    | none =>
      rw [wrongRule_fine hl hfl, wrongWell_fine hl hfl]
      obtain ⟨d, _, hg⟩ := step i.nw (Nat.le_refl _) hfl
      exact fin hg (wr_end (worldLo w) i (rawO wa) (rawS ma i.nm mc) s wc i.nw d) ⟨ltq_f (by omega), sliceLen_rawS wa i.nw wc, trivial⟩
    | some k =>
      have hk : ∀ n, firstLow i s n = some k → k < n ∧ firstLow i s k = none ∧ s.lens < i.wells k := by
        intro n
        induction n with
        | zero => intro h; cases h
        | succ n ih =>
          intro h
          simp only [firstLow] at h
          split at h
          · rename_i j hj
            cases h
            have := ih hj
            exact ⟨by omega, this.2⟩
          · rename_i h0
            split at h
            · rename_i h1
              cases h
              exact ⟨by omega, h0, h1⟩
            · cases h
      obtain ⟨h1, h2, h3⟩ := hk _ hfl
      rw [wrongRule_low hl h2 h3 h1, wrongWell_low hl h2 h3 h1]
      obtain ⟨d, _, hg⟩ := step k (by omega) h2
      obtain ⟨b, o, hwa, _, _⟩ := hi.wells (show 0 < i.nw by omega)
      subst hwa
      exact fin hg (wr_low (worldLo w) i (rawS ma i.nm mc) s b o wc k (i.wells k) d) ⟨ltq_t h3, intsRaw hi.wells h1, ⟨rfl, h1⟩, ltq_t (by omega), trivial⟩
theorem con_rWrong {n : Nat} (hi : IslAt w w.heap.size i wa ma) (s : Seen) : CJ Tryz.prog (worldLo w) 30 #[islR i wa wc ma mc, .agg #[.int .i64 s.tanks, .int .i64 s.lens, .int .i64 s.lack]] [] n (.tuple #[.int .i64 (wrongRule i s), .int .i64 (wrongWell i s)]) [] n [] :=
  con_of (l := [islR i wa wc ma mc, .agg #[.int .i64 s.tanks, .int .i64 s.lens, .int .i64 s.lack]]) (l' := [islV i wa wc ma mc, .agg #[.int .i64 s.tanks, .int .i64 s.lens, .int .i64 s.lack]]) (v' := .tuple #[.int .i64 (wrongRule i s), .int .i64 (wrongWell i s)])
    (.cons (exact_isl _ _ _ _ _) (.cons (af3 s) .nil)) (exact_tuple (.cons (exact_af rfl) (.cons (exact_af rfl) .nil))) fun _ hw => rWrong_any (islAt_lo hi hw) s
end
end Go.Proofs.YtffdidleebognaaGreatDoor

namespace Go.Proofs.YtffdidleebognaaGreatDoor
open Go Go.CE Go.Proofs Go.RowKit Lens
end Go.Proofs.YtffdidleebognaaGreatDoor

namespace Go.CE
open Go Go.RowKit
end Go.CE
namespace Go.Proofs.YtffdidleebognaaGreatDoor
open Go Go.CE Go.Proofs Go.RowKit Lens
section
variable {f : Bool} {kn : Nat → Kn} {a b : Nat → Seen} {m n : Nat}
end
section
variable {i : Isl} {wa : Option Addr} {wc mc : Nat} {ma : Option Addr} {tanks : Int} {w : World} {n : Nat}
/-- The reference's Run at a drought that stands in memory that nobody writes, and rows of the run's own. -/
theorem con_runR {t : Tru} {rb rc r s : Nat} (hr : r < n) (hs : s < n) (m1 : t.nd ≤ maxLen) (m2 : t.nr ≤ maxLen) (m3 : t.nn ≤ maxLen) (hlt : rb < w.heap.size) (hrow : ∀ j, j < t.nd → w.cell? ⟨rb, j, none⟩ = some (.bool (t.dry j))) (hf : Fit i tanks t) (h1 : 1 ≤ i.nm) :
    CJ Tryz.prog (worldLo w) 22 #[islR i wa wc ma mc, .int .i64 tanks, .agg #[.int .i64 t.start, .int .i64 t.soak, .int .i64 t.leak, .slice (some ⟨rb, 0, some 0⟩) t.nd rc, .slice (some ⟨r, 0, none⟩) t.nr 1, .slice (some ⟨s, 0, none⟩) t.nn 1]]
      [(r, some (.cells (rowA (intE t.rains) t.nr) 3 (0, 0))), (s, some (.cells (rowA (intE t.needs) t.nn) 3 (0, 0)))] n
      (.tuple #[.slice (some ⟨n, 0, none⟩) i.nm 0, .agg #[.int .i64 (i.size * tanks + t.start), .int .i64 (runTo i tanks t i.nm).rain, .int .i64 (runTo i tanks t i.nm).used, .int .i64 (runTo i tanks t i.nm).leak, .int .i64 (runTo i tanks t i.nm).sea, .int .i64 ((runTo i tanks t i.nm).tanks + (runTo i tanks t i.nm).lens)]])
      [(n, .cells (rowA (seenE i tanks t) i.nm) 53 (1, 1))] (n + 1) [] := by
  refine cj_readrow seenE_af (fun p hp => ?_) fun μ w' args' hB hv hH => ?_
  · simp only [List.mem_cons, List.not_mem_nil, or_false] at hp
    rcases hp with rfl | rfl <;> assumption
  · obtain ⟨imr, r1, r2, r3⟩ := hH (r, some (.cells (rowA (intE t.rains) t.nr) 3 (0, 0))) (by simp) _ _ _ rfl
    obtain ⟨ims, s1, s2, s3⟩ := hH (s, some (.cells (rowA (intE t.needs) t.nn) 3 (0, 0))) (by simp) _ _ _ rfl
    have hl := vrl_args (l := [islR i wa wc ma mc, .int .i64 tanks, .agg #[.int .i64 t.start, .int .i64 t.soak, .int .i64 t.leak, .slice (some ⟨rb, 0, some 0⟩) t.nd rc, .slice (some ⟨r, 0, none⟩) t.nr 1, .slice (some ⟨s, 0, none⟩) t.nn 1]]) hv
    generalize hg : args'.toList = l at hl
    cases hl with
    | cons q1 hl => cases hl with
      | cons q2 hl => cases hl with
        | cons q3 hl =>
          cases hl
          have e1 := (exact_isl i wa wc ma mc).2 _ _ q1
          have e2 := (exact_af (v := .int .i64 tanks) rfl).2 _ _ q2
          obtain ⟨ys, rfl, hy⟩ := q3.agg_inv
          cases hy with
          | cons y1 hy => cases hy with
            | cons y2 hy => cases hy with
              | cons y3 hy => cases hy with
                | cons y4 hy => cases hy with
                  | cons y5 hy => cases hy with
                    | cons y6 hy =>
                      cases hy
                      have f1 := (exact_af (v := .int .i64 t.start) rfl).2 _ _ y1
                      have f2 := (exact_af (v := .int .i64 t.soak) rfl).2 _ _ y2
                      have f3 := (exact_af (v := .int .i64 t.leak) rfl).2 _ _ y3
                      have f4 := (exact_rawS (some ⟨rb, 0, none⟩) t.nd rc).2 _ _ y4
                      obtain ⟨cr, rfl, _, _⟩ := y5.slice_new r1
                      obtain ⟨cs, rfl, _, _⟩ := y6.slice_new s1
                      subst e1 e2 f1 f2 f3 f4
                      have e : args' = #[islV i wa wc ma mc, .int .i64 tanks, truV t (some ⟨rb, 0, none⟩) rc (some ⟨imr.blk, imr.off, none⟩) cr (some ⟨ims.blk, ims.off, none⟩) cs] := by rw [← Array.toList_inj, hg]; rfl
                      rw [e]
                      have hD : BoolsAt w' w'.heap.size (some ⟨rb, 0, none⟩) t.nd t.dry := fun _ => ⟨rb, 0, rfl, Nat.lt_of_lt_of_le hlt hB.le, fun k hk j hj => by
                        obtain rfl : j = 0 := by omega
                        rw [show 0 + k * 1 + 0 = k by omega, worldLo_cell hB hlt]
                        exact hrow k hk⟩
                      refine (rRun_any i wa wc ma mc tanks t _ rc _ cr _ cs w' ⟨m1, m2, m3, hD, atN_of_or r3 r2 (fun _ => rfl) intE_get, atN_of_or s3 s2 (fun _ => rfl) intE_get⟩ hf h1).mono fun e w'' ⟨⟨g, c, he, hg1, hc1, hc2, hs⟩, hb⟩ => ⟨⟨g, _, hg1, ?_, he, seens_cells hs, fun μ' hμ => ?_⟩, hb⟩
                      · obtain ⟨b, off, he, hlt, _⟩ := hs (by omega)
                        cases he
                        exact hlt
                      · have : VRl μ' [.slice (some ⟨n, 0, none⟩) i.nm 0, .agg #[.int .i64 (i.size * tanks + t.start), .int .i64 (runTo i tanks t i.nm).rain, .int .i64 (runTo i tanks t i.nm).used, .int .i64 (runTo i tanks t i.nm).leak, .int .i64 (runTo i tanks t i.nm).sea, .int .i64 ((runTo i tanks t i.nm).tanks + (runTo i tanks t i.nm).lens)]]
                            [.slice (some ⟨g, 0, none⟩) i.nm c, .agg #[.int .i64 (i.size * tanks + t.start), .int .i64 (runTo i tanks t i.nm).rain, .int .i64 (runTo i tanks t i.nm).used, .int .i64 (runTo i tanks t i.nm).leak, .int .i64 (runTo i tanks t i.nm).sea, .int .i64 ((runTo i tanks t i.nm).tanks + (runTo i tanks t i.nm).lens)]] :=
                          .cons (.slice ⟨_, hμ, rfl, rfl⟩ hc1 hc2 fun h => absurd rfl h) (.cons (vr_af (by kernel_rfl)) .nil)
                        exact .tuple this.vrs'.1 this.vrs'.2
end
end Go.Proofs.YtffdidleebognaaGreatDoor

namespace Go.CE
open Go Go.RowKit
section
variable {P : Program} {F : FuncId → Bool} {B : Lo} {fr0 : Frame} {cs : List Frame} {w0 w : World}
/-- One block that is the run's own. -/
def oneMu (p cap : Nat) : Mu := fun i => bif Nat.beq i 0 then some ⟨p, 0, cap, true⟩ else none
theorem At.storeOwn {ops : Array Oper} {pre : List Oper} {o : Oper} {id : Nat} {f : FuncId} {T : Tm} {k : List Item} {sc : Script} {r : RR} {p s : Nat} {xs xs' : Array Value} {t : TypeId} {arr : Array Value} {vv : Value} {R1 W1 : List Nat} (hF : ∀ g, F g = true → okFn P g = true)
    (h : At P fr0 cs w0 B ⟨f, T, .code (.region id ops false) :: k, [], .run, none⟩ [] 0 w) (hops : ops.toList = pre ++ [o]) (hk : k.all plainItem = true)
    (hpre : rrunH P F B ops pre T [] 0 sc 0 [] = some r) (hL : AllP r.L) (hr0 : r.n = 0) (hrH : r.H = []) (hdst : o.dst = none) (hwant : Region.wanted o (yieldedC ops r.T) = true) (hnd : ∀ c, o.op ≠ .defer c)
    (hp : w0.heap.size ≤ p) (hpw : w.heap[p]? = some (.cells arr t (0, 0))) (hsz : xs.size ≤ arr.size) (harr : ∀ (i : Nat) v, xs[i]? = some v → ∃ v', arr[i]? = some v' ∧ ∀ μ, VR μ v v')
    (hsl : s < 16000) (hs : tget r.T s = .pointer (some ⟨p, 0, some 0⟩))
    (hcop : copR P F (evC (tput r.T (some s) (.pointer (some ⟨0, 0, none⟩)))) o [(0, .cells xs t (0, 0))] 1 = some ⟨.val vv, [(0, .cells xs' t (0, 0))], 1, R1, W1⟩) :
    ∃ w2, (∀ b, b < w.heap.size → b ≠ p → w2.heap[b]? = w.heap[b]?) ∧ w.heap.size ≤ w2.heap.size ∧
      At P fr0 cs w0 (worldLo w0) ⟨f, tput r.T (some s) (.pointer (some ⟨0, 0, none⟩)), k, [], .run, none⟩ [(0, .cells xs' t (0, 0))] 1 w2 := by
  obtain ⟨fr, μ, hok, hf, hfr, hro, hfn, hst⟩ := h.run
  have hμ : μ = fun _ => none := funext fun i => hf i (Nat.zero_le _)
  subst hμ
  obtain ⟨hm, hT, htd⟩ := hfr.running rfl
  obtain ⟨L', e, hLk⟩ := htd.code
  obtain ⟨s1, s2, s3, s4, _⟩ := rrunH_sound hF (ops := ops) (len := T.len) pre T [] 0 sc 0 [] r rfl (fun _ _ => rfl) hpre hL
  have hown1 := own_of_map (l := ops.toList) (l2 := [o]) (recs := r.recs) (by rw [s4, hops]) rfl
  have hlen1 : r.recs.length = pre.length := by have := congrArg List.length s4; simpa using this
  have hsize : ops.size = pre.length + (1 + 0) := by
    have := congrArg List.length hops
    simp at this; omega
  rw [hr0] at s3
  rw [hrH] at s3
  obtain ⟨μ1, A1, w1, hp1, hT1, hst1⟩ := seq_run (fr := fr) (cs := cs) (k := L') hm r.recs 0 T [] 0 r.T [] 0 (pre.length :: List.range' (pre.length + 1) 0) s3 s1 s2 (fun j x hj => by rw [Nat.zero_add]; exact hown1 j x hj) rfl (fun i => i < 0) (fun _ => none) w fr.tmps hok h.has (fun i hi => hi) (fun _ _ _ => rfl) (fun i _ hi => absurd hi (by omega)) hT
  have hμ1 : μ1 = fun _ => none := funext fun i => hp1.ext i (by omega)
  subst hμ1
  have hB1 : B.has w1 := h.has.post hok hp1
  have hoi : ops[pre.length]? = some o := by
    rw [← Array.getElem?_toList, hops]; simp
  have hwant1 : Region.wanted o (yielded ops A1) = true := by rw [yielded_TR hT1]; exact hwant
  obtain ⟨hc0, hR1⟩ := copR_cop hcop
  have hplt : p < w.heap.size := (Array.getElem?_eq_some_iff.1 hpw).1
  have hpw1 : w1.heap[p]? = some (.cells arr t (0, 0)) := (hp1.frame p hplt fun i hi hin => absurd hin (by omega)).trans hpw
  have hplt1 : p < w1.heap.size := (Array.getElem?_eq_some_iff.1 hpw1).1
  let μ2 := oneMu p arr.size
  have hμ20 : μ2 0 = some ⟨p, 0, arr.size, true⟩ := rfl
  have hg0 : ∀ i ob, hget [(0, Obj.cells xs t (0, 0))] i = some ob → i < 1 → i = 0 ∧ ob = .cells xs t (0, 0) := fun i ob h1 h2 => by
    obtain rfl : i = 0 := by omega
    exact ⟨rfl, (Option.some.inj h1).symm⟩
  have hok2 : Ok w0.heap.size (fun i => i < 1) μ2 (hget [(0, .cells xs t (0, 0))]) w1 := by
    refine ⟨fun i ob hi hg _ => ?_, fun i ob im hi hg _ him => ?_, fun i j oi oj a b hi hj hij => by omega⟩
    · obtain ⟨rfl, rfl⟩ := hg0 i ob hg hi
      exact ⟨_, hμ20, .inl ⟨rfl, rfl, rfl, arr, hpw1, hsz, rfl, fun j v hj => by
        obtain ⟨v', h1, h2⟩ := harr j v hj
        exact ⟨v', h1, h2 _⟩⟩⟩
    · obtain ⟨rfl, rfl⟩ := hg0 i ob hg hi
      rw [hμ20] at him; cases him
      exact ⟨hplt1, fun _ => hp, fun h => by cases h⟩
  have hTm : TR μ2 (tput r.T (some s) (.pointer (some ⟨0, 0, none⟩))) A1 := by
    refine ⟨tput_len.trans hT1.1, fun q => ?_⟩
    rw [tput_get fun x hx => by cases hx; exact hsl]
    split
    · rename_i hq
      cases hq
      have := hT1.2 s
      rw [hs] at this
      generalize A1.getD s undef = v at this
      cases this with
      | ptr har => obtain ⟨im, q1, _⟩ := har; cases q1
      | rawPtr => exact .ptr ⟨_, hμ20, rfl, rfl⟩
    · exact (hT1.2 q).mono fun k im hk => by cases hk
  let frX := inReg fr A1 ops (pre.length :: List.range' (pre.length + 1) 0) L'
  obtain ⟨nx, w2, μ3, hrun, hp2, hnr⟩ := cop_snd (B := w0.heap.size) hF hc0 (fun i => i < 1) μ2 frX.eval w1 hok2 (by have := h.le; have := hB1.le; omega) (fun i hi => hi) (fun i h1 h2 => absurd (show i < 1 from h2) (by omega)) (fun x _ v hv => ev_TR (fr := frX) hTm x v hv) (fun i hi => hR1 i hi)
  have hμ3 : μ3 = μ2 := funext fun i => hp2.ext i (by simp only; omega)
  rw [hμ3] at hp2 hnr
  have hframe : ∀ b, b < w1.heap.size → b ≠ p → w2.heap[b]? = w1.heap[b]? := fun b hb hne => hp2.frame b hb fun i _ hi im him => by
    obtain rfl : i = 0 := by omega
    rw [hμ20] at him; cases him
    exact fun h => hne h.symm
  obtain ⟨v, hvv, hstep⟩ : ∃ v, VR μ2 vv v ∧ Steps P (lone frX cs w1) (lone ((OO.ret v).on frX) cs w2) := by
    cases hnr with
    | val hv => exact ⟨_, hv, opTo_value (P := P) (fr := frX) (cs := cs) (w := w1) (w' := w2) (ops := ops) (i := pre.length) (rest := List.range' (pre.length + 1) 0) (k := L') (o := o) hm rfl hoi hwant1 hnd hrun⟩
    | skip => exact ⟨undef, VR.undef, opTo_skip (P := P) (fr := frX) (cs := cs) (w := w1) (w' := w2) (ops := ops) (i := pre.length) (rest := List.range' (pre.length + 1) 0) (k := L') (o := o) hm rfl hoi hwant1 hnd hrun⟩
  have hA : Below w0.heap.size w w1 := ⟨hp1.os, hp1.tape, hp1.output, hp1.grow, fun b hb => hp1.frame b (by have := h.below.size; omega) fun i hi hin => absurd hin (by omega)⟩
  have hC : Below w0.heap.size w1 w2 := ⟨hp2.os, hp2.tape, hp2.output, hp2.grow, fun b hb => hframe b (by omega) (by omega)⟩
  have hE := hA.trans hC
  have hsz : w0.heap.size ≤ w.heap.size := h.below.size
  have hfr2 : (∀ b, b < w.heap.size → b ≠ p → w2.heap[b]? = w.heap[b]?) := fun b hb hne => (hframe b (by have := hp1.grow; omega) hne).trans (hp1.frame b hb fun i hi hin => absurd hin (by omega))
  have hbl : Below w0.heap.size w0 w2 := h.below.trans hE
  refine ⟨w2, hfr2, hE.size, ⟨⟨hbl.size, fun b hb => hbl.block b hb⟩, Nat.le_refl _, hbl, { fr with tmps := A1, todo := L' }, μ2, hp2.ok.sub fun i hi => .inl hi, fun i hi => ?_,
    ⟨hfr.fn, hTm, fun _ => hLk.plain hk, ?_, ?_, hfr.kind, ?_⟩, hro, hfn, ?_⟩⟩
  · show (bif Nat.beq i 0 then _ else _) = none
    cases hb : Nat.beq i 0 with
    | true => have := Nat.eq_of_beq_eq_true hb; omega
    | false => rfl
  · exact .of_empty hfr.defers.empty
  · have := hfr.mode
    simp only at this ⊢
    rw [hm]; exact .run
  · have := hfr.round
    simp only at this ⊢
    generalize fr.roundOf = x at this ⊢
    cases x with
    | none => trivial
    | some x => cases this
  · refine hst.trans (.head (step_region_text hm e) (Steps.trans ?_ (Steps.trans hstep ?_)))
    · have e1 : List.range' 0 r.recs.length ++ (pre.length :: List.range' (pre.length + 1) 0) = List.range' 0 ops.size := by
        rw [hlen1, hsize, ← List.range'_append_1, Nat.add_comm 1 0, List.range'_succ]; simp
      rw [e1] at hst1
      exact hst1
    · have e2 : lone ((OO.ret v).on frX) cs w2 = lone (inReg fr A1 ops (List.range' (pre.length + 1) 0) L') cs w2 := by
        simp only [OO.on]
        rw [finish_putA hoi, hdst]
        rfl
      rw [e2]
      exact .one (step_inReg_end hm)
variable {c : CF} {H : Heap} {n : Nat}
/-- A run's end, of which it is told that nothing was written that there was before. -/
theorem At.endsW {f : FuncId} {args' : Array Value} {w1 : World} {Q : Ending → World → Prop} (hF : ∀ g, F g = true → okFn P g = true) (hmix : P.follows .mixedOrders = true) (h : At P (Frame.enter P f args' .normal) cs w B c H n w1) (hu : Under H n) {fuel n' : Nat} {sc : Script} {v : Value} {olds : List Nat} {objs : List (Option Obj)} {L : List Prop}
    (e : endedB (srun P F B fuel n c H n sc 0 [] []) olds = some (⟨.ret v, objs, n', L⟩, [])) (hL : AllP L)
    (hQ : ∀ v' μ' w', VR μ' v v' → Below w.heap.size w w' → B.has w' → (∀ b, b < w1.heap.size → w'.heap[b]? = w1.heap[b]?) → (∀ (i j : Nat) cs t, olds[i]? = some j → objs[i]? = some (some (.cells cs t (0, 0))) → NewAt w μ' w' j cs t) → Q (.returned v') w') :
    ∃ en w' fr, Q en w' ∧ Comes P (lone (Frame.enter P f args' .normal) cs w) (lone fr cs w') en ∧ fr.fn = f ∧ fr.leaving P w' en := by
  unfold endedB at e
  split at e
  · rename_i out H' n'' W' L' hs
    simp only [Option.some.injEq, Prod.mk.injEq, Fin.mk.injEq] at e
    obtain ⟨⟨rfl, rfl, rfl, rfl⟩, rfl⟩ := e
    obtain ⟨R, W2, hfj, hW2⟩ := srun_sound hF hmix fuel n c H n sc 0 [] [] _ hu hs hL
    obtain ⟨fr, μ, hok, hf, hfr, hr, hfn, hst⟩ := h.run
    have hle := h.le
    obtain ⟨out', w', μ', hp, ho, he⟩ := hfj.sem (fun i => i < n) μ w1 fr cs hok h.has (fun i hi => hi) (fun i hi _ => hf i hi) hfr (fun i _ hi => hi)
    have hb : Below w.heap.size w1 w' := ⟨hp.os, hp.tape, hp.output, hp.grow, fun b hb => hp.frame b (by have := h.has.le; omega) fun i hi hin im him => by
      obtain ⟨hs, ⟨o, ho, hl⟩, im', him', hrw⟩ := hp.wr i hi hin
      rw [him] at him'; cases him'
      have := (hok.low i o im hs ho hl him).2.1 hrw
      omega⟩
    have hsame : ∀ b, b < w1.heap.size → w'.heap[b]? = w1.heap[b]? := fun b hb => hp.frame b hb fun i hi hin => absurd ((hW2 i hin).2 (.inr hi)) (by simp)
    have hend := he.of_steps hst hr hfn
    cases ho with
    | ret hvr =>
      rename_i v'
      obtain ⟨frE, h1, h2, h3⟩ := hend.1 rfl
      refine ⟨.returned v', w', frE, hQ v' μ' w' hvr (h.below.trans hb) (h.has.post hok hp) hsame fun i j cells t hi hj => ?_, h1, h2, h3⟩
      rw [List.getElem?_map, hi] at hj
      simp only [Option.map_some, Option.some.injEq] at hj
      have hlt : j < n'' := by
        have hu : Under H' n'' := hu.shape hfj.shape
        exact hu.lt hj
      have hS : j < n ∨ n ≤ j ∧ j < n'' := by omega
      obtain ⟨im, him, hor⟩ := hp.ok.rel j _ hS hj trivial
      have hlow := hp.ok.low j _ im hS hj trivial him
      rcases hor with ⟨_, hrw, ho, arr, ha, hle', hcap, hcells⟩ | ⟨hz, _⟩
      · obtain ⟨blk, off, cap, rw⟩ := im
        simp only at ho hrw hcap ha hlow
        subst ho hrw
        exact ⟨blk, cap, arr, by have := hlow.2.1 rfl; omega, him, ha, hle', hcap, hcells⟩
      · exact absurd rfl hz
  · cases e
end
end Go.CE

namespace Go.Proofs.YtffdidleebognaaGreatDoor
open Go Go.CE Go.Proofs Go.RowKit Lens
/-- The first drought whose number is below b in which something is wrong, and its first month in which it is. -/
def ftTo (i : Isl) (tanks : Int) : Nat → Option (Nat × Nat)
  | 0 => none
  | b + 1 => match ftTo i tanks b with
    | some x => some x
    | none => if drB i.most i.row i.nm (bitsDry i.nm b) then (badTo i tanks (bitsDry i.nm b) i.nm).map fun m => (b, m) else none
theorem ftTo_none {i : Isl} {tanks : Int} : ∀ {n : Nat}, ftTo i tanks n = none → ∀ b, b < n → ftTo i tanks b = none ∧ (drB i.most i.row i.nm (bitsDry i.nm b) = true → badTo i tanks (bitsDry i.nm b) i.nm = none)
  | 0, _, b, hb => by omega
  | n + 1, h, b, hb => by
    simp only [ftTo] at h
    split at h
    · cases h
    · rename_i hn
      rcases Nat.lt_or_ge b n with hlt | hge
      · exact ftTo_none hn b hlt
      · have : b = n := by omega
        subst this
        refine ⟨hn, fun hd => ?_⟩
        rw [if_pos hd] at h
        simpa using h
theorem ftTo_some {i : Isl} {tanks : Int} : ∀ {n b m : Nat}, ftTo i tanks n = some (b, m) → b < n ∧ ftTo i tanks b = none ∧ drB i.most i.row i.nm (bitsDry i.nm b) = true ∧ badTo i tanks (bitsDry i.nm b) i.nm = some m
  | 0, _, _, h => by cases h
  | n + 1, b, m, h => by
    simp only [ftTo] at h
    split at h
    · rename_i x hx
      cases h
      have := ftTo_some hx
      exact ⟨by omega, this.2⟩
    · rename_i hn
      split at h
      · rename_i hd
        cases hb : badTo i tanks (bitsDry i.nm n) i.nm with
        | none => rw [hb] at h; cases h
        | some k =>
          rw [hb] at h
          cases h
          exact ⟨by omega, hn, hd, hb⟩
      · cases h
section
variable {i : Isl} {wa : Option Addr} {wc mb mo mc : Nat} {ma : Option Addr} {tanks : Int} {w : World}
theorem fd_same {W : Value} {F : Array Value} {s : LoopState} {p : Option Code} {l : List (Bool × Obj)} : ∀ j, j < 7 → j ∉ [3, 6] → hget (heapO 0 (fdO i W mb mo mc tanks F s p ++ l)) j = hget (heapO 0 (fdO i W mb mo mc tanks ffN .ready none)) j := fun j hj hn => by
  have : j = 0 ∨ j = 1 ∨ j = 2 ∨ j = 3 ∨ j = 4 ∨ j = 5 ∨ j = 6 := by omega
  rcases this with rfl | rfl | rfl | rfl | rfl | rfl | rfl
  all_goals first
    | (exact absurd (by decide) hn; done)
    | rfl
theorem fd_same6 {W : Value} {s : LoopState} {p : Option Code} {l : List (Bool × Obj)} : ∀ j, j < 7 → j ∉ [6] → hget (heapO 0 (fdO i W mb mo mc tanks ffN s p ++ l)) j = hget (heapO 0 (fdO i W mb mo mc tanks ffN .ready none)) j := fun j hj hn => by
  have : j = 0 ∨ j = 1 ∨ j = 2 ∨ j = 3 ∨ j = 4 ∨ j = 5 ∨ j = 6 := by omega
  rcases this with rfl | rfl | rfl | rfl | rfl | rfl | rfl
  all_goals first
    | (exact absurd (by decide) hn; done)
    | rfl
theorem fd_writable {W : Value} {l : List Nat} (hl : ∀ j ∈ l, j = 3 ∨ j = 6) : Writable (heapO 0 (fdO i W mb mo mc tanks ffN .ready none)) 7 l := fun j _ hj => by
  rcases hl j hj with rfl | rfl
  · exact .inl ⟨_, _, rfl⟩
  · exact .inr (.inl ⟨_, rfl⟩)
noncomputable abbrev fdC0 : CF := entryC Tryz.prog 76 43 [.func (.yield 6) #[] #[], .pointer (some ⟨4, 0, none⟩)]
/-- The iterator stands at the head of its loop over months. -/
def FdM (i : Isl) (wa : Option Addr) (wc mb mo mc : Nat) (tanks : Int) (w : World) (W : List Nat) (b m : Nat) : Prop := ∃ d' : Nat → Value, (∀ t, Loose (d' t)) ∧ GoE Tryz.prog (worldLo w) fdC0 (heapO 0 (fdO i (rawS wa i.nw wc) mb mo mc tanks ffN .ready none)) 7
    (headC 76 43 (fdM i.nm ((2 ^ i.nm : Nat) : Int) b m) d' (drU.map (it (bodyOf Tryz.prog 76)))) (heapO 0 (fdO i (rawS wa i.nw wc) mb mo mc tanks ffN .ready none ++ [(false, Obj.cells (rowA (boolE (bitsTo i.nm b m)) i.nm) 4 (0, 0))])) 8 W
def FdL (i : Isl) (wa : Option Addr) (wc mb mo mc : Nat) (tanks : Int) (w : World) (W : List Nat) (b : Nat) : Prop := ∃ d' : Nat → Value, (∀ t, Loose (d' t)) ∧ GoE Tryz.prog (worldLo w) fdC0 (heapO 0 (fdO i (rawS wa i.nw wc) mb mo mc tanks ffN .ready none)) 7
    (headC 76 43 (fdL i.nm ((2 ^ i.nm : Nat) : Int) b) d' (drT.map (it (bodyOf Tryz.prog 76)))) (heapO 0 (fdO i (rawS wa i.nw wc) mb mo mc tanks ffN .ready none)) 7 W
set_option maxRecDepth 100000 in
theorem fd_months (h8 : i.nm ≤ 8) {W : List Nat} (hW : ∀ j ∈ W, j = 3 ∨ j = 6) (hs : ∀ j, j < 7 → j ∉ W → ∀ l, hget (heapO 0 (fdO i (rawS wa i.nw wc) mb mo mc tanks ffN .ready none ++ l)) j = hget (heapO 0 (fdO i (rawS wa i.nw wc) mb mo mc tanks ffN .ready none)) j) {b : Nat} (hb : b < 2 ^ i.nm) (h : FdL i wa wc mb mo mc tanks w W b) : FdM i wa wc mb mo mc tanks w W b i.nm := by
  have hml : i.nm ≤ maxLen := by unfold maxLen; omega
  have hp : 2 ^ i.nm ≤ 256 := Nat.pow_le_pow_right (by decide) h8
  have ok2 : ∀ f, OkB 7 8 (fdO i (rawS wa i.nw wc) mb mo mc tanks ffN .ready none ++ [(false, Obj.cells (rowA (boolE f) i.nm) 4 (0, 0))]) := fun f => fd_ok (by omega) okO_ffN ⟨.inr ⟨rfl, .inl (loose_boolE _ _)⟩, trivial⟩
  obtain ⟨d1, _, g1⟩ := h
  have hmk : cMake Tryz.prog 38 (.int .i64 (i.nm : Int)) (.int .i64 (i.nm : Int)) = some (4, rowA (boolE (bitsTo i.nm b 0)) i.nm, i.nm, 1) := by
    rw [← bitsTo_zero]
    exact cMake_row (P := Tryz.prog) (t := 38) (e := 4) (i := Go.Proofs.Tryz.t4) (zv := .bool false) (by kernel_rfl) (by kernel_rfl) (by kernel_rfl) (by kernel_rfl) (by decide) (by kernel_rfl) (by show 1 * i.nm ≤ _; omega) (by omega)
  have s2 : FdM i wa wc mb mo mc tanks w W b 0 := g1.headB goFns_ok mixed_ok (fd_writable hW)
    (fd_bits (worldLo w) i (rawS wa i.nw wc) mb mo mc tanks ((2 ^ i.nm : Nat) : Int) b (rowA (boolE (bitsTo i.nm b 0)) i.nm) d1) ⟨hmk, ltq_t (by omega), trivial⟩
    (by kernel_rfl) (by kernel_rfl) (by kernel_rfl) (by kernel_rfl) (by kernel_rfl) (by kernel_rfl) (by kernel_rfl) (by kernel_rfl) (by kernel_rfl) (by kernel_rfl) (ok2 _) (fun j hj hn => hs j hj hn _)
  have all : ∀ m, m ≤ i.nm → FdM i wa wc mb mo mc tanks w W b m := by
    intro m
    induction m with
    | zero => intro _; exact s2
    | succ m ih =>
      intro hm
      obtain ⟨d2, _, g2⟩ := ih (by omega)
      have hlt : m < i.nm := by omega
      have hle : b / 2 ^ (i.nm - 1 - m) ≤ b := Nat.div_le_self _ _
      exact g2.headB goFns_ok mixed_ok (fd_writable hW)
        (fd_bit (worldLo w) i (rawS wa i.nw wc) mb mo mc tanks ((2 ^ i.nm : Nat) : Int) b m (rowA (boolE (bitsTo i.nm b m)) i.nm) (rowA (boolE (bitsTo i.nm b (m + 1))) i.nm) ((b / 2 ^ (i.nm - 1 - m) : Nat) : Int) ((b / 2 ^ (i.nm - 1 - m) % 2 : Nat) : Int) (bitsDry i.nm b m) d2)
        ⟨wq_in (by omega) (by omega), bitsTo_splice hlt, ⟨rfl, hlt⟩, bit_eq, and1_eq (by omega), shr_eq (by omega), (wq_in (by omega) (by omega)).trans (by omega), wq_in (by omega) (by omega), ltq_t (by omega), trivial⟩
        (by kernel_rfl) (by kernel_rfl) (by kernel_rfl) (by kernel_rfl) (by kernel_rfl) (by kernel_rfl) (by kernel_rfl) (by kernel_rfl) (by kernel_rfl) (by kernel_rfl) (ok2 _) (fun j hj hn => hs j hj hn _)
  exact all i.nm (Nat.le_refl _)
set_option maxRecDepth 100000 in
theorem fd_heads (hi : IslAt w w.heap.size i wa (some ⟨mb, mo, none⟩)) (h1 : 1 ≤ i.nm) (hf : ∀ d, Fit i tanks (endTru i false i.nm d)) {W : List Nat} (hW : ∀ j ∈ W, j = 3 ∨ j = 6) (h6 : [6].all (fun j => W.contains j) = true)
    (hs : ∀ j, j < 7 → j ∉ W → ∀ l, hget (heapO 0 (fdO i (rawS wa i.nw wc) mb mo mc tanks ffN .ready none ++ l)) j = hget (heapO 0 (fdO i (rawS wa i.nw wc) mb mo mc tanks ffN .ready none)) j) :
    ∀ b, b ≤ 2 ^ i.nm → ftTo i tanks b = none → FdL i wa wc mb mo mc tanks w W b := by
  have h8 : i.nm ≤ 8 := (hf fun _ => false).nm
  have hml : i.nm ≤ maxLen := by unfold maxLen; omega
  have hp : 2 ^ i.nm ≤ 256 := Nat.pow_le_pow_right (by decide) h8
  have ok1 : OkB 7 7 (fdO i (rawS wa i.nw wc) mb mo mc tanks ffN .ready none) := fd_ok (l := []) (by omega) okO_ffN trivial
  intro b
  induction b with
  | zero =>
    intro _ _
    exact ((GoE.refl (P := Tryz.prog) (B := worldLo w) (c0 := fdC0) (under_heapO (fdO i (rawS wa i.nw wc) mb mo mc tanks ffN .ready none) (Nat.le_refl 7))).widen (Wf := W) (fun _ _ h => by simp at h) (fd_writable hW)).headB goFns_ok mixed_ok (fd_writable hW)
      (fd_entry (worldLo w) i (rawS wa i.nw wc) mb mo mc tanks ((2 ^ i.nm : Nat) : Int)) ⟨shl1_eq (by omega), trivial⟩
      (by kernel_rfl) (by kernel_rfl) (by kernel_rfl) (by kernel_rfl) (by kernel_rfl) (by kernel_rfl) (by kernel_rfl) (by kernel_rfl) (by kernel_rfl) (by kernel_rfl) ok1 (fun j hj hn => hs j hj hn [])
  | succ b ih =>
    intro hb hn
    obtain ⟨hn0, hbad⟩ := ftTo_none hn b (by omega)
    obtain ⟨d3, _, g3⟩ := fd_months h8 hW hs (by omega) (ih (by omega) hn0)
    rw [bitsTo_all] at g3
    cases hdr : drB i.most i.row i.nm (bitsDry i.nm b) with
    | false =>
      exact g3.headB goFns_ok mixed_ok (fd_writable hW)
        (fd_no (worldLo w) i (rawS wa i.nw wc) mb mo mc tanks ((2 ^ i.nm : Nat) : Int) b i.nm (rowA (boolE (bitsDry i.nm b)) i.nm) d3)
        ⟨wq_in (by omega) (by omega), hdr ▸ con_isDrought (w := w) (i := i) (wa := wa) (wc := wc) (ma := some ⟨mb, mo, none⟩) (mc := mc) (k := 7) (n := 8) (by omega) hml, ltq_f (by omega), trivial⟩
        (by kernel_rfl) (by kernel_rfl) (by kernel_rfl) (by kernel_rfl) (by kernel_rfl) (by kernel_rfl) (by kernel_rfl) (by kernel_rfl) (by kernel_rfl) (by kernel_rfl) ok1 (fun j hj hn => hs j hj hn [])
    | true =>
      exact g3.headB goFns_ok mixed_ok (fd_writable hW)
        (fd_yield (worldLo w) i (rawS wa i.nw wc) mb mo mc tanks ((2 ^ i.nm : Nat) : Int) b i.nm (rowA (boolE (bitsDry i.nm b)) i.nm) d3)
        ⟨wq_in (by omega) (by omega), fr_rj hi h1 (hf _) (hbad hdr), hdr ▸ con_isDrought (w := w) (i := i) (wa := wa) (wc := wc) (ma := some ⟨mb, mo, none⟩) (mc := mc) (k := 7) (n := 8) (by omega) hml, ltq_f (by omega), trivial⟩
        h6 (by kernel_rfl) (by kernel_rfl) (by kernel_rfl) (by kernel_rfl) (by kernel_rfl) (by kernel_rfl) (by kernel_rfl) (by kernel_rfl) (by kernel_rfl) ok1 (fun j hj hn => hs j hj hn [])
theorem fd_slots : SlotsOk 7 (fdC0 : CF).tmps := slots_args (by decide) fun v hv => by
  simp only [List.mem_cons, List.not_mem_nil, or_false] at hv
  rcases hv with rfl | rfl
  · exact .inr (by kernel_rfl)
  · exact .inr (by kernel_rfl)
set_option maxRecDepth 100000 in
theorem fd_rj (hi : IslAt w w.heap.size i wa (some ⟨mb, mo, none⟩)) (h1 : 1 ≤ i.nm) (hf : ∀ d, Fit i tanks (endTru i false i.nm d)) (hn : ftTo i tanks (2 ^ i.nm) = none) :
    RJ Tryz.prog (worldLo w) fdC0 ((List.range 7).map fun q => (q, hget (heapO 0 (fdO i (rawS wa i.nw wc) mb mo mc tanks ffN .ready none)) q)) 7 (.tuple #[]) [(6, .loop (ffS i (rawS wa i.nw wc) mb mo mc tanks .ready none))] 7 [6] := by
  have hW : ∀ j ∈ [6], j = 3 ∨ j = 6 := fun j hj => by simp at hj; exact .inr hj
  obtain ⟨d4, _, g4⟩ := fd_heads (wc := wc) (mc := mc) hi h1 hf hW rfl (fun j hj hn l => fd_same6 j hj hn) _ (Nat.le_refl _) hn
  have std := g4.stdF goFns_ok mixed_ok (fd_writable hW) (os := fdO i (rawS wa i.nw wc) mb mo mc tanks ffN .ready none)
    (fd_end (worldLo w) i (rawS wa i.nw wc) mb mo mc tanks ((2 ^ i.nm : Nat) : Int) (2 ^ i.nm) d4)
    ⟨ltq_f (by omega), trivial⟩ (by kernel_rfl) (by kernel_rfl) (by kernel_rfl) (by kernel_rfl) (by kernel_rfl) (by kernel_rfl) (by kernel_rfl) (by kernel_rfl) (fd_ok (l := []) (by omega) okO_ffN trivial) (fun _ _ _ => rfl)
  exact StdX.rj (os := fdO i (rawS wa i.nw wc) mb mo mc tanks ffN .ready none) (os' := fdO i (rawS wa i.nw wc) mb mo mc tanks ffN .ready none)
    std fd_slots (by kernel_rfl) rfl rfl (fun l e => by cases e) (fd_fix (l := []) (by show 6 ≤ 7; omega) okO_ffN (fun b hb => by simp at hb)) (fd_fix (l := []) (by show 6 ≤ 7; omega) okO_ffN (fun b hb => by simp at hb)) (by kernel_rfl) (by kernel_rfl) (by kernel_rfl) (by kernel_rfl) (by kernel_rfl) (by kernel_rfl)
set_option maxRecDepth 100000 in
theorem fd_rjB (hi : IslAt w w.heap.size i wa (some ⟨mb, mo, none⟩)) (h1 : 1 ≤ i.nm) (hf : ∀ d, Fit i tanks (endTru i false i.nm d)) {b m : Nat} (hn : ftTo i tanks (2 ^ i.nm) = some (b, m)) :
    RJ Tryz.prog (worldLo w) fdC0 ((List.range 7).map fun q => (q, hget (heapO 0 (fdO i (rawS wa i.nw wc) mb mo mc tanks ffN .ready none)) q)) 7 (.tuple #[])
      [(3, .cells (ffF 7 i.nm m (wrongRule i (endsOf i tanks false (bitsDry i.nm b) m)) (wrongWell i (endsOf i tanks false (bitsDry i.nm b) m))) 59 (0, 0)), (6, .loop (ffS i (rawS wa i.nw wc) mb mo mc tanks .done (some (.exit 0)))), (7, .cells (rowA (boolE (bitsDry i.nm b)) i.nm) 4 (0, 0))] 8 [3, 6] := by
  have hW : ∀ j ∈ [3, 6], j = 3 ∨ j = 6 := fun j hj => by simpa using hj
  have h8 : i.nm ≤ 8 := (hf fun _ => false).nm
  have hml : i.nm ≤ maxLen := by unfold maxLen; omega
  obtain ⟨hlt, hn0, hd, hb⟩ := ftTo_some hn
  obtain ⟨d3, _, g3⟩ := fd_months h8 hW (fun j hj hn l => fd_same j hj hn) hlt (fd_heads (wc := wc) (mc := mc) hi h1 hf hW rfl (fun j hj hn l => fd_same j hj hn) b (by omega) hn0)
  rw [bitsTo_all] at g3
  have std := g3.stdF goFns_ok mixed_ok (fd_writable hW) (os := fdO i (rawS wa i.nw wc) mb mo mc tanks (ffF 7 i.nm m (wrongRule i (endsOf i tanks false (bitsDry i.nm b) m)) (wrongWell i (endsOf i tanks false (bitsDry i.nm b) m))) .done (some (.exit 0)) ++ [(false, Obj.cells (rowA (boolE (bitsDry i.nm b)) i.nm) 4 (0, 0))])
    (fd_break (worldLo w) i (rawS wa i.nw wc) mb mo mc tanks ((2 ^ i.nm : Nat) : Int) b i.nm (rowA (boolE (bitsDry i.nm b)) i.nm) m (wrongRule i (endsOf i tanks false (bitsDry i.nm b) m)) (wrongWell i (endsOf i tanks false (bitsDry i.nm b) m)) d3)
    ⟨fr_rjB hi h1 (hf _) hb, hd ▸ con_isDrought (w := w) (i := i) (wa := wa) (wc := wc) (ma := some ⟨mb, mo, none⟩) (mc := mc) (k := 7) (n := 8) (by omega) hml, ltq_f (by omega), trivial⟩ (by kernel_rfl) (by kernel_rfl) (by kernel_rfl) (by kernel_rfl) (by kernel_rfl) (by kernel_rfl) (by kernel_rfl) (by kernel_rfl) (fd_ok (by omega) (okO_ffF (by show 8 ≤ 8; omega)) ⟨.inr ⟨rfl, .inl (loose_boolE _ _)⟩, trivial⟩) fd_same
  exact StdX.rj (os := fdO i (rawS wa i.nw wc) mb mo mc tanks ffN .ready none) (os' := fdO i (rawS wa i.nw wc) mb mo mc tanks (ffF 7 i.nm m (wrongRule i (endsOf i tanks false (bitsDry i.nm b) m)) (wrongWell i (endsOf i tanks false (bitsDry i.nm b) m))) .done (some (.exit 0)) ++ [(false, Obj.cells (rowA (boolE (bitsDry i.nm b)) i.nm) 4 (0, 0))])
    std fd_slots (by kernel_rfl) rfl rfl (fun l e => by cases e) (fd_fix (l := []) (by show 6 ≤ 7; omega) okO_ffN (fun b hb => by simp at hb)) (fd_fix (by show 6 ≤ 8; omega) (okO_ffF (by show 8 ≤ 8; omega)) fd_fixD) (by kernel_rfl) (by kernel_rfl) (by kernel_rfl) (by kernel_rfl) (by kernel_rfl) (by kernel_rfl)
/-- firstFault: nothing can go wrong. -/
theorem firstFault_fine (hi : IslAt w w.heap.size i wa ma) (h1 : 1 ≤ i.nm) (hf : ∀ d, Fit i tanks (endTru i false i.nm d)) (hn : ftTo i tanks (2 ^ i.nm) = none) :
    Calls Tryz.prog 47 #[islV i wa wc ma mc, .int .i64 tanks] w fun e' w' => e' = .returned (.agg ffN) ∧ Below w.heap.size w w' := by
  obtain ⟨mb, mo, rfl, _⟩ := monsGet hi.months (show 0 < i.nm by omega)
  have hcalls := (GoE.refl (P := Tryz.prog) (B := worldLo w) (c0 := entryC Tryz.prog 47 48 [islR i wa wc (some ⟨mb, mo, none⟩) mc, .int .i64 tanks]) under_nil).calls goFns_ok mixed_ok (f := 47) (args := #[islR i wa wc (some ⟨mb, mo, none⟩) mc, .int .i64 tanks]) (args' := #[islV i wa wc (some ⟨mb, mo, none⟩) mc, .int .i64 tanks]) (by kernel_rfl)
    (ff_fine (worldLo w) i (rawS wa i.nw wc) mb mo mc tanks) ⟨fd_rj hi h1 hf hn, con_droughts, trivial⟩ (worldLo_has w)
    (VRl.vrs' (.cons (vr_isl i wa wc (some ⟨mb, mo, none⟩) mc) (.cons (.int _ _) .nil)))
  exact hcalls.mono fun en w' ⟨v', μ', he, hv, hb, _⟩ => ⟨by rw [he, af_eq (v := .agg ffN) (by kernel_rfl) hv], hb⟩
theorem VR.agg4 {μ : Mu} {a b c d v' : Value} (h : VR μ (.agg #[a, b, c, d]) v') : ∃ a' b' c' d', v' = .agg #[a', b', c', d'] ∧ VR μ a a' ∧ VR μ b b' ∧ VR μ c c' ∧ VR μ d d' := by
  obtain ⟨ys, rfl, hl⟩ := h.agg_inv
  cases hl with
  | cons h1 hl => cases hl with
    | cons h2 hl => cases hl with
      | cons h3 hl => cases hl with
        | cons h4 hl => cases hl; exact ⟨_, _, _, _, rfl, h1, h2, h3, h4⟩
theorem boolE_af (d : Nat → Bool) (n : Nat) : ∀ v ∈ rowA (boolE d) n, af v = true := rowA_mem n fun j _ v hv => by
  simp only [boolE, List.mem_cons, List.not_mem_nil, or_false] at hv
  rw [hv]; rfl
/-- firstFault: the first fault, of the drought b in the month m. -/
theorem firstFault_bad (hi : IslAt w w.heap.size i wa ma) (h1 : 1 ≤ i.nm) (hf : ∀ d, Fit i tanks (endTru i false i.nm d)) {b m : Nat} (hn : ftTo i tanks (2 ^ i.nm) = some (b, m)) :
    Calls Tryz.prog 47 #[islV i wa wc ma mc, .int .i64 tanks] w fun e' w' => (∃ g c, e' = .returned (.agg #[.slice (some ⟨g, 0, none⟩) i.nm c, .int .i64 m, .int .i64 (wrongRule i (endsOf i tanks false (bitsDry i.nm b) m)), .int .i64 (wrongWell i (endsOf i tanks false (bitsDry i.nm b) m))]) ∧ w.heap.size ≤ g ∧ g < w'.heap.size ∧ i.nm ≤ c ∧ c ≤ maxLen ∧
      ∀ (j : Nat) v, (rowA (boolE (bitsDry i.nm b)) i.nm)[j]? = some v → w'.cell? ⟨g, j, none⟩ = some v) ∧ Below w.heap.size w w' := by
  obtain ⟨mb, mo, rfl, _⟩ := monsGet hi.months (show 0 < i.nm by omega)
  have hcalls := (GoE.refl (P := Tryz.prog) (B := worldLo w) (c0 := entryC Tryz.prog 47 48 [islR i wa wc (some ⟨mb, mo, none⟩) mc, .int .i64 tanks]) under_nil).calls goFns_ok mixed_ok (f := 47) (args := #[islR i wa wc (some ⟨mb, mo, none⟩) mc, .int .i64 tanks]) (args' := #[islV i wa wc (some ⟨mb, mo, none⟩) mc, .int .i64 tanks]) (by kernel_rfl)
    (ff_bad (worldLo w) i (rawS wa i.nw wc) mb mo mc tanks m (wrongRule i (endsOf i tanks false (bitsDry i.nm b) m)) (wrongWell i (endsOf i tanks false (bitsDry i.nm b) m)) (rowA (boolE (bitsDry i.nm b)) i.nm)) ⟨fd_rjB hi h1 hf hn, con_droughts, trivial⟩ (worldLo_has w)
    (VRl.vrs' (.cons (vr_isl i wa wc (some ⟨mb, mo, none⟩) mc) (.cons (.int _ _) .nil)))
  refine hcalls.mono fun en w' ⟨v', μ', he, hv, hb, hnew⟩ => ⟨?_, hb⟩
  have hrow := af_row (hnew 0 7 (rowA (boolE (bitsDry i.nm b)) i.nm) 4 rfl rfl) (boolE_af _ _)
  obtain ⟨g', cap, k1, k2, k3, k4⟩ := hrow
  obtain ⟨a', b', c', d', rfl, q1, q2, q3, q4⟩ := VR.agg4 hv
  obtain ⟨c, rfl, hc1, hc2⟩ := q1.slice_new k3
  have e2 := af_eq (v := .int .i64 m) rfl q2
  have e3 := af_eq (v := .int .i64 (wrongRule i (endsOf i tanks false (bitsDry i.nm b) m))) rfl q3
  have e4 := af_eq (v := .int .i64 (wrongWell i (endsOf i tanks false (bitsDry i.nm b) m))) rfl q4
  subst e2 e3 e4
  exact ⟨g', c, he, k1, k2, hc1, hc2, k4⟩
end
end Go.Proofs.YtffdidleebognaaGreatDoor
