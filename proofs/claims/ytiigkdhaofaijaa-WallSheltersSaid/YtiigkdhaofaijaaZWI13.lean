/- slices.Insert of one choice ahead of some choices, whether there is room for it or not. -/
import Derived.WalkKit
import Derived.Lib.Hide
import Derived.Lib.Overlaps
import Derived.Lib.AppendZerosOnto
import Derived.Shelf.Spec.SlicesInsert
import Derived.Deep.RegionHeld3
import Derived.Test.YtiigkdhaofaijaaZWI06
import Derived.Test.YtiigkdhaofaijaaProg
import Derived.Test.YtiigkdhaofaijaaZWI09
import Derived.Test.YtiigkdhaofaijaaZWI12
import Derived.Test.YtiigkdhaofaijaaZWI08
set_option linter.all false
namespace Go.Proofs.Ytiigkdhaofaijaa
open Go Go.CE Go.RowKit Go.Lib
theorem copy_rowZ {P : Program} (w : World) (t ty e : TypeId) (g o dLen dCap : Nat) (a : Addr) (sLen sCap : Nat) (cur : Array Value) (te : TypeId) (cs : List Value) (z : Nat) (hu : P.underlying t = some (.slice e)) (hz : szOf P e = some z)
 (hg : w.heap[g]? = some (.cells cur te (0, 0))) (hn : cs.length = Nat.min sLen dLen * z) (hsrc : ∀ j v, cs[j]? = some v → w.cell? (a.add j) = some v) (hfit : o + cs.length ≤ cur.size) (h1 : ∀ v ∈ cs, v.oneCell' = true) :
 (Builtin.copy_ #[t, t] ty #[.slice (some ⟨g, o, none⟩) dLen dCap, .slice (some a) sLen sCap]).run P w = .ok (goInt (Nat.min sLen dLen)) (w.setRow g (cur.toList.take o ++ (cs ++ cur.toList.drop (o + cs.length))).toArray) := by
 have hl := run_loadCells_list (P := P) w a cs hsrc
 have hst := run_storeCells_at P g o te cs 0 cur w hg (by simpa using hfit) h1
 simp [Builtin.copy_, Builtin.lenOf, Builtin.firstCells, Sem.run_bind, Sem.run_pure, Result.andThen_ok, run_underlying hu, szOf_run hz, ← hn, hl, hst]
theorem seg_in {cur : Array Value} {w : World} {g : Nat} {te : TypeId} {fr : Nat × Nat} (hg : w.heap[g]? = some (.cells cur te fr)) (o k : Nat) : ∀ j v, ((cur.toList.drop o).take k)[j]? = some v → w.cell? ((⟨g, o, none⟩ : Addr).add j) = some v := by
 intro j v h
 rw [List.getElem?_take] at h
 split at h
 ·rw [List.getElem?_drop] at h
  rw [Addr.add_lit, World.cell?]
  simp [hg]
  simpa using h
 ·cases h
theorem t130 : Try.prog.underlying 130 = some (.slice 108) := by kernel_rfl
theorem t3i : Try.prog.underlying 3 = some (.int .i64) := by kernel_rfl
theorem z108 : szOf Try.prog 108 = some 2 := by kernel_rfl
def Inserted (w w' : World) (g n : Nat) (cs : List Value) (v : Value) : Prop := ∃ g' c' cur', v = .slice (some ⟨g', 0, none⟩) (n + 1) c' ∧ (g' = g ∨ g' = w.heap.size) ∧ w'.heap[g']? = some (.cells cur' 108 (0, 0)) ∧ n + 1 ≤ c' ∧ c' ≤ maxLen ∧ cur'.size = c' * 2 ∧
 cur'.toList.take ((n + 1) * 2) = cs ∧ w.grownBy w' (some g)
set_option maxHeartbeats 4000000 in
set_option maxRecDepth 100000 in
theorem insert_room (w : World) (g n c vb voff vc : Nat) (cur : Array Value) (vs : List Value) (tv : TypeId) (kv : Array Value) (hn : 1 ≤ n) (hr : n + 1 ≤ c) (hc : c ≤ maxLen) (hg : w.heap[g]? = some (.cells cur 108 (0, 0))) (hs : cur.size = c * 2)
 (hvb : vb ≠ g) (hv : w.heap[vb]? = some (.cells kv tv (0, 0))) (hvl : vs.length = 2) (hvs : ∀ j v, vs[j]? = some v → w.cell? ((⟨vb, voff, none⟩ : Addr).add j) = some v) (h1v : ∀ v ∈ vs, v.oneCell' = true) (h1c : ∀ v ∈ cur.toList.take (n * 2), v.oneCell' = true) :
 Calls Try.prog 117 #[.slice (some ⟨g, 0, none⟩) n c, .int .i64 0, .slice (some ⟨vb, voff, none⟩) 1 vc] w fun e w' => ∃ v, e = .returned v ∧ Inserted w w' g n (vs ++ cur.toList.take (n * 2)) v := by
 have mixed : Try.prog.follows .mixedOrders = true := by decide +kernel
 have hc63 : c ≤ 9223372036854775807 := by unfold maxLen at hc; omega
 have hz2 : ¬ (0 = (n : Int)) := by omega
 have hw1 : IntKind.i64.wrap 1 = 1 := by decide
 have hw0 : IntKind.i64.wrap 0 = 0 := by decide
 have hb1 : (1 : Int) ≤ (n : Int) + 1 := by omega
 have hb2 : ¬ (c = 1) := by omega
 have hb4 : ¬ (c = 0) := by omega
 have hb5 : (0 : Int) ≤ (n : Int) + 1 := by omega
 have hz3 : ¬ ((c : Int) < (n : Int) + 1) := by omega
 have hov : ∀ lb cb, (callFunc 120 #[.slice (some ⟨vb, voff, none⟩) 1 vc, .slice (some ⟨g, 2, none⟩) lb cb]).run Try.prog w = .ok (.value (.bool false)) w := fun lb cb => by
  rw [run_callFunc_extern Try.func120 (by kernel_rfl) (by kernel_rfl) (by kernel_rfl) (e := Extern.SlicesOverlaps.overlaps #[130, 130] #[4]) (by kernel_rfl),
   Lib.run_overlaps_apart w 130 4 108 t130 2 (szOf_run z108) ⟨vb, voff, none⟩ ⟨g, 2, none⟩ 1 vc lb cb hvb tv 108 kv.size cur.size (by simp [World.shape?, hv]) (by simp [World.shape?, hg]) (by omega) (by simp [World.frozen?, hv]) (by simp [World.frozen?, hv])]
  rfl
 have hmin : Nat.min (n + 1) n = n := by simp only [Nat.min_def]; split <;> omega
 have hmin2 : Nat.min 1 (n + 1) = 1 := by simp only [Nat.min_def]; split <;> omega
 have htl : (cur.toList.take (n * 2)).length = n * 2 := by rw [List.length_take]; simp only [Array.length_toList]; omega
 have ht2 : (cur.toList.take 2).length = 2 := by rw [List.length_take]; simp only [Array.length_toList]; omega
 have hW2 : ∀ (v2 : List Value), v2.length = 2 → (v2 ++ (cur.toList.take (n * 2) ++ cur.toList.drop (2 + n * 2))).length = cur.size := fun v2 h2 => by
  rw [List.length_append, List.length_append, htl, h2, List.length_drop]; simp only [Array.length_toList]; omega
 obtain ⟨R1, hR1⟩ : ∃ R1, R1 = (cur.toList.take 2 ++ (cur.toList.take (n * 2) ++ cur.toList.drop (2 + n * 2))).toArray := ⟨_, rfl⟩
 have hR1s : R1.size = cur.size := by rw [hR1]; simpa using hW2 _ ht2
 have hcp1 : ∀ ty dc sc, (Builtin.copy_ #[130, 130] ty #[.slice (some ⟨g, 2, none⟩) n dc, .slice (some ⟨g, 0, none⟩) (n + 1) sc]).run Try.prog w.drew = .ok (goInt n) (w.drew.setRow g R1) := fun ty dc sc => by
  have h := copy_rowZ (P := Try.prog) w.drew 130 ty 108 g 2 n dc ⟨g, 0, none⟩ (n + 1) sc cur 108 (cur.toList.take (n * 2)) 2 t130 z108 hg (by rw [hmin, htl]) (by have := seg_in (w := w.drew) hg 0 (n * 2); simpa using this) (by rw [htl]; omega) h1c
  rw [hmin, htl, ← hR1] at h
  exact h
 have hgl : g < w.heap.size := (Array.getElem?_eq_some_iff.1 hg).1
 have hg1 : (w.drew.setRow g R1).heap[g]? = some (.cells R1 108 (0, 0)) := setRow_heap w.drew g cur _ _ _ hg
 obtain ⟨R2, hR2⟩ : ∃ R2, R2 = (vs ++ (cur.toList.take (n * 2) ++ cur.toList.drop (2 + n * 2))).toArray := ⟨_, rfl⟩
 have hcp2 : ∀ ty dc, (Builtin.copy_ #[130, 130] ty #[.slice (some ⟨g, 0, none⟩) (n + 1) dc, .slice (some ⟨vb, voff, none⟩) 1 vc]).run Try.prog (w.drew.setRow g R1) = .ok (goInt 1) ((w.drew.setRow g R1).setRow g R2) := fun ty dc => by
  have hb := setRow_other w.drew g vb R1 hvb
  have h := copy_rowZ (P := Try.prog) (w.drew.setRow g R1) 130 ty 108 g 0 (n + 1) dc ⟨vb, voff, none⟩ 1 vc R1 108 vs 2 t130 z108 hg1 (by rw [hmin2, hvl]) (fun j v hj => by have h0 := hvs j v hj; rw [Addr.add_lit] at h0 ⊢; exact (World.cell?_of_block (a := ⟨vb, voff + j, none⟩) hb).trans h0) (by rw [hvl, hR1s]; omega) h1v
  rw [hmin2, hvl] at h
  have e : (R1.toList.take 0 ++ (vs ++ R1.toList.drop (0 + 2))).toArray = R2 := by
   rw [hR2, hR1]
   simp [List.drop_append, ht2]
  rw [e] at h
  exact h
 have HR1 := Lib.hid hR1; clear hR1
 have HR2 := Lib.hid hR2; clear hR2
 go_enter Try.func117, Try.ntmps117
 go_wp2_with (simp only [hov])
 go_region_law_o (refine step_copy_runI rfl _ _ 130 130 rfl _ _ (by simp [Act.eval, Act.put]; exact ⟨rfl, rfl, rfl⟩) (by simp [Act.eval, Act.put]; exact ⟨rfl, rfl, rfl⟩) (hcp1 _ _ _) ?_)
 go_wp2_with (at_builtin; refine wpList_copy_runI _ rfl _ _ 130 130 rfl _ _ rfl rfl (hcp2 _ _) ?_)
 go_ret
 have hR1 := HR1.out
 have hR2 := HR2.out
 refine ⟨_, rfl, g, c, R2, rfl, .inl rfl, setRow_heap _ g R1 _ _ _ hg1, hr, hc, ?_, ?_, ⟨rfl, rfl, rfl, ?_, fun k hk hne => ?_⟩⟩
 ·rw [hR2, List.size_toArray, hW2 _ hvl, hs]
 ·rw [hR2, show (n + 1) * 2 = (vs ++ cur.toList.take (n * 2)).length by rw [List.length_append, htl, hvl]; omega]
  simp only [← List.append_assoc]
  exact List.take_left
 ·simp [World.setRow]
 ·have hk : k ≠ g := fun e => hne (by rw [e])
  rw [setRow_other _ g k R2 hk, setRow_other _ g k R1 hk]; rfl
theorem info108 : ∃ (i : TypeInfo) (zv : Value), Try.prog.info? 108 = some i ∧ i.zero = some zv ∧ i.size = 2 ∧ i.bytes = 32 ∧ zv.cells.size = 2 := by
 cases h : Try.prog.info? 108 with
 | none => have : (inf Try.prog 108).isSome = true := by kernel_rfl
           rw [inf_eq, h] at this; cases this
 | some i =>
   have h1 : (inf Try.prog 108).map (·.size) = some 2 := by kernel_rfl
   have h2 : (inf Try.prog 108).map (·.bytes) = some 32 := by kernel_rfl
   have h3 : (zeroOf Try.prog 108).map (·.cells.size) = some 2 := by kernel_rfl
   unfold zeroOf at h3
   rw [inf_eq, h] at h1 h2 h3
   simp only [Option.map_some, Option.some.injEq] at h1 h2 h3
   cases hz : i.zero with
   | none => rw [hz] at h3; cases h3
   | some zv =>
     rw [hz] at h3
     simp only [Option.map_some, Option.some.injEq] at h3
     exact ⟨i, zv, rfl, hz, h1, h2, h3⟩
set_option maxHeartbeats 4000000 in
set_option maxRecDepth 100000 in
theorem insert_grow (w : World) (g n vb voff vc : Nat) (cur : Array Value) (vs : List Value) (hn : 1 ≤ n) (hnb : n ≤ 1000000) (hg : w.heap[g]? = some (.cells cur 108 (0, 0))) (hs : cur.size = n * 2)
 (hvl : vs.length = 2) (hvs : ∀ j v, vs[j]? = some v → w.cell? ((⟨vb, voff, none⟩ : Addr).add j) = some v) (h1v : ∀ v ∈ vs, v.oneCell' = true) (h1c : ∀ v ∈ cur.toList.take (n * 2), v.oneCell' = true) :
 Calls Try.prog 117 #[.slice (some ⟨g, 0, none⟩) n n, .int .i64 0, .slice (some ⟨vb, voff, none⟩) 1 vc] w fun e w' => ∃ v, e = .returned v ∧ Inserted w w' g n (vs ++ cur.toList.take (n * 2)) v := by
 have mixed : Try.prog.follows .mixedOrders = true := by decide +kernel
 have hz2 : ¬ (0 = (n : Int)) := by omega
 have hw1 : IntKind.i64.wrap 1 = 1 := by decide
 have hw0 : IntKind.i64.wrap 0 = 0 := by decide
 obtain ⟨i0, zv, hi0, hz0, hi2, hib, hzv⟩ := info108
 obtain ⟨C, hC⟩ : ∃ C, C = grownCap w (n + 1) n 108 := ⟨_, rfl⟩
 have hC1 : n + 1 ≤ C := by rw [hC]; exact grownCap_ge w _ _ _
 have hC2 : C ≤ maxLen := by rw [hC]; exact grownCap_le_maxLen w _ _ _ (by unfold maxLen; omega)
 obtain ⟨R0, hR0⟩ : ∃ R0, R0 = Builtin.zeroCells zv.cells (n + 1) ++ Builtin.zeroCells zv.cells (C - (n + 1)) := ⟨_, rfl⟩
 have hR0s : R0.size = C * 2 := by rw [hR0, Array.size_append, size_zeroCells, size_zeroCells, hzv, ← Nat.add_mul]; congr 1; omega
 have hrz : ∀ ty, (Builtin.append_ #[130, 3] ty #[.slice (some ⟨g, 0, none⟩) 0 n, .int .i64 ((n : Int) + 1)]).run Try.prog w = .ok (.slice (some ⟨w.heap.size, 0, none⟩) (n + 1) C) (w.drew.alloc (.cells R0 108)) := fun ty => by
  have hold : (Builtin.firstCells i0.size 0 (.slice (some ⟨g, 0, none⟩) 0 n)).run Try.prog w.drew = .ok ([] : List Value).toArray w.drew := by
   exact run_firstCells_some w.drew i0.size 0 ⟨g, 0, none⟩ 0 n [] (by simp) (fun j v h => by simp at h)
  have h := Lib.run_append_grow_zeros (P := Try.prog) w 130 3 ty 108 i0 zv .i64 .i64 t130 t3i hi0 hz0 (some ⟨g, 0, none⟩) 0 n [] hold (n + 1) (by omega) (by omega) (by omega) (by omega) (by rw [hib]; omega) (by rw [hib, Nat.zero_add]; exact growslice_fits (by omega) (by omega))
  rw [Nat.zero_add, ← hC] at h
  have e : ([] : List Value).toArray ++ Builtin.zeroCells zv.cells (n + 1) ++ Builtin.zeroCells zv.cells (C - (n + 1)) = R0 := by rw [hR0]; simp
  rw [e] at h
  exact h
 have hgl : g < w.heap.size := (Array.getElem?_eq_some_iff.1 hg).1
 have hvl0 : vb < w.heap.size := block_lt_of_cell (hvs 0 _ (List.getElem?_eq_getElem (by omega)))
 obtain ⟨N, hN⟩ : ∃ N, N = w.heap.size := ⟨_, rfl⟩
 rw [← hN] at hrz hgl hvl0
 obtain ⟨W0, hW0⟩ : ∃ W0, W0 = w.drew.alloc (.cells R0 108) := ⟨_, rfl⟩
 have hW0g : W0.heap[N]? = some (.cells R0 108 (0, 0)) := by rw [hW0, hN]; exact heap_alloc_new w.drew _
 have hW0o : ∀ k, k < N → W0.heap[k]? = w.heap[k]? := fun k hk => by rw [hW0]; exact Below.heap_alloc w.drew _ k (by rw [hN] at hk; exact hk)
 have hmin : Nat.min n n = n := by simp only [Nat.min_def]; split <;> omega
 have hmin2 : Nat.min 1 (n + 1) = 1 := by simp only [Nat.min_def]; split <;> omega
 have htl : (cur.toList.take (n * 2)).length = n * 2 := by rw [List.length_take]; simp only [Array.length_toList]; omega
 obtain ⟨R1, hR1⟩ : ∃ R1, R1 = (vs ++ R0.toList.drop 2).toArray := ⟨_, rfl⟩
 have hR1s : R1.size = R0.size := by rw [hR1]; simp [hvl]; omega
 have hcp1 : ∀ ty dc, (Builtin.copy_ #[130, 130] ty #[.slice (some ⟨N, 0, none⟩) (n + 1) dc, .slice (some ⟨vb, voff, none⟩) 1 vc]).run Try.prog W0 = .ok (goInt 1) (W0.setRow N R1) := fun ty dc => by
  have h := copy_rowZ (P := Try.prog) W0 130 ty 108 N 0 (n + 1) dc ⟨vb, voff, none⟩ 1 vc R0 108 vs 2 t130 z108 hW0g (by rw [hmin2, hvl]) (fun j v hj => by have h0 := hvs j v hj; rw [Addr.add_lit] at h0 ⊢; exact (World.cell?_of_block (a := ⟨vb, voff + j, none⟩) (hW0o vb hvl0)).trans h0) (by rw [hvl]; omega) h1v
  rw [hmin2, hvl] at h
  have e : (R0.toList.take 0 ++ (vs ++ R0.toList.drop (0 + 2))).toArray = R1 := by rw [hR1]; simp
  rw [e] at h
  exact h
 obtain ⟨W1, hW1⟩ : ∃ W1, W1 = W0.setRow N R1 := ⟨_, rfl⟩
 rw [← hW1] at hcp1
 have hW1g : W1.heap[N]? = some (.cells R1 108 (0, 0)) := by rw [hW1]; exact setRow_heap W0 N R0 R1 _ _ hW0g
 have hW1o : ∀ k, k < N → W1.heap[k]? = w.heap[k]? := fun k hk => by rw [hW1, setRow_other W0 N k R1 (by omega)]; exact hW0o k hk
 have hW1d : W1.drew.heap = W1.heap := rfl
 obtain ⟨R2, hR2⟩ : ∃ R2, R2 = (vs ++ (cur.toList.take (n * 2) ++ R1.toList.drop (2 + n * 2))).toArray := ⟨_, rfl⟩
 have hcp2 : ∀ ty dc sc, (Builtin.copy_ #[130, 130] ty #[.slice (some ⟨N, 2, none⟩) n dc, .slice (some ⟨g, 0, none⟩) n sc]).run Try.prog W1.drew = .ok (goInt n) (W1.drew.setRow N R2) := fun ty dc sc => by
  have hg1 : W1.drew.heap[g]? = some (.cells cur 108 (0, 0)) := (hW1o g hgl).trans hg
  have h := copy_rowZ (P := Try.prog) W1.drew 130 ty 108 N 2 n dc ⟨g, 0, none⟩ n sc R1 108 (cur.toList.take (n * 2)) 2 t130 z108 hW1g (by rw [hmin, htl]) (by have := seg_in (w := W1.drew) hg1 0 (n * 2); simpa using this) (by rw [htl, hR1s, hR0s]; omega) h1c
  rw [hmin, htl] at h
  have e : (R1.toList.take 2 ++ (cur.toList.take (n * 2) ++ R1.toList.drop (2 + n * 2))).toArray = R2 := by
   rw [hR2, hR1]
   simp [← hvl]
  rw [e] at h
  exact h
 have hc0 : ¬ (C = 0) := by omega
 have hc1 : ¬ (C = 1) := by omega
 have hn0 : ¬ (n = 0) := by omega
 have hb1 : (1 : Int) ≤ (n : Int) + 1 := by omega
 have hb5 : (0 : Int) ≤ (n : Int) + 1 := by omega
 have hz3 : (n : Int) < (n : Int) + 1 := by omega
 have HC := Lib.hid hC; clear hC
 have HR0 := Lib.hid hR0; clear hR0
 have HR1 := Lib.hid hR1; clear hR1
 have HR2 := Lib.hid hR2; clear hR2
 have HW0 := Lib.hid hW0; clear hW0
 have HW1 := Lib.hid hW1; clear hW1
 have HN := Lib.hid hN; clear hN
 rw [← HW0.out] at hrz
 go_enter Try.func117, Try.ntmps117
 go_wp2_with (first
  | (at_builtin; refine Lib.wpList_append_run _ rfl _ _ _ _ rfl _ _ rfl rfl _ _ (hrz _) ?_)
  | (at_builtin; refine wpList_copy_runI _ rfl _ _ 130 130 rfl _ _ rfl rfl (hcp1 _ _) ?_))
 go_region_law_o (refine step_copy_runI rfl _ _ 130 130 rfl _ _ (by simp [Act.eval, Act.put]; exact ⟨rfl, rfl, rfl⟩) (by simp [Act.eval, Act.put]; exact ⟨rfl, rfl, rfl⟩) (hcp2 _ _ _) ?_)
 go_wp2
 go_ret
 have hR1 := HR1.out
 have hR2 := HR2.out
 have hN := HN.out
 have hR2s : R2.size = C * 2 := by rw [hR2]; simp [hvl, htl, hR1s, hR0s]; omega
 refine ⟨_, rfl, N, C, R2, rfl, .inr hN, setRow_heap _ N R1 _ _ _ hW1g, hC1, hC2, hR2s, ?_, ⟨?_, ?_, ?_, ?_, fun k hk hne => ?_⟩⟩
 ·rw [hR2, show (n + 1) * 2 = (vs ++ cur.toList.take (n * 2)).length by rw [List.length_append, htl, hvl]; omega]
  simp only [← List.append_assoc]
  exact List.take_left
 ·have := HW1.out; have h0 := HW0.out; subst this h0; rfl
 ·have := HW1.out; have h0 := HW0.out; subst this h0; rfl
 ·have := HW1.out; have h0 := HW0.out; subst this h0; rfl
 ·have := HW1.out; have h0 := HW0.out; subst this h0; simp [World.setRow]
 ·have hk' : k < N := by omega
  rw [setRow_other _ N k R2 (by omega)]
  exact hW1o k hk'
theorem insert_any (w : World) (g n c vb voff vc : Nat) (cur : Array Value) (vs : List Value) (tv : TypeId) (kv : Array Value) (hn : 1 ≤ n) (hnb : n ≤ 1000000) (hr : n ≤ c) (hc : c ≤ maxLen) (hg : w.heap[g]? = some (.cells cur 108 (0, 0))) (hs : cur.size = c * 2)
 (hvb : vb ≠ g) (hv : w.heap[vb]? = some (.cells kv tv (0, 0))) (hvl : vs.length = 2) (hvs : ∀ j v, vs[j]? = some v → w.cell? ((⟨vb, voff, none⟩ : Addr).add j) = some v) (h1v : ∀ v ∈ vs, v.oneCell' = true) (h1c : ∀ v ∈ cur.toList.take (n * 2), v.oneCell' = true) :
 Calls Try.prog 117 #[.slice (some ⟨g, 0, none⟩) n c, .int .i64 0, .slice (some ⟨vb, voff, none⟩) 1 vc] w fun e w' => ∃ v, e = .returned v ∧ Inserted w w' g n (vs ++ cur.toList.take (n * 2)) v := by
 rcases Nat.lt_or_ge n c with h | h
 ·exact insert_room w g n c vb voff vc cur vs tv kv hn h hc hg hs hvb hv hvl hvs h1v h1c
 ·obtain rfl : c = n := by omega
  exact insert_grow w g c vb voff vc cur vs hn hnb hg hs hvl hvs h1v h1c
end Go.Proofs.Ytiigkdhaofaijaa

namespace Go.Proofs.Ytiigkdhaofaijaa
open Go Go.CE Go.RowKit
def insC (args : Array Value) (H : Heap) (n : Nat) : Option Rs := match args.toList with
 | [.slice (some ⟨b, 0, none⟩) k s, .int .i64 (.ofNat 0), .slice (some ⟨b2, off2, none⟩) 1 _] => match hget H b, hget H b2 with
   | some (.cells cs te (0, 0)), some (.cells cs2 _ (0, 0)) =>
     bif Nat.beq te 108 && Nat.beq s 2 && Nat.ble (k * 2) cs.size && Nat.ble 1 k && Nat.ble k 1000000 && Nat.ble (off2 + 2) cs2.size && !(Nat.beq b b2) && Nat.blt b n && Nat.blt b2 n && ones (cs2.extract off2 (off2 + 2)) && ones (cs.extract 0 (k * 2)) then
      some ⟨.ret (.slice (some ⟨n, 0, none⟩) (k + 1) 2), (n, .cells (cs2.extract off2 (off2 + 2) ++ cs.extract 0 (k * 2)) 108 (0, 0)) :: killo H (some b), n + 1, [b2, b], [b]⟩ else none
   | _, _ => none
 | _ => none
def insOrc : Orc := fun g args H n => bif Nat.beq g 117 then insC args H n else none
theorem insOrc_ok (B : Lo) : OrcS Try.prog B insOrc := by
 intro g args H n s hu h
 unfold insOrc at h
 cases hg : Nat.beq g 117 with
 | false => rw [hg] at h; cases h
 | true =>
   rw [hg] at h
   simp only [cond_true] at h
   obtain rfl := Nat.eq_of_beq_eq_true hg
   unfold insC at h
   split at h
   ·rename_i b k sz b2 off2 z2 hl
    split at h
    ·rename_i cs te cs2 te2 hb hb2
     cases hq : (Nat.beq te 108 && Nat.beq sz 2 && Nat.ble (k * 2) cs.size && Nat.ble 1 k && Nat.ble k 1000000 && Nat.ble (off2 + 2) cs2.size && !(Nat.beq b b2) && Nat.blt b n && Nat.blt b2 n && ones (cs2.extract off2 (off2 + 2)) && ones (cs.extract 0 (k * 2))) with
     | false => rw [hq] at h; cases h
     | true =>
       rw [hq] at h
       simp only [cond_true, Option.some.injEq] at h
       subst h
       simp only [Bool.and_eq_true, Bool.not_eq_true'] at hq
       obtain ⟨⟨⟨⟨⟨⟨⟨⟨⟨⟨q1, q2⟩, q3⟩, q4⟩, q5⟩, q6⟩, q7⟩, q8⟩, q9⟩, q10⟩, q11⟩ := hq
       obtain rfl := Nat.eq_of_beq_eq_true q1
       obtain rfl := Nat.eq_of_beq_eq_true q2
       have q3 := Nat.le_of_ble_eq_true q3
       have q4 := Nat.le_of_ble_eq_true q4
       have q5 := Nat.le_of_ble_eq_true q5
       have q6 := Nat.le_of_ble_eq_true q6
       have q7 : b ≠ b2 := fun e => by subst e; simp at q7
       have q8 : b < n := Nat.le_of_ble_eq_true q8
       have q9 : b2 < n := Nat.le_of_ble_eq_true q9
       have hsh : Shape H n ((n, Obj.cells (cs2.extract off2 (off2 + 2) ++ cs.extract 0 (k * 2)) 108 (0, 0)) :: killo H (some b)) (n + 1) [b2, b] [b] := by
        refine ⟨by simp, fun i hi hw => ?_, fun i hi => ?_, fun i hi => List.mem_cons_of_mem _ hi, fun i hi => ?_⟩
        ·rw [hget_cons, if_neg (by omega), hget_killo, if_neg]
         rintro ⟨⟨q, e, rfl⟩, _⟩
         cases e
         exact hw (by simp)
        ·rw [hget_cons, if_neg (by omega), hget_killo, if_neg]
         rintro ⟨⟨q, e, rfl⟩, _⟩
         cases e
         omega
        ·simp only [List.mem_singleton] at hi
         omega
       refine ⟨hsh, fun S μ w args' ks hok hB hS hf hv hR => ?_⟩
       have hSb := hR b (by simp) q8
       have hSb2 := hR b2 (by simp) q9
       obtain ⟨im, him, hor⟩ := hok.rel b _ hSb hb trivial
       obtain ⟨im2, him2, hor2⟩ := hok.rel b2 _ hSb2 hb2 trivial
       rcases hor with ⟨_, hr, ho, arr, ha, hle, hcap, hcc⟩ | ⟨hz, _⟩
       ·rcases hor2 with ⟨hz2, hr2, ho2, arr2, ha2, hle2, hcap2, hcc2⟩ | ⟨hz, _⟩
        ·have hl' := vrl_mk [.slice (some ⟨b, 0, none⟩) k 2, .int .i64 (.ofNat 0), .slice (some ⟨b2, off2, none⟩) 1 z2] args'.toList (by rw [← hl]; simpa using hv.1) fun i v v' a b => hv.2 i v v' (by rw [← Array.getElem?_toList, hl]; exact a) (by simpa using b)
         obtain ⟨c, vc, hkc, hcm, hce, harg⟩ : ∃ c vc, k ≤ c ∧ c ≤ maxLen ∧ c * 2 = im.cap ∧ args' = #[.slice (some ⟨im.blk, 0, none⟩) k c, .int .i64 0, .slice (some ⟨im2.blk, off2, none⟩) 1 vc] := by
          generalize hy : args'.toList = ys at hl'
          cases hl' with
          | cons x1 hl' => cases hl' with
            | cons x2 hl' => cases hl' with
              | cons x3 hl' =>
                cases hl'
                rw [af_eq rfl x2] at hy
                cases x1 with
                | @slice _ a' _ _ c' har h1 h2 h3 =>
                  obtain ⟨im', him', _, rfl⟩ := har
                  simp only at him'
                  rw [him] at him'; cases him'
                  cases x3 with
                  | @slice _ a2' _ _ c2' har2 g1 g2 g3 =>
                    obtain ⟨im2', him2', _, rfl⟩ := har2
                    simp only at him2'
                    rw [him2] at him2'; cases him2'
                    refine ⟨c', c2', h1, h2, h3 (by omega) im him hr rfl, ?_⟩
                    apply Array.ext'
                    rw [hy, ho, ho2]
                    simp
         subst harg
         have hne : im2.blk ≠ im.blk := fun e => hok.inj b b2 _ _ im im2 hSb hSb2 q7 hb hb2 trivial trivial him him2 hr hr2 e.symm
         have hcells : ∀ (i : Nat) v, (cs.extract 0 (k * 2))[i]? = some v → ∃ v', (arr.toList.take (k * 2))[i]? = some v' ∧ VR μ v v' := by
          intro i v hv
          rw [Array.getElem?_extract] at hv
          split at hv
          ·rename_i hi
           rw [Nat.zero_add] at hv
           obtain ⟨v', e1, e2⟩ := hcc i v hv
           exact ⟨v', by rw [List.getElem?_take_of_lt (by omega)]; simpa using e1, e2⟩
          ·cases hv
         have hvs2 : ∀ (i : Nat) v, (cs2.extract off2 (off2 + 2))[i]? = some v → ∃ v', ((arr2.toList.drop off2).take 2)[i]? = some v' ∧ VR μ v v' := by
          intro i v hv
          rw [Array.getElem?_extract] at hv
          split at hv
          ·rename_i hi
           obtain ⟨v', e1, e2⟩ := hcc2 _ v hv
           exact ⟨v', by rw [List.getElem?_take_of_lt (by omega), List.getElem?_drop]; simpa using e1, e2⟩
          ·cases hv
         have hl1 : (arr.toList.take (k * 2)).length = k * 2 := by rw [List.length_take, Array.length_toList]; omega
         have hl2 : ((arr2.toList.drop off2).take 2).length = 2 := by rw [List.length_take, List.length_drop, Array.length_toList]; omega
         have he1 : (cs.extract 0 (k * 2)).size = k * 2 := by simp; omega
         have he2 : (cs2.extract off2 (off2 + 2)).size = 2 := by simp; omega
         have hV1 : VRs μ (cs.extract 0 (k * 2)) (arr.toList.take (k * 2)).toArray := ⟨by simp [hl1, -List.length_take]; omega, fun i v v' hv hv' => by
          obtain ⟨u, e1, e2⟩ := hcells i v hv
          simp only [List.getElem?_toArray] at hv'
          rw [e1] at hv'; cases hv'; exact e2⟩
         have hV2 : VRs μ (cs2.extract off2 (off2 + 2)) ((arr2.toList.drop off2).take 2).toArray := ⟨by simp only [List.size_toArray]; rw [hl2, he2], fun i v v' hv hv' => by
          obtain ⟨u, e1, e2⟩ := hvs2 i v hv
          simp only [List.getElem?_toArray] at hv'
          rw [e1] at hv'; cases hv'; exact e2⟩
         obtain ⟨e, w', fr, ⟨v, rfl, g', c', cur', rfl, hg', hcur, hc1, hc2, hcs, htk, hgr⟩, s1, s2, s3⟩ := insert_any w im.blk k c im2.blk off2 vc arr ((arr2.toList.drop off2).take 2) te2 arr2 q4 q5 hkc hcm ha (by omega) hne ha2 hl2
          (seg_in ha2 off2 2) (hV2.ones q10) (hV1.ones q11) ks
         have hgl : g' < w'.heap.size := (Array.getElem?_eq_some_iff.1 hcur).1
         have hlow := hok.low b _ im hSb hb trivial him
         refine ⟨.ret (.slice (some ⟨g', 0, none⟩) (k + 1) c'), w', _, post_grow hok hS (hf n (Nat.le_refl _) (by simp)) (some b) (fun q e => by cases e; exact ⟨hSb, ⟨_, hb, trivial⟩, im, him, hr⟩) g' cur'.size _ ?_ hgl ?_ hgr.size ?_ (.ofCells hcur ?_ rfl fun j v hv => ?_) ⟨hgr.os, hgr.tape, hgr.output⟩, .ret ?_, fun _ => ⟨fr, s1, s2, s3⟩, fun c0 cs' e => by subst e; exact Steps.trans s1 (.one (step_leave_returned s3))⟩
         ·rcases hg' with rfl | rfl
          ·exact hlow.2.1 hr
          ·have := hlow.1; have := hlow.2.1 hr; omega
         ·rcases hg' with rfl | rfl
          ·exact .inr ⟨b, im, rfl, him, rfl⟩
          ·exact .inl (Nat.le_refl _)
         ·intro q hq hne'
          refine hgr.block q hq fun e0 => ?_
          simp only [Option.some.injEq] at e0
          exact hne' b im rfl him e0.symm
         ·rw [Array.size_append, he1, he2, hcs]; omega
         ·have hj := (Array.getElem?_eq_some_iff.1 hv).1
          rw [Array.size_append, he1, he2] at hj
          have hcu : cur'[j]? = ((arr2.toList.drop off2).take 2 ++ arr.toList.take (k * 2))[j]? := by
           rw [← htk, List.getElem?_take_of_lt (by omega)]
           simp
          rw [hcu]
          rw [Array.getElem?_append] at hv
          split at hv
          ·rename_i hlt
           rw [he2] at hlt
           obtain ⟨u, e1, e2⟩ := hvs2 j v hv
           rw [List.getElem?_append_left (by omega)]
           exact ⟨u, e1, e2.mono (upd_ext (hf n (Nat.le_refl _) (by simp)))⟩
          ·rename_i hlt
           rw [he2] at hlt hv
           obtain ⟨u, e1, e2⟩ := hcells (j - 2) v hv
           rw [List.getElem?_append_right (by omega), hl2]
           exact ⟨u, e1, e2.mono (upd_ext (hf n (Nat.le_refl _) (by simp)))⟩
         ·refine .slice ⟨_, upd_self, rfl, rfl⟩ hc1 hc2 (fun _ im' him' _ _ => ?_)
          rw [upd_self] at him'
          cases him'
          exact hcs.symm
        ·exact absurd rfl hz
       ·exact absurd rfl hz
    ·cases h
   ·cases h
end Go.Proofs.Ytiigkdhaofaijaa

namespace Go.Proofs.Ytiigkdhaofaijaa
open Go Go.CE Go.RowKit
def inN (n : Int) : Value := .int .i64 n
def goFns (g : FuncId) : Bool := Nat.ble 3 g && (Nat.blt g 129 && !([120] : List Nat).any (Nat.beq g))
theorem goFns_ok : ∀ g, goFns g = true → okFn Try.prog g = true := by
 have h : (List.range 129).all (fun g => !(goFns g) || okFn Try.prog g) = true := by decide +kernel
 intro g hg
 have hg' := hg
 simp only [goFns, Bool.and_eq_true] at hg
 have h1 : g < 129 := Nat.le_of_ble_eq_true hg.2.1
 have := List.all_eq_true.1 h g (List.mem_range.2 h1)
 rw [hg'] at this
 simpa using this
end Go.Proofs.Ytiigkdhaofaijaa

namespace Go.Proofs.Ytiigkdhaofaijaa
open Go Go.CE Go.RowKit
def m17_4 : Memo :=
 ⟨17, #[.agg #[.slice (some ⟨1, 0, none⟩) 4 4, .slice (some ⟨2, 0, none⟩) 2 3, inN 2, inN 100, inN 200], .agg #[inN 200, inN 300, inN 500, inN 1000, inN 20, inN 50]], [(2, .cells #[inN 60, inN 0, inN 50, inN 0, inN 25, inN 20] 85 (0, 0)), (1, .cells #[inN 100, inN 10, inN 20, inN (-1), inN 150, inN 20, inN 30, inN (-1), inN 180, inN 20, inN 40, inN 10, inN 175, inN 10, inN 20, inN 0] 59 (0, 0))], 4, .tuple #[.agg #[inN 84, inN 293], inN 0], [], 113⟩
theorem m17_4_ok : isMemo m17_4 (m17_4.run Try.prog goFns insOrc 100000) = true := by decide +kernel
def m103_201 : Memo :=
 ⟨103, #[.agg #[.slice (some ⟨115, 0, none⟩) 4 4, .slice (some ⟨116, 0, none⟩) 2 3, inN 2, inN 100, inN 200, inN 200, inN 300, inN 500, inN 1000, inN 20, inN 50], .agg #[inN 0, inN 84], inN 20, inN (-1)], [(115, .cells #[inN 100, inN 10, inN 20, inN (-1), inN 150, inN 20, inN 30, inN (-1), inN 180, inN 20, inN 40, inN 10, inN 175, inN 10, inN 20, inN 0] 59 (0, 0))], 201, .tuple #[inN 0, .bool false], [], 213⟩
theorem m103_201_ok : isMemo m103_201 (m103_201.drun Try.prog goFns insOrc 100000) = true := by decide +kernel
def m103_264 : Memo :=
 ⟨103, #[.agg #[.slice (some ⟨115, 0, none⟩) 4 4, .slice (some ⟨116, 0, none⟩) 2 3, inN 2, inN 100, inN 200, inN 200, inN 300, inN 500, inN 1000, inN 20, inN 50], .agg #[inN 0, inN 293], inN 10, inN (-1)], [(115, .cells #[inN 100, inN 10, inN 20, inN (-1), inN 150, inN 20, inN 30, inN (-1), inN 180, inN 20, inN 40, inN 10, inN 175, inN 10, inN 20, inN 0] 59 (0, 0))], 264, .tuple #[inN 283, .bool true], [], 276⟩
theorem m103_264_ok : isMemo m103_264 (m103_264.drun Try.prog goFns insOrc 100000) = true := by decide +kernel
def m103_276 : Memo :=
 ⟨103, #[.agg #[.slice (some ⟨115, 0, none⟩) 4 4, .slice (some ⟨116, 0, none⟩) 2 3, inN 2, inN 100, inN 200, inN 200, inN 300, inN 500, inN 1000, inN 20, inN 50], .agg #[inN 1, inN 283], inN 20, inN (-1)], [(115, .cells #[inN 100, inN 10, inN 20, inN (-1), inN 150, inN 20, inN 30, inN (-1), inN 180, inN 20, inN 40, inN 10, inN 175, inN 10, inN 20, inN 0] 59 (0, 0))], 276, .tuple #[inN 263, .bool true], [], 288⟩
theorem m103_276_ok : isMemo m103_276 (m103_276.drun Try.prog goFns insOrc 100000) = true := by decide +kernel
def m103_288 : Memo :=
 ⟨103, #[.agg #[.slice (some ⟨115, 0, none⟩) 4 4, .slice (some ⟨116, 0, none⟩) 2 3, inN 2, inN 100, inN 200, inN 200, inN 300, inN 500, inN 1000, inN 20, inN 50], .agg #[inN 2, inN 263], inN 20, inN (-1)], [(115, .cells #[inN 100, inN 10, inN 20, inN (-1), inN 150, inN 20, inN 30, inN (-1), inN 180, inN 20, inN 40, inN 10, inN 175, inN 10, inN 20, inN 0] 59 (0, 0))], 288, .tuple #[inN 243, .bool true], [], 300⟩
theorem m103_288_ok : isMemo m103_288 (m103_288.drun Try.prog goFns insOrc 100000) = true := by decide +kernel
def m103_300 : Memo :=
 ⟨103, #[.agg #[.slice (some ⟨115, 0, none⟩) 4 4, .slice (some ⟨116, 0, none⟩) 2 3, inN 2, inN 100, inN 200, inN 200, inN 300, inN 500, inN 1000, inN 20, inN 50], .agg #[inN 3, inN 243], inN 10, inN (-1)], [(115, .cells #[inN 100, inN 10, inN 20, inN (-1), inN 150, inN 20, inN 30, inN (-1), inN 180, inN 20, inN 40, inN 10, inN 175, inN 10, inN 20, inN 0] 59 (0, 0))], 300, .tuple #[inN 233, .bool true], [], 312⟩
theorem m103_300_ok : isMemo m103_300 (m103_300.drun Try.prog goFns insOrc 100000) = true := by decide +kernel
def m103_396 : Memo :=
 ⟨103, #[.agg #[.slice (some ⟨321, 0, none⟩) 4 4, .slice (some ⟨322, 0, none⟩) 2 3, inN 2, inN 100, inN 200, inN 200, inN 300, inN 500, inN 1000, inN 20, inN 50], .agg #[inN 0, inN 185], inN 15, inN (-1)], [(321, .cells #[inN 100, inN 10, inN 20, inN (-1), inN 150, inN 20, inN 30, inN (-1), inN 180, inN 20, inN 40, inN 10, inN 175, inN 10, inN 20, inN 0] 59 (0, 0))], 396, .tuple #[inN 170, .bool true], [], 408⟩
theorem m103_396_ok : isMemo m103_396 (m103_396.drun Try.prog goFns insOrc 100000) = true := by decide +kernel
def m103_408 : Memo :=
 ⟨103, #[.agg #[.slice (some ⟨321, 0, none⟩) 4 4, .slice (some ⟨322, 0, none⟩) 2 3, inN 2, inN 100, inN 200, inN 200, inN 300, inN 500, inN 1000, inN 20, inN 50], .agg #[inN 1, inN 170], inN 25, inN (-1)], [(321, .cells #[inN 100, inN 10, inN 20, inN (-1), inN 150, inN 20, inN 30, inN (-1), inN 180, inN 20, inN 40, inN 10, inN 175, inN 10, inN 20, inN 0] 59 (0, 0))], 408, .tuple #[inN 0, .bool false], [], 420⟩
theorem m103_408_ok : isMemo m103_408 (m103_408.drun Try.prog goFns insOrc 100000) = true := by decide +kernel
def m103_500 : Memo :=
 ⟨103, #[.agg #[.slice (some ⟨421, 0, none⟩) 4 4, .slice (some ⟨422, 0, none⟩) 2 3, inN 2, inN 100, inN 200, inN 200, inN 300, inN 500, inN 1000, inN 20, inN 50], .agg #[inN 0, inN 293], inN 10, inN (-1)], [(421, .cells #[inN 100, inN 10, inN 20, inN (-1), inN 150, inN 20, inN 30, inN (-1), inN 180, inN 20, inN 40, inN 10, inN 175, inN 10, inN 20, inN 0] 59 (0, 0))], 500, .tuple #[inN 283, .bool true], [], 512⟩
theorem m103_500_ok : isMemo m103_500 (m103_500.drun Try.prog goFns insOrc 100000) = true := by decide +kernel
def m103_519 : Memo :=
 ⟨103, #[.agg #[.slice (some ⟨421, 0, none⟩) 4 4, .slice (some ⟨422, 0, none⟩) 2 3, inN 2, inN 100, inN 200, inN 200, inN 300, inN 500, inN 1000, inN 20, inN 50], .agg #[inN 1, inN 283], inN 20, inN (-1)], [(421, .cells #[inN 100, inN 10, inN 20, inN (-1), inN 150, inN 20, inN 30, inN (-1), inN 180, inN 20, inN 40, inN 10, inN 175, inN 10, inN 20, inN 0] 59 (0, 0))], 519, .tuple #[inN 263, .bool true], [], 531⟩
theorem m103_519_ok : isMemo m103_519 (m103_519.drun Try.prog goFns insOrc 100000) = true := by decide +kernel
def m103_538 : Memo :=
 ⟨103, #[.agg #[.slice (some ⟨421, 0, none⟩) 4 4, .slice (some ⟨422, 0, none⟩) 2 3, inN 2, inN 100, inN 200, inN 200, inN 300, inN 500, inN 1000, inN 20, inN 50], .agg #[inN 2, inN 263], inN 20, inN (-1)], [(421, .cells #[inN 100, inN 10, inN 20, inN (-1), inN 150, inN 20, inN 30, inN (-1), inN 180, inN 20, inN 40, inN 10, inN 175, inN 10, inN 20, inN 0] 59 (0, 0))], 538, .tuple #[inN 243, .bool true], [], 550⟩
theorem m103_538_ok : isMemo m103_538 (m103_538.drun Try.prog goFns insOrc 100000) = true := by decide +kernel
def m103_557 : Memo :=
 ⟨103, #[.agg #[.slice (some ⟨421, 0, none⟩) 4 4, .slice (some ⟨422, 0, none⟩) 2 3, inN 2, inN 100, inN 200, inN 200, inN 300, inN 500, inN 1000, inN 20, inN 50], .agg #[inN 3, inN 243], inN 10, inN (-1)], [(421, .cells #[inN 100, inN 10, inN 20, inN (-1), inN 150, inN 20, inN 30, inN (-1), inN 180, inN 20, inN 40, inN 10, inN 175, inN 10, inN 20, inN 0] 59 (0, 0))], 557, .tuple #[inN 233, .bool true], [], 569⟩
theorem m103_557_ok : isMemo m103_557 (m103_557.drun Try.prog goFns insOrc 100000) = true := by decide +kernel
def m103_594 : Memo :=
 ⟨103, #[.agg #[.slice (some ⟨421, 0, none⟩) 4 4, .slice (some ⟨422, 0, none⟩) 2 3, inN 2, inN 100, inN 200, inN 200, inN 300, inN 500, inN 1000, inN 20, inN 50], .agg #[inN 3, inN 243], inN 10, inN 0], [(421, .cells #[inN 100, inN 10, inN 20, inN (-1), inN 150, inN 20, inN 30, inN (-1), inN 180, inN 20, inN 40, inN 10, inN 175, inN 10, inN 20, inN 0] 59 (0, 0)), (422, .cells #[inN 60, inN 0, inN 50, inN 0, inN 25, inN 20] 85 (0, 0))], 594, .tuple #[inN 0, .bool false], [], 606⟩
theorem m103_594_ok : isMemo m103_594 (m103_594.drun Try.prog goFns insOrc 100000) = true := by decide +kernel
def m103_633 : Memo :=
 ⟨103, #[.agg #[.slice (some ⟨421, 0, none⟩) 4 4, .slice (some ⟨422, 0, none⟩) 2 3, inN 2, inN 100, inN 200, inN 200, inN 300, inN 500, inN 1000, inN 20, inN 50], .agg #[inN 3, inN 243], inN 10, inN 1], [(421, .cells #[inN 100, inN 10, inN 20, inN (-1), inN 150, inN 20, inN 30, inN (-1), inN 180, inN 20, inN 40, inN 10, inN 175, inN 10, inN 20, inN 0] 59 (0, 0)), (422, .cells #[inN 60, inN 0, inN 50, inN 0, inN 25, inN 20] 85 (0, 0))], 633, .tuple #[inN 208, .bool true], [], 645⟩
theorem m103_633_ok : isMemo m103_633 (m103_633.drun Try.prog goFns insOrc 100000) = true := by decide +kernel
def m108_666 : Memo :=
 ⟨108, #[.slice (some ⟨665, 0, none⟩) 3 1], [(651, .cells #[.slice (some ⟨662, 0, none⟩) 1 1, inN 20] 108 (0, 0)), (626, .cells #[.slice (some ⟨623, 0, none⟩) 1 1, inN 50, .slice (some ⟨623, 0, none⟩) 1 1, inN 50] 108 (0, 0)), (575, .cells #[.slice (some ⟨586, 0, none⟩) 1 1, inN 0] 108 (0, 0)), (665, .cells #[.slice (some ⟨575, 0, none⟩) 1 2, .slice (some ⟨626, 0, none⟩) 2 2, .slice (some ⟨651, 0, none⟩) 1 2] 130 (0, 0))], 666, .slice (some ⟨707, 0, none⟩) 2 2, [(707, .cells #[.slice (some ⟨586, 0, none⟩) 1 1, inN 0, .slice (some ⟨623, 0, none⟩) 1 1, inN 50] 108 (0, 0))], 717⟩
theorem m108_666_ok : isMemo m108_666 (m108_666.run Try.prog goFns insOrc 100000) = true := by decide +kernel
def m103_752 : Memo :=
 ⟨103, #[.agg #[.slice (some ⟨421, 0, none⟩) 4 4, .slice (some ⟨422, 0, none⟩) 2 3, inN 2, inN 100, inN 200, inN 200, inN 300, inN 500, inN 1000, inN 20, inN 50], .agg #[inN 2, inN 263], inN 20, inN 0], [(421, .cells #[inN 100, inN 10, inN 20, inN (-1), inN 150, inN 20, inN 30, inN (-1), inN 180, inN 20, inN 40, inN 10, inN 175, inN 10, inN 20, inN 0] 59 (0, 0)), (422, .cells #[inN 60, inN 0, inN 50, inN 0, inN 25, inN 20] 85 (0, 0))], 752, .tuple #[inN 243, .bool true], [], 764⟩
theorem m103_752_ok : isMemo m103_752 (m103_752.drun Try.prog goFns insOrc 100000) = true := by decide +kernel
def m103_802 : Memo :=
 ⟨103, #[.agg #[.slice (some ⟨421, 0, none⟩) 4 4, .slice (some ⟨422, 0, none⟩) 2 3, inN 2, inN 100, inN 200, inN 200, inN 300, inN 500, inN 1000, inN 20, inN 50], .agg #[inN 2, inN 263], inN 20, inN 1], [(421, .cells #[inN 100, inN 10, inN 20, inN (-1), inN 150, inN 20, inN 30, inN (-1), inN 180, inN 20, inN 40, inN 10, inN 175, inN 10, inN 20, inN 0] 59 (0, 0)), (422, .cells #[inN 60, inN 0, inN 50, inN 0, inN 25, inN 20] 85 (0, 0))], 802, .tuple #[inN 218, .bool true], [], 814⟩
theorem m103_802_ok : isMemo m103_802 (m103_802.drun Try.prog goFns insOrc 100000) = true := by decide +kernel
def m103_821 : Memo :=
 ⟨103, #[.agg #[.slice (some ⟨421, 0, none⟩) 4 4, .slice (some ⟨422, 0, none⟩) 2 3, inN 2, inN 100, inN 200, inN 200, inN 300, inN 500, inN 1000, inN 20, inN 50], .agg #[inN 3, inN 218], inN 10, inN (-1)], [(421, .cells #[inN 100, inN 10, inN 20, inN (-1), inN 150, inN 20, inN 30, inN (-1), inN 180, inN 20, inN 40, inN 10, inN 175, inN 10, inN 20, inN 0] 59 (0, 0))], 821, .tuple #[inN 208, .bool true], [], 833⟩
theorem m103_821_ok : isMemo m103_821 (m103_821.drun Try.prog goFns insOrc 100000) = true := by decide +kernel
def m103_858 : Memo :=
 ⟨103, #[.agg #[.slice (some ⟨421, 0, none⟩) 4 4, .slice (some ⟨422, 0, none⟩) 2 3, inN 2, inN 100, inN 200, inN 200, inN 300, inN 500, inN 1000, inN 20, inN 50], .agg #[inN 3, inN 218], inN 10, inN 0], [(421, .cells #[inN 100, inN 10, inN 20, inN (-1), inN 150, inN 20, inN 30, inN (-1), inN 180, inN 20, inN 40, inN 10, inN 175, inN 10, inN 20, inN 0] 59 (0, 0)), (422, .cells #[inN 60, inN 0, inN 50, inN 0, inN 25, inN 20] 85 (0, 0))], 858, .tuple #[inN 0, .bool false], [], 870⟩
theorem m103_858_ok : isMemo m103_858 (m103_858.drun Try.prog goFns insOrc 100000) = true := by decide +kernel
def m103_897 : Memo :=
 ⟨103, #[.agg #[.slice (some ⟨421, 0, none⟩) 4 4, .slice (some ⟨422, 0, none⟩) 2 3, inN 2, inN 100, inN 200, inN 200, inN 300, inN 500, inN 1000, inN 20, inN 50], .agg #[inN 3, inN 218], inN 10, inN 1], [(421, .cells #[inN 100, inN 10, inN 20, inN (-1), inN 150, inN 20, inN 30, inN (-1), inN 180, inN 20, inN 40, inN 10, inN 175, inN 10, inN 20, inN 0] 59 (0, 0)), (422, .cells #[inN 60, inN 0, inN 50, inN 0, inN 25, inN 20] 85 (0, 0))], 897, .tuple #[inN 183, .bool true], [], 909⟩
theorem m103_897_ok : isMemo m103_897 (m103_897.drun Try.prog goFns insOrc 100000) = true := by decide +kernel
def m108_930 : Memo :=
 ⟨108, #[.slice (some ⟨929, 0, none⟩) 3 1], [(915, .cells #[.slice (some ⟨926, 0, none⟩) 1 1, inN 20] 108 (0, 0)), (890, .cells #[.slice (some ⟨887, 0, none⟩) 1 1, inN 50, .slice (some ⟨887, 0, none⟩) 1 1, inN 50] 108 (0, 0)), (839, .cells #[.slice (some ⟨850, 0, none⟩) 1 1, inN 0] 108 (0, 0)), (929, .cells #[.slice (some ⟨839, 0, none⟩) 1 2, .slice (some ⟨890, 0, none⟩) 2 2, .slice (some ⟨915, 0, none⟩) 1 2] 130 (0, 0))], 930, .slice (some ⟨971, 0, none⟩) 2 2, [(971, .cells #[.slice (some ⟨850, 0, none⟩) 1 1, inN 0, .slice (some ⟨887, 0, none⟩) 1 1, inN 50] 108 (0, 0))], 981⟩
theorem m108_930_ok : isMemo m108_930 (m108_930.run Try.prog goFns insOrc 100000) = true := by decide +kernel
def m108_1012 : Memo :=
 ⟨108, #[.slice (some ⟨1011, 0, none⟩) 3 1], [(983, .cells #[.slice (some ⟨995, 0, none⟩) 2 1, inN 20, .slice (some ⟨1008, 0, none⟩) 2 1, inN 70] 108 (0, 0)), (769, .cells #[.slice (some ⟨781, 0, none⟩) 2 1, inN 50, .slice (some ⟨794, 0, none⟩) 2 1, inN 100] 108 (0, 0)), (719, .cells #[.slice (some ⟨731, 0, none⟩) 2 1, inN 0, .slice (some ⟨744, 0, none⟩) 2 1, inN 50] 108 (0, 0)), (1011, .cells #[.slice (some ⟨719, 0, none⟩) 2 2, .slice (some ⟨769, 0, none⟩) 2 2, .slice (some ⟨983, 0, none⟩) 2 2] 130 (0, 0))], 1012, .slice (some ⟨1065, 0, none⟩) 2 2, [(1065, .cells #[.slice (some ⟨731, 0, none⟩) 2 1, inN 0, .slice (some ⟨744, 0, none⟩) 2 1, inN 50] 108 (0, 0))], 1075⟩
theorem m108_1012_ok : isMemo m108_1012 (m108_1012.run Try.prog goFns insOrc 100000) = true := by decide +kernel
def m103_1110 : Memo :=
 ⟨103, #[.agg #[.slice (some ⟨421, 0, none⟩) 4 4, .slice (some ⟨422, 0, none⟩) 2 3, inN 2, inN 100, inN 200, inN 200, inN 300, inN 500, inN 1000, inN 20, inN 50], .agg #[inN 1, inN 283], inN 20, inN 0], [(421, .cells #[inN 100, inN 10, inN 20, inN (-1), inN 150, inN 20, inN 30, inN (-1), inN 180, inN 20, inN 40, inN 10, inN 175, inN 10, inN 20, inN 0] 59 (0, 0)), (422, .cells #[inN 60, inN 0, inN 50, inN 0, inN 25, inN 20] 85 (0, 0))], 1110, .tuple #[inN 263, .bool true], [], 1122⟩
theorem m103_1110_ok : isMemo m103_1110 (m103_1110.drun Try.prog goFns insOrc 100000) = true := by decide +kernel
def m103_1160 : Memo :=
 ⟨103, #[.agg #[.slice (some ⟨421, 0, none⟩) 4 4, .slice (some ⟨422, 0, none⟩) 2 3, inN 2, inN 100, inN 200, inN 200, inN 300, inN 500, inN 1000, inN 20, inN 50], .agg #[inN 1, inN 283], inN 20, inN 1], [(421, .cells #[inN 100, inN 10, inN 20, inN (-1), inN 150, inN 20, inN 30, inN (-1), inN 180, inN 20, inN 40, inN 10, inN 175, inN 10, inN 20, inN 0] 59 (0, 0)), (422, .cells #[inN 60, inN 0, inN 50, inN 0, inN 25, inN 20] 85 (0, 0))], 1160, .tuple #[inN 238, .bool true], [], 1172⟩
theorem m103_1160_ok : isMemo m103_1160 (m103_1160.drun Try.prog goFns insOrc 100000) = true := by decide +kernel
end Go.Proofs.Ytiigkdhaofaijaa

namespace Go.Proofs.Ytiigkdhaofaijaa
open Go Go.CE Go.RowKit
noncomputable def orc_m29_119 : Orc := orElse insOrc (memoOrc [m103_201, m103_264, m103_276, m103_288, m103_300])
theorem orc_m29_119_ok (B : Lo) : OrcS Try.prog B orc_m29_119 := orElse_ok (insOrc_ok _) (orcS_consD goFns_ok mixed_ok (insOrc_ok _) m103_201_ok (orcS_consD goFns_ok mixed_ok (insOrc_ok _) m103_264_ok (orcS_consD goFns_ok mixed_ok (insOrc_ok _) m103_276_ok (orcS_consD goFns_ok mixed_ok (insOrc_ok _) m103_288_ok (orcS_consD goFns_ok mixed_ok (insOrc_ok _) m103_300_ok (orcS_nil _ _))))))
def m29_119 : Memo :=
 ⟨29, #[.agg #[.slice (some ⟨115, 0, none⟩) 4 4, .slice (some ⟨116, 0, none⟩) 2 3, inN 2, inN 100, inN 200], .agg #[inN 200, inN 300, inN 500, inN 1000, inN 20, inN 50], .slice (some ⟨118, 0, none⟩) 4 1], [(115, .cells #[inN 100, inN 10, inN 20, inN (-1), inN 150, inN 20, inN 30, inN (-1), inN 180, inN 20, inN 40, inN 10, inN 175, inN 10, inN 20, inN 0] 59 (0, 0)), (116, .cells #[inN 60, inN 0, inN 50, inN 0, inN 25, inN 20] 85 (0, 0)), (118, .cells #[inN (-1), inN (-1), inN (-1), inN (-1)] 3 (0, 0))], 119, .tuple #[.slice (some ⟨155, 0, none⟩) 4 2, inN 0], [(155, .cells #[inN 0, inN 183, inN 0, inN 113, inN 0, inN 63, inN 0, inN 58] 25 (0, 0))], 320⟩
theorem m29_119_ok : isMemo m29_119 (m29_119.run Try.prog goFns orc_m29_119 100000) = true := by decide +kernel
end Go.Proofs.Ytiigkdhaofaijaa

namespace Go.Proofs.Ytiigkdhaofaijaa
open Go Go.CE Go.RowKit
noncomputable def orc_m24_326 : Orc := orElse insOrc (memoOrc [m103_396, m103_408])
theorem orc_m24_326_ok (B : Lo) : OrcS Try.prog B orc_m24_326 := orElse_ok (insOrc_ok _) (orcS_consD goFns_ok mixed_ok (insOrc_ok _) m103_396_ok (orcS_consD goFns_ok mixed_ok (insOrc_ok _) m103_408_ok (orcS_nil _ _)))
def m24_326 : Memo :=
 ⟨24, #[.agg #[.slice (some ⟨321, 0, none⟩) 4 4, .slice (some ⟨322, 0, none⟩) 2 3, inN 2, inN 100, inN 200], .agg #[inN 200, inN 300, inN 500, inN 1000, inN 20, inN 50], .slice (some ⟨324, 0, none⟩) 4 1, .agg #[inN 250, inN 800, inN 40, inN 150, .slice (some ⟨325, 0, none⟩) 4 1]], [(325, .cells #[inN 15, inN 25, inN 30, inN 15] 3 (0, 0)), (321, .cells #[inN 100, inN 10, inN 20, inN (-1), inN 150, inN 20, inN 30, inN (-1), inN 180, inN 20, inN 40, inN 10, inN 175, inN 10, inN 20, inN 0] 59 (0, 0)), (322, .cells #[inN 60, inN 0, inN 50, inN 0, inN 25, inN 20] 85 (0, 0)), (324, .cells #[inN (-1), inN (-1), inN (-1), inN (-1)] 3 (0, 0))], 326, .tuple #[.slice (some ⟨386, 0, none⟩) 4 1, inN 0], [(386, .cells #[inN 70, inN 0, inN 0, inN 0] 3 (0, 0))], 420⟩
theorem m24_326_ok : isMemo m24_326 (m24_326.run Try.prog goFns orc_m24_326 100000) = true := by decide +kernel
end Go.Proofs.Ytiigkdhaofaijaa

namespace Go.Proofs.Ytiigkdhaofaijaa
open Go Go.CE Go.RowKit
def m103_1179 : Memo :=
 ⟨103, #[.agg #[.slice (some ⟨421, 0, none⟩) 4 4, .slice (some ⟨422, 0, none⟩) 2 3, inN 2, inN 100, inN 200, inN 200, inN 300, inN 500, inN 1000, inN 20, inN 50], .agg #[inN 2, inN 238], inN 20, inN (-1)], [(421, .cells #[inN 100, inN 10, inN 20, inN (-1), inN 150, inN 20, inN 30, inN (-1), inN 180, inN 20, inN 40, inN 10, inN 175, inN 10, inN 20, inN 0] 59 (0, 0))], 1179, .tuple #[inN 218, .bool true], [], 1191⟩
theorem m103_1179_ok : isMemo m103_1179 (m103_1179.drun Try.prog goFns insOrc 100000) = true := by decide +kernel
def m103_1229 : Memo :=
 ⟨103, #[.agg #[.slice (some ⟨421, 0, none⟩) 4 4, .slice (some ⟨422, 0, none⟩) 2 3, inN 2, inN 100, inN 200, inN 200, inN 300, inN 500, inN 1000, inN 20, inN 50], .agg #[inN 2, inN 238], inN 20, inN 0], [(421, .cells #[inN 100, inN 10, inN 20, inN (-1), inN 150, inN 20, inN 30, inN (-1), inN 180, inN 20, inN 40, inN 10, inN 175, inN 10, inN 20, inN 0] 59 (0, 0)), (422, .cells #[inN 60, inN 0, inN 50, inN 0, inN 25, inN 20] 85 (0, 0))], 1229, .tuple #[inN 0, .bool false], [], 1241⟩
theorem m103_1229_ok : isMemo m103_1229 (m103_1229.drun Try.prog goFns insOrc 100000) = true := by decide +kernel
def m103_1248 : Memo :=
 ⟨103, #[.agg #[.slice (some ⟨421, 0, none⟩) 4 4, .slice (some ⟨422, 0, none⟩) 2 3, inN 2, inN 100, inN 200, inN 200, inN 300, inN 500, inN 1000, inN 20, inN 50], .agg #[inN 3, inN (-5000)], inN 10, inN (-1)], [(421, .cells #[inN 100, inN 10, inN 20, inN (-1), inN 150, inN 20, inN 30, inN (-1), inN 180, inN 20, inN 40, inN 10, inN 175, inN 10, inN 20, inN 0] 59 (0, 0))], 1248, .tuple #[inN 0, .bool false], [], 1260⟩
theorem m103_1248_ok : isMemo m103_1248 (m103_1248.drun Try.prog goFns insOrc 100000) = true := by decide +kernel
def m103_1287 : Memo :=
 ⟨103, #[.agg #[.slice (some ⟨421, 0, none⟩) 4 4, .slice (some ⟨422, 0, none⟩) 2 3, inN 2, inN 100, inN 200, inN 200, inN 300, inN 500, inN 1000, inN 20, inN 50], .agg #[inN 3, inN (-5000)], inN 10, inN 0], [(421, .cells #[inN 100, inN 10, inN 20, inN (-1), inN 150, inN 20, inN 30, inN (-1), inN 180, inN 20, inN 40, inN 10, inN 175, inN 10, inN 20, inN 0] 59 (0, 0)), (422, .cells #[inN 60, inN 0, inN 50, inN 0, inN 25, inN 20] 85 (0, 0))], 1287, .tuple #[inN 0, .bool false], [], 1299⟩
theorem m103_1287_ok : isMemo m103_1287 (m103_1287.drun Try.prog goFns insOrc 100000) = true := by decide +kernel
def m103_1326 : Memo :=
 ⟨103, #[.agg #[.slice (some ⟨421, 0, none⟩) 4 4, .slice (some ⟨422, 0, none⟩) 2 3, inN 2, inN 100, inN 200, inN 200, inN 300, inN 500, inN 1000, inN 20, inN 50], .agg #[inN 3, inN (-5000)], inN 10, inN 1], [(421, .cells #[inN 100, inN 10, inN 20, inN (-1), inN 150, inN 20, inN 30, inN (-1), inN 180, inN 20, inN 40, inN 10, inN 175, inN 10, inN 20, inN 0] 59 (0, 0)), (422, .cells #[inN 60, inN 0, inN 50, inN 0, inN 25, inN 20] 85 (0, 0))], 1326, .tuple #[inN 0, .bool false], [], 1338⟩
theorem m103_1326_ok : isMemo m103_1326 (m103_1326.drun Try.prog goFns insOrc 100000) = true := by decide +kernel
def m108_1361 : Memo :=
 ⟨108, #[.slice (some ⟨1360, 0, none⟩) 3 1], [(1358, .cells #[.slice (some ⟨1355, 0, none⟩) 1 1, inN 20, .slice (some ⟨1355, 0, none⟩) 1 1, inN 20] 108 (0, 0)), (1319, .cells #[.slice (some ⟨1316, 0, none⟩) 1 1, inN 50, .slice (some ⟨1316, 0, none⟩) 1 1, inN 50] 108 (0, 0)), (1280, .cells #[.slice (some ⟨1277, 0, none⟩) 1 1, inN 0, .slice (some ⟨1277, 0, none⟩) 1 1, inN 0] 108 (0, 0)), (1360, .cells #[.slice (some ⟨1280, 0, none⟩) 2 2, .slice (some ⟨1319, 0, none⟩) 2 2, .slice (some ⟨1358, 0, none⟩) 2 2] 130 (0, 0))], 1361, .slice (some ⟨1414, 0, none⟩) 2 2, [(1414, .cells #[.slice (some ⟨1277, 0, none⟩) 1 1, inN 0, .slice (some ⟨1277, 0, none⟩) 1 1, inN 0] 108 (0, 0))], 1424⟩
theorem m108_1361_ok : isMemo m108_1361 (m108_1361.run Try.prog goFns insOrc 100000) = true := by decide +kernel
def m103_1461 : Memo :=
 ⟨103, #[.agg #[.slice (some ⟨421, 0, none⟩) 4 4, .slice (some ⟨422, 0, none⟩) 2 3, inN 2, inN 100, inN 200, inN 200, inN 300, inN 500, inN 1000, inN 20, inN 50], .agg #[inN 2, inN 238], inN 20, inN 1], [(421, .cells #[inN 100, inN 10, inN 20, inN (-1), inN 150, inN 20, inN 30, inN (-1), inN 180, inN 20, inN 40, inN 10, inN 175, inN 10, inN 20, inN 0] 59 (0, 0)), (422, .cells #[inN 60, inN 0, inN 50, inN 0, inN 25, inN 20] 85 (0, 0))], 1461, .tuple #[inN 193, .bool true], [], 1473⟩
theorem m103_1461_ok : isMemo m103_1461 (m103_1461.drun Try.prog goFns insOrc 100000) = true := by decide +kernel
def m103_1480 : Memo :=
 ⟨103, #[.agg #[.slice (some ⟨421, 0, none⟩) 4 4, .slice (some ⟨422, 0, none⟩) 2 3, inN 2, inN 100, inN 200, inN 200, inN 300, inN 500, inN 1000, inN 20, inN 50], .agg #[inN 3, inN 193], inN 10, inN (-1)], [(421, .cells #[inN 100, inN 10, inN 20, inN (-1), inN 150, inN 20, inN 30, inN (-1), inN 180, inN 20, inN 40, inN 10, inN 175, inN 10, inN 20, inN 0] 59 (0, 0))], 1480, .tuple #[inN 183, .bool true], [], 1492⟩
theorem m103_1480_ok : isMemo m103_1480 (m103_1480.drun Try.prog goFns insOrc 100000) = true := by decide +kernel
def m103_1517 : Memo :=
 ⟨103, #[.agg #[.slice (some ⟨421, 0, none⟩) 4 4, .slice (some ⟨422, 0, none⟩) 2 3, inN 2, inN 100, inN 200, inN 200, inN 300, inN 500, inN 1000, inN 20, inN 50], .agg #[inN 3, inN 193], inN 10, inN 0], [(421, .cells #[inN 100, inN 10, inN 20, inN (-1), inN 150, inN 20, inN 30, inN (-1), inN 180, inN 20, inN 40, inN 10, inN 175, inN 10, inN 20, inN 0] 59 (0, 0)), (422, .cells #[inN 60, inN 0, inN 50, inN 0, inN 25, inN 20] 85 (0, 0))], 1517, .tuple #[inN 0, .bool false], [], 1529⟩
theorem m103_1517_ok : isMemo m103_1517 (m103_1517.drun Try.prog goFns insOrc 100000) = true := by decide +kernel
def m103_1556 : Memo :=
 ⟨103, #[.agg #[.slice (some ⟨421, 0, none⟩) 4 4, .slice (some ⟨422, 0, none⟩) 2 3, inN 2, inN 100, inN 200, inN 200, inN 300, inN 500, inN 1000, inN 20, inN 50], .agg #[inN 3, inN 193], inN 10, inN 1], [(421, .cells #[inN 100, inN 10, inN 20, inN (-1), inN 150, inN 20, inN 30, inN (-1), inN 180, inN 20, inN 40, inN 10, inN 175, inN 10, inN 20, inN 0] 59 (0, 0)), (422, .cells #[inN 60, inN 0, inN 50, inN 0, inN 25, inN 20] 85 (0, 0))], 1556, .tuple #[inN 0, .bool false], [], 1568⟩
theorem m103_1556_ok : isMemo m103_1556 (m103_1556.drun Try.prog goFns insOrc 100000) = true := by decide +kernel
def m108_1591 : Memo :=
 ⟨108, #[.slice (some ⟨1590, 0, none⟩) 3 1], [(1588, .cells #[.slice (some ⟨1585, 0, none⟩) 1 1, inN 20, .slice (some ⟨1585, 0, none⟩) 1 1, inN 20] 108 (0, 0)), (1549, .cells #[.slice (some ⟨1546, 0, none⟩) 1 1, inN 50, .slice (some ⟨1546, 0, none⟩) 1 1, inN 50] 108 (0, 0)), (1498, .cells #[.slice (some ⟨1509, 0, none⟩) 1 1, inN 0] 108 (0, 0)), (1590, .cells #[.slice (some ⟨1498, 0, none⟩) 1 2, .slice (some ⟨1549, 0, none⟩) 2 2, .slice (some ⟨1588, 0, none⟩) 2 2] 130 (0, 0))], 1591, .slice (some ⟨1638, 0, none⟩) 2 2, [(1638, .cells #[.slice (some ⟨1509, 0, none⟩) 1 1, inN 0, .slice (some ⟨1585, 0, none⟩) 1 1, inN 20] 108 (0, 0))], 1648⟩
theorem m108_1591_ok : isMemo m108_1591 (m108_1591.run Try.prog goFns insOrc 100000) = true := by decide +kernel
def m108_1679 : Memo :=
 ⟨108, #[.slice (some ⟨1678, 0, none⟩) 3 1], [(1650, .cells #[.slice (some ⟨1662, 0, none⟩) 2 1, inN 20, .slice (some ⟨1675, 0, none⟩) 2 1, inN 40] 108 (0, 0)), (1454, .cells #[.slice (some ⟨1438, 0, none⟩) 2 1, inN 50, .slice (some ⟨1438, 0, none⟩) 2 1, inN 50, .slice (some ⟨1451, 0, none⟩) 2 1, inN 50] 108 (0, 0)), (1196, .cells #[.slice (some ⟨1208, 0, none⟩) 2 1, inN 0, .slice (some ⟨1221, 0, none⟩) 2 1, inN 50] 108 (0, 0)), (1678, .cells #[.slice (some ⟨1196, 0, none⟩) 2 2, .slice (some ⟨1454, 0, none⟩) 3 2, .slice (some ⟨1650, 0, none⟩) 2 2] 130 (0, 0))], 1679, .slice (some ⟨1747, 0, none⟩) 3 2, [(1747, .cells #[.slice (some ⟨1208, 0, none⟩) 2 1, inN 0, .slice (some ⟨1675, 0, none⟩) 2 1, inN 40, .slice (some ⟨1451, 0, none⟩) 2 1, inN 50] 108 (0, 0))], 1757⟩
theorem m108_1679_ok : isMemo m108_1679 (m108_1679.run Try.prog goFns insOrc 100000) = true := by decide +kernel
def m108_1801 : Memo :=
 ⟨108, #[.slice (some ⟨1800, 0, none⟩) 3 1], [(1759, .cells #[.slice (some ⟨1771, 0, none⟩) 3 1, inN 20, .slice (some ⟨1784, 0, none⟩) 3 1, inN 60, .slice (some ⟨1797, 0, none⟩) 3 1, inN 70] 108 (0, 0)), (1127, .cells #[.slice (some ⟨1139, 0, none⟩) 3 1, inN 50, .slice (some ⟨1152, 0, none⟩) 3 1, inN 100] 108 (0, 0)), (1077, .cells #[.slice (some ⟨1089, 0, none⟩) 3 1, inN 0, .slice (some ⟨1102, 0, none⟩) 3 1, inN 50] 108 (0, 0)), (1800, .cells #[.slice (some ⟨1077, 0, none⟩) 2 2, .slice (some ⟨1127, 0, none⟩) 2 2, .slice (some ⟨1759, 0, none⟩) 3 2] 130 (0, 0))], 1801, .slice (some ⟨1869, 0, none⟩) 3 2, [(1869, .cells #[.slice (some ⟨1089, 0, none⟩) 3 1, inN 0, .slice (some ⟨1102, 0, none⟩) 3 1, inN 50, .slice (some ⟨1797, 0, none⟩) 3 1, inN 70] 108 (0, 0))], 1879⟩
theorem m108_1801_ok : isMemo m108_1801 (m108_1801.run Try.prog goFns insOrc 100000) = true := by decide +kernel
def m103_1927 : Memo :=
 ⟨103, #[.agg #[.slice (some ⟨421, 0, none⟩) 4 4, .slice (some ⟨422, 0, none⟩) 2 3, inN 2, inN 100, inN 200, inN 200, inN 300, inN 500, inN 1000, inN 20, inN 50], .agg #[inN 0, inN 293], inN 10, inN 0], [(421, .cells #[inN 100, inN 10, inN 20, inN (-1), inN 150, inN 20, inN 30, inN (-1), inN 180, inN 20, inN 40, inN 10, inN 175, inN 10, inN 20, inN 0] 59 (0, 0)), (422, .cells #[inN 60, inN 0, inN 50, inN 0, inN 25, inN 20] 85 (0, 0))], 1927, .tuple #[inN 283, .bool true], [], 1939⟩
theorem m103_1927_ok : isMemo m103_1927 (m103_1927.drun Try.prog goFns insOrc 100000) = true := by decide +kernel
def m103_1990 : Memo :=
 ⟨103, #[.agg #[.slice (some ⟨421, 0, none⟩) 4 4, .slice (some ⟨422, 0, none⟩) 2 3, inN 2, inN 100, inN 200, inN 200, inN 300, inN 500, inN 1000, inN 20, inN 50], .agg #[inN 0, inN 293], inN 10, inN 1], [(421, .cells #[inN 100, inN 10, inN 20, inN (-1), inN 150, inN 20, inN 30, inN (-1), inN 180, inN 20, inN 40, inN 10, inN 175, inN 10, inN 20, inN 0] 59 (0, 0)), (422, .cells #[inN 60, inN 0, inN 50, inN 0, inN 25, inN 20] 85 (0, 0))], 1990, .tuple #[inN 258, .bool true], [], 2002⟩
theorem m103_1990_ok : isMemo m103_1990 (m103_1990.drun Try.prog goFns insOrc 100000) = true := by decide +kernel
def m103_2009 : Memo :=
 ⟨103, #[.agg #[.slice (some ⟨421, 0, none⟩) 4 4, .slice (some ⟨422, 0, none⟩) 2 3, inN 2, inN 100, inN 200, inN 200, inN 300, inN 500, inN 1000, inN 20, inN 50], .agg #[inN 1, inN 258], inN 20, inN (-1)], [(421, .cells #[inN 100, inN 10, inN 20, inN (-1), inN 150, inN 20, inN 30, inN (-1), inN 180, inN 20, inN 40, inN 10, inN 175, inN 10, inN 20, inN 0] 59 (0, 0))], 2009, .tuple #[inN 238, .bool true], [], 2021⟩
theorem m103_2009_ok : isMemo m103_2009 (m103_2009.drun Try.prog goFns insOrc 100000) = true := by decide +kernel
def m103_2072 : Memo :=
 ⟨103, #[.agg #[.slice (some ⟨421, 0, none⟩) 4 4, .slice (some ⟨422, 0, none⟩) 2 3, inN 2, inN 100, inN 200, inN 200, inN 300, inN 500, inN 1000, inN 20, inN 50], .agg #[inN 1, inN 258], inN 20, inN 0], [(421, .cells #[inN 100, inN 10, inN 20, inN (-1), inN 150, inN 20, inN 30, inN (-1), inN 180, inN 20, inN 40, inN 10, inN 175, inN 10, inN 20, inN 0] 59 (0, 0)), (422, .cells #[inN 60, inN 0, inN 50, inN 0, inN 25, inN 20] 85 (0, 0))], 2072, .tuple #[inN 238, .bool true], [], 2084⟩
theorem m103_2072_ok : isMemo m103_2072 (m103_2072.drun Try.prog goFns insOrc 100000) = true := by decide +kernel
def m103_2135 : Memo :=
 ⟨103, #[.agg #[.slice (some ⟨421, 0, none⟩) 4 4, .slice (some ⟨422, 0, none⟩) 2 3, inN 2, inN 100, inN 200, inN 200, inN 300, inN 500, inN 1000, inN 20, inN 50], .agg #[inN 1, inN 258], inN 20, inN 1], [(421, .cells #[inN 100, inN 10, inN 20, inN (-1), inN 150, inN 20, inN 30, inN (-1), inN 180, inN 20, inN 40, inN 10, inN 175, inN 10, inN 20, inN 0] 59 (0, 0)), (422, .cells #[inN 60, inN 0, inN 50, inN 0, inN 25, inN 20] 85 (0, 0))], 2135, .tuple #[inN 213, .bool true], [], 2147⟩
theorem m103_2135_ok : isMemo m103_2135 (m103_2135.drun Try.prog goFns insOrc 100000) = true := by decide +kernel
def m103_2154 : Memo :=
 ⟨103, #[.agg #[.slice (some ⟨421, 0, none⟩) 4 4, .slice (some ⟨422, 0, none⟩) 2 3, inN 2, inN 100, inN 200, inN 200, inN 300, inN 500, inN 1000, inN 20, inN 50], .agg #[inN 2, inN 213], inN 20, inN (-1)], [(421, .cells #[inN 100, inN 10, inN 20, inN (-1), inN 150, inN 20, inN 30, inN (-1), inN 180, inN 20, inN 40, inN 10, inN 175, inN 10, inN 20, inN 0] 59 (0, 0))], 2154, .tuple #[inN 193, .bool true], [], 2166⟩
theorem m103_2154_ok : isMemo m103_2154 (m103_2154.drun Try.prog goFns insOrc 100000) = true := by decide +kernel
def m103_2204 : Memo :=
 ⟨103, #[.agg #[.slice (some ⟨421, 0, none⟩) 4 4, .slice (some ⟨422, 0, none⟩) 2 3, inN 2, inN 100, inN 200, inN 200, inN 300, inN 500, inN 1000, inN 20, inN 50], .agg #[inN 2, inN 213], inN 20, inN 0], [(421, .cells #[inN 100, inN 10, inN 20, inN (-1), inN 150, inN 20, inN 30, inN (-1), inN 180, inN 20, inN 40, inN 10, inN 175, inN 10, inN 20, inN 0] 59 (0, 0)), (422, .cells #[inN 60, inN 0, inN 50, inN 0, inN 25, inN 20] 85 (0, 0))], 2204, .tuple #[inN 0, .bool false], [], 2216⟩
theorem m103_2204_ok : isMemo m103_2204 (m103_2204.drun Try.prog goFns insOrc 100000) = true := by decide +kernel
def m103_2256 : Memo :=
 ⟨103, #[.agg #[.slice (some ⟨421, 0, none⟩) 4 4, .slice (some ⟨422, 0, none⟩) 2 3, inN 2, inN 100, inN 200, inN 200, inN 300, inN 500, inN 1000, inN 20, inN 50], .agg #[inN 2, inN 213], inN 20, inN 1], [(421, .cells #[inN 100, inN 10, inN 20, inN (-1), inN 150, inN 20, inN 30, inN (-1), inN 180, inN 20, inN 40, inN 10, inN 175, inN 10, inN 20, inN 0] 59 (0, 0)), (422, .cells #[inN 60, inN 0, inN 50, inN 0, inN 25, inN 20] 85 (0, 0))], 2256, .tuple #[inN 0, .bool false], [], 2268⟩
theorem m103_2256_ok : isMemo m103_2256 (m103_2256.drun Try.prog goFns insOrc 100000) = true := by decide +kernel
def m108_2304 : Memo :=
 ⟨108, #[.slice (some ⟨2303, 0, none⟩) 3 1], [(2301, .cells #[.slice (some ⟨2285, 0, none⟩) 2 1, inN 20, .slice (some ⟨2285, 0, none⟩) 2 1, inN 20, .slice (some ⟨2298, 0, none⟩) 2 1, inN 20] 108 (0, 0)), (2249, .cells #[.slice (some ⟨2233, 0, none⟩) 2 1, inN 50, .slice (some ⟨2233, 0, none⟩) 2 1, inN 50, .slice (some ⟨2246, 0, none⟩) 2 1, inN 50] 108 (0, 0)), (2171, .cells #[.slice (some ⟨2183, 0, none⟩) 2 1, inN 0, .slice (some ⟨2196, 0, none⟩) 2 1, inN 20] 108 (0, 0)), (2303, .cells #[.slice (some ⟨2171, 0, none⟩) 2 2, .slice (some ⟨2249, 0, none⟩) 3 2, .slice (some ⟨2301, 0, none⟩) 3 2] 130 (0, 0))], 2304, .slice (some ⟨2378, 0, none⟩) 3 2, [(2378, .cells #[.slice (some ⟨2183, 0, none⟩) 2 1, inN 0, .slice (some ⟨2196, 0, none⟩) 2 1, inN 20, .slice (some ⟨2298, 0, none⟩) 2 1, inN 20] 108 (0, 0))], 2388⟩
theorem m108_2304_ok : isMemo m108_2304 (m108_2304.run Try.prog goFns insOrc 100000) = true := by decide +kernel
def m108_2432 : Memo :=
 ⟨108, #[.slice (some ⟨2431, 0, none⟩) 3 1], [(2390, .cells #[.slice (some ⟨2402, 0, none⟩) 3 1, inN 20, .slice (some ⟨2415, 0, none⟩) 3 1, inN 40, .slice (some ⟨2428, 0, none⟩) 3 1, inN 40] 108 (0, 0)), (2089, .cells #[.slice (some ⟨2101, 0, none⟩) 3 1, inN 50, .slice (some ⟨2114, 0, none⟩) 3 1, inN 90, .slice (some ⟨2127, 0, none⟩) 3 1, inN 100] 108 (0, 0)), (2026, .cells #[.slice (some ⟨2038, 0, none⟩) 3 1, inN 0, .slice (some ⟨2051, 0, none⟩) 3 1, inN 40, .slice (some ⟨2064, 0, none⟩) 3 1, inN 50] 108 (0, 0)), (2431, .cells #[.slice (some ⟨2026, 0, none⟩) 3 2, .slice (some ⟨2089, 0, none⟩) 3 2, .slice (some ⟨2390, 0, none⟩) 3 2] 130 (0, 0))], 2432, .slice (some ⟨2512, 0, none⟩) 3 2, [(2512, .cells #[.slice (some ⟨2038, 0, none⟩) 3 1, inN 0, .slice (some ⟨2051, 0, none⟩) 3 1, inN 40, .slice (some ⟨2428, 0, none⟩) 3 1, inN 40] 108 (0, 0))], 2522⟩
theorem m108_2432_ok : isMemo m108_2432 (m108_2432.run Try.prog goFns insOrc 100000) = true := by decide +kernel
def m108_2566 : Memo :=
 ⟨108, #[.slice (some ⟨2565, 0, none⟩) 3 1], [(2524, .cells #[.slice (some ⟨2536, 0, none⟩) 4 1, inN 20, .slice (some ⟨2549, 0, none⟩) 4 1, inN 60, .slice (some ⟨2562, 0, none⟩) 4 1, inN 60] 108 (0, 0)), (1944, .cells #[.slice (some ⟨1956, 0, none⟩) 4 1, inN 50, .slice (some ⟨1969, 0, none⟩) 4 1, inN 100, .slice (some ⟨1982, 0, none⟩) 4 1, inN 120] 108 (0, 0)), (1881, .cells #[.slice (some ⟨1893, 0, none⟩) 4 1, inN 0, .slice (some ⟨1906, 0, none⟩) 4 1, inN 50, .slice (some ⟨1919, 0, none⟩) 4 1, inN 70] 108 (0, 0)), (2565, .cells #[.slice (some ⟨1881, 0, none⟩) 3 2, .slice (some ⟨1944, 0, none⟩) 3 2, .slice (some ⟨2524, 0, none⟩) 3 2] 130 (0, 0))], 2566, .slice (some ⟨2646, 0, none⟩) 3 2, [(2646, .cells #[.slice (some ⟨1893, 0, none⟩) 4 1, inN 0, .slice (some ⟨1906, 0, none⟩) 4 1, inN 50, .slice (some ⟨2562, 0, none⟩) 4 1, inN 60] 108 (0, 0))], 2656⟩
theorem m108_2566_ok : isMemo m108_2566 (m108_2566.run Try.prog goFns insOrc 100000) = true := by decide +kernel
end Go.Proofs.Ytiigkdhaofaijaa

namespace Go.Proofs.Ytiigkdhaofaijaa
open Go Go.CE Go.RowKit
noncomputable def orc_m38_424 : Orc := orElse insOrc (memoOrc [m103_500, m103_519, m103_538, m103_557, m103_594, m103_633, m108_666, m103_752, m103_802, m103_821, m103_858, m103_897, m108_930, m108_1012, m103_1110, m103_1160, m103_1179, m103_1229, m103_1248, m103_1287, m103_1326, m108_1361, m103_1461, m103_1480, m103_1517, m103_1556, m108_1591, m108_1679, m108_1801, m103_1927, m103_1990, m103_2009, m103_2072, m103_2135, m103_2154, m103_2204, m103_2256, m108_2304, m108_2432, m108_2566])
theorem orc_m38_424_ok (B : Lo) : OrcS Try.prog B orc_m38_424 := orElse_ok (insOrc_ok _) (orcS_consD goFns_ok mixed_ok (insOrc_ok _) m103_500_ok (orcS_consD goFns_ok mixed_ok (insOrc_ok _) m103_519_ok (orcS_consD goFns_ok mixed_ok (insOrc_ok _) m103_538_ok (orcS_consD goFns_ok mixed_ok (insOrc_ok _) m103_557_ok (orcS_consD goFns_ok mixed_ok (insOrc_ok _) m103_594_ok (orcS_consD goFns_ok mixed_ok (insOrc_ok _) m103_633_ok (orcS_cons goFns_ok mixed_ok (insOrc_ok _) m108_666_ok (orcS_consD goFns_ok mixed_ok (insOrc_ok _) m103_752_ok (orcS_consD goFns_ok mixed_ok (insOrc_ok _) m103_802_ok (orcS_consD goFns_ok mixed_ok (insOrc_ok _) m103_821_ok (orcS_consD goFns_ok mixed_ok (insOrc_ok _) m103_858_ok (orcS_consD goFns_ok mixed_ok (insOrc_ok _) m103_897_ok (orcS_cons goFns_ok mixed_ok (insOrc_ok _) m108_930_ok (orcS_cons goFns_ok mixed_ok (insOrc_ok _) m108_1012_ok (orcS_consD goFns_ok mixed_ok (insOrc_ok _) m103_1110_ok (orcS_consD goFns_ok mixed_ok (insOrc_ok _) m103_1160_ok (orcS_consD goFns_ok mixed_ok (insOrc_ok _) m103_1179_ok (orcS_consD goFns_ok mixed_ok (insOrc_ok _) m103_1229_ok (orcS_consD goFns_ok mixed_ok (insOrc_ok _) m103_1248_ok (orcS_consD goFns_ok mixed_ok (insOrc_ok _) m103_1287_ok (orcS_consD goFns_ok mixed_ok (insOrc_ok _) m103_1326_ok (orcS_cons goFns_ok mixed_ok (insOrc_ok _) m108_1361_ok (orcS_consD goFns_ok mixed_ok (insOrc_ok _) m103_1461_ok (orcS_consD goFns_ok mixed_ok (insOrc_ok _) m103_1480_ok (orcS_consD goFns_ok mixed_ok (insOrc_ok _) m103_1517_ok (orcS_consD goFns_ok mixed_ok (insOrc_ok _) m103_1556_ok (orcS_cons goFns_ok mixed_ok (insOrc_ok _) m108_1591_ok (orcS_cons goFns_ok mixed_ok (insOrc_ok _) m108_1679_ok (orcS_cons goFns_ok mixed_ok (insOrc_ok _) m108_1801_ok (orcS_consD goFns_ok mixed_ok (insOrc_ok _) m103_1927_ok (orcS_consD goFns_ok mixed_ok (insOrc_ok _) m103_1990_ok (orcS_consD goFns_ok mixed_ok (insOrc_ok _) m103_2009_ok (orcS_consD goFns_ok mixed_ok (insOrc_ok _) m103_2072_ok (orcS_consD goFns_ok mixed_ok (insOrc_ok _) m103_2135_ok (orcS_consD goFns_ok mixed_ok (insOrc_ok _) m103_2154_ok (orcS_consD goFns_ok mixed_ok (insOrc_ok _) m103_2204_ok (orcS_consD goFns_ok mixed_ok (insOrc_ok _) m103_2256_ok (orcS_cons goFns_ok mixed_ok (insOrc_ok _) m108_2304_ok (orcS_cons goFns_ok mixed_ok (insOrc_ok _) m108_2432_ok (orcS_cons goFns_ok mixed_ok (insOrc_ok _) m108_2566_ok (orcS_nil _ _)))))))))))))))))))))))))))))))))))))))))
def m38_424 : Memo :=
 ⟨38, #[.agg #[.slice (some ⟨421, 0, none⟩) 4 4, .slice (some ⟨422, 0, none⟩) 2 3, inN 2, inN 100, inN 200], .agg #[inN 200, inN 300, inN 500, inN 1000, inN 20, inN 50]], [(422, .cells #[inN 60, inN 0, inN 50, inN 0, inN 25, inN 20] 85 (0, 0)), (421, .cells #[inN 100, inN 10, inN 20, inN (-1), inN 150, inN 20, inN 30, inN (-1), inN 180, inN 20, inN 40, inN 10, inN 175, inN 10, inN 20, inN 0] 59 (0, 0))], 424, .tuple #[.slice (some ⟨2562, 0, none⟩) 4 1, inN 60, inN 0], [(2562, .cells #[inN 1, inN 1, inN 1, inN (-1)] 3 (0, 0))], 2662⟩
theorem m38_424_ok : isMemo m38_424 (m38_424.run Try.prog goFns orc_m38_424 100000) = true := by decide +kernel
end Go.Proofs.Ytiigkdhaofaijaa

namespace Go.Proofs.Ytiigkdhaofaijaa
open Go Go.CE Go.RowKit
def m103_2743 : Memo :=
 ⟨103, #[.agg #[.slice (some ⟨2663, 0, none⟩) 4 4, .slice (some ⟨2664, 0, none⟩) 2 3, inN 2, inN 100, inN 200, inN 200, inN 300, inN 500, inN 1000, inN 20, inN 50], .agg #[inN 0, inN 293], inN 10, inN (-1)], [(2663, .cells #[inN 100, inN 10, inN 20, inN (-1), inN 150, inN 20, inN 30, inN (-1), inN 180, inN 20, inN 40, inN 10, inN 175, inN 10, inN 20, inN 0] 59 (0, 0))], 2743, .tuple #[inN 283, .bool true], [], 2755⟩
theorem m103_2743_ok : isMemo m103_2743 (m103_2743.drun Try.prog goFns insOrc 100000) = true := by decide +kernel
def m103_2762 : Memo :=
 ⟨103, #[.agg #[.slice (some ⟨2663, 0, none⟩) 4 4, .slice (some ⟨2664, 0, none⟩) 2 3, inN 2, inN 100, inN 200, inN 200, inN 300, inN 500, inN 1000, inN 20, inN 50], .agg #[inN 1, inN 283], inN 20, inN (-1)], [(2663, .cells #[inN 100, inN 10, inN 20, inN (-1), inN 150, inN 20, inN 30, inN (-1), inN 180, inN 20, inN 40, inN 10, inN 175, inN 10, inN 20, inN 0] 59 (0, 0))], 2762, .tuple #[inN 263, .bool true], [], 2774⟩
theorem m103_2762_ok : isMemo m103_2762 (m103_2762.drun Try.prog goFns insOrc 100000) = true := by decide +kernel
def m103_2781 : Memo :=
 ⟨103, #[.agg #[.slice (some ⟨2663, 0, none⟩) 4 4, .slice (some ⟨2664, 0, none⟩) 2 3, inN 2, inN 100, inN 200, inN 200, inN 300, inN 500, inN 1000, inN 20, inN 50], .agg #[inN 2, inN 263], inN 20, inN (-1)], [(2663, .cells #[inN 100, inN 10, inN 20, inN (-1), inN 150, inN 20, inN 30, inN (-1), inN 180, inN 20, inN 40, inN 10, inN 175, inN 10, inN 20, inN 0] 59 (0, 0))], 2781, .tuple #[inN 243, .bool true], [], 2793⟩
theorem m103_2781_ok : isMemo m103_2781 (m103_2781.drun Try.prog goFns insOrc 100000) = true := by decide +kernel
def m103_2800 : Memo :=
 ⟨103, #[.agg #[.slice (some ⟨2663, 0, none⟩) 4 4, .slice (some ⟨2664, 0, none⟩) 2 3, inN 2, inN 100, inN 200, inN 200, inN 300, inN 500, inN 1000, inN 20, inN 50], .agg #[inN 3, inN 243], inN 10, inN (-1)], [(2663, .cells #[inN 100, inN 10, inN 20, inN (-1), inN 150, inN 20, inN 30, inN (-1), inN 180, inN 20, inN 40, inN 10, inN 175, inN 10, inN 20, inN 0] 59 (0, 0))], 2800, .tuple #[inN 233, .bool true], [], 2812⟩
theorem m103_2800_ok : isMemo m103_2800 (m103_2800.drun Try.prog goFns insOrc 100000) = true := by decide +kernel
def m103_2837 : Memo :=
 ⟨103, #[.agg #[.slice (some ⟨2663, 0, none⟩) 4 4, .slice (some ⟨2664, 0, none⟩) 2 3, inN 2, inN 100, inN 200, inN 200, inN 300, inN 500, inN 1000, inN 20, inN 50], .agg #[inN 3, inN 243], inN 10, inN 0], [(2663, .cells #[inN 100, inN 10, inN 20, inN (-1), inN 150, inN 20, inN 30, inN (-1), inN 180, inN 20, inN 40, inN 10, inN 175, inN 10, inN 20, inN 0] 59 (0, 0)), (2664, .cells #[inN 60, inN 0, inN 50, inN 0, inN 25, inN 20] 85 (0, 0))], 2837, .tuple #[inN 0, .bool false], [], 2849⟩
theorem m103_2837_ok : isMemo m103_2837 (m103_2837.drun Try.prog goFns insOrc 100000) = true := by decide +kernel
def m103_2876 : Memo :=
 ⟨103, #[.agg #[.slice (some ⟨2663, 0, none⟩) 4 4, .slice (some ⟨2664, 0, none⟩) 2 3, inN 2, inN 100, inN 200, inN 200, inN 300, inN 500, inN 1000, inN 20, inN 50], .agg #[inN 3, inN 243], inN 10, inN 1], [(2663, .cells #[inN 100, inN 10, inN 20, inN (-1), inN 150, inN 20, inN 30, inN (-1), inN 180, inN 20, inN 40, inN 10, inN 175, inN 10, inN 20, inN 0] 59 (0, 0)), (2664, .cells #[inN 60, inN 0, inN 50, inN 0, inN 25, inN 20] 85 (0, 0))], 2876, .tuple #[inN 208, .bool true], [], 2888⟩
theorem m103_2876_ok : isMemo m103_2876 (m103_2876.drun Try.prog goFns insOrc 100000) = true := by decide +kernel
def m108_2909 : Memo :=
 ⟨108, #[.slice (some ⟨2908, 0, none⟩) 3 1], [(2894, .cells #[.slice (some ⟨2905, 0, none⟩) 1 1, inN 20] 108 (0, 0)), (2869, .cells #[.slice (some ⟨2866, 0, none⟩) 1 1, inN 50, .slice (some ⟨2866, 0, none⟩) 1 1, inN 50] 108 (0, 0)), (2818, .cells #[.slice (some ⟨2829, 0, none⟩) 1 1, inN 0] 108 (0, 0)), (2908, .cells #[.slice (some ⟨2818, 0, none⟩) 1 2, .slice (some ⟨2869, 0, none⟩) 2 2, .slice (some ⟨2894, 0, none⟩) 1 2] 130 (0, 0))], 2909, .slice (some ⟨2950, 0, none⟩) 2 2, [(2950, .cells #[.slice (some ⟨2829, 0, none⟩) 1 1, inN 0, .slice (some ⟨2866, 0, none⟩) 1 1, inN 50] 108 (0, 0))], 2960⟩
theorem m108_2909_ok : isMemo m108_2909 (m108_2909.run Try.prog goFns insOrc 100000) = true := by decide +kernel
def m103_2995 : Memo :=
 ⟨103, #[.agg #[.slice (some ⟨2663, 0, none⟩) 4 4, .slice (some ⟨2664, 0, none⟩) 2 3, inN 2, inN 100, inN 200, inN 200, inN 300, inN 500, inN 1000, inN 20, inN 50], .agg #[inN 2, inN 263], inN 20, inN 0], [(2663, .cells #[inN 100, inN 10, inN 20, inN (-1), inN 150, inN 20, inN 30, inN (-1), inN 180, inN 20, inN 40, inN 10, inN 175, inN 10, inN 20, inN 0] 59 (0, 0)), (2664, .cells #[inN 60, inN 0, inN 50, inN 0, inN 25, inN 20] 85 (0, 0))], 2995, .tuple #[inN 243, .bool true], [], 3007⟩
theorem m103_2995_ok : isMemo m103_2995 (m103_2995.drun Try.prog goFns insOrc 100000) = true := by decide +kernel
def m103_3045 : Memo :=
 ⟨103, #[.agg #[.slice (some ⟨2663, 0, none⟩) 4 4, .slice (some ⟨2664, 0, none⟩) 2 3, inN 2, inN 100, inN 200, inN 200, inN 300, inN 500, inN 1000, inN 20, inN 50], .agg #[inN 2, inN 263], inN 20, inN 1], [(2663, .cells #[inN 100, inN 10, inN 20, inN (-1), inN 150, inN 20, inN 30, inN (-1), inN 180, inN 20, inN 40, inN 10, inN 175, inN 10, inN 20, inN 0] 59 (0, 0)), (2664, .cells #[inN 60, inN 0, inN 50, inN 0, inN 25, inN 20] 85 (0, 0))], 3045, .tuple #[inN 218, .bool true], [], 3057⟩
theorem m103_3045_ok : isMemo m103_3045 (m103_3045.drun Try.prog goFns insOrc 100000) = true := by decide +kernel
def m103_3064 : Memo :=
 ⟨103, #[.agg #[.slice (some ⟨2663, 0, none⟩) 4 4, .slice (some ⟨2664, 0, none⟩) 2 3, inN 2, inN 100, inN 200, inN 200, inN 300, inN 500, inN 1000, inN 20, inN 50], .agg #[inN 3, inN 218], inN 10, inN (-1)], [(2663, .cells #[inN 100, inN 10, inN 20, inN (-1), inN 150, inN 20, inN 30, inN (-1), inN 180, inN 20, inN 40, inN 10, inN 175, inN 10, inN 20, inN 0] 59 (0, 0))], 3064, .tuple #[inN 208, .bool true], [], 3076⟩
theorem m103_3064_ok : isMemo m103_3064 (m103_3064.drun Try.prog goFns insOrc 100000) = true := by decide +kernel
def m103_3101 : Memo :=
 ⟨103, #[.agg #[.slice (some ⟨2663, 0, none⟩) 4 4, .slice (some ⟨2664, 0, none⟩) 2 3, inN 2, inN 100, inN 200, inN 200, inN 300, inN 500, inN 1000, inN 20, inN 50], .agg #[inN 3, inN 218], inN 10, inN 0], [(2663, .cells #[inN 100, inN 10, inN 20, inN (-1), inN 150, inN 20, inN 30, inN (-1), inN 180, inN 20, inN 40, inN 10, inN 175, inN 10, inN 20, inN 0] 59 (0, 0)), (2664, .cells #[inN 60, inN 0, inN 50, inN 0, inN 25, inN 20] 85 (0, 0))], 3101, .tuple #[inN 0, .bool false], [], 3113⟩
theorem m103_3101_ok : isMemo m103_3101 (m103_3101.drun Try.prog goFns insOrc 100000) = true := by decide +kernel
def m103_3140 : Memo :=
 ⟨103, #[.agg #[.slice (some ⟨2663, 0, none⟩) 4 4, .slice (some ⟨2664, 0, none⟩) 2 3, inN 2, inN 100, inN 200, inN 200, inN 300, inN 500, inN 1000, inN 20, inN 50], .agg #[inN 3, inN 218], inN 10, inN 1], [(2663, .cells #[inN 100, inN 10, inN 20, inN (-1), inN 150, inN 20, inN 30, inN (-1), inN 180, inN 20, inN 40, inN 10, inN 175, inN 10, inN 20, inN 0] 59 (0, 0)), (2664, .cells #[inN 60, inN 0, inN 50, inN 0, inN 25, inN 20] 85 (0, 0))], 3140, .tuple #[inN 183, .bool true], [], 3152⟩
theorem m103_3140_ok : isMemo m103_3140 (m103_3140.drun Try.prog goFns insOrc 100000) = true := by decide +kernel
def m108_3173 : Memo :=
 ⟨108, #[.slice (some ⟨3172, 0, none⟩) 3 1], [(3158, .cells #[.slice (some ⟨3169, 0, none⟩) 1 1, inN 20] 108 (0, 0)), (3133, .cells #[.slice (some ⟨3130, 0, none⟩) 1 1, inN 50, .slice (some ⟨3130, 0, none⟩) 1 1, inN 50] 108 (0, 0)), (3082, .cells #[.slice (some ⟨3093, 0, none⟩) 1 1, inN 0] 108 (0, 0)), (3172, .cells #[.slice (some ⟨3082, 0, none⟩) 1 2, .slice (some ⟨3133, 0, none⟩) 2 2, .slice (some ⟨3158, 0, none⟩) 1 2] 130 (0, 0))], 3173, .slice (some ⟨3214, 0, none⟩) 2 2, [(3214, .cells #[.slice (some ⟨3093, 0, none⟩) 1 1, inN 0, .slice (some ⟨3130, 0, none⟩) 1 1, inN 50] 108 (0, 0))], 3224⟩
theorem m108_3173_ok : isMemo m108_3173 (m108_3173.run Try.prog goFns insOrc 100000) = true := by decide +kernel
def m108_3255 : Memo :=
 ⟨108, #[.slice (some ⟨3254, 0, none⟩) 3 1], [(3226, .cells #[.slice (some ⟨3238, 0, none⟩) 2 1, inN 20, .slice (some ⟨3251, 0, none⟩) 2 1, inN 70] 108 (0, 0)), (3012, .cells #[.slice (some ⟨3024, 0, none⟩) 2 1, inN 50, .slice (some ⟨3037, 0, none⟩) 2 1, inN 100] 108 (0, 0)), (2962, .cells #[.slice (some ⟨2974, 0, none⟩) 2 1, inN 0, .slice (some ⟨2987, 0, none⟩) 2 1, inN 50] 108 (0, 0)), (3254, .cells #[.slice (some ⟨2962, 0, none⟩) 2 2, .slice (some ⟨3012, 0, none⟩) 2 2, .slice (some ⟨3226, 0, none⟩) 2 2] 130 (0, 0))], 3255, .slice (some ⟨3308, 0, none⟩) 2 2, [(3308, .cells #[.slice (some ⟨2974, 0, none⟩) 2 1, inN 0, .slice (some ⟨2987, 0, none⟩) 2 1, inN 50] 108 (0, 0))], 3318⟩
theorem m108_3255_ok : isMemo m108_3255 (m108_3255.run Try.prog goFns insOrc 100000) = true := by decide +kernel
def m103_3353 : Memo :=
 ⟨103, #[.agg #[.slice (some ⟨2663, 0, none⟩) 4 4, .slice (some ⟨2664, 0, none⟩) 2 3, inN 2, inN 100, inN 200, inN 200, inN 300, inN 500, inN 1000, inN 20, inN 50], .agg #[inN 1, inN 283], inN 20, inN 0], [(2663, .cells #[inN 100, inN 10, inN 20, inN (-1), inN 150, inN 20, inN 30, inN (-1), inN 180, inN 20, inN 40, inN 10, inN 175, inN 10, inN 20, inN 0] 59 (0, 0)), (2664, .cells #[inN 60, inN 0, inN 50, inN 0, inN 25, inN 20] 85 (0, 0))], 3353, .tuple #[inN 263, .bool true], [], 3365⟩
theorem m103_3353_ok : isMemo m103_3353 (m103_3353.drun Try.prog goFns insOrc 100000) = true := by decide +kernel
def m103_3403 : Memo :=
 ⟨103, #[.agg #[.slice (some ⟨2663, 0, none⟩) 4 4, .slice (some ⟨2664, 0, none⟩) 2 3, inN 2, inN 100, inN 200, inN 200, inN 300, inN 500, inN 1000, inN 20, inN 50], .agg #[inN 1, inN 283], inN 20, inN 1], [(2663, .cells #[inN 100, inN 10, inN 20, inN (-1), inN 150, inN 20, inN 30, inN (-1), inN 180, inN 20, inN 40, inN 10, inN 175, inN 10, inN 20, inN 0] 59 (0, 0)), (2664, .cells #[inN 60, inN 0, inN 50, inN 0, inN 25, inN 20] 85 (0, 0))], 3403, .tuple #[inN 238, .bool true], [], 3415⟩
theorem m103_3403_ok : isMemo m103_3403 (m103_3403.drun Try.prog goFns insOrc 100000) = true := by decide +kernel
def m103_3422 : Memo :=
 ⟨103, #[.agg #[.slice (some ⟨2663, 0, none⟩) 4 4, .slice (some ⟨2664, 0, none⟩) 2 3, inN 2, inN 100, inN 200, inN 200, inN 300, inN 500, inN 1000, inN 20, inN 50], .agg #[inN 2, inN 238], inN 20, inN (-1)], [(2663, .cells #[inN 100, inN 10, inN 20, inN (-1), inN 150, inN 20, inN 30, inN (-1), inN 180, inN 20, inN 40, inN 10, inN 175, inN 10, inN 20, inN 0] 59 (0, 0))], 3422, .tuple #[inN 218, .bool true], [], 3434⟩
theorem m103_3422_ok : isMemo m103_3422 (m103_3422.drun Try.prog goFns insOrc 100000) = true := by decide +kernel
def m103_3472 : Memo :=
 ⟨103, #[.agg #[.slice (some ⟨2663, 0, none⟩) 4 4, .slice (some ⟨2664, 0, none⟩) 2 3, inN 2, inN 100, inN 200, inN 200, inN 300, inN 500, inN 1000, inN 20, inN 50], .agg #[inN 2, inN 238], inN 20, inN 0], [(2663, .cells #[inN 100, inN 10, inN 20, inN (-1), inN 150, inN 20, inN 30, inN (-1), inN 180, inN 20, inN 40, inN 10, inN 175, inN 10, inN 20, inN 0] 59 (0, 0)), (2664, .cells #[inN 60, inN 0, inN 50, inN 0, inN 25, inN 20] 85 (0, 0))], 3472, .tuple #[inN 0, .bool false], [], 3484⟩
theorem m103_3472_ok : isMemo m103_3472 (m103_3472.drun Try.prog goFns insOrc 100000) = true := by decide +kernel
def m103_3491 : Memo :=
 ⟨103, #[.agg #[.slice (some ⟨2663, 0, none⟩) 4 4, .slice (some ⟨2664, 0, none⟩) 2 3, inN 2, inN 100, inN 200, inN 200, inN 300, inN 500, inN 1000, inN 20, inN 50], .agg #[inN 3, inN (-5000)], inN 10, inN (-1)], [(2663, .cells #[inN 100, inN 10, inN 20, inN (-1), inN 150, inN 20, inN 30, inN (-1), inN 180, inN 20, inN 40, inN 10, inN 175, inN 10, inN 20, inN 0] 59 (0, 0))], 3491, .tuple #[inN 0, .bool false], [], 3503⟩
theorem m103_3491_ok : isMemo m103_3491 (m103_3491.drun Try.prog goFns insOrc 100000) = true := by decide +kernel
def m103_3530 : Memo :=
 ⟨103, #[.agg #[.slice (some ⟨2663, 0, none⟩) 4 4, .slice (some ⟨2664, 0, none⟩) 2 3, inN 2, inN 100, inN 200, inN 200, inN 300, inN 500, inN 1000, inN 20, inN 50], .agg #[inN 3, inN (-5000)], inN 10, inN 0], [(2663, .cells #[inN 100, inN 10, inN 20, inN (-1), inN 150, inN 20, inN 30, inN (-1), inN 180, inN 20, inN 40, inN 10, inN 175, inN 10, inN 20, inN 0] 59 (0, 0)), (2664, .cells #[inN 60, inN 0, inN 50, inN 0, inN 25, inN 20] 85 (0, 0))], 3530, .tuple #[inN 0, .bool false], [], 3542⟩
theorem m103_3530_ok : isMemo m103_3530 (m103_3530.drun Try.prog goFns insOrc 100000) = true := by decide +kernel
def m103_3569 : Memo :=
 ⟨103, #[.agg #[.slice (some ⟨2663, 0, none⟩) 4 4, .slice (some ⟨2664, 0, none⟩) 2 3, inN 2, inN 100, inN 200, inN 200, inN 300, inN 500, inN 1000, inN 20, inN 50], .agg #[inN 3, inN (-5000)], inN 10, inN 1], [(2663, .cells #[inN 100, inN 10, inN 20, inN (-1), inN 150, inN 20, inN 30, inN (-1), inN 180, inN 20, inN 40, inN 10, inN 175, inN 10, inN 20, inN 0] 59 (0, 0)), (2664, .cells #[inN 60, inN 0, inN 50, inN 0, inN 25, inN 20] 85 (0, 0))], 3569, .tuple #[inN 0, .bool false], [], 3581⟩
theorem m103_3569_ok : isMemo m103_3569 (m103_3569.drun Try.prog goFns insOrc 100000) = true := by decide +kernel
def m108_3604 : Memo :=
 ⟨108, #[.slice (some ⟨3603, 0, none⟩) 3 1], [(3601, .cells #[.slice (some ⟨3598, 0, none⟩) 1 1, inN 20, .slice (some ⟨3598, 0, none⟩) 1 1, inN 20] 108 (0, 0)), (3562, .cells #[.slice (some ⟨3559, 0, none⟩) 1 1, inN 50, .slice (some ⟨3559, 0, none⟩) 1 1, inN 50] 108 (0, 0)), (3523, .cells #[.slice (some ⟨3520, 0, none⟩) 1 1, inN 0, .slice (some ⟨3520, 0, none⟩) 1 1, inN 0] 108 (0, 0)), (3603, .cells #[.slice (some ⟨3523, 0, none⟩) 2 2, .slice (some ⟨3562, 0, none⟩) 2 2, .slice (some ⟨3601, 0, none⟩) 2 2] 130 (0, 0))], 3604, .slice (some ⟨3657, 0, none⟩) 2 2, [(3657, .cells #[.slice (some ⟨3520, 0, none⟩) 1 1, inN 0, .slice (some ⟨3520, 0, none⟩) 1 1, inN 0] 108 (0, 0))], 3667⟩
theorem m108_3604_ok : isMemo m108_3604 (m108_3604.run Try.prog goFns insOrc 100000) = true := by decide +kernel
def m103_3704 : Memo :=
 ⟨103, #[.agg #[.slice (some ⟨2663, 0, none⟩) 4 4, .slice (some ⟨2664, 0, none⟩) 2 3, inN 2, inN 100, inN 200, inN 200, inN 300, inN 500, inN 1000, inN 20, inN 50], .agg #[inN 2, inN 238], inN 20, inN 1], [(2663, .cells #[inN 100, inN 10, inN 20, inN (-1), inN 150, inN 20, inN 30, inN (-1), inN 180, inN 20, inN 40, inN 10, inN 175, inN 10, inN 20, inN 0] 59 (0, 0)), (2664, .cells #[inN 60, inN 0, inN 50, inN 0, inN 25, inN 20] 85 (0, 0))], 3704, .tuple #[inN 193, .bool true], [], 3716⟩
theorem m103_3704_ok : isMemo m103_3704 (m103_3704.drun Try.prog goFns insOrc 100000) = true := by decide +kernel
def m103_3723 : Memo :=
 ⟨103, #[.agg #[.slice (some ⟨2663, 0, none⟩) 4 4, .slice (some ⟨2664, 0, none⟩) 2 3, inN 2, inN 100, inN 200, inN 200, inN 300, inN 500, inN 1000, inN 20, inN 50], .agg #[inN 3, inN 193], inN 10, inN (-1)], [(2663, .cells #[inN 100, inN 10, inN 20, inN (-1), inN 150, inN 20, inN 30, inN (-1), inN 180, inN 20, inN 40, inN 10, inN 175, inN 10, inN 20, inN 0] 59 (0, 0))], 3723, .tuple #[inN 183, .bool true], [], 3735⟩
theorem m103_3723_ok : isMemo m103_3723 (m103_3723.drun Try.prog goFns insOrc 100000) = true := by decide +kernel
end Go.Proofs.Ytiigkdhaofaijaa

namespace Go.Proofs.Ytiigkdhaofaijaa
open Go Go.CE Go.RowKit
def m103_3760 : Memo :=
 ⟨103, #[.agg #[.slice (some ⟨2663, 0, none⟩) 4 4, .slice (some ⟨2664, 0, none⟩) 2 3, inN 2, inN 100, inN 200, inN 200, inN 300, inN 500, inN 1000, inN 20, inN 50], .agg #[inN 3, inN 193], inN 10, inN 0], [(2663, .cells #[inN 100, inN 10, inN 20, inN (-1), inN 150, inN 20, inN 30, inN (-1), inN 180, inN 20, inN 40, inN 10, inN 175, inN 10, inN 20, inN 0] 59 (0, 0)), (2664, .cells #[inN 60, inN 0, inN 50, inN 0, inN 25, inN 20] 85 (0, 0))], 3760, .tuple #[inN 0, .bool false], [], 3772⟩
theorem m103_3760_ok : isMemo m103_3760 (m103_3760.drun Try.prog goFns insOrc 100000) = true := by decide +kernel
def m103_3799 : Memo :=
 ⟨103, #[.agg #[.slice (some ⟨2663, 0, none⟩) 4 4, .slice (some ⟨2664, 0, none⟩) 2 3, inN 2, inN 100, inN 200, inN 200, inN 300, inN 500, inN 1000, inN 20, inN 50], .agg #[inN 3, inN 193], inN 10, inN 1], [(2663, .cells #[inN 100, inN 10, inN 20, inN (-1), inN 150, inN 20, inN 30, inN (-1), inN 180, inN 20, inN 40, inN 10, inN 175, inN 10, inN 20, inN 0] 59 (0, 0)), (2664, .cells #[inN 60, inN 0, inN 50, inN 0, inN 25, inN 20] 85 (0, 0))], 3799, .tuple #[inN 0, .bool false], [], 3811⟩
theorem m103_3799_ok : isMemo m103_3799 (m103_3799.drun Try.prog goFns insOrc 100000) = true := by decide +kernel
def m108_3834 : Memo :=
 ⟨108, #[.slice (some ⟨3833, 0, none⟩) 3 1], [(3831, .cells #[.slice (some ⟨3828, 0, none⟩) 1 1, inN 20, .slice (some ⟨3828, 0, none⟩) 1 1, inN 20] 108 (0, 0)), (3792, .cells #[.slice (some ⟨3789, 0, none⟩) 1 1, inN 50, .slice (some ⟨3789, 0, none⟩) 1 1, inN 50] 108 (0, 0)), (3741, .cells #[.slice (some ⟨3752, 0, none⟩) 1 1, inN 0] 108 (0, 0)), (3833, .cells #[.slice (some ⟨3741, 0, none⟩) 1 2, .slice (some ⟨3792, 0, none⟩) 2 2, .slice (some ⟨3831, 0, none⟩) 2 2] 130 (0, 0))], 3834, .slice (some ⟨3881, 0, none⟩) 2 2, [(3881, .cells #[.slice (some ⟨3752, 0, none⟩) 1 1, inN 0, .slice (some ⟨3828, 0, none⟩) 1 1, inN 20] 108 (0, 0))], 3891⟩
theorem m108_3834_ok : isMemo m108_3834 (m108_3834.run Try.prog goFns insOrc 100000) = true := by decide +kernel
def m108_3922 : Memo :=
 ⟨108, #[.slice (some ⟨3921, 0, none⟩) 3 1], [(3893, .cells #[.slice (some ⟨3905, 0, none⟩) 2 1, inN 20, .slice (some ⟨3918, 0, none⟩) 2 1, inN 40] 108 (0, 0)), (3697, .cells #[.slice (some ⟨3681, 0, none⟩) 2 1, inN 50, .slice (some ⟨3681, 0, none⟩) 2 1, inN 50, .slice (some ⟨3694, 0, none⟩) 2 1, inN 50] 108 (0, 0)), (3439, .cells #[.slice (some ⟨3451, 0, none⟩) 2 1, inN 0, .slice (some ⟨3464, 0, none⟩) 2 1, inN 50] 108 (0, 0)), (3921, .cells #[.slice (some ⟨3439, 0, none⟩) 2 2, .slice (some ⟨3697, 0, none⟩) 3 2, .slice (some ⟨3893, 0, none⟩) 2 2] 130 (0, 0))], 3922, .slice (some ⟨3990, 0, none⟩) 3 2, [(3990, .cells #[.slice (some ⟨3451, 0, none⟩) 2 1, inN 0, .slice (some ⟨3918, 0, none⟩) 2 1, inN 40, .slice (some ⟨3694, 0, none⟩) 2 1, inN 50] 108 (0, 0))], 4000⟩
theorem m108_3922_ok : isMemo m108_3922 (m108_3922.run Try.prog goFns insOrc 100000) = true := by decide +kernel
def m108_4044 : Memo :=
 ⟨108, #[.slice (some ⟨4043, 0, none⟩) 3 1], [(4002, .cells #[.slice (some ⟨4014, 0, none⟩) 3 1, inN 20, .slice (some ⟨4027, 0, none⟩) 3 1, inN 60, .slice (some ⟨4040, 0, none⟩) 3 1, inN 70] 108 (0, 0)), (3370, .cells #[.slice (some ⟨3382, 0, none⟩) 3 1, inN 50, .slice (some ⟨3395, 0, none⟩) 3 1, inN 100] 108 (0, 0)), (3320, .cells #[.slice (some ⟨3332, 0, none⟩) 3 1, inN 0, .slice (some ⟨3345, 0, none⟩) 3 1, inN 50] 108 (0, 0)), (4043, .cells #[.slice (some ⟨3320, 0, none⟩) 2 2, .slice (some ⟨3370, 0, none⟩) 2 2, .slice (some ⟨4002, 0, none⟩) 3 2] 130 (0, 0))], 4044, .slice (some ⟨4112, 0, none⟩) 3 2, [(4112, .cells #[.slice (some ⟨3332, 0, none⟩) 3 1, inN 0, .slice (some ⟨3345, 0, none⟩) 3 1, inN 50, .slice (some ⟨4040, 0, none⟩) 3 1, inN 70] 108 (0, 0))], 4122⟩
theorem m108_4044_ok : isMemo m108_4044 (m108_4044.run Try.prog goFns insOrc 100000) = true := by decide +kernel
def m103_4170 : Memo :=
 ⟨103, #[.agg #[.slice (some ⟨2663, 0, none⟩) 4 4, .slice (some ⟨2664, 0, none⟩) 2 3, inN 2, inN 100, inN 200, inN 200, inN 300, inN 500, inN 1000, inN 20, inN 50], .agg #[inN 0, inN 293], inN 10, inN 0], [(2663, .cells #[inN 100, inN 10, inN 20, inN (-1), inN 150, inN 20, inN 30, inN (-1), inN 180, inN 20, inN 40, inN 10, inN 175, inN 10, inN 20, inN 0] 59 (0, 0)), (2664, .cells #[inN 60, inN 0, inN 50, inN 0, inN 25, inN 20] 85 (0, 0))], 4170, .tuple #[inN 283, .bool true], [], 4182⟩
theorem m103_4170_ok : isMemo m103_4170 (m103_4170.drun Try.prog goFns insOrc 100000) = true := by decide +kernel
def m103_4233 : Memo :=
 ⟨103, #[.agg #[.slice (some ⟨2663, 0, none⟩) 4 4, .slice (some ⟨2664, 0, none⟩) 2 3, inN 2, inN 100, inN 200, inN 200, inN 300, inN 500, inN 1000, inN 20, inN 50], .agg #[inN 0, inN 293], inN 10, inN 1], [(2663, .cells #[inN 100, inN 10, inN 20, inN (-1), inN 150, inN 20, inN 30, inN (-1), inN 180, inN 20, inN 40, inN 10, inN 175, inN 10, inN 20, inN 0] 59 (0, 0)), (2664, .cells #[inN 60, inN 0, inN 50, inN 0, inN 25, inN 20] 85 (0, 0))], 4233, .tuple #[inN 258, .bool true], [], 4245⟩
theorem m103_4233_ok : isMemo m103_4233 (m103_4233.drun Try.prog goFns insOrc 100000) = true := by decide +kernel
def m103_4252 : Memo :=
 ⟨103, #[.agg #[.slice (some ⟨2663, 0, none⟩) 4 4, .slice (some ⟨2664, 0, none⟩) 2 3, inN 2, inN 100, inN 200, inN 200, inN 300, inN 500, inN 1000, inN 20, inN 50], .agg #[inN 1, inN 258], inN 20, inN (-1)], [(2663, .cells #[inN 100, inN 10, inN 20, inN (-1), inN 150, inN 20, inN 30, inN (-1), inN 180, inN 20, inN 40, inN 10, inN 175, inN 10, inN 20, inN 0] 59 (0, 0))], 4252, .tuple #[inN 238, .bool true], [], 4264⟩
theorem m103_4252_ok : isMemo m103_4252 (m103_4252.drun Try.prog goFns insOrc 100000) = true := by decide +kernel
def m103_4315 : Memo :=
 ⟨103, #[.agg #[.slice (some ⟨2663, 0, none⟩) 4 4, .slice (some ⟨2664, 0, none⟩) 2 3, inN 2, inN 100, inN 200, inN 200, inN 300, inN 500, inN 1000, inN 20, inN 50], .agg #[inN 1, inN 258], inN 20, inN 0], [(2663, .cells #[inN 100, inN 10, inN 20, inN (-1), inN 150, inN 20, inN 30, inN (-1), inN 180, inN 20, inN 40, inN 10, inN 175, inN 10, inN 20, inN 0] 59 (0, 0)), (2664, .cells #[inN 60, inN 0, inN 50, inN 0, inN 25, inN 20] 85 (0, 0))], 4315, .tuple #[inN 238, .bool true], [], 4327⟩
theorem m103_4315_ok : isMemo m103_4315 (m103_4315.drun Try.prog goFns insOrc 100000) = true := by decide +kernel
def m103_4378 : Memo :=
 ⟨103, #[.agg #[.slice (some ⟨2663, 0, none⟩) 4 4, .slice (some ⟨2664, 0, none⟩) 2 3, inN 2, inN 100, inN 200, inN 200, inN 300, inN 500, inN 1000, inN 20, inN 50], .agg #[inN 1, inN 258], inN 20, inN 1], [(2663, .cells #[inN 100, inN 10, inN 20, inN (-1), inN 150, inN 20, inN 30, inN (-1), inN 180, inN 20, inN 40, inN 10, inN 175, inN 10, inN 20, inN 0] 59 (0, 0)), (2664, .cells #[inN 60, inN 0, inN 50, inN 0, inN 25, inN 20] 85 (0, 0))], 4378, .tuple #[inN 213, .bool true], [], 4390⟩
theorem m103_4378_ok : isMemo m103_4378 (m103_4378.drun Try.prog goFns insOrc 100000) = true := by decide +kernel
def m103_4397 : Memo :=
 ⟨103, #[.agg #[.slice (some ⟨2663, 0, none⟩) 4 4, .slice (some ⟨2664, 0, none⟩) 2 3, inN 2, inN 100, inN 200, inN 200, inN 300, inN 500, inN 1000, inN 20, inN 50], .agg #[inN 2, inN 213], inN 20, inN (-1)], [(2663, .cells #[inN 100, inN 10, inN 20, inN (-1), inN 150, inN 20, inN 30, inN (-1), inN 180, inN 20, inN 40, inN 10, inN 175, inN 10, inN 20, inN 0] 59 (0, 0))], 4397, .tuple #[inN 193, .bool true], [], 4409⟩
theorem m103_4397_ok : isMemo m103_4397 (m103_4397.drun Try.prog goFns insOrc 100000) = true := by decide +kernel
def m103_4447 : Memo :=
 ⟨103, #[.agg #[.slice (some ⟨2663, 0, none⟩) 4 4, .slice (some ⟨2664, 0, none⟩) 2 3, inN 2, inN 100, inN 200, inN 200, inN 300, inN 500, inN 1000, inN 20, inN 50], .agg #[inN 2, inN 213], inN 20, inN 0], [(2663, .cells #[inN 100, inN 10, inN 20, inN (-1), inN 150, inN 20, inN 30, inN (-1), inN 180, inN 20, inN 40, inN 10, inN 175, inN 10, inN 20, inN 0] 59 (0, 0)), (2664, .cells #[inN 60, inN 0, inN 50, inN 0, inN 25, inN 20] 85 (0, 0))], 4447, .tuple #[inN 0, .bool false], [], 4459⟩
theorem m103_4447_ok : isMemo m103_4447 (m103_4447.drun Try.prog goFns insOrc 100000) = true := by decide +kernel
def m103_4499 : Memo :=
 ⟨103, #[.agg #[.slice (some ⟨2663, 0, none⟩) 4 4, .slice (some ⟨2664, 0, none⟩) 2 3, inN 2, inN 100, inN 200, inN 200, inN 300, inN 500, inN 1000, inN 20, inN 50], .agg #[inN 2, inN 213], inN 20, inN 1], [(2663, .cells #[inN 100, inN 10, inN 20, inN (-1), inN 150, inN 20, inN 30, inN (-1), inN 180, inN 20, inN 40, inN 10, inN 175, inN 10, inN 20, inN 0] 59 (0, 0)), (2664, .cells #[inN 60, inN 0, inN 50, inN 0, inN 25, inN 20] 85 (0, 0))], 4499, .tuple #[inN 0, .bool false], [], 4511⟩
theorem m103_4499_ok : isMemo m103_4499 (m103_4499.drun Try.prog goFns insOrc 100000) = true := by decide +kernel
def m108_4547 : Memo :=
 ⟨108, #[.slice (some ⟨4546, 0, none⟩) 3 1], [(4544, .cells #[.slice (some ⟨4528, 0, none⟩) 2 1, inN 20, .slice (some ⟨4528, 0, none⟩) 2 1, inN 20, .slice (some ⟨4541, 0, none⟩) 2 1, inN 20] 108 (0, 0)), (4492, .cells #[.slice (some ⟨4476, 0, none⟩) 2 1, inN 50, .slice (some ⟨4476, 0, none⟩) 2 1, inN 50, .slice (some ⟨4489, 0, none⟩) 2 1, inN 50] 108 (0, 0)), (4414, .cells #[.slice (some ⟨4426, 0, none⟩) 2 1, inN 0, .slice (some ⟨4439, 0, none⟩) 2 1, inN 20] 108 (0, 0)), (4546, .cells #[.slice (some ⟨4414, 0, none⟩) 2 2, .slice (some ⟨4492, 0, none⟩) 3 2, .slice (some ⟨4544, 0, none⟩) 3 2] 130 (0, 0))], 4547, .slice (some ⟨4621, 0, none⟩) 3 2, [(4621, .cells #[.slice (some ⟨4426, 0, none⟩) 2 1, inN 0, .slice (some ⟨4439, 0, none⟩) 2 1, inN 20, .slice (some ⟨4541, 0, none⟩) 2 1, inN 20] 108 (0, 0))], 4631⟩
theorem m108_4547_ok : isMemo m108_4547 (m108_4547.run Try.prog goFns insOrc 100000) = true := by decide +kernel
def m108_4675 : Memo :=
 ⟨108, #[.slice (some ⟨4674, 0, none⟩) 3 1], [(4633, .cells #[.slice (some ⟨4645, 0, none⟩) 3 1, inN 20, .slice (some ⟨4658, 0, none⟩) 3 1, inN 40, .slice (some ⟨4671, 0, none⟩) 3 1, inN 40] 108 (0, 0)), (4332, .cells #[.slice (some ⟨4344, 0, none⟩) 3 1, inN 50, .slice (some ⟨4357, 0, none⟩) 3 1, inN 90, .slice (some ⟨4370, 0, none⟩) 3 1, inN 100] 108 (0, 0)), (4269, .cells #[.slice (some ⟨4281, 0, none⟩) 3 1, inN 0, .slice (some ⟨4294, 0, none⟩) 3 1, inN 40, .slice (some ⟨4307, 0, none⟩) 3 1, inN 50] 108 (0, 0)), (4674, .cells #[.slice (some ⟨4269, 0, none⟩) 3 2, .slice (some ⟨4332, 0, none⟩) 3 2, .slice (some ⟨4633, 0, none⟩) 3 2] 130 (0, 0))], 4675, .slice (some ⟨4755, 0, none⟩) 3 2, [(4755, .cells #[.slice (some ⟨4281, 0, none⟩) 3 1, inN 0, .slice (some ⟨4294, 0, none⟩) 3 1, inN 40, .slice (some ⟨4671, 0, none⟩) 3 1, inN 40] 108 (0, 0))], 4765⟩
theorem m108_4675_ok : isMemo m108_4675 (m108_4675.run Try.prog goFns insOrc 100000) = true := by decide +kernel
def m108_4809 : Memo :=
 ⟨108, #[.slice (some ⟨4808, 0, none⟩) 3 1], [(4767, .cells #[.slice (some ⟨4779, 0, none⟩) 4 1, inN 20, .slice (some ⟨4792, 0, none⟩) 4 1, inN 60, .slice (some ⟨4805, 0, none⟩) 4 1, inN 60] 108 (0, 0)), (4187, .cells #[.slice (some ⟨4199, 0, none⟩) 4 1, inN 50, .slice (some ⟨4212, 0, none⟩) 4 1, inN 100, .slice (some ⟨4225, 0, none⟩) 4 1, inN 120] 108 (0, 0)), (4124, .cells #[.slice (some ⟨4136, 0, none⟩) 4 1, inN 0, .slice (some ⟨4149, 0, none⟩) 4 1, inN 50, .slice (some ⟨4162, 0, none⟩) 4 1, inN 70] 108 (0, 0)), (4808, .cells #[.slice (some ⟨4124, 0, none⟩) 3 2, .slice (some ⟨4187, 0, none⟩) 3 2, .slice (some ⟨4767, 0, none⟩) 3 2] 130 (0, 0))], 4809, .slice (some ⟨4889, 0, none⟩) 3 2, [(4889, .cells #[.slice (some ⟨4136, 0, none⟩) 4 1, inN 0, .slice (some ⟨4149, 0, none⟩) 4 1, inN 50, .slice (some ⟨4805, 0, none⟩) 4 1, inN 60] 108 (0, 0))], 4899⟩
theorem m108_4809_ok : isMemo m108_4809 (m108_4809.run Try.prog goFns insOrc 100000) = true := by decide +kernel
def m103_4984 : Memo :=
 ⟨103, #[.agg #[.slice (some ⟨4902, 0, none⟩) 4 4, .slice (some ⟨4903, 0, none⟩) 2 3, inN 2, inN 100, inN 200, inN 200, inN 300, inN 500, inN 1000, inN 20, inN 50], .agg #[inN 0, inN 293], inN 10, inN 1], [(4902, .cells #[inN 100, inN 10, inN 20, inN (-1), inN 150, inN 20, inN 30, inN (-1), inN 180, inN 20, inN 40, inN 10, inN 175, inN 10, inN 20, inN 0] 59 (0, 0)), (4903, .cells #[inN 60, inN 0, inN 50, inN 0, inN 25, inN 20] 85 (0, 0))], 4984, .tuple #[inN 258, .bool true], [], 4996⟩
theorem m103_4984_ok : isMemo m103_4984 (m103_4984.drun Try.prog goFns insOrc 100000) = true := by decide +kernel
def m103_4996 : Memo :=
 ⟨103, #[.agg #[.slice (some ⟨4902, 0, none⟩) 4 4, .slice (some ⟨4903, 0, none⟩) 2 3, inN 2, inN 100, inN 200, inN 200, inN 300, inN 500, inN 1000, inN 20, inN 50], .agg #[inN 1, inN 258], inN 20, inN 1], [(4902, .cells #[inN 100, inN 10, inN 20, inN (-1), inN 150, inN 20, inN 30, inN (-1), inN 180, inN 20, inN 40, inN 10, inN 175, inN 10, inN 20, inN 0] 59 (0, 0)), (4903, .cells #[inN 60, inN 0, inN 50, inN 0, inN 25, inN 20] 85 (0, 0))], 4996, .tuple #[inN 213, .bool true], [], 5008⟩
theorem m103_4996_ok : isMemo m103_4996 (m103_4996.drun Try.prog goFns insOrc 100000) = true := by decide +kernel
def m103_5008 : Memo :=
 ⟨103, #[.agg #[.slice (some ⟨4902, 0, none⟩) 4 4, .slice (some ⟨4903, 0, none⟩) 2 3, inN 2, inN 100, inN 200, inN 200, inN 300, inN 500, inN 1000, inN 20, inN 50], .agg #[inN 2, inN 213], inN 20, inN 1], [(4902, .cells #[inN 100, inN 10, inN 20, inN (-1), inN 150, inN 20, inN 30, inN (-1), inN 180, inN 20, inN 40, inN 10, inN 175, inN 10, inN 20, inN 0] 59 (0, 0)), (4903, .cells #[inN 60, inN 0, inN 50, inN 0, inN 25, inN 20] 85 (0, 0))], 5008, .tuple #[inN 0, .bool false], [], 5020⟩
theorem m103_5008_ok : isMemo m103_5008 (m103_5008.drun Try.prog goFns insOrc 100000) = true := by decide +kernel
end Go.Proofs.Ytiigkdhaofaijaa

namespace Go.Proofs.Ytiigkdhaofaijaa
open Go Go.CE Go.RowKit
noncomputable def orc_m39_2666 : Orc := orElse insOrc (memoOrc [m103_2743, m103_2762, m103_2781, m103_2800, m103_2837, m103_2876, m108_2909, m103_2995, m103_3045, m103_3064, m103_3101, m103_3140, m108_3173, m108_3255, m103_3353, m103_3403, m103_3422, m103_3472, m103_3491, m103_3530, m103_3569, m108_3604, m103_3704, m103_3723, m103_3760, m103_3799, m108_3834, m108_3922, m108_4044, m103_4170, m103_4233, m103_4252, m103_4315, m103_4378, m103_4397, m103_4447, m103_4499, m108_4547, m108_4675, m108_4809])
theorem orc_m39_2666_ok (B : Lo) : OrcS Try.prog B orc_m39_2666 := orElse_ok (insOrc_ok _) (orcS_consD goFns_ok mixed_ok (insOrc_ok _) m103_2743_ok (orcS_consD goFns_ok mixed_ok (insOrc_ok _) m103_2762_ok (orcS_consD goFns_ok mixed_ok (insOrc_ok _) m103_2781_ok (orcS_consD goFns_ok mixed_ok (insOrc_ok _) m103_2800_ok (orcS_consD goFns_ok mixed_ok (insOrc_ok _) m103_2837_ok (orcS_consD goFns_ok mixed_ok (insOrc_ok _) m103_2876_ok (orcS_cons goFns_ok mixed_ok (insOrc_ok _) m108_2909_ok (orcS_consD goFns_ok mixed_ok (insOrc_ok _) m103_2995_ok (orcS_consD goFns_ok mixed_ok (insOrc_ok _) m103_3045_ok (orcS_consD goFns_ok mixed_ok (insOrc_ok _) m103_3064_ok (orcS_consD goFns_ok mixed_ok (insOrc_ok _) m103_3101_ok (orcS_consD goFns_ok mixed_ok (insOrc_ok _) m103_3140_ok (orcS_cons goFns_ok mixed_ok (insOrc_ok _) m108_3173_ok (orcS_cons goFns_ok mixed_ok (insOrc_ok _) m108_3255_ok (orcS_consD goFns_ok mixed_ok (insOrc_ok _) m103_3353_ok (orcS_consD goFns_ok mixed_ok (insOrc_ok _) m103_3403_ok (orcS_consD goFns_ok mixed_ok (insOrc_ok _) m103_3422_ok (orcS_consD goFns_ok mixed_ok (insOrc_ok _) m103_3472_ok (orcS_consD goFns_ok mixed_ok (insOrc_ok _) m103_3491_ok (orcS_consD goFns_ok mixed_ok (insOrc_ok _) m103_3530_ok (orcS_consD goFns_ok mixed_ok (insOrc_ok _) m103_3569_ok (orcS_cons goFns_ok mixed_ok (insOrc_ok _) m108_3604_ok (orcS_consD goFns_ok mixed_ok (insOrc_ok _) m103_3704_ok (orcS_consD goFns_ok mixed_ok (insOrc_ok _) m103_3723_ok (orcS_consD goFns_ok mixed_ok (insOrc_ok _) m103_3760_ok (orcS_consD goFns_ok mixed_ok (insOrc_ok _) m103_3799_ok (orcS_cons goFns_ok mixed_ok (insOrc_ok _) m108_3834_ok (orcS_cons goFns_ok mixed_ok (insOrc_ok _) m108_3922_ok (orcS_cons goFns_ok mixed_ok (insOrc_ok _) m108_4044_ok (orcS_consD goFns_ok mixed_ok (insOrc_ok _) m103_4170_ok (orcS_consD goFns_ok mixed_ok (insOrc_ok _) m103_4233_ok (orcS_consD goFns_ok mixed_ok (insOrc_ok _) m103_4252_ok (orcS_consD goFns_ok mixed_ok (insOrc_ok _) m103_4315_ok (orcS_consD goFns_ok mixed_ok (insOrc_ok _) m103_4378_ok (orcS_consD goFns_ok mixed_ok (insOrc_ok _) m103_4397_ok (orcS_consD goFns_ok mixed_ok (insOrc_ok _) m103_4447_ok (orcS_consD goFns_ok mixed_ok (insOrc_ok _) m103_4499_ok (orcS_cons goFns_ok mixed_ok (insOrc_ok _) m108_4547_ok (orcS_cons goFns_ok mixed_ok (insOrc_ok _) m108_4675_ok (orcS_cons goFns_ok mixed_ok (insOrc_ok _) m108_4809_ok (orcS_nil _ _)))))))))))))))))))))))))))))))))))))))))
def m39_2666 : Memo :=
 ⟨39, #[.agg #[.slice (some ⟨2663, 0, none⟩) 4 4, .slice (some ⟨2664, 0, none⟩) 2 3, inN 2, inN 100, inN 200], .agg #[inN 200, inN 300, inN 500, inN 1000, inN 20, inN 50], inN 59], [(2664, .cells #[inN 60, inN 0, inN 50, inN 0, inN 25, inN 20] 85 (0, 0)), (2663, .cells #[inN 100, inN 10, inN 20, inN (-1), inN 150, inN 20, inN 30, inN (-1), inN 180, inN 20, inN 40, inN 10, inN 175, inN 10, inN 20, inN 0] 59 (0, 0))], 2666, .tuple #[.slice (some ⟨4149, 0, none⟩) 4 1, inN 1, inN 50, inN 0], [(4149, .cells #[inN (-1), inN (-1), inN (-1), inN 0] 3 (0, 0))], 4901⟩
theorem m39_2666_ok : isMemo m39_2666 (m39_2666.run Try.prog goFns orc_m39_2666 100000) = true := by decide +kernel
end Go.Proofs.Ytiigkdhaofaijaa

namespace Go.Proofs.Ytiigkdhaofaijaa
open Go Go.CE Go.RowKit
noncomputable def orc_m33_4906 : Orc := orElse insOrc (memoOrc [m103_4984, m103_4996, m103_5008])
theorem orc_m33_4906_ok (B : Lo) : OrcS Try.prog B orc_m33_4906 := orElse_ok (insOrc_ok _) (orcS_consD goFns_ok mixed_ok (insOrc_ok _) m103_4984_ok (orcS_consD goFns_ok mixed_ok (insOrc_ok _) m103_4996_ok (orcS_consD goFns_ok mixed_ok (insOrc_ok _) m103_5008_ok (orcS_nil _ _))))
def m33_4906 : Memo :=
 ⟨33, #[.agg #[.slice (some ⟨4902, 0, none⟩) 4 4, .slice (some ⟨4903, 0, none⟩) 2 3, inN 2, inN 100, inN 200], .agg #[inN 200, inN 300, inN 500, inN 1000, inN 20, inN 50], .slice (some ⟨4905, 0, none⟩) 4 1, inN 0], [(4902, .cells #[inN 100, inN 10, inN 20, inN (-1), inN 150, inN 20, inN 30, inN (-1), inN 180, inN 20, inN 40, inN 10, inN 175, inN 10, inN 20, inN 0] 59 (0, 0)), (4903, .cells #[inN 60, inN 0, inN 50, inN 0, inN 25, inN 20] 85 (0, 0)), (4905, .cells #[inN 1, inN 1, inN 1, inN (-1)] 3 (0, 0))], 4906, .tuple #[inN 2, inN 0], [], 5020⟩
theorem m33_4906_ok : isMemo m33_4906 (m33_4906.run Try.prog goFns orc_m33_4906 100000) = true := by decide +kernel
end Go.Proofs.Ytiigkdhaofaijaa

namespace Go.Proofs.Ytiigkdhaofaijaa
open Go Go.CE Go.RowKit
noncomputable def orcTop : Orc := orElse insOrc (memoOrc [m17_4, m29_119, m24_326, m38_424, m39_2666, m33_4906])
theorem orcTop_ok (B : Lo) : OrcS Try.prog B orcTop := orElse_ok (insOrc_ok _) (orcS_cons goFns_ok mixed_ok (insOrc_ok _) m17_4_ok (orcS_cons goFns_ok mixed_ok (orc_m29_119_ok _) m29_119_ok (orcS_cons goFns_ok mixed_ok (orc_m24_326_ok _) m24_326_ok (orcS_cons goFns_ok mixed_ok (orc_m38_424_ok _) m38_424_ok (orcS_cons goFns_ok mixed_ok (orc_m39_2666_ok _) m39_2666_ok (orcS_cons goFns_ok mixed_ok (orc_m33_4906_ok _) m33_4906_ok (orcS_nil _ _)))))))
theorem known_ans : isAns (callC Try.prog goFns orcTop 100000 15 #[] (heapOf 0 []) ([] : List (Array Value × TypeId)).length) (.bool true) [] = true := by decide +kernel
theorem known_true (w : World) : Calls Try.prog 15 #[] w fun e w' => e = .returned (.bool true) ∧ Below w.heap.size w w' := by
 have hc := calls_ans goFns_ok mixed_ok (at' := []) (args' := #[]) known_ans (w := w) (I := fun _ => True) (hI := fun _ _ _ _ => trivial) (orcTop_ok _) trivial rfl (fun i x a h => by simp at h) ⟨rfl, fun i v v' h => by simp at h⟩
 intro cs
 obtain ⟨e, w', fr, ⟨v', n', H', μ', he, hp, hv, hb, hun, hbel⟩, h1, h2, h3⟩ := hc cs
 exact ⟨e, w', fr, ⟨by rw [he, af_eq rfl hv], hbel⟩, h1, h2, h3⟩
theorem known : PureC Try.prog J0 15 #[] (.bool true) := fun fm w args' _ _ ha => by
 have e : args' = #[] := by exact Array.eq_empty_of_size_eq_zero ha.1.symm
 subst e
 exact (known_true w).mono fun _ _ h => ⟨_, h.1, h.2, .simple rfl⟩
end Go.Proofs.Ytiigkdhaofaijaa

namespace Go.Proofs.Ytiigkdhaofaijaa
open Go Go.CE Go.RowKit
set_option maxRecDepth 100000
noncomputable def lshort_p0 (B : Lo) (s : WShore) : List Prop := [(!ltq 12 (↑s.cells.length : Int)) = true] ++ ([] : List Prop)
noncomputable def lshort_q0 (s : WShore) : ScriptT := [(5, hvT)]
theorem lshort_s0 (B : Lo) (s : WShore) : endT (srunT Try.prog (okFn Try.prog) J0 B 6 1 (entryC Try.prog 14 13 (([.agg (encShore s).toArray]).map (pushT 0 4))) H00 1
 (lshort_q0 s ++ [(10, hvT)]) 0 [] []) [] = some (Value.bool true,
 [(!ltq 8 (↑s.works.length : Int)) = true] ++ lshort_p0 B s) := by kernel_rfl
theorem lshort_s1 (B : Lo) (s : WShore) : endT (srunT Try.prog (okFn Try.prog) J0 B 6 1 (entryC Try.prog 14 13 (([.agg (encShore s).toArray]).map (pushT 0 4))) H00 1
 (lshort_q0 s ++ [(10, hvF)]) 0 [] []) [] = some (Value.bool false,
 [(!ltq 8 (↑s.works.length : Int)) = false] ++ lshort_p0 B s) := by kernel_rfl
theorem lshort_s2 (B : Lo) (s : WShore) : endT (srunT Try.prog (okFn Try.prog) J0 B 6 1 (entryC Try.prog 14 13 (([.agg (encShore s).toArray]).map (pushT 0 4))) H00 1
 [(5, hvF)] 0 [] []) [] = some (Value.bool false,
 [(!ltq 12 (↑s.cells.length : Int)) = false]) := by kernel_rfl
set_option maxHeartbeats 4000000 in
theorem lshort_e (s : WShore)  (hfacts : s.cells.length ≤ 9223372036854775807 ∧ s.works.length ≤ 9223372036854775807) {B : Lo} (hJ : ∀ w, B.has w → J0 w) : EndsT Try.prog B (entryC Try.prog 14 13 (([.agg (encShore s).toArray]).map (pushT 0 4))) (.bool (decide (s.cells.length ≤ 12) && decide (s.works.length ≤ 8))) := by
 by_cases q0 : ((↑s.cells.length : Int) : Int) ≤ (12)
 ·
  have hp0 : AllP (lshort_p0 B s) := by
   exact ⟨(nltq_t q0), trivial⟩
  by_cases q1 : ((↑s.works.length : Int) : Int) ≤ (8)
  ·
   exact (GoE.endsT okF hJ mixed_ok GoE.start (lshort_s0 B s)
    ⟨(nltq_t q1), hp0⟩).cast (by (simp_all []; omega))
  ·
   exact (GoE.endsT okF hJ mixed_ok GoE.start (lshort_s1 B s)
    ⟨(nltq_f (Int.not_le.1 q1)), hp0⟩).cast (by (simp_all []; omega))
 ·
  exact (GoE.endsT okF hJ mixed_ok GoE.start (lshort_s2 B s)
   ⟨(nltq_f (Int.not_le.1 q0)), trivial⟩).cast (by (simp_all []; omega))
theorem lshort (s : WShore)  : PureC Try.prog J0 14 #[.agg (encShore s).toArray] (.bool (decide (s.cells.length ≤ 12) && decide (s.works.length ≤ 8))) :=
 pureC_ofF (ts := [.agg (encShore s).toArray]) (s.cells.length ≤ 9223372036854775807 ∧ s.works.length ≤ 9223372036854775807) (fun _ _ ht => ⟨ht.ln2 (i := 0) (j := 0) rfl rfl, ht.ln2 (i := 0) (j := 1) rfl rfl⟩) J0_st (c0 := entryC Try.prog 14 13 (([.agg (encShore s).toArray]).map (pushT 0 4))) (by kernel_rfl) (by kernel_rfl) fun hfacts B hJ => lshort_e s  hfacts hJ
noncomputable def lbuilt_z0 (s : WShore) : Array Value := #[slT s.cells.length (rowL encWCell s.cells), slT s.works.length (rowL encWWork s.works), .int .i64 s.reef, .int .i64 s.llo, .int .i64 s.lhi]
noncomputable def lbuilt_p0 (B : Lo) (s : WShore) (c : WStorm) (plan : List Int) : List Prop := [AllP [] ∧ PureC Try.prog J0 19 #[Value.agg (lbuilt_z0 s)] (Value.bool true)] ++ ([] : List Prop)
noncomputable def lbuilt_q0 (s : WShore) (c : WStorm) (plan : List Int) : ScriptT := [(4, HintT.pure (Value.bool true) [])]
noncomputable def lbuilt_p1 (B : Lo) (s : WShore) (c : WStorm) (plan : List Int) : List Prop := [AllP [] ∧ PureC Try.prog J0 20 #[Value.agg #[.int .i64 c.wlo, .int .i64 c.whi, .int .i64 c.flo, .int .i64 c.fhi, .int .i64 c.tlo, .int .i64 c.thi]] (Value.bool true)] ++ lbuilt_p0 B s c plan
noncomputable def lbuilt_q1 (s : WShore) (c : WStorm) (plan : List Int) : ScriptT := lbuilt_q0 s c plan ++ [(7, HintT.pure (Value.bool true) [])]
theorem lbuilt_s0 (B : Lo) (s : WShore) (c : WStorm) (plan : List Int) : endT (srunT Try.prog (okFn Try.prog) J0 B 6 1 (entryC Try.prog 25 18 (([.agg (encShore s).toArray, .agg (encStorm c).toArray, slI plan]).map (pushT 0 4))) H00 1
 (lbuilt_q1 s c plan ++ [(12, HintT.pure (Value.bool true) [])]) 0 [] []) [] = some (Value.bool true,
 [AllP [] ∧ PureC Try.prog J0 46 #[Value.agg (lbuilt_z0 s), slT plan.length (rowL encI plan)] (Value.bool true)] ++ lbuilt_p1 B s c plan) := by kernel_rfl
theorem lbuilt_s1 (B : Lo) (s : WShore) (c : WStorm) (plan : List Int) : endT (srunT Try.prog (okFn Try.prog) J0 B 6 1 (entryC Try.prog 25 18 (([.agg (encShore s).toArray, .agg (encStorm c).toArray, slI plan]).map (pushT 0 4))) H00 1
 (lbuilt_q1 s c plan ++ [(12, HintT.pure (Value.bool false) [])]) 0 [] []) [] = some (Value.bool false,
 [AllP [] ∧ PureC Try.prog J0 46 #[Value.agg (lbuilt_z0 s), slT plan.length (rowL encI plan)] (Value.bool false)] ++ lbuilt_p1 B s c plan) := by kernel_rfl
theorem lbuilt_s2 (B : Lo) (s : WShore) (c : WStorm) (plan : List Int) : endT (srunT Try.prog (okFn Try.prog) J0 B 6 1 (entryC Try.prog 25 18 (([.agg (encShore s).toArray, .agg (encStorm c).toArray, slI plan]).map (pushT 0 4))) H00 1
 (lbuilt_q0 s c plan ++ [(7, HintT.pure (Value.bool false) [])]) 0 [] []) [] = some (Value.bool false,
 [AllP [] ∧ PureC Try.prog J0 20 #[Value.agg #[.int .i64 c.wlo, .int .i64 c.whi, .int .i64 c.flo, .int .i64 c.fhi, .int .i64 c.tlo, .int .i64 c.thi]] (Value.bool false)] ++ lbuilt_p0 B s c plan) := by kernel_rfl
theorem lbuilt_s3 (B : Lo) (s : WShore) (c : WStorm) (plan : List Int) : endT (srunT Try.prog (okFn Try.prog) J0 B 6 1 (entryC Try.prog 25 18 (([.agg (encShore s).toArray, .agg (encStorm c).toArray, slI plan]).map (pushT 0 4))) H00 1
 [(4, HintT.pure (Value.bool false) [])] 0 [] []) [] = some (Value.bool false,
 [AllP [] ∧ PureC Try.prog J0 19 #[Value.agg (lbuilt_z0 s)] (Value.bool false)]) := by kernel_rfl
set_option maxHeartbeats 4000000 in
theorem lbuilt_e (s : WShore) (c : WStorm) (plan : List Int)  {B : Lo} (hJ : ∀ w, B.has w → J0 w) : EndsT Try.prog B (entryC Try.prog 25 18 (([.agg (encShore s).toArray, .agg (encStorm c).toArray, slI plan]).map (pushT 0 4))) (.bool (shoreB s && (stormB c && planB s plan))) := by
 cases q0 : shoreB s with
 | true =>
   have hp0 : AllP (lbuilt_p0 B s c plan) := by
    exact ⟨⟨trivial, (by have t_ := rShore (s); rw [q0] at t_; exact t_)⟩, trivial⟩
   cases q1 : stormB c with
   | true =>
     have hp1 : AllP (lbuilt_p1 B s c plan) := by
      exact ⟨⟨trivial, (by have t_ := rStorm (c); rw [q1] at t_; exact t_)⟩, hp0⟩
     cases q2 : planB s plan with
     | true =>
       exact (GoE.endsT okF hJ mixed_ok GoE.start (lbuilt_s0 B s c plan)
        ⟨⟨trivial, (by have t_ := rPlan (s) (plan); rw [q2] at t_; exact t_)⟩, hp1⟩).cast (by rfl)
     | false =>
       exact (GoE.endsT okF hJ mixed_ok GoE.start (lbuilt_s1 B s c plan)
        ⟨⟨trivial, (by have t_ := rPlan (s) (plan); rw [q2] at t_; exact t_)⟩, hp1⟩).cast (by rfl)
   | false =>
     exact (GoE.endsT okF hJ mixed_ok GoE.start (lbuilt_s2 B s c plan)
      ⟨⟨trivial, (by have t_ := rStorm (c); rw [q1] at t_; exact t_)⟩, hp0⟩).cast (by rfl)
 | false =>
   exact (GoE.endsT okF hJ mixed_ok GoE.start (lbuilt_s3 B s c plan)
    ⟨⟨trivial, (by have t_ := rShore (s); rw [q0] at t_; exact t_)⟩, trivial⟩).cast (by rfl)
theorem lbuilt (s : WShore) (c : WStorm) (plan : List Int)  : PureC Try.prog J0 25 #[.agg (encShore s).toArray, .agg (encStorm c).toArray, slI plan] (.bool (shoreB s && (stormB c && planB s plan))) :=
 pureC_of (ts := [.agg (encShore s).toArray, .agg (encStorm c).toArray, slI plan]) J0_st (c0 := entryC Try.prog 25 18 (([.agg (encShore s).toArray, .agg (encStorm c).toArray, slI plan]).map (pushT 0 4))) (by kernel_rfl) (by kernel_rfl) fun B hJ => lbuilt_e s c plan  hJ
end Go.Proofs.Ytiigkdhaofaijaa

namespace Go.Proofs.Ytiigkdhaofaijaa
open Go Go.CE Go.RowKit
def shSpan : Sh := shS [.int, .int]
def shWCell : Sh := shS [.int, shSpan, .int]
def shWWork : Sh := shS [.int, .int, .int]
def shShore : Sh := shS [.slice shWCell, .slice shWWork, .int, shSpan]
def shStorm : Sh := shS [shSpan, shSpan, shSpan]
def shTruth : Sh := shS [.int, .int, .int, .int, .slice .int]
theorem dec_span {cs : List Value} (h : shSpan.ok cs) : ∃ s : Span, cs = encSp s := by
 obtain ⟨_, _, rfl, ⟨a, _, rfl⟩, _, _, rfl, ⟨b, _, rfl⟩, rfl⟩ := h
 exact ⟨⟨a, b⟩, rfl⟩
theorem dec_cell {cs : List Value} (h : shWCell.ok cs) : ∃ s : WCell, cs = encWCell s := by
 obtain ⟨_, _, rfl, ⟨a, _, rfl⟩, _, _, rfl, h2, _, _, rfl, ⟨b, _, rfl⟩, rfl⟩ := h
 obtain ⟨d, rfl⟩ := dec_span h2
 exact ⟨⟨a, d.lo, d.hi, b⟩, rfl⟩
theorem dec_work {cs : List Value} (h : shWWork.ok cs) : ∃ s : WWork, cs = encWWork s := by
 obtain ⟨_, _, rfl, ⟨a, _, rfl⟩, _, _, rfl, ⟨b, _, rfl⟩, _, _, rfl, ⟨c, _, rfl⟩, rfl⟩ := h
 exact ⟨⟨a, b, c⟩, rfl⟩
theorem arg_shore {v : Value} (h : shShore.arg v) : ∃ s : WShore, v = .agg (encShore s).toArray := by
 obtain ⟨cs, rfl, h⟩ := h
 obtain ⟨_, _, rfl, h1, _, _, rfl, h2, _, _, rfl, ⟨r, _, rfl⟩, _, _, rfl, h4, rfl⟩ := h
 obtain ⟨xs, rfl⟩ := sh_slice (fun _ => dec_cell) h1
 obtain ⟨ws, rfl⟩ := sh_slice (fun _ => dec_work) h2
 obtain ⟨l, rfl⟩ := dec_span h4
 exact ⟨⟨xs, ws, r, l.lo, l.hi⟩, rfl⟩
theorem arg_storm {v : Value} (h : shStorm.arg v) : ∃ c : WStorm, v = .agg (encStorm c).toArray := by
 obtain ⟨cs, rfl, h⟩ := h
 obtain ⟨_, _, rfl, h1, _, _, rfl, h2, _, _, rfl, h3, rfl⟩ := h
 obtain ⟨a, rfl⟩ := dec_span h1
 obtain ⟨b, rfl⟩ := dec_span h2
 obtain ⟨d, rfl⟩ := dec_span h3
 exact ⟨⟨a.lo, a.hi, b.lo, b.hi, d.lo, d.hi⟩, rfl⟩
theorem arg_truth {v : Value} (h : shTruth.arg v) : ∃ t : WTruth, v = .agg (encTruth t).toArray := by
 obtain ⟨cs, rfl, h⟩ := h
 obtain ⟨_, _, rfl, ⟨a, _, rfl⟩, _, _, rfl, ⟨b, _, rfl⟩, _, _, rfl, ⟨c, _, rfl⟩, _, _, rfl, ⟨d, _, rfl⟩, _, _, rfl, h5, rfl⟩ := h
 obtain ⟨xs, rfl⟩ := sh_slice (fun _ => sh_int) h5
 exact ⟨⟨a, b, c, d, xs⟩, rfl⟩
theorem arg_int {v : Value} (h : Sh.arg .int v) : ∃ z : Int, v = .int .i64 z := by
 obtain ⟨z, _, h⟩ := h
 exact ⟨z, by simpa using h⟩
theorem arg_ints {v : Value} (h : Sh.arg (.slice .int) v) : ∃ xs : List Int, v = slI xs := by
 obtain ⟨xs, hx⟩ := sh_slice (fun _ => sh_int) (show Sh.ok (.slice .int) [v] from h)
 exact ⟨xs, by simpa using hx⟩
end Go.Proofs.Ytiigkdhaofaijaa

namespace Go.Proofs.Ytiigkdhaofaijaa
open Go Go.CE Go.RowKit
theorem playI_bd {s : WShore} {plan : List Int} {t : WTruth} : ∀ (l : List Int) (lv : Int) (r : Bool), (∀ i ∈ l, 0 ≤ (wk s plan i).rise ∧ 0 ≤ (wk s plan i).calm ∧ -5000 ≤ gr s i ∧ 0 ≤ t.drags.getD i.toNat default) → lv ≤ 15000 → ∀ x ∈ playI s plan t l lv r, 0 ≤ x ∧ x ≤ 20000
 | [], _, _, _, _, x, hx => by simp [playI] at hx
 | i :: l, lv, r, h, hl, x, hx => by
   obtain ⟨h1, h2, h3, h4⟩ := h i (by simp)
   simp only [playI, List.mem_cons] at hx
   rcases hx with rfl | hx
   ·cases e : (r && decide (gr s i + (wk s plan i).rise < lv - t.drags.getD i.toNat default - (wk s plan i).calm)) with
    | true => rw [cond_true]; simp only [Bool.and_eq_true, decide_eq_true_iff] at e; omega
    | false => simp
   ·exact playI_bd l _ _ (fun j hj => h j (by simp [hj])) (by omega) x hx
theorem all_in {s : WShore} {plan : List Int} {t : WTruth} (hs : shoreB s = true) (hp : planB s plan = true) (ht : tOk s t) : ∀ i ∈ upI 0 s.cells.length, 0 ≤ (wk s plan i).rise ∧ 0 ≤ (wk s plan i).calm ∧ -5000 ≤ gr s i ∧ 0 ≤ t.drags.getD i.toNat default := by
 intro i hi
 obtain ⟨i0, i1⟩ := mem_upI.1 hi
 have h1 := wk_in hs hp i0 i1
 have h2 := gr_in hs i0 i1
 have h3 := drag_in ht i0 i1
 omega
theorem play_bd {s : WShore} {plan : List Int} {t : WTruth} (hs : shoreB s = true) (hp : planB s plan = true) (ht : tOk s t) : ∀ x ∈ playL s plan t, 0 ≤ x ∧ x ≤ 20000 :=
 playI_bd _ _ _ (all_in hs hp ht) (level_in ht).2
theorem play_bd' {s : WShore} {plan : List Int} {t : WTruth} (hs : shoreB s = true) (hp : planB s plan = true) (ht : tOk s t) (k : Nat) : 0 ≤ (playL s plan t).getD k default ∧ (playL s plan t).getD k default ≤ 20000 := by
 by_cases h : k < (playL s plan t).length
 ·rw [List.getD_eq_getElem?_getD, List.getElem?_eq_getElem h]; exact play_bd hs hp ht _ (List.getElem_mem h)
 ·rw [List.getD_eq_getElem?_getD, List.getElem?_eq_none (by omega)]
  show 0 ≤ (0 : Int) ∧ (0 : Int) ≤ 20000; omega
theorem between_k {s : WShore} {c : WStorm} {plan : List Int} {t : WTruth} (hs : shoreB s = true) (hc : stormB c = true) (hp : planB s plan = true) (ht : truthB s c t = true) (k : Nat) : (playL s plan (endE false s c)).getD k default ≤ (playL s plan t).getD k default ∧ (playL s plan t).getD k default ≤ (playL s plan (endE true s c)).getD k default := by
 have h := between hs hc hp ht
 exact ⟨(leL_get h.1).2 k, (leL_get h.2.1).2 k⟩
end Go.Proofs.Ytiigkdhaofaijaa

namespace Go.Proofs.Ytiigkdhaofaijaa
open Go Go.CE Go.RowKit
set_option maxRecDepth 100000

end Go.Proofs.Ytiigkdhaofaijaa

