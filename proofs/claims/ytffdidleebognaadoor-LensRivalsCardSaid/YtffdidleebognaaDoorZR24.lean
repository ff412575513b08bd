/- Contract of supply. -/
import Derived.WalkLawsBesides
import Derived.Test.YtffdidleebognaaDoorZR18
namespace Go.Proofs.YtffdidleebognaaDoor
open Go Go.RowKit Lens
set_option maxHeartbeats 800000 in
theorem supply_any (b nb off : Nat) (cs : Array Value) (nn nc k : Nat) (need tanks lens pump keep u0 : Int) (w : World) (hF : w.heap[b]? = some (.cells cs 93 (0, 0)))
    (h21 : cs[21]? = some (.slice (some ⟨nb, off, none⟩) nn nc)) (h23 : cs[23]? = some (.int .i64 k)) (hk : k < nn) (hneed : w.cell? ⟨nb, off + k, none⟩ = some (.int .i64 need))
    (h24 : cs[24]? = some (.int .i64 tanks)) (h25 : cs[25]? = some (.int .i64 lens)) (h9 : cs[9]? = some (.int .i64 pump)) (h10 : cs[10]? = some (.int .i64 keep)) (h29 : cs[29]? = some (.int .i64 u0))
    (a0 : 0 ≤ need) (a1 : need ≤ 10000000) (b0 : 0 ≤ tanks) (b1 : tanks ≤ 1000000000) (c0 : 0 ≤ lens) (c1 : lens ≤ 1000000000) (d0 : 0 ≤ pump) (d1 : pump ≤ 1000000000) (e0 : 0 ≤ keep) (e1 : keep ≤ 1000000000) (g0 : 0 ≤ u0) (g1 : u0 ≤ 1000000000000) (h26 : 26 < cs.size) :
    Calls Tryd.prog 44 #[.pointer (some ⟨b, 0, none⟩)] w
   fun e' w' => e' = .returned (.tuple #[]) ∧ w'.heap[b]? = some (.cells ((((cs.setIfInBounds 24 (.int .i64 (tanks - min need tanks))).setIfInBounds 25 (.int .i64 (lens - min (min (need - min need tanks) pump) (max 0 (lens - keep))))).setIfInBounds 26
      (.int .i64 (need - min need tanks - min (min (need - min need tanks) pump) (max 0 (lens - keep))))).setIfInBounds 29 (.int .i64 (u0 + (min need tanks + min (min (need - min need tanks) pump) (max 0 (lens - keep)))))) 93 (0, 0)) ∧ w.grownBy w' (some b) := by
  have e21 := cellOf hF h21
  have e23 := cellOf hF h23
  have e24 := cellOf hF h24
  have e25 := cellOf hF h25
  have e9 := cellOf hF h9
  have e10 := cellOf hF h10
  have e29 := cellOf hF h29
  have e26 := cellOf hF (Array.getElem?_eq_getElem h26)
  generalize cs[26] = old26 at e26
  have f24 := freeOf (k := 24) hF
  have f25 := freeOf (k := 25) hF
  have f26 := freeOf (k := 26) hF
  have f29 := freeOf (k := 29) hF
  have hbl := ltOf hF
  have HF := Lib.hid hF
  clear hF h21 h23 h24 h25 h9 h10 h29 h26
  have k0 : (0 : Int) ≤ (k : Int) := Int.natCast_nonneg _
  have k1 : (k : Int) < (nn : Int) := by omega
  generalize hT : min need tanks = T at *
  have hT0 : 0 ≤ T := by omega
  have hT1 : T ≤ need := by omega
  have hT2 : T ≤ tanks := by omega
  generalize hM : max 0 (lens - keep) = M at *
  have hM0 : 0 ≤ M := by omega
  have hM1 : M ≤ lens := by omega
  generalize hP : min (min (need - T) pump) M = U at *
  have hU0 : 0 ≤ U := by omega
  have hU1 : U ≤ need - T := by omega
  have hU2 : U ≤ lens := by omega
  have hm1 : (if tanks < need then tanks else need) = T := by omega
  have hm2 : (if keep < lens then lens - keep else 0) = M := by omega
  have hm2' : (if 0 < lens - keep then lens - keep else 0) = M := by omega
  obtain ⟨D, hD⟩ : ∃ D, need - T = D := ⟨_, rfl⟩
  have hm3 : (if M < (if pump < D then pump else D) then M else (if pump < D then pump else D)) = U := by omega
  clear hT hM hP
  rw [hD] at hU1
  go_enter Tryd.func44, Tryd.ntmps44
  go_wp2_with fail
  go_region_held3 (fun w' => w'.cell? ⟨b, 21, none⟩ = some (.slice (some ⟨nb, off, none⟩) nn nc) ∧ w'.cell? ⟨b, 23, none⟩ = some (.int .i64 k) ∧ w'.cell? ⟨nb, off + k, none⟩ = some (.int .i64 need)) (go_keep) (fail)
  go_wp2_with fail
  have hw1 : IntKind.i64.wrap (lens - keep) = lens - keep := IntWalk.i64_in _ (by omega)
  have hw2 : IntKind.i64.wrap D = D := IntWalk.i64_in _ (by omega)
  go_region_held3 (fun w' => w'.cell? ⟨b, 9, none⟩ = some (.int .i64 pump) ∧ w'.cell? ⟨b, 25, none⟩ = some (.int .i64 lens) ∧ w'.cell? ⟨b, 10, none⟩ = some (.int .i64 keep)) (go_keep) (fail)
  clear hm1 hm2 hm2' hm3 hw1 hw2
  go_wp2_with fail
  go_end0
  refine ⟨rfl, ?_, ?_⟩
  · rw [hD]
    repeat (first | with_reducible exact HF.out | with_reducible apply drewOf | with_reducible apply allocOf | with_reducible apply setOf')
  · repeat (first | with_reducible exact grown_refl _ _ | with_reducible apply g_drew | with_reducible apply g_alloc | with_reducible apply g_set)
end Go.Proofs.YtffdidleebognaaDoor
