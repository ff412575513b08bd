/- lens: the rows of the chapter's examples: known() returns true, whatever the world is in which strconv's table stands. -/
import Derived.Test.YtffdidleebognaaDoorZR34
import Derived.Test.YtffdidleebognaaDoorZR36
import Derived.Test.YtffdidleebognaaDoorZR40
import Derived.Test.YtffdidleebognaaDoorZR41
namespace Go.CE
open Go Go.RowKit Go.Proofs
noncomputable def orcTop : Orc := memoOrc [m11_13, m13_95, m8_1821, m7_2120, m14_4438]
theorem orcTop_ok {n0 : Nat} (h0 : 0 < n0) : OrcS Tryd.prog (tabLo n0 h0) orcTop := orcS_cons goFns_ok mixed_ok (noOrc_ok _ _) m11_13_ok (orcS_cons goFns_ok mixed_ok (orcFol_ok _) m13_95_ok (orcS_cons goFns_ok mixed_ok (orcFault_ok _) m8_1821_ok (orcS_cons goFns_ok mixed_ok (orcFew_ok _) m7_2120_ok (orcS_cons goFns_ok mixed_ok (strOrc_ok h0) m14_4438_ok (orcS_nil _ _)))))
theorem known_ans : isAns (callC Tryd.prog goFns orcTop 100000 6 #[] (heapOf 0 []) ([] : List (Array Value × TypeId)).length) (.bool true) [] = true := by decide +kernel
theorem known_true {w : World} (ht : pow10Is w) : Calls Tryd.prog 6 #[] w fun e w' => e = .returned (.bool true) ∧ Below w.heap.size w w' := by
  have hc := calls_ans goFns_ok mixed_ok (at' := []) (args' := #[]) known_ans (w := w) (orcTop_ok (pow10_pos ht)) ht rfl (fun i x a h => by simp at h) ⟨rfl, fun i v v' h => by simp at h⟩
  intro cs
  obtain ⟨e, w', fr, ⟨v', n', H', μ', he, hp, hv, hb, hun, hbel⟩, h1, h2, h3⟩ := hc cs
  exact ⟨e, w', fr, ⟨by rw [he, af_eq rfl hv], hbel⟩, h1, h2, h3⟩
end Go.CE
