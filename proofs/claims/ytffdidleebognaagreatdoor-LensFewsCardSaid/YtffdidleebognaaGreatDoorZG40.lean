/- lens: the fewest tanks of the chapter's islet. -/
import Derived.Test.YtffdidleebognaaGreatDoorZG37
import Derived.Test.YtffdidleebognaaGreatDoorZG38
import Derived.Test.YtffdidleebognaaGreatDoorZG39
namespace Go.CE
open Go Go.RowKit Go.Proofs
noncomputable def orcFew : Orc := memoOrc [m47_2155, m47_2598, m47_2853, m47_3296, m47_3739, m47_4182]
theorem orcFew_ok (B : Lo) : OrcS Tryz.prog B orcFew := orcS_cons goFns_ok mixed_ok (noOrc_ok _ _) m47_2155_ok (orcS_cons goFns_ok mixed_ok (noOrc_ok _ _) m47_2598_ok (orcS_cons goFns_ok mixed_ok (noOrc_ok _ _) m47_2853_ok (orcS_cons goFns_ok mixed_ok (noOrc_ok _ _) m47_3296_ok (orcS_cons goFns_ok mixed_ok (noOrc_ok _ _) m47_3739_ok (orcS_cons goFns_ok mixed_ok (noOrc_ok _ _) m47_4182_ok (orcS_nil _ _))))))
def m31_2120 : Memo :=
  ⟨31, #[.agg #[inN 1000, inN 400, inN 600, inN 200, inN 10000, inN 300, inN 400, inN 50, inN 100, inN 30, inN 250, inN 10, .slice (some ⟨2118, 0, none⟩) 2 1, .slice (some ⟨2119, 0, none⟩) 3 6, inN 2, inN 2]], [(2118, .cells #[inN 200, inN 300] 3 (0, 0)), (2119, .cells #[inN 100, inN 150, inN 0, inN 20, inN 40, inN 50, inN 100, inN 150, inN 0, inN 20, inN 40, inN 50, inN 100, inN 150, inN 0, inN 20, inN 40, inN 50] 81 (0, 0))], 2120, .tuple #[inN 12, inN 0], [], 4437⟩
theorem m31_2120_ok : isMemo m31_2120 (m31_2120.run Tryz.prog goFns orcFew 100000) = true := by decide +kernel
end Go.CE
