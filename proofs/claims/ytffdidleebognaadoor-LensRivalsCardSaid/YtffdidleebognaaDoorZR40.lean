/- lens: the fewest tanks of the chapter's islet. -/
import Derived.Test.YtffdidleebognaaDoorZR37
import Derived.Test.YtffdidleebognaaDoorZR38
import Derived.Test.YtffdidleebognaaDoorZR39
namespace Go.CE
open Go Go.RowKit Go.Proofs
noncomputable def orcFew : Orc := memoOrc [m22_2155, m22_2598, m22_2853, m22_3296, m22_3739, m22_4182]
theorem orcFew_ok (B : Lo) : OrcS Tryd.prog B orcFew := orcS_cons goFns_ok mixed_ok (noOrc_ok _ _) m22_2155_ok (orcS_cons goFns_ok mixed_ok (noOrc_ok _ _) m22_2598_ok (orcS_cons goFns_ok mixed_ok (noOrc_ok _ _) m22_2853_ok (orcS_cons goFns_ok mixed_ok (noOrc_ok _ _) m22_3296_ok (orcS_cons goFns_ok mixed_ok (noOrc_ok _ _) m22_3739_ok (orcS_cons goFns_ok mixed_ok (noOrc_ok _ _) m22_4182_ok (orcS_nil _ _))))))
def m7_2120 : Memo :=
  ⟨7, #[.agg #[inN 1000, inN 400, inN 600, inN 200, inN 10000, inN 300, inN 400, inN 50, inN 100, inN 30, inN 250, inN 10, .slice (some ⟨2118, 0, none⟩) 2 1, .slice (some ⟨2119, 0, none⟩) 3 6, inN 2, inN 2]], [(2118, .cells #[inN 200, inN 300] 3 (0, 0)), (2119, .cells #[inN 100, inN 150, inN 0, inN 20, inN 40, inN 50, inN 100, inN 150, inN 0, inN 20, inN 40, inN 50, inN 100, inN 150, inN 0, inN 20, inN 40, inN 50] 70 (0, 0))], 2120, .tuple #[inN 12, inN 0], [], 4437⟩
theorem m7_2120_ok : isMemo m7_2120 (m7_2120.run Tryd.prog goFns orcFew 100000) = true := by decide +kernel
end Go.CE
