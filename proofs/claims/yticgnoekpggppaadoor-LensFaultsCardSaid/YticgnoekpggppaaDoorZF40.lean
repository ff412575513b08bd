/- lens: the fewest tanks of the chapter's islet. -/
import Derived.Test.YticgnoekpggppaaDoorZF37
import Derived.Test.YticgnoekpggppaaDoorZF38
import Derived.Test.YticgnoekpggppaaDoorZF39
namespace Go.CE
open Go Go.RowKit Go.Proofs
noncomputable def orcFew : Orc := memoOrc [m53_1847, m53_2290, m53_2545, m53_2988, m53_3431, m53_3874]
theorem orcFew_ok (B : Lo) : OrcS Tryd.prog B orcFew := orcS_cons goFns_ok mixed_ok (noOrc_ok _ _) m53_1847_ok (orcS_cons goFns_ok mixed_ok (noOrc_ok _ _) m53_2290_ok (orcS_cons goFns_ok mixed_ok (noOrc_ok _ _) m53_2545_ok (orcS_cons goFns_ok mixed_ok (noOrc_ok _ _) m53_2988_ok (orcS_cons goFns_ok mixed_ok (noOrc_ok _ _) m53_3431_ok (orcS_cons goFns_ok mixed_ok (noOrc_ok _ _) m53_3874_ok (orcS_nil _ _))))))
def m35_1824 : Memo :=
  ⟨35, #[.agg #[inN 1000, inN 400, inN 600, inN 200, inN 10000, inN 300, inN 400, inN 50, inN 100, inN 30, inN 250, inN 10, .slice (some ⟨1822, 0, none⟩) 2 1, .slice (some ⟨1823, 0, none⟩) 3 6, inN 2, inN 2]], [(1822, .cells #[inN 200, inN 300] 3 (0, 0)), (1823, .cells #[inN 100, inN 150, inN 0, inN 20, inN 40, inN 50, inN 100, inN 150, inN 0, inN 20, inN 40, inN 50, inN 100, inN 150, inN 0, inN 20, inN 40, inN 50] 77 (0, 0))], 1824, .tuple #[inN 12, inN 0], [], 4129⟩
theorem m35_1824_ok : isMemo m35_1824 (m35_1824.run Tryd.prog goFns orcFew 100000) = true := by decide +kernel
end Go.CE
