/- lens: the first faults of the chapter's islet with some numbers of tanks. -/
import Derived.Test.YtffdidleebognaaDoorZR13
namespace Go.CE
open Go Go.RowKit Go.Proofs
def m22_2853 : Memo :=
  ⟨22, #[.agg #[inN 1000, inN 400, inN 600, inN 200, inN 10000, inN 300, inN 400, inN 50, inN 100, inN 30, inN 250, inN 10, .slice (some ⟨2118, 0, none⟩) 2 1, .slice (some ⟨2119, 0, none⟩) 3 6, inN 2, inN 2], inN 15], [(2118, .cells #[inN 200, inN 300] 3 (0, 0)), (2119, .cells #[inN 100, inN 150, inN 0, inN 20, inN 40, inN 50, inN 100, inN 150, inN 0, inN 20, inN 40, inN 50, inN 100, inN 150, inN 0, inN 20, inN 40, inN 50] 70 (0, 0))], 2853, .agg #[.slice none 0 0, inN 0, inN 1, inN 0], [], 3296⟩
theorem m22_2853_ok : isMemo m22_2853 (m22_2853.run Tryd.prog goFns noOrc 100000) = true := by decide +kernel
def m22_4182 : Memo :=
  ⟨22, #[.agg #[inN 1000, inN 400, inN 600, inN 200, inN 10000, inN 300, inN 400, inN 50, inN 100, inN 30, inN 250, inN 10, .slice (some ⟨2118, 0, none⟩) 2 1, .slice (some ⟨2119, 0, none⟩) 3 6, inN 2, inN 2], inN 11], [(2118, .cells #[inN 200, inN 300] 3 (0, 0)), (2119, .cells #[inN 100, inN 150, inN 0, inN 20, inN 40, inN 50, inN 100, inN 150, inN 0, inN 20, inN 40, inN 50, inN 100, inN 150, inN 0, inN 20, inN 40, inN 50] 70 (0, 0))], 4182, .agg #[.slice (some ⟨4375, 0, none⟩) 3 1, inN 2, inN 2, inN 0], [(4375, .cells #[.bool false, .bool true, .bool true] 4 (0, 0))], 4437⟩
theorem m22_4182_ok : isMemo m22_4182 (m22_4182.run Tryd.prog goFns noOrc 100000) = true := by decide +kernel
end Go.CE
