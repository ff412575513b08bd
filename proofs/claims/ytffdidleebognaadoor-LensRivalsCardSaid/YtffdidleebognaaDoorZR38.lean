/- lens: the first faults of the chapter's islet with some numbers of tanks. -/
import Derived.Test.YtffdidleebognaaDoorZR13
namespace Go.CE
open Go Go.RowKit Go.Proofs
def m22_2598 : Memo :=
  ⟨22, #[.agg #[inN 1000, inN 400, inN 600, inN 200, inN 10000, inN 300, inN 400, inN 50, inN 100, inN 30, inN 250, inN 10, .slice (some ⟨2118, 0, none⟩) 2 1, .slice (some ⟨2119, 0, none⟩) 3 6, inN 2, inN 2], inN 10], [(2118, .cells #[inN 200, inN 300] 3 (0, 0)), (2119, .cells #[inN 100, inN 150, inN 0, inN 20, inN 40, inN 50, inN 100, inN 150, inN 0, inN 20, inN 40, inN 50, inN 100, inN 150, inN 0, inN 20, inN 40, inN 50] 70 (0, 0))], 2598, .agg #[.slice (some ⟨2791, 0, none⟩) 3 1, inN 2, inN 2, inN 0], [(2791, .cells #[.bool false, .bool true, .bool true] 4 (0, 0))], 2853⟩
theorem m22_2598_ok : isMemo m22_2598 (m22_2598.run Tryd.prog goFns noOrc 100000) = true := by decide +kernel
def m22_3739 : Memo :=
  ⟨22, #[.agg #[inN 1000, inN 400, inN 600, inN 200, inN 10000, inN 300, inN 400, inN 50, inN 100, inN 30, inN 250, inN 10, .slice (some ⟨2118, 0, none⟩) 2 1, .slice (some ⟨2119, 0, none⟩) 3 6, inN 2, inN 2], inN 12], [(2118, .cells #[inN 200, inN 300] 3 (0, 0)), (2119, .cells #[inN 100, inN 150, inN 0, inN 20, inN 40, inN 50, inN 100, inN 150, inN 0, inN 20, inN 40, inN 50, inN 100, inN 150, inN 0, inN 20, inN 40, inN 50] 70 (0, 0))], 3739, .agg #[.slice none 0 0, inN 0, inN 1, inN 0], [], 4182⟩
theorem m22_3739_ok : isMemo m22_3739 (m22_3739.run Tryd.prog goFns noOrc 100000) = true := by decide +kernel
end Go.CE
