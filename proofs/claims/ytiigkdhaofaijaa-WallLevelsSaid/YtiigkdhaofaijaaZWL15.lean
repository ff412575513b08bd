/- layer 08: calls within known() -/
import Derived.Test.YtiigkdhaofaijaaZWL13
import Derived.Test.YtiigkdhaofaijaaZWL14
set_option linter.all false
namespace Go.Proofs.Ytiigkdhaofaijaa
open Go Go.CE Go.RowKit
noncomputable def orc_m38_424 : Orc := orElse insOrc (memoOrc [m106_496, m106_515, m106_534, m106_553, m107_573, m106_590, m107_610, m106_629, m107_649, m108_666, m107_717, m106_748, m107_767, m106_798, m106_817, m107_837, m106_854, m107_874, m106_893, m107_913, m108_930, m107_981, m108_1012, m107_1075, m106_1106, m107_1125, m106_1156, m106_1175, m107_1194, m106_1225, m106_1244, m107_1264, m106_1283, m107_1303, m106_1322, m107_1342, m108_1361, m107_1424, m106_1457, m106_1476, m107_1496, m106_1513, m107_1533, m106_1552, m107_1572, m108_1591, m107_1648, m108_1679, m107_1757, m108_1801, m107_1879, m106_1923, m107_1942, m106_1986, m106_2005, m107_2024, m106_2068, m107_2087, m106_2131, m106_2150, m107_2169, m106_2200, m107_2219, m106_2252, m107_2271, m108_2304, m107_2388, m108_2432, m107_2522, m108_2566])
theorem orc_m38_424_ok (B : Lo) : OrcS Try.prog B orc_m38_424 := orElse_ok (insOrc_ok _) (orcS_cons goFns_ok mixed_ok (orc_m106_496_ok _) m106_496_ok (orcS_cons goFns_ok mixed_ok (orc_m106_515_ok _) m106_515_ok (orcS_cons goFns_ok mixed_ok (orc_m106_534_ok _) m106_534_ok (orcS_cons goFns_ok mixed_ok (orc_m106_553_ok _) m106_553_ok (orcS_cons goFns_ok mixed_ok (orc_m107_573_ok _) m107_573_ok (orcS_cons goFns_ok mixed_ok (orc_m106_590_ok _) m106_590_ok (orcS_cons goFns_ok mixed_ok (orc_m107_610_ok _) m107_610_ok (orcS_cons goFns_ok mixed_ok (orc_m106_629_ok _) m106_629_ok (orcS_cons goFns_ok mixed_ok (orc_m107_649_ok _) m107_649_ok (orcS_cons goFns_ok mixed_ok (insOrc_ok _) m108_666_ok (orcS_cons goFns_ok mixed_ok (orc_m107_717_ok _) m107_717_ok (orcS_cons goFns_ok mixed_ok (orc_m106_748_ok _) m106_748_ok (orcS_cons goFns_ok mixed_ok (orc_m107_767_ok _) m107_767_ok (orcS_cons goFns_ok mixed_ok (orc_m106_798_ok _) m106_798_ok (orcS_cons goFns_ok mixed_ok (orc_m106_817_ok _) m106_817_ok (orcS_cons goFns_ok mixed_ok (orc_m107_837_ok _) m107_837_ok (orcS_cons goFns_ok mixed_ok (orc_m106_854_ok _) m106_854_ok (orcS_cons goFns_ok mixed_ok (orc_m107_874_ok _) m107_874_ok (orcS_cons goFns_ok mixed_ok (orc_m106_893_ok _) m106_893_ok (orcS_cons goFns_ok mixed_ok (orc_m107_913_ok _) m107_913_ok (orcS_cons goFns_ok mixed_ok (insOrc_ok _) m108_930_ok (orcS_cons goFns_ok mixed_ok (orc_m107_981_ok _) m107_981_ok (orcS_cons goFns_ok mixed_ok (insOrc_ok _) m108_1012_ok (orcS_cons goFns_ok mixed_ok (orc_m107_1075_ok _) m107_1075_ok (orcS_cons goFns_ok mixed_ok (orc_m106_1106_ok _) m106_1106_ok (orcS_cons goFns_ok mixed_ok (orc_m107_1125_ok _) m107_1125_ok (orcS_cons goFns_ok mixed_ok (orc_m106_1156_ok _) m106_1156_ok (orcS_cons goFns_ok mixed_ok (orc_m106_1175_ok _) m106_1175_ok (orcS_cons goFns_ok mixed_ok (orc_m107_1194_ok _) m107_1194_ok (orcS_cons goFns_ok mixed_ok (orc_m106_1225_ok _) m106_1225_ok (orcS_cons goFns_ok mixed_ok (orc_m106_1244_ok _) m106_1244_ok (orcS_cons goFns_ok mixed_ok (orc_m107_1264_ok _) m107_1264_ok (orcS_cons goFns_ok mixed_ok (orc_m106_1283_ok _) m106_1283_ok (orcS_cons goFns_ok mixed_ok (orc_m107_1303_ok _) m107_1303_ok (orcS_cons goFns_ok mixed_ok (orc_m106_1322_ok _) m106_1322_ok (orcS_cons goFns_ok mixed_ok (orc_m107_1342_ok _) m107_1342_ok (orcS_cons goFns_ok mixed_ok (insOrc_ok _) m108_1361_ok (orcS_cons goFns_ok mixed_ok (orc_m107_1424_ok _) m107_1424_ok (orcS_cons goFns_ok mixed_ok (orc_m106_1457_ok _) m106_1457_ok (orcS_cons goFns_ok mixed_ok (orc_m106_1476_ok _) m106_1476_ok (orcS_cons goFns_ok mixed_ok (orc_m107_1496_ok _) m107_1496_ok (orcS_cons goFns_ok mixed_ok (orc_m106_1513_ok _) m106_1513_ok (orcS_cons goFns_ok mixed_ok (orc_m107_1533_ok _) m107_1533_ok (orcS_cons goFns_ok mixed_ok (orc_m106_1552_ok _) m106_1552_ok (orcS_cons goFns_ok mixed_ok (orc_m107_1572_ok _) m107_1572_ok (orcS_cons goFns_ok mixed_ok (insOrc_ok _) m108_1591_ok (orcS_cons goFns_ok mixed_ok (orc_m107_1648_ok _) m107_1648_ok (orcS_cons goFns_ok mixed_ok (insOrc_ok _) m108_1679_ok (orcS_cons goFns_ok mixed_ok (orc_m107_1757_ok _) m107_1757_ok (orcS_cons goFns_ok mixed_ok (insOrc_ok _) m108_1801_ok (orcS_cons goFns_ok mixed_ok (orc_m107_1879_ok _) m107_1879_ok (orcS_cons goFns_ok mixed_ok (orc_m106_1923_ok _) m106_1923_ok (orcS_cons goFns_ok mixed_ok (orc_m107_1942_ok _) m107_1942_ok (orcS_cons goFns_ok mixed_ok (orc_m106_1986_ok _) m106_1986_ok (orcS_cons goFns_ok mixed_ok (orc_m106_2005_ok _) m106_2005_ok (orcS_cons goFns_ok mixed_ok (orc_m107_2024_ok _) m107_2024_ok (orcS_cons goFns_ok mixed_ok (orc_m106_2068_ok _) m106_2068_ok (orcS_cons goFns_ok mixed_ok (orc_m107_2087_ok _) m107_2087_ok (orcS_cons goFns_ok mixed_ok (orc_m106_2131_ok _) m106_2131_ok (orcS_cons goFns_ok mixed_ok (orc_m106_2150_ok _) m106_2150_ok (orcS_cons goFns_ok mixed_ok (orc_m107_2169_ok _) m107_2169_ok (orcS_cons goFns_ok mixed_ok (orc_m106_2200_ok _) m106_2200_ok (orcS_cons goFns_ok mixed_ok (orc_m107_2219_ok _) m107_2219_ok (orcS_cons goFns_ok mixed_ok (orc_m106_2252_ok _) m106_2252_ok (orcS_cons goFns_ok mixed_ok (orc_m107_2271_ok _) m107_2271_ok (orcS_cons goFns_ok mixed_ok (insOrc_ok _) m108_2304_ok (orcS_cons goFns_ok mixed_ok (orc_m107_2388_ok _) m107_2388_ok (orcS_cons goFns_ok mixed_ok (insOrc_ok _) m108_2432_ok (orcS_cons goFns_ok mixed_ok (orc_m107_2522_ok _) m107_2522_ok (orcS_cons goFns_ok mixed_ok (insOrc_ok _) m108_2566_ok (orcS_nil _ _)))))))))))))))))))))))))))))))))))))))))))))))))))))))))))))))))))))))
def m38_424 : Memo :=
  ⟨38, #[.agg #[.slice (some ⟨421, 0, none⟩) 4 4, .slice (some ⟨422, 0, none⟩) 2 3, inN 2, inN 100, inN 200], .agg #[inN 200, inN 300, inN 500, inN 1000, inN 20, inN 50]], [(422, .cells #[inN 60, inN 0, inN 50, inN 0, inN 25, inN 20] 85 (0, 0)), (421, .cells #[inN 100, inN 10, inN 20, inN (-1), inN 150, inN 20, inN 30, inN (-1), inN 180, inN 20, inN 40, inN 10, inN 175, inN 10, inN 20, inN 0] 59 (0, 0))], 424, .tuple #[.slice (some ⟨2562, 0, none⟩) 4 1, inN 60, inN 0], [(2562, .cells #[inN 1, inN 1, inN 1, inN (-1)] 3 (0, 0))], 2662⟩
theorem m38_424_ok : isMemo m38_424 (m38_424.run Try.prog goFns orc_m38_424 100000) = true := by decide +kernel
end Go.Proofs.Ytiigkdhaofaijaa

namespace Go.Proofs.Ytiigkdhaofaijaa
open Go Go.CE Go.RowKit
def m115_3088 : Memo :=
  ⟨115, #[.agg #[.slice none 0 0, inN 0], inN (-1), inN 0], [], 3088, .agg #[.slice (some ⟨3093, 0, none⟩) 1 1, inN 0], [(3093, .cells #[inN (-1)] 3 (0, 0))], 3095⟩
theorem m115_3088_ok : isMemo m115_3088 (m115_3088.run Try.prog goFns insOrc 100000) = true := by decide +kernel
def m103_3101 : Memo :=
  ⟨103, #[.agg #[.slice (some ⟨2663, 0, none⟩) 4 4, .slice (some ⟨2664, 0, none⟩) 2 3, inN 2, inN 100, inN 200, inN 200, inN 300, inN 500, inN 1000, inN 20, inN 50], .agg #[inN 3, inN 218], inN 10, inN 0], [(2663, .cells #[inN 100, inN 10, inN 20, inN (-1), inN 150, inN 20, inN 30, inN (-1), inN 180, inN 20, inN 40, inN 10, inN 175, inN 10, inN 20, inN 0] 59 (0, 0)), (2664, .cells #[inN 60, inN 0, inN 50, inN 0, inN 25, inN 20] 85 (0, 0))], 3101, .tuple #[inN 0, .bool false], [], 3113⟩
theorem m103_3101_ok : isMemo m103_3101 (m103_3101.drun Try.prog goFns insOrc 100000) = true := by decide +kernel
def m115_3125 : Memo :=
  ⟨115, #[.agg #[.slice none 0 0, inN 0], inN 0, inN 50], [], 3125, .agg #[.slice (some ⟨3130, 0, none⟩) 1 1, inN 50], [(3130, .cells #[inN 0] 3 (0, 0))], 3132⟩
theorem m115_3125_ok : isMemo m115_3125 (m115_3125.run Try.prog goFns insOrc 100000) = true := by decide +kernel
def m103_3140 : Memo :=
  ⟨103, #[.agg #[.slice (some ⟨2663, 0, none⟩) 4 4, .slice (some ⟨2664, 0, none⟩) 2 3, inN 2, inN 100, inN 200, inN 200, inN 300, inN 500, inN 1000, inN 20, inN 50], .agg #[inN 3, inN 218], inN 10, inN 1], [(2663, .cells #[inN 100, inN 10, inN 20, inN (-1), inN 150, inN 20, inN 30, inN (-1), inN 180, inN 20, inN 40, inN 10, inN 175, inN 10, inN 20, inN 0] 59 (0, 0)), (2664, .cells #[inN 60, inN 0, inN 50, inN 0, inN 25, inN 20] 85 (0, 0))], 3140, .tuple #[inN 183, .bool true], [], 3152⟩
theorem m103_3140_ok : isMemo m103_3140 (m103_3140.drun Try.prog goFns insOrc 100000) = true := by decide +kernel
def m115_3164 : Memo :=
  ⟨115, #[.agg #[.slice none 0 0, inN 0], inN 1, inN 20], [], 3164, .agg #[.slice (some ⟨3169, 0, none⟩) 1 1, inN 20], [(3169, .cells #[inN 1] 3 (0, 0))], 3171⟩
theorem m115_3164_ok : isMemo m115_3164 (m115_3164.run Try.prog goFns insOrc 100000) = true := by decide +kernel
def m108_3173 : Memo :=
  ⟨108, #[.slice (some ⟨3172, 0, none⟩) 3 1], [(3158, .cells #[.slice (some ⟨3169, 0, none⟩) 1 1, inN 20] 108 (0, 0)), (3133, .cells #[.slice (some ⟨3130, 0, none⟩) 1 1, inN 50, .slice (some ⟨3130, 0, none⟩) 1 1, inN 50] 108 (0, 0)), (3082, .cells #[.slice (some ⟨3093, 0, none⟩) 1 1, inN 0] 108 (0, 0)), (3172, .cells #[.slice (some ⟨3082, 0, none⟩) 1 2, .slice (some ⟨3133, 0, none⟩) 2 2, .slice (some ⟨3158, 0, none⟩) 1 2] 130 (0, 0))], 3173, .slice (some ⟨3214, 0, none⟩) 2 2, [(3214, .cells #[.slice (some ⟨3093, 0, none⟩) 1 1, inN 0, .slice (some ⟨3130, 0, none⟩) 1 1, inN 50] 108 (0, 0))], 3224⟩
theorem m108_3173_ok : isMemo m108_3173 (m108_3173.run Try.prog goFns insOrc 100000) = true := by decide +kernel
def m115_3232 : Memo :=
  ⟨115, #[.agg #[.slice (some ⟨3093, 0, none⟩) 1 1, inN 0], inN 1, inN 20], [(3093, .cells #[inN (-1)] 3 (0, 0))], 3232, .agg #[.slice (some ⟨3238, 0, none⟩) 2 1, inN 20], [(3238, .cells #[inN 1, inN (-1)] 3 (0, 0))], 3240⟩
theorem m115_3232_ok : isMemo m115_3232 (m115_3232.run Try.prog goFns insOrc 100000) = true := by decide +kernel
def m115_3245 : Memo :=
  ⟨115, #[.agg #[.slice (some ⟨3130, 0, none⟩) 1 1, inN 50], inN 1, inN 20], [(3130, .cells #[inN 0] 3 (0, 0))], 3245, .agg #[.slice (some ⟨3251, 0, none⟩) 2 1, inN 70], [(3251, .cells #[inN 1, inN 0] 3 (0, 0))], 3253⟩
theorem m115_3245_ok : isMemo m115_3245 (m115_3245.run Try.prog goFns insOrc 100000) = true := by decide +kernel
def m108_3255 : Memo :=
  ⟨108, #[.slice (some ⟨3254, 0, none⟩) 3 1], [(3226, .cells #[.slice (some ⟨3238, 0, none⟩) 2 1, inN 20, .slice (some ⟨3251, 0, none⟩) 2 1, inN 70] 108 (0, 0)), (3012, .cells #[.slice (some ⟨3024, 0, none⟩) 2 1, inN 50, .slice (some ⟨3037, 0, none⟩) 2 1, inN 100] 108 (0, 0)), (2962, .cells #[.slice (some ⟨2974, 0, none⟩) 2 1, inN 0, .slice (some ⟨2987, 0, none⟩) 2 1, inN 50] 108 (0, 0)), (3254, .cells #[.slice (some ⟨2962, 0, none⟩) 2 2, .slice (some ⟨3012, 0, none⟩) 2 2, .slice (some ⟨3226, 0, none⟩) 2 2] 130 (0, 0))], 3255, .slice (some ⟨3308, 0, none⟩) 2 2, [(3308, .cells #[.slice (some ⟨2974, 0, none⟩) 2 1, inN 0, .slice (some ⟨2987, 0, none⟩) 2 1, inN 50] 108 (0, 0))], 3318⟩
theorem m108_3255_ok : isMemo m108_3255 (m108_3255.run Try.prog goFns insOrc 100000) = true := by decide +kernel
def m115_3326 : Memo :=
  ⟨115, #[.agg #[.slice (some ⟨2974, 0, none⟩) 2 1, inN 0], inN (-1), inN 0], [(2974, .cells #[inN (-1), inN (-1)] 3 (0, 0))], 3326, .agg #[.slice (some ⟨3332, 0, none⟩) 3 1, inN 0], [(3332, .cells #[inN (-1), inN (-1), inN (-1)] 3 (0, 0))], 3334⟩
theorem m115_3326_ok : isMemo m115_3326 (m115_3326.run Try.prog goFns insOrc 100000) = true := by decide +kernel
def m115_3339 : Memo :=
  ⟨115, #[.agg #[.slice (some ⟨2987, 0, none⟩) 2 1, inN 50], inN (-1), inN 0], [(2987, .cells #[inN (-1), inN 0] 3 (0, 0))], 3339, .agg #[.slice (some ⟨3345, 0, none⟩) 3 1, inN 50], [(3345, .cells #[inN (-1), inN (-1), inN 0] 3 (0, 0))], 3347⟩
theorem m115_3339_ok : isMemo m115_3339 (m115_3339.run Try.prog goFns insOrc 100000) = true := by decide +kernel
def m103_3353 : Memo :=
  ⟨103, #[.agg #[.slice (some ⟨2663, 0, none⟩) 4 4, .slice (some ⟨2664, 0, none⟩) 2 3, inN 2, inN 100, inN 200, inN 200, inN 300, inN 500, inN 1000, inN 20, inN 50], .agg #[inN 1, inN 283], inN 20, inN 0], [(2663, .cells #[inN 100, inN 10, inN 20, inN (-1), inN 150, inN 20, inN 30, inN (-1), inN 180, inN 20, inN 40, inN 10, inN 175, inN 10, inN 20, inN 0] 59 (0, 0)), (2664, .cells #[inN 60, inN 0, inN 50, inN 0, inN 25, inN 20] 85 (0, 0))], 3353, .tuple #[inN 263, .bool true], [], 3365⟩
theorem m103_3353_ok : isMemo m103_3353 (m103_3353.drun Try.prog goFns insOrc 100000) = true := by decide +kernel
def m115_3376 : Memo :=
  ⟨115, #[.agg #[.slice (some ⟨2974, 0, none⟩) 2 1, inN 0], inN 0, inN 50], [(2974, .cells #[inN (-1), inN (-1)] 3 (0, 0))], 3376, .agg #[.slice (some ⟨3382, 0, none⟩) 3 1, inN 50], [(3382, .cells #[inN 0, inN (-1), inN (-1)] 3 (0, 0))], 3384⟩
theorem m115_3376_ok : isMemo m115_3376 (m115_3376.run Try.prog goFns insOrc 100000) = true := by decide +kernel
def m115_3389 : Memo :=
  ⟨115, #[.agg #[.slice (some ⟨2987, 0, none⟩) 2 1, inN 50], inN 0, inN 50], [(2987, .cells #[inN (-1), inN 0] 3 (0, 0))], 3389, .agg #[.slice (some ⟨3395, 0, none⟩) 3 1, inN 100], [(3395, .cells #[inN 0, inN (-1), inN 0] 3 (0, 0))], 3397⟩
theorem m115_3389_ok : isMemo m115_3389 (m115_3389.run Try.prog goFns insOrc 100000) = true := by decide +kernel
def m103_3403 : Memo :=
  ⟨103, #[.agg #[.slice (some ⟨2663, 0, none⟩) 4 4, .slice (some ⟨2664, 0, none⟩) 2 3, inN 2, inN 100, inN 200, inN 200, inN 300, inN 500, inN 1000, inN 20, inN 50], .agg #[inN 1, inN 283], inN 20, inN 1], [(2663, .cells #[inN 100, inN 10, inN 20, inN (-1), inN 150, inN 20, inN 30, inN (-1), inN 180, inN 20, inN 40, inN 10, inN 175, inN 10, inN 20, inN 0] 59 (0, 0)), (2664, .cells #[inN 60, inN 0, inN 50, inN 0, inN 25, inN 20] 85 (0, 0))], 3403, .tuple #[inN 238, .bool true], [], 3415⟩
theorem m103_3403_ok : isMemo m103_3403 (m103_3403.drun Try.prog goFns insOrc 100000) = true := by decide +kernel
def m103_3422 : Memo :=
  ⟨103, #[.agg #[.slice (some ⟨2663, 0, none⟩) 4 4, .slice (some ⟨2664, 0, none⟩) 2 3, inN 2, inN 100, inN 200, inN 200, inN 300, inN 500, inN 1000, inN 20, inN 50], .agg #[inN 2, inN 238], inN 20, inN (-1)], [(2663, .cells #[inN 100, inN 10, inN 20, inN (-1), inN 150, inN 20, inN 30, inN (-1), inN 180, inN 20, inN 40, inN 10, inN 175, inN 10, inN 20, inN 0] 59 (0, 0))], 3422, .tuple #[inN 218, .bool true], [], 3434⟩
theorem m103_3422_ok : isMemo m103_3422 (m103_3422.drun Try.prog goFns insOrc 100000) = true := by decide +kernel
def m115_3445 : Memo :=
  ⟨115, #[.agg #[.slice (some ⟨3093, 0, none⟩) 1 1, inN 0], inN (-1), inN 0], [(3093, .cells #[inN (-1)] 3 (0, 0))], 3445, .agg #[.slice (some ⟨3451, 0, none⟩) 2 1, inN 0], [(3451, .cells #[inN (-1), inN (-1)] 3 (0, 0))], 3453⟩
theorem m115_3445_ok : isMemo m115_3445 (m115_3445.run Try.prog goFns insOrc 100000) = true := by decide +kernel
def m115_3458 : Memo :=
  ⟨115, #[.agg #[.slice (some ⟨3130, 0, none⟩) 1 1, inN 50], inN (-1), inN 0], [(3130, .cells #[inN 0] 3 (0, 0))], 3458, .agg #[.slice (some ⟨3464, 0, none⟩) 2 1, inN 50], [(3464, .cells #[inN (-1), inN 0] 3 (0, 0))], 3466⟩
theorem m115_3458_ok : isMemo m115_3458 (m115_3458.run Try.prog goFns insOrc 100000) = true := by decide +kernel
def m103_3472 : Memo :=
  ⟨103, #[.agg #[.slice (some ⟨2663, 0, none⟩) 4 4, .slice (some ⟨2664, 0, none⟩) 2 3, inN 2, inN 100, inN 200, inN 200, inN 300, inN 500, inN 1000, inN 20, inN 50], .agg #[inN 2, inN 238], inN 20, inN 0], [(2663, .cells #[inN 100, inN 10, inN 20, inN (-1), inN 150, inN 20, inN 30, inN (-1), inN 180, inN 20, inN 40, inN 10, inN 175, inN 10, inN 20, inN 0] 59 (0, 0)), (2664, .cells #[inN 60, inN 0, inN 50, inN 0, inN 25, inN 20] 85 (0, 0))], 3472, .tuple #[inN 0, .bool false], [], 3484⟩
theorem m103_3472_ok : isMemo m103_3472 (m103_3472.drun Try.prog goFns insOrc 100000) = true := by decide +kernel
def m103_3491 : Memo :=
  ⟨103, #[.agg #[.slice (some ⟨2663, 0, none⟩) 4 4, .slice (some ⟨2664, 0, none⟩) 2 3, inN 2, inN 100, inN 200, inN 200, inN 300, inN 500, inN 1000, inN 20, inN 50], .agg #[inN 3, inN (-5000)], inN 10, inN (-1)], [(2663, .cells #[inN 100, inN 10, inN 20, inN (-1), inN 150, inN 20, inN 30, inN (-1), inN 180, inN 20, inN 40, inN 10, inN 175, inN 10, inN 20, inN 0] 59 (0, 0))], 3491, .tuple #[inN 0, .bool false], [], 3503⟩
theorem m103_3491_ok : isMemo m103_3491 (m103_3491.drun Try.prog goFns insOrc 100000) = true := by decide +kernel
def m115_3515 : Memo :=
  ⟨115, #[.agg #[.slice none 0 0, inN 0], inN (-1), inN 0], [], 3515, .agg #[.slice (some ⟨3520, 0, none⟩) 1 1, inN 0], [(3520, .cells #[inN (-1)] 3 (0, 0))], 3522⟩
theorem m115_3515_ok : isMemo m115_3515 (m115_3515.run Try.prog goFns insOrc 100000) = true := by decide +kernel
def m103_3530 : Memo :=
  ⟨103, #[.agg #[.slice (some ⟨2663, 0, none⟩) 4 4, .slice (some ⟨2664, 0, none⟩) 2 3, inN 2, inN 100, inN 200, inN 200, inN 300, inN 500, inN 1000, inN 20, inN 50], .agg #[inN 3, inN (-5000)], inN 10, inN 0], [(2663, .cells #[inN 100, inN 10, inN 20, inN (-1), inN 150, inN 20, inN 30, inN (-1), inN 180, inN 20, inN 40, inN 10, inN 175, inN 10, inN 20, inN 0] 59 (0, 0)), (2664, .cells #[inN 60, inN 0, inN 50, inN 0, inN 25, inN 20] 85 (0, 0))], 3530, .tuple #[inN 0, .bool false], [], 3542⟩
theorem m103_3530_ok : isMemo m103_3530 (m103_3530.drun Try.prog goFns insOrc 100000) = true := by decide +kernel
def m115_3554 : Memo :=
  ⟨115, #[.agg #[.slice none 0 0, inN 0], inN 0, inN 50], [], 3554, .agg #[.slice (some ⟨3559, 0, none⟩) 1 1, inN 50], [(3559, .cells #[inN 0] 3 (0, 0))], 3561⟩
theorem m115_3554_ok : isMemo m115_3554 (m115_3554.run Try.prog goFns insOrc 100000) = true := by decide +kernel
def m103_3569 : Memo :=
  ⟨103, #[.agg #[.slice (some ⟨2663, 0, none⟩) 4 4, .slice (some ⟨2664, 0, none⟩) 2 3, inN 2, inN 100, inN 200, inN 200, inN 300, inN 500, inN 1000, inN 20, inN 50], .agg #[inN 3, inN (-5000)], inN 10, inN 1], [(2663, .cells #[inN 100, inN 10, inN 20, inN (-1), inN 150, inN 20, inN 30, inN (-1), inN 180, inN 20, inN 40, inN 10, inN 175, inN 10, inN 20, inN 0] 59 (0, 0)), (2664, .cells #[inN 60, inN 0, inN 50, inN 0, inN 25, inN 20] 85 (0, 0))], 3569, .tuple #[inN 0, .bool false], [], 3581⟩
theorem m103_3569_ok : isMemo m103_3569 (m103_3569.drun Try.prog goFns insOrc 100000) = true := by decide +kernel
end Go.Proofs.Ytiigkdhaofaijaa

namespace Go.Proofs.Ytiigkdhaofaijaa
open Go Go.CE Go.RowKit
def m115_3593 : Memo :=
  ⟨115, #[.agg #[.slice none 0 0, inN 0], inN 1, inN 20], [], 3593, .agg #[.slice (some ⟨3598, 0, none⟩) 1 1, inN 20], [(3598, .cells #[inN 1] 3 (0, 0))], 3600⟩
theorem m115_3593_ok : isMemo m115_3593 (m115_3593.run Try.prog goFns insOrc 100000) = true := by decide +kernel
def m108_3604 : Memo :=
  ⟨108, #[.slice (some ⟨3603, 0, none⟩) 3 1], [(3601, .cells #[.slice (some ⟨3598, 0, none⟩) 1 1, inN 20, .slice (some ⟨3598, 0, none⟩) 1 1, inN 20] 108 (0, 0)), (3562, .cells #[.slice (some ⟨3559, 0, none⟩) 1 1, inN 50, .slice (some ⟨3559, 0, none⟩) 1 1, inN 50] 108 (0, 0)), (3523, .cells #[.slice (some ⟨3520, 0, none⟩) 1 1, inN 0, .slice (some ⟨3520, 0, none⟩) 1 1, inN 0] 108 (0, 0)), (3603, .cells #[.slice (some ⟨3523, 0, none⟩) 2 2, .slice (some ⟨3562, 0, none⟩) 2 2, .slice (some ⟨3601, 0, none⟩) 2 2] 130 (0, 0))], 3604, .slice (some ⟨3657, 0, none⟩) 2 2, [(3657, .cells #[.slice (some ⟨3520, 0, none⟩) 1 1, inN 0, .slice (some ⟨3520, 0, none⟩) 1 1, inN 0] 108 (0, 0))], 3667⟩
theorem m108_3604_ok : isMemo m108_3604 (m108_3604.run Try.prog goFns insOrc 100000) = true := by decide +kernel
def m115_3675 : Memo :=
  ⟨115, #[.agg #[.slice (some ⟨3520, 0, none⟩) 1 1, inN 0], inN 0, inN 50], [(3520, .cells #[inN (-1)] 3 (0, 0))], 3675, .agg #[.slice (some ⟨3681, 0, none⟩) 2 1, inN 50], [(3681, .cells #[inN 0, inN (-1)] 3 (0, 0))], 3683⟩
theorem m115_3675_ok : isMemo m115_3675 (m115_3675.run Try.prog goFns insOrc 100000) = true := by decide +kernel
def m115_3688 : Memo :=
  ⟨115, #[.agg #[.slice (some ⟨3520, 0, none⟩) 1 1, inN 0], inN 0, inN 50], [(3520, .cells #[inN (-1)] 3 (0, 0))], 3688, .agg #[.slice (some ⟨3694, 0, none⟩) 2 1, inN 50], [(3694, .cells #[inN 0, inN (-1)] 3 (0, 0))], 3696⟩
theorem m115_3688_ok : isMemo m115_3688 (m115_3688.run Try.prog goFns insOrc 100000) = true := by decide +kernel
def m103_3704 : Memo :=
  ⟨103, #[.agg #[.slice (some ⟨2663, 0, none⟩) 4 4, .slice (some ⟨2664, 0, none⟩) 2 3, inN 2, inN 100, inN 200, inN 200, inN 300, inN 500, inN 1000, inN 20, inN 50], .agg #[inN 2, inN 238], inN 20, inN 1], [(2663, .cells #[inN 100, inN 10, inN 20, inN (-1), inN 150, inN 20, inN 30, inN (-1), inN 180, inN 20, inN 40, inN 10, inN 175, inN 10, inN 20, inN 0] 59 (0, 0)), (2664, .cells #[inN 60, inN 0, inN 50, inN 0, inN 25, inN 20] 85 (0, 0))], 3704, .tuple #[inN 193, .bool true], [], 3716⟩
theorem m103_3704_ok : isMemo m103_3704 (m103_3704.drun Try.prog goFns insOrc 100000) = true := by decide +kernel
def m103_3723 : Memo :=
  ⟨103, #[.agg #[.slice (some ⟨2663, 0, none⟩) 4 4, .slice (some ⟨2664, 0, none⟩) 2 3, inN 2, inN 100, inN 200, inN 200, inN 300, inN 500, inN 1000, inN 20, inN 50], .agg #[inN 3, inN 193], inN 10, inN (-1)], [(2663, .cells #[inN 100, inN 10, inN 20, inN (-1), inN 150, inN 20, inN 30, inN (-1), inN 180, inN 20, inN 40, inN 10, inN 175, inN 10, inN 20, inN 0] 59 (0, 0))], 3723, .tuple #[inN 183, .bool true], [], 3735⟩
theorem m103_3723_ok : isMemo m103_3723 (m103_3723.drun Try.prog goFns insOrc 100000) = true := by decide +kernel
def m115_3747 : Memo :=
  ⟨115, #[.agg #[.slice none 0 0, inN 0], inN (-1), inN 0], [], 3747, .agg #[.slice (some ⟨3752, 0, none⟩) 1 1, inN 0], [(3752, .cells #[inN (-1)] 3 (0, 0))], 3754⟩
theorem m115_3747_ok : isMemo m115_3747 (m115_3747.run Try.prog goFns insOrc 100000) = true := by decide +kernel
def m103_3760 : Memo :=
  ⟨103, #[.agg #[.slice (some ⟨2663, 0, none⟩) 4 4, .slice (some ⟨2664, 0, none⟩) 2 3, inN 2, inN 100, inN 200, inN 200, inN 300, inN 500, inN 1000, inN 20, inN 50], .agg #[inN 3, inN 193], inN 10, inN 0], [(2663, .cells #[inN 100, inN 10, inN 20, inN (-1), inN 150, inN 20, inN 30, inN (-1), inN 180, inN 20, inN 40, inN 10, inN 175, inN 10, inN 20, inN 0] 59 (0, 0)), (2664, .cells #[inN 60, inN 0, inN 50, inN 0, inN 25, inN 20] 85 (0, 0))], 3760, .tuple #[inN 0, .bool false], [], 3772⟩
theorem m103_3760_ok : isMemo m103_3760 (m103_3760.drun Try.prog goFns insOrc 100000) = true := by decide +kernel
def m115_3784 : Memo :=
  ⟨115, #[.agg #[.slice none 0 0, inN 0], inN 0, inN 50], [], 3784, .agg #[.slice (some ⟨3789, 0, none⟩) 1 1, inN 50], [(3789, .cells #[inN 0] 3 (0, 0))], 3791⟩
theorem m115_3784_ok : isMemo m115_3784 (m115_3784.run Try.prog goFns insOrc 100000) = true := by decide +kernel
def m103_3799 : Memo :=
  ⟨103, #[.agg #[.slice (some ⟨2663, 0, none⟩) 4 4, .slice (some ⟨2664, 0, none⟩) 2 3, inN 2, inN 100, inN 200, inN 200, inN 300, inN 500, inN 1000, inN 20, inN 50], .agg #[inN 3, inN 193], inN 10, inN 1], [(2663, .cells #[inN 100, inN 10, inN 20, inN (-1), inN 150, inN 20, inN 30, inN (-1), inN 180, inN 20, inN 40, inN 10, inN 175, inN 10, inN 20, inN 0] 59 (0, 0)), (2664, .cells #[inN 60, inN 0, inN 50, inN 0, inN 25, inN 20] 85 (0, 0))], 3799, .tuple #[inN 0, .bool false], [], 3811⟩
theorem m103_3799_ok : isMemo m103_3799 (m103_3799.drun Try.prog goFns insOrc 100000) = true := by decide +kernel
def m115_3823 : Memo :=
  ⟨115, #[.agg #[.slice none 0 0, inN 0], inN 1, inN 20], [], 3823, .agg #[.slice (some ⟨3828, 0, none⟩) 1 1, inN 20], [(3828, .cells #[inN 1] 3 (0, 0))], 3830⟩
theorem m115_3823_ok : isMemo m115_3823 (m115_3823.run Try.prog goFns insOrc 100000) = true := by decide +kernel
def m108_3834 : Memo :=
  ⟨108, #[.slice (some ⟨3833, 0, none⟩) 3 1], [(3831, .cells #[.slice (some ⟨3828, 0, none⟩) 1 1, inN 20, .slice (some ⟨3828, 0, none⟩) 1 1, inN 20] 108 (0, 0)), (3792, .cells #[.slice (some ⟨3789, 0, none⟩) 1 1, inN 50, .slice (some ⟨3789, 0, none⟩) 1 1, inN 50] 108 (0, 0)), (3741, .cells #[.slice (some ⟨3752, 0, none⟩) 1 1, inN 0] 108 (0, 0)), (3833, .cells #[.slice (some ⟨3741, 0, none⟩) 1 2, .slice (some ⟨3792, 0, none⟩) 2 2, .slice (some ⟨3831, 0, none⟩) 2 2] 130 (0, 0))], 3834, .slice (some ⟨3881, 0, none⟩) 2 2, [(3881, .cells #[.slice (some ⟨3752, 0, none⟩) 1 1, inN 0, .slice (some ⟨3828, 0, none⟩) 1 1, inN 20] 108 (0, 0))], 3891⟩
theorem m108_3834_ok : isMemo m108_3834 (m108_3834.run Try.prog goFns insOrc 100000) = true := by decide +kernel
def m115_3899 : Memo :=
  ⟨115, #[.agg #[.slice (some ⟨3752, 0, none⟩) 1 1, inN 0], inN 1, inN 20], [(3752, .cells #[inN (-1)] 3 (0, 0))], 3899, .agg #[.slice (some ⟨3905, 0, none⟩) 2 1, inN 20], [(3905, .cells #[inN 1, inN (-1)] 3 (0, 0))], 3907⟩
theorem m115_3899_ok : isMemo m115_3899 (m115_3899.run Try.prog goFns insOrc 100000) = true := by decide +kernel
def m115_3912 : Memo :=
  ⟨115, #[.agg #[.slice (some ⟨3828, 0, none⟩) 1 1, inN 20], inN 1, inN 20], [(3828, .cells #[inN 1] 3 (0, 0))], 3912, .agg #[.slice (some ⟨3918, 0, none⟩) 2 1, inN 40], [(3918, .cells #[inN 1, inN 1] 3 (0, 0))], 3920⟩
theorem m115_3912_ok : isMemo m115_3912 (m115_3912.run Try.prog goFns insOrc 100000) = true := by decide +kernel
def m108_3922 : Memo :=
  ⟨108, #[.slice (some ⟨3921, 0, none⟩) 3 1], [(3893, .cells #[.slice (some ⟨3905, 0, none⟩) 2 1, inN 20, .slice (some ⟨3918, 0, none⟩) 2 1, inN 40] 108 (0, 0)), (3697, .cells #[.slice (some ⟨3681, 0, none⟩) 2 1, inN 50, .slice (some ⟨3681, 0, none⟩) 2 1, inN 50, .slice (some ⟨3694, 0, none⟩) 2 1, inN 50] 108 (0, 0)), (3439, .cells #[.slice (some ⟨3451, 0, none⟩) 2 1, inN 0, .slice (some ⟨3464, 0, none⟩) 2 1, inN 50] 108 (0, 0)), (3921, .cells #[.slice (some ⟨3439, 0, none⟩) 2 2, .slice (some ⟨3697, 0, none⟩) 3 2, .slice (some ⟨3893, 0, none⟩) 2 2] 130 (0, 0))], 3922, .slice (some ⟨3990, 0, none⟩) 3 2, [(3990, .cells #[.slice (some ⟨3451, 0, none⟩) 2 1, inN 0, .slice (some ⟨3918, 0, none⟩) 2 1, inN 40, .slice (some ⟨3694, 0, none⟩) 2 1, inN 50] 108 (0, 0))], 4000⟩
theorem m108_3922_ok : isMemo m108_3922 (m108_3922.run Try.prog goFns insOrc 100000) = true := by decide +kernel
def m115_4008 : Memo :=
  ⟨115, #[.agg #[.slice (some ⟨3451, 0, none⟩) 2 1, inN 0], inN 1, inN 20], [(3451, .cells #[inN (-1), inN (-1)] 3 (0, 0))], 4008, .agg #[.slice (some ⟨4014, 0, none⟩) 3 1, inN 20], [(4014, .cells #[inN 1, inN (-1), inN (-1)] 3 (0, 0))], 4016⟩
theorem m115_4008_ok : isMemo m115_4008 (m115_4008.run Try.prog goFns insOrc 100000) = true := by decide +kernel
def m115_4021 : Memo :=
  ⟨115, #[.agg #[.slice (some ⟨3918, 0, none⟩) 2 1, inN 40], inN 1, inN 20], [(3918, .cells #[inN 1, inN 1] 3 (0, 0))], 4021, .agg #[.slice (some ⟨4027, 0, none⟩) 3 1, inN 60], [(4027, .cells #[inN 1, inN 1, inN 1] 3 (0, 0))], 4029⟩
theorem m115_4021_ok : isMemo m115_4021 (m115_4021.run Try.prog goFns insOrc 100000) = true := by decide +kernel
def m115_4034 : Memo :=
  ⟨115, #[.agg #[.slice (some ⟨3694, 0, none⟩) 2 1, inN 50], inN 1, inN 20], [(3694, .cells #[inN 0, inN (-1)] 3 (0, 0))], 4034, .agg #[.slice (some ⟨4040, 0, none⟩) 3 1, inN 70], [(4040, .cells #[inN 1, inN 0, inN (-1)] 3 (0, 0))], 4042⟩
theorem m115_4034_ok : isMemo m115_4034 (m115_4034.run Try.prog goFns insOrc 100000) = true := by decide +kernel
def m108_4044 : Memo :=
  ⟨108, #[.slice (some ⟨4043, 0, none⟩) 3 1], [(4002, .cells #[.slice (some ⟨4014, 0, none⟩) 3 1, inN 20, .slice (some ⟨4027, 0, none⟩) 3 1, inN 60, .slice (some ⟨4040, 0, none⟩) 3 1, inN 70] 108 (0, 0)), (3370, .cells #[.slice (some ⟨3382, 0, none⟩) 3 1, inN 50, .slice (some ⟨3395, 0, none⟩) 3 1, inN 100] 108 (0, 0)), (3320, .cells #[.slice (some ⟨3332, 0, none⟩) 3 1, inN 0, .slice (some ⟨3345, 0, none⟩) 3 1, inN 50] 108 (0, 0)), (4043, .cells #[.slice (some ⟨3320, 0, none⟩) 2 2, .slice (some ⟨3370, 0, none⟩) 2 2, .slice (some ⟨4002, 0, none⟩) 3 2] 130 (0, 0))], 4044, .slice (some ⟨4112, 0, none⟩) 3 2, [(4112, .cells #[.slice (some ⟨3332, 0, none⟩) 3 1, inN 0, .slice (some ⟨3345, 0, none⟩) 3 1, inN 50, .slice (some ⟨4040, 0, none⟩) 3 1, inN 70] 108 (0, 0))], 4122⟩
theorem m108_4044_ok : isMemo m108_4044 (m108_4044.run Try.prog goFns insOrc 100000) = true := by decide +kernel
def m115_4130 : Memo :=
  ⟨115, #[.agg #[.slice (some ⟨3332, 0, none⟩) 3 1, inN 0], inN (-1), inN 0], [(3332, .cells #[inN (-1), inN (-1), inN (-1)] 3 (0, 0))], 4130, .agg #[.slice (some ⟨4136, 0, none⟩) 4 1, inN 0], [(4136, .cells #[inN (-1), inN (-1), inN (-1), inN (-1)] 3 (0, 0))], 4138⟩
theorem m115_4130_ok : isMemo m115_4130 (m115_4130.run Try.prog goFns insOrc 100000) = true := by decide +kernel
def m115_4143 : Memo :=
  ⟨115, #[.agg #[.slice (some ⟨3345, 0, none⟩) 3 1, inN 50], inN (-1), inN 0], [(3345, .cells #[inN (-1), inN (-1), inN 0] 3 (0, 0))], 4143, .agg #[.slice (some ⟨4149, 0, none⟩) 4 1, inN 50], [(4149, .cells #[inN (-1), inN (-1), inN (-1), inN 0] 3 (0, 0))], 4151⟩
theorem m115_4143_ok : isMemo m115_4143 (m115_4143.run Try.prog goFns insOrc 100000) = true := by decide +kernel
def m115_4156 : Memo :=
  ⟨115, #[.agg #[.slice (some ⟨4040, 0, none⟩) 3 1, inN 70], inN (-1), inN 0], [(4040, .cells #[inN 1, inN 0, inN (-1)] 3 (0, 0))], 4156, .agg #[.slice (some ⟨4162, 0, none⟩) 4 1, inN 70], [(4162, .cells #[inN (-1), inN 1, inN 0, inN (-1)] 3 (0, 0))], 4164⟩
theorem m115_4156_ok : isMemo m115_4156 (m115_4156.run Try.prog goFns insOrc 100000) = true := by decide +kernel
def m103_4170 : Memo :=
  ⟨103, #[.agg #[.slice (some ⟨2663, 0, none⟩) 4 4, .slice (some ⟨2664, 0, none⟩) 2 3, inN 2, inN 100, inN 200, inN 200, inN 300, inN 500, inN 1000, inN 20, inN 50], .agg #[inN 0, inN 293], inN 10, inN 0], [(2663, .cells #[inN 100, inN 10, inN 20, inN (-1), inN 150, inN 20, inN 30, inN (-1), inN 180, inN 20, inN 40, inN 10, inN 175, inN 10, inN 20, inN 0] 59 (0, 0)), (2664, .cells #[inN 60, inN 0, inN 50, inN 0, inN 25, inN 20] 85 (0, 0))], 4170, .tuple #[inN 283, .bool true], [], 4182⟩
theorem m103_4170_ok : isMemo m103_4170 (m103_4170.drun Try.prog goFns insOrc 100000) = true := by decide +kernel
def m115_4193 : Memo :=
  ⟨115, #[.agg #[.slice (some ⟨3332, 0, none⟩) 3 1, inN 0], inN 0, inN 50], [(3332, .cells #[inN (-1), inN (-1), inN (-1)] 3 (0, 0))], 4193, .agg #[.slice (some ⟨4199, 0, none⟩) 4 1, inN 50], [(4199, .cells #[inN 0, inN (-1), inN (-1), inN (-1)] 3 (0, 0))], 4201⟩
theorem m115_4193_ok : isMemo m115_4193 (m115_4193.run Try.prog goFns insOrc 100000) = true := by decide +kernel
end Go.Proofs.Ytiigkdhaofaijaa

namespace Go.Proofs.Ytiigkdhaofaijaa
open Go Go.CE Go.RowKit
def m115_4206 : Memo :=
  ⟨115, #[.agg #[.slice (some ⟨3345, 0, none⟩) 3 1, inN 50], inN 0, inN 50], [(3345, .cells #[inN (-1), inN (-1), inN 0] 3 (0, 0))], 4206, .agg #[.slice (some ⟨4212, 0, none⟩) 4 1, inN 100], [(4212, .cells #[inN 0, inN (-1), inN (-1), inN 0] 3 (0, 0))], 4214⟩
theorem m115_4206_ok : isMemo m115_4206 (m115_4206.run Try.prog goFns insOrc 100000) = true := by decide +kernel
def m115_4219 : Memo :=
  ⟨115, #[.agg #[.slice (some ⟨4040, 0, none⟩) 3 1, inN 70], inN 0, inN 50], [(4040, .cells #[inN 1, inN 0, inN (-1)] 3 (0, 0))], 4219, .agg #[.slice (some ⟨4225, 0, none⟩) 4 1, inN 120], [(4225, .cells #[inN 0, inN 1, inN 0, inN (-1)] 3 (0, 0))], 4227⟩
theorem m115_4219_ok : isMemo m115_4219 (m115_4219.run Try.prog goFns insOrc 100000) = true := by decide +kernel
def m103_4233 : Memo :=
  ⟨103, #[.agg #[.slice (some ⟨2663, 0, none⟩) 4 4, .slice (some ⟨2664, 0, none⟩) 2 3, inN 2, inN 100, inN 200, inN 200, inN 300, inN 500, inN 1000, inN 20, inN 50], .agg #[inN 0, inN 293], inN 10, inN 1], [(2663, .cells #[inN 100, inN 10, inN 20, inN (-1), inN 150, inN 20, inN 30, inN (-1), inN 180, inN 20, inN 40, inN 10, inN 175, inN 10, inN 20, inN 0] 59 (0, 0)), (2664, .cells #[inN 60, inN 0, inN 50, inN 0, inN 25, inN 20] 85 (0, 0))], 4233, .tuple #[inN 258, .bool true], [], 4245⟩
theorem m103_4233_ok : isMemo m103_4233 (m103_4233.drun Try.prog goFns insOrc 100000) = true := by decide +kernel
def m103_4252 : Memo :=
  ⟨103, #[.agg #[.slice (some ⟨2663, 0, none⟩) 4 4, .slice (some ⟨2664, 0, none⟩) 2 3, inN 2, inN 100, inN 200, inN 200, inN 300, inN 500, inN 1000, inN 20, inN 50], .agg #[inN 1, inN 258], inN 20, inN (-1)], [(2663, .cells #[inN 100, inN 10, inN 20, inN (-1), inN 150, inN 20, inN 30, inN (-1), inN 180, inN 20, inN 40, inN 10, inN 175, inN 10, inN 20, inN 0] 59 (0, 0))], 4252, .tuple #[inN 238, .bool true], [], 4264⟩
theorem m103_4252_ok : isMemo m103_4252 (m103_4252.drun Try.prog goFns insOrc 100000) = true := by decide +kernel
def m115_4275 : Memo :=
  ⟨115, #[.agg #[.slice (some ⟨3451, 0, none⟩) 2 1, inN 0], inN (-1), inN 0], [(3451, .cells #[inN (-1), inN (-1)] 3 (0, 0))], 4275, .agg #[.slice (some ⟨4281, 0, none⟩) 3 1, inN 0], [(4281, .cells #[inN (-1), inN (-1), inN (-1)] 3 (0, 0))], 4283⟩
theorem m115_4275_ok : isMemo m115_4275 (m115_4275.run Try.prog goFns insOrc 100000) = true := by decide +kernel
def m115_4288 : Memo :=
  ⟨115, #[.agg #[.slice (some ⟨3918, 0, none⟩) 2 1, inN 40], inN (-1), inN 0], [(3918, .cells #[inN 1, inN 1] 3 (0, 0))], 4288, .agg #[.slice (some ⟨4294, 0, none⟩) 3 1, inN 40], [(4294, .cells #[inN (-1), inN 1, inN 1] 3 (0, 0))], 4296⟩
theorem m115_4288_ok : isMemo m115_4288 (m115_4288.run Try.prog goFns insOrc 100000) = true := by decide +kernel
def m115_4301 : Memo :=
  ⟨115, #[.agg #[.slice (some ⟨3694, 0, none⟩) 2 1, inN 50], inN (-1), inN 0], [(3694, .cells #[inN 0, inN (-1)] 3 (0, 0))], 4301, .agg #[.slice (some ⟨4307, 0, none⟩) 3 1, inN 50], [(4307, .cells #[inN (-1), inN 0, inN (-1)] 3 (0, 0))], 4309⟩
theorem m115_4301_ok : isMemo m115_4301 (m115_4301.run Try.prog goFns insOrc 100000) = true := by decide +kernel
def m103_4315 : Memo :=
  ⟨103, #[.agg #[.slice (some ⟨2663, 0, none⟩) 4 4, .slice (some ⟨2664, 0, none⟩) 2 3, inN 2, inN 100, inN 200, inN 200, inN 300, inN 500, inN 1000, inN 20, inN 50], .agg #[inN 1, inN 258], inN 20, inN 0], [(2663, .cells #[inN 100, inN 10, inN 20, inN (-1), inN 150, inN 20, inN 30, inN (-1), inN 180, inN 20, inN 40, inN 10, inN 175, inN 10, inN 20, inN 0] 59 (0, 0)), (2664, .cells #[inN 60, inN 0, inN 50, inN 0, inN 25, inN 20] 85 (0, 0))], 4315, .tuple #[inN 238, .bool true], [], 4327⟩
theorem m103_4315_ok : isMemo m103_4315 (m103_4315.drun Try.prog goFns insOrc 100000) = true := by decide +kernel
def m115_4338 : Memo :=
  ⟨115, #[.agg #[.slice (some ⟨3451, 0, none⟩) 2 1, inN 0], inN 0, inN 50], [(3451, .cells #[inN (-1), inN (-1)] 3 (0, 0))], 4338, .agg #[.slice (some ⟨4344, 0, none⟩) 3 1, inN 50], [(4344, .cells #[inN 0, inN (-1), inN (-1)] 3 (0, 0))], 4346⟩
theorem m115_4338_ok : isMemo m115_4338 (m115_4338.run Try.prog goFns insOrc 100000) = true := by decide +kernel
def m115_4351 : Memo :=
  ⟨115, #[.agg #[.slice (some ⟨3918, 0, none⟩) 2 1, inN 40], inN 0, inN 50], [(3918, .cells #[inN 1, inN 1] 3 (0, 0))], 4351, .agg #[.slice (some ⟨4357, 0, none⟩) 3 1, inN 90], [(4357, .cells #[inN 0, inN 1, inN 1] 3 (0, 0))], 4359⟩
theorem m115_4351_ok : isMemo m115_4351 (m115_4351.run Try.prog goFns insOrc 100000) = true := by decide +kernel
def m115_4364 : Memo :=
  ⟨115, #[.agg #[.slice (some ⟨3694, 0, none⟩) 2 1, inN 50], inN 0, inN 50], [(3694, .cells #[inN 0, inN (-1)] 3 (0, 0))], 4364, .agg #[.slice (some ⟨4370, 0, none⟩) 3 1, inN 100], [(4370, .cells #[inN 0, inN 0, inN (-1)] 3 (0, 0))], 4372⟩
theorem m115_4364_ok : isMemo m115_4364 (m115_4364.run Try.prog goFns insOrc 100000) = true := by decide +kernel
def m103_4378 : Memo :=
  ⟨103, #[.agg #[.slice (some ⟨2663, 0, none⟩) 4 4, .slice (some ⟨2664, 0, none⟩) 2 3, inN 2, inN 100, inN 200, inN 200, inN 300, inN 500, inN 1000, inN 20, inN 50], .agg #[inN 1, inN 258], inN 20, inN 1], [(2663, .cells #[inN 100, inN 10, inN 20, inN (-1), inN 150, inN 20, inN 30, inN (-1), inN 180, inN 20, inN 40, inN 10, inN 175, inN 10, inN 20, inN 0] 59 (0, 0)), (2664, .cells #[inN 60, inN 0, inN 50, inN 0, inN 25, inN 20] 85 (0, 0))], 4378, .tuple #[inN 213, .bool true], [], 4390⟩
theorem m103_4378_ok : isMemo m103_4378 (m103_4378.drun Try.prog goFns insOrc 100000) = true := by decide +kernel
def m103_4397 : Memo :=
  ⟨103, #[.agg #[.slice (some ⟨2663, 0, none⟩) 4 4, .slice (some ⟨2664, 0, none⟩) 2 3, inN 2, inN 100, inN 200, inN 200, inN 300, inN 500, inN 1000, inN 20, inN 50], .agg #[inN 2, inN 213], inN 20, inN (-1)], [(2663, .cells #[inN 100, inN 10, inN 20, inN (-1), inN 150, inN 20, inN 30, inN (-1), inN 180, inN 20, inN 40, inN 10, inN 175, inN 10, inN 20, inN 0] 59 (0, 0))], 4397, .tuple #[inN 193, .bool true], [], 4409⟩
theorem m103_4397_ok : isMemo m103_4397 (m103_4397.drun Try.prog goFns insOrc 100000) = true := by decide +kernel
def m115_4420 : Memo :=
  ⟨115, #[.agg #[.slice (some ⟨3752, 0, none⟩) 1 1, inN 0], inN (-1), inN 0], [(3752, .cells #[inN (-1)] 3 (0, 0))], 4420, .agg #[.slice (some ⟨4426, 0, none⟩) 2 1, inN 0], [(4426, .cells #[inN (-1), inN (-1)] 3 (0, 0))], 4428⟩
theorem m115_4420_ok : isMemo m115_4420 (m115_4420.run Try.prog goFns insOrc 100000) = true := by decide +kernel
def m115_4433 : Memo :=
  ⟨115, #[.agg #[.slice (some ⟨3828, 0, none⟩) 1 1, inN 20], inN (-1), inN 0], [(3828, .cells #[inN 1] 3 (0, 0))], 4433, .agg #[.slice (some ⟨4439, 0, none⟩) 2 1, inN 20], [(4439, .cells #[inN (-1), inN 1] 3 (0, 0))], 4441⟩
theorem m115_4433_ok : isMemo m115_4433 (m115_4433.run Try.prog goFns insOrc 100000) = true := by decide +kernel
def m103_4447 : Memo :=
  ⟨103, #[.agg #[.slice (some ⟨2663, 0, none⟩) 4 4, .slice (some ⟨2664, 0, none⟩) 2 3, inN 2, inN 100, inN 200, inN 200, inN 300, inN 500, inN 1000, inN 20, inN 50], .agg #[inN 2, inN 213], inN 20, inN 0], [(2663, .cells #[inN 100, inN 10, inN 20, inN (-1), inN 150, inN 20, inN 30, inN (-1), inN 180, inN 20, inN 40, inN 10, inN 175, inN 10, inN 20, inN 0] 59 (0, 0)), (2664, .cells #[inN 60, inN 0, inN 50, inN 0, inN 25, inN 20] 85 (0, 0))], 4447, .tuple #[inN 0, .bool false], [], 4459⟩
theorem m103_4447_ok : isMemo m103_4447 (m103_4447.drun Try.prog goFns insOrc 100000) = true := by decide +kernel
def m115_4470 : Memo :=
  ⟨115, #[.agg #[.slice (some ⟨3520, 0, none⟩) 1 1, inN 0], inN 0, inN 50], [(3520, .cells #[inN (-1)] 3 (0, 0))], 4470, .agg #[.slice (some ⟨4476, 0, none⟩) 2 1, inN 50], [(4476, .cells #[inN 0, inN (-1)] 3 (0, 0))], 4478⟩
theorem m115_4470_ok : isMemo m115_4470 (m115_4470.run Try.prog goFns insOrc 100000) = true := by decide +kernel
def m115_4483 : Memo :=
  ⟨115, #[.agg #[.slice (some ⟨3520, 0, none⟩) 1 1, inN 0], inN 0, inN 50], [(3520, .cells #[inN (-1)] 3 (0, 0))], 4483, .agg #[.slice (some ⟨4489, 0, none⟩) 2 1, inN 50], [(4489, .cells #[inN 0, inN (-1)] 3 (0, 0))], 4491⟩
theorem m115_4483_ok : isMemo m115_4483 (m115_4483.run Try.prog goFns insOrc 100000) = true := by decide +kernel
def m103_4499 : Memo :=
  ⟨103, #[.agg #[.slice (some ⟨2663, 0, none⟩) 4 4, .slice (some ⟨2664, 0, none⟩) 2 3, inN 2, inN 100, inN 200, inN 200, inN 300, inN 500, inN 1000, inN 20, inN 50], .agg #[inN 2, inN 213], inN 20, inN 1], [(2663, .cells #[inN 100, inN 10, inN 20, inN (-1), inN 150, inN 20, inN 30, inN (-1), inN 180, inN 20, inN 40, inN 10, inN 175, inN 10, inN 20, inN 0] 59 (0, 0)), (2664, .cells #[inN 60, inN 0, inN 50, inN 0, inN 25, inN 20] 85 (0, 0))], 4499, .tuple #[inN 0, .bool false], [], 4511⟩
theorem m103_4499_ok : isMemo m103_4499 (m103_4499.drun Try.prog goFns insOrc 100000) = true := by decide +kernel
def m115_4522 : Memo :=
  ⟨115, #[.agg #[.slice (some ⟨3520, 0, none⟩) 1 1, inN 0], inN 1, inN 20], [(3520, .cells #[inN (-1)] 3 (0, 0))], 4522, .agg #[.slice (some ⟨4528, 0, none⟩) 2 1, inN 20], [(4528, .cells #[inN 1, inN (-1)] 3 (0, 0))], 4530⟩
theorem m115_4522_ok : isMemo m115_4522 (m115_4522.run Try.prog goFns insOrc 100000) = true := by decide +kernel
def m115_4535 : Memo :=
  ⟨115, #[.agg #[.slice (some ⟨3520, 0, none⟩) 1 1, inN 0], inN 1, inN 20], [(3520, .cells #[inN (-1)] 3 (0, 0))], 4535, .agg #[.slice (some ⟨4541, 0, none⟩) 2 1, inN 20], [(4541, .cells #[inN 1, inN (-1)] 3 (0, 0))], 4543⟩
theorem m115_4535_ok : isMemo m115_4535 (m115_4535.run Try.prog goFns insOrc 100000) = true := by decide +kernel
def m108_4547 : Memo :=
  ⟨108, #[.slice (some ⟨4546, 0, none⟩) 3 1], [(4544, .cells #[.slice (some ⟨4528, 0, none⟩) 2 1, inN 20, .slice (some ⟨4528, 0, none⟩) 2 1, inN 20, .slice (some ⟨4541, 0, none⟩) 2 1, inN 20] 108 (0, 0)), (4492, .cells #[.slice (some ⟨4476, 0, none⟩) 2 1, inN 50, .slice (some ⟨4476, 0, none⟩) 2 1, inN 50, .slice (some ⟨4489, 0, none⟩) 2 1, inN 50] 108 (0, 0)), (4414, .cells #[.slice (some ⟨4426, 0, none⟩) 2 1, inN 0, .slice (some ⟨4439, 0, none⟩) 2 1, inN 20] 108 (0, 0)), (4546, .cells #[.slice (some ⟨4414, 0, none⟩) 2 2, .slice (some ⟨4492, 0, none⟩) 3 2, .slice (some ⟨4544, 0, none⟩) 3 2] 130 (0, 0))], 4547, .slice (some ⟨4621, 0, none⟩) 3 2, [(4621, .cells #[.slice (some ⟨4426, 0, none⟩) 2 1, inN 0, .slice (some ⟨4439, 0, none⟩) 2 1, inN 20, .slice (some ⟨4541, 0, none⟩) 2 1, inN 20] 108 (0, 0))], 4631⟩
theorem m108_4547_ok : isMemo m108_4547 (m108_4547.run Try.prog goFns insOrc 100000) = true := by decide +kernel
def m115_4639 : Memo :=
  ⟨115, #[.agg #[.slice (some ⟨4426, 0, none⟩) 2 1, inN 0], inN 1, inN 20], [(4426, .cells #[inN (-1), inN (-1)] 3 (0, 0))], 4639, .agg #[.slice (some ⟨4645, 0, none⟩) 3 1, inN 20], [(4645, .cells #[inN 1, inN (-1), inN (-1)] 3 (0, 0))], 4647⟩
theorem m115_4639_ok : isMemo m115_4639 (m115_4639.run Try.prog goFns insOrc 100000) = true := by decide +kernel
def m115_4652 : Memo :=
  ⟨115, #[.agg #[.slice (some ⟨4439, 0, none⟩) 2 1, inN 20], inN 1, inN 20], [(4439, .cells #[inN (-1), inN 1] 3 (0, 0))], 4652, .agg #[.slice (some ⟨4658, 0, none⟩) 3 1, inN 40], [(4658, .cells #[inN 1, inN (-1), inN 1] 3 (0, 0))], 4660⟩
theorem m115_4652_ok : isMemo m115_4652 (m115_4652.run Try.prog goFns insOrc 100000) = true := by decide +kernel
end Go.Proofs.Ytiigkdhaofaijaa

namespace Go.Proofs.Ytiigkdhaofaijaa
open Go Go.CE Go.RowKit
def m115_4665 : Memo :=
  ⟨115, #[.agg #[.slice (some ⟨4541, 0, none⟩) 2 1, inN 20], inN 1, inN 20], [(4541, .cells #[inN 1, inN (-1)] 3 (0, 0))], 4665, .agg #[.slice (some ⟨4671, 0, none⟩) 3 1, inN 40], [(4671, .cells #[inN 1, inN 1, inN (-1)] 3 (0, 0))], 4673⟩
theorem m115_4665_ok : isMemo m115_4665 (m115_4665.run Try.prog goFns insOrc 100000) = true := by decide +kernel
def m108_4675 : Memo :=
  ⟨108, #[.slice (some ⟨4674, 0, none⟩) 3 1], [(4633, .cells #[.slice (some ⟨4645, 0, none⟩) 3 1, inN 20, .slice (some ⟨4658, 0, none⟩) 3 1, inN 40, .slice (some ⟨4671, 0, none⟩) 3 1, inN 40] 108 (0, 0)), (4332, .cells #[.slice (some ⟨4344, 0, none⟩) 3 1, inN 50, .slice (some ⟨4357, 0, none⟩) 3 1, inN 90, .slice (some ⟨4370, 0, none⟩) 3 1, inN 100] 108 (0, 0)), (4269, .cells #[.slice (some ⟨4281, 0, none⟩) 3 1, inN 0, .slice (some ⟨4294, 0, none⟩) 3 1, inN 40, .slice (some ⟨4307, 0, none⟩) 3 1, inN 50] 108 (0, 0)), (4674, .cells #[.slice (some ⟨4269, 0, none⟩) 3 2, .slice (some ⟨4332, 0, none⟩) 3 2, .slice (some ⟨4633, 0, none⟩) 3 2] 130 (0, 0))], 4675, .slice (some ⟨4755, 0, none⟩) 3 2, [(4755, .cells #[.slice (some ⟨4281, 0, none⟩) 3 1, inN 0, .slice (some ⟨4294, 0, none⟩) 3 1, inN 40, .slice (some ⟨4671, 0, none⟩) 3 1, inN 40] 108 (0, 0))], 4765⟩
theorem m108_4675_ok : isMemo m108_4675 (m108_4675.run Try.prog goFns insOrc 100000) = true := by decide +kernel
def m115_4773 : Memo :=
  ⟨115, #[.agg #[.slice (some ⟨4281, 0, none⟩) 3 1, inN 0], inN 1, inN 20], [(4281, .cells #[inN (-1), inN (-1), inN (-1)] 3 (0, 0))], 4773, .agg #[.slice (some ⟨4779, 0, none⟩) 4 1, inN 20], [(4779, .cells #[inN 1, inN (-1), inN (-1), inN (-1)] 3 (0, 0))], 4781⟩
theorem m115_4773_ok : isMemo m115_4773 (m115_4773.run Try.prog goFns insOrc 100000) = true := by decide +kernel
def m115_4786 : Memo :=
  ⟨115, #[.agg #[.slice (some ⟨4294, 0, none⟩) 3 1, inN 40], inN 1, inN 20], [(4294, .cells #[inN (-1), inN 1, inN 1] 3 (0, 0))], 4786, .agg #[.slice (some ⟨4792, 0, none⟩) 4 1, inN 60], [(4792, .cells #[inN 1, inN (-1), inN 1, inN 1] 3 (0, 0))], 4794⟩
theorem m115_4786_ok : isMemo m115_4786 (m115_4786.run Try.prog goFns insOrc 100000) = true := by decide +kernel
def m115_4799 : Memo :=
  ⟨115, #[.agg #[.slice (some ⟨4671, 0, none⟩) 3 1, inN 40], inN 1, inN 20], [(4671, .cells #[inN 1, inN 1, inN (-1)] 3 (0, 0))], 4799, .agg #[.slice (some ⟨4805, 0, none⟩) 4 1, inN 60], [(4805, .cells #[inN 1, inN 1, inN 1, inN (-1)] 3 (0, 0))], 4807⟩
theorem m115_4799_ok : isMemo m115_4799 (m115_4799.run Try.prog goFns insOrc 100000) = true := by decide +kernel
def m108_4809 : Memo :=
  ⟨108, #[.slice (some ⟨4808, 0, none⟩) 3 1], [(4767, .cells #[.slice (some ⟨4779, 0, none⟩) 4 1, inN 20, .slice (some ⟨4792, 0, none⟩) 4 1, inN 60, .slice (some ⟨4805, 0, none⟩) 4 1, inN 60] 108 (0, 0)), (4187, .cells #[.slice (some ⟨4199, 0, none⟩) 4 1, inN 50, .slice (some ⟨4212, 0, none⟩) 4 1, inN 100, .slice (some ⟨4225, 0, none⟩) 4 1, inN 120] 108 (0, 0)), (4124, .cells #[.slice (some ⟨4136, 0, none⟩) 4 1, inN 0, .slice (some ⟨4149, 0, none⟩) 4 1, inN 50, .slice (some ⟨4162, 0, none⟩) 4 1, inN 70] 108 (0, 0)), (4808, .cells #[.slice (some ⟨4124, 0, none⟩) 3 2, .slice (some ⟨4187, 0, none⟩) 3 2, .slice (some ⟨4767, 0, none⟩) 3 2] 130 (0, 0))], 4809, .slice (some ⟨4889, 0, none⟩) 3 2, [(4889, .cells #[.slice (some ⟨4136, 0, none⟩) 4 1, inN 0, .slice (some ⟨4149, 0, none⟩) 4 1, inN 50, .slice (some ⟨4805, 0, none⟩) 4 1, inN 60] 108 (0, 0))], 4899⟩
theorem m108_4809_ok : isMemo m108_4809 (m108_4809.run Try.prog goFns insOrc 100000) = true := by decide +kernel
def m103_4984 : Memo :=
  ⟨103, #[.agg #[.slice (some ⟨4902, 0, none⟩) 4 4, .slice (some ⟨4903, 0, none⟩) 2 3, inN 2, inN 100, inN 200, inN 200, inN 300, inN 500, inN 1000, inN 20, inN 50], .agg #[inN 0, inN 293], inN 10, inN 1], [(4902, .cells #[inN 100, inN 10, inN 20, inN (-1), inN 150, inN 20, inN 30, inN (-1), inN 180, inN 20, inN 40, inN 10, inN 175, inN 10, inN 20, inN 0] 59 (0, 0)), (4903, .cells #[inN 60, inN 0, inN 50, inN 0, inN 25, inN 20] 85 (0, 0))], 4984, .tuple #[inN 258, .bool true], [], 4996⟩
theorem m103_4984_ok : isMemo m103_4984 (m103_4984.drun Try.prog goFns insOrc 100000) = true := by decide +kernel
def m103_4996 : Memo :=
  ⟨103, #[.agg #[.slice (some ⟨4902, 0, none⟩) 4 4, .slice (some ⟨4903, 0, none⟩) 2 3, inN 2, inN 100, inN 200, inN 200, inN 300, inN 500, inN 1000, inN 20, inN 50], .agg #[inN 1, inN 258], inN 20, inN 1], [(4902, .cells #[inN 100, inN 10, inN 20, inN (-1), inN 150, inN 20, inN 30, inN (-1), inN 180, inN 20, inN 40, inN 10, inN 175, inN 10, inN 20, inN 0] 59 (0, 0)), (4903, .cells #[inN 60, inN 0, inN 50, inN 0, inN 25, inN 20] 85 (0, 0))], 4996, .tuple #[inN 213, .bool true], [], 5008⟩
theorem m103_4996_ok : isMemo m103_4996 (m103_4996.drun Try.prog goFns insOrc 100000) = true := by decide +kernel
def m103_5008 : Memo :=
  ⟨103, #[.agg #[.slice (some ⟨4902, 0, none⟩) 4 4, .slice (some ⟨4903, 0, none⟩) 2 3, inN 2, inN 100, inN 200, inN 200, inN 300, inN 500, inN 1000, inN 20, inN 50], .agg #[inN 2, inN 213], inN 20, inN 1], [(4902, .cells #[inN 100, inN 10, inN 20, inN (-1), inN 150, inN 20, inN 30, inN (-1), inN 180, inN 20, inN 40, inN 10, inN 175, inN 10, inN 20, inN 0] 59 (0, 0)), (4903, .cells #[inN 60, inN 0, inN 50, inN 0, inN 25, inN 20] 85 (0, 0))], 5008, .tuple #[inN 0, .bool false], [], 5020⟩
theorem m103_5008_ok : isMemo m103_5008 (m103_5008.drun Try.prog goFns insOrc 100000) = true := by decide +kernel
end Go.Proofs.Ytiigkdhaofaijaa

namespace Go.Proofs.Ytiigkdhaofaijaa
open Go Go.CE Go.RowKit
noncomputable def orc_m106_3041 : Orc := orElse insOrc (memoOrc [m103_3045])
theorem orc_m106_3041_ok (B : Lo) : OrcS Try.prog B orc_m106_3041 := orElse_ok (insOrc_ok _) (orcS_consD goFns_ok mixed_ok (insOrc_ok _) m103_3045_ok (orcS_nil _ _))
def m106_3041 : Memo :=
  ⟨106, #[.agg #[.slice (some ⟨2663, 0, none⟩) 4 4, .slice (some ⟨2664, 0, none⟩) 2 3, inN 2, inN 100, inN 200, inN 200, inN 300, inN 500, inN 1000, inN 20, inN 50], .agg #[inN 2, inN 263], inN 20, inN 1], [(2664, .cells #[inN 60, inN 0, inN 50, inN 0, inN 25, inN 20] 85 (0, 0)), (2663, .cells #[inN 100, inN 10, inN 20, inN (-1), inN 150, inN 20, inN 30, inN (-1), inN 180, inN 20, inN 40, inN 10, inN 175, inN 10, inN 20, inN 0] 59 (0, 0))], 3041, .tuple #[.agg #[inN 3, inN 218], .bool false], [], 3058⟩
theorem m106_3041_ok : isMemo m106_3041 (m106_3041.run Try.prog goFns orc_m106_3041 100000) = true := by decide +kernel
noncomputable def orc_m106_3060 : Orc := orElse insOrc (memoOrc [m103_3064])
theorem orc_m106_3060_ok (B : Lo) : OrcS Try.prog B orc_m106_3060 := orElse_ok (insOrc_ok _) (orcS_consD goFns_ok mixed_ok (insOrc_ok _) m103_3064_ok (orcS_nil _ _))
def m106_3060 : Memo :=
  ⟨106, #[.agg #[.slice (some ⟨2663, 0, none⟩) 4 4, .slice (some ⟨2664, 0, none⟩) 2 3, inN 2, inN 100, inN 200, inN 200, inN 300, inN 500, inN 1000, inN 20, inN 50], .agg #[inN 3, inN 218], inN 10, inN (-1)], [(2663, .cells #[inN 100, inN 10, inN 20, inN (-1), inN 150, inN 20, inN 30, inN (-1), inN 180, inN 20, inN 40, inN 10, inN 175, inN 10, inN 20, inN 0] 59 (0, 0))], 3060, .tuple #[.agg #[inN 4, inN 208], .bool false], [], 3077⟩
theorem m106_3060_ok : isMemo m106_3060 (m106_3060.run Try.prog goFns orc_m106_3060 100000) = true := by decide +kernel
noncomputable def orc_m107_3080 : Orc := orElse insOrc (memoOrc [m115_3088])
theorem orc_m107_3080_ok (B : Lo) : OrcS Try.prog B orc_m107_3080 := orElse_ok (insOrc_ok _) (orcS_cons goFns_ok mixed_ok (insOrc_ok _) m115_3088_ok (orcS_nil _ _))
def m107_3080 : Memo :=
  ⟨107, #[.agg #[.slice (some ⟨2663, 0, none⟩) 4 4, .slice (some ⟨2664, 0, none⟩) 2 3, inN 2, inN 100, inN 200, inN 200, inN 300, inN 500, inN 1000, inN 20, inN 50], .slice (some ⟨3079, 0, none⟩) 1 2, inN (-1), .bool false], [(3079, .cells #[.slice none 0 0, inN 0] 108 (0, 0))], 3080, .slice (some ⟨3082, 0, none⟩) 1 2, [(3093, .cells #[inN (-1)] 3 (0, 0)), (3082, .cells #[.slice (some ⟨3093, 0, none⟩) 1 1, inN 0] 108 (0, 0))], 3095⟩
theorem m107_3080_ok : isMemo m107_3080 (m107_3080.run Try.prog goFns orc_m107_3080 100000) = true := by decide +kernel
noncomputable def orc_m106_3097 : Orc := orElse insOrc (memoOrc [m103_3101])
theorem orc_m106_3097_ok (B : Lo) : OrcS Try.prog B orc_m106_3097 := orElse_ok (insOrc_ok _) (orcS_consD goFns_ok mixed_ok (insOrc_ok _) m103_3101_ok (orcS_nil _ _))
def m106_3097 : Memo :=
  ⟨106, #[.agg #[.slice (some ⟨2663, 0, none⟩) 4 4, .slice (some ⟨2664, 0, none⟩) 2 3, inN 2, inN 100, inN 200, inN 200, inN 300, inN 500, inN 1000, inN 20, inN 50], .agg #[inN 3, inN 218], inN 10, inN 0], [(2664, .cells #[inN 60, inN 0, inN 50, inN 0, inN 25, inN 20] 85 (0, 0)), (2663, .cells #[inN 100, inN 10, inN 20, inN (-1), inN 150, inN 20, inN 30, inN (-1), inN 180, inN 20, inN 40, inN 10, inN 175, inN 10, inN 20, inN 0] 59 (0, 0))], 3097, .tuple #[.agg #[inN 4, inN (-5000)], .bool true], [], 3114⟩
theorem m106_3097_ok : isMemo m106_3097 (m106_3097.run Try.prog goFns orc_m106_3097 100000) = true := by decide +kernel
noncomputable def orc_m107_3117 : Orc := orElse insOrc (memoOrc [m115_3125])
theorem orc_m107_3117_ok (B : Lo) : OrcS Try.prog B orc_m107_3117 := orElse_ok (insOrc_ok _) (orcS_cons goFns_ok mixed_ok (insOrc_ok _) m115_3125_ok (orcS_nil _ _))
def m107_3117 : Memo :=
  ⟨107, #[.agg #[.slice (some ⟨2663, 0, none⟩) 4 4, .slice (some ⟨2664, 0, none⟩) 2 3, inN 2, inN 100, inN 200, inN 200, inN 300, inN 500, inN 1000, inN 20, inN 50], .slice (some ⟨3116, 0, none⟩) 1 2, inN 0, .bool true], [(3116, .cells #[.slice none 0 0, inN 0] 108 (0, 0)), (2664, .cells #[inN 60, inN 0, inN 50, inN 0, inN 25, inN 20] 85 (0, 0))], 3117, .slice (some ⟨3133, 0, none⟩) 2 2, [(3130, .cells #[inN 0] 3 (0, 0)), (3133, .cells #[.slice (some ⟨3130, 0, none⟩) 1 1, inN 50, .slice (some ⟨3130, 0, none⟩) 1 1, inN 50] 108 (0, 0))], 3134⟩
theorem m107_3117_ok : isMemo m107_3117 (m107_3117.run Try.prog goFns orc_m107_3117 100000) = true := by decide +kernel
noncomputable def orc_m106_3136 : Orc := orElse insOrc (memoOrc [m103_3140])
theorem orc_m106_3136_ok (B : Lo) : OrcS Try.prog B orc_m106_3136 := orElse_ok (insOrc_ok _) (orcS_consD goFns_ok mixed_ok (insOrc_ok _) m103_3140_ok (orcS_nil _ _))
def m106_3136 : Memo :=
  ⟨106, #[.agg #[.slice (some ⟨2663, 0, none⟩) 4 4, .slice (some ⟨2664, 0, none⟩) 2 3, inN 2, inN 100, inN 200, inN 200, inN 300, inN 500, inN 1000, inN 20, inN 50], .agg #[inN 3, inN 218], inN 10, inN 1], [(2664, .cells #[inN 60, inN 0, inN 50, inN 0, inN 25, inN 20] 85 (0, 0)), (2663, .cells #[inN 100, inN 10, inN 20, inN (-1), inN 150, inN 20, inN 30, inN (-1), inN 180, inN 20, inN 40, inN 10, inN 175, inN 10, inN 20, inN 0] 59 (0, 0))], 3136, .tuple #[.agg #[inN 4, inN 183], .bool false], [], 3153⟩
theorem m106_3136_ok : isMemo m106_3136 (m106_3136.run Try.prog goFns orc_m106_3136 100000) = true := by decide +kernel
noncomputable def orc_m107_3156 : Orc := orElse insOrc (memoOrc [m115_3164])
theorem orc_m107_3156_ok (B : Lo) : OrcS Try.prog B orc_m107_3156 := orElse_ok (insOrc_ok _) (orcS_cons goFns_ok mixed_ok (insOrc_ok _) m115_3164_ok (orcS_nil _ _))
def m107_3156 : Memo :=
  ⟨107, #[.agg #[.slice (some ⟨2663, 0, none⟩) 4 4, .slice (some ⟨2664, 0, none⟩) 2 3, inN 2, inN 100, inN 200, inN 200, inN 300, inN 500, inN 1000, inN 20, inN 50], .slice (some ⟨3155, 0, none⟩) 1 2, inN 1, .bool false], [(3155, .cells #[.slice none 0 0, inN 0] 108 (0, 0)), (2664, .cells #[inN 60, inN 0, inN 50, inN 0, inN 25, inN 20] 85 (0, 0))], 3156, .slice (some ⟨3158, 0, none⟩) 1 2, [(3169, .cells #[inN 1] 3 (0, 0)), (3158, .cells #[.slice (some ⟨3169, 0, none⟩) 1 1, inN 20] 108 (0, 0))], 3171⟩
theorem m107_3156_ok : isMemo m107_3156 (m107_3156.run Try.prog goFns orc_m107_3156 100000) = true := by decide +kernel
noncomputable def orc_m107_3224 : Orc := orElse insOrc (memoOrc [m115_3232, m115_3245])
theorem orc_m107_3224_ok (B : Lo) : OrcS Try.prog B orc_m107_3224 := orElse_ok (insOrc_ok _) (orcS_cons goFns_ok mixed_ok (insOrc_ok _) m115_3232_ok (orcS_cons goFns_ok mixed_ok (insOrc_ok _) m115_3245_ok (orcS_nil _ _)))
def m107_3224 : Memo :=
  ⟨107, #[.agg #[.slice (some ⟨2663, 0, none⟩) 4 4, .slice (some ⟨2664, 0, none⟩) 2 3, inN 2, inN 100, inN 200, inN 200, inN 300, inN 500, inN 1000, inN 20, inN 50], .slice (some ⟨3214, 0, none⟩) 2 2, inN 1, .bool false], [(3214, .cells #[.slice (some ⟨3093, 0, none⟩) 1 1, inN 0, .slice (some ⟨3130, 0, none⟩) 1 1, inN 50] 108 (0, 0)), (3093, .cells #[inN (-1)] 3 (0, 0)), (2664, .cells #[inN 60, inN 0, inN 50, inN 0, inN 25, inN 20] 85 (0, 0)), (3130, .cells #[inN 0] 3 (0, 0))], 3224, .slice (some ⟨3226, 0, none⟩) 2 2, [(3251, .cells #[inN 1, inN 0] 3 (0, 0)), (3238, .cells #[inN 1, inN (-1)] 3 (0, 0)), (3226, .cells #[.slice (some ⟨3238, 0, none⟩) 2 1, inN 20, .slice (some ⟨3251, 0, none⟩) 2 1, inN 70] 108 (0, 0))], 3253⟩
theorem m107_3224_ok : isMemo m107_3224 (m107_3224.run Try.prog goFns orc_m107_3224 100000) = true := by decide +kernel
noncomputable def orc_m107_3318 : Orc := orElse insOrc (memoOrc [m115_3326, m115_3339])
theorem orc_m107_3318_ok (B : Lo) : OrcS Try.prog B orc_m107_3318 := orElse_ok (insOrc_ok _) (orcS_cons goFns_ok mixed_ok (insOrc_ok _) m115_3326_ok (orcS_cons goFns_ok mixed_ok (insOrc_ok _) m115_3339_ok (orcS_nil _ _)))
def m107_3318 : Memo :=
  ⟨107, #[.agg #[.slice (some ⟨2663, 0, none⟩) 4 4, .slice (some ⟨2664, 0, none⟩) 2 3, inN 2, inN 100, inN 200, inN 200, inN 300, inN 500, inN 1000, inN 20, inN 50], .slice (some ⟨3308, 0, none⟩) 2 2, inN (-1), .bool false], [(3308, .cells #[.slice (some ⟨2974, 0, none⟩) 2 1, inN 0, .slice (some ⟨2987, 0, none⟩) 2 1, inN 50] 108 (0, 0)), (2974, .cells #[inN (-1), inN (-1)] 3 (0, 0)), (2987, .cells #[inN (-1), inN 0] 3 (0, 0))], 3318, .slice (some ⟨3320, 0, none⟩) 2 2, [(3345, .cells #[inN (-1), inN (-1), inN 0] 3 (0, 0)), (3332, .cells #[inN (-1), inN (-1), inN (-1)] 3 (0, 0)), (3320, .cells #[.slice (some ⟨3332, 0, none⟩) 3 1, inN 0, .slice (some ⟨3345, 0, none⟩) 3 1, inN 50] 108 (0, 0))], 3347⟩
theorem m107_3318_ok : isMemo m107_3318 (m107_3318.run Try.prog goFns orc_m107_3318 100000) = true := by decide +kernel
noncomputable def orc_m106_3349 : Orc := orElse insOrc (memoOrc [m103_3353])
theorem orc_m106_3349_ok (B : Lo) : OrcS Try.prog B orc_m106_3349 := orElse_ok (insOrc_ok _) (orcS_consD goFns_ok mixed_ok (insOrc_ok _) m103_3353_ok (orcS_nil _ _))
def m106_3349 : Memo :=
  ⟨106, #[.agg #[.slice (some ⟨2663, 0, none⟩) 4 4, .slice (some ⟨2664, 0, none⟩) 2 3, inN 2, inN 100, inN 200, inN 200, inN 300, inN 500, inN 1000, inN 20, inN 50], .agg #[inN 1, inN 283], inN 20, inN 0], [(2664, .cells #[inN 60, inN 0, inN 50, inN 0, inN 25, inN 20] 85 (0, 0)), (2663, .cells #[inN 100, inN 10, inN 20, inN (-1), inN 150, inN 20, inN 30, inN (-1), inN 180, inN 20, inN 40, inN 10, inN 175, inN 10, inN 20, inN 0] 59 (0, 0))], 3349, .tuple #[.agg #[inN 2, inN 263], .bool false], [], 3366⟩
theorem m106_3349_ok : isMemo m106_3349 (m106_3349.run Try.prog goFns orc_m106_3349 100000) = true := by decide +kernel
noncomputable def orc_m107_3368 : Orc := orElse insOrc (memoOrc [m115_3376, m115_3389])
theorem orc_m107_3368_ok (B : Lo) : OrcS Try.prog B orc_m107_3368 := orElse_ok (insOrc_ok _) (orcS_cons goFns_ok mixed_ok (insOrc_ok _) m115_3376_ok (orcS_cons goFns_ok mixed_ok (insOrc_ok _) m115_3389_ok (orcS_nil _ _)))
def m107_3368 : Memo :=
  ⟨107, #[.agg #[.slice (some ⟨2663, 0, none⟩) 4 4, .slice (some ⟨2664, 0, none⟩) 2 3, inN 2, inN 100, inN 200, inN 200, inN 300, inN 500, inN 1000, inN 20, inN 50], .slice (some ⟨3308, 0, none⟩) 2 2, inN 0, .bool false], [(3308, .cells #[.slice (some ⟨2974, 0, none⟩) 2 1, inN 0, .slice (some ⟨2987, 0, none⟩) 2 1, inN 50] 108 (0, 0)), (2974, .cells #[inN (-1), inN (-1)] 3 (0, 0)), (2664, .cells #[inN 60, inN 0, inN 50, inN 0, inN 25, inN 20] 85 (0, 0)), (2987, .cells #[inN (-1), inN 0] 3 (0, 0))], 3368, .slice (some ⟨3370, 0, none⟩) 2 2, [(3395, .cells #[inN 0, inN (-1), inN 0] 3 (0, 0)), (3382, .cells #[inN 0, inN (-1), inN (-1)] 3 (0, 0)), (3370, .cells #[.slice (some ⟨3382, 0, none⟩) 3 1, inN 50, .slice (some ⟨3395, 0, none⟩) 3 1, inN 100] 108 (0, 0))], 3397⟩
theorem m107_3368_ok : isMemo m107_3368 (m107_3368.run Try.prog goFns orc_m107_3368 100000) = true := by decide +kernel
noncomputable def orc_m106_3399 : Orc := orElse insOrc (memoOrc [m103_3403])
theorem orc_m106_3399_ok (B : Lo) : OrcS Try.prog B orc_m106_3399 := orElse_ok (insOrc_ok _) (orcS_consD goFns_ok mixed_ok (insOrc_ok _) m103_3403_ok (orcS_nil _ _))
def m106_3399 : Memo :=
  ⟨106, #[.agg #[.slice (some ⟨2663, 0, none⟩) 4 4, .slice (some ⟨2664, 0, none⟩) 2 3, inN 2, inN 100, inN 200, inN 200, inN 300, inN 500, inN 1000, inN 20, inN 50], .agg #[inN 1, inN 283], inN 20, inN 1], [(2664, .cells #[inN 60, inN 0, inN 50, inN 0, inN 25, inN 20] 85 (0, 0)), (2663, .cells #[inN 100, inN 10, inN 20, inN (-1), inN 150, inN 20, inN 30, inN (-1), inN 180, inN 20, inN 40, inN 10, inN 175, inN 10, inN 20, inN 0] 59 (0, 0))], 3399, .tuple #[.agg #[inN 2, inN 238], .bool false], [], 3416⟩
theorem m106_3399_ok : isMemo m106_3399 (m106_3399.run Try.prog goFns orc_m106_3399 100000) = true := by decide +kernel
noncomputable def orc_m106_3418 : Orc := orElse insOrc (memoOrc [m103_3422])
theorem orc_m106_3418_ok (B : Lo) : OrcS Try.prog B orc_m106_3418 := orElse_ok (insOrc_ok _) (orcS_consD goFns_ok mixed_ok (insOrc_ok _) m103_3422_ok (orcS_nil _ _))
def m106_3418 : Memo :=
  ⟨106, #[.agg #[.slice (some ⟨2663, 0, none⟩) 4 4, .slice (some ⟨2664, 0, none⟩) 2 3, inN 2, inN 100, inN 200, inN 200, inN 300, inN 500, inN 1000, inN 20, inN 50], .agg #[inN 2, inN 238], inN 20, inN (-1)], [(2663, .cells #[inN 100, inN 10, inN 20, inN (-1), inN 150, inN 20, inN 30, inN (-1), inN 180, inN 20, inN 40, inN 10, inN 175, inN 10, inN 20, inN 0] 59 (0, 0))], 3418, .tuple #[.agg #[inN 3, inN 218], .bool false], [], 3435⟩
theorem m106_3418_ok : isMemo m106_3418 (m106_3418.run Try.prog goFns orc_m106_3418 100000) = true := by decide +kernel
noncomputable def orc_m107_3437 : Orc := orElse insOrc (memoOrc [m115_3445, m115_3458])
theorem orc_m107_3437_ok (B : Lo) : OrcS Try.prog B orc_m107_3437 := orElse_ok (insOrc_ok _) (orcS_cons goFns_ok mixed_ok (insOrc_ok _) m115_3445_ok (orcS_cons goFns_ok mixed_ok (insOrc_ok _) m115_3458_ok (orcS_nil _ _)))
def m107_3437 : Memo :=
  ⟨107, #[.agg #[.slice (some ⟨2663, 0, none⟩) 4 4, .slice (some ⟨2664, 0, none⟩) 2 3, inN 2, inN 100, inN 200, inN 200, inN 300, inN 500, inN 1000, inN 20, inN 50], .slice (some ⟨3214, 0, none⟩) 2 2, inN (-1), .bool false], [(3214, .cells #[.slice (some ⟨3093, 0, none⟩) 1 1, inN 0, .slice (some ⟨3130, 0, none⟩) 1 1, inN 50] 108 (0, 0)), (3093, .cells #[inN (-1)] 3 (0, 0)), (3130, .cells #[inN 0] 3 (0, 0))], 3437, .slice (some ⟨3439, 0, none⟩) 2 2, [(3464, .cells #[inN (-1), inN 0] 3 (0, 0)), (3451, .cells #[inN (-1), inN (-1)] 3 (0, 0)), (3439, .cells #[.slice (some ⟨3451, 0, none⟩) 2 1, inN 0, .slice (some ⟨3464, 0, none⟩) 2 1, inN 50] 108 (0, 0))], 3466⟩
theorem m107_3437_ok : isMemo m107_3437 (m107_3437.run Try.prog goFns orc_m107_3437 100000) = true := by decide +kernel
noncomputable def orc_m106_3468 : Orc := orElse insOrc (memoOrc [m103_3472])
theorem orc_m106_3468_ok (B : Lo) : OrcS Try.prog B orc_m106_3468 := orElse_ok (insOrc_ok _) (orcS_consD goFns_ok mixed_ok (insOrc_ok _) m103_3472_ok (orcS_nil _ _))
def m106_3468 : Memo :=
  ⟨106, #[.agg #[.slice (some ⟨2663, 0, none⟩) 4 4, .slice (some ⟨2664, 0, none⟩) 2 3, inN 2, inN 100, inN 200, inN 200, inN 300, inN 500, inN 1000, inN 20, inN 50], .agg #[inN 2, inN 238], inN 20, inN 0], [(2664, .cells #[inN 60, inN 0, inN 50, inN 0, inN 25, inN 20] 85 (0, 0)), (2663, .cells #[inN 100, inN 10, inN 20, inN (-1), inN 150, inN 20, inN 30, inN (-1), inN 180, inN 20, inN 40, inN 10, inN 175, inN 10, inN 20, inN 0] 59 (0, 0))], 3468, .tuple #[.agg #[inN 3, inN (-5000)], .bool true], [], 3485⟩
theorem m106_3468_ok : isMemo m106_3468 (m106_3468.run Try.prog goFns orc_m106_3468 100000) = true := by decide +kernel
noncomputable def orc_m106_3487 : Orc := orElse insOrc (memoOrc [m103_3491])
theorem orc_m106_3487_ok (B : Lo) : OrcS Try.prog B orc_m106_3487 := orElse_ok (insOrc_ok _) (orcS_consD goFns_ok mixed_ok (insOrc_ok _) m103_3491_ok (orcS_nil _ _))
def m106_3487 : Memo :=
  ⟨106, #[.agg #[.slice (some ⟨2663, 0, none⟩) 4 4, .slice (some ⟨2664, 0, none⟩) 2 3, inN 2, inN 100, inN 200, inN 200, inN 300, inN 500, inN 1000, inN 20, inN 50], .agg #[inN 3, inN (-5000)], inN 10, inN (-1)], [(2663, .cells #[inN 100, inN 10, inN 20, inN (-1), inN 150, inN 20, inN 30, inN (-1), inN 180, inN 20, inN 40, inN 10, inN 175, inN 10, inN 20, inN 0] 59 (0, 0))], 3487, .tuple #[.agg #[inN 4, inN (-5000)], .bool true], [], 3504⟩
theorem m106_3487_ok : isMemo m106_3487 (m106_3487.run Try.prog goFns orc_m106_3487 100000) = true := by decide +kernel
noncomputable def orc_m107_3507 : Orc := orElse insOrc (memoOrc [m115_3515])
theorem orc_m107_3507_ok (B : Lo) : OrcS Try.prog B orc_m107_3507 := orElse_ok (insOrc_ok _) (orcS_cons goFns_ok mixed_ok (insOrc_ok _) m115_3515_ok (orcS_nil _ _))
def m107_3507 : Memo :=
  ⟨107, #[.agg #[.slice (some ⟨2663, 0, none⟩) 4 4, .slice (some ⟨2664, 0, none⟩) 2 3, inN 2, inN 100, inN 200, inN 200, inN 300, inN 500, inN 1000, inN 20, inN 50], .slice (some ⟨3506, 0, none⟩) 1 2, inN (-1), .bool true], [(3506, .cells #[.slice none 0 0, inN 0] 108 (0, 0))], 3507, .slice (some ⟨3523, 0, none⟩) 2 2, [(3520, .cells #[inN (-1)] 3 (0, 0)), (3523, .cells #[.slice (some ⟨3520, 0, none⟩) 1 1, inN 0, .slice (some ⟨3520, 0, none⟩) 1 1, inN 0] 108 (0, 0))], 3524⟩
theorem m107_3507_ok : isMemo m107_3507 (m107_3507.run Try.prog goFns orc_m107_3507 100000) = true := by decide +kernel
noncomputable def orc_m106_3526 : Orc := orElse insOrc (memoOrc [m103_3530])
theorem orc_m106_3526_ok (B : Lo) : OrcS Try.prog B orc_m106_3526 := orElse_ok (insOrc_ok _) (orcS_consD goFns_ok mixed_ok (insOrc_ok _) m103_3530_ok (orcS_nil _ _))
def m106_3526 : Memo :=
  ⟨106, #[.agg #[.slice (some ⟨2663, 0, none⟩) 4 4, .slice (some ⟨2664, 0, none⟩) 2 3, inN 2, inN 100, inN 200, inN 200, inN 300, inN 500, inN 1000, inN 20, inN 50], .agg #[inN 3, inN (-5000)], inN 10, inN 0], [(2664, .cells #[inN 60, inN 0, inN 50, inN 0, inN 25, inN 20] 85 (0, 0)), (2663, .cells #[inN 100, inN 10, inN 20, inN (-1), inN 150, inN 20, inN 30, inN (-1), inN 180, inN 20, inN 40, inN 10, inN 175, inN 10, inN 20, inN 0] 59 (0, 0))], 3526, .tuple #[.agg #[inN 4, inN (-5000)], .bool true], [], 3543⟩
theorem m106_3526_ok : isMemo m106_3526 (m106_3526.run Try.prog goFns orc_m106_3526 100000) = true := by decide +kernel
noncomputable def orc_m107_3546 : Orc := orElse insOrc (memoOrc [m115_3554])
theorem orc_m107_3546_ok (B : Lo) : OrcS Try.prog B orc_m107_3546 := orElse_ok (insOrc_ok _) (orcS_cons goFns_ok mixed_ok (insOrc_ok _) m115_3554_ok (orcS_nil _ _))
def m107_3546 : Memo :=
  ⟨107, #[.agg #[.slice (some ⟨2663, 0, none⟩) 4 4, .slice (some ⟨2664, 0, none⟩) 2 3, inN 2, inN 100, inN 200, inN 200, inN 300, inN 500, inN 1000, inN 20, inN 50], .slice (some ⟨3545, 0, none⟩) 1 2, inN 0, .bool true], [(3545, .cells #[.slice none 0 0, inN 0] 108 (0, 0)), (2664, .cells #[inN 60, inN 0, inN 50, inN 0, inN 25, inN 20] 85 (0, 0))], 3546, .slice (some ⟨3562, 0, none⟩) 2 2, [(3559, .cells #[inN 0] 3 (0, 0)), (3562, .cells #[.slice (some ⟨3559, 0, none⟩) 1 1, inN 50, .slice (some ⟨3559, 0, none⟩) 1 1, inN 50] 108 (0, 0))], 3563⟩
theorem m107_3546_ok : isMemo m107_3546 (m107_3546.run Try.prog goFns orc_m107_3546 100000) = true := by decide +kernel
noncomputable def orc_m106_3565 : Orc := orElse insOrc (memoOrc [m103_3569])
theorem orc_m106_3565_ok (B : Lo) : OrcS Try.prog B orc_m106_3565 := orElse_ok (insOrc_ok _) (orcS_consD goFns_ok mixed_ok (insOrc_ok _) m103_3569_ok (orcS_nil _ _))
def m106_3565 : Memo :=
  ⟨106, #[.agg #[.slice (some ⟨2663, 0, none⟩) 4 4, .slice (some ⟨2664, 0, none⟩) 2 3, inN 2, inN 100, inN 200, inN 200, inN 300, inN 500, inN 1000, inN 20, inN 50], .agg #[inN 3, inN (-5000)], inN 10, inN 1], [(2664, .cells #[inN 60, inN 0, inN 50, inN 0, inN 25, inN 20] 85 (0, 0)), (2663, .cells #[inN 100, inN 10, inN 20, inN (-1), inN 150, inN 20, inN 30, inN (-1), inN 180, inN 20, inN 40, inN 10, inN 175, inN 10, inN 20, inN 0] 59 (0, 0))], 3565, .tuple #[.agg #[inN 4, inN (-5000)], .bool true], [], 3582⟩
theorem m106_3565_ok : isMemo m106_3565 (m106_3565.run Try.prog goFns orc_m106_3565 100000) = true := by decide +kernel
noncomputable def orc_m107_3585 : Orc := orElse insOrc (memoOrc [m115_3593])
theorem orc_m107_3585_ok (B : Lo) : OrcS Try.prog B orc_m107_3585 := orElse_ok (insOrc_ok _) (orcS_cons goFns_ok mixed_ok (insOrc_ok _) m115_3593_ok (orcS_nil _ _))
def m107_3585 : Memo :=
  ⟨107, #[.agg #[.slice (some ⟨2663, 0, none⟩) 4 4, .slice (some ⟨2664, 0, none⟩) 2 3, inN 2, inN 100, inN 200, inN 200, inN 300, inN 500, inN 1000, inN 20, inN 50], .slice (some ⟨3584, 0, none⟩) 1 2, inN 1, .bool true], [(3584, .cells #[.slice none 0 0, inN 0] 108 (0, 0)), (2664, .cells #[inN 60, inN 0, inN 50, inN 0, inN 25, inN 20] 85 (0, 0))], 3585, .slice (some ⟨3601, 0, none⟩) 2 2, [(3598, .cells #[inN 1] 3 (0, 0)), (3601, .cells #[.slice (some ⟨3598, 0, none⟩) 1 1, inN 20, .slice (some ⟨3598, 0, none⟩) 1 1, inN 20] 108 (0, 0))], 3602⟩
theorem m107_3585_ok : isMemo m107_3585 (m107_3585.run Try.prog goFns orc_m107_3585 100000) = true := by decide +kernel
noncomputable def orc_m107_3667 : Orc := orElse insOrc (memoOrc [m115_3675, m115_3688])
theorem orc_m107_3667_ok (B : Lo) : OrcS Try.prog B orc_m107_3667 := orElse_ok (insOrc_ok _) (orcS_cons goFns_ok mixed_ok (insOrc_ok _) m115_3675_ok (orcS_cons goFns_ok mixed_ok (insOrc_ok _) m115_3688_ok (orcS_nil _ _)))
def m107_3667 : Memo :=
  ⟨107, #[.agg #[.slice (some ⟨2663, 0, none⟩) 4 4, .slice (some ⟨2664, 0, none⟩) 2 3, inN 2, inN 100, inN 200, inN 200, inN 300, inN 500, inN 1000, inN 20, inN 50], .slice (some ⟨3657, 0, none⟩) 2 2, inN 0, .bool true], [(3657, .cells #[.slice (some ⟨3520, 0, none⟩) 1 1, inN 0, .slice (some ⟨3520, 0, none⟩) 1 1, inN 0] 108 (0, 0)), (3520, .cells #[inN (-1)] 3 (0, 0)), (2664, .cells #[inN 60, inN 0, inN 50, inN 0, inN 25, inN 20] 85 (0, 0))], 3667, .slice (some ⟨3697, 0, none⟩) 3 2, [(3694, .cells #[inN 0, inN (-1)] 3 (0, 0)), (3681, .cells #[inN 0, inN (-1)] 3 (0, 0)), (3697, .cells #[.slice (some ⟨3681, 0, none⟩) 2 1, inN 50, .slice (some ⟨3681, 0, none⟩) 2 1, inN 50, .slice (some ⟨3694, 0, none⟩) 2 1, inN 50] 108 (0, 0))], 3698⟩
theorem m107_3667_ok : isMemo m107_3667 (m107_3667.run Try.prog goFns orc_m107_3667 100000) = true := by decide +kernel
noncomputable def orc_m106_3700 : Orc := orElse insOrc (memoOrc [m103_3704])
theorem orc_m106_3700_ok (B : Lo) : OrcS Try.prog B orc_m106_3700 := orElse_ok (insOrc_ok _) (orcS_consD goFns_ok mixed_ok (insOrc_ok _) m103_3704_ok (orcS_nil _ _))
def m106_3700 : Memo :=
  ⟨106, #[.agg #[.slice (some ⟨2663, 0, none⟩) 4 4, .slice (some ⟨2664, 0, none⟩) 2 3, inN 2, inN 100, inN 200, inN 200, inN 300, inN 500, inN 1000, inN 20, inN 50], .agg #[inN 2, inN 238], inN 20, inN 1], [(2664, .cells #[inN 60, inN 0, inN 50, inN 0, inN 25, inN 20] 85 (0, 0)), (2663, .cells #[inN 100, inN 10, inN 20, inN (-1), inN 150, inN 20, inN 30, inN (-1), inN 180, inN 20, inN 40, inN 10, inN 175, inN 10, inN 20, inN 0] 59 (0, 0))], 3700, .tuple #[.agg #[inN 3, inN 193], .bool false], [], 3717⟩
theorem m106_3700_ok : isMemo m106_3700 (m106_3700.run Try.prog goFns orc_m106_3700 100000) = true := by decide +kernel
noncomputable def orc_m106_3719 : Orc := orElse insOrc (memoOrc [m103_3723])
theorem orc_m106_3719_ok (B : Lo) : OrcS Try.prog B orc_m106_3719 := orElse_ok (insOrc_ok _) (orcS_consD goFns_ok mixed_ok (insOrc_ok _) m103_3723_ok (orcS_nil _ _))
def m106_3719 : Memo :=
  ⟨106, #[.agg #[.slice (some ⟨2663, 0, none⟩) 4 4, .slice (some ⟨2664, 0, none⟩) 2 3, inN 2, inN 100, inN 200, inN 200, inN 300, inN 500, inN 1000, inN 20, inN 50], .agg #[inN 3, inN 193], inN 10, inN (-1)], [(2663, .cells #[inN 100, inN 10, inN 20, inN (-1), inN 150, inN 20, inN 30, inN (-1), inN 180, inN 20, inN 40, inN 10, inN 175, inN 10, inN 20, inN 0] 59 (0, 0))], 3719, .tuple #[.agg #[inN 4, inN 183], .bool false], [], 3736⟩
theorem m106_3719_ok : isMemo m106_3719 (m106_3719.run Try.prog goFns orc_m106_3719 100000) = true := by decide +kernel
end Go.Proofs.Ytiigkdhaofaijaa

namespace Go.Proofs.Ytiigkdhaofaijaa
open Go Go.CE Go.RowKit
noncomputable def orc_m107_3739 : Orc := orElse insOrc (memoOrc [m115_3747])
theorem orc_m107_3739_ok (B : Lo) : OrcS Try.prog B orc_m107_3739 := orElse_ok (insOrc_ok _) (orcS_cons goFns_ok mixed_ok (insOrc_ok _) m115_3747_ok (orcS_nil _ _))
def m107_3739 : Memo :=
  ⟨107, #[.agg #[.slice (some ⟨2663, 0, none⟩) 4 4, .slice (some ⟨2664, 0, none⟩) 2 3, inN 2, inN 100, inN 200, inN 200, inN 300, inN 500, inN 1000, inN 20, inN 50], .slice (some ⟨3738, 0, none⟩) 1 2, inN (-1), .bool false], [(3738, .cells #[.slice none 0 0, inN 0] 108 (0, 0))], 3739, .slice (some ⟨3741, 0, none⟩) 1 2, [(3752, .cells #[inN (-1)] 3 (0, 0)), (3741, .cells #[.slice (some ⟨3752, 0, none⟩) 1 1, inN 0] 108 (0, 0))], 3754⟩
theorem m107_3739_ok : isMemo m107_3739 (m107_3739.run Try.prog goFns orc_m107_3739 100000) = true := by decide +kernel
noncomputable def orc_m106_3756 : Orc := orElse insOrc (memoOrc [m103_3760])
theorem orc_m106_3756_ok (B : Lo) : OrcS Try.prog B orc_m106_3756 := orElse_ok (insOrc_ok _) (orcS_consD goFns_ok mixed_ok (insOrc_ok _) m103_3760_ok (orcS_nil _ _))
def m106_3756 : Memo :=
  ⟨106, #[.agg #[.slice (some ⟨2663, 0, none⟩) 4 4, .slice (some ⟨2664, 0, none⟩) 2 3, inN 2, inN 100, inN 200, inN 200, inN 300, inN 500, inN 1000, inN 20, inN 50], .agg #[inN 3, inN 193], inN 10, inN 0], [(2664, .cells #[inN 60, inN 0, inN 50, inN 0, inN 25, inN 20] 85 (0, 0)), (2663, .cells #[inN 100, inN 10, inN 20, inN (-1), inN 150, inN 20, inN 30, inN (-1), inN 180, inN 20, inN 40, inN 10, inN 175, inN 10, inN 20, inN 0] 59 (0, 0))], 3756, .tuple #[.agg #[inN 4, inN (-5000)], .bool true], [], 3773⟩
theorem m106_3756_ok : isMemo m106_3756 (m106_3756.run Try.prog goFns orc_m106_3756 100000) = true := by decide +kernel
noncomputable def orc_m107_3776 : Orc := orElse insOrc (memoOrc [m115_3784])
theorem orc_m107_3776_ok (B : Lo) : OrcS Try.prog B orc_m107_3776 := orElse_ok (insOrc_ok _) (orcS_cons goFns_ok mixed_ok (insOrc_ok _) m115_3784_ok (orcS_nil _ _))
def m107_3776 : Memo :=
  ⟨107, #[.agg #[.slice (some ⟨2663, 0, none⟩) 4 4, .slice (some ⟨2664, 0, none⟩) 2 3, inN 2, inN 100, inN 200, inN 200, inN 300, inN 500, inN 1000, inN 20, inN 50], .slice (some ⟨3775, 0, none⟩) 1 2, inN 0, .bool true], [(3775, .cells #[.slice none 0 0, inN 0] 108 (0, 0)), (2664, .cells #[inN 60, inN 0, inN 50, inN 0, inN 25, inN 20] 85 (0, 0))], 3776, .slice (some ⟨3792, 0, none⟩) 2 2, [(3789, .cells #[inN 0] 3 (0, 0)), (3792, .cells #[.slice (some ⟨3789, 0, none⟩) 1 1, inN 50, .slice (some ⟨3789, 0, none⟩) 1 1, inN 50] 108 (0, 0))], 3793⟩
theorem m107_3776_ok : isMemo m107_3776 (m107_3776.run Try.prog goFns orc_m107_3776 100000) = true := by decide +kernel
noncomputable def orc_m106_3795 : Orc := orElse insOrc (memoOrc [m103_3799])
theorem orc_m106_3795_ok (B : Lo) : OrcS Try.prog B orc_m106_3795 := orElse_ok (insOrc_ok _) (orcS_consD goFns_ok mixed_ok (insOrc_ok _) m103_3799_ok (orcS_nil _ _))
def m106_3795 : Memo :=
  ⟨106, #[.agg #[.slice (some ⟨2663, 0, none⟩) 4 4, .slice (some ⟨2664, 0, none⟩) 2 3, inN 2, inN 100, inN 200, inN 200, inN 300, inN 500, inN 1000, inN 20, inN 50], .agg #[inN 3, inN 193], inN 10, inN 1], [(2664, .cells #[inN 60, inN 0, inN 50, inN 0, inN 25, inN 20] 85 (0, 0)), (2663, .cells #[inN 100, inN 10, inN 20, inN (-1), inN 150, inN 20, inN 30, inN (-1), inN 180, inN 20, inN 40, inN 10, inN 175, inN 10, inN 20, inN 0] 59 (0, 0))], 3795, .tuple #[.agg #[inN 4, inN (-5000)], .bool true], [], 3812⟩
theorem m106_3795_ok : isMemo m106_3795 (m106_3795.run Try.prog goFns orc_m106_3795 100000) = true := by decide +kernel
noncomputable def orc_m107_3815 : Orc := orElse insOrc (memoOrc [m115_3823])
theorem orc_m107_3815_ok (B : Lo) : OrcS Try.prog B orc_m107_3815 := orElse_ok (insOrc_ok _) (orcS_cons goFns_ok mixed_ok (insOrc_ok _) m115_3823_ok (orcS_nil _ _))
def m107_3815 : Memo :=
  ⟨107, #[.agg #[.slice (some ⟨2663, 0, none⟩) 4 4, .slice (some ⟨2664, 0, none⟩) 2 3, inN 2, inN 100, inN 200, inN 200, inN 300, inN 500, inN 1000, inN 20, inN 50], .slice (some ⟨3814, 0, none⟩) 1 2, inN 1, .bool true], [(3814, .cells #[.slice none 0 0, inN 0] 108 (0, 0)), (2664, .cells #[inN 60, inN 0, inN 50, inN 0, inN 25, inN 20] 85 (0, 0))], 3815, .slice (some ⟨3831, 0, none⟩) 2 2, [(3828, .cells #[inN 1] 3 (0, 0)), (3831, .cells #[.slice (some ⟨3828, 0, none⟩) 1 1, inN 20, .slice (some ⟨3828, 0, none⟩) 1 1, inN 20] 108 (0, 0))], 3832⟩
theorem m107_3815_ok : isMemo m107_3815 (m107_3815.run Try.prog goFns orc_m107_3815 100000) = true := by decide +kernel
noncomputable def orc_m107_3891 : Orc := orElse insOrc (memoOrc [m115_3899, m115_3912])
theorem orc_m107_3891_ok (B : Lo) : OrcS Try.prog B orc_m107_3891 := orElse_ok (insOrc_ok _) (orcS_cons goFns_ok mixed_ok (insOrc_ok _) m115_3899_ok (orcS_cons goFns_ok mixed_ok (insOrc_ok _) m115_3912_ok (orcS_nil _ _)))
def m107_3891 : Memo :=
  ⟨107, #[.agg #[.slice (some ⟨2663, 0, none⟩) 4 4, .slice (some ⟨2664, 0, none⟩) 2 3, inN 2, inN 100, inN 200, inN 200, inN 300, inN 500, inN 1000, inN 20, inN 50], .slice (some ⟨3881, 0, none⟩) 2 2, inN 1, .bool false], [(3881, .cells #[.slice (some ⟨3752, 0, none⟩) 1 1, inN 0, .slice (some ⟨3828, 0, none⟩) 1 1, inN 20] 108 (0, 0)), (3752, .cells #[inN (-1)] 3 (0, 0)), (2664, .cells #[inN 60, inN 0, inN 50, inN 0, inN 25, inN 20] 85 (0, 0)), (3828, .cells #[inN 1] 3 (0, 0))], 3891, .slice (some ⟨3893, 0, none⟩) 2 2, [(3918, .cells #[inN 1, inN 1] 3 (0, 0)), (3905, .cells #[inN 1, inN (-1)] 3 (0, 0)), (3893, .cells #[.slice (some ⟨3905, 0, none⟩) 2 1, inN 20, .slice (some ⟨3918, 0, none⟩) 2 1, inN 40] 108 (0, 0))], 3920⟩
theorem m107_3891_ok : isMemo m107_3891 (m107_3891.run Try.prog goFns orc_m107_3891 100000) = true := by decide +kernel
noncomputable def orc_m107_4000 : Orc := orElse insOrc (memoOrc [m115_4008, m115_4021, m115_4034])
theorem orc_m107_4000_ok (B : Lo) : OrcS Try.prog B orc_m107_4000 := orElse_ok (insOrc_ok _) (orcS_cons goFns_ok mixed_ok (insOrc_ok _) m115_4008_ok (orcS_cons goFns_ok mixed_ok (insOrc_ok _) m115_4021_ok (orcS_cons goFns_ok mixed_ok (insOrc_ok _) m115_4034_ok (orcS_nil _ _))))
def m107_4000 : Memo :=
  ⟨107, #[.agg #[.slice (some ⟨2663, 0, none⟩) 4 4, .slice (some ⟨2664, 0, none⟩) 2 3, inN 2, inN 100, inN 200, inN 200, inN 300, inN 500, inN 1000, inN 20, inN 50], .slice (some ⟨3990, 0, none⟩) 3 2, inN 1, .bool false], [(3990, .cells #[.slice (some ⟨3451, 0, none⟩) 2 1, inN 0, .slice (some ⟨3918, 0, none⟩) 2 1, inN 40, .slice (some ⟨3694, 0, none⟩) 2 1, inN 50] 108 (0, 0)), (3451, .cells #[inN (-1), inN (-1)] 3 (0, 0)), (2664, .cells #[inN 60, inN 0, inN 50, inN 0, inN 25, inN 20] 85 (0, 0)), (3918, .cells #[inN 1, inN 1] 3 (0, 0)), (3694, .cells #[inN 0, inN (-1)] 3 (0, 0))], 4000, .slice (some ⟨4002, 0, none⟩) 3 2, [(4040, .cells #[inN 1, inN 0, inN (-1)] 3 (0, 0)), (4027, .cells #[inN 1, inN 1, inN 1] 3 (0, 0)), (4014, .cells #[inN 1, inN (-1), inN (-1)] 3 (0, 0)), (4002, .cells #[.slice (some ⟨4014, 0, none⟩) 3 1, inN 20, .slice (some ⟨4027, 0, none⟩) 3 1, inN 60, .slice (some ⟨4040, 0, none⟩) 3 1, inN 70] 108 (0, 0))], 4042⟩
theorem m107_4000_ok : isMemo m107_4000 (m107_4000.run Try.prog goFns orc_m107_4000 100000) = true := by decide +kernel
noncomputable def orc_m107_4122 : Orc := orElse insOrc (memoOrc [m115_4130, m115_4143, m115_4156])
theorem orc_m107_4122_ok (B : Lo) : OrcS Try.prog B orc_m107_4122 := orElse_ok (insOrc_ok _) (orcS_cons goFns_ok mixed_ok (insOrc_ok _) m115_4130_ok (orcS_cons goFns_ok mixed_ok (insOrc_ok _) m115_4143_ok (orcS_cons goFns_ok mixed_ok (insOrc_ok _) m115_4156_ok (orcS_nil _ _))))
def m107_4122 : Memo :=
  ⟨107, #[.agg #[.slice (some ⟨2663, 0, none⟩) 4 4, .slice (some ⟨2664, 0, none⟩) 2 3, inN 2, inN 100, inN 200, inN 200, inN 300, inN 500, inN 1000, inN 20, inN 50], .slice (some ⟨4112, 0, none⟩) 3 2, inN (-1), .bool false], [(4112, .cells #[.slice (some ⟨3332, 0, none⟩) 3 1, inN 0, .slice (some ⟨3345, 0, none⟩) 3 1, inN 50, .slice (some ⟨4040, 0, none⟩) 3 1, inN 70] 108 (0, 0)), (3332, .cells #[inN (-1), inN (-1), inN (-1)] 3 (0, 0)), (3345, .cells #[inN (-1), inN (-1), inN 0] 3 (0, 0)), (4040, .cells #[inN 1, inN 0, inN (-1)] 3 (0, 0))], 4122, .slice (some ⟨4124, 0, none⟩) 3 2, [(4162, .cells #[inN (-1), inN 1, inN 0, inN (-1)] 3 (0, 0)), (4149, .cells #[inN (-1), inN (-1), inN (-1), inN 0] 3 (0, 0)), (4136, .cells #[inN (-1), inN (-1), inN (-1), inN (-1)] 3 (0, 0)), (4124, .cells #[.slice (some ⟨4136, 0, none⟩) 4 1, inN 0, .slice (some ⟨4149, 0, none⟩) 4 1, inN 50, .slice (some ⟨4162, 0, none⟩) 4 1, inN 70] 108 (0, 0))], 4164⟩
theorem m107_4122_ok : isMemo m107_4122 (m107_4122.run Try.prog goFns orc_m107_4122 100000) = true := by decide +kernel
noncomputable def orc_m106_4166 : Orc := orElse insOrc (memoOrc [m103_4170])
theorem orc_m106_4166_ok (B : Lo) : OrcS Try.prog B orc_m106_4166 := orElse_ok (insOrc_ok _) (orcS_consD goFns_ok mixed_ok (insOrc_ok _) m103_4170_ok (orcS_nil _ _))
def m106_4166 : Memo :=
  ⟨106, #[.agg #[.slice (some ⟨2663, 0, none⟩) 4 4, .slice (some ⟨2664, 0, none⟩) 2 3, inN 2, inN 100, inN 200, inN 200, inN 300, inN 500, inN 1000, inN 20, inN 50], .agg #[inN 0, inN 293], inN 10, inN 0], [(2664, .cells #[inN 60, inN 0, inN 50, inN 0, inN 25, inN 20] 85 (0, 0)), (2663, .cells #[inN 100, inN 10, inN 20, inN (-1), inN 150, inN 20, inN 30, inN (-1), inN 180, inN 20, inN 40, inN 10, inN 175, inN 10, inN 20, inN 0] 59 (0, 0))], 4166, .tuple #[.agg #[inN 1, inN 283], .bool false], [], 4183⟩
theorem m106_4166_ok : isMemo m106_4166 (m106_4166.run Try.prog goFns orc_m106_4166 100000) = true := by decide +kernel
noncomputable def orc_m107_4185 : Orc := orElse insOrc (memoOrc [m115_4193, m115_4206, m115_4219])
theorem orc_m107_4185_ok (B : Lo) : OrcS Try.prog B orc_m107_4185 := orElse_ok (insOrc_ok _) (orcS_cons goFns_ok mixed_ok (insOrc_ok _) m115_4193_ok (orcS_cons goFns_ok mixed_ok (insOrc_ok _) m115_4206_ok (orcS_cons goFns_ok mixed_ok (insOrc_ok _) m115_4219_ok (orcS_nil _ _))))
def m107_4185 : Memo :=
  ⟨107, #[.agg #[.slice (some ⟨2663, 0, none⟩) 4 4, .slice (some ⟨2664, 0, none⟩) 2 3, inN 2, inN 100, inN 200, inN 200, inN 300, inN 500, inN 1000, inN 20, inN 50], .slice (some ⟨4112, 0, none⟩) 3 2, inN 0, .bool false], [(4112, .cells #[.slice (some ⟨3332, 0, none⟩) 3 1, inN 0, .slice (some ⟨3345, 0, none⟩) 3 1, inN 50, .slice (some ⟨4040, 0, none⟩) 3 1, inN 70] 108 (0, 0)), (3332, .cells #[inN (-1), inN (-1), inN (-1)] 3 (0, 0)), (2664, .cells #[inN 60, inN 0, inN 50, inN 0, inN 25, inN 20] 85 (0, 0)), (3345, .cells #[inN (-1), inN (-1), inN 0] 3 (0, 0)), (4040, .cells #[inN 1, inN 0, inN (-1)] 3 (0, 0))], 4185, .slice (some ⟨4187, 0, none⟩) 3 2, [(4225, .cells #[inN 0, inN 1, inN 0, inN (-1)] 3 (0, 0)), (4212, .cells #[inN 0, inN (-1), inN (-1), inN 0] 3 (0, 0)), (4199, .cells #[inN 0, inN (-1), inN (-1), inN (-1)] 3 (0, 0)), (4187, .cells #[.slice (some ⟨4199, 0, none⟩) 4 1, inN 50, .slice (some ⟨4212, 0, none⟩) 4 1, inN 100, .slice (some ⟨4225, 0, none⟩) 4 1, inN 120] 108 (0, 0))], 4227⟩
theorem m107_4185_ok : isMemo m107_4185 (m107_4185.run Try.prog goFns orc_m107_4185 100000) = true := by decide +kernel
noncomputable def orc_m106_4229 : Orc := orElse insOrc (memoOrc [m103_4233])
theorem orc_m106_4229_ok (B : Lo) : OrcS Try.prog B orc_m106_4229 := orElse_ok (insOrc_ok _) (orcS_consD goFns_ok mixed_ok (insOrc_ok _) m103_4233_ok (orcS_nil _ _))
def m106_4229 : Memo :=
  ⟨106, #[.agg #[.slice (some ⟨2663, 0, none⟩) 4 4, .slice (some ⟨2664, 0, none⟩) 2 3, inN 2, inN 100, inN 200, inN 200, inN 300, inN 500, inN 1000, inN 20, inN 50], .agg #[inN 0, inN 293], inN 10, inN 1], [(2664, .cells #[inN 60, inN 0, inN 50, inN 0, inN 25, inN 20] 85 (0, 0)), (2663, .cells #[inN 100, inN 10, inN 20, inN (-1), inN 150, inN 20, inN 30, inN (-1), inN 180, inN 20, inN 40, inN 10, inN 175, inN 10, inN 20, inN 0] 59 (0, 0))], 4229, .tuple #[.agg #[inN 1, inN 258], .bool false], [], 4246⟩
theorem m106_4229_ok : isMemo m106_4229 (m106_4229.run Try.prog goFns orc_m106_4229 100000) = true := by decide +kernel
noncomputable def orc_m106_4248 : Orc := orElse insOrc (memoOrc [m103_4252])
theorem orc_m106_4248_ok (B : Lo) : OrcS Try.prog B orc_m106_4248 := orElse_ok (insOrc_ok _) (orcS_consD goFns_ok mixed_ok (insOrc_ok _) m103_4252_ok (orcS_nil _ _))
def m106_4248 : Memo :=
  ⟨106, #[.agg #[.slice (some ⟨2663, 0, none⟩) 4 4, .slice (some ⟨2664, 0, none⟩) 2 3, inN 2, inN 100, inN 200, inN 200, inN 300, inN 500, inN 1000, inN 20, inN 50], .agg #[inN 1, inN 258], inN 20, inN (-1)], [(2663, .cells #[inN 100, inN 10, inN 20, inN (-1), inN 150, inN 20, inN 30, inN (-1), inN 180, inN 20, inN 40, inN 10, inN 175, inN 10, inN 20, inN 0] 59 (0, 0))], 4248, .tuple #[.agg #[inN 2, inN 238], .bool false], [], 4265⟩
theorem m106_4248_ok : isMemo m106_4248 (m106_4248.run Try.prog goFns orc_m106_4248 100000) = true := by decide +kernel
noncomputable def orc_m107_4267 : Orc := orElse insOrc (memoOrc [m115_4275, m115_4288, m115_4301])
theorem orc_m107_4267_ok (B : Lo) : OrcS Try.prog B orc_m107_4267 := orElse_ok (insOrc_ok _) (orcS_cons goFns_ok mixed_ok (insOrc_ok _) m115_4275_ok (orcS_cons goFns_ok mixed_ok (insOrc_ok _) m115_4288_ok (orcS_cons goFns_ok mixed_ok (insOrc_ok _) m115_4301_ok (orcS_nil _ _))))
def m107_4267 : Memo :=
  ⟨107, #[.agg #[.slice (some ⟨2663, 0, none⟩) 4 4, .slice (some ⟨2664, 0, none⟩) 2 3, inN 2, inN 100, inN 200, inN 200, inN 300, inN 500, inN 1000, inN 20, inN 50], .slice (some ⟨3990, 0, none⟩) 3 2, inN (-1), .bool false], [(3990, .cells #[.slice (some ⟨3451, 0, none⟩) 2 1, inN 0, .slice (some ⟨3918, 0, none⟩) 2 1, inN 40, .slice (some ⟨3694, 0, none⟩) 2 1, inN 50] 108 (0, 0)), (3451, .cells #[inN (-1), inN (-1)] 3 (0, 0)), (3918, .cells #[inN 1, inN 1] 3 (0, 0)), (3694, .cells #[inN 0, inN (-1)] 3 (0, 0))], 4267, .slice (some ⟨4269, 0, none⟩) 3 2, [(4307, .cells #[inN (-1), inN 0, inN (-1)] 3 (0, 0)), (4294, .cells #[inN (-1), inN 1, inN 1] 3 (0, 0)), (4281, .cells #[inN (-1), inN (-1), inN (-1)] 3 (0, 0)), (4269, .cells #[.slice (some ⟨4281, 0, none⟩) 3 1, inN 0, .slice (some ⟨4294, 0, none⟩) 3 1, inN 40, .slice (some ⟨4307, 0, none⟩) 3 1, inN 50] 108 (0, 0))], 4309⟩
theorem m107_4267_ok : isMemo m107_4267 (m107_4267.run Try.prog goFns orc_m107_4267 100000) = true := by decide +kernel
noncomputable def orc_m106_4311 : Orc := orElse insOrc (memoOrc [m103_4315])
theorem orc_m106_4311_ok (B : Lo) : OrcS Try.prog B orc_m106_4311 := orElse_ok (insOrc_ok _) (orcS_consD goFns_ok mixed_ok (insOrc_ok _) m103_4315_ok (orcS_nil _ _))
def m106_4311 : Memo :=
  ⟨106, #[.agg #[.slice (some ⟨2663, 0, none⟩) 4 4, .slice (some ⟨2664, 0, none⟩) 2 3, inN 2, inN 100, inN 200, inN 200, inN 300, inN 500, inN 1000, inN 20, inN 50], .agg #[inN 1, inN 258], inN 20, inN 0], [(2664, .cells #[inN 60, inN 0, inN 50, inN 0, inN 25, inN 20] 85 (0, 0)), (2663, .cells #[inN 100, inN 10, inN 20, inN (-1), inN 150, inN 20, inN 30, inN (-1), inN 180, inN 20, inN 40, inN 10, inN 175, inN 10, inN 20, inN 0] 59 (0, 0))], 4311, .tuple #[.agg #[inN 2, inN 238], .bool false], [], 4328⟩
theorem m106_4311_ok : isMemo m106_4311 (m106_4311.run Try.prog goFns orc_m106_4311 100000) = true := by decide +kernel
noncomputable def orc_m107_4330 : Orc := orElse insOrc (memoOrc [m115_4338, m115_4351, m115_4364])
theorem orc_m107_4330_ok (B : Lo) : OrcS Try.prog B orc_m107_4330 := orElse_ok (insOrc_ok _) (orcS_cons goFns_ok mixed_ok (insOrc_ok _) m115_4338_ok (orcS_cons goFns_ok mixed_ok (insOrc_ok _) m115_4351_ok (orcS_cons goFns_ok mixed_ok (insOrc_ok _) m115_4364_ok (orcS_nil _ _))))
def m107_4330 : Memo :=
  ⟨107, #[.agg #[.slice (some ⟨2663, 0, none⟩) 4 4, .slice (some ⟨2664, 0, none⟩) 2 3, inN 2, inN 100, inN 200, inN 200, inN 300, inN 500, inN 1000, inN 20, inN 50], .slice (some ⟨3990, 0, none⟩) 3 2, inN 0, .bool false], [(3990, .cells #[.slice (some ⟨3451, 0, none⟩) 2 1, inN 0, .slice (some ⟨3918, 0, none⟩) 2 1, inN 40, .slice (some ⟨3694, 0, none⟩) 2 1, inN 50] 108 (0, 0)), (3451, .cells #[inN (-1), inN (-1)] 3 (0, 0)), (2664, .cells #[inN 60, inN 0, inN 50, inN 0, inN 25, inN 20] 85 (0, 0)), (3918, .cells #[inN 1, inN 1] 3 (0, 0)), (3694, .cells #[inN 0, inN (-1)] 3 (0, 0))], 4330, .slice (some ⟨4332, 0, none⟩) 3 2, [(4370, .cells #[inN 0, inN 0, inN (-1)] 3 (0, 0)), (4357, .cells #[inN 0, inN 1, inN 1] 3 (0, 0)), (4344, .cells #[inN 0, inN (-1), inN (-1)] 3 (0, 0)), (4332, .cells #[.slice (some ⟨4344, 0, none⟩) 3 1, inN 50, .slice (some ⟨4357, 0, none⟩) 3 1, inN 90, .slice (some ⟨4370, 0, none⟩) 3 1, inN 100] 108 (0, 0))], 4372⟩
theorem m107_4330_ok : isMemo m107_4330 (m107_4330.run Try.prog goFns orc_m107_4330 100000) = true := by decide +kernel
noncomputable def orc_m106_4374 : Orc := orElse insOrc (memoOrc [m103_4378])
theorem orc_m106_4374_ok (B : Lo) : OrcS Try.prog B orc_m106_4374 := orElse_ok (insOrc_ok _) (orcS_consD goFns_ok mixed_ok (insOrc_ok _) m103_4378_ok (orcS_nil _ _))
def m106_4374 : Memo :=
  ⟨106, #[.agg #[.slice (some ⟨2663, 0, none⟩) 4 4, .slice (some ⟨2664, 0, none⟩) 2 3, inN 2, inN 100, inN 200, inN 200, inN 300, inN 500, inN 1000, inN 20, inN 50], .agg #[inN 1, inN 258], inN 20, inN 1], [(2664, .cells #[inN 60, inN 0, inN 50, inN 0, inN 25, inN 20] 85 (0, 0)), (2663, .cells #[inN 100, inN 10, inN 20, inN (-1), inN 150, inN 20, inN 30, inN (-1), inN 180, inN 20, inN 40, inN 10, inN 175, inN 10, inN 20, inN 0] 59 (0, 0))], 4374, .tuple #[.agg #[inN 2, inN 213], .bool false], [], 4391⟩
theorem m106_4374_ok : isMemo m106_4374 (m106_4374.run Try.prog goFns orc_m106_4374 100000) = true := by decide +kernel
noncomputable def orc_m106_4393 : Orc := orElse insOrc (memoOrc [m103_4397])
theorem orc_m106_4393_ok (B : Lo) : OrcS Try.prog B orc_m106_4393 := orElse_ok (insOrc_ok _) (orcS_consD goFns_ok mixed_ok (insOrc_ok _) m103_4397_ok (orcS_nil _ _))
def m106_4393 : Memo :=
  ⟨106, #[.agg #[.slice (some ⟨2663, 0, none⟩) 4 4, .slice (some ⟨2664, 0, none⟩) 2 3, inN 2, inN 100, inN 200, inN 200, inN 300, inN 500, inN 1000, inN 20, inN 50], .agg #[inN 2, inN 213], inN 20, inN (-1)], [(2663, .cells #[inN 100, inN 10, inN 20, inN (-1), inN 150, inN 20, inN 30, inN (-1), inN 180, inN 20, inN 40, inN 10, inN 175, inN 10, inN 20, inN 0] 59 (0, 0))], 4393, .tuple #[.agg #[inN 3, inN 193], .bool false], [], 4410⟩
theorem m106_4393_ok : isMemo m106_4393 (m106_4393.run Try.prog goFns orc_m106_4393 100000) = true := by decide +kernel
noncomputable def orc_m107_4412 : Orc := orElse insOrc (memoOrc [m115_4420, m115_4433])
theorem orc_m107_4412_ok (B : Lo) : OrcS Try.prog B orc_m107_4412 := orElse_ok (insOrc_ok _) (orcS_cons goFns_ok mixed_ok (insOrc_ok _) m115_4420_ok (orcS_cons goFns_ok mixed_ok (insOrc_ok _) m115_4433_ok (orcS_nil _ _)))
def m107_4412 : Memo :=
  ⟨107, #[.agg #[.slice (some ⟨2663, 0, none⟩) 4 4, .slice (some ⟨2664, 0, none⟩) 2 3, inN 2, inN 100, inN 200, inN 200, inN 300, inN 500, inN 1000, inN 20, inN 50], .slice (some ⟨3881, 0, none⟩) 2 2, inN (-1), .bool false], [(3881, .cells #[.slice (some ⟨3752, 0, none⟩) 1 1, inN 0, .slice (some ⟨3828, 0, none⟩) 1 1, inN 20] 108 (0, 0)), (3752, .cells #[inN (-1)] 3 (0, 0)), (3828, .cells #[inN 1] 3 (0, 0))], 4412, .slice (some ⟨4414, 0, none⟩) 2 2, [(4439, .cells #[inN (-1), inN 1] 3 (0, 0)), (4426, .cells #[inN (-1), inN (-1)] 3 (0, 0)), (4414, .cells #[.slice (some ⟨4426, 0, none⟩) 2 1, inN 0, .slice (some ⟨4439, 0, none⟩) 2 1, inN 20] 108 (0, 0))], 4441⟩
theorem m107_4412_ok : isMemo m107_4412 (m107_4412.run Try.prog goFns orc_m107_4412 100000) = true := by decide +kernel
noncomputable def orc_m106_4443 : Orc := orElse insOrc (memoOrc [m103_4447])
theorem orc_m106_4443_ok (B : Lo) : OrcS Try.prog B orc_m106_4443 := orElse_ok (insOrc_ok _) (orcS_consD goFns_ok mixed_ok (insOrc_ok _) m103_4447_ok (orcS_nil _ _))
def m106_4443 : Memo :=
  ⟨106, #[.agg #[.slice (some ⟨2663, 0, none⟩) 4 4, .slice (some ⟨2664, 0, none⟩) 2 3, inN 2, inN 100, inN 200, inN 200, inN 300, inN 500, inN 1000, inN 20, inN 50], .agg #[inN 2, inN 213], inN 20, inN 0], [(2664, .cells #[inN 60, inN 0, inN 50, inN 0, inN 25, inN 20] 85 (0, 0)), (2663, .cells #[inN 100, inN 10, inN 20, inN (-1), inN 150, inN 20, inN 30, inN (-1), inN 180, inN 20, inN 40, inN 10, inN 175, inN 10, inN 20, inN 0] 59 (0, 0))], 4443, .tuple #[.agg #[inN 3, inN (-5000)], .bool true], [], 4460⟩
theorem m106_4443_ok : isMemo m106_4443 (m106_4443.run Try.prog goFns orc_m106_4443 100000) = true := by decide +kernel
noncomputable def orc_m107_4462 : Orc := orElse insOrc (memoOrc [m115_4470, m115_4483])
theorem orc_m107_4462_ok (B : Lo) : OrcS Try.prog B orc_m107_4462 := orElse_ok (insOrc_ok _) (orcS_cons goFns_ok mixed_ok (insOrc_ok _) m115_4470_ok (orcS_cons goFns_ok mixed_ok (insOrc_ok _) m115_4483_ok (orcS_nil _ _)))
def m107_4462 : Memo :=
  ⟨107, #[.agg #[.slice (some ⟨2663, 0, none⟩) 4 4, .slice (some ⟨2664, 0, none⟩) 2 3, inN 2, inN 100, inN 200, inN 200, inN 300, inN 500, inN 1000, inN 20, inN 50], .slice (some ⟨3657, 0, none⟩) 2 2, inN 0, .bool true], [(3657, .cells #[.slice (some ⟨3520, 0, none⟩) 1 1, inN 0, .slice (some ⟨3520, 0, none⟩) 1 1, inN 0] 108 (0, 0)), (3520, .cells #[inN (-1)] 3 (0, 0)), (2664, .cells #[inN 60, inN 0, inN 50, inN 0, inN 25, inN 20] 85 (0, 0))], 4462, .slice (some ⟨4492, 0, none⟩) 3 2, [(4489, .cells #[inN 0, inN (-1)] 3 (0, 0)), (4476, .cells #[inN 0, inN (-1)] 3 (0, 0)), (4492, .cells #[.slice (some ⟨4476, 0, none⟩) 2 1, inN 50, .slice (some ⟨4476, 0, none⟩) 2 1, inN 50, .slice (some ⟨4489, 0, none⟩) 2 1, inN 50] 108 (0, 0))], 4493⟩
theorem m107_4462_ok : isMemo m107_4462 (m107_4462.run Try.prog goFns orc_m107_4462 100000) = true := by decide +kernel
noncomputable def orc_m106_4495 : Orc := orElse insOrc (memoOrc [m103_4499])
theorem orc_m106_4495_ok (B : Lo) : OrcS Try.prog B orc_m106_4495 := orElse_ok (insOrc_ok _) (orcS_consD goFns_ok mixed_ok (insOrc_ok _) m103_4499_ok (orcS_nil _ _))
def m106_4495 : Memo :=
  ⟨106, #[.agg #[.slice (some ⟨2663, 0, none⟩) 4 4, .slice (some ⟨2664, 0, none⟩) 2 3, inN 2, inN 100, inN 200, inN 200, inN 300, inN 500, inN 1000, inN 20, inN 50], .agg #[inN 2, inN 213], inN 20, inN 1], [(2664, .cells #[inN 60, inN 0, inN 50, inN 0, inN 25, inN 20] 85 (0, 0)), (2663, .cells #[inN 100, inN 10, inN 20, inN (-1), inN 150, inN 20, inN 30, inN (-1), inN 180, inN 20, inN 40, inN 10, inN 175, inN 10, inN 20, inN 0] 59 (0, 0))], 4495, .tuple #[.agg #[inN 3, inN (-5000)], .bool true], [], 4512⟩
theorem m106_4495_ok : isMemo m106_4495 (m106_4495.run Try.prog goFns orc_m106_4495 100000) = true := by decide +kernel
noncomputable def orc_m107_4514 : Orc := orElse insOrc (memoOrc [m115_4522, m115_4535])
theorem orc_m107_4514_ok (B : Lo) : OrcS Try.prog B orc_m107_4514 := orElse_ok (insOrc_ok _) (orcS_cons goFns_ok mixed_ok (insOrc_ok _) m115_4522_ok (orcS_cons goFns_ok mixed_ok (insOrc_ok _) m115_4535_ok (orcS_nil _ _)))
def m107_4514 : Memo :=
  ⟨107, #[.agg #[.slice (some ⟨2663, 0, none⟩) 4 4, .slice (some ⟨2664, 0, none⟩) 2 3, inN 2, inN 100, inN 200, inN 200, inN 300, inN 500, inN 1000, inN 20, inN 50], .slice (some ⟨3657, 0, none⟩) 2 2, inN 1, .bool true], [(3657, .cells #[.slice (some ⟨3520, 0, none⟩) 1 1, inN 0, .slice (some ⟨3520, 0, none⟩) 1 1, inN 0] 108 (0, 0)), (3520, .cells #[inN (-1)] 3 (0, 0)), (2664, .cells #[inN 60, inN 0, inN 50, inN 0, inN 25, inN 20] 85 (0, 0))], 4514, .slice (some ⟨4544, 0, none⟩) 3 2, [(4541, .cells #[inN 1, inN (-1)] 3 (0, 0)), (4528, .cells #[inN 1, inN (-1)] 3 (0, 0)), (4544, .cells #[.slice (some ⟨4528, 0, none⟩) 2 1, inN 20, .slice (some ⟨4528, 0, none⟩) 2 1, inN 20, .slice (some ⟨4541, 0, none⟩) 2 1, inN 20] 108 (0, 0))], 4545⟩
theorem m107_4514_ok : isMemo m107_4514 (m107_4514.run Try.prog goFns orc_m107_4514 100000) = true := by decide +kernel
noncomputable def orc_m107_4631 : Orc := orElse insOrc (memoOrc [m115_4639, m115_4652, m115_4665])
theorem orc_m107_4631_ok (B : Lo) : OrcS Try.prog B orc_m107_4631 := orElse_ok (insOrc_ok _) (orcS_cons goFns_ok mixed_ok (insOrc_ok _) m115_4639_ok (orcS_cons goFns_ok mixed_ok (insOrc_ok _) m115_4652_ok (orcS_cons goFns_ok mixed_ok (insOrc_ok _) m115_4665_ok (orcS_nil _ _))))
def m107_4631 : Memo :=
  ⟨107, #[.agg #[.slice (some ⟨2663, 0, none⟩) 4 4, .slice (some ⟨2664, 0, none⟩) 2 3, inN 2, inN 100, inN 200, inN 200, inN 300, inN 500, inN 1000, inN 20, inN 50], .slice (some ⟨4621, 0, none⟩) 3 2, inN 1, .bool false], [(4621, .cells #[.slice (some ⟨4426, 0, none⟩) 2 1, inN 0, .slice (some ⟨4439, 0, none⟩) 2 1, inN 20, .slice (some ⟨4541, 0, none⟩) 2 1, inN 20] 108 (0, 0)), (4426, .cells #[inN (-1), inN (-1)] 3 (0, 0)), (2664, .cells #[inN 60, inN 0, inN 50, inN 0, inN 25, inN 20] 85 (0, 0)), (4439, .cells #[inN (-1), inN 1] 3 (0, 0)), (4541, .cells #[inN 1, inN (-1)] 3 (0, 0))], 4631, .slice (some ⟨4633, 0, none⟩) 3 2, [(4671, .cells #[inN 1, inN 1, inN (-1)] 3 (0, 0)), (4658, .cells #[inN 1, inN (-1), inN 1] 3 (0, 0)), (4645, .cells #[inN 1, inN (-1), inN (-1)] 3 (0, 0)), (4633, .cells #[.slice (some ⟨4645, 0, none⟩) 3 1, inN 20, .slice (some ⟨4658, 0, none⟩) 3 1, inN 40, .slice (some ⟨4671, 0, none⟩) 3 1, inN 40] 108 (0, 0))], 4673⟩
theorem m107_4631_ok : isMemo m107_4631 (m107_4631.run Try.prog goFns orc_m107_4631 100000) = true := by decide +kernel
noncomputable def orc_m107_4765 : Orc := orElse insOrc (memoOrc [m115_4773, m115_4786, m115_4799])
theorem orc_m107_4765_ok (B : Lo) : OrcS Try.prog B orc_m107_4765 := orElse_ok (insOrc_ok _) (orcS_cons goFns_ok mixed_ok (insOrc_ok _) m115_4773_ok (orcS_cons goFns_ok mixed_ok (insOrc_ok _) m115_4786_ok (orcS_cons goFns_ok mixed_ok (insOrc_ok _) m115_4799_ok (orcS_nil _ _))))
def m107_4765 : Memo :=
  ⟨107, #[.agg #[.slice (some ⟨2663, 0, none⟩) 4 4, .slice (some ⟨2664, 0, none⟩) 2 3, inN 2, inN 100, inN 200, inN 200, inN 300, inN 500, inN 1000, inN 20, inN 50], .slice (some ⟨4755, 0, none⟩) 3 2, inN 1, .bool false], [(4755, .cells #[.slice (some ⟨4281, 0, none⟩) 3 1, inN 0, .slice (some ⟨4294, 0, none⟩) 3 1, inN 40, .slice (some ⟨4671, 0, none⟩) 3 1, inN 40] 108 (0, 0)), (4281, .cells #[inN (-1), inN (-1), inN (-1)] 3 (0, 0)), (2664, .cells #[inN 60, inN 0, inN 50, inN 0, inN 25, inN 20] 85 (0, 0)), (4294, .cells #[inN (-1), inN 1, inN 1] 3 (0, 0)), (4671, .cells #[inN 1, inN 1, inN (-1)] 3 (0, 0))], 4765, .slice (some ⟨4767, 0, none⟩) 3 2, [(4805, .cells #[inN 1, inN 1, inN 1, inN (-1)] 3 (0, 0)), (4792, .cells #[inN 1, inN (-1), inN 1, inN 1] 3 (0, 0)), (4779, .cells #[inN 1, inN (-1), inN (-1), inN (-1)] 3 (0, 0)), (4767, .cells #[.slice (some ⟨4779, 0, none⟩) 4 1, inN 20, .slice (some ⟨4792, 0, none⟩) 4 1, inN 60, .slice (some ⟨4805, 0, none⟩) 4 1, inN 60] 108 (0, 0))], 4807⟩
theorem m107_4765_ok : isMemo m107_4765 (m107_4765.run Try.prog goFns orc_m107_4765 100000) = true := by decide +kernel
end Go.Proofs.Ytiigkdhaofaijaa

namespace Go.Proofs.Ytiigkdhaofaijaa
open Go Go.CE Go.RowKit
noncomputable def orc_m39_2666 : Orc := orElse insOrc (memoOrc [m106_2739, m106_2758, m106_2777, m106_2796, m107_2816, m106_2833, m107_2853, m106_2872, m107_2892, m108_2909, m107_2960, m106_2991, m107_3010, m106_3041, m106_3060, m107_3080, m106_3097, m107_3117, m106_3136, m107_3156, m108_3173, m107_3224, m108_3255, m107_3318, m106_3349, m107_3368, m106_3399, m106_3418, m107_3437, m106_3468, m106_3487, m107_3507, m106_3526, m107_3546, m106_3565, m107_3585, m108_3604, m107_3667, m106_3700, m106_3719, m107_3739, m106_3756, m107_3776, m106_3795, m107_3815, m108_3834, m107_3891, m108_3922, m107_4000, m108_4044, m107_4122, m106_4166, m107_4185, m106_4229, m106_4248, m107_4267, m106_4311, m107_4330, m106_4374, m106_4393, m107_4412, m106_4443, m107_4462, m106_4495, m107_4514, m108_4547, m107_4631, m108_4675, m107_4765, m108_4809])
theorem orc_m39_2666_ok (B : Lo) : OrcS Try.prog B orc_m39_2666 := orElse_ok (insOrc_ok _) (orcS_cons goFns_ok mixed_ok (orc_m106_2739_ok _) m106_2739_ok (orcS_cons goFns_ok mixed_ok (orc_m106_2758_ok _) m106_2758_ok (orcS_cons goFns_ok mixed_ok (orc_m106_2777_ok _) m106_2777_ok (orcS_cons goFns_ok mixed_ok (orc_m106_2796_ok _) m106_2796_ok (orcS_cons goFns_ok mixed_ok (orc_m107_2816_ok _) m107_2816_ok (orcS_cons goFns_ok mixed_ok (orc_m106_2833_ok _) m106_2833_ok (orcS_cons goFns_ok mixed_ok (orc_m107_2853_ok _) m107_2853_ok (orcS_cons goFns_ok mixed_ok (orc_m106_2872_ok _) m106_2872_ok (orcS_cons goFns_ok mixed_ok (orc_m107_2892_ok _) m107_2892_ok (orcS_cons goFns_ok mixed_ok (insOrc_ok _) m108_2909_ok (orcS_cons goFns_ok mixed_ok (orc_m107_2960_ok _) m107_2960_ok (orcS_cons goFns_ok mixed_ok (orc_m106_2991_ok _) m106_2991_ok (orcS_cons goFns_ok mixed_ok (orc_m107_3010_ok _) m107_3010_ok (orcS_cons goFns_ok mixed_ok (orc_m106_3041_ok _) m106_3041_ok (orcS_cons goFns_ok mixed_ok (orc_m106_3060_ok _) m106_3060_ok (orcS_cons goFns_ok mixed_ok (orc_m107_3080_ok _) m107_3080_ok (orcS_cons goFns_ok mixed_ok (orc_m106_3097_ok _) m106_3097_ok (orcS_cons goFns_ok mixed_ok (orc_m107_3117_ok _) m107_3117_ok (orcS_cons goFns_ok mixed_ok (orc_m106_3136_ok _) m106_3136_ok (orcS_cons goFns_ok mixed_ok (orc_m107_3156_ok _) m107_3156_ok (orcS_cons goFns_ok mixed_ok (insOrc_ok _) m108_3173_ok (orcS_cons goFns_ok mixed_ok (orc_m107_3224_ok _) m107_3224_ok (orcS_cons goFns_ok mixed_ok (insOrc_ok _) m108_3255_ok (orcS_cons goFns_ok mixed_ok (orc_m107_3318_ok _) m107_3318_ok (orcS_cons goFns_ok mixed_ok (orc_m106_3349_ok _) m106_3349_ok (orcS_cons goFns_ok mixed_ok (orc_m107_3368_ok _) m107_3368_ok (orcS_cons goFns_ok mixed_ok (orc_m106_3399_ok _) m106_3399_ok (orcS_cons goFns_ok mixed_ok (orc_m106_3418_ok _) m106_3418_ok (orcS_cons goFns_ok mixed_ok (orc_m107_3437_ok _) m107_3437_ok (orcS_cons goFns_ok mixed_ok (orc_m106_3468_ok _) m106_3468_ok (orcS_cons goFns_ok mixed_ok (orc_m106_3487_ok _) m106_3487_ok (orcS_cons goFns_ok mixed_ok (orc_m107_3507_ok _) m107_3507_ok (orcS_cons goFns_ok mixed_ok (orc_m106_3526_ok _) m106_3526_ok (orcS_cons goFns_ok mixed_ok (orc_m107_3546_ok _) m107_3546_ok (orcS_cons goFns_ok mixed_ok (orc_m106_3565_ok _) m106_3565_ok (orcS_cons goFns_ok mixed_ok (orc_m107_3585_ok _) m107_3585_ok (orcS_cons goFns_ok mixed_ok (insOrc_ok _) m108_3604_ok (orcS_cons goFns_ok mixed_ok (orc_m107_3667_ok _) m107_3667_ok (orcS_cons goFns_ok mixed_ok (orc_m106_3700_ok _) m106_3700_ok (orcS_cons goFns_ok mixed_ok (orc_m106_3719_ok _) m106_3719_ok (orcS_cons goFns_ok mixed_ok (orc_m107_3739_ok _) m107_3739_ok (orcS_cons goFns_ok mixed_ok (orc_m106_3756_ok _) m106_3756_ok (orcS_cons goFns_ok mixed_ok (orc_m107_3776_ok _) m107_3776_ok (orcS_cons goFns_ok mixed_ok (orc_m106_3795_ok _) m106_3795_ok (orcS_cons goFns_ok mixed_ok (orc_m107_3815_ok _) m107_3815_ok (orcS_cons goFns_ok mixed_ok (insOrc_ok _) m108_3834_ok (orcS_cons goFns_ok mixed_ok (orc_m107_3891_ok _) m107_3891_ok (orcS_cons goFns_ok mixed_ok (insOrc_ok _) m108_3922_ok (orcS_cons goFns_ok mixed_ok (orc_m107_4000_ok _) m107_4000_ok (orcS_cons goFns_ok mixed_ok (insOrc_ok _) m108_4044_ok (orcS_cons goFns_ok mixed_ok (orc_m107_4122_ok _) m107_4122_ok (orcS_cons goFns_ok mixed_ok (orc_m106_4166_ok _) m106_4166_ok (orcS_cons goFns_ok mixed_ok (orc_m107_4185_ok _) m107_4185_ok (orcS_cons goFns_ok mixed_ok (orc_m106_4229_ok _) m106_4229_ok (orcS_cons goFns_ok mixed_ok (orc_m106_4248_ok _) m106_4248_ok (orcS_cons goFns_ok mixed_ok (orc_m107_4267_ok _) m107_4267_ok (orcS_cons goFns_ok mixed_ok (orc_m106_4311_ok _) m106_4311_ok (orcS_cons goFns_ok mixed_ok (orc_m107_4330_ok _) m107_4330_ok (orcS_cons goFns_ok mixed_ok (orc_m106_4374_ok _) m106_4374_ok (orcS_cons goFns_ok mixed_ok (orc_m106_4393_ok _) m106_4393_ok (orcS_cons goFns_ok mixed_ok (orc_m107_4412_ok _) m107_4412_ok (orcS_cons goFns_ok mixed_ok (orc_m106_4443_ok _) m106_4443_ok (orcS_cons goFns_ok mixed_ok (orc_m107_4462_ok _) m107_4462_ok (orcS_cons goFns_ok mixed_ok (orc_m106_4495_ok _) m106_4495_ok (orcS_cons goFns_ok mixed_ok (orc_m107_4514_ok _) m107_4514_ok (orcS_cons goFns_ok mixed_ok (insOrc_ok _) m108_4547_ok (orcS_cons goFns_ok mixed_ok (orc_m107_4631_ok _) m107_4631_ok (orcS_cons goFns_ok mixed_ok (insOrc_ok _) m108_4675_ok (orcS_cons goFns_ok mixed_ok (orc_m107_4765_ok _) m107_4765_ok (orcS_cons goFns_ok mixed_ok (insOrc_ok _) m108_4809_ok (orcS_nil _ _)))))))))))))))))))))))))))))))))))))))))))))))))))))))))))))))))))))))
def m39_2666 : Memo :=
  ⟨39, #[.agg #[.slice (some ⟨2663, 0, none⟩) 4 4, .slice (some ⟨2664, 0, none⟩) 2 3, inN 2, inN 100, inN 200], .agg #[inN 200, inN 300, inN 500, inN 1000, inN 20, inN 50], inN 59], [(2664, .cells #[inN 60, inN 0, inN 50, inN 0, inN 25, inN 20] 85 (0, 0)), (2663, .cells #[inN 100, inN 10, inN 20, inN (-1), inN 150, inN 20, inN 30, inN (-1), inN 180, inN 20, inN 40, inN 10, inN 175, inN 10, inN 20, inN 0] 59 (0, 0))], 2666, .tuple #[.slice (some ⟨4149, 0, none⟩) 4 1, inN 1, inN 50, inN 0], [(4149, .cells #[inN (-1), inN (-1), inN (-1), inN 0] 3 (0, 0))], 4901⟩
theorem m39_2666_ok : isMemo m39_2666 (m39_2666.run Try.prog goFns orc_m39_2666 100000) = true := by decide +kernel
end Go.Proofs.Ytiigkdhaofaijaa

namespace Go.Proofs.Ytiigkdhaofaijaa
open Go Go.CE Go.RowKit
noncomputable def orc_m33_4906 : Orc := orElse insOrc (memoOrc [m103_4984, m103_4996, m103_5008])
theorem orc_m33_4906_ok (B : Lo) : OrcS Try.prog B orc_m33_4906 := orElse_ok (insOrc_ok _) (orcS_consD goFns_ok mixed_ok (insOrc_ok _) m103_4984_ok (orcS_consD goFns_ok mixed_ok (insOrc_ok _) m103_4996_ok (orcS_consD goFns_ok mixed_ok (insOrc_ok _) m103_5008_ok (orcS_nil _ _))))
def m33_4906 : Memo :=
  ⟨33, #[.agg #[.slice (some ⟨4902, 0, none⟩) 4 4, .slice (some ⟨4903, 0, none⟩) 2 3, inN 2, inN 100, inN 200], .agg #[inN 200, inN 300, inN 500, inN 1000, inN 20, inN 50], .slice (some ⟨4905, 0, none⟩) 4 1, inN 0], [(4902, .cells #[inN 100, inN 10, inN 20, inN (-1), inN 150, inN 20, inN 30, inN (-1), inN 180, inN 20, inN 40, inN 10, inN 175, inN 10, inN 20, inN 0] 59 (0, 0)), (4903, .cells #[inN 60, inN 0, inN 50, inN 0, inN 25, inN 20] 85 (0, 0)), (4905, .cells #[inN 1, inN 1, inN 1, inN (-1)] 3 (0, 0))], 4906, .tuple #[inN 2, inN 0], [], 5020⟩
theorem m33_4906_ok : isMemo m33_4906 (m33_4906.run Try.prog goFns orc_m33_4906 100000) = true := by decide +kernel
end Go.Proofs.Ytiigkdhaofaijaa

namespace Go.Proofs.Ytiigkdhaofaijaa
open Go Go.CE Go.RowKit
noncomputable def orcTop : Orc := orElse insOrc (memoOrc [m17_4, m29_119, m24_326, m38_424, m39_2666, m33_4906])
theorem orcTop_ok (B : Lo) : OrcS Try.prog B orcTop := orElse_ok (insOrc_ok _) (orcS_cons goFns_ok mixed_ok (insOrc_ok _) m17_4_ok (orcS_cons goFns_ok mixed_ok (orc_m29_119_ok _) m29_119_ok (orcS_cons goFns_ok mixed_ok (orc_m24_326_ok _) m24_326_ok (orcS_cons goFns_ok mixed_ok (orc_m38_424_ok _) m38_424_ok (orcS_cons goFns_ok mixed_ok (orc_m39_2666_ok _) m39_2666_ok (orcS_cons goFns_ok mixed_ok (orc_m33_4906_ok _) m33_4906_ok (orcS_nil _ _)))))))
theorem known_ans : isAns (callC Try.prog goFns orcTop 100000 15 #[] (heapOf 0 []) ([] : List (Array Value × TypeId)).length) (.bool true) [] = true := by decide +kernel
theorem known_true (w : World) : Calls Try.prog 15 #[] w fun e w' => e = .returned (.bool true) ∧ Below w.heap.size w w' := by
  have hc := calls_ans goFns_ok mixed_ok (at' := []) (args' := #[]) known_ans (w := w) (I := fun _ => True) (hI := fun _ _ _ _ => trivial) (orcTop_ok _) trivial rfl (fun i x a h => by simp at h) ⟨rfl, fun i v v' h => by simp at h⟩
  intro cs
  obtain ⟨e, w', fr, ⟨v', n', H', μ', he, hp, hv, hb, hun, hbel⟩, h1, h2, h3⟩ := hc cs
  exact ⟨e, w', fr, ⟨by rw [he, af_eq rfl hv], hbel⟩, h1, h2, h3⟩
theorem known : PureC Try.prog J0 15 #[] (.bool true) := fun fm w args' _ _ ha => by
  have e : args' = #[] := by exact Array.eq_empty_of_size_eq_zero ha.1.symm
  subst e
  exact (known_true w).mono fun _ _ h => ⟨_, h.1, h.2, .simple rfl⟩
end Go.Proofs.Ytiigkdhaofaijaa
