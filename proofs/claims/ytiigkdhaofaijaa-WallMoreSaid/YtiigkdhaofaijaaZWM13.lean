/- layer 08: calls within known() -/
import Derived.Test.YtiigkdhaofaijaaZWM12
import Derived.Test.YtiigkdhaofaijaaZWM08
import Derived.Test.YtiigkdhaofaijaaZWM11
set_option linter.all false
namespace Go.Proofs.Ytiigkdhaofaijaa
open Go Go.CE Go.RowKit
def m103_1179 : Memo :=
 ⟨103, #[.agg #[.slice (some ⟨421, 0, none⟩) 4 4, .slice (some ⟨422, 0, none⟩) 2 3, inN 2, inN 100, inN 200, inN 200, inN 300, inN 500, inN 1000, inN 20, inN 50], .agg #[inN 2, inN 238], inN 20, inN (-1)], [(421, .cells #[inN 100, inN 10, inN 20, inN (-1), inN 150, inN 20, inN 30, inN (-1), inN 180, inN 20, inN 40, inN 10, inN 175, inN 10, inN 20, inN 0] 59 (0, 0))], 1179, .tuple #[inN 218, .bool true], [], 1191⟩
theorem m103_1179_ok : isMemo m103_1179 (m103_1179.drun Try.prog goFns insOrc 100000) = true := by decide +kernel
def m103_1229 : Memo :=
 ⟨103, #[.agg #[.slice (some ⟨421, 0, none⟩) 4 4, .slice (some ⟨422, 0, none⟩) 2 3, inN 2, inN 100, inN 200, inN 200, inN 300, inN 500, inN 1000, inN 20, inN 50], .agg #[inN 2, inN 238], inN 20, inN 0], [(421, .cells #[inN 100, inN 10, inN 20, inN (-1), inN 150, inN 20, inN 30, inN (-1), inN 180, inN 20, inN 40, inN 10, inN 175, inN 10, inN 20, inN 0] 59 (0, 0)), (422, .cells #[inN 60, inN 0, inN 50, inN 0, inN 25, inN 20] 85 (0, 0))], 1229, .tuple #[inN 0, .bool false], [], 1241⟩
theorem m103_1229_ok : isMemo m103_1229 (m103_1229.drun Try.prog goFns insOrc 100000) = true := by decide +kernel
def m103_1248 : Memo :=
 ⟨103, #[.agg #[.slice (some ⟨421, 0, none⟩) 4 4, .slice (some ⟨422, 0, none⟩) 2 3, inN 2, inN 100, inN 200, inN 200, inN 300, inN 500, inN 1000, inN 20, inN 50], .agg #[inN 3, inN (-5000)], inN 10, inN (-1)], [(421, .cells #[inN 100, inN 10, inN 20, inN (-1), inN 150, inN 20, inN 30, inN (-1), inN 180, inN 20, inN 40, inN 10, inN 175, inN 10, inN 20, inN 0] 59 (0, 0))], 1248, .tuple #[inN 0, .bool false], [], 1260⟩
theorem m103_1248_ok : isMemo m103_1248 (m103_1248.drun Try.prog goFns insOrc 100000) = true := by decide +kernel
def m103_1287 : Memo :=
 ⟨103, #[.agg #[.slice (some ⟨421, 0, none⟩) 4 4, .slice (some ⟨422, 0, none⟩) 2 3, inN 2, inN 100, inN 200, inN 200, inN 300, inN 500, inN 1000, inN 20, inN 50], .agg #[inN 3, inN (-5000)], inN 10, inN 0], [(421, .cells #[inN 100, inN 10, inN 20, inN (-1), inN 150, inN 20, inN 30, inN (-1), inN 180, inN 20, inN 40, inN 10, inN 175, inN 10, inN 20, inN 0] 59 (0, 0)), (422, .cells #[inN 60, inN 0, inN 50, inN 0, inN 25, inN 20] 85 (0, 0))], 1287, .tuple #[inN 0, .bool false], [], 1299⟩
theorem m103_1287_ok : isMemo m103_1287 (m103_1287.drun Try.prog goFns insOrc 100000) = true := by decide +kernel
def m103_1326 : Memo :=
 ⟨103, #[.agg #[.slice (some ⟨421, 0, none⟩) 4 4, .slice (some ⟨422, 0, none⟩) 2 3, inN 2, inN 100, inN 200, inN 200, inN 300, inN 500, inN 1000, inN 20, inN 50], .agg #[inN 3, inN (-5000)], inN 10, inN 1], [(421, .cells #[inN 100, inN 10, inN 20, inN (-1), inN 150, inN 20, inN 30, inN (-1), inN 180, inN 20, inN 40, inN 10, inN 175, inN 10, inN 20, inN 0] 59 (0, 0)), (422, .cells #[inN 60, inN 0, inN 50, inN 0, inN 25, inN 20] 85 (0, 0))], 1326, .tuple #[inN 0, .bool false], [], 1338⟩
theorem m103_1326_ok : isMemo m103_1326 (m103_1326.drun Try.prog goFns insOrc 100000) = true := by decide +kernel
def m108_1361 : Memo :=
 ⟨108, #[.slice (some ⟨1360, 0, none⟩) 3 1], [(1358, .cells #[.slice (some ⟨1355, 0, none⟩) 1 1, inN 20, .slice (some ⟨1355, 0, none⟩) 1 1, inN 20] 108 (0, 0)), (1319, .cells #[.slice (some ⟨1316, 0, none⟩) 1 1, inN 50, .slice (some ⟨1316, 0, none⟩) 1 1, inN 50] 108 (0, 0)), (1280, .cells #[.slice (some ⟨1277, 0, none⟩) 1 1, inN 0, .slice (some ⟨1277, 0, none⟩) 1 1, inN 0] 108 (0, 0)), (1360, .cells #[.slice (some ⟨1280, 0, none⟩) 2 2, .slice (some ⟨1319, 0, none⟩) 2 2, .slice (some ⟨1358, 0, none⟩) 2 2] 130 (0, 0))], 1361, .slice (some ⟨1414, 0, none⟩) 2 2, [(1414, .cells #[.slice (some ⟨1277, 0, none⟩) 1 1, inN 0, .slice (some ⟨1277, 0, none⟩) 1 1, inN 0] 108 (0, 0))], 1424⟩
theorem m108_1361_ok : isMemo m108_1361 (m108_1361.run Try.prog goFns insOrc 100000) = true := by decide +kernel
def m103_1461 : Memo :=
 ⟨103, #[.agg #[.slice (some ⟨421, 0, none⟩) 4 4, .slice (some ⟨422, 0, none⟩) 2 3, inN 2, inN 100, inN 200, inN 200, inN 300, inN 500, inN 1000, inN 20, inN 50], .agg #[inN 2, inN 238], inN 20, inN 1], [(421, .cells #[inN 100, inN 10, inN 20, inN (-1), inN 150, inN 20, inN 30, inN (-1), inN 180, inN 20, inN 40, inN 10, inN 175, inN 10, inN 20, inN 0] 59 (0, 0)), (422, .cells #[inN 60, inN 0, inN 50, inN 0, inN 25, inN 20] 85 (0, 0))], 1461, .tuple #[inN 193, .bool true], [], 1473⟩
theorem m103_1461_ok : isMemo m103_1461 (m103_1461.drun Try.prog goFns insOrc 100000) = true := by decide +kernel
def m103_1480 : Memo :=
 ⟨103, #[.agg #[.slice (some ⟨421, 0, none⟩) 4 4, .slice (some ⟨422, 0, none⟩) 2 3, inN 2, inN 100, inN 200, inN 200, inN 300, inN 500, inN 1000, inN 20, inN 50], .agg #[inN 3, inN 193], inN 10, inN (-1)], [(421, .cells #[inN 100, inN 10, inN 20, inN (-1), inN 150, inN 20, inN 30, inN (-1), inN 180, inN 20, inN 40, inN 10, inN 175, inN 10, inN 20, inN 0] 59 (0, 0))], 1480, .tuple #[inN 183, .bool true], [], 1492⟩
theorem m103_1480_ok : isMemo m103_1480 (m103_1480.drun Try.prog goFns insOrc 100000) = true := by decide +kernel
def m103_1517 : Memo :=
 ⟨103, #[.agg #[.slice (some ⟨421, 0, none⟩) 4 4, .slice (some ⟨422, 0, none⟩) 2 3, inN 2, inN 100, inN 200, inN 200, inN 300, inN 500, inN 1000, inN 20, inN 50], .agg #[inN 3, inN 193], inN 10, inN 0], [(421, .cells #[inN 100, inN 10, inN 20, inN (-1), inN 150, inN 20, inN 30, inN (-1), inN 180, inN 20, inN 40, inN 10, inN 175, inN 10, inN 20, inN 0] 59 (0, 0)), (422, .cells #[inN 60, inN 0, inN 50, inN 0, inN 25, inN 20] 85 (0, 0))], 1517, .tuple #[inN 0, .bool false], [], 1529⟩
theorem m103_1517_ok : isMemo m103_1517 (m103_1517.drun Try.prog goFns insOrc 100000) = true := by decide +kernel
def m103_1556 : Memo :=
 ⟨103, #[.agg #[.slice (some ⟨421, 0, none⟩) 4 4, .slice (some ⟨422, 0, none⟩) 2 3, inN 2, inN 100, inN 200, inN 200, inN 300, inN 500, inN 1000, inN 20, inN 50], .agg #[inN 3, inN 193], inN 10, inN 1], [(421, .cells #[inN 100, inN 10, inN 20, inN (-1), inN 150, inN 20, inN 30, inN (-1), inN 180, inN 20, inN 40, inN 10, inN 175, inN 10, inN 20, inN 0] 59 (0, 0)), (422, .cells #[inN 60, inN 0, inN 50, inN 0, inN 25, inN 20] 85 (0, 0))], 1556, .tuple #[inN 0, .bool false], [], 1568⟩
theorem m103_1556_ok : isMemo m103_1556 (m103_1556.drun Try.prog goFns insOrc 100000) = true := by decide +kernel
def m108_1591 : Memo :=
 ⟨108, #[.slice (some ⟨1590, 0, none⟩) 3 1], [(1588, .cells #[.slice (some ⟨1585, 0, none⟩) 1 1, inN 20, .slice (some ⟨1585, 0, none⟩) 1 1, inN 20] 108 (0, 0)), (1549, .cells #[.slice (some ⟨1546, 0, none⟩) 1 1, inN 50, .slice (some ⟨1546, 0, none⟩) 1 1, inN 50] 108 (0, 0)), (1498, .cells #[.slice (some ⟨1509, 0, none⟩) 1 1, inN 0] 108 (0, 0)), (1590, .cells #[.slice (some ⟨1498, 0, none⟩) 1 2, .slice (some ⟨1549, 0, none⟩) 2 2, .slice (some ⟨1588, 0, none⟩) 2 2] 130 (0, 0))], 1591, .slice (some ⟨1638, 0, none⟩) 2 2, [(1638, .cells #[.slice (some ⟨1509, 0, none⟩) 1 1, inN 0, .slice (some ⟨1585, 0, none⟩) 1 1, inN 20] 108 (0, 0))], 1648⟩
theorem m108_1591_ok : isMemo m108_1591 (m108_1591.run Try.prog goFns insOrc 100000) = true := by decide +kernel
def m108_1679 : Memo :=
 ⟨108, #[.slice (some ⟨1678, 0, none⟩) 3 1], [(1650, .cells #[.slice (some ⟨1662, 0, none⟩) 2 1, inN 20, .slice (some ⟨1675, 0, none⟩) 2 1, inN 40] 108 (0, 0)), (1454, .cells #[.slice (some ⟨1438, 0, none⟩) 2 1, inN 50, .slice (some ⟨1438, 0, none⟩) 2 1, inN 50, .slice (some ⟨1451, 0, none⟩) 2 1, inN 50] 108 (0, 0)), (1196, .cells #[.slice (some ⟨1208, 0, none⟩) 2 1, inN 0, .slice (some ⟨1221, 0, none⟩) 2 1, inN 50] 108 (0, 0)), (1678, .cells #[.slice (some ⟨1196, 0, none⟩) 2 2, .slice (some ⟨1454, 0, none⟩) 3 2, .slice (some ⟨1650, 0, none⟩) 2 2] 130 (0, 0))], 1679, .slice (some ⟨1747, 0, none⟩) 3 2, [(1747, .cells #[.slice (some ⟨1208, 0, none⟩) 2 1, inN 0, .slice (some ⟨1675, 0, none⟩) 2 1, inN 40, .slice (some ⟨1451, 0, none⟩) 2 1, inN 50] 108 (0, 0))], 1757⟩
theorem m108_1679_ok : isMemo m108_1679 (m108_1679.run Try.prog goFns insOrc 100000) = true := by decide +kernel
def m108_1801 : Memo :=
 ⟨108, #[.slice (some ⟨1800, 0, none⟩) 3 1], [(1759, .cells #[.slice (some ⟨1771, 0, none⟩) 3 1, inN 20, .slice (some ⟨1784, 0, none⟩) 3 1, inN 60, .slice (some ⟨1797, 0, none⟩) 3 1, inN 70] 108 (0, 0)), (1127, .cells #[.slice (some ⟨1139, 0, none⟩) 3 1, inN 50, .slice (some ⟨1152, 0, none⟩) 3 1, inN 100] 108 (0, 0)), (1077, .cells #[.slice (some ⟨1089, 0, none⟩) 3 1, inN 0, .slice (some ⟨1102, 0, none⟩) 3 1, inN 50] 108 (0, 0)), (1800, .cells #[.slice (some ⟨1077, 0, none⟩) 2 2, .slice (some ⟨1127, 0, none⟩) 2 2, .slice (some ⟨1759, 0, none⟩) 3 2] 130 (0, 0))], 1801, .slice (some ⟨1869, 0, none⟩) 3 2, [(1869, .cells #[.slice (some ⟨1089, 0, none⟩) 3 1, inN 0, .slice (some ⟨1102, 0, none⟩) 3 1, inN 50, .slice (some ⟨1797, 0, none⟩) 3 1, inN 70] 108 (0, 0))], 1879⟩
theorem m108_1801_ok : isMemo m108_1801 (m108_1801.run Try.prog goFns insOrc 100000) = true := by decide +kernel
def m103_1927 : Memo :=
 ⟨103, #[.agg #[.slice (some ⟨421, 0, none⟩) 4 4, .slice (some ⟨422, 0, none⟩) 2 3, inN 2, inN 100, inN 200, inN 200, inN 300, inN 500, inN 1000, inN 20, inN 50], .agg #[inN 0, inN 293], inN 10, inN 0], [(421, .cells #[inN 100, inN 10, inN 20, inN (-1), inN 150, inN 20, inN 30, inN (-1), inN 180, inN 20, inN 40, inN 10, inN 175, inN 10, inN 20, inN 0] 59 (0, 0)), (422, .cells #[inN 60, inN 0, inN 50, inN 0, inN 25, inN 20] 85 (0, 0))], 1927, .tuple #[inN 283, .bool true], [], 1939⟩
theorem m103_1927_ok : isMemo m103_1927 (m103_1927.drun Try.prog goFns insOrc 100000) = true := by decide +kernel
def m103_1990 : Memo :=
 ⟨103, #[.agg #[.slice (some ⟨421, 0, none⟩) 4 4, .slice (some ⟨422, 0, none⟩) 2 3, inN 2, inN 100, inN 200, inN 200, inN 300, inN 500, inN 1000, inN 20, inN 50], .agg #[inN 0, inN 293], inN 10, inN 1], [(421, .cells #[inN 100, inN 10, inN 20, inN (-1), inN 150, inN 20, inN 30, inN (-1), inN 180, inN 20, inN 40, inN 10, inN 175, inN 10, inN 20, inN 0] 59 (0, 0)), (422, .cells #[inN 60, inN 0, inN 50, inN 0, inN 25, inN 20] 85 (0, 0))], 1990, .tuple #[inN 258, .bool true], [], 2002⟩
theorem m103_1990_ok : isMemo m103_1990 (m103_1990.drun Try.prog goFns insOrc 100000) = true := by decide +kernel
def m103_2009 : Memo :=
 ⟨103, #[.agg #[.slice (some ⟨421, 0, none⟩) 4 4, .slice (some ⟨422, 0, none⟩) 2 3, inN 2, inN 100, inN 200, inN 200, inN 300, inN 500, inN 1000, inN 20, inN 50], .agg #[inN 1, inN 258], inN 20, inN (-1)], [(421, .cells #[inN 100, inN 10, inN 20, inN (-1), inN 150, inN 20, inN 30, inN (-1), inN 180, inN 20, inN 40, inN 10, inN 175, inN 10, inN 20, inN 0] 59 (0, 0))], 2009, .tuple #[inN 238, .bool true], [], 2021⟩
theorem m103_2009_ok : isMemo m103_2009 (m103_2009.drun Try.prog goFns insOrc 100000) = true := by decide +kernel
def m103_2072 : Memo :=
 ⟨103, #[.agg #[.slice (some ⟨421, 0, none⟩) 4 4, .slice (some ⟨422, 0, none⟩) 2 3, inN 2, inN 100, inN 200, inN 200, inN 300, inN 500, inN 1000, inN 20, inN 50], .agg #[inN 1, inN 258], inN 20, inN 0], [(421, .cells #[inN 100, inN 10, inN 20, inN (-1), inN 150, inN 20, inN 30, inN (-1), inN 180, inN 20, inN 40, inN 10, inN 175, inN 10, inN 20, inN 0] 59 (0, 0)), (422, .cells #[inN 60, inN 0, inN 50, inN 0, inN 25, inN 20] 85 (0, 0))], 2072, .tuple #[inN 238, .bool true], [], 2084⟩
theorem m103_2072_ok : isMemo m103_2072 (m103_2072.drun Try.prog goFns insOrc 100000) = true := by decide +kernel
def m103_2135 : Memo :=
 ⟨103, #[.agg #[.slice (some ⟨421, 0, none⟩) 4 4, .slice (some ⟨422, 0, none⟩) 2 3, inN 2, inN 100, inN 200, inN 200, inN 300, inN 500, inN 1000, inN 20, inN 50], .agg #[inN 1, inN 258], inN 20, inN 1], [(421, .cells #[inN 100, inN 10, inN 20, inN (-1), inN 150, inN 20, inN 30, inN (-1), inN 180, inN 20, inN 40, inN 10, inN 175, inN 10, inN 20, inN 0] 59 (0, 0)), (422, .cells #[inN 60, inN 0, inN 50, inN 0, inN 25, inN 20] 85 (0, 0))], 2135, .tuple #[inN 213, .bool true], [], 2147⟩
theorem m103_2135_ok : isMemo m103_2135 (m103_2135.drun Try.prog goFns insOrc 100000) = true := by decide +kernel
def m103_2154 : Memo :=
 ⟨103, #[.agg #[.slice (some ⟨421, 0, none⟩) 4 4, .slice (some ⟨422, 0, none⟩) 2 3, inN 2, inN 100, inN 200, inN 200, inN 300, inN 500, inN 1000, inN 20, inN 50], .agg #[inN 2, inN 213], inN 20, inN (-1)], [(421, .cells #[inN 100, inN 10, inN 20, inN (-1), inN 150, inN 20, inN 30, inN (-1), inN 180, inN 20, inN 40, inN 10, inN 175, inN 10, inN 20, inN 0] 59 (0, 0))], 2154, .tuple #[inN 193, .bool true], [], 2166⟩
theorem m103_2154_ok : isMemo m103_2154 (m103_2154.drun Try.prog goFns insOrc 100000) = true := by decide +kernel
def m103_2204 : Memo :=
 ⟨103, #[.agg #[.slice (some ⟨421, 0, none⟩) 4 4, .slice (some ⟨422, 0, none⟩) 2 3, inN 2, inN 100, inN 200, inN 200, inN 300, inN 500, inN 1000, inN 20, inN 50], .agg #[inN 2, inN 213], inN 20, inN 0], [(421, .cells #[inN 100, inN 10, inN 20, inN (-1), inN 150, inN 20, inN 30, inN (-1), inN 180, inN 20, inN 40, inN 10, inN 175, inN 10, inN 20, inN 0] 59 (0, 0)), (422, .cells #[inN 60, inN 0, inN 50, inN 0, inN 25, inN 20] 85 (0, 0))], 2204, .tuple #[inN 0, .bool false], [], 2216⟩
theorem m103_2204_ok : isMemo m103_2204 (m103_2204.drun Try.prog goFns insOrc 100000) = true := by decide +kernel
def m103_2256 : Memo :=
 ⟨103, #[.agg #[.slice (some ⟨421, 0, none⟩) 4 4, .slice (some ⟨422, 0, none⟩) 2 3, inN 2, inN 100, inN 200, inN 200, inN 300, inN 500, inN 1000, inN 20, inN 50], .agg #[inN 2, inN 213], inN 20, inN 1], [(421, .cells #[inN 100, inN 10, inN 20, inN (-1), inN 150, inN 20, inN 30, inN (-1), inN 180, inN 20, inN 40, inN 10, inN 175, inN 10, inN 20, inN 0] 59 (0, 0)), (422, .cells #[inN 60, inN 0, inN 50, inN 0, inN 25, inN 20] 85 (0, 0))], 2256, .tuple #[inN 0, .bool false], [], 2268⟩
theorem m103_2256_ok : isMemo m103_2256 (m103_2256.drun Try.prog goFns insOrc 100000) = true := by decide +kernel
def m108_2304 : Memo :=
 ⟨108, #[.slice (some ⟨2303, 0, none⟩) 3 1], [(2301, .cells #[.slice (some ⟨2285, 0, none⟩) 2 1, inN 20, .slice (some ⟨2285, 0, none⟩) 2 1, inN 20, .slice (some ⟨2298, 0, none⟩) 2 1, inN 20] 108 (0, 0)), (2249, .cells #[.slice (some ⟨2233, 0, none⟩) 2 1, inN 50, .slice (some ⟨2233, 0, none⟩) 2 1, inN 50, .slice (some ⟨2246, 0, none⟩) 2 1, inN 50] 108 (0, 0)), (2171, .cells #[.slice (some ⟨2183, 0, none⟩) 2 1, inN 0, .slice (some ⟨2196, 0, none⟩) 2 1, inN 20] 108 (0, 0)), (2303, .cells #[.slice (some ⟨2171, 0, none⟩) 2 2, .slice (some ⟨2249, 0, none⟩) 3 2, .slice (some ⟨2301, 0, none⟩) 3 2] 130 (0, 0))], 2304, .slice (some ⟨2378, 0, none⟩) 3 2, [(2378, .cells #[.slice (some ⟨2183, 0, none⟩) 2 1, inN 0, .slice (some ⟨2196, 0, none⟩) 2 1, inN 20, .slice (some ⟨2298, 0, none⟩) 2 1, inN 20] 108 (0, 0))], 2388⟩
theorem m108_2304_ok : isMemo m108_2304 (m108_2304.run Try.prog goFns insOrc 100000) = true := by decide +kernel
def m108_2432 : Memo :=
 ⟨108, #[.slice (some ⟨2431, 0, none⟩) 3 1], [(2390, .cells #[.slice (some ⟨2402, 0, none⟩) 3 1, inN 20, .slice (some ⟨2415, 0, none⟩) 3 1, inN 40, .slice (some ⟨2428, 0, none⟩) 3 1, inN 40] 108 (0, 0)), (2089, .cells #[.slice (some ⟨2101, 0, none⟩) 3 1, inN 50, .slice (some ⟨2114, 0, none⟩) 3 1, inN 90, .slice (some ⟨2127, 0, none⟩) 3 1, inN 100] 108 (0, 0)), (2026, .cells #[.slice (some ⟨2038, 0, none⟩) 3 1, inN 0, .slice (some ⟨2051, 0, none⟩) 3 1, inN 40, .slice (some ⟨2064, 0, none⟩) 3 1, inN 50] 108 (0, 0)), (2431, .cells #[.slice (some ⟨2026, 0, none⟩) 3 2, .slice (some ⟨2089, 0, none⟩) 3 2, .slice (some ⟨2390, 0, none⟩) 3 2] 130 (0, 0))], 2432, .slice (some ⟨2512, 0, none⟩) 3 2, [(2512, .cells #[.slice (some ⟨2038, 0, none⟩) 3 1, inN 0, .slice (some ⟨2051, 0, none⟩) 3 1, inN 40, .slice (some ⟨2428, 0, none⟩) 3 1, inN 40] 108 (0, 0))], 2522⟩
theorem m108_2432_ok : isMemo m108_2432 (m108_2432.run Try.prog goFns insOrc 100000) = true := by decide +kernel
def m108_2566 : Memo :=
 ⟨108, #[.slice (some ⟨2565, 0, none⟩) 3 1], [(2524, .cells #[.slice (some ⟨2536, 0, none⟩) 4 1, inN 20, .slice (some ⟨2549, 0, none⟩) 4 1, inN 60, .slice (some ⟨2562, 0, none⟩) 4 1, inN 60] 108 (0, 0)), (1944, .cells #[.slice (some ⟨1956, 0, none⟩) 4 1, inN 50, .slice (some ⟨1969, 0, none⟩) 4 1, inN 100, .slice (some ⟨1982, 0, none⟩) 4 1, inN 120] 108 (0, 0)), (1881, .cells #[.slice (some ⟨1893, 0, none⟩) 4 1, inN 0, .slice (some ⟨1906, 0, none⟩) 4 1, inN 50, .slice (some ⟨1919, 0, none⟩) 4 1, inN 70] 108 (0, 0)), (2565, .cells #[.slice (some ⟨1881, 0, none⟩) 3 2, .slice (some ⟨1944, 0, none⟩) 3 2, .slice (some ⟨2524, 0, none⟩) 3 2] 130 (0, 0))], 2566, .slice (some ⟨2646, 0, none⟩) 3 2, [(2646, .cells #[.slice (some ⟨1893, 0, none⟩) 4 1, inN 0, .slice (some ⟨1906, 0, none⟩) 4 1, inN 50, .slice (some ⟨2562, 0, none⟩) 4 1, inN 60] 108 (0, 0))], 2656⟩
theorem m108_2566_ok : isMemo m108_2566 (m108_2566.run Try.prog goFns insOrc 100000) = true := by decide +kernel
end Go.Proofs.Ytiigkdhaofaijaa

namespace Go.Proofs.Ytiigkdhaofaijaa
open Go Go.CE Go.RowKit
noncomputable def orc_m38_424 : Orc := orElse insOrc (memoOrc [m103_500, m103_519, m103_538, m103_557, m103_594, m103_633, m108_666, m103_752, m103_802, m103_821, m103_858, m103_897, m108_930, m108_1012, m103_1110, m103_1160, m103_1179, m103_1229, m103_1248, m103_1287, m103_1326, m108_1361, m103_1461, m103_1480, m103_1517, m103_1556, m108_1591, m108_1679, m108_1801, m103_1927, m103_1990, m103_2009, m103_2072, m103_2135, m103_2154, m103_2204, m103_2256, m108_2304, m108_2432, m108_2566])
theorem orc_m38_424_ok (B : Lo) : OrcS Try.prog B orc_m38_424 := orElse_ok (insOrc_ok _) (orcS_consD goFns_ok mixed_ok (insOrc_ok _) m103_500_ok (orcS_consD goFns_ok mixed_ok (insOrc_ok _) m103_519_ok (orcS_consD goFns_ok mixed_ok (insOrc_ok _) m103_538_ok (orcS_consD goFns_ok mixed_ok (insOrc_ok _) m103_557_ok (orcS_consD goFns_ok mixed_ok (insOrc_ok _) m103_594_ok (orcS_consD goFns_ok mixed_ok (insOrc_ok _) m103_633_ok (orcS_cons goFns_ok mixed_ok (insOrc_ok _) m108_666_ok (orcS_consD goFns_ok mixed_ok (insOrc_ok _) m103_752_ok (orcS_consD goFns_ok mixed_ok (insOrc_ok _) m103_802_ok (orcS_consD goFns_ok mixed_ok (insOrc_ok _) m103_821_ok (orcS_consD goFns_ok mixed_ok (insOrc_ok _) m103_858_ok (orcS_consD goFns_ok mixed_ok (insOrc_ok _) m103_897_ok (orcS_cons goFns_ok mixed_ok (insOrc_ok _) m108_930_ok (orcS_cons goFns_ok mixed_ok (insOrc_ok _) m108_1012_ok (orcS_consD goFns_ok mixed_ok (insOrc_ok _) m103_1110_ok (orcS_consD goFns_ok mixed_ok (insOrc_ok _) m103_1160_ok (orcS_consD goFns_ok mixed_ok (insOrc_ok _) m103_1179_ok (orcS_consD goFns_ok mixed_ok (insOrc_ok _) m103_1229_ok (orcS_consD goFns_ok mixed_ok (insOrc_ok _) m103_1248_ok (orcS_consD goFns_ok mixed_ok (insOrc_ok _) m103_1287_ok (orcS_consD goFns_ok mixed_ok (insOrc_ok _) m103_1326_ok (orcS_cons goFns_ok mixed_ok (insOrc_ok _) m108_1361_ok (orcS_consD goFns_ok mixed_ok (insOrc_ok _) m103_1461_ok (orcS_consD goFns_ok mixed_ok (insOrc_ok _) m103_1480_ok (orcS_consD goFns_ok mixed_ok (insOrc_ok _) m103_1517_ok (orcS_consD goFns_ok mixed_ok (insOrc_ok _) m103_1556_ok (orcS_cons goFns_ok mixed_ok (insOrc_ok _) m108_1591_ok (orcS_cons goFns_ok mixed_ok (insOrc_ok _) m108_1679_ok (orcS_cons goFns_ok mixed_ok (insOrc_ok _) m108_1801_ok (orcS_consD goFns_ok mixed_ok (insOrc_ok _) m103_1927_ok (orcS_consD goFns_ok mixed_ok (insOrc_ok _) m103_1990_ok (orcS_consD goFns_ok mixed_ok (insOrc_ok _) m103_2009_ok (orcS_consD goFns_ok mixed_ok (insOrc_ok _) m103_2072_ok (orcS_consD goFns_ok mixed_ok (insOrc_ok _) m103_2135_ok (orcS_consD goFns_ok mixed_ok (insOrc_ok _) m103_2154_ok (orcS_consD goFns_ok mixed_ok (insOrc_ok _) m103_2204_ok (orcS_consD goFns_ok mixed_ok (insOrc_ok _) m103_2256_ok (orcS_cons goFns_ok mixed_ok (insOrc_ok _) m108_2304_ok (orcS_cons goFns_ok mixed_ok (insOrc_ok _) m108_2432_ok (orcS_cons goFns_ok mixed_ok (insOrc_ok _) m108_2566_ok (orcS_nil _ _)))))))))))))))))))))))))))))))))))))))))
def m38_424 : Memo :=
 ⟨38, #[.agg #[.slice (some ⟨421, 0, none⟩) 4 4, .slice (some ⟨422, 0, none⟩) 2 3, inN 2, inN 100, inN 200], .agg #[inN 200, inN 300, inN 500, inN 1000, inN 20, inN 50]], [(422, .cells #[inN 60, inN 0, inN 50, inN 0, inN 25, inN 20] 85 (0, 0)), (421, .cells #[inN 100, inN 10, inN 20, inN (-1), inN 150, inN 20, inN 30, inN (-1), inN 180, inN 20, inN 40, inN 10, inN 175, inN 10, inN 20, inN 0] 59 (0, 0))], 424, .tuple #[.slice (some ⟨2562, 0, none⟩) 4 1, inN 60, inN 0], [(2562, .cells #[inN 1, inN 1, inN 1, inN (-1)] 3 (0, 0))], 2662⟩
theorem m38_424_ok : isMemo m38_424 (m38_424.run Try.prog goFns orc_m38_424 100000) = true := by decide +kernel
end Go.Proofs.Ytiigkdhaofaijaa

namespace Go.Proofs.Ytiigkdhaofaijaa
open Go Go.CE Go.RowKit
def m103_2743 : Memo :=
 ⟨103, #[.agg #[.slice (some ⟨2663, 0, none⟩) 4 4, .slice (some ⟨2664, 0, none⟩) 2 3, inN 2, inN 100, inN 200, inN 200, inN 300, inN 500, inN 1000, inN 20, inN 50], .agg #[inN 0, inN 293], inN 10, inN (-1)], [(2663, .cells #[inN 100, inN 10, inN 20, inN (-1), inN 150, inN 20, inN 30, inN (-1), inN 180, inN 20, inN 40, inN 10, inN 175, inN 10, inN 20, inN 0] 59 (0, 0))], 2743, .tuple #[inN 283, .bool true], [], 2755⟩
theorem m103_2743_ok : isMemo m103_2743 (m103_2743.drun Try.prog goFns insOrc 100000) = true := by decide +kernel
def m103_2762 : Memo :=
 ⟨103, #[.agg #[.slice (some ⟨2663, 0, none⟩) 4 4, .slice (some ⟨2664, 0, none⟩) 2 3, inN 2, inN 100, inN 200, inN 200, inN 300, inN 500, inN 1000, inN 20, inN 50], .agg #[inN 1, inN 283], inN 20, inN (-1)], [(2663, .cells #[inN 100, inN 10, inN 20, inN (-1), inN 150, inN 20, inN 30, inN (-1), inN 180, inN 20, inN 40, inN 10, inN 175, inN 10, inN 20, inN 0] 59 (0, 0))], 2762, .tuple #[inN 263, .bool true], [], 2774⟩
theorem m103_2762_ok : isMemo m103_2762 (m103_2762.drun Try.prog goFns insOrc 100000) = true := by decide +kernel
def m103_2781 : Memo :=
 ⟨103, #[.agg #[.slice (some ⟨2663, 0, none⟩) 4 4, .slice (some ⟨2664, 0, none⟩) 2 3, inN 2, inN 100, inN 200, inN 200, inN 300, inN 500, inN 1000, inN 20, inN 50], .agg #[inN 2, inN 263], inN 20, inN (-1)], [(2663, .cells #[inN 100, inN 10, inN 20, inN (-1), inN 150, inN 20, inN 30, inN (-1), inN 180, inN 20, inN 40, inN 10, inN 175, inN 10, inN 20, inN 0] 59 (0, 0))], 2781, .tuple #[inN 243, .bool true], [], 2793⟩
theorem m103_2781_ok : isMemo m103_2781 (m103_2781.drun Try.prog goFns insOrc 100000) = true := by decide +kernel
def m103_2800 : Memo :=
 ⟨103, #[.agg #[.slice (some ⟨2663, 0, none⟩) 4 4, .slice (some ⟨2664, 0, none⟩) 2 3, inN 2, inN 100, inN 200, inN 200, inN 300, inN 500, inN 1000, inN 20, inN 50], .agg #[inN 3, inN 243], inN 10, inN (-1)], [(2663, .cells #[inN 100, inN 10, inN 20, inN (-1), inN 150, inN 20, inN 30, inN (-1), inN 180, inN 20, inN 40, inN 10, inN 175, inN 10, inN 20, inN 0] 59 (0, 0))], 2800, .tuple #[inN 233, .bool true], [], 2812⟩
theorem m103_2800_ok : isMemo m103_2800 (m103_2800.drun Try.prog goFns insOrc 100000) = true := by decide +kernel
def m103_2837 : Memo :=
 ⟨103, #[.agg #[.slice (some ⟨2663, 0, none⟩) 4 4, .slice (some ⟨2664, 0, none⟩) 2 3, inN 2, inN 100, inN 200, inN 200, inN 300, inN 500, inN 1000, inN 20, inN 50], .agg #[inN 3, inN 243], inN 10, inN 0], [(2663, .cells #[inN 100, inN 10, inN 20, inN (-1), inN 150, inN 20, inN 30, inN (-1), inN 180, inN 20, inN 40, inN 10, inN 175, inN 10, inN 20, inN 0] 59 (0, 0)), (2664, .cells #[inN 60, inN 0, inN 50, inN 0, inN 25, inN 20] 85 (0, 0))], 2837, .tuple #[inN 0, .bool false], [], 2849⟩
theorem m103_2837_ok : isMemo m103_2837 (m103_2837.drun Try.prog goFns insOrc 100000) = true := by decide +kernel
def m103_2876 : Memo :=
 ⟨103, #[.agg #[.slice (some ⟨2663, 0, none⟩) 4 4, .slice (some ⟨2664, 0, none⟩) 2 3, inN 2, inN 100, inN 200, inN 200, inN 300, inN 500, inN 1000, inN 20, inN 50], .agg #[inN 3, inN 243], inN 10, inN 1], [(2663, .cells #[inN 100, inN 10, inN 20, inN (-1), inN 150, inN 20, inN 30, inN (-1), inN 180, inN 20, inN 40, inN 10, inN 175, inN 10, inN 20, inN 0] 59 (0, 0)), (2664, .cells #[inN 60, inN 0, inN 50, inN 0, inN 25, inN 20] 85 (0, 0))], 2876, .tuple #[inN 208, .bool true], [], 2888⟩
theorem m103_2876_ok : isMemo m103_2876 (m103_2876.drun Try.prog goFns insOrc 100000) = true := by decide +kernel
def m108_2909 : Memo :=
 ⟨108, #[.slice (some ⟨2908, 0, none⟩) 3 1], [(2894, .cells #[.slice (some ⟨2905, 0, none⟩) 1 1, inN 20] 108 (0, 0)), (2869, .cells #[.slice (some ⟨2866, 0, none⟩) 1 1, inN 50, .slice (some ⟨2866, 0, none⟩) 1 1, inN 50] 108 (0, 0)), (2818, .cells #[.slice (some ⟨2829, 0, none⟩) 1 1, inN 0] 108 (0, 0)), (2908, .cells #[.slice (some ⟨2818, 0, none⟩) 1 2, .slice (some ⟨2869, 0, none⟩) 2 2, .slice (some ⟨2894, 0, none⟩) 1 2] 130 (0, 0))], 2909, .slice (some ⟨2950, 0, none⟩) 2 2, [(2950, .cells #[.slice (some ⟨2829, 0, none⟩) 1 1, inN 0, .slice (some ⟨2866, 0, none⟩) 1 1, inN 50] 108 (0, 0))], 2960⟩
theorem m108_2909_ok : isMemo m108_2909 (m108_2909.run Try.prog goFns insOrc 100000) = true := by decide +kernel
def m103_2995 : Memo :=
 ⟨103, #[.agg #[.slice (some ⟨2663, 0, none⟩) 4 4, .slice (some ⟨2664, 0, none⟩) 2 3, inN 2, inN 100, inN 200, inN 200, inN 300, inN 500, inN 1000, inN 20, inN 50], .agg #[inN 2, inN 263], inN 20, inN 0], [(2663, .cells #[inN 100, inN 10, inN 20, inN (-1), inN 150, inN 20, inN 30, inN (-1), inN 180, inN 20, inN 40, inN 10, inN 175, inN 10, inN 20, inN 0] 59 (0, 0)), (2664, .cells #[inN 60, inN 0, inN 50, inN 0, inN 25, inN 20] 85 (0, 0))], 2995, .tuple #[inN 243, .bool true], [], 3007⟩
theorem m103_2995_ok : isMemo m103_2995 (m103_2995.drun Try.prog goFns insOrc 100000) = true := by decide +kernel
def m103_3045 : Memo :=
 ⟨103, #[.agg #[.slice (some ⟨2663, 0, none⟩) 4 4, .slice (some ⟨2664, 0, none⟩) 2 3, inN 2, inN 100, inN 200, inN 200, inN 300, inN 500, inN 1000, inN 20, inN 50], .agg #[inN 2, inN 263], inN 20, inN 1], [(2663, .cells #[inN 100, inN 10, inN 20, inN (-1), inN 150, inN 20, inN 30, inN (-1), inN 180, inN 20, inN 40, inN 10, inN 175, inN 10, inN 20, inN 0] 59 (0, 0)), (2664, .cells #[inN 60, inN 0, inN 50, inN 0, inN 25, inN 20] 85 (0, 0))], 3045, .tuple #[inN 218, .bool true], [], 3057⟩
theorem m103_3045_ok : isMemo m103_3045 (m103_3045.drun Try.prog goFns insOrc 100000) = true := by decide +kernel
def m103_3064 : Memo :=
 ⟨103, #[.agg #[.slice (some ⟨2663, 0, none⟩) 4 4, .slice (some ⟨2664, 0, none⟩) 2 3, inN 2, inN 100, inN 200, inN 200, inN 300, inN 500, inN 1000, inN 20, inN 50], .agg #[inN 3, inN 218], inN 10, inN (-1)], [(2663, .cells #[inN 100, inN 10, inN 20, inN (-1), inN 150, inN 20, inN 30, inN (-1), inN 180, inN 20, inN 40, inN 10, inN 175, inN 10, inN 20, inN 0] 59 (0, 0))], 3064, .tuple #[inN 208, .bool true], [], 3076⟩
theorem m103_3064_ok : isMemo m103_3064 (m103_3064.drun Try.prog goFns insOrc 100000) = true := by decide +kernel
def m103_3101 : Memo :=
 ⟨103, #[.agg #[.slice (some ⟨2663, 0, none⟩) 4 4, .slice (some ⟨2664, 0, none⟩) 2 3, inN 2, inN 100, inN 200, inN 200, inN 300, inN 500, inN 1000, inN 20, inN 50], .agg #[inN 3, inN 218], inN 10, inN 0], [(2663, .cells #[inN 100, inN 10, inN 20, inN (-1), inN 150, inN 20, inN 30, inN (-1), inN 180, inN 20, inN 40, inN 10, inN 175, inN 10, inN 20, inN 0] 59 (0, 0)), (2664, .cells #[inN 60, inN 0, inN 50, inN 0, inN 25, inN 20] 85 (0, 0))], 3101, .tuple #[inN 0, .bool false], [], 3113⟩
theorem m103_3101_ok : isMemo m103_3101 (m103_3101.drun Try.prog goFns insOrc 100000) = true := by decide +kernel
def m103_3140 : Memo :=
 ⟨103, #[.agg #[.slice (some ⟨2663, 0, none⟩) 4 4, .slice (some ⟨2664, 0, none⟩) 2 3, inN 2, inN 100, inN 200, inN 200, inN 300, inN 500, inN 1000, inN 20, inN 50], .agg #[inN 3, inN 218], inN 10, inN 1], [(2663, .cells #[inN 100, inN 10, inN 20, inN (-1), inN 150, inN 20, inN 30, inN (-1), inN 180, inN 20, inN 40, inN 10, inN 175, inN 10, inN 20, inN 0] 59 (0, 0)), (2664, .cells #[inN 60, inN 0, inN 50, inN 0, inN 25, inN 20] 85 (0, 0))], 3140, .tuple #[inN 183, .bool true], [], 3152⟩
theorem m103_3140_ok : isMemo m103_3140 (m103_3140.drun Try.prog goFns insOrc 100000) = true := by decide +kernel
def m108_3173 : Memo :=
 ⟨108, #[.slice (some ⟨3172, 0, none⟩) 3 1], [(3158, .cells #[.slice (some ⟨3169, 0, none⟩) 1 1, inN 20] 108 (0, 0)), (3133, .cells #[.slice (some ⟨3130, 0, none⟩) 1 1, inN 50, .slice (some ⟨3130, 0, none⟩) 1 1, inN 50] 108 (0, 0)), (3082, .cells #[.slice (some ⟨3093, 0, none⟩) 1 1, inN 0] 108 (0, 0)), (3172, .cells #[.slice (some ⟨3082, 0, none⟩) 1 2, .slice (some ⟨3133, 0, none⟩) 2 2, .slice (some ⟨3158, 0, none⟩) 1 2] 130 (0, 0))], 3173, .slice (some ⟨3214, 0, none⟩) 2 2, [(3214, .cells #[.slice (some ⟨3093, 0, none⟩) 1 1, inN 0, .slice (some ⟨3130, 0, none⟩) 1 1, inN 50] 108 (0, 0))], 3224⟩
theorem m108_3173_ok : isMemo m108_3173 (m108_3173.run Try.prog goFns insOrc 100000) = true := by decide +kernel
def m108_3255 : Memo :=
 ⟨108, #[.slice (some ⟨3254, 0, none⟩) 3 1], [(3226, .cells #[.slice (some ⟨3238, 0, none⟩) 2 1, inN 20, .slice (some ⟨3251, 0, none⟩) 2 1, inN 70] 108 (0, 0)), (3012, .cells #[.slice (some ⟨3024, 0, none⟩) 2 1, inN 50, .slice (some ⟨3037, 0, none⟩) 2 1, inN 100] 108 (0, 0)), (2962, .cells #[.slice (some ⟨2974, 0, none⟩) 2 1, inN 0, .slice (some ⟨2987, 0, none⟩) 2 1, inN 50] 108 (0, 0)), (3254, .cells #[.slice (some ⟨2962, 0, none⟩) 2 2, .slice (some ⟨3012, 0, none⟩) 2 2, .slice (some ⟨3226, 0, none⟩) 2 2] 130 (0, 0))], 3255, .slice (some ⟨3308, 0, none⟩) 2 2, [(3308, .cells #[.slice (some ⟨2974, 0, none⟩) 2 1, inN 0, .slice (some ⟨2987, 0, none⟩) 2 1, inN 50] 108 (0, 0))], 3318⟩
theorem m108_3255_ok : isMemo m108_3255 (m108_3255.run Try.prog goFns insOrc 100000) = true := by decide +kernel
def m103_3353 : Memo :=
 ⟨103, #[.agg #[.slice (some ⟨2663, 0, none⟩) 4 4, .slice (some ⟨2664, 0, none⟩) 2 3, inN 2, inN 100, inN 200, inN 200, inN 300, inN 500, inN 1000, inN 20, inN 50], .agg #[inN 1, inN 283], inN 20, inN 0], [(2663, .cells #[inN 100, inN 10, inN 20, inN (-1), inN 150, inN 20, inN 30, inN (-1), inN 180, inN 20, inN 40, inN 10, inN 175, inN 10, inN 20, inN 0] 59 (0, 0)), (2664, .cells #[inN 60, inN 0, inN 50, inN 0, inN 25, inN 20] 85 (0, 0))], 3353, .tuple #[inN 263, .bool true], [], 3365⟩
theorem m103_3353_ok : isMemo m103_3353 (m103_3353.drun Try.prog goFns insOrc 100000) = true := by decide +kernel
def m103_3403 : Memo :=
 ⟨103, #[.agg #[.slice (some ⟨2663, 0, none⟩) 4 4, .slice (some ⟨2664, 0, none⟩) 2 3, inN 2, inN 100, inN 200, inN 200, inN 300, inN 500, inN 1000, inN 20, inN 50], .agg #[inN 1, inN 283], inN 20, inN 1], [(2663, .cells #[inN 100, inN 10, inN 20, inN (-1), inN 150, inN 20, inN 30, inN (-1), inN 180, inN 20, inN 40, inN 10, inN 175, inN 10, inN 20, inN 0] 59 (0, 0)), (2664, .cells #[inN 60, inN 0, inN 50, inN 0, inN 25, inN 20] 85 (0, 0))], 3403, .tuple #[inN 238, .bool true], [], 3415⟩
theorem m103_3403_ok : isMemo m103_3403 (m103_3403.drun Try.prog goFns insOrc 100000) = true := by decide +kernel
def m103_3422 : Memo :=
 ⟨103, #[.agg #[.slice (some ⟨2663, 0, none⟩) 4 4, .slice (some ⟨2664, 0, none⟩) 2 3, inN 2, inN 100, inN 200, inN 200, inN 300, inN 500, inN 1000, inN 20, inN 50], .agg #[inN 2, inN 238], inN 20, inN (-1)], [(2663, .cells #[inN 100, inN 10, inN 20, inN (-1), inN 150, inN 20, inN 30, inN (-1), inN 180, inN 20, inN 40, inN 10, inN 175, inN 10, inN 20, inN 0] 59 (0, 0))], 3422, .tuple #[inN 218, .bool true], [], 3434⟩
theorem m103_3422_ok : isMemo m103_3422 (m103_3422.drun Try.prog goFns insOrc 100000) = true := by decide +kernel
def m103_3472 : Memo :=
 ⟨103, #[.agg #[.slice (some ⟨2663, 0, none⟩) 4 4, .slice (some ⟨2664, 0, none⟩) 2 3, inN 2, inN 100, inN 200, inN 200, inN 300, inN 500, inN 1000, inN 20, inN 50], .agg #[inN 2, inN 238], inN 20, inN 0], [(2663, .cells #[inN 100, inN 10, inN 20, inN (-1), inN 150, inN 20, inN 30, inN (-1), inN 180, inN 20, inN 40, inN 10, inN 175, inN 10, inN 20, inN 0] 59 (0, 0)), (2664, .cells #[inN 60, inN 0, inN 50, inN 0, inN 25, inN 20] 85 (0, 0))], 3472, .tuple #[inN 0, .bool false], [], 3484⟩
theorem m103_3472_ok : isMemo m103_3472 (m103_3472.drun Try.prog goFns insOrc 100000) = true := by decide +kernel
def m103_3491 : Memo :=
 ⟨103, #[.agg #[.slice (some ⟨2663, 0, none⟩) 4 4, .slice (some ⟨2664, 0, none⟩) 2 3, inN 2, inN 100, inN 200, inN 200, inN 300, inN 500, inN 1000, inN 20, inN 50], .agg #[inN 3, inN (-5000)], inN 10, inN (-1)], [(2663, .cells #[inN 100, inN 10, inN 20, inN (-1), inN 150, inN 20, inN 30, inN (-1), inN 180, inN 20, inN 40, inN 10, inN 175, inN 10, inN 20, inN 0] 59 (0, 0))], 3491, .tuple #[inN 0, .bool false], [], 3503⟩
theorem m103_3491_ok : isMemo m103_3491 (m103_3491.drun Try.prog goFns insOrc 100000) = true := by decide +kernel
def m103_3530 : Memo :=
 ⟨103, #[.agg #[.slice (some ⟨2663, 0, none⟩) 4 4, .slice (some ⟨2664, 0, none⟩) 2 3, inN 2, inN 100, inN 200, inN 200, inN 300, inN 500, inN 1000, inN 20, inN 50], .agg #[inN 3, inN (-5000)], inN 10, inN 0], [(2663, .cells #[inN 100, inN 10, inN 20, inN (-1), inN 150, inN 20, inN 30, inN (-1), inN 180, inN 20, inN 40, inN 10, inN 175, inN 10, inN 20, inN 0] 59 (0, 0)), (2664, .cells #[inN 60, inN 0, inN 50, inN 0, inN 25, inN 20] 85 (0, 0))], 3530, .tuple #[inN 0, .bool false], [], 3542⟩
theorem m103_3530_ok : isMemo m103_3530 (m103_3530.drun Try.prog goFns insOrc 100000) = true := by decide +kernel
def m103_3569 : Memo :=
 ⟨103, #[.agg #[.slice (some ⟨2663, 0, none⟩) 4 4, .slice (some ⟨2664, 0, none⟩) 2 3, inN 2, inN 100, inN 200, inN 200, inN 300, inN 500, inN 1000, inN 20, inN 50], .agg #[inN 3, inN (-5000)], inN 10, inN 1], [(2663, .cells #[inN 100, inN 10, inN 20, inN (-1), inN 150, inN 20, inN 30, inN (-1), inN 180, inN 20, inN 40, inN 10, inN 175, inN 10, inN 20, inN 0] 59 (0, 0)), (2664, .cells #[inN 60, inN 0, inN 50, inN 0, inN 25, inN 20] 85 (0, 0))], 3569, .tuple #[inN 0, .bool false], [], 3581⟩
theorem m103_3569_ok : isMemo m103_3569 (m103_3569.drun Try.prog goFns insOrc 100000) = true := by decide +kernel
def m108_3604 : Memo :=
 ⟨108, #[.slice (some ⟨3603, 0, none⟩) 3 1], [(3601, .cells #[.slice (some ⟨3598, 0, none⟩) 1 1, inN 20, .slice (some ⟨3598, 0, none⟩) 1 1, inN 20] 108 (0, 0)), (3562, .cells #[.slice (some ⟨3559, 0, none⟩) 1 1, inN 50, .slice (some ⟨3559, 0, none⟩) 1 1, inN 50] 108 (0, 0)), (3523, .cells #[.slice (some ⟨3520, 0, none⟩) 1 1, inN 0, .slice (some ⟨3520, 0, none⟩) 1 1, inN 0] 108 (0, 0)), (3603, .cells #[.slice (some ⟨3523, 0, none⟩) 2 2, .slice (some ⟨3562, 0, none⟩) 2 2, .slice (some ⟨3601, 0, none⟩) 2 2] 130 (0, 0))], 3604, .slice (some ⟨3657, 0, none⟩) 2 2, [(3657, .cells #[.slice (some ⟨3520, 0, none⟩) 1 1, inN 0, .slice (some ⟨3520, 0, none⟩) 1 1, inN 0] 108 (0, 0))], 3667⟩
theorem m108_3604_ok : isMemo m108_3604 (m108_3604.run Try.prog goFns insOrc 100000) = true := by decide +kernel
def m103_3704 : Memo :=
 ⟨103, #[.agg #[.slice (some ⟨2663, 0, none⟩) 4 4, .slice (some ⟨2664, 0, none⟩) 2 3, inN 2, inN 100, inN 200, inN 200, inN 300, inN 500, inN 1000, inN 20, inN 50], .agg #[inN 2, inN 238], inN 20, inN 1], [(2663, .cells #[inN 100, inN 10, inN 20, inN (-1), inN 150, inN 20, inN 30, inN (-1), inN 180, inN 20, inN 40, inN 10, inN 175, inN 10, inN 20, inN 0] 59 (0, 0)), (2664, .cells #[inN 60, inN 0, inN 50, inN 0, inN 25, inN 20] 85 (0, 0))], 3704, .tuple #[inN 193, .bool true], [], 3716⟩
theorem m103_3704_ok : isMemo m103_3704 (m103_3704.drun Try.prog goFns insOrc 100000) = true := by decide +kernel
def m103_3723 : Memo :=
 ⟨103, #[.agg #[.slice (some ⟨2663, 0, none⟩) 4 4, .slice (some ⟨2664, 0, none⟩) 2 3, inN 2, inN 100, inN 200, inN 200, inN 300, inN 500, inN 1000, inN 20, inN 50], .agg #[inN 3, inN 193], inN 10, inN (-1)], [(2663, .cells #[inN 100, inN 10, inN 20, inN (-1), inN 150, inN 20, inN 30, inN (-1), inN 180, inN 20, inN 40, inN 10, inN 175, inN 10, inN 20, inN 0] 59 (0, 0))], 3723, .tuple #[inN 183, .bool true], [], 3735⟩
theorem m103_3723_ok : isMemo m103_3723 (m103_3723.drun Try.prog goFns insOrc 100000) = true := by decide +kernel
end Go.Proofs.Ytiigkdhaofaijaa

namespace Go.Proofs.Ytiigkdhaofaijaa
open Go Go.CE Go.RowKit
def m103_3760 : Memo :=
 ⟨103, #[.agg #[.slice (some ⟨2663, 0, none⟩) 4 4, .slice (some ⟨2664, 0, none⟩) 2 3, inN 2, inN 100, inN 200, inN 200, inN 300, inN 500, inN 1000, inN 20, inN 50], .agg #[inN 3, inN 193], inN 10, inN 0], [(2663, .cells #[inN 100, inN 10, inN 20, inN (-1), inN 150, inN 20, inN 30, inN (-1), inN 180, inN 20, inN 40, inN 10, inN 175, inN 10, inN 20, inN 0] 59 (0, 0)), (2664, .cells #[inN 60, inN 0, inN 50, inN 0, inN 25, inN 20] 85 (0, 0))], 3760, .tuple #[inN 0, .bool false], [], 3772⟩
theorem m103_3760_ok : isMemo m103_3760 (m103_3760.drun Try.prog goFns insOrc 100000) = true := by decide +kernel
def m103_3799 : Memo :=
 ⟨103, #[.agg #[.slice (some ⟨2663, 0, none⟩) 4 4, .slice (some ⟨2664, 0, none⟩) 2 3, inN 2, inN 100, inN 200, inN 200, inN 300, inN 500, inN 1000, inN 20, inN 50], .agg #[inN 3, inN 193], inN 10, inN 1], [(2663, .cells #[inN 100, inN 10, inN 20, inN (-1), inN 150, inN 20, inN 30, inN (-1), inN 180, inN 20, inN 40, inN 10, inN 175, inN 10, inN 20, inN 0] 59 (0, 0)), (2664, .cells #[inN 60, inN 0, inN 50, inN 0, inN 25, inN 20] 85 (0, 0))], 3799, .tuple #[inN 0, .bool false], [], 3811⟩
theorem m103_3799_ok : isMemo m103_3799 (m103_3799.drun Try.prog goFns insOrc 100000) = true := by decide +kernel
def m108_3834 : Memo :=
 ⟨108, #[.slice (some ⟨3833, 0, none⟩) 3 1], [(3831, .cells #[.slice (some ⟨3828, 0, none⟩) 1 1, inN 20, .slice (some ⟨3828, 0, none⟩) 1 1, inN 20] 108 (0, 0)), (3792, .cells #[.slice (some ⟨3789, 0, none⟩) 1 1, inN 50, .slice (some ⟨3789, 0, none⟩) 1 1, inN 50] 108 (0, 0)), (3741, .cells #[.slice (some ⟨3752, 0, none⟩) 1 1, inN 0] 108 (0, 0)), (3833, .cells #[.slice (some ⟨3741, 0, none⟩) 1 2, .slice (some ⟨3792, 0, none⟩) 2 2, .slice (some ⟨3831, 0, none⟩) 2 2] 130 (0, 0))], 3834, .slice (some ⟨3881, 0, none⟩) 2 2, [(3881, .cells #[.slice (some ⟨3752, 0, none⟩) 1 1, inN 0, .slice (some ⟨3828, 0, none⟩) 1 1, inN 20] 108 (0, 0))], 3891⟩
theorem m108_3834_ok : isMemo m108_3834 (m108_3834.run Try.prog goFns insOrc 100000) = true := by decide +kernel
def m108_3922 : Memo :=
 ⟨108, #[.slice (some ⟨3921, 0, none⟩) 3 1], [(3893, .cells #[.slice (some ⟨3905, 0, none⟩) 2 1, inN 20, .slice (some ⟨3918, 0, none⟩) 2 1, inN 40] 108 (0, 0)), (3697, .cells #[.slice (some ⟨3681, 0, none⟩) 2 1, inN 50, .slice (some ⟨3681, 0, none⟩) 2 1, inN 50, .slice (some ⟨3694, 0, none⟩) 2 1, inN 50] 108 (0, 0)), (3439, .cells #[.slice (some ⟨3451, 0, none⟩) 2 1, inN 0, .slice (some ⟨3464, 0, none⟩) 2 1, inN 50] 108 (0, 0)), (3921, .cells #[.slice (some ⟨3439, 0, none⟩) 2 2, .slice (some ⟨3697, 0, none⟩) 3 2, .slice (some ⟨3893, 0, none⟩) 2 2] 130 (0, 0))], 3922, .slice (some ⟨3990, 0, none⟩) 3 2, [(3990, .cells #[.slice (some ⟨3451, 0, none⟩) 2 1, inN 0, .slice (some ⟨3918, 0, none⟩) 2 1, inN 40, .slice (some ⟨3694, 0, none⟩) 2 1, inN 50] 108 (0, 0))], 4000⟩
theorem m108_3922_ok : isMemo m108_3922 (m108_3922.run Try.prog goFns insOrc 100000) = true := by decide +kernel
def m108_4044 : Memo :=
 ⟨108, #[.slice (some ⟨4043, 0, none⟩) 3 1], [(4002, .cells #[.slice (some ⟨4014, 0, none⟩) 3 1, inN 20, .slice (some ⟨4027, 0, none⟩) 3 1, inN 60, .slice (some ⟨4040, 0, none⟩) 3 1, inN 70] 108 (0, 0)), (3370, .cells #[.slice (some ⟨3382, 0, none⟩) 3 1, inN 50, .slice (some ⟨3395, 0, none⟩) 3 1, inN 100] 108 (0, 0)), (3320, .cells #[.slice (some ⟨3332, 0, none⟩) 3 1, inN 0, .slice (some ⟨3345, 0, none⟩) 3 1, inN 50] 108 (0, 0)), (4043, .cells #[.slice (some ⟨3320, 0, none⟩) 2 2, .slice (some ⟨3370, 0, none⟩) 2 2, .slice (some ⟨4002, 0, none⟩) 3 2] 130 (0, 0))], 4044, .slice (some ⟨4112, 0, none⟩) 3 2, [(4112, .cells #[.slice (some ⟨3332, 0, none⟩) 3 1, inN 0, .slice (some ⟨3345, 0, none⟩) 3 1, inN 50, .slice (some ⟨4040, 0, none⟩) 3 1, inN 70] 108 (0, 0))], 4122⟩
theorem m108_4044_ok : isMemo m108_4044 (m108_4044.run Try.prog goFns insOrc 100000) = true := by decide +kernel
def m103_4170 : Memo :=
 ⟨103, #[.agg #[.slice (some ⟨2663, 0, none⟩) 4 4, .slice (some ⟨2664, 0, none⟩) 2 3, inN 2, inN 100, inN 200, inN 200, inN 300, inN 500, inN 1000, inN 20, inN 50], .agg #[inN 0, inN 293], inN 10, inN 0], [(2663, .cells #[inN 100, inN 10, inN 20, inN (-1), inN 150, inN 20, inN 30, inN (-1), inN 180, inN 20, inN 40, inN 10, inN 175, inN 10, inN 20, inN 0] 59 (0, 0)), (2664, .cells #[inN 60, inN 0, inN 50, inN 0, inN 25, inN 20] 85 (0, 0))], 4170, .tuple #[inN 283, .bool true], [], 4182⟩
theorem m103_4170_ok : isMemo m103_4170 (m103_4170.drun Try.prog goFns insOrc 100000) = true := by decide +kernel
def m103_4233 : Memo :=
 ⟨103, #[.agg #[.slice (some ⟨2663, 0, none⟩) 4 4, .slice (some ⟨2664, 0, none⟩) 2 3, inN 2, inN 100, inN 200, inN 200, inN 300, inN 500, inN 1000, inN 20, inN 50], .agg #[inN 0, inN 293], inN 10, inN 1], [(2663, .cells #[inN 100, inN 10, inN 20, inN (-1), inN 150, inN 20, inN 30, inN (-1), inN 180, inN 20, inN 40, inN 10, inN 175, inN 10, inN 20, inN 0] 59 (0, 0)), (2664, .cells #[inN 60, inN 0, inN 50, inN 0, inN 25, inN 20] 85 (0, 0))], 4233, .tuple #[inN 258, .bool true], [], 4245⟩
theorem m103_4233_ok : isMemo m103_4233 (m103_4233.drun Try.prog goFns insOrc 100000) = true := by decide +kernel
def m103_4252 : Memo :=
 ⟨103, #[.agg #[.slice (some ⟨2663, 0, none⟩) 4 4, .slice (some ⟨2664, 0, none⟩) 2 3, inN 2, inN 100, inN 200, inN 200, inN 300, inN 500, inN 1000, inN 20, inN 50], .agg #[inN 1, inN 258], inN 20, inN (-1)], [(2663, .cells #[inN 100, inN 10, inN 20, inN (-1), inN 150, inN 20, inN 30, inN (-1), inN 180, inN 20, inN 40, inN 10, inN 175, inN 10, inN 20, inN 0] 59 (0, 0))], 4252, .tuple #[inN 238, .bool true], [], 4264⟩
theorem m103_4252_ok : isMemo m103_4252 (m103_4252.drun Try.prog goFns insOrc 100000) = true := by decide +kernel
def m103_4315 : Memo :=
 ⟨103, #[.agg #[.slice (some ⟨2663, 0, none⟩) 4 4, .slice (some ⟨2664, 0, none⟩) 2 3, inN 2, inN 100, inN 200, inN 200, inN 300, inN 500, inN 1000, inN 20, inN 50], .agg #[inN 1, inN 258], inN 20, inN 0], [(2663, .cells #[inN 100, inN 10, inN 20, inN (-1), inN 150, inN 20, inN 30, inN (-1), inN 180, inN 20, inN 40, inN 10, inN 175, inN 10, inN 20, inN 0] 59 (0, 0)), (2664, .cells #[inN 60, inN 0, inN 50, inN 0, inN 25, inN 20] 85 (0, 0))], 4315, .tuple #[inN 238, .bool true], [], 4327⟩
theorem m103_4315_ok : isMemo m103_4315 (m103_4315.drun Try.prog goFns insOrc 100000) = true := by decide +kernel
def m103_4378 : Memo :=
 ⟨103, #[.agg #[.slice (some ⟨2663, 0, none⟩) 4 4, .slice (some ⟨2664, 0, none⟩) 2 3, inN 2, inN 100, inN 200, inN 200, inN 300, inN 500, inN 1000, inN 20, inN 50], .agg #[inN 1, inN 258], inN 20, inN 1], [(2663, .cells #[inN 100, inN 10, inN 20, inN (-1), inN 150, inN 20, inN 30, inN (-1), inN 180, inN 20, inN 40, inN 10, inN 175, inN 10, inN 20, inN 0] 59 (0, 0)), (2664, .cells #[inN 60, inN 0, inN 50, inN 0, inN 25, inN 20] 85 (0, 0))], 4378, .tuple #[inN 213, .bool true], [], 4390⟩
theorem m103_4378_ok : isMemo m103_4378 (m103_4378.drun Try.prog goFns insOrc 100000) = true := by decide +kernel
def m103_4397 : Memo :=
 ⟨103, #[.agg #[.slice (some ⟨2663, 0, none⟩) 4 4, .slice (some ⟨2664, 0, none⟩) 2 3, inN 2, inN 100, inN 200, inN 200, inN 300, inN 500, inN 1000, inN 20, inN 50], .agg #[inN 2, inN 213], inN 20, inN (-1)], [(2663, .cells #[inN 100, inN 10, inN 20, inN (-1), inN 150, inN 20, inN 30, inN (-1), inN 180, inN 20, inN 40, inN 10, inN 175, inN 10, inN 20, inN 0] 59 (0, 0))], 4397, .tuple #[inN 193, .bool true], [], 4409⟩
theorem m103_4397_ok : isMemo m103_4397 (m103_4397.drun Try.prog goFns insOrc 100000) = true := by decide +kernel
def m103_4447 : Memo :=
 ⟨103, #[.agg #[.slice (some ⟨2663, 0, none⟩) 4 4, .slice (some ⟨2664, 0, none⟩) 2 3, inN 2, inN 100, inN 200, inN 200, inN 300, inN 500, inN 1000, inN 20, inN 50], .agg #[inN 2, inN 213], inN 20, inN 0], [(2663, .cells #[inN 100, inN 10, inN 20, inN (-1), inN 150, inN 20, inN 30, inN (-1), inN 180, inN 20, inN 40, inN 10, inN 175, inN 10, inN 20, inN 0] 59 (0, 0)), (2664, .cells #[inN 60, inN 0, inN 50, inN 0, inN 25, inN 20] 85 (0, 0))], 4447, .tuple #[inN 0, .bool false], [], 4459⟩
theorem m103_4447_ok : isMemo m103_4447 (m103_4447.drun Try.prog goFns insOrc 100000) = true := by decide +kernel
def m103_4499 : Memo :=
 ⟨103, #[.agg #[.slice (some ⟨2663, 0, none⟩) 4 4, .slice (some ⟨2664, 0, none⟩) 2 3, inN 2, inN 100, inN 200, inN 200, inN 300, inN 500, inN 1000, inN 20, inN 50], .agg #[inN 2, inN 213], inN 20, inN 1], [(2663, .cells #[inN 100, inN 10, inN 20, inN (-1), inN 150, inN 20, inN 30, inN (-1), inN 180, inN 20, inN 40, inN 10, inN 175, inN 10, inN 20, inN 0] 59 (0, 0)), (2664, .cells #[inN 60, inN 0, inN 50, inN 0, inN 25, inN 20] 85 (0, 0))], 4499, .tuple #[inN 0, .bool false], [], 4511⟩
theorem m103_4499_ok : isMemo m103_4499 (m103_4499.drun Try.prog goFns insOrc 100000) = true := by decide +kernel
def m108_4547 : Memo :=
 ⟨108, #[.slice (some ⟨4546, 0, none⟩) 3 1], [(4544, .cells #[.slice (some ⟨4528, 0, none⟩) 2 1, inN 20, .slice (some ⟨4528, 0, none⟩) 2 1, inN 20, .slice (some ⟨4541, 0, none⟩) 2 1, inN 20] 108 (0, 0)), (4492, .cells #[.slice (some ⟨4476, 0, none⟩) 2 1, inN 50, .slice (some ⟨4476, 0, none⟩) 2 1, inN 50, .slice (some ⟨4489, 0, none⟩) 2 1, inN 50] 108 (0, 0)), (4414, .cells #[.slice (some ⟨4426, 0, none⟩) 2 1, inN 0, .slice (some ⟨4439, 0, none⟩) 2 1, inN 20] 108 (0, 0)), (4546, .cells #[.slice (some ⟨4414, 0, none⟩) 2 2, .slice (some ⟨4492, 0, none⟩) 3 2, .slice (some ⟨4544, 0, none⟩) 3 2] 130 (0, 0))], 4547, .slice (some ⟨4621, 0, none⟩) 3 2, [(4621, .cells #[.slice (some ⟨4426, 0, none⟩) 2 1, inN 0, .slice (some ⟨4439, 0, none⟩) 2 1, inN 20, .slice (some ⟨4541, 0, none⟩) 2 1, inN 20] 108 (0, 0))], 4631⟩
theorem m108_4547_ok : isMemo m108_4547 (m108_4547.run Try.prog goFns insOrc 100000) = true := by decide +kernel
def m108_4675 : Memo :=
 ⟨108, #[.slice (some ⟨4674, 0, none⟩) 3 1], [(4633, .cells #[.slice (some ⟨4645, 0, none⟩) 3 1, inN 20, .slice (some ⟨4658, 0, none⟩) 3 1, inN 40, .slice (some ⟨4671, 0, none⟩) 3 1, inN 40] 108 (0, 0)), (4332, .cells #[.slice (some ⟨4344, 0, none⟩) 3 1, inN 50, .slice (some ⟨4357, 0, none⟩) 3 1, inN 90, .slice (some ⟨4370, 0, none⟩) 3 1, inN 100] 108 (0, 0)), (4269, .cells #[.slice (some ⟨4281, 0, none⟩) 3 1, inN 0, .slice (some ⟨4294, 0, none⟩) 3 1, inN 40, .slice (some ⟨4307, 0, none⟩) 3 1, inN 50] 108 (0, 0)), (4674, .cells #[.slice (some ⟨4269, 0, none⟩) 3 2, .slice (some ⟨4332, 0, none⟩) 3 2, .slice (some ⟨4633, 0, none⟩) 3 2] 130 (0, 0))], 4675, .slice (some ⟨4755, 0, none⟩) 3 2, [(4755, .cells #[.slice (some ⟨4281, 0, none⟩) 3 1, inN 0, .slice (some ⟨4294, 0, none⟩) 3 1, inN 40, .slice (some ⟨4671, 0, none⟩) 3 1, inN 40] 108 (0, 0))], 4765⟩
theorem m108_4675_ok : isMemo m108_4675 (m108_4675.run Try.prog goFns insOrc 100000) = true := by decide +kernel
def m108_4809 : Memo :=
 ⟨108, #[.slice (some ⟨4808, 0, none⟩) 3 1], [(4767, .cells #[.slice (some ⟨4779, 0, none⟩) 4 1, inN 20, .slice (some ⟨4792, 0, none⟩) 4 1, inN 60, .slice (some ⟨4805, 0, none⟩) 4 1, inN 60] 108 (0, 0)), (4187, .cells #[.slice (some ⟨4199, 0, none⟩) 4 1, inN 50, .slice (some ⟨4212, 0, none⟩) 4 1, inN 100, .slice (some ⟨4225, 0, none⟩) 4 1, inN 120] 108 (0, 0)), (4124, .cells #[.slice (some ⟨4136, 0, none⟩) 4 1, inN 0, .slice (some ⟨4149, 0, none⟩) 4 1, inN 50, .slice (some ⟨4162, 0, none⟩) 4 1, inN 70] 108 (0, 0)), (4808, .cells #[.slice (some ⟨4124, 0, none⟩) 3 2, .slice (some ⟨4187, 0, none⟩) 3 2, .slice (some ⟨4767, 0, none⟩) 3 2] 130 (0, 0))], 4809, .slice (some ⟨4889, 0, none⟩) 3 2, [(4889, .cells #[.slice (some ⟨4136, 0, none⟩) 4 1, inN 0, .slice (some ⟨4149, 0, none⟩) 4 1, inN 50, .slice (some ⟨4805, 0, none⟩) 4 1, inN 60] 108 (0, 0))], 4899⟩
theorem m108_4809_ok : isMemo m108_4809 (m108_4809.run Try.prog goFns insOrc 100000) = true := by decide +kernel
def m103_4984 : Memo :=
 ⟨103, #[.agg #[.slice (some ⟨4902, 0, none⟩) 4 4, .slice (some ⟨4903, 0, none⟩) 2 3, inN 2, inN 100, inN 200, inN 200, inN 300, inN 500, inN 1000, inN 20, inN 50], .agg #[inN 0, inN 293], inN 10, inN 1], [(4902, .cells #[inN 100, inN 10, inN 20, inN (-1), inN 150, inN 20, inN 30, inN (-1), inN 180, inN 20, inN 40, inN 10, inN 175, inN 10, inN 20, inN 0] 59 (0, 0)), (4903, .cells #[inN 60, inN 0, inN 50, inN 0, inN 25, inN 20] 85 (0, 0))], 4984, .tuple #[inN 258, .bool true], [], 4996⟩
theorem m103_4984_ok : isMemo m103_4984 (m103_4984.drun Try.prog goFns insOrc 100000) = true := by decide +kernel
def m103_4996 : Memo :=
 ⟨103, #[.agg #[.slice (some ⟨4902, 0, none⟩) 4 4, .slice (some ⟨4903, 0, none⟩) 2 3, inN 2, inN 100, inN 200, inN 200, inN 300, inN 500, inN 1000, inN 20, inN 50], .agg #[inN 1, inN 258], inN 20, inN 1], [(4902, .cells #[inN 100, inN 10, inN 20, inN (-1), inN 150, inN 20, inN 30, inN (-1), inN 180, inN 20, inN 40, inN 10, inN 175, inN 10, inN 20, inN 0] 59 (0, 0)), (4903, .cells #[inN 60, inN 0, inN 50, inN 0, inN 25, inN 20] 85 (0, 0))], 4996, .tuple #[inN 213, .bool true], [], 5008⟩
theorem m103_4996_ok : isMemo m103_4996 (m103_4996.drun Try.prog goFns insOrc 100000) = true := by decide +kernel
def m103_5008 : Memo :=
 ⟨103, #[.agg #[.slice (some ⟨4902, 0, none⟩) 4 4, .slice (some ⟨4903, 0, none⟩) 2 3, inN 2, inN 100, inN 200, inN 200, inN 300, inN 500, inN 1000, inN 20, inN 50], .agg #[inN 2, inN 213], inN 20, inN 1], [(4902, .cells #[inN 100, inN 10, inN 20, inN (-1), inN 150, inN 20, inN 30, inN (-1), inN 180, inN 20, inN 40, inN 10, inN 175, inN 10, inN 20, inN 0] 59 (0, 0)), (4903, .cells #[inN 60, inN 0, inN 50, inN 0, inN 25, inN 20] 85 (0, 0))], 5008, .tuple #[inN 0, .bool false], [], 5020⟩
theorem m103_5008_ok : isMemo m103_5008 (m103_5008.drun Try.prog goFns insOrc 100000) = true := by decide +kernel
end Go.Proofs.Ytiigkdhaofaijaa

namespace Go.Proofs.Ytiigkdhaofaijaa
open Go Go.CE Go.RowKit
noncomputable def orc_m39_2666 : Orc := orElse insOrc (memoOrc [m103_2743, m103_2762, m103_2781, m103_2800, m103_2837, m103_2876, m108_2909, m103_2995, m103_3045, m103_3064, m103_3101, m103_3140, m108_3173, m108_3255, m103_3353, m103_3403, m103_3422, m103_3472, m103_3491, m103_3530, m103_3569, m108_3604, m103_3704, m103_3723, m103_3760, m103_3799, m108_3834, m108_3922, m108_4044, m103_4170, m103_4233, m103_4252, m103_4315, m103_4378, m103_4397, m103_4447, m103_4499, m108_4547, m108_4675, m108_4809])
theorem orc_m39_2666_ok (B : Lo) : OrcS Try.prog B orc_m39_2666 := orElse_ok (insOrc_ok _) (orcS_consD goFns_ok mixed_ok (insOrc_ok _) m103_2743_ok (orcS_consD goFns_ok mixed_ok (insOrc_ok _) m103_2762_ok (orcS_consD goFns_ok mixed_ok (insOrc_ok _) m103_2781_ok (orcS_consD goFns_ok mixed_ok (insOrc_ok _) m103_2800_ok (orcS_consD goFns_ok mixed_ok (insOrc_ok _) m103_2837_ok (orcS_consD goFns_ok mixed_ok (insOrc_ok _) m103_2876_ok (orcS_cons goFns_ok mixed_ok (insOrc_ok _) m108_2909_ok (orcS_consD goFns_ok mixed_ok (insOrc_ok _) m103_2995_ok (orcS_consD goFns_ok mixed_ok (insOrc_ok _) m103_3045_ok (orcS_consD goFns_ok mixed_ok (insOrc_ok _) m103_3064_ok (orcS_consD goFns_ok mixed_ok (insOrc_ok _) m103_3101_ok (orcS_consD goFns_ok mixed_ok (insOrc_ok _) m103_3140_ok (orcS_cons goFns_ok mixed_ok (insOrc_ok _) m108_3173_ok (orcS_cons goFns_ok mixed_ok (insOrc_ok _) m108_3255_ok (orcS_consD goFns_ok mixed_ok (insOrc_ok _) m103_3353_ok (orcS_consD goFns_ok mixed_ok (insOrc_ok _) m103_3403_ok (orcS_consD goFns_ok mixed_ok (insOrc_ok _) m103_3422_ok (orcS_consD goFns_ok mixed_ok (insOrc_ok _) m103_3472_ok (orcS_consD goFns_ok mixed_ok (insOrc_ok _) m103_3491_ok (orcS_consD goFns_ok mixed_ok (insOrc_ok _) m103_3530_ok (orcS_consD goFns_ok mixed_ok (insOrc_ok _) m103_3569_ok (orcS_cons goFns_ok mixed_ok (insOrc_ok _) m108_3604_ok (orcS_consD goFns_ok mixed_ok (insOrc_ok _) m103_3704_ok (orcS_consD goFns_ok mixed_ok (insOrc_ok _) m103_3723_ok (orcS_consD goFns_ok mixed_ok (insOrc_ok _) m103_3760_ok (orcS_consD goFns_ok mixed_ok (insOrc_ok _) m103_3799_ok (orcS_cons goFns_ok mixed_ok (insOrc_ok _) m108_3834_ok (orcS_cons goFns_ok mixed_ok (insOrc_ok _) m108_3922_ok (orcS_cons goFns_ok mixed_ok (insOrc_ok _) m108_4044_ok (orcS_consD goFns_ok mixed_ok (insOrc_ok _) m103_4170_ok (orcS_consD goFns_ok mixed_ok (insOrc_ok _) m103_4233_ok (orcS_consD goFns_ok mixed_ok (insOrc_ok _) m103_4252_ok (orcS_consD goFns_ok mixed_ok (insOrc_ok _) m103_4315_ok (orcS_consD goFns_ok mixed_ok (insOrc_ok _) m103_4378_ok (orcS_consD goFns_ok mixed_ok (insOrc_ok _) m103_4397_ok (orcS_consD goFns_ok mixed_ok (insOrc_ok _) m103_4447_ok (orcS_consD goFns_ok mixed_ok (insOrc_ok _) m103_4499_ok (orcS_cons goFns_ok mixed_ok (insOrc_ok _) m108_4547_ok (orcS_cons goFns_ok mixed_ok (insOrc_ok _) m108_4675_ok (orcS_cons goFns_ok mixed_ok (insOrc_ok _) m108_4809_ok (orcS_nil _ _)))))))))))))))))))))))))))))))))))))))))
def m39_2666 : Memo :=
 ⟨39, #[.agg #[.slice (some ⟨2663, 0, none⟩) 4 4, .slice (some ⟨2664, 0, none⟩) 2 3, inN 2, inN 100, inN 200], .agg #[inN 200, inN 300, inN 500, inN 1000, inN 20, inN 50], inN 59], [(2664, .cells #[inN 60, inN 0, inN 50, inN 0, inN 25, inN 20] 85 (0, 0)), (2663, .cells #[inN 100, inN 10, inN 20, inN (-1), inN 150, inN 20, inN 30, inN (-1), inN 180, inN 20, inN 40, inN 10, inN 175, inN 10, inN 20, inN 0] 59 (0, 0))], 2666, .tuple #[.slice (some ⟨4149, 0, none⟩) 4 1, inN 1, inN 50, inN 0], [(4149, .cells #[inN (-1), inN (-1), inN (-1), inN 0] 3 (0, 0))], 4901⟩
theorem m39_2666_ok : isMemo m39_2666 (m39_2666.run Try.prog goFns orc_m39_2666 100000) = true := by decide +kernel
end Go.Proofs.Ytiigkdhaofaijaa

namespace Go.Proofs.Ytiigkdhaofaijaa
open Go Go.CE Go.RowKit
noncomputable def orc_m33_4906 : Orc := orElse insOrc (memoOrc [m103_4984, m103_4996, m103_5008])
theorem orc_m33_4906_ok (B : Lo) : OrcS Try.prog B orc_m33_4906 := orElse_ok (insOrc_ok _) (orcS_consD goFns_ok mixed_ok (insOrc_ok _) m103_4984_ok (orcS_consD goFns_ok mixed_ok (insOrc_ok _) m103_4996_ok (orcS_consD goFns_ok mixed_ok (insOrc_ok _) m103_5008_ok (orcS_nil _ _))))
def m33_4906 : Memo :=
 ⟨33, #[.agg #[.slice (some ⟨4902, 0, none⟩) 4 4, .slice (some ⟨4903, 0, none⟩) 2 3, inN 2, inN 100, inN 200], .agg #[inN 200, inN 300, inN 500, inN 1000, inN 20, inN 50], .slice (some ⟨4905, 0, none⟩) 4 1, inN 0], [(4902, .cells #[inN 100, inN 10, inN 20, inN (-1), inN 150, inN 20, inN 30, inN (-1), inN 180, inN 20, inN 40, inN 10, inN 175, inN 10, inN 20, inN 0] 59 (0, 0)), (4903, .cells #[inN 60, inN 0, inN 50, inN 0, inN 25, inN 20] 85 (0, 0)), (4905, .cells #[inN 1, inN 1, inN 1, inN (-1)] 3 (0, 0))], 4906, .tuple #[inN 2, inN 0], [], 5020⟩
theorem m33_4906_ok : isMemo m33_4906 (m33_4906.run Try.prog goFns orc_m33_4906 100000) = true := by decide +kernel
end Go.Proofs.Ytiigkdhaofaijaa

namespace Go.Proofs.Ytiigkdhaofaijaa
open Go Go.CE Go.RowKit
noncomputable def orcTop : Orc := orElse insOrc (memoOrc [m17_4, m29_119, m24_326, m38_424, m39_2666, m33_4906])
theorem orcTop_ok (B : Lo) : OrcS Try.prog B orcTop := orElse_ok (insOrc_ok _) (orcS_cons goFns_ok mixed_ok (insOrc_ok _) m17_4_ok (orcS_cons goFns_ok mixed_ok (orc_m29_119_ok _) m29_119_ok (orcS_cons goFns_ok mixed_ok (orc_m24_326_ok _) m24_326_ok (orcS_cons goFns_ok mixed_ok (orc_m38_424_ok _) m38_424_ok (orcS_cons goFns_ok mixed_ok (orc_m39_2666_ok _) m39_2666_ok (orcS_cons goFns_ok mixed_ok (orc_m33_4906_ok _) m33_4906_ok (orcS_nil _ _)))))))
theorem known_ans : isAns (callC Try.prog goFns orcTop 100000 15 #[] (heapOf 0 []) ([] : List (Array Value × TypeId)).length) (.bool true) [] = true := by decide +kernel
theorem known_true (w : World) : Calls Try.prog 15 #[] w fun e w' => e = .returned (.bool true) ∧ Below w.heap.size w w' := by
 have hc := calls_ans goFns_ok mixed_ok (at' := []) (args' := #[]) known_ans (w := w) (I := fun _ => True) (hI := fun _ _ _ _ => trivial) (orcTop_ok _) trivial rfl (fun i x a h => by simp at h) ⟨rfl, fun i v v' h => by simp at h⟩
 intro cs
 obtain ⟨e, w', fr, ⟨v', n', H', μ', he, hp, hv, hb, hun, hbel⟩, h1, h2, h3⟩ := hc cs
 exact ⟨e, w', fr, ⟨by rw [he, af_eq rfl hv], hbel⟩, h1, h2, h3⟩
theorem known : PureC Try.prog J0 15 #[] (.bool true) := fun fm w args' _ _ ha => by
 have e : args' = #[] := by exact Array.eq_empty_of_size_eq_zero ha.1.symm
 subst e
 exact (known_true w).mono fun _ _ h => ⟨_, h.1, h.2, .simple rfl⟩
end Go.Proofs.Ytiigkdhaofaijaa

namespace Go.Proofs.Ytiigkdhaofaijaa
open Go Go.CE Go.RowKit
set_option maxRecDepth 100000
noncomputable def lshort_p0 (B : Lo) (s : WShore) : List Prop := [(!ltq 12 (↑s.cells.length : Int)) = true] ++ ([] : List Prop)
noncomputable def lshort_q0 (s : WShore) : ScriptT := [(5, hvT)]
theorem lshort_s0 (B : Lo) (s : WShore) : endT (srunT Try.prog (okFn Try.prog) J0 B 6 1 (entryC Try.prog 14 13 (([.agg (encShore s).toArray]).map (pushT 0 4))) H00 1
 (lshort_q0 s ++ [(10, hvT)]) 0 [] []) [] = some (Value.bool true,
 [(!ltq 8 (↑s.works.length : Int)) = true] ++ lshort_p0 B s) := by kernel_rfl
theorem lshort_s1 (B : Lo) (s : WShore) : endT (srunT Try.prog (okFn Try.prog) J0 B 6 1 (entryC Try.prog 14 13 (([.agg (encShore s).toArray]).map (pushT 0 4))) H00 1
 (lshort_q0 s ++ [(10, hvF)]) 0 [] []) [] = some (Value.bool false,
 [(!ltq 8 (↑s.works.length : Int)) = false] ++ lshort_p0 B s) := by kernel_rfl
theorem lshort_s2 (B : Lo) (s : WShore) : endT (srunT Try.prog (okFn Try.prog) J0 B 6 1 (entryC Try.prog 14 13 (([.agg (encShore s).toArray]).map (pushT 0 4))) H00 1
 [(5, hvF)] 0 [] []) [] = some (Value.bool false,
 [(!ltq 12 (↑s.cells.length : Int)) = false]) := by kernel_rfl
set_option maxHeartbeats 4000000 in
theorem lshort_e (s : WShore)  (hfacts : s.cells.length ≤ 9223372036854775807 ∧ s.works.length ≤ 9223372036854775807) {B : Lo} (hJ : ∀ w, B.has w → J0 w) : EndsT Try.prog B (entryC Try.prog 14 13 (([.agg (encShore s).toArray]).map (pushT 0 4))) (.bool (decide (s.cells.length ≤ 12) && decide (s.works.length ≤ 8))) := by
 by_cases q0 : ((↑s.cells.length : Int) : Int) ≤ (12)
 ·
  have hp0 : AllP (lshort_p0 B s) := by
   exact ⟨(nltq_t q0), trivial⟩
  by_cases q1 : ((↑s.works.length : Int) : Int) ≤ (8)
  ·
   exact (GoE.endsT okF hJ mixed_ok GoE.start (lshort_s0 B s)
    ⟨(nltq_t q1), hp0⟩).cast (by (simp_all []; omega))
  ·
   exact (GoE.endsT okF hJ mixed_ok GoE.start (lshort_s1 B s)
    ⟨(nltq_f (Int.not_le.1 q1)), hp0⟩).cast (by (simp_all []; omega))
 ·
  exact (GoE.endsT okF hJ mixed_ok GoE.start (lshort_s2 B s)
   ⟨(nltq_f (Int.not_le.1 q0)), trivial⟩).cast (by (simp_all []; omega))
theorem lshort (s : WShore)  : PureC Try.prog J0 14 #[.agg (encShore s).toArray] (.bool (decide (s.cells.length ≤ 12) && decide (s.works.length ≤ 8))) :=
 pureC_ofF (ts := [.agg (encShore s).toArray]) (s.cells.length ≤ 9223372036854775807 ∧ s.works.length ≤ 9223372036854775807) (fun _ _ ht => ⟨ht.ln2 (i := 0) (j := 0) rfl rfl, ht.ln2 (i := 0) (j := 1) rfl rfl⟩) J0_st (c0 := entryC Try.prog 14 13 (([.agg (encShore s).toArray]).map (pushT 0 4))) (by kernel_rfl) (by kernel_rfl) fun hfacts B hJ => lshort_e s  hfacts hJ
noncomputable def lbuilt_z0 (s : WShore) : Array Value := #[slT s.cells.length (rowL encWCell s.cells), slT s.works.length (rowL encWWork s.works), .int .i64 s.reef, .int .i64 s.llo, .int .i64 s.lhi]
noncomputable def lbuilt_p0 (B : Lo) (s : WShore) (c : WStorm) (plan : List Int) : List Prop := [AllP [] ∧ PureC Try.prog J0 19 #[Value.agg (lbuilt_z0 s)] (Value.bool true)] ++ ([] : List Prop)
noncomputable def lbuilt_q0 (s : WShore) (c : WStorm) (plan : List Int) : ScriptT := [(4, HintT.pure (Value.bool true) [])]
noncomputable def lbuilt_p1 (B : Lo) (s : WShore) (c : WStorm) (plan : List Int) : List Prop := [AllP [] ∧ PureC Try.prog J0 20 #[Value.agg #[.int .i64 c.wlo, .int .i64 c.whi, .int .i64 c.flo, .int .i64 c.fhi, .int .i64 c.tlo, .int .i64 c.thi]] (Value.bool true)] ++ lbuilt_p0 B s c plan
noncomputable def lbuilt_q1 (s : WShore) (c : WStorm) (plan : List Int) : ScriptT := lbuilt_q0 s c plan ++ [(7, HintT.pure (Value.bool true) [])]
theorem lbuilt_s0 (B : Lo) (s : WShore) (c : WStorm) (plan : List Int) : endT (srunT Try.prog (okFn Try.prog) J0 B 6 1 (entryC Try.prog 25 18 (([.agg (encShore s).toArray, .agg (encStorm c).toArray, slI plan]).map (pushT 0 4))) H00 1
 (lbuilt_q1 s c plan ++ [(12, HintT.pure (Value.bool true) [])]) 0 [] []) [] = some (Value.bool true,
 [AllP [] ∧ PureC Try.prog J0 46 #[Value.agg (lbuilt_z0 s), slT plan.length (rowL encI plan)] (Value.bool true)] ++ lbuilt_p1 B s c plan) := by kernel_rfl
theorem lbuilt_s1 (B : Lo) (s : WShore) (c : WStorm) (plan : List Int) : endT (srunT Try.prog (okFn Try.prog) J0 B 6 1 (entryC Try.prog 25 18 (([.agg (encShore s).toArray, .agg (encStorm c).toArray, slI plan]).map (pushT 0 4))) H00 1
 (lbuilt_q1 s c plan ++ [(12, HintT.pure (Value.bool false) [])]) 0 [] []) [] = some (Value.bool false,
 [AllP [] ∧ PureC Try.prog J0 46 #[Value.agg (lbuilt_z0 s), slT plan.length (rowL encI plan)] (Value.bool false)] ++ lbuilt_p1 B s c plan) := by kernel_rfl
theorem lbuilt_s2 (B : Lo) (s : WShore) (c : WStorm) (plan : List Int) : endT (srunT Try.prog (okFn Try.prog) J0 B 6 1 (entryC Try.prog 25 18 (([.agg (encShore s).toArray, .agg (encStorm c).toArray, slI plan]).map (pushT 0 4))) H00 1
 (lbuilt_q0 s c plan ++ [(7, HintT.pure (Value.bool false) [])]) 0 [] []) [] = some (Value.bool false,
 [AllP [] ∧ PureC Try.prog J0 20 #[Value.agg #[.int .i64 c.wlo, .int .i64 c.whi, .int .i64 c.flo, .int .i64 c.fhi, .int .i64 c.tlo, .int .i64 c.thi]] (Value.bool false)] ++ lbuilt_p0 B s c plan) := by kernel_rfl
theorem lbuilt_s3 (B : Lo) (s : WShore) (c : WStorm) (plan : List Int) : endT (srunT Try.prog (okFn Try.prog) J0 B 6 1 (entryC Try.prog 25 18 (([.agg (encShore s).toArray, .agg (encStorm c).toArray, slI plan]).map (pushT 0 4))) H00 1
 [(4, HintT.pure (Value.bool false) [])] 0 [] []) [] = some (Value.bool false,
 [AllP [] ∧ PureC Try.prog J0 19 #[Value.agg (lbuilt_z0 s)] (Value.bool false)]) := by kernel_rfl
set_option maxHeartbeats 4000000 in
theorem lbuilt_e (s : WShore) (c : WStorm) (plan : List Int)  {B : Lo} (hJ : ∀ w, B.has w → J0 w) : EndsT Try.prog B (entryC Try.prog 25 18 (([.agg (encShore s).toArray, .agg (encStorm c).toArray, slI plan]).map (pushT 0 4))) (.bool (shoreB s && (stormB c && planB s plan))) := by
 cases q0 : shoreB s with
 | true =>
   have hp0 : AllP (lbuilt_p0 B s c plan) := by
    exact ⟨⟨trivial, (by have t_ := rShore (s); rw [q0] at t_; exact t_)⟩, trivial⟩
   cases q1 : stormB c with
   | true =>
     have hp1 : AllP (lbuilt_p1 B s c plan) := by
      exact ⟨⟨trivial, (by have t_ := rStorm (c); rw [q1] at t_; exact t_)⟩, hp0⟩
     cases q2 : planB s plan with
     | true =>
       exact (GoE.endsT okF hJ mixed_ok GoE.start (lbuilt_s0 B s c plan)
        ⟨⟨trivial, (by have t_ := rPlan (s) (plan); rw [q2] at t_; exact t_)⟩, hp1⟩).cast (by rfl)
     | false =>
       exact (GoE.endsT okF hJ mixed_ok GoE.start (lbuilt_s1 B s c plan)
        ⟨⟨trivial, (by have t_ := rPlan (s) (plan); rw [q2] at t_; exact t_)⟩, hp1⟩).cast (by rfl)
   | false =>
     exact (GoE.endsT okF hJ mixed_ok GoE.start (lbuilt_s2 B s c plan)
      ⟨⟨trivial, (by have t_ := rStorm (c); rw [q1] at t_; exact t_)⟩, hp0⟩).cast (by rfl)
 | false =>
   exact (GoE.endsT okF hJ mixed_ok GoE.start (lbuilt_s3 B s c plan)
    ⟨⟨trivial, (by have t_ := rShore (s); rw [q0] at t_; exact t_)⟩, trivial⟩).cast (by rfl)
theorem lbuilt (s : WShore) (c : WStorm) (plan : List Int)  : PureC Try.prog J0 25 #[.agg (encShore s).toArray, .agg (encStorm c).toArray, slI plan] (.bool (shoreB s && (stormB c && planB s plan))) :=
 pureC_of (ts := [.agg (encShore s).toArray, .agg (encStorm c).toArray, slI plan]) J0_st (c0 := entryC Try.prog 25 18 (([.agg (encShore s).toArray, .agg (encStorm c).toArray, slI plan]).map (pushT 0 4))) (by kernel_rfl) (by kernel_rfl) fun B hJ => lbuilt_e s c plan  hJ
end Go.Proofs.Ytiigkdhaofaijaa

namespace Go.Proofs.Ytiigkdhaofaijaa
open Go Go.CE Go.RowKit
def shSpan : Sh := shS [.int, .int]
def shWCell : Sh := shS [.int, shSpan, .int]
def shWWork : Sh := shS [.int, .int, .int]
def shShore : Sh := shS [.slice shWCell, .slice shWWork, .int, shSpan]
def shStorm : Sh := shS [shSpan, shSpan, shSpan]
theorem dec_span {cs : List Value} (h : shSpan.ok cs) : ∃ s : Span, cs = encSp s := by
 obtain ⟨_, _, rfl, ⟨a, _, rfl⟩, _, _, rfl, ⟨b, _, rfl⟩, rfl⟩ := h
 exact ⟨⟨a, b⟩, rfl⟩
theorem dec_cell {cs : List Value} (h : shWCell.ok cs) : ∃ s : WCell, cs = encWCell s := by
 obtain ⟨_, _, rfl, ⟨a, _, rfl⟩, _, _, rfl, h2, _, _, rfl, ⟨b, _, rfl⟩, rfl⟩ := h
 obtain ⟨d, rfl⟩ := dec_span h2
 exact ⟨⟨a, d.lo, d.hi, b⟩, rfl⟩
theorem dec_work {cs : List Value} (h : shWWork.ok cs) : ∃ s : WWork, cs = encWWork s := by
 obtain ⟨_, _, rfl, ⟨a, _, rfl⟩, _, _, rfl, ⟨b, _, rfl⟩, _, _, rfl, ⟨c, _, rfl⟩, rfl⟩ := h
 exact ⟨⟨a, b, c⟩, rfl⟩
theorem arg_shore {v : Value} (h : shShore.arg v) : ∃ s : WShore, v = .agg (encShore s).toArray := by
 obtain ⟨cs, rfl, h⟩ := h
 obtain ⟨_, _, rfl, h1, _, _, rfl, h2, _, _, rfl, ⟨r, _, rfl⟩, _, _, rfl, h4, rfl⟩ := h
 obtain ⟨xs, rfl⟩ := sh_slice (fun _ => dec_cell) h1
 obtain ⟨ws, rfl⟩ := sh_slice (fun _ => dec_work) h2
 obtain ⟨l, rfl⟩ := dec_span h4
 exact ⟨⟨xs, ws, r, l.lo, l.hi⟩, rfl⟩
theorem arg_storm {v : Value} (h : shStorm.arg v) : ∃ c : WStorm, v = .agg (encStorm c).toArray := by
 obtain ⟨cs, rfl, h⟩ := h
 obtain ⟨_, _, rfl, h1, _, _, rfl, h2, _, _, rfl, h3, rfl⟩ := h
 obtain ⟨a, rfl⟩ := dec_span h1
 obtain ⟨b, rfl⟩ := dec_span h2
 obtain ⟨d, rfl⟩ := dec_span h3
 exact ⟨⟨a.lo, a.hi, b.lo, b.hi, d.lo, d.hi⟩, rfl⟩
theorem arg_work {v : Value} (h : shWWork.arg v) : ∃ w : WWork, v = .agg (encWWork w).toArray := by
 obtain ⟨cs, rfl, h⟩ := h
 obtain ⟨w, rfl⟩ := dec_work h
 exact ⟨w, rfl⟩
theorem arg_int {v : Value} (h : Sh.arg .int v) : ∃ z : Int, v = .int .i64 z := by
 obtain ⟨z, _, h⟩ := h
 exact ⟨z, by simpa using h⟩
theorem arg_ints {v : Value} (h : Sh.arg (.slice .int) v) : ∃ xs : List Int, v = slI xs := by
 obtain ⟨xs, hx⟩ := sh_slice (fun _ => sh_int) (show Sh.ok (.slice .int) [v] from h)
 exact ⟨xs, by simpa using hx⟩
end Go.Proofs.Ytiigkdhaofaijaa

namespace Go.Proofs.Ytiigkdhaofaijaa
open Go Go.CE Go.RowKit
theorem playI_bd {s : WShore} {plan : List Int} {t : WTruth} : ∀ (l : List Int) (lv : Int) (r : Bool), (∀ i ∈ l, 0 ≤ (wk s plan i).rise ∧ 0 ≤ (wk s plan i).calm ∧ -5000 ≤ gr s i ∧ 0 ≤ t.drags.getD i.toNat default) → lv ≤ 15000 → ∀ x ∈ playI s plan t l lv r, 0 ≤ x ∧ x ≤ 20000
 | [], _, _, _, _, x, hx => by simp [playI] at hx
 | i :: l, lv, r, h, hl, x, hx => by
   obtain ⟨h1, h2, h3, h4⟩ := h i (by simp)
   simp only [playI, List.mem_cons] at hx
   rcases hx with rfl | hx
   ·cases e : (r && decide (gr s i + (wk s plan i).rise < lv - t.drags.getD i.toNat default - (wk s plan i).calm)) with
    | true => rw [cond_true]; simp only [Bool.and_eq_true, decide_eq_true_iff] at e; omega
    | false => simp
   ·exact playI_bd l _ _ (fun j hj => h j (by simp [hj])) (by omega) x hx
theorem all_in {s : WShore} {plan : List Int} {t : WTruth} (hs : shoreB s = true) (hp : planB s plan = true) (ht : tOk s t) : ∀ i ∈ upI 0 s.cells.length, 0 ≤ (wk s plan i).rise ∧ 0 ≤ (wk s plan i).calm ∧ -5000 ≤ gr s i ∧ 0 ≤ t.drags.getD i.toNat default := by
 intro i hi
 obtain ⟨i0, i1⟩ := mem_upI.1 hi
 have h1 := wk_in hs hp i0 i1
 have h2 := gr_in hs i0 i1
 have h3 := drag_in ht i0 i1
 omega
theorem play_bd {s : WShore} {plan : List Int} {t : WTruth} (hs : shoreB s = true) (hp : planB s plan = true) (ht : tOk s t) : ∀ x ∈ playL s plan t, 0 ≤ x ∧ x ≤ 20000 :=
 playI_bd _ _ _ (all_in hs hp ht) (level_in ht).2
theorem ends_le {s : WShore} {c : WStorm} {plan : List Int} (hs : shoreB s = true) (hc : stormB c = true) (hp : planB s plan = true) : leL (playL s plan (endE false s c)) (playL s plan (endE true s c)) :=
 (between hs hc hp (end_truth (b := false) hs hc)).2.1
end Go.Proofs.Ytiigkdhaofaijaa

