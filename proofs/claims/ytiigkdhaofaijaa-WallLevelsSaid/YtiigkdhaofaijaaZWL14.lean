/- layer 08: calls within known() -/
import Derived.Test.YtiigkdhaofaijaaZWL13
set_option linter.all false
namespace Go.Proofs.Ytiigkdhaofaijaa
open Go Go.CE Go.RowKit
def m103_821 : Memo :=
  ⟨103, #[.agg #[.slice (some ⟨421, 0, none⟩) 4 4, .slice (some ⟨422, 0, none⟩) 2 3, inN 2, inN 100, inN 200, inN 200, inN 300, inN 500, inN 1000, inN 20, inN 50], .agg #[inN 3, inN 218], inN 10, inN (-1)], [(421, .cells #[inN 100, inN 10, inN 20, inN (-1), inN 150, inN 20, inN 30, inN (-1), inN 180, inN 20, inN 40, inN 10, inN 175, inN 10, inN 20, inN 0] 59 (0, 0))], 821, .tuple #[inN 208, .bool true], [], 833⟩
theorem m103_821_ok : isMemo m103_821 (m103_821.drun Try.prog goFns insOrc 100000) = true := by decide +kernel
def m115_845 : Memo :=
  ⟨115, #[.agg #[.slice none 0 0, inN 0], inN (-1), inN 0], [], 845, .agg #[.slice (some ⟨850, 0, none⟩) 1 1, inN 0], [(850, .cells #[inN (-1)] 3 (0, 0))], 852⟩
theorem m115_845_ok : isMemo m115_845 (m115_845.run Try.prog goFns insOrc 100000) = true := by decide +kernel
def m103_858 : Memo :=
  ⟨103, #[.agg #[.slice (some ⟨421, 0, none⟩) 4 4, .slice (some ⟨422, 0, none⟩) 2 3, inN 2, inN 100, inN 200, inN 200, inN 300, inN 500, inN 1000, inN 20, inN 50], .agg #[inN 3, inN 218], inN 10, inN 0], [(421, .cells #[inN 100, inN 10, inN 20, inN (-1), inN 150, inN 20, inN 30, inN (-1), inN 180, inN 20, inN 40, inN 10, inN 175, inN 10, inN 20, inN 0] 59 (0, 0)), (422, .cells #[inN 60, inN 0, inN 50, inN 0, inN 25, inN 20] 85 (0, 0))], 858, .tuple #[inN 0, .bool false], [], 870⟩
theorem m103_858_ok : isMemo m103_858 (m103_858.drun Try.prog goFns insOrc 100000) = true := by decide +kernel
def m115_882 : Memo :=
  ⟨115, #[.agg #[.slice none 0 0, inN 0], inN 0, inN 50], [], 882, .agg #[.slice (some ⟨887, 0, none⟩) 1 1, inN 50], [(887, .cells #[inN 0] 3 (0, 0))], 889⟩
theorem m115_882_ok : isMemo m115_882 (m115_882.run Try.prog goFns insOrc 100000) = true := by decide +kernel
def m103_897 : Memo :=
  ⟨103, #[.agg #[.slice (some ⟨421, 0, none⟩) 4 4, .slice (some ⟨422, 0, none⟩) 2 3, inN 2, inN 100, inN 200, inN 200, inN 300, inN 500, inN 1000, inN 20, inN 50], .agg #[inN 3, inN 218], inN 10, inN 1], [(421, .cells #[inN 100, inN 10, inN 20, inN (-1), inN 150, inN 20, inN 30, inN (-1), inN 180, inN 20, inN 40, inN 10, inN 175, inN 10, inN 20, inN 0] 59 (0, 0)), (422, .cells #[inN 60, inN 0, inN 50, inN 0, inN 25, inN 20] 85 (0, 0))], 897, .tuple #[inN 183, .bool true], [], 909⟩
theorem m103_897_ok : isMemo m103_897 (m103_897.drun Try.prog goFns insOrc 100000) = true := by decide +kernel
def m115_921 : Memo :=
  ⟨115, #[.agg #[.slice none 0 0, inN 0], inN 1, inN 20], [], 921, .agg #[.slice (some ⟨926, 0, none⟩) 1 1, inN 20], [(926, .cells #[inN 1] 3 (0, 0))], 928⟩
theorem m115_921_ok : isMemo m115_921 (m115_921.run Try.prog goFns insOrc 100000) = true := by decide +kernel
def m108_930 : Memo :=
  ⟨108, #[.slice (some ⟨929, 0, none⟩) 3 1], [(915, .cells #[.slice (some ⟨926, 0, none⟩) 1 1, inN 20] 108 (0, 0)), (890, .cells #[.slice (some ⟨887, 0, none⟩) 1 1, inN 50, .slice (some ⟨887, 0, none⟩) 1 1, inN 50] 108 (0, 0)), (839, .cells #[.slice (some ⟨850, 0, none⟩) 1 1, inN 0] 108 (0, 0)), (929, .cells #[.slice (some ⟨839, 0, none⟩) 1 2, .slice (some ⟨890, 0, none⟩) 2 2, .slice (some ⟨915, 0, none⟩) 1 2] 130 (0, 0))], 930, .slice (some ⟨971, 0, none⟩) 2 2, [(971, .cells #[.slice (some ⟨850, 0, none⟩) 1 1, inN 0, .slice (some ⟨887, 0, none⟩) 1 1, inN 50] 108 (0, 0))], 981⟩
theorem m108_930_ok : isMemo m108_930 (m108_930.run Try.prog goFns insOrc 100000) = true := by decide +kernel
def m115_989 : Memo :=
  ⟨115, #[.agg #[.slice (some ⟨850, 0, none⟩) 1 1, inN 0], inN 1, inN 20], [(850, .cells #[inN (-1)] 3 (0, 0))], 989, .agg #[.slice (some ⟨995, 0, none⟩) 2 1, inN 20], [(995, .cells #[inN 1, inN (-1)] 3 (0, 0))], 997⟩
theorem m115_989_ok : isMemo m115_989 (m115_989.run Try.prog goFns insOrc 100000) = true := by decide +kernel
def m115_1002 : Memo :=
  ⟨115, #[.agg #[.slice (some ⟨887, 0, none⟩) 1 1, inN 50], inN 1, inN 20], [(887, .cells #[inN 0] 3 (0, 0))], 1002, .agg #[.slice (some ⟨1008, 0, none⟩) 2 1, inN 70], [(1008, .cells #[inN 1, inN 0] 3 (0, 0))], 1010⟩
theorem m115_1002_ok : isMemo m115_1002 (m115_1002.run Try.prog goFns insOrc 100000) = true := by decide +kernel
def m108_1012 : Memo :=
  ⟨108, #[.slice (some ⟨1011, 0, none⟩) 3 1], [(983, .cells #[.slice (some ⟨995, 0, none⟩) 2 1, inN 20, .slice (some ⟨1008, 0, none⟩) 2 1, inN 70] 108 (0, 0)), (769, .cells #[.slice (some ⟨781, 0, none⟩) 2 1, inN 50, .slice (some ⟨794, 0, none⟩) 2 1, inN 100] 108 (0, 0)), (719, .cells #[.slice (some ⟨731, 0, none⟩) 2 1, inN 0, .slice (some ⟨744, 0, none⟩) 2 1, inN 50] 108 (0, 0)), (1011, .cells #[.slice (some ⟨719, 0, none⟩) 2 2, .slice (some ⟨769, 0, none⟩) 2 2, .slice (some ⟨983, 0, none⟩) 2 2] 130 (0, 0))], 1012, .slice (some ⟨1065, 0, none⟩) 2 2, [(1065, .cells #[.slice (some ⟨731, 0, none⟩) 2 1, inN 0, .slice (some ⟨744, 0, none⟩) 2 1, inN 50] 108 (0, 0))], 1075⟩
theorem m108_1012_ok : isMemo m108_1012 (m108_1012.run Try.prog goFns insOrc 100000) = true := by decide +kernel
def m115_1083 : Memo :=
  ⟨115, #[.agg #[.slice (some ⟨731, 0, none⟩) 2 1, inN 0], inN (-1), inN 0], [(731, .cells #[inN (-1), inN (-1)] 3 (0, 0))], 1083, .agg #[.slice (some ⟨1089, 0, none⟩) 3 1, inN 0], [(1089, .cells #[inN (-1), inN (-1), inN (-1)] 3 (0, 0))], 1091⟩
theorem m115_1083_ok : isMemo m115_1083 (m115_1083.run Try.prog goFns insOrc 100000) = true := by decide +kernel
def m115_1096 : Memo :=
  ⟨115, #[.agg #[.slice (some ⟨744, 0, none⟩) 2 1, inN 50], inN (-1), inN 0], [(744, .cells #[inN (-1), inN 0] 3 (0, 0))], 1096, .agg #[.slice (some ⟨1102, 0, none⟩) 3 1, inN 50], [(1102, .cells #[inN (-1), inN (-1), inN 0] 3 (0, 0))], 1104⟩
theorem m115_1096_ok : isMemo m115_1096 (m115_1096.run Try.prog goFns insOrc 100000) = true := by decide +kernel
def m103_1110 : Memo :=
  ⟨103, #[.agg #[.slice (some ⟨421, 0, none⟩) 4 4, .slice (some ⟨422, 0, none⟩) 2 3, inN 2, inN 100, inN 200, inN 200, inN 300, inN 500, inN 1000, inN 20, inN 50], .agg #[inN 1, inN 283], inN 20, inN 0], [(421, .cells #[inN 100, inN 10, inN 20, inN (-1), inN 150, inN 20, inN 30, inN (-1), inN 180, inN 20, inN 40, inN 10, inN 175, inN 10, inN 20, inN 0] 59 (0, 0)), (422, .cells #[inN 60, inN 0, inN 50, inN 0, inN 25, inN 20] 85 (0, 0))], 1110, .tuple #[inN 263, .bool true], [], 1122⟩
theorem m103_1110_ok : isMemo m103_1110 (m103_1110.drun Try.prog goFns insOrc 100000) = true := by decide +kernel
def m115_1133 : Memo :=
  ⟨115, #[.agg #[.slice (some ⟨731, 0, none⟩) 2 1, inN 0], inN 0, inN 50], [(731, .cells #[inN (-1), inN (-1)] 3 (0, 0))], 1133, .agg #[.slice (some ⟨1139, 0, none⟩) 3 1, inN 50], [(1139, .cells #[inN 0, inN (-1), inN (-1)] 3 (0, 0))], 1141⟩
theorem m115_1133_ok : isMemo m115_1133 (m115_1133.run Try.prog goFns insOrc 100000) = true := by decide +kernel
def m115_1146 : Memo :=
  ⟨115, #[.agg #[.slice (some ⟨744, 0, none⟩) 2 1, inN 50], inN 0, inN 50], [(744, .cells #[inN (-1), inN 0] 3 (0, 0))], 1146, .agg #[.slice (some ⟨1152, 0, none⟩) 3 1, inN 100], [(1152, .cells #[inN 0, inN (-1), inN 0] 3 (0, 0))], 1154⟩
theorem m115_1146_ok : isMemo m115_1146 (m115_1146.run Try.prog goFns insOrc 100000) = true := by decide +kernel
def m103_1160 : Memo :=
  ⟨103, #[.agg #[.slice (some ⟨421, 0, none⟩) 4 4, .slice (some ⟨422, 0, none⟩) 2 3, inN 2, inN 100, inN 200, inN 200, inN 300, inN 500, inN 1000, inN 20, inN 50], .agg #[inN 1, inN 283], inN 20, inN 1], [(421, .cells #[inN 100, inN 10, inN 20, inN (-1), inN 150, inN 20, inN 30, inN (-1), inN 180, inN 20, inN 40, inN 10, inN 175, inN 10, inN 20, inN 0] 59 (0, 0)), (422, .cells #[inN 60, inN 0, inN 50, inN 0, inN 25, inN 20] 85 (0, 0))], 1160, .tuple #[inN 238, .bool true], [], 1172⟩
theorem m103_1160_ok : isMemo m103_1160 (m103_1160.drun Try.prog goFns insOrc 100000) = true := by decide +kernel
def m103_1179 : Memo :=
  ⟨103, #[.agg #[.slice (some ⟨421, 0, none⟩) 4 4, .slice (some ⟨422, 0, none⟩) 2 3, inN 2, inN 100, inN 200, inN 200, inN 300, inN 500, inN 1000, inN 20, inN 50], .agg #[inN 2, inN 238], inN 20, inN (-1)], [(421, .cells #[inN 100, inN 10, inN 20, inN (-1), inN 150, inN 20, inN 30, inN (-1), inN 180, inN 20, inN 40, inN 10, inN 175, inN 10, inN 20, inN 0] 59 (0, 0))], 1179, .tuple #[inN 218, .bool true], [], 1191⟩
theorem m103_1179_ok : isMemo m103_1179 (m103_1179.drun Try.prog goFns insOrc 100000) = true := by decide +kernel
def m115_1202 : Memo :=
  ⟨115, #[.agg #[.slice (some ⟨850, 0, none⟩) 1 1, inN 0], inN (-1), inN 0], [(850, .cells #[inN (-1)] 3 (0, 0))], 1202, .agg #[.slice (some ⟨1208, 0, none⟩) 2 1, inN 0], [(1208, .cells #[inN (-1), inN (-1)] 3 (0, 0))], 1210⟩
theorem m115_1202_ok : isMemo m115_1202 (m115_1202.run Try.prog goFns insOrc 100000) = true := by decide +kernel
def m115_1215 : Memo :=
  ⟨115, #[.agg #[.slice (some ⟨887, 0, none⟩) 1 1, inN 50], inN (-1), inN 0], [(887, .cells #[inN 0] 3 (0, 0))], 1215, .agg #[.slice (some ⟨1221, 0, none⟩) 2 1, inN 50], [(1221, .cells #[inN (-1), inN 0] 3 (0, 0))], 1223⟩
theorem m115_1215_ok : isMemo m115_1215 (m115_1215.run Try.prog goFns insOrc 100000) = true := by decide +kernel
def m103_1229 : Memo :=
  ⟨103, #[.agg #[.slice (some ⟨421, 0, none⟩) 4 4, .slice (some ⟨422, 0, none⟩) 2 3, inN 2, inN 100, inN 200, inN 200, inN 300, inN 500, inN 1000, inN 20, inN 50], .agg #[inN 2, inN 238], inN 20, inN 0], [(421, .cells #[inN 100, inN 10, inN 20, inN (-1), inN 150, inN 20, inN 30, inN (-1), inN 180, inN 20, inN 40, inN 10, inN 175, inN 10, inN 20, inN 0] 59 (0, 0)), (422, .cells #[inN 60, inN 0, inN 50, inN 0, inN 25, inN 20] 85 (0, 0))], 1229, .tuple #[inN 0, .bool false], [], 1241⟩
theorem m103_1229_ok : isMemo m103_1229 (m103_1229.drun Try.prog goFns insOrc 100000) = true := by decide +kernel
def m103_1248 : Memo :=
  ⟨103, #[.agg #[.slice (some ⟨421, 0, none⟩) 4 4, .slice (some ⟨422, 0, none⟩) 2 3, inN 2, inN 100, inN 200, inN 200, inN 300, inN 500, inN 1000, inN 20, inN 50], .agg #[inN 3, inN (-5000)], inN 10, inN (-1)], [(421, .cells #[inN 100, inN 10, inN 20, inN (-1), inN 150, inN 20, inN 30, inN (-1), inN 180, inN 20, inN 40, inN 10, inN 175, inN 10, inN 20, inN 0] 59 (0, 0))], 1248, .tuple #[inN 0, .bool false], [], 1260⟩
theorem m103_1248_ok : isMemo m103_1248 (m103_1248.drun Try.prog goFns insOrc 100000) = true := by decide +kernel
def m115_1272 : Memo :=
  ⟨115, #[.agg #[.slice none 0 0, inN 0], inN (-1), inN 0], [], 1272, .agg #[.slice (some ⟨1277, 0, none⟩) 1 1, inN 0], [(1277, .cells #[inN (-1)] 3 (0, 0))], 1279⟩
theorem m115_1272_ok : isMemo m115_1272 (m115_1272.run Try.prog goFns insOrc 100000) = true := by decide +kernel
def m103_1287 : Memo :=
  ⟨103, #[.agg #[.slice (some ⟨421, 0, none⟩) 4 4, .slice (some ⟨422, 0, none⟩) 2 3, inN 2, inN 100, inN 200, inN 200, inN 300, inN 500, inN 1000, inN 20, inN 50], .agg #[inN 3, inN (-5000)], inN 10, inN 0], [(421, .cells #[inN 100, inN 10, inN 20, inN (-1), inN 150, inN 20, inN 30, inN (-1), inN 180, inN 20, inN 40, inN 10, inN 175, inN 10, inN 20, inN 0] 59 (0, 0)), (422, .cells #[inN 60, inN 0, inN 50, inN 0, inN 25, inN 20] 85 (0, 0))], 1287, .tuple #[inN 0, .bool false], [], 1299⟩
theorem m103_1287_ok : isMemo m103_1287 (m103_1287.drun Try.prog goFns insOrc 100000) = true := by decide +kernel
def m115_1311 : Memo :=
  ⟨115, #[.agg #[.slice none 0 0, inN 0], inN 0, inN 50], [], 1311, .agg #[.slice (some ⟨1316, 0, none⟩) 1 1, inN 50], [(1316, .cells #[inN 0] 3 (0, 0))], 1318⟩
theorem m115_1311_ok : isMemo m115_1311 (m115_1311.run Try.prog goFns insOrc 100000) = true := by decide +kernel
end Go.Proofs.Ytiigkdhaofaijaa

namespace Go.Proofs.Ytiigkdhaofaijaa
open Go Go.CE Go.RowKit
def m103_1326 : Memo :=
  ⟨103, #[.agg #[.slice (some ⟨421, 0, none⟩) 4 4, .slice (some ⟨422, 0, none⟩) 2 3, inN 2, inN 100, inN 200, inN 200, inN 300, inN 500, inN 1000, inN 20, inN 50], .agg #[inN 3, inN (-5000)], inN 10, inN 1], [(421, .cells #[inN 100, inN 10, inN 20, inN (-1), inN 150, inN 20, inN 30, inN (-1), inN 180, inN 20, inN 40, inN 10, inN 175, inN 10, inN 20, inN 0] 59 (0, 0)), (422, .cells #[inN 60, inN 0, inN 50, inN 0, inN 25, inN 20] 85 (0, 0))], 1326, .tuple #[inN 0, .bool false], [], 1338⟩
theorem m103_1326_ok : isMemo m103_1326 (m103_1326.drun Try.prog goFns insOrc 100000) = true := by decide +kernel
def m115_1350 : Memo :=
  ⟨115, #[.agg #[.slice none 0 0, inN 0], inN 1, inN 20], [], 1350, .agg #[.slice (some ⟨1355, 0, none⟩) 1 1, inN 20], [(1355, .cells #[inN 1] 3 (0, 0))], 1357⟩
theorem m115_1350_ok : isMemo m115_1350 (m115_1350.run Try.prog goFns insOrc 100000) = true := by decide +kernel
def m108_1361 : Memo :=
  ⟨108, #[.slice (some ⟨1360, 0, none⟩) 3 1], [(1358, .cells #[.slice (some ⟨1355, 0, none⟩) 1 1, inN 20, .slice (some ⟨1355, 0, none⟩) 1 1, inN 20] 108 (0, 0)), (1319, .cells #[.slice (some ⟨1316, 0, none⟩) 1 1, inN 50, .slice (some ⟨1316, 0, none⟩) 1 1, inN 50] 108 (0, 0)), (1280, .cells #[.slice (some ⟨1277, 0, none⟩) 1 1, inN 0, .slice (some ⟨1277, 0, none⟩) 1 1, inN 0] 108 (0, 0)), (1360, .cells #[.slice (some ⟨1280, 0, none⟩) 2 2, .slice (some ⟨1319, 0, none⟩) 2 2, .slice (some ⟨1358, 0, none⟩) 2 2] 130 (0, 0))], 1361, .slice (some ⟨1414, 0, none⟩) 2 2, [(1414, .cells #[.slice (some ⟨1277, 0, none⟩) 1 1, inN 0, .slice (some ⟨1277, 0, none⟩) 1 1, inN 0] 108 (0, 0))], 1424⟩
theorem m108_1361_ok : isMemo m108_1361 (m108_1361.run Try.prog goFns insOrc 100000) = true := by decide +kernel
def m115_1432 : Memo :=
  ⟨115, #[.agg #[.slice (some ⟨1277, 0, none⟩) 1 1, inN 0], inN 0, inN 50], [(1277, .cells #[inN (-1)] 3 (0, 0))], 1432, .agg #[.slice (some ⟨1438, 0, none⟩) 2 1, inN 50], [(1438, .cells #[inN 0, inN (-1)] 3 (0, 0))], 1440⟩
theorem m115_1432_ok : isMemo m115_1432 (m115_1432.run Try.prog goFns insOrc 100000) = true := by decide +kernel
def m115_1445 : Memo :=
  ⟨115, #[.agg #[.slice (some ⟨1277, 0, none⟩) 1 1, inN 0], inN 0, inN 50], [(1277, .cells #[inN (-1)] 3 (0, 0))], 1445, .agg #[.slice (some ⟨1451, 0, none⟩) 2 1, inN 50], [(1451, .cells #[inN 0, inN (-1)] 3 (0, 0))], 1453⟩
theorem m115_1445_ok : isMemo m115_1445 (m115_1445.run Try.prog goFns insOrc 100000) = true := by decide +kernel
def m103_1461 : Memo :=
  ⟨103, #[.agg #[.slice (some ⟨421, 0, none⟩) 4 4, .slice (some ⟨422, 0, none⟩) 2 3, inN 2, inN 100, inN 200, inN 200, inN 300, inN 500, inN 1000, inN 20, inN 50], .agg #[inN 2, inN 238], inN 20, inN 1], [(421, .cells #[inN 100, inN 10, inN 20, inN (-1), inN 150, inN 20, inN 30, inN (-1), inN 180, inN 20, inN 40, inN 10, inN 175, inN 10, inN 20, inN 0] 59 (0, 0)), (422, .cells #[inN 60, inN 0, inN 50, inN 0, inN 25, inN 20] 85 (0, 0))], 1461, .tuple #[inN 193, .bool true], [], 1473⟩
theorem m103_1461_ok : isMemo m103_1461 (m103_1461.drun Try.prog goFns insOrc 100000) = true := by decide +kernel
def m103_1480 : Memo :=
  ⟨103, #[.agg #[.slice (some ⟨421, 0, none⟩) 4 4, .slice (some ⟨422, 0, none⟩) 2 3, inN 2, inN 100, inN 200, inN 200, inN 300, inN 500, inN 1000, inN 20, inN 50], .agg #[inN 3, inN 193], inN 10, inN (-1)], [(421, .cells #[inN 100, inN 10, inN 20, inN (-1), inN 150, inN 20, inN 30, inN (-1), inN 180, inN 20, inN 40, inN 10, inN 175, inN 10, inN 20, inN 0] 59 (0, 0))], 1480, .tuple #[inN 183, .bool true], [], 1492⟩
theorem m103_1480_ok : isMemo m103_1480 (m103_1480.drun Try.prog goFns insOrc 100000) = true := by decide +kernel
def m115_1504 : Memo :=
  ⟨115, #[.agg #[.slice none 0 0, inN 0], inN (-1), inN 0], [], 1504, .agg #[.slice (some ⟨1509, 0, none⟩) 1 1, inN 0], [(1509, .cells #[inN (-1)] 3 (0, 0))], 1511⟩
theorem m115_1504_ok : isMemo m115_1504 (m115_1504.run Try.prog goFns insOrc 100000) = true := by decide +kernel
def m103_1517 : Memo :=
  ⟨103, #[.agg #[.slice (some ⟨421, 0, none⟩) 4 4, .slice (some ⟨422, 0, none⟩) 2 3, inN 2, inN 100, inN 200, inN 200, inN 300, inN 500, inN 1000, inN 20, inN 50], .agg #[inN 3, inN 193], inN 10, inN 0], [(421, .cells #[inN 100, inN 10, inN 20, inN (-1), inN 150, inN 20, inN 30, inN (-1), inN 180, inN 20, inN 40, inN 10, inN 175, inN 10, inN 20, inN 0] 59 (0, 0)), (422, .cells #[inN 60, inN 0, inN 50, inN 0, inN 25, inN 20] 85 (0, 0))], 1517, .tuple #[inN 0, .bool false], [], 1529⟩
theorem m103_1517_ok : isMemo m103_1517 (m103_1517.drun Try.prog goFns insOrc 100000) = true := by decide +kernel
def m115_1541 : Memo :=
  ⟨115, #[.agg #[.slice none 0 0, inN 0], inN 0, inN 50], [], 1541, .agg #[.slice (some ⟨1546, 0, none⟩) 1 1, inN 50], [(1546, .cells #[inN 0] 3 (0, 0))], 1548⟩
theorem m115_1541_ok : isMemo m115_1541 (m115_1541.run Try.prog goFns insOrc 100000) = true := by decide +kernel
def m103_1556 : Memo :=
  ⟨103, #[.agg #[.slice (some ⟨421, 0, none⟩) 4 4, .slice (some ⟨422, 0, none⟩) 2 3, inN 2, inN 100, inN 200, inN 200, inN 300, inN 500, inN 1000, inN 20, inN 50], .agg #[inN 3, inN 193], inN 10, inN 1], [(421, .cells #[inN 100, inN 10, inN 20, inN (-1), inN 150, inN 20, inN 30, inN (-1), inN 180, inN 20, inN 40, inN 10, inN 175, inN 10, inN 20, inN 0] 59 (0, 0)), (422, .cells #[inN 60, inN 0, inN 50, inN 0, inN 25, inN 20] 85 (0, 0))], 1556, .tuple #[inN 0, .bool false], [], 1568⟩
theorem m103_1556_ok : isMemo m103_1556 (m103_1556.drun Try.prog goFns insOrc 100000) = true := by decide +kernel
def m115_1580 : Memo :=
  ⟨115, #[.agg #[.slice none 0 0, inN 0], inN 1, inN 20], [], 1580, .agg #[.slice (some ⟨1585, 0, none⟩) 1 1, inN 20], [(1585, .cells #[inN 1] 3 (0, 0))], 1587⟩
theorem m115_1580_ok : isMemo m115_1580 (m115_1580.run Try.prog goFns insOrc 100000) = true := by decide +kernel
def m108_1591 : Memo :=
  ⟨108, #[.slice (some ⟨1590, 0, none⟩) 3 1], [(1588, .cells #[.slice (some ⟨1585, 0, none⟩) 1 1, inN 20, .slice (some ⟨1585, 0, none⟩) 1 1, inN 20] 108 (0, 0)), (1549, .cells #[.slice (some ⟨1546, 0, none⟩) 1 1, inN 50, .slice (some ⟨1546, 0, none⟩) 1 1, inN 50] 108 (0, 0)), (1498, .cells #[.slice (some ⟨1509, 0, none⟩) 1 1, inN 0] 108 (0, 0)), (1590, .cells #[.slice (some ⟨1498, 0, none⟩) 1 2, .slice (some ⟨1549, 0, none⟩) 2 2, .slice (some ⟨1588, 0, none⟩) 2 2] 130 (0, 0))], 1591, .slice (some ⟨1638, 0, none⟩) 2 2, [(1638, .cells #[.slice (some ⟨1509, 0, none⟩) 1 1, inN 0, .slice (some ⟨1585, 0, none⟩) 1 1, inN 20] 108 (0, 0))], 1648⟩
theorem m108_1591_ok : isMemo m108_1591 (m108_1591.run Try.prog goFns insOrc 100000) = true := by decide +kernel
def m115_1656 : Memo :=
  ⟨115, #[.agg #[.slice (some ⟨1509, 0, none⟩) 1 1, inN 0], inN 1, inN 20], [(1509, .cells #[inN (-1)] 3 (0, 0))], 1656, .agg #[.slice (some ⟨1662, 0, none⟩) 2 1, inN 20], [(1662, .cells #[inN 1, inN (-1)] 3 (0, 0))], 1664⟩
theorem m115_1656_ok : isMemo m115_1656 (m115_1656.run Try.prog goFns insOrc 100000) = true := by decide +kernel
def m115_1669 : Memo :=
  ⟨115, #[.agg #[.slice (some ⟨1585, 0, none⟩) 1 1, inN 20], inN 1, inN 20], [(1585, .cells #[inN 1] 3 (0, 0))], 1669, .agg #[.slice (some ⟨1675, 0, none⟩) 2 1, inN 40], [(1675, .cells #[inN 1, inN 1] 3 (0, 0))], 1677⟩
theorem m115_1669_ok : isMemo m115_1669 (m115_1669.run Try.prog goFns insOrc 100000) = true := by decide +kernel
def m108_1679 : Memo :=
  ⟨108, #[.slice (some ⟨1678, 0, none⟩) 3 1], [(1650, .cells #[.slice (some ⟨1662, 0, none⟩) 2 1, inN 20, .slice (some ⟨1675, 0, none⟩) 2 1, inN 40] 108 (0, 0)), (1454, .cells #[.slice (some ⟨1438, 0, none⟩) 2 1, inN 50, .slice (some ⟨1438, 0, none⟩) 2 1, inN 50, .slice (some ⟨1451, 0, none⟩) 2 1, inN 50] 108 (0, 0)), (1196, .cells #[.slice (some ⟨1208, 0, none⟩) 2 1, inN 0, .slice (some ⟨1221, 0, none⟩) 2 1, inN 50] 108 (0, 0)), (1678, .cells #[.slice (some ⟨1196, 0, none⟩) 2 2, .slice (some ⟨1454, 0, none⟩) 3 2, .slice (some ⟨1650, 0, none⟩) 2 2] 130 (0, 0))], 1679, .slice (some ⟨1747, 0, none⟩) 3 2, [(1747, .cells #[.slice (some ⟨1208, 0, none⟩) 2 1, inN 0, .slice (some ⟨1675, 0, none⟩) 2 1, inN 40, .slice (some ⟨1451, 0, none⟩) 2 1, inN 50] 108 (0, 0))], 1757⟩
theorem m108_1679_ok : isMemo m108_1679 (m108_1679.run Try.prog goFns insOrc 100000) = true := by decide +kernel
def m115_1765 : Memo :=
  ⟨115, #[.agg #[.slice (some ⟨1208, 0, none⟩) 2 1, inN 0], inN 1, inN 20], [(1208, .cells #[inN (-1), inN (-1)] 3 (0, 0))], 1765, .agg #[.slice (some ⟨1771, 0, none⟩) 3 1, inN 20], [(1771, .cells #[inN 1, inN (-1), inN (-1)] 3 (0, 0))], 1773⟩
theorem m115_1765_ok : isMemo m115_1765 (m115_1765.run Try.prog goFns insOrc 100000) = true := by decide +kernel
def m115_1778 : Memo :=
  ⟨115, #[.agg #[.slice (some ⟨1675, 0, none⟩) 2 1, inN 40], inN 1, inN 20], [(1675, .cells #[inN 1, inN 1] 3 (0, 0))], 1778, .agg #[.slice (some ⟨1784, 0, none⟩) 3 1, inN 60], [(1784, .cells #[inN 1, inN 1, inN 1] 3 (0, 0))], 1786⟩
theorem m115_1778_ok : isMemo m115_1778 (m115_1778.run Try.prog goFns insOrc 100000) = true := by decide +kernel
def m115_1791 : Memo :=
  ⟨115, #[.agg #[.slice (some ⟨1451, 0, none⟩) 2 1, inN 50], inN 1, inN 20], [(1451, .cells #[inN 0, inN (-1)] 3 (0, 0))], 1791, .agg #[.slice (some ⟨1797, 0, none⟩) 3 1, inN 70], [(1797, .cells #[inN 1, inN 0, inN (-1)] 3 (0, 0))], 1799⟩
theorem m115_1791_ok : isMemo m115_1791 (m115_1791.run Try.prog goFns insOrc 100000) = true := by decide +kernel
def m108_1801 : Memo :=
  ⟨108, #[.slice (some ⟨1800, 0, none⟩) 3 1], [(1759, .cells #[.slice (some ⟨1771, 0, none⟩) 3 1, inN 20, .slice (some ⟨1784, 0, none⟩) 3 1, inN 60, .slice (some ⟨1797, 0, none⟩) 3 1, inN 70] 108 (0, 0)), (1127, .cells #[.slice (some ⟨1139, 0, none⟩) 3 1, inN 50, .slice (some ⟨1152, 0, none⟩) 3 1, inN 100] 108 (0, 0)), (1077, .cells #[.slice (some ⟨1089, 0, none⟩) 3 1, inN 0, .slice (some ⟨1102, 0, none⟩) 3 1, inN 50] 108 (0, 0)), (1800, .cells #[.slice (some ⟨1077, 0, none⟩) 2 2, .slice (some ⟨1127, 0, none⟩) 2 2, .slice (some ⟨1759, 0, none⟩) 3 2] 130 (0, 0))], 1801, .slice (some ⟨1869, 0, none⟩) 3 2, [(1869, .cells #[.slice (some ⟨1089, 0, none⟩) 3 1, inN 0, .slice (some ⟨1102, 0, none⟩) 3 1, inN 50, .slice (some ⟨1797, 0, none⟩) 3 1, inN 70] 108 (0, 0))], 1879⟩
theorem m108_1801_ok : isMemo m108_1801 (m108_1801.run Try.prog goFns insOrc 100000) = true := by decide +kernel
def m115_1887 : Memo :=
  ⟨115, #[.agg #[.slice (some ⟨1089, 0, none⟩) 3 1, inN 0], inN (-1), inN 0], [(1089, .cells #[inN (-1), inN (-1), inN (-1)] 3 (0, 0))], 1887, .agg #[.slice (some ⟨1893, 0, none⟩) 4 1, inN 0], [(1893, .cells #[inN (-1), inN (-1), inN (-1), inN (-1)] 3 (0, 0))], 1895⟩
theorem m115_1887_ok : isMemo m115_1887 (m115_1887.run Try.prog goFns insOrc 100000) = true := by decide +kernel
def m115_1900 : Memo :=
  ⟨115, #[.agg #[.slice (some ⟨1102, 0, none⟩) 3 1, inN 50], inN (-1), inN 0], [(1102, .cells #[inN (-1), inN (-1), inN 0] 3 (0, 0))], 1900, .agg #[.slice (some ⟨1906, 0, none⟩) 4 1, inN 50], [(1906, .cells #[inN (-1), inN (-1), inN (-1), inN 0] 3 (0, 0))], 1908⟩
theorem m115_1900_ok : isMemo m115_1900 (m115_1900.run Try.prog goFns insOrc 100000) = true := by decide +kernel
def m115_1913 : Memo :=
  ⟨115, #[.agg #[.slice (some ⟨1797, 0, none⟩) 3 1, inN 70], inN (-1), inN 0], [(1797, .cells #[inN 1, inN 0, inN (-1)] 3 (0, 0))], 1913, .agg #[.slice (some ⟨1919, 0, none⟩) 4 1, inN 70], [(1919, .cells #[inN (-1), inN 1, inN 0, inN (-1)] 3 (0, 0))], 1921⟩
theorem m115_1913_ok : isMemo m115_1913 (m115_1913.run Try.prog goFns insOrc 100000) = true := by decide +kernel
def m103_1927 : Memo :=
  ⟨103, #[.agg #[.slice (some ⟨421, 0, none⟩) 4 4, .slice (some ⟨422, 0, none⟩) 2 3, inN 2, inN 100, inN 200, inN 200, inN 300, inN 500, inN 1000, inN 20, inN 50], .agg #[inN 0, inN 293], inN 10, inN 0], [(421, .cells #[inN 100, inN 10, inN 20, inN (-1), inN 150, inN 20, inN 30, inN (-1), inN 180, inN 20, inN 40, inN 10, inN 175, inN 10, inN 20, inN 0] 59 (0, 0)), (422, .cells #[inN 60, inN 0, inN 50, inN 0, inN 25, inN 20] 85 (0, 0))], 1927, .tuple #[inN 283, .bool true], [], 1939⟩
theorem m103_1927_ok : isMemo m103_1927 (m103_1927.drun Try.prog goFns insOrc 100000) = true := by decide +kernel
end Go.Proofs.Ytiigkdhaofaijaa

namespace Go.Proofs.Ytiigkdhaofaijaa
open Go Go.CE Go.RowKit
def m115_1950 : Memo :=
  ⟨115, #[.agg #[.slice (some ⟨1089, 0, none⟩) 3 1, inN 0], inN 0, inN 50], [(1089, .cells #[inN (-1), inN (-1), inN (-1)] 3 (0, 0))], 1950, .agg #[.slice (some ⟨1956, 0, none⟩) 4 1, inN 50], [(1956, .cells #[inN 0, inN (-1), inN (-1), inN (-1)] 3 (0, 0))], 1958⟩
theorem m115_1950_ok : isMemo m115_1950 (m115_1950.run Try.prog goFns insOrc 100000) = true := by decide +kernel
def m115_1963 : Memo :=
  ⟨115, #[.agg #[.slice (some ⟨1102, 0, none⟩) 3 1, inN 50], inN 0, inN 50], [(1102, .cells #[inN (-1), inN (-1), inN 0] 3 (0, 0))], 1963, .agg #[.slice (some ⟨1969, 0, none⟩) 4 1, inN 100], [(1969, .cells #[inN 0, inN (-1), inN (-1), inN 0] 3 (0, 0))], 1971⟩
theorem m115_1963_ok : isMemo m115_1963 (m115_1963.run Try.prog goFns insOrc 100000) = true := by decide +kernel
def m115_1976 : Memo :=
  ⟨115, #[.agg #[.slice (some ⟨1797, 0, none⟩) 3 1, inN 70], inN 0, inN 50], [(1797, .cells #[inN 1, inN 0, inN (-1)] 3 (0, 0))], 1976, .agg #[.slice (some ⟨1982, 0, none⟩) 4 1, inN 120], [(1982, .cells #[inN 0, inN 1, inN 0, inN (-1)] 3 (0, 0))], 1984⟩
theorem m115_1976_ok : isMemo m115_1976 (m115_1976.run Try.prog goFns insOrc 100000) = true := by decide +kernel
def m103_1990 : Memo :=
  ⟨103, #[.agg #[.slice (some ⟨421, 0, none⟩) 4 4, .slice (some ⟨422, 0, none⟩) 2 3, inN 2, inN 100, inN 200, inN 200, inN 300, inN 500, inN 1000, inN 20, inN 50], .agg #[inN 0, inN 293], inN 10, inN 1], [(421, .cells #[inN 100, inN 10, inN 20, inN (-1), inN 150, inN 20, inN 30, inN (-1), inN 180, inN 20, inN 40, inN 10, inN 175, inN 10, inN 20, inN 0] 59 (0, 0)), (422, .cells #[inN 60, inN 0, inN 50, inN 0, inN 25, inN 20] 85 (0, 0))], 1990, .tuple #[inN 258, .bool true], [], 2002⟩
theorem m103_1990_ok : isMemo m103_1990 (m103_1990.drun Try.prog goFns insOrc 100000) = true := by decide +kernel
def m103_2009 : Memo :=
  ⟨103, #[.agg #[.slice (some ⟨421, 0, none⟩) 4 4, .slice (some ⟨422, 0, none⟩) 2 3, inN 2, inN 100, inN 200, inN 200, inN 300, inN 500, inN 1000, inN 20, inN 50], .agg #[inN 1, inN 258], inN 20, inN (-1)], [(421, .cells #[inN 100, inN 10, inN 20, inN (-1), inN 150, inN 20, inN 30, inN (-1), inN 180, inN 20, inN 40, inN 10, inN 175, inN 10, inN 20, inN 0] 59 (0, 0))], 2009, .tuple #[inN 238, .bool true], [], 2021⟩
theorem m103_2009_ok : isMemo m103_2009 (m103_2009.drun Try.prog goFns insOrc 100000) = true := by decide +kernel
def m115_2032 : Memo :=
  ⟨115, #[.agg #[.slice (some ⟨1208, 0, none⟩) 2 1, inN 0], inN (-1), inN 0], [(1208, .cells #[inN (-1), inN (-1)] 3 (0, 0))], 2032, .agg #[.slice (some ⟨2038, 0, none⟩) 3 1, inN 0], [(2038, .cells #[inN (-1), inN (-1), inN (-1)] 3 (0, 0))], 2040⟩
theorem m115_2032_ok : isMemo m115_2032 (m115_2032.run Try.prog goFns insOrc 100000) = true := by decide +kernel
def m115_2045 : Memo :=
  ⟨115, #[.agg #[.slice (some ⟨1675, 0, none⟩) 2 1, inN 40], inN (-1), inN 0], [(1675, .cells #[inN 1, inN 1] 3 (0, 0))], 2045, .agg #[.slice (some ⟨2051, 0, none⟩) 3 1, inN 40], [(2051, .cells #[inN (-1), inN 1, inN 1] 3 (0, 0))], 2053⟩
theorem m115_2045_ok : isMemo m115_2045 (m115_2045.run Try.prog goFns insOrc 100000) = true := by decide +kernel
def m115_2058 : Memo :=
  ⟨115, #[.agg #[.slice (some ⟨1451, 0, none⟩) 2 1, inN 50], inN (-1), inN 0], [(1451, .cells #[inN 0, inN (-1)] 3 (0, 0))], 2058, .agg #[.slice (some ⟨2064, 0, none⟩) 3 1, inN 50], [(2064, .cells #[inN (-1), inN 0, inN (-1)] 3 (0, 0))], 2066⟩
theorem m115_2058_ok : isMemo m115_2058 (m115_2058.run Try.prog goFns insOrc 100000) = true := by decide +kernel
def m103_2072 : Memo :=
  ⟨103, #[.agg #[.slice (some ⟨421, 0, none⟩) 4 4, .slice (some ⟨422, 0, none⟩) 2 3, inN 2, inN 100, inN 200, inN 200, inN 300, inN 500, inN 1000, inN 20, inN 50], .agg #[inN 1, inN 258], inN 20, inN 0], [(421, .cells #[inN 100, inN 10, inN 20, inN (-1), inN 150, inN 20, inN 30, inN (-1), inN 180, inN 20, inN 40, inN 10, inN 175, inN 10, inN 20, inN 0] 59 (0, 0)), (422, .cells #[inN 60, inN 0, inN 50, inN 0, inN 25, inN 20] 85 (0, 0))], 2072, .tuple #[inN 238, .bool true], [], 2084⟩
theorem m103_2072_ok : isMemo m103_2072 (m103_2072.drun Try.prog goFns insOrc 100000) = true := by decide +kernel
def m115_2095 : Memo :=
  ⟨115, #[.agg #[.slice (some ⟨1208, 0, none⟩) 2 1, inN 0], inN 0, inN 50], [(1208, .cells #[inN (-1), inN (-1)] 3 (0, 0))], 2095, .agg #[.slice (some ⟨2101, 0, none⟩) 3 1, inN 50], [(2101, .cells #[inN 0, inN (-1), inN (-1)] 3 (0, 0))], 2103⟩
theorem m115_2095_ok : isMemo m115_2095 (m115_2095.run Try.prog goFns insOrc 100000) = true := by decide +kernel
def m115_2108 : Memo :=
  ⟨115, #[.agg #[.slice (some ⟨1675, 0, none⟩) 2 1, inN 40], inN 0, inN 50], [(1675, .cells #[inN 1, inN 1] 3 (0, 0))], 2108, .agg #[.slice (some ⟨2114, 0, none⟩) 3 1, inN 90], [(2114, .cells #[inN 0, inN 1, inN 1] 3 (0, 0))], 2116⟩
theorem m115_2108_ok : isMemo m115_2108 (m115_2108.run Try.prog goFns insOrc 100000) = true := by decide +kernel
def m115_2121 : Memo :=
  ⟨115, #[.agg #[.slice (some ⟨1451, 0, none⟩) 2 1, inN 50], inN 0, inN 50], [(1451, .cells #[inN 0, inN (-1)] 3 (0, 0))], 2121, .agg #[.slice (some ⟨2127, 0, none⟩) 3 1, inN 100], [(2127, .cells #[inN 0, inN 0, inN (-1)] 3 (0, 0))], 2129⟩
theorem m115_2121_ok : isMemo m115_2121 (m115_2121.run Try.prog goFns insOrc 100000) = true := by decide +kernel
def m103_2135 : Memo :=
  ⟨103, #[.agg #[.slice (some ⟨421, 0, none⟩) 4 4, .slice (some ⟨422, 0, none⟩) 2 3, inN 2, inN 100, inN 200, inN 200, inN 300, inN 500, inN 1000, inN 20, inN 50], .agg #[inN 1, inN 258], inN 20, inN 1], [(421, .cells #[inN 100, inN 10, inN 20, inN (-1), inN 150, inN 20, inN 30, inN (-1), inN 180, inN 20, inN 40, inN 10, inN 175, inN 10, inN 20, inN 0] 59 (0, 0)), (422, .cells #[inN 60, inN 0, inN 50, inN 0, inN 25, inN 20] 85 (0, 0))], 2135, .tuple #[inN 213, .bool true], [], 2147⟩
theorem m103_2135_ok : isMemo m103_2135 (m103_2135.drun Try.prog goFns insOrc 100000) = true := by decide +kernel
def m103_2154 : Memo :=
  ⟨103, #[.agg #[.slice (some ⟨421, 0, none⟩) 4 4, .slice (some ⟨422, 0, none⟩) 2 3, inN 2, inN 100, inN 200, inN 200, inN 300, inN 500, inN 1000, inN 20, inN 50], .agg #[inN 2, inN 213], inN 20, inN (-1)], [(421, .cells #[inN 100, inN 10, inN 20, inN (-1), inN 150, inN 20, inN 30, inN (-1), inN 180, inN 20, inN 40, inN 10, inN 175, inN 10, inN 20, inN 0] 59 (0, 0))], 2154, .tuple #[inN 193, .bool true], [], 2166⟩
theorem m103_2154_ok : isMemo m103_2154 (m103_2154.drun Try.prog goFns insOrc 100000) = true := by decide +kernel
def m115_2177 : Memo :=
  ⟨115, #[.agg #[.slice (some ⟨1509, 0, none⟩) 1 1, inN 0], inN (-1), inN 0], [(1509, .cells #[inN (-1)] 3 (0, 0))], 2177, .agg #[.slice (some ⟨2183, 0, none⟩) 2 1, inN 0], [(2183, .cells #[inN (-1), inN (-1)] 3 (0, 0))], 2185⟩
theorem m115_2177_ok : isMemo m115_2177 (m115_2177.run Try.prog goFns insOrc 100000) = true := by decide +kernel
def m115_2190 : Memo :=
  ⟨115, #[.agg #[.slice (some ⟨1585, 0, none⟩) 1 1, inN 20], inN (-1), inN 0], [(1585, .cells #[inN 1] 3 (0, 0))], 2190, .agg #[.slice (some ⟨2196, 0, none⟩) 2 1, inN 20], [(2196, .cells #[inN (-1), inN 1] 3 (0, 0))], 2198⟩
theorem m115_2190_ok : isMemo m115_2190 (m115_2190.run Try.prog goFns insOrc 100000) = true := by decide +kernel
def m103_2204 : Memo :=
  ⟨103, #[.agg #[.slice (some ⟨421, 0, none⟩) 4 4, .slice (some ⟨422, 0, none⟩) 2 3, inN 2, inN 100, inN 200, inN 200, inN 300, inN 500, inN 1000, inN 20, inN 50], .agg #[inN 2, inN 213], inN 20, inN 0], [(421, .cells #[inN 100, inN 10, inN 20, inN (-1), inN 150, inN 20, inN 30, inN (-1), inN 180, inN 20, inN 40, inN 10, inN 175, inN 10, inN 20, inN 0] 59 (0, 0)), (422, .cells #[inN 60, inN 0, inN 50, inN 0, inN 25, inN 20] 85 (0, 0))], 2204, .tuple #[inN 0, .bool false], [], 2216⟩
theorem m103_2204_ok : isMemo m103_2204 (m103_2204.drun Try.prog goFns insOrc 100000) = true := by decide +kernel
def m115_2227 : Memo :=
  ⟨115, #[.agg #[.slice (some ⟨1277, 0, none⟩) 1 1, inN 0], inN 0, inN 50], [(1277, .cells #[inN (-1)] 3 (0, 0))], 2227, .agg #[.slice (some ⟨2233, 0, none⟩) 2 1, inN 50], [(2233, .cells #[inN 0, inN (-1)] 3 (0, 0))], 2235⟩
theorem m115_2227_ok : isMemo m115_2227 (m115_2227.run Try.prog goFns insOrc 100000) = true := by decide +kernel
def m115_2240 : Memo :=
  ⟨115, #[.agg #[.slice (some ⟨1277, 0, none⟩) 1 1, inN 0], inN 0, inN 50], [(1277, .cells #[inN (-1)] 3 (0, 0))], 2240, .agg #[.slice (some ⟨2246, 0, none⟩) 2 1, inN 50], [(2246, .cells #[inN 0, inN (-1)] 3 (0, 0))], 2248⟩
theorem m115_2240_ok : isMemo m115_2240 (m115_2240.run Try.prog goFns insOrc 100000) = true := by decide +kernel
def m103_2256 : Memo :=
  ⟨103, #[.agg #[.slice (some ⟨421, 0, none⟩) 4 4, .slice (some ⟨422, 0, none⟩) 2 3, inN 2, inN 100, inN 200, inN 200, inN 300, inN 500, inN 1000, inN 20, inN 50], .agg #[inN 2, inN 213], inN 20, inN 1], [(421, .cells #[inN 100, inN 10, inN 20, inN (-1), inN 150, inN 20, inN 30, inN (-1), inN 180, inN 20, inN 40, inN 10, inN 175, inN 10, inN 20, inN 0] 59 (0, 0)), (422, .cells #[inN 60, inN 0, inN 50, inN 0, inN 25, inN 20] 85 (0, 0))], 2256, .tuple #[inN 0, .bool false], [], 2268⟩
theorem m103_2256_ok : isMemo m103_2256 (m103_2256.drun Try.prog goFns insOrc 100000) = true := by decide +kernel
def m115_2279 : Memo :=
  ⟨115, #[.agg #[.slice (some ⟨1277, 0, none⟩) 1 1, inN 0], inN 1, inN 20], [(1277, .cells #[inN (-1)] 3 (0, 0))], 2279, .agg #[.slice (some ⟨2285, 0, none⟩) 2 1, inN 20], [(2285, .cells #[inN 1, inN (-1)] 3 (0, 0))], 2287⟩
theorem m115_2279_ok : isMemo m115_2279 (m115_2279.run Try.prog goFns insOrc 100000) = true := by decide +kernel
def m115_2292 : Memo :=
  ⟨115, #[.agg #[.slice (some ⟨1277, 0, none⟩) 1 1, inN 0], inN 1, inN 20], [(1277, .cells #[inN (-1)] 3 (0, 0))], 2292, .agg #[.slice (some ⟨2298, 0, none⟩) 2 1, inN 20], [(2298, .cells #[inN 1, inN (-1)] 3 (0, 0))], 2300⟩
theorem m115_2292_ok : isMemo m115_2292 (m115_2292.run Try.prog goFns insOrc 100000) = true := by decide +kernel
def m108_2304 : Memo :=
  ⟨108, #[.slice (some ⟨2303, 0, none⟩) 3 1], [(2301, .cells #[.slice (some ⟨2285, 0, none⟩) 2 1, inN 20, .slice (some ⟨2285, 0, none⟩) 2 1, inN 20, .slice (some ⟨2298, 0, none⟩) 2 1, inN 20] 108 (0, 0)), (2249, .cells #[.slice (some ⟨2233, 0, none⟩) 2 1, inN 50, .slice (some ⟨2233, 0, none⟩) 2 1, inN 50, .slice (some ⟨2246, 0, none⟩) 2 1, inN 50] 108 (0, 0)), (2171, .cells #[.slice (some ⟨2183, 0, none⟩) 2 1, inN 0, .slice (some ⟨2196, 0, none⟩) 2 1, inN 20] 108 (0, 0)), (2303, .cells #[.slice (some ⟨2171, 0, none⟩) 2 2, .slice (some ⟨2249, 0, none⟩) 3 2, .slice (some ⟨2301, 0, none⟩) 3 2] 130 (0, 0))], 2304, .slice (some ⟨2378, 0, none⟩) 3 2, [(2378, .cells #[.slice (some ⟨2183, 0, none⟩) 2 1, inN 0, .slice (some ⟨2196, 0, none⟩) 2 1, inN 20, .slice (some ⟨2298, 0, none⟩) 2 1, inN 20] 108 (0, 0))], 2388⟩
theorem m108_2304_ok : isMemo m108_2304 (m108_2304.run Try.prog goFns insOrc 100000) = true := by decide +kernel
def m115_2396 : Memo :=
  ⟨115, #[.agg #[.slice (some ⟨2183, 0, none⟩) 2 1, inN 0], inN 1, inN 20], [(2183, .cells #[inN (-1), inN (-1)] 3 (0, 0))], 2396, .agg #[.slice (some ⟨2402, 0, none⟩) 3 1, inN 20], [(2402, .cells #[inN 1, inN (-1), inN (-1)] 3 (0, 0))], 2404⟩
theorem m115_2396_ok : isMemo m115_2396 (m115_2396.run Try.prog goFns insOrc 100000) = true := by decide +kernel
end Go.Proofs.Ytiigkdhaofaijaa

namespace Go.Proofs.Ytiigkdhaofaijaa
open Go Go.CE Go.RowKit
def m115_2409 : Memo :=
  ⟨115, #[.agg #[.slice (some ⟨2196, 0, none⟩) 2 1, inN 20], inN 1, inN 20], [(2196, .cells #[inN (-1), inN 1] 3 (0, 0))], 2409, .agg #[.slice (some ⟨2415, 0, none⟩) 3 1, inN 40], [(2415, .cells #[inN 1, inN (-1), inN 1] 3 (0, 0))], 2417⟩
theorem m115_2409_ok : isMemo m115_2409 (m115_2409.run Try.prog goFns insOrc 100000) = true := by decide +kernel
def m115_2422 : Memo :=
  ⟨115, #[.agg #[.slice (some ⟨2298, 0, none⟩) 2 1, inN 20], inN 1, inN 20], [(2298, .cells #[inN 1, inN (-1)] 3 (0, 0))], 2422, .agg #[.slice (some ⟨2428, 0, none⟩) 3 1, inN 40], [(2428, .cells #[inN 1, inN 1, inN (-1)] 3 (0, 0))], 2430⟩
theorem m115_2422_ok : isMemo m115_2422 (m115_2422.run Try.prog goFns insOrc 100000) = true := by decide +kernel
def m108_2432 : Memo :=
  ⟨108, #[.slice (some ⟨2431, 0, none⟩) 3 1], [(2390, .cells #[.slice (some ⟨2402, 0, none⟩) 3 1, inN 20, .slice (some ⟨2415, 0, none⟩) 3 1, inN 40, .slice (some ⟨2428, 0, none⟩) 3 1, inN 40] 108 (0, 0)), (2089, .cells #[.slice (some ⟨2101, 0, none⟩) 3 1, inN 50, .slice (some ⟨2114, 0, none⟩) 3 1, inN 90, .slice (some ⟨2127, 0, none⟩) 3 1, inN 100] 108 (0, 0)), (2026, .cells #[.slice (some ⟨2038, 0, none⟩) 3 1, inN 0, .slice (some ⟨2051, 0, none⟩) 3 1, inN 40, .slice (some ⟨2064, 0, none⟩) 3 1, inN 50] 108 (0, 0)), (2431, .cells #[.slice (some ⟨2026, 0, none⟩) 3 2, .slice (some ⟨2089, 0, none⟩) 3 2, .slice (some ⟨2390, 0, none⟩) 3 2] 130 (0, 0))], 2432, .slice (some ⟨2512, 0, none⟩) 3 2, [(2512, .cells #[.slice (some ⟨2038, 0, none⟩) 3 1, inN 0, .slice (some ⟨2051, 0, none⟩) 3 1, inN 40, .slice (some ⟨2428, 0, none⟩) 3 1, inN 40] 108 (0, 0))], 2522⟩
theorem m108_2432_ok : isMemo m108_2432 (m108_2432.run Try.prog goFns insOrc 100000) = true := by decide +kernel
def m115_2530 : Memo :=
  ⟨115, #[.agg #[.slice (some ⟨2038, 0, none⟩) 3 1, inN 0], inN 1, inN 20], [(2038, .cells #[inN (-1), inN (-1), inN (-1)] 3 (0, 0))], 2530, .agg #[.slice (some ⟨2536, 0, none⟩) 4 1, inN 20], [(2536, .cells #[inN 1, inN (-1), inN (-1), inN (-1)] 3 (0, 0))], 2538⟩
theorem m115_2530_ok : isMemo m115_2530 (m115_2530.run Try.prog goFns insOrc 100000) = true := by decide +kernel
def m115_2543 : Memo :=
  ⟨115, #[.agg #[.slice (some ⟨2051, 0, none⟩) 3 1, inN 40], inN 1, inN 20], [(2051, .cells #[inN (-1), inN 1, inN 1] 3 (0, 0))], 2543, .agg #[.slice (some ⟨2549, 0, none⟩) 4 1, inN 60], [(2549, .cells #[inN 1, inN (-1), inN 1, inN 1] 3 (0, 0))], 2551⟩
theorem m115_2543_ok : isMemo m115_2543 (m115_2543.run Try.prog goFns insOrc 100000) = true := by decide +kernel
def m115_2556 : Memo :=
  ⟨115, #[.agg #[.slice (some ⟨2428, 0, none⟩) 3 1, inN 40], inN 1, inN 20], [(2428, .cells #[inN 1, inN 1, inN (-1)] 3 (0, 0))], 2556, .agg #[.slice (some ⟨2562, 0, none⟩) 4 1, inN 60], [(2562, .cells #[inN 1, inN 1, inN 1, inN (-1)] 3 (0, 0))], 2564⟩
theorem m115_2556_ok : isMemo m115_2556 (m115_2556.run Try.prog goFns insOrc 100000) = true := by decide +kernel
def m108_2566 : Memo :=
  ⟨108, #[.slice (some ⟨2565, 0, none⟩) 3 1], [(2524, .cells #[.slice (some ⟨2536, 0, none⟩) 4 1, inN 20, .slice (some ⟨2549, 0, none⟩) 4 1, inN 60, .slice (some ⟨2562, 0, none⟩) 4 1, inN 60] 108 (0, 0)), (1944, .cells #[.slice (some ⟨1956, 0, none⟩) 4 1, inN 50, .slice (some ⟨1969, 0, none⟩) 4 1, inN 100, .slice (some ⟨1982, 0, none⟩) 4 1, inN 120] 108 (0, 0)), (1881, .cells #[.slice (some ⟨1893, 0, none⟩) 4 1, inN 0, .slice (some ⟨1906, 0, none⟩) 4 1, inN 50, .slice (some ⟨1919, 0, none⟩) 4 1, inN 70] 108 (0, 0)), (2565, .cells #[.slice (some ⟨1881, 0, none⟩) 3 2, .slice (some ⟨1944, 0, none⟩) 3 2, .slice (some ⟨2524, 0, none⟩) 3 2] 130 (0, 0))], 2566, .slice (some ⟨2646, 0, none⟩) 3 2, [(2646, .cells #[.slice (some ⟨1893, 0, none⟩) 4 1, inN 0, .slice (some ⟨1906, 0, none⟩) 4 1, inN 50, .slice (some ⟨2562, 0, none⟩) 4 1, inN 60] 108 (0, 0))], 2656⟩
theorem m108_2566_ok : isMemo m108_2566 (m108_2566.run Try.prog goFns insOrc 100000) = true := by decide +kernel
def m103_2743 : Memo :=
  ⟨103, #[.agg #[.slice (some ⟨2663, 0, none⟩) 4 4, .slice (some ⟨2664, 0, none⟩) 2 3, inN 2, inN 100, inN 200, inN 200, inN 300, inN 500, inN 1000, inN 20, inN 50], .agg #[inN 0, inN 293], inN 10, inN (-1)], [(2663, .cells #[inN 100, inN 10, inN 20, inN (-1), inN 150, inN 20, inN 30, inN (-1), inN 180, inN 20, inN 40, inN 10, inN 175, inN 10, inN 20, inN 0] 59 (0, 0))], 2743, .tuple #[inN 283, .bool true], [], 2755⟩
theorem m103_2743_ok : isMemo m103_2743 (m103_2743.drun Try.prog goFns insOrc 100000) = true := by decide +kernel
def m103_2762 : Memo :=
  ⟨103, #[.agg #[.slice (some ⟨2663, 0, none⟩) 4 4, .slice (some ⟨2664, 0, none⟩) 2 3, inN 2, inN 100, inN 200, inN 200, inN 300, inN 500, inN 1000, inN 20, inN 50], .agg #[inN 1, inN 283], inN 20, inN (-1)], [(2663, .cells #[inN 100, inN 10, inN 20, inN (-1), inN 150, inN 20, inN 30, inN (-1), inN 180, inN 20, inN 40, inN 10, inN 175, inN 10, inN 20, inN 0] 59 (0, 0))], 2762, .tuple #[inN 263, .bool true], [], 2774⟩
theorem m103_2762_ok : isMemo m103_2762 (m103_2762.drun Try.prog goFns insOrc 100000) = true := by decide +kernel
def m103_2781 : Memo :=
  ⟨103, #[.agg #[.slice (some ⟨2663, 0, none⟩) 4 4, .slice (some ⟨2664, 0, none⟩) 2 3, inN 2, inN 100, inN 200, inN 200, inN 300, inN 500, inN 1000, inN 20, inN 50], .agg #[inN 2, inN 263], inN 20, inN (-1)], [(2663, .cells #[inN 100, inN 10, inN 20, inN (-1), inN 150, inN 20, inN 30, inN (-1), inN 180, inN 20, inN 40, inN 10, inN 175, inN 10, inN 20, inN 0] 59 (0, 0))], 2781, .tuple #[inN 243, .bool true], [], 2793⟩
theorem m103_2781_ok : isMemo m103_2781 (m103_2781.drun Try.prog goFns insOrc 100000) = true := by decide +kernel
def m103_2800 : Memo :=
  ⟨103, #[.agg #[.slice (some ⟨2663, 0, none⟩) 4 4, .slice (some ⟨2664, 0, none⟩) 2 3, inN 2, inN 100, inN 200, inN 200, inN 300, inN 500, inN 1000, inN 20, inN 50], .agg #[inN 3, inN 243], inN 10, inN (-1)], [(2663, .cells #[inN 100, inN 10, inN 20, inN (-1), inN 150, inN 20, inN 30, inN (-1), inN 180, inN 20, inN 40, inN 10, inN 175, inN 10, inN 20, inN 0] 59 (0, 0))], 2800, .tuple #[inN 233, .bool true], [], 2812⟩
theorem m103_2800_ok : isMemo m103_2800 (m103_2800.drun Try.prog goFns insOrc 100000) = true := by decide +kernel
def m115_2824 : Memo :=
  ⟨115, #[.agg #[.slice none 0 0, inN 0], inN (-1), inN 0], [], 2824, .agg #[.slice (some ⟨2829, 0, none⟩) 1 1, inN 0], [(2829, .cells #[inN (-1)] 3 (0, 0))], 2831⟩
theorem m115_2824_ok : isMemo m115_2824 (m115_2824.run Try.prog goFns insOrc 100000) = true := by decide +kernel
def m103_2837 : Memo :=
  ⟨103, #[.agg #[.slice (some ⟨2663, 0, none⟩) 4 4, .slice (some ⟨2664, 0, none⟩) 2 3, inN 2, inN 100, inN 200, inN 200, inN 300, inN 500, inN 1000, inN 20, inN 50], .agg #[inN 3, inN 243], inN 10, inN 0], [(2663, .cells #[inN 100, inN 10, inN 20, inN (-1), inN 150, inN 20, inN 30, inN (-1), inN 180, inN 20, inN 40, inN 10, inN 175, inN 10, inN 20, inN 0] 59 (0, 0)), (2664, .cells #[inN 60, inN 0, inN 50, inN 0, inN 25, inN 20] 85 (0, 0))], 2837, .tuple #[inN 0, .bool false], [], 2849⟩
theorem m103_2837_ok : isMemo m103_2837 (m103_2837.drun Try.prog goFns insOrc 100000) = true := by decide +kernel
def m115_2861 : Memo :=
  ⟨115, #[.agg #[.slice none 0 0, inN 0], inN 0, inN 50], [], 2861, .agg #[.slice (some ⟨2866, 0, none⟩) 1 1, inN 50], [(2866, .cells #[inN 0] 3 (0, 0))], 2868⟩
theorem m115_2861_ok : isMemo m115_2861 (m115_2861.run Try.prog goFns insOrc 100000) = true := by decide +kernel
def m103_2876 : Memo :=
  ⟨103, #[.agg #[.slice (some ⟨2663, 0, none⟩) 4 4, .slice (some ⟨2664, 0, none⟩) 2 3, inN 2, inN 100, inN 200, inN 200, inN 300, inN 500, inN 1000, inN 20, inN 50], .agg #[inN 3, inN 243], inN 10, inN 1], [(2663, .cells #[inN 100, inN 10, inN 20, inN (-1), inN 150, inN 20, inN 30, inN (-1), inN 180, inN 20, inN 40, inN 10, inN 175, inN 10, inN 20, inN 0] 59 (0, 0)), (2664, .cells #[inN 60, inN 0, inN 50, inN 0, inN 25, inN 20] 85 (0, 0))], 2876, .tuple #[inN 208, .bool true], [], 2888⟩
theorem m103_2876_ok : isMemo m103_2876 (m103_2876.drun Try.prog goFns insOrc 100000) = true := by decide +kernel
def m115_2900 : Memo :=
  ⟨115, #[.agg #[.slice none 0 0, inN 0], inN 1, inN 20], [], 2900, .agg #[.slice (some ⟨2905, 0, none⟩) 1 1, inN 20], [(2905, .cells #[inN 1] 3 (0, 0))], 2907⟩
theorem m115_2900_ok : isMemo m115_2900 (m115_2900.run Try.prog goFns insOrc 100000) = true := by decide +kernel
def m108_2909 : Memo :=
  ⟨108, #[.slice (some ⟨2908, 0, none⟩) 3 1], [(2894, .cells #[.slice (some ⟨2905, 0, none⟩) 1 1, inN 20] 108 (0, 0)), (2869, .cells #[.slice (some ⟨2866, 0, none⟩) 1 1, inN 50, .slice (some ⟨2866, 0, none⟩) 1 1, inN 50] 108 (0, 0)), (2818, .cells #[.slice (some ⟨2829, 0, none⟩) 1 1, inN 0] 108 (0, 0)), (2908, .cells #[.slice (some ⟨2818, 0, none⟩) 1 2, .slice (some ⟨2869, 0, none⟩) 2 2, .slice (some ⟨2894, 0, none⟩) 1 2] 130 (0, 0))], 2909, .slice (some ⟨2950, 0, none⟩) 2 2, [(2950, .cells #[.slice (some ⟨2829, 0, none⟩) 1 1, inN 0, .slice (some ⟨2866, 0, none⟩) 1 1, inN 50] 108 (0, 0))], 2960⟩
theorem m108_2909_ok : isMemo m108_2909 (m108_2909.run Try.prog goFns insOrc 100000) = true := by decide +kernel
def m115_2968 : Memo :=
  ⟨115, #[.agg #[.slice (some ⟨2829, 0, none⟩) 1 1, inN 0], inN (-1), inN 0], [(2829, .cells #[inN (-1)] 3 (0, 0))], 2968, .agg #[.slice (some ⟨2974, 0, none⟩) 2 1, inN 0], [(2974, .cells #[inN (-1), inN (-1)] 3 (0, 0))], 2976⟩
theorem m115_2968_ok : isMemo m115_2968 (m115_2968.run Try.prog goFns insOrc 100000) = true := by decide +kernel
def m115_2981 : Memo :=
  ⟨115, #[.agg #[.slice (some ⟨2866, 0, none⟩) 1 1, inN 50], inN (-1), inN 0], [(2866, .cells #[inN 0] 3 (0, 0))], 2981, .agg #[.slice (some ⟨2987, 0, none⟩) 2 1, inN 50], [(2987, .cells #[inN (-1), inN 0] 3 (0, 0))], 2989⟩
theorem m115_2981_ok : isMemo m115_2981 (m115_2981.run Try.prog goFns insOrc 100000) = true := by decide +kernel
def m103_2995 : Memo :=
  ⟨103, #[.agg #[.slice (some ⟨2663, 0, none⟩) 4 4, .slice (some ⟨2664, 0, none⟩) 2 3, inN 2, inN 100, inN 200, inN 200, inN 300, inN 500, inN 1000, inN 20, inN 50], .agg #[inN 2, inN 263], inN 20, inN 0], [(2663, .cells #[inN 100, inN 10, inN 20, inN (-1), inN 150, inN 20, inN 30, inN (-1), inN 180, inN 20, inN 40, inN 10, inN 175, inN 10, inN 20, inN 0] 59 (0, 0)), (2664, .cells #[inN 60, inN 0, inN 50, inN 0, inN 25, inN 20] 85 (0, 0))], 2995, .tuple #[inN 243, .bool true], [], 3007⟩
theorem m103_2995_ok : isMemo m103_2995 (m103_2995.drun Try.prog goFns insOrc 100000) = true := by decide +kernel
def m115_3018 : Memo :=
  ⟨115, #[.agg #[.slice (some ⟨2829, 0, none⟩) 1 1, inN 0], inN 0, inN 50], [(2829, .cells #[inN (-1)] 3 (0, 0))], 3018, .agg #[.slice (some ⟨3024, 0, none⟩) 2 1, inN 50], [(3024, .cells #[inN 0, inN (-1)] 3 (0, 0))], 3026⟩
theorem m115_3018_ok : isMemo m115_3018 (m115_3018.run Try.prog goFns insOrc 100000) = true := by decide +kernel
def m115_3031 : Memo :=
  ⟨115, #[.agg #[.slice (some ⟨2866, 0, none⟩) 1 1, inN 50], inN 0, inN 50], [(2866, .cells #[inN 0] 3 (0, 0))], 3031, .agg #[.slice (some ⟨3037, 0, none⟩) 2 1, inN 100], [(3037, .cells #[inN 0, inN 0] 3 (0, 0))], 3039⟩
theorem m115_3031_ok : isMemo m115_3031 (m115_3031.run Try.prog goFns insOrc 100000) = true := by decide +kernel
def m103_3045 : Memo :=
  ⟨103, #[.agg #[.slice (some ⟨2663, 0, none⟩) 4 4, .slice (some ⟨2664, 0, none⟩) 2 3, inN 2, inN 100, inN 200, inN 200, inN 300, inN 500, inN 1000, inN 20, inN 50], .agg #[inN 2, inN 263], inN 20, inN 1], [(2663, .cells #[inN 100, inN 10, inN 20, inN (-1), inN 150, inN 20, inN 30, inN (-1), inN 180, inN 20, inN 40, inN 10, inN 175, inN 10, inN 20, inN 0] 59 (0, 0)), (2664, .cells #[inN 60, inN 0, inN 50, inN 0, inN 25, inN 20] 85 (0, 0))], 3045, .tuple #[inN 218, .bool true], [], 3057⟩
theorem m103_3045_ok : isMemo m103_3045 (m103_3045.drun Try.prog goFns insOrc 100000) = true := by decide +kernel
def m103_3064 : Memo :=
  ⟨103, #[.agg #[.slice (some ⟨2663, 0, none⟩) 4 4, .slice (some ⟨2664, 0, none⟩) 2 3, inN 2, inN 100, inN 200, inN 200, inN 300, inN 500, inN 1000, inN 20, inN 50], .agg #[inN 3, inN 218], inN 10, inN (-1)], [(2663, .cells #[inN 100, inN 10, inN 20, inN (-1), inN 150, inN 20, inN 30, inN (-1), inN 180, inN 20, inN 40, inN 10, inN 175, inN 10, inN 20, inN 0] 59 (0, 0))], 3064, .tuple #[inN 208, .bool true], [], 3076⟩
theorem m103_3064_ok : isMemo m103_3064 (m103_3064.drun Try.prog goFns insOrc 100000) = true := by decide +kernel
end Go.Proofs.Ytiigkdhaofaijaa

namespace Go.Proofs.Ytiigkdhaofaijaa
open Go Go.CE Go.RowKit
noncomputable def orc_m106_496 : Orc := orElse insOrc (memoOrc [m103_500])
theorem orc_m106_496_ok (B : Lo) : OrcS Try.prog B orc_m106_496 := orElse_ok (insOrc_ok _) (orcS_consD goFns_ok mixed_ok (insOrc_ok _) m103_500_ok (orcS_nil _ _))
def m106_496 : Memo :=
  ⟨106, #[.agg #[.slice (some ⟨421, 0, none⟩) 4 4, .slice (some ⟨422, 0, none⟩) 2 3, inN 2, inN 100, inN 200, inN 200, inN 300, inN 500, inN 1000, inN 20, inN 50], .agg #[inN 0, inN 293], inN 10, inN (-1)], [(421, .cells #[inN 100, inN 10, inN 20, inN (-1), inN 150, inN 20, inN 30, inN (-1), inN 180, inN 20, inN 40, inN 10, inN 175, inN 10, inN 20, inN 0] 59 (0, 0))], 496, .tuple #[.agg #[inN 1, inN 283], .bool false], [], 513⟩
theorem m106_496_ok : isMemo m106_496 (m106_496.run Try.prog goFns orc_m106_496 100000) = true := by decide +kernel
noncomputable def orc_m106_515 : Orc := orElse insOrc (memoOrc [m103_519])
theorem orc_m106_515_ok (B : Lo) : OrcS Try.prog B orc_m106_515 := orElse_ok (insOrc_ok _) (orcS_consD goFns_ok mixed_ok (insOrc_ok _) m103_519_ok (orcS_nil _ _))
def m106_515 : Memo :=
  ⟨106, #[.agg #[.slice (some ⟨421, 0, none⟩) 4 4, .slice (some ⟨422, 0, none⟩) 2 3, inN 2, inN 100, inN 200, inN 200, inN 300, inN 500, inN 1000, inN 20, inN 50], .agg #[inN 1, inN 283], inN 20, inN (-1)], [(421, .cells #[inN 100, inN 10, inN 20, inN (-1), inN 150, inN 20, inN 30, inN (-1), inN 180, inN 20, inN 40, inN 10, inN 175, inN 10, inN 20, inN 0] 59 (0, 0))], 515, .tuple #[.agg #[inN 2, inN 263], .bool false], [], 532⟩
theorem m106_515_ok : isMemo m106_515 (m106_515.run Try.prog goFns orc_m106_515 100000) = true := by decide +kernel
noncomputable def orc_m106_534 : Orc := orElse insOrc (memoOrc [m103_538])
theorem orc_m106_534_ok (B : Lo) : OrcS Try.prog B orc_m106_534 := orElse_ok (insOrc_ok _) (orcS_consD goFns_ok mixed_ok (insOrc_ok _) m103_538_ok (orcS_nil _ _))
def m106_534 : Memo :=
  ⟨106, #[.agg #[.slice (some ⟨421, 0, none⟩) 4 4, .slice (some ⟨422, 0, none⟩) 2 3, inN 2, inN 100, inN 200, inN 200, inN 300, inN 500, inN 1000, inN 20, inN 50], .agg #[inN 2, inN 263], inN 20, inN (-1)], [(421, .cells #[inN 100, inN 10, inN 20, inN (-1), inN 150, inN 20, inN 30, inN (-1), inN 180, inN 20, inN 40, inN 10, inN 175, inN 10, inN 20, inN 0] 59 (0, 0))], 534, .tuple #[.agg #[inN 3, inN 243], .bool false], [], 551⟩
theorem m106_534_ok : isMemo m106_534 (m106_534.run Try.prog goFns orc_m106_534 100000) = true := by decide +kernel
noncomputable def orc_m106_553 : Orc := orElse insOrc (memoOrc [m103_557])
theorem orc_m106_553_ok (B : Lo) : OrcS Try.prog B orc_m106_553 := orElse_ok (insOrc_ok _) (orcS_consD goFns_ok mixed_ok (insOrc_ok _) m103_557_ok (orcS_nil _ _))
def m106_553 : Memo :=
  ⟨106, #[.agg #[.slice (some ⟨421, 0, none⟩) 4 4, .slice (some ⟨422, 0, none⟩) 2 3, inN 2, inN 100, inN 200, inN 200, inN 300, inN 500, inN 1000, inN 20, inN 50], .agg #[inN 3, inN 243], inN 10, inN (-1)], [(421, .cells #[inN 100, inN 10, inN 20, inN (-1), inN 150, inN 20, inN 30, inN (-1), inN 180, inN 20, inN 40, inN 10, inN 175, inN 10, inN 20, inN 0] 59 (0, 0))], 553, .tuple #[.agg #[inN 4, inN 233], .bool false], [], 570⟩
theorem m106_553_ok : isMemo m106_553 (m106_553.run Try.prog goFns orc_m106_553 100000) = true := by decide +kernel
noncomputable def orc_m107_573 : Orc := orElse insOrc (memoOrc [m115_581])
theorem orc_m107_573_ok (B : Lo) : OrcS Try.prog B orc_m107_573 := orElse_ok (insOrc_ok _) (orcS_cons goFns_ok mixed_ok (insOrc_ok _) m115_581_ok (orcS_nil _ _))
def m107_573 : Memo :=
  ⟨107, #[.agg #[.slice (some ⟨421, 0, none⟩) 4 4, .slice (some ⟨422, 0, none⟩) 2 3, inN 2, inN 100, inN 200, inN 200, inN 300, inN 500, inN 1000, inN 20, inN 50], .slice (some ⟨572, 0, none⟩) 1 2, inN (-1), .bool false], [(572, .cells #[.slice none 0 0, inN 0] 108 (0, 0))], 573, .slice (some ⟨575, 0, none⟩) 1 2, [(586, .cells #[inN (-1)] 3 (0, 0)), (575, .cells #[.slice (some ⟨586, 0, none⟩) 1 1, inN 0] 108 (0, 0))], 588⟩
theorem m107_573_ok : isMemo m107_573 (m107_573.run Try.prog goFns orc_m107_573 100000) = true := by decide +kernel
noncomputable def orc_m106_590 : Orc := orElse insOrc (memoOrc [m103_594])
theorem orc_m106_590_ok (B : Lo) : OrcS Try.prog B orc_m106_590 := orElse_ok (insOrc_ok _) (orcS_consD goFns_ok mixed_ok (insOrc_ok _) m103_594_ok (orcS_nil _ _))
def m106_590 : Memo :=
  ⟨106, #[.agg #[.slice (some ⟨421, 0, none⟩) 4 4, .slice (some ⟨422, 0, none⟩) 2 3, inN 2, inN 100, inN 200, inN 200, inN 300, inN 500, inN 1000, inN 20, inN 50], .agg #[inN 3, inN 243], inN 10, inN 0], [(422, .cells #[inN 60, inN 0, inN 50, inN 0, inN 25, inN 20] 85 (0, 0)), (421, .cells #[inN 100, inN 10, inN 20, inN (-1), inN 150, inN 20, inN 30, inN (-1), inN 180, inN 20, inN 40, inN 10, inN 175, inN 10, inN 20, inN 0] 59 (0, 0))], 590, .tuple #[.agg #[inN 4, inN (-5000)], .bool true], [], 607⟩
theorem m106_590_ok : isMemo m106_590 (m106_590.run Try.prog goFns orc_m106_590 100000) = true := by decide +kernel
noncomputable def orc_m107_610 : Orc := orElse insOrc (memoOrc [m115_618])
theorem orc_m107_610_ok (B : Lo) : OrcS Try.prog B orc_m107_610 := orElse_ok (insOrc_ok _) (orcS_cons goFns_ok mixed_ok (insOrc_ok _) m115_618_ok (orcS_nil _ _))
def m107_610 : Memo :=
  ⟨107, #[.agg #[.slice (some ⟨421, 0, none⟩) 4 4, .slice (some ⟨422, 0, none⟩) 2 3, inN 2, inN 100, inN 200, inN 200, inN 300, inN 500, inN 1000, inN 20, inN 50], .slice (some ⟨609, 0, none⟩) 1 2, inN 0, .bool true], [(609, .cells #[.slice none 0 0, inN 0] 108 (0, 0)), (422, .cells #[inN 60, inN 0, inN 50, inN 0, inN 25, inN 20] 85 (0, 0))], 610, .slice (some ⟨626, 0, none⟩) 2 2, [(623, .cells #[inN 0] 3 (0, 0)), (626, .cells #[.slice (some ⟨623, 0, none⟩) 1 1, inN 50, .slice (some ⟨623, 0, none⟩) 1 1, inN 50] 108 (0, 0))], 627⟩
theorem m107_610_ok : isMemo m107_610 (m107_610.run Try.prog goFns orc_m107_610 100000) = true := by decide +kernel
noncomputable def orc_m106_629 : Orc := orElse insOrc (memoOrc [m103_633])
theorem orc_m106_629_ok (B : Lo) : OrcS Try.prog B orc_m106_629 := orElse_ok (insOrc_ok _) (orcS_consD goFns_ok mixed_ok (insOrc_ok _) m103_633_ok (orcS_nil _ _))
def m106_629 : Memo :=
  ⟨106, #[.agg #[.slice (some ⟨421, 0, none⟩) 4 4, .slice (some ⟨422, 0, none⟩) 2 3, inN 2, inN 100, inN 200, inN 200, inN 300, inN 500, inN 1000, inN 20, inN 50], .agg #[inN 3, inN 243], inN 10, inN 1], [(422, .cells #[inN 60, inN 0, inN 50, inN 0, inN 25, inN 20] 85 (0, 0)), (421, .cells #[inN 100, inN 10, inN 20, inN (-1), inN 150, inN 20, inN 30, inN (-1), inN 180, inN 20, inN 40, inN 10, inN 175, inN 10, inN 20, inN 0] 59 (0, 0))], 629, .tuple #[.agg #[inN 4, inN 208], .bool false], [], 646⟩
theorem m106_629_ok : isMemo m106_629 (m106_629.run Try.prog goFns orc_m106_629 100000) = true := by decide +kernel
noncomputable def orc_m107_649 : Orc := orElse insOrc (memoOrc [m115_657])
theorem orc_m107_649_ok (B : Lo) : OrcS Try.prog B orc_m107_649 := orElse_ok (insOrc_ok _) (orcS_cons goFns_ok mixed_ok (insOrc_ok _) m115_657_ok (orcS_nil _ _))
def m107_649 : Memo :=
  ⟨107, #[.agg #[.slice (some ⟨421, 0, none⟩) 4 4, .slice (some ⟨422, 0, none⟩) 2 3, inN 2, inN 100, inN 200, inN 200, inN 300, inN 500, inN 1000, inN 20, inN 50], .slice (some ⟨648, 0, none⟩) 1 2, inN 1, .bool false], [(648, .cells #[.slice none 0 0, inN 0] 108 (0, 0)), (422, .cells #[inN 60, inN 0, inN 50, inN 0, inN 25, inN 20] 85 (0, 0))], 649, .slice (some ⟨651, 0, none⟩) 1 2, [(662, .cells #[inN 1] 3 (0, 0)), (651, .cells #[.slice (some ⟨662, 0, none⟩) 1 1, inN 20] 108 (0, 0))], 664⟩
theorem m107_649_ok : isMemo m107_649 (m107_649.run Try.prog goFns orc_m107_649 100000) = true := by decide +kernel
noncomputable def orc_m107_717 : Orc := orElse insOrc (memoOrc [m115_725, m115_738])
theorem orc_m107_717_ok (B : Lo) : OrcS Try.prog B orc_m107_717 := orElse_ok (insOrc_ok _) (orcS_cons goFns_ok mixed_ok (insOrc_ok _) m115_725_ok (orcS_cons goFns_ok mixed_ok (insOrc_ok _) m115_738_ok (orcS_nil _ _)))
def m107_717 : Memo :=
  ⟨107, #[.agg #[.slice (some ⟨421, 0, none⟩) 4 4, .slice (some ⟨422, 0, none⟩) 2 3, inN 2, inN 100, inN 200, inN 200, inN 300, inN 500, inN 1000, inN 20, inN 50], .slice (some ⟨707, 0, none⟩) 2 2, inN (-1), .bool false], [(707, .cells #[.slice (some ⟨586, 0, none⟩) 1 1, inN 0, .slice (some ⟨623, 0, none⟩) 1 1, inN 50] 108 (0, 0)), (586, .cells #[inN (-1)] 3 (0, 0)), (623, .cells #[inN 0] 3 (0, 0))], 717, .slice (some ⟨719, 0, none⟩) 2 2, [(744, .cells #[inN (-1), inN 0] 3 (0, 0)), (731, .cells #[inN (-1), inN (-1)] 3 (0, 0)), (719, .cells #[.slice (some ⟨731, 0, none⟩) 2 1, inN 0, .slice (some ⟨744, 0, none⟩) 2 1, inN 50] 108 (0, 0))], 746⟩
theorem m107_717_ok : isMemo m107_717 (m107_717.run Try.prog goFns orc_m107_717 100000) = true := by decide +kernel
noncomputable def orc_m106_748 : Orc := orElse insOrc (memoOrc [m103_752])
theorem orc_m106_748_ok (B : Lo) : OrcS Try.prog B orc_m106_748 := orElse_ok (insOrc_ok _) (orcS_consD goFns_ok mixed_ok (insOrc_ok _) m103_752_ok (orcS_nil _ _))
def m106_748 : Memo :=
  ⟨106, #[.agg #[.slice (some ⟨421, 0, none⟩) 4 4, .slice (some ⟨422, 0, none⟩) 2 3, inN 2, inN 100, inN 200, inN 200, inN 300, inN 500, inN 1000, inN 20, inN 50], .agg #[inN 2, inN 263], inN 20, inN 0], [(422, .cells #[inN 60, inN 0, inN 50, inN 0, inN 25, inN 20] 85 (0, 0)), (421, .cells #[inN 100, inN 10, inN 20, inN (-1), inN 150, inN 20, inN 30, inN (-1), inN 180, inN 20, inN 40, inN 10, inN 175, inN 10, inN 20, inN 0] 59 (0, 0))], 748, .tuple #[.agg #[inN 3, inN 243], .bool false], [], 765⟩
theorem m106_748_ok : isMemo m106_748 (m106_748.run Try.prog goFns orc_m106_748 100000) = true := by decide +kernel
noncomputable def orc_m107_767 : Orc := orElse insOrc (memoOrc [m115_775, m115_788])
theorem orc_m107_767_ok (B : Lo) : OrcS Try.prog B orc_m107_767 := orElse_ok (insOrc_ok _) (orcS_cons goFns_ok mixed_ok (insOrc_ok _) m115_775_ok (orcS_cons goFns_ok mixed_ok (insOrc_ok _) m115_788_ok (orcS_nil _ _)))
def m107_767 : Memo :=
  ⟨107, #[.agg #[.slice (some ⟨421, 0, none⟩) 4 4, .slice (some ⟨422, 0, none⟩) 2 3, inN 2, inN 100, inN 200, inN 200, inN 300, inN 500, inN 1000, inN 20, inN 50], .slice (some ⟨707, 0, none⟩) 2 2, inN 0, .bool false], [(707, .cells #[.slice (some ⟨586, 0, none⟩) 1 1, inN 0, .slice (some ⟨623, 0, none⟩) 1 1, inN 50] 108 (0, 0)), (586, .cells #[inN (-1)] 3 (0, 0)), (422, .cells #[inN 60, inN 0, inN 50, inN 0, inN 25, inN 20] 85 (0, 0)), (623, .cells #[inN 0] 3 (0, 0))], 767, .slice (some ⟨769, 0, none⟩) 2 2, [(794, .cells #[inN 0, inN 0] 3 (0, 0)), (781, .cells #[inN 0, inN (-1)] 3 (0, 0)), (769, .cells #[.slice (some ⟨781, 0, none⟩) 2 1, inN 50, .slice (some ⟨794, 0, none⟩) 2 1, inN 100] 108 (0, 0))], 796⟩
theorem m107_767_ok : isMemo m107_767 (m107_767.run Try.prog goFns orc_m107_767 100000) = true := by decide +kernel
noncomputable def orc_m106_798 : Orc := orElse insOrc (memoOrc [m103_802])
theorem orc_m106_798_ok (B : Lo) : OrcS Try.prog B orc_m106_798 := orElse_ok (insOrc_ok _) (orcS_consD goFns_ok mixed_ok (insOrc_ok _) m103_802_ok (orcS_nil _ _))
def m106_798 : Memo :=
  ⟨106, #[.agg #[.slice (some ⟨421, 0, none⟩) 4 4, .slice (some ⟨422, 0, none⟩) 2 3, inN 2, inN 100, inN 200, inN 200, inN 300, inN 500, inN 1000, inN 20, inN 50], .agg #[inN 2, inN 263], inN 20, inN 1], [(422, .cells #[inN 60, inN 0, inN 50, inN 0, inN 25, inN 20] 85 (0, 0)), (421, .cells #[inN 100, inN 10, inN 20, inN (-1), inN 150, inN 20, inN 30, inN (-1), inN 180, inN 20, inN 40, inN 10, inN 175, inN 10, inN 20, inN 0] 59 (0, 0))], 798, .tuple #[.agg #[inN 3, inN 218], .bool false], [], 815⟩
theorem m106_798_ok : isMemo m106_798 (m106_798.run Try.prog goFns orc_m106_798 100000) = true := by decide +kernel
noncomputable def orc_m106_817 : Orc := orElse insOrc (memoOrc [m103_821])
theorem orc_m106_817_ok (B : Lo) : OrcS Try.prog B orc_m106_817 := orElse_ok (insOrc_ok _) (orcS_consD goFns_ok mixed_ok (insOrc_ok _) m103_821_ok (orcS_nil _ _))
def m106_817 : Memo :=
  ⟨106, #[.agg #[.slice (some ⟨421, 0, none⟩) 4 4, .slice (some ⟨422, 0, none⟩) 2 3, inN 2, inN 100, inN 200, inN 200, inN 300, inN 500, inN 1000, inN 20, inN 50], .agg #[inN 3, inN 218], inN 10, inN (-1)], [(421, .cells #[inN 100, inN 10, inN 20, inN (-1), inN 150, inN 20, inN 30, inN (-1), inN 180, inN 20, inN 40, inN 10, inN 175, inN 10, inN 20, inN 0] 59 (0, 0))], 817, .tuple #[.agg #[inN 4, inN 208], .bool false], [], 834⟩
theorem m106_817_ok : isMemo m106_817 (m106_817.run Try.prog goFns orc_m106_817 100000) = true := by decide +kernel
noncomputable def orc_m107_837 : Orc := orElse insOrc (memoOrc [m115_845])
theorem orc_m107_837_ok (B : Lo) : OrcS Try.prog B orc_m107_837 := orElse_ok (insOrc_ok _) (orcS_cons goFns_ok mixed_ok (insOrc_ok _) m115_845_ok (orcS_nil _ _))
def m107_837 : Memo :=
  ⟨107, #[.agg #[.slice (some ⟨421, 0, none⟩) 4 4, .slice (some ⟨422, 0, none⟩) 2 3, inN 2, inN 100, inN 200, inN 200, inN 300, inN 500, inN 1000, inN 20, inN 50], .slice (some ⟨836, 0, none⟩) 1 2, inN (-1), .bool false], [(836, .cells #[.slice none 0 0, inN 0] 108 (0, 0))], 837, .slice (some ⟨839, 0, none⟩) 1 2, [(850, .cells #[inN (-1)] 3 (0, 0)), (839, .cells #[.slice (some ⟨850, 0, none⟩) 1 1, inN 0] 108 (0, 0))], 852⟩
theorem m107_837_ok : isMemo m107_837 (m107_837.run Try.prog goFns orc_m107_837 100000) = true := by decide +kernel
noncomputable def orc_m106_854 : Orc := orElse insOrc (memoOrc [m103_858])
theorem orc_m106_854_ok (B : Lo) : OrcS Try.prog B orc_m106_854 := orElse_ok (insOrc_ok _) (orcS_consD goFns_ok mixed_ok (insOrc_ok _) m103_858_ok (orcS_nil _ _))
def m106_854 : Memo :=
  ⟨106, #[.agg #[.slice (some ⟨421, 0, none⟩) 4 4, .slice (some ⟨422, 0, none⟩) 2 3, inN 2, inN 100, inN 200, inN 200, inN 300, inN 500, inN 1000, inN 20, inN 50], .agg #[inN 3, inN 218], inN 10, inN 0], [(422, .cells #[inN 60, inN 0, inN 50, inN 0, inN 25, inN 20] 85 (0, 0)), (421, .cells #[inN 100, inN 10, inN 20, inN (-1), inN 150, inN 20, inN 30, inN (-1), inN 180, inN 20, inN 40, inN 10, inN 175, inN 10, inN 20, inN 0] 59 (0, 0))], 854, .tuple #[.agg #[inN 4, inN (-5000)], .bool true], [], 871⟩
theorem m106_854_ok : isMemo m106_854 (m106_854.run Try.prog goFns orc_m106_854 100000) = true := by decide +kernel
noncomputable def orc_m107_874 : Orc := orElse insOrc (memoOrc [m115_882])
theorem orc_m107_874_ok (B : Lo) : OrcS Try.prog B orc_m107_874 := orElse_ok (insOrc_ok _) (orcS_cons goFns_ok mixed_ok (insOrc_ok _) m115_882_ok (orcS_nil _ _))
def m107_874 : Memo :=
  ⟨107, #[.agg #[.slice (some ⟨421, 0, none⟩) 4 4, .slice (some ⟨422, 0, none⟩) 2 3, inN 2, inN 100, inN 200, inN 200, inN 300, inN 500, inN 1000, inN 20, inN 50], .slice (some ⟨873, 0, none⟩) 1 2, inN 0, .bool true], [(873, .cells #[.slice none 0 0, inN 0] 108 (0, 0)), (422, .cells #[inN 60, inN 0, inN 50, inN 0, inN 25, inN 20] 85 (0, 0))], 874, .slice (some ⟨890, 0, none⟩) 2 2, [(887, .cells #[inN 0] 3 (0, 0)), (890, .cells #[.slice (some ⟨887, 0, none⟩) 1 1, inN 50, .slice (some ⟨887, 0, none⟩) 1 1, inN 50] 108 (0, 0))], 891⟩
theorem m107_874_ok : isMemo m107_874 (m107_874.run Try.prog goFns orc_m107_874 100000) = true := by decide +kernel
noncomputable def orc_m106_893 : Orc := orElse insOrc (memoOrc [m103_897])
theorem orc_m106_893_ok (B : Lo) : OrcS Try.prog B orc_m106_893 := orElse_ok (insOrc_ok _) (orcS_consD goFns_ok mixed_ok (insOrc_ok _) m103_897_ok (orcS_nil _ _))
def m106_893 : Memo :=
  ⟨106, #[.agg #[.slice (some ⟨421, 0, none⟩) 4 4, .slice (some ⟨422, 0, none⟩) 2 3, inN 2, inN 100, inN 200, inN 200, inN 300, inN 500, inN 1000, inN 20, inN 50], .agg #[inN 3, inN 218], inN 10, inN 1], [(422, .cells #[inN 60, inN 0, inN 50, inN 0, inN 25, inN 20] 85 (0, 0)), (421, .cells #[inN 100, inN 10, inN 20, inN (-1), inN 150, inN 20, inN 30, inN (-1), inN 180, inN 20, inN 40, inN 10, inN 175, inN 10, inN 20, inN 0] 59 (0, 0))], 893, .tuple #[.agg #[inN 4, inN 183], .bool false], [], 910⟩
theorem m106_893_ok : isMemo m106_893 (m106_893.run Try.prog goFns orc_m106_893 100000) = true := by decide +kernel
noncomputable def orc_m107_913 : Orc := orElse insOrc (memoOrc [m115_921])
theorem orc_m107_913_ok (B : Lo) : OrcS Try.prog B orc_m107_913 := orElse_ok (insOrc_ok _) (orcS_cons goFns_ok mixed_ok (insOrc_ok _) m115_921_ok (orcS_nil _ _))
def m107_913 : Memo :=
  ⟨107, #[.agg #[.slice (some ⟨421, 0, none⟩) 4 4, .slice (some ⟨422, 0, none⟩) 2 3, inN 2, inN 100, inN 200, inN 200, inN 300, inN 500, inN 1000, inN 20, inN 50], .slice (some ⟨912, 0, none⟩) 1 2, inN 1, .bool false], [(912, .cells #[.slice none 0 0, inN 0] 108 (0, 0)), (422, .cells #[inN 60, inN 0, inN 50, inN 0, inN 25, inN 20] 85 (0, 0))], 913, .slice (some ⟨915, 0, none⟩) 1 2, [(926, .cells #[inN 1] 3 (0, 0)), (915, .cells #[.slice (some ⟨926, 0, none⟩) 1 1, inN 20] 108 (0, 0))], 928⟩
theorem m107_913_ok : isMemo m107_913 (m107_913.run Try.prog goFns orc_m107_913 100000) = true := by decide +kernel
noncomputable def orc_m107_981 : Orc := orElse insOrc (memoOrc [m115_989, m115_1002])
theorem orc_m107_981_ok (B : Lo) : OrcS Try.prog B orc_m107_981 := orElse_ok (insOrc_ok _) (orcS_cons goFns_ok mixed_ok (insOrc_ok _) m115_989_ok (orcS_cons goFns_ok mixed_ok (insOrc_ok _) m115_1002_ok (orcS_nil _ _)))
def m107_981 : Memo :=
  ⟨107, #[.agg #[.slice (some ⟨421, 0, none⟩) 4 4, .slice (some ⟨422, 0, none⟩) 2 3, inN 2, inN 100, inN 200, inN 200, inN 300, inN 500, inN 1000, inN 20, inN 50], .slice (some ⟨971, 0, none⟩) 2 2, inN 1, .bool false], [(971, .cells #[.slice (some ⟨850, 0, none⟩) 1 1, inN 0, .slice (some ⟨887, 0, none⟩) 1 1, inN 50] 108 (0, 0)), (850, .cells #[inN (-1)] 3 (0, 0)), (422, .cells #[inN 60, inN 0, inN 50, inN 0, inN 25, inN 20] 85 (0, 0)), (887, .cells #[inN 0] 3 (0, 0))], 981, .slice (some ⟨983, 0, none⟩) 2 2, [(1008, .cells #[inN 1, inN 0] 3 (0, 0)), (995, .cells #[inN 1, inN (-1)] 3 (0, 0)), (983, .cells #[.slice (some ⟨995, 0, none⟩) 2 1, inN 20, .slice (some ⟨1008, 0, none⟩) 2 1, inN 70] 108 (0, 0))], 1010⟩
theorem m107_981_ok : isMemo m107_981 (m107_981.run Try.prog goFns orc_m107_981 100000) = true := by decide +kernel
noncomputable def orc_m107_1075 : Orc := orElse insOrc (memoOrc [m115_1083, m115_1096])
theorem orc_m107_1075_ok (B : Lo) : OrcS Try.prog B orc_m107_1075 := orElse_ok (insOrc_ok _) (orcS_cons goFns_ok mixed_ok (insOrc_ok _) m115_1083_ok (orcS_cons goFns_ok mixed_ok (insOrc_ok _) m115_1096_ok (orcS_nil _ _)))
def m107_1075 : Memo :=
  ⟨107, #[.agg #[.slice (some ⟨421, 0, none⟩) 4 4, .slice (some ⟨422, 0, none⟩) 2 3, inN 2, inN 100, inN 200, inN 200, inN 300, inN 500, inN 1000, inN 20, inN 50], .slice (some ⟨1065, 0, none⟩) 2 2, inN (-1), .bool false], [(1065, .cells #[.slice (some ⟨731, 0, none⟩) 2 1, inN 0, .slice (some ⟨744, 0, none⟩) 2 1, inN 50] 108 (0, 0)), (731, .cells #[inN (-1), inN (-1)] 3 (0, 0)), (744, .cells #[inN (-1), inN 0] 3 (0, 0))], 1075, .slice (some ⟨1077, 0, none⟩) 2 2, [(1102, .cells #[inN (-1), inN (-1), inN 0] 3 (0, 0)), (1089, .cells #[inN (-1), inN (-1), inN (-1)] 3 (0, 0)), (1077, .cells #[.slice (some ⟨1089, 0, none⟩) 3 1, inN 0, .slice (some ⟨1102, 0, none⟩) 3 1, inN 50] 108 (0, 0))], 1104⟩
theorem m107_1075_ok : isMemo m107_1075 (m107_1075.run Try.prog goFns orc_m107_1075 100000) = true := by decide +kernel
noncomputable def orc_m106_1106 : Orc := orElse insOrc (memoOrc [m103_1110])
theorem orc_m106_1106_ok (B : Lo) : OrcS Try.prog B orc_m106_1106 := orElse_ok (insOrc_ok _) (orcS_consD goFns_ok mixed_ok (insOrc_ok _) m103_1110_ok (orcS_nil _ _))
def m106_1106 : Memo :=
  ⟨106, #[.agg #[.slice (some ⟨421, 0, none⟩) 4 4, .slice (some ⟨422, 0, none⟩) 2 3, inN 2, inN 100, inN 200, inN 200, inN 300, inN 500, inN 1000, inN 20, inN 50], .agg #[inN 1, inN 283], inN 20, inN 0], [(422, .cells #[inN 60, inN 0, inN 50, inN 0, inN 25, inN 20] 85 (0, 0)), (421, .cells #[inN 100, inN 10, inN 20, inN (-1), inN 150, inN 20, inN 30, inN (-1), inN 180, inN 20, inN 40, inN 10, inN 175, inN 10, inN 20, inN 0] 59 (0, 0))], 1106, .tuple #[.agg #[inN 2, inN 263], .bool false], [], 1123⟩
theorem m106_1106_ok : isMemo m106_1106 (m106_1106.run Try.prog goFns orc_m106_1106 100000) = true := by decide +kernel
noncomputable def orc_m107_1125 : Orc := orElse insOrc (memoOrc [m115_1133, m115_1146])
theorem orc_m107_1125_ok (B : Lo) : OrcS Try.prog B orc_m107_1125 := orElse_ok (insOrc_ok _) (orcS_cons goFns_ok mixed_ok (insOrc_ok _) m115_1133_ok (orcS_cons goFns_ok mixed_ok (insOrc_ok _) m115_1146_ok (orcS_nil _ _)))
def m107_1125 : Memo :=
  ⟨107, #[.agg #[.slice (some ⟨421, 0, none⟩) 4 4, .slice (some ⟨422, 0, none⟩) 2 3, inN 2, inN 100, inN 200, inN 200, inN 300, inN 500, inN 1000, inN 20, inN 50], .slice (some ⟨1065, 0, none⟩) 2 2, inN 0, .bool false], [(1065, .cells #[.slice (some ⟨731, 0, none⟩) 2 1, inN 0, .slice (some ⟨744, 0, none⟩) 2 1, inN 50] 108 (0, 0)), (731, .cells #[inN (-1), inN (-1)] 3 (0, 0)), (422, .cells #[inN 60, inN 0, inN 50, inN 0, inN 25, inN 20] 85 (0, 0)), (744, .cells #[inN (-1), inN 0] 3 (0, 0))], 1125, .slice (some ⟨1127, 0, none⟩) 2 2, [(1152, .cells #[inN 0, inN (-1), inN 0] 3 (0, 0)), (1139, .cells #[inN 0, inN (-1), inN (-1)] 3 (0, 0)), (1127, .cells #[.slice (some ⟨1139, 0, none⟩) 3 1, inN 50, .slice (some ⟨1152, 0, none⟩) 3 1, inN 100] 108 (0, 0))], 1154⟩
theorem m107_1125_ok : isMemo m107_1125 (m107_1125.run Try.prog goFns orc_m107_1125 100000) = true := by decide +kernel
noncomputable def orc_m106_1156 : Orc := orElse insOrc (memoOrc [m103_1160])
theorem orc_m106_1156_ok (B : Lo) : OrcS Try.prog B orc_m106_1156 := orElse_ok (insOrc_ok _) (orcS_consD goFns_ok mixed_ok (insOrc_ok _) m103_1160_ok (orcS_nil _ _))
def m106_1156 : Memo :=
  ⟨106, #[.agg #[.slice (some ⟨421, 0, none⟩) 4 4, .slice (some ⟨422, 0, none⟩) 2 3, inN 2, inN 100, inN 200, inN 200, inN 300, inN 500, inN 1000, inN 20, inN 50], .agg #[inN 1, inN 283], inN 20, inN 1], [(422, .cells #[inN 60, inN 0, inN 50, inN 0, inN 25, inN 20] 85 (0, 0)), (421, .cells #[inN 100, inN 10, inN 20, inN (-1), inN 150, inN 20, inN 30, inN (-1), inN 180, inN 20, inN 40, inN 10, inN 175, inN 10, inN 20, inN 0] 59 (0, 0))], 1156, .tuple #[.agg #[inN 2, inN 238], .bool false], [], 1173⟩
theorem m106_1156_ok : isMemo m106_1156 (m106_1156.run Try.prog goFns orc_m106_1156 100000) = true := by decide +kernel
end Go.Proofs.Ytiigkdhaofaijaa

namespace Go.Proofs.Ytiigkdhaofaijaa
open Go Go.CE Go.RowKit
noncomputable def orc_m106_1175 : Orc := orElse insOrc (memoOrc [m103_1179])
theorem orc_m106_1175_ok (B : Lo) : OrcS Try.prog B orc_m106_1175 := orElse_ok (insOrc_ok _) (orcS_consD goFns_ok mixed_ok (insOrc_ok _) m103_1179_ok (orcS_nil _ _))
def m106_1175 : Memo :=
  ⟨106, #[.agg #[.slice (some ⟨421, 0, none⟩) 4 4, .slice (some ⟨422, 0, none⟩) 2 3, inN 2, inN 100, inN 200, inN 200, inN 300, inN 500, inN 1000, inN 20, inN 50], .agg #[inN 2, inN 238], inN 20, inN (-1)], [(421, .cells #[inN 100, inN 10, inN 20, inN (-1), inN 150, inN 20, inN 30, inN (-1), inN 180, inN 20, inN 40, inN 10, inN 175, inN 10, inN 20, inN 0] 59 (0, 0))], 1175, .tuple #[.agg #[inN 3, inN 218], .bool false], [], 1192⟩
theorem m106_1175_ok : isMemo m106_1175 (m106_1175.run Try.prog goFns orc_m106_1175 100000) = true := by decide +kernel
noncomputable def orc_m107_1194 : Orc := orElse insOrc (memoOrc [m115_1202, m115_1215])
theorem orc_m107_1194_ok (B : Lo) : OrcS Try.prog B orc_m107_1194 := orElse_ok (insOrc_ok _) (orcS_cons goFns_ok mixed_ok (insOrc_ok _) m115_1202_ok (orcS_cons goFns_ok mixed_ok (insOrc_ok _) m115_1215_ok (orcS_nil _ _)))
def m107_1194 : Memo :=
  ⟨107, #[.agg #[.slice (some ⟨421, 0, none⟩) 4 4, .slice (some ⟨422, 0, none⟩) 2 3, inN 2, inN 100, inN 200, inN 200, inN 300, inN 500, inN 1000, inN 20, inN 50], .slice (some ⟨971, 0, none⟩) 2 2, inN (-1), .bool false], [(971, .cells #[.slice (some ⟨850, 0, none⟩) 1 1, inN 0, .slice (some ⟨887, 0, none⟩) 1 1, inN 50] 108 (0, 0)), (850, .cells #[inN (-1)] 3 (0, 0)), (887, .cells #[inN 0] 3 (0, 0))], 1194, .slice (some ⟨1196, 0, none⟩) 2 2, [(1221, .cells #[inN (-1), inN 0] 3 (0, 0)), (1208, .cells #[inN (-1), inN (-1)] 3 (0, 0)), (1196, .cells #[.slice (some ⟨1208, 0, none⟩) 2 1, inN 0, .slice (some ⟨1221, 0, none⟩) 2 1, inN 50] 108 (0, 0))], 1223⟩
theorem m107_1194_ok : isMemo m107_1194 (m107_1194.run Try.prog goFns orc_m107_1194 100000) = true := by decide +kernel
noncomputable def orc_m106_1225 : Orc := orElse insOrc (memoOrc [m103_1229])
theorem orc_m106_1225_ok (B : Lo) : OrcS Try.prog B orc_m106_1225 := orElse_ok (insOrc_ok _) (orcS_consD goFns_ok mixed_ok (insOrc_ok _) m103_1229_ok (orcS_nil _ _))
def m106_1225 : Memo :=
  ⟨106, #[.agg #[.slice (some ⟨421, 0, none⟩) 4 4, .slice (some ⟨422, 0, none⟩) 2 3, inN 2, inN 100, inN 200, inN 200, inN 300, inN 500, inN 1000, inN 20, inN 50], .agg #[inN 2, inN 238], inN 20, inN 0], [(422, .cells #[inN 60, inN 0, inN 50, inN 0, inN 25, inN 20] 85 (0, 0)), (421, .cells #[inN 100, inN 10, inN 20, inN (-1), inN 150, inN 20, inN 30, inN (-1), inN 180, inN 20, inN 40, inN 10, inN 175, inN 10, inN 20, inN 0] 59 (0, 0))], 1225, .tuple #[.agg #[inN 3, inN (-5000)], .bool true], [], 1242⟩
theorem m106_1225_ok : isMemo m106_1225 (m106_1225.run Try.prog goFns orc_m106_1225 100000) = true := by decide +kernel
noncomputable def orc_m106_1244 : Orc := orElse insOrc (memoOrc [m103_1248])
theorem orc_m106_1244_ok (B : Lo) : OrcS Try.prog B orc_m106_1244 := orElse_ok (insOrc_ok _) (orcS_consD goFns_ok mixed_ok (insOrc_ok _) m103_1248_ok (orcS_nil _ _))
def m106_1244 : Memo :=
  ⟨106, #[.agg #[.slice (some ⟨421, 0, none⟩) 4 4, .slice (some ⟨422, 0, none⟩) 2 3, inN 2, inN 100, inN 200, inN 200, inN 300, inN 500, inN 1000, inN 20, inN 50], .agg #[inN 3, inN (-5000)], inN 10, inN (-1)], [(421, .cells #[inN 100, inN 10, inN 20, inN (-1), inN 150, inN 20, inN 30, inN (-1), inN 180, inN 20, inN 40, inN 10, inN 175, inN 10, inN 20, inN 0] 59 (0, 0))], 1244, .tuple #[.agg #[inN 4, inN (-5000)], .bool true], [], 1261⟩
theorem m106_1244_ok : isMemo m106_1244 (m106_1244.run Try.prog goFns orc_m106_1244 100000) = true := by decide +kernel
noncomputable def orc_m107_1264 : Orc := orElse insOrc (memoOrc [m115_1272])
theorem orc_m107_1264_ok (B : Lo) : OrcS Try.prog B orc_m107_1264 := orElse_ok (insOrc_ok _) (orcS_cons goFns_ok mixed_ok (insOrc_ok _) m115_1272_ok (orcS_nil _ _))
def m107_1264 : Memo :=
  ⟨107, #[.agg #[.slice (some ⟨421, 0, none⟩) 4 4, .slice (some ⟨422, 0, none⟩) 2 3, inN 2, inN 100, inN 200, inN 200, inN 300, inN 500, inN 1000, inN 20, inN 50], .slice (some ⟨1263, 0, none⟩) 1 2, inN (-1), .bool true], [(1263, .cells #[.slice none 0 0, inN 0] 108 (0, 0))], 1264, .slice (some ⟨1280, 0, none⟩) 2 2, [(1277, .cells #[inN (-1)] 3 (0, 0)), (1280, .cells #[.slice (some ⟨1277, 0, none⟩) 1 1, inN 0, .slice (some ⟨1277, 0, none⟩) 1 1, inN 0] 108 (0, 0))], 1281⟩
theorem m107_1264_ok : isMemo m107_1264 (m107_1264.run Try.prog goFns orc_m107_1264 100000) = true := by decide +kernel
noncomputable def orc_m106_1283 : Orc := orElse insOrc (memoOrc [m103_1287])
theorem orc_m106_1283_ok (B : Lo) : OrcS Try.prog B orc_m106_1283 := orElse_ok (insOrc_ok _) (orcS_consD goFns_ok mixed_ok (insOrc_ok _) m103_1287_ok (orcS_nil _ _))
def m106_1283 : Memo :=
  ⟨106, #[.agg #[.slice (some ⟨421, 0, none⟩) 4 4, .slice (some ⟨422, 0, none⟩) 2 3, inN 2, inN 100, inN 200, inN 200, inN 300, inN 500, inN 1000, inN 20, inN 50], .agg #[inN 3, inN (-5000)], inN 10, inN 0], [(422, .cells #[inN 60, inN 0, inN 50, inN 0, inN 25, inN 20] 85 (0, 0)), (421, .cells #[inN 100, inN 10, inN 20, inN (-1), inN 150, inN 20, inN 30, inN (-1), inN 180, inN 20, inN 40, inN 10, inN 175, inN 10, inN 20, inN 0] 59 (0, 0))], 1283, .tuple #[.agg #[inN 4, inN (-5000)], .bool true], [], 1300⟩
theorem m106_1283_ok : isMemo m106_1283 (m106_1283.run Try.prog goFns orc_m106_1283 100000) = true := by decide +kernel
noncomputable def orc_m107_1303 : Orc := orElse insOrc (memoOrc [m115_1311])
theorem orc_m107_1303_ok (B : Lo) : OrcS Try.prog B orc_m107_1303 := orElse_ok (insOrc_ok _) (orcS_cons goFns_ok mixed_ok (insOrc_ok _) m115_1311_ok (orcS_nil _ _))
def m107_1303 : Memo :=
  ⟨107, #[.agg #[.slice (some ⟨421, 0, none⟩) 4 4, .slice (some ⟨422, 0, none⟩) 2 3, inN 2, inN 100, inN 200, inN 200, inN 300, inN 500, inN 1000, inN 20, inN 50], .slice (some ⟨1302, 0, none⟩) 1 2, inN 0, .bool true], [(1302, .cells #[.slice none 0 0, inN 0] 108 (0, 0)), (422, .cells #[inN 60, inN 0, inN 50, inN 0, inN 25, inN 20] 85 (0, 0))], 1303, .slice (some ⟨1319, 0, none⟩) 2 2, [(1316, .cells #[inN 0] 3 (0, 0)), (1319, .cells #[.slice (some ⟨1316, 0, none⟩) 1 1, inN 50, .slice (some ⟨1316, 0, none⟩) 1 1, inN 50] 108 (0, 0))], 1320⟩
theorem m107_1303_ok : isMemo m107_1303 (m107_1303.run Try.prog goFns orc_m107_1303 100000) = true := by decide +kernel
noncomputable def orc_m106_1322 : Orc := orElse insOrc (memoOrc [m103_1326])
theorem orc_m106_1322_ok (B : Lo) : OrcS Try.prog B orc_m106_1322 := orElse_ok (insOrc_ok _) (orcS_consD goFns_ok mixed_ok (insOrc_ok _) m103_1326_ok (orcS_nil _ _))
def m106_1322 : Memo :=
  ⟨106, #[.agg #[.slice (some ⟨421, 0, none⟩) 4 4, .slice (some ⟨422, 0, none⟩) 2 3, inN 2, inN 100, inN 200, inN 200, inN 300, inN 500, inN 1000, inN 20, inN 50], .agg #[inN 3, inN (-5000)], inN 10, inN 1], [(422, .cells #[inN 60, inN 0, inN 50, inN 0, inN 25, inN 20] 85 (0, 0)), (421, .cells #[inN 100, inN 10, inN 20, inN (-1), inN 150, inN 20, inN 30, inN (-1), inN 180, inN 20, inN 40, inN 10, inN 175, inN 10, inN 20, inN 0] 59 (0, 0))], 1322, .tuple #[.agg #[inN 4, inN (-5000)], .bool true], [], 1339⟩
theorem m106_1322_ok : isMemo m106_1322 (m106_1322.run Try.prog goFns orc_m106_1322 100000) = true := by decide +kernel
noncomputable def orc_m107_1342 : Orc := orElse insOrc (memoOrc [m115_1350])
theorem orc_m107_1342_ok (B : Lo) : OrcS Try.prog B orc_m107_1342 := orElse_ok (insOrc_ok _) (orcS_cons goFns_ok mixed_ok (insOrc_ok _) m115_1350_ok (orcS_nil _ _))
def m107_1342 : Memo :=
  ⟨107, #[.agg #[.slice (some ⟨421, 0, none⟩) 4 4, .slice (some ⟨422, 0, none⟩) 2 3, inN 2, inN 100, inN 200, inN 200, inN 300, inN 500, inN 1000, inN 20, inN 50], .slice (some ⟨1341, 0, none⟩) 1 2, inN 1, .bool true], [(1341, .cells #[.slice none 0 0, inN 0] 108 (0, 0)), (422, .cells #[inN 60, inN 0, inN 50, inN 0, inN 25, inN 20] 85 (0, 0))], 1342, .slice (some ⟨1358, 0, none⟩) 2 2, [(1355, .cells #[inN 1] 3 (0, 0)), (1358, .cells #[.slice (some ⟨1355, 0, none⟩) 1 1, inN 20, .slice (some ⟨1355, 0, none⟩) 1 1, inN 20] 108 (0, 0))], 1359⟩
theorem m107_1342_ok : isMemo m107_1342 (m107_1342.run Try.prog goFns orc_m107_1342 100000) = true := by decide +kernel
noncomputable def orc_m107_1424 : Orc := orElse insOrc (memoOrc [m115_1432, m115_1445])
theorem orc_m107_1424_ok (B : Lo) : OrcS Try.prog B orc_m107_1424 := orElse_ok (insOrc_ok _) (orcS_cons goFns_ok mixed_ok (insOrc_ok _) m115_1432_ok (orcS_cons goFns_ok mixed_ok (insOrc_ok _) m115_1445_ok (orcS_nil _ _)))
def m107_1424 : Memo :=
  ⟨107, #[.agg #[.slice (some ⟨421, 0, none⟩) 4 4, .slice (some ⟨422, 0, none⟩) 2 3, inN 2, inN 100, inN 200, inN 200, inN 300, inN 500, inN 1000, inN 20, inN 50], .slice (some ⟨1414, 0, none⟩) 2 2, inN 0, .bool true], [(1414, .cells #[.slice (some ⟨1277, 0, none⟩) 1 1, inN 0, .slice (some ⟨1277, 0, none⟩) 1 1, inN 0] 108 (0, 0)), (1277, .cells #[inN (-1)] 3 (0, 0)), (422, .cells #[inN 60, inN 0, inN 50, inN 0, inN 25, inN 20] 85 (0, 0))], 1424, .slice (some ⟨1454, 0, none⟩) 3 2, [(1451, .cells #[inN 0, inN (-1)] 3 (0, 0)), (1438, .cells #[inN 0, inN (-1)] 3 (0, 0)), (1454, .cells #[.slice (some ⟨1438, 0, none⟩) 2 1, inN 50, .slice (some ⟨1438, 0, none⟩) 2 1, inN 50, .slice (some ⟨1451, 0, none⟩) 2 1, inN 50] 108 (0, 0))], 1455⟩
theorem m107_1424_ok : isMemo m107_1424 (m107_1424.run Try.prog goFns orc_m107_1424 100000) = true := by decide +kernel
noncomputable def orc_m106_1457 : Orc := orElse insOrc (memoOrc [m103_1461])
theorem orc_m106_1457_ok (B : Lo) : OrcS Try.prog B orc_m106_1457 := orElse_ok (insOrc_ok _) (orcS_consD goFns_ok mixed_ok (insOrc_ok _) m103_1461_ok (orcS_nil _ _))
def m106_1457 : Memo :=
  ⟨106, #[.agg #[.slice (some ⟨421, 0, none⟩) 4 4, .slice (some ⟨422, 0, none⟩) 2 3, inN 2, inN 100, inN 200, inN 200, inN 300, inN 500, inN 1000, inN 20, inN 50], .agg #[inN 2, inN 238], inN 20, inN 1], [(422, .cells #[inN 60, inN 0, inN 50, inN 0, inN 25, inN 20] 85 (0, 0)), (421, .cells #[inN 100, inN 10, inN 20, inN (-1), inN 150, inN 20, inN 30, inN (-1), inN 180, inN 20, inN 40, inN 10, inN 175, inN 10, inN 20, inN 0] 59 (0, 0))], 1457, .tuple #[.agg #[inN 3, inN 193], .bool false], [], 1474⟩
theorem m106_1457_ok : isMemo m106_1457 (m106_1457.run Try.prog goFns orc_m106_1457 100000) = true := by decide +kernel
noncomputable def orc_m106_1476 : Orc := orElse insOrc (memoOrc [m103_1480])
theorem orc_m106_1476_ok (B : Lo) : OrcS Try.prog B orc_m106_1476 := orElse_ok (insOrc_ok _) (orcS_consD goFns_ok mixed_ok (insOrc_ok _) m103_1480_ok (orcS_nil _ _))
def m106_1476 : Memo :=
  ⟨106, #[.agg #[.slice (some ⟨421, 0, none⟩) 4 4, .slice (some ⟨422, 0, none⟩) 2 3, inN 2, inN 100, inN 200, inN 200, inN 300, inN 500, inN 1000, inN 20, inN 50], .agg #[inN 3, inN 193], inN 10, inN (-1)], [(421, .cells #[inN 100, inN 10, inN 20, inN (-1), inN 150, inN 20, inN 30, inN (-1), inN 180, inN 20, inN 40, inN 10, inN 175, inN 10, inN 20, inN 0] 59 (0, 0))], 1476, .tuple #[.agg #[inN 4, inN 183], .bool false], [], 1493⟩
theorem m106_1476_ok : isMemo m106_1476 (m106_1476.run Try.prog goFns orc_m106_1476 100000) = true := by decide +kernel
noncomputable def orc_m107_1496 : Orc := orElse insOrc (memoOrc [m115_1504])
theorem orc_m107_1496_ok (B : Lo) : OrcS Try.prog B orc_m107_1496 := orElse_ok (insOrc_ok _) (orcS_cons goFns_ok mixed_ok (insOrc_ok _) m115_1504_ok (orcS_nil _ _))
def m107_1496 : Memo :=
  ⟨107, #[.agg #[.slice (some ⟨421, 0, none⟩) 4 4, .slice (some ⟨422, 0, none⟩) 2 3, inN 2, inN 100, inN 200, inN 200, inN 300, inN 500, inN 1000, inN 20, inN 50], .slice (some ⟨1495, 0, none⟩) 1 2, inN (-1), .bool false], [(1495, .cells #[.slice none 0 0, inN 0] 108 (0, 0))], 1496, .slice (some ⟨1498, 0, none⟩) 1 2, [(1509, .cells #[inN (-1)] 3 (0, 0)), (1498, .cells #[.slice (some ⟨1509, 0, none⟩) 1 1, inN 0] 108 (0, 0))], 1511⟩
theorem m107_1496_ok : isMemo m107_1496 (m107_1496.run Try.prog goFns orc_m107_1496 100000) = true := by decide +kernel
noncomputable def orc_m106_1513 : Orc := orElse insOrc (memoOrc [m103_1517])
theorem orc_m106_1513_ok (B : Lo) : OrcS Try.prog B orc_m106_1513 := orElse_ok (insOrc_ok _) (orcS_consD goFns_ok mixed_ok (insOrc_ok _) m103_1517_ok (orcS_nil _ _))
def m106_1513 : Memo :=
  ⟨106, #[.agg #[.slice (some ⟨421, 0, none⟩) 4 4, .slice (some ⟨422, 0, none⟩) 2 3, inN 2, inN 100, inN 200, inN 200, inN 300, inN 500, inN 1000, inN 20, inN 50], .agg #[inN 3, inN 193], inN 10, inN 0], [(422, .cells #[inN 60, inN 0, inN 50, inN 0, inN 25, inN 20] 85 (0, 0)), (421, .cells #[inN 100, inN 10, inN 20, inN (-1), inN 150, inN 20, inN 30, inN (-1), inN 180, inN 20, inN 40, inN 10, inN 175, inN 10, inN 20, inN 0] 59 (0, 0))], 1513, .tuple #[.agg #[inN 4, inN (-5000)], .bool true], [], 1530⟩
theorem m106_1513_ok : isMemo m106_1513 (m106_1513.run Try.prog goFns orc_m106_1513 100000) = true := by decide +kernel
noncomputable def orc_m107_1533 : Orc := orElse insOrc (memoOrc [m115_1541])
theorem orc_m107_1533_ok (B : Lo) : OrcS Try.prog B orc_m107_1533 := orElse_ok (insOrc_ok _) (orcS_cons goFns_ok mixed_ok (insOrc_ok _) m115_1541_ok (orcS_nil _ _))
def m107_1533 : Memo :=
  ⟨107, #[.agg #[.slice (some ⟨421, 0, none⟩) 4 4, .slice (some ⟨422, 0, none⟩) 2 3, inN 2, inN 100, inN 200, inN 200, inN 300, inN 500, inN 1000, inN 20, inN 50], .slice (some ⟨1532, 0, none⟩) 1 2, inN 0, .bool true], [(1532, .cells #[.slice none 0 0, inN 0] 108 (0, 0)), (422, .cells #[inN 60, inN 0, inN 50, inN 0, inN 25, inN 20] 85 (0, 0))], 1533, .slice (some ⟨1549, 0, none⟩) 2 2, [(1546, .cells #[inN 0] 3 (0, 0)), (1549, .cells #[.slice (some ⟨1546, 0, none⟩) 1 1, inN 50, .slice (some ⟨1546, 0, none⟩) 1 1, inN 50] 108 (0, 0))], 1550⟩
theorem m107_1533_ok : isMemo m107_1533 (m107_1533.run Try.prog goFns orc_m107_1533 100000) = true := by decide +kernel
noncomputable def orc_m106_1552 : Orc := orElse insOrc (memoOrc [m103_1556])
theorem orc_m106_1552_ok (B : Lo) : OrcS Try.prog B orc_m106_1552 := orElse_ok (insOrc_ok _) (orcS_consD goFns_ok mixed_ok (insOrc_ok _) m103_1556_ok (orcS_nil _ _))
def m106_1552 : Memo :=
  ⟨106, #[.agg #[.slice (some ⟨421, 0, none⟩) 4 4, .slice (some ⟨422, 0, none⟩) 2 3, inN 2, inN 100, inN 200, inN 200, inN 300, inN 500, inN 1000, inN 20, inN 50], .agg #[inN 3, inN 193], inN 10, inN 1], [(422, .cells #[inN 60, inN 0, inN 50, inN 0, inN 25, inN 20] 85 (0, 0)), (421, .cells #[inN 100, inN 10, inN 20, inN (-1), inN 150, inN 20, inN 30, inN (-1), inN 180, inN 20, inN 40, inN 10, inN 175, inN 10, inN 20, inN 0] 59 (0, 0))], 1552, .tuple #[.agg #[inN 4, inN (-5000)], .bool true], [], 1569⟩
theorem m106_1552_ok : isMemo m106_1552 (m106_1552.run Try.prog goFns orc_m106_1552 100000) = true := by decide +kernel
noncomputable def orc_m107_1572 : Orc := orElse insOrc (memoOrc [m115_1580])
theorem orc_m107_1572_ok (B : Lo) : OrcS Try.prog B orc_m107_1572 := orElse_ok (insOrc_ok _) (orcS_cons goFns_ok mixed_ok (insOrc_ok _) m115_1580_ok (orcS_nil _ _))
def m107_1572 : Memo :=
  ⟨107, #[.agg #[.slice (some ⟨421, 0, none⟩) 4 4, .slice (some ⟨422, 0, none⟩) 2 3, inN 2, inN 100, inN 200, inN 200, inN 300, inN 500, inN 1000, inN 20, inN 50], .slice (some ⟨1571, 0, none⟩) 1 2, inN 1, .bool true], [(1571, .cells #[.slice none 0 0, inN 0] 108 (0, 0)), (422, .cells #[inN 60, inN 0, inN 50, inN 0, inN 25, inN 20] 85 (0, 0))], 1572, .slice (some ⟨1588, 0, none⟩) 2 2, [(1585, .cells #[inN 1] 3 (0, 0)), (1588, .cells #[.slice (some ⟨1585, 0, none⟩) 1 1, inN 20, .slice (some ⟨1585, 0, none⟩) 1 1, inN 20] 108 (0, 0))], 1589⟩
theorem m107_1572_ok : isMemo m107_1572 (m107_1572.run Try.prog goFns orc_m107_1572 100000) = true := by decide +kernel
noncomputable def orc_m107_1648 : Orc := orElse insOrc (memoOrc [m115_1656, m115_1669])
theorem orc_m107_1648_ok (B : Lo) : OrcS Try.prog B orc_m107_1648 := orElse_ok (insOrc_ok _) (orcS_cons goFns_ok mixed_ok (insOrc_ok _) m115_1656_ok (orcS_cons goFns_ok mixed_ok (insOrc_ok _) m115_1669_ok (orcS_nil _ _)))
def m107_1648 : Memo :=
  ⟨107, #[.agg #[.slice (some ⟨421, 0, none⟩) 4 4, .slice (some ⟨422, 0, none⟩) 2 3, inN 2, inN 100, inN 200, inN 200, inN 300, inN 500, inN 1000, inN 20, inN 50], .slice (some ⟨1638, 0, none⟩) 2 2, inN 1, .bool false], [(1638, .cells #[.slice (some ⟨1509, 0, none⟩) 1 1, inN 0, .slice (some ⟨1585, 0, none⟩) 1 1, inN 20] 108 (0, 0)), (1509, .cells #[inN (-1)] 3 (0, 0)), (422, .cells #[inN 60, inN 0, inN 50, inN 0, inN 25, inN 20] 85 (0, 0)), (1585, .cells #[inN 1] 3 (0, 0))], 1648, .slice (some ⟨1650, 0, none⟩) 2 2, [(1675, .cells #[inN 1, inN 1] 3 (0, 0)), (1662, .cells #[inN 1, inN (-1)] 3 (0, 0)), (1650, .cells #[.slice (some ⟨1662, 0, none⟩) 2 1, inN 20, .slice (some ⟨1675, 0, none⟩) 2 1, inN 40] 108 (0, 0))], 1677⟩
theorem m107_1648_ok : isMemo m107_1648 (m107_1648.run Try.prog goFns orc_m107_1648 100000) = true := by decide +kernel
noncomputable def orc_m107_1757 : Orc := orElse insOrc (memoOrc [m115_1765, m115_1778, m115_1791])
theorem orc_m107_1757_ok (B : Lo) : OrcS Try.prog B orc_m107_1757 := orElse_ok (insOrc_ok _) (orcS_cons goFns_ok mixed_ok (insOrc_ok _) m115_1765_ok (orcS_cons goFns_ok mixed_ok (insOrc_ok _) m115_1778_ok (orcS_cons goFns_ok mixed_ok (insOrc_ok _) m115_1791_ok (orcS_nil _ _))))
def m107_1757 : Memo :=
  ⟨107, #[.agg #[.slice (some ⟨421, 0, none⟩) 4 4, .slice (some ⟨422, 0, none⟩) 2 3, inN 2, inN 100, inN 200, inN 200, inN 300, inN 500, inN 1000, inN 20, inN 50], .slice (some ⟨1747, 0, none⟩) 3 2, inN 1, .bool false], [(1747, .cells #[.slice (some ⟨1208, 0, none⟩) 2 1, inN 0, .slice (some ⟨1675, 0, none⟩) 2 1, inN 40, .slice (some ⟨1451, 0, none⟩) 2 1, inN 50] 108 (0, 0)), (1208, .cells #[inN (-1), inN (-1)] 3 (0, 0)), (422, .cells #[inN 60, inN 0, inN 50, inN 0, inN 25, inN 20] 85 (0, 0)), (1675, .cells #[inN 1, inN 1] 3 (0, 0)), (1451, .cells #[inN 0, inN (-1)] 3 (0, 0))], 1757, .slice (some ⟨1759, 0, none⟩) 3 2, [(1797, .cells #[inN 1, inN 0, inN (-1)] 3 (0, 0)), (1784, .cells #[inN 1, inN 1, inN 1] 3 (0, 0)), (1771, .cells #[inN 1, inN (-1), inN (-1)] 3 (0, 0)), (1759, .cells #[.slice (some ⟨1771, 0, none⟩) 3 1, inN 20, .slice (some ⟨1784, 0, none⟩) 3 1, inN 60, .slice (some ⟨1797, 0, none⟩) 3 1, inN 70] 108 (0, 0))], 1799⟩
theorem m107_1757_ok : isMemo m107_1757 (m107_1757.run Try.prog goFns orc_m107_1757 100000) = true := by decide +kernel
noncomputable def orc_m107_1879 : Orc := orElse insOrc (memoOrc [m115_1887, m115_1900, m115_1913])
theorem orc_m107_1879_ok (B : Lo) : OrcS Try.prog B orc_m107_1879 := orElse_ok (insOrc_ok _) (orcS_cons goFns_ok mixed_ok (insOrc_ok _) m115_1887_ok (orcS_cons goFns_ok mixed_ok (insOrc_ok _) m115_1900_ok (orcS_cons goFns_ok mixed_ok (insOrc_ok _) m115_1913_ok (orcS_nil _ _))))
def m107_1879 : Memo :=
  ⟨107, #[.agg #[.slice (some ⟨421, 0, none⟩) 4 4, .slice (some ⟨422, 0, none⟩) 2 3, inN 2, inN 100, inN 200, inN 200, inN 300, inN 500, inN 1000, inN 20, inN 50], .slice (some ⟨1869, 0, none⟩) 3 2, inN (-1), .bool false], [(1869, .cells #[.slice (some ⟨1089, 0, none⟩) 3 1, inN 0, .slice (some ⟨1102, 0, none⟩) 3 1, inN 50, .slice (some ⟨1797, 0, none⟩) 3 1, inN 70] 108 (0, 0)), (1089, .cells #[inN (-1), inN (-1), inN (-1)] 3 (0, 0)), (1102, .cells #[inN (-1), inN (-1), inN 0] 3 (0, 0)), (1797, .cells #[inN 1, inN 0, inN (-1)] 3 (0, 0))], 1879, .slice (some ⟨1881, 0, none⟩) 3 2, [(1919, .cells #[inN (-1), inN 1, inN 0, inN (-1)] 3 (0, 0)), (1906, .cells #[inN (-1), inN (-1), inN (-1), inN 0] 3 (0, 0)), (1893, .cells #[inN (-1), inN (-1), inN (-1), inN (-1)] 3 (0, 0)), (1881, .cells #[.slice (some ⟨1893, 0, none⟩) 4 1, inN 0, .slice (some ⟨1906, 0, none⟩) 4 1, inN 50, .slice (some ⟨1919, 0, none⟩) 4 1, inN 70] 108 (0, 0))], 1921⟩
theorem m107_1879_ok : isMemo m107_1879 (m107_1879.run Try.prog goFns orc_m107_1879 100000) = true := by decide +kernel
noncomputable def orc_m106_1923 : Orc := orElse insOrc (memoOrc [m103_1927])
theorem orc_m106_1923_ok (B : Lo) : OrcS Try.prog B orc_m106_1923 := orElse_ok (insOrc_ok _) (orcS_consD goFns_ok mixed_ok (insOrc_ok _) m103_1927_ok (orcS_nil _ _))
def m106_1923 : Memo :=
  ⟨106, #[.agg #[.slice (some ⟨421, 0, none⟩) 4 4, .slice (some ⟨422, 0, none⟩) 2 3, inN 2, inN 100, inN 200, inN 200, inN 300, inN 500, inN 1000, inN 20, inN 50], .agg #[inN 0, inN 293], inN 10, inN 0], [(422, .cells #[inN 60, inN 0, inN 50, inN 0, inN 25, inN 20] 85 (0, 0)), (421, .cells #[inN 100, inN 10, inN 20, inN (-1), inN 150, inN 20, inN 30, inN (-1), inN 180, inN 20, inN 40, inN 10, inN 175, inN 10, inN 20, inN 0] 59 (0, 0))], 1923, .tuple #[.agg #[inN 1, inN 283], .bool false], [], 1940⟩
theorem m106_1923_ok : isMemo m106_1923 (m106_1923.run Try.prog goFns orc_m106_1923 100000) = true := by decide +kernel
noncomputable def orc_m107_1942 : Orc := orElse insOrc (memoOrc [m115_1950, m115_1963, m115_1976])
theorem orc_m107_1942_ok (B : Lo) : OrcS Try.prog B orc_m107_1942 := orElse_ok (insOrc_ok _) (orcS_cons goFns_ok mixed_ok (insOrc_ok _) m115_1950_ok (orcS_cons goFns_ok mixed_ok (insOrc_ok _) m115_1963_ok (orcS_cons goFns_ok mixed_ok (insOrc_ok _) m115_1976_ok (orcS_nil _ _))))
def m107_1942 : Memo :=
  ⟨107, #[.agg #[.slice (some ⟨421, 0, none⟩) 4 4, .slice (some ⟨422, 0, none⟩) 2 3, inN 2, inN 100, inN 200, inN 200, inN 300, inN 500, inN 1000, inN 20, inN 50], .slice (some ⟨1869, 0, none⟩) 3 2, inN 0, .bool false], [(1869, .cells #[.slice (some ⟨1089, 0, none⟩) 3 1, inN 0, .slice (some ⟨1102, 0, none⟩) 3 1, inN 50, .slice (some ⟨1797, 0, none⟩) 3 1, inN 70] 108 (0, 0)), (1089, .cells #[inN (-1), inN (-1), inN (-1)] 3 (0, 0)), (422, .cells #[inN 60, inN 0, inN 50, inN 0, inN 25, inN 20] 85 (0, 0)), (1102, .cells #[inN (-1), inN (-1), inN 0] 3 (0, 0)), (1797, .cells #[inN 1, inN 0, inN (-1)] 3 (0, 0))], 1942, .slice (some ⟨1944, 0, none⟩) 3 2, [(1982, .cells #[inN 0, inN 1, inN 0, inN (-1)] 3 (0, 0)), (1969, .cells #[inN 0, inN (-1), inN (-1), inN 0] 3 (0, 0)), (1956, .cells #[inN 0, inN (-1), inN (-1), inN (-1)] 3 (0, 0)), (1944, .cells #[.slice (some ⟨1956, 0, none⟩) 4 1, inN 50, .slice (some ⟨1969, 0, none⟩) 4 1, inN 100, .slice (some ⟨1982, 0, none⟩) 4 1, inN 120] 108 (0, 0))], 1984⟩
theorem m107_1942_ok : isMemo m107_1942 (m107_1942.run Try.prog goFns orc_m107_1942 100000) = true := by decide +kernel
noncomputable def orc_m106_1986 : Orc := orElse insOrc (memoOrc [m103_1990])
theorem orc_m106_1986_ok (B : Lo) : OrcS Try.prog B orc_m106_1986 := orElse_ok (insOrc_ok _) (orcS_consD goFns_ok mixed_ok (insOrc_ok _) m103_1990_ok (orcS_nil _ _))
def m106_1986 : Memo :=
  ⟨106, #[.agg #[.slice (some ⟨421, 0, none⟩) 4 4, .slice (some ⟨422, 0, none⟩) 2 3, inN 2, inN 100, inN 200, inN 200, inN 300, inN 500, inN 1000, inN 20, inN 50], .agg #[inN 0, inN 293], inN 10, inN 1], [(422, .cells #[inN 60, inN 0, inN 50, inN 0, inN 25, inN 20] 85 (0, 0)), (421, .cells #[inN 100, inN 10, inN 20, inN (-1), inN 150, inN 20, inN 30, inN (-1), inN 180, inN 20, inN 40, inN 10, inN 175, inN 10, inN 20, inN 0] 59 (0, 0))], 1986, .tuple #[.agg #[inN 1, inN 258], .bool false], [], 2003⟩
theorem m106_1986_ok : isMemo m106_1986 (m106_1986.run Try.prog goFns orc_m106_1986 100000) = true := by decide +kernel
noncomputable def orc_m106_2005 : Orc := orElse insOrc (memoOrc [m103_2009])
theorem orc_m106_2005_ok (B : Lo) : OrcS Try.prog B orc_m106_2005 := orElse_ok (insOrc_ok _) (orcS_consD goFns_ok mixed_ok (insOrc_ok _) m103_2009_ok (orcS_nil _ _))
def m106_2005 : Memo :=
  ⟨106, #[.agg #[.slice (some ⟨421, 0, none⟩) 4 4, .slice (some ⟨422, 0, none⟩) 2 3, inN 2, inN 100, inN 200, inN 200, inN 300, inN 500, inN 1000, inN 20, inN 50], .agg #[inN 1, inN 258], inN 20, inN (-1)], [(421, .cells #[inN 100, inN 10, inN 20, inN (-1), inN 150, inN 20, inN 30, inN (-1), inN 180, inN 20, inN 40, inN 10, inN 175, inN 10, inN 20, inN 0] 59 (0, 0))], 2005, .tuple #[.agg #[inN 2, inN 238], .bool false], [], 2022⟩
theorem m106_2005_ok : isMemo m106_2005 (m106_2005.run Try.prog goFns orc_m106_2005 100000) = true := by decide +kernel
end Go.Proofs.Ytiigkdhaofaijaa

namespace Go.Proofs.Ytiigkdhaofaijaa
open Go Go.CE Go.RowKit
noncomputable def orc_m107_2024 : Orc := orElse insOrc (memoOrc [m115_2032, m115_2045, m115_2058])
theorem orc_m107_2024_ok (B : Lo) : OrcS Try.prog B orc_m107_2024 := orElse_ok (insOrc_ok _) (orcS_cons goFns_ok mixed_ok (insOrc_ok _) m115_2032_ok (orcS_cons goFns_ok mixed_ok (insOrc_ok _) m115_2045_ok (orcS_cons goFns_ok mixed_ok (insOrc_ok _) m115_2058_ok (orcS_nil _ _))))
def m107_2024 : Memo :=
  ⟨107, #[.agg #[.slice (some ⟨421, 0, none⟩) 4 4, .slice (some ⟨422, 0, none⟩) 2 3, inN 2, inN 100, inN 200, inN 200, inN 300, inN 500, inN 1000, inN 20, inN 50], .slice (some ⟨1747, 0, none⟩) 3 2, inN (-1), .bool false], [(1747, .cells #[.slice (some ⟨1208, 0, none⟩) 2 1, inN 0, .slice (some ⟨1675, 0, none⟩) 2 1, inN 40, .slice (some ⟨1451, 0, none⟩) 2 1, inN 50] 108 (0, 0)), (1208, .cells #[inN (-1), inN (-1)] 3 (0, 0)), (1675, .cells #[inN 1, inN 1] 3 (0, 0)), (1451, .cells #[inN 0, inN (-1)] 3 (0, 0))], 2024, .slice (some ⟨2026, 0, none⟩) 3 2, [(2064, .cells #[inN (-1), inN 0, inN (-1)] 3 (0, 0)), (2051, .cells #[inN (-1), inN 1, inN 1] 3 (0, 0)), (2038, .cells #[inN (-1), inN (-1), inN (-1)] 3 (0, 0)), (2026, .cells #[.slice (some ⟨2038, 0, none⟩) 3 1, inN 0, .slice (some ⟨2051, 0, none⟩) 3 1, inN 40, .slice (some ⟨2064, 0, none⟩) 3 1, inN 50] 108 (0, 0))], 2066⟩
theorem m107_2024_ok : isMemo m107_2024 (m107_2024.run Try.prog goFns orc_m107_2024 100000) = true := by decide +kernel
noncomputable def orc_m106_2068 : Orc := orElse insOrc (memoOrc [m103_2072])
theorem orc_m106_2068_ok (B : Lo) : OrcS Try.prog B orc_m106_2068 := orElse_ok (insOrc_ok _) (orcS_consD goFns_ok mixed_ok (insOrc_ok _) m103_2072_ok (orcS_nil _ _))
def m106_2068 : Memo :=
  ⟨106, #[.agg #[.slice (some ⟨421, 0, none⟩) 4 4, .slice (some ⟨422, 0, none⟩) 2 3, inN 2, inN 100, inN 200, inN 200, inN 300, inN 500, inN 1000, inN 20, inN 50], .agg #[inN 1, inN 258], inN 20, inN 0], [(422, .cells #[inN 60, inN 0, inN 50, inN 0, inN 25, inN 20] 85 (0, 0)), (421, .cells #[inN 100, inN 10, inN 20, inN (-1), inN 150, inN 20, inN 30, inN (-1), inN 180, inN 20, inN 40, inN 10, inN 175, inN 10, inN 20, inN 0] 59 (0, 0))], 2068, .tuple #[.agg #[inN 2, inN 238], .bool false], [], 2085⟩
theorem m106_2068_ok : isMemo m106_2068 (m106_2068.run Try.prog goFns orc_m106_2068 100000) = true := by decide +kernel
noncomputable def orc_m107_2087 : Orc := orElse insOrc (memoOrc [m115_2095, m115_2108, m115_2121])
theorem orc_m107_2087_ok (B : Lo) : OrcS Try.prog B orc_m107_2087 := orElse_ok (insOrc_ok _) (orcS_cons goFns_ok mixed_ok (insOrc_ok _) m115_2095_ok (orcS_cons goFns_ok mixed_ok (insOrc_ok _) m115_2108_ok (orcS_cons goFns_ok mixed_ok (insOrc_ok _) m115_2121_ok (orcS_nil _ _))))
def m107_2087 : Memo :=
  ⟨107, #[.agg #[.slice (some ⟨421, 0, none⟩) 4 4, .slice (some ⟨422, 0, none⟩) 2 3, inN 2, inN 100, inN 200, inN 200, inN 300, inN 500, inN 1000, inN 20, inN 50], .slice (some ⟨1747, 0, none⟩) 3 2, inN 0, .bool false], [(1747, .cells #[.slice (some ⟨1208, 0, none⟩) 2 1, inN 0, .slice (some ⟨1675, 0, none⟩) 2 1, inN 40, .slice (some ⟨1451, 0, none⟩) 2 1, inN 50] 108 (0, 0)), (1208, .cells #[inN (-1), inN (-1)] 3 (0, 0)), (422, .cells #[inN 60, inN 0, inN 50, inN 0, inN 25, inN 20] 85 (0, 0)), (1675, .cells #[inN 1, inN 1] 3 (0, 0)), (1451, .cells #[inN 0, inN (-1)] 3 (0, 0))], 2087, .slice (some ⟨2089, 0, none⟩) 3 2, [(2127, .cells #[inN 0, inN 0, inN (-1)] 3 (0, 0)), (2114, .cells #[inN 0, inN 1, inN 1] 3 (0, 0)), (2101, .cells #[inN 0, inN (-1), inN (-1)] 3 (0, 0)), (2089, .cells #[.slice (some ⟨2101, 0, none⟩) 3 1, inN 50, .slice (some ⟨2114, 0, none⟩) 3 1, inN 90, .slice (some ⟨2127, 0, none⟩) 3 1, inN 100] 108 (0, 0))], 2129⟩
theorem m107_2087_ok : isMemo m107_2087 (m107_2087.run Try.prog goFns orc_m107_2087 100000) = true := by decide +kernel
noncomputable def orc_m106_2131 : Orc := orElse insOrc (memoOrc [m103_2135])
theorem orc_m106_2131_ok (B : Lo) : OrcS Try.prog B orc_m106_2131 := orElse_ok (insOrc_ok _) (orcS_consD goFns_ok mixed_ok (insOrc_ok _) m103_2135_ok (orcS_nil _ _))
def m106_2131 : Memo :=
  ⟨106, #[.agg #[.slice (some ⟨421, 0, none⟩) 4 4, .slice (some ⟨422, 0, none⟩) 2 3, inN 2, inN 100, inN 200, inN 200, inN 300, inN 500, inN 1000, inN 20, inN 50], .agg #[inN 1, inN 258], inN 20, inN 1], [(422, .cells #[inN 60, inN 0, inN 50, inN 0, inN 25, inN 20] 85 (0, 0)), (421, .cells #[inN 100, inN 10, inN 20, inN (-1), inN 150, inN 20, inN 30, inN (-1), inN 180, inN 20, inN 40, inN 10, inN 175, inN 10, inN 20, inN 0] 59 (0, 0))], 2131, .tuple #[.agg #[inN 2, inN 213], .bool false], [], 2148⟩
theorem m106_2131_ok : isMemo m106_2131 (m106_2131.run Try.prog goFns orc_m106_2131 100000) = true := by decide +kernel
noncomputable def orc_m106_2150 : Orc := orElse insOrc (memoOrc [m103_2154])
theorem orc_m106_2150_ok (B : Lo) : OrcS Try.prog B orc_m106_2150 := orElse_ok (insOrc_ok _) (orcS_consD goFns_ok mixed_ok (insOrc_ok _) m103_2154_ok (orcS_nil _ _))
def m106_2150 : Memo :=
  ⟨106, #[.agg #[.slice (some ⟨421, 0, none⟩) 4 4, .slice (some ⟨422, 0, none⟩) 2 3, inN 2, inN 100, inN 200, inN 200, inN 300, inN 500, inN 1000, inN 20, inN 50], .agg #[inN 2, inN 213], inN 20, inN (-1)], [(421, .cells #[inN 100, inN 10, inN 20, inN (-1), inN 150, inN 20, inN 30, inN (-1), inN 180, inN 20, inN 40, inN 10, inN 175, inN 10, inN 20, inN 0] 59 (0, 0))], 2150, .tuple #[.agg #[inN 3, inN 193], .bool false], [], 2167⟩
theorem m106_2150_ok : isMemo m106_2150 (m106_2150.run Try.prog goFns orc_m106_2150 100000) = true := by decide +kernel
noncomputable def orc_m107_2169 : Orc := orElse insOrc (memoOrc [m115_2177, m115_2190])
theorem orc_m107_2169_ok (B : Lo) : OrcS Try.prog B orc_m107_2169 := orElse_ok (insOrc_ok _) (orcS_cons goFns_ok mixed_ok (insOrc_ok _) m115_2177_ok (orcS_cons goFns_ok mixed_ok (insOrc_ok _) m115_2190_ok (orcS_nil _ _)))
def m107_2169 : Memo :=
  ⟨107, #[.agg #[.slice (some ⟨421, 0, none⟩) 4 4, .slice (some ⟨422, 0, none⟩) 2 3, inN 2, inN 100, inN 200, inN 200, inN 300, inN 500, inN 1000, inN 20, inN 50], .slice (some ⟨1638, 0, none⟩) 2 2, inN (-1), .bool false], [(1638, .cells #[.slice (some ⟨1509, 0, none⟩) 1 1, inN 0, .slice (some ⟨1585, 0, none⟩) 1 1, inN 20] 108 (0, 0)), (1509, .cells #[inN (-1)] 3 (0, 0)), (1585, .cells #[inN 1] 3 (0, 0))], 2169, .slice (some ⟨2171, 0, none⟩) 2 2, [(2196, .cells #[inN (-1), inN 1] 3 (0, 0)), (2183, .cells #[inN (-1), inN (-1)] 3 (0, 0)), (2171, .cells #[.slice (some ⟨2183, 0, none⟩) 2 1, inN 0, .slice (some ⟨2196, 0, none⟩) 2 1, inN 20] 108 (0, 0))], 2198⟩
theorem m107_2169_ok : isMemo m107_2169 (m107_2169.run Try.prog goFns orc_m107_2169 100000) = true := by decide +kernel
noncomputable def orc_m106_2200 : Orc := orElse insOrc (memoOrc [m103_2204])
theorem orc_m106_2200_ok (B : Lo) : OrcS Try.prog B orc_m106_2200 := orElse_ok (insOrc_ok _) (orcS_consD goFns_ok mixed_ok (insOrc_ok _) m103_2204_ok (orcS_nil _ _))
def m106_2200 : Memo :=
  ⟨106, #[.agg #[.slice (some ⟨421, 0, none⟩) 4 4, .slice (some ⟨422, 0, none⟩) 2 3, inN 2, inN 100, inN 200, inN 200, inN 300, inN 500, inN 1000, inN 20, inN 50], .agg #[inN 2, inN 213], inN 20, inN 0], [(422, .cells #[inN 60, inN 0, inN 50, inN 0, inN 25, inN 20] 85 (0, 0)), (421, .cells #[inN 100, inN 10, inN 20, inN (-1), inN 150, inN 20, inN 30, inN (-1), inN 180, inN 20, inN 40, inN 10, inN 175, inN 10, inN 20, inN 0] 59 (0, 0))], 2200, .tuple #[.agg #[inN 3, inN (-5000)], .bool true], [], 2217⟩
theorem m106_2200_ok : isMemo m106_2200 (m106_2200.run Try.prog goFns orc_m106_2200 100000) = true := by decide +kernel
noncomputable def orc_m107_2219 : Orc := orElse insOrc (memoOrc [m115_2227, m115_2240])
theorem orc_m107_2219_ok (B : Lo) : OrcS Try.prog B orc_m107_2219 := orElse_ok (insOrc_ok _) (orcS_cons goFns_ok mixed_ok (insOrc_ok _) m115_2227_ok (orcS_cons goFns_ok mixed_ok (insOrc_ok _) m115_2240_ok (orcS_nil _ _)))
def m107_2219 : Memo :=
  ⟨107, #[.agg #[.slice (some ⟨421, 0, none⟩) 4 4, .slice (some ⟨422, 0, none⟩) 2 3, inN 2, inN 100, inN 200, inN 200, inN 300, inN 500, inN 1000, inN 20, inN 50], .slice (some ⟨1414, 0, none⟩) 2 2, inN 0, .bool true], [(1414, .cells #[.slice (some ⟨1277, 0, none⟩) 1 1, inN 0, .slice (some ⟨1277, 0, none⟩) 1 1, inN 0] 108 (0, 0)), (1277, .cells #[inN (-1)] 3 (0, 0)), (422, .cells #[inN 60, inN 0, inN 50, inN 0, inN 25, inN 20] 85 (0, 0))], 2219, .slice (some ⟨2249, 0, none⟩) 3 2, [(2246, .cells #[inN 0, inN (-1)] 3 (0, 0)), (2233, .cells #[inN 0, inN (-1)] 3 (0, 0)), (2249, .cells #[.slice (some ⟨2233, 0, none⟩) 2 1, inN 50, .slice (some ⟨2233, 0, none⟩) 2 1, inN 50, .slice (some ⟨2246, 0, none⟩) 2 1, inN 50] 108 (0, 0))], 2250⟩
theorem m107_2219_ok : isMemo m107_2219 (m107_2219.run Try.prog goFns orc_m107_2219 100000) = true := by decide +kernel
noncomputable def orc_m106_2252 : Orc := orElse insOrc (memoOrc [m103_2256])
theorem orc_m106_2252_ok (B : Lo) : OrcS Try.prog B orc_m106_2252 := orElse_ok (insOrc_ok _) (orcS_consD goFns_ok mixed_ok (insOrc_ok _) m103_2256_ok (orcS_nil _ _))
def m106_2252 : Memo :=
  ⟨106, #[.agg #[.slice (some ⟨421, 0, none⟩) 4 4, .slice (some ⟨422, 0, none⟩) 2 3, inN 2, inN 100, inN 200, inN 200, inN 300, inN 500, inN 1000, inN 20, inN 50], .agg #[inN 2, inN 213], inN 20, inN 1], [(422, .cells #[inN 60, inN 0, inN 50, inN 0, inN 25, inN 20] 85 (0, 0)), (421, .cells #[inN 100, inN 10, inN 20, inN (-1), inN 150, inN 20, inN 30, inN (-1), inN 180, inN 20, inN 40, inN 10, inN 175, inN 10, inN 20, inN 0] 59 (0, 0))], 2252, .tuple #[.agg #[inN 3, inN (-5000)], .bool true], [], 2269⟩
theorem m106_2252_ok : isMemo m106_2252 (m106_2252.run Try.prog goFns orc_m106_2252 100000) = true := by decide +kernel
noncomputable def orc_m107_2271 : Orc := orElse insOrc (memoOrc [m115_2279, m115_2292])
theorem orc_m107_2271_ok (B : Lo) : OrcS Try.prog B orc_m107_2271 := orElse_ok (insOrc_ok _) (orcS_cons goFns_ok mixed_ok (insOrc_ok _) m115_2279_ok (orcS_cons goFns_ok mixed_ok (insOrc_ok _) m115_2292_ok (orcS_nil _ _)))
def m107_2271 : Memo :=
  ⟨107, #[.agg #[.slice (some ⟨421, 0, none⟩) 4 4, .slice (some ⟨422, 0, none⟩) 2 3, inN 2, inN 100, inN 200, inN 200, inN 300, inN 500, inN 1000, inN 20, inN 50], .slice (some ⟨1414, 0, none⟩) 2 2, inN 1, .bool true], [(1414, .cells #[.slice (some ⟨1277, 0, none⟩) 1 1, inN 0, .slice (some ⟨1277, 0, none⟩) 1 1, inN 0] 108 (0, 0)), (1277, .cells #[inN (-1)] 3 (0, 0)), (422, .cells #[inN 60, inN 0, inN 50, inN 0, inN 25, inN 20] 85 (0, 0))], 2271, .slice (some ⟨2301, 0, none⟩) 3 2, [(2298, .cells #[inN 1, inN (-1)] 3 (0, 0)), (2285, .cells #[inN 1, inN (-1)] 3 (0, 0)), (2301, .cells #[.slice (some ⟨2285, 0, none⟩) 2 1, inN 20, .slice (some ⟨2285, 0, none⟩) 2 1, inN 20, .slice (some ⟨2298, 0, none⟩) 2 1, inN 20] 108 (0, 0))], 2302⟩
theorem m107_2271_ok : isMemo m107_2271 (m107_2271.run Try.prog goFns orc_m107_2271 100000) = true := by decide +kernel
noncomputable def orc_m107_2388 : Orc := orElse insOrc (memoOrc [m115_2396, m115_2409, m115_2422])
theorem orc_m107_2388_ok (B : Lo) : OrcS Try.prog B orc_m107_2388 := orElse_ok (insOrc_ok _) (orcS_cons goFns_ok mixed_ok (insOrc_ok _) m115_2396_ok (orcS_cons goFns_ok mixed_ok (insOrc_ok _) m115_2409_ok (orcS_cons goFns_ok mixed_ok (insOrc_ok _) m115_2422_ok (orcS_nil _ _))))
def m107_2388 : Memo :=
  ⟨107, #[.agg #[.slice (some ⟨421, 0, none⟩) 4 4, .slice (some ⟨422, 0, none⟩) 2 3, inN 2, inN 100, inN 200, inN 200, inN 300, inN 500, inN 1000, inN 20, inN 50], .slice (some ⟨2378, 0, none⟩) 3 2, inN 1, .bool false], [(2378, .cells #[.slice (some ⟨2183, 0, none⟩) 2 1, inN 0, .slice (some ⟨2196, 0, none⟩) 2 1, inN 20, .slice (some ⟨2298, 0, none⟩) 2 1, inN 20] 108 (0, 0)), (2183, .cells #[inN (-1), inN (-1)] 3 (0, 0)), (422, .cells #[inN 60, inN 0, inN 50, inN 0, inN 25, inN 20] 85 (0, 0)), (2196, .cells #[inN (-1), inN 1] 3 (0, 0)), (2298, .cells #[inN 1, inN (-1)] 3 (0, 0))], 2388, .slice (some ⟨2390, 0, none⟩) 3 2, [(2428, .cells #[inN 1, inN 1, inN (-1)] 3 (0, 0)), (2415, .cells #[inN 1, inN (-1), inN 1] 3 (0, 0)), (2402, .cells #[inN 1, inN (-1), inN (-1)] 3 (0, 0)), (2390, .cells #[.slice (some ⟨2402, 0, none⟩) 3 1, inN 20, .slice (some ⟨2415, 0, none⟩) 3 1, inN 40, .slice (some ⟨2428, 0, none⟩) 3 1, inN 40] 108 (0, 0))], 2430⟩
theorem m107_2388_ok : isMemo m107_2388 (m107_2388.run Try.prog goFns orc_m107_2388 100000) = true := by decide +kernel
noncomputable def orc_m107_2522 : Orc := orElse insOrc (memoOrc [m115_2530, m115_2543, m115_2556])
theorem orc_m107_2522_ok (B : Lo) : OrcS Try.prog B orc_m107_2522 := orElse_ok (insOrc_ok _) (orcS_cons goFns_ok mixed_ok (insOrc_ok _) m115_2530_ok (orcS_cons goFns_ok mixed_ok (insOrc_ok _) m115_2543_ok (orcS_cons goFns_ok mixed_ok (insOrc_ok _) m115_2556_ok (orcS_nil _ _))))
def m107_2522 : Memo :=
  ⟨107, #[.agg #[.slice (some ⟨421, 0, none⟩) 4 4, .slice (some ⟨422, 0, none⟩) 2 3, inN 2, inN 100, inN 200, inN 200, inN 300, inN 500, inN 1000, inN 20, inN 50], .slice (some ⟨2512, 0, none⟩) 3 2, inN 1, .bool false], [(2512, .cells #[.slice (some ⟨2038, 0, none⟩) 3 1, inN 0, .slice (some ⟨2051, 0, none⟩) 3 1, inN 40, .slice (some ⟨2428, 0, none⟩) 3 1, inN 40] 108 (0, 0)), (2038, .cells #[inN (-1), inN (-1), inN (-1)] 3 (0, 0)), (422, .cells #[inN 60, inN 0, inN 50, inN 0, inN 25, inN 20] 85 (0, 0)), (2051, .cells #[inN (-1), inN 1, inN 1] 3 (0, 0)), (2428, .cells #[inN 1, inN 1, inN (-1)] 3 (0, 0))], 2522, .slice (some ⟨2524, 0, none⟩) 3 2, [(2562, .cells #[inN 1, inN 1, inN 1, inN (-1)] 3 (0, 0)), (2549, .cells #[inN 1, inN (-1), inN 1, inN 1] 3 (0, 0)), (2536, .cells #[inN 1, inN (-1), inN (-1), inN (-1)] 3 (0, 0)), (2524, .cells #[.slice (some ⟨2536, 0, none⟩) 4 1, inN 20, .slice (some ⟨2549, 0, none⟩) 4 1, inN 60, .slice (some ⟨2562, 0, none⟩) 4 1, inN 60] 108 (0, 0))], 2564⟩
theorem m107_2522_ok : isMemo m107_2522 (m107_2522.run Try.prog goFns orc_m107_2522 100000) = true := by decide +kernel
noncomputable def orc_m106_2739 : Orc := orElse insOrc (memoOrc [m103_2743])
theorem orc_m106_2739_ok (B : Lo) : OrcS Try.prog B orc_m106_2739 := orElse_ok (insOrc_ok _) (orcS_consD goFns_ok mixed_ok (insOrc_ok _) m103_2743_ok (orcS_nil _ _))
def m106_2739 : Memo :=
  ⟨106, #[.agg #[.slice (some ⟨2663, 0, none⟩) 4 4, .slice (some ⟨2664, 0, none⟩) 2 3, inN 2, inN 100, inN 200, inN 200, inN 300, inN 500, inN 1000, inN 20, inN 50], .agg #[inN 0, inN 293], inN 10, inN (-1)], [(2663, .cells #[inN 100, inN 10, inN 20, inN (-1), inN 150, inN 20, inN 30, inN (-1), inN 180, inN 20, inN 40, inN 10, inN 175, inN 10, inN 20, inN 0] 59 (0, 0))], 2739, .tuple #[.agg #[inN 1, inN 283], .bool false], [], 2756⟩
theorem m106_2739_ok : isMemo m106_2739 (m106_2739.run Try.prog goFns orc_m106_2739 100000) = true := by decide +kernel
noncomputable def orc_m106_2758 : Orc := orElse insOrc (memoOrc [m103_2762])
theorem orc_m106_2758_ok (B : Lo) : OrcS Try.prog B orc_m106_2758 := orElse_ok (insOrc_ok _) (orcS_consD goFns_ok mixed_ok (insOrc_ok _) m103_2762_ok (orcS_nil _ _))
def m106_2758 : Memo :=
  ⟨106, #[.agg #[.slice (some ⟨2663, 0, none⟩) 4 4, .slice (some ⟨2664, 0, none⟩) 2 3, inN 2, inN 100, inN 200, inN 200, inN 300, inN 500, inN 1000, inN 20, inN 50], .agg #[inN 1, inN 283], inN 20, inN (-1)], [(2663, .cells #[inN 100, inN 10, inN 20, inN (-1), inN 150, inN 20, inN 30, inN (-1), inN 180, inN 20, inN 40, inN 10, inN 175, inN 10, inN 20, inN 0] 59 (0, 0))], 2758, .tuple #[.agg #[inN 2, inN 263], .bool false], [], 2775⟩
theorem m106_2758_ok : isMemo m106_2758 (m106_2758.run Try.prog goFns orc_m106_2758 100000) = true := by decide +kernel
noncomputable def orc_m106_2777 : Orc := orElse insOrc (memoOrc [m103_2781])
theorem orc_m106_2777_ok (B : Lo) : OrcS Try.prog B orc_m106_2777 := orElse_ok (insOrc_ok _) (orcS_consD goFns_ok mixed_ok (insOrc_ok _) m103_2781_ok (orcS_nil _ _))
def m106_2777 : Memo :=
  ⟨106, #[.agg #[.slice (some ⟨2663, 0, none⟩) 4 4, .slice (some ⟨2664, 0, none⟩) 2 3, inN 2, inN 100, inN 200, inN 200, inN 300, inN 500, inN 1000, inN 20, inN 50], .agg #[inN 2, inN 263], inN 20, inN (-1)], [(2663, .cells #[inN 100, inN 10, inN 20, inN (-1), inN 150, inN 20, inN 30, inN (-1), inN 180, inN 20, inN 40, inN 10, inN 175, inN 10, inN 20, inN 0] 59 (0, 0))], 2777, .tuple #[.agg #[inN 3, inN 243], .bool false], [], 2794⟩
theorem m106_2777_ok : isMemo m106_2777 (m106_2777.run Try.prog goFns orc_m106_2777 100000) = true := by decide +kernel
noncomputable def orc_m106_2796 : Orc := orElse insOrc (memoOrc [m103_2800])
theorem orc_m106_2796_ok (B : Lo) : OrcS Try.prog B orc_m106_2796 := orElse_ok (insOrc_ok _) (orcS_consD goFns_ok mixed_ok (insOrc_ok _) m103_2800_ok (orcS_nil _ _))
def m106_2796 : Memo :=
  ⟨106, #[.agg #[.slice (some ⟨2663, 0, none⟩) 4 4, .slice (some ⟨2664, 0, none⟩) 2 3, inN 2, inN 100, inN 200, inN 200, inN 300, inN 500, inN 1000, inN 20, inN 50], .agg #[inN 3, inN 243], inN 10, inN (-1)], [(2663, .cells #[inN 100, inN 10, inN 20, inN (-1), inN 150, inN 20, inN 30, inN (-1), inN 180, inN 20, inN 40, inN 10, inN 175, inN 10, inN 20, inN 0] 59 (0, 0))], 2796, .tuple #[.agg #[inN 4, inN 233], .bool false], [], 2813⟩
theorem m106_2796_ok : isMemo m106_2796 (m106_2796.run Try.prog goFns orc_m106_2796 100000) = true := by decide +kernel
noncomputable def orc_m107_2816 : Orc := orElse insOrc (memoOrc [m115_2824])
theorem orc_m107_2816_ok (B : Lo) : OrcS Try.prog B orc_m107_2816 := orElse_ok (insOrc_ok _) (orcS_cons goFns_ok mixed_ok (insOrc_ok _) m115_2824_ok (orcS_nil _ _))
def m107_2816 : Memo :=
  ⟨107, #[.agg #[.slice (some ⟨2663, 0, none⟩) 4 4, .slice (some ⟨2664, 0, none⟩) 2 3, inN 2, inN 100, inN 200, inN 200, inN 300, inN 500, inN 1000, inN 20, inN 50], .slice (some ⟨2815, 0, none⟩) 1 2, inN (-1), .bool false], [(2815, .cells #[.slice none 0 0, inN 0] 108 (0, 0))], 2816, .slice (some ⟨2818, 0, none⟩) 1 2, [(2829, .cells #[inN (-1)] 3 (0, 0)), (2818, .cells #[.slice (some ⟨2829, 0, none⟩) 1 1, inN 0] 108 (0, 0))], 2831⟩
theorem m107_2816_ok : isMemo m107_2816 (m107_2816.run Try.prog goFns orc_m107_2816 100000) = true := by decide +kernel
noncomputable def orc_m106_2833 : Orc := orElse insOrc (memoOrc [m103_2837])
theorem orc_m106_2833_ok (B : Lo) : OrcS Try.prog B orc_m106_2833 := orElse_ok (insOrc_ok _) (orcS_consD goFns_ok mixed_ok (insOrc_ok _) m103_2837_ok (orcS_nil _ _))
def m106_2833 : Memo :=
  ⟨106, #[.agg #[.slice (some ⟨2663, 0, none⟩) 4 4, .slice (some ⟨2664, 0, none⟩) 2 3, inN 2, inN 100, inN 200, inN 200, inN 300, inN 500, inN 1000, inN 20, inN 50], .agg #[inN 3, inN 243], inN 10, inN 0], [(2664, .cells #[inN 60, inN 0, inN 50, inN 0, inN 25, inN 20] 85 (0, 0)), (2663, .cells #[inN 100, inN 10, inN 20, inN (-1), inN 150, inN 20, inN 30, inN (-1), inN 180, inN 20, inN 40, inN 10, inN 175, inN 10, inN 20, inN 0] 59 (0, 0))], 2833, .tuple #[.agg #[inN 4, inN (-5000)], .bool true], [], 2850⟩
theorem m106_2833_ok : isMemo m106_2833 (m106_2833.run Try.prog goFns orc_m106_2833 100000) = true := by decide +kernel
noncomputable def orc_m107_2853 : Orc := orElse insOrc (memoOrc [m115_2861])
theorem orc_m107_2853_ok (B : Lo) : OrcS Try.prog B orc_m107_2853 := orElse_ok (insOrc_ok _) (orcS_cons goFns_ok mixed_ok (insOrc_ok _) m115_2861_ok (orcS_nil _ _))
def m107_2853 : Memo :=
  ⟨107, #[.agg #[.slice (some ⟨2663, 0, none⟩) 4 4, .slice (some ⟨2664, 0, none⟩) 2 3, inN 2, inN 100, inN 200, inN 200, inN 300, inN 500, inN 1000, inN 20, inN 50], .slice (some ⟨2852, 0, none⟩) 1 2, inN 0, .bool true], [(2852, .cells #[.slice none 0 0, inN 0] 108 (0, 0)), (2664, .cells #[inN 60, inN 0, inN 50, inN 0, inN 25, inN 20] 85 (0, 0))], 2853, .slice (some ⟨2869, 0, none⟩) 2 2, [(2866, .cells #[inN 0] 3 (0, 0)), (2869, .cells #[.slice (some ⟨2866, 0, none⟩) 1 1, inN 50, .slice (some ⟨2866, 0, none⟩) 1 1, inN 50] 108 (0, 0))], 2870⟩
theorem m107_2853_ok : isMemo m107_2853 (m107_2853.run Try.prog goFns orc_m107_2853 100000) = true := by decide +kernel
noncomputable def orc_m106_2872 : Orc := orElse insOrc (memoOrc [m103_2876])
theorem orc_m106_2872_ok (B : Lo) : OrcS Try.prog B orc_m106_2872 := orElse_ok (insOrc_ok _) (orcS_consD goFns_ok mixed_ok (insOrc_ok _) m103_2876_ok (orcS_nil _ _))
def m106_2872 : Memo :=
  ⟨106, #[.agg #[.slice (some ⟨2663, 0, none⟩) 4 4, .slice (some ⟨2664, 0, none⟩) 2 3, inN 2, inN 100, inN 200, inN 200, inN 300, inN 500, inN 1000, inN 20, inN 50], .agg #[inN 3, inN 243], inN 10, inN 1], [(2664, .cells #[inN 60, inN 0, inN 50, inN 0, inN 25, inN 20] 85 (0, 0)), (2663, .cells #[inN 100, inN 10, inN 20, inN (-1), inN 150, inN 20, inN 30, inN (-1), inN 180, inN 20, inN 40, inN 10, inN 175, inN 10, inN 20, inN 0] 59 (0, 0))], 2872, .tuple #[.agg #[inN 4, inN 208], .bool false], [], 2889⟩
theorem m106_2872_ok : isMemo m106_2872 (m106_2872.run Try.prog goFns orc_m106_2872 100000) = true := by decide +kernel
noncomputable def orc_m107_2892 : Orc := orElse insOrc (memoOrc [m115_2900])
theorem orc_m107_2892_ok (B : Lo) : OrcS Try.prog B orc_m107_2892 := orElse_ok (insOrc_ok _) (orcS_cons goFns_ok mixed_ok (insOrc_ok _) m115_2900_ok (orcS_nil _ _))
def m107_2892 : Memo :=
  ⟨107, #[.agg #[.slice (some ⟨2663, 0, none⟩) 4 4, .slice (some ⟨2664, 0, none⟩) 2 3, inN 2, inN 100, inN 200, inN 200, inN 300, inN 500, inN 1000, inN 20, inN 50], .slice (some ⟨2891, 0, none⟩) 1 2, inN 1, .bool false], [(2891, .cells #[.slice none 0 0, inN 0] 108 (0, 0)), (2664, .cells #[inN 60, inN 0, inN 50, inN 0, inN 25, inN 20] 85 (0, 0))], 2892, .slice (some ⟨2894, 0, none⟩) 1 2, [(2905, .cells #[inN 1] 3 (0, 0)), (2894, .cells #[.slice (some ⟨2905, 0, none⟩) 1 1, inN 20] 108 (0, 0))], 2907⟩
theorem m107_2892_ok : isMemo m107_2892 (m107_2892.run Try.prog goFns orc_m107_2892 100000) = true := by decide +kernel
noncomputable def orc_m107_2960 : Orc := orElse insOrc (memoOrc [m115_2968, m115_2981])
theorem orc_m107_2960_ok (B : Lo) : OrcS Try.prog B orc_m107_2960 := orElse_ok (insOrc_ok _) (orcS_cons goFns_ok mixed_ok (insOrc_ok _) m115_2968_ok (orcS_cons goFns_ok mixed_ok (insOrc_ok _) m115_2981_ok (orcS_nil _ _)))
def m107_2960 : Memo :=
  ⟨107, #[.agg #[.slice (some ⟨2663, 0, none⟩) 4 4, .slice (some ⟨2664, 0, none⟩) 2 3, inN 2, inN 100, inN 200, inN 200, inN 300, inN 500, inN 1000, inN 20, inN 50], .slice (some ⟨2950, 0, none⟩) 2 2, inN (-1), .bool false], [(2950, .cells #[.slice (some ⟨2829, 0, none⟩) 1 1, inN 0, .slice (some ⟨2866, 0, none⟩) 1 1, inN 50] 108 (0, 0)), (2829, .cells #[inN (-1)] 3 (0, 0)), (2866, .cells #[inN 0] 3 (0, 0))], 2960, .slice (some ⟨2962, 0, none⟩) 2 2, [(2987, .cells #[inN (-1), inN 0] 3 (0, 0)), (2974, .cells #[inN (-1), inN (-1)] 3 (0, 0)), (2962, .cells #[.slice (some ⟨2974, 0, none⟩) 2 1, inN 0, .slice (some ⟨2987, 0, none⟩) 2 1, inN 50] 108 (0, 0))], 2989⟩
theorem m107_2960_ok : isMemo m107_2960 (m107_2960.run Try.prog goFns orc_m107_2960 100000) = true := by decide +kernel
noncomputable def orc_m106_2991 : Orc := orElse insOrc (memoOrc [m103_2995])
theorem orc_m106_2991_ok (B : Lo) : OrcS Try.prog B orc_m106_2991 := orElse_ok (insOrc_ok _) (orcS_consD goFns_ok mixed_ok (insOrc_ok _) m103_2995_ok (orcS_nil _ _))
def m106_2991 : Memo :=
  ⟨106, #[.agg #[.slice (some ⟨2663, 0, none⟩) 4 4, .slice (some ⟨2664, 0, none⟩) 2 3, inN 2, inN 100, inN 200, inN 200, inN 300, inN 500, inN 1000, inN 20, inN 50], .agg #[inN 2, inN 263], inN 20, inN 0], [(2664, .cells #[inN 60, inN 0, inN 50, inN 0, inN 25, inN 20] 85 (0, 0)), (2663, .cells #[inN 100, inN 10, inN 20, inN (-1), inN 150, inN 20, inN 30, inN (-1), inN 180, inN 20, inN 40, inN 10, inN 175, inN 10, inN 20, inN 0] 59 (0, 0))], 2991, .tuple #[.agg #[inN 3, inN 243], .bool false], [], 3008⟩
theorem m106_2991_ok : isMemo m106_2991 (m106_2991.run Try.prog goFns orc_m106_2991 100000) = true := by decide +kernel
noncomputable def orc_m107_3010 : Orc := orElse insOrc (memoOrc [m115_3018, m115_3031])
theorem orc_m107_3010_ok (B : Lo) : OrcS Try.prog B orc_m107_3010 := orElse_ok (insOrc_ok _) (orcS_cons goFns_ok mixed_ok (insOrc_ok _) m115_3018_ok (orcS_cons goFns_ok mixed_ok (insOrc_ok _) m115_3031_ok (orcS_nil _ _)))
def m107_3010 : Memo :=
  ⟨107, #[.agg #[.slice (some ⟨2663, 0, none⟩) 4 4, .slice (some ⟨2664, 0, none⟩) 2 3, inN 2, inN 100, inN 200, inN 200, inN 300, inN 500, inN 1000, inN 20, inN 50], .slice (some ⟨2950, 0, none⟩) 2 2, inN 0, .bool false], [(2950, .cells #[.slice (some ⟨2829, 0, none⟩) 1 1, inN 0, .slice (some ⟨2866, 0, none⟩) 1 1, inN 50] 108 (0, 0)), (2829, .cells #[inN (-1)] 3 (0, 0)), (2664, .cells #[inN 60, inN 0, inN 50, inN 0, inN 25, inN 20] 85 (0, 0)), (2866, .cells #[inN 0] 3 (0, 0))], 3010, .slice (some ⟨3012, 0, none⟩) 2 2, [(3037, .cells #[inN 0, inN 0] 3 (0, 0)), (3024, .cells #[inN 0, inN (-1)] 3 (0, 0)), (3012, .cells #[.slice (some ⟨3024, 0, none⟩) 2 1, inN 50, .slice (some ⟨3037, 0, none⟩) 2 1, inN 100] 108 (0, 0))], 3039⟩
theorem m107_3010_ok : isMemo m107_3010 (m107_3010.run Try.prog goFns orc_m107_3010 100000) = true := by decide +kernel
end Go.Proofs.Ytiigkdhaofaijaa
