/-
  NARROWER THAN 'FOR EVERY INPUT', by the rows' own cells (each row's printed sentence says how): LensKnows: laid · LensPlays: laid · LensLedgers: laid · LensTrue: laid · LensFaults: laid · LensSafe: laid · LensFews: laid.
  DERIVED. THE GIVEN ROWS OF THIS SEAT. 7 by the template 'for every input the law returns true; each argument reads behind the call as it read before'; 0 by the template 'total and deterministic' (their statements: YtffdidleebognaaGreatDoorTotals.lean).
  GIVEN WITH THE SEED: the statements are not yours to turn. If you find one false, say at which input.
  Laid BY PROGRAM, IN A SANDBOX (cutbox-rows.mjs): the forced cells as the released guide's own fill.sh prints them over the translation 04cc1b3305cef6cb… (all of the seat's roots in one cut). By AI agents, Wed Nov 11 2026. No macro, syntax, notation, axiom, sorry.
-/
import Derived.Test.YtffdidleebognaaGreatDoorChecked
import GoSem.Claim
import GoSem.ClaimJoined
import GoSem.ClaimMapViews
import Derived.JoinedTies
import Derived.KernelRfl
namespace Go.Proofs.YtffdidleebognaaGreatDoor
/- THE CELL 'sum', in the pinned program and in every row, IS THE sha256 OF THE DUMP (.gsa) THAT YtffdidleebognaaGreatDoorProg.lean LOADS. Nothing in Lean hashes anything: it is a label: what it is worth is what the hold of that sum in a sandbox is worth. -/
noncomputable def Tryz.pinned : Pinned := { name := "ytffdidleebognaagreatdoor", sum := "04cc1b3305cef6cb17e9537fc636ecde3a080f04f98ef086728b84fca530468b", checked := Tryz.checked }
namespace Rows
def none {H : Type} : Left H := { results := [], args := [] }

/- WHAT THE LISTED PACKAGE-LEVEL VARIABLES READ AS WHEN THE CALL BEGINS. Each datum BY PROGRAM (the guide's laid-datum.mjs) off the statement by which the dump's own 'gosem.cut.vars' lays the variable. In a bare row this is a premise. The card (YtffdidleebognaaGreatDoorCards.lean) ties it to the program's text. -/
def laid_math_bits_deBruijn32tab {H : Type} : DataW H := .agg [.lit (.int .u8 0), .lit (.int .u8 1), .lit (.int .u8 28), .lit (.int .u8 2), .lit (.int .u8 29), .lit (.int .u8 14), .lit (.int .u8 24), .lit (.int .u8 3), .lit (.int .u8 30), .lit (.int .u8 22), .lit (.int .u8 20), .lit (.int .u8 15), .lit (.int .u8 25), .lit (.int .u8 17), .lit (.int .u8 4), .lit (.int .u8 8), .lit (.int .u8 31), .lit (.int .u8 27), .lit (.int .u8 13), .lit (.int .u8 23), .lit (.int .u8 21), .lit (.int .u8 19), .lit (.int .u8 16), .lit (.int .u8 7), .lit (.int .u8 26), .lit (.int .u8 12), .lit (.int .u8 18), .lit (.int .u8 6), .lit (.int .u8 11), .lit (.int .u8 5), .lit (.int .u8 10), .lit (.int .u8 9)]
def laid_math_bits_deBruijn64tab {H : Type} : DataW H := .agg [.lit (.int .u8 0), .lit (.int .u8 1), .lit (.int .u8 56), .lit (.int .u8 2), .lit (.int .u8 57), .lit (.int .u8 49), .lit (.int .u8 28), .lit (.int .u8 3), .lit (.int .u8 61), .lit (.int .u8 58), .lit (.int .u8 42), .lit (.int .u8 50), .lit (.int .u8 38), .lit (.int .u8 29), .lit (.int .u8 17), .lit (.int .u8 4), .lit (.int .u8 62), .lit (.int .u8 47), .lit (.int .u8 59), .lit (.int .u8 36), .lit (.int .u8 45), .lit (.int .u8 43), .lit (.int .u8 51), .lit (.int .u8 22), .lit (.int .u8 53), .lit (.int .u8 39), .lit (.int .u8 33), .lit (.int .u8 30), .lit (.int .u8 24), .lit (.int .u8 18), .lit (.int .u8 12), .lit (.int .u8 5), .lit (.int .u8 63), .lit (.int .u8 55), .lit (.int .u8 48), .lit (.int .u8 27), .lit (.int .u8 60), .lit (.int .u8 41), .lit (.int .u8 37), .lit (.int .u8 16), .lit (.int .u8 46), .lit (.int .u8 35), .lit (.int .u8 44), .lit (.int .u8 21), .lit (.int .u8 52), .lit (.int .u8 32), .lit (.int .u8 23), .lit (.int .u8 11), .lit (.int .u8 54), .lit (.int .u8 26), .lit (.int .u8 40), .lit (.int .u8 15), .lit (.int .u8 34), .lit (.int .u8 20), .lit (.int .u8 31), .lit (.int .u8 10), .lit (.int .u8 25), .lit (.int .u8 14), .lit (.int .u8 19), .lit (.int .u8 9), .lit (.int .u8 13), .lit (.int .u8 8), .lit (.int .u8 7), .lit (.int .u8 6)]
def laid_internal_strconv_uint64pow10 {H : Type} : DataW H := .agg [.lit (.int .u64 1), .lit (.int .u64 10), .lit (.int .u64 100), .lit (.int .u64 1000), .lit (.int .u64 10000), .lit (.int .u64 100000), .lit (.int .u64 1000000), .lit (.int .u64 10000000), .lit (.int .u64 100000000), .lit (.int .u64 1000000000), .lit (.int .u64 10000000000), .lit (.int .u64 100000000000), .lit (.int .u64 1000000000000), .lit (.int .u64 10000000000000), .lit (.int .u64 100000000000000), .lit (.int .u64 1000000000000000), .lit (.int .u64 10000000000000000), .lit (.int .u64 100000000000000000), .lit (.int .u64 1000000000000000000), .lit (.int .u64 10000000000000000000)]

/-- 'motulaw01.LensKnows': WHATEVER THE INPUT: true; the input reads as it did. -/
def lensKnowsSpec : ChangeSpec := { name := "lensKnows", fn := fun _ => fun
  | [d1, d2] => { results := [.lit (.bool true)], args := [d1, d2] }
  | _ => none }
def lensKnowsRow : OpenClaim := { program := "ytffdidleebognaagreatdoor", sum := "04cc1b3305cef6cb17e9537fc636ecde3a080f04f98ef086728b84fca530468b", func := "motu/motulaw01.LensKnows", spec := "lensKnows", inPlace := ["internal/abi.NoEscape", "internal/bytealg.MakeNoZero"], unfollowed := true, recurses := true, named := ["internal/strconv.uint64pow10", "math/bits.deBruijn32tab", "math/bits.deBruijn64tab"], apart := false, laid := [("math/bits.deBruijn32tab", laid_math_bits_deBruijn32tab), ("math/bits.deBruijn64tab", laid_math_bits_deBruijn64tab), ("internal/strconv.uint64pow10", laid_internal_strconv_uint64pow10)] }
def LensKnowsSaid : Prop := lensKnowsRow.holds Tryz.pinned (OpenSpec.ofChange lensKnowsSpec)

/-- ITS FALSE NEIGHBOUR: 'it returns false'. Refute it at one input. -/
def lensKnowsWrong : ChangeSpec := { name := "lensKnows", fn := fun _ => fun
  | [d1, d2] => { results := [.lit (.bool false)], args := [d1, d2] }
  | _ => none }
def LensKnowsWrongFalsely : Prop := lensKnowsRow.holds Tryz.pinned (OpenSpec.ofChange lensKnowsWrong)

/-- 'motulaw01.LensPlays': WHATEVER THE INPUT: true; the input reads as it did. -/
def lensPlaysSpec : ChangeSpec := { name := "lensPlays", fn := fun _ => fun
  | [d1, d2, d3] => { results := [.lit (.bool true)], args := [d1, d2, d3] }
  | _ => none }
def lensPlaysRow : OpenClaim := { program := "ytffdidleebognaagreatdoor", sum := "04cc1b3305cef6cb17e9537fc636ecde3a080f04f98ef086728b84fca530468b", func := "motu/motulaw01.LensPlays", spec := "lensPlays", inPlace := ["internal/abi.NoEscape", "internal/bytealg.MakeNoZero"], unfollowed := true, recurses := true, named := ["internal/strconv.uint64pow10", "math/bits.deBruijn32tab", "math/bits.deBruijn64tab"], apart := false, laid := [("math/bits.deBruijn32tab", laid_math_bits_deBruijn32tab), ("math/bits.deBruijn64tab", laid_math_bits_deBruijn64tab), ("internal/strconv.uint64pow10", laid_internal_strconv_uint64pow10)] }
def LensPlaysSaid : Prop := lensPlaysRow.holds Tryz.pinned (OpenSpec.ofChange lensPlaysSpec)

/-- ITS FALSE NEIGHBOUR: 'it returns false'. Refute it at one input. -/
def lensPlaysWrong : ChangeSpec := { name := "lensPlays", fn := fun _ => fun
  | [d1, d2, d3] => { results := [.lit (.bool false)], args := [d1, d2, d3] }
  | _ => none }
def LensPlaysWrongFalsely : Prop := lensPlaysRow.holds Tryz.pinned (OpenSpec.ofChange lensPlaysWrong)

/-- 'motulaw01.LensLedgers': WHATEVER THE INPUT: true; the input reads as it did. -/
def lensLedgersSpec : ChangeSpec := { name := "lensLedgers", fn := fun _ => fun
  | [d1, d2, d3] => { results := [.lit (.bool true)], args := [d1, d2, d3] }
  | _ => none }
def lensLedgersRow : OpenClaim := { program := "ytffdidleebognaagreatdoor", sum := "04cc1b3305cef6cb17e9537fc636ecde3a080f04f98ef086728b84fca530468b", func := "motu/motulaw01.LensLedgers", spec := "lensLedgers", inPlace := ["internal/abi.NoEscape", "internal/bytealg.MakeNoZero"], unfollowed := true, recurses := true, named := ["internal/strconv.uint64pow10", "math/bits.deBruijn32tab", "math/bits.deBruijn64tab"], apart := false, laid := [("math/bits.deBruijn32tab", laid_math_bits_deBruijn32tab), ("math/bits.deBruijn64tab", laid_math_bits_deBruijn64tab), ("internal/strconv.uint64pow10", laid_internal_strconv_uint64pow10)] }
def LensLedgersSaid : Prop := lensLedgersRow.holds Tryz.pinned (OpenSpec.ofChange lensLedgersSpec)

/-- ITS FALSE NEIGHBOUR: 'it returns false'. Refute it at one input. -/
def lensLedgersWrong : ChangeSpec := { name := "lensLedgers", fn := fun _ => fun
  | [d1, d2, d3] => { results := [.lit (.bool false)], args := [d1, d2, d3] }
  | _ => none }
def LensLedgersWrongFalsely : Prop := lensLedgersRow.holds Tryz.pinned (OpenSpec.ofChange lensLedgersWrong)

/-- 'motulaw01.LensTrue': WHATEVER THE INPUT: true; the input reads as it did. -/
def lensTrueSpec : ChangeSpec := { name := "lensTrue", fn := fun _ => fun
  | [d1, d2, d3] => { results := [.lit (.bool true)], args := [d1, d2, d3] }
  | _ => none }
def lensTrueRow : OpenClaim := { program := "ytffdidleebognaagreatdoor", sum := "04cc1b3305cef6cb17e9537fc636ecde3a080f04f98ef086728b84fca530468b", func := "motu/motulaw01.LensTrue", spec := "lensTrue", inPlace := ["internal/abi.NoEscape", "internal/bytealg.MakeNoZero"], unfollowed := true, recurses := true, named := ["internal/strconv.uint64pow10", "math/bits.deBruijn32tab", "math/bits.deBruijn64tab"], apart := false, laid := [("math/bits.deBruijn32tab", laid_math_bits_deBruijn32tab), ("math/bits.deBruijn64tab", laid_math_bits_deBruijn64tab), ("internal/strconv.uint64pow10", laid_internal_strconv_uint64pow10)] }
def LensTrueSaid : Prop := lensTrueRow.holds Tryz.pinned (OpenSpec.ofChange lensTrueSpec)

/-- ITS FALSE NEIGHBOUR: 'it returns false'. Refute it at one input. -/
def lensTrueWrong : ChangeSpec := { name := "lensTrue", fn := fun _ => fun
  | [d1, d2, d3] => { results := [.lit (.bool false)], args := [d1, d2, d3] }
  | _ => none }
def LensTrueWrongFalsely : Prop := lensTrueRow.holds Tryz.pinned (OpenSpec.ofChange lensTrueWrong)

/-- 'motulaw01.LensFaults': WHATEVER THE INPUT: true; the input reads as it did. -/
def lensFaultsSpec : ChangeSpec := { name := "lensFaults", fn := fun _ => fun
  | [d1, d2] => { results := [.lit (.bool true)], args := [d1, d2] }
  | _ => none }
def lensFaultsRow : OpenClaim := { program := "ytffdidleebognaagreatdoor", sum := "04cc1b3305cef6cb17e9537fc636ecde3a080f04f98ef086728b84fca530468b", func := "motu/motulaw01.LensFaults", spec := "lensFaults", inPlace := ["internal/abi.NoEscape", "internal/bytealg.MakeNoZero"], unfollowed := true, recurses := true, named := ["internal/strconv.uint64pow10", "math/bits.deBruijn32tab", "math/bits.deBruijn64tab"], apart := false, laid := [("math/bits.deBruijn32tab", laid_math_bits_deBruijn32tab), ("math/bits.deBruijn64tab", laid_math_bits_deBruijn64tab), ("internal/strconv.uint64pow10", laid_internal_strconv_uint64pow10)] }
def LensFaultsSaid : Prop := lensFaultsRow.holds Tryz.pinned (OpenSpec.ofChange lensFaultsSpec)

/-- ITS FALSE NEIGHBOUR: 'it returns false'. Refute it at one input. -/
def lensFaultsWrong : ChangeSpec := { name := "lensFaults", fn := fun _ => fun
  | [d1, d2] => { results := [.lit (.bool false)], args := [d1, d2] }
  | _ => none }
def LensFaultsWrongFalsely : Prop := lensFaultsRow.holds Tryz.pinned (OpenSpec.ofChange lensFaultsWrong)

/-- 'motulaw01.LensSafe': WHATEVER THE INPUT: true; the input reads as it did. -/
def lensSafeSpec : ChangeSpec := { name := "lensSafe", fn := fun _ => fun
  | [d1, d2, d3] => { results := [.lit (.bool true)], args := [d1, d2, d3] }
  | _ => none }
def lensSafeRow : OpenClaim := { program := "ytffdidleebognaagreatdoor", sum := "04cc1b3305cef6cb17e9537fc636ecde3a080f04f98ef086728b84fca530468b", func := "motu/motulaw01.LensSafe", spec := "lensSafe", inPlace := ["internal/abi.NoEscape", "internal/bytealg.MakeNoZero"], unfollowed := true, recurses := true, named := ["internal/strconv.uint64pow10", "math/bits.deBruijn32tab", "math/bits.deBruijn64tab"], apart := false, laid := [("math/bits.deBruijn32tab", laid_math_bits_deBruijn32tab), ("math/bits.deBruijn64tab", laid_math_bits_deBruijn64tab), ("internal/strconv.uint64pow10", laid_internal_strconv_uint64pow10)] }
def LensSafeSaid : Prop := lensSafeRow.holds Tryz.pinned (OpenSpec.ofChange lensSafeSpec)

/-- ITS FALSE NEIGHBOUR: 'it returns false'. Refute it at one input. -/
def lensSafeWrong : ChangeSpec := { name := "lensSafe", fn := fun _ => fun
  | [d1, d2, d3] => { results := [.lit (.bool false)], args := [d1, d2, d3] }
  | _ => none }
def LensSafeWrongFalsely : Prop := lensSafeRow.holds Tryz.pinned (OpenSpec.ofChange lensSafeWrong)

/-- 'motulaw01.LensFews': WHATEVER THE INPUT: true; the input reads as it did. -/
def lensFewsSpec : ChangeSpec := { name := "lensFews", fn := fun _ => fun
  | [d] => { results := [.lit (.bool true)], args := [d] }
  | _ => none }
def lensFewsRow : OpenClaim := { program := "ytffdidleebognaagreatdoor", sum := "04cc1b3305cef6cb17e9537fc636ecde3a080f04f98ef086728b84fca530468b", func := "motu/motulaw01.LensFews", spec := "lensFews", inPlace := ["internal/abi.NoEscape", "internal/bytealg.MakeNoZero"], unfollowed := true, recurses := true, named := ["internal/strconv.uint64pow10", "math/bits.deBruijn32tab", "math/bits.deBruijn64tab"], apart := false, laid := [("math/bits.deBruijn32tab", laid_math_bits_deBruijn32tab), ("math/bits.deBruijn64tab", laid_math_bits_deBruijn64tab), ("internal/strconv.uint64pow10", laid_internal_strconv_uint64pow10)] }
def LensFewsSaid : Prop := lensFewsRow.holds Tryz.pinned (OpenSpec.ofChange lensFewsSpec)

/-- ITS FALSE NEIGHBOUR: 'it returns false'. Refute it at one input. -/
def lensFewsWrong : ChangeSpec := { name := "lensFews", fn := fun _ => fun
  | [d] => { results := [.lit (.bool false)], args := [d] }
  | _ => none }
def LensFewsWrongFalsely : Prop := lensFewsRow.holds Tryz.pinned (OpenSpec.ofChange lensFewsWrong)

/- THE SECOND FORM. 'bulk': how many values and letters a reading holds, each counted each time it is reached (what is shared counts as often as it is met; a slice's spare places count too). A statement '..UptoSaid' is the law's where the arguments, and the package variables that the reading takes, are together of bulk at most 1048576: NARROWER than '..Said'. Prove '..Said' where nothing that the law and all that it calls make is longer than what came in: it says more and counts as full. Else prove '..UptoSaid'. A law counts once. -/
mutual
def uptoBulk {H : Type} : DataW H → Nat
  | .lit (.string bytes) => bytes.length + 1
  | .lit _ => 1
  | .nil => 1
  | .ptr d => uptoBulk d + 1
  | .slice elems spare => uptoBulkAll elems + uptoBulkAll spare + 1
  | .agg parts => uptoBulkAll parts + 1
  | .iface _ d => uptoBulk d + 1
  | .map entries => uptoBulkEntries entries + 1
  | .held _ => 1
def uptoBulkAll {H : Type} : List (DataW H) → Nat
  | [] => 0
  | d :: r => uptoBulk d + uptoBulkAll r
def uptoBulkEntries {H : Type} : List (Lit × DataW H) → Nat
  | [] => 0
  | x :: r => uptoBulkEntry x + uptoBulkEntries r
def uptoBulkEntry {H : Type} : Lit × DataW H → Nat
  | (.string bytes, d) => bytes.length + uptoBulk d + 1
  | (_, d) => uptoBulk d + 1
 end
def uptoSmall : (H : Type) → List (DataW H) → Bool := fun _ ds => decide (uptoBulkAll ds ≤ 1048576)
def OpenSpec.upto (s : _root_.Go.ChangeSpec) : _root_.Go.OpenSpec := { _root_.Go.OpenSpec.ofChange s with cond := some uptoSmall }

/-- 'motulaw01.LensKnows', WHERE WHAT IT READS IS OF BULK AT MOST 1048576: true; the input reads as it did. -/
def lensKnowsUptoRow : OpenClaim := { program := "ytffdidleebognaagreatdoor", sum := "04cc1b3305cef6cb17e9537fc636ecde3a080f04f98ef086728b84fca530468b", func := "motu/motulaw01.LensKnows", spec := "lensKnows", inPlace := ["internal/abi.NoEscape", "internal/bytealg.MakeNoZero"], unfollowed := true, recurses := true, named := ["internal/strconv.uint64pow10", "math/bits.deBruijn32tab", "math/bits.deBruijn64tab"], apart := false, laid := [("math/bits.deBruijn32tab", laid_math_bits_deBruijn32tab), ("math/bits.deBruijn64tab", laid_math_bits_deBruijn64tab), ("internal/strconv.uint64pow10", laid_internal_strconv_uint64pow10)], narrowed := true }
def LensKnowsUptoSaid : Prop := lensKnowsUptoRow.holds Tryz.pinned (OpenSpec.upto lensKnowsSpec)

/-- 'motulaw01.LensPlays', WHERE WHAT IT READS IS OF BULK AT MOST 1048576: true; the input reads as it did. -/
def lensPlaysUptoRow : OpenClaim := { program := "ytffdidleebognaagreatdoor", sum := "04cc1b3305cef6cb17e9537fc636ecde3a080f04f98ef086728b84fca530468b", func := "motu/motulaw01.LensPlays", spec := "lensPlays", inPlace := ["internal/abi.NoEscape", "internal/bytealg.MakeNoZero"], unfollowed := true, recurses := true, named := ["internal/strconv.uint64pow10", "math/bits.deBruijn32tab", "math/bits.deBruijn64tab"], apart := false, laid := [("math/bits.deBruijn32tab", laid_math_bits_deBruijn32tab), ("math/bits.deBruijn64tab", laid_math_bits_deBruijn64tab), ("internal/strconv.uint64pow10", laid_internal_strconv_uint64pow10)], narrowed := true }
def LensPlaysUptoSaid : Prop := lensPlaysUptoRow.holds Tryz.pinned (OpenSpec.upto lensPlaysSpec)

/-- 'motulaw01.LensLedgers', WHERE WHAT IT READS IS OF BULK AT MOST 1048576: true; the input reads as it did. -/
def lensLedgersUptoRow : OpenClaim := { program := "ytffdidleebognaagreatdoor", sum := "04cc1b3305cef6cb17e9537fc636ecde3a080f04f98ef086728b84fca530468b", func := "motu/motulaw01.LensLedgers", spec := "lensLedgers", inPlace := ["internal/abi.NoEscape", "internal/bytealg.MakeNoZero"], unfollowed := true, recurses := true, named := ["internal/strconv.uint64pow10", "math/bits.deBruijn32tab", "math/bits.deBruijn64tab"], apart := false, laid := [("math/bits.deBruijn32tab", laid_math_bits_deBruijn32tab), ("math/bits.deBruijn64tab", laid_math_bits_deBruijn64tab), ("internal/strconv.uint64pow10", laid_internal_strconv_uint64pow10)], narrowed := true }
def LensLedgersUptoSaid : Prop := lensLedgersUptoRow.holds Tryz.pinned (OpenSpec.upto lensLedgersSpec)

/-- 'motulaw01.LensTrue', WHERE WHAT IT READS IS OF BULK AT MOST 1048576: true; the input reads as it did. -/
def lensTrueUptoRow : OpenClaim := { program := "ytffdidleebognaagreatdoor", sum := "04cc1b3305cef6cb17e9537fc636ecde3a080f04f98ef086728b84fca530468b", func := "motu/motulaw01.LensTrue", spec := "lensTrue", inPlace := ["internal/abi.NoEscape", "internal/bytealg.MakeNoZero"], unfollowed := true, recurses := true, named := ["internal/strconv.uint64pow10", "math/bits.deBruijn32tab", "math/bits.deBruijn64tab"], apart := false, laid := [("math/bits.deBruijn32tab", laid_math_bits_deBruijn32tab), ("math/bits.deBruijn64tab", laid_math_bits_deBruijn64tab), ("internal/strconv.uint64pow10", laid_internal_strconv_uint64pow10)], narrowed := true }
def LensTrueUptoSaid : Prop := lensTrueUptoRow.holds Tryz.pinned (OpenSpec.upto lensTrueSpec)

/-- 'motulaw01.LensFaults', WHERE WHAT IT READS IS OF BULK AT MOST 1048576: true; the input reads as it did. -/
def lensFaultsUptoRow : OpenClaim := { program := "ytffdidleebognaagreatdoor", sum := "04cc1b3305cef6cb17e9537fc636ecde3a080f04f98ef086728b84fca530468b", func := "motu/motulaw01.LensFaults", spec := "lensFaults", inPlace := ["internal/abi.NoEscape", "internal/bytealg.MakeNoZero"], unfollowed := true, recurses := true, named := ["internal/strconv.uint64pow10", "math/bits.deBruijn32tab", "math/bits.deBruijn64tab"], apart := false, laid := [("math/bits.deBruijn32tab", laid_math_bits_deBruijn32tab), ("math/bits.deBruijn64tab", laid_math_bits_deBruijn64tab), ("internal/strconv.uint64pow10", laid_internal_strconv_uint64pow10)], narrowed := true }
def LensFaultsUptoSaid : Prop := lensFaultsUptoRow.holds Tryz.pinned (OpenSpec.upto lensFaultsSpec)

/-- 'motulaw01.LensSafe', WHERE WHAT IT READS IS OF BULK AT MOST 1048576: true; the input reads as it did. -/
def lensSafeUptoRow : OpenClaim := { program := "ytffdidleebognaagreatdoor", sum := "04cc1b3305cef6cb17e9537fc636ecde3a080f04f98ef086728b84fca530468b", func := "motu/motulaw01.LensSafe", spec := "lensSafe", inPlace := ["internal/abi.NoEscape", "internal/bytealg.MakeNoZero"], unfollowed := true, recurses := true, named := ["internal/strconv.uint64pow10", "math/bits.deBruijn32tab", "math/bits.deBruijn64tab"], apart := false, laid := [("math/bits.deBruijn32tab", laid_math_bits_deBruijn32tab), ("math/bits.deBruijn64tab", laid_math_bits_deBruijn64tab), ("internal/strconv.uint64pow10", laid_internal_strconv_uint64pow10)], narrowed := true }
def LensSafeUptoSaid : Prop := lensSafeUptoRow.holds Tryz.pinned (OpenSpec.upto lensSafeSpec)

/-- 'motulaw01.LensFews', WHERE WHAT IT READS IS OF BULK AT MOST 1048576: true; the input reads as it did. -/
def lensFewsUptoRow : OpenClaim := { program := "ytffdidleebognaagreatdoor", sum := "04cc1b3305cef6cb17e9537fc636ecde3a080f04f98ef086728b84fca530468b", func := "motu/motulaw01.LensFews", spec := "lensFews", inPlace := ["internal/abi.NoEscape", "internal/bytealg.MakeNoZero"], unfollowed := true, recurses := true, named := ["internal/strconv.uint64pow10", "math/bits.deBruijn32tab", "math/bits.deBruijn64tab"], apart := false, laid := [("math/bits.deBruijn32tab", laid_math_bits_deBruijn32tab), ("math/bits.deBruijn64tab", laid_math_bits_deBruijn64tab), ("internal/strconv.uint64pow10", laid_internal_strconv_uint64pow10)], narrowed := true }
def LensFewsUptoSaid : Prop := lensFewsUptoRow.holds Tryz.pinned (OpenSpec.upto lensFewsSpec)

end Rows
end Go.Proofs.YtffdidleebognaaGreatDoor
