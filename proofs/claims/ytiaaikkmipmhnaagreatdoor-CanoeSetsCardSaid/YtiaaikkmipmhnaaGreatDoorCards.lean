/-
  DERIVED. GIVEN WITH THE SEED: THE CARDS: each row of YtiaaikkmipmhnaaGreatDoorRows.lean that lists a variable, with what it lists TIED to the program's text (the seventh form; the later family's looks); each row that meets fmt, with fmt's text TOLD by the authors' own Lean function (tested against real Go, not proved from fmt's source: count such statements apart). THE CARD IS WHAT COUNTS. Prove the row's statement (the work); the ties are given (YtiaaikkmipmhnaaGreatDoorTie.lean); close each card by the builder's one call (the guide's Derived/Test/ToyasCard.lean, 'card_holds'). Laid BY PROGRAM, IN A SANDBOX (cutbox-door.mjs). By AI agents, Wed Nov 11 2026. No macro, syntax, notation, axiom, sorry.
-/
import Derived.Test.YtiaaikkmipmhnaaGreatDoorRows
import GoSem.ClaimSeven
namespace Go.Proofs.YtiaaikkmipmhnaaGreatDoor
namespace Rows

/-- THE TIED CARD OF 'motulaw05.CanoeSets'. -/
def canoeSetsCard : Claim7 := { stood := { row := canoeSetsRow, standIns := [], harness := (true, "f4c3872f85d24463241cf5d226473911f3b7fef5cc4a43563cb21f0a12f44ff4"), looks := false }, kinds := [], alts := [], laidByText := true, laidKinds := [.data, .data, .data], laidTests := true, laidLooks := .later }
def CanoeSetsCardSaid : Prop := Claim7.holds Tryz.pinned (.plain (OpenSpec.ofChange canoeSetsSpec)) canoeSetsCard

/-- THE TIED CARD OF 'motulaw05.CanoeFits'. -/
def canoeFitsCard : Claim7 := { stood := { row := canoeFitsRow, standIns := [], harness := (true, "f4c3872f85d24463241cf5d226473911f3b7fef5cc4a43563cb21f0a12f44ff4"), looks := false }, kinds := [], alts := [], laidByText := true, laidKinds := [.data, .data, .data], laidTests := true, laidLooks := .later }
def CanoeFitsCardSaid : Prop := Claim7.holds Tryz.pinned (.plain (OpenSpec.ofChange canoeFitsSpec)) canoeFitsCard

/-- THE TIED CARD OF 'motulaw05.CanoeTrue'. -/
def canoeTrueCard : Claim7 := { stood := { row := canoeTrueRow, standIns := [], harness := (true, "f4c3872f85d24463241cf5d226473911f3b7fef5cc4a43563cb21f0a12f44ff4"), looks := false }, kinds := [], alts := [], laidByText := true, laidKinds := [.data, .data, .data], laidTests := true, laidLooks := .later }
def CanoeTrueCardSaid : Prop := Claim7.holds Tryz.pinned (.plain (OpenSpec.ofChange canoeTrueSpec)) canoeTrueCard

/-- THE TIED CARD OF 'motulaw05.CanoeSharp'. -/
def canoeSharpCard : Claim7 := { stood := { row := canoeSharpRow, standIns := [], harness := (true, "f4c3872f85d24463241cf5d226473911f3b7fef5cc4a43563cb21f0a12f44ff4"), looks := false }, kinds := [], alts := [], laidByText := true, laidKinds := [.data, .data, .data], laidTests := true, laidLooks := .later }
def CanoeSharpCardSaid : Prop := Claim7.holds Tryz.pinned (.plain (OpenSpec.ofChange canoeSharpSpec)) canoeSharpCard

/-- THE TIED CARD OF 'motulaw05.CanoeMore'. -/
def canoeMoreCard : Claim7 := { stood := { row := canoeMoreRow, standIns := [], harness := (true, "f4c3872f85d24463241cf5d226473911f3b7fef5cc4a43563cb21f0a12f44ff4"), looks := false }, kinds := [], alts := [], laidByText := true, laidKinds := [.data, .data, .data], laidTests := true, laidLooks := .later }
def CanoeMoreCardSaid : Prop := Claim7.holds Tryz.pinned (.plain (OpenSpec.ofChange canoeMoreSpec)) canoeMoreCard

/-- THE SECOND FORM's CARD OF 'motulaw05.CanoeSets'. -/
def canoeSetsUptoCard : Claim7 := { stood := { row := canoeSetsUptoRow, standIns := [], harness := (true, "f4c3872f85d24463241cf5d226473911f3b7fef5cc4a43563cb21f0a12f44ff4"), looks := false }, kinds := [], alts := [], laidByText := true, laidKinds := [.data, .data, .data], laidTests := true, laidLooks := .later }
def CanoeSetsUptoCardSaid : Prop := Claim7.holds Tryz.pinned (.plain (OpenSpec.upto canoeSetsSpec)) canoeSetsUptoCard

/-- THE SECOND FORM's CARD OF 'motulaw05.CanoeFits'. -/
def canoeFitsUptoCard : Claim7 := { stood := { row := canoeFitsUptoRow, standIns := [], harness := (true, "f4c3872f85d24463241cf5d226473911f3b7fef5cc4a43563cb21f0a12f44ff4"), looks := false }, kinds := [], alts := [], laidByText := true, laidKinds := [.data, .data, .data], laidTests := true, laidLooks := .later }
def CanoeFitsUptoCardSaid : Prop := Claim7.holds Tryz.pinned (.plain (OpenSpec.upto canoeFitsSpec)) canoeFitsUptoCard

/-- THE SECOND FORM's CARD OF 'motulaw05.CanoeTrue'. -/
def canoeTrueUptoCard : Claim7 := { stood := { row := canoeTrueUptoRow, standIns := [], harness := (true, "f4c3872f85d24463241cf5d226473911f3b7fef5cc4a43563cb21f0a12f44ff4"), looks := false }, kinds := [], alts := [], laidByText := true, laidKinds := [.data, .data, .data], laidTests := true, laidLooks := .later }
def CanoeTrueUptoCardSaid : Prop := Claim7.holds Tryz.pinned (.plain (OpenSpec.upto canoeTrueSpec)) canoeTrueUptoCard

/-- THE SECOND FORM's CARD OF 'motulaw05.CanoeSharp'. -/
def canoeSharpUptoCard : Claim7 := { stood := { row := canoeSharpUptoRow, standIns := [], harness := (true, "f4c3872f85d24463241cf5d226473911f3b7fef5cc4a43563cb21f0a12f44ff4"), looks := false }, kinds := [], alts := [], laidByText := true, laidKinds := [.data, .data, .data], laidTests := true, laidLooks := .later }
def CanoeSharpUptoCardSaid : Prop := Claim7.holds Tryz.pinned (.plain (OpenSpec.upto canoeSharpSpec)) canoeSharpUptoCard

/-- THE SECOND FORM's CARD OF 'motulaw05.CanoeMore'. -/
def canoeMoreUptoCard : Claim7 := { stood := { row := canoeMoreUptoRow, standIns := [], harness := (true, "f4c3872f85d24463241cf5d226473911f3b7fef5cc4a43563cb21f0a12f44ff4"), looks := false }, kinds := [], alts := [], laidByText := true, laidKinds := [.data, .data, .data], laidTests := true, laidLooks := .later }
def CanoeMoreUptoCardSaid : Prop := Claim7.holds Tryz.pinned (.plain (OpenSpec.upto canoeMoreSpec)) canoeMoreUptoCard
end Rows
end Go.Proofs.YtiaaikkmipmhnaaGreatDoor
