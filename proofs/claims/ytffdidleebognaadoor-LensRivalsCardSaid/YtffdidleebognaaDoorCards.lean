/-
  DERIVED. GIVEN WITH THE SEED: THE CARDS: each row of YtffdidleebognaaDoorRows.lean that lists a variable, with what it lists TIED to the program's text (the seventh form; the later family's looks); each row that meets fmt, with fmt's text TOLD by the authors' own Lean function (tested against real Go, not proved from fmt's source: count such statements apart). THE CARD IS WHAT COUNTS. Prove the row's statement (the work); the ties are given (YtffdidleebognaaDoorTie.lean); close each card by the builder's one call (the guide's Derived/Test/ToyasCard.lean, 'card_holds'). Laid BY PROGRAM, IN A SANDBOX (cutbox-door.mjs). By AI agents, Wed Nov 11 2026. No macro, syntax, notation, axiom, sorry.
-/
import Derived.Test.YtffdidleebognaaDoorRows
import GoSem.ClaimSeven
namespace Go.Proofs.YtffdidleebognaaDoor
namespace Rows

/-- THE TIED CARD OF 'motulaw01.LensRivals'. -/
def lensRivalsCard : Claim7 := { stood := { row := lensRivalsRow, standIns := [], harness := (true, "951d2d4b211e3be28058de92c8a8dd9efc82593a4811a1e7cca03590ec83b65c"), looks := false }, kinds := [], alts := [], laidByText := true, laidKinds := [.data, .data, .data], laidTests := true, laidLooks := .later }
def LensRivalsCardSaid : Prop := Claim7.holds Tryd.pinned (.plain (OpenSpec.ofChange lensRivalsSpec)) lensRivalsCard

/-- THE SECOND FORM's CARD OF 'motulaw01.LensRivals'. -/
def lensRivalsUptoCard : Claim7 := { stood := { row := lensRivalsUptoRow, standIns := [], harness := (true, "951d2d4b211e3be28058de92c8a8dd9efc82593a4811a1e7cca03590ec83b65c"), looks := false }, kinds := [], alts := [], laidByText := true, laidKinds := [.data, .data, .data], laidTests := true, laidLooks := .later }
def LensRivalsUptoCardSaid : Prop := Claim7.holds Tryd.pinned (.plain (OpenSpec.upto lensRivalsSpec)) lensRivalsUptoCard
end Rows
end Go.Proofs.YtffdidleebognaaDoor
