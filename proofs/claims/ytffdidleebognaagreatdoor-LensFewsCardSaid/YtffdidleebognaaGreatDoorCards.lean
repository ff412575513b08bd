/-
  DERIVED. GIVEN WITH THE SEED: THE CARDS: each row of YtffdidleebognaaGreatDoorRows.lean that lists a variable, with what it lists TIED to the program's text (the seventh form; the later family's looks); each row that meets fmt, with fmt's text TOLD by the authors' own Lean function (tested against real Go, not proved from fmt's source: count such statements apart). THE CARD IS WHAT COUNTS. Prove the row's statement (the work); the ties are given (YtffdidleebognaaGreatDoorTie.lean); close each card by the builder's one call (the guide's Derived/Test/ToyasCard.lean, 'card_holds'). Laid BY PROGRAM, IN A SANDBOX (cutbox-door.mjs). By AI agents, Wed Nov 11 2026. No macro, syntax, notation, axiom, sorry.
-/
import Derived.Test.YtffdidleebognaaGreatDoorRows
import GoSem.ClaimSeven
namespace Go.Proofs.YtffdidleebognaaGreatDoor
namespace Rows

/-- THE TIED CARD OF 'motulaw01.LensKnows'. -/
def lensKnowsCard : Claim7 := { stood := { row := lensKnowsRow, standIns := [], harness := (true, "9099cce0d2695ee49c4c4c5e7c08350225e75bdfe1f0db11918d31798f06c3f4"), looks := false }, kinds := [], alts := [], laidByText := true, laidKinds := [.data, .data, .data], laidTests := true, laidLooks := .later }
def LensKnowsCardSaid : Prop := Claim7.holds Tryz.pinned (.plain (OpenSpec.ofChange lensKnowsSpec)) lensKnowsCard

/-- THE TIED CARD OF 'motulaw01.LensPlays'. -/
def lensPlaysCard : Claim7 := { stood := { row := lensPlaysRow, standIns := [], harness := (true, "9099cce0d2695ee49c4c4c5e7c08350225e75bdfe1f0db11918d31798f06c3f4"), looks := false }, kinds := [], alts := [], laidByText := true, laidKinds := [.data, .data, .data], laidTests := true, laidLooks := .later }
def LensPlaysCardSaid : Prop := Claim7.holds Tryz.pinned (.plain (OpenSpec.ofChange lensPlaysSpec)) lensPlaysCard

/-- THE TIED CARD OF 'motulaw01.LensLedgers'. -/
def lensLedgersCard : Claim7 := { stood := { row := lensLedgersRow, standIns := [], harness := (true, "9099cce0d2695ee49c4c4c5e7c08350225e75bdfe1f0db11918d31798f06c3f4"), looks := false }, kinds := [], alts := [], laidByText := true, laidKinds := [.data, .data, .data], laidTests := true, laidLooks := .later }
def LensLedgersCardSaid : Prop := Claim7.holds Tryz.pinned (.plain (OpenSpec.ofChange lensLedgersSpec)) lensLedgersCard

/-- THE TIED CARD OF 'motulaw01.LensTrue'. -/
def lensTrueCard : Claim7 := { stood := { row := lensTrueRow, standIns := [], harness := (true, "9099cce0d2695ee49c4c4c5e7c08350225e75bdfe1f0db11918d31798f06c3f4"), looks := false }, kinds := [], alts := [], laidByText := true, laidKinds := [.data, .data, .data], laidTests := true, laidLooks := .later }
def LensTrueCardSaid : Prop := Claim7.holds Tryz.pinned (.plain (OpenSpec.ofChange lensTrueSpec)) lensTrueCard

/-- THE TIED CARD OF 'motulaw01.LensFaults'. -/
def lensFaultsCard : Claim7 := { stood := { row := lensFaultsRow, standIns := [], harness := (true, "9099cce0d2695ee49c4c4c5e7c08350225e75bdfe1f0db11918d31798f06c3f4"), looks := false }, kinds := [], alts := [], laidByText := true, laidKinds := [.data, .data, .data], laidTests := true, laidLooks := .later }
def LensFaultsCardSaid : Prop := Claim7.holds Tryz.pinned (.plain (OpenSpec.ofChange lensFaultsSpec)) lensFaultsCard

/-- THE TIED CARD OF 'motulaw01.LensSafe'. -/
def lensSafeCard : Claim7 := { stood := { row := lensSafeRow, standIns := [], harness := (true, "9099cce0d2695ee49c4c4c5e7c08350225e75bdfe1f0db11918d31798f06c3f4"), looks := false }, kinds := [], alts := [], laidByText := true, laidKinds := [.data, .data, .data], laidTests := true, laidLooks := .later }
def LensSafeCardSaid : Prop := Claim7.holds Tryz.pinned (.plain (OpenSpec.ofChange lensSafeSpec)) lensSafeCard

/-- THE TIED CARD OF 'motulaw01.LensFews'. -/
def lensFewsCard : Claim7 := { stood := { row := lensFewsRow, standIns := [], harness := (true, "9099cce0d2695ee49c4c4c5e7c08350225e75bdfe1f0db11918d31798f06c3f4"), looks := false }, kinds := [], alts := [], laidByText := true, laidKinds := [.data, .data, .data], laidTests := true, laidLooks := .later }
def LensFewsCardSaid : Prop := Claim7.holds Tryz.pinned (.plain (OpenSpec.ofChange lensFewsSpec)) lensFewsCard

/-- THE SECOND FORM's CARD OF 'motulaw01.LensKnows'. -/
def lensKnowsUptoCard : Claim7 := { stood := { row := lensKnowsUptoRow, standIns := [], harness := (true, "9099cce0d2695ee49c4c4c5e7c08350225e75bdfe1f0db11918d31798f06c3f4"), looks := false }, kinds := [], alts := [], laidByText := true, laidKinds := [.data, .data, .data], laidTests := true, laidLooks := .later }
def LensKnowsUptoCardSaid : Prop := Claim7.holds Tryz.pinned (.plain (OpenSpec.upto lensKnowsSpec)) lensKnowsUptoCard

/-- THE SECOND FORM's CARD OF 'motulaw01.LensPlays'. -/
def lensPlaysUptoCard : Claim7 := { stood := { row := lensPlaysUptoRow, standIns := [], harness := (true, "9099cce0d2695ee49c4c4c5e7c08350225e75bdfe1f0db11918d31798f06c3f4"), looks := false }, kinds := [], alts := [], laidByText := true, laidKinds := [.data, .data, .data], laidTests := true, laidLooks := .later }
def LensPlaysUptoCardSaid : Prop := Claim7.holds Tryz.pinned (.plain (OpenSpec.upto lensPlaysSpec)) lensPlaysUptoCard

/-- THE SECOND FORM's CARD OF 'motulaw01.LensLedgers'. -/
def lensLedgersUptoCard : Claim7 := { stood := { row := lensLedgersUptoRow, standIns := [], harness := (true, "9099cce0d2695ee49c4c4c5e7c08350225e75bdfe1f0db11918d31798f06c3f4"), looks := false }, kinds := [], alts := [], laidByText := true, laidKinds := [.data, .data, .data], laidTests := true, laidLooks := .later }
def LensLedgersUptoCardSaid : Prop := Claim7.holds Tryz.pinned (.plain (OpenSpec.upto lensLedgersSpec)) lensLedgersUptoCard

/-- THE SECOND FORM's CARD OF 'motulaw01.LensTrue'. -/
def lensTrueUptoCard : Claim7 := { stood := { row := lensTrueUptoRow, standIns := [], harness := (true, "9099cce0d2695ee49c4c4c5e7c08350225e75bdfe1f0db11918d31798f06c3f4"), looks := false }, kinds := [], alts := [], laidByText := true, laidKinds := [.data, .data, .data], laidTests := true, laidLooks := .later }
def LensTrueUptoCardSaid : Prop := Claim7.holds Tryz.pinned (.plain (OpenSpec.upto lensTrueSpec)) lensTrueUptoCard

/-- THE SECOND FORM's CARD OF 'motulaw01.LensFaults'. -/
def lensFaultsUptoCard : Claim7 := { stood := { row := lensFaultsUptoRow, standIns := [], harness := (true, "9099cce0d2695ee49c4c4c5e7c08350225e75bdfe1f0db11918d31798f06c3f4"), looks := false }, kinds := [], alts := [], laidByText := true, laidKinds := [.data, .data, .data], laidTests := true, laidLooks := .later }
def LensFaultsUptoCardSaid : Prop := Claim7.holds Tryz.pinned (.plain (OpenSpec.upto lensFaultsSpec)) lensFaultsUptoCard

/-- THE SECOND FORM's CARD OF 'motulaw01.LensSafe'. -/
def lensSafeUptoCard : Claim7 := { stood := { row := lensSafeUptoRow, standIns := [], harness := (true, "9099cce0d2695ee49c4c4c5e7c08350225e75bdfe1f0db11918d31798f06c3f4"), looks := false }, kinds := [], alts := [], laidByText := true, laidKinds := [.data, .data, .data], laidTests := true, laidLooks := .later }
def LensSafeUptoCardSaid : Prop := Claim7.holds Tryz.pinned (.plain (OpenSpec.upto lensSafeSpec)) lensSafeUptoCard

/-- THE SECOND FORM's CARD OF 'motulaw01.LensFews'. -/
def lensFewsUptoCard : Claim7 := { stood := { row := lensFewsUptoRow, standIns := [], harness := (true, "9099cce0d2695ee49c4c4c5e7c08350225e75bdfe1f0db11918d31798f06c3f4"), looks := false }, kinds := [], alts := [], laidByText := true, laidKinds := [.data, .data, .data], laidTests := true, laidLooks := .later }
def LensFewsUptoCardSaid : Prop := Claim7.holds Tryz.pinned (.plain (OpenSpec.upto lensFewsSpec)) lensFewsUptoCard
end Rows
end Go.Proofs.YtffdidleebognaaGreatDoor
