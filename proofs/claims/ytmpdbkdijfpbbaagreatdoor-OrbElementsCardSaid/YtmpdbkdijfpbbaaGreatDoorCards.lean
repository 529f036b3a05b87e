/-
  DERIVED. GIVEN WITH THE SEED: THE CARDS: each row of YtmpdbkdijfpbbaaGreatDoorRows.lean that lists a variable, with what it lists TIED to the program's text (the seventh form; the later family's looks); each row that meets fmt, with fmt's text TOLD by the authors' own Lean function (tested against real Go, not proved from fmt's source: count such statements apart). THE CARD IS WHAT COUNTS. Prove the row's statement (the work); the ties are given (YtmpdbkdijfpbbaaGreatDoorTie.lean); close each card by the builder's one call (the guide's Derived/Test/ToyasCard.lean, 'card_holds'). Laid BY PROGRAM, IN A SANDBOX (cutbox-door.mjs). By AI agents, Wed Nov 11 2026. No macro, syntax, notation, axiom, sorry.
-/
import Derived.Test.YtmpdbkdijfpbbaaGreatDoorRows
import GoSem.ClaimSeven
namespace Go.Proofs.YtmpdbkdijfpbbaaGreatDoor
namespace Rows

/-- THE TIED CARD OF 'ephemerislaw12.OrbPlaces'. -/
def orbPlacesCard : Claim7 := { stood := { row := orbPlacesRow, standIns := [], harness := (true, "693f2c20b2eac11903c42a7d3bfe93cefd6c1622f5a802164d0c996bd1e8703a"), looks := false }, kinds := [], alts := [], laidByText := true, laidKinds := [.data], laidTests := true, laidLooks := .later }
def OrbPlacesCardSaid : Prop := Claim7.holds Tryz.pinned (.plain (OpenSpec.ofChange orbPlacesSpec)) orbPlacesCard

/-- THE TIED CARD OF 'ephemerislaw12.OrbElements'. -/
def orbElementsCard : Claim7 := { stood := { row := orbElementsRow, standIns := [], harness := (true, "693f2c20b2eac11903c42a7d3bfe93cefd6c1622f5a802164d0c996bd1e8703a"), looks := false }, kinds := [], alts := [], laidByText := true, laidKinds := [.data], laidTests := true, laidLooks := .later }
def OrbElementsCardSaid : Prop := Claim7.holds Tryz.pinned (.plain (OpenSpec.ofChange orbElementsSpec)) orbElementsCard

/-- THE SECOND FORM's CARD OF 'ephemerislaw12.OrbPlaces'. -/
def orbPlacesUptoCard : Claim7 := { stood := { row := orbPlacesUptoRow, standIns := [], harness := (true, "693f2c20b2eac11903c42a7d3bfe93cefd6c1622f5a802164d0c996bd1e8703a"), looks := false }, kinds := [], alts := [], laidByText := true, laidKinds := [.data], laidTests := true, laidLooks := .later }
def OrbPlacesUptoCardSaid : Prop := Claim7.holds Tryz.pinned (.plain (OpenSpec.upto orbPlacesSpec)) orbPlacesUptoCard

/-- THE SECOND FORM's CARD OF 'ephemerislaw12.OrbElements'. -/
def orbElementsUptoCard : Claim7 := { stood := { row := orbElementsUptoRow, standIns := [], harness := (true, "693f2c20b2eac11903c42a7d3bfe93cefd6c1622f5a802164d0c996bd1e8703a"), looks := false }, kinds := [], alts := [], laidByText := true, laidKinds := [.data], laidTests := true, laidLooks := .later }
def OrbElementsUptoCardSaid : Prop := Claim7.holds Tryz.pinned (.plain (OpenSpec.upto orbElementsSpec)) orbElementsUptoCard
end Rows
end Go.Proofs.YtmpdbkdijfpbbaaGreatDoor
