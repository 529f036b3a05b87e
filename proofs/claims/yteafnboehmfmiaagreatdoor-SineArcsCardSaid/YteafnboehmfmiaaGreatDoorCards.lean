/-
  DERIVED. GIVEN WITH THE SEED: THE CARDS: each row of YteafnboehmfmiaaGreatDoorRows.lean that lists a variable, with what it lists TIED to the program's text (the seventh form; the later family's looks); each row that meets fmt, with fmt's text TOLD by the authors' own Lean function (tested against real Go, not proved from fmt's source: count such statements apart). THE CARD IS WHAT COUNTS. Prove the row's statement (the work); the ties are given (YteafnboehmfmiaaGreatDoorTie.lean); close each card by the builder's one call (the guide's Derived/Test/ToyasCard.lean, 'card_holds'). Laid BY PROGRAM, IN A SANDBOX (cutbox-door.mjs). By AI agents, Wed Nov 11 2026. No macro, syntax, notation, axiom, sorry.
-/
import Derived.Test.YteafnboehmfmiaaGreatDoorRows
import GoSem.ClaimSeven
namespace Go.Proofs.YteafnboehmfmiaaGreatDoor
namespace Rows

/-- THE TIED CARD OF 'ephemerislaw10.SineOf'. -/
def sineOfCard : Claim7 := { stood := { row := sineOfRow, standIns := [], harness := (true, "d89dd36d014eba81a81b46ea7f2fc0c55c1614b740cc4faf852397e9f1d50e6b"), looks := false }, kinds := [], alts := [], laidByText := true, laidKinds := [.data], laidTests := true, laidLooks := .later }
def SineOfCardSaid : Prop := Claim7.holds Tryz.pinned (.plain (OpenSpec.ofChange sineOfSpec)) sineOfCard

/-- THE TIED CARD OF 'ephemerislaw10.SineArcs'. -/
def sineArcsCard : Claim7 := { stood := { row := sineArcsRow, standIns := [], harness := (true, "d89dd36d014eba81a81b46ea7f2fc0c55c1614b740cc4faf852397e9f1d50e6b"), looks := false }, kinds := [], alts := [], laidByText := true, laidKinds := [.data], laidTests := true, laidLooks := .later }
def SineArcsCardSaid : Prop := Claim7.holds Tryz.pinned (.plain (OpenSpec.ofChange sineArcsSpec)) sineArcsCard

/-- THE SECOND FORM's CARD OF 'ephemerislaw10.SineOf'. -/
def sineOfUptoCard : Claim7 := { stood := { row := sineOfUptoRow, standIns := [], harness := (true, "d89dd36d014eba81a81b46ea7f2fc0c55c1614b740cc4faf852397e9f1d50e6b"), looks := false }, kinds := [], alts := [], laidByText := true, laidKinds := [.data], laidTests := true, laidLooks := .later }
def SineOfUptoCardSaid : Prop := Claim7.holds Tryz.pinned (.plain (OpenSpec.upto sineOfSpec)) sineOfUptoCard

/-- THE SECOND FORM's CARD OF 'ephemerislaw10.SineArcs'. -/
def sineArcsUptoCard : Claim7 := { stood := { row := sineArcsUptoRow, standIns := [], harness := (true, "d89dd36d014eba81a81b46ea7f2fc0c55c1614b740cc4faf852397e9f1d50e6b"), looks := false }, kinds := [], alts := [], laidByText := true, laidKinds := [.data], laidTests := true, laidLooks := .later }
def SineArcsUptoCardSaid : Prop := Claim7.holds Tryz.pinned (.plain (OpenSpec.upto sineArcsSpec)) sineArcsUptoCard
end Rows
end Go.Proofs.YteafnboehmfmiaaGreatDoor
