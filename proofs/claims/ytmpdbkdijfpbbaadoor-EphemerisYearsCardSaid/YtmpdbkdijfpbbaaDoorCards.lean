/-
  DERIVED. GIVEN WITH THE SEED: THE CARDS: each row of YtmpdbkdijfpbbaaDoorRows.lean that lists a variable, with what it lists TIED to the program's text (the seventh form; the later family's looks); each row that meets fmt, with fmt's text TOLD by the authors' own Lean function (tested against real Go, not proved from fmt's source: count such statements apart). THE CARD IS WHAT COUNTS. Prove the row's statement (the work); the ties are given (YtmpdbkdijfpbbaaDoorTie.lean); close each card by the builder's one call (the guide's Derived/Test/ToyasCard.lean, 'card_holds'). Laid BY PROGRAM, IN A SANDBOX (cutbox-door.mjs). By AI agents, Wed Nov 11 2026. No macro, syntax, notation, axiom, sorry.
-/
import Derived.Test.YtmpdbkdijfpbbaaDoorRows
import GoSem.ClaimSeven
namespace Go.Proofs.YtmpdbkdijfpbbaaDoor
namespace Rows

/-- THE TIED CARD OF 'ephemerislaw12.OrbNear'. -/
def orbNearCard : Claim7 := { stood := { row := orbNearRow, standIns := [], harness := (true, "737ee5940bb5e7ed431b9ed5b5f071819b88e9f333425f0cf099894534e2ae61"), looks := false }, kinds := [], alts := [], laidByText := true, laidKinds := [.data], laidTests := true, laidLooks := .later }
def OrbNearCardSaid : Prop := Claim7.holds Tryd.pinned (.plain (OpenSpec.ofChange orbNearSpec)) orbNearCard

/-- THE TIED CARD OF 'ephemerislaw12.OrbMoves'. -/
def orbMovesCard : Claim7 := { stood := { row := orbMovesRow, standIns := [], harness := (true, "737ee5940bb5e7ed431b9ed5b5f071819b88e9f333425f0cf099894534e2ae61"), looks := false }, kinds := [], alts := [], laidByText := true, laidKinds := [.data], laidTests := true, laidLooks := .later }
def OrbMovesCardSaid : Prop := Claim7.holds Tryd.pinned (.plain (OpenSpec.ofChange orbMovesSpec)) orbMovesCard

/-- THE TIED CARD OF 'ephemerislaw12.OrbHalf'. -/
def orbHalfCard : Claim7 := { stood := { row := orbHalfRow, standIns := [], harness := (true, "737ee5940bb5e7ed431b9ed5b5f071819b88e9f333425f0cf099894534e2ae61"), looks := false }, kinds := [], alts := [], laidByText := true, laidKinds := [.data], laidTests := true, laidLooks := .later }
def OrbHalfCardSaid : Prop := Claim7.holds Tryd.pinned (.plain (OpenSpec.ofChange orbHalfSpec)) orbHalfCard

/-- THE TIED CARD OF 'ephemerislaw12.OrbBits'. -/
def orbBitsCard : Claim7 := { stood := { row := orbBitsRow, standIns := [], harness := (true, "737ee5940bb5e7ed431b9ed5b5f071819b88e9f333425f0cf099894534e2ae61"), looks := false }, kinds := [], alts := [], laidByText := true, laidKinds := [.data], laidTests := true, laidLooks := .later }
def OrbBitsCardSaid : Prop := Claim7.holds Tryd.pinned (.plain (OpenSpec.ofChange orbBitsSpec)) orbBitsCard

/-- THE TIED CARD OF 'ephemeristop.EphemerisYears'. -/
def ephemerisYearsCard : Claim7 := { stood := { row := ephemerisYearsRow, standIns := [], harness := (true, "737ee5940bb5e7ed431b9ed5b5f071819b88e9f333425f0cf099894534e2ae61"), looks := false }, kinds := [], alts := [], laidByText := true, laidKinds := [.data], laidTests := true, laidLooks := .later }
def EphemerisYearsCardSaid : Prop := Claim7.holds Tryd.pinned (.plain (OpenSpec.ofChange ephemerisYearsSpec)) ephemerisYearsCard

/-- THE SECOND FORM's CARD OF 'ephemerislaw12.OrbNear'. -/
def orbNearUptoCard : Claim7 := { stood := { row := orbNearUptoRow, standIns := [], harness := (true, "737ee5940bb5e7ed431b9ed5b5f071819b88e9f333425f0cf099894534e2ae61"), looks := false }, kinds := [], alts := [], laidByText := true, laidKinds := [.data], laidTests := true, laidLooks := .later }
def OrbNearUptoCardSaid : Prop := Claim7.holds Tryd.pinned (.plain (OpenSpec.upto orbNearSpec)) orbNearUptoCard

/-- THE SECOND FORM's CARD OF 'ephemerislaw12.OrbMoves'. -/
def orbMovesUptoCard : Claim7 := { stood := { row := orbMovesUptoRow, standIns := [], harness := (true, "737ee5940bb5e7ed431b9ed5b5f071819b88e9f333425f0cf099894534e2ae61"), looks := false }, kinds := [], alts := [], laidByText := true, laidKinds := [.data], laidTests := true, laidLooks := .later }
def OrbMovesUptoCardSaid : Prop := Claim7.holds Tryd.pinned (.plain (OpenSpec.upto orbMovesSpec)) orbMovesUptoCard

/-- THE SECOND FORM's CARD OF 'ephemerislaw12.OrbHalf'. -/
def orbHalfUptoCard : Claim7 := { stood := { row := orbHalfUptoRow, standIns := [], harness := (true, "737ee5940bb5e7ed431b9ed5b5f071819b88e9f333425f0cf099894534e2ae61"), looks := false }, kinds := [], alts := [], laidByText := true, laidKinds := [.data], laidTests := true, laidLooks := .later }
def OrbHalfUptoCardSaid : Prop := Claim7.holds Tryd.pinned (.plain (OpenSpec.upto orbHalfSpec)) orbHalfUptoCard

/-- THE SECOND FORM's CARD OF 'ephemerislaw12.OrbBits'. -/
def orbBitsUptoCard : Claim7 := { stood := { row := orbBitsUptoRow, standIns := [], harness := (true, "737ee5940bb5e7ed431b9ed5b5f071819b88e9f333425f0cf099894534e2ae61"), looks := false }, kinds := [], alts := [], laidByText := true, laidKinds := [.data], laidTests := true, laidLooks := .later }
def OrbBitsUptoCardSaid : Prop := Claim7.holds Tryd.pinned (.plain (OpenSpec.upto orbBitsSpec)) orbBitsUptoCard

/-- THE SECOND FORM's CARD OF 'ephemeristop.EphemerisYears'. -/
def ephemerisYearsUptoCard : Claim7 := { stood := { row := ephemerisYearsUptoRow, standIns := [], harness := (true, "737ee5940bb5e7ed431b9ed5b5f071819b88e9f333425f0cf099894534e2ae61"), looks := false }, kinds := [], alts := [], laidByText := true, laidKinds := [.data], laidTests := true, laidLooks := .later }
def EphemerisYearsUptoCardSaid : Prop := Claim7.holds Tryd.pinned (.plain (OpenSpec.upto ephemerisYearsSpec)) ephemerisYearsUptoCard
end Rows
end Go.Proofs.YtmpdbkdijfpbbaaDoor
