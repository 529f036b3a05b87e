/-
  DERIVED. GIVEN WITH THE SEED: THE CARDS: each row of YteafnboehmfmiaaDoorRows.lean that lists a variable, with what it lists TIED to the program's text (the seventh form; the later family's looks); each row that meets fmt, with fmt's text TOLD by the authors' own Lean function (tested against real Go, not proved from fmt's source: count such statements apart). THE CARD IS WHAT COUNTS. Prove the row's statement (the work); the ties are given (YteafnboehmfmiaaDoorTie.lean); close each card by the builder's one call (the guide's Derived/Test/ToyasCard.lean, 'card_holds'). Laid BY PROGRAM, IN A SANDBOX (cutbox-door.mjs). By AI agents, Wed Nov 11 2026. No macro, syntax, notation, axiom, sorry.
-/
import Derived.Test.YteafnboehmfmiaaDoorRows
import GoSem.ClaimSeven
namespace Go.Proofs.YteafnboehmfmiaaDoor
namespace Rows

/-- THE TIED CARD OF 'ephemerislaw09.DialPoints'. -/
def dialPointsCard : Claim7 := { stood := { row := dialPointsRow, standIns := [], harness := (true, "d3fadd8fd2626c9c4a6fbedfc13280faa2c6250523040b9406a0bb98f499fb1b"), looks := false }, kinds := [], alts := [], laidByText := true, laidKinds := [.data], laidTests := true, laidLooks := .later }
def DialPointsCardSaid : Prop := Claim7.holds Tryd.pinned (.plain (OpenSpec.ofChange dialPointsSpec)) dialPointsCard

/-- THE TIED CARD OF 'ephemerislaw09.DialTurns'. -/
def dialTurnsCard : Claim7 := { stood := { row := dialTurnsRow, standIns := [], harness := (true, "d3fadd8fd2626c9c4a6fbedfc13280faa2c6250523040b9406a0bb98f499fb1b"), looks := false }, kinds := [], alts := [], laidByText := true, laidKinds := [.data], laidTests := true, laidLooks := .later }
def DialTurnsCardSaid : Prop := Claim7.holds Tryd.pinned (.plain (OpenSpec.ofChange dialTurnsSpec)) dialTurnsCard

/-- THE TIED CARD OF 'ephemerislaw09.DialRound'. -/
def dialRoundCard : Claim7 := { stood := { row := dialRoundRow, standIns := [], harness := (true, "d3fadd8fd2626c9c4a6fbedfc13280faa2c6250523040b9406a0bb98f499fb1b"), looks := false }, kinds := [], alts := [], laidByText := true, laidKinds := [.data], laidTests := true, laidLooks := .later }
def DialRoundCardSaid : Prop := Claim7.holds Tryd.pinned (.plain (OpenSpec.ofChange dialRoundSpec)) dialRoundCard

/-- THE TIED CARD OF 'ephemerislaw09.DialWhere'. -/
def dialWhereCard : Claim7 := { stood := { row := dialWhereRow, standIns := [], harness := (true, "d3fadd8fd2626c9c4a6fbedfc13280faa2c6250523040b9406a0bb98f499fb1b"), looks := false }, kinds := [], alts := [], laidByText := true, laidKinds := [.data], laidTests := true, laidLooks := .later }
def DialWhereCardSaid : Prop := Claim7.holds Tryd.pinned (.plain (OpenSpec.ofChange dialWhereSpec)) dialWhereCard

/-- THE TIED CARD OF 'ephemerislaw10.SineTurns'. -/
def sineTurnsCard : Claim7 := { stood := { row := sineTurnsRow, standIns := [], harness := (true, "d3fadd8fd2626c9c4a6fbedfc13280faa2c6250523040b9406a0bb98f499fb1b"), looks := false }, kinds := [], alts := [], laidByText := true, laidKinds := [.data], laidTests := true, laidLooks := .later }
def SineTurnsCardSaid : Prop := Claim7.holds Tryd.pinned (.plain (OpenSpec.ofChange sineTurnsSpec)) sineTurnsCard

/-- THE TIED CARD OF 'ephemerislaw10.SineBack'. -/
def sineBackCard : Claim7 := { stood := { row := sineBackRow, standIns := [], harness := (true, "d3fadd8fd2626c9c4a6fbedfc13280faa2c6250523040b9406a0bb98f499fb1b"), looks := false }, kinds := [], alts := [], laidByText := true, laidKinds := [.data], laidTests := true, laidLooks := .later }
def SineBackCardSaid : Prop := Claim7.holds Tryd.pinned (.plain (OpenSpec.ofChange sineBackSpec)) sineBackCard

/-- THE TIED CARD OF 'ephemerislaw10.SineRises'. -/
def sineRisesCard : Claim7 := { stood := { row := sineRisesRow, standIns := [], harness := (true, "d3fadd8fd2626c9c4a6fbedfc13280faa2c6250523040b9406a0bb98f499fb1b"), looks := false }, kinds := [], alts := [], laidByText := true, laidKinds := [.data], laidTests := true, laidLooks := .later }
def SineRisesCardSaid : Prop := Claim7.holds Tryd.pinned (.plain (OpenSpec.ofChange sineRisesSpec)) sineRisesCard

/-- THE TIED CARD OF 'ephemeristop.EphemerisCircle'. -/
def ephemerisCircleCard : Claim7 := { stood := { row := ephemerisCircleRow, standIns := [], harness := (true, "d3fadd8fd2626c9c4a6fbedfc13280faa2c6250523040b9406a0bb98f499fb1b"), looks := false }, kinds := [], alts := [], laidByText := true, laidKinds := [.data], laidTests := true, laidLooks := .later }
def EphemerisCircleCardSaid : Prop := Claim7.holds Tryd.pinned (.plain (OpenSpec.ofChange ephemerisCircleSpec)) ephemerisCircleCard

/-- THE SECOND FORM's CARD OF 'ephemerislaw09.DialPoints'. -/
def dialPointsUptoCard : Claim7 := { stood := { row := dialPointsUptoRow, standIns := [], harness := (true, "d3fadd8fd2626c9c4a6fbedfc13280faa2c6250523040b9406a0bb98f499fb1b"), looks := false }, kinds := [], alts := [], laidByText := true, laidKinds := [.data], laidTests := true, laidLooks := .later }
def DialPointsUptoCardSaid : Prop := Claim7.holds Tryd.pinned (.plain (OpenSpec.upto dialPointsSpec)) dialPointsUptoCard

/-- THE SECOND FORM's CARD OF 'ephemerislaw09.DialTurns'. -/
def dialTurnsUptoCard : Claim7 := { stood := { row := dialTurnsUptoRow, standIns := [], harness := (true, "d3fadd8fd2626c9c4a6fbedfc13280faa2c6250523040b9406a0bb98f499fb1b"), looks := false }, kinds := [], alts := [], laidByText := true, laidKinds := [.data], laidTests := true, laidLooks := .later }
def DialTurnsUptoCardSaid : Prop := Claim7.holds Tryd.pinned (.plain (OpenSpec.upto dialTurnsSpec)) dialTurnsUptoCard

/-- THE SECOND FORM's CARD OF 'ephemerislaw09.DialRound'. -/
def dialRoundUptoCard : Claim7 := { stood := { row := dialRoundUptoRow, standIns := [], harness := (true, "d3fadd8fd2626c9c4a6fbedfc13280faa2c6250523040b9406a0bb98f499fb1b"), looks := false }, kinds := [], alts := [], laidByText := true, laidKinds := [.data], laidTests := true, laidLooks := .later }
def DialRoundUptoCardSaid : Prop := Claim7.holds Tryd.pinned (.plain (OpenSpec.upto dialRoundSpec)) dialRoundUptoCard

/-- THE SECOND FORM's CARD OF 'ephemerislaw09.DialWhere'. -/
def dialWhereUptoCard : Claim7 := { stood := { row := dialWhereUptoRow, standIns := [], harness := (true, "d3fadd8fd2626c9c4a6fbedfc13280faa2c6250523040b9406a0bb98f499fb1b"), looks := false }, kinds := [], alts := [], laidByText := true, laidKinds := [.data], laidTests := true, laidLooks := .later }
def DialWhereUptoCardSaid : Prop := Claim7.holds Tryd.pinned (.plain (OpenSpec.upto dialWhereSpec)) dialWhereUptoCard

/-- THE SECOND FORM's CARD OF 'ephemerislaw10.SineTurns'. -/
def sineTurnsUptoCard : Claim7 := { stood := { row := sineTurnsUptoRow, standIns := [], harness := (true, "d3fadd8fd2626c9c4a6fbedfc13280faa2c6250523040b9406a0bb98f499fb1b"), looks := false }, kinds := [], alts := [], laidByText := true, laidKinds := [.data], laidTests := true, laidLooks := .later }
def SineTurnsUptoCardSaid : Prop := Claim7.holds Tryd.pinned (.plain (OpenSpec.upto sineTurnsSpec)) sineTurnsUptoCard

/-- THE SECOND FORM's CARD OF 'ephemerislaw10.SineBack'. -/
def sineBackUptoCard : Claim7 := { stood := { row := sineBackUptoRow, standIns := [], harness := (true, "d3fadd8fd2626c9c4a6fbedfc13280faa2c6250523040b9406a0bb98f499fb1b"), looks := false }, kinds := [], alts := [], laidByText := true, laidKinds := [.data], laidTests := true, laidLooks := .later }
def SineBackUptoCardSaid : Prop := Claim7.holds Tryd.pinned (.plain (OpenSpec.upto sineBackSpec)) sineBackUptoCard

/-- THE SECOND FORM's CARD OF 'ephemerislaw10.SineRises'. -/
def sineRisesUptoCard : Claim7 := { stood := { row := sineRisesUptoRow, standIns := [], harness := (true, "d3fadd8fd2626c9c4a6fbedfc13280faa2c6250523040b9406a0bb98f499fb1b"), looks := false }, kinds := [], alts := [], laidByText := true, laidKinds := [.data], laidTests := true, laidLooks := .later }
def SineRisesUptoCardSaid : Prop := Claim7.holds Tryd.pinned (.plain (OpenSpec.upto sineRisesSpec)) sineRisesUptoCard

/-- THE SECOND FORM's CARD OF 'ephemeristop.EphemerisCircle'. -/
def ephemerisCircleUptoCard : Claim7 := { stood := { row := ephemerisCircleUptoRow, standIns := [], harness := (true, "d3fadd8fd2626c9c4a6fbedfc13280faa2c6250523040b9406a0bb98f499fb1b"), looks := false }, kinds := [], alts := [], laidByText := true, laidKinds := [.data], laidTests := true, laidLooks := .later }
def EphemerisCircleUptoCardSaid : Prop := Claim7.holds Tryd.pinned (.plain (OpenSpec.upto ephemerisCircleSpec)) ephemerisCircleUptoCard
end Rows
end Go.Proofs.YteafnboehmfmiaaDoor
