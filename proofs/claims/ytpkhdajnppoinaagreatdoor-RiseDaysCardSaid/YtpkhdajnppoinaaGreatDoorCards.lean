/-
  DERIVED. GIVEN WITH THE SEED: THE CARDS: each row of YtpkhdajnppoinaaGreatDoorRows.lean that lists a variable, with what it lists TIED to the program's text (the seventh form; the later family's looks); each row that meets fmt, with fmt's text TOLD by the authors' own Lean function (tested against real Go, not proved from fmt's source: count such statements apart). THE CARD IS WHAT COUNTS. Prove the row's statement (the work); the ties are given (YtpkhdajnppoinaaGreatDoorTie.lean); close each card by the builder's one call (the guide's Derived/Test/ToyasCard.lean, 'card_holds'). Laid BY PROGRAM, IN A SANDBOX (cutbox-door.mjs). By AI agents, Wed Nov 11 2026. No macro, syntax, notation, axiom, sorry.
-/
import Derived.Test.YtpkhdajnppoinaaGreatDoorRows
import GoSem.ClaimSeven
namespace Go.Proofs.YtpkhdajnppoinaaGreatDoor
namespace Rows

/-- THE TIED CARD OF 'ephemerislaw14.RiseParts'. -/
def risePartsCard : Claim7 := { stood := { row := risePartsRow, standIns := [], harness := (true, "dd175ff866c4b6f9af7bf768bd1e4fc8a78ff92d53146c01aa4ce7166a8fa472"), looks := false }, kinds := [], alts := [], laidByText := true, laidKinds := [.data], laidTests := true, laidLooks := .later }
def RisePartsCardSaid : Prop := Claim7.holds Tryz.pinned (.plain (OpenSpec.ofChange risePartsSpec)) risePartsCard

/-- THE TIED CARD OF 'ephemerislaw14.RiseDays'. -/
def riseDaysCard : Claim7 := { stood := { row := riseDaysRow, standIns := [], harness := (true, "dd175ff866c4b6f9af7bf768bd1e4fc8a78ff92d53146c01aa4ce7166a8fa472"), looks := false }, kinds := [], alts := [], laidByText := true, laidKinds := [.data], laidTests := true, laidLooks := .later }
def RiseDaysCardSaid : Prop := Claim7.holds Tryz.pinned (.plain (OpenSpec.ofChange riseDaysSpec)) riseDaysCard

/-- THE TIED CARD OF 'ephemerislaw14.RiseSteps'. -/
def riseStepsCard : Claim7 := { stood := { row := riseStepsRow, standIns := [], harness := (true, "dd175ff866c4b6f9af7bf768bd1e4fc8a78ff92d53146c01aa4ce7166a8fa472"), looks := false }, kinds := [], alts := [], laidByText := true, laidKinds := [.data], laidTests := true, laidLooks := .later }
def RiseStepsCardSaid : Prop := Claim7.holds Tryz.pinned (.plain (OpenSpec.ofChange riseStepsSpec)) riseStepsCard

/-- THE TIED CARD OF 'ephemerislaw14.RiseEast'. -/
def riseEastCard : Claim7 := { stood := { row := riseEastRow, standIns := [], harness := (true, "dd175ff866c4b6f9af7bf768bd1e4fc8a78ff92d53146c01aa4ce7166a8fa472"), looks := false }, kinds := [], alts := [], laidByText := true, laidKinds := [.data], laidTests := true, laidLooks := .later }
def RiseEastCardSaid : Prop := Claim7.holds Tryz.pinned (.plain (OpenSpec.ofChange riseEastSpec)) riseEastCard

/-- THE TIED CARD OF 'ephemerislaw14.RiseBits'. -/
def riseBitsCard : Claim7 := { stood := { row := riseBitsRow, standIns := [], harness := (true, "dd175ff866c4b6f9af7bf768bd1e4fc8a78ff92d53146c01aa4ce7166a8fa472"), looks := false }, kinds := [], alts := [], laidByText := true, laidKinds := [.data], laidTests := true, laidLooks := .later }
def RiseBitsCardSaid : Prop := Claim7.holds Tryz.pinned (.plain (OpenSpec.ofChange riseBitsSpec)) riseBitsCard

/-- THE TIED CARD OF 'ephemeristop.EphemerisNoon'. -/
def ephemerisNoonCard : Claim7 := { stood := { row := ephemerisNoonRow, standIns := [], harness := (true, "dd175ff866c4b6f9af7bf768bd1e4fc8a78ff92d53146c01aa4ce7166a8fa472"), looks := false }, kinds := [], alts := [], laidByText := true, laidKinds := [.data], laidTests := true, laidLooks := .later }
def EphemerisNoonCardSaid : Prop := Claim7.holds Tryz.pinned (.plain (OpenSpec.ofChange ephemerisNoonSpec)) ephemerisNoonCard

/-- THE SECOND FORM's CARD OF 'ephemerislaw14.RiseParts'. -/
def risePartsUptoCard : Claim7 := { stood := { row := risePartsUptoRow, standIns := [], harness := (true, "dd175ff866c4b6f9af7bf768bd1e4fc8a78ff92d53146c01aa4ce7166a8fa472"), looks := false }, kinds := [], alts := [], laidByText := true, laidKinds := [.data], laidTests := true, laidLooks := .later }
def RisePartsUptoCardSaid : Prop := Claim7.holds Tryz.pinned (.plain (OpenSpec.upto risePartsSpec)) risePartsUptoCard

/-- THE SECOND FORM's CARD OF 'ephemerislaw14.RiseDays'. -/
def riseDaysUptoCard : Claim7 := { stood := { row := riseDaysUptoRow, standIns := [], harness := (true, "dd175ff866c4b6f9af7bf768bd1e4fc8a78ff92d53146c01aa4ce7166a8fa472"), looks := false }, kinds := [], alts := [], laidByText := true, laidKinds := [.data], laidTests := true, laidLooks := .later }
def RiseDaysUptoCardSaid : Prop := Claim7.holds Tryz.pinned (.plain (OpenSpec.upto riseDaysSpec)) riseDaysUptoCard

/-- THE SECOND FORM's CARD OF 'ephemerislaw14.RiseSteps'. -/
def riseStepsUptoCard : Claim7 := { stood := { row := riseStepsUptoRow, standIns := [], harness := (true, "dd175ff866c4b6f9af7bf768bd1e4fc8a78ff92d53146c01aa4ce7166a8fa472"), looks := false }, kinds := [], alts := [], laidByText := true, laidKinds := [.data], laidTests := true, laidLooks := .later }
def RiseStepsUptoCardSaid : Prop := Claim7.holds Tryz.pinned (.plain (OpenSpec.upto riseStepsSpec)) riseStepsUptoCard

/-- THE SECOND FORM's CARD OF 'ephemerislaw14.RiseEast'. -/
def riseEastUptoCard : Claim7 := { stood := { row := riseEastUptoRow, standIns := [], harness := (true, "dd175ff866c4b6f9af7bf768bd1e4fc8a78ff92d53146c01aa4ce7166a8fa472"), looks := false }, kinds := [], alts := [], laidByText := true, laidKinds := [.data], laidTests := true, laidLooks := .later }
def RiseEastUptoCardSaid : Prop := Claim7.holds Tryz.pinned (.plain (OpenSpec.upto riseEastSpec)) riseEastUptoCard

/-- THE SECOND FORM's CARD OF 'ephemerislaw14.RiseBits'. -/
def riseBitsUptoCard : Claim7 := { stood := { row := riseBitsUptoRow, standIns := [], harness := (true, "dd175ff866c4b6f9af7bf768bd1e4fc8a78ff92d53146c01aa4ce7166a8fa472"), looks := false }, kinds := [], alts := [], laidByText := true, laidKinds := [.data], laidTests := true, laidLooks := .later }
def RiseBitsUptoCardSaid : Prop := Claim7.holds Tryz.pinned (.plain (OpenSpec.upto riseBitsSpec)) riseBitsUptoCard

/-- THE SECOND FORM's CARD OF 'ephemeristop.EphemerisNoon'. -/
def ephemerisNoonUptoCard : Claim7 := { stood := { row := ephemerisNoonUptoRow, standIns := [], harness := (true, "dd175ff866c4b6f9af7bf768bd1e4fc8a78ff92d53146c01aa4ce7166a8fa472"), looks := false }, kinds := [], alts := [], laidByText := true, laidKinds := [.data], laidTests := true, laidLooks := .later }
def EphemerisNoonUptoCardSaid : Prop := Claim7.holds Tryz.pinned (.plain (OpenSpec.upto ephemerisNoonSpec)) ephemerisNoonUptoCard
end Rows
end Go.Proofs.YtpkhdajnppoinaaGreatDoor
