/-
  DERIVED. GIVEN WITH THE SEED: THE CARDS: each row of YtcgbllbhagijjaaDoorRows.lean that lists a variable, with what it lists TIED to the program's text (the seventh form; the later family's looks); each row that meets fmt, with fmt's text TOLD by the authors' own Lean function (tested against real Go, not proved from fmt's source: count such statements apart). THE CARD IS WHAT COUNTS. Prove the row's statement (the work); the ties are given (YtcgbllbhagijjaaDoorTie.lean); close each card by the builder's one call (the guide's Derived/Test/ToyasCard.lean, 'card_holds'). Laid BY PROGRAM, IN A SANDBOX (cutbox-door.mjs). By AI agents, Wed Nov 11 2026. No macro, syntax, notation, axiom, sorry.
-/
import Derived.Test.YtcgbllbhagijjaaDoorRows
import GoSem.ClaimSeven
namespace Go.Proofs.YtcgbllbhagijjaaDoor
namespace Rows

/-- THE TIED CARD OF 'ephemerislaw07.CivilDays'. -/
def civilDaysCard : Claim7 := { stood := { row := civilDaysRow, standIns := [], harness := (true, "ff1ba36dbf670d3c41f7fa2862d1ce5195a4c7036914166965e4d75d96c6ef4e"), looks := false }, kinds := [], alts := [], laidByText := true, laidKinds := [.data], laidTests := true, laidLooks := .later }
def CivilDaysCardSaid : Prop := Claim7.holds Tryd.pinned (.plain (OpenSpec.ofChange civilDaysSpec)) civilDaysCard

/-- THE TIED CARD OF 'ephemerislaw07.CivilDates'. -/
def civilDatesCard : Claim7 := { stood := { row := civilDatesRow, standIns := [], harness := (true, "ff1ba36dbf670d3c41f7fa2862d1ce5195a4c7036914166965e4d75d96c6ef4e"), looks := false }, kinds := [], alts := [], laidByText := true, laidKinds := [.data], laidTests := true, laidLooks := .later }
def CivilDatesCardSaid : Prop := Claim7.holds Tryd.pinned (.plain (OpenSpec.ofChange civilDatesSpec)) civilDatesCard

/-- THE TIED CARD OF 'ephemerislaw07.CivilSteps'. -/
def civilStepsCard : Claim7 := { stood := { row := civilStepsRow, standIns := [], harness := (true, "ff1ba36dbf670d3c41f7fa2862d1ce5195a4c7036914166965e4d75d96c6ef4e"), looks := false }, kinds := [], alts := [], laidByText := true, laidKinds := [.data], laidTests := true, laidLooks := .later }
def CivilStepsCardSaid : Prop := Claim7.holds Tryd.pinned (.plain (OpenSpec.ofChange civilStepsSpec)) civilStepsCard

/-- THE TIED CARD OF 'ephemerislaw07.CivilFour'. -/
def civilFourCard : Claim7 := { stood := { row := civilFourRow, standIns := [], harness := (true, "ff1ba36dbf670d3c41f7fa2862d1ce5195a4c7036914166965e4d75d96c6ef4e"), looks := false }, kinds := [], alts := [], laidByText := true, laidKinds := [.data], laidTests := true, laidLooks := .later }
def CivilFourCardSaid : Prop := Claim7.holds Tryd.pinned (.plain (OpenSpec.ofChange civilFourSpec)) civilFourCard

/-- THE TIED CARD OF 'ephemerislaw07.CivilWeeks'. -/
def civilWeeksCard : Claim7 := { stood := { row := civilWeeksRow, standIns := [], harness := (true, "ff1ba36dbf670d3c41f7fa2862d1ce5195a4c7036914166965e4d75d96c6ef4e"), looks := false }, kinds := [], alts := [], laidByText := true, laidKinds := [.data], laidTests := true, laidLooks := .later }
def CivilWeeksCardSaid : Prop := Claim7.holds Tryd.pinned (.plain (OpenSpec.ofChange civilWeeksSpec)) civilWeeksCard

/-- THE TIED CARD OF 'ephemerislaw08.JulianDays'. -/
def julianDaysCard : Claim7 := { stood := { row := julianDaysRow, standIns := [], harness := (true, "ff1ba36dbf670d3c41f7fa2862d1ce5195a4c7036914166965e4d75d96c6ef4e"), looks := false }, kinds := [], alts := [], laidByText := true, laidKinds := [.data], laidTests := true, laidLooks := .later }
def JulianDaysCardSaid : Prop := Claim7.holds Tryd.pinned (.plain (OpenSpec.ofChange julianDaysSpec)) julianDaysCard

/-- THE TIED CARD OF 'ephemerislaw08.JulianDates'. -/
def julianDatesCard : Claim7 := { stood := { row := julianDatesRow, standIns := [], harness := (true, "ff1ba36dbf670d3c41f7fa2862d1ce5195a4c7036914166965e4d75d96c6ef4e"), looks := false }, kinds := [], alts := [], laidByText := true, laidKinds := [.data], laidTests := true, laidLooks := .later }
def JulianDatesCardSaid : Prop := Claim7.holds Tryd.pinned (.plain (OpenSpec.ofChange julianDatesSpec)) julianDatesCard

/-- THE TIED CARD OF 'ephemerislaw08.JulianSteps'. -/
def julianStepsCard : Claim7 := { stood := { row := julianStepsRow, standIns := [], harness := (true, "ff1ba36dbf670d3c41f7fa2862d1ce5195a4c7036914166965e4d75d96c6ef4e"), looks := false }, kinds := [], alts := [], laidByText := true, laidKinds := [.data], laidTests := true, laidLooks := .later }
def JulianStepsCardSaid : Prop := Claim7.holds Tryd.pinned (.plain (OpenSpec.ofChange julianStepsSpec)) julianStepsCard

/-- THE TIED CARD OF 'ephemerislaw08.JulianFour'. -/
def julianFourCard : Claim7 := { stood := { row := julianFourRow, standIns := [], harness := (true, "ff1ba36dbf670d3c41f7fa2862d1ce5195a4c7036914166965e4d75d96c6ef4e"), looks := false }, kinds := [], alts := [], laidByText := true, laidKinds := [.data], laidTests := true, laidLooks := .later }
def JulianFourCardSaid : Prop := Claim7.holds Tryd.pinned (.plain (OpenSpec.ofChange julianFourSpec)) julianFourCard

/-- THE TIED CARD OF 'ephemerislaw08.JulianApart'. -/
def julianApartCard : Claim7 := { stood := { row := julianApartRow, standIns := [], harness := (true, "ff1ba36dbf670d3c41f7fa2862d1ce5195a4c7036914166965e4d75d96c6ef4e"), looks := false }, kinds := [], alts := [], laidByText := true, laidKinds := [.data, .data], laidTests := true, laidLooks := .later }
def JulianApartCardSaid : Prop := Claim7.holds Tryd.pinned (.plain (OpenSpec.ofChange julianApartSpec)) julianApartCard

/-- THE TIED CARD OF 'ephemeristop.EphemerisCenturies'. -/
def ephemerisCenturiesCard : Claim7 := { stood := { row := ephemerisCenturiesRow, standIns := [], harness := (true, "ff1ba36dbf670d3c41f7fa2862d1ce5195a4c7036914166965e4d75d96c6ef4e"), looks := false }, kinds := [], alts := [], laidByText := true, laidKinds := [.data, .data], laidTests := true, laidLooks := .later }
def EphemerisCenturiesCardSaid : Prop := Claim7.holds Tryd.pinned (.plain (OpenSpec.ofChange ephemerisCenturiesSpec)) ephemerisCenturiesCard

/-- THE SECOND FORM's CARD OF 'ephemerislaw07.CivilDays'. -/
def civilDaysUptoCard : Claim7 := { stood := { row := civilDaysUptoRow, standIns := [], harness := (true, "ff1ba36dbf670d3c41f7fa2862d1ce5195a4c7036914166965e4d75d96c6ef4e"), looks := false }, kinds := [], alts := [], laidByText := true, laidKinds := [.data], laidTests := true, laidLooks := .later }
def CivilDaysUptoCardSaid : Prop := Claim7.holds Tryd.pinned (.plain (OpenSpec.upto civilDaysSpec)) civilDaysUptoCard

/-- THE SECOND FORM's CARD OF 'ephemerislaw07.CivilDates'. -/
def civilDatesUptoCard : Claim7 := { stood := { row := civilDatesUptoRow, standIns := [], harness := (true, "ff1ba36dbf670d3c41f7fa2862d1ce5195a4c7036914166965e4d75d96c6ef4e"), looks := false }, kinds := [], alts := [], laidByText := true, laidKinds := [.data], laidTests := true, laidLooks := .later }
def CivilDatesUptoCardSaid : Prop := Claim7.holds Tryd.pinned (.plain (OpenSpec.upto civilDatesSpec)) civilDatesUptoCard

/-- THE SECOND FORM's CARD OF 'ephemerislaw07.CivilSteps'. -/
def civilStepsUptoCard : Claim7 := { stood := { row := civilStepsUptoRow, standIns := [], harness := (true, "ff1ba36dbf670d3c41f7fa2862d1ce5195a4c7036914166965e4d75d96c6ef4e"), looks := false }, kinds := [], alts := [], laidByText := true, laidKinds := [.data], laidTests := true, laidLooks := .later }
def CivilStepsUptoCardSaid : Prop := Claim7.holds Tryd.pinned (.plain (OpenSpec.upto civilStepsSpec)) civilStepsUptoCard

/-- THE SECOND FORM's CARD OF 'ephemerislaw07.CivilFour'. -/
def civilFourUptoCard : Claim7 := { stood := { row := civilFourUptoRow, standIns := [], harness := (true, "ff1ba36dbf670d3c41f7fa2862d1ce5195a4c7036914166965e4d75d96c6ef4e"), looks := false }, kinds := [], alts := [], laidByText := true, laidKinds := [.data], laidTests := true, laidLooks := .later }
def CivilFourUptoCardSaid : Prop := Claim7.holds Tryd.pinned (.plain (OpenSpec.upto civilFourSpec)) civilFourUptoCard

/-- THE SECOND FORM's CARD OF 'ephemerislaw07.CivilWeeks'. -/
def civilWeeksUptoCard : Claim7 := { stood := { row := civilWeeksUptoRow, standIns := [], harness := (true, "ff1ba36dbf670d3c41f7fa2862d1ce5195a4c7036914166965e4d75d96c6ef4e"), looks := false }, kinds := [], alts := [], laidByText := true, laidKinds := [.data], laidTests := true, laidLooks := .later }
def CivilWeeksUptoCardSaid : Prop := Claim7.holds Tryd.pinned (.plain (OpenSpec.upto civilWeeksSpec)) civilWeeksUptoCard

/-- THE SECOND FORM's CARD OF 'ephemerislaw08.JulianDays'. -/
def julianDaysUptoCard : Claim7 := { stood := { row := julianDaysUptoRow, standIns := [], harness := (true, "ff1ba36dbf670d3c41f7fa2862d1ce5195a4c7036914166965e4d75d96c6ef4e"), looks := false }, kinds := [], alts := [], laidByText := true, laidKinds := [.data], laidTests := true, laidLooks := .later }
def JulianDaysUptoCardSaid : Prop := Claim7.holds Tryd.pinned (.plain (OpenSpec.upto julianDaysSpec)) julianDaysUptoCard

/-- THE SECOND FORM's CARD OF 'ephemerislaw08.JulianDates'. -/
def julianDatesUptoCard : Claim7 := { stood := { row := julianDatesUptoRow, standIns := [], harness := (true, "ff1ba36dbf670d3c41f7fa2862d1ce5195a4c7036914166965e4d75d96c6ef4e"), looks := false }, kinds := [], alts := [], laidByText := true, laidKinds := [.data], laidTests := true, laidLooks := .later }
def JulianDatesUptoCardSaid : Prop := Claim7.holds Tryd.pinned (.plain (OpenSpec.upto julianDatesSpec)) julianDatesUptoCard

/-- THE SECOND FORM's CARD OF 'ephemerislaw08.JulianSteps'. -/
def julianStepsUptoCard : Claim7 := { stood := { row := julianStepsUptoRow, standIns := [], harness := (true, "ff1ba36dbf670d3c41f7fa2862d1ce5195a4c7036914166965e4d75d96c6ef4e"), looks := false }, kinds := [], alts := [], laidByText := true, laidKinds := [.data], laidTests := true, laidLooks := .later }
def JulianStepsUptoCardSaid : Prop := Claim7.holds Tryd.pinned (.plain (OpenSpec.upto julianStepsSpec)) julianStepsUptoCard

/-- THE SECOND FORM's CARD OF 'ephemerislaw08.JulianFour'. -/
def julianFourUptoCard : Claim7 := { stood := { row := julianFourUptoRow, standIns := [], harness := (true, "ff1ba36dbf670d3c41f7fa2862d1ce5195a4c7036914166965e4d75d96c6ef4e"), looks := false }, kinds := [], alts := [], laidByText := true, laidKinds := [.data], laidTests := true, laidLooks := .later }
def JulianFourUptoCardSaid : Prop := Claim7.holds Tryd.pinned (.plain (OpenSpec.upto julianFourSpec)) julianFourUptoCard

/-- THE SECOND FORM's CARD OF 'ephemerislaw08.JulianApart'. -/
def julianApartUptoCard : Claim7 := { stood := { row := julianApartUptoRow, standIns := [], harness := (true, "ff1ba36dbf670d3c41f7fa2862d1ce5195a4c7036914166965e4d75d96c6ef4e"), looks := false }, kinds := [], alts := [], laidByText := true, laidKinds := [.data, .data], laidTests := true, laidLooks := .later }
def JulianApartUptoCardSaid : Prop := Claim7.holds Tryd.pinned (.plain (OpenSpec.upto julianApartSpec)) julianApartUptoCard

/-- THE SECOND FORM's CARD OF 'ephemeristop.EphemerisCenturies'. -/
def ephemerisCenturiesUptoCard : Claim7 := { stood := { row := ephemerisCenturiesUptoRow, standIns := [], harness := (true, "ff1ba36dbf670d3c41f7fa2862d1ce5195a4c7036914166965e4d75d96c6ef4e"), looks := false }, kinds := [], alts := [], laidByText := true, laidKinds := [.data, .data], laidTests := true, laidLooks := .later }
def EphemerisCenturiesUptoCardSaid : Prop := Claim7.holds Tryd.pinned (.plain (OpenSpec.upto ephemerisCenturiesSpec)) ephemerisCenturiesUptoCard
end Rows
end Go.Proofs.YtcgbllbhagijjaaDoor
