/-
  DERIVED. GIVEN WITH THE SEED: THE CARDS: each row of YtnljadejcfgmaaaGreatDoorRows.lean that lists a variable, with what it lists TIED to the program's text (the seventh form; the later family's looks); each row that meets fmt, with fmt's text TOLD by the authors' own Lean function (tested against real Go, not proved from fmt's source: count such statements apart). THE CARD IS WHAT COUNTS. Prove the row's statement (the work); the ties are given (YtnljadejcfgmaaaGreatDoorTie.lean); close each card by the builder's one call (the guide's Derived/Test/ToyasCard.lean, 'card_holds'). Laid BY PROGRAM, IN A SANDBOX (cutbox-door.mjs). By AI agents, Wed Nov 11 2026. No macro, syntax, notation, axiom, sorry.
-/
import Derived.Test.YtnljadejcfgmaaaGreatDoorRows
import GoSem.ClaimSeven
namespace Go.Proofs.YtnljadejcfgmaaaGreatDoor
namespace Rows

/-- THE TIED CARD OF 'ephemerislaw18.SolarCritical'. -/
def solarCriticalCard : Claim7 := { stood := { row := solarCriticalRow, standIns := [], harness := (true, "60ef4d75bcb700be400508d8a901d7c9f3fe0a46a62d5e78e894d0ff63d7f921"), looks := false }, kinds := [], alts := [], laidByText := true, laidKinds := [.data], laidTests := true, laidLooks := .later }
def SolarCriticalCardSaid : Prop := Claim7.holds Tryz.pinned (.plain (OpenSpec.ofChange solarCriticalSpec)) solarCriticalCard

/-- THE TIED CARD OF 'ephemerislaw18.SolarDays'. -/
def solarDaysCard : Claim7 := { stood := { row := solarDaysRow, standIns := [], harness := (true, "60ef4d75bcb700be400508d8a901d7c9f3fe0a46a62d5e78e894d0ff63d7f921"), looks := false }, kinds := [], alts := [], laidByText := true, laidKinds := [.data], laidTests := true, laidLooks := .later }
def SolarDaysCardSaid : Prop := Claim7.holds Tryz.pinned (.plain (OpenSpec.ofChange solarDaysSpec)) solarDaysCard

/-- THE TIED CARD OF 'ephemerislaw18.SolarDates'. -/
def solarDatesCard : Claim7 := { stood := { row := solarDatesRow, standIns := [], harness := (true, "60ef4d75bcb700be400508d8a901d7c9f3fe0a46a62d5e78e894d0ff63d7f921"), looks := false }, kinds := [], alts := [], laidByText := true, laidKinds := [.data], laidTests := true, laidLooks := .later }
def SolarDatesCardSaid : Prop := Claim7.holds Tryz.pinned (.plain (OpenSpec.ofChange solarDatesSpec)) solarDatesCard

/-- THE TIED CARD OF 'ephemerislaw18.SolarSteps'. -/
def solarStepsCard : Claim7 := { stood := { row := solarStepsRow, standIns := [], harness := (true, "60ef4d75bcb700be400508d8a901d7c9f3fe0a46a62d5e78e894d0ff63d7f921"), looks := false }, kinds := [], alts := [], laidByText := true, laidKinds := [.data], laidTests := true, laidLooks := .later }
def SolarStepsCardSaid : Prop := Claim7.holds Tryz.pinned (.plain (OpenSpec.ofChange solarStepsSpec)) solarStepsCard

/-- THE TIED CARD OF 'ephemerislaw18.SolarFirst'. -/
def solarFirstCard : Claim7 := { stood := { row := solarFirstRow, standIns := [], harness := (true, "60ef4d75bcb700be400508d8a901d7c9f3fe0a46a62d5e78e894d0ff63d7f921"), looks := false }, kinds := [], alts := [], laidByText := true, laidKinds := [.data], laidTests := true, laidLooks := .later }
def SolarFirstCardSaid : Prop := Claim7.holds Tryz.pinned (.plain (OpenSpec.ofChange solarFirstSpec)) solarFirstCard

/-- THE TIED CARD OF 'ephemerislaw18.SolarBad'. -/
def solarBadCard : Claim7 := { stood := { row := solarBadRow, standIns := [], harness := (true, "60ef4d75bcb700be400508d8a901d7c9f3fe0a46a62d5e78e894d0ff63d7f921"), looks := false }, kinds := [], alts := [], laidByText := true, laidKinds := [.data], laidTests := true, laidLooks := .later }
def SolarBadCardSaid : Prop := Claim7.holds Tryz.pinned (.plain (OpenSpec.ofChange solarBadSpec)) solarBadCard

/-- THE TIED CARD OF 'ephemerislaw19.MoonsAt'. -/
def moonsAtCard : Claim7 := { stood := { row := moonsAtRow, standIns := [], harness := (true, "60ef4d75bcb700be400508d8a901d7c9f3fe0a46a62d5e78e894d0ff63d7f921"), looks := false }, kinds := [], alts := [], laidByText := true, laidKinds := [.data], laidTests := true, laidLooks := .later }
def MoonsAtCardSaid : Prop := Claim7.holds Tryz.pinned (.plain (OpenSpec.ofChange moonsAtSpec)) moonsAtCard

/-- THE TIED CARD OF 'ephemerislaw19.MoonsRow'. -/
def moonsRowCard : Claim7 := { stood := { row := moonsRowRow, standIns := [], harness := (true, "60ef4d75bcb700be400508d8a901d7c9f3fe0a46a62d5e78e894d0ff63d7f921"), looks := false }, kinds := [], alts := [], laidByText := true, laidKinds := [.data], laidTests := true, laidLooks := .later }
def MoonsRowCardSaid : Prop := Claim7.holds Tryz.pinned (.plain (OpenSpec.ofChange moonsRowSpec)) moonsRowCard

/-- THE TIED CARD OF 'ephemerislaw19.MoonsSigns'. -/
def moonsSignsCard : Claim7 := { stood := { row := moonsSignsRow, standIns := [], harness := (true, "60ef4d75bcb700be400508d8a901d7c9f3fe0a46a62d5e78e894d0ff63d7f921"), looks := false }, kinds := [], alts := [], laidByText := true, laidKinds := [.data], laidTests := true, laidLooks := .later }
def MoonsSignsCardSaid : Prop := Claim7.holds Tryz.pinned (.plain (OpenSpec.ofChange moonsSignsSpec)) moonsSignsCard

/-- THE TIED CARD OF 'ephemeristop.EphemerisRegions'. -/
def ephemerisRegionsCard : Claim7 := { stood := { row := ephemerisRegionsRow, standIns := [], harness := (true, "60ef4d75bcb700be400508d8a901d7c9f3fe0a46a62d5e78e894d0ff63d7f921"), looks := false }, kinds := [], alts := [], laidByText := true, laidKinds := [.data], laidTests := true, laidLooks := .later }
def EphemerisRegionsCardSaid : Prop := Claim7.holds Tryz.pinned (.plain (OpenSpec.ofChange ephemerisRegionsSpec)) ephemerisRegionsCard

/-- THE SECOND FORM's CARD OF 'ephemerislaw18.SolarCritical'. -/
def solarCriticalUptoCard : Claim7 := { stood := { row := solarCriticalUptoRow, standIns := [], harness := (true, "60ef4d75bcb700be400508d8a901d7c9f3fe0a46a62d5e78e894d0ff63d7f921"), looks := false }, kinds := [], alts := [], laidByText := true, laidKinds := [.data], laidTests := true, laidLooks := .later }
def SolarCriticalUptoCardSaid : Prop := Claim7.holds Tryz.pinned (.plain (OpenSpec.upto solarCriticalSpec)) solarCriticalUptoCard

/-- THE SECOND FORM's CARD OF 'ephemerislaw18.SolarDays'. -/
def solarDaysUptoCard : Claim7 := { stood := { row := solarDaysUptoRow, standIns := [], harness := (true, "60ef4d75bcb700be400508d8a901d7c9f3fe0a46a62d5e78e894d0ff63d7f921"), looks := false }, kinds := [], alts := [], laidByText := true, laidKinds := [.data], laidTests := true, laidLooks := .later }
def SolarDaysUptoCardSaid : Prop := Claim7.holds Tryz.pinned (.plain (OpenSpec.upto solarDaysSpec)) solarDaysUptoCard

/-- THE SECOND FORM's CARD OF 'ephemerislaw18.SolarDates'. -/
def solarDatesUptoCard : Claim7 := { stood := { row := solarDatesUptoRow, standIns := [], harness := (true, "60ef4d75bcb700be400508d8a901d7c9f3fe0a46a62d5e78e894d0ff63d7f921"), looks := false }, kinds := [], alts := [], laidByText := true, laidKinds := [.data], laidTests := true, laidLooks := .later }
def SolarDatesUptoCardSaid : Prop := Claim7.holds Tryz.pinned (.plain (OpenSpec.upto solarDatesSpec)) solarDatesUptoCard

/-- THE SECOND FORM's CARD OF 'ephemerislaw18.SolarSteps'. -/
def solarStepsUptoCard : Claim7 := { stood := { row := solarStepsUptoRow, standIns := [], harness := (true, "60ef4d75bcb700be400508d8a901d7c9f3fe0a46a62d5e78e894d0ff63d7f921"), looks := false }, kinds := [], alts := [], laidByText := true, laidKinds := [.data], laidTests := true, laidLooks := .later }
def SolarStepsUptoCardSaid : Prop := Claim7.holds Tryz.pinned (.plain (OpenSpec.upto solarStepsSpec)) solarStepsUptoCard

/-- THE SECOND FORM's CARD OF 'ephemerislaw18.SolarFirst'. -/
def solarFirstUptoCard : Claim7 := { stood := { row := solarFirstUptoRow, standIns := [], harness := (true, "60ef4d75bcb700be400508d8a901d7c9f3fe0a46a62d5e78e894d0ff63d7f921"), looks := false }, kinds := [], alts := [], laidByText := true, laidKinds := [.data], laidTests := true, laidLooks := .later }
def SolarFirstUptoCardSaid : Prop := Claim7.holds Tryz.pinned (.plain (OpenSpec.upto solarFirstSpec)) solarFirstUptoCard

/-- THE SECOND FORM's CARD OF 'ephemerislaw18.SolarBad'. -/
def solarBadUptoCard : Claim7 := { stood := { row := solarBadUptoRow, standIns := [], harness := (true, "60ef4d75bcb700be400508d8a901d7c9f3fe0a46a62d5e78e894d0ff63d7f921"), looks := false }, kinds := [], alts := [], laidByText := true, laidKinds := [.data], laidTests := true, laidLooks := .later }
def SolarBadUptoCardSaid : Prop := Claim7.holds Tryz.pinned (.plain (OpenSpec.upto solarBadSpec)) solarBadUptoCard

/-- THE SECOND FORM's CARD OF 'ephemerislaw19.MoonsAt'. -/
def moonsAtUptoCard : Claim7 := { stood := { row := moonsAtUptoRow, standIns := [], harness := (true, "60ef4d75bcb700be400508d8a901d7c9f3fe0a46a62d5e78e894d0ff63d7f921"), looks := false }, kinds := [], alts := [], laidByText := true, laidKinds := [.data], laidTests := true, laidLooks := .later }
def MoonsAtUptoCardSaid : Prop := Claim7.holds Tryz.pinned (.plain (OpenSpec.upto moonsAtSpec)) moonsAtUptoCard

/-- THE SECOND FORM's CARD OF 'ephemerislaw19.MoonsRow'. -/
def moonsRowUptoCard : Claim7 := { stood := { row := moonsRowUptoRow, standIns := [], harness := (true, "60ef4d75bcb700be400508d8a901d7c9f3fe0a46a62d5e78e894d0ff63d7f921"), looks := false }, kinds := [], alts := [], laidByText := true, laidKinds := [.data], laidTests := true, laidLooks := .later }
def MoonsRowUptoCardSaid : Prop := Claim7.holds Tryz.pinned (.plain (OpenSpec.upto moonsRowSpec)) moonsRowUptoCard

/-- THE SECOND FORM's CARD OF 'ephemerislaw19.MoonsSigns'. -/
def moonsSignsUptoCard : Claim7 := { stood := { row := moonsSignsUptoRow, standIns := [], harness := (true, "60ef4d75bcb700be400508d8a901d7c9f3fe0a46a62d5e78e894d0ff63d7f921"), looks := false }, kinds := [], alts := [], laidByText := true, laidKinds := [.data], laidTests := true, laidLooks := .later }
def MoonsSignsUptoCardSaid : Prop := Claim7.holds Tryz.pinned (.plain (OpenSpec.upto moonsSignsSpec)) moonsSignsUptoCard

/-- THE SECOND FORM's CARD OF 'ephemeristop.EphemerisRegions'. -/
def ephemerisRegionsUptoCard : Claim7 := { stood := { row := ephemerisRegionsUptoRow, standIns := [], harness := (true, "60ef4d75bcb700be400508d8a901d7c9f3fe0a46a62d5e78e894d0ff63d7f921"), looks := false }, kinds := [], alts := [], laidByText := true, laidKinds := [.data], laidTests := true, laidLooks := .later }
def EphemerisRegionsUptoCardSaid : Prop := Claim7.holds Tryz.pinned (.plain (OpenSpec.upto ephemerisRegionsSpec)) ephemerisRegionsUptoCard
end Rows
end Go.Proofs.YtnljadejcfgmaaaGreatDoor
