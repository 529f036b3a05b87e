/-
  DERIVED. GIVEN WITH THE SEED: THE CARDS: each row of YtddiipaomejcfaaGreatDoorRows.lean that lists a variable, with what it lists TIED to the program's text (the seventh form; the later family's looks); each row that meets fmt, with fmt's text TOLD by the authors' own Lean function (tested against real Go, not proved from fmt's source: count such statements apart). THE CARD IS WHAT COUNTS. Prove the row's statement (the work); the ties are given (YtddiipaomejcfaaGreatDoorTie.lean); close each card by the builder's one call (the guide's Derived/Test/ToyasCard.lean, 'card_holds'). Laid BY PROGRAM, IN A SANDBOX (cutbox-door.mjs). By AI agents, Wed Nov 11 2026. No macro, syntax, notation, axiom, sorry.
-/
import Derived.Test.YtddiipaomejcfaaGreatDoorRows
import GoSem.ClaimSeven
namespace Go.Proofs.YtddiipaomejcfaaGreatDoor
namespace Rows

/-- THE TIED CARD OF 'ephemerislaw21.FindDays'. -/
def findDaysCard : Claim7 := { stood := { row := findDaysRow, standIns := [], harness := (true, "eb73d24495fc61b0293f71ed66abeeafb838c597c38aed539b9e4910de48c86e"), looks := false }, kinds := [], alts := [], laidByText := true, laidKinds := [.data], laidTests := true, laidLooks := .later }
def FindDaysCardSaid : Prop := Claim7.holds Tryz.pinned (.plain (OpenSpec.ofChange findDaysSpec)) findDaysCard

/-- THE TIED CARD OF 'ephemerislaw21.FindDates'. -/
def findDatesCard : Claim7 := { stood := { row := findDatesRow, standIns := [], harness := (true, "eb73d24495fc61b0293f71ed66abeeafb838c597c38aed539b9e4910de48c86e"), looks := false }, kinds := [], alts := [], laidByText := true, laidKinds := [.data], laidTests := true, laidLooks := .later }
def FindDatesCardSaid : Prop := Claim7.holds Tryz.pinned (.plain (OpenSpec.ofChange findDatesSpec)) findDatesCard

/-- THE TIED CARD OF 'ephemerislaw21.FindTrue'. -/
def findTrueCard : Claim7 := { stood := { row := findTrueRow, standIns := [], harness := (true, "eb73d24495fc61b0293f71ed66abeeafb838c597c38aed539b9e4910de48c86e"), looks := false }, kinds := [], alts := [], laidByText := true, laidKinds := [.data], laidTests := true, laidLooks := .later }
def FindTrueCardSaid : Prop := Claim7.holds Tryz.pinned (.plain (OpenSpec.ofChange findTrueSpec)) findTrueCard

/-- THE TIED CARD OF 'ephemerislaw21.FindMonths'. -/
def findMonthsCard : Claim7 := { stood := { row := findMonthsRow, standIns := [], harness := (true, "eb73d24495fc61b0293f71ed66abeeafb838c597c38aed539b9e4910de48c86e"), looks := false }, kinds := [], alts := [], laidByText := true, laidKinds := [.data], laidTests := true, laidLooks := .later }
def FindMonthsCardSaid : Prop := Claim7.holds Tryz.pinned (.plain (OpenSpec.ofChange findMonthsSpec)) findMonthsCard

/-- THE TIED CARD OF 'ephemerislaw21.FindWithin'. -/
def findWithinCard : Claim7 := { stood := { row := findWithinRow, standIns := [], harness := (true, "eb73d24495fc61b0293f71ed66abeeafb838c597c38aed539b9e4910de48c86e"), looks := false }, kinds := [], alts := [], laidByText := true, laidKinds := [.data], laidTests := true, laidLooks := .later }
def FindWithinCardSaid : Prop := Claim7.holds Tryz.pinned (.plain (OpenSpec.ofChange findWithinSpec)) findWithinCard

/-- THE TIED CARD OF 'ephemerislaw22.PurnimaDays'. -/
def purnimaDaysCard : Claim7 := { stood := { row := purnimaDaysRow, standIns := [], harness := (true, "eb73d24495fc61b0293f71ed66abeeafb838c597c38aed539b9e4910de48c86e"), looks := false }, kinds := [], alts := [], laidByText := true, laidKinds := [.data], laidTests := true, laidLooks := .later }
def PurnimaDaysCardSaid : Prop := Claim7.holds Tryz.pinned (.plain (OpenSpec.ofChange purnimaDaysSpec)) purnimaDaysCard

/-- THE TIED CARD OF 'ephemerislaw22.PurnimaBack'. -/
def purnimaBackCard : Claim7 := { stood := { row := purnimaBackRow, standIns := [], harness := (true, "eb73d24495fc61b0293f71ed66abeeafb838c597c38aed539b9e4910de48c86e"), looks := false }, kinds := [], alts := [], laidByText := true, laidKinds := [.data], laidTests := true, laidLooks := .later }
def PurnimaBackCardSaid : Prop := Claim7.holds Tryz.pinned (.plain (OpenSpec.ofChange purnimaBackSpec)) purnimaBackCard

/-- THE TIED CARD OF 'ephemerislaw22.PurnimaHalves'. -/
def purnimaHalvesCard : Claim7 := { stood := { row := purnimaHalvesRow, standIns := [], harness := (true, "eb73d24495fc61b0293f71ed66abeeafb838c597c38aed539b9e4910de48c86e"), looks := false }, kinds := [], alts := [], laidByText := true, laidKinds := [.data], laidTests := true, laidLooks := .later }
def PurnimaHalvesCardSaid : Prop := Claim7.holds Tryz.pinned (.plain (OpenSpec.ofChange purnimaHalvesSpec)) purnimaHalvesCard

/-- THE TIED CARD OF 'ephemerislaw22.PurnimaTrue'. -/
def purnimaTrueCard : Claim7 := { stood := { row := purnimaTrueRow, standIns := [], harness := (true, "eb73d24495fc61b0293f71ed66abeeafb838c597c38aed539b9e4910de48c86e"), looks := false }, kinds := [], alts := [], laidByText := true, laidKinds := [.data], laidTests := true, laidLooks := .later }
def PurnimaTrueCardSaid : Prop := Claim7.holds Tryz.pinned (.plain (OpenSpec.ofChange purnimaTrueSpec)) purnimaTrueCard

/-- THE TIED CARD OF 'ephemerislaw22.PurnimaBad'. -/
def purnimaBadCard : Claim7 := { stood := { row := purnimaBadRow, standIns := [], harness := (true, "eb73d24495fc61b0293f71ed66abeeafb838c597c38aed539b9e4910de48c86e"), looks := false }, kinds := [], alts := [], laidByText := true, laidKinds := [.data], laidTests := true, laidLooks := .later }
def PurnimaBadCardSaid : Prop := Claim7.holds Tryz.pinned (.plain (OpenSpec.ofChange purnimaBadSpec)) purnimaBadCard

/-- THE SECOND FORM's CARD OF 'ephemerislaw21.FindDays'. -/
def findDaysUptoCard : Claim7 := { stood := { row := findDaysUptoRow, standIns := [], harness := (true, "eb73d24495fc61b0293f71ed66abeeafb838c597c38aed539b9e4910de48c86e"), looks := false }, kinds := [], alts := [], laidByText := true, laidKinds := [.data], laidTests := true, laidLooks := .later }
def FindDaysUptoCardSaid : Prop := Claim7.holds Tryz.pinned (.plain (OpenSpec.upto findDaysSpec)) findDaysUptoCard

/-- THE SECOND FORM's CARD OF 'ephemerislaw21.FindDates'. -/
def findDatesUptoCard : Claim7 := { stood := { row := findDatesUptoRow, standIns := [], harness := (true, "eb73d24495fc61b0293f71ed66abeeafb838c597c38aed539b9e4910de48c86e"), looks := false }, kinds := [], alts := [], laidByText := true, laidKinds := [.data], laidTests := true, laidLooks := .later }
def FindDatesUptoCardSaid : Prop := Claim7.holds Tryz.pinned (.plain (OpenSpec.upto findDatesSpec)) findDatesUptoCard

/-- THE SECOND FORM's CARD OF 'ephemerislaw21.FindTrue'. -/
def findTrueUptoCard : Claim7 := { stood := { row := findTrueUptoRow, standIns := [], harness := (true, "eb73d24495fc61b0293f71ed66abeeafb838c597c38aed539b9e4910de48c86e"), looks := false }, kinds := [], alts := [], laidByText := true, laidKinds := [.data], laidTests := true, laidLooks := .later }
def FindTrueUptoCardSaid : Prop := Claim7.holds Tryz.pinned (.plain (OpenSpec.upto findTrueSpec)) findTrueUptoCard

/-- THE SECOND FORM's CARD OF 'ephemerislaw21.FindMonths'. -/
def findMonthsUptoCard : Claim7 := { stood := { row := findMonthsUptoRow, standIns := [], harness := (true, "eb73d24495fc61b0293f71ed66abeeafb838c597c38aed539b9e4910de48c86e"), looks := false }, kinds := [], alts := [], laidByText := true, laidKinds := [.data], laidTests := true, laidLooks := .later }
def FindMonthsUptoCardSaid : Prop := Claim7.holds Tryz.pinned (.plain (OpenSpec.upto findMonthsSpec)) findMonthsUptoCard

/-- THE SECOND FORM's CARD OF 'ephemerislaw21.FindWithin'. -/
def findWithinUptoCard : Claim7 := { stood := { row := findWithinUptoRow, standIns := [], harness := (true, "eb73d24495fc61b0293f71ed66abeeafb838c597c38aed539b9e4910de48c86e"), looks := false }, kinds := [], alts := [], laidByText := true, laidKinds := [.data], laidTests := true, laidLooks := .later }
def FindWithinUptoCardSaid : Prop := Claim7.holds Tryz.pinned (.plain (OpenSpec.upto findWithinSpec)) findWithinUptoCard

/-- THE SECOND FORM's CARD OF 'ephemerislaw22.PurnimaDays'. -/
def purnimaDaysUptoCard : Claim7 := { stood := { row := purnimaDaysUptoRow, standIns := [], harness := (true, "eb73d24495fc61b0293f71ed66abeeafb838c597c38aed539b9e4910de48c86e"), looks := false }, kinds := [], alts := [], laidByText := true, laidKinds := [.data], laidTests := true, laidLooks := .later }
def PurnimaDaysUptoCardSaid : Prop := Claim7.holds Tryz.pinned (.plain (OpenSpec.upto purnimaDaysSpec)) purnimaDaysUptoCard

/-- THE SECOND FORM's CARD OF 'ephemerislaw22.PurnimaBack'. -/
def purnimaBackUptoCard : Claim7 := { stood := { row := purnimaBackUptoRow, standIns := [], harness := (true, "eb73d24495fc61b0293f71ed66abeeafb838c597c38aed539b9e4910de48c86e"), looks := false }, kinds := [], alts := [], laidByText := true, laidKinds := [.data], laidTests := true, laidLooks := .later }
def PurnimaBackUptoCardSaid : Prop := Claim7.holds Tryz.pinned (.plain (OpenSpec.upto purnimaBackSpec)) purnimaBackUptoCard

/-- THE SECOND FORM's CARD OF 'ephemerislaw22.PurnimaHalves'. -/
def purnimaHalvesUptoCard : Claim7 := { stood := { row := purnimaHalvesUptoRow, standIns := [], harness := (true, "eb73d24495fc61b0293f71ed66abeeafb838c597c38aed539b9e4910de48c86e"), looks := false }, kinds := [], alts := [], laidByText := true, laidKinds := [.data], laidTests := true, laidLooks := .later }
def PurnimaHalvesUptoCardSaid : Prop := Claim7.holds Tryz.pinned (.plain (OpenSpec.upto purnimaHalvesSpec)) purnimaHalvesUptoCard

/-- THE SECOND FORM's CARD OF 'ephemerislaw22.PurnimaTrue'. -/
def purnimaTrueUptoCard : Claim7 := { stood := { row := purnimaTrueUptoRow, standIns := [], harness := (true, "eb73d24495fc61b0293f71ed66abeeafb838c597c38aed539b9e4910de48c86e"), looks := false }, kinds := [], alts := [], laidByText := true, laidKinds := [.data], laidTests := true, laidLooks := .later }
def PurnimaTrueUptoCardSaid : Prop := Claim7.holds Tryz.pinned (.plain (OpenSpec.upto purnimaTrueSpec)) purnimaTrueUptoCard

/-- THE SECOND FORM's CARD OF 'ephemerislaw22.PurnimaBad'. -/
def purnimaBadUptoCard : Claim7 := { stood := { row := purnimaBadUptoRow, standIns := [], harness := (true, "eb73d24495fc61b0293f71ed66abeeafb838c597c38aed539b9e4910de48c86e"), looks := false }, kinds := [], alts := [], laidByText := true, laidKinds := [.data], laidTests := true, laidLooks := .later }
def PurnimaBadUptoCardSaid : Prop := Claim7.holds Tryz.pinned (.plain (OpenSpec.upto purnimaBadSpec)) purnimaBadUptoCard
end Rows
end Go.Proofs.YtddiipaomejcfaaGreatDoor
