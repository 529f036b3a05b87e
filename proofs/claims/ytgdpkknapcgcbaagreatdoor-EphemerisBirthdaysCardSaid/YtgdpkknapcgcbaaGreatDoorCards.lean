/-
  DERIVED. GIVEN WITH THE SEED: THE CARDS: each row of YtgdpkknapcgcbaaGreatDoorRows.lean that lists a variable, with what it lists TIED to the program's text (the seventh form; the later family's looks); each row that meets fmt, with fmt's text TOLD by the authors' own Lean function (tested against real Go, not proved from fmt's source: count such statements apart). THE CARD IS WHAT COUNTS. Prove the row's statement (the work); the ties are given (YtgdpkknapcgcbaaGreatDoorTie.lean); close each card by the builder's one call (the guide's Derived/Test/ToyasCard.lean, 'card_holds'). Laid BY PROGRAM, IN A SANDBOX (cutbox-door.mjs). By AI agents, Wed Nov 11 2026. No macro, syntax, notation, axiom, sorry.
-/
import Derived.Test.YtgdpkknapcgcbaaGreatDoorRows
import GoSem.ClaimSeven
namespace Go.Proofs.YtgdpkknapcgcbaaGreatDoor
namespace Rows

/-- THE TIED CARD OF 'ephemerislaw24.AlmanacDays'. -/
def almanacDaysCard : Claim7 := { stood := { row := almanacDaysRow, standIns := [], harness := (true, "5d657ca230917a1f103d2ad5461352f839a02abcb3f7807d5672e577b146ac0c"), looks := false }, kinds := [], alts := [], laidByText := true, laidKinds := [.data], laidTests := true, laidLooks := .later }
def AlmanacDaysCardSaid : Prop := Claim7.holds Tryz.pinned (.plain (OpenSpec.ofChange almanacDaysSpec)) almanacDaysCard

/-- THE TIED CARD OF 'ephemerislaw24.AlmanacParts'. -/
def almanacPartsCard : Claim7 := { stood := { row := almanacPartsRow, standIns := [], harness := (true, "5d657ca230917a1f103d2ad5461352f839a02abcb3f7807d5672e577b146ac0c"), looks := false }, kinds := [], alts := [], laidByText := true, laidKinds := [.data], laidTests := true, laidLooks := .later }
def AlmanacPartsCardSaid : Prop := Claim7.holds Tryz.pinned (.plain (OpenSpec.ofChange almanacPartsSpec)) almanacPartsCard

/-- THE TIED CARD OF 'ephemerislaw24.AlmanacTithis'. -/
def almanacTithisCard : Claim7 := { stood := { row := almanacTithisRow, standIns := [], harness := (true, "5d657ca230917a1f103d2ad5461352f839a02abcb3f7807d5672e577b146ac0c"), looks := false }, kinds := [], alts := [], laidByText := true, laidKinds := [.data], laidTests := true, laidLooks := .later }
def AlmanacTithisCardSaid : Prop := Claim7.holds Tryz.pinned (.plain (OpenSpec.ofChange almanacTithisSpec)) almanacTithisCard

/-- THE TIED CARD OF 'ephemerislaw24.AlmanacEntry'. -/
def almanacEntryCard : Claim7 := { stood := { row := almanacEntryRow, standIns := [], harness := (true, "5d657ca230917a1f103d2ad5461352f839a02abcb3f7807d5672e577b146ac0c"), looks := false }, kinds := [], alts := [], laidByText := true, laidKinds := [.data], laidTests := true, laidLooks := .later }
def AlmanacEntryCardSaid : Prop := Claim7.holds Tryz.pinned (.plain (OpenSpec.ofChange almanacEntrySpec)) almanacEntryCard

/-- THE TIED CARD OF 'ephemerislaw24.AlmanacBad'. -/
def almanacBadCard : Claim7 := { stood := { row := almanacBadRow, standIns := [], harness := (true, "5d657ca230917a1f103d2ad5461352f839a02abcb3f7807d5672e577b146ac0c"), looks := false }, kinds := [], alts := [], laidByText := true, laidKinds := [.data], laidTests := true, laidLooks := .later }
def AlmanacBadCardSaid : Prop := Claim7.holds Tryz.pinned (.plain (OpenSpec.ofChange almanacBadSpec)) almanacBadCard

/-- THE TIED CARD OF 'ephemerislaw25.TablesBegin'. -/
def tablesBeginCard : Claim7 := { stood := { row := tablesBeginRow, standIns := [], harness := (true, "5d657ca230917a1f103d2ad5461352f839a02abcb3f7807d5672e577b146ac0c"), looks := false }, kinds := [], alts := [], laidByText := true, laidKinds := [.data], laidTests := true, laidLooks := .later }
def TablesBeginCardSaid : Prop := Claim7.holds Tryz.pinned (.plain (OpenSpec.ofChange tablesBeginSpec)) tablesBeginCard

/-- THE TIED CARD OF 'ephemerislaw25.TablesLunar'. -/
def tablesLunarCard : Claim7 := { stood := { row := tablesLunarRow, standIns := [], harness := (true, "5d657ca230917a1f103d2ad5461352f839a02abcb3f7807d5672e577b146ac0c"), looks := false }, kinds := [], alts := [], laidByText := true, laidKinds := [.data], laidTests := true, laidLooks := .later }
def TablesLunarCardSaid : Prop := Claim7.holds Tryz.pinned (.plain (OpenSpec.ofChange tablesLunarSpec)) tablesLunarCard

/-- THE TIED CARD OF 'ephemerislaw25.TablesYears'. -/
def tablesYearsCard : Claim7 := { stood := { row := tablesYearsRow, standIns := [], harness := (true, "5d657ca230917a1f103d2ad5461352f839a02abcb3f7807d5672e577b146ac0c"), looks := false }, kinds := [], alts := [], laidByText := true, laidKinds := [.data], laidTests := true, laidLooks := .later }
def TablesYearsCardSaid : Prop := Claim7.holds Tryz.pinned (.plain (OpenSpec.ofChange tablesYearsSpec)) tablesYearsCard

/-- THE TIED CARD OF 'ephemerislaw25.TablesSolar'. -/
def tablesSolarCard : Claim7 := { stood := { row := tablesSolarRow, standIns := [], harness := (true, "5d657ca230917a1f103d2ad5461352f839a02abcb3f7807d5672e577b146ac0c"), looks := false }, kinds := [], alts := [], laidByText := true, laidKinds := [.data], laidTests := true, laidLooks := .later }
def TablesSolarCardSaid : Prop := Claim7.holds Tryz.pinned (.plain (OpenSpec.ofChange tablesSolarSpec)) tablesSolarCard

/-- THE TIED CARD OF 'ephemerislaw25.TablesMonth'. -/
def tablesMonthCard : Claim7 := { stood := { row := tablesMonthRow, standIns := [], harness := (true, "5d657ca230917a1f103d2ad5461352f839a02abcb3f7807d5672e577b146ac0c"), looks := false }, kinds := [], alts := [], laidByText := true, laidKinds := [.data], laidTests := true, laidLooks := .later }
def TablesMonthCardSaid : Prop := Claim7.holds Tryz.pinned (.plain (OpenSpec.ofChange tablesMonthSpec)) tablesMonthCard

/-- THE TIED CARD OF 'ephemerislaw25.TablesBirthday'. -/
def tablesBirthdayCard : Claim7 := { stood := { row := tablesBirthdayRow, standIns := [], harness := (true, "5d657ca230917a1f103d2ad5461352f839a02abcb3f7807d5672e577b146ac0c"), looks := false }, kinds := [], alts := [], laidByText := true, laidKinds := [.data], laidTests := true, laidLooks := .later }
def TablesBirthdayCardSaid : Prop := Claim7.holds Tryz.pinned (.plain (OpenSpec.ofChange tablesBirthdaySpec)) tablesBirthdayCard

/-- THE TIED CARD OF 'ephemeristop.EphemerisBirthdays'. -/
def ephemerisBirthdaysCard : Claim7 := { stood := { row := ephemerisBirthdaysRow, standIns := [], harness := (true, "5d657ca230917a1f103d2ad5461352f839a02abcb3f7807d5672e577b146ac0c"), looks := false }, kinds := [], alts := [], laidByText := true, laidKinds := [.data], laidTests := true, laidLooks := .later }
def EphemerisBirthdaysCardSaid : Prop := Claim7.holds Tryz.pinned (.plain (OpenSpec.ofChange ephemerisBirthdaysSpec)) ephemerisBirthdaysCard

/-- THE SECOND FORM's CARD OF 'ephemerislaw24.AlmanacDays'. -/
def almanacDaysUptoCard : Claim7 := { stood := { row := almanacDaysUptoRow, standIns := [], harness := (true, "5d657ca230917a1f103d2ad5461352f839a02abcb3f7807d5672e577b146ac0c"), looks := false }, kinds := [], alts := [], laidByText := true, laidKinds := [.data], laidTests := true, laidLooks := .later }
def AlmanacDaysUptoCardSaid : Prop := Claim7.holds Tryz.pinned (.plain (OpenSpec.upto almanacDaysSpec)) almanacDaysUptoCard

/-- THE SECOND FORM's CARD OF 'ephemerislaw24.AlmanacParts'. -/
def almanacPartsUptoCard : Claim7 := { stood := { row := almanacPartsUptoRow, standIns := [], harness := (true, "5d657ca230917a1f103d2ad5461352f839a02abcb3f7807d5672e577b146ac0c"), looks := false }, kinds := [], alts := [], laidByText := true, laidKinds := [.data], laidTests := true, laidLooks := .later }
def AlmanacPartsUptoCardSaid : Prop := Claim7.holds Tryz.pinned (.plain (OpenSpec.upto almanacPartsSpec)) almanacPartsUptoCard

/-- THE SECOND FORM's CARD OF 'ephemerislaw24.AlmanacTithis'. -/
def almanacTithisUptoCard : Claim7 := { stood := { row := almanacTithisUptoRow, standIns := [], harness := (true, "5d657ca230917a1f103d2ad5461352f839a02abcb3f7807d5672e577b146ac0c"), looks := false }, kinds := [], alts := [], laidByText := true, laidKinds := [.data], laidTests := true, laidLooks := .later }
def AlmanacTithisUptoCardSaid : Prop := Claim7.holds Tryz.pinned (.plain (OpenSpec.upto almanacTithisSpec)) almanacTithisUptoCard

/-- THE SECOND FORM's CARD OF 'ephemerislaw24.AlmanacEntry'. -/
def almanacEntryUptoCard : Claim7 := { stood := { row := almanacEntryUptoRow, standIns := [], harness := (true, "5d657ca230917a1f103d2ad5461352f839a02abcb3f7807d5672e577b146ac0c"), looks := false }, kinds := [], alts := [], laidByText := true, laidKinds := [.data], laidTests := true, laidLooks := .later }
def AlmanacEntryUptoCardSaid : Prop := Claim7.holds Tryz.pinned (.plain (OpenSpec.upto almanacEntrySpec)) almanacEntryUptoCard

/-- THE SECOND FORM's CARD OF 'ephemerislaw24.AlmanacBad'. -/
def almanacBadUptoCard : Claim7 := { stood := { row := almanacBadUptoRow, standIns := [], harness := (true, "5d657ca230917a1f103d2ad5461352f839a02abcb3f7807d5672e577b146ac0c"), looks := false }, kinds := [], alts := [], laidByText := true, laidKinds := [.data], laidTests := true, laidLooks := .later }
def AlmanacBadUptoCardSaid : Prop := Claim7.holds Tryz.pinned (.plain (OpenSpec.upto almanacBadSpec)) almanacBadUptoCard

/-- THE SECOND FORM's CARD OF 'ephemerislaw25.TablesBegin'. -/
def tablesBeginUptoCard : Claim7 := { stood := { row := tablesBeginUptoRow, standIns := [], harness := (true, "5d657ca230917a1f103d2ad5461352f839a02abcb3f7807d5672e577b146ac0c"), looks := false }, kinds := [], alts := [], laidByText := true, laidKinds := [.data], laidTests := true, laidLooks := .later }
def TablesBeginUptoCardSaid : Prop := Claim7.holds Tryz.pinned (.plain (OpenSpec.upto tablesBeginSpec)) tablesBeginUptoCard

/-- THE SECOND FORM's CARD OF 'ephemerislaw25.TablesLunar'. -/
def tablesLunarUptoCard : Claim7 := { stood := { row := tablesLunarUptoRow, standIns := [], harness := (true, "5d657ca230917a1f103d2ad5461352f839a02abcb3f7807d5672e577b146ac0c"), looks := false }, kinds := [], alts := [], laidByText := true, laidKinds := [.data], laidTests := true, laidLooks := .later }
def TablesLunarUptoCardSaid : Prop := Claim7.holds Tryz.pinned (.plain (OpenSpec.upto tablesLunarSpec)) tablesLunarUptoCard

/-- THE SECOND FORM's CARD OF 'ephemerislaw25.TablesYears'. -/
def tablesYearsUptoCard : Claim7 := { stood := { row := tablesYearsUptoRow, standIns := [], harness := (true, "5d657ca230917a1f103d2ad5461352f839a02abcb3f7807d5672e577b146ac0c"), looks := false }, kinds := [], alts := [], laidByText := true, laidKinds := [.data], laidTests := true, laidLooks := .later }
def TablesYearsUptoCardSaid : Prop := Claim7.holds Tryz.pinned (.plain (OpenSpec.upto tablesYearsSpec)) tablesYearsUptoCard

/-- THE SECOND FORM's CARD OF 'ephemerislaw25.TablesSolar'. -/
def tablesSolarUptoCard : Claim7 := { stood := { row := tablesSolarUptoRow, standIns := [], harness := (true, "5d657ca230917a1f103d2ad5461352f839a02abcb3f7807d5672e577b146ac0c"), looks := false }, kinds := [], alts := [], laidByText := true, laidKinds := [.data], laidTests := true, laidLooks := .later }
def TablesSolarUptoCardSaid : Prop := Claim7.holds Tryz.pinned (.plain (OpenSpec.upto tablesSolarSpec)) tablesSolarUptoCard

/-- THE SECOND FORM's CARD OF 'ephemerislaw25.TablesMonth'. -/
def tablesMonthUptoCard : Claim7 := { stood := { row := tablesMonthUptoRow, standIns := [], harness := (true, "5d657ca230917a1f103d2ad5461352f839a02abcb3f7807d5672e577b146ac0c"), looks := false }, kinds := [], alts := [], laidByText := true, laidKinds := [.data], laidTests := true, laidLooks := .later }
def TablesMonthUptoCardSaid : Prop := Claim7.holds Tryz.pinned (.plain (OpenSpec.upto tablesMonthSpec)) tablesMonthUptoCard

/-- THE SECOND FORM's CARD OF 'ephemerislaw25.TablesBirthday'. -/
def tablesBirthdayUptoCard : Claim7 := { stood := { row := tablesBirthdayUptoRow, standIns := [], harness := (true, "5d657ca230917a1f103d2ad5461352f839a02abcb3f7807d5672e577b146ac0c"), looks := false }, kinds := [], alts := [], laidByText := true, laidKinds := [.data], laidTests := true, laidLooks := .later }
def TablesBirthdayUptoCardSaid : Prop := Claim7.holds Tryz.pinned (.plain (OpenSpec.upto tablesBirthdaySpec)) tablesBirthdayUptoCard

/-- THE SECOND FORM's CARD OF 'ephemeristop.EphemerisBirthdays'. -/
def ephemerisBirthdaysUptoCard : Claim7 := { stood := { row := ephemerisBirthdaysUptoRow, standIns := [], harness := (true, "5d657ca230917a1f103d2ad5461352f839a02abcb3f7807d5672e577b146ac0c"), looks := false }, kinds := [], alts := [], laidByText := true, laidKinds := [.data], laidTests := true, laidLooks := .later }
def EphemerisBirthdaysUptoCardSaid : Prop := Claim7.holds Tryz.pinned (.plain (OpenSpec.upto ephemerisBirthdaysSpec)) ephemerisBirthdaysUptoCard
end Rows
end Go.Proofs.YtgdpkknapcgcbaaGreatDoor
