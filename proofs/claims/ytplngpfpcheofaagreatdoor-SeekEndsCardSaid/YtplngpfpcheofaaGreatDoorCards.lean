/-
  DERIVED. GIVEN WITH THE SEED: THE CARDS: each row of YtplngpfpcheofaaGreatDoorRows.lean that lists a variable, with what it lists TIED to the program's text (the seventh form; the later family's looks); each row that meets fmt, with fmt's text TOLD by the authors' own Lean function (tested against real Go, not proved from fmt's source: count such statements apart). THE CARD IS WHAT COUNTS. Prove the row's statement (the work); the ties are given (YtplngpfpcheofaaGreatDoorTie.lean); close each card by the builder's one call (the guide's Derived/Test/ToyasCard.lean, 'card_holds'). Laid BY PROGRAM, IN A SANDBOX (cutbox-door.mjs). By AI agents, Wed Nov 11 2026. No macro, syntax, notation, axiom, sorry.
-/
import Derived.Test.YtplngpfpcheofaaGreatDoorRows
import GoSem.ClaimSeven
namespace Go.Proofs.YtplngpfpcheofaaGreatDoor
namespace Rows

/-- THE TIED CARD OF 'ephemerislaw15.SeekMoons'. -/
def seekMoonsCard : Claim7 := { stood := { row := seekMoonsRow, standIns := [], harness := (true, "694e97fb0dd963b7048202cb2c4898b1ac93110231eacd157d49d38fe4a297c1"), looks := false }, kinds := [], alts := [], laidByText := true, laidKinds := [.data], laidTests := true, laidLooks := .later }
def SeekMoonsCardSaid : Prop := Claim7.holds Tryz.pinned (.plain (OpenSpec.ofChange seekMoonsSpec)) seekMoonsCard

/-- THE TIED CARD OF 'ephemerislaw15.SeekLast'. -/
def seekLastCard : Claim7 := { stood := { row := seekLastRow, standIns := [], harness := (true, "694e97fb0dd963b7048202cb2c4898b1ac93110231eacd157d49d38fe4a297c1"), looks := false }, kinds := [], alts := [], laidByText := true, laidKinds := [.data], laidTests := true, laidLooks := .later }
def SeekLastCardSaid : Prop := Claim7.holds Tryz.pinned (.plain (OpenSpec.ofChange seekLastSpec)) seekLastCard

/-- THE TIED CARD OF 'ephemerislaw15.SeekNext'. -/
def seekNextCard : Claim7 := { stood := { row := seekNextRow, standIns := [], harness := (true, "694e97fb0dd963b7048202cb2c4898b1ac93110231eacd157d49d38fe4a297c1"), looks := false }, kinds := [], alts := [], laidByText := true, laidKinds := [.data], laidTests := true, laidLooks := .later }
def SeekNextCardSaid : Prop := Claim7.holds Tryz.pinned (.plain (OpenSpec.ofChange seekNextSpec)) seekNextCard

/-- THE TIED CARD OF 'ephemerislaw15.SeekEnters'. -/
def seekEntersCard : Claim7 := { stood := { row := seekEntersRow, standIns := [], harness := (true, "694e97fb0dd963b7048202cb2c4898b1ac93110231eacd157d49d38fe4a297c1"), looks := false }, kinds := [], alts := [], laidByText := true, laidKinds := [.data], laidTests := true, laidLooks := .later }
def SeekEntersCardSaid : Prop := Claim7.holds Tryz.pinned (.plain (OpenSpec.ofChange seekEntersSpec)) seekEntersCard

/-- THE TIED CARD OF 'ephemerislaw15.SeekEnds'. -/
def seekEndsCard : Claim7 := { stood := { row := seekEndsRow, standIns := [], harness := (true, "694e97fb0dd963b7048202cb2c4898b1ac93110231eacd157d49d38fe4a297c1"), looks := false }, kinds := [], alts := [], laidByText := true, laidKinds := [.data], laidTests := true, laidLooks := .later }
def SeekEndsCardSaid : Prop := Claim7.holds Tryz.pinned (.plain (OpenSpec.ofChange seekEndsSpec)) seekEndsCard

/-- THE TIED CARD OF 'ephemeristop.EphemerisHalves'. -/
def ephemerisHalvesCard : Claim7 := { stood := { row := ephemerisHalvesRow, standIns := [], harness := (true, "694e97fb0dd963b7048202cb2c4898b1ac93110231eacd157d49d38fe4a297c1"), looks := false }, kinds := [], alts := [], laidByText := true, laidKinds := [.data], laidTests := true, laidLooks := .later }
def EphemerisHalvesCardSaid : Prop := Claim7.holds Tryz.pinned (.plain (OpenSpec.ofChange ephemerisHalvesSpec)) ephemerisHalvesCard

/-- THE TIED CARD OF 'ephemeristop.EphemerisMoons'. -/
def ephemerisMoonsCard : Claim7 := { stood := { row := ephemerisMoonsRow, standIns := [], harness := (true, "694e97fb0dd963b7048202cb2c4898b1ac93110231eacd157d49d38fe4a297c1"), looks := false }, kinds := [], alts := [], laidByText := true, laidKinds := [.data], laidTests := true, laidLooks := .later }
def EphemerisMoonsCardSaid : Prop := Claim7.holds Tryz.pinned (.plain (OpenSpec.ofChange ephemerisMoonsSpec)) ephemerisMoonsCard

/-- THE SECOND FORM's CARD OF 'ephemerislaw15.SeekMoons'. -/
def seekMoonsUptoCard : Claim7 := { stood := { row := seekMoonsUptoRow, standIns := [], harness := (true, "694e97fb0dd963b7048202cb2c4898b1ac93110231eacd157d49d38fe4a297c1"), looks := false }, kinds := [], alts := [], laidByText := true, laidKinds := [.data], laidTests := true, laidLooks := .later }
def SeekMoonsUptoCardSaid : Prop := Claim7.holds Tryz.pinned (.plain (OpenSpec.upto seekMoonsSpec)) seekMoonsUptoCard

/-- THE SECOND FORM's CARD OF 'ephemerislaw15.SeekLast'. -/
def seekLastUptoCard : Claim7 := { stood := { row := seekLastUptoRow, standIns := [], harness := (true, "694e97fb0dd963b7048202cb2c4898b1ac93110231eacd157d49d38fe4a297c1"), looks := false }, kinds := [], alts := [], laidByText := true, laidKinds := [.data], laidTests := true, laidLooks := .later }
def SeekLastUptoCardSaid : Prop := Claim7.holds Tryz.pinned (.plain (OpenSpec.upto seekLastSpec)) seekLastUptoCard

/-- THE SECOND FORM's CARD OF 'ephemerislaw15.SeekNext'. -/
def seekNextUptoCard : Claim7 := { stood := { row := seekNextUptoRow, standIns := [], harness := (true, "694e97fb0dd963b7048202cb2c4898b1ac93110231eacd157d49d38fe4a297c1"), looks := false }, kinds := [], alts := [], laidByText := true, laidKinds := [.data], laidTests := true, laidLooks := .later }
def SeekNextUptoCardSaid : Prop := Claim7.holds Tryz.pinned (.plain (OpenSpec.upto seekNextSpec)) seekNextUptoCard

/-- THE SECOND FORM's CARD OF 'ephemerislaw15.SeekEnters'. -/
def seekEntersUptoCard : Claim7 := { stood := { row := seekEntersUptoRow, standIns := [], harness := (true, "694e97fb0dd963b7048202cb2c4898b1ac93110231eacd157d49d38fe4a297c1"), looks := false }, kinds := [], alts := [], laidByText := true, laidKinds := [.data], laidTests := true, laidLooks := .later }
def SeekEntersUptoCardSaid : Prop := Claim7.holds Tryz.pinned (.plain (OpenSpec.upto seekEntersSpec)) seekEntersUptoCard

/-- THE SECOND FORM's CARD OF 'ephemerislaw15.SeekEnds'. -/
def seekEndsUptoCard : Claim7 := { stood := { row := seekEndsUptoRow, standIns := [], harness := (true, "694e97fb0dd963b7048202cb2c4898b1ac93110231eacd157d49d38fe4a297c1"), looks := false }, kinds := [], alts := [], laidByText := true, laidKinds := [.data], laidTests := true, laidLooks := .later }
def SeekEndsUptoCardSaid : Prop := Claim7.holds Tryz.pinned (.plain (OpenSpec.upto seekEndsSpec)) seekEndsUptoCard

/-- THE SECOND FORM's CARD OF 'ephemeristop.EphemerisHalves'. -/
def ephemerisHalvesUptoCard : Claim7 := { stood := { row := ephemerisHalvesUptoRow, standIns := [], harness := (true, "694e97fb0dd963b7048202cb2c4898b1ac93110231eacd157d49d38fe4a297c1"), looks := false }, kinds := [], alts := [], laidByText := true, laidKinds := [.data], laidTests := true, laidLooks := .later }
def EphemerisHalvesUptoCardSaid : Prop := Claim7.holds Tryz.pinned (.plain (OpenSpec.upto ephemerisHalvesSpec)) ephemerisHalvesUptoCard

/-- THE SECOND FORM's CARD OF 'ephemeristop.EphemerisMoons'. -/
def ephemerisMoonsUptoCard : Claim7 := { stood := { row := ephemerisMoonsUptoRow, standIns := [], harness := (true, "694e97fb0dd963b7048202cb2c4898b1ac93110231eacd157d49d38fe4a297c1"), looks := false }, kinds := [], alts := [], laidByText := true, laidKinds := [.data], laidTests := true, laidLooks := .later }
def EphemerisMoonsUptoCardSaid : Prop := Claim7.holds Tryz.pinned (.plain (OpenSpec.upto ephemerisMoonsSpec)) ephemerisMoonsUptoCard
end Rows
end Go.Proofs.YtplngpfpcheofaaGreatDoor
