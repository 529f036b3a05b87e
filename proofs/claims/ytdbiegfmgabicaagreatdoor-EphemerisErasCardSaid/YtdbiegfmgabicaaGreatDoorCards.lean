/-
  DERIVED. GIVEN WITH THE SEED: THE CARDS: each row of YtdbiegfmgabicaaGreatDoorRows.lean that lists a variable, with what it lists TIED to the program's text (the seventh form; the later family's looks); each row that meets fmt, with fmt's text TOLD by the authors' own Lean function (tested against real Go, not proved from fmt's source: count such statements apart). THE CARD IS WHAT COUNTS. Prove the row's statement (the work); the ties are given (YtdbiegfmgabicaaGreatDoorTie.lean); close each card by the builder's one call (the guide's Derived/Test/ToyasCard.lean, 'card_holds'). Laid BY PROGRAM, IN A SANDBOX (cutbox-door.mjs). By AI agents, Wed Nov 11 2026. No macro, syntax, notation, axiom, sorry.
-/
import Derived.Test.YtdbiegfmgabicaaGreatDoorRows
import GoSem.ClaimSeven
namespace Go.Proofs.YtdbiegfmgabicaaGreatDoor
namespace Rows

/-- THE TIED CARD OF 'ephemerislaw20.AmantaDays'. -/
def amantaDaysCard : Claim7 := { stood := { row := amantaDaysRow, standIns := [], harness := (true, "a763a1409b365c71ad7e200f1dd2eec6f40abc3da9f618cc9ce37827de347739"), looks := false }, kinds := [], alts := [], laidByText := true, laidKinds := [.data], laidTests := true, laidLooks := .later }
def AmantaDaysCardSaid : Prop := Claim7.holds Tryz.pinned (.plain (OpenSpec.ofChange amantaDaysSpec)) amantaDaysCard

/-- THE TIED CARD OF 'ephemerislaw20.AmantaSteps'. -/
def amantaStepsCard : Claim7 := { stood := { row := amantaStepsRow, standIns := [], harness := (true, "a763a1409b365c71ad7e200f1dd2eec6f40abc3da9f618cc9ce37827de347739"), looks := false }, kinds := [], alts := [], laidByText := true, laidKinds := [.data], laidTests := true, laidLooks := .later }
def AmantaStepsCardSaid : Prop := Claim7.holds Tryz.pinned (.plain (OpenSpec.ofChange amantaStepsSpec)) amantaStepsCard

/-- THE TIED CARD OF 'ephemerislaw20.AmantaMonths'. -/
def amantaMonthsCard : Claim7 := { stood := { row := amantaMonthsRow, standIns := [], harness := (true, "a763a1409b365c71ad7e200f1dd2eec6f40abc3da9f618cc9ce37827de347739"), looks := false }, kinds := [], alts := [], laidByText := true, laidKinds := [.data], laidTests := true, laidLooks := .later }
def AmantaMonthsCardSaid : Prop := Claim7.holds Tryz.pinned (.plain (OpenSpec.ofChange amantaMonthsSpec)) amantaMonthsCard

/-- THE TIED CARD OF 'ephemerislaw20.AmantaBad'. -/
def amantaBadCard : Claim7 := { stood := { row := amantaBadRow, standIns := [], harness := (true, "a763a1409b365c71ad7e200f1dd2eec6f40abc3da9f618cc9ce37827de347739"), looks := false }, kinds := [], alts := [], laidByText := true, laidKinds := [.data], laidTests := true, laidLooks := .later }
def AmantaBadCardSaid : Prop := Claim7.holds Tryz.pinned (.plain (OpenSpec.ofChange amantaBadSpec)) amantaBadCard

/-- THE TIED CARD OF 'ephemeristop.EphemerisEast'. -/
def ephemerisEastCard : Claim7 := { stood := { row := ephemerisEastRow, standIns := [], harness := (true, "a763a1409b365c71ad7e200f1dd2eec6f40abc3da9f618cc9ce37827de347739"), looks := false }, kinds := [], alts := [], laidByText := true, laidKinds := [.data], laidTests := true, laidLooks := .later }
def EphemerisEastCardSaid : Prop := Claim7.holds Tryz.pinned (.plain (OpenSpec.ofChange ephemerisEastSpec)) ephemerisEastCard

/-- THE TIED CARD OF 'ephemeristop.EphemerisEras'. -/
def ephemerisErasCard : Claim7 := { stood := { row := ephemerisErasRow, standIns := [], harness := (true, "a763a1409b365c71ad7e200f1dd2eec6f40abc3da9f618cc9ce37827de347739"), looks := false }, kinds := [], alts := [], laidByText := true, laidKinds := [.data], laidTests := true, laidLooks := .later }
def EphemerisErasCardSaid : Prop := Claim7.holds Tryz.pinned (.plain (OpenSpec.ofChange ephemerisErasSpec)) ephemerisErasCard

/-- THE SECOND FORM's CARD OF 'ephemerislaw20.AmantaDays'. -/
def amantaDaysUptoCard : Claim7 := { stood := { row := amantaDaysUptoRow, standIns := [], harness := (true, "a763a1409b365c71ad7e200f1dd2eec6f40abc3da9f618cc9ce37827de347739"), looks := false }, kinds := [], alts := [], laidByText := true, laidKinds := [.data], laidTests := true, laidLooks := .later }
def AmantaDaysUptoCardSaid : Prop := Claim7.holds Tryz.pinned (.plain (OpenSpec.upto amantaDaysSpec)) amantaDaysUptoCard

/-- THE SECOND FORM's CARD OF 'ephemerislaw20.AmantaSteps'. -/
def amantaStepsUptoCard : Claim7 := { stood := { row := amantaStepsUptoRow, standIns := [], harness := (true, "a763a1409b365c71ad7e200f1dd2eec6f40abc3da9f618cc9ce37827de347739"), looks := false }, kinds := [], alts := [], laidByText := true, laidKinds := [.data], laidTests := true, laidLooks := .later }
def AmantaStepsUptoCardSaid : Prop := Claim7.holds Tryz.pinned (.plain (OpenSpec.upto amantaStepsSpec)) amantaStepsUptoCard

/-- THE SECOND FORM's CARD OF 'ephemerislaw20.AmantaMonths'. -/
def amantaMonthsUptoCard : Claim7 := { stood := { row := amantaMonthsUptoRow, standIns := [], harness := (true, "a763a1409b365c71ad7e200f1dd2eec6f40abc3da9f618cc9ce37827de347739"), looks := false }, kinds := [], alts := [], laidByText := true, laidKinds := [.data], laidTests := true, laidLooks := .later }
def AmantaMonthsUptoCardSaid : Prop := Claim7.holds Tryz.pinned (.plain (OpenSpec.upto amantaMonthsSpec)) amantaMonthsUptoCard

/-- THE SECOND FORM's CARD OF 'ephemerislaw20.AmantaBad'. -/
def amantaBadUptoCard : Claim7 := { stood := { row := amantaBadUptoRow, standIns := [], harness := (true, "a763a1409b365c71ad7e200f1dd2eec6f40abc3da9f618cc9ce37827de347739"), looks := false }, kinds := [], alts := [], laidByText := true, laidKinds := [.data], laidTests := true, laidLooks := .later }
def AmantaBadUptoCardSaid : Prop := Claim7.holds Tryz.pinned (.plain (OpenSpec.upto amantaBadSpec)) amantaBadUptoCard

/-- THE SECOND FORM's CARD OF 'ephemeristop.EphemerisEast'. -/
def ephemerisEastUptoCard : Claim7 := { stood := { row := ephemerisEastUptoRow, standIns := [], harness := (true, "a763a1409b365c71ad7e200f1dd2eec6f40abc3da9f618cc9ce37827de347739"), looks := false }, kinds := [], alts := [], laidByText := true, laidKinds := [.data], laidTests := true, laidLooks := .later }
def EphemerisEastUptoCardSaid : Prop := Claim7.holds Tryz.pinned (.plain (OpenSpec.upto ephemerisEastSpec)) ephemerisEastUptoCard

/-- THE SECOND FORM's CARD OF 'ephemeristop.EphemerisEras'. -/
def ephemerisErasUptoCard : Claim7 := { stood := { row := ephemerisErasUptoRow, standIns := [], harness := (true, "a763a1409b365c71ad7e200f1dd2eec6f40abc3da9f618cc9ce37827de347739"), looks := false }, kinds := [], alts := [], laidByText := true, laidKinds := [.data], laidTests := true, laidLooks := .later }
def EphemerisErasUptoCardSaid : Prop := Claim7.holds Tryz.pinned (.plain (OpenSpec.upto ephemerisErasSpec)) ephemerisErasUptoCard
end Rows
end Go.Proofs.YtdbiegfmgabicaaGreatDoor
