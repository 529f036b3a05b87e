/-
  DERIVED. GIVEN WITH THE SEED: THE CARDS: each row of YtdkmjclbhfnegaaDoorRows.lean that lists a variable, with what it lists TIED to the program's text (the seventh form; the later family's looks); each row that meets fmt, with fmt's text TOLD by the authors' own Lean function (tested against real Go, not proved from fmt's source: count such statements apart). THE CARD IS WHAT COUNTS. Prove the row's statement (the work); the ties are given (YtdkmjclbhfnegaaDoorTie.lean); close each card by the builder's one call (the guide's Derived/Test/ToyasCard.lean, 'card_holds'). Laid BY PROGRAM, IN A SANDBOX (cutbox-door.mjs). By AI agents, Wed Nov 11 2026. No macro, syntax, notation, axiom, sorry.
-/
import Derived.Test.YtdkmjclbhfnegaaDoorRows
import GoSem.ClaimSeven
namespace Go.Proofs.YtdkmjclbhfnegaaDoor
namespace Rows

/-- THE TIED CARD OF 'ephemerislaw27.WordsNames'. -/
def wordsNamesCard : Claim7 := { stood := { row := wordsNamesRow, standIns := [], harness := (true, "81b038761d22a4eebad912a9bd7755a28b5d5bdc85c1aeea263607cef5c60b04"), looks := false }, kinds := [], alts := [], laidByText := true, laidKinds := [.listed, .data], laidTests := true, laidLooks := .later }
def WordsNamesCardSaid : Prop := Claim7.holds Tryd.pinned (.plain (OpenSpec.ofChange wordsNamesSpec)) wordsNamesCard

/-- THE TIED CARD OF 'ephemerislaw27.WordsFinds'. -/
def wordsFindsCard : Claim7 := { stood := { row := wordsFindsRow, standIns := [], harness := (true, "81b038761d22a4eebad912a9bd7755a28b5d5bdc85c1aeea263607cef5c60b04"), looks := false }, kinds := [], alts := [], laidByText := true, laidKinds := [.listed, .data], laidTests := true, laidLooks := .later }
def WordsFindsCardSaid : Prop := Claim7.holds Tryd.pinned (.plain (OpenSpec.ofChange wordsFindsSpec)) wordsFindsCard

/-- THE TIED CARD OF 'ephemerislaw27.WordsBack'. -/
def wordsBackCard : Claim7 := { stood := { row := wordsBackRow, standIns := [], harness := (true, "81b038761d22a4eebad912a9bd7755a28b5d5bdc85c1aeea263607cef5c60b04"), looks := false }, kinds := [], alts := [], laidByText := true, laidKinds := [.listed, .data], laidTests := true, laidLooks := .later }
def WordsBackCardSaid : Prop := Claim7.holds Tryd.pinned (.plain (OpenSpec.ofChange wordsBackSpec)) wordsBackCard

/-- THE SECOND FORM's CARD OF 'ephemerislaw27.WordsNames'. -/
def wordsNamesUptoCard : Claim7 := { stood := { row := wordsNamesUptoRow, standIns := [], harness := (true, "81b038761d22a4eebad912a9bd7755a28b5d5bdc85c1aeea263607cef5c60b04"), looks := false }, kinds := [], alts := [], laidByText := true, laidKinds := [.listed, .data], laidTests := true, laidLooks := .later }
def WordsNamesUptoCardSaid : Prop := Claim7.holds Tryd.pinned (.plain (OpenSpec.upto wordsNamesSpec)) wordsNamesUptoCard

/-- THE SECOND FORM's CARD OF 'ephemerislaw27.WordsFinds'. -/
def wordsFindsUptoCard : Claim7 := { stood := { row := wordsFindsUptoRow, standIns := [], harness := (true, "81b038761d22a4eebad912a9bd7755a28b5d5bdc85c1aeea263607cef5c60b04"), looks := false }, kinds := [], alts := [], laidByText := true, laidKinds := [.listed, .data], laidTests := true, laidLooks := .later }
def WordsFindsUptoCardSaid : Prop := Claim7.holds Tryd.pinned (.plain (OpenSpec.upto wordsFindsSpec)) wordsFindsUptoCard

/-- THE SECOND FORM's CARD OF 'ephemerislaw27.WordsBack'. -/
def wordsBackUptoCard : Claim7 := { stood := { row := wordsBackUptoRow, standIns := [], harness := (true, "81b038761d22a4eebad912a9bd7755a28b5d5bdc85c1aeea263607cef5c60b04"), looks := false }, kinds := [], alts := [], laidByText := true, laidKinds := [.listed, .data], laidTests := true, laidLooks := .later }
def WordsBackUptoCardSaid : Prop := Claim7.holds Tryd.pinned (.plain (OpenSpec.upto wordsBackSpec)) wordsBackUptoCard
end Rows
end Go.Proofs.YtdkmjclbhfnegaaDoor
