/-
  NARROWER THAN 'FOR EVERY INPUT', by the rows' own cells (each row's printed sentence says how): FindDays: laid · FindDates: laid · FindTrue: laid · FindMonths: laid · FindWithin: laid · PurnimaDays: laid · PurnimaBack: laid · PurnimaHalves: laid · PurnimaTrue: laid · PurnimaBad: laid.
  DERIVED. THE GIVEN ROWS OF THIS SEAT. 10 by the template 'for every input the law returns true; each argument reads behind the call as it read before'; 0 by the template 'total and deterministic' (their statements: YtddiipaomejcfaaGreatDoorTotals.lean).
  GIVEN WITH THE SEED: the statements are not yours to turn. If you find one false, say at which input.
  Laid BY PROGRAM, IN A SANDBOX (cutbox-rows.mjs): the forced cells as the released guide's own fill.sh prints them over the translation 96243d276a157ecf… (all of the seat's roots in one cut). By AI agents, Wed Nov 11 2026. No macro, syntax, notation, axiom, sorry.
-/
import Derived.Test.YtddiipaomejcfaaGreatDoorChecked
import GoSem.Claim
import GoSem.ClaimJoined
import GoSem.ClaimMapViews
import Derived.JoinedTies
import Derived.KernelRfl
namespace Go.Proofs.YtddiipaomejcfaaGreatDoor
/- THE CELL 'sum', in the pinned program and in every row, IS THE sha256 OF THE DUMP (.gsa) THAT YtddiipaomejcfaaGreatDoorProg.lean LOADS. Nothing in Lean hashes anything: it is a label: what it is worth is what the hold of that sum in a sandbox is worth. -/
noncomputable def Tryz.pinned : Pinned := { name := "ytddiipaomejcfaagreatdoor", sum := "96243d276a157ecf77a54f6261978f12f4f8b0b3f66b9d33b9e4f52437261fc7", checked := Tryz.checked }
namespace Rows
def none {H : Type} : Left H := { results := [], args := [] }

/- WHAT THE LISTED PACKAGE-LEVEL VARIABLES READ AS WHEN THE CALL BEGINS. Each datum BY PROGRAM (the guide's laid-datum.mjs) off the statement by which the dump's own 'gosem.cut.vars' lays the variable. In a bare row this is a premise. The card (YtddiipaomejcfaaGreatDoorCards.lean) ties it to the program's text. -/
def laid_ephemeris_dial_heights {H : Type} : DataW H := .agg [.lit (.int .i64 0), .lit (.int .i64 225), .lit (.int .i64 449), .lit (.int .i64 671), .lit (.int .i64 890), .lit (.int .i64 1105), .lit (.int .i64 1315), .lit (.int .i64 1520), .lit (.int .i64 1719), .lit (.int .i64 1910), .lit (.int .i64 2093), .lit (.int .i64 2267), .lit (.int .i64 2431), .lit (.int .i64 2585), .lit (.int .i64 2728), .lit (.int .i64 2859), .lit (.int .i64 2978), .lit (.int .i64 3084), .lit (.int .i64 3177), .lit (.int .i64 3256), .lit (.int .i64 3321), .lit (.int .i64 3372), .lit (.int .i64 3409), .lit (.int .i64 3431), .lit (.int .i64 3438)]

/-- 'ephemerislaw21.FindDays': WHATEVER THE INPUT: true; the input reads as it did. -/
def findDaysSpec : ChangeSpec := { name := "findDays", fn := fun _ => fun
  | [d1, d2] => { results := [.lit (.bool true)], args := [d1, d2] }
  | _ => none }
def findDaysRow : OpenClaim := { program := "ytddiipaomejcfaagreatdoor", sum := "96243d276a157ecf77a54f6261978f12f4f8b0b3f66b9d33b9e4f52437261fc7", func := "ephemeris/ephemerislaw21.FindDays", spec := "findDays", unfollowed := true, recurses := true, named := ["math/bits.divideError", "math/bits.overflowError", "ephemeris/dial.heights"], apart := false, laid := [("ephemeris/dial.heights", laid_ephemeris_dial_heights)] }
def FindDaysSaid : Prop := findDaysRow.holds Tryz.pinned (OpenSpec.ofChange findDaysSpec)

/-- ITS FALSE NEIGHBOUR: 'it returns false'. Refute it at one input. -/
def findDaysWrong : ChangeSpec := { name := "findDays", fn := fun _ => fun
  | [d1, d2] => { results := [.lit (.bool false)], args := [d1, d2] }
  | _ => none }
def FindDaysWrongFalsely : Prop := findDaysRow.holds Tryz.pinned (OpenSpec.ofChange findDaysWrong)

/-- 'ephemerislaw21.FindDates': WHATEVER THE INPUT: true; the input reads as it did. -/
def findDatesSpec : ChangeSpec := { name := "findDates", fn := fun _ => fun
  | [d1, d2] => { results := [.lit (.bool true)], args := [d1, d2] }
  | _ => none }
def findDatesRow : OpenClaim := { program := "ytddiipaomejcfaagreatdoor", sum := "96243d276a157ecf77a54f6261978f12f4f8b0b3f66b9d33b9e4f52437261fc7", func := "ephemeris/ephemerislaw21.FindDates", spec := "findDates", unfollowed := true, recurses := true, named := ["math/bits.divideError", "math/bits.overflowError", "ephemeris/dial.heights"], apart := false, laid := [("ephemeris/dial.heights", laid_ephemeris_dial_heights)] }
def FindDatesSaid : Prop := findDatesRow.holds Tryz.pinned (OpenSpec.ofChange findDatesSpec)

/-- ITS FALSE NEIGHBOUR: 'it returns false'. Refute it at one input. -/
def findDatesWrong : ChangeSpec := { name := "findDates", fn := fun _ => fun
  | [d1, d2] => { results := [.lit (.bool false)], args := [d1, d2] }
  | _ => none }
def FindDatesWrongFalsely : Prop := findDatesRow.holds Tryz.pinned (OpenSpec.ofChange findDatesWrong)

/-- 'ephemerislaw21.FindTrue': WHATEVER THE INPUT: true; the input reads as it did. -/
def findTrueSpec : ChangeSpec := { name := "findTrue", fn := fun _ => fun
  | [d1, d2, d3, d4] => { results := [.lit (.bool true)], args := [d1, d2, d3, d4] }
  | _ => none }
def findTrueRow : OpenClaim := { program := "ytddiipaomejcfaagreatdoor", sum := "96243d276a157ecf77a54f6261978f12f4f8b0b3f66b9d33b9e4f52437261fc7", func := "ephemeris/ephemerislaw21.FindTrue", spec := "findTrue", unfollowed := true, recurses := true, named := ["math/bits.divideError", "math/bits.overflowError", "ephemeris/dial.heights"], apart := false, laid := [("ephemeris/dial.heights", laid_ephemeris_dial_heights)] }
def FindTrueSaid : Prop := findTrueRow.holds Tryz.pinned (OpenSpec.ofChange findTrueSpec)

/-- ITS FALSE NEIGHBOUR: 'it returns false'. Refute it at one input. -/
def findTrueWrong : ChangeSpec := { name := "findTrue", fn := fun _ => fun
  | [d1, d2, d3, d4] => { results := [.lit (.bool false)], args := [d1, d2, d3, d4] }
  | _ => none }
def FindTrueWrongFalsely : Prop := findTrueRow.holds Tryz.pinned (OpenSpec.ofChange findTrueWrong)

/-- 'ephemerislaw21.FindMonths': WHATEVER THE INPUT: true; the input reads as it did. -/
def findMonthsSpec : ChangeSpec := { name := "findMonths", fn := fun _ => fun
  | [d1, d2] => { results := [.lit (.bool true)], args := [d1, d2] }
  | _ => none }
def findMonthsRow : OpenClaim := { program := "ytddiipaomejcfaagreatdoor", sum := "96243d276a157ecf77a54f6261978f12f4f8b0b3f66b9d33b9e4f52437261fc7", func := "ephemeris/ephemerislaw21.FindMonths", spec := "findMonths", unfollowed := true, recurses := true, named := ["math/bits.divideError", "math/bits.overflowError", "ephemeris/dial.heights"], apart := false, laid := [("ephemeris/dial.heights", laid_ephemeris_dial_heights)] }
def FindMonthsSaid : Prop := findMonthsRow.holds Tryz.pinned (OpenSpec.ofChange findMonthsSpec)

/-- ITS FALSE NEIGHBOUR: 'it returns false'. Refute it at one input. -/
def findMonthsWrong : ChangeSpec := { name := "findMonths", fn := fun _ => fun
  | [d1, d2] => { results := [.lit (.bool false)], args := [d1, d2] }
  | _ => none }
def FindMonthsWrongFalsely : Prop := findMonthsRow.holds Tryz.pinned (OpenSpec.ofChange findMonthsWrong)

/-- 'ephemerislaw21.FindWithin': WHATEVER THE INPUT: true; the input reads as it did. -/
def findWithinSpec : ChangeSpec := { name := "findWithin", fn := fun _ => fun
  | [d1, d2, d3, d4] => { results := [.lit (.bool true)], args := [d1, d2, d3, d4] }
  | _ => none }
def findWithinRow : OpenClaim := { program := "ytddiipaomejcfaagreatdoor", sum := "96243d276a157ecf77a54f6261978f12f4f8b0b3f66b9d33b9e4f52437261fc7", func := "ephemeris/ephemerislaw21.FindWithin", spec := "findWithin", unfollowed := true, recurses := true, named := ["math/bits.divideError", "math/bits.overflowError", "ephemeris/dial.heights"], apart := false, laid := [("ephemeris/dial.heights", laid_ephemeris_dial_heights)] }
def FindWithinSaid : Prop := findWithinRow.holds Tryz.pinned (OpenSpec.ofChange findWithinSpec)

/-- ITS FALSE NEIGHBOUR: 'it returns false'. Refute it at one input. -/
def findWithinWrong : ChangeSpec := { name := "findWithin", fn := fun _ => fun
  | [d1, d2, d3, d4] => { results := [.lit (.bool false)], args := [d1, d2, d3, d4] }
  | _ => none }
def FindWithinWrongFalsely : Prop := findWithinRow.holds Tryz.pinned (OpenSpec.ofChange findWithinWrong)

/-- 'ephemerislaw22.PurnimaDays': WHATEVER THE INPUT: true; the input reads as it did. -/
def purnimaDaysSpec : ChangeSpec := { name := "purnimaDays", fn := fun _ => fun
  | [d1, d2] => { results := [.lit (.bool true)], args := [d1, d2] }
  | _ => none }
def purnimaDaysRow : OpenClaim := { program := "ytddiipaomejcfaagreatdoor", sum := "96243d276a157ecf77a54f6261978f12f4f8b0b3f66b9d33b9e4f52437261fc7", func := "ephemeris/ephemerislaw22.PurnimaDays", spec := "purnimaDays", unfollowed := true, recurses := true, named := ["math/bits.divideError", "math/bits.overflowError", "ephemeris/dial.heights"], apart := false, laid := [("ephemeris/dial.heights", laid_ephemeris_dial_heights)] }
def PurnimaDaysSaid : Prop := purnimaDaysRow.holds Tryz.pinned (OpenSpec.ofChange purnimaDaysSpec)

/-- ITS FALSE NEIGHBOUR: 'it returns false'. Refute it at one input. -/
def purnimaDaysWrong : ChangeSpec := { name := "purnimaDays", fn := fun _ => fun
  | [d1, d2] => { results := [.lit (.bool false)], args := [d1, d2] }
  | _ => none }
def PurnimaDaysWrongFalsely : Prop := purnimaDaysRow.holds Tryz.pinned (OpenSpec.ofChange purnimaDaysWrong)

/-- 'ephemerislaw22.PurnimaBack': WHATEVER THE INPUT: true; the input reads as it did. -/
def purnimaBackSpec : ChangeSpec := { name := "purnimaBack", fn := fun _ => fun
  | [d1, d2] => { results := [.lit (.bool true)], args := [d1, d2] }
  | _ => none }
def purnimaBackRow : OpenClaim := { program := "ytddiipaomejcfaagreatdoor", sum := "96243d276a157ecf77a54f6261978f12f4f8b0b3f66b9d33b9e4f52437261fc7", func := "ephemeris/ephemerislaw22.PurnimaBack", spec := "purnimaBack", unfollowed := true, recurses := true, named := ["math/bits.divideError", "math/bits.overflowError", "ephemeris/dial.heights"], apart := false, laid := [("ephemeris/dial.heights", laid_ephemeris_dial_heights)] }
def PurnimaBackSaid : Prop := purnimaBackRow.holds Tryz.pinned (OpenSpec.ofChange purnimaBackSpec)

/-- ITS FALSE NEIGHBOUR: 'it returns false'. Refute it at one input. -/
def purnimaBackWrong : ChangeSpec := { name := "purnimaBack", fn := fun _ => fun
  | [d1, d2] => { results := [.lit (.bool false)], args := [d1, d2] }
  | _ => none }
def PurnimaBackWrongFalsely : Prop := purnimaBackRow.holds Tryz.pinned (OpenSpec.ofChange purnimaBackWrong)

/-- 'ephemerislaw22.PurnimaHalves': WHATEVER THE INPUT: true; the input reads as it did. -/
def purnimaHalvesSpec : ChangeSpec := { name := "purnimaHalves", fn := fun _ => fun
  | [d1, d2] => { results := [.lit (.bool true)], args := [d1, d2] }
  | _ => none }
def purnimaHalvesRow : OpenClaim := { program := "ytddiipaomejcfaagreatdoor", sum := "96243d276a157ecf77a54f6261978f12f4f8b0b3f66b9d33b9e4f52437261fc7", func := "ephemeris/ephemerislaw22.PurnimaHalves", spec := "purnimaHalves", unfollowed := true, recurses := true, named := ["math/bits.divideError", "math/bits.overflowError", "ephemeris/dial.heights"], apart := false, laid := [("ephemeris/dial.heights", laid_ephemeris_dial_heights)] }
def PurnimaHalvesSaid : Prop := purnimaHalvesRow.holds Tryz.pinned (OpenSpec.ofChange purnimaHalvesSpec)

/-- ITS FALSE NEIGHBOUR: 'it returns false'. Refute it at one input. -/
def purnimaHalvesWrong : ChangeSpec := { name := "purnimaHalves", fn := fun _ => fun
  | [d1, d2] => { results := [.lit (.bool false)], args := [d1, d2] }
  | _ => none }
def PurnimaHalvesWrongFalsely : Prop := purnimaHalvesRow.holds Tryz.pinned (OpenSpec.ofChange purnimaHalvesWrong)

/-- 'ephemerislaw22.PurnimaTrue': WHATEVER THE INPUT: true; the input reads as it did. -/
def purnimaTrueSpec : ChangeSpec := { name := "purnimaTrue", fn := fun _ => fun
  | [d1, d2, d3, d4] => { results := [.lit (.bool true)], args := [d1, d2, d3, d4] }
  | _ => none }
def purnimaTrueRow : OpenClaim := { program := "ytddiipaomejcfaagreatdoor", sum := "96243d276a157ecf77a54f6261978f12f4f8b0b3f66b9d33b9e4f52437261fc7", func := "ephemeris/ephemerislaw22.PurnimaTrue", spec := "purnimaTrue", unfollowed := true, recurses := true, named := ["math/bits.divideError", "math/bits.overflowError", "ephemeris/dial.heights"], apart := false, laid := [("ephemeris/dial.heights", laid_ephemeris_dial_heights)] }
def PurnimaTrueSaid : Prop := purnimaTrueRow.holds Tryz.pinned (OpenSpec.ofChange purnimaTrueSpec)

/-- ITS FALSE NEIGHBOUR: 'it returns false'. Refute it at one input. -/
def purnimaTrueWrong : ChangeSpec := { name := "purnimaTrue", fn := fun _ => fun
  | [d1, d2, d3, d4] => { results := [.lit (.bool false)], args := [d1, d2, d3, d4] }
  | _ => none }
def PurnimaTrueWrongFalsely : Prop := purnimaTrueRow.holds Tryz.pinned (OpenSpec.ofChange purnimaTrueWrong)

/-- 'ephemerislaw22.PurnimaBad': WHATEVER THE INPUT: true; the input reads as it did. -/
def purnimaBadSpec : ChangeSpec := { name := "purnimaBad", fn := fun _ => fun
  | [d1, d2] => { results := [.lit (.bool true)], args := [d1, d2] }
  | _ => none }
def purnimaBadRow : OpenClaim := { program := "ytddiipaomejcfaagreatdoor", sum := "96243d276a157ecf77a54f6261978f12f4f8b0b3f66b9d33b9e4f52437261fc7", func := "ephemeris/ephemerislaw22.PurnimaBad", spec := "purnimaBad", unfollowed := true, recurses := true, named := ["math/bits.divideError", "math/bits.overflowError", "ephemeris/dial.heights"], apart := false, laid := [("ephemeris/dial.heights", laid_ephemeris_dial_heights)] }
def PurnimaBadSaid : Prop := purnimaBadRow.holds Tryz.pinned (OpenSpec.ofChange purnimaBadSpec)

/-- ITS FALSE NEIGHBOUR: 'it returns false'. Refute it at one input. -/
def purnimaBadWrong : ChangeSpec := { name := "purnimaBad", fn := fun _ => fun
  | [d1, d2] => { results := [.lit (.bool false)], args := [d1, d2] }
  | _ => none }
def PurnimaBadWrongFalsely : Prop := purnimaBadRow.holds Tryz.pinned (OpenSpec.ofChange purnimaBadWrong)

/- THE SECOND FORM. 'bulk': how many values and letters a reading holds, each counted each time it is reached (what is shared counts as often as it is met; a slice's spare places count too). A statement '..UptoSaid' is the law's where the arguments, and the package variables that the reading takes, are together of bulk at most 1048576: NARROWER than '..Said'. Prove '..Said' where nothing that the law and all that it calls make is longer than what came in: it says more and counts as full. Else prove '..UptoSaid'. A law counts once. -/
mutual
def uptoBulk {H : Type} : DataW H → Nat
  | .lit (.string bytes) => bytes.length + 1
  | .lit _ => 1
  | .nil => 1
  | .ptr d => uptoBulk d + 1
  | .slice elems spare => uptoBulkAll elems + uptoBulkAll spare + 1
  | .agg parts => uptoBulkAll parts + 1
  | .iface _ d => uptoBulk d + 1
  | .map entries => uptoBulkEntries entries + 1
  | .held _ => 1
def uptoBulkAll {H : Type} : List (DataW H) → Nat
  | [] => 0
  | d :: r => uptoBulk d + uptoBulkAll r
def uptoBulkEntries {H : Type} : List (Lit × DataW H) → Nat
  | [] => 0
  | x :: r => uptoBulkEntry x + uptoBulkEntries r
def uptoBulkEntry {H : Type} : Lit × DataW H → Nat
  | (.string bytes, d) => bytes.length + uptoBulk d + 1
  | (_, d) => uptoBulk d + 1
 end
def uptoSmall : (H : Type) → List (DataW H) → Bool := fun _ ds => decide (uptoBulkAll ds ≤ 1048576)
def OpenSpec.upto (s : _root_.Go.ChangeSpec) : _root_.Go.OpenSpec := { _root_.Go.OpenSpec.ofChange s with cond := some uptoSmall }

/-- 'ephemerislaw21.FindDays', WHERE WHAT IT READS IS OF BULK AT MOST 1048576: true; the input reads as it did. -/
def findDaysUptoRow : OpenClaim := { program := "ytddiipaomejcfaagreatdoor", sum := "96243d276a157ecf77a54f6261978f12f4f8b0b3f66b9d33b9e4f52437261fc7", func := "ephemeris/ephemerislaw21.FindDays", spec := "findDays", unfollowed := true, recurses := true, named := ["math/bits.divideError", "math/bits.overflowError", "ephemeris/dial.heights"], apart := false, laid := [("ephemeris/dial.heights", laid_ephemeris_dial_heights)], narrowed := true }
def FindDaysUptoSaid : Prop := findDaysUptoRow.holds Tryz.pinned (OpenSpec.upto findDaysSpec)

/-- 'ephemerislaw21.FindDates', WHERE WHAT IT READS IS OF BULK AT MOST 1048576: true; the input reads as it did. -/
def findDatesUptoRow : OpenClaim := { program := "ytddiipaomejcfaagreatdoor", sum := "96243d276a157ecf77a54f6261978f12f4f8b0b3f66b9d33b9e4f52437261fc7", func := "ephemeris/ephemerislaw21.FindDates", spec := "findDates", unfollowed := true, recurses := true, named := ["math/bits.divideError", "math/bits.overflowError", "ephemeris/dial.heights"], apart := false, laid := [("ephemeris/dial.heights", laid_ephemeris_dial_heights)], narrowed := true }
def FindDatesUptoSaid : Prop := findDatesUptoRow.holds Tryz.pinned (OpenSpec.upto findDatesSpec)

/-- 'ephemerislaw21.FindTrue', WHERE WHAT IT READS IS OF BULK AT MOST 1048576: true; the input reads as it did. -/
def findTrueUptoRow : OpenClaim := { program := "ytddiipaomejcfaagreatdoor", sum := "96243d276a157ecf77a54f6261978f12f4f8b0b3f66b9d33b9e4f52437261fc7", func := "ephemeris/ephemerislaw21.FindTrue", spec := "findTrue", unfollowed := true, recurses := true, named := ["math/bits.divideError", "math/bits.overflowError", "ephemeris/dial.heights"], apart := false, laid := [("ephemeris/dial.heights", laid_ephemeris_dial_heights)], narrowed := true }
def FindTrueUptoSaid : Prop := findTrueUptoRow.holds Tryz.pinned (OpenSpec.upto findTrueSpec)

/-- 'ephemerislaw21.FindMonths', WHERE WHAT IT READS IS OF BULK AT MOST 1048576: true; the input reads as it did. -/
def findMonthsUptoRow : OpenClaim := { program := "ytddiipaomejcfaagreatdoor", sum := "96243d276a157ecf77a54f6261978f12f4f8b0b3f66b9d33b9e4f52437261fc7", func := "ephemeris/ephemerislaw21.FindMonths", spec := "findMonths", unfollowed := true, recurses := true, named := ["math/bits.divideError", "math/bits.overflowError", "ephemeris/dial.heights"], apart := false, laid := [("ephemeris/dial.heights", laid_ephemeris_dial_heights)], narrowed := true }
def FindMonthsUptoSaid : Prop := findMonthsUptoRow.holds Tryz.pinned (OpenSpec.upto findMonthsSpec)

/-- 'ephemerislaw21.FindWithin', WHERE WHAT IT READS IS OF BULK AT MOST 1048576: true; the input reads as it did. -/
def findWithinUptoRow : OpenClaim := { program := "ytddiipaomejcfaagreatdoor", sum := "96243d276a157ecf77a54f6261978f12f4f8b0b3f66b9d33b9e4f52437261fc7", func := "ephemeris/ephemerislaw21.FindWithin", spec := "findWithin", unfollowed := true, recurses := true, named := ["math/bits.divideError", "math/bits.overflowError", "ephemeris/dial.heights"], apart := false, laid := [("ephemeris/dial.heights", laid_ephemeris_dial_heights)], narrowed := true }
def FindWithinUptoSaid : Prop := findWithinUptoRow.holds Tryz.pinned (OpenSpec.upto findWithinSpec)

/-- 'ephemerislaw22.PurnimaDays', WHERE WHAT IT READS IS OF BULK AT MOST 1048576: true; the input reads as it did. -/
def purnimaDaysUptoRow : OpenClaim := { program := "ytddiipaomejcfaagreatdoor", sum := "96243d276a157ecf77a54f6261978f12f4f8b0b3f66b9d33b9e4f52437261fc7", func := "ephemeris/ephemerislaw22.PurnimaDays", spec := "purnimaDays", unfollowed := true, recurses := true, named := ["math/bits.divideError", "math/bits.overflowError", "ephemeris/dial.heights"], apart := false, laid := [("ephemeris/dial.heights", laid_ephemeris_dial_heights)], narrowed := true }
def PurnimaDaysUptoSaid : Prop := purnimaDaysUptoRow.holds Tryz.pinned (OpenSpec.upto purnimaDaysSpec)

/-- 'ephemerislaw22.PurnimaBack', WHERE WHAT IT READS IS OF BULK AT MOST 1048576: true; the input reads as it did. -/
def purnimaBackUptoRow : OpenClaim := { program := "ytddiipaomejcfaagreatdoor", sum := "96243d276a157ecf77a54f6261978f12f4f8b0b3f66b9d33b9e4f52437261fc7", func := "ephemeris/ephemerislaw22.PurnimaBack", spec := "purnimaBack", unfollowed := true, recurses := true, named := ["math/bits.divideError", "math/bits.overflowError", "ephemeris/dial.heights"], apart := false, laid := [("ephemeris/dial.heights", laid_ephemeris_dial_heights)], narrowed := true }
def PurnimaBackUptoSaid : Prop := purnimaBackUptoRow.holds Tryz.pinned (OpenSpec.upto purnimaBackSpec)

/-- 'ephemerislaw22.PurnimaHalves', WHERE WHAT IT READS IS OF BULK AT MOST 1048576: true; the input reads as it did. -/
def purnimaHalvesUptoRow : OpenClaim := { program := "ytddiipaomejcfaagreatdoor", sum := "96243d276a157ecf77a54f6261978f12f4f8b0b3f66b9d33b9e4f52437261fc7", func := "ephemeris/ephemerislaw22.PurnimaHalves", spec := "purnimaHalves", unfollowed := true, recurses := true, named := ["math/bits.divideError", "math/bits.overflowError", "ephemeris/dial.heights"], apart := false, laid := [("ephemeris/dial.heights", laid_ephemeris_dial_heights)], narrowed := true }
def PurnimaHalvesUptoSaid : Prop := purnimaHalvesUptoRow.holds Tryz.pinned (OpenSpec.upto purnimaHalvesSpec)

/-- 'ephemerislaw22.PurnimaTrue', WHERE WHAT IT READS IS OF BULK AT MOST 1048576: true; the input reads as it did. -/
def purnimaTrueUptoRow : OpenClaim := { program := "ytddiipaomejcfaagreatdoor", sum := "96243d276a157ecf77a54f6261978f12f4f8b0b3f66b9d33b9e4f52437261fc7", func := "ephemeris/ephemerislaw22.PurnimaTrue", spec := "purnimaTrue", unfollowed := true, recurses := true, named := ["math/bits.divideError", "math/bits.overflowError", "ephemeris/dial.heights"], apart := false, laid := [("ephemeris/dial.heights", laid_ephemeris_dial_heights)], narrowed := true }
def PurnimaTrueUptoSaid : Prop := purnimaTrueUptoRow.holds Tryz.pinned (OpenSpec.upto purnimaTrueSpec)

/-- 'ephemerislaw22.PurnimaBad', WHERE WHAT IT READS IS OF BULK AT MOST 1048576: true; the input reads as it did. -/
def purnimaBadUptoRow : OpenClaim := { program := "ytddiipaomejcfaagreatdoor", sum := "96243d276a157ecf77a54f6261978f12f4f8b0b3f66b9d33b9e4f52437261fc7", func := "ephemeris/ephemerislaw22.PurnimaBad", spec := "purnimaBad", unfollowed := true, recurses := true, named := ["math/bits.divideError", "math/bits.overflowError", "ephemeris/dial.heights"], apart := false, laid := [("ephemeris/dial.heights", laid_ephemeris_dial_heights)], narrowed := true }
def PurnimaBadUptoSaid : Prop := purnimaBadUptoRow.holds Tryz.pinned (OpenSpec.upto purnimaBadSpec)

end Rows
end Go.Proofs.YtddiipaomejcfaaGreatDoor
