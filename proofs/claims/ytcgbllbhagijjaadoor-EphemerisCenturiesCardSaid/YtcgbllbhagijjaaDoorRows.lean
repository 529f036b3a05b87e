/-
  NARROWER THAN 'FOR EVERY INPUT', by the rows' own cells (each row's printed sentence says how): CivilDays: laid · CivilDates: laid · CivilSteps: laid · CivilFour: laid · CivilWeeks: laid · JulianDays: laid · JulianDates: laid · JulianSteps: laid · JulianFour: laid · JulianApart: laid · EphemerisCenturies: laid.
  DERIVED. THE GIVEN ROWS OF THIS SEAT. 11 by the template 'for every input the law returns true; each argument reads behind the call as it read before'; 0 by the template 'total and deterministic' (their statements: YtcgbllbhagijjaaDoorTotals.lean).
  GIVEN WITH THE SEED: the statements are not yours to turn. If you find one false, say at which input.
  Laid BY PROGRAM, IN A SANDBOX (cutbox-rows.mjs): the forced cells as the released guide's own fill.sh prints them over the translation b8d25099bfecd335… (all of the seat's roots in one cut). By AI agents, Wed Nov 11 2026. No macro, syntax, notation, axiom, sorry.
-/
import Derived.Test.YtcgbllbhagijjaaDoorChecked
import GoSem.Claim
import GoSem.ClaimJoined
import GoSem.ClaimMapViews
import Derived.JoinedTies
import Derived.KernelRfl
namespace Go.Proofs.YtcgbllbhagijjaaDoor
/- THE CELL 'sum', in the pinned program and in every row, IS THE sha256 OF THE DUMP (.gsa) THAT YtcgbllbhagijjaaDoorProg.lean LOADS. Nothing in Lean hashes anything: it is a label: what it is worth is what the hold of that sum in a sandbox is worth. -/
noncomputable def Tryd.pinned : Pinned := { name := "ytcgbllbhagijjaadoor", sum := "b8d25099bfecd3356791217edc8ea48d159666d1dceafb0cf57df8ec9e8c2ca8", checked := Tryd.checked }
namespace Rows
def none {H : Type} : Left H := { results := [], args := [] }

/- WHAT THE LISTED PACKAGE-LEVEL VARIABLES READ AS WHEN THE CALL BEGINS. Each datum BY PROGRAM (the guide's laid-datum.mjs) off the statement by which the dump's own 'gosem.cut.vars' lays the variable. In a bare row this is a premise. The card (YtcgbllbhagijjaaDoorCards.lean) ties it to the program's text. -/
def laid_ephemeris_civil_lengths {H : Type} : DataW H := .agg [.lit (.int .i64 31), .lit (.int .i64 28), .lit (.int .i64 31), .lit (.int .i64 30), .lit (.int .i64 31), .lit (.int .i64 30), .lit (.int .i64 31), .lit (.int .i64 31), .lit (.int .i64 30), .lit (.int .i64 31), .lit (.int .i64 30), .lit (.int .i64 31)]
def laid_ephemeris_julian_lengths {H : Type} : DataW H := .agg [.lit (.int .i64 31), .lit (.int .i64 28), .lit (.int .i64 31), .lit (.int .i64 30), .lit (.int .i64 31), .lit (.int .i64 30), .lit (.int .i64 31), .lit (.int .i64 31), .lit (.int .i64 30), .lit (.int .i64 31), .lit (.int .i64 30), .lit (.int .i64 31)]

/-- 'ephemerislaw07.CivilDays': WHATEVER THE INPUT: true; the input reads as it did. -/
def civilDaysSpec : ChangeSpec := { name := "civilDays", fn := fun _ => fun
  | [d] => { results := [.lit (.bool true)], args := [d] }
  | _ => none }
def civilDaysRow : OpenClaim := { program := "ytcgbllbhagijjaadoor", sum := "b8d25099bfecd3356791217edc8ea48d159666d1dceafb0cf57df8ec9e8c2ca8", func := "ephemeris/ephemerislaw07.CivilDays", spec := "civilDays", named := ["ephemeris/civil.lengths"], apart := false, laid := [("ephemeris/civil.lengths", laid_ephemeris_civil_lengths)] }
def CivilDaysSaid : Prop := civilDaysRow.holds Tryd.pinned (OpenSpec.ofChange civilDaysSpec)

/-- ITS FALSE NEIGHBOUR: 'it returns false'. Refute it at one input. -/
def civilDaysWrong : ChangeSpec := { name := "civilDays", fn := fun _ => fun
  | [d] => { results := [.lit (.bool false)], args := [d] }
  | _ => none }
def CivilDaysWrongFalsely : Prop := civilDaysRow.holds Tryd.pinned (OpenSpec.ofChange civilDaysWrong)

/-- 'ephemerislaw07.CivilDates': WHATEVER THE INPUT: true; the input reads as it did. -/
def civilDatesSpec : ChangeSpec := { name := "civilDates", fn := fun _ => fun
  | [d1, d2, d3] => { results := [.lit (.bool true)], args := [d1, d2, d3] }
  | _ => none }
def civilDatesRow : OpenClaim := { program := "ytcgbllbhagijjaadoor", sum := "b8d25099bfecd3356791217edc8ea48d159666d1dceafb0cf57df8ec9e8c2ca8", func := "ephemeris/ephemerislaw07.CivilDates", spec := "civilDates", named := ["ephemeris/civil.lengths"], apart := false, laid := [("ephemeris/civil.lengths", laid_ephemeris_civil_lengths)] }
def CivilDatesSaid : Prop := civilDatesRow.holds Tryd.pinned (OpenSpec.ofChange civilDatesSpec)

/-- ITS FALSE NEIGHBOUR: 'it returns false'. Refute it at one input. -/
def civilDatesWrong : ChangeSpec := { name := "civilDates", fn := fun _ => fun
  | [d1, d2, d3] => { results := [.lit (.bool false)], args := [d1, d2, d3] }
  | _ => none }
def CivilDatesWrongFalsely : Prop := civilDatesRow.holds Tryd.pinned (OpenSpec.ofChange civilDatesWrong)

/-- 'ephemerislaw07.CivilSteps': WHATEVER THE INPUT: true; the input reads as it did. -/
def civilStepsSpec : ChangeSpec := { name := "civilSteps", fn := fun _ => fun
  | [d] => { results := [.lit (.bool true)], args := [d] }
  | _ => none }
def civilStepsRow : OpenClaim := { program := "ytcgbllbhagijjaadoor", sum := "b8d25099bfecd3356791217edc8ea48d159666d1dceafb0cf57df8ec9e8c2ca8", func := "ephemeris/ephemerislaw07.CivilSteps", spec := "civilSteps", named := ["ephemeris/civil.lengths"], apart := false, laid := [("ephemeris/civil.lengths", laid_ephemeris_civil_lengths)] }
def CivilStepsSaid : Prop := civilStepsRow.holds Tryd.pinned (OpenSpec.ofChange civilStepsSpec)

/-- ITS FALSE NEIGHBOUR: 'it returns false'. Refute it at one input. -/
def civilStepsWrong : ChangeSpec := { name := "civilSteps", fn := fun _ => fun
  | [d] => { results := [.lit (.bool false)], args := [d] }
  | _ => none }
def CivilStepsWrongFalsely : Prop := civilStepsRow.holds Tryd.pinned (OpenSpec.ofChange civilStepsWrong)

/-- 'ephemerislaw07.CivilFour': WHATEVER THE INPUT: true; the input reads as it did. -/
def civilFourSpec : ChangeSpec := { name := "civilFour", fn := fun _ => fun
  | [d] => { results := [.lit (.bool true)], args := [d] }
  | _ => none }
def civilFourRow : OpenClaim := { program := "ytcgbllbhagijjaadoor", sum := "b8d25099bfecd3356791217edc8ea48d159666d1dceafb0cf57df8ec9e8c2ca8", func := "ephemeris/ephemerislaw07.CivilFour", spec := "civilFour", named := ["ephemeris/civil.lengths"], apart := false, laid := [("ephemeris/civil.lengths", laid_ephemeris_civil_lengths)] }
def CivilFourSaid : Prop := civilFourRow.holds Tryd.pinned (OpenSpec.ofChange civilFourSpec)

/-- ITS FALSE NEIGHBOUR: 'it returns false'. Refute it at one input. -/
def civilFourWrong : ChangeSpec := { name := "civilFour", fn := fun _ => fun
  | [d] => { results := [.lit (.bool false)], args := [d] }
  | _ => none }
def CivilFourWrongFalsely : Prop := civilFourRow.holds Tryd.pinned (OpenSpec.ofChange civilFourWrong)

/-- 'ephemerislaw07.CivilWeeks': WHATEVER THE INPUT: true; the input reads as it did. -/
def civilWeeksSpec : ChangeSpec := { name := "civilWeeks", fn := fun _ => fun
  | [d] => { results := [.lit (.bool true)], args := [d] }
  | _ => none }
def civilWeeksRow : OpenClaim := { program := "ytcgbllbhagijjaadoor", sum := "b8d25099bfecd3356791217edc8ea48d159666d1dceafb0cf57df8ec9e8c2ca8", func := "ephemeris/ephemerislaw07.CivilWeeks", spec := "civilWeeks", named := ["ephemeris/civil.lengths"], apart := false, laid := [("ephemeris/civil.lengths", laid_ephemeris_civil_lengths)] }
def CivilWeeksSaid : Prop := civilWeeksRow.holds Tryd.pinned (OpenSpec.ofChange civilWeeksSpec)

/-- ITS FALSE NEIGHBOUR: 'it returns false'. Refute it at one input. -/
def civilWeeksWrong : ChangeSpec := { name := "civilWeeks", fn := fun _ => fun
  | [d] => { results := [.lit (.bool false)], args := [d] }
  | _ => none }
def CivilWeeksWrongFalsely : Prop := civilWeeksRow.holds Tryd.pinned (OpenSpec.ofChange civilWeeksWrong)

/-- 'ephemerislaw08.JulianDays': WHATEVER THE INPUT: true; the input reads as it did. -/
def julianDaysSpec : ChangeSpec := { name := "julianDays", fn := fun _ => fun
  | [d] => { results := [.lit (.bool true)], args := [d] }
  | _ => none }
def julianDaysRow : OpenClaim := { program := "ytcgbllbhagijjaadoor", sum := "b8d25099bfecd3356791217edc8ea48d159666d1dceafb0cf57df8ec9e8c2ca8", func := "ephemeris/ephemerislaw08.JulianDays", spec := "julianDays", named := ["ephemeris/julian.lengths"], apart := false, laid := [("ephemeris/julian.lengths", laid_ephemeris_julian_lengths)] }
def JulianDaysSaid : Prop := julianDaysRow.holds Tryd.pinned (OpenSpec.ofChange julianDaysSpec)

/-- ITS FALSE NEIGHBOUR: 'it returns false'. Refute it at one input. -/
def julianDaysWrong : ChangeSpec := { name := "julianDays", fn := fun _ => fun
  | [d] => { results := [.lit (.bool false)], args := [d] }
  | _ => none }
def JulianDaysWrongFalsely : Prop := julianDaysRow.holds Tryd.pinned (OpenSpec.ofChange julianDaysWrong)

/-- 'ephemerislaw08.JulianDates': WHATEVER THE INPUT: true; the input reads as it did. -/
def julianDatesSpec : ChangeSpec := { name := "julianDates", fn := fun _ => fun
  | [d1, d2, d3] => { results := [.lit (.bool true)], args := [d1, d2, d3] }
  | _ => none }
def julianDatesRow : OpenClaim := { program := "ytcgbllbhagijjaadoor", sum := "b8d25099bfecd3356791217edc8ea48d159666d1dceafb0cf57df8ec9e8c2ca8", func := "ephemeris/ephemerislaw08.JulianDates", spec := "julianDates", named := ["ephemeris/julian.lengths"], apart := false, laid := [("ephemeris/julian.lengths", laid_ephemeris_julian_lengths)] }
def JulianDatesSaid : Prop := julianDatesRow.holds Tryd.pinned (OpenSpec.ofChange julianDatesSpec)

/-- ITS FALSE NEIGHBOUR: 'it returns false'. Refute it at one input. -/
def julianDatesWrong : ChangeSpec := { name := "julianDates", fn := fun _ => fun
  | [d1, d2, d3] => { results := [.lit (.bool false)], args := [d1, d2, d3] }
  | _ => none }
def JulianDatesWrongFalsely : Prop := julianDatesRow.holds Tryd.pinned (OpenSpec.ofChange julianDatesWrong)

/-- 'ephemerislaw08.JulianSteps': WHATEVER THE INPUT: true; the input reads as it did. -/
def julianStepsSpec : ChangeSpec := { name := "julianSteps", fn := fun _ => fun
  | [d] => { results := [.lit (.bool true)], args := [d] }
  | _ => none }
def julianStepsRow : OpenClaim := { program := "ytcgbllbhagijjaadoor", sum := "b8d25099bfecd3356791217edc8ea48d159666d1dceafb0cf57df8ec9e8c2ca8", func := "ephemeris/ephemerislaw08.JulianSteps", spec := "julianSteps", named := ["ephemeris/julian.lengths"], apart := false, laid := [("ephemeris/julian.lengths", laid_ephemeris_julian_lengths)] }
def JulianStepsSaid : Prop := julianStepsRow.holds Tryd.pinned (OpenSpec.ofChange julianStepsSpec)

/-- ITS FALSE NEIGHBOUR: 'it returns false'. Refute it at one input. -/
def julianStepsWrong : ChangeSpec := { name := "julianSteps", fn := fun _ => fun
  | [d] => { results := [.lit (.bool false)], args := [d] }
  | _ => none }
def JulianStepsWrongFalsely : Prop := julianStepsRow.holds Tryd.pinned (OpenSpec.ofChange julianStepsWrong)

/-- 'ephemerislaw08.JulianFour': WHATEVER THE INPUT: true; the input reads as it did. -/
def julianFourSpec : ChangeSpec := { name := "julianFour", fn := fun _ => fun
  | [d] => { results := [.lit (.bool true)], args := [d] }
  | _ => none }
def julianFourRow : OpenClaim := { program := "ytcgbllbhagijjaadoor", sum := "b8d25099bfecd3356791217edc8ea48d159666d1dceafb0cf57df8ec9e8c2ca8", func := "ephemeris/ephemerislaw08.JulianFour", spec := "julianFour", named := ["ephemeris/julian.lengths"], apart := false, laid := [("ephemeris/julian.lengths", laid_ephemeris_julian_lengths)] }
def JulianFourSaid : Prop := julianFourRow.holds Tryd.pinned (OpenSpec.ofChange julianFourSpec)

/-- ITS FALSE NEIGHBOUR: 'it returns false'. Refute it at one input. -/
def julianFourWrong : ChangeSpec := { name := "julianFour", fn := fun _ => fun
  | [d] => { results := [.lit (.bool false)], args := [d] }
  | _ => none }
def JulianFourWrongFalsely : Prop := julianFourRow.holds Tryd.pinned (OpenSpec.ofChange julianFourWrong)

/-- 'ephemerislaw08.JulianApart': WHATEVER THE INPUT: true; the input reads as it did. -/
def julianApartSpec : ChangeSpec := { name := "julianApart", fn := fun _ => fun
  | [d] => { results := [.lit (.bool true)], args := [d] }
  | _ => none }
def julianApartRow : OpenClaim := { program := "ytcgbllbhagijjaadoor", sum := "b8d25099bfecd3356791217edc8ea48d159666d1dceafb0cf57df8ec9e8c2ca8", func := "ephemeris/ephemerislaw08.JulianApart", spec := "julianApart", named := ["ephemeris/julian.lengths", "ephemeris/civil.lengths"], apart := false, laid := [("ephemeris/civil.lengths", laid_ephemeris_civil_lengths), ("ephemeris/julian.lengths", laid_ephemeris_julian_lengths)] }
def JulianApartSaid : Prop := julianApartRow.holds Tryd.pinned (OpenSpec.ofChange julianApartSpec)

/-- ITS FALSE NEIGHBOUR: 'it returns false'. Refute it at one input. -/
def julianApartWrong : ChangeSpec := { name := "julianApart", fn := fun _ => fun
  | [d] => { results := [.lit (.bool false)], args := [d] }
  | _ => none }
def JulianApartWrongFalsely : Prop := julianApartRow.holds Tryd.pinned (OpenSpec.ofChange julianApartWrong)

/-- 'ephemeristop.EphemerisCenturies': WHATEVER THE INPUT: true; the input reads as it did. -/
def ephemerisCenturiesSpec : ChangeSpec := { name := "ephemerisCenturies", fn := fun _ => fun
  | [d1, d2, d3] => { results := [.lit (.bool true)], args := [d1, d2, d3] }
  | _ => none }
def ephemerisCenturiesRow : OpenClaim := { program := "ytcgbllbhagijjaadoor", sum := "b8d25099bfecd3356791217edc8ea48d159666d1dceafb0cf57df8ec9e8c2ca8", func := "ephemeris/ephemeristop.EphemerisCenturies", spec := "ephemerisCenturies", named := ["math/bits.divideError", "math/bits.overflowError", "ephemeris/julian.lengths", "ephemeris/civil.lengths"], apart := false, laid := [("ephemeris/civil.lengths", laid_ephemeris_civil_lengths), ("ephemeris/julian.lengths", laid_ephemeris_julian_lengths)] }
def EphemerisCenturiesSaid : Prop := ephemerisCenturiesRow.holds Tryd.pinned (OpenSpec.ofChange ephemerisCenturiesSpec)

/-- ITS FALSE NEIGHBOUR: 'it returns false'. Refute it at one input. -/
def ephemerisCenturiesWrong : ChangeSpec := { name := "ephemerisCenturies", fn := fun _ => fun
  | [d1, d2, d3] => { results := [.lit (.bool false)], args := [d1, d2, d3] }
  | _ => none }
def EphemerisCenturiesWrongFalsely : Prop := ephemerisCenturiesRow.holds Tryd.pinned (OpenSpec.ofChange ephemerisCenturiesWrong)

/- THE SECOND FORM. 'bulk': how many values and letters a reading holds, each counted each time it is reached (what is shared counts as often as it is met; a slice's spare places count too). A statement '..UptoSaid' is the law's where the arguments, and the package variables that the reading takes, are together of bulk at most 1048576: NARROWER than '..Said'. Prove '..Said' where nothing that the law and all that it calls make is longer than what came in: it says more and counts as full. Else prove '..UptoSaid'. A law counts once. -/
mutual
def uptoBulk {H : Type} : DataW H → Nat
  | .lit (.string bytes) => bytes.length + 1
  | .lit _ => 1
  | .nil => 1
  | .ptr d => uptoBulk d + 1
  | .slice elems spare => uptoBulkAll elems + uptoBulkAll spare + 1
  | .agg parts => uptoBulkAll parts + 1
  | .iface _ d => uptoBulk d + 1
  | .map entries => uptoBulkEntries entries + 1
  | .held _ => 1
def uptoBulkAll {H : Type} : List (DataW H) → Nat
  | [] => 0
  | d :: r => uptoBulk d + uptoBulkAll r
def uptoBulkEntries {H : Type} : List (Lit × DataW H) → Nat
  | [] => 0
  | x :: r => uptoBulkEntry x + uptoBulkEntries r
def uptoBulkEntry {H : Type} : Lit × DataW H → Nat
  | (.string bytes, d) => bytes.length + uptoBulk d + 1
  | (_, d) => uptoBulk d + 1
 end
def uptoSmall : (H : Type) → List (DataW H) → Bool := fun _ ds => decide (uptoBulkAll ds ≤ 1048576)
def OpenSpec.upto (s : _root_.Go.ChangeSpec) : _root_.Go.OpenSpec := { _root_.Go.OpenSpec.ofChange s with cond := some uptoSmall }

/-- 'ephemerislaw07.CivilDays', WHERE WHAT IT READS IS OF BULK AT MOST 1048576: true; the input reads as it did. -/
def civilDaysUptoRow : OpenClaim := { program := "ytcgbllbhagijjaadoor", sum := "b8d25099bfecd3356791217edc8ea48d159666d1dceafb0cf57df8ec9e8c2ca8", func := "ephemeris/ephemerislaw07.CivilDays", spec := "civilDays", named := ["ephemeris/civil.lengths"], apart := false, laid := [("ephemeris/civil.lengths", laid_ephemeris_civil_lengths)], narrowed := true }
def CivilDaysUptoSaid : Prop := civilDaysUptoRow.holds Tryd.pinned (OpenSpec.upto civilDaysSpec)

/-- 'ephemerislaw07.CivilDates', WHERE WHAT IT READS IS OF BULK AT MOST 1048576: true; the input reads as it did. -/
def civilDatesUptoRow : OpenClaim := { program := "ytcgbllbhagijjaadoor", sum := "b8d25099bfecd3356791217edc8ea48d159666d1dceafb0cf57df8ec9e8c2ca8", func := "ephemeris/ephemerislaw07.CivilDates", spec := "civilDates", named := ["ephemeris/civil.lengths"], apart := false, laid := [("ephemeris/civil.lengths", laid_ephemeris_civil_lengths)], narrowed := true }
def CivilDatesUptoSaid : Prop := civilDatesUptoRow.holds Tryd.pinned (OpenSpec.upto civilDatesSpec)

/-- 'ephemerislaw07.CivilSteps', WHERE WHAT IT READS IS OF BULK AT MOST 1048576: true; the input reads as it did. -/
def civilStepsUptoRow : OpenClaim := { program := "ytcgbllbhagijjaadoor", sum := "b8d25099bfecd3356791217edc8ea48d159666d1dceafb0cf57df8ec9e8c2ca8", func := "ephemeris/ephemerislaw07.CivilSteps", spec := "civilSteps", named := ["ephemeris/civil.lengths"], apart := false, laid := [("ephemeris/civil.lengths", laid_ephemeris_civil_lengths)], narrowed := true }
def CivilStepsUptoSaid : Prop := civilStepsUptoRow.holds Tryd.pinned (OpenSpec.upto civilStepsSpec)

/-- 'ephemerislaw07.CivilFour', WHERE WHAT IT READS IS OF BULK AT MOST 1048576: true; the input reads as it did. -/
def civilFourUptoRow : OpenClaim := { program := "ytcgbllbhagijjaadoor", sum := "b8d25099bfecd3356791217edc8ea48d159666d1dceafb0cf57df8ec9e8c2ca8", func := "ephemeris/ephemerislaw07.CivilFour", spec := "civilFour", named := ["ephemeris/civil.lengths"], apart := false, laid := [("ephemeris/civil.lengths", laid_ephemeris_civil_lengths)], narrowed := true }
def CivilFourUptoSaid : Prop := civilFourUptoRow.holds Tryd.pinned (OpenSpec.upto civilFourSpec)

/-- 'ephemerislaw07.CivilWeeks', WHERE WHAT IT READS IS OF BULK AT MOST 1048576: true; the input reads as it did. -/
def civilWeeksUptoRow : OpenClaim := { program := "ytcgbllbhagijjaadoor", sum := "b8d25099bfecd3356791217edc8ea48d159666d1dceafb0cf57df8ec9e8c2ca8", func := "ephemeris/ephemerislaw07.CivilWeeks", spec := "civilWeeks", named := ["ephemeris/civil.lengths"], apart := false, laid := [("ephemeris/civil.lengths", laid_ephemeris_civil_lengths)], narrowed := true }
def CivilWeeksUptoSaid : Prop := civilWeeksUptoRow.holds Tryd.pinned (OpenSpec.upto civilWeeksSpec)

/-- 'ephemerislaw08.JulianDays', WHERE WHAT IT READS IS OF BULK AT MOST 1048576: true; the input reads as it did. -/
def julianDaysUptoRow : OpenClaim := { program := "ytcgbllbhagijjaadoor", sum := "b8d25099bfecd3356791217edc8ea48d159666d1dceafb0cf57df8ec9e8c2ca8", func := "ephemeris/ephemerislaw08.JulianDays", spec := "julianDays", named := ["ephemeris/julian.lengths"], apart := false, laid := [("ephemeris/julian.lengths", laid_ephemeris_julian_lengths)], narrowed := true }
def JulianDaysUptoSaid : Prop := julianDaysUptoRow.holds Tryd.pinned (OpenSpec.upto julianDaysSpec)

/-- 'ephemerislaw08.JulianDates', WHERE WHAT IT READS IS OF BULK AT MOST 1048576: true; the input reads as it did. -/
def julianDatesUptoRow : OpenClaim := { program := "ytcgbllbhagijjaadoor", sum := "b8d25099bfecd3356791217edc8ea48d159666d1dceafb0cf57df8ec9e8c2ca8", func := "ephemeris/ephemerislaw08.JulianDates", spec := "julianDates", named := ["ephemeris/julian.lengths"], apart := false, laid := [("ephemeris/julian.lengths", laid_ephemeris_julian_lengths)], narrowed := true }
def JulianDatesUptoSaid : Prop := julianDatesUptoRow.holds Tryd.pinned (OpenSpec.upto julianDatesSpec)

/-- 'ephemerislaw08.JulianSteps', WHERE WHAT IT READS IS OF BULK AT MOST 1048576: true; the input reads as it did. -/
def julianStepsUptoRow : OpenClaim := { program := "ytcgbllbhagijjaadoor", sum := "b8d25099bfecd3356791217edc8ea48d159666d1dceafb0cf57df8ec9e8c2ca8", func := "ephemeris/ephemerislaw08.JulianSteps", spec := "julianSteps", named := ["ephemeris/julian.lengths"], apart := false, laid := [("ephemeris/julian.lengths", laid_ephemeris_julian_lengths)], narrowed := true }
def JulianStepsUptoSaid : Prop := julianStepsUptoRow.holds Tryd.pinned (OpenSpec.upto julianStepsSpec)

/-- 'ephemerislaw08.JulianFour', WHERE WHAT IT READS IS OF BULK AT MOST 1048576: true; the input reads as it did. -/
def julianFourUptoRow : OpenClaim := { program := "ytcgbllbhagijjaadoor", sum := "b8d25099bfecd3356791217edc8ea48d159666d1dceafb0cf57df8ec9e8c2ca8", func := "ephemeris/ephemerislaw08.JulianFour", spec := "julianFour", named := ["ephemeris/julian.lengths"], apart := false, laid := [("ephemeris/julian.lengths", laid_ephemeris_julian_lengths)], narrowed := true }
def JulianFourUptoSaid : Prop := julianFourUptoRow.holds Tryd.pinned (OpenSpec.upto julianFourSpec)

/-- 'ephemerislaw08.JulianApart', WHERE WHAT IT READS IS OF BULK AT MOST 1048576: true; the input reads as it did. -/
def julianApartUptoRow : OpenClaim := { program := "ytcgbllbhagijjaadoor", sum := "b8d25099bfecd3356791217edc8ea48d159666d1dceafb0cf57df8ec9e8c2ca8", func := "ephemeris/ephemerislaw08.JulianApart", spec := "julianApart", named := ["ephemeris/julian.lengths", "ephemeris/civil.lengths"], apart := false, laid := [("ephemeris/civil.lengths", laid_ephemeris_civil_lengths), ("ephemeris/julian.lengths", laid_ephemeris_julian_lengths)], narrowed := true }
def JulianApartUptoSaid : Prop := julianApartUptoRow.holds Tryd.pinned (OpenSpec.upto julianApartSpec)

/-- 'ephemeristop.EphemerisCenturies', WHERE WHAT IT READS IS OF BULK AT MOST 1048576: true; the input reads as it did. -/
def ephemerisCenturiesUptoRow : OpenClaim := { program := "ytcgbllbhagijjaadoor", sum := "b8d25099bfecd3356791217edc8ea48d159666d1dceafb0cf57df8ec9e8c2ca8", func := "ephemeris/ephemeristop.EphemerisCenturies", spec := "ephemerisCenturies", named := ["math/bits.divideError", "math/bits.overflowError", "ephemeris/julian.lengths", "ephemeris/civil.lengths"], apart := false, laid := [("ephemeris/civil.lengths", laid_ephemeris_civil_lengths), ("ephemeris/julian.lengths", laid_ephemeris_julian_lengths)], narrowed := true }
def EphemerisCenturiesUptoSaid : Prop := ephemerisCenturiesUptoRow.holds Tryd.pinned (OpenSpec.upto ephemerisCenturiesSpec)

end Rows
end Go.Proofs.YtcgbllbhagijjaaDoor
