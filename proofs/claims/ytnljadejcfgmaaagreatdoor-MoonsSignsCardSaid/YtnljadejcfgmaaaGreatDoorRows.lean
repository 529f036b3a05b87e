/-
  NARROWER THAN 'FOR EVERY INPUT', by the rows' own cells (each row's printed sentence says how): SolarCritical: laid · SolarDays: laid · SolarDates: laid · SolarSteps: laid · SolarFirst: laid · SolarBad: laid · MoonsAt: laid · MoonsRow: laid · MoonsSigns: laid · EphemerisRegions: laid.
  DERIVED. THE GIVEN ROWS OF THIS SEAT. 10 by the template 'for every input the law returns true; each argument reads behind the call as it read before'; 0 by the template 'total and deterministic' (their statements: YtnljadejcfgmaaaGreatDoorTotals.lean).
  GIVEN WITH THE SEED: the statements are not yours to turn. If you find one false, say at which input.
  Laid BY PROGRAM, IN A SANDBOX (cutbox-rows.mjs): the forced cells as the released guide's own fill.sh prints them over the translation 7758414ec9656a4a… (all of the seat's roots in one cut). By AI agents, Wed Nov 11 2026. No macro, syntax, notation, axiom, sorry.
-/
import Derived.Test.YtnljadejcfgmaaaGreatDoorChecked
import GoSem.Claim
import GoSem.ClaimJoined
import GoSem.ClaimMapViews
import Derived.JoinedTies
import Derived.KernelRfl
namespace Go.Proofs.YtnljadejcfgmaaaGreatDoor
/- THE CELL 'sum', in the pinned program and in every row, IS THE sha256 OF THE DUMP (.gsa) THAT YtnljadejcfgmaaaGreatDoorProg.lean LOADS. Nothing in Lean hashes anything: it is a label: what it is worth is what the hold of that sum in a sandbox is worth. -/
noncomputable def Tryz.pinned : Pinned := { name := "ytnljadejcfgmaaagreatdoor", sum := "7758414ec9656a4a08c1e3c77ffd172ab687c36c83ad891f8b615064ff61760a", checked := Tryz.checked }
namespace Rows
def none {H : Type} : Left H := { results := [], args := [] }

/- WHAT THE LISTED PACKAGE-LEVEL VARIABLES READ AS WHEN THE CALL BEGINS. Each datum BY PROGRAM (the guide's laid-datum.mjs) off the statement by which the dump's own 'gosem.cut.vars' lays the variable. In a bare row this is a premise. The card (YtnljadejcfgmaaaGreatDoorCards.lean) ties it to the program's text. -/
def laid_ephemeris_dial_heights {H : Type} : DataW H := .agg [.lit (.int .i64 0), .lit (.int .i64 225), .lit (.int .i64 449), .lit (.int .i64 671), .lit (.int .i64 890), .lit (.int .i64 1105), .lit (.int .i64 1315), .lit (.int .i64 1520), .lit (.int .i64 1719), .lit (.int .i64 1910), .lit (.int .i64 2093), .lit (.int .i64 2267), .lit (.int .i64 2431), .lit (.int .i64 2585), .lit (.int .i64 2728), .lit (.int .i64 2859), .lit (.int .i64 2978), .lit (.int .i64 3084), .lit (.int .i64 3177), .lit (.int .i64 3256), .lit (.int .i64 3321), .lit (.int .i64 3372), .lit (.int .i64 3409), .lit (.int .i64 3431), .lit (.int .i64 3438)]

/-- 'ephemerislaw18.SolarCritical': WHATEVER THE INPUT: true; the input reads as it did. -/
def solarCriticalSpec : ChangeSpec := { name := "solarCritical", fn := fun _ => fun
  | [d1, d2, d3] => { results := [.lit (.bool true)], args := [d1, d2, d3] }
  | _ => none }
def solarCriticalRow : OpenClaim := { program := "ytnljadejcfgmaaagreatdoor", sum := "7758414ec9656a4a08c1e3c77ffd172ab687c36c83ad891f8b615064ff61760a", func := "ephemeris/ephemerislaw18.SolarCritical", spec := "solarCritical", unfollowed := true, recurses := true, named := ["math/bits.divideError", "math/bits.overflowError", "ephemeris/dial.heights"], apart := false, laid := [("ephemeris/dial.heights", laid_ephemeris_dial_heights)] }
def SolarCriticalSaid : Prop := solarCriticalRow.holds Tryz.pinned (OpenSpec.ofChange solarCriticalSpec)

/-- ITS FALSE NEIGHBOUR: 'it returns false'. Refute it at one input. -/
def solarCriticalWrong : ChangeSpec := { name := "solarCritical", fn := fun _ => fun
  | [d1, d2, d3] => { results := [.lit (.bool false)], args := [d1, d2, d3] }
  | _ => none }
def SolarCriticalWrongFalsely : Prop := solarCriticalRow.holds Tryz.pinned (OpenSpec.ofChange solarCriticalWrong)

/-- 'ephemerislaw18.SolarDays': WHATEVER THE INPUT: true; the input reads as it did. -/
def solarDaysSpec : ChangeSpec := { name := "solarDays", fn := fun _ => fun
  | [d1, d2, d3] => { results := [.lit (.bool true)], args := [d1, d2, d3] }
  | _ => none }
def solarDaysRow : OpenClaim := { program := "ytnljadejcfgmaaagreatdoor", sum := "7758414ec9656a4a08c1e3c77ffd172ab687c36c83ad891f8b615064ff61760a", func := "ephemeris/ephemerislaw18.SolarDays", spec := "solarDays", unfollowed := true, recurses := true, named := ["math/bits.divideError", "math/bits.overflowError", "ephemeris/dial.heights"], apart := false, laid := [("ephemeris/dial.heights", laid_ephemeris_dial_heights)] }
def SolarDaysSaid : Prop := solarDaysRow.holds Tryz.pinned (OpenSpec.ofChange solarDaysSpec)

/-- ITS FALSE NEIGHBOUR: 'it returns false'. Refute it at one input. -/
def solarDaysWrong : ChangeSpec := { name := "solarDays", fn := fun _ => fun
  | [d1, d2, d3] => { results := [.lit (.bool false)], args := [d1, d2, d3] }
  | _ => none }
def SolarDaysWrongFalsely : Prop := solarDaysRow.holds Tryz.pinned (OpenSpec.ofChange solarDaysWrong)

/-- 'ephemerislaw18.SolarDates': WHATEVER THE INPUT: true; the input reads as it did. -/
def solarDatesSpec : ChangeSpec := { name := "solarDates", fn := fun _ => fun
  | [d1, d2, d3] => { results := [.lit (.bool true)], args := [d1, d2, d3] }
  | _ => none }
def solarDatesRow : OpenClaim := { program := "ytnljadejcfgmaaagreatdoor", sum := "7758414ec9656a4a08c1e3c77ffd172ab687c36c83ad891f8b615064ff61760a", func := "ephemeris/ephemerislaw18.SolarDates", spec := "solarDates", unfollowed := true, recurses := true, named := ["math/bits.divideError", "math/bits.overflowError", "ephemeris/dial.heights"], apart := false, laid := [("ephemeris/dial.heights", laid_ephemeris_dial_heights)] }
def SolarDatesSaid : Prop := solarDatesRow.holds Tryz.pinned (OpenSpec.ofChange solarDatesSpec)

/-- ITS FALSE NEIGHBOUR: 'it returns false'. Refute it at one input. -/
def solarDatesWrong : ChangeSpec := { name := "solarDates", fn := fun _ => fun
  | [d1, d2, d3] => { results := [.lit (.bool false)], args := [d1, d2, d3] }
  | _ => none }
def SolarDatesWrongFalsely : Prop := solarDatesRow.holds Tryz.pinned (OpenSpec.ofChange solarDatesWrong)

/-- 'ephemerislaw18.SolarSteps': WHATEVER THE INPUT: true; the input reads as it did. -/
def solarStepsSpec : ChangeSpec := { name := "solarSteps", fn := fun _ => fun
  | [d1, d2, d3] => { results := [.lit (.bool true)], args := [d1, d2, d3] }
  | _ => none }
def solarStepsRow : OpenClaim := { program := "ytnljadejcfgmaaagreatdoor", sum := "7758414ec9656a4a08c1e3c77ffd172ab687c36c83ad891f8b615064ff61760a", func := "ephemeris/ephemerislaw18.SolarSteps", spec := "solarSteps", unfollowed := true, recurses := true, named := ["math/bits.divideError", "math/bits.overflowError", "ephemeris/dial.heights"], apart := false, laid := [("ephemeris/dial.heights", laid_ephemeris_dial_heights)] }
def SolarStepsSaid : Prop := solarStepsRow.holds Tryz.pinned (OpenSpec.ofChange solarStepsSpec)

/-- ITS FALSE NEIGHBOUR: 'it returns false'. Refute it at one input. -/
def solarStepsWrong : ChangeSpec := { name := "solarSteps", fn := fun _ => fun
  | [d1, d2, d3] => { results := [.lit (.bool false)], args := [d1, d2, d3] }
  | _ => none }
def SolarStepsWrongFalsely : Prop := solarStepsRow.holds Tryz.pinned (OpenSpec.ofChange solarStepsWrong)

/-- 'ephemerislaw18.SolarFirst': WHATEVER THE INPUT: true; the input reads as it did. -/
def solarFirstSpec : ChangeSpec := { name := "solarFirst", fn := fun _ => fun
  | [d1, d2, d3, d4] => { results := [.lit (.bool true)], args := [d1, d2, d3, d4] }
  | _ => none }
def solarFirstRow : OpenClaim := { program := "ytnljadejcfgmaaagreatdoor", sum := "7758414ec9656a4a08c1e3c77ffd172ab687c36c83ad891f8b615064ff61760a", func := "ephemeris/ephemerislaw18.SolarFirst", spec := "solarFirst", unfollowed := true, recurses := true, named := ["math/bits.divideError", "math/bits.overflowError", "ephemeris/dial.heights"], apart := false, laid := [("ephemeris/dial.heights", laid_ephemeris_dial_heights)] }
def SolarFirstSaid : Prop := solarFirstRow.holds Tryz.pinned (OpenSpec.ofChange solarFirstSpec)

/-- ITS FALSE NEIGHBOUR: 'it returns false'. Refute it at one input. -/
def solarFirstWrong : ChangeSpec := { name := "solarFirst", fn := fun _ => fun
  | [d1, d2, d3, d4] => { results := [.lit (.bool false)], args := [d1, d2, d3, d4] }
  | _ => none }
def SolarFirstWrongFalsely : Prop := solarFirstRow.holds Tryz.pinned (OpenSpec.ofChange solarFirstWrong)

/-- 'ephemerislaw18.SolarBad': WHATEVER THE INPUT: true; the input reads as it did. -/
def solarBadSpec : ChangeSpec := { name := "solarBad", fn := fun _ => fun
  | [d1, d2, d3] => { results := [.lit (.bool true)], args := [d1, d2, d3] }
  | _ => none }
def solarBadRow : OpenClaim := { program := "ytnljadejcfgmaaagreatdoor", sum := "7758414ec9656a4a08c1e3c77ffd172ab687c36c83ad891f8b615064ff61760a", func := "ephemeris/ephemerislaw18.SolarBad", spec := "solarBad", unfollowed := true, recurses := true, named := ["math/bits.divideError", "math/bits.overflowError", "ephemeris/dial.heights"], apart := false, laid := [("ephemeris/dial.heights", laid_ephemeris_dial_heights)] }
def SolarBadSaid : Prop := solarBadRow.holds Tryz.pinned (OpenSpec.ofChange solarBadSpec)

/-- ITS FALSE NEIGHBOUR: 'it returns false'. Refute it at one input. -/
def solarBadWrong : ChangeSpec := { name := "solarBad", fn := fun _ => fun
  | [d1, d2, d3] => { results := [.lit (.bool false)], args := [d1, d2, d3] }
  | _ => none }
def SolarBadWrongFalsely : Prop := solarBadRow.holds Tryz.pinned (OpenSpec.ofChange solarBadWrong)

/-- 'ephemerislaw19.MoonsAt': WHATEVER THE INPUT: true; the input reads as it did. -/
def moonsAtSpec : ChangeSpec := { name := "moonsAt", fn := fun _ => fun
  | [d1, d2] => { results := [.lit (.bool true)], args := [d1, d2] }
  | _ => none }
def moonsAtRow : OpenClaim := { program := "ytnljadejcfgmaaagreatdoor", sum := "7758414ec9656a4a08c1e3c77ffd172ab687c36c83ad891f8b615064ff61760a", func := "ephemeris/ephemerislaw19.MoonsAt", spec := "moonsAt", unfollowed := true, recurses := true, named := ["math/bits.divideError", "math/bits.overflowError", "ephemeris/dial.heights"], apart := false, laid := [("ephemeris/dial.heights", laid_ephemeris_dial_heights)] }
def MoonsAtSaid : Prop := moonsAtRow.holds Tryz.pinned (OpenSpec.ofChange moonsAtSpec)

/-- ITS FALSE NEIGHBOUR: 'it returns false'. Refute it at one input. -/
def moonsAtWrong : ChangeSpec := { name := "moonsAt", fn := fun _ => fun
  | [d1, d2] => { results := [.lit (.bool false)], args := [d1, d2] }
  | _ => none }
def MoonsAtWrongFalsely : Prop := moonsAtRow.holds Tryz.pinned (OpenSpec.ofChange moonsAtWrong)

/-- 'ephemerislaw19.MoonsRow': WHATEVER THE INPUT: true; the input reads as it did. -/
def moonsRowSpec : ChangeSpec := { name := "moonsRow", fn := fun _ => fun
  | [d] => { results := [.lit (.bool true)], args := [d] }
  | _ => none }
def moonsRowRow : OpenClaim := { program := "ytnljadejcfgmaaagreatdoor", sum := "7758414ec9656a4a08c1e3c77ffd172ab687c36c83ad891f8b615064ff61760a", func := "ephemeris/ephemerislaw19.MoonsRow", spec := "moonsRow", unfollowed := true, recurses := true, named := ["math/bits.divideError", "math/bits.overflowError", "ephemeris/dial.heights"], apart := false, laid := [("ephemeris/dial.heights", laid_ephemeris_dial_heights)] }
def MoonsRowSaid : Prop := moonsRowRow.holds Tryz.pinned (OpenSpec.ofChange moonsRowSpec)

/-- ITS FALSE NEIGHBOUR: 'it returns false'. Refute it at one input. -/
def moonsRowWrong : ChangeSpec := { name := "moonsRow", fn := fun _ => fun
  | [d] => { results := [.lit (.bool false)], args := [d] }
  | _ => none }
def MoonsRowWrongFalsely : Prop := moonsRowRow.holds Tryz.pinned (OpenSpec.ofChange moonsRowWrong)

/-- 'ephemerislaw19.MoonsSigns': WHATEVER THE INPUT: true; the input reads as it did. -/
def moonsSignsSpec : ChangeSpec := { name := "moonsSigns", fn := fun _ => fun
  | [d] => { results := [.lit (.bool true)], args := [d] }
  | _ => none }
def moonsSignsRow : OpenClaim := { program := "ytnljadejcfgmaaagreatdoor", sum := "7758414ec9656a4a08c1e3c77ffd172ab687c36c83ad891f8b615064ff61760a", func := "ephemeris/ephemerislaw19.MoonsSigns", spec := "moonsSigns", unfollowed := true, recurses := true, named := ["math/bits.divideError", "math/bits.overflowError", "ephemeris/dial.heights"], apart := false, laid := [("ephemeris/dial.heights", laid_ephemeris_dial_heights)] }
def MoonsSignsSaid : Prop := moonsSignsRow.holds Tryz.pinned (OpenSpec.ofChange moonsSignsSpec)

/-- ITS FALSE NEIGHBOUR: 'it returns false'. Refute it at one input. -/
def moonsSignsWrong : ChangeSpec := { name := "moonsSigns", fn := fun _ => fun
  | [d] => { results := [.lit (.bool false)], args := [d] }
  | _ => none }
def MoonsSignsWrongFalsely : Prop := moonsSignsRow.holds Tryz.pinned (OpenSpec.ofChange moonsSignsWrong)

/-- 'ephemeristop.EphemerisRegions': WHATEVER THE INPUT: true; the input reads as it did. -/
def ephemerisRegionsSpec : ChangeSpec := { name := "ephemerisRegions", fn := fun _ => fun
  | [d1, d2, d3, d4, d5, d6] => { results := [.lit (.bool true)], args := [d1, d2, d3, d4, d5, d6] }
  | _ => none }
def ephemerisRegionsRow : OpenClaim := { program := "ytnljadejcfgmaaagreatdoor", sum := "7758414ec9656a4a08c1e3c77ffd172ab687c36c83ad891f8b615064ff61760a", func := "ephemeris/ephemeristop.EphemerisRegions", spec := "ephemerisRegions", unfollowed := true, recurses := true, named := ["math/bits.divideError", "math/bits.overflowError", "ephemeris/dial.heights"], apart := false, laid := [("ephemeris/dial.heights", laid_ephemeris_dial_heights)] }
def EphemerisRegionsSaid : Prop := ephemerisRegionsRow.holds Tryz.pinned (OpenSpec.ofChange ephemerisRegionsSpec)

/-- ITS FALSE NEIGHBOUR: 'it returns false'. Refute it at one input. -/
def ephemerisRegionsWrong : ChangeSpec := { name := "ephemerisRegions", fn := fun _ => fun
  | [d1, d2, d3, d4, d5, d6] => { results := [.lit (.bool false)], args := [d1, d2, d3, d4, d5, d6] }
  | _ => none }
def EphemerisRegionsWrongFalsely : Prop := ephemerisRegionsRow.holds Tryz.pinned (OpenSpec.ofChange ephemerisRegionsWrong)

/- THE SECOND FORM. 'bulk': how many values and letters a reading holds, each counted each time it is reached (what is shared counts as often as it is met; a slice's spare places count too). A statement '..UptoSaid' is the law's where the arguments, and the package variables that the reading takes, are together of bulk at most 1048576: NARROWER than '..Said'. Prove '..Said' where nothing that the law and all that it calls make is longer than what came in: it says more and counts as full. Else prove '..UptoSaid'. A law counts once. -/
mutual
def uptoBulk {H : Type} : DataW H → Nat
  | .lit (.string bytes) => bytes.length + 1
  | .lit _ => 1
  | .nil => 1
  | .ptr d => uptoBulk d + 1
  | .slice elems spare => uptoBulkAll elems + uptoBulkAll spare + 1
  | .agg parts => uptoBulkAll parts + 1
  | .iface _ d => uptoBulk d + 1
  | .map entries => uptoBulkEntries entries + 1
  | .held _ => 1
def uptoBulkAll {H : Type} : List (DataW H) → Nat
  | [] => 0
  | d :: r => uptoBulk d + uptoBulkAll r
def uptoBulkEntries {H : Type} : List (Lit × DataW H) → Nat
  | [] => 0
  | x :: r => uptoBulkEntry x + uptoBulkEntries r
def uptoBulkEntry {H : Type} : Lit × DataW H → Nat
  | (.string bytes, d) => bytes.length + uptoBulk d + 1
  | (_, d) => uptoBulk d + 1
 end
def uptoSmall : (H : Type) → List (DataW H) → Bool := fun _ ds => decide (uptoBulkAll ds ≤ 1048576)
def OpenSpec.upto (s : _root_.Go.ChangeSpec) : _root_.Go.OpenSpec := { _root_.Go.OpenSpec.ofChange s with cond := some uptoSmall }

/-- 'ephemerislaw18.SolarCritical', WHERE WHAT IT READS IS OF BULK AT MOST 1048576: true; the input reads as it did. -/
def solarCriticalUptoRow : OpenClaim := { program := "ytnljadejcfgmaaagreatdoor", sum := "7758414ec9656a4a08c1e3c77ffd172ab687c36c83ad891f8b615064ff61760a", func := "ephemeris/ephemerislaw18.SolarCritical", spec := "solarCritical", unfollowed := true, recurses := true, named := ["math/bits.divideError", "math/bits.overflowError", "ephemeris/dial.heights"], apart := false, laid := [("ephemeris/dial.heights", laid_ephemeris_dial_heights)], narrowed := true }
def SolarCriticalUptoSaid : Prop := solarCriticalUptoRow.holds Tryz.pinned (OpenSpec.upto solarCriticalSpec)

/-- 'ephemerislaw18.SolarDays', WHERE WHAT IT READS IS OF BULK AT MOST 1048576: true; the input reads as it did. -/
def solarDaysUptoRow : OpenClaim := { program := "ytnljadejcfgmaaagreatdoor", sum := "7758414ec9656a4a08c1e3c77ffd172ab687c36c83ad891f8b615064ff61760a", func := "ephemeris/ephemerislaw18.SolarDays", spec := "solarDays", unfollowed := true, recurses := true, named := ["math/bits.divideError", "math/bits.overflowError", "ephemeris/dial.heights"], apart := false, laid := [("ephemeris/dial.heights", laid_ephemeris_dial_heights)], narrowed := true }
def SolarDaysUptoSaid : Prop := solarDaysUptoRow.holds Tryz.pinned (OpenSpec.upto solarDaysSpec)

/-- 'ephemerislaw18.SolarDates', WHERE WHAT IT READS IS OF BULK AT MOST 1048576: true; the input reads as it did. -/
def solarDatesUptoRow : OpenClaim := { program := "ytnljadejcfgmaaagreatdoor", sum := "7758414ec9656a4a08c1e3c77ffd172ab687c36c83ad891f8b615064ff61760a", func := "ephemeris/ephemerislaw18.SolarDates", spec := "solarDates", unfollowed := true, recurses := true, named := ["math/bits.divideError", "math/bits.overflowError", "ephemeris/dial.heights"], apart := false, laid := [("ephemeris/dial.heights", laid_ephemeris_dial_heights)], narrowed := true }
def SolarDatesUptoSaid : Prop := solarDatesUptoRow.holds Tryz.pinned (OpenSpec.upto solarDatesSpec)

/-- 'ephemerislaw18.SolarSteps', WHERE WHAT IT READS IS OF BULK AT MOST 1048576: true; the input reads as it did. -/
def solarStepsUptoRow : OpenClaim := { program := "ytnljadejcfgmaaagreatdoor", sum := "7758414ec9656a4a08c1e3c77ffd172ab687c36c83ad891f8b615064ff61760a", func := "ephemeris/ephemerislaw18.SolarSteps", spec := "solarSteps", unfollowed := true, recurses := true, named := ["math/bits.divideError", "math/bits.overflowError", "ephemeris/dial.heights"], apart := false, laid := [("ephemeris/dial.heights", laid_ephemeris_dial_heights)], narrowed := true }
def SolarStepsUptoSaid : Prop := solarStepsUptoRow.holds Tryz.pinned (OpenSpec.upto solarStepsSpec)

/-- 'ephemerislaw18.SolarFirst', WHERE WHAT IT READS IS OF BULK AT MOST 1048576: true; the input reads as it did. -/
def solarFirstUptoRow : OpenClaim := { program := "ytnljadejcfgmaaagreatdoor", sum := "7758414ec9656a4a08c1e3c77ffd172ab687c36c83ad891f8b615064ff61760a", func := "ephemeris/ephemerislaw18.SolarFirst", spec := "solarFirst", unfollowed := true, recurses := true, named := ["math/bits.divideError", "math/bits.overflowError", "ephemeris/dial.heights"], apart := false, laid := [("ephemeris/dial.heights", laid_ephemeris_dial_heights)], narrowed := true }
def SolarFirstUptoSaid : Prop := solarFirstUptoRow.holds Tryz.pinned (OpenSpec.upto solarFirstSpec)

/-- 'ephemerislaw18.SolarBad', WHERE WHAT IT READS IS OF BULK AT MOST 1048576: true; the input reads as it did. -/
def solarBadUptoRow : OpenClaim := { program := "ytnljadejcfgmaaagreatdoor", sum := "7758414ec9656a4a08c1e3c77ffd172ab687c36c83ad891f8b615064ff61760a", func := "ephemeris/ephemerislaw18.SolarBad", spec := "solarBad", unfollowed := true, recurses := true, named := ["math/bits.divideError", "math/bits.overflowError", "ephemeris/dial.heights"], apart := false, laid := [("ephemeris/dial.heights", laid_ephemeris_dial_heights)], narrowed := true }
def SolarBadUptoSaid : Prop := solarBadUptoRow.holds Tryz.pinned (OpenSpec.upto solarBadSpec)

/-- 'ephemerislaw19.MoonsAt', WHERE WHAT IT READS IS OF BULK AT MOST 1048576: true; the input reads as it did. -/
def moonsAtUptoRow : OpenClaim := { program := "ytnljadejcfgmaaagreatdoor", sum := "7758414ec9656a4a08c1e3c77ffd172ab687c36c83ad891f8b615064ff61760a", func := "ephemeris/ephemerislaw19.MoonsAt", spec := "moonsAt", unfollowed := true, recurses := true, named := ["math/bits.divideError", "math/bits.overflowError", "ephemeris/dial.heights"], apart := false, laid := [("ephemeris/dial.heights", laid_ephemeris_dial_heights)], narrowed := true }
def MoonsAtUptoSaid : Prop := moonsAtUptoRow.holds Tryz.pinned (OpenSpec.upto moonsAtSpec)

/-- 'ephemerislaw19.MoonsRow', WHERE WHAT IT READS IS OF BULK AT MOST 1048576: true; the input reads as it did. -/
def moonsRowUptoRow : OpenClaim := { program := "ytnljadejcfgmaaagreatdoor", sum := "7758414ec9656a4a08c1e3c77ffd172ab687c36c83ad891f8b615064ff61760a", func := "ephemeris/ephemerislaw19.MoonsRow", spec := "moonsRow", unfollowed := true, recurses := true, named := ["math/bits.divideError", "math/bits.overflowError", "ephemeris/dial.heights"], apart := false, laid := [("ephemeris/dial.heights", laid_ephemeris_dial_heights)], narrowed := true }
def MoonsRowUptoSaid : Prop := moonsRowUptoRow.holds Tryz.pinned (OpenSpec.upto moonsRowSpec)

/-- 'ephemerislaw19.MoonsSigns', WHERE WHAT IT READS IS OF BULK AT MOST 1048576: true; the input reads as it did. -/
def moonsSignsUptoRow : OpenClaim := { program := "ytnljadejcfgmaaagreatdoor", sum := "7758414ec9656a4a08c1e3c77ffd172ab687c36c83ad891f8b615064ff61760a", func := "ephemeris/ephemerislaw19.MoonsSigns", spec := "moonsSigns", unfollowed := true, recurses := true, named := ["math/bits.divideError", "math/bits.overflowError", "ephemeris/dial.heights"], apart := false, laid := [("ephemeris/dial.heights", laid_ephemeris_dial_heights)], narrowed := true }
def MoonsSignsUptoSaid : Prop := moonsSignsUptoRow.holds Tryz.pinned (OpenSpec.upto moonsSignsSpec)

/-- 'ephemeristop.EphemerisRegions', WHERE WHAT IT READS IS OF BULK AT MOST 1048576: true; the input reads as it did. -/
def ephemerisRegionsUptoRow : OpenClaim := { program := "ytnljadejcfgmaaagreatdoor", sum := "7758414ec9656a4a08c1e3c77ffd172ab687c36c83ad891f8b615064ff61760a", func := "ephemeris/ephemeristop.EphemerisRegions", spec := "ephemerisRegions", unfollowed := true, recurses := true, named := ["math/bits.divideError", "math/bits.overflowError", "ephemeris/dial.heights"], apart := false, laid := [("ephemeris/dial.heights", laid_ephemeris_dial_heights)], narrowed := true }
def EphemerisRegionsUptoSaid : Prop := ephemerisRegionsUptoRow.holds Tryz.pinned (OpenSpec.upto ephemerisRegionsSpec)

end Rows
end Go.Proofs.YtnljadejcfgmaaaGreatDoor
