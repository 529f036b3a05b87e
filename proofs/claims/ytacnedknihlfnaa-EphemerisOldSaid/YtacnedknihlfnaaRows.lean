/-
  No cell of these rows narrows 'for every input' (looked for: loops, veiled, ifaces, maps, wideKeys, modest, calm, conditions, laid).
  DERIVED. THE GIVEN ROWS OF THIS SEAT. 10 by the template 'for every input the law returns true; each argument reads behind the call as it read before'; 0 by the template 'total and deterministic' (their statements: YtacnedknihlfnaaTotals.lean).
  GIVEN WITH THE SEED: the statements are not yours to turn. If you find one false, say at which input.
  Laid BY PROGRAM, IN A SANDBOX (cutbox-rows.mjs): the forced cells as the released guide's own fill.sh prints them over the translation 72f451e43736711e… (all of the seat's roots in one cut). By AI agents, Wed Nov 11 2026. No macro, syntax, notation, axiom, sorry.
-/
import Derived.Test.YtacnedknihlfnaaChecked
import GoSem.Claim
import GoSem.ClaimJoined
import GoSem.ClaimMapViews
import Derived.JoinedTies
import Derived.KernelRfl
namespace Go.Proofs.Ytacnedknihlfnaa
/- THE CELL 'sum', in the pinned program and in every row, IS THE sha256 OF THE DUMP (.gsa) THAT YtacnedknihlfnaaProg.lean LOADS. Nothing in Lean hashes anything: it is a label: what it is worth is what the hold of that sum in a sandbox is worth. -/
noncomputable def Try.pinned : Pinned := { name := "ytacnedknihlfnaa", sum := "72f451e43736711eef525f83c18a9fccdf2205b53a38a936bbcb6f93467dd192", checked := Try.checked }
namespace Rows
def none {H : Type} : Left H := { results := [], args := [] }

/-- 'ephemerislaw16.OldsunDays': WHATEVER THE INPUT: true; the input reads as it did. -/
def oldsunDaysSpec : ChangeSpec := { name := "oldsunDays", fn := fun _ => fun
  | [d] => { results := [.lit (.bool true)], args := [d] }
  | _ => none }
def oldsunDaysRow : OpenClaim := { program := "ytacnedknihlfnaa", sum := "72f451e43736711eef525f83c18a9fccdf2205b53a38a936bbcb6f93467dd192", func := "ephemeris/ephemerislaw16.OldsunDays", spec := "oldsunDays", named := ["math/bits.divideError", "math/bits.overflowError"], apart := false }
def OldsunDaysSaid : Prop := oldsunDaysRow.holds Try.pinned (OpenSpec.ofChange oldsunDaysSpec)

/-- ITS FALSE NEIGHBOUR: 'it returns false'. Refute it at one input. -/
def oldsunDaysWrong : ChangeSpec := { name := "oldsunDays", fn := fun _ => fun
  | [d] => { results := [.lit (.bool false)], args := [d] }
  | _ => none }
def OldsunDaysWrongFalsely : Prop := oldsunDaysRow.holds Try.pinned (OpenSpec.ofChange oldsunDaysWrong)

/-- 'ephemerislaw16.OldsunDates': WHATEVER THE INPUT: true; the input reads as it did. -/
def oldsunDatesSpec : ChangeSpec := { name := "oldsunDates", fn := fun _ => fun
  | [d1, d2, d3] => { results := [.lit (.bool true)], args := [d1, d2, d3] }
  | _ => none }
def oldsunDatesRow : OpenClaim := { program := "ytacnedknihlfnaa", sum := "72f451e43736711eef525f83c18a9fccdf2205b53a38a936bbcb6f93467dd192", func := "ephemeris/ephemerislaw16.OldsunDates", spec := "oldsunDates", named := ["math/bits.divideError", "math/bits.overflowError"], apart := false }
def OldsunDatesSaid : Prop := oldsunDatesRow.holds Try.pinned (OpenSpec.ofChange oldsunDatesSpec)

/-- ITS FALSE NEIGHBOUR: 'it returns false'. Refute it at one input. -/
def oldsunDatesWrong : ChangeSpec := { name := "oldsunDates", fn := fun _ => fun
  | [d1, d2, d3] => { results := [.lit (.bool false)], args := [d1, d2, d3] }
  | _ => none }
def OldsunDatesWrongFalsely : Prop := oldsunDatesRow.holds Try.pinned (OpenSpec.ofChange oldsunDatesWrong)

/-- 'ephemerislaw16.OldsunSteps': WHATEVER THE INPUT: true; the input reads as it did. -/
def oldsunStepsSpec : ChangeSpec := { name := "oldsunSteps", fn := fun _ => fun
  | [d] => { results := [.lit (.bool true)], args := [d] }
  | _ => none }
def oldsunStepsRow : OpenClaim := { program := "ytacnedknihlfnaa", sum := "72f451e43736711eef525f83c18a9fccdf2205b53a38a936bbcb6f93467dd192", func := "ephemeris/ephemerislaw16.OldsunSteps", spec := "oldsunSteps", named := ["math/bits.divideError", "math/bits.overflowError"], apart := false }
def OldsunStepsSaid : Prop := oldsunStepsRow.holds Try.pinned (OpenSpec.ofChange oldsunStepsSpec)

/-- ITS FALSE NEIGHBOUR: 'it returns false'. Refute it at one input. -/
def oldsunStepsWrong : ChangeSpec := { name := "oldsunSteps", fn := fun _ => fun
  | [d] => { results := [.lit (.bool false)], args := [d] }
  | _ => none }
def OldsunStepsWrongFalsely : Prop := oldsunStepsRow.holds Try.pinned (OpenSpec.ofChange oldsunStepsWrong)

/-- 'ephemerislaw16.OldsunYears': WHATEVER THE INPUT: true; the input reads as it did. -/
def oldsunYearsSpec : ChangeSpec := { name := "oldsunYears", fn := fun _ => fun
  | [d] => { results := [.lit (.bool true)], args := [d] }
  | _ => none }
def oldsunYearsRow : OpenClaim := { program := "ytacnedknihlfnaa", sum := "72f451e43736711eef525f83c18a9fccdf2205b53a38a936bbcb6f93467dd192", func := "ephemeris/ephemerislaw16.OldsunYears", spec := "oldsunYears", named := ["math/bits.divideError", "math/bits.overflowError"], apart := false }
def OldsunYearsSaid : Prop := oldsunYearsRow.holds Try.pinned (OpenSpec.ofChange oldsunYearsSpec)

/-- ITS FALSE NEIGHBOUR: 'it returns false'. Refute it at one input. -/
def oldsunYearsWrong : ChangeSpec := { name := "oldsunYears", fn := fun _ => fun
  | [d] => { results := [.lit (.bool false)], args := [d] }
  | _ => none }
def OldsunYearsWrongFalsely : Prop := oldsunYearsRow.holds Try.pinned (OpenSpec.ofChange oldsunYearsWrong)

/-- 'ephemerislaw17.OldmoonDays': WHATEVER THE INPUT: true; the input reads as it did. -/
def oldmoonDaysSpec : ChangeSpec := { name := "oldmoonDays", fn := fun _ => fun
  | [d] => { results := [.lit (.bool true)], args := [d] }
  | _ => none }
def oldmoonDaysRow : OpenClaim := { program := "ytacnedknihlfnaa", sum := "72f451e43736711eef525f83c18a9fccdf2205b53a38a936bbcb6f93467dd192", func := "ephemeris/ephemerislaw17.OldmoonDays", spec := "oldmoonDays", named := ["math/bits.divideError", "math/bits.overflowError"], apart := false }
def OldmoonDaysSaid : Prop := oldmoonDaysRow.holds Try.pinned (OpenSpec.ofChange oldmoonDaysSpec)

/-- ITS FALSE NEIGHBOUR: 'it returns false'. Refute it at one input. -/
def oldmoonDaysWrong : ChangeSpec := { name := "oldmoonDays", fn := fun _ => fun
  | [d] => { results := [.lit (.bool false)], args := [d] }
  | _ => none }
def OldmoonDaysWrongFalsely : Prop := oldmoonDaysRow.holds Try.pinned (OpenSpec.ofChange oldmoonDaysWrong)

/-- 'ephemerislaw17.OldmoonDates': WHATEVER THE INPUT: true; the input reads as it did. -/
def oldmoonDatesSpec : ChangeSpec := { name := "oldmoonDates", fn := fun _ => fun
  | [d1, d2, d3, d4] => { results := [.lit (.bool true)], args := [d1, d2, d3, d4] }
  | _ => none }
def oldmoonDatesRow : OpenClaim := { program := "ytacnedknihlfnaa", sum := "72f451e43736711eef525f83c18a9fccdf2205b53a38a936bbcb6f93467dd192", func := "ephemeris/ephemerislaw17.OldmoonDates", spec := "oldmoonDates", named := ["math/bits.divideError", "math/bits.overflowError"], apart := false }
def OldmoonDatesSaid : Prop := oldmoonDatesRow.holds Try.pinned (OpenSpec.ofChange oldmoonDatesSpec)

/-- ITS FALSE NEIGHBOUR: 'it returns false'. Refute it at one input. -/
def oldmoonDatesWrong : ChangeSpec := { name := "oldmoonDates", fn := fun _ => fun
  | [d1, d2, d3, d4] => { results := [.lit (.bool false)], args := [d1, d2, d3, d4] }
  | _ => none }
def OldmoonDatesWrongFalsely : Prop := oldmoonDatesRow.holds Try.pinned (OpenSpec.ofChange oldmoonDatesWrong)

/-- 'ephemerislaw17.OldmoonSteps': WHATEVER THE INPUT: true; the input reads as it did. -/
def oldmoonStepsSpec : ChangeSpec := { name := "oldmoonSteps", fn := fun _ => fun
  | [d] => { results := [.lit (.bool true)], args := [d] }
  | _ => none }
def oldmoonStepsRow : OpenClaim := { program := "ytacnedknihlfnaa", sum := "72f451e43736711eef525f83c18a9fccdf2205b53a38a936bbcb6f93467dd192", func := "ephemeris/ephemerislaw17.OldmoonSteps", spec := "oldmoonSteps", named := ["math/bits.divideError", "math/bits.overflowError"], apart := false }
def OldmoonStepsSaid : Prop := oldmoonStepsRow.holds Try.pinned (OpenSpec.ofChange oldmoonStepsSpec)

/-- ITS FALSE NEIGHBOUR: 'it returns false'. Refute it at one input. -/
def oldmoonStepsWrong : ChangeSpec := { name := "oldmoonSteps", fn := fun _ => fun
  | [d] => { results := [.lit (.bool false)], args := [d] }
  | _ => none }
def OldmoonStepsWrongFalsely : Prop := oldmoonStepsRow.holds Try.pinned (OpenSpec.ofChange oldmoonStepsWrong)

/-- 'ephemerislaw17.OldmoonMonths': WHATEVER THE INPUT: true; the input reads as it did. -/
def oldmoonMonthsSpec : ChangeSpec := { name := "oldmoonMonths", fn := fun _ => fun
  | [d] => { results := [.lit (.bool true)], args := [d] }
  | _ => none }
def oldmoonMonthsRow : OpenClaim := { program := "ytacnedknihlfnaa", sum := "72f451e43736711eef525f83c18a9fccdf2205b53a38a936bbcb6f93467dd192", func := "ephemeris/ephemerislaw17.OldmoonMonths", spec := "oldmoonMonths", named := ["math/bits.divideError", "math/bits.overflowError"], apart := false }
def OldmoonMonthsSaid : Prop := oldmoonMonthsRow.holds Try.pinned (OpenSpec.ofChange oldmoonMonthsSpec)

/-- ITS FALSE NEIGHBOUR: 'it returns false'. Refute it at one input. -/
def oldmoonMonthsWrong : ChangeSpec := { name := "oldmoonMonths", fn := fun _ => fun
  | [d] => { results := [.lit (.bool false)], args := [d] }
  | _ => none }
def OldmoonMonthsWrongFalsely : Prop := oldmoonMonthsRow.holds Try.pinned (OpenSpec.ofChange oldmoonMonthsWrong)

/-- 'ephemerislaw17.OldmoonYears': WHATEVER THE INPUT: true; the input reads as it did. -/
def oldmoonYearsSpec : ChangeSpec := { name := "oldmoonYears", fn := fun _ => fun
  | [d] => { results := [.lit (.bool true)], args := [d] }
  | _ => none }
def oldmoonYearsRow : OpenClaim := { program := "ytacnedknihlfnaa", sum := "72f451e43736711eef525f83c18a9fccdf2205b53a38a936bbcb6f93467dd192", func := "ephemeris/ephemerislaw17.OldmoonYears", spec := "oldmoonYears", named := ["math/bits.divideError", "math/bits.overflowError"], apart := false }
def OldmoonYearsSaid : Prop := oldmoonYearsRow.holds Try.pinned (OpenSpec.ofChange oldmoonYearsSpec)

/-- ITS FALSE NEIGHBOUR: 'it returns false'. Refute it at one input. -/
def oldmoonYearsWrong : ChangeSpec := { name := "oldmoonYears", fn := fun _ => fun
  | [d] => { results := [.lit (.bool false)], args := [d] }
  | _ => none }
def OldmoonYearsWrongFalsely : Prop := oldmoonYearsRow.holds Try.pinned (OpenSpec.ofChange oldmoonYearsWrong)

/-- 'ephemeristop.EphemerisOld': WHATEVER THE INPUT: true; the input reads as it did. -/
def ephemerisOldSpec : ChangeSpec := { name := "ephemerisOld", fn := fun _ => fun
  | [d] => { results := [.lit (.bool true)], args := [d] }
  | _ => none }
def ephemerisOldRow : OpenClaim := { program := "ytacnedknihlfnaa", sum := "72f451e43736711eef525f83c18a9fccdf2205b53a38a936bbcb6f93467dd192", func := "ephemeris/ephemeristop.EphemerisOld", spec := "ephemerisOld", named := ["math/bits.divideError", "math/bits.overflowError"], apart := false }
def EphemerisOldSaid : Prop := ephemerisOldRow.holds Try.pinned (OpenSpec.ofChange ephemerisOldSpec)

/-- ITS FALSE NEIGHBOUR: 'it returns false'. Refute it at one input. -/
def ephemerisOldWrong : ChangeSpec := { name := "ephemerisOld", fn := fun _ => fun
  | [d] => { results := [.lit (.bool false)], args := [d] }
  | _ => none }
def EphemerisOldWrongFalsely : Prop := ephemerisOldRow.holds Try.pinned (OpenSpec.ofChange ephemerisOldWrong)

/- THE SECOND FORM. 'bulk': how many values and letters a reading holds, each counted each time it is reached (what is shared counts as often as it is met; a slice's spare places count too). A statement '..UptoSaid' is the law's where the arguments, and the package variables that the reading takes, are together of bulk at most 1048576: NARROWER than '..Said'. Prove '..Said' where nothing that the law and all that it calls make is longer than what came in: it says more and counts as full. Else prove '..UptoSaid'. A law counts once. -/
mutual
def uptoBulk {H : Type} : DataW H → Nat
  | .lit (.string bytes) => bytes.length + 1
  | .lit _ => 1
  | .nil => 1
  | .ptr d => uptoBulk d + 1
  | .slice elems spare => uptoBulkAll elems + uptoBulkAll spare + 1
  | .agg parts => uptoBulkAll parts + 1
  | .iface _ d => uptoBulk d + 1
  | .map entries => uptoBulkEntries entries + 1
  | .held _ => 1
def uptoBulkAll {H : Type} : List (DataW H) → Nat
  | [] => 0
  | d :: r => uptoBulk d + uptoBulkAll r
def uptoBulkEntries {H : Type} : List (Lit × DataW H) → Nat
  | [] => 0
  | x :: r => uptoBulkEntry x + uptoBulkEntries r
def uptoBulkEntry {H : Type} : Lit × DataW H → Nat
  | (.string bytes, d) => bytes.length + uptoBulk d + 1
  | (_, d) => uptoBulk d + 1
 end
def uptoSmall : (H : Type) → List (DataW H) → Bool := fun _ ds => decide (uptoBulkAll ds ≤ 1048576)
def OpenSpec.upto (s : _root_.Go.ChangeSpec) : _root_.Go.OpenSpec := { _root_.Go.OpenSpec.ofChange s with cond := some uptoSmall }

/-- 'ephemerislaw16.OldsunDays', WHERE WHAT IT READS IS OF BULK AT MOST 1048576: true; the input reads as it did. -/
def oldsunDaysUptoRow : OpenClaim := { program := "ytacnedknihlfnaa", sum := "72f451e43736711eef525f83c18a9fccdf2205b53a38a936bbcb6f93467dd192", func := "ephemeris/ephemerislaw16.OldsunDays", spec := "oldsunDays", named := ["math/bits.divideError", "math/bits.overflowError"], apart := false, narrowed := true }
def OldsunDaysUptoSaid : Prop := oldsunDaysUptoRow.holds Try.pinned (OpenSpec.upto oldsunDaysSpec)

/-- 'ephemerislaw16.OldsunDates', WHERE WHAT IT READS IS OF BULK AT MOST 1048576: true; the input reads as it did. -/
def oldsunDatesUptoRow : OpenClaim := { program := "ytacnedknihlfnaa", sum := "72f451e43736711eef525f83c18a9fccdf2205b53a38a936bbcb6f93467dd192", func := "ephemeris/ephemerislaw16.OldsunDates", spec := "oldsunDates", named := ["math/bits.divideError", "math/bits.overflowError"], apart := false, narrowed := true }
def OldsunDatesUptoSaid : Prop := oldsunDatesUptoRow.holds Try.pinned (OpenSpec.upto oldsunDatesSpec)

/-- 'ephemerislaw16.OldsunSteps', WHERE WHAT IT READS IS OF BULK AT MOST 1048576: true; the input reads as it did. -/
def oldsunStepsUptoRow : OpenClaim := { program := "ytacnedknihlfnaa", sum := "72f451e43736711eef525f83c18a9fccdf2205b53a38a936bbcb6f93467dd192", func := "ephemeris/ephemerislaw16.OldsunSteps", spec := "oldsunSteps", named := ["math/bits.divideError", "math/bits.overflowError"], apart := false, narrowed := true }
def OldsunStepsUptoSaid : Prop := oldsunStepsUptoRow.holds Try.pinned (OpenSpec.upto oldsunStepsSpec)

/-- 'ephemerislaw16.OldsunYears', WHERE WHAT IT READS IS OF BULK AT MOST 1048576: true; the input reads as it did. -/
def oldsunYearsUptoRow : OpenClaim := { program := "ytacnedknihlfnaa", sum := "72f451e43736711eef525f83c18a9fccdf2205b53a38a936bbcb6f93467dd192", func := "ephemeris/ephemerislaw16.OldsunYears", spec := "oldsunYears", named := ["math/bits.divideError", "math/bits.overflowError"], apart := false, narrowed := true }
def OldsunYearsUptoSaid : Prop := oldsunYearsUptoRow.holds Try.pinned (OpenSpec.upto oldsunYearsSpec)

/-- 'ephemerislaw17.OldmoonDays', WHERE WHAT IT READS IS OF BULK AT MOST 1048576: true; the input reads as it did. -/
def oldmoonDaysUptoRow : OpenClaim := { program := "ytacnedknihlfnaa", sum := "72f451e43736711eef525f83c18a9fccdf2205b53a38a936bbcb6f93467dd192", func := "ephemeris/ephemerislaw17.OldmoonDays", spec := "oldmoonDays", named := ["math/bits.divideError", "math/bits.overflowError"], apart := false, narrowed := true }
def OldmoonDaysUptoSaid : Prop := oldmoonDaysUptoRow.holds Try.pinned (OpenSpec.upto oldmoonDaysSpec)

/-- 'ephemerislaw17.OldmoonDates', WHERE WHAT IT READS IS OF BULK AT MOST 1048576: true; the input reads as it did. -/
def oldmoonDatesUptoRow : OpenClaim := { program := "ytacnedknihlfnaa", sum := "72f451e43736711eef525f83c18a9fccdf2205b53a38a936bbcb6f93467dd192", func := "ephemeris/ephemerislaw17.OldmoonDates", spec := "oldmoonDates", named := ["math/bits.divideError", "math/bits.overflowError"], apart := false, narrowed := true }
def OldmoonDatesUptoSaid : Prop := oldmoonDatesUptoRow.holds Try.pinned (OpenSpec.upto oldmoonDatesSpec)

/-- 'ephemerislaw17.OldmoonSteps', WHERE WHAT IT READS IS OF BULK AT MOST 1048576: true; the input reads as it did. -/
def oldmoonStepsUptoRow : OpenClaim := { program := "ytacnedknihlfnaa", sum := "72f451e43736711eef525f83c18a9fccdf2205b53a38a936bbcb6f93467dd192", func := "ephemeris/ephemerislaw17.OldmoonSteps", spec := "oldmoonSteps", named := ["math/bits.divideError", "math/bits.overflowError"], apart := false, narrowed := true }
def OldmoonStepsUptoSaid : Prop := oldmoonStepsUptoRow.holds Try.pinned (OpenSpec.upto oldmoonStepsSpec)

/-- 'ephemerislaw17.OldmoonMonths', WHERE WHAT IT READS IS OF BULK AT MOST 1048576: true; the input reads as it did. -/
def oldmoonMonthsUptoRow : OpenClaim := { program := "ytacnedknihlfnaa", sum := "72f451e43736711eef525f83c18a9fccdf2205b53a38a936bbcb6f93467dd192", func := "ephemeris/ephemerislaw17.OldmoonMonths", spec := "oldmoonMonths", named := ["math/bits.divideError", "math/bits.overflowError"], apart := false, narrowed := true }
def OldmoonMonthsUptoSaid : Prop := oldmoonMonthsUptoRow.holds Try.pinned (OpenSpec.upto oldmoonMonthsSpec)

/-- 'ephemerislaw17.OldmoonYears', WHERE WHAT IT READS IS OF BULK AT MOST 1048576: true; the input reads as it did. -/
def oldmoonYearsUptoRow : OpenClaim := { program := "ytacnedknihlfnaa", sum := "72f451e43736711eef525f83c18a9fccdf2205b53a38a936bbcb6f93467dd192", func := "ephemeris/ephemerislaw17.OldmoonYears", spec := "oldmoonYears", named := ["math/bits.divideError", "math/bits.overflowError"], apart := false, narrowed := true }
def OldmoonYearsUptoSaid : Prop := oldmoonYearsUptoRow.holds Try.pinned (OpenSpec.upto oldmoonYearsSpec)

/-- 'ephemeristop.EphemerisOld', WHERE WHAT IT READS IS OF BULK AT MOST 1048576: true; the input reads as it did. -/
def ephemerisOldUptoRow : OpenClaim := { program := "ytacnedknihlfnaa", sum := "72f451e43736711eef525f83c18a9fccdf2205b53a38a936bbcb6f93467dd192", func := "ephemeris/ephemeristop.EphemerisOld", spec := "ephemerisOld", named := ["math/bits.divideError", "math/bits.overflowError"], apart := false, narrowed := true }
def EphemerisOldUptoSaid : Prop := ephemerisOldUptoRow.holds Try.pinned (OpenSpec.upto ephemerisOldSpec)

end Rows
end Go.Proofs.Ytacnedknihlfnaa
