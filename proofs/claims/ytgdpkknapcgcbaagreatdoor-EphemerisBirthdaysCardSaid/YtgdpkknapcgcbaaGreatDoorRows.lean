/-
  NARROWER THAN 'FOR EVERY INPUT', by the rows' own cells (each row's printed sentence says how): AlmanacDays: laid · AlmanacParts: laid · AlmanacTithis: laid · AlmanacEntry: laid · AlmanacBad: laid · TablesBegin: laid · TablesLunar: laid · TablesYears: laid · TablesSolar: laid · TablesMonth: laid · TablesBirthday: laid · EphemerisBirthdays: laid.
  DERIVED. THE GIVEN ROWS OF THIS SEAT. 12 by the template 'for every input the law returns true; each argument reads behind the call as it read before'; 0 by the template 'total and deterministic' (their statements: YtgdpkknapcgcbaaGreatDoorTotals.lean).
  GIVEN WITH THE SEED: the statements are not yours to turn. If you find one false, say at which input.
  Laid BY PROGRAM, IN A SANDBOX (cutbox-rows.mjs): the forced cells as the released guide's own fill.sh prints them over the translation ac4a2fb21925c7f5… (all of the seat's roots in one cut). By AI agents, Wed Nov 11 2026. No macro, syntax, notation, axiom, sorry.
-/
import Derived.Test.YtgdpkknapcgcbaaGreatDoorChecked
import GoSem.Claim
import GoSem.ClaimJoined
import GoSem.ClaimMapViews
import Derived.JoinedTies
import Derived.KernelRfl
namespace Go.Proofs.YtgdpkknapcgcbaaGreatDoor
/- THE CELL 'sum', in the pinned program and in every row, IS THE sha256 OF THE DUMP (.gsa) THAT YtgdpkknapcgcbaaGreatDoorProg.lean LOADS. Nothing in Lean hashes anything: it is a label: what it is worth is what the hold of that sum in a sandbox is worth. -/
noncomputable def Tryz.pinned : Pinned := { name := "ytgdpkknapcgcbaagreatdoor", sum := "ac4a2fb21925c7f54dc97d0da4e1065daee605c6cb88a1dcd02707e4bc47918a", checked := Tryz.checked }
namespace Rows
def none {H : Type} : Left H := { results := [], args := [] }

/- WHAT THE LISTED PACKAGE-LEVEL VARIABLES READ AS WHEN THE CALL BEGINS. Each datum BY PROGRAM (the guide's laid-datum.mjs) off the statement by which the dump's own 'gosem.cut.vars' lays the variable. In a bare row this is a premise. The card (YtgdpkknapcgcbaaGreatDoorCards.lean) ties it to the program's text. -/
def laid_ephemeris_dial_heights {H : Type} : DataW H := .agg [.lit (.int .i64 0), .lit (.int .i64 225), .lit (.int .i64 449), .lit (.int .i64 671), .lit (.int .i64 890), .lit (.int .i64 1105), .lit (.int .i64 1315), .lit (.int .i64 1520), .lit (.int .i64 1719), .lit (.int .i64 1910), .lit (.int .i64 2093), .lit (.int .i64 2267), .lit (.int .i64 2431), .lit (.int .i64 2585), .lit (.int .i64 2728), .lit (.int .i64 2859), .lit (.int .i64 2978), .lit (.int .i64 3084), .lit (.int .i64 3177), .lit (.int .i64 3256), .lit (.int .i64 3321), .lit (.int .i64 3372), .lit (.int .i64 3409), .lit (.int .i64 3431), .lit (.int .i64 3438)]

/-- 'ephemerislaw24.AlmanacDays': WHATEVER THE INPUT: true; the input reads as it did. -/
def almanacDaysSpec : ChangeSpec := { name := "almanacDays", fn := fun _ => fun
  | [d1, d2] => { results := [.lit (.bool true)], args := [d1, d2] }
  | _ => none }
def almanacDaysRow : OpenClaim := { program := "ytgdpkknapcgcbaagreatdoor", sum := "ac4a2fb21925c7f54dc97d0da4e1065daee605c6cb88a1dcd02707e4bc47918a", func := "ephemeris/ephemerislaw24.AlmanacDays", spec := "almanacDays", unfollowed := true, recurses := true, named := ["math/bits.divideError", "math/bits.overflowError", "ephemeris/dial.heights"], apart := false, laid := [("ephemeris/dial.heights", laid_ephemeris_dial_heights)] }
def AlmanacDaysSaid : Prop := almanacDaysRow.holds Tryz.pinned (OpenSpec.ofChange almanacDaysSpec)

/-- ITS FALSE NEIGHBOUR: 'it returns false'. Refute it at one input. -/
def almanacDaysWrong : ChangeSpec := { name := "almanacDays", fn := fun _ => fun
  | [d1, d2] => { results := [.lit (.bool false)], args := [d1, d2] }
  | _ => none }
def AlmanacDaysWrongFalsely : Prop := almanacDaysRow.holds Tryz.pinned (OpenSpec.ofChange almanacDaysWrong)

/-- 'ephemerislaw24.AlmanacParts': WHATEVER THE INPUT: true; the input reads as it did. -/
def almanacPartsSpec : ChangeSpec := { name := "almanacParts", fn := fun _ => fun
  | [d1, d2, d3] => { results := [.lit (.bool true)], args := [d1, d2, d3] }
  | _ => none }
def almanacPartsRow : OpenClaim := { program := "ytgdpkknapcgcbaagreatdoor", sum := "ac4a2fb21925c7f54dc97d0da4e1065daee605c6cb88a1dcd02707e4bc47918a", func := "ephemeris/ephemerislaw24.AlmanacParts", spec := "almanacParts", unfollowed := true, recurses := true, named := ["math/bits.divideError", "math/bits.overflowError", "ephemeris/dial.heights"], apart := false, laid := [("ephemeris/dial.heights", laid_ephemeris_dial_heights)] }
def AlmanacPartsSaid : Prop := almanacPartsRow.holds Tryz.pinned (OpenSpec.ofChange almanacPartsSpec)

/-- ITS FALSE NEIGHBOUR: 'it returns false'. Refute it at one input. -/
def almanacPartsWrong : ChangeSpec := { name := "almanacParts", fn := fun _ => fun
  | [d1, d2, d3] => { results := [.lit (.bool false)], args := [d1, d2, d3] }
  | _ => none }
def AlmanacPartsWrongFalsely : Prop := almanacPartsRow.holds Tryz.pinned (OpenSpec.ofChange almanacPartsWrong)

/-- 'ephemerislaw24.AlmanacTithis': WHATEVER THE INPUT: true; the input reads as it did. -/
def almanacTithisSpec : ChangeSpec := { name := "almanacTithis", fn := fun _ => fun
  | [d1, d2] => { results := [.lit (.bool true)], args := [d1, d2] }
  | _ => none }
def almanacTithisRow : OpenClaim := { program := "ytgdpkknapcgcbaagreatdoor", sum := "ac4a2fb21925c7f54dc97d0da4e1065daee605c6cb88a1dcd02707e4bc47918a", func := "ephemeris/ephemerislaw24.AlmanacTithis", spec := "almanacTithis", unfollowed := true, recurses := true, named := ["math/bits.divideError", "math/bits.overflowError", "ephemeris/dial.heights"], apart := false, laid := [("ephemeris/dial.heights", laid_ephemeris_dial_heights)] }
def AlmanacTithisSaid : Prop := almanacTithisRow.holds Tryz.pinned (OpenSpec.ofChange almanacTithisSpec)

/-- ITS FALSE NEIGHBOUR: 'it returns false'. Refute it at one input. -/
def almanacTithisWrong : ChangeSpec := { name := "almanacTithis", fn := fun _ => fun
  | [d1, d2] => { results := [.lit (.bool false)], args := [d1, d2] }
  | _ => none }
def AlmanacTithisWrongFalsely : Prop := almanacTithisRow.holds Tryz.pinned (OpenSpec.ofChange almanacTithisWrong)

/-- 'ephemerislaw24.AlmanacEntry': WHATEVER THE INPUT: true; the input reads as it did. -/
def almanacEntrySpec : ChangeSpec := { name := "almanacEntry", fn := fun _ => fun
  | [d1, d2] => { results := [.lit (.bool true)], args := [d1, d2] }
  | _ => none }
def almanacEntryRow : OpenClaim := { program := "ytgdpkknapcgcbaagreatdoor", sum := "ac4a2fb21925c7f54dc97d0da4e1065daee605c6cb88a1dcd02707e4bc47918a", func := "ephemeris/ephemerislaw24.AlmanacEntry", spec := "almanacEntry", unfollowed := true, recurses := true, named := ["math/bits.divideError", "math/bits.overflowError", "ephemeris/dial.heights"], apart := false, laid := [("ephemeris/dial.heights", laid_ephemeris_dial_heights)] }
def AlmanacEntrySaid : Prop := almanacEntryRow.holds Tryz.pinned (OpenSpec.ofChange almanacEntrySpec)

/-- ITS FALSE NEIGHBOUR: 'it returns false'. Refute it at one input. -/
def almanacEntryWrong : ChangeSpec := { name := "almanacEntry", fn := fun _ => fun
  | [d1, d2] => { results := [.lit (.bool false)], args := [d1, d2] }
  | _ => none }
def AlmanacEntryWrongFalsely : Prop := almanacEntryRow.holds Tryz.pinned (OpenSpec.ofChange almanacEntryWrong)

/-- 'ephemerislaw24.AlmanacBad': WHATEVER THE INPUT: true; the input reads as it did. -/
def almanacBadSpec : ChangeSpec := { name := "almanacBad", fn := fun _ => fun
  | [d1, d2] => { results := [.lit (.bool true)], args := [d1, d2] }
  | _ => none }
def almanacBadRow : OpenClaim := { program := "ytgdpkknapcgcbaagreatdoor", sum := "ac4a2fb21925c7f54dc97d0da4e1065daee605c6cb88a1dcd02707e4bc47918a", func := "ephemeris/ephemerislaw24.AlmanacBad", spec := "almanacBad", unfollowed := true, recurses := true, named := ["math/bits.divideError", "math/bits.overflowError", "ephemeris/dial.heights"], apart := false, laid := [("ephemeris/dial.heights", laid_ephemeris_dial_heights)] }
def AlmanacBadSaid : Prop := almanacBadRow.holds Tryz.pinned (OpenSpec.ofChange almanacBadSpec)

/-- ITS FALSE NEIGHBOUR: 'it returns false'. Refute it at one input. -/
def almanacBadWrong : ChangeSpec := { name := "almanacBad", fn := fun _ => fun
  | [d1, d2] => { results := [.lit (.bool false)], args := [d1, d2] }
  | _ => none }
def AlmanacBadWrongFalsely : Prop := almanacBadRow.holds Tryz.pinned (OpenSpec.ofChange almanacBadWrong)

/-- 'ephemerislaw25.TablesBegin': WHATEVER THE INPUT: true; the input reads as it did. -/
def tablesBeginSpec : ChangeSpec := { name := "tablesBegin", fn := fun _ => fun
  | [d1, d2] => { results := [.lit (.bool true)], args := [d1, d2] }
  | _ => none }
def tablesBeginRow : OpenClaim := { program := "ytgdpkknapcgcbaagreatdoor", sum := "ac4a2fb21925c7f54dc97d0da4e1065daee605c6cb88a1dcd02707e4bc47918a", func := "ephemeris/ephemerislaw25.TablesBegin", spec := "tablesBegin", unfollowed := true, recurses := true, named := ["math/bits.divideError", "math/bits.overflowError", "ephemeris/dial.heights"], apart := false, laid := [("ephemeris/dial.heights", laid_ephemeris_dial_heights)] }
def TablesBeginSaid : Prop := tablesBeginRow.holds Tryz.pinned (OpenSpec.ofChange tablesBeginSpec)

/-- ITS FALSE NEIGHBOUR: 'it returns false'. Refute it at one input. -/
def tablesBeginWrong : ChangeSpec := { name := "tablesBegin", fn := fun _ => fun
  | [d1, d2] => { results := [.lit (.bool false)], args := [d1, d2] }
  | _ => none }
def TablesBeginWrongFalsely : Prop := tablesBeginRow.holds Tryz.pinned (OpenSpec.ofChange tablesBeginWrong)

/-- 'ephemerislaw25.TablesLunar': WHATEVER THE INPUT: true; the input reads as it did. -/
def tablesLunarSpec : ChangeSpec := { name := "tablesLunar", fn := fun _ => fun
  | [d1, d2, d3] => { results := [.lit (.bool true)], args := [d1, d2, d3] }
  | _ => none }
def tablesLunarRow : OpenClaim := { program := "ytgdpkknapcgcbaagreatdoor", sum := "ac4a2fb21925c7f54dc97d0da4e1065daee605c6cb88a1dcd02707e4bc47918a", func := "ephemeris/ephemerislaw25.TablesLunar", spec := "tablesLunar", unfollowed := true, recurses := true, named := ["math/bits.divideError", "math/bits.overflowError", "ephemeris/dial.heights"], apart := false, laid := [("ephemeris/dial.heights", laid_ephemeris_dial_heights)] }
def TablesLunarSaid : Prop := tablesLunarRow.holds Tryz.pinned (OpenSpec.ofChange tablesLunarSpec)

/-- ITS FALSE NEIGHBOUR: 'it returns false'. Refute it at one input. -/
def tablesLunarWrong : ChangeSpec := { name := "tablesLunar", fn := fun _ => fun
  | [d1, d2, d3] => { results := [.lit (.bool false)], args := [d1, d2, d3] }
  | _ => none }
def TablesLunarWrongFalsely : Prop := tablesLunarRow.holds Tryz.pinned (OpenSpec.ofChange tablesLunarWrong)

/-- 'ephemerislaw25.TablesYears': WHATEVER THE INPUT: true; the input reads as it did. -/
def tablesYearsSpec : ChangeSpec := { name := "tablesYears", fn := fun _ => fun
  | [d1, d2, d3] => { results := [.lit (.bool true)], args := [d1, d2, d3] }
  | _ => none }
def tablesYearsRow : OpenClaim := { program := "ytgdpkknapcgcbaagreatdoor", sum := "ac4a2fb21925c7f54dc97d0da4e1065daee605c6cb88a1dcd02707e4bc47918a", func := "ephemeris/ephemerislaw25.TablesYears", spec := "tablesYears", unfollowed := true, recurses := true, named := ["math/bits.divideError", "math/bits.overflowError", "ephemeris/dial.heights"], apart := false, laid := [("ephemeris/dial.heights", laid_ephemeris_dial_heights)] }
def TablesYearsSaid : Prop := tablesYearsRow.holds Tryz.pinned (OpenSpec.ofChange tablesYearsSpec)

/-- ITS FALSE NEIGHBOUR: 'it returns false'. Refute it at one input. -/
def tablesYearsWrong : ChangeSpec := { name := "tablesYears", fn := fun _ => fun
  | [d1, d2, d3] => { results := [.lit (.bool false)], args := [d1, d2, d3] }
  | _ => none }
def TablesYearsWrongFalsely : Prop := tablesYearsRow.holds Tryz.pinned (OpenSpec.ofChange tablesYearsWrong)

/-- 'ephemerislaw25.TablesSolar': WHATEVER THE INPUT: true; the input reads as it did. -/
def tablesSolarSpec : ChangeSpec := { name := "tablesSolar", fn := fun _ => fun
  | [d1, d2, d3, d4] => { results := [.lit (.bool true)], args := [d1, d2, d3, d4] }
  | _ => none }
def tablesSolarRow : OpenClaim := { program := "ytgdpkknapcgcbaagreatdoor", sum := "ac4a2fb21925c7f54dc97d0da4e1065daee605c6cb88a1dcd02707e4bc47918a", func := "ephemeris/ephemerislaw25.TablesSolar", spec := "tablesSolar", unfollowed := true, recurses := true, named := ["math/bits.divideError", "math/bits.overflowError", "ephemeris/dial.heights"], apart := false, laid := [("ephemeris/dial.heights", laid_ephemeris_dial_heights)] }
def TablesSolarSaid : Prop := tablesSolarRow.holds Tryz.pinned (OpenSpec.ofChange tablesSolarSpec)

/-- ITS FALSE NEIGHBOUR: 'it returns false'. Refute it at one input. -/
def tablesSolarWrong : ChangeSpec := { name := "tablesSolar", fn := fun _ => fun
  | [d1, d2, d3, d4] => { results := [.lit (.bool false)], args := [d1, d2, d3, d4] }
  | _ => none }
def TablesSolarWrongFalsely : Prop := tablesSolarRow.holds Tryz.pinned (OpenSpec.ofChange tablesSolarWrong)

/-- 'ephemerislaw25.TablesMonth': WHATEVER THE INPUT: true; the input reads as it did. -/
def tablesMonthSpec : ChangeSpec := { name := "tablesMonth", fn := fun _ => fun
  | [d1, d2, d3] => { results := [.lit (.bool true)], args := [d1, d2, d3] }
  | _ => none }
def tablesMonthRow : OpenClaim := { program := "ytgdpkknapcgcbaagreatdoor", sum := "ac4a2fb21925c7f54dc97d0da4e1065daee605c6cb88a1dcd02707e4bc47918a", func := "ephemeris/ephemerislaw25.TablesMonth", spec := "tablesMonth", unfollowed := true, recurses := true, named := ["math/bits.divideError", "math/bits.overflowError", "ephemeris/dial.heights"], apart := false, laid := [("ephemeris/dial.heights", laid_ephemeris_dial_heights)] }
def TablesMonthSaid : Prop := tablesMonthRow.holds Tryz.pinned (OpenSpec.ofChange tablesMonthSpec)

/-- ITS FALSE NEIGHBOUR: 'it returns false'. Refute it at one input. -/
def tablesMonthWrong : ChangeSpec := { name := "tablesMonth", fn := fun _ => fun
  | [d1, d2, d3] => { results := [.lit (.bool false)], args := [d1, d2, d3] }
  | _ => none }
def TablesMonthWrongFalsely : Prop := tablesMonthRow.holds Tryz.pinned (OpenSpec.ofChange tablesMonthWrong)

/-- 'ephemerislaw25.TablesBirthday': WHATEVER THE INPUT: true; the input reads as it did. -/
def tablesBirthdaySpec : ChangeSpec := { name := "tablesBirthday", fn := fun _ => fun
  | [d1, d2, d3, d4] => { results := [.lit (.bool true)], args := [d1, d2, d3, d4] }
  | _ => none }
def tablesBirthdayRow : OpenClaim := { program := "ytgdpkknapcgcbaagreatdoor", sum := "ac4a2fb21925c7f54dc97d0da4e1065daee605c6cb88a1dcd02707e4bc47918a", func := "ephemeris/ephemerislaw25.TablesBirthday", spec := "tablesBirthday", unfollowed := true, recurses := true, named := ["math/bits.divideError", "math/bits.overflowError", "ephemeris/dial.heights"], apart := false, laid := [("ephemeris/dial.heights", laid_ephemeris_dial_heights)] }
def TablesBirthdaySaid : Prop := tablesBirthdayRow.holds Tryz.pinned (OpenSpec.ofChange tablesBirthdaySpec)

/-- ITS FALSE NEIGHBOUR: 'it returns false'. Refute it at one input. -/
def tablesBirthdayWrong : ChangeSpec := { name := "tablesBirthday", fn := fun _ => fun
  | [d1, d2, d3, d4] => { results := [.lit (.bool false)], args := [d1, d2, d3, d4] }
  | _ => none }
def TablesBirthdayWrongFalsely : Prop := tablesBirthdayRow.holds Tryz.pinned (OpenSpec.ofChange tablesBirthdayWrong)

/-- 'ephemeristop.EphemerisBirthdays': WHATEVER THE INPUT: true; the input reads as it did. -/
def ephemerisBirthdaysSpec : ChangeSpec := { name := "ephemerisBirthdays", fn := fun _ => fun
  | [d1, d2, d3, d4, d5, d6, d7] => { results := [.lit (.bool true)], args := [d1, d2, d3, d4, d5, d6, d7] }
  | _ => none }
def ephemerisBirthdaysRow : OpenClaim := { program := "ytgdpkknapcgcbaagreatdoor", sum := "ac4a2fb21925c7f54dc97d0da4e1065daee605c6cb88a1dcd02707e4bc47918a", func := "ephemeris/ephemeristop.EphemerisBirthdays", spec := "ephemerisBirthdays", unfollowed := true, recurses := true, named := ["math/bits.divideError", "math/bits.overflowError", "ephemeris/dial.heights"], apart := false, laid := [("ephemeris/dial.heights", laid_ephemeris_dial_heights)] }
def EphemerisBirthdaysSaid : Prop := ephemerisBirthdaysRow.holds Tryz.pinned (OpenSpec.ofChange ephemerisBirthdaysSpec)

/-- ITS FALSE NEIGHBOUR: 'it returns false'. Refute it at one input. -/
def ephemerisBirthdaysWrong : ChangeSpec := { name := "ephemerisBirthdays", fn := fun _ => fun
  | [d1, d2, d3, d4, d5, d6, d7] => { results := [.lit (.bool false)], args := [d1, d2, d3, d4, d5, d6, d7] }
  | _ => none }
def EphemerisBirthdaysWrongFalsely : Prop := ephemerisBirthdaysRow.holds Tryz.pinned (OpenSpec.ofChange ephemerisBirthdaysWrong)

/- THE SECOND FORM. 'bulk': how many values and letters a reading holds, each counted each time it is reached (what is shared counts as often as it is met; a slice's spare places count too). A statement '..UptoSaid' is the law's where the arguments, and the package variables that the reading takes, are together of bulk at most 1048576: NARROWER than '..Said'. Prove '..Said' where nothing that the law and all that it calls make is longer than what came in: it says more and counts as full. Else prove '..UptoSaid'. A law counts once. -/
mutual
def uptoBulk {H : Type} : DataW H → Nat
  | .lit (.string bytes) => bytes.length + 1
  | .lit _ => 1
  | .nil => 1
  | .ptr d => uptoBulk d + 1
  | .slice elems spare => uptoBulkAll elems + uptoBulkAll spare + 1
  | .agg parts => uptoBulkAll parts + 1
  | .iface _ d => uptoBulk d + 1
  | .map entries => uptoBulkEntries entries + 1
  | .held _ => 1
def uptoBulkAll {H : Type} : List (DataW H) → Nat
  | [] => 0
  | d :: r => uptoBulk d + uptoBulkAll r
def uptoBulkEntries {H : Type} : List (Lit × DataW H) → Nat
  | [] => 0
  | x :: r => uptoBulkEntry x + uptoBulkEntries r
def uptoBulkEntry {H : Type} : Lit × DataW H → Nat
  | (.string bytes, d) => bytes.length + uptoBulk d + 1
  | (_, d) => uptoBulk d + 1
 end
def uptoSmall : (H : Type) → List (DataW H) → Bool := fun _ ds => decide (uptoBulkAll ds ≤ 1048576)
def OpenSpec.upto (s : _root_.Go.ChangeSpec) : _root_.Go.OpenSpec := { _root_.Go.OpenSpec.ofChange s with cond := some uptoSmall }

/-- 'ephemerislaw24.AlmanacDays', WHERE WHAT IT READS IS OF BULK AT MOST 1048576: true; the input reads as it did. -/
def almanacDaysUptoRow : OpenClaim := { program := "ytgdpkknapcgcbaagreatdoor", sum := "ac4a2fb21925c7f54dc97d0da4e1065daee605c6cb88a1dcd02707e4bc47918a", func := "ephemeris/ephemerislaw24.AlmanacDays", spec := "almanacDays", unfollowed := true, recurses := true, named := ["math/bits.divideError", "math/bits.overflowError", "ephemeris/dial.heights"], apart := false, laid := [("ephemeris/dial.heights", laid_ephemeris_dial_heights)], narrowed := true }
def AlmanacDaysUptoSaid : Prop := almanacDaysUptoRow.holds Tryz.pinned (OpenSpec.upto almanacDaysSpec)

/-- 'ephemerislaw24.AlmanacParts', WHERE WHAT IT READS IS OF BULK AT MOST 1048576: true; the input reads as it did. -/
def almanacPartsUptoRow : OpenClaim := { program := "ytgdpkknapcgcbaagreatdoor", sum := "ac4a2fb21925c7f54dc97d0da4e1065daee605c6cb88a1dcd02707e4bc47918a", func := "ephemeris/ephemerislaw24.AlmanacParts", spec := "almanacParts", unfollowed := true, recurses := true, named := ["math/bits.divideError", "math/bits.overflowError", "ephemeris/dial.heights"], apart := false, laid := [("ephemeris/dial.heights", laid_ephemeris_dial_heights)], narrowed := true }
def AlmanacPartsUptoSaid : Prop := almanacPartsUptoRow.holds Tryz.pinned (OpenSpec.upto almanacPartsSpec)

/-- 'ephemerislaw24.AlmanacTithis', WHERE WHAT IT READS IS OF BULK AT MOST 1048576: true; the input reads as it did. -/
def almanacTithisUptoRow : OpenClaim := { program := "ytgdpkknapcgcbaagreatdoor", sum := "ac4a2fb21925c7f54dc97d0da4e1065daee605c6cb88a1dcd02707e4bc47918a", func := "ephemeris/ephemerislaw24.AlmanacTithis", spec := "almanacTithis", unfollowed := true, recurses := true, named := ["math/bits.divideError", "math/bits.overflowError", "ephemeris/dial.heights"], apart := false, laid := [("ephemeris/dial.heights", laid_ephemeris_dial_heights)], narrowed := true }
def AlmanacTithisUptoSaid : Prop := almanacTithisUptoRow.holds Tryz.pinned (OpenSpec.upto almanacTithisSpec)

/-- 'ephemerislaw24.AlmanacEntry', WHERE WHAT IT READS IS OF BULK AT MOST 1048576: true; the input reads as it did. -/
def almanacEntryUptoRow : OpenClaim := { program := "ytgdpkknapcgcbaagreatdoor", sum := "ac4a2fb21925c7f54dc97d0da4e1065daee605c6cb88a1dcd02707e4bc47918a", func := "ephemeris/ephemerislaw24.AlmanacEntry", spec := "almanacEntry", unfollowed := true, recurses := true, named := ["math/bits.divideError", "math/bits.overflowError", "ephemeris/dial.heights"], apart := false, laid := [("ephemeris/dial.heights", laid_ephemeris_dial_heights)], narrowed := true }
def AlmanacEntryUptoSaid : Prop := almanacEntryUptoRow.holds Tryz.pinned (OpenSpec.upto almanacEntrySpec)

/-- 'ephemerislaw24.AlmanacBad', WHERE WHAT IT READS IS OF BULK AT MOST 1048576: true; the input reads as it did. -/
def almanacBadUptoRow : OpenClaim := { program := "ytgdpkknapcgcbaagreatdoor", sum := "ac4a2fb21925c7f54dc97d0da4e1065daee605c6cb88a1dcd02707e4bc47918a", func := "ephemeris/ephemerislaw24.AlmanacBad", spec := "almanacBad", unfollowed := true, recurses := true, named := ["math/bits.divideError", "math/bits.overflowError", "ephemeris/dial.heights"], apart := false, laid := [("ephemeris/dial.heights", laid_ephemeris_dial_heights)], narrowed := true }
def AlmanacBadUptoSaid : Prop := almanacBadUptoRow.holds Tryz.pinned (OpenSpec.upto almanacBadSpec)

/-- 'ephemerislaw25.TablesBegin', WHERE WHAT IT READS IS OF BULK AT MOST 1048576: true; the input reads as it did. -/
def tablesBeginUptoRow : OpenClaim := { program := "ytgdpkknapcgcbaagreatdoor", sum := "ac4a2fb21925c7f54dc97d0da4e1065daee605c6cb88a1dcd02707e4bc47918a", func := "ephemeris/ephemerislaw25.TablesBegin", spec := "tablesBegin", unfollowed := true, recurses := true, named := ["math/bits.divideError", "math/bits.overflowError", "ephemeris/dial.heights"], apart := false, laid := [("ephemeris/dial.heights", laid_ephemeris_dial_heights)], narrowed := true }
def TablesBeginUptoSaid : Prop := tablesBeginUptoRow.holds Tryz.pinned (OpenSpec.upto tablesBeginSpec)

/-- 'ephemerislaw25.TablesLunar', WHERE WHAT IT READS IS OF BULK AT MOST 1048576: true; the input reads as it did. -/
def tablesLunarUptoRow : OpenClaim := { program := "ytgdpkknapcgcbaagreatdoor", sum := "ac4a2fb21925c7f54dc97d0da4e1065daee605c6cb88a1dcd02707e4bc47918a", func := "ephemeris/ephemerislaw25.TablesLunar", spec := "tablesLunar", unfollowed := true, recurses := true, named := ["math/bits.divideError", "math/bits.overflowError", "ephemeris/dial.heights"], apart := false, laid := [("ephemeris/dial.heights", laid_ephemeris_dial_heights)], narrowed := true }
def TablesLunarUptoSaid : Prop := tablesLunarUptoRow.holds Tryz.pinned (OpenSpec.upto tablesLunarSpec)

/-- 'ephemerislaw25.TablesYears', WHERE WHAT IT READS IS OF BULK AT MOST 1048576: true; the input reads as it did. -/
def tablesYearsUptoRow : OpenClaim := { program := "ytgdpkknapcgcbaagreatdoor", sum := "ac4a2fb21925c7f54dc97d0da4e1065daee605c6cb88a1dcd02707e4bc47918a", func := "ephemeris/ephemerislaw25.TablesYears", spec := "tablesYears", unfollowed := true, recurses := true, named := ["math/bits.divideError", "math/bits.overflowError", "ephemeris/dial.heights"], apart := false, laid := [("ephemeris/dial.heights", laid_ephemeris_dial_heights)], narrowed := true }
def TablesYearsUptoSaid : Prop := tablesYearsUptoRow.holds Tryz.pinned (OpenSpec.upto tablesYearsSpec)

/-- 'ephemerislaw25.TablesSolar', WHERE WHAT IT READS IS OF BULK AT MOST 1048576: true; the input reads as it did. -/
def tablesSolarUptoRow : OpenClaim := { program := "ytgdpkknapcgcbaagreatdoor", sum := "ac4a2fb21925c7f54dc97d0da4e1065daee605c6cb88a1dcd02707e4bc47918a", func := "ephemeris/ephemerislaw25.TablesSolar", spec := "tablesSolar", unfollowed := true, recurses := true, named := ["math/bits.divideError", "math/bits.overflowError", "ephemeris/dial.heights"], apart := false, laid := [("ephemeris/dial.heights", laid_ephemeris_dial_heights)], narrowed := true }
def TablesSolarUptoSaid : Prop := tablesSolarUptoRow.holds Tryz.pinned (OpenSpec.upto tablesSolarSpec)

/-- 'ephemerislaw25.TablesMonth', WHERE WHAT IT READS IS OF BULK AT MOST 1048576: true; the input reads as it did. -/
def tablesMonthUptoRow : OpenClaim := { program := "ytgdpkknapcgcbaagreatdoor", sum := "ac4a2fb21925c7f54dc97d0da4e1065daee605c6cb88a1dcd02707e4bc47918a", func := "ephemeris/ephemerislaw25.TablesMonth", spec := "tablesMonth", unfollowed := true, recurses := true, named := ["math/bits.divideError", "math/bits.overflowError", "ephemeris/dial.heights"], apart := false, laid := [("ephemeris/dial.heights", laid_ephemeris_dial_heights)], narrowed := true }
def TablesMonthUptoSaid : Prop := tablesMonthUptoRow.holds Tryz.pinned (OpenSpec.upto tablesMonthSpec)

/-- 'ephemerislaw25.TablesBirthday', WHERE WHAT IT READS IS OF BULK AT MOST 1048576: true; the input reads as it did. -/
def tablesBirthdayUptoRow : OpenClaim := { program := "ytgdpkknapcgcbaagreatdoor", sum := "ac4a2fb21925c7f54dc97d0da4e1065daee605c6cb88a1dcd02707e4bc47918a", func := "ephemeris/ephemerislaw25.TablesBirthday", spec := "tablesBirthday", unfollowed := true, recurses := true, named := ["math/bits.divideError", "math/bits.overflowError", "ephemeris/dial.heights"], apart := false, laid := [("ephemeris/dial.heights", laid_ephemeris_dial_heights)], narrowed := true }
def TablesBirthdayUptoSaid : Prop := tablesBirthdayUptoRow.holds Tryz.pinned (OpenSpec.upto tablesBirthdaySpec)

/-- 'ephemeristop.EphemerisBirthdays', WHERE WHAT IT READS IS OF BULK AT MOST 1048576: true; the input reads as it did. -/
def ephemerisBirthdaysUptoRow : OpenClaim := { program := "ytgdpkknapcgcbaagreatdoor", sum := "ac4a2fb21925c7f54dc97d0da4e1065daee605c6cb88a1dcd02707e4bc47918a", func := "ephemeris/ephemeristop.EphemerisBirthdays", spec := "ephemerisBirthdays", unfollowed := true, recurses := true, named := ["math/bits.divideError", "math/bits.overflowError", "ephemeris/dial.heights"], apart := false, laid := [("ephemeris/dial.heights", laid_ephemeris_dial_heights)], narrowed := true }
def EphemerisBirthdaysUptoSaid : Prop := ephemerisBirthdaysUptoRow.holds Tryz.pinned (OpenSpec.upto ephemerisBirthdaysSpec)

end Rows
end Go.Proofs.YtgdpkknapcgcbaaGreatDoor
