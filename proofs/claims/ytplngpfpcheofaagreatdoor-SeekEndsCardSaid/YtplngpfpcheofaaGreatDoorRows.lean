/-
  NARROWER THAN 'FOR EVERY INPUT', by the rows' own cells (each row's printed sentence says how): SeekMoons: laid · SeekLast: laid · SeekNext: laid · SeekEnters: laid · SeekEnds: laid · EphemerisHalves: laid · EphemerisMoons: laid.
  DERIVED. THE GIVEN ROWS OF THIS SEAT. 7 by the template 'for every input the law returns true; each argument reads behind the call as it read before'; 0 by the template 'total and deterministic' (their statements: YtplngpfpcheofaaGreatDoorTotals.lean).
  GIVEN WITH THE SEED: the statements are not yours to turn. If you find one false, say at which input.
  Laid BY PROGRAM, IN A SANDBOX (cutbox-rows.mjs): the forced cells as the released guide's own fill.sh prints them over the translation 8376e99f5c37b4e1… (all of the seat's roots in one cut). By AI agents, Wed Nov 11 2026. No macro, syntax, notation, axiom, sorry.
-/
import Derived.Test.YtplngpfpcheofaaGreatDoorChecked
import GoSem.Claim
import GoSem.ClaimJoined
import GoSem.ClaimMapViews
import Derived.JoinedTies
import Derived.KernelRfl
namespace Go.Proofs.YtplngpfpcheofaaGreatDoor
/- THE CELL 'sum', in the pinned program and in every row, IS THE sha256 OF THE DUMP (.gsa) THAT YtplngpfpcheofaaGreatDoorProg.lean LOADS. Nothing in Lean hashes anything: it is a label: what it is worth is what the hold of that sum in a sandbox is worth. -/
noncomputable def Tryz.pinned : Pinned := { name := "ytplngpfpcheofaagreatdoor", sum := "8376e99f5c37b4e1de00ea9247adaeeb56a22cd49fe9c831fc9e3fe0bfaebe2e", checked := Tryz.checked }
namespace Rows
def none {H : Type} : Left H := { results := [], args := [] }

/- WHAT THE LISTED PACKAGE-LEVEL VARIABLES READ AS WHEN THE CALL BEGINS. Each datum BY PROGRAM (the guide's laid-datum.mjs) off the statement by which the dump's own 'gosem.cut.vars' lays the variable. In a bare row this is a premise. The card (YtplngpfpcheofaaGreatDoorCards.lean) ties it to the program's text. -/
def laid_ephemeris_dial_heights {H : Type} : DataW H := .agg [.lit (.int .i64 0), .lit (.int .i64 225), .lit (.int .i64 449), .lit (.int .i64 671), .lit (.int .i64 890), .lit (.int .i64 1105), .lit (.int .i64 1315), .lit (.int .i64 1520), .lit (.int .i64 1719), .lit (.int .i64 1910), .lit (.int .i64 2093), .lit (.int .i64 2267), .lit (.int .i64 2431), .lit (.int .i64 2585), .lit (.int .i64 2728), .lit (.int .i64 2859), .lit (.int .i64 2978), .lit (.int .i64 3084), .lit (.int .i64 3177), .lit (.int .i64 3256), .lit (.int .i64 3321), .lit (.int .i64 3372), .lit (.int .i64 3409), .lit (.int .i64 3431), .lit (.int .i64 3438)]

/-- 'ephemerislaw15.SeekMoons': WHATEVER THE INPUT: true; the input reads as it did. -/
def seekMoonsSpec : ChangeSpec := { name := "seekMoons", fn := fun _ => fun
  | [d] => { results := [.lit (.bool true)], args := [d] }
  | _ => none }
def seekMoonsRow : OpenClaim := { program := "ytplngpfpcheofaagreatdoor", sum := "8376e99f5c37b4e1de00ea9247adaeeb56a22cd49fe9c831fc9e3fe0bfaebe2e", func := "ephemeris/ephemerislaw15.SeekMoons", spec := "seekMoons", unfollowed := true, recurses := true, named := ["math/bits.divideError", "math/bits.overflowError", "ephemeris/dial.heights"], apart := false, laid := [("ephemeris/dial.heights", laid_ephemeris_dial_heights)] }
def SeekMoonsSaid : Prop := seekMoonsRow.holds Tryz.pinned (OpenSpec.ofChange seekMoonsSpec)

/-- ITS FALSE NEIGHBOUR: 'it returns false'. Refute it at one input. -/
def seekMoonsWrong : ChangeSpec := { name := "seekMoons", fn := fun _ => fun
  | [d] => { results := [.lit (.bool false)], args := [d] }
  | _ => none }
def SeekMoonsWrongFalsely : Prop := seekMoonsRow.holds Tryz.pinned (OpenSpec.ofChange seekMoonsWrong)

/-- 'ephemerislaw15.SeekLast': WHATEVER THE INPUT: true; the input reads as it did. -/
def seekLastSpec : ChangeSpec := { name := "seekLast", fn := fun _ => fun
  | [d1, d2] => { results := [.lit (.bool true)], args := [d1, d2] }
  | _ => none }
def seekLastRow : OpenClaim := { program := "ytplngpfpcheofaagreatdoor", sum := "8376e99f5c37b4e1de00ea9247adaeeb56a22cd49fe9c831fc9e3fe0bfaebe2e", func := "ephemeris/ephemerislaw15.SeekLast", spec := "seekLast", unfollowed := true, recurses := true, named := ["math/bits.divideError", "math/bits.overflowError", "ephemeris/dial.heights"], apart := false, laid := [("ephemeris/dial.heights", laid_ephemeris_dial_heights)] }
def SeekLastSaid : Prop := seekLastRow.holds Tryz.pinned (OpenSpec.ofChange seekLastSpec)

/-- ITS FALSE NEIGHBOUR: 'it returns false'. Refute it at one input. -/
def seekLastWrong : ChangeSpec := { name := "seekLast", fn := fun _ => fun
  | [d1, d2] => { results := [.lit (.bool false)], args := [d1, d2] }
  | _ => none }
def SeekLastWrongFalsely : Prop := seekLastRow.holds Tryz.pinned (OpenSpec.ofChange seekLastWrong)

/-- 'ephemerislaw15.SeekNext': WHATEVER THE INPUT: true; the input reads as it did. -/
def seekNextSpec : ChangeSpec := { name := "seekNext", fn := fun _ => fun
  | [d] => { results := [.lit (.bool true)], args := [d] }
  | _ => none }
def seekNextRow : OpenClaim := { program := "ytplngpfpcheofaagreatdoor", sum := "8376e99f5c37b4e1de00ea9247adaeeb56a22cd49fe9c831fc9e3fe0bfaebe2e", func := "ephemeris/ephemerislaw15.SeekNext", spec := "seekNext", unfollowed := true, recurses := true, named := ["math/bits.divideError", "math/bits.overflowError", "ephemeris/dial.heights"], apart := false, laid := [("ephemeris/dial.heights", laid_ephemeris_dial_heights)] }
def SeekNextSaid : Prop := seekNextRow.holds Tryz.pinned (OpenSpec.ofChange seekNextSpec)

/-- ITS FALSE NEIGHBOUR: 'it returns false'. Refute it at one input. -/
def seekNextWrong : ChangeSpec := { name := "seekNext", fn := fun _ => fun
  | [d] => { results := [.lit (.bool false)], args := [d] }
  | _ => none }
def SeekNextWrongFalsely : Prop := seekNextRow.holds Tryz.pinned (OpenSpec.ofChange seekNextWrong)

/-- 'ephemerislaw15.SeekEnters': WHATEVER THE INPUT: true; the input reads as it did. -/
def seekEntersSpec : ChangeSpec := { name := "seekEnters", fn := fun _ => fun
  | [d] => { results := [.lit (.bool true)], args := [d] }
  | _ => none }
def seekEntersRow : OpenClaim := { program := "ytplngpfpcheofaagreatdoor", sum := "8376e99f5c37b4e1de00ea9247adaeeb56a22cd49fe9c831fc9e3fe0bfaebe2e", func := "ephemeris/ephemerislaw15.SeekEnters", spec := "seekEnters", unfollowed := true, recurses := true, named := ["math/bits.divideError", "math/bits.overflowError", "ephemeris/dial.heights"], apart := false, laid := [("ephemeris/dial.heights", laid_ephemeris_dial_heights)] }
def SeekEntersSaid : Prop := seekEntersRow.holds Tryz.pinned (OpenSpec.ofChange seekEntersSpec)

/-- ITS FALSE NEIGHBOUR: 'it returns false'. Refute it at one input. -/
def seekEntersWrong : ChangeSpec := { name := "seekEnters", fn := fun _ => fun
  | [d] => { results := [.lit (.bool false)], args := [d] }
  | _ => none }
def SeekEntersWrongFalsely : Prop := seekEntersRow.holds Tryz.pinned (OpenSpec.ofChange seekEntersWrong)

/-- 'ephemerislaw15.SeekEnds': WHATEVER THE INPUT: true; the input reads as it did. -/
def seekEndsSpec : ChangeSpec := { name := "seekEnds", fn := fun _ => fun
  | [d1, d2, d3] => { results := [.lit (.bool true)], args := [d1, d2, d3] }
  | _ => none }
def seekEndsRow : OpenClaim := { program := "ytplngpfpcheofaagreatdoor", sum := "8376e99f5c37b4e1de00ea9247adaeeb56a22cd49fe9c831fc9e3fe0bfaebe2e", func := "ephemeris/ephemerislaw15.SeekEnds", spec := "seekEnds", unfollowed := true, recurses := true, named := ["math/bits.divideError", "math/bits.overflowError", "ephemeris/dial.heights"], apart := false, laid := [("ephemeris/dial.heights", laid_ephemeris_dial_heights)] }
def SeekEndsSaid : Prop := seekEndsRow.holds Tryz.pinned (OpenSpec.ofChange seekEndsSpec)

/-- ITS FALSE NEIGHBOUR: 'it returns false'. Refute it at one input. -/
def seekEndsWrong : ChangeSpec := { name := "seekEnds", fn := fun _ => fun
  | [d1, d2, d3] => { results := [.lit (.bool false)], args := [d1, d2, d3] }
  | _ => none }
def SeekEndsWrongFalsely : Prop := seekEndsRow.holds Tryz.pinned (OpenSpec.ofChange seekEndsWrong)

/-- 'ephemeristop.EphemerisHalves': WHATEVER THE INPUT: true; the input reads as it did. -/
def ephemerisHalvesSpec : ChangeSpec := { name := "ephemerisHalves", fn := fun _ => fun
  | [d1, d2] => { results := [.lit (.bool true)], args := [d1, d2] }
  | _ => none }
def ephemerisHalvesRow : OpenClaim := { program := "ytplngpfpcheofaagreatdoor", sum := "8376e99f5c37b4e1de00ea9247adaeeb56a22cd49fe9c831fc9e3fe0bfaebe2e", func := "ephemeris/ephemeristop.EphemerisHalves", spec := "ephemerisHalves", unfollowed := true, recurses := true, named := ["math/bits.divideError", "math/bits.overflowError", "ephemeris/dial.heights"], apart := false, laid := [("ephemeris/dial.heights", laid_ephemeris_dial_heights)] }
def EphemerisHalvesSaid : Prop := ephemerisHalvesRow.holds Tryz.pinned (OpenSpec.ofChange ephemerisHalvesSpec)

/-- ITS FALSE NEIGHBOUR: 'it returns false'. Refute it at one input. -/
def ephemerisHalvesWrong : ChangeSpec := { name := "ephemerisHalves", fn := fun _ => fun
  | [d1, d2] => { results := [.lit (.bool false)], args := [d1, d2] }
  | _ => none }
def EphemerisHalvesWrongFalsely : Prop := ephemerisHalvesRow.holds Tryz.pinned (OpenSpec.ofChange ephemerisHalvesWrong)

/-- 'ephemeristop.EphemerisMoons': WHATEVER THE INPUT: true; the input reads as it did. -/
def ephemerisMoonsSpec : ChangeSpec := { name := "ephemerisMoons", fn := fun _ => fun
  | [d] => { results := [.lit (.bool true)], args := [d] }
  | _ => none }
def ephemerisMoonsRow : OpenClaim := { program := "ytplngpfpcheofaagreatdoor", sum := "8376e99f5c37b4e1de00ea9247adaeeb56a22cd49fe9c831fc9e3fe0bfaebe2e", func := "ephemeris/ephemeristop.EphemerisMoons", spec := "ephemerisMoons", unfollowed := true, recurses := true, named := ["math/bits.divideError", "math/bits.overflowError", "ephemeris/dial.heights"], apart := false, laid := [("ephemeris/dial.heights", laid_ephemeris_dial_heights)] }
def EphemerisMoonsSaid : Prop := ephemerisMoonsRow.holds Tryz.pinned (OpenSpec.ofChange ephemerisMoonsSpec)

/-- ITS FALSE NEIGHBOUR: 'it returns false'. Refute it at one input. -/
def ephemerisMoonsWrong : ChangeSpec := { name := "ephemerisMoons", fn := fun _ => fun
  | [d] => { results := [.lit (.bool false)], args := [d] }
  | _ => none }
def EphemerisMoonsWrongFalsely : Prop := ephemerisMoonsRow.holds Tryz.pinned (OpenSpec.ofChange ephemerisMoonsWrong)

/- THE SECOND FORM. 'bulk': how many values and letters a reading holds, each counted each time it is reached (what is shared counts as often as it is met; a slice's spare places count too). A statement '..UptoSaid' is the law's where the arguments, and the package variables that the reading takes, are together of bulk at most 1048576: NARROWER than '..Said'. Prove '..Said' where nothing that the law and all that it calls make is longer than what came in: it says more and counts as full. Else prove '..UptoSaid'. A law counts once. -/
mutual
def uptoBulk {H : Type} : DataW H → Nat
  | .lit (.string bytes) => bytes.length + 1
  | .lit _ => 1
  | .nil => 1
  | .ptr d => uptoBulk d + 1
  | .slice elems spare => uptoBulkAll elems + uptoBulkAll spare + 1
  | .agg parts => uptoBulkAll parts + 1
  | .iface _ d => uptoBulk d + 1
  | .map entries => uptoBulkEntries entries + 1
  | .held _ => 1
def uptoBulkAll {H : Type} : List (DataW H) → Nat
  | [] => 0
  | d :: r => uptoBulk d + uptoBulkAll r
def uptoBulkEntries {H : Type} : List (Lit × DataW H) → Nat
  | [] => 0
  | x :: r => uptoBulkEntry x + uptoBulkEntries r
def uptoBulkEntry {H : Type} : Lit × DataW H → Nat
  | (.string bytes, d) => bytes.length + uptoBulk d + 1
  | (_, d) => uptoBulk d + 1
 end
def uptoSmall : (H : Type) → List (DataW H) → Bool := fun _ ds => decide (uptoBulkAll ds ≤ 1048576)
def OpenSpec.upto (s : _root_.Go.ChangeSpec) : _root_.Go.OpenSpec := { _root_.Go.OpenSpec.ofChange s with cond := some uptoSmall }

/-- 'ephemerislaw15.SeekMoons', WHERE WHAT IT READS IS OF BULK AT MOST 1048576: true; the input reads as it did. -/
def seekMoonsUptoRow : OpenClaim := { program := "ytplngpfpcheofaagreatdoor", sum := "8376e99f5c37b4e1de00ea9247adaeeb56a22cd49fe9c831fc9e3fe0bfaebe2e", func := "ephemeris/ephemerislaw15.SeekMoons", spec := "seekMoons", unfollowed := true, recurses := true, named := ["math/bits.divideError", "math/bits.overflowError", "ephemeris/dial.heights"], apart := false, laid := [("ephemeris/dial.heights", laid_ephemeris_dial_heights)], narrowed := true }
def SeekMoonsUptoSaid : Prop := seekMoonsUptoRow.holds Tryz.pinned (OpenSpec.upto seekMoonsSpec)

/-- 'ephemerislaw15.SeekLast', WHERE WHAT IT READS IS OF BULK AT MOST 1048576: true; the input reads as it did. -/
def seekLastUptoRow : OpenClaim := { program := "ytplngpfpcheofaagreatdoor", sum := "8376e99f5c37b4e1de00ea9247adaeeb56a22cd49fe9c831fc9e3fe0bfaebe2e", func := "ephemeris/ephemerislaw15.SeekLast", spec := "seekLast", unfollowed := true, recurses := true, named := ["math/bits.divideError", "math/bits.overflowError", "ephemeris/dial.heights"], apart := false, laid := [("ephemeris/dial.heights", laid_ephemeris_dial_heights)], narrowed := true }
def SeekLastUptoSaid : Prop := seekLastUptoRow.holds Tryz.pinned (OpenSpec.upto seekLastSpec)

/-- 'ephemerislaw15.SeekNext', WHERE WHAT IT READS IS OF BULK AT MOST 1048576: true; the input reads as it did. -/
def seekNextUptoRow : OpenClaim := { program := "ytplngpfpcheofaagreatdoor", sum := "8376e99f5c37b4e1de00ea9247adaeeb56a22cd49fe9c831fc9e3fe0bfaebe2e", func := "ephemeris/ephemerislaw15.SeekNext", spec := "seekNext", unfollowed := true, recurses := true, named := ["math/bits.divideError", "math/bits.overflowError", "ephemeris/dial.heights"], apart := false, laid := [("ephemeris/dial.heights", laid_ephemeris_dial_heights)], narrowed := true }
def SeekNextUptoSaid : Prop := seekNextUptoRow.holds Tryz.pinned (OpenSpec.upto seekNextSpec)

/-- 'ephemerislaw15.SeekEnters', WHERE WHAT IT READS IS OF BULK AT MOST 1048576: true; the input reads as it did. -/
def seekEntersUptoRow : OpenClaim := { program := "ytplngpfpcheofaagreatdoor", sum := "8376e99f5c37b4e1de00ea9247adaeeb56a22cd49fe9c831fc9e3fe0bfaebe2e", func := "ephemeris/ephemerislaw15.SeekEnters", spec := "seekEnters", unfollowed := true, recurses := true, named := ["math/bits.divideError", "math/bits.overflowError", "ephemeris/dial.heights"], apart := false, laid := [("ephemeris/dial.heights", laid_ephemeris_dial_heights)], narrowed := true }
def SeekEntersUptoSaid : Prop := seekEntersUptoRow.holds Tryz.pinned (OpenSpec.upto seekEntersSpec)

/-- 'ephemerislaw15.SeekEnds', WHERE WHAT IT READS IS OF BULK AT MOST 1048576: true; the input reads as it did. -/
def seekEndsUptoRow : OpenClaim := { program := "ytplngpfpcheofaagreatdoor", sum := "8376e99f5c37b4e1de00ea9247adaeeb56a22cd49fe9c831fc9e3fe0bfaebe2e", func := "ephemeris/ephemerislaw15.SeekEnds", spec := "seekEnds", unfollowed := true, recurses := true, named := ["math/bits.divideError", "math/bits.overflowError", "ephemeris/dial.heights"], apart := false, laid := [("ephemeris/dial.heights", laid_ephemeris_dial_heights)], narrowed := true }
def SeekEndsUptoSaid : Prop := seekEndsUptoRow.holds Tryz.pinned (OpenSpec.upto seekEndsSpec)

/-- 'ephemeristop.EphemerisHalves', WHERE WHAT IT READS IS OF BULK AT MOST 1048576: true; the input reads as it did. -/
def ephemerisHalvesUptoRow : OpenClaim := { program := "ytplngpfpcheofaagreatdoor", sum := "8376e99f5c37b4e1de00ea9247adaeeb56a22cd49fe9c831fc9e3fe0bfaebe2e", func := "ephemeris/ephemeristop.EphemerisHalves", spec := "ephemerisHalves", unfollowed := true, recurses := true, named := ["math/bits.divideError", "math/bits.overflowError", "ephemeris/dial.heights"], apart := false, laid := [("ephemeris/dial.heights", laid_ephemeris_dial_heights)], narrowed := true }
def EphemerisHalvesUptoSaid : Prop := ephemerisHalvesUptoRow.holds Tryz.pinned (OpenSpec.upto ephemerisHalvesSpec)

/-- 'ephemeristop.EphemerisMoons', WHERE WHAT IT READS IS OF BULK AT MOST 1048576: true; the input reads as it did. -/
def ephemerisMoonsUptoRow : OpenClaim := { program := "ytplngpfpcheofaagreatdoor", sum := "8376e99f5c37b4e1de00ea9247adaeeb56a22cd49fe9c831fc9e3fe0bfaebe2e", func := "ephemeris/ephemeristop.EphemerisMoons", spec := "ephemerisMoons", unfollowed := true, recurses := true, named := ["math/bits.divideError", "math/bits.overflowError", "ephemeris/dial.heights"], apart := false, laid := [("ephemeris/dial.heights", laid_ephemeris_dial_heights)], narrowed := true }
def EphemerisMoonsUptoSaid : Prop := ephemerisMoonsUptoRow.holds Tryz.pinned (OpenSpec.upto ephemerisMoonsSpec)

end Rows
end Go.Proofs.YtplngpfpcheofaaGreatDoor
