/-
  NARROWER THAN 'FOR EVERY INPUT', by the rows' own cells (each row's printed sentence says how): AmantaDays: laid · AmantaSteps: laid · AmantaMonths: laid · AmantaBad: laid · EphemerisEast: laid · EphemerisEras: laid.
  DERIVED. THE GIVEN ROWS OF THIS SEAT. 6 by the template 'for every input the law returns true; each argument reads behind the call as it read before'; 0 by the template 'total and deterministic' (their statements: YtdbiegfmgabicaaGreatDoorTotals.lean).
  GIVEN WITH THE SEED: the statements are not yours to turn. If you find one false, say at which input.
  Laid BY PROGRAM, IN A SANDBOX (cutbox-rows.mjs): the forced cells as the released guide's own fill.sh prints them over the translation 34d8ff90e9da5327… (all of the seat's roots in one cut). By AI agents, Wed Nov 11 2026. No macro, syntax, notation, axiom, sorry.
-/
import Derived.Test.YtdbiegfmgabicaaGreatDoorChecked
import GoSem.Claim
import GoSem.ClaimJoined
import GoSem.ClaimMapViews
import Derived.JoinedTies
import Derived.KernelRfl
namespace Go.Proofs.YtdbiegfmgabicaaGreatDoor
/- THE CELL 'sum', in the pinned program and in every row, IS THE sha256 OF THE DUMP (.gsa) THAT YtdbiegfmgabicaaGreatDoorProg.lean LOADS. Nothing in Lean hashes anything: it is a label: what it is worth is what the hold of that sum in a sandbox is worth. -/
noncomputable def Tryz.pinned : Pinned := { name := "ytdbiegfmgabicaagreatdoor", sum := "34d8ff90e9da5327f4ae392d743a6214f822c02f3adcc2346337a83c3595075a", checked := Tryz.checked }
namespace Rows
def none {H : Type} : Left H := { results := [], args := [] }

/- WHAT THE LISTED PACKAGE-LEVEL VARIABLES READ AS WHEN THE CALL BEGINS. Each datum BY PROGRAM (the guide's laid-datum.mjs) off the statement by which the dump's own 'gosem.cut.vars' lays the variable. In a bare row this is a premise. The card (YtdbiegfmgabicaaGreatDoorCards.lean) ties it to the program's text. -/
def laid_ephemeris_dial_heights {H : Type} : DataW H := .agg [.lit (.int .i64 0), .lit (.int .i64 225), .lit (.int .i64 449), .lit (.int .i64 671), .lit (.int .i64 890), .lit (.int .i64 1105), .lit (.int .i64 1315), .lit (.int .i64 1520), .lit (.int .i64 1719), .lit (.int .i64 1910), .lit (.int .i64 2093), .lit (.int .i64 2267), .lit (.int .i64 2431), .lit (.int .i64 2585), .lit (.int .i64 2728), .lit (.int .i64 2859), .lit (.int .i64 2978), .lit (.int .i64 3084), .lit (.int .i64 3177), .lit (.int .i64 3256), .lit (.int .i64 3321), .lit (.int .i64 3372), .lit (.int .i64 3409), .lit (.int .i64 3431), .lit (.int .i64 3438)]

/-- 'ephemerislaw20.AmantaDays': WHATEVER THE INPUT: true; the input reads as it did. -/
def amantaDaysSpec : ChangeSpec := { name := "amantaDays", fn := fun _ => fun
  | [d1, d2] => { results := [.lit (.bool true)], args := [d1, d2] }
  | _ => none }
def amantaDaysRow : OpenClaim := { program := "ytdbiegfmgabicaagreatdoor", sum := "34d8ff90e9da5327f4ae392d743a6214f822c02f3adcc2346337a83c3595075a", func := "ephemeris/ephemerislaw20.AmantaDays", spec := "amantaDays", unfollowed := true, recurses := true, named := ["math/bits.divideError", "math/bits.overflowError", "ephemeris/dial.heights"], apart := false, laid := [("ephemeris/dial.heights", laid_ephemeris_dial_heights)] }
def AmantaDaysSaid : Prop := amantaDaysRow.holds Tryz.pinned (OpenSpec.ofChange amantaDaysSpec)

/-- ITS FALSE NEIGHBOUR: 'it returns false'. Refute it at one input. -/
def amantaDaysWrong : ChangeSpec := { name := "amantaDays", fn := fun _ => fun
  | [d1, d2] => { results := [.lit (.bool false)], args := [d1, d2] }
  | _ => none }
def AmantaDaysWrongFalsely : Prop := amantaDaysRow.holds Tryz.pinned (OpenSpec.ofChange amantaDaysWrong)

/-- 'ephemerislaw20.AmantaSteps': WHATEVER THE INPUT: true; the input reads as it did. -/
def amantaStepsSpec : ChangeSpec := { name := "amantaSteps", fn := fun _ => fun
  | [d1, d2] => { results := [.lit (.bool true)], args := [d1, d2] }
  | _ => none }
def amantaStepsRow : OpenClaim := { program := "ytdbiegfmgabicaagreatdoor", sum := "34d8ff90e9da5327f4ae392d743a6214f822c02f3adcc2346337a83c3595075a", func := "ephemeris/ephemerislaw20.AmantaSteps", spec := "amantaSteps", unfollowed := true, recurses := true, named := ["math/bits.divideError", "math/bits.overflowError", "ephemeris/dial.heights"], apart := false, laid := [("ephemeris/dial.heights", laid_ephemeris_dial_heights)] }
def AmantaStepsSaid : Prop := amantaStepsRow.holds Tryz.pinned (OpenSpec.ofChange amantaStepsSpec)

/-- ITS FALSE NEIGHBOUR: 'it returns false'. Refute it at one input. -/
def amantaStepsWrong : ChangeSpec := { name := "amantaSteps", fn := fun _ => fun
  | [d1, d2] => { results := [.lit (.bool false)], args := [d1, d2] }
  | _ => none }
def AmantaStepsWrongFalsely : Prop := amantaStepsRow.holds Tryz.pinned (OpenSpec.ofChange amantaStepsWrong)

/-- 'ephemerislaw20.AmantaMonths': WHATEVER THE INPUT: true; the input reads as it did. -/
def amantaMonthsSpec : ChangeSpec := { name := "amantaMonths", fn := fun _ => fun
  | [d1, d2] => { results := [.lit (.bool true)], args := [d1, d2] }
  | _ => none }
def amantaMonthsRow : OpenClaim := { program := "ytdbiegfmgabicaagreatdoor", sum := "34d8ff90e9da5327f4ae392d743a6214f822c02f3adcc2346337a83c3595075a", func := "ephemeris/ephemerislaw20.AmantaMonths", spec := "amantaMonths", unfollowed := true, recurses := true, named := ["math/bits.divideError", "math/bits.overflowError", "ephemeris/dial.heights"], apart := false, laid := [("ephemeris/dial.heights", laid_ephemeris_dial_heights)] }
def AmantaMonthsSaid : Prop := amantaMonthsRow.holds Tryz.pinned (OpenSpec.ofChange amantaMonthsSpec)

/-- ITS FALSE NEIGHBOUR: 'it returns false'. Refute it at one input. -/
def amantaMonthsWrong : ChangeSpec := { name := "amantaMonths", fn := fun _ => fun
  | [d1, d2] => { results := [.lit (.bool false)], args := [d1, d2] }
  | _ => none }
def AmantaMonthsWrongFalsely : Prop := amantaMonthsRow.holds Tryz.pinned (OpenSpec.ofChange amantaMonthsWrong)

/-- 'ephemerislaw20.AmantaBad': WHATEVER THE INPUT: true; the input reads as it did. -/
def amantaBadSpec : ChangeSpec := { name := "amantaBad", fn := fun _ => fun
  | [d1, d2] => { results := [.lit (.bool true)], args := [d1, d2] }
  | _ => none }
def amantaBadRow : OpenClaim := { program := "ytdbiegfmgabicaagreatdoor", sum := "34d8ff90e9da5327f4ae392d743a6214f822c02f3adcc2346337a83c3595075a", func := "ephemeris/ephemerislaw20.AmantaBad", spec := "amantaBad", unfollowed := true, recurses := true, named := ["math/bits.divideError", "math/bits.overflowError", "ephemeris/dial.heights"], apart := false, laid := [("ephemeris/dial.heights", laid_ephemeris_dial_heights)] }
def AmantaBadSaid : Prop := amantaBadRow.holds Tryz.pinned (OpenSpec.ofChange amantaBadSpec)

/-- ITS FALSE NEIGHBOUR: 'it returns false'. Refute it at one input. -/
def amantaBadWrong : ChangeSpec := { name := "amantaBad", fn := fun _ => fun
  | [d1, d2] => { results := [.lit (.bool false)], args := [d1, d2] }
  | _ => none }
def AmantaBadWrongFalsely : Prop := amantaBadRow.holds Tryz.pinned (OpenSpec.ofChange amantaBadWrong)

/-- 'ephemeristop.EphemerisEast': WHATEVER THE INPUT: true; the input reads as it did. -/
def ephemerisEastSpec : ChangeSpec := { name := "ephemerisEast", fn := fun _ => fun
  | [d1, d2, d3, d4, d5, d6] => { results := [.lit (.bool true)], args := [d1, d2, d3, d4, d5, d6] }
  | _ => none }
def ephemerisEastRow : OpenClaim := { program := "ytdbiegfmgabicaagreatdoor", sum := "34d8ff90e9da5327f4ae392d743a6214f822c02f3adcc2346337a83c3595075a", func := "ephemeris/ephemeristop.EphemerisEast", spec := "ephemerisEast", recurses := true, named := ["math/bits.divideError", "math/bits.overflowError", "ephemeris/dial.heights"], apart := false, laid := [("ephemeris/dial.heights", laid_ephemeris_dial_heights)] }
def EphemerisEastSaid : Prop := ephemerisEastRow.holds Tryz.pinned (OpenSpec.ofChange ephemerisEastSpec)

/-- ITS FALSE NEIGHBOUR: 'it returns false'. Refute it at one input. -/
def ephemerisEastWrong : ChangeSpec := { name := "ephemerisEast", fn := fun _ => fun
  | [d1, d2, d3, d4, d5, d6] => { results := [.lit (.bool false)], args := [d1, d2, d3, d4, d5, d6] }
  | _ => none }
def EphemerisEastWrongFalsely : Prop := ephemerisEastRow.holds Tryz.pinned (OpenSpec.ofChange ephemerisEastWrong)

/-- 'ephemeristop.EphemerisEras': WHATEVER THE INPUT: true; the input reads as it did. -/
def ephemerisErasSpec : ChangeSpec := { name := "ephemerisEras", fn := fun _ => fun
  | [d1, d2, d3, d4, d5, d6] => { results := [.lit (.bool true)], args := [d1, d2, d3, d4, d5, d6] }
  | _ => none }
def ephemerisErasRow : OpenClaim := { program := "ytdbiegfmgabicaagreatdoor", sum := "34d8ff90e9da5327f4ae392d743a6214f822c02f3adcc2346337a83c3595075a", func := "ephemeris/ephemeristop.EphemerisEras", spec := "ephemerisEras", unfollowed := true, recurses := true, named := ["math/bits.divideError", "math/bits.overflowError", "ephemeris/dial.heights"], apart := false, laid := [("ephemeris/dial.heights", laid_ephemeris_dial_heights)] }
def EphemerisErasSaid : Prop := ephemerisErasRow.holds Tryz.pinned (OpenSpec.ofChange ephemerisErasSpec)

/-- ITS FALSE NEIGHBOUR: 'it returns false'. Refute it at one input. -/
def ephemerisErasWrong : ChangeSpec := { name := "ephemerisEras", fn := fun _ => fun
  | [d1, d2, d3, d4, d5, d6] => { results := [.lit (.bool false)], args := [d1, d2, d3, d4, d5, d6] }
  | _ => none }
def EphemerisErasWrongFalsely : Prop := ephemerisErasRow.holds Tryz.pinned (OpenSpec.ofChange ephemerisErasWrong)

/- THE SECOND FORM. 'bulk': how many values and letters a reading holds, each counted each time it is reached (what is shared counts as often as it is met; a slice's spare places count too). A statement '..UptoSaid' is the law's where the arguments, and the package variables that the reading takes, are together of bulk at most 1048576: NARROWER than '..Said'. Prove '..Said' where nothing that the law and all that it calls make is longer than what came in: it says more and counts as full. Else prove '..UptoSaid'. A law counts once. -/
mutual
def uptoBulk {H : Type} : DataW H → Nat
  | .lit (.string bytes) => bytes.length + 1
  | .lit _ => 1
  | .nil => 1
  | .ptr d => uptoBulk d + 1
  | .slice elems spare => uptoBulkAll elems + uptoBulkAll spare + 1
  | .agg parts => uptoBulkAll parts + 1
  | .iface _ d => uptoBulk d + 1
  | .map entries => uptoBulkEntries entries + 1
  | .held _ => 1
def uptoBulkAll {H : Type} : List (DataW H) → Nat
  | [] => 0
  | d :: r => uptoBulk d + uptoBulkAll r
def uptoBulkEntries {H : Type} : List (Lit × DataW H) → Nat
  | [] => 0
  | x :: r => uptoBulkEntry x + uptoBulkEntries r
def uptoBulkEntry {H : Type} : Lit × DataW H → Nat
  | (.string bytes, d) => bytes.length + uptoBulk d + 1
  | (_, d) => uptoBulk d + 1
 end
def uptoSmall : (H : Type) → List (DataW H) → Bool := fun _ ds => decide (uptoBulkAll ds ≤ 1048576)
def OpenSpec.upto (s : _root_.Go.ChangeSpec) : _root_.Go.OpenSpec := { _root_.Go.OpenSpec.ofChange s with cond := some uptoSmall }

/-- 'ephemerislaw20.AmantaDays', WHERE WHAT IT READS IS OF BULK AT MOST 1048576: true; the input reads as it did. -/
def amantaDaysUptoRow : OpenClaim := { program := "ytdbiegfmgabicaagreatdoor", sum := "34d8ff90e9da5327f4ae392d743a6214f822c02f3adcc2346337a83c3595075a", func := "ephemeris/ephemerislaw20.AmantaDays", spec := "amantaDays", unfollowed := true, recurses := true, named := ["math/bits.divideError", "math/bits.overflowError", "ephemeris/dial.heights"], apart := false, laid := [("ephemeris/dial.heights", laid_ephemeris_dial_heights)], narrowed := true }
def AmantaDaysUptoSaid : Prop := amantaDaysUptoRow.holds Tryz.pinned (OpenSpec.upto amantaDaysSpec)

/-- 'ephemerislaw20.AmantaSteps', WHERE WHAT IT READS IS OF BULK AT MOST 1048576: true; the input reads as it did. -/
def amantaStepsUptoRow : OpenClaim := { program := "ytdbiegfmgabicaagreatdoor", sum := "34d8ff90e9da5327f4ae392d743a6214f822c02f3adcc2346337a83c3595075a", func := "ephemeris/ephemerislaw20.AmantaSteps", spec := "amantaSteps", unfollowed := true, recurses := true, named := ["math/bits.divideError", "math/bits.overflowError", "ephemeris/dial.heights"], apart := false, laid := [("ephemeris/dial.heights", laid_ephemeris_dial_heights)], narrowed := true }
def AmantaStepsUptoSaid : Prop := amantaStepsUptoRow.holds Tryz.pinned (OpenSpec.upto amantaStepsSpec)

/-- 'ephemerislaw20.AmantaMonths', WHERE WHAT IT READS IS OF BULK AT MOST 1048576: true; the input reads as it did. -/
def amantaMonthsUptoRow : OpenClaim := { program := "ytdbiegfmgabicaagreatdoor", sum := "34d8ff90e9da5327f4ae392d743a6214f822c02f3adcc2346337a83c3595075a", func := "ephemeris/ephemerislaw20.AmantaMonths", spec := "amantaMonths", unfollowed := true, recurses := true, named := ["math/bits.divideError", "math/bits.overflowError", "ephemeris/dial.heights"], apart := false, laid := [("ephemeris/dial.heights", laid_ephemeris_dial_heights)], narrowed := true }
def AmantaMonthsUptoSaid : Prop := amantaMonthsUptoRow.holds Tryz.pinned (OpenSpec.upto amantaMonthsSpec)

/-- 'ephemerislaw20.AmantaBad', WHERE WHAT IT READS IS OF BULK AT MOST 1048576: true; the input reads as it did. -/
def amantaBadUptoRow : OpenClaim := { program := "ytdbiegfmgabicaagreatdoor", sum := "34d8ff90e9da5327f4ae392d743a6214f822c02f3adcc2346337a83c3595075a", func := "ephemeris/ephemerislaw20.AmantaBad", spec := "amantaBad", unfollowed := true, recurses := true, named := ["math/bits.divideError", "math/bits.overflowError", "ephemeris/dial.heights"], apart := false, laid := [("ephemeris/dial.heights", laid_ephemeris_dial_heights)], narrowed := true }
def AmantaBadUptoSaid : Prop := amantaBadUptoRow.holds Tryz.pinned (OpenSpec.upto amantaBadSpec)

/-- 'ephemeristop.EphemerisEast', WHERE WHAT IT READS IS OF BULK AT MOST 1048576: true; the input reads as it did. -/
def ephemerisEastUptoRow : OpenClaim := { program := "ytdbiegfmgabicaagreatdoor", sum := "34d8ff90e9da5327f4ae392d743a6214f822c02f3adcc2346337a83c3595075a", func := "ephemeris/ephemeristop.EphemerisEast", spec := "ephemerisEast", recurses := true, named := ["math/bits.divideError", "math/bits.overflowError", "ephemeris/dial.heights"], apart := false, laid := [("ephemeris/dial.heights", laid_ephemeris_dial_heights)], narrowed := true }
def EphemerisEastUptoSaid : Prop := ephemerisEastUptoRow.holds Tryz.pinned (OpenSpec.upto ephemerisEastSpec)

/-- 'ephemeristop.EphemerisEras', WHERE WHAT IT READS IS OF BULK AT MOST 1048576: true; the input reads as it did. -/
def ephemerisErasUptoRow : OpenClaim := { program := "ytdbiegfmgabicaagreatdoor", sum := "34d8ff90e9da5327f4ae392d743a6214f822c02f3adcc2346337a83c3595075a", func := "ephemeris/ephemeristop.EphemerisEras", spec := "ephemerisEras", unfollowed := true, recurses := true, named := ["math/bits.divideError", "math/bits.overflowError", "ephemeris/dial.heights"], apart := false, laid := [("ephemeris/dial.heights", laid_ephemeris_dial_heights)], narrowed := true }
def EphemerisErasUptoSaid : Prop := ephemerisErasUptoRow.holds Tryz.pinned (OpenSpec.upto ephemerisErasSpec)

end Rows
end Go.Proofs.YtdbiegfmgabicaaGreatDoor
