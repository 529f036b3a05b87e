/-
  NARROWER THAN 'FOR EVERY INPUT', by the rows' own cells (each row's printed sentence says how): OrbPlaces: laid · OrbElements: laid.
  DERIVED. THE GIVEN ROWS OF THIS SEAT. 2 by the template 'for every input the law returns true; each argument reads behind the call as it read before'; 0 by the template 'total and deterministic' (their statements: YtmpdbkdijfpbbaaGreatDoorTotals.lean).
  GIVEN WITH THE SEED: the statements are not yours to turn. If you find one false, say at which input.
  Laid BY PROGRAM, IN A SANDBOX (cutbox-rows.mjs): the forced cells as the released guide's own fill.sh prints them over the translation 0f28ebb83d0b5869… (all of the seat's roots in one cut). By AI agents, Wed Nov 11 2026. No macro, syntax, notation, axiom, sorry.
-/
import Derived.Test.YtmpdbkdijfpbbaaGreatDoorChecked
import GoSem.Claim
import GoSem.ClaimJoined
import GoSem.ClaimMapViews
import Derived.JoinedTies
import Derived.KernelRfl
namespace Go.Proofs.YtmpdbkdijfpbbaaGreatDoor
/- THE CELL 'sum', in the pinned program and in every row, IS THE sha256 OF THE DUMP (.gsa) THAT YtmpdbkdijfpbbaaGreatDoorProg.lean LOADS. Nothing in Lean hashes anything: it is a label: what it is worth is what the hold of that sum in a sandbox is worth. -/
noncomputable def Tryz.pinned : Pinned := { name := "ytmpdbkdijfpbbaagreatdoor", sum := "0f28ebb83d0b5869f99d0112f4d8cff7b358a009664d477969a4c4953b207079", checked := Tryz.checked }
namespace Rows
def none {H : Type} : Left H := { results := [], args := [] }

/- WHAT THE LISTED PACKAGE-LEVEL VARIABLES READ AS WHEN THE CALL BEGINS. Each datum BY PROGRAM (the guide's laid-datum.mjs) off the statement by which the dump's own 'gosem.cut.vars' lays the variable. In a bare row this is a premise. The card (YtmpdbkdijfpbbaaGreatDoorCards.lean) ties it to the program's text. -/
def laid_ephemeris_dial_heights {H : Type} : DataW H := .agg [.lit (.int .i64 0), .lit (.int .i64 225), .lit (.int .i64 449), .lit (.int .i64 671), .lit (.int .i64 890), .lit (.int .i64 1105), .lit (.int .i64 1315), .lit (.int .i64 1520), .lit (.int .i64 1719), .lit (.int .i64 1910), .lit (.int .i64 2093), .lit (.int .i64 2267), .lit (.int .i64 2431), .lit (.int .i64 2585), .lit (.int .i64 2728), .lit (.int .i64 2859), .lit (.int .i64 2978), .lit (.int .i64 3084), .lit (.int .i64 3177), .lit (.int .i64 3256), .lit (.int .i64 3321), .lit (.int .i64 3372), .lit (.int .i64 3409), .lit (.int .i64 3431), .lit (.int .i64 3438)]

/-- 'ephemerislaw12.OrbPlaces': WHATEVER THE INPUT: true; the input reads as it did. -/
def orbPlacesSpec : ChangeSpec := { name := "orbPlaces", fn := fun _ => fun
  | [d] => { results := [.lit (.bool true)], args := [d] }
  | _ => none }
def orbPlacesRow : OpenClaim := { program := "ytmpdbkdijfpbbaagreatdoor", sum := "0f28ebb83d0b5869f99d0112f4d8cff7b358a009664d477969a4c4953b207079", func := "ephemeris/ephemerislaw12.OrbPlaces", spec := "orbPlaces", recurses := true, named := ["math/bits.divideError", "math/bits.overflowError", "ephemeris/dial.heights"], apart := false, laid := [("ephemeris/dial.heights", laid_ephemeris_dial_heights)] }
def OrbPlacesSaid : Prop := orbPlacesRow.holds Tryz.pinned (OpenSpec.ofChange orbPlacesSpec)

/-- ITS FALSE NEIGHBOUR: 'it returns false'. Refute it at one input. -/
def orbPlacesWrong : ChangeSpec := { name := "orbPlaces", fn := fun _ => fun
  | [d] => { results := [.lit (.bool false)], args := [d] }
  | _ => none }
def OrbPlacesWrongFalsely : Prop := orbPlacesRow.holds Tryz.pinned (OpenSpec.ofChange orbPlacesWrong)

/-- 'ephemerislaw12.OrbElements': WHATEVER THE INPUT: true; the input reads as it did. -/
def orbElementsSpec : ChangeSpec := { name := "orbElements", fn := fun _ => fun
  | [d] => { results := [.lit (.bool true)], args := [d] }
  | _ => none }
def orbElementsRow : OpenClaim := { program := "ytmpdbkdijfpbbaagreatdoor", sum := "0f28ebb83d0b5869f99d0112f4d8cff7b358a009664d477969a4c4953b207079", func := "ephemeris/ephemerislaw12.OrbElements", spec := "orbElements", recurses := true, named := ["math/bits.divideError", "math/bits.overflowError", "ephemeris/dial.heights"], apart := false, laid := [("ephemeris/dial.heights", laid_ephemeris_dial_heights)] }
def OrbElementsSaid : Prop := orbElementsRow.holds Tryz.pinned (OpenSpec.ofChange orbElementsSpec)

/-- ITS FALSE NEIGHBOUR: 'it returns false'. Refute it at one input. -/
def orbElementsWrong : ChangeSpec := { name := "orbElements", fn := fun _ => fun
  | [d] => { results := [.lit (.bool false)], args := [d] }
  | _ => none }
def OrbElementsWrongFalsely : Prop := orbElementsRow.holds Tryz.pinned (OpenSpec.ofChange orbElementsWrong)

/- THE SECOND FORM. 'bulk': how many values and letters a reading holds, each counted each time it is reached (what is shared counts as often as it is met; a slice's spare places count too). A statement '..UptoSaid' is the law's where the arguments, and the package variables that the reading takes, are together of bulk at most 1048576: NARROWER than '..Said'. Prove '..Said' where nothing that the law and all that it calls make is longer than what came in: it says more and counts as full. Else prove '..UptoSaid'. A law counts once. -/
mutual
def uptoBulk {H : Type} : DataW H → Nat
  | .lit (.string bytes) => bytes.length + 1
  | .lit _ => 1
  | .nil => 1
  | .ptr d => uptoBulk d + 1
  | .slice elems spare => uptoBulkAll elems + uptoBulkAll spare + 1
  | .agg parts => uptoBulkAll parts + 1
  | .iface _ d => uptoBulk d + 1
  | .map entries => uptoBulkEntries entries + 1
  | .held _ => 1
def uptoBulkAll {H : Type} : List (DataW H) → Nat
  | [] => 0
  | d :: r => uptoBulk d + uptoBulkAll r
def uptoBulkEntries {H : Type} : List (Lit × DataW H) → Nat
  | [] => 0
  | x :: r => uptoBulkEntry x + uptoBulkEntries r
def uptoBulkEntry {H : Type} : Lit × DataW H → Nat
  | (.string bytes, d) => bytes.length + uptoBulk d + 1
  | (_, d) => uptoBulk d + 1
 end
def uptoSmall : (H : Type) → List (DataW H) → Bool := fun _ ds => decide (uptoBulkAll ds ≤ 1048576)
def OpenSpec.upto (s : _root_.Go.ChangeSpec) : _root_.Go.OpenSpec := { _root_.Go.OpenSpec.ofChange s with cond := some uptoSmall }

/-- 'ephemerislaw12.OrbPlaces', WHERE WHAT IT READS IS OF BULK AT MOST 1048576: true; the input reads as it did. -/
def orbPlacesUptoRow : OpenClaim := { program := "ytmpdbkdijfpbbaagreatdoor", sum := "0f28ebb83d0b5869f99d0112f4d8cff7b358a009664d477969a4c4953b207079", func := "ephemeris/ephemerislaw12.OrbPlaces", spec := "orbPlaces", recurses := true, named := ["math/bits.divideError", "math/bits.overflowError", "ephemeris/dial.heights"], apart := false, laid := [("ephemeris/dial.heights", laid_ephemeris_dial_heights)], narrowed := true }
def OrbPlacesUptoSaid : Prop := orbPlacesUptoRow.holds Tryz.pinned (OpenSpec.upto orbPlacesSpec)

/-- 'ephemerislaw12.OrbElements', WHERE WHAT IT READS IS OF BULK AT MOST 1048576: true; the input reads as it did. -/
def orbElementsUptoRow : OpenClaim := { program := "ytmpdbkdijfpbbaagreatdoor", sum := "0f28ebb83d0b5869f99d0112f4d8cff7b358a009664d477969a4c4953b207079", func := "ephemeris/ephemerislaw12.OrbElements", spec := "orbElements", recurses := true, named := ["math/bits.divideError", "math/bits.overflowError", "ephemeris/dial.heights"], apart := false, laid := [("ephemeris/dial.heights", laid_ephemeris_dial_heights)], narrowed := true }
def OrbElementsUptoSaid : Prop := orbElementsUptoRow.holds Tryz.pinned (OpenSpec.upto orbElementsSpec)

end Rows
end Go.Proofs.YtmpdbkdijfpbbaaGreatDoor
