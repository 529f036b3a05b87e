/-
  NARROWER THAN 'FOR EVERY INPUT', by the rows' own cells (each row's printed sentence says how): OrbNear: laid · OrbMoves: laid · OrbHalf: laid · OrbBits: laid · EphemerisYears: laid.
  DERIVED. THE GIVEN ROWS OF THIS SEAT. 5 by the template 'for every input the law returns true; each argument reads behind the call as it read before'; 0 by the template 'total and deterministic' (their statements: YtmpdbkdijfpbbaaDoorTotals.lean).
  GIVEN WITH THE SEED: the statements are not yours to turn. If you find one false, say at which input.
  Laid BY PROGRAM, IN A SANDBOX (cutbox-rows.mjs): the forced cells as the released guide's own fill.sh prints them over the translation 27e59df7fcaa0a32… (all of the seat's roots in one cut). By AI agents, Wed Nov 11 2026. No macro, syntax, notation, axiom, sorry.
-/
import Derived.Test.YtmpdbkdijfpbbaaDoorChecked
import GoSem.Claim
import GoSem.ClaimJoined
import GoSem.ClaimMapViews
import Derived.JoinedTies
import Derived.KernelRfl
namespace Go.Proofs.YtmpdbkdijfpbbaaDoor
/- THE CELL 'sum', in the pinned program and in every row, IS THE sha256 OF THE DUMP (.gsa) THAT YtmpdbkdijfpbbaaDoorProg.lean LOADS. Nothing in Lean hashes anything: it is a label: what it is worth is what the hold of that sum in a sandbox is worth. -/
noncomputable def Tryd.pinned : Pinned := { name := "ytmpdbkdijfpbbaadoor", sum := "27e59df7fcaa0a32b342e0f263190487b1eb81fead9860f7d0bd77ed24a0a5bc", checked := Tryd.checked }
namespace Rows
def none {H : Type} : Left H := { results := [], args := [] }

/- WHAT THE LISTED PACKAGE-LEVEL VARIABLES READ AS WHEN THE CALL BEGINS. Each datum BY PROGRAM (the guide's laid-datum.mjs) off the statement by which the dump's own 'gosem.cut.vars' lays the variable. In a bare row this is a premise. The card (YtmpdbkdijfpbbaaDoorCards.lean) ties it to the program's text. -/
def laid_ephemeris_dial_heights {H : Type} : DataW H := .agg [.lit (.int .i64 0), .lit (.int .i64 225), .lit (.int .i64 449), .lit (.int .i64 671), .lit (.int .i64 890), .lit (.int .i64 1105), .lit (.int .i64 1315), .lit (.int .i64 1520), .lit (.int .i64 1719), .lit (.int .i64 1910), .lit (.int .i64 2093), .lit (.int .i64 2267), .lit (.int .i64 2431), .lit (.int .i64 2585), .lit (.int .i64 2728), .lit (.int .i64 2859), .lit (.int .i64 2978), .lit (.int .i64 3084), .lit (.int .i64 3177), .lit (.int .i64 3256), .lit (.int .i64 3321), .lit (.int .i64 3372), .lit (.int .i64 3409), .lit (.int .i64 3431), .lit (.int .i64 3438)]

/-- 'ephemerislaw12.OrbNear': WHATEVER THE INPUT: true; the input reads as it did. -/
def orbNearSpec : ChangeSpec := { name := "orbNear", fn := fun _ => fun
  | [d] => { results := [.lit (.bool true)], args := [d] }
  | _ => none }
def orbNearRow : OpenClaim := { program := "ytmpdbkdijfpbbaadoor", sum := "27e59df7fcaa0a32b342e0f263190487b1eb81fead9860f7d0bd77ed24a0a5bc", func := "ephemeris/ephemerislaw12.OrbNear", spec := "orbNear", recurses := true, named := ["math/bits.divideError", "math/bits.overflowError", "ephemeris/dial.heights"], apart := false, laid := [("ephemeris/dial.heights", laid_ephemeris_dial_heights)] }
def OrbNearSaid : Prop := orbNearRow.holds Tryd.pinned (OpenSpec.ofChange orbNearSpec)

/-- ITS FALSE NEIGHBOUR: 'it returns false'. Refute it at one input. -/
def orbNearWrong : ChangeSpec := { name := "orbNear", fn := fun _ => fun
  | [d] => { results := [.lit (.bool false)], args := [d] }
  | _ => none }
def OrbNearWrongFalsely : Prop := orbNearRow.holds Tryd.pinned (OpenSpec.ofChange orbNearWrong)

/-- 'ephemerislaw12.OrbMoves': WHATEVER THE INPUT: true; the input reads as it did. -/
def orbMovesSpec : ChangeSpec := { name := "orbMoves", fn := fun _ => fun
  | [d] => { results := [.lit (.bool true)], args := [d] }
  | _ => none }
def orbMovesRow : OpenClaim := { program := "ytmpdbkdijfpbbaadoor", sum := "27e59df7fcaa0a32b342e0f263190487b1eb81fead9860f7d0bd77ed24a0a5bc", func := "ephemeris/ephemerislaw12.OrbMoves", spec := "orbMoves", recurses := true, named := ["math/bits.divideError", "math/bits.overflowError", "ephemeris/dial.heights"], apart := false, laid := [("ephemeris/dial.heights", laid_ephemeris_dial_heights)] }
def OrbMovesSaid : Prop := orbMovesRow.holds Tryd.pinned (OpenSpec.ofChange orbMovesSpec)

/-- ITS FALSE NEIGHBOUR: 'it returns false'. Refute it at one input. -/
def orbMovesWrong : ChangeSpec := { name := "orbMoves", fn := fun _ => fun
  | [d] => { results := [.lit (.bool false)], args := [d] }
  | _ => none }
def OrbMovesWrongFalsely : Prop := orbMovesRow.holds Tryd.pinned (OpenSpec.ofChange orbMovesWrong)

/-- 'ephemerislaw12.OrbHalf': WHATEVER THE INPUT: true; the input reads as it did. -/
def orbHalfSpec : ChangeSpec := { name := "orbHalf", fn := fun _ => fun
  | [d] => { results := [.lit (.bool true)], args := [d] }
  | _ => none }
def orbHalfRow : OpenClaim := { program := "ytmpdbkdijfpbbaadoor", sum := "27e59df7fcaa0a32b342e0f263190487b1eb81fead9860f7d0bd77ed24a0a5bc", func := "ephemeris/ephemerislaw12.OrbHalf", spec := "orbHalf", recurses := true, named := ["math/bits.divideError", "math/bits.overflowError", "ephemeris/dial.heights"], apart := false, laid := [("ephemeris/dial.heights", laid_ephemeris_dial_heights)] }
def OrbHalfSaid : Prop := orbHalfRow.holds Tryd.pinned (OpenSpec.ofChange orbHalfSpec)

/-- ITS FALSE NEIGHBOUR: 'it returns false'. Refute it at one input. -/
def orbHalfWrong : ChangeSpec := { name := "orbHalf", fn := fun _ => fun
  | [d] => { results := [.lit (.bool false)], args := [d] }
  | _ => none }
def OrbHalfWrongFalsely : Prop := orbHalfRow.holds Tryd.pinned (OpenSpec.ofChange orbHalfWrong)

/-- 'ephemerislaw12.OrbBits': WHATEVER THE INPUT: true; the input reads as it did. -/
def orbBitsSpec : ChangeSpec := { name := "orbBits", fn := fun _ => fun
  | [d] => { results := [.lit (.bool true)], args := [d] }
  | _ => none }
def orbBitsRow : OpenClaim := { program := "ytmpdbkdijfpbbaadoor", sum := "27e59df7fcaa0a32b342e0f263190487b1eb81fead9860f7d0bd77ed24a0a5bc", func := "ephemeris/ephemerislaw12.OrbBits", spec := "orbBits", recurses := true, named := ["math/bits.divideError", "math/bits.overflowError", "ephemeris/dial.heights"], apart := false, laid := [("ephemeris/dial.heights", laid_ephemeris_dial_heights)] }
def OrbBitsSaid : Prop := orbBitsRow.holds Tryd.pinned (OpenSpec.ofChange orbBitsSpec)

/-- ITS FALSE NEIGHBOUR: 'it returns false'. Refute it at one input. -/
def orbBitsWrong : ChangeSpec := { name := "orbBits", fn := fun _ => fun
  | [d] => { results := [.lit (.bool false)], args := [d] }
  | _ => none }
def OrbBitsWrongFalsely : Prop := orbBitsRow.holds Tryd.pinned (OpenSpec.ofChange orbBitsWrong)

/-- 'ephemeristop.EphemerisYears': WHATEVER THE INPUT: true; the input reads as it did. -/
def ephemerisYearsSpec : ChangeSpec := { name := "ephemerisYears", fn := fun _ => fun
  | [d1, d2] => { results := [.lit (.bool true)], args := [d1, d2] }
  | _ => none }
def ephemerisYearsRow : OpenClaim := { program := "ytmpdbkdijfpbbaadoor", sum := "27e59df7fcaa0a32b342e0f263190487b1eb81fead9860f7d0bd77ed24a0a5bc", func := "ephemeris/ephemeristop.EphemerisYears", spec := "ephemerisYears", recurses := true, named := ["math/bits.divideError", "math/bits.overflowError", "ephemeris/dial.heights"], apart := false, laid := [("ephemeris/dial.heights", laid_ephemeris_dial_heights)] }
def EphemerisYearsSaid : Prop := ephemerisYearsRow.holds Tryd.pinned (OpenSpec.ofChange ephemerisYearsSpec)

/-- ITS FALSE NEIGHBOUR: 'it returns false'. Refute it at one input. -/
def ephemerisYearsWrong : ChangeSpec := { name := "ephemerisYears", fn := fun _ => fun
  | [d1, d2] => { results := [.lit (.bool false)], args := [d1, d2] }
  | _ => none }
def EphemerisYearsWrongFalsely : Prop := ephemerisYearsRow.holds Tryd.pinned (OpenSpec.ofChange ephemerisYearsWrong)

/- THE SECOND FORM. 'bulk': how many values and letters a reading holds, each counted each time it is reached (what is shared counts as often as it is met; a slice's spare places count too). A statement '..UptoSaid' is the law's where the arguments, and the package variables that the reading takes, are together of bulk at most 1048576: NARROWER than '..Said'. Prove '..Said' where nothing that the law and all that it calls make is longer than what came in: it says more and counts as full. Else prove '..UptoSaid'. A law counts once. -/
mutual
def uptoBulk {H : Type} : DataW H → Nat
  | .lit (.string bytes) => bytes.length + 1
  | .lit _ => 1
  | .nil => 1
  | .ptr d => uptoBulk d + 1
  | .slice elems spare => uptoBulkAll elems + uptoBulkAll spare + 1
  | .agg parts => uptoBulkAll parts + 1
  | .iface _ d => uptoBulk d + 1
  | .map entries => uptoBulkEntries entries + 1
  | .held _ => 1
def uptoBulkAll {H : Type} : List (DataW H) → Nat
  | [] => 0
  | d :: r => uptoBulk d + uptoBulkAll r
def uptoBulkEntries {H : Type} : List (Lit × DataW H) → Nat
  | [] => 0
  | x :: r => uptoBulkEntry x + uptoBulkEntries r
def uptoBulkEntry {H : Type} : Lit × DataW H → Nat
  | (.string bytes, d) => bytes.length + uptoBulk d + 1
  | (_, d) => uptoBulk d + 1
 end
def uptoSmall : (H : Type) → List (DataW H) → Bool := fun _ ds => decide (uptoBulkAll ds ≤ 1048576)
def OpenSpec.upto (s : _root_.Go.ChangeSpec) : _root_.Go.OpenSpec := { _root_.Go.OpenSpec.ofChange s with cond := some uptoSmall }

/-- 'ephemerislaw12.OrbNear', WHERE WHAT IT READS IS OF BULK AT MOST 1048576: true; the input reads as it did. -/
def orbNearUptoRow : OpenClaim := { program := "ytmpdbkdijfpbbaadoor", sum := "27e59df7fcaa0a32b342e0f263190487b1eb81fead9860f7d0bd77ed24a0a5bc", func := "ephemeris/ephemerislaw12.OrbNear", spec := "orbNear", recurses := true, named := ["math/bits.divideError", "math/bits.overflowError", "ephemeris/dial.heights"], apart := false, laid := [("ephemeris/dial.heights", laid_ephemeris_dial_heights)], narrowed := true }
def OrbNearUptoSaid : Prop := orbNearUptoRow.holds Tryd.pinned (OpenSpec.upto orbNearSpec)

/-- 'ephemerislaw12.OrbMoves', WHERE WHAT IT READS IS OF BULK AT MOST 1048576: true; the input reads as it did. -/
def orbMovesUptoRow : OpenClaim := { program := "ytmpdbkdijfpbbaadoor", sum := "27e59df7fcaa0a32b342e0f263190487b1eb81fead9860f7d0bd77ed24a0a5bc", func := "ephemeris/ephemerislaw12.OrbMoves", spec := "orbMoves", recurses := true, named := ["math/bits.divideError", "math/bits.overflowError", "ephemeris/dial.heights"], apart := false, laid := [("ephemeris/dial.heights", laid_ephemeris_dial_heights)], narrowed := true }
def OrbMovesUptoSaid : Prop := orbMovesUptoRow.holds Tryd.pinned (OpenSpec.upto orbMovesSpec)

/-- 'ephemerislaw12.OrbHalf', WHERE WHAT IT READS IS OF BULK AT MOST 1048576: true; the input reads as it did. -/
def orbHalfUptoRow : OpenClaim := { program := "ytmpdbkdijfpbbaadoor", sum := "27e59df7fcaa0a32b342e0f263190487b1eb81fead9860f7d0bd77ed24a0a5bc", func := "ephemeris/ephemerislaw12.OrbHalf", spec := "orbHalf", recurses := true, named := ["math/bits.divideError", "math/bits.overflowError", "ephemeris/dial.heights"], apart := false, laid := [("ephemeris/dial.heights", laid_ephemeris_dial_heights)], narrowed := true }
def OrbHalfUptoSaid : Prop := orbHalfUptoRow.holds Tryd.pinned (OpenSpec.upto orbHalfSpec)

/-- 'ephemerislaw12.OrbBits', WHERE WHAT IT READS IS OF BULK AT MOST 1048576: true; the input reads as it did. -/
def orbBitsUptoRow : OpenClaim := { program := "ytmpdbkdijfpbbaadoor", sum := "27e59df7fcaa0a32b342e0f263190487b1eb81fead9860f7d0bd77ed24a0a5bc", func := "ephemeris/ephemerislaw12.OrbBits", spec := "orbBits", recurses := true, named := ["math/bits.divideError", "math/bits.overflowError", "ephemeris/dial.heights"], apart := false, laid := [("ephemeris/dial.heights", laid_ephemeris_dial_heights)], narrowed := true }
def OrbBitsUptoSaid : Prop := orbBitsUptoRow.holds Tryd.pinned (OpenSpec.upto orbBitsSpec)

/-- 'ephemeristop.EphemerisYears', WHERE WHAT IT READS IS OF BULK AT MOST 1048576: true; the input reads as it did. -/
def ephemerisYearsUptoRow : OpenClaim := { program := "ytmpdbkdijfpbbaadoor", sum := "27e59df7fcaa0a32b342e0f263190487b1eb81fead9860f7d0bd77ed24a0a5bc", func := "ephemeris/ephemeristop.EphemerisYears", spec := "ephemerisYears", recurses := true, named := ["math/bits.divideError", "math/bits.overflowError", "ephemeris/dial.heights"], apart := false, laid := [("ephemeris/dial.heights", laid_ephemeris_dial_heights)], narrowed := true }
def EphemerisYearsUptoSaid : Prop := ephemerisYearsUptoRow.holds Tryd.pinned (OpenSpec.upto ephemerisYearsSpec)

end Rows
end Go.Proofs.YtmpdbkdijfpbbaaDoor
