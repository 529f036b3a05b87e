/-
  NARROWER THAN 'FOR EVERY INPUT', by the rows' own cells (each row's printed sentence says how): RiseParts: laid · RiseDays: laid · RiseSteps: laid · RiseEast: laid · RiseBits: laid · EphemerisNoon: laid.
  DERIVED. THE GIVEN ROWS OF THIS SEAT. 6 by the template 'for every input the law returns true; each argument reads behind the call as it read before'; 0 by the template 'total and deterministic' (their statements: YtpkhdajnppoinaaGreatDoorTotals.lean).
  GIVEN WITH THE SEED: the statements are not yours to turn. If you find one false, say at which input.
  Laid BY PROGRAM, IN A SANDBOX (cutbox-rows.mjs): the forced cells as the released guide's own fill.sh prints them over the translation b0d3c0a6abc524c4… (all of the seat's roots in one cut). By AI agents, Wed Nov 11 2026. No macro, syntax, notation, axiom, sorry.
-/
import Derived.Test.YtpkhdajnppoinaaGreatDoorChecked
import GoSem.Claim
import GoSem.ClaimJoined
import GoSem.ClaimMapViews
import Derived.JoinedTies
import Derived.KernelRfl
namespace Go.Proofs.YtpkhdajnppoinaaGreatDoor
/- THE CELL 'sum', in the pinned program and in every row, IS THE sha256 OF THE DUMP (.gsa) THAT YtpkhdajnppoinaaGreatDoorProg.lean LOADS. Nothing in Lean hashes anything: it is a label: what it is worth is what the hold of that sum in a sandbox is worth. -/
noncomputable def Tryz.pinned : Pinned := { name := "ytpkhdajnppoinaagreatdoor", sum := "b0d3c0a6abc524c410f2fe71a1f1219a078c6de7b85a86b575ff3e35c41f6bf5", checked := Tryz.checked }
namespace Rows
def none {H : Type} : Left H := { results := [], args := [] }

/- WHAT THE LISTED PACKAGE-LEVEL VARIABLES READ AS WHEN THE CALL BEGINS. Each datum BY PROGRAM (the guide's laid-datum.mjs) off the statement by which the dump's own 'gosem.cut.vars' lays the variable. In a bare row this is a premise. The card (YtpkhdajnppoinaaGreatDoorCards.lean) ties it to the program's text. -/
def laid_ephemeris_dial_heights {H : Type} : DataW H := .agg [.lit (.int .i64 0), .lit (.int .i64 225), .lit (.int .i64 449), .lit (.int .i64 671), .lit (.int .i64 890), .lit (.int .i64 1105), .lit (.int .i64 1315), .lit (.int .i64 1520), .lit (.int .i64 1719), .lit (.int .i64 1910), .lit (.int .i64 2093), .lit (.int .i64 2267), .lit (.int .i64 2431), .lit (.int .i64 2585), .lit (.int .i64 2728), .lit (.int .i64 2859), .lit (.int .i64 2978), .lit (.int .i64 3084), .lit (.int .i64 3177), .lit (.int .i64 3256), .lit (.int .i64 3321), .lit (.int .i64 3372), .lit (.int .i64 3409), .lit (.int .i64 3431), .lit (.int .i64 3438)]

/-- 'ephemerislaw14.RiseParts': WHATEVER THE INPUT: true; the input reads as it did. -/
def risePartsSpec : ChangeSpec := { name := "riseParts", fn := fun _ => fun
  | [d1, d2, d3] => { results := [.lit (.bool true)], args := [d1, d2, d3] }
  | _ => none }
def risePartsRow : OpenClaim := { program := "ytpkhdajnppoinaagreatdoor", sum := "b0d3c0a6abc524c410f2fe71a1f1219a078c6de7b85a86b575ff3e35c41f6bf5", func := "ephemeris/ephemerislaw14.RiseParts", spec := "riseParts", recurses := true, named := ["math/bits.divideError", "math/bits.overflowError", "ephemeris/dial.heights"], apart := false, laid := [("ephemeris/dial.heights", laid_ephemeris_dial_heights)] }
def RisePartsSaid : Prop := risePartsRow.holds Tryz.pinned (OpenSpec.ofChange risePartsSpec)

/-- ITS FALSE NEIGHBOUR: 'it returns false'. Refute it at one input. -/
def risePartsWrong : ChangeSpec := { name := "riseParts", fn := fun _ => fun
  | [d1, d2, d3] => { results := [.lit (.bool false)], args := [d1, d2, d3] }
  | _ => none }
def RisePartsWrongFalsely : Prop := risePartsRow.holds Tryz.pinned (OpenSpec.ofChange risePartsWrong)

/-- 'ephemerislaw14.RiseDays': WHATEVER THE INPUT: true; the input reads as it did. -/
def riseDaysSpec : ChangeSpec := { name := "riseDays", fn := fun _ => fun
  | [d1, d2, d3, d4, d5] => { results := [.lit (.bool true)], args := [d1, d2, d3, d4, d5] }
  | _ => none }
def riseDaysRow : OpenClaim := { program := "ytpkhdajnppoinaagreatdoor", sum := "b0d3c0a6abc524c410f2fe71a1f1219a078c6de7b85a86b575ff3e35c41f6bf5", func := "ephemeris/ephemerislaw14.RiseDays", spec := "riseDays", recurses := true, named := ["math/bits.divideError", "math/bits.overflowError", "ephemeris/dial.heights"], apart := false, laid := [("ephemeris/dial.heights", laid_ephemeris_dial_heights)] }
def RiseDaysSaid : Prop := riseDaysRow.holds Tryz.pinned (OpenSpec.ofChange riseDaysSpec)

/-- ITS FALSE NEIGHBOUR: 'it returns false'. Refute it at one input. -/
def riseDaysWrong : ChangeSpec := { name := "riseDays", fn := fun _ => fun
  | [d1, d2, d3, d4, d5] => { results := [.lit (.bool false)], args := [d1, d2, d3, d4, d5] }
  | _ => none }
def RiseDaysWrongFalsely : Prop := riseDaysRow.holds Tryz.pinned (OpenSpec.ofChange riseDaysWrong)

/-- 'ephemerislaw14.RiseSteps': WHATEVER THE INPUT: true; the input reads as it did. -/
def riseStepsSpec : ChangeSpec := { name := "riseSteps", fn := fun _ => fun
  | [d1, d2, d3, d4, d5] => { results := [.lit (.bool true)], args := [d1, d2, d3, d4, d5] }
  | _ => none }
def riseStepsRow : OpenClaim := { program := "ytpkhdajnppoinaagreatdoor", sum := "b0d3c0a6abc524c410f2fe71a1f1219a078c6de7b85a86b575ff3e35c41f6bf5", func := "ephemeris/ephemerislaw14.RiseSteps", spec := "riseSteps", recurses := true, named := ["math/bits.divideError", "math/bits.overflowError", "ephemeris/dial.heights"], apart := false, laid := [("ephemeris/dial.heights", laid_ephemeris_dial_heights)] }
def RiseStepsSaid : Prop := riseStepsRow.holds Tryz.pinned (OpenSpec.ofChange riseStepsSpec)

/-- ITS FALSE NEIGHBOUR: 'it returns false'. Refute it at one input. -/
def riseStepsWrong : ChangeSpec := { name := "riseSteps", fn := fun _ => fun
  | [d1, d2, d3, d4, d5] => { results := [.lit (.bool false)], args := [d1, d2, d3, d4, d5] }
  | _ => none }
def RiseStepsWrongFalsely : Prop := riseStepsRow.holds Tryz.pinned (OpenSpec.ofChange riseStepsWrong)

/-- 'ephemerislaw14.RiseEast': WHATEVER THE INPUT: true; the input reads as it did. -/
def riseEastSpec : ChangeSpec := { name := "riseEast", fn := fun _ => fun
  | [d1, d2, d3, d4, d5, d6, d7] => { results := [.lit (.bool true)], args := [d1, d2, d3, d4, d5, d6, d7] }
  | _ => none }
def riseEastRow : OpenClaim := { program := "ytpkhdajnppoinaagreatdoor", sum := "b0d3c0a6abc524c410f2fe71a1f1219a078c6de7b85a86b575ff3e35c41f6bf5", func := "ephemeris/ephemerislaw14.RiseEast", spec := "riseEast", recurses := true, named := ["math/bits.divideError", "math/bits.overflowError", "ephemeris/dial.heights"], apart := false, laid := [("ephemeris/dial.heights", laid_ephemeris_dial_heights)] }
def RiseEastSaid : Prop := riseEastRow.holds Tryz.pinned (OpenSpec.ofChange riseEastSpec)

/-- ITS FALSE NEIGHBOUR: 'it returns false'. Refute it at one input. -/
def riseEastWrong : ChangeSpec := { name := "riseEast", fn := fun _ => fun
  | [d1, d2, d3, d4, d5, d6, d7] => { results := [.lit (.bool false)], args := [d1, d2, d3, d4, d5, d6, d7] }
  | _ => none }
def RiseEastWrongFalsely : Prop := riseEastRow.holds Tryz.pinned (OpenSpec.ofChange riseEastWrong)

/-- 'ephemerislaw14.RiseBits': WHATEVER THE INPUT: true; the input reads as it did. -/
def riseBitsSpec : ChangeSpec := { name := "riseBits", fn := fun _ => fun
  | [d1, d2, d3, d4, d5] => { results := [.lit (.bool true)], args := [d1, d2, d3, d4, d5] }
  | _ => none }
def riseBitsRow : OpenClaim := { program := "ytpkhdajnppoinaagreatdoor", sum := "b0d3c0a6abc524c410f2fe71a1f1219a078c6de7b85a86b575ff3e35c41f6bf5", func := "ephemeris/ephemerislaw14.RiseBits", spec := "riseBits", recurses := true, named := ["math/bits.divideError", "math/bits.overflowError", "ephemeris/dial.heights"], apart := false, laid := [("ephemeris/dial.heights", laid_ephemeris_dial_heights)] }
def RiseBitsSaid : Prop := riseBitsRow.holds Tryz.pinned (OpenSpec.ofChange riseBitsSpec)

/-- ITS FALSE NEIGHBOUR: 'it returns false'. Refute it at one input. -/
def riseBitsWrong : ChangeSpec := { name := "riseBits", fn := fun _ => fun
  | [d1, d2, d3, d4, d5] => { results := [.lit (.bool false)], args := [d1, d2, d3, d4, d5] }
  | _ => none }
def RiseBitsWrongFalsely : Prop := riseBitsRow.holds Tryz.pinned (OpenSpec.ofChange riseBitsWrong)

/-- 'ephemeristop.EphemerisNoon': WHATEVER THE INPUT: true; the input reads as it did. -/
def ephemerisNoonSpec : ChangeSpec := { name := "ephemerisNoon", fn := fun _ => fun
  | [d1, d2, d3, d4, d5] => { results := [.lit (.bool true)], args := [d1, d2, d3, d4, d5] }
  | _ => none }
def ephemerisNoonRow : OpenClaim := { program := "ytpkhdajnppoinaagreatdoor", sum := "b0d3c0a6abc524c410f2fe71a1f1219a078c6de7b85a86b575ff3e35c41f6bf5", func := "ephemeris/ephemeristop.EphemerisNoon", spec := "ephemerisNoon", recurses := true, named := ["math/bits.divideError", "math/bits.overflowError", "ephemeris/dial.heights"], apart := false, laid := [("ephemeris/dial.heights", laid_ephemeris_dial_heights)] }
def EphemerisNoonSaid : Prop := ephemerisNoonRow.holds Tryz.pinned (OpenSpec.ofChange ephemerisNoonSpec)

/-- ITS FALSE NEIGHBOUR: 'it returns false'. Refute it at one input. -/
def ephemerisNoonWrong : ChangeSpec := { name := "ephemerisNoon", fn := fun _ => fun
  | [d1, d2, d3, d4, d5] => { results := [.lit (.bool false)], args := [d1, d2, d3, d4, d5] }
  | _ => none }
def EphemerisNoonWrongFalsely : Prop := ephemerisNoonRow.holds Tryz.pinned (OpenSpec.ofChange ephemerisNoonWrong)

/- THE SECOND FORM. 'bulk': how many values and letters a reading holds, each counted each time it is reached (what is shared counts as often as it is met; a slice's spare places count too). A statement '..UptoSaid' is the law's where the arguments, and the package variables that the reading takes, are together of bulk at most 1048576: NARROWER than '..Said'. Prove '..Said' where nothing that the law and all that it calls make is longer than what came in: it says more and counts as full. Else prove '..UptoSaid'. A law counts once. -/
mutual
def uptoBulk {H : Type} : DataW H → Nat
  | .lit (.string bytes) => bytes.length + 1
  | .lit _ => 1
  | .nil => 1
  | .ptr d => uptoBulk d + 1
  | .slice elems spare => uptoBulkAll elems + uptoBulkAll spare + 1
  | .agg parts => uptoBulkAll parts + 1
  | .iface _ d => uptoBulk d + 1
  | .map entries => uptoBulkEntries entries + 1
  | .held _ => 1
def uptoBulkAll {H : Type} : List (DataW H) → Nat
  | [] => 0
  | d :: r => uptoBulk d + uptoBulkAll r
def uptoBulkEntries {H : Type} : List (Lit × DataW H) → Nat
  | [] => 0
  | x :: r => uptoBulkEntry x + uptoBulkEntries r
def uptoBulkEntry {H : Type} : Lit × DataW H → Nat
  | (.string bytes, d) => bytes.length + uptoBulk d + 1
  | (_, d) => uptoBulk d + 1
 end
def uptoSmall : (H : Type) → List (DataW H) → Bool := fun _ ds => decide (uptoBulkAll ds ≤ 1048576)
def OpenSpec.upto (s : _root_.Go.ChangeSpec) : _root_.Go.OpenSpec := { _root_.Go.OpenSpec.ofChange s with cond := some uptoSmall }

/-- 'ephemerislaw14.RiseParts', WHERE WHAT IT READS IS OF BULK AT MOST 1048576: true; the input reads as it did. -/
def risePartsUptoRow : OpenClaim := { program := "ytpkhdajnppoinaagreatdoor", sum := "b0d3c0a6abc524c410f2fe71a1f1219a078c6de7b85a86b575ff3e35c41f6bf5", func := "ephemeris/ephemerislaw14.RiseParts", spec := "riseParts", recurses := true, named := ["math/bits.divideError", "math/bits.overflowError", "ephemeris/dial.heights"], apart := false, laid := [("ephemeris/dial.heights", laid_ephemeris_dial_heights)], narrowed := true }
def RisePartsUptoSaid : Prop := risePartsUptoRow.holds Tryz.pinned (OpenSpec.upto risePartsSpec)

/-- 'ephemerislaw14.RiseDays', WHERE WHAT IT READS IS OF BULK AT MOST 1048576: true; the input reads as it did. -/
def riseDaysUptoRow : OpenClaim := { program := "ytpkhdajnppoinaagreatdoor", sum := "b0d3c0a6abc524c410f2fe71a1f1219a078c6de7b85a86b575ff3e35c41f6bf5", func := "ephemeris/ephemerislaw14.RiseDays", spec := "riseDays", recurses := true, named := ["math/bits.divideError", "math/bits.overflowError", "ephemeris/dial.heights"], apart := false, laid := [("ephemeris/dial.heights", laid_ephemeris_dial_heights)], narrowed := true }
def RiseDaysUptoSaid : Prop := riseDaysUptoRow.holds Tryz.pinned (OpenSpec.upto riseDaysSpec)

/-- 'ephemerislaw14.RiseSteps', WHERE WHAT IT READS IS OF BULK AT MOST 1048576: true; the input reads as it did. -/
def riseStepsUptoRow : OpenClaim := { program := "ytpkhdajnppoinaagreatdoor", sum := "b0d3c0a6abc524c410f2fe71a1f1219a078c6de7b85a86b575ff3e35c41f6bf5", func := "ephemeris/ephemerislaw14.RiseSteps", spec := "riseSteps", recurses := true, named := ["math/bits.divideError", "math/bits.overflowError", "ephemeris/dial.heights"], apart := false, laid := [("ephemeris/dial.heights", laid_ephemeris_dial_heights)], narrowed := true }
def RiseStepsUptoSaid : Prop := riseStepsUptoRow.holds Tryz.pinned (OpenSpec.upto riseStepsSpec)

/-- 'ephemerislaw14.RiseEast', WHERE WHAT IT READS IS OF BULK AT MOST 1048576: true; the input reads as it did. -/
def riseEastUptoRow : OpenClaim := { program := "ytpkhdajnppoinaagreatdoor", sum := "b0d3c0a6abc524c410f2fe71a1f1219a078c6de7b85a86b575ff3e35c41f6bf5", func := "ephemeris/ephemerislaw14.RiseEast", spec := "riseEast", recurses := true, named := ["math/bits.divideError", "math/bits.overflowError", "ephemeris/dial.heights"], apart := false, laid := [("ephemeris/dial.heights", laid_ephemeris_dial_heights)], narrowed := true }
def RiseEastUptoSaid : Prop := riseEastUptoRow.holds Tryz.pinned (OpenSpec.upto riseEastSpec)

/-- 'ephemerislaw14.RiseBits', WHERE WHAT IT READS IS OF BULK AT MOST 1048576: true; the input reads as it did. -/
def riseBitsUptoRow : OpenClaim := { program := "ytpkhdajnppoinaagreatdoor", sum := "b0d3c0a6abc524c410f2fe71a1f1219a078c6de7b85a86b575ff3e35c41f6bf5", func := "ephemeris/ephemerislaw14.RiseBits", spec := "riseBits", recurses := true, named := ["math/bits.divideError", "math/bits.overflowError", "ephemeris/dial.heights"], apart := false, laid := [("ephemeris/dial.heights", laid_ephemeris_dial_heights)], narrowed := true }
def RiseBitsUptoSaid : Prop := riseBitsUptoRow.holds Tryz.pinned (OpenSpec.upto riseBitsSpec)

/-- 'ephemeristop.EphemerisNoon', WHERE WHAT IT READS IS OF BULK AT MOST 1048576: true; the input reads as it did. -/
def ephemerisNoonUptoRow : OpenClaim := { program := "ytpkhdajnppoinaagreatdoor", sum := "b0d3c0a6abc524c410f2fe71a1f1219a078c6de7b85a86b575ff3e35c41f6bf5", func := "ephemeris/ephemeristop.EphemerisNoon", spec := "ephemerisNoon", recurses := true, named := ["math/bits.divideError", "math/bits.overflowError", "ephemeris/dial.heights"], apart := false, laid := [("ephemeris/dial.heights", laid_ephemeris_dial_heights)], narrowed := true }
def EphemerisNoonUptoSaid : Prop := ephemerisNoonUptoRow.holds Tryz.pinned (OpenSpec.upto ephemerisNoonSpec)

end Rows
end Go.Proofs.YtpkhdajnppoinaaGreatDoor
