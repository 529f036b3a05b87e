/-
  NARROWER THAN 'FOR EVERY INPUT', by the rows' own cells (each row's printed sentence says how): DialPoints: laid · DialTurns: laid · DialRound: laid · DialWhere: laid · SineTurns: laid · SineBack: laid · SineRises: laid · EphemerisCircle: laid.
  DERIVED. THE GIVEN ROWS OF THIS SEAT. 8 by the template 'for every input the law returns true; each argument reads behind the call as it read before'; 0 by the template 'total and deterministic' (their statements: YteafnboehmfmiaaDoorTotals.lean).
  GIVEN WITH THE SEED: the statements are not yours to turn. If you find one false, say at which input.
  Laid BY PROGRAM, IN A SANDBOX (cutbox-rows.mjs): the forced cells as the released guide's own fill.sh prints them over the translation 9fc7669b52faef84… (all of the seat's roots in one cut). By AI agents, Wed Nov 11 2026. No macro, syntax, notation, axiom, sorry.
-/
import Derived.Test.YteafnboehmfmiaaDoorChecked
import GoSem.Claim
import GoSem.ClaimJoined
import GoSem.ClaimMapViews
import Derived.JoinedTies
import Derived.KernelRfl
namespace Go.Proofs.YteafnboehmfmiaaDoor
/- THE CELL 'sum', in the pinned program and in every row, IS THE sha256 OF THE DUMP (.gsa) THAT YteafnboehmfmiaaDoorProg.lean LOADS. Nothing in Lean hashes anything: it is a label: what it is worth is what the hold of that sum in a sandbox is worth. -/
noncomputable def Tryd.pinned : Pinned := { name := "yteafnboehmfmiaadoor", sum := "9fc7669b52faef845efd9c21b2886300cecf5adfb357705b213abe3b57fa9d86", checked := Tryd.checked }
namespace Rows
def none {H : Type} : Left H := { results := [], args := [] }

/- WHAT THE LISTED PACKAGE-LEVEL VARIABLES READ AS WHEN THE CALL BEGINS. Each datum BY PROGRAM (the guide's laid-datum.mjs) off the statement by which the dump's own 'gosem.cut.vars' lays the variable. In a bare row this is a premise. The card (YteafnboehmfmiaaDoorCards.lean) ties it to the program's text. -/
def laid_ephemeris_dial_heights {H : Type} : DataW H := .agg [.lit (.int .i64 0), .lit (.int .i64 225), .lit (.int .i64 449), .lit (.int .i64 671), .lit (.int .i64 890), .lit (.int .i64 1105), .lit (.int .i64 1315), .lit (.int .i64 1520), .lit (.int .i64 1719), .lit (.int .i64 1910), .lit (.int .i64 2093), .lit (.int .i64 2267), .lit (.int .i64 2431), .lit (.int .i64 2585), .lit (.int .i64 2728), .lit (.int .i64 2859), .lit (.int .i64 2978), .lit (.int .i64 3084), .lit (.int .i64 3177), .lit (.int .i64 3256), .lit (.int .i64 3321), .lit (.int .i64 3372), .lit (.int .i64 3409), .lit (.int .i64 3431), .lit (.int .i64 3438)]

/-- 'ephemerislaw09.DialPoints': WHATEVER THE INPUT: true; the input reads as it did. -/
def dialPointsSpec : ChangeSpec := { name := "dialPoints", fn := fun _ => fun
  | [d] => { results := [.lit (.bool true)], args := [d] }
  | _ => none }
def dialPointsRow : OpenClaim := { program := "yteafnboehmfmiaadoor", sum := "9fc7669b52faef845efd9c21b2886300cecf5adfb357705b213abe3b57fa9d86", func := "ephemeris/ephemerislaw09.DialPoints", spec := "dialPoints", named := ["ephemeris/dial.heights"], apart := false, laid := [("ephemeris/dial.heights", laid_ephemeris_dial_heights)] }
def DialPointsSaid : Prop := dialPointsRow.holds Tryd.pinned (OpenSpec.ofChange dialPointsSpec)

/-- ITS FALSE NEIGHBOUR: 'it returns false'. Refute it at one input. -/
def dialPointsWrong : ChangeSpec := { name := "dialPoints", fn := fun _ => fun
  | [d] => { results := [.lit (.bool false)], args := [d] }
  | _ => none }
def DialPointsWrongFalsely : Prop := dialPointsRow.holds Tryd.pinned (OpenSpec.ofChange dialPointsWrong)

/-- 'ephemerislaw09.DialTurns': WHATEVER THE INPUT: true; the input reads as it did. -/
def dialTurnsSpec : ChangeSpec := { name := "dialTurns", fn := fun _ => fun
  | [d1, d2] => { results := [.lit (.bool true)], args := [d1, d2] }
  | _ => none }
def dialTurnsRow : OpenClaim := { program := "yteafnboehmfmiaadoor", sum := "9fc7669b52faef845efd9c21b2886300cecf5adfb357705b213abe3b57fa9d86", func := "ephemeris/ephemerislaw09.DialTurns", spec := "dialTurns", named := ["ephemeris/dial.heights"], apart := false, laid := [("ephemeris/dial.heights", laid_ephemeris_dial_heights)] }
def DialTurnsSaid : Prop := dialTurnsRow.holds Tryd.pinned (OpenSpec.ofChange dialTurnsSpec)

/-- ITS FALSE NEIGHBOUR: 'it returns false'. Refute it at one input. -/
def dialTurnsWrong : ChangeSpec := { name := "dialTurns", fn := fun _ => fun
  | [d1, d2] => { results := [.lit (.bool false)], args := [d1, d2] }
  | _ => none }
def DialTurnsWrongFalsely : Prop := dialTurnsRow.holds Tryd.pinned (OpenSpec.ofChange dialTurnsWrong)

/-- 'ephemerislaw09.DialRound': WHATEVER THE INPUT: true; the input reads as it did. -/
def dialRoundSpec : ChangeSpec := { name := "dialRound", fn := fun _ => fun
  | [d1, d2] => { results := [.lit (.bool true)], args := [d1, d2] }
  | _ => none }
def dialRoundRow : OpenClaim := { program := "yteafnboehmfmiaadoor", sum := "9fc7669b52faef845efd9c21b2886300cecf5adfb357705b213abe3b57fa9d86", func := "ephemeris/ephemerislaw09.DialRound", spec := "dialRound", named := ["ephemeris/dial.heights"], apart := false, laid := [("ephemeris/dial.heights", laid_ephemeris_dial_heights)] }
def DialRoundSaid : Prop := dialRoundRow.holds Tryd.pinned (OpenSpec.ofChange dialRoundSpec)

/-- ITS FALSE NEIGHBOUR: 'it returns false'. Refute it at one input. -/
def dialRoundWrong : ChangeSpec := { name := "dialRound", fn := fun _ => fun
  | [d1, d2] => { results := [.lit (.bool false)], args := [d1, d2] }
  | _ => none }
def DialRoundWrongFalsely : Prop := dialRoundRow.holds Tryd.pinned (OpenSpec.ofChange dialRoundWrong)

/-- 'ephemerislaw09.DialWhere': WHATEVER THE INPUT: true; the input reads as it did. -/
def dialWhereSpec : ChangeSpec := { name := "dialWhere", fn := fun _ => fun
  | [d1, d2] => { results := [.lit (.bool true)], args := [d1, d2] }
  | _ => none }
def dialWhereRow : OpenClaim := { program := "yteafnboehmfmiaadoor", sum := "9fc7669b52faef845efd9c21b2886300cecf5adfb357705b213abe3b57fa9d86", func := "ephemeris/ephemerislaw09.DialWhere", spec := "dialWhere", named := ["ephemeris/dial.heights"], apart := false, laid := [("ephemeris/dial.heights", laid_ephemeris_dial_heights)] }
def DialWhereSaid : Prop := dialWhereRow.holds Tryd.pinned (OpenSpec.ofChange dialWhereSpec)

/-- ITS FALSE NEIGHBOUR: 'it returns false'. Refute it at one input. -/
def dialWhereWrong : ChangeSpec := { name := "dialWhere", fn := fun _ => fun
  | [d1, d2] => { results := [.lit (.bool false)], args := [d1, d2] }
  | _ => none }
def DialWhereWrongFalsely : Prop := dialWhereRow.holds Tryd.pinned (OpenSpec.ofChange dialWhereWrong)

/-- 'ephemerislaw10.SineTurns': WHATEVER THE INPUT: true; the input reads as it did. -/
def sineTurnsSpec : ChangeSpec := { name := "sineTurns", fn := fun _ => fun
  | [d1, d2] => { results := [.lit (.bool true)], args := [d1, d2] }
  | _ => none }
def sineTurnsRow : OpenClaim := { program := "yteafnboehmfmiaadoor", sum := "9fc7669b52faef845efd9c21b2886300cecf5adfb357705b213abe3b57fa9d86", func := "ephemeris/ephemerislaw10.SineTurns", spec := "sineTurns", recurses := true, named := ["math/bits.divideError", "math/bits.overflowError", "ephemeris/dial.heights"], apart := false, laid := [("ephemeris/dial.heights", laid_ephemeris_dial_heights)] }
def SineTurnsSaid : Prop := sineTurnsRow.holds Tryd.pinned (OpenSpec.ofChange sineTurnsSpec)

/-- ITS FALSE NEIGHBOUR: 'it returns false'. Refute it at one input. -/
def sineTurnsWrong : ChangeSpec := { name := "sineTurns", fn := fun _ => fun
  | [d1, d2] => { results := [.lit (.bool false)], args := [d1, d2] }
  | _ => none }
def SineTurnsWrongFalsely : Prop := sineTurnsRow.holds Tryd.pinned (OpenSpec.ofChange sineTurnsWrong)

/-- 'ephemerislaw10.SineBack': WHATEVER THE INPUT: true; the input reads as it did. -/
def sineBackSpec : ChangeSpec := { name := "sineBack", fn := fun _ => fun
  | [d] => { results := [.lit (.bool true)], args := [d] }
  | _ => none }
def sineBackRow : OpenClaim := { program := "yteafnboehmfmiaadoor", sum := "9fc7669b52faef845efd9c21b2886300cecf5adfb357705b213abe3b57fa9d86", func := "ephemeris/ephemerislaw10.SineBack", spec := "sineBack", recurses := true, named := ["math/bits.divideError", "math/bits.overflowError", "ephemeris/dial.heights"], apart := false, laid := [("ephemeris/dial.heights", laid_ephemeris_dial_heights)] }
def SineBackSaid : Prop := sineBackRow.holds Tryd.pinned (OpenSpec.ofChange sineBackSpec)

/-- ITS FALSE NEIGHBOUR: 'it returns false'. Refute it at one input. -/
def sineBackWrong : ChangeSpec := { name := "sineBack", fn := fun _ => fun
  | [d] => { results := [.lit (.bool false)], args := [d] }
  | _ => none }
def SineBackWrongFalsely : Prop := sineBackRow.holds Tryd.pinned (OpenSpec.ofChange sineBackWrong)

/-- 'ephemerislaw10.SineRises': WHATEVER THE INPUT: true; the input reads as it did. -/
def sineRisesSpec : ChangeSpec := { name := "sineRises", fn := fun _ => fun
  | [d1, d2] => { results := [.lit (.bool true)], args := [d1, d2] }
  | _ => none }
def sineRisesRow : OpenClaim := { program := "yteafnboehmfmiaadoor", sum := "9fc7669b52faef845efd9c21b2886300cecf5adfb357705b213abe3b57fa9d86", func := "ephemeris/ephemerislaw10.SineRises", spec := "sineRises", recurses := true, named := ["math/bits.divideError", "math/bits.overflowError", "ephemeris/dial.heights"], apart := false, laid := [("ephemeris/dial.heights", laid_ephemeris_dial_heights)] }
def SineRisesSaid : Prop := sineRisesRow.holds Tryd.pinned (OpenSpec.ofChange sineRisesSpec)

/-- ITS FALSE NEIGHBOUR: 'it returns false'. Refute it at one input. -/
def sineRisesWrong : ChangeSpec := { name := "sineRises", fn := fun _ => fun
  | [d1, d2] => { results := [.lit (.bool false)], args := [d1, d2] }
  | _ => none }
def SineRisesWrongFalsely : Prop := sineRisesRow.holds Tryd.pinned (OpenSpec.ofChange sineRisesWrong)

/-- 'ephemeristop.EphemerisCircle': WHATEVER THE INPUT: true; the input reads as it did. -/
def ephemerisCircleSpec : ChangeSpec := { name := "ephemerisCircle", fn := fun _ => fun
  | [d] => { results := [.lit (.bool true)], args := [d] }
  | _ => none }
def ephemerisCircleRow : OpenClaim := { program := "yteafnboehmfmiaadoor", sum := "9fc7669b52faef845efd9c21b2886300cecf5adfb357705b213abe3b57fa9d86", func := "ephemeris/ephemeristop.EphemerisCircle", spec := "ephemerisCircle", recurses := true, named := ["math/bits.divideError", "math/bits.overflowError", "ephemeris/dial.heights"], apart := false, laid := [("ephemeris/dial.heights", laid_ephemeris_dial_heights)] }
def EphemerisCircleSaid : Prop := ephemerisCircleRow.holds Tryd.pinned (OpenSpec.ofChange ephemerisCircleSpec)

/-- ITS FALSE NEIGHBOUR: 'it returns false'. Refute it at one input. -/
def ephemerisCircleWrong : ChangeSpec := { name := "ephemerisCircle", fn := fun _ => fun
  | [d] => { results := [.lit (.bool false)], args := [d] }
  | _ => none }
def EphemerisCircleWrongFalsely : Prop := ephemerisCircleRow.holds Tryd.pinned (OpenSpec.ofChange ephemerisCircleWrong)

/- THE SECOND FORM. 'bulk': how many values and letters a reading holds, each counted each time it is reached (what is shared counts as often as it is met; a slice's spare places count too). A statement '..UptoSaid' is the law's where the arguments, and the package variables that the reading takes, are together of bulk at most 1048576: NARROWER than '..Said'. Prove '..Said' where nothing that the law and all that it calls make is longer than what came in: it says more and counts as full. Else prove '..UptoSaid'. A law counts once. -/
mutual
def uptoBulk {H : Type} : DataW H → Nat
  | .lit (.string bytes) => bytes.length + 1
  | .lit _ => 1
  | .nil => 1
  | .ptr d => uptoBulk d + 1
  | .slice elems spare => uptoBulkAll elems + uptoBulkAll spare + 1
  | .agg parts => uptoBulkAll parts + 1
  | .iface _ d => uptoBulk d + 1
  | .map entries => uptoBulkEntries entries + 1
  | .held _ => 1
def uptoBulkAll {H : Type} : List (DataW H) → Nat
  | [] => 0
  | d :: r => uptoBulk d + uptoBulkAll r
def uptoBulkEntries {H : Type} : List (Lit × DataW H) → Nat
  | [] => 0
  | x :: r => uptoBulkEntry x + uptoBulkEntries r
def uptoBulkEntry {H : Type} : Lit × DataW H → Nat
  | (.string bytes, d) => bytes.length + uptoBulk d + 1
  | (_, d) => uptoBulk d + 1
 end
def uptoSmall : (H : Type) → List (DataW H) → Bool := fun _ ds => decide (uptoBulkAll ds ≤ 1048576)
def OpenSpec.upto (s : _root_.Go.ChangeSpec) : _root_.Go.OpenSpec := { _root_.Go.OpenSpec.ofChange s with cond := some uptoSmall }

/-- 'ephemerislaw09.DialPoints', WHERE WHAT IT READS IS OF BULK AT MOST 1048576: true; the input reads as it did. -/
def dialPointsUptoRow : OpenClaim := { program := "yteafnboehmfmiaadoor", sum := "9fc7669b52faef845efd9c21b2886300cecf5adfb357705b213abe3b57fa9d86", func := "ephemeris/ephemerislaw09.DialPoints", spec := "dialPoints", named := ["ephemeris/dial.heights"], apart := false, laid := [("ephemeris/dial.heights", laid_ephemeris_dial_heights)], narrowed := true }
def DialPointsUptoSaid : Prop := dialPointsUptoRow.holds Tryd.pinned (OpenSpec.upto dialPointsSpec)

/-- 'ephemerislaw09.DialTurns', WHERE WHAT IT READS IS OF BULK AT MOST 1048576: true; the input reads as it did. -/
def dialTurnsUptoRow : OpenClaim := { program := "yteafnboehmfmiaadoor", sum := "9fc7669b52faef845efd9c21b2886300cecf5adfb357705b213abe3b57fa9d86", func := "ephemeris/ephemerislaw09.DialTurns", spec := "dialTurns", named := ["ephemeris/dial.heights"], apart := false, laid := [("ephemeris/dial.heights", laid_ephemeris_dial_heights)], narrowed := true }
def DialTurnsUptoSaid : Prop := dialTurnsUptoRow.holds Tryd.pinned (OpenSpec.upto dialTurnsSpec)

/-- 'ephemerislaw09.DialRound', WHERE WHAT IT READS IS OF BULK AT MOST 1048576: true; the input reads as it did. -/
def dialRoundUptoRow : OpenClaim := { program := "yteafnboehmfmiaadoor", sum := "9fc7669b52faef845efd9c21b2886300cecf5adfb357705b213abe3b57fa9d86", func := "ephemeris/ephemerislaw09.DialRound", spec := "dialRound", named := ["ephemeris/dial.heights"], apart := false, laid := [("ephemeris/dial.heights", laid_ephemeris_dial_heights)], narrowed := true }
def DialRoundUptoSaid : Prop := dialRoundUptoRow.holds Tryd.pinned (OpenSpec.upto dialRoundSpec)

/-- 'ephemerislaw09.DialWhere', WHERE WHAT IT READS IS OF BULK AT MOST 1048576: true; the input reads as it did. -/
def dialWhereUptoRow : OpenClaim := { program := "yteafnboehmfmiaadoor", sum := "9fc7669b52faef845efd9c21b2886300cecf5adfb357705b213abe3b57fa9d86", func := "ephemeris/ephemerislaw09.DialWhere", spec := "dialWhere", named := ["ephemeris/dial.heights"], apart := false, laid := [("ephemeris/dial.heights", laid_ephemeris_dial_heights)], narrowed := true }
def DialWhereUptoSaid : Prop := dialWhereUptoRow.holds Tryd.pinned (OpenSpec.upto dialWhereSpec)

/-- 'ephemerislaw10.SineTurns', WHERE WHAT IT READS IS OF BULK AT MOST 1048576: true; the input reads as it did. -/
def sineTurnsUptoRow : OpenClaim := { program := "yteafnboehmfmiaadoor", sum := "9fc7669b52faef845efd9c21b2886300cecf5adfb357705b213abe3b57fa9d86", func := "ephemeris/ephemerislaw10.SineTurns", spec := "sineTurns", recurses := true, named := ["math/bits.divideError", "math/bits.overflowError", "ephemeris/dial.heights"], apart := false, laid := [("ephemeris/dial.heights", laid_ephemeris_dial_heights)], narrowed := true }
def SineTurnsUptoSaid : Prop := sineTurnsUptoRow.holds Tryd.pinned (OpenSpec.upto sineTurnsSpec)

/-- 'ephemerislaw10.SineBack', WHERE WHAT IT READS IS OF BULK AT MOST 1048576: true; the input reads as it did. -/
def sineBackUptoRow : OpenClaim := { program := "yteafnboehmfmiaadoor", sum := "9fc7669b52faef845efd9c21b2886300cecf5adfb357705b213abe3b57fa9d86", func := "ephemeris/ephemerislaw10.SineBack", spec := "sineBack", recurses := true, named := ["math/bits.divideError", "math/bits.overflowError", "ephemeris/dial.heights"], apart := false, laid := [("ephemeris/dial.heights", laid_ephemeris_dial_heights)], narrowed := true }
def SineBackUptoSaid : Prop := sineBackUptoRow.holds Tryd.pinned (OpenSpec.upto sineBackSpec)

/-- 'ephemerislaw10.SineRises', WHERE WHAT IT READS IS OF BULK AT MOST 1048576: true; the input reads as it did. -/
def sineRisesUptoRow : OpenClaim := { program := "yteafnboehmfmiaadoor", sum := "9fc7669b52faef845efd9c21b2886300cecf5adfb357705b213abe3b57fa9d86", func := "ephemeris/ephemerislaw10.SineRises", spec := "sineRises", recurses := true, named := ["math/bits.divideError", "math/bits.overflowError", "ephemeris/dial.heights"], apart := false, laid := [("ephemeris/dial.heights", laid_ephemeris_dial_heights)], narrowed := true }
def SineRisesUptoSaid : Prop := sineRisesUptoRow.holds Tryd.pinned (OpenSpec.upto sineRisesSpec)

/-- 'ephemeristop.EphemerisCircle', WHERE WHAT IT READS IS OF BULK AT MOST 1048576: true; the input reads as it did. -/
def ephemerisCircleUptoRow : OpenClaim := { program := "yteafnboehmfmiaadoor", sum := "9fc7669b52faef845efd9c21b2886300cecf5adfb357705b213abe3b57fa9d86", func := "ephemeris/ephemeristop.EphemerisCircle", spec := "ephemerisCircle", recurses := true, named := ["math/bits.divideError", "math/bits.overflowError", "ephemeris/dial.heights"], apart := false, laid := [("ephemeris/dial.heights", laid_ephemeris_dial_heights)], narrowed := true }
def EphemerisCircleUptoSaid : Prop := ephemerisCircleUptoRow.holds Tryd.pinned (OpenSpec.upto ephemerisCircleSpec)

end Rows
end Go.Proofs.YteafnboehmfmiaaDoor
