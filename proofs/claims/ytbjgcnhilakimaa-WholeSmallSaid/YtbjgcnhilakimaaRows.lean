/-
  No cell of these rows narrows 'for every input' (looked for: loops, veiled, ifaces, maps, wideKeys, modest, calm, conditions, laid).
  DERIVED. THE GIVEN ROWS OF THIS SEAT. 20 by the template 'for every input the law returns true; each argument reads behind the call as it read before'; 0 by the template 'total and deterministic' (their statements: YtbjgcnhilakimaaTotals.lean).
  GIVEN WITH THE SEED: the statements are not yours to turn. If you find one false, say at which input.
  Laid BY PROGRAM, IN A SANDBOX (cutbox-rows.mjs): the forced cells as the released guide's own fill.sh prints them over the translation d43823e500e750fd… (all of the seat's roots in one cut). By AI agents, Wed Nov 11 2026. No macro, syntax, notation, axiom, sorry.
-/
import Derived.Test.YtbjgcnhilakimaaChecked
import GoSem.Claim
import GoSem.ClaimJoined
import GoSem.ClaimMapViews
import Derived.JoinedTies
import Derived.KernelRfl
namespace Go.Proofs.Ytbjgcnhilakimaa
/- THE CELL 'sum', in the pinned program and in every row, IS THE sha256 OF THE DUMP (.gsa) THAT YtbjgcnhilakimaaProg.lean LOADS. Nothing in Lean hashes anything: it is a label: what it is worth is what the hold of that sum in a sandbox is worth. -/
noncomputable def Try.pinned : Pinned := { name := "ytbjgcnhilakimaa", sum := "d43823e500e750fd6e3a0328460a16a65691991bea906db06623a0d573b1a0c6", checked := Try.checked }
namespace Rows
def none {H : Type} : Left H := { results := [], args := [] }

/-- 'ephemerislaw01.NatAdds': WHATEVER THE INPUT: true; the input reads as it did. -/
def natAddsSpec : ChangeSpec := { name := "natAdds", fn := fun _ => fun
  | [d1, d2] => { results := [.lit (.bool true)], args := [d1, d2] }
  | _ => none }
def natAddsRow : OpenClaim := { program := "ytbjgcnhilakimaa", sum := "d43823e500e750fd6e3a0328460a16a65691991bea906db06623a0d573b1a0c6", func := "ephemeris/ephemerislaw01.NatAdds", spec := "natAdds", apart := false }
def NatAddsSaid : Prop := natAddsRow.holds Try.pinned (OpenSpec.ofChange natAddsSpec)

/-- ITS FALSE NEIGHBOUR: 'it returns false'. Refute it at one input. -/
def natAddsWrong : ChangeSpec := { name := "natAdds", fn := fun _ => fun
  | [d1, d2] => { results := [.lit (.bool false)], args := [d1, d2] }
  | _ => none }
def NatAddsWrongFalsely : Prop := natAddsRow.holds Try.pinned (OpenSpec.ofChange natAddsWrong)

/-- 'ephemerislaw01.NatShifts': WHATEVER THE INPUT: true; the input reads as it did. -/
def natShiftsSpec : ChangeSpec := { name := "natShifts", fn := fun _ => fun
  | [d1, d2] => { results := [.lit (.bool true)], args := [d1, d2] }
  | _ => none }
def natShiftsRow : OpenClaim := { program := "ytbjgcnhilakimaa", sum := "d43823e500e750fd6e3a0328460a16a65691991bea906db06623a0d573b1a0c6", func := "ephemeris/ephemerislaw01.NatShifts", spec := "natShifts", apart := false }
def NatShiftsSaid : Prop := natShiftsRow.holds Try.pinned (OpenSpec.ofChange natShiftsSpec)

/-- ITS FALSE NEIGHBOUR: 'it returns false'. Refute it at one input. -/
def natShiftsWrong : ChangeSpec := { name := "natShifts", fn := fun _ => fun
  | [d1, d2] => { results := [.lit (.bool false)], args := [d1, d2] }
  | _ => none }
def NatShiftsWrongFalsely : Prop := natShiftsRow.holds Try.pinned (OpenSpec.ofChange natShiftsWrong)

/-- 'ephemerislaw01.NatNumbers': WHATEVER THE INPUT: true; the input reads as it did. -/
def natNumbersSpec : ChangeSpec := { name := "natNumbers", fn := fun _ => fun
  | [d1, d2, d3] => { results := [.lit (.bool true)], args := [d1, d2, d3] }
  | _ => none }
def natNumbersRow : OpenClaim := { program := "ytbjgcnhilakimaa", sum := "d43823e500e750fd6e3a0328460a16a65691991bea906db06623a0d573b1a0c6", func := "ephemeris/ephemerislaw01.NatNumbers", spec := "natNumbers", apart := false }
def NatNumbersSaid : Prop := natNumbersRow.holds Try.pinned (OpenSpec.ofChange natNumbersSpec)

/-- ITS FALSE NEIGHBOUR: 'it returns false'. Refute it at one input. -/
def natNumbersWrong : ChangeSpec := { name := "natNumbers", fn := fun _ => fun
  | [d1, d2, d3] => { results := [.lit (.bool false)], args := [d1, d2, d3] }
  | _ => none }
def NatNumbersWrongFalsely : Prop := natNumbersRow.holds Try.pinned (OpenSpec.ofChange natNumbersWrong)

/-- 'ephemerislaw01.NatSums': WHATEVER THE INPUT: true; the input reads as it did. -/
def natSumsSpec : ChangeSpec := { name := "natSums", fn := fun _ => fun
  | [d1, d2] => { results := [.lit (.bool true)], args := [d1, d2] }
  | _ => none }
def natSumsRow : OpenClaim := { program := "ytbjgcnhilakimaa", sum := "d43823e500e750fd6e3a0328460a16a65691991bea906db06623a0d573b1a0c6", func := "ephemeris/ephemerislaw01.NatSums", spec := "natSums", apart := false }
def NatSumsSaid : Prop := natSumsRow.holds Try.pinned (OpenSpec.ofChange natSumsSpec)

/-- ITS FALSE NEIGHBOUR: 'it returns false'. Refute it at one input. -/
def natSumsWrong : ChangeSpec := { name := "natSums", fn := fun _ => fun
  | [d1, d2] => { results := [.lit (.bool false)], args := [d1, d2] }
  | _ => none }
def NatSumsWrongFalsely : Prop := natSumsRow.holds Try.pinned (OpenSpec.ofChange natSumsWrong)

/-- 'ephemerislaw01.NatOrder': WHATEVER THE INPUT: true; the input reads as it did. -/
def natOrderSpec : ChangeSpec := { name := "natOrder", fn := fun _ => fun
  | [d1, d2, d3] => { results := [.lit (.bool true)], args := [d1, d2, d3] }
  | _ => none }
def natOrderRow : OpenClaim := { program := "ytbjgcnhilakimaa", sum := "d43823e500e750fd6e3a0328460a16a65691991bea906db06623a0d573b1a0c6", func := "ephemeris/ephemerislaw01.NatOrder", spec := "natOrder", apart := false }
def NatOrderSaid : Prop := natOrderRow.holds Try.pinned (OpenSpec.ofChange natOrderSpec)

/-- ITS FALSE NEIGHBOUR: 'it returns false'. Refute it at one input. -/
def natOrderWrong : ChangeSpec := { name := "natOrder", fn := fun _ => fun
  | [d1, d2, d3] => { results := [.lit (.bool false)], args := [d1, d2, d3] }
  | _ => none }
def NatOrderWrongFalsely : Prop := natOrderRow.holds Try.pinned (OpenSpec.ofChange natOrderWrong)

/-- 'ephemerislaw01.NatBack': WHATEVER THE INPUT: true; the input reads as it did. -/
def natBackSpec : ChangeSpec := { name := "natBack", fn := fun _ => fun
  | [d1, d2, d3] => { results := [.lit (.bool true)], args := [d1, d2, d3] }
  | _ => none }
def natBackRow : OpenClaim := { program := "ytbjgcnhilakimaa", sum := "d43823e500e750fd6e3a0328460a16a65691991bea906db06623a0d573b1a0c6", func := "ephemeris/ephemerislaw01.NatBack", spec := "natBack", apart := false }
def NatBackSaid : Prop := natBackRow.holds Try.pinned (OpenSpec.ofChange natBackSpec)

/-- ITS FALSE NEIGHBOUR: 'it returns false'. Refute it at one input. -/
def natBackWrong : ChangeSpec := { name := "natBack", fn := fun _ => fun
  | [d1, d2, d3] => { results := [.lit (.bool false)], args := [d1, d2, d3] }
  | _ => none }
def NatBackWrongFalsely : Prop := natBackRow.holds Try.pinned (OpenSpec.ofChange natBackWrong)

/-- 'ephemerislaw02.MultMuls': WHATEVER THE INPUT: true; the input reads as it did. -/
def multMulsSpec : ChangeSpec := { name := "multMuls", fn := fun _ => fun
  | [d1, d2] => { results := [.lit (.bool true)], args := [d1, d2] }
  | _ => none }
def multMulsRow : OpenClaim := { program := "ytbjgcnhilakimaa", sum := "d43823e500e750fd6e3a0328460a16a65691991bea906db06623a0d573b1a0c6", func := "ephemeris/ephemerislaw02.MultMuls", spec := "multMuls", named := ["math/bits.divideError", "math/bits.overflowError"], apart := false }
def MultMulsSaid : Prop := multMulsRow.holds Try.pinned (OpenSpec.ofChange multMulsSpec)

/-- ITS FALSE NEIGHBOUR: 'it returns false'. Refute it at one input. -/
def multMulsWrong : ChangeSpec := { name := "multMuls", fn := fun _ => fun
  | [d1, d2] => { results := [.lit (.bool false)], args := [d1, d2] }
  | _ => none }
def MultMulsWrongFalsely : Prop := multMulsRow.holds Try.pinned (OpenSpec.ofChange multMulsWrong)

/-- 'ephemerislaw02.MultDivs': WHATEVER THE INPUT: true; the input reads as it did. -/
def multDivsSpec : ChangeSpec := { name := "multDivs", fn := fun _ => fun
  | [d1, d2] => { results := [.lit (.bool true)], args := [d1, d2] }
  | _ => none }
def multDivsRow : OpenClaim := { program := "ytbjgcnhilakimaa", sum := "d43823e500e750fd6e3a0328460a16a65691991bea906db06623a0d573b1a0c6", func := "ephemeris/ephemerislaw02.MultDivs", spec := "multDivs", named := ["math/bits.divideError", "math/bits.overflowError"], apart := false }
def MultDivsSaid : Prop := multDivsRow.holds Try.pinned (OpenSpec.ofChange multDivsSpec)

/-- ITS FALSE NEIGHBOUR: 'it returns false'. Refute it at one input. -/
def multDivsWrong : ChangeSpec := { name := "multDivs", fn := fun _ => fun
  | [d1, d2] => { results := [.lit (.bool false)], args := [d1, d2] }
  | _ => none }
def MultDivsWrongFalsely : Prop := multDivsRow.holds Try.pinned (OpenSpec.ofChange multDivsWrong)

/-- 'ephemerislaw02.MultBack': WHATEVER THE INPUT: true; the input reads as it did. -/
def multBackSpec : ChangeSpec := { name := "multBack", fn := fun _ => fun
  | [d1, d2, d3] => { results := [.lit (.bool true)], args := [d1, d2, d3] }
  | _ => none }
def multBackRow : OpenClaim := { program := "ytbjgcnhilakimaa", sum := "d43823e500e750fd6e3a0328460a16a65691991bea906db06623a0d573b1a0c6", func := "ephemeris/ephemerislaw02.MultBack", spec := "multBack", named := ["math/bits.divideError", "math/bits.overflowError"], apart := false }
def MultBackSaid : Prop := multBackRow.holds Try.pinned (OpenSpec.ofChange multBackSpec)

/-- ITS FALSE NEIGHBOUR: 'it returns false'. Refute it at one input. -/
def multBackWrong : ChangeSpec := { name := "multBack", fn := fun _ => fun
  | [d1, d2, d3] => { results := [.lit (.bool false)], args := [d1, d2, d3] }
  | _ => none }
def MultBackWrongFalsely : Prop := multBackRow.holds Try.pinned (OpenSpec.ofChange multBackWrong)

/-- 'ephemerislaw02.MultSmall': WHATEVER THE INPUT: true; the input reads as it did. -/
def multSmallSpec : ChangeSpec := { name := "multSmall", fn := fun _ => fun
  | [d1, d2] => { results := [.lit (.bool true)], args := [d1, d2] }
  | _ => none }
def multSmallRow : OpenClaim := { program := "ytbjgcnhilakimaa", sum := "d43823e500e750fd6e3a0328460a16a65691991bea906db06623a0d573b1a0c6", func := "ephemeris/ephemerislaw02.MultSmall", spec := "multSmall", named := ["math/bits.divideError", "math/bits.overflowError"], apart := false }
def MultSmallSaid : Prop := multSmallRow.holds Try.pinned (OpenSpec.ofChange multSmallSpec)

/-- ITS FALSE NEIGHBOUR: 'it returns false'. Refute it at one input. -/
def multSmallWrong : ChangeSpec := { name := "multSmall", fn := fun _ => fun
  | [d1, d2] => { results := [.lit (.bool false)], args := [d1, d2] }
  | _ => none }
def MultSmallWrongFalsely : Prop := multSmallRow.holds Try.pinned (OpenSpec.ofChange multSmallWrong)

/-- 'ephemerislaw02.MultGcds': WHATEVER THE INPUT: true; the input reads as it did. -/
def multGcdsSpec : ChangeSpec := { name := "multGcds", fn := fun _ => fun
  | [d1, d2, d3] => { results := [.lit (.bool true)], args := [d1, d2, d3] }
  | _ => none }
def multGcdsRow : OpenClaim := { program := "ytbjgcnhilakimaa", sum := "d43823e500e750fd6e3a0328460a16a65691991bea906db06623a0d573b1a0c6", func := "ephemeris/ephemerislaw02.MultGcds", spec := "multGcds", named := ["math/bits.divideError", "math/bits.overflowError"], apart := false }
def MultGcdsSaid : Prop := multGcdsRow.holds Try.pinned (OpenSpec.ofChange multGcdsSpec)

/-- ITS FALSE NEIGHBOUR: 'it returns false'. Refute it at one input. -/
def multGcdsWrong : ChangeSpec := { name := "multGcds", fn := fun _ => fun
  | [d1, d2, d3] => { results := [.lit (.bool false)], args := [d1, d2, d3] }
  | _ => none }
def MultGcdsWrongFalsely : Prop := multGcdsRow.holds Try.pinned (OpenSpec.ofChange multGcdsWrong)

/-- 'ephemerislaw02.MultParts': WHATEVER THE INPUT: true; the input reads as it did. -/
def multPartsSpec : ChangeSpec := { name := "multParts", fn := fun _ => fun
  | [d1, d2, d3] => { results := [.lit (.bool true)], args := [d1, d2, d3] }
  | _ => none }
def multPartsRow : OpenClaim := { program := "ytbjgcnhilakimaa", sum := "d43823e500e750fd6e3a0328460a16a65691991bea906db06623a0d573b1a0c6", func := "ephemeris/ephemerislaw02.MultParts", spec := "multParts", named := ["math/bits.divideError", "math/bits.overflowError"], apart := false }
def MultPartsSaid : Prop := multPartsRow.holds Try.pinned (OpenSpec.ofChange multPartsSpec)

/-- ITS FALSE NEIGHBOUR: 'it returns false'. Refute it at one input. -/
def multPartsWrong : ChangeSpec := { name := "multParts", fn := fun _ => fun
  | [d1, d2, d3] => { results := [.lit (.bool false)], args := [d1, d2, d3] }
  | _ => none }
def MultPartsWrongFalsely : Prop := multPartsRow.holds Try.pinned (OpenSpec.ofChange multPartsWrong)

/-- 'ephemerislaw03.WholeSums': WHATEVER THE INPUT: true; the input reads as it did. -/
def wholeSumsSpec : ChangeSpec := { name := "wholeSums", fn := fun _ => fun
  | [d1, d2] => { results := [.lit (.bool true)], args := [d1, d2] }
  | _ => none }
def wholeSumsRow : OpenClaim := { program := "ytbjgcnhilakimaa", sum := "d43823e500e750fd6e3a0328460a16a65691991bea906db06623a0d573b1a0c6", func := "ephemeris/ephemerislaw03.WholeSums", spec := "wholeSums", named := ["math/bits.divideError", "math/bits.overflowError"], apart := false }
def WholeSumsSaid : Prop := wholeSumsRow.holds Try.pinned (OpenSpec.ofChange wholeSumsSpec)

/-- ITS FALSE NEIGHBOUR: 'it returns false'. Refute it at one input. -/
def wholeSumsWrong : ChangeSpec := { name := "wholeSums", fn := fun _ => fun
  | [d1, d2] => { results := [.lit (.bool false)], args := [d1, d2] }
  | _ => none }
def WholeSumsWrongFalsely : Prop := wholeSumsRow.holds Try.pinned (OpenSpec.ofChange wholeSumsWrong)

/-- 'ephemerislaw03.WholeDivs': WHATEVER THE INPUT: true; the input reads as it did. -/
def wholeDivsSpec : ChangeSpec := { name := "wholeDivs", fn := fun _ => fun
  | [d1, d2] => { results := [.lit (.bool true)], args := [d1, d2] }
  | _ => none }
def wholeDivsRow : OpenClaim := { program := "ytbjgcnhilakimaa", sum := "d43823e500e750fd6e3a0328460a16a65691991bea906db06623a0d573b1a0c6", func := "ephemeris/ephemerislaw03.WholeDivs", spec := "wholeDivs", named := ["math/bits.divideError", "math/bits.overflowError"], apart := false }
def WholeDivsSaid : Prop := wholeDivsRow.holds Try.pinned (OpenSpec.ofChange wholeDivsSpec)

/-- ITS FALSE NEIGHBOUR: 'it returns false'. Refute it at one input. -/
def wholeDivsWrong : ChangeSpec := { name := "wholeDivs", fn := fun _ => fun
  | [d1, d2] => { results := [.lit (.bool false)], args := [d1, d2] }
  | _ => none }
def WholeDivsWrongFalsely : Prop := wholeDivsRow.holds Try.pinned (OpenSpec.ofChange wholeDivsWrong)

/-- 'ephemerislaw03.WholeSmall': WHATEVER THE INPUT: true; the input reads as it did. -/
def wholeSmallSpec : ChangeSpec := { name := "wholeSmall", fn := fun _ => fun
  | [d1, d2] => { results := [.lit (.bool true)], args := [d1, d2] }
  | _ => none }
def wholeSmallRow : OpenClaim := { program := "ytbjgcnhilakimaa", sum := "d43823e500e750fd6e3a0328460a16a65691991bea906db06623a0d573b1a0c6", func := "ephemeris/ephemerislaw03.WholeSmall", spec := "wholeSmall", named := ["math/bits.divideError", "math/bits.overflowError"], apart := false }
def WholeSmallSaid : Prop := wholeSmallRow.holds Try.pinned (OpenSpec.ofChange wholeSmallSpec)

/-- ITS FALSE NEIGHBOUR: 'it returns false'. Refute it at one input. -/
def wholeSmallWrong : ChangeSpec := { name := "wholeSmall", fn := fun _ => fun
  | [d1, d2] => { results := [.lit (.bool false)], args := [d1, d2] }
  | _ => none }
def WholeSmallWrongFalsely : Prop := wholeSmallRow.holds Try.pinned (OpenSpec.ofChange wholeSmallWrong)

/-- 'ephemerislaw03.WholeRing': WHATEVER THE INPUT: true; the input reads as it did. -/
def wholeRingSpec : ChangeSpec := { name := "wholeRing", fn := fun _ => fun
  | [d1, d2, d3] => { results := [.lit (.bool true)], args := [d1, d2, d3] }
  | _ => none }
def wholeRingRow : OpenClaim := { program := "ytbjgcnhilakimaa", sum := "d43823e500e750fd6e3a0328460a16a65691991bea906db06623a0d573b1a0c6", func := "ephemeris/ephemerislaw03.WholeRing", spec := "wholeRing", named := ["math/bits.divideError", "math/bits.overflowError"], apart := false }
def WholeRingSaid : Prop := wholeRingRow.holds Try.pinned (OpenSpec.ofChange wholeRingSpec)

/-- ITS FALSE NEIGHBOUR: 'it returns false'. Refute it at one input. -/
def wholeRingWrong : ChangeSpec := { name := "wholeRing", fn := fun _ => fun
  | [d1, d2, d3] => { results := [.lit (.bool false)], args := [d1, d2, d3] }
  | _ => none }
def WholeRingWrongFalsely : Prop := wholeRingRow.holds Try.pinned (OpenSpec.ofChange wholeRingWrong)

/-- 'ephemerislaw03.WholeSteps': WHATEVER THE INPUT: true; the input reads as it did. -/
def wholeStepsSpec : ChangeSpec := { name := "wholeSteps", fn := fun _ => fun
  | [d1, d2, d3] => { results := [.lit (.bool true)], args := [d1, d2, d3] }
  | _ => none }
def wholeStepsRow : OpenClaim := { program := "ytbjgcnhilakimaa", sum := "d43823e500e750fd6e3a0328460a16a65691991bea906db06623a0d573b1a0c6", func := "ephemeris/ephemerislaw03.WholeSteps", spec := "wholeSteps", named := ["math/bits.divideError", "math/bits.overflowError"], apart := false }
def WholeStepsSaid : Prop := wholeStepsRow.holds Try.pinned (OpenSpec.ofChange wholeStepsSpec)

/-- ITS FALSE NEIGHBOUR: 'it returns false'. Refute it at one input. -/
def wholeStepsWrong : ChangeSpec := { name := "wholeSteps", fn := fun _ => fun
  | [d1, d2, d3] => { results := [.lit (.bool false)], args := [d1, d2, d3] }
  | _ => none }
def WholeStepsWrongFalsely : Prop := wholeStepsRow.holds Try.pinned (OpenSpec.ofChange wholeStepsWrong)

/-- 'ephemerislaw04.DigitsTexts': WHATEVER THE INPUT: true; the input reads as it did. -/
def digitsTextsSpec : ChangeSpec := { name := "digitsTexts", fn := fun _ => fun
  | [d] => { results := [.lit (.bool true)], args := [d] }
  | _ => none }
def digitsTextsRow : OpenClaim := { program := "ytbjgcnhilakimaa", sum := "d43823e500e750fd6e3a0328460a16a65691991bea906db06623a0d573b1a0c6", func := "ephemeris/ephemerislaw04.DigitsTexts", spec := "digitsTexts", inPlace := ["internal/abi.NoEscape", "internal/bytealg.MakeNoZero"], apart := false }
def DigitsTextsSaid : Prop := digitsTextsRow.holds Try.pinned (OpenSpec.ofChange digitsTextsSpec)

/-- ITS FALSE NEIGHBOUR: 'it returns false'. Refute it at one input. -/
def digitsTextsWrong : ChangeSpec := { name := "digitsTexts", fn := fun _ => fun
  | [d] => { results := [.lit (.bool false)], args := [d] }
  | _ => none }
def DigitsTextsWrongFalsely : Prop := digitsTextsRow.holds Try.pinned (OpenSpec.ofChange digitsTextsWrong)

/-- 'ephemerislaw04.DigitsReads': WHATEVER THE INPUT: true; the input reads as it did. -/
def digitsReadsSpec : ChangeSpec := { name := "digitsReads", fn := fun _ => fun
  | [d] => { results := [.lit (.bool true)], args := [d] }
  | _ => none }
def digitsReadsRow : OpenClaim := { program := "ytbjgcnhilakimaa", sum := "d43823e500e750fd6e3a0328460a16a65691991bea906db06623a0d573b1a0c6", func := "ephemeris/ephemerislaw04.DigitsReads", spec := "digitsReads", inPlace := ["internal/abi.NoEscape", "internal/bytealg.MakeNoZero"], apart := false }
def DigitsReadsSaid : Prop := digitsReadsRow.holds Try.pinned (OpenSpec.ofChange digitsReadsSpec)

/-- ITS FALSE NEIGHBOUR: 'it returns false'. Refute it at one input. -/
def digitsReadsWrong : ChangeSpec := { name := "digitsReads", fn := fun _ => fun
  | [d] => { results := [.lit (.bool false)], args := [d] }
  | _ => none }
def DigitsReadsWrongFalsely : Prop := digitsReadsRow.holds Try.pinned (OpenSpec.ofChange digitsReadsWrong)

/-- 'ephemerislaw04.DigitsLong': WHATEVER THE INPUT: true; the input reads as it did. -/
def digitsLongSpec : ChangeSpec := { name := "digitsLong", fn := fun _ => fun
  | [d1, d2, d3] => { results := [.lit (.bool true)], args := [d1, d2, d3] }
  | _ => none }
def digitsLongRow : OpenClaim := { program := "ytbjgcnhilakimaa", sum := "d43823e500e750fd6e3a0328460a16a65691991bea906db06623a0d573b1a0c6", func := "ephemeris/ephemerislaw04.DigitsLong", spec := "digitsLong", inPlace := ["internal/abi.NoEscape", "internal/bytealg.MakeNoZero"], apart := false }
def DigitsLongSaid : Prop := digitsLongRow.holds Try.pinned (OpenSpec.ofChange digitsLongSpec)

/-- ITS FALSE NEIGHBOUR: 'it returns false'. Refute it at one input. -/
def digitsLongWrong : ChangeSpec := { name := "digitsLong", fn := fun _ => fun
  | [d1, d2, d3] => { results := [.lit (.bool false)], args := [d1, d2, d3] }
  | _ => none }
def DigitsLongWrongFalsely : Prop := digitsLongRow.holds Try.pinned (OpenSpec.ofChange digitsLongWrong)

/- THE SECOND FORM. 'bulk': how many values and letters a reading holds, each counted each time it is reached (what is shared counts as often as it is met; a slice's spare places count too). A statement '..UptoSaid' is the law's where the arguments, and the package variables that the reading takes, are together of bulk at most 1048576: NARROWER than '..Said'. Prove '..Said' where nothing that the law and all that it calls make is longer than what came in: it says more and counts as full. Else prove '..UptoSaid'. A law counts once. -/
mutual
def uptoBulk {H : Type} : DataW H → Nat
  | .lit (.string bytes) => bytes.length + 1
  | .lit _ => 1
  | .nil => 1
  | .ptr d => uptoBulk d + 1
  | .slice elems spare => uptoBulkAll elems + uptoBulkAll spare + 1
  | .agg parts => uptoBulkAll parts + 1
  | .iface _ d => uptoBulk d + 1
  | .map entries => uptoBulkEntries entries + 1
  | .held _ => 1
def uptoBulkAll {H : Type} : List (DataW H) → Nat
  | [] => 0
  | d :: r => uptoBulk d + uptoBulkAll r
def uptoBulkEntries {H : Type} : List (Lit × DataW H) → Nat
  | [] => 0
  | x :: r => uptoBulkEntry x + uptoBulkEntries r
def uptoBulkEntry {H : Type} : Lit × DataW H → Nat
  | (.string bytes, d) => bytes.length + uptoBulk d + 1
  | (_, d) => uptoBulk d + 1
 end
def uptoSmall : (H : Type) → List (DataW H) → Bool := fun _ ds => decide (uptoBulkAll ds ≤ 1048576)
def OpenSpec.upto (s : _root_.Go.ChangeSpec) : _root_.Go.OpenSpec := { _root_.Go.OpenSpec.ofChange s with cond := some uptoSmall }

/-- 'ephemerislaw01.NatAdds', WHERE WHAT IT READS IS OF BULK AT MOST 1048576: true; the input reads as it did. -/
def natAddsUptoRow : OpenClaim := { program := "ytbjgcnhilakimaa", sum := "d43823e500e750fd6e3a0328460a16a65691991bea906db06623a0d573b1a0c6", func := "ephemeris/ephemerislaw01.NatAdds", spec := "natAdds", apart := false, narrowed := true }
def NatAddsUptoSaid : Prop := natAddsUptoRow.holds Try.pinned (OpenSpec.upto natAddsSpec)

/-- 'ephemerislaw01.NatShifts', WHERE WHAT IT READS IS OF BULK AT MOST 1048576: true; the input reads as it did. -/
def natShiftsUptoRow : OpenClaim := { program := "ytbjgcnhilakimaa", sum := "d43823e500e750fd6e3a0328460a16a65691991bea906db06623a0d573b1a0c6", func := "ephemeris/ephemerislaw01.NatShifts", spec := "natShifts", apart := false, narrowed := true }
def NatShiftsUptoSaid : Prop := natShiftsUptoRow.holds Try.pinned (OpenSpec.upto natShiftsSpec)

/-- 'ephemerislaw01.NatNumbers', WHERE WHAT IT READS IS OF BULK AT MOST 1048576: true; the input reads as it did. -/
def natNumbersUptoRow : OpenClaim := { program := "ytbjgcnhilakimaa", sum := "d43823e500e750fd6e3a0328460a16a65691991bea906db06623a0d573b1a0c6", func := "ephemeris/ephemerislaw01.NatNumbers", spec := "natNumbers", apart := false, narrowed := true }
def NatNumbersUptoSaid : Prop := natNumbersUptoRow.holds Try.pinned (OpenSpec.upto natNumbersSpec)

/-- 'ephemerislaw01.NatSums', WHERE WHAT IT READS IS OF BULK AT MOST 1048576: true; the input reads as it did. -/
def natSumsUptoRow : OpenClaim := { program := "ytbjgcnhilakimaa", sum := "d43823e500e750fd6e3a0328460a16a65691991bea906db06623a0d573b1a0c6", func := "ephemeris/ephemerislaw01.NatSums", spec := "natSums", apart := false, narrowed := true }
def NatSumsUptoSaid : Prop := natSumsUptoRow.holds Try.pinned (OpenSpec.upto natSumsSpec)

/-- 'ephemerislaw01.NatOrder', WHERE WHAT IT READS IS OF BULK AT MOST 1048576: true; the input reads as it did. -/
def natOrderUptoRow : OpenClaim := { program := "ytbjgcnhilakimaa", sum := "d43823e500e750fd6e3a0328460a16a65691991bea906db06623a0d573b1a0c6", func := "ephemeris/ephemerislaw01.NatOrder", spec := "natOrder", apart := false, narrowed := true }
def NatOrderUptoSaid : Prop := natOrderUptoRow.holds Try.pinned (OpenSpec.upto natOrderSpec)

/-- 'ephemerislaw01.NatBack', WHERE WHAT IT READS IS OF BULK AT MOST 1048576: true; the input reads as it did. -/
def natBackUptoRow : OpenClaim := { program := "ytbjgcnhilakimaa", sum := "d43823e500e750fd6e3a0328460a16a65691991bea906db06623a0d573b1a0c6", func := "ephemeris/ephemerislaw01.NatBack", spec := "natBack", apart := false, narrowed := true }
def NatBackUptoSaid : Prop := natBackUptoRow.holds Try.pinned (OpenSpec.upto natBackSpec)

/-- 'ephemerislaw02.MultMuls', WHERE WHAT IT READS IS OF BULK AT MOST 1048576: true; the input reads as it did. -/
def multMulsUptoRow : OpenClaim := { program := "ytbjgcnhilakimaa", sum := "d43823e500e750fd6e3a0328460a16a65691991bea906db06623a0d573b1a0c6", func := "ephemeris/ephemerislaw02.MultMuls", spec := "multMuls", named := ["math/bits.divideError", "math/bits.overflowError"], apart := false, narrowed := true }
def MultMulsUptoSaid : Prop := multMulsUptoRow.holds Try.pinned (OpenSpec.upto multMulsSpec)

/-- 'ephemerislaw02.MultDivs', WHERE WHAT IT READS IS OF BULK AT MOST 1048576: true; the input reads as it did. -/
def multDivsUptoRow : OpenClaim := { program := "ytbjgcnhilakimaa", sum := "d43823e500e750fd6e3a0328460a16a65691991bea906db06623a0d573b1a0c6", func := "ephemeris/ephemerislaw02.MultDivs", spec := "multDivs", named := ["math/bits.divideError", "math/bits.overflowError"], apart := false, narrowed := true }
def MultDivsUptoSaid : Prop := multDivsUptoRow.holds Try.pinned (OpenSpec.upto multDivsSpec)

/-- 'ephemerislaw02.MultBack', WHERE WHAT IT READS IS OF BULK AT MOST 1048576: true; the input reads as it did. -/
def multBackUptoRow : OpenClaim := { program := "ytbjgcnhilakimaa", sum := "d43823e500e750fd6e3a0328460a16a65691991bea906db06623a0d573b1a0c6", func := "ephemeris/ephemerislaw02.MultBack", spec := "multBack", named := ["math/bits.divideError", "math/bits.overflowError"], apart := false, narrowed := true }
def MultBackUptoSaid : Prop := multBackUptoRow.holds Try.pinned (OpenSpec.upto multBackSpec)

/-- 'ephemerislaw02.MultSmall', WHERE WHAT IT READS IS OF BULK AT MOST 1048576: true; the input reads as it did. -/
def multSmallUptoRow : OpenClaim := { program := "ytbjgcnhilakimaa", sum := "d43823e500e750fd6e3a0328460a16a65691991bea906db06623a0d573b1a0c6", func := "ephemeris/ephemerislaw02.MultSmall", spec := "multSmall", named := ["math/bits.divideError", "math/bits.overflowError"], apart := false, narrowed := true }
def MultSmallUptoSaid : Prop := multSmallUptoRow.holds Try.pinned (OpenSpec.upto multSmallSpec)

/-- 'ephemerislaw02.MultGcds', WHERE WHAT IT READS IS OF BULK AT MOST 1048576: true; the input reads as it did. -/
def multGcdsUptoRow : OpenClaim := { program := "ytbjgcnhilakimaa", sum := "d43823e500e750fd6e3a0328460a16a65691991bea906db06623a0d573b1a0c6", func := "ephemeris/ephemerislaw02.MultGcds", spec := "multGcds", named := ["math/bits.divideError", "math/bits.overflowError"], apart := false, narrowed := true }
def MultGcdsUptoSaid : Prop := multGcdsUptoRow.holds Try.pinned (OpenSpec.upto multGcdsSpec)

/-- 'ephemerislaw02.MultParts', WHERE WHAT IT READS IS OF BULK AT MOST 1048576: true; the input reads as it did. -/
def multPartsUptoRow : OpenClaim := { program := "ytbjgcnhilakimaa", sum := "d43823e500e750fd6e3a0328460a16a65691991bea906db06623a0d573b1a0c6", func := "ephemeris/ephemerislaw02.MultParts", spec := "multParts", named := ["math/bits.divideError", "math/bits.overflowError"], apart := false, narrowed := true }
def MultPartsUptoSaid : Prop := multPartsUptoRow.holds Try.pinned (OpenSpec.upto multPartsSpec)

/-- 'ephemerislaw03.WholeSums', WHERE WHAT IT READS IS OF BULK AT MOST 1048576: true; the input reads as it did. -/
def wholeSumsUptoRow : OpenClaim := { program := "ytbjgcnhilakimaa", sum := "d43823e500e750fd6e3a0328460a16a65691991bea906db06623a0d573b1a0c6", func := "ephemeris/ephemerislaw03.WholeSums", spec := "wholeSums", named := ["math/bits.divideError", "math/bits.overflowError"], apart := false, narrowed := true }
def WholeSumsUptoSaid : Prop := wholeSumsUptoRow.holds Try.pinned (OpenSpec.upto wholeSumsSpec)

/-- 'ephemerislaw03.WholeDivs', WHERE WHAT IT READS IS OF BULK AT MOST 1048576: true; the input reads as it did. -/
def wholeDivsUptoRow : OpenClaim := { program := "ytbjgcnhilakimaa", sum := "d43823e500e750fd6e3a0328460a16a65691991bea906db06623a0d573b1a0c6", func := "ephemeris/ephemerislaw03.WholeDivs", spec := "wholeDivs", named := ["math/bits.divideError", "math/bits.overflowError"], apart := false, narrowed := true }
def WholeDivsUptoSaid : Prop := wholeDivsUptoRow.holds Try.pinned (OpenSpec.upto wholeDivsSpec)

/-- 'ephemerislaw03.WholeSmall', WHERE WHAT IT READS IS OF BULK AT MOST 1048576: true; the input reads as it did. -/
def wholeSmallUptoRow : OpenClaim := { program := "ytbjgcnhilakimaa", sum := "d43823e500e750fd6e3a0328460a16a65691991bea906db06623a0d573b1a0c6", func := "ephemeris/ephemerislaw03.WholeSmall", spec := "wholeSmall", named := ["math/bits.divideError", "math/bits.overflowError"], apart := false, narrowed := true }
def WholeSmallUptoSaid : Prop := wholeSmallUptoRow.holds Try.pinned (OpenSpec.upto wholeSmallSpec)

/-- 'ephemerislaw03.WholeRing', WHERE WHAT IT READS IS OF BULK AT MOST 1048576: true; the input reads as it did. -/
def wholeRingUptoRow : OpenClaim := { program := "ytbjgcnhilakimaa", sum := "d43823e500e750fd6e3a0328460a16a65691991bea906db06623a0d573b1a0c6", func := "ephemeris/ephemerislaw03.WholeRing", spec := "wholeRing", named := ["math/bits.divideError", "math/bits.overflowError"], apart := false, narrowed := true }
def WholeRingUptoSaid : Prop := wholeRingUptoRow.holds Try.pinned (OpenSpec.upto wholeRingSpec)

/-- 'ephemerislaw03.WholeSteps', WHERE WHAT IT READS IS OF BULK AT MOST 1048576: true; the input reads as it did. -/
def wholeStepsUptoRow : OpenClaim := { program := "ytbjgcnhilakimaa", sum := "d43823e500e750fd6e3a0328460a16a65691991bea906db06623a0d573b1a0c6", func := "ephemeris/ephemerislaw03.WholeSteps", spec := "wholeSteps", named := ["math/bits.divideError", "math/bits.overflowError"], apart := false, narrowed := true }
def WholeStepsUptoSaid : Prop := wholeStepsUptoRow.holds Try.pinned (OpenSpec.upto wholeStepsSpec)

/-- 'ephemerislaw04.DigitsTexts', WHERE WHAT IT READS IS OF BULK AT MOST 1048576: true; the input reads as it did. -/
def digitsTextsUptoRow : OpenClaim := { program := "ytbjgcnhilakimaa", sum := "d43823e500e750fd6e3a0328460a16a65691991bea906db06623a0d573b1a0c6", func := "ephemeris/ephemerislaw04.DigitsTexts", spec := "digitsTexts", inPlace := ["internal/abi.NoEscape", "internal/bytealg.MakeNoZero"], apart := false, narrowed := true }
def DigitsTextsUptoSaid : Prop := digitsTextsUptoRow.holds Try.pinned (OpenSpec.upto digitsTextsSpec)

/-- 'ephemerislaw04.DigitsReads', WHERE WHAT IT READS IS OF BULK AT MOST 1048576: true; the input reads as it did. -/
def digitsReadsUptoRow : OpenClaim := { program := "ytbjgcnhilakimaa", sum := "d43823e500e750fd6e3a0328460a16a65691991bea906db06623a0d573b1a0c6", func := "ephemeris/ephemerislaw04.DigitsReads", spec := "digitsReads", inPlace := ["internal/abi.NoEscape", "internal/bytealg.MakeNoZero"], apart := false, narrowed := true }
def DigitsReadsUptoSaid : Prop := digitsReadsUptoRow.holds Try.pinned (OpenSpec.upto digitsReadsSpec)

/-- 'ephemerislaw04.DigitsLong', WHERE WHAT IT READS IS OF BULK AT MOST 1048576: true; the input reads as it did. -/
def digitsLongUptoRow : OpenClaim := { program := "ytbjgcnhilakimaa", sum := "d43823e500e750fd6e3a0328460a16a65691991bea906db06623a0d573b1a0c6", func := "ephemeris/ephemerislaw04.DigitsLong", spec := "digitsLong", inPlace := ["internal/abi.NoEscape", "internal/bytealg.MakeNoZero"], apart := false, narrowed := true }
def DigitsLongUptoSaid : Prop := digitsLongUptoRow.holds Try.pinned (OpenSpec.upto digitsLongSpec)

end Rows
end Go.Proofs.Ytbjgcnhilakimaa
