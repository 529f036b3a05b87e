/-
  No cell of these rows narrows 'for every input' (looked for: loops, veiled, ifaces, maps, wideKeys, modest, calm, conditions, laid).
  DERIVED. THE GIVEN ROWS OF THIS SEAT. 6 by the template 'for every input the law returns true; each argument reads behind the call as it read before'; 0 by the template 'total and deterministic' (their statements: YthoiocjbjfhgpaaGreatTotals.lean).
  GIVEN WITH THE SEED: the statements are not yours to turn. If you find one false, say at which input.
  Laid BY PROGRAM, IN A SANDBOX (cutbox-rows.mjs): the forced cells as the released guide's own fill.sh prints them over the translation aa27b767c3ab85b8… (all of the seat's roots in one cut). By AI agents, Wed Nov 11 2026. No macro, syntax, notation, axiom, sorry.
-/
import Derived.Test.YthoiocjbjfhgpaaGreatChecked
import GoSem.Claim
import GoSem.ClaimJoined
import GoSem.ClaimMapViews
import Derived.JoinedTies
import Derived.KernelRfl
namespace Go.Proofs.YthoiocjbjfhgpaaGreat
/- THE CELL 'sum', in the pinned program and in every row, IS THE sha256 OF THE DUMP (.gsa) THAT YthoiocjbjfhgpaaGreatProg.lean LOADS. Nothing in Lean hashes anything: it is a label: what it is worth is what the hold of that sum in a sandbox is worth. -/
noncomputable def Tryz.pinned : Pinned := { name := "ythoiocjbjfhgpaagreat", sum := "aa27b767c3ab85b858ed9fc4bc0b52257e4d85f9395a953c0f5fb71193008183", checked := Tryz.checked }
namespace Rows
def none {H : Type} : Left H := { results := [], args := [] }

/-- 'ephemerislaw06.CutFloors': WHATEVER THE INPUT: true; the input reads as it did. -/
def cutFloorsSpec : ChangeSpec := { name := "cutFloors", fn := fun _ => fun
  | [d] => { results := [.lit (.bool true)], args := [d] }
  | _ => none }
def cutFloorsRow : OpenClaim := { program := "ythoiocjbjfhgpaagreat", sum := "aa27b767c3ab85b858ed9fc4bc0b52257e4d85f9395a953c0f5fb71193008183", func := "ephemeris/ephemerislaw06.CutFloors", spec := "cutFloors", inPlace := ["internal/bytealg.IndexByteString", "internal/bytealg.IndexString"], named := ["math/bits.divideError", "math/bits.overflowError", "internal/bytealg.MaxLen"], apart := false }
def CutFloorsSaid : Prop := cutFloorsRow.holds Tryz.pinned (OpenSpec.ofChange cutFloorsSpec)

/-- ITS FALSE NEIGHBOUR: 'it returns false'. Refute it at one input. -/
def cutFloorsWrong : ChangeSpec := { name := "cutFloors", fn := fun _ => fun
  | [d] => { results := [.lit (.bool false)], args := [d] }
  | _ => none }
def CutFloorsWrongFalsely : Prop := cutFloorsRow.holds Tryz.pinned (OpenSpec.ofChange cutFloorsWrong)

/-- 'ephemerislaw06.CutMods': WHATEVER THE INPUT: true; the input reads as it did. -/
def cutModsSpec : ChangeSpec := { name := "cutMods", fn := fun _ => fun
  | [d1, d2, d3] => { results := [.lit (.bool true)], args := [d1, d2, d3] }
  | _ => none }
def cutModsRow : OpenClaim := { program := "ythoiocjbjfhgpaagreat", sum := "aa27b767c3ab85b858ed9fc4bc0b52257e4d85f9395a953c0f5fb71193008183", func := "ephemeris/ephemerislaw06.CutMods", spec := "cutMods", inPlace := ["internal/bytealg.IndexByteString", "internal/bytealg.IndexString"], named := ["math/bits.divideError", "math/bits.overflowError", "internal/bytealg.MaxLen"], apart := false }
def CutModsSaid : Prop := cutModsRow.holds Tryz.pinned (OpenSpec.ofChange cutModsSpec)

/-- ITS FALSE NEIGHBOUR: 'it returns false'. Refute it at one input. -/
def cutModsWrong : ChangeSpec := { name := "cutMods", fn := fun _ => fun
  | [d1, d2, d3] => { results := [.lit (.bool false)], args := [d1, d2, d3] }
  | _ => none }
def CutModsWrongFalsely : Prop := cutModsRow.holds Tryz.pinned (OpenSpec.ofChange cutModsWrong)

/-- 'ephemerislaw06.CutMoves': WHATEVER THE INPUT: true; the input reads as it did. -/
def cutMovesSpec : ChangeSpec := { name := "cutMoves", fn := fun _ => fun
  | [d1, d2, d3] => { results := [.lit (.bool true)], args := [d1, d2, d3] }
  | _ => none }
def cutMovesRow : OpenClaim := { program := "ythoiocjbjfhgpaagreat", sum := "aa27b767c3ab85b858ed9fc4bc0b52257e4d85f9395a953c0f5fb71193008183", func := "ephemeris/ephemerislaw06.CutMoves", spec := "cutMoves", inPlace := ["internal/bytealg.IndexByteString", "internal/bytealg.IndexString"], named := ["math/bits.divideError", "math/bits.overflowError", "internal/bytealg.MaxLen"], apart := false }
def CutMovesSaid : Prop := cutMovesRow.holds Tryz.pinned (OpenSpec.ofChange cutMovesSpec)

/-- ITS FALSE NEIGHBOUR: 'it returns false'. Refute it at one input. -/
def cutMovesWrong : ChangeSpec := { name := "cutMoves", fn := fun _ => fun
  | [d1, d2, d3] => { results := [.lit (.bool false)], args := [d1, d2, d3] }
  | _ => none }
def CutMovesWrongFalsely : Prop := cutMovesRow.holds Tryz.pinned (OpenSpec.ofChange cutMovesWrong)

/-- 'ephemerislaw06.CutMid': WHATEVER THE INPUT: true; the input reads as it did. -/
def cutMidSpec : ChangeSpec := { name := "cutMid", fn := fun _ => fun
  | [d1, d2] => { results := [.lit (.bool true)], args := [d1, d2] }
  | _ => none }
def cutMidRow : OpenClaim := { program := "ythoiocjbjfhgpaagreat", sum := "aa27b767c3ab85b858ed9fc4bc0b52257e4d85f9395a953c0f5fb71193008183", func := "ephemeris/ephemerislaw06.CutMid", spec := "cutMid", inPlace := ["internal/bytealg.IndexByteString", "internal/bytealg.IndexString"], named := ["math/bits.divideError", "math/bits.overflowError", "internal/bytealg.MaxLen"], apart := false }
def CutMidSaid : Prop := cutMidRow.holds Tryz.pinned (OpenSpec.ofChange cutMidSpec)

/-- ITS FALSE NEIGHBOUR: 'it returns false'. Refute it at one input. -/
def cutMidWrong : ChangeSpec := { name := "cutMid", fn := fun _ => fun
  | [d1, d2] => { results := [.lit (.bool false)], args := [d1, d2] }
  | _ => none }
def CutMidWrongFalsely : Prop := cutMidRow.holds Tryz.pinned (OpenSpec.ofChange cutMidWrong)

/-- 'ephemerislaw06.CutTexts': WHATEVER THE INPUT: true; the input reads as it did. -/
def cutTextsSpec : ChangeSpec := { name := "cutTexts", fn := fun _ => fun
  | [d] => { results := [.lit (.bool true)], args := [d] }
  | _ => none }
def cutTextsRow : OpenClaim := { program := "ythoiocjbjfhgpaagreat", sum := "aa27b767c3ab85b858ed9fc4bc0b52257e4d85f9395a953c0f5fb71193008183", func := "ephemeris/ephemerislaw06.CutTexts", spec := "cutTexts", inPlace := ["internal/bytealg.IndexByteString", "internal/bytealg.IndexString"], named := ["math/bits.divideError", "math/bits.overflowError", "internal/bytealg.MaxLen"], apart := false }
def CutTextsSaid : Prop := cutTextsRow.holds Tryz.pinned (OpenSpec.ofChange cutTextsSpec)

/-- ITS FALSE NEIGHBOUR: 'it returns false'. Refute it at one input. -/
def cutTextsWrong : ChangeSpec := { name := "cutTexts", fn := fun _ => fun
  | [d] => { results := [.lit (.bool false)], args := [d] }
  | _ => none }
def CutTextsWrongFalsely : Prop := cutTextsRow.holds Tryz.pinned (OpenSpec.ofChange cutTextsWrong)

/-- 'ephemerislaw06.CutReads': WHATEVER THE INPUT: true; the input reads as it did. -/
def cutReadsSpec : ChangeSpec := { name := "cutReads", fn := fun _ => fun
  | [d] => { results := [.lit (.bool true)], args := [d] }
  | _ => none }
def cutReadsRow : OpenClaim := { program := "ythoiocjbjfhgpaagreat", sum := "aa27b767c3ab85b858ed9fc4bc0b52257e4d85f9395a953c0f5fb71193008183", func := "ephemeris/ephemerislaw06.CutReads", spec := "cutReads", inPlace := ["internal/bytealg.IndexByteString", "internal/bytealg.IndexString"], named := ["math/bits.divideError", "math/bits.overflowError", "internal/bytealg.MaxLen"], apart := false }
def CutReadsSaid : Prop := cutReadsRow.holds Tryz.pinned (OpenSpec.ofChange cutReadsSpec)

/-- ITS FALSE NEIGHBOUR: 'it returns false'. Refute it at one input. -/
def cutReadsWrong : ChangeSpec := { name := "cutReads", fn := fun _ => fun
  | [d] => { results := [.lit (.bool false)], args := [d] }
  | _ => none }
def CutReadsWrongFalsely : Prop := cutReadsRow.holds Tryz.pinned (OpenSpec.ofChange cutReadsWrong)

/- THE SECOND FORM. 'bulk': how many values and letters a reading holds, each counted each time it is reached (what is shared counts as often as it is met; a slice's spare places count too). A statement '..UptoSaid' is the law's where the arguments, and the package variables that the reading takes, are together of bulk at most 1048576: NARROWER than '..Said'. Prove '..Said' where nothing that the law and all that it calls make is longer than what came in: it says more and counts as full. Else prove '..UptoSaid'. A law counts once. -/
mutual
def uptoBulk {H : Type} : DataW H → Nat
  | .lit (.string bytes) => bytes.length + 1
  | .lit _ => 1
  | .nil => 1
  | .ptr d => uptoBulk d + 1
  | .slice elems spare => uptoBulkAll elems + uptoBulkAll spare + 1
  | .agg parts => uptoBulkAll parts + 1
  | .iface _ d => uptoBulk d + 1
  | .map entries => uptoBulkEntries entries + 1
  | .held _ => 1
def uptoBulkAll {H : Type} : List (DataW H) → Nat
  | [] => 0
  | d :: r => uptoBulk d + uptoBulkAll r
def uptoBulkEntries {H : Type} : List (Lit × DataW H) → Nat
  | [] => 0
  | x :: r => uptoBulkEntry x + uptoBulkEntries r
def uptoBulkEntry {H : Type} : Lit × DataW H → Nat
  | (.string bytes, d) => bytes.length + uptoBulk d + 1
  | (_, d) => uptoBulk d + 1
 end
def uptoSmall : (H : Type) → List (DataW H) → Bool := fun _ ds => decide (uptoBulkAll ds ≤ 1048576)
def OpenSpec.upto (s : _root_.Go.ChangeSpec) : _root_.Go.OpenSpec := { _root_.Go.OpenSpec.ofChange s with cond := some uptoSmall }

/-- 'ephemerislaw06.CutFloors', WHERE WHAT IT READS IS OF BULK AT MOST 1048576: true; the input reads as it did. -/
def cutFloorsUptoRow : OpenClaim := { program := "ythoiocjbjfhgpaagreat", sum := "aa27b767c3ab85b858ed9fc4bc0b52257e4d85f9395a953c0f5fb71193008183", func := "ephemeris/ephemerislaw06.CutFloors", spec := "cutFloors", inPlace := ["internal/bytealg.IndexByteString", "internal/bytealg.IndexString"], named := ["math/bits.divideError", "math/bits.overflowError", "internal/bytealg.MaxLen"], apart := false, narrowed := true }
def CutFloorsUptoSaid : Prop := cutFloorsUptoRow.holds Tryz.pinned (OpenSpec.upto cutFloorsSpec)

/-- 'ephemerislaw06.CutMods', WHERE WHAT IT READS IS OF BULK AT MOST 1048576: true; the input reads as it did. -/
def cutModsUptoRow : OpenClaim := { program := "ythoiocjbjfhgpaagreat", sum := "aa27b767c3ab85b858ed9fc4bc0b52257e4d85f9395a953c0f5fb71193008183", func := "ephemeris/ephemerislaw06.CutMods", spec := "cutMods", inPlace := ["internal/bytealg.IndexByteString", "internal/bytealg.IndexString"], named := ["math/bits.divideError", "math/bits.overflowError", "internal/bytealg.MaxLen"], apart := false, narrowed := true }
def CutModsUptoSaid : Prop := cutModsUptoRow.holds Tryz.pinned (OpenSpec.upto cutModsSpec)

/-- 'ephemerislaw06.CutMoves', WHERE WHAT IT READS IS OF BULK AT MOST 1048576: true; the input reads as it did. -/
def cutMovesUptoRow : OpenClaim := { program := "ythoiocjbjfhgpaagreat", sum := "aa27b767c3ab85b858ed9fc4bc0b52257e4d85f9395a953c0f5fb71193008183", func := "ephemeris/ephemerislaw06.CutMoves", spec := "cutMoves", inPlace := ["internal/bytealg.IndexByteString", "internal/bytealg.IndexString"], named := ["math/bits.divideError", "math/bits.overflowError", "internal/bytealg.MaxLen"], apart := false, narrowed := true }
def CutMovesUptoSaid : Prop := cutMovesUptoRow.holds Tryz.pinned (OpenSpec.upto cutMovesSpec)

/-- 'ephemerislaw06.CutMid', WHERE WHAT IT READS IS OF BULK AT MOST 1048576: true; the input reads as it did. -/
def cutMidUptoRow : OpenClaim := { program := "ythoiocjbjfhgpaagreat", sum := "aa27b767c3ab85b858ed9fc4bc0b52257e4d85f9395a953c0f5fb71193008183", func := "ephemeris/ephemerislaw06.CutMid", spec := "cutMid", inPlace := ["internal/bytealg.IndexByteString", "internal/bytealg.IndexString"], named := ["math/bits.divideError", "math/bits.overflowError", "internal/bytealg.MaxLen"], apart := false, narrowed := true }
def CutMidUptoSaid : Prop := cutMidUptoRow.holds Tryz.pinned (OpenSpec.upto cutMidSpec)

/-- 'ephemerislaw06.CutTexts', WHERE WHAT IT READS IS OF BULK AT MOST 1048576: true; the input reads as it did. -/
def cutTextsUptoRow : OpenClaim := { program := "ythoiocjbjfhgpaagreat", sum := "aa27b767c3ab85b858ed9fc4bc0b52257e4d85f9395a953c0f5fb71193008183", func := "ephemeris/ephemerislaw06.CutTexts", spec := "cutTexts", inPlace := ["internal/bytealg.IndexByteString", "internal/bytealg.IndexString"], named := ["math/bits.divideError", "math/bits.overflowError", "internal/bytealg.MaxLen"], apart := false, narrowed := true }
def CutTextsUptoSaid : Prop := cutTextsUptoRow.holds Tryz.pinned (OpenSpec.upto cutTextsSpec)

/-- 'ephemerislaw06.CutReads', WHERE WHAT IT READS IS OF BULK AT MOST 1048576: true; the input reads as it did. -/
def cutReadsUptoRow : OpenClaim := { program := "ythoiocjbjfhgpaagreat", sum := "aa27b767c3ab85b858ed9fc4bc0b52257e4d85f9395a953c0f5fb71193008183", func := "ephemeris/ephemerislaw06.CutReads", spec := "cutReads", inPlace := ["internal/bytealg.IndexByteString", "internal/bytealg.IndexString"], named := ["math/bits.divideError", "math/bits.overflowError", "internal/bytealg.MaxLen"], apart := false, narrowed := true }
def CutReadsUptoSaid : Prop := cutReadsUptoRow.holds Tryz.pinned (OpenSpec.upto cutReadsSpec)

end Rows
end Go.Proofs.YthoiocjbjfhgpaaGreat
