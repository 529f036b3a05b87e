/- The law MeanPhase returns true for every moment of at most 3 limbs: the mean moon less the mean sun, moved into what lies from 0 up to 360, is the mean longitude by the synodic period. Conditions: none. -/
import Derived.Test.YtmpdbkdijfpbbaaRows
import Derived.Test.YtmpdbkdijfpbbaaIo
import Derived.Test.YtmpdbkdijfpbbaaMnD
import Derived.Test.YtmpdbkdijfpbbaaOp5
import Derived.Lib.SmallJoins
import Derived.ChangeArms
import Derived.WalkKit
import Derived.ProofKit
import Derived.OpenShut
import Derived.ShutString
import Derived.ChangeOld
import Derived.Below
namespace Go.Proofs.Ytmpdbkdijfpbbaa.meanPhase
open Go.ChangeShapes Go.WideShapes Go.ChangeAt Go.RowKit
open Go.ChangeMaps (open_string shut_string)
set_option linter.unusedVariables false

theorem own : ownKnob Try.prog.godebug = none := by kernel_rfl
theorem laidOut : laidOutB Try.prog = true := by kernel_rfl

/-- A slice of numbers that came in: nil, or a row of cells. -/
def IsRow (k : IntKind) (w : World) (a : Option Addr) (len cap : Nat) (zs : List Int) : Prop :=
  (a = none ∧ len = 0 ∧ cap = 0 ∧ zs = []) ∨
  ∃ x, a = some x ∧ len ≤ cap ∧ cap ≤ maxLen ∧ zs.length = cap ∧ (∀ i, i < zs.length → w.cell? (x.add i) = some (.int k (zs.getD i 0))) ∧ ∀ n ∈ zs, (Lit.int k n).wf = true
/- The walk. -/
theorem walk (nega0 : Bool) (aa0 : Option Addr) (lena0 capa0 : Nat) (za0 : List Int) (negb0 : Bool) (ab0 : Option Addr) (lenb0 capb0 : Nat) (zb0 : List Int) (w : World) (wa0 : IsRow .u32 w aa0 lena0 capa0 za0) (wb0 : IsRow .u32 w ab0 lenb0 capb0 zb0) :
    Calls Try.prog 5 #[.agg #[.bool nega0, .slice aa0 lena0 capa0, .bool negb0, .slice ab0 lenb0 capb0]] w fun e w' => e = .returned (.bool true) ∧ Below w.heap.size w w' := by
  obtain ⟨xa0, ia0⟩ := In32.x (row_in wa0)
  obtain ⟨xb0, ib0⟩ := In32.x (row_in wb0)
  exact meanPhase_walk nega0 aa0 lena0 capa0 xa0 negb0 ab0 lenb0 capb0 xb0 w ia0 ib0

set_option maxRecDepth 100000 in
theorem lifted (os : Os) (started : os.Started) (H : Type) (enc : TypeId × Value → H) :
    ReturnsInHanded {} Try.checked os 5 .any (Rows.meanPhaseSpec.pre6 enc Try.prog Try.f5 Rows.meanPhaseRow.domain false) (Rows.meanPhaseSpec.post enc Try.prog Try.f5 false true false false) := by
  refine returnsInHanded_of_change (C := Try.checked) own started (by kernel_rfl) Try.func5
    (ChangeSpec.witness6 (enc := enc) (C := Try.checked) false ⟨#[], #[.agg #[.bool false, .slice none 0 0, .bool false, .slice none 0 0]], []⟩ 8 (by kernel_rfl) (by kernel_rfl) (by kernel_rfl) (by kernel_rfl)) ?_
  intro W base args ds gs before hval0 hW hcnd _
  have hval : ∀ (j : Nat) t v, Try.f5.params[j]? = some t → args[j]? = some v → Value.okWide Try.prog W .any base t v := hval0
  have hW' := hW
  obtain ⟨p, q, hA0, hV, rfl, hfz, hnd⟩ := hW
  have hA : DataW.TrodAll enc Try.prog W 0 (fun _ => true) true Try.f5.params.toList args.toList ds p := hA0
  rw [Try.params5] at hA hval
  obtain ⟨v0, vs0, d0, ds0, p0, q0, hargs, rfl, rfl, h0, r0⟩ := trodAll_cons hA
  obtain ⟨rfl, rfl, rfl⟩ := trodAll_nil r0
  obtain rfl : args = #[v0] := by cases args; simp_all
  obtain ⟨rfl, rfl⟩ := trodVars_none hV
  have k0 := h0
  have lt0 : ∀ x ∈ p0, x.block < W.heap.size := by obtain ⟨m, hm⟩ := k0; exact DataW.trod_lt m _ _ _ hm
  obtain ⟨ua0, ta0, ub0, tb0, _, _, _, _, _, _, rfl, hua0, hta0, hub0, htb0⟩ := open_raw5 (hval 0 26 v0 rfl rfl) h0
  obtain ⟨nega0, hcba0, _⟩ := DataW.trod_bool Try.underlying4 hua0
  obtain rfl : ua0 = .bool nega0 := by simpa using hcba0
  obtain ⟨aa0, lena0, capa0, za0, rfl, wa0⟩ : ∃ a n c zs, ta0 = .slice a n c ∧ IsRow .u32 W a n c zs := by
    rcases open_ints Try.underlying22 Try.underlying66 (by kernel_rfl) hta0 with ⟨hcs, _⟩ | ⟨x, l, c, zs, hcs, _, hl, hm, hz, _, hcell, hwz⟩
    · exact ⟨none, 0, 0, [], by simpa using hcs, .inl ⟨rfl, rfl, rfl, rfl⟩⟩
    · exact ⟨some x, l, c, zs, by simpa using hcs, .inr ⟨_, rfl, hl, hm, by simpa using hz, hcell, hwz⟩⟩
  obtain ⟨negb0, hcbb0, _⟩ := DataW.trod_bool Try.underlying4 hub0
  obtain rfl : ub0 = .bool negb0 := by simpa using hcbb0
  obtain ⟨ab0, lenb0, capb0, zb0, rfl, wb0⟩ : ∃ a n c zs, tb0 = .slice a n c ∧ IsRow .u32 W a n c zs := by
    rcases open_ints Try.underlying22 Try.underlying66 (by kernel_rfl) htb0 with ⟨hcs, _⟩ | ⟨x, l, c, zs, hcs, _, hl, hm, hz, _, hcell, hwz⟩
    · exact ⟨none, 0, 0, [], by simpa using hcs, .inl ⟨rfl, rfl, rfl, rfl⟩⟩
    · exact ⟨some x, l, c, zs, by simpa using hcs, .inr ⟨_, rfl, hl, hm, by simpa using hz, hcell, hwz⟩⟩
  clear hA0 hval0
  refine (walk nega0 aa0 lena0 capa0 za0 negb0 ab0 lenb0 capb0 zb0 W wa0 wb0).mono fun e W' ⟨he, bel⟩ => ?_
  subst he
  exact ⟨_, rfl, _, _, _, [], _, [], hW', trodAll_mk1 (shut_bool Try.underlying4 _), (trodAll_cons_mk (Below.trod laidOut (by kernel_rfl) (of_decide_eq_true (by kernel_rfl)) k0 bel lt0) trodAll_mk0), rfl, bel.frame _, fun h => by cases h⟩

theorem e_make : (Try.prog.make == some Rows.meanPhaseRow.make) = true := by rw [io_make]; kernel_rfl
theorem e_lifts : (Rows.meanPhaseRow.lifted == Try.prog.liftsFinal) = true := by rw [io_lifts]; kernel_rfl
theorem closed : joinedFacts Try.prog 5 Try.f5 Rows.meanPhaseSpec Rows.meanPhaseRow = true := by
  unfold joinedFacts
  simp only [Bool.and_eq_true]
  repeat' (refine And.intro ?_ ?_)
  all_goals first | with_reducible exact io_may | with_reducible exact e_make | with_reducible exact e_lifts | kernel_rfl

theorem over : Rows.meanPhaseRow.holds Try.pinned (OpenSpec.ofChange Rows.meanPhaseSpec) :=
  OpenClaim.holds_of_wide 5 Try.f5 rfl rfl rfl rfl rfl rfl rfl ⟨rfl, rfl, rfl, rfl, rfl⟩ rfl rfl rfl rfl rfl (by kernel_rfl) Try.func5 closed
    (of_decide_eq_true (by kernel_rfl)) (by unfold Func.isWrapper; first | (rw [if_pos (by decide +kernel)]; kernel_rfl) | (rw [if_neg (by decide +kernel)]; exact ⟨rfl, rfl⟩))
    (fun os started H enc _ => lifted os started H enc)

theorem proved : Rows.MeanPhaseSaid := over
#print axioms proved
end Go.Proofs.Ytmpdbkdijfpbbaa.meanPhase
