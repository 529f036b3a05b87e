/- The law MeanOf returns true for every moment and period of at most 3 limbs and every int: of that period, or of one of the five (the int says which), the period, the creation and the mean longitude are the document's, and Sun and Moon are those by the year and by the month. Conditions: none. -/
import Derived.Test.YtmpdbkdijfpbbaaGreatRows
import Derived.Test.YtmpdbkdijfpbbaaGreatIo
import Derived.Test.YtmpdbkdijfpbbaaGreatRsE
import Derived.Test.YtmpdbkdijfpbbaaGreatOp5
import Derived.Lib.SmallJoins
import Derived.ChangeArms
import Derived.WalkKit
import Derived.ProofKit
import Derived.OpenShut
import Derived.ShutString
import Derived.ChangeOld
import Derived.Below
namespace Go.Proofs.YtmpdbkdijfpbbaaGreat.meanOf
open Go.ChangeShapes Go.WideShapes Go.ChangeAt Go.RowKit
open Go.ChangeMaps (open_string shut_string)
set_option linter.unusedVariables false

theorem own : ownKnob Tryz.prog.godebug = none := by kernel_rfl
theorem laidOut : laidOutB Tryz.prog = true := by kernel_rfl

/-- A slice of numbers that came in: nil, or a row of cells. -/
def IsRow (k : IntKind) (w : World) (a : Option Addr) (len cap : Nat) (zs : List Int) : Prop :=
  (a = none ∧ len = 0 ∧ cap = 0 ∧ zs = []) ∨
  ∃ x, a = some x ∧ len ≤ cap ∧ cap ≤ maxLen ∧ zs.length = cap ∧ (∀ i, i < zs.length → w.cell? (x.add i) = some (.int k (zs.getD i 0))) ∧ ∀ n ∈ zs, (Lit.int k n).wf = true
/- The walk. -/
theorem walk (nega0 : Bool) (aa0 : Option Addr) (lena0 capa0 : Nat) (za0 : List Int) (negb0 : Bool) (ab0 : Option Addr) (lenb0 capb0 : Nat) (zb0 : List Int) (nega1 : Bool) (aa1 : Option Addr) (lena1 capa1 : Nat) (za1 : List Int) (negb1 : Bool) (ab1 : Option Addr) (lenb1 capb1 : Nat) (zb1 : List Int) (a2 : Int) (w : World) (wa0 : IsRow .u32 w aa0 lena0 capa0 za0) (wb0 : IsRow .u32 w ab0 lenb0 capb0 zb0) (wa1 : IsRow .u32 w aa1 lena1 capa1 za1) (wb1 : IsRow .u32 w ab1 lenb1 capb1 zb1) (w2 : (Lit.int .i64 a2).wf = true) :
    Calls Tryz.prog 3 #[.agg #[.bool nega0, .slice aa0 lena0 capa0, .bool negb0, .slice ab0 lenb0 capb0], .agg #[.bool nega1, .slice aa1 lena1 capa1, .bool negb1, .slice ab1 lenb1 capb1], .int .i64 a2] w fun e w' => e = .returned (.bool true) ∧ Below w.heap.size w w' := by
  obtain ⟨xa0, ia0⟩ := In32.x (row_in wa0)
  obtain ⟨xb0, ib0⟩ := In32.x (row_in wb0)
  obtain ⟨xa1, ia1⟩ := In32.x (row_in wa1)
  obtain ⟨xb1, ib1⟩ := In32.x (row_in wb1)
  exact meanOf_walk nega0 aa0 lena0 capa0 xa0 negb0 ab0 lenb0 capb0 xb0 nega1 aa1 lena1 capa1 xa1 negb1 ab1 lenb1 capb1 xb1 a2 w ia0 ib0 ia1 ib1

set_option maxRecDepth 100000 in
theorem lifted (os : Os) (started : os.Started) (H : Type) (enc : TypeId × Value → H) :
    ReturnsInHanded {} Tryz.checked os 3 .any (Rows.meanOfSpec.pre6 enc Tryz.prog Tryz.f3 Rows.meanOfRow.domain false) (Rows.meanOfSpec.post enc Tryz.prog Tryz.f3 false true false false) := by
  refine returnsInHanded_of_change (C := Tryz.checked) own started (by kernel_rfl) Tryz.func3
    (ChangeSpec.witness6 (enc := enc) (C := Tryz.checked) false ⟨#[], #[.agg #[.bool false, .slice none 0 0, .bool false, .slice none 0 0], .agg #[.bool false, .slice none 0 0, .bool false, .slice none 0 0], .int .i64 0], []⟩ 8 (by kernel_rfl) (by kernel_rfl) (by kernel_rfl) (by kernel_rfl)) ?_
  intro W base args ds gs before hval0 hW hcnd _
  have hval : ∀ (j : Nat) t v, Tryz.f3.params[j]? = some t → args[j]? = some v → Value.okWide Tryz.prog W .any base t v := hval0
  have hW' := hW
  obtain ⟨p, q, hA0, hV, rfl, hfz, hnd⟩ := hW
  have hA : DataW.TrodAll enc Tryz.prog W 0 (fun _ => true) true Tryz.f3.params.toList args.toList ds p := hA0
  rw [Tryz.params3] at hA hval
  obtain ⟨v0, vs0, d0, ds0, p0, q0, hargs, rfl, rfl, h0, r0⟩ := trodAll_cons hA
  obtain ⟨v1, vs1, d1, ds1, p1, q1, rfl, rfl, rfl, h1, r1⟩ := trodAll_cons r0
  obtain ⟨v2, vs2, d2, ds2, p2, q2, rfl, rfl, rfl, h2, r2⟩ := trodAll_cons r1
  obtain ⟨rfl, rfl, rfl⟩ := trodAll_nil r2
  obtain rfl : args = #[v0, v1, v2] := by cases args; simp_all
  obtain ⟨rfl, rfl⟩ := trodVars_none hV
  have k0 := h0
  have lt0 : ∀ x ∈ p0, x.block < W.heap.size := by obtain ⟨m, hm⟩ := k0; exact DataW.trod_lt m _ _ _ hm
  obtain ⟨ua0, ta0, ub0, tb0, _, _, _, _, _, _, rfl, hua0, hta0, hub0, htb0⟩ := open_raw5 (hval 0 26 v0 rfl rfl) h0
  obtain ⟨nega0, hcba0, _⟩ := DataW.trod_bool Tryz.underlying4 hua0
  obtain rfl : ua0 = .bool nega0 := by simpa using hcba0
  obtain ⟨aa0, lena0, capa0, za0, rfl, wa0⟩ : ∃ a n c zs, ta0 = .slice a n c ∧ IsRow .u32 W a n c zs := by
    rcases open_ints Tryz.underlying22 Tryz.underlying80 (by kernel_rfl) hta0 with ⟨hcs, _⟩ | ⟨x, l, c, zs, hcs, _, hl, hm, hz, _, hcell, hwz⟩
    · exact ⟨none, 0, 0, [], by simpa using hcs, .inl ⟨rfl, rfl, rfl, rfl⟩⟩
    · exact ⟨some x, l, c, zs, by simpa using hcs, .inr ⟨_, rfl, hl, hm, by simpa using hz, hcell, hwz⟩⟩
  obtain ⟨negb0, hcbb0, _⟩ := DataW.trod_bool Tryz.underlying4 hub0
  obtain rfl : ub0 = .bool negb0 := by simpa using hcbb0
  obtain ⟨ab0, lenb0, capb0, zb0, rfl, wb0⟩ : ∃ a n c zs, tb0 = .slice a n c ∧ IsRow .u32 W a n c zs := by
    rcases open_ints Tryz.underlying22 Tryz.underlying80 (by kernel_rfl) htb0 with ⟨hcs, _⟩ | ⟨x, l, c, zs, hcs, _, hl, hm, hz, _, hcell, hwz⟩
    · exact ⟨none, 0, 0, [], by simpa using hcs, .inl ⟨rfl, rfl, rfl, rfl⟩⟩
    · exact ⟨some x, l, c, zs, by simpa using hcs, .inr ⟨_, rfl, hl, hm, by simpa using hz, hcell, hwz⟩⟩
  have k1 := h1
  have lt1 : ∀ x ∈ p1, x.block < W.heap.size := by obtain ⟨m, hm⟩ := k1; exact DataW.trod_lt m _ _ _ hm
  obtain ⟨ua1, ta1, ub1, tb1, _, _, _, _, _, _, rfl, hua1, hta1, hub1, htb1⟩ := open_raw5 (hval 1 26 v1 rfl rfl) h1
  obtain ⟨nega1, hcba1, _⟩ := DataW.trod_bool Tryz.underlying4 hua1
  obtain rfl : ua1 = .bool nega1 := by simpa using hcba1
  obtain ⟨aa1, lena1, capa1, za1, rfl, wa1⟩ : ∃ a n c zs, ta1 = .slice a n c ∧ IsRow .u32 W a n c zs := by
    rcases open_ints Tryz.underlying22 Tryz.underlying80 (by kernel_rfl) hta1 with ⟨hcs, _⟩ | ⟨x, l, c, zs, hcs, _, hl, hm, hz, _, hcell, hwz⟩
    · exact ⟨none, 0, 0, [], by simpa using hcs, .inl ⟨rfl, rfl, rfl, rfl⟩⟩
    · exact ⟨some x, l, c, zs, by simpa using hcs, .inr ⟨_, rfl, hl, hm, by simpa using hz, hcell, hwz⟩⟩
  obtain ⟨negb1, hcbb1, _⟩ := DataW.trod_bool Tryz.underlying4 hub1
  obtain rfl : ub1 = .bool negb1 := by simpa using hcbb1
  obtain ⟨ab1, lenb1, capb1, zb1, rfl, wb1⟩ : ∃ a n c zs, tb1 = .slice a n c ∧ IsRow .u32 W a n c zs := by
    rcases open_ints Tryz.underlying22 Tryz.underlying80 (by kernel_rfl) htb1 with ⟨hcs, _⟩ | ⟨x, l, c, zs, hcs, _, hl, hm, hz, _, hcell, hwz⟩
    · exact ⟨none, 0, 0, [], by simpa using hcs, .inl ⟨rfl, rfl, rfl, rfl⟩⟩
    · exact ⟨some x, l, c, zs, by simpa using hcs, .inr ⟨_, rfl, hl, hm, by simpa using hz, hcell, hwz⟩⟩
  obtain ⟨a2, rfl, rfl, rfl, w2⟩ := open_int Tryz.underlying3 (hval 2 3 v2 rfl rfl) h2
  clear hA0 hval0
  refine (walk nega0 aa0 lena0 capa0 za0 negb0 ab0 lenb0 capb0 zb0 nega1 aa1 lena1 capa1 za1 negb1 ab1 lenb1 capb1 zb1 a2 W wa0 wb0 wa1 wb1 w2).mono fun e W' ⟨he, bel⟩ => ?_
  subst he
  exact ⟨_, rfl, _, _, _, [], _, [], hW', trodAll_mk1 (shut_bool Tryz.underlying4 _), (trodAll_cons_mk (Below.trod laidOut (by kernel_rfl) (of_decide_eq_true (by kernel_rfl)) k0 bel lt0) (trodAll_cons_mk (Below.trod laidOut (by kernel_rfl) (of_decide_eq_true (by kernel_rfl)) k1 bel lt1) (trodAll_cons_mk (shut_int Tryz.underlying3 w2) trodAll_mk0))), rfl, bel.frame _, fun h => by cases h⟩

theorem e_make : (Tryz.prog.make == some Rows.meanOfRow.make) = true := by rw [io_make]; kernel_rfl
theorem e_lifts : (Rows.meanOfRow.lifted == Tryz.prog.liftsFinal) = true := by rw [io_lifts]; kernel_rfl
theorem closed : joinedFacts Tryz.prog 3 Tryz.f3 Rows.meanOfSpec Rows.meanOfRow = true := by
  unfold joinedFacts
  simp only [Bool.and_eq_true]
  repeat' (refine And.intro ?_ ?_)
  all_goals first | with_reducible exact io_may | with_reducible exact e_make | with_reducible exact e_lifts | kernel_rfl

theorem over : Rows.meanOfRow.holds Tryz.pinned (OpenSpec.ofChange Rows.meanOfSpec) :=
  OpenClaim.holds_of_wide 3 Tryz.f3 rfl rfl rfl rfl rfl rfl rfl ⟨rfl, rfl, rfl, rfl, rfl⟩ rfl rfl rfl rfl rfl (by kernel_rfl) Tryz.func3 closed
    (of_decide_eq_true (by kernel_rfl)) (by unfold Func.isWrapper; first | (rw [if_pos (by decide +kernel)]; kernel_rfl) | (rw [if_neg (by decide +kernel)]; exact ⟨rfl, rfl⟩))
    (fun os started H enc _ => lifted os started H enc)

theorem proved : Rows.MeanOfSaid := over
#print axioms proved
end Go.Proofs.YtmpdbkdijfpbbaaGreat.meanOf
