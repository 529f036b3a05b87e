/- The law SeekBisect returns true for every three pairs of raw whole numbers (signs, and limbs of which the first 2 count) and every int: an interval halved so many times by 'it isn't below the third number' asks once a halving, is that part of the whole, and holds the third number if the interval did. Conditions: none. -/
import Derived.Test.YtplngpfpcheofaaKC39
import Derived.Test.YtplngpfpcheofaaKC40
import Derived.Test.YtplngpfpcheofaaRows
import Derived.Test.YtplngpfpcheofaaIo
import Derived.Lib.SmallJoins
import Derived.ChangeArms
import Derived.WalkKit
import Derived.ProofKit
import Derived.OpenShut
import Derived.ShutString
import Derived.ChangeOld
import Derived.Below
namespace Go.Proofs.Ytplngpfpcheofaa.seekBisect
open Go.ChangeShapes Go.WideShapes Go.ChangeAt Go.RowKit
open Go.ChangeMaps (open_string shut_string)
set_option linter.unusedVariables false

theorem own : ownKnob Try.prog.godebug = none := by kernel_rfl
theorem laidOut : laidOutB Try.prog = true := by kernel_rfl

/-- A slice of numbers that came in: nil, or a row of cells. -/
def IsRow (k : IntKind) (w : World) (a : Option Addr) (len cap : Nat) (zs : List Int) : Prop :=
  (a = none ∧ len = 0 ∧ cap = 0 ∧ zs = []) ∨
  ∃ x, a = some x ∧ len ≤ cap ∧ cap ≤ maxLen ∧ zs.length = cap ∧ (∀ i, i < zs.length → w.cell? (x.add i) = some (.int k (zs.getD i 0))) ∧ ∀ n ∈ zs, (Lit.int k n).wf = true
/- The walk. -/
theorem walk (nega0 : Bool) (aa0 : Option Addr) (lena0 capa0 : Nat) (za0 : List Int) (negb0 : Bool) (ab0 : Option Addr) (lenb0 capb0 : Nat) (zb0 : List Int) (nega1 : Bool) (aa1 : Option Addr) (lena1 capa1 : Nat) (za1 : List Int) (negb1 : Bool) (ab1 : Option Addr) (lenb1 capb1 : Nat) (zb1 : List Int) (nega2 : Bool) (aa2 : Option Addr) (lena2 capa2 : Nat) (za2 : List Int) (negb2 : Bool) (ab2 : Option Addr) (lenb2 capb2 : Nat) (zb2 : List Int) (a3 : Int) (w : World) (wa0 : IsRow .u32 w aa0 lena0 capa0 za0) (wb0 : IsRow .u32 w ab0 lenb0 capb0 zb0) (wa1 : IsRow .u32 w aa1 lena1 capa1 za1) (wb1 : IsRow .u32 w ab1 lenb1 capb1 zb1) (wa2 : IsRow .u32 w aa2 lena2 capa2 za2) (wb2 : IsRow .u32 w ab2 lenb2 capb2 zb2) (w3 : (Lit.int .i64 a3).wf = true) :
    Calls Try.prog 3 #[.agg #[.bool nega0, .slice aa0 lena0 capa0, .bool negb0, .slice ab0 lenb0 capb0], .agg #[.bool nega1, .slice aa1 lena1 capa1, .bool negb1, .slice ab1 lenb1 capb1], .agg #[.bool nega2, .slice aa2 lena2 capa2, .bool negb2, .slice ab2 lenb2 capb2], .int .i64 a3] w fun e w' => e = .returned (.bool true) ∧ Below w.heap.size w w' := by
  obtain ⟨xa0, ia0⟩ := In32.x (row_in wa0)
  obtain ⟨xb0, ib0⟩ := In32.x (row_in wb0)
  obtain ⟨xa1, ia1⟩ := In32.x (row_in wa1)
  obtain ⟨xb1, ib1⟩ := In32.x (row_in wb1)
  obtain ⟨xa2, ia2⟩ := In32.x (row_in wa2)
  obtain ⟨xb2, ib2⟩ := In32.x (row_in wb2)
  exact seekBisect_walk nega0 aa0 lena0 capa0 xa0 negb0 ab0 lenb0 capb0 xb0 nega1 aa1 lena1 capa1 xa1 negb1 ab1 lenb1 capb1 xb1 nega2 aa2 lena2 capa2 xa2 negb2 ab2 lenb2 capb2 xb2 a3 w ia0 ib0 ia1 ib1 ia2 ib2

set_option maxRecDepth 100000 in
theorem lifted (os : Os) (started : os.Started) (H : Type) (enc : TypeId × Value → H) :
    ReturnsInHanded {} Try.checked os 3 .any (Rows.seekBisectSpec.pre6 enc Try.prog Try.f3 Rows.seekBisectRow.domain false) (Rows.seekBisectSpec.post enc Try.prog Try.f3 false true false false) := by
  refine returnsInHanded_of_change (C := Try.checked) own started (by kernel_rfl) Try.func3
    (ChangeSpec.witness6 (enc := enc) (C := Try.checked) false ⟨#[], #[.agg #[.bool false, .slice none 0 0, .bool false, .slice none 0 0], .agg #[.bool false, .slice none 0 0, .bool false, .slice none 0 0], .agg #[.bool false, .slice none 0 0, .bool false, .slice none 0 0], .int .i64 0], []⟩ 8 (by kernel_rfl) (by kernel_rfl) (by kernel_rfl) (by kernel_rfl)) ?_
  intro W base args ds gs before hval0 hW hcnd _
  have hval : ∀ (j : Nat) t v, Try.f3.params[j]? = some t → args[j]? = some v → Value.okWide Try.prog W .any base t v := hval0
  have hW' := hW
  obtain ⟨p, q, hA0, hV, rfl, hfz, hnd⟩ := hW
  have hA : DataW.TrodAll enc Try.prog W 0 (fun _ => true) true Try.f3.params.toList args.toList ds p := hA0
  rw [Try.params3] at hA hval
  obtain ⟨v0, vs0, d0, ds0, p0, q0, hargs, rfl, rfl, h0, r0⟩ := trodAll_cons hA
  obtain ⟨v1, vs1, d1, ds1, p1, q1, rfl, rfl, rfl, h1, r1⟩ := trodAll_cons r0
  obtain ⟨v2, vs2, d2, ds2, p2, q2, rfl, rfl, rfl, h2, r2⟩ := trodAll_cons r1
  obtain ⟨v3, vs3, d3, ds3, p3, q3, rfl, rfl, rfl, h3, r3⟩ := trodAll_cons r2
  obtain ⟨rfl, rfl, rfl⟩ := trodAll_nil r3
  obtain rfl : args = #[v0, v1, v2, v3] := by cases args; simp_all
  obtain ⟨rfl, rfl⟩ := trodVars_none hV
  have k0 := h0
  have lt0 : ∀ x ∈ p0, x.block < W.heap.size := by obtain ⟨m, hm⟩ := k0; exact DataW.trod_lt m _ _ _ hm
  obtain ⟨ua0, ta0, ub0, tb0, _, _, _, _, _, _, rfl, hua0, hta0, hub0, htb0⟩ := open_raw5 (hval 0 26 v0 rfl rfl) h0
  obtain ⟨nega0, hcba0, _⟩ := DataW.trod_bool Try.underlying4 hua0
  obtain rfl : ua0 = .bool nega0 := by simpa using hcba0
  obtain ⟨aa0, lena0, capa0, za0, rfl, wa0⟩ : ∃ a n c zs, ta0 = .slice a n c ∧ IsRow .u32 W a n c zs := by
    rcases open_ints Try.underlying22 Try.underlying62 (by kernel_rfl) hta0 with ⟨hcs, _⟩ | ⟨x, l, c, zs, hcs, _, hl, hm, hz, _, hcell, hwz⟩
    · exact ⟨none, 0, 0, [], by simpa using hcs, .inl ⟨rfl, rfl, rfl, rfl⟩⟩
    · exact ⟨some x, l, c, zs, by simpa using hcs, .inr ⟨_, rfl, hl, hm, by simpa using hz, hcell, hwz⟩⟩
  obtain ⟨negb0, hcbb0, _⟩ := DataW.trod_bool Try.underlying4 hub0
  obtain rfl : ub0 = .bool negb0 := by simpa using hcbb0
  obtain ⟨ab0, lenb0, capb0, zb0, rfl, wb0⟩ : ∃ a n c zs, tb0 = .slice a n c ∧ IsRow .u32 W a n c zs := by
    rcases open_ints Try.underlying22 Try.underlying62 (by kernel_rfl) htb0 with ⟨hcs, _⟩ | ⟨x, l, c, zs, hcs, _, hl, hm, hz, _, hcell, hwz⟩
    · exact ⟨none, 0, 0, [], by simpa using hcs, .inl ⟨rfl, rfl, rfl, rfl⟩⟩
    · exact ⟨some x, l, c, zs, by simpa using hcs, .inr ⟨_, rfl, hl, hm, by simpa using hz, hcell, hwz⟩⟩
  have k1 := h1
  have lt1 : ∀ x ∈ p1, x.block < W.heap.size := by obtain ⟨m, hm⟩ := k1; exact DataW.trod_lt m _ _ _ hm
  obtain ⟨ua1, ta1, ub1, tb1, _, _, _, _, _, _, rfl, hua1, hta1, hub1, htb1⟩ := open_raw5 (hval 1 26 v1 rfl rfl) h1
  obtain ⟨nega1, hcba1, _⟩ := DataW.trod_bool Try.underlying4 hua1
  obtain rfl : ua1 = .bool nega1 := by simpa using hcba1
  obtain ⟨aa1, lena1, capa1, za1, rfl, wa1⟩ : ∃ a n c zs, ta1 = .slice a n c ∧ IsRow .u32 W a n c zs := by
    rcases open_ints Try.underlying22 Try.underlying62 (by kernel_rfl) hta1 with ⟨hcs, _⟩ | ⟨x, l, c, zs, hcs, _, hl, hm, hz, _, hcell, hwz⟩
    · exact ⟨none, 0, 0, [], by simpa using hcs, .inl ⟨rfl, rfl, rfl, rfl⟩⟩
    · exact ⟨some x, l, c, zs, by simpa using hcs, .inr ⟨_, rfl, hl, hm, by simpa using hz, hcell, hwz⟩⟩
  obtain ⟨negb1, hcbb1, _⟩ := DataW.trod_bool Try.underlying4 hub1
  obtain rfl : ub1 = .bool negb1 := by simpa using hcbb1
  obtain ⟨ab1, lenb1, capb1, zb1, rfl, wb1⟩ : ∃ a n c zs, tb1 = .slice a n c ∧ IsRow .u32 W a n c zs := by
    rcases open_ints Try.underlying22 Try.underlying62 (by kernel_rfl) htb1 with ⟨hcs, _⟩ | ⟨x, l, c, zs, hcs, _, hl, hm, hz, _, hcell, hwz⟩
    · exact ⟨none, 0, 0, [], by simpa using hcs, .inl ⟨rfl, rfl, rfl, rfl⟩⟩
    · exact ⟨some x, l, c, zs, by simpa using hcs, .inr ⟨_, rfl, hl, hm, by simpa using hz, hcell, hwz⟩⟩
  have k2 := h2
  have lt2 : ∀ x ∈ p2, x.block < W.heap.size := by obtain ⟨m, hm⟩ := k2; exact DataW.trod_lt m _ _ _ hm
  obtain ⟨ua2, ta2, ub2, tb2, _, _, _, _, _, _, rfl, hua2, hta2, hub2, htb2⟩ := open_raw5 (hval 2 26 v2 rfl rfl) h2
  obtain ⟨nega2, hcba2, _⟩ := DataW.trod_bool Try.underlying4 hua2
  obtain rfl : ua2 = .bool nega2 := by simpa using hcba2
  obtain ⟨aa2, lena2, capa2, za2, rfl, wa2⟩ : ∃ a n c zs, ta2 = .slice a n c ∧ IsRow .u32 W a n c zs := by
    rcases open_ints Try.underlying22 Try.underlying62 (by kernel_rfl) hta2 with ⟨hcs, _⟩ | ⟨x, l, c, zs, hcs, _, hl, hm, hz, _, hcell, hwz⟩
    · exact ⟨none, 0, 0, [], by simpa using hcs, .inl ⟨rfl, rfl, rfl, rfl⟩⟩
    · exact ⟨some x, l, c, zs, by simpa using hcs, .inr ⟨_, rfl, hl, hm, by simpa using hz, hcell, hwz⟩⟩
  obtain ⟨negb2, hcbb2, _⟩ := DataW.trod_bool Try.underlying4 hub2
  obtain rfl : ub2 = .bool negb2 := by simpa using hcbb2
  obtain ⟨ab2, lenb2, capb2, zb2, rfl, wb2⟩ : ∃ a n c zs, tb2 = .slice a n c ∧ IsRow .u32 W a n c zs := by
    rcases open_ints Try.underlying22 Try.underlying62 (by kernel_rfl) htb2 with ⟨hcs, _⟩ | ⟨x, l, c, zs, hcs, _, hl, hm, hz, _, hcell, hwz⟩
    · exact ⟨none, 0, 0, [], by simpa using hcs, .inl ⟨rfl, rfl, rfl, rfl⟩⟩
    · exact ⟨some x, l, c, zs, by simpa using hcs, .inr ⟨_, rfl, hl, hm, by simpa using hz, hcell, hwz⟩⟩
  obtain ⟨a3, rfl, rfl, rfl, w3⟩ := open_int Try.underlying3 (hval 3 3 v3 rfl rfl) h3
  clear hA0 hval0
  refine (walk nega0 aa0 lena0 capa0 za0 negb0 ab0 lenb0 capb0 zb0 nega1 aa1 lena1 capa1 za1 negb1 ab1 lenb1 capb1 zb1 nega2 aa2 lena2 capa2 za2 negb2 ab2 lenb2 capb2 zb2 a3 W wa0 wb0 wa1 wb1 wa2 wb2 w3).mono fun e W' ⟨he, bel⟩ => ?_
  subst he
  exact ⟨_, rfl, _, _, _, [], _, [], hW', trodAll_mk1 (shut_bool Try.underlying4 _), (trodAll_cons_mk (Below.trod laidOut (by kernel_rfl) (of_decide_eq_true (by kernel_rfl)) k0 bel lt0) (trodAll_cons_mk (Below.trod laidOut (by kernel_rfl) (of_decide_eq_true (by kernel_rfl)) k1 bel lt1) (trodAll_cons_mk (Below.trod laidOut (by kernel_rfl) (of_decide_eq_true (by kernel_rfl)) k2 bel lt2) (trodAll_cons_mk (shut_int Try.underlying3 w3) trodAll_mk0)))), rfl, bel.frame _, fun h => by cases h⟩

theorem e_make : (Try.prog.make == some Rows.seekBisectRow.make) = true := by rw [io_make]; kernel_rfl
theorem e_lifts : (Rows.seekBisectRow.lifted == Try.prog.liftsFinal) = true := by rw [io_lifts]; kernel_rfl
theorem closed : joinedFacts Try.prog 3 Try.f3 Rows.seekBisectSpec Rows.seekBisectRow = true := by
  unfold joinedFacts
  simp only [Bool.and_eq_true]
  repeat' (refine And.intro ?_ ?_)
  all_goals first | with_reducible exact io_may | with_reducible exact e_make | with_reducible exact e_lifts | kernel_rfl

theorem over : Rows.seekBisectRow.holds Try.pinned (OpenSpec.ofChange Rows.seekBisectSpec) :=
  OpenClaim.holds_of_wide 3 Try.f3 rfl rfl rfl rfl rfl rfl rfl ⟨rfl, rfl, rfl, rfl, rfl⟩ rfl rfl rfl rfl rfl (by kernel_rfl) Try.func3 closed
    (of_decide_eq_true (by kernel_rfl)) (by unfold Func.isWrapper; first | (rw [if_pos (by decide +kernel)]; kernel_rfl) | (rw [if_neg (by decide +kernel)]; exact ⟨rfl, rfl⟩))
    (fun os started H enc _ => lifted os started H enc)

theorem proved : Rows.SeekBisectSaid := over
#print axioms proved
end Go.Proofs.Ytplngpfpcheofaa.seekBisect
