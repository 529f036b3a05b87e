/- The law SineRises returns true for every input: of every two rational numbers of at most 4 limbs: no sine is above 1 or below -1; two sines are no farther from each other than 60/3438 of what the degrees are; from -90 to 90 degrees they stand to each other as the degrees do. Conditions: none but that the table of the heights (dial.heights) starts as the program's text lays it, which the card ties. -/
import Derived.Test.YteafnboehmfmiaaDoorRows
import Derived.Test.YteafnboehmfmiaaDoorCards
import Derived.Test.YteafnboehmfmiaaDoorTie
import Derived.Test.YteafnboehmfmiaaDoorIo
import Derived.Test.YteafnboehmfmiaaDoorCd
import Derived.Test.YteafnboehmfmiaaDoorSnC
import Derived.Test.YteafnboehmfmiaaDoorOp5
import Derived.Lib.SmallJoins
import Derived.Lib.LaidTab
import Derived.Stop.LaidErr
import Derived.LaidMore
import Derived.MakeChecks
import Derived.SevenTiedAt
import Derived.ChangeArms
import Derived.WalkKit
import Derived.ProofKit
import Derived.OpenShut
import Derived.ShutString
import Derived.ChangeOld
import Derived.Below
namespace Go.Proofs.YteafnboehmfmiaaDoor.sineRises
open Go.ChangeShapes Go.WideShapes Go.ChangeAt Go.RowKit
open Go.ChangeMaps (open_string shut_string)
set_option linter.unusedVariables false

theorem own : ownKnob Tryd.prog.godebug = none := by kernel_rfl
theorem laidOut : laidOutB Tryd.prog = true := by kernel_rfl

/-- A slice of numbers that came in: nil, or a row of cells. -/
def IsRow (k : IntKind) (w : World) (a : Option Addr) (len cap : Nat) (zs : List Int) : Prop :=
  (a = none ∧ len = 0 ∧ cap = 0 ∧ zs = []) ∨
  ∃ x, a = some x ∧ len ≤ cap ∧ cap ≤ maxLen ∧ zs.length = cap ∧ (∀ i, i < zs.length → w.cell? (x.add i) = some (.int k (zs.getD i 0))) ∧ ∀ n ∈ zs, (Lit.int k n).wf = true
/- The walk. -/
theorem walk (nega0 : Bool) (aa0 : Option Addr) (lena0 capa0 : Nat) (za0 : List Int) (negb0 : Bool) (ab0 : Option Addr) (lenb0 capb0 : Nat) (zb0 : List Int) (nega1 : Bool) (aa1 : Option Addr) (lena1 capa1 : Nat) (za1 : List Int) (negb1 : Bool) (ab1 : Option Addr) (lenb1 capb1 : Nat) (zb1 : List Int) (w : World) (wa0 : IsRow .u32 w aa0 lena0 capa0 za0) (wb0 : IsRow .u32 w ab0 lenb0 capb0 zb0) (wa1 : IsRow .u32 w aa1 lena1 capa1 za1) (wb1 : IsRow .u32 w ab1 lenb1 capb1 zb1) (hT1 : Lib.TabIs Tryd.prog w "ephemeris/dial.heights" .i64 [0, 225, 449, 671, 890, 1105, 1315, 1520, 1719, 1910, 2093, 2267, 2431, 2585, 2728, 2859, 2978, 3084, 3177, 3256, 3321, 3372, 3409, 3431, 3438]) :
    Calls Tryd.prog 9 #[.agg #[.bool nega0, .slice aa0 lena0 capa0, .bool negb0, .slice ab0 lenb0 capb0], .agg #[.bool nega1, .slice aa1 lena1 capa1, .bool negb1, .slice ab1 lenb1 capb1]] w fun e w' => e = .returned (.bool true) ∧ Below w.heap.size w w' := by
  obtain ⟨xa0, ia0⟩ := In32.x (row_in wa0)
  obtain ⟨xb0, ib0⟩ := In32.x (row_in wb0)
  obtain ⟨xa1, ia1⟩ := In32.x (row_in wa1)
  obtain ⟨xb1, ib1⟩ := In32.x (row_in wb1)
  exact sineRises_walk nega0 aa0 lena0 capa0 xa0 negb0 ab0 lenb0 capb0 xb0 nega1 aa1 lena1 capa1 xa1 negb1 ab1 lenb1 capb1 xb1 w (tabD_of hT1) ia0 ib0 ia1 ib1

theorem tab1 {W : World} (h : laidMetH Tryd.prog Rows.sineRisesRow.laid W) : Lib.TabIs Tryd.prog W "ephemeris/dial.heights" .i64 [0, 225, 449, 671, 890, 1105, 1315, 1520, 1719, 1910, 2093, 2267, 2431, 2585, 2728, 2859, 2978, 3084, 3177, 3256, 3321, 3372, 3409, 3431, 3438] := by
  rw [MakeChecks.laidMetH_plain _ _ _ (by kernel_rfl)] at h
  exact Lib.tabIs_of_head (g := 0) (t := 54) (e := 3) (by kernel_rfl) (by kernel_rfl) Tryd.underlying54 Tryd.underlying3 (by kernel_rfl) (by kernel_rfl) h
theorem door_met (os : Os) (args : Array Value) : laidMetH Tryd.prog Rows.sineRisesRow.laid ((World.doorLaid Tryd.prog 14 os).forCall (fun _ _ => 0) ⟨#[], args, []⟩).memory :=
  laidMetH_of_parts3 (fuel := 8) (laidMet_of_run' 8 (by kernel_rfl) (by kernel_rfl)) (by kernel_rfl) (by kernel_rfl)

set_option maxRecDepth 100000 in
theorem lifted (os : Os) (started : os.Started) (H : Type) (enc : TypeId × Value → H) :
    ReturnsInHanded {} Tryd.checked os 9 .any (fun w args => (Rows.sineRisesSpec.pre enc Tryd.prog Tryd.f9 [] false w args ∧ laidMetH Tryd.prog Rows.sineRisesRow.laid w) ∧ sizedMet enc Tryd.prog Tryd.f9 (OpenSpec.ofChange Rows.sineRisesSpec) false w args)
      (Rows.sineRisesSpec.post enc Tryd.prog Tryd.f9 false true false false) := by
  refine returnsInHanded_of_change_and (C := Tryd.checked) (X := fun w _ => laidMetH Tryd.prog Rows.sineRisesRow.laid w) (fun _ _ _ hh h => h.of_heap hh) own started (by kernel_rfl) Tryd.func9
    (ChangeSpec.witness_shaped (enc := enc) (C := Tryd.checked) (os := os) (X := fun w _ => laidMetH Tryd.prog Rows.sineRisesRow.laid w) false (World.doorLaid Tryd.prog 14 os) #[.agg #[.bool false, .slice none 0 0, .bool false, .slice none 0 0], .agg #[.bool false, .slice none 0 0, .bool false, .slice none 0 0]] 8 rfl (World.shaped_of_RefB (by kernel_rfl) (by kernel_rfl)) (by kernel_rfl) (by kernel_rfl) (by kernel_rfl) (door_met os _)) ?_
  intro W base args ds gs before hval0 hW _ _ hL _
  have hval : ∀ (j : Nat) t v, Tryd.f9.params[j]? = some t → args[j]? = some v → Value.okWide Tryd.prog W .any base t v := hval0
  have hW' := hW
  obtain ⟨p, q, hA0, hV, rfl, hfz, hnd⟩ := hW
  have hA : DataW.TrodAll enc Tryd.prog W 0 (fun _ => true) true Tryd.f9.params.toList args.toList ds p := hA0
  rw [Tryd.params9] at hA hval
  obtain ⟨v0, vs0, d0, ds0, p0, q0, hargs, rfl, rfl, h0, r0⟩ := trodAll_cons hA
  obtain ⟨v1, vs1, d1, ds1, p1, q1, rfl, rfl, rfl, h1, r1⟩ := trodAll_cons r0
  obtain ⟨rfl, rfl, rfl⟩ := trodAll_nil r1
  obtain rfl : args = #[v0, v1] := by cases args; simp_all
  obtain ⟨rfl, rfl⟩ := trodVars_none hV
  have k0 := h0
  have lt0 : ∀ x ∈ p0, x.block < W.heap.size := by obtain ⟨m, hm⟩ := k0; exact DataW.trod_lt m _ _ _ hm
  obtain ⟨ua0, ta0, ub0, tb0, _, _, _, _, _, _, rfl, hua0, hta0, hub0, htb0⟩ := open_raw5 (hval 0 37 v0 rfl rfl) h0
  obtain ⟨nega0, hcba0, _⟩ := DataW.trod_bool Tryd.underlying4 hua0
  obtain rfl : ua0 = .bool nega0 := by simpa using hcba0
  obtain ⟨aa0, lena0, capa0, za0, rfl, wa0⟩ : ∃ a n c zs, ta0 = .slice a n c ∧ IsRow .u32 W a n c zs := by
    rcases open_ints Tryd.underlying33 Tryd.underlying83 (by kernel_rfl) hta0 with ⟨hcs, _⟩ | ⟨x, l, c, zs, hcs, _, hl, hm, hz, _, hcell, hwz⟩
    · exact ⟨none, 0, 0, [], by simpa using hcs, .inl ⟨rfl, rfl, rfl, rfl⟩⟩
    · exact ⟨some x, l, c, zs, by simpa using hcs, .inr ⟨_, rfl, hl, hm, by simpa using hz, hcell, hwz⟩⟩
  obtain ⟨negb0, hcbb0, _⟩ := DataW.trod_bool Tryd.underlying4 hub0
  obtain rfl : ub0 = .bool negb0 := by simpa using hcbb0
  obtain ⟨ab0, lenb0, capb0, zb0, rfl, wb0⟩ : ∃ a n c zs, tb0 = .slice a n c ∧ IsRow .u32 W a n c zs := by
    rcases open_ints Tryd.underlying33 Tryd.underlying83 (by kernel_rfl) htb0 with ⟨hcs, _⟩ | ⟨x, l, c, zs, hcs, _, hl, hm, hz, _, hcell, hwz⟩
    · exact ⟨none, 0, 0, [], by simpa using hcs, .inl ⟨rfl, rfl, rfl, rfl⟩⟩
    · exact ⟨some x, l, c, zs, by simpa using hcs, .inr ⟨_, rfl, hl, hm, by simpa using hz, hcell, hwz⟩⟩
  have k1 := h1
  have lt1 : ∀ x ∈ p1, x.block < W.heap.size := by obtain ⟨m, hm⟩ := k1; exact DataW.trod_lt m _ _ _ hm
  obtain ⟨ua1, ta1, ub1, tb1, _, _, _, _, _, _, rfl, hua1, hta1, hub1, htb1⟩ := open_raw5 (hval 1 37 v1 rfl rfl) h1
  obtain ⟨nega1, hcba1, _⟩ := DataW.trod_bool Tryd.underlying4 hua1
  obtain rfl : ua1 = .bool nega1 := by simpa using hcba1
  obtain ⟨aa1, lena1, capa1, za1, rfl, wa1⟩ : ∃ a n c zs, ta1 = .slice a n c ∧ IsRow .u32 W a n c zs := by
    rcases open_ints Tryd.underlying33 Tryd.underlying83 (by kernel_rfl) hta1 with ⟨hcs, _⟩ | ⟨x, l, c, zs, hcs, _, hl, hm, hz, _, hcell, hwz⟩
    · exact ⟨none, 0, 0, [], by simpa using hcs, .inl ⟨rfl, rfl, rfl, rfl⟩⟩
    · exact ⟨some x, l, c, zs, by simpa using hcs, .inr ⟨_, rfl, hl, hm, by simpa using hz, hcell, hwz⟩⟩
  obtain ⟨negb1, hcbb1, _⟩ := DataW.trod_bool Tryd.underlying4 hub1
  obtain rfl : ub1 = .bool negb1 := by simpa using hcbb1
  obtain ⟨ab1, lenb1, capb1, zb1, rfl, wb1⟩ : ∃ a n c zs, tb1 = .slice a n c ∧ IsRow .u32 W a n c zs := by
    rcases open_ints Tryd.underlying33 Tryd.underlying83 (by kernel_rfl) htb1 with ⟨hcs, _⟩ | ⟨x, l, c, zs, hcs, _, hl, hm, hz, _, hcell, hwz⟩
    · exact ⟨none, 0, 0, [], by simpa using hcs, .inl ⟨rfl, rfl, rfl, rfl⟩⟩
    · exact ⟨some x, l, c, zs, by simpa using hcs, .inr ⟨_, rfl, hl, hm, by simpa using hz, hcell, hwz⟩⟩
  clear hA0 hval0
  refine (walk nega0 aa0 lena0 capa0 za0 negb0 ab0 lenb0 capb0 zb0 nega1 aa1 lena1 capa1 za1 negb1 ab1 lenb1 capb1 zb1 W wa0 wb0 wa1 wb1 (tab1 hL)).mono fun e W' ⟨he, bel⟩ => ?_
  subst he
  exact ⟨_, rfl, _, _, _, [], _, [], hW', trodAll_mk1 (shut_bool Tryd.underlying4 _), (trodAll_cons_mk (Below.trod laidOut (by kernel_rfl) (of_decide_eq_true (by kernel_rfl)) k0 bel lt0) (trodAll_cons_mk (Below.trod laidOut (by kernel_rfl) (of_decide_eq_true (by kernel_rfl)) k1 bel lt1) trodAll_mk0)), rfl, bel.frame _, fun h => by cases h⟩

theorem e_make : (Tryd.prog.make == some Rows.sineRisesRow.make) = true := by rw [io_make]; kernel_rfl
theorem e_lifts : (Rows.sineRisesRow.lifted == Tryd.prog.liftsFinal) = true := by rw [io_lifts]; kernel_rfl
theorem closed : joinedFacts Tryd.prog 9 Tryd.f9 Rows.sineRisesSpec Rows.sineRisesRow = true := by
  unfold joinedFacts
  simp only [Bool.and_eq_true]
  repeat' (refine And.intro ?_ ?_)
  all_goals first | with_reducible exact io_may | with_reducible exact e_make | with_reducible exact e_lifts | kernel_rfl

theorem row_holds : Rows.SineRisesSaid :=
  OpenClaim.holds_of_wide 9 Tryd.f9 rfl rfl rfl rfl rfl rfl rfl ⟨rfl, rfl, rfl, rfl, rfl⟩ rfl rfl rfl rfl rfl (by kernel_rfl) Tryd.func9 closed
    (of_decide_eq_true (by kernel_rfl)) (by unfold Func.isWrapper; first | (rw [if_pos (by decide +kernel)]; kernel_rfl) | (rw [if_neg (by decide +kernel)]; exact ⟨rfl, rfl⟩))
    (fun os started H enc _ => lifted os started H enc)

theorem proved : Rows.SineRisesCardSaid :=
  Claim7.holds_tied_plain_at .later [] [.data] true (true, "d3fadd8fd2626c9c4a6fbedfc13280faa2c6250523040b9406a0bb98f499fb1b") false
    row_holds (fun _ h => by cases h) (by kernel_rfl) (fun _ h => by cases h) sineRises_row_tie rfl ⟨rfl, rfl⟩ main_is rfl
    (fun f fn hf hfn => by
      obtain rfl : f = 9 := Option.some.inj ((show Tryd.prog.funcNamed "ephemeris/ephemerislaw10.SineRises" = some 9 by kernel_rfl).symm.trans hf) |>.symm
      obtain rfl : fn = Tryd.f9 := (Option.some.inj (Tryd.func9.symm.trans hfn)).symm
      exact ⟨looks_is, fun j t ht => by
        rw [Tryd.params9] at ht
        have hm : t ∈ [37, 37] := by simpa using Array.mem_of_getElem? ht
        have hall : ([37, 37].all fun u => !Tryd.prog.wantsStandIn u) = true := by kernel_rfl
        exact (show Tryd.prog.wantsStandIn t = false by simpa using List.all_eq_true.1 hall t hm)⟩)
    (by kernel_rfl)
#print axioms proved
end Go.Proofs.YteafnboehmfmiaaDoor.sineRises
