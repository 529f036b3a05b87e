/- The law OrbElements returns true for every moment of at most 2 limbs: sign, tithi, star, yoga and half are the document's; Sign and Tithi say the same, and a half's tithi is that of the moment. Conditions: none but that the table of the heights (dial.heights) starts as the program's text lays it, which the card ties. -/
import Derived.Test.YtmpdbkdijfpbbaaGreatDoorRows
import Derived.Test.YtmpdbkdijfpbbaaGreatDoorCards
import Derived.Test.YtmpdbkdijfpbbaaGreatDoorTie
import Derived.Test.YtmpdbkdijfpbbaaGreatDoorIo
import Derived.Test.YtmpdbkdijfpbbaaGreatDoorCd
import Derived.Test.YtmpdbkdijfpbbaaGreatDoorRsD
import Derived.Test.YtmpdbkdijfpbbaaGreatDoorGV
import Derived.Lib.SmallJoins
import Derived.Lib.LaidTab
import Derived.Stop.LaidErr
import Derived.LaidMore
import Derived.MakeChecks
import Derived.SevenTiedAt
import Derived.ChangeArms
import Derived.WalkKit
import Derived.ProofKit
import Derived.OpenShut
import Derived.ShutString
import Derived.ChangeOld
import Derived.Below
namespace Go.Proofs.YtmpdbkdijfpbbaaGreatDoor
open Go.Joins Go.ChangeShapes Go.WideShapes Go.RowKit Go.Deep
set_option maxRecDepth 100000
theorem open_raw5 {H : Type} {enc : TypeId × Value → H} {w : World} {base : Nat} {spare : Nat → Bool} {held : Bool} {r : Reach} {b0 : Nat} {v : Value} {d : DataW H} {p : List MemPlace}
    (hv : Value.okWide Tryz.prog w r b0 26 v) (h : DataW.Trod enc Tryz.prog w base spare held 26 v d p) :
    ∃ (ua ta ub tb : Value) (n m : Nat) (y0 y1 y2 y3 : DataW H × List MemPlace), v = .agg #[ua, ta, ub, tb] ∧
      DataW.trod enc Tryz.prog w base spare held n 4 [ua] = some y0 ∧ DataW.trod enc Tryz.prog w base spare held n 22 [ta] = some y1 ∧
      DataW.trod enc Tryz.prog w base spare held m 4 [ub] = some y2 ∧ DataW.trod enc Tryz.prog w base spare held m 22 [tb] = some y3 := by
  obtain ⟨cs, rfl, hsz⟩ := okWide_struct Tryz.underlying26 hv
  have hC : Tryz.prog.cellsOf 26 = 4 := by kernel_rfl
  obtain ⟨c0, c1, c2, c3, rfl⟩ := array4 (hsz.trans hC)
  obtain ⟨fuel, hf⟩ := h
  obtain ⟨x0, x1, n, _, _, h0, h1⟩ := trod_struct2 Tryz.underlying26 hf
  have k0 : Tryz.prog.cellsOf 24 = 2 := by kernel_rfl
  have kb : Tryz.prog.cellsOf 4 = 1 := by kernel_rfl
  have ks : Tryz.prog.cellsOf 22 = 1 := by kernel_rfl
  simp only [k0, Value.cells] at h0 h1
  obtain ⟨y0, y1, m0, _, _, a0, a1⟩ := trod_struct2 Tryz.underlying24 h0
  obtain ⟨y2, y3, m1, _, _, b0, b1⟩ := trod_struct2 Tryz.underlying24 h1
  simp only [kb, ks] at a0 a1 b0 b1
  exact ⟨c0, c1, c2, c3, m0, m1, y0, y1, y2, y3, rfl, a0, a1, b0, b1⟩
end Go.Proofs.YtmpdbkdijfpbbaaGreatDoor
namespace Go.Proofs.YtmpdbkdijfpbbaaGreatDoor.orbElements
open Go.ChangeShapes Go.WideShapes Go.ChangeAt Go.RowKit
open Go.ChangeMaps (open_string shut_string)
set_option linter.unusedVariables false

theorem own : ownKnob Tryz.prog.godebug = none := by kernel_rfl
theorem laidOut : laidOutB Tryz.prog = true := by kernel_rfl

/-- A slice of numbers that came in: nil, or a row of cells. -/
def IsRow (k : IntKind) (w : World) (a : Option Addr) (len cap : Nat) (zs : List Int) : Prop :=
  (a = none ∧ len = 0 ∧ cap = 0 ∧ zs = []) ∨
  ∃ x, a = some x ∧ len ≤ cap ∧ cap ≤ maxLen ∧ zs.length = cap ∧ (∀ i, i < zs.length → w.cell? (x.add i) = some (.int k (zs.getD i 0))) ∧ ∀ n ∈ zs, (Lit.int k n).wf = true
/- The walk. -/
theorem walk (nega0 : Bool) (aa0 : Option Addr) (lena0 capa0 : Nat) (za0 : List Int) (negb0 : Bool) (ab0 : Option Addr) (lenb0 capb0 : Nat) (zb0 : List Int) (w : World) (wa0 : IsRow .u32 w aa0 lena0 capa0 za0) (wb0 : IsRow .u32 w ab0 lenb0 capb0 zb0) (hT1 : Lib.TabIs Tryz.prog w "ephemeris/dial.heights" .i64 [0, 225, 449, 671, 890, 1105, 1315, 1520, 1719, 1910, 2093, 2267, 2431, 2585, 2728, 2859, 2978, 3084, 3177, 3256, 3321, 3372, 3409, 3431, 3438]) :
    Calls Tryz.prog 4 #[.agg #[.bool nega0, .slice aa0 lena0 capa0, .bool negb0, .slice ab0 lenb0 capb0]] w fun e w' => e = .returned (.bool true) ∧ Below w.heap.size w w' := by
  obtain ⟨xa0, ia0⟩ := In32.x (row_in wa0)
  obtain ⟨xb0, ib0⟩ := In32.x (row_in wb0)
  exact orbElements_walk nega0 aa0 lena0 capa0 xa0 negb0 ab0 lenb0 capb0 xb0 w (tabD_of hT1) ia0 ib0

theorem tab1 {W : World} (h : laidMetH Tryz.prog Rows.orbElementsRow.laid W) : Lib.TabIs Tryz.prog W "ephemeris/dial.heights" .i64 [0, 225, 449, 671, 890, 1105, 1315, 1520, 1719, 1910, 2093, 2267, 2431, 2585, 2728, 2859, 2978, 3084, 3177, 3256, 3321, 3372, 3409, 3431, 3438] := by
  rw [MakeChecks.laidMetH_plain _ _ _ (by kernel_rfl)] at h
  exact Lib.tabIs_of_head (g := 2) (t := 138) (e := 3) (by kernel_rfl) (by kernel_rfl) Tryz.underlying138 Tryz.underlying3 (by kernel_rfl) (by kernel_rfl) h
theorem door_met (os : Os) (args : Array Value) : laidMetH Tryz.prog Rows.orbElementsRow.laid ((World.doorLaid Tryz.prog 14 os).forCall (fun _ _ => 0) ⟨#[], args, []⟩).memory :=
  laidMetH_of_parts3 (fuel := 8) (laidMet_of_run' 8 (by kernel_rfl) (by kernel_rfl)) (by kernel_rfl) (by kernel_rfl)

set_option maxRecDepth 100000 in
theorem lifted (os : Os) (started : os.Started) (H : Type) (enc : TypeId × Value → H) :
    ReturnsInHanded {} Tryz.checked os 4 .any (fun w args => (Rows.orbElementsSpec.pre enc Tryz.prog Tryz.f4 [] false w args ∧ laidMetH Tryz.prog Rows.orbElementsRow.laid w) ∧ sizedMet enc Tryz.prog Tryz.f4 (OpenSpec.ofChange Rows.orbElementsSpec) false w args)
      (Rows.orbElementsSpec.post enc Tryz.prog Tryz.f4 false true false false) := by
  refine returnsInHanded_of_change_and (C := Tryz.checked) (X := fun w _ => laidMetH Tryz.prog Rows.orbElementsRow.laid w) (fun _ _ _ hh h => h.of_heap hh) own started (by kernel_rfl) Tryz.func4
    (ChangeSpec.witness_shaped (enc := enc) (C := Tryz.checked) (os := os) (X := fun w _ => laidMetH Tryz.prog Rows.orbElementsRow.laid w) false (World.doorLaid Tryz.prog 14 os) #[.agg #[.bool false, .slice none 0 0, .bool false, .slice none 0 0]] 8 rfl (World.shaped_of_RefB (by kernel_rfl) (by kernel_rfl)) (by kernel_rfl) (by kernel_rfl) (by kernel_rfl) (door_met os _)) ?_
  intro W base args ds gs before hval0 hW _ _ hL _
  have hval : ∀ (j : Nat) t v, Tryz.f4.params[j]? = some t → args[j]? = some v → Value.okWide Tryz.prog W .any base t v := hval0
  have hW' := hW
  obtain ⟨p, q, hA0, hV, rfl, hfz, hnd⟩ := hW
  have hA : DataW.TrodAll enc Tryz.prog W 0 (fun _ => true) true Tryz.f4.params.toList args.toList ds p := hA0
  rw [Tryz.params4] at hA hval
  obtain ⟨v0, vs0, d0, ds0, p0, q0, hargs, rfl, rfl, h0, r0⟩ := trodAll_cons hA
  obtain ⟨rfl, rfl, rfl⟩ := trodAll_nil r0
  obtain rfl : args = #[v0] := by cases args; simp_all
  obtain ⟨rfl, rfl⟩ := trodVars_none hV
  have k0 := h0
  have lt0 : ∀ x ∈ p0, x.block < W.heap.size := by obtain ⟨m, hm⟩ := k0; exact DataW.trod_lt m _ _ _ hm
  obtain ⟨ua0, ta0, ub0, tb0, _, _, _, _, _, _, rfl, hua0, hta0, hub0, htb0⟩ := open_raw5 (hval 0 26 v0 rfl rfl) h0
  obtain ⟨nega0, hcba0, _⟩ := DataW.trod_bool Tryz.underlying4 hua0
  obtain rfl : ua0 = .bool nega0 := by simpa using hcba0
  obtain ⟨aa0, lena0, capa0, za0, rfl, wa0⟩ : ∃ a n c zs, ta0 = .slice a n c ∧ IsRow .u32 W a n c zs := by
    rcases open_ints Tryz.underlying22 Tryz.underlying86 (by kernel_rfl) hta0 with ⟨hcs, _⟩ | ⟨x, l, c, zs, hcs, _, hl, hm, hz, _, hcell, hwz⟩
    · exact ⟨none, 0, 0, [], by simpa using hcs, .inl ⟨rfl, rfl, rfl, rfl⟩⟩
    · exact ⟨some x, l, c, zs, by simpa using hcs, .inr ⟨_, rfl, hl, hm, by simpa using hz, hcell, hwz⟩⟩
  obtain ⟨negb0, hcbb0, _⟩ := DataW.trod_bool Tryz.underlying4 hub0
  obtain rfl : ub0 = .bool negb0 := by simpa using hcbb0
  obtain ⟨ab0, lenb0, capb0, zb0, rfl, wb0⟩ : ∃ a n c zs, tb0 = .slice a n c ∧ IsRow .u32 W a n c zs := by
    rcases open_ints Tryz.underlying22 Tryz.underlying86 (by kernel_rfl) htb0 with ⟨hcs, _⟩ | ⟨x, l, c, zs, hcs, _, hl, hm, hz, _, hcell, hwz⟩
    · exact ⟨none, 0, 0, [], by simpa using hcs, .inl ⟨rfl, rfl, rfl, rfl⟩⟩
    · exact ⟨some x, l, c, zs, by simpa using hcs, .inr ⟨_, rfl, hl, hm, by simpa using hz, hcell, hwz⟩⟩
  clear hA0 hval0
  refine (walk nega0 aa0 lena0 capa0 za0 negb0 ab0 lenb0 capb0 zb0 W wa0 wb0 (tab1 hL)).mono fun e W' ⟨he, bel⟩ => ?_
  subst he
  exact ⟨_, rfl, _, _, _, [], _, [], hW', trodAll_mk1 (shut_bool Tryz.underlying4 _), (trodAll_cons_mk (Below.trod laidOut (by kernel_rfl) (of_decide_eq_true (by kernel_rfl)) k0 bel lt0) trodAll_mk0), rfl, bel.frame _, fun h => by cases h⟩

theorem e_make : (Tryz.prog.make == some Rows.orbElementsRow.make) = true := by rw [io_make]; kernel_rfl
theorem e_lifts : (Rows.orbElementsRow.lifted == Tryz.prog.liftsFinal) = true := by rw [io_lifts]; kernel_rfl
theorem closed : joinedFacts Tryz.prog 4 Tryz.f4 Rows.orbElementsSpec Rows.orbElementsRow = true := by
  unfold joinedFacts
  simp only [Bool.and_eq_true]
  repeat' (refine And.intro ?_ ?_)
  all_goals first | with_reducible exact io_may | with_reducible exact e_make | with_reducible exact e_lifts | kernel_rfl

theorem row_holds : Rows.OrbElementsSaid :=
  OpenClaim.holds_of_wide 4 Tryz.f4 rfl rfl rfl rfl rfl rfl rfl ⟨rfl, rfl, rfl, rfl, rfl⟩ rfl rfl rfl rfl rfl (by kernel_rfl) Tryz.func4 closed
    (of_decide_eq_true (by kernel_rfl)) (by unfold Func.isWrapper; first | (rw [if_pos (by decide +kernel)]; kernel_rfl) | (rw [if_neg (by decide +kernel)]; exact ⟨rfl, rfl⟩))
    (fun os started H enc _ => lifted os started H enc)

theorem proved : Rows.OrbElementsCardSaid :=
  Claim7.holds_tied_plain_at .later [] [.data] true (true, "693f2c20b2eac11903c42a7d3bfe93cefd6c1622f5a802164d0c996bd1e8703a") false
    row_holds (fun _ h => by cases h) (by kernel_rfl) (fun _ h => by cases h) orbElements_row_tie rfl ⟨rfl, rfl⟩ main_is rfl
    (fun f fn hf hfn => by
      obtain rfl : f = 4 := Option.some.inj ((show Tryz.prog.funcNamed "ephemeris/ephemerislaw12.OrbElements" = some 4 by kernel_rfl).symm.trans hf) |>.symm
      obtain rfl : fn = Tryz.f4 := (Option.some.inj (Tryz.func4.symm.trans hfn)).symm
      exact ⟨looks_is, fun j t ht => by
        rw [Tryz.params4] at ht
        have hm : t ∈ [26] := by simpa using Array.mem_of_getElem? ht
        have hall : ([26].all fun u => !Tryz.prog.wantsStandIn u) = true := by kernel_rfl
        exact (show Tryz.prog.wantsStandIn t = false by simpa using List.all_eq_true.1 hall t hm)⟩)
    (by kernel_rfl)
#print axioms proved
end Go.Proofs.YtmpdbkdijfpbbaaGreatDoor.orbElements
