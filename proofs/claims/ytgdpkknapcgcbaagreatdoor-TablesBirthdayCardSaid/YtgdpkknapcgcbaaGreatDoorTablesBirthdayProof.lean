/- The law TablesBirthday returns true for every year, month, day and place in the making: the day that stands for a lunar day is the first one of the last month of that number that isn't below it. Conditions: none but that the table of the heights (dial.heights) starts as the program's text lays it, which the card ties. -/
import Derived.Test.YtgdpkknapcgcbaaGreatDoorKC43
import Derived.Test.YtgdpkknapcgcbaaGreatDoorRows
import Derived.Test.YtgdpkknapcgcbaaGreatDoorCards
import Derived.Test.YtgdpkknapcgcbaaGreatDoorTie
import Derived.Test.YtgdpkknapcgcbaaGreatDoorIo
import Derived.Test.YtgdpkknapcgcbaaGreatDoorCd
import Derived.Lib.SmallJoins
import Derived.Lib.LaidTab
import Derived.Stop.LaidErr
import Derived.LaidMore
import Derived.MakeChecks
import Derived.SevenTiedAt
import Derived.ChangeArms
import Derived.WalkKit
import Derived.ProofKit
import Derived.OpenShut
import Derived.ShutString
import Derived.ChangeOld
import Derived.Below
namespace Go.Proofs.YtgdpkknapcgcbaaGreatDoor.tablesBirthday
open Go.ChangeShapes Go.WideShapes Go.ChangeAt Go.RowKit
open Go.ChangeMaps (open_string shut_string)
set_option linter.unusedVariables false

theorem own : ownKnob Tryz.prog.godebug = none := by kernel_rfl
theorem laidOut : laidOutB Tryz.prog = true := by kernel_rfl
/- The walk. -/
theorem walk (a0 : Int) (a1 : Int) (a2 : Int) (e3_0 : Int) (e3_1 : Int) (e3_2 : Int) (e3_3 : Int) (w : World) (w0 : (Lit.int .i64 a0).wf = true) (w1 : (Lit.int .i64 a1).wf = true) (w2 : (Lit.int .i64 a2).wf = true) (w3_0 : (Lit.int .i64 e3_0).wf = true) (w3_1 : (Lit.int .i64 e3_1).wf = true) (w3_2 : (Lit.int .i64 e3_2).wf = true) (w3_3 : (Lit.int .i64 e3_3).wf = true) (hT1 : Lib.TabIs Tryz.prog w "ephemeris/dial.heights" .i64 [0, 225, 449, 671, 890, 1105, 1315, 1520, 1719, 1910, 2093, 2267, 2431, 2585, 2728, 2859, 2978, 3084, 3177, 3256, 3321, 3372, 3409, 3431, 3438]) :
    Calls Tryz.prog 13 #[.int .i64 a0, .int .i64 a1, .int .i64 a2, .agg #[.int .i64 e3_0, .int .i64 e3_1, .int .i64 e3_2, .int .i64 e3_3]] w fun e w' => e = .returned (.bool true) ∧ Below w.heap.size w w' := by
  exact tablesBirthday_walk a0 a1 a2 e3_0 e3_1 e3_2 e3_3 w (tabD_of hT1)

theorem tab1 {W : World} (h : laidMetH Tryz.prog Rows.tablesBirthdayRow.laid W) : Lib.TabIs Tryz.prog W "ephemeris/dial.heights" .i64 [0, 225, 449, 671, 890, 1105, 1315, 1520, 1719, 1910, 2093, 2267, 2431, 2585, 2728, 2859, 2978, 3084, 3177, 3256, 3321, 3372, 3409, 3431, 3438] := by
  rw [MakeChecks.laidMetH_plain _ _ _ (by kernel_rfl)] at h
  exact Lib.tabIs_of_head (g := 2) (t := 256) (e := 3) (by kernel_rfl) (by kernel_rfl) Tryz.underlying256 Tryz.underlying3 (by kernel_rfl) (by kernel_rfl) h
theorem door_met (os : Os) (args : Array Value) : laidMetH Tryz.prog Rows.tablesBirthdayRow.laid ((World.doorLaid Tryz.prog 14 os).forCall (fun _ _ => 0) ⟨#[], args, []⟩).memory :=
  laidMetH_of_parts3 (fuel := 8) (laidMet_of_run' 8 (by kernel_rfl) (by kernel_rfl)) (by kernel_rfl) (by kernel_rfl)

set_option maxRecDepth 100000 in
theorem lifted (os : Os) (started : os.Started) (H : Type) (enc : TypeId × Value → H) :
    ReturnsInHanded {} Tryz.checked os 13 .any (fun w args => (Rows.tablesBirthdaySpec.pre enc Tryz.prog Tryz.f13 [] false w args ∧ laidMetH Tryz.prog Rows.tablesBirthdayRow.laid w) ∧ sizedMet enc Tryz.prog Tryz.f13 (OpenSpec.ofChange Rows.tablesBirthdaySpec) false w args)
      (Rows.tablesBirthdaySpec.post enc Tryz.prog Tryz.f13 false true false false) := by
  refine returnsInHanded_of_change_and (C := Tryz.checked) (X := fun w _ => laidMetH Tryz.prog Rows.tablesBirthdayRow.laid w) (fun _ _ _ hh h => h.of_heap hh) own started (by kernel_rfl) Tryz.func13
    (ChangeSpec.witness_shaped (enc := enc) (C := Tryz.checked) (os := os) (X := fun w _ => laidMetH Tryz.prog Rows.tablesBirthdayRow.laid w) false (World.doorLaid Tryz.prog 14 os) #[.int .i64 0, .int .i64 0, .int .i64 0, .agg #[.int .i64 0, .int .i64 0, .int .i64 0, .int .i64 0]] 8 rfl (World.shaped_of_RefB (by kernel_rfl) (by kernel_rfl)) (by kernel_rfl) (by kernel_rfl) (by kernel_rfl) (door_met os _)) ?_
  intro W base args ds gs before hval0 hW _ _ hL _
  have hval : ∀ (j : Nat) t v, Tryz.f13.params[j]? = some t → args[j]? = some v → Value.okWide Tryz.prog W .any base t v := hval0
  have hW' := hW
  obtain ⟨p, q, hA0, hV, rfl, hfz, hnd⟩ := hW
  have hA : DataW.TrodAll enc Tryz.prog W 0 (fun _ => true) true Tryz.f13.params.toList args.toList ds p := hA0
  rw [Tryz.params13] at hA hval
  obtain ⟨v0, vs0, d0, ds0, p0, q0, hargs, rfl, rfl, h0, r0⟩ := trodAll_cons hA
  obtain ⟨v1, vs1, d1, ds1, p1, q1, rfl, rfl, rfl, h1, r1⟩ := trodAll_cons r0
  obtain ⟨v2, vs2, d2, ds2, p2, q2, rfl, rfl, rfl, h2, r2⟩ := trodAll_cons r1
  obtain ⟨v3, vs3, d3, ds3, p3, q3, rfl, rfl, rfl, h3, r3⟩ := trodAll_cons r2
  obtain ⟨rfl, rfl, rfl⟩ := trodAll_nil r3
  obtain rfl : args = #[v0, v1, v2, v3] := by cases args; simp_all
  obtain ⟨rfl, rfl⟩ := trodVars_none hV
  obtain ⟨a0, rfl, rfl, rfl, w0⟩ := open_int Tryz.underlying2 (hval 0 2 v0 rfl rfl) h0
  obtain ⟨a1, rfl, rfl, rfl, w1⟩ := open_int Tryz.underlying3 (hval 1 3 v1 rfl rfl) h1
  obtain ⟨a2, rfl, rfl, rfl, w2⟩ := open_int Tryz.underlying3 (hval 2 3 v2 rfl rfl) h2
  have k3 := h3
  have lt3 : ∀ x ∈ p3, x.block < W.heap.size := by obtain ⟨m, hm⟩ := k3; exact DataW.trod_lt m _ _ _ hm
  obtain ⟨u3_0, u3_1, u3_2, u3_3, y3_0, y3_1, y3_2, y3_3, m3, rfl, _, _, hu3_0, hu3_1, hu3_2, hu3_3⟩ := Go.Joins.open_agg4 Tryz.underlying23 (by kernel_rfl) (by kernel_rfl) (hval 3 23 v3 rfl rfl) h3
  obtain ⟨e3_0, hc3_0, _, w3_0⟩ := DataW.trod_int Tryz.underlying2 hu3_0
  obtain rfl : u3_0 = .int .i64 e3_0 := by simpa using hc3_0
  obtain ⟨e3_1, hc3_1, _, w3_1⟩ := DataW.trod_int Tryz.underlying2 hu3_1
  obtain rfl : u3_1 = .int .i64 e3_1 := by simpa using hc3_1
  obtain ⟨e3_2, hc3_2, _, w3_2⟩ := DataW.trod_int Tryz.underlying2 hu3_2
  obtain rfl : u3_2 = .int .i64 e3_2 := by simpa using hc3_2
  obtain ⟨e3_3, hc3_3, _, w3_3⟩ := DataW.trod_int Tryz.underlying2 hu3_3
  obtain rfl : u3_3 = .int .i64 e3_3 := by simpa using hc3_3
  clear hA0 hval0
  refine (walk a0 a1 a2 e3_0 e3_1 e3_2 e3_3 W w0 w1 w2 w3_0 w3_1 w3_2 w3_3 (tab1 hL)).mono fun e W' ⟨he, bel⟩ => ?_
  subst he
  exact ⟨_, rfl, _, _, _, [], _, [], hW', trodAll_mk1 (shut_bool Tryz.underlying4 _), (trodAll_cons_mk (shut_int Tryz.underlying2 w0) (trodAll_cons_mk (shut_int Tryz.underlying3 w1) (trodAll_cons_mk (shut_int Tryz.underlying3 w2) (trodAll_cons_mk (Below.trod laidOut (by kernel_rfl) (of_decide_eq_true (by kernel_rfl)) k3 bel lt3) trodAll_mk0)))), rfl, bel.frame _, fun h => by cases h⟩

theorem e_make : (Tryz.prog.make == some Rows.tablesBirthdayRow.make) = true := by rw [io_make]; kernel_rfl
theorem e_lifts : (Rows.tablesBirthdayRow.lifted == Tryz.prog.liftsFinal) = true := by rw [io_lifts]; kernel_rfl
theorem closed : joinedFacts Tryz.prog 13 Tryz.f13 Rows.tablesBirthdaySpec Rows.tablesBirthdayRow = true := by
  unfold joinedFacts
  simp only [Bool.and_eq_true]
  repeat' (refine And.intro ?_ ?_)
  all_goals first | with_reducible exact io_may | with_reducible exact e_make | with_reducible exact e_lifts | kernel_rfl

theorem row_holds : Rows.TablesBirthdaySaid :=
  OpenClaim.holds_of_wide 13 Tryz.f13 rfl rfl rfl rfl rfl rfl rfl ⟨rfl, rfl, rfl, rfl, rfl⟩ rfl rfl rfl rfl rfl (by kernel_rfl) Tryz.func13 closed
    (of_decide_eq_true (by kernel_rfl)) (by unfold Func.isWrapper; first | (rw [if_pos (by decide +kernel)]; kernel_rfl) | (rw [if_neg (by decide +kernel)]; exact ⟨rfl, rfl⟩))
    (fun os started H enc _ => lifted os started H enc)

theorem proved : Rows.TablesBirthdayCardSaid :=
  Claim7.holds_tied_plain_at .later [] [.data] true (true, "5d657ca230917a1f103d2ad5461352f839a02abcb3f7807d5672e577b146ac0c") false
    row_holds (fun _ h => by cases h) (by kernel_rfl) (fun _ h => by cases h) tablesBirthday_row_tie rfl ⟨rfl, rfl⟩ main_is rfl
    (fun f fn hf hfn => by
      obtain rfl : f = 13 := Option.some.inj ((show Tryz.prog.funcNamed "ephemeris/ephemerislaw25.TablesBirthday" = some 13 by kernel_rfl).symm.trans hf) |>.symm
      obtain rfl : fn = Tryz.f13 := (Option.some.inj (Tryz.func13.symm.trans hfn)).symm
      exact ⟨looks_is, fun j t ht => by
        rw [Tryz.params13] at ht
        have hm : t ∈ [2, 3, 3, 23] := by simpa using Array.mem_of_getElem? ht
        have hall : ([2, 3, 3, 23].all fun u => !Tryz.prog.wantsStandIn u) = true := by kernel_rfl
        exact (show Tryz.prog.wantsStandIn t = false by simpa using List.all_eq_true.1 hall t hm)⟩)
    (by kernel_rfl)
#print axioms proved
end Go.Proofs.YtgdpkknapcgcbaaGreatDoor.tablesBirthday
