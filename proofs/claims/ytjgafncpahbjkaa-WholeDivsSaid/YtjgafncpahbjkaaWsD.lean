/- The walk of WholeDivs. -/
import Derived.Test.YtjgafncpahbjkaaWsB
import Derived.Test.YtjgafncpahbjkaaGG
namespace Go.Proofs.Ytjgafncpahbjkaa
open Go.RowKit
set_option maxRecDepth 100000
set_option linter.unusedVariables false

set_option maxHeartbeats 4000000 in
theorem wholeDivs_walk (neg1 : Bool) (a1 : Option Addr) (n1 c1 : Nat) (x1 : List Nat) (neg2 : Bool) (a2 : Option Addr) (n2 c2 : Nat) (x2 : List Nat) (w : World) (h1 : InX w a1 n1 c1 x1) (h2 : InX w a2 n2 c2 x2) :
    Calls Try.prog 4 #[.agg #[.bool neg1, .slice a1 n1 c1], .agg #[.bool neg2, .slice a2 n2 c2]] w (TruePost w) := by
  have ok1 := h1.ok
  have ok2 := h2.ok
  by_cases h0 : rawZ neg2 x2 10 = 0
  · have bel : Below w.heap.size w w := Below.refl _ _
    refine E.enter (nt := 70) (L := [(0, .agg #[.bool neg1, .slice a1 n1 c1]), (1, .agg #[.bool neg2, .slice a2 n2 c2])]) Try.func4 rfl rfl rfl (args_cons (i := 0) rfl (args_cons (i := 1) rfl args_nil)) ?_
    intro a hF
    refine wp_seq ?_
    refine E.seq ?_
    obtain ⟨g2, w1, ge2, hr, bb, o2⟩ := own_box (P := Try.prog) (w := w) (cs := [.bool neg1, .slice a1 n1 c1]) (v := .agg #[.bool neg1, .slice a1 n1 c1]) 35 rfl (niB (niS ni0))
    replace ge2 : w.heap.size ≤ g2 := by rw [← ge2]; exact bel.size
    refine E.opv hF (r_box (hF.at 0 rfl) hr) rfl rfl rfl rfl fun a hF => ?_
    clear hr
    replace h2 := h2.below bb
    replace h1 := h1.below bb
    replace bel := below_to bel bb
    clear bb
    obtain ⟨g3, w2, ge3, hr, bb, o3⟩ := own_box (P := Try.prog) (w := w1) (cs := [.bool neg2, .slice a2 n2 c2]) (v := .agg #[.bool neg2, .slice a2 n2 c2]) 35 rfl (niB (niS ni0))
    have ne2_3 : g2 ≠ g3 := by rw [← ge3]; exact o2.ne_new
    replace ge3 : w.heap.size ≤ g3 := by rw [← ge3]; exact bel.size
    refine E.opv hF (r_box (hF.at 2 rfl) hr) rfl rfl rfl rfl fun a hF => ?_
    clear hr
    replace h1 := h1.below bb
    replace h2 := h2.below bb
    replace o2 := o2.below bb
    replace bel := below_to bel bb
    clear bb
    refine E.opv hF (r_assign ev_c) rfl rfl rfl rfl fun a hF => ?_
    refine E.nil ?_
    refine wp_seq ?_
    refine wp_seq ?_
    refine E.seq ?_
    refine E.call hF (r_call Try.func23 en23.1 en23.2 map0) (awake3_any _) rfl rfl rfl rfl ?_
    rintro e w3 ⟨rfl, bb⟩
    refine ⟨_, rfl, ?_⟩
    intro a hF
    replace h1 := h1.below bb
    replace h2 := h2.below bb
    replace o2 := o2.below bb
    replace o3 := o3.below bb
    replace bel := below_to bel bb
    clear bb
    refine E.opv hF (r_un (hF.at 0 rfl) (bn_not _ false rfl)) rfl rfl rfl rfl fun a hF => ?_
    refine E.nil ?_
    refine wp_cond_false (hF.at 0 rfl) ?_
    refine wp_skip ?_
    refine E.norm ?_
    refine wp_seq ?_
    refine E.drawn 6 mixed hF [13, 14, 15, 16, 5, 6] [(fun _ v => v = .agg #[.bool neg1, .slice a1 n1 c1]), (fun w v => Wz w v (rawZ neg1 x1 10)), (fun _ v => v = .agg #[.bool neg2, .slice a2 n2 c2]), (fun w v => Wz w v (rawZ neg2 x2 10)), (fun w v => ∃ g, v = .pointer (some ⟨g, 0, none⟩) ∧ w3.heap.size ≤ g ∧ Own w g [.bool false, .slice none 0 0]), (fun w v => ∃ g, v = .pointer (some ⟨g, 0, none⟩) ∧ w3.heap.size ≤ g ∧ Own w g [.bool false, .slice none 0 0])] [4, 5] (by decide +kernel) (by decide +kernel) rfl rfl rfl ⟨(Mb.eq _), (fun _ _ _ h hb => h.below hb), (Mb.eq _), (fun _ _ _ h hb => h.below hb), (fun _ _ _ ⟨g, e, l, o⟩ hb => ⟨g, e, l, o.below hb⟩), (fun _ _ _ ⟨g, e, l, o⟩ hb => ⟨g, e, l, o.below hb⟩), trivial⟩ ⟨fun _ _ ⟨g, e, _, o⟩ => ⟨g, e, o.lt⟩, ⟨fun _ _ ⟨g, e, _, o⟩ => ⟨g, e, o.lt⟩, trivial⟩⟩ ⟨?_, ?_, ?_, ?_, ?_, ?_, trivial⟩ ?_
    · intro a' w' hF' hb hd
      exact if_does (wanted_free rfl) (Does.vals (r_load (hF'.at 4 rfl) (ld_Raw (vs := [.bool neg1, .slice a1 n1 c1]) (o2.below hb) rfl rfl)) ⟨rfl, Below.refl _ _, (fun h => absurd h (by decide))⟩)
    · intro a' w' hF' hb hd
      have e13 : a'.tmps.getD 13 undef = .agg #[.bool neg1, .slice a1 n1 c1] := hd _ 13 (Array.mem_of_getElem? (i := 0) rfl) rfl rfl
      refine if_does (wanted_free rfl) (Does.calls (r_call Try.func24 en24.1 en24.2 (map2 e13 ev_c)) (own_any neg1 a1 n1 c1 10 x1 _ (h1.below hb) (by omega)) ?_)
      rintro e w'' ⟨v', rfl, h', bb⟩
      exact ⟨_, rfl, h', bb, (fun h => absurd h (by decide))⟩
    · intro a' w' hF' hb hd
      exact if_does (wanted_free rfl) (Does.vals (r_load (hF'.at 3 rfl) (ld_Raw (vs := [.bool neg2, .slice a2 n2 c2]) (o3.below hb) rfl rfl)) ⟨rfl, Below.refl _ _, (fun h => absurd h (by decide))⟩)
    · intro a' w' hF' hb hd
      have e15 : a'.tmps.getD 15 undef = .agg #[.bool neg2, .slice a2 n2 c2] := hd _ 15 (Array.mem_of_getElem? (i := 0) rfl) rfl rfl
      refine if_does (wanted_free rfl) (Does.calls (r_call Try.func24 en24.1 en24.2 (map2 e15 ev_c)) (own_any neg2 a2 n2 c2 10 x2 _ (h2.below hb) (by omega)) ?_)
      rintro e w'' ⟨v', rfl, h', bb⟩
      exact ⟨_, rfl, h', bb, (fun h => absurd h (by decide))⟩
    · intro a' w' hF' hb hd
      obtain ⟨g, w2, ge, hr, bb, on⟩ := own_alloc (P := Try.prog) (w := w') (cs := [.bool false, .slice none 0 0]) 37 ze_Int rfl (niB (niS ni0))
      subst ge
      exact if_does (wanted_free rfl) (Does.vals (r_alloc hr) ⟨⟨_, rfl, hb.size, on⟩, bb, fun _ => rfl⟩)
    · intro a' w' hF' hb hd
      obtain ⟨g, w2, ge, hr, bb, on⟩ := own_alloc (P := Try.prog) (w := w') (cs := [.bool false, .slice none 0 0]) 37 ze_Int rfl (niB (niS ni0))
      subst ge
      exact if_does (wanted_free rfl) (Does.vals (r_alloc hr) ⟨⟨_, rfl, hb.size, on⟩, bb, fun _ => rfl⟩)
    intro a w4 hF bb hall hne
    obtain ⟨vv5, e14, hh6⟩ : ∃ v, a.tmps.getD 14 undef = v ∧ Wz w4 v (rawZ neg1 x1 10) := ⟨_, rfl, hall 1 14 rfl⟩
    obtain ⟨vv7, e16, hh8⟩ : ∃ v, a.tmps.getD 16 undef = v ∧ Wz w4 v (rawZ neg2 x2 10) := ⟨_, rfl, hall 3 16 rfl⟩
    obtain ⟨g5, e5, ge5, o5⟩ : ∃ g, a.tmps.getD 5 undef = .pointer (some ⟨g, 0, none⟩) ∧ w3.heap.size ≤ g ∧ Own w4 g [.bool false, .slice none 0 0] := hall 4 5 rfl
    have ne2_5 : g2 ≠ g5 := Nat.ne_of_lt (Nat.lt_of_lt_of_le o2.lt ge5)
    have ne3_5 : g3 ≠ g5 := Nat.ne_of_lt (Nat.lt_of_lt_of_le o3.lt ge5)
    obtain ⟨g6, e6, ge6, o6⟩ : ∃ g, a.tmps.getD 6 undef = .pointer (some ⟨g, 0, none⟩) ∧ w3.heap.size ≤ g ∧ Own w4 g [.bool false, .slice none 0 0] := hall 5 6 rfl
    have ne2_6 : g2 ≠ g6 := Nat.ne_of_lt (Nat.lt_of_lt_of_le o2.lt ge6)
    have ne3_6 : g3 ≠ g6 := Nat.ne_of_lt (Nat.lt_of_lt_of_le o3.lt ge6)
    have ne5_6 : g5 ≠ g6 := by intro e; exact hne 4 5 5 6 rfl rfl (by decide) rfl rfl (by rw [e5, e6, e])
    replace ge5 : w.heap.size ≤ g5 := Nat.le_trans bel.size ge5
    replace ge6 : w.heap.size ≤ g6 := Nat.le_trans bel.size ge6
    clear hall hne
    replace h1 := h1.below bb
    replace h2 := h2.below bb
    replace o2 := o2.below bb
    replace o3 := o3.below bb
    replace bel := below_to bel bb
    clear bb
    obtain ⟨b9, ad9, n9, c9, rfl⟩ := Wz.form hh6
    replace hF := hF.add e14
    clear e14
    obtain ⟨b10, ad10, n10, c10, rfl⟩ := Wz.form hh8
    replace hF := hF.add e16
    clear e16
    replace hF := hF.add e5
    clear e5
    replace hF := hF.add e6
    clear e6
    obtain ⟨w11, hr, tu, on⟩ := st_Int (vs := [.bool b9, .slice ad9 n9 c9]) o5 rfl rfl (ocB (ocS oc0)) (niB (niS ni0)) (o := 0) rfl
    have kp := tu.keep o5
    refine E.st hF (r_store (hF.at 1 rfl) (hF.at 3 rfl) (hr _ rfl)) rfl rfl fun a hF => ?_
    clear hr
    replace hh8 := hh8.keep kp
    replace h1 := h1.keep kp
    replace h2 := h2.keep kp
    replace hh6 := hh6.keep kp
    replace o2 := tu.own o2 ne2_5
    replace o3 := tu.own o3 ne3_5
    replace o6 := tu.own o6 (Ne.symm ne5_6)
    replace bel := tu.below bel ge5
    clear tu kp
    replace o5 := on
    clear on
    have hf12 := Wz.abso hh6
    obtain ⟨w13, hr, tu, on⟩ := st_Int (vs := [.bool b10, .slice ad10 n10 c10]) o6 rfl rfl (ocB (ocS oc0)) (niB (niS ni0)) (o := 0) rfl
    have kp := tu.keep o6
    refine E.st hF (r_store (hF.at 0 rfl) (hF.at 2 rfl) (hr _ rfl)) rfl rfl fun a hF => ?_
    clear hr
    replace h1 := h1.keep kp
    replace h2 := h2.keep kp
    replace hf12 := hf12.keep kp
    replace hh6 := hh6.keep kp
    replace hh8 := hh8.keep kp
    replace o2 := tu.own o2 ne2_6
    replace o3 := tu.own o3 ne3_6
    replace o5 := tu.own o5 ne5_6
    replace bel := tu.below bel ge6
    clear tu kp
    replace o6 := on
    clear on
    have hf14 := Wz.abso hh8
    refine E.nil ?_
    refine wp_seq ?_
    refine E.seq ?_
    refine E.opv hF (r_load (hF.at 1 rfl) (ld_Int (vs := [.bool b9, .slice ad9 n9 c9]) o5 rfl rfl)) rfl rfl rfl rfl fun a hF => ?_
    refine E.opv hF (r_load (hF.at 1 rfl) (ld_Int (vs := [.bool b10, .slice ad10 n10 c10]) o6 rfl rfl)) rfl rfl rfl rfl fun a hF => ?_
    refine E.call hF (r_call Try.func25 en25.1 en25.2 (map2 (hF.at 1 rfl) (hF.at 0 rfl))) (whDivMod_any _ _ _ _ _ hh6 hh8 10 (rawZ_limo neg1 ok1 10) (by omega)) rfl rfl rfl rfl ?_
    rintro e w15 ⟨vv16, vv17, rfl, hh18, hh19, bb⟩
    refine ⟨_, rfl, ?_⟩
    intro a hF
    replace h1 := h1.below bb
    replace h2 := h2.below bb
    replace hf12 := hf12.below bb
    replace hh6 := hh6.below bb
    replace hf14 := hf14.below bb
    replace hh8 := hh8.below bb
    replace o2 := o2.below bb
    replace o3 := o3.below bb
    replace o5 := o5.below bb
    replace o6 := o6.below bb
    replace bel := below_to bel bb
    clear bb
    obtain ⟨ad20, n20, c20, rfl, _⟩ := Wc.shape hh18
    obtain ⟨ad21, n21, c21, rfl, _⟩ := Wc.shape hh19
    refine E.opv hF (r_move (hF.at 0 rfl)) rfl rfl rfl rfl fun a hF => ?_
    refine E.opv hF (r_extract (v := .agg #[.bool (decide (Int.fdiv (rawZ neg1 x1 10) (rawZ neg2 x2 10) < 0)), .slice ad20 n20 c20]) (hF.at 0 rfl) rfl) rfl rfl rfl rfl fun a hF => ?_
    refine E.opv hF (r_extract (v := .agg #[.bool (decide (fr (rawZ neg1 x1 10) (rawZ neg2 x2 10) < 0)), .slice ad21 n21 c21]) (hF.at 1 rfl) rfl) rfl rfl rfl rfl fun a hF => ?_
    obtain ⟨g7, w22, ge7, hr, bb, o7⟩ := own_alloc (P := Try.prog) (w := w15) (cs := [.bool false, .slice none 0 0]) 37 ze_Int rfl (niB (niS ni0))
    have ne2_7 : g2 ≠ g7 := by rw [← ge7]; exact o2.ne_new
    have ne3_7 : g3 ≠ g7 := by rw [← ge7]; exact o3.ne_new
    have ne5_7 : g5 ≠ g7 := by rw [← ge7]; exact o5.ne_new
    have ne6_7 : g6 ≠ g7 := by rw [← ge7]; exact o6.ne_new
    replace ge7 : w.heap.size ≤ g7 := by rw [← ge7]; exact bel.size
    refine E.opv hF (r_alloc hr) rfl rfl rfl rfl fun a hF => ?_
    clear hr
    replace hh19 := hh19.below bb
    replace hh18 := hh18.below bb
    replace h1 := h1.below bb
    replace h2 := h2.below bb
    replace hf12 := hf12.below bb
    replace hh6 := hh6.below bb
    replace hf14 := hf14.below bb
    replace hh8 := hh8.below bb
    replace o2 := o2.below bb
    replace o3 := o3.below bb
    replace o5 := o5.below bb
    replace o6 := o6.below bb
    replace bel := below_to bel bb
    clear bb
    obtain ⟨g8, w23, ge8, hr, bb, o8⟩ := own_alloc (P := Try.prog) (w := w22) (cs := [.bool false, .slice none 0 0]) 37 ze_Int rfl (niB (niS ni0))
    have ne2_8 : g2 ≠ g8 := by rw [← ge8]; exact o2.ne_new
    have ne3_8 : g3 ≠ g8 := by rw [← ge8]; exact o3.ne_new
    have ne5_8 : g5 ≠ g8 := by rw [← ge8]; exact o5.ne_new
    have ne6_8 : g6 ≠ g8 := by rw [← ge8]; exact o6.ne_new
    have ne7_8 : g7 ≠ g8 := by rw [← ge8]; exact o7.ne_new
    replace ge8 : w.heap.size ≤ g8 := by rw [← ge8]; exact bel.size
    refine E.opv hF (r_alloc hr) rfl rfl rfl rfl fun a hF => ?_
    clear hr
    replace hh19 := hh19.below bb
    replace hh18 := hh18.below bb
    replace h1 := h1.below bb
    replace h2 := h2.below bb
    replace hf12 := hf12.below bb
    replace hh6 := hh6.below bb
    replace hf14 := hf14.below bb
    replace hh8 := hh8.below bb
    replace o2 := o2.below bb
    replace o3 := o3.below bb
    replace o5 := o5.below bb
    replace o6 := o6.below bb
    replace o7 := o7.below bb
    replace bel := below_to bel bb
    clear bb
    obtain ⟨w24, hr, tu, on⟩ := st_Int (vs := [.bool (decide (Int.fdiv (rawZ neg1 x1 10) (rawZ neg2 x2 10) < 0)), .slice ad20 n20 c20]) o7 rfl rfl (ocB (ocS oc0)) (niB (niS ni0)) (o := 0) rfl
    have kp := tu.keep o7
    refine E.st hF (r_store (hF.at 1 rfl) (hF.at 3 rfl) (hr _ rfl)) rfl rfl fun a hF => ?_
    clear hr
    replace hh19 := hh19.keep kp
    replace h1 := h1.keep kp
    replace h2 := h2.keep kp
    replace hf12 := hf12.keep kp
    replace hh6 := hh6.keep kp
    replace hf14 := hf14.keep kp
    replace hh8 := hh8.keep kp
    replace hh18 := hh18.keep kp
    replace o2 := tu.own o2 ne2_7
    replace o3 := tu.own o3 ne3_7
    replace o5 := tu.own o5 ne5_7
    replace o6 := tu.own o6 ne6_7
    replace o8 := tu.own o8 (Ne.symm ne7_8)
    replace bel := tu.below bel ge7
    clear tu kp
    replace o7 := on
    clear on
    have hf25 := Wc.abs hh18
    obtain ⟨w26, hr, tu, on⟩ := st_Int (vs := [.bool (decide (fr (rawZ neg1 x1 10) (rawZ neg2 x2 10) < 0)), .slice ad21 n21 c21]) o8 rfl rfl (ocB (ocS oc0)) (niB (niS ni0)) (o := 0) rfl
    have kp := tu.keep o8
    refine E.st hF (r_store (hF.at 0 rfl) (hF.at 2 rfl) (hr _ rfl)) rfl rfl fun a hF => ?_
    clear hr
    replace h1 := h1.keep kp
    replace h2 := h2.keep kp
    replace hf12 := hf12.keep kp
    replace hh6 := hh6.keep kp
    replace hf14 := hf14.keep kp
    replace hh8 := hh8.keep kp
    replace hf25 := hf25.keep kp
    replace hh18 := hh18.keep kp
    replace hh19 := hh19.keep kp
    replace o2 := tu.own o2 ne2_8
    replace o3 := tu.own o3 ne3_8
    replace o5 := tu.own o5 ne5_8
    replace o6 := tu.own o6 ne6_8
    replace o7 := tu.own o7 ne7_8
    replace bel := tu.below bel ge8
    clear tu kp
    replace o8 := on
    clear on
    have hf27 := Wc.abs hh19
    refine E.nil ?_
    refine wp_seq ?_
    refine E.drawn2 11 mixed hF [some 24, some 25, some 26, some 27, some 28, some 23, some 29, some 30, some 9, some 10, none] [(fun _ v => v = .agg #[.bool neg1, .slice a1 n1 c1]), (fun w v => Rz w v (rawZ neg1 x1 10)), (fun _ v => v = .agg #[.bool neg2, .slice a2 n2 c2]), (fun w v => Rz w v (rawZ neg2 x2 10)), (fun w v => ∃ q r, v = .tuple #[q, r] ∧ Rz w q (Int.fdiv (rawZ neg1 x1 10) (rawZ neg2 x2 10)) ∧ Rz w r (fr (rawZ neg1 x1 10) (rawZ neg2 x2 10))), (fun w v => ∃ q r, v = .tuple #[q, r] ∧ Rz w q (Int.fdiv (rawZ neg1 x1 10) (rawZ neg2 x2 10)) ∧ Rz w r (fr (rawZ neg1 x1 10) (rawZ neg2 x2 10))), (fun w v => Rz w v (Int.fdiv (rawZ neg1 x1 10) (rawZ neg2 x2 10))), (fun w v => Rz w v (fr (rawZ neg1 x1 10) (rawZ neg2 x2 10))), (fun _ _ => True), (fun _ _ => True), (fun _ _ => True)] [8, 9] [⟨10, 8, 6⟩] [[], [], [], [], [], [], [], [], [.bool false, .slice none 0 0], [.bool false, .slice none 0 0], []] (by decide +kernel) (by decide +kernel) rfl rfl rfl (by decide +kernel) (by decide +kernel) ⟨(Mk.eq _), (fun _ _ _ h kp => h.keep kp), (Mk.eq _), (fun _ _ _ h kp => h.keep kp), (fun _ _ _ ⟨q, r, e, h1, h2⟩ kp => ⟨q, r, e, h1.keep kp, h2.keep kp⟩), (fun _ _ _ ⟨q, r, e, h1, h2⟩ kp => ⟨q, r, e, h1.keep kp, h2.keep kp⟩), (fun _ _ _ h kp => h.keep kp), (fun _ _ _ h kp => h.keep kp), Mk.any, Mk.any, Mk.any, trivial⟩ ⟨?_, ?_, ?_, ?_, ?_, ?_, ?_, ?_, ?_, ?_, ?_, trivial⟩ ?_
    · refine step2_val rfl ?_
      intro a' w' hF' hb hd
      exact if_does (wanted_free rfl) (Does.vals (r_load (hF'.at 16 rfl) (ld_Raw (vs := [.bool neg1, .slice a1 n1 c1]) (o2.below hb) rfl rfl)) ⟨fun _ => rfl, Below.refl _ _, (fun h => absurd h (by decide))⟩)
    · refine step2_val rfl ?_
      intro a' w' hF' hb hd
      have e24 : a'.tmps.getD 24 undef = .agg #[.bool neg1, .slice a1 n1 c1] := hd _ 24 (Array.mem_of_getElem? (i := 0) rfl) rfl rfl rfl
      refine if_does (wanted_free rfl) (Does.calls (r_call Try.func27 en27.1 en27.2 (map2 e24 ev_c)) (told_any neg1 a1 n1 c1 10 x1 _ (h1.below hb) (by omega)) ?_)
      rintro e w'' ⟨v', rfl, h', bb⟩
      exact ⟨_, rfl, fun _ => h', bb, (fun h => absurd h (by decide))⟩
    · refine step2_val rfl ?_
      intro a' w' hF' hb hd
      exact if_does (wanted_free rfl) (Does.vals (r_load (hF'.at 15 rfl) (ld_Raw (vs := [.bool neg2, .slice a2 n2 c2]) (o3.below hb) rfl rfl)) ⟨fun _ => rfl, Below.refl _ _, (fun h => absurd h (by decide))⟩)
    · refine step2_val rfl ?_
      intro a' w' hF' hb hd
      have e26 : a'.tmps.getD 26 undef = .agg #[.bool neg2, .slice a2 n2 c2] := hd _ 26 (Array.mem_of_getElem? (i := 0) rfl) rfl rfl rfl
      refine if_does (wanted_free rfl) (Does.calls (r_call Try.func27 en27.1 en27.2 (map2 e26 ev_c)) (told_any neg2 a2 n2 c2 10 x2 _ (h2.below hb) (by omega)) ?_)
      rintro e w'' ⟨v', rfl, h', bb⟩
      exact ⟨_, rfl, fun _ => h', bb, (fun h => absurd h (by decide))⟩
    · refine step2_val rfl ?_
      intro a' w' hF' hb hd
      obtain ⟨v25_0, e25, h25_1⟩ : ∃ v, a'.tmps.getD 25 undef = v ∧ Rz w' v (rawZ neg1 x1 10) := ⟨_, rfl, hd _ 25 (Array.mem_of_getElem? (i := 0) rfl) rfl rfl rfl⟩
      obtain ⟨v27_0, e27, h27_1⟩ : ∃ v, a'.tmps.getD 27 undef = v ∧ Rz w' v (rawZ neg2 x2 10) := ⟨_, rfl, hd _ 27 (Array.mem_of_getElem? (i := 1) rfl) rfl rfl rfl⟩
      refine if_does (wanted_free rfl) (Does.calls (r_call Try.func26 en26.1 en26.2 (map2 e25 e27)) (rDivMod_any _ _ _ _ 10 10 _ h25_1 h27_1 (rawZ_limo neg1 ok1 10) (rawZ_limo neg2 ok2 10) (by omega) (by omega)) ?_)
      rintro e w'' ⟨v1', v2', rfl, h1', h2', bb⟩
      exact ⟨_, rfl, fun _ => ⟨v1', v2', rfl, h1', h2'⟩, bb, (fun h => absurd h (by decide))⟩
    · refine step2_val rfl ?_
      intro a' w' hF' hb hd
      obtain ⟨v28_0, v28_1, e28, h28_2, h28_3⟩ : (fun (w : World) (v : Value) => ∃ q r, v = .tuple #[q, r] ∧ Rz w q (Int.fdiv (rawZ neg1 x1 10) (rawZ neg2 x2 10)) ∧ Rz w r (fr (rawZ neg1 x1 10) (rawZ neg2 x2 10))) w' (a'.tmps.getD 28 undef) := hd _ 28 (Array.mem_of_getElem? (i := 0) rfl) rfl rfl rfl
      exact if_does (wanted_free rfl) (Does.vals (r_move e28) ⟨fun _ => ⟨_, _, rfl, h28_2, h28_3⟩, Below.refl _ _, (fun h => absurd h (by decide))⟩)
    · refine step2_val rfl ?_
      intro a' w' hF' hb hd
      obtain ⟨v23, e23, h23⟩ : ∃ v, a'.tmps.getD 23 undef = v ∧ ∃ q r, v = .tuple #[q, r] ∧ Rz w' q (Int.fdiv (rawZ neg1 x1 10) (rawZ neg2 x2 10)) ∧ Rz w' r (fr (rawZ neg1 x1 10) (rawZ neg2 x2 10)) := ⟨_, rfl, hd _ 23 (Array.mem_of_getElem? (i := 0) rfl) rfl rfl rfl⟩
      obtain ⟨v23a, v23b, rfl, h23a, h23b⟩ := h23
      exact if_does (wanted_free rfl) (Does.vals (r_extract (v := v23a) e23 rfl) ⟨fun _ => h23a, Below.refl _ _, (fun h => absurd h (by decide))⟩)
    · refine step2_val rfl ?_
      intro a' w' hF' hb hd
      obtain ⟨v23, e23, h23⟩ : ∃ v, a'.tmps.getD 23 undef = v ∧ ∃ q r, v = .tuple #[q, r] ∧ Rz w' q (Int.fdiv (rawZ neg1 x1 10) (rawZ neg2 x2 10)) ∧ Rz w' r (fr (rawZ neg1 x1 10) (rawZ neg2 x2 10)) := ⟨_, rfl, hd _ 23 (Array.mem_of_getElem? (i := 0) rfl) rfl rfl rfl⟩
      obtain ⟨v23a, v23b, rfl, h23a, h23b⟩ := h23
      exact if_does (wanted_free rfl) (Does.vals (r_extract (v := v23b) e23 rfl) ⟨fun _ => h23b, Below.refl _ _, (fun h => absurd h (by decide))⟩)
    · refine step2_val rfl ?_
      intro a' w' hF' hb hd
      obtain ⟨g, w2, ge, hr, bb, on⟩ := own_alloc (P := Try.prog) (w := w') (cs := [.bool false, .slice none 0 0]) 43 ze_RInt rfl (niB (niS ni0))
      subst ge
      exact if_does (wanted_free rfl) (Does.vals (r_alloc hr) ⟨(fun h => absurd h (by decide)), bb, fun _ => ⟨rfl, on⟩⟩)
    · refine step2_val rfl ?_
      intro a' w' hF' hb hd
      obtain ⟨g, w2, ge, hr, bb, on⟩ := own_alloc (P := Try.prog) (w := w') (cs := [.bool false, .slice none 0 0]) 43 ze_RInt rfl (niB (niS ni0))
      subst ge
      exact if_does (wanted_free rfl) (Does.vals (r_alloc hr) ⟨(fun h => absurd h (by decide)), bb, fun _ => ⟨rfl, on⟩⟩)
    · exact step2_sto ⟨⟨10, 8, 6⟩, by simp, rfl⟩ (b := 8) (v := 6) rfl rfl rfl rfl rfl rfl sz_RInt rfl (by decide) (by decide) (fun _ _ h => cellsBS (Rz.form h))
    intro a w28 hF bb hall hblk hne
    obtain ⟨vv29, e29, hh30⟩ : ∃ v, a.tmps.getD 29 undef = v ∧ Rz w28 v (Int.fdiv (rawZ neg1 x1 10) (rawZ neg2 x2 10)) := ⟨_, rfl, hall 6 29 (by decide) rfl⟩
    obtain ⟨b31, ad31, n31, c31, rfl⟩ := Rz.form hh30
    obtain ⟨vv32, e30, hh33⟩ : ∃ v, a.tmps.getD 30 undef = v ∧ Rz w28 v (fr (rawZ neg1 x1 10) (rawZ neg2 x2 10)) := ⟨_, rfl, hall 7 30 (by decide) rfl⟩
    obtain ⟨b34, ad34, n34, c34, rfl⟩ := Rz.form hh33
    obtain ⟨g9, cs9, e9, ge9, o9, hc9⟩ := hblk 8 9 (by decide) rfl
    have hc9 := (hc9.2 ⟨10, 8, 6⟩ (by simp) rfl).2 rfl 29 rfl
    rw [e29] at hc9
    obtain rfl : cs9 = [.bool b31, .slice ad31 n31 c31] := by have hx := congrArg Array.toList hc9; exact hx.symm
    clear hc9
    have ne5_9 : g5 ≠ g9 := Nat.ne_of_lt (Nat.lt_of_lt_of_le o5.lt ge9)
    have ne6_9 : g6 ≠ g9 := Nat.ne_of_lt (Nat.lt_of_lt_of_le o6.lt ge9)
    have ne7_9 : g7 ≠ g9 := Nat.ne_of_lt (Nat.lt_of_lt_of_le o7.lt ge9)
    have ne8_9 : g8 ≠ g9 := Nat.ne_of_lt (Nat.lt_of_lt_of_le o8.lt ge9)
    obtain ⟨g10, cs10, e10, ge10, o10, hc10⟩ := hblk 9 10 (by decide) rfl
    obtain rfl : cs10 = [.bool false, .slice none 0 0] := hc10.1 (notBlk_spec rfl)
    clear hc10
    have ne5_10 : g5 ≠ g10 := Nat.ne_of_lt (Nat.lt_of_lt_of_le o5.lt ge10)
    have ne6_10 : g6 ≠ g10 := Nat.ne_of_lt (Nat.lt_of_lt_of_le o6.lt ge10)
    have ne7_10 : g7 ≠ g10 := Nat.ne_of_lt (Nat.lt_of_lt_of_le o7.lt ge10)
    have ne8_10 : g8 ≠ g10 := Nat.ne_of_lt (Nat.lt_of_lt_of_le o8.lt ge10)
    have ne9_10 : g9 ≠ g10 := by intro e; exact hne 8 9 9 10 (by decide) (by decide) (by decide) rfl rfl (by rw [e9, e10, e])
    replace ge9 : w.heap.size ≤ g9 := Nat.le_trans bel.size ge9
    replace ge10 : w.heap.size ≤ g10 := Nat.le_trans bel.size ge10
    clear hall hblk hne
    replace hf12 := hf12.below bb
    replace hh6 := hh6.below bb
    replace hf14 := hf14.below bb
    replace hh8 := hh8.below bb
    replace hf25 := hf25.below bb
    replace hh18 := hh18.below bb
    replace hf27 := hf27.below bb
    replace hh19 := hh19.below bb
    replace o5 := o5.below bb
    replace o6 := o6.below bb
    replace o7 := o7.below bb
    replace o8 := o8.below bb
    replace bel := below_to bel bb
    clear bb
    have hf35 := Rz.abs hh30
    clear e29
    replace hF := hF.add e30
    clear e30
    replace hF := hF.add e9
    clear e9
    replace hF := hF.add e10
    clear e10
    obtain ⟨w36, hr, tu, on⟩ := st_RInt (vs := [.bool b34, .slice ad34 n34 c34]) o10 rfl rfl (ocB (ocS oc0)) (niB (niS ni0)) (o := 0) rfl
    have kp := tu.keep o10
    refine E.st hF (r_store (hF.at 0 rfl) (hF.at 2 rfl) (hr _ rfl)) rfl rfl fun a hF => ?_
    clear hr
    replace hf12 := hf12.keep kp
    replace hh6 := hh6.keep kp
    replace hf14 := hf14.keep kp
    replace hh8 := hh8.keep kp
    replace hf25 := hf25.keep kp
    replace hh18 := hh18.keep kp
    replace hf27 := hf27.keep kp
    replace hh19 := hh19.keep kp
    replace hf35 := hf35.keep kp
    replace hh30 := hh30.keep kp
    replace hh33 := hh33.keep kp
    replace o5 := tu.own o5 ne5_10
    replace o6 := tu.own o6 ne6_10
    replace o7 := tu.own o7 ne7_10
    replace o8 := tu.own o8 ne8_10
    replace o9 := tu.own o9 ne9_10
    replace bel := tu.below bel ge10
    clear tu kp
    replace o10 := on
    clear on
    have hf37 := Rz.abs hh33
    refine E.nil ?_
    refine wp_seq ?_
    refine wp_seq ?_
    refine E.seq ?_
    refine E.opv hF (r_load (hF.at 4 rfl) (ld_Int (vs := [.bool (decide (Int.fdiv (rawZ neg1 x1 10) (rawZ neg2 x2 10) < 0)), .slice ad20 n20 c20]) o7 rfl rfl)) rfl rfl rfl rfl fun a hF => ?_
    refine E.opv hF (r_load (hF.at 2 rfl) (ld_RInt (vs := [.bool b31, .slice ad31 n31 c31]) o9 rfl rfl)) rfl rfl rfl rfl fun a hF => ?_
    refine E.call hF (r_call Try.func28 en28.1 en28.2 (map2 (hF.at 1 rfl) (hF.at 0 rfl))) (Is3_any _ _ (Int.fdiv (rawZ neg1 x1 10) (rawZ neg2 x2 10)) _ hh18 hh30) rfl rfl rfl rfl ?_
    rintro e w38 ⟨rfl, bb⟩
    refine ⟨_, rfl, ?_⟩
    intro a hF
    replace hf12 := hf12.below bb
    replace hh6 := hh6.below bb
    replace hf14 := hf14.below bb
    replace hh8 := hh8.below bb
    replace hf25 := hf25.below bb
    replace hh18 := hh18.below bb
    replace hf27 := hf27.below bb
    replace hh19 := hh19.below bb
    replace hf37 := hf37.below bb
    replace hh33 := hh33.below bb
    replace o5 := o5.below bb
    replace o6 := o6.below bb
    replace o7 := o7.below bb
    replace o8 := o8.below bb
    replace o10 := o10.below bb
    replace bel := below_to bel bb
    clear bb
    refine E.opv hF (r_bin (hF.at 0 rfl) ev_c eg_scalar (bi_int (ic_neq (c := false) (by simp)) (by simp))) rfl rfl rfl rfl fun a hF => ?_
    refine E.opv hF (r_move (hF.at 0 rfl)) rfl rfl rfl rfl fun a hF => ?_
    refine E.opvg hF (r_load (hF.at 8 rfl) (ld_Int (vs := [.bool (decide (fr (rawZ neg1 x1 10) (rawZ neg2 x2 10) < 0)), .slice ad21 n21 c21]) o8 rfl rfl)) (wanted_by rfl rfl (hF.at 0 rfl) rfl) rfl rfl rfl fun a hF => ?_
    refine E.opvg hF (r_load (hF.at 6 rfl) (ld_RInt (vs := [.bool b34, .slice ad34 n34 c34]) o10 rfl rfl)) (wanted_by rfl rfl (hF.at 1 rfl) rfl) rfl rfl rfl fun a hF => ?_
    refine E.callg hF (r_call Try.func28 en28.1 en28.2 (map2 (hF.at 1 rfl) (hF.at 0 rfl))) (Is3_any _ _ (fr (rawZ neg1 x1 10) (rawZ neg2 x2 10)) _ hh19 hh33) (wanted_by rfl rfl (hF.at 2 rfl) rfl) rfl rfl rfl ?_
    rintro e w39 ⟨rfl, bb⟩
    refine ⟨_, rfl, ?_⟩
    intro a hF
    replace hf12 := hf12.below bb
    replace hh6 := hh6.below bb
    replace hf14 := hf14.below bb
    replace hh8 := hh8.below bb
    replace hf25 := hf25.below bb
    replace hh18 := hh18.below bb
    replace hf27 := hf27.below bb
    replace hh19 := hh19.below bb
    replace o5 := o5.below bb
    replace o6 := o6.below bb
    replace o7 := o7.below bb
    replace o8 := o8.below bb
    replace bel := below_to bel bb
    clear bb
    refine E.opvg hF (r_bin (hF.at 0 rfl) ev_c eg_scalar (bi_int (ic_neq (c := false) (by simp)) (by simp))) (wanted_by rfl rfl (hF.at 3 rfl) rfl) rfl rfl rfl fun a hF => ?_
    refine E.opv hF (r_pick_f (hF.at 4 rfl) (hF.at 0 rfl)) rfl rfl rfl rfl fun a hF => ?_
    refine E.nil ?_
    refine wp_cond_false (hF.at 0 rfl) ?_
    refine wp_skip ?_
    refine E.norm ?_
    refine wp_seq ?_
    refine E.drawn 29 mixed hF [41, 42, 43, 44, 45, 46, 47, 48, 49, 50, 51, 52, 53, 54, 55, 56, 57, 58, 59, 60, 61, 62, 63, 64, 65, 66, 67, 68, 69] [(fun _ v => v = .agg #[.bool b10, .slice ad10 n10 c10]), (fun _ v => v = .int .i64 (sz (rawZ neg2 x2 10))), (fun _ v => v = .bool true), (fun _ v => v = .bool true), (fun _ v => v = undef), (fun _ v => v = undef), (fun _ v => v = undef), (fun _ v => v = undef), (fun _ v => v = undef), (fun _ v => v = undef), (fun _ v => v = undef), (fun _ v => v = undef), (fun _ v => v = undef), (fun _ v => v = undef), (fun _ v => v = undef), (fun _ v => v = undef), (fun _ v => v = undef), (fun _ v => v = undef), (fun _ v => v = undef), (fun _ v => v = undef), (fun _ v => v = undef), (fun _ v => v = undef), (fun _ v => v = undef), (fun _ v => v = undef), (fun _ v => v = undef), (fun _ v => v = undef), (fun _ v => v = undef), (fun _ v => v = undef), (fun _ v => v = .bool true)] [] (by decide +kernel) (by decide +kernel) rfl rfl rfl ⟨(Mb.eq _), (Mb.eq _), (Mb.eq _), (Mb.eq _), (Mb.eq _), (Mb.eq _), (Mb.eq _), (Mb.eq _), (Mb.eq _), (Mb.eq _), (Mb.eq _), (Mb.eq _), (Mb.eq _), (Mb.eq _), (Mb.eq _), (Mb.eq _), (Mb.eq _), (Mb.eq _), (Mb.eq _), (Mb.eq _), (Mb.eq _), (Mb.eq _), (Mb.eq _), (Mb.eq _), (Mb.eq _), (Mb.eq _), (Mb.eq _), (Mb.eq _), (Mb.eq _), trivial⟩ trivial ⟨?_, ?_, ?_, ?_, ?_, ?_, ?_, ?_, ?_, ?_, ?_, ?_, ?_, ?_, ?_, ?_, ?_, ?_, ?_, ?_, ?_, ?_, ?_, ?_, ?_, ?_, ?_, ?_, ?_, trivial⟩ ?_
    · intro a' w' hF' hb hd
      exact if_does (wanted_free rfl) (Does.vals (r_load (hF'.at 21 rfl) (ld_Int (vs := [.bool b10, .slice ad10 n10 c10]) (o6.below hb) rfl rfl)) ⟨rfl, Below.refl _ _, (fun h => absurd h (by decide))⟩)
    · intro a' w' hF' hb hd
      have e41 : a'.tmps.getD 41 undef = .agg #[.bool b10, .slice ad10 n10 c10] := hd _ 41 (Array.mem_of_getElem? (i := 0) rfl) rfl rfl
      refine if_does (wanted_free rfl) (Does.calls (r_call Try.func29 en29.1 en29.2 (map1 e41)) (whSign_any _ _ _ (hh8.below hb)) ?_)
      rintro e w'' ⟨rfl, bb⟩
      exact ⟨_, rfl, rfl, bb, (fun h => absurd h (by decide))⟩
    · intro a' w' hF' hb hd
      have e42 : a'.tmps.getD 42 undef = .int .i64 (sz (rawZ neg2 x2 10)) := hd _ 42 (Array.mem_of_getElem? (i := 0) rfl) rfl rfl
      exact if_does (wanted_free rfl) (Does.vals (r_bin e42 ev_c eg_scalar (bi_int (ic_eql (c := true) (eqx (sz_eq0.2 h0))) (by simp))) ⟨rfl, Below.refl _ _, (fun h => absurd h (by decide))⟩)
    · intro a' w' hF' hb hd
      have e43 : a'.tmps.getD 43 undef = .bool true := hd _ 43 (Array.mem_of_getElem? (i := 0) rfl) rfl rfl
      exact if_does (wanted_free rfl) (Does.vals (r_move e43) ⟨rfl, Below.refl _ _, (fun h => absurd h (by decide))⟩)
    · intro a' w' hF' hb hd
      have e44 : a'.tmps.getD 44 undef = .bool true := hd _ 44 (Array.mem_of_getElem? (i := 0) rfl) rfl rfl
      exact if_not (wanted_by rfl rfl e44 rfl) ⟨rfl, by decide⟩
    · intro a' w' hF' hb hd
      have e44 : a'.tmps.getD 44 undef = .bool true := hd _ 44 (Array.mem_of_getElem? (i := 0) rfl) rfl rfl
      exact if_not (wanted_by rfl rfl e44 rfl) ⟨rfl, by decide⟩
    · intro a' w' hF' hb hd
      have e44 : a'.tmps.getD 44 undef = .bool true := hd _ 44 (Array.mem_of_getElem? (i := 2) rfl) rfl rfl
      exact if_not (wanted_by rfl rfl e44 rfl) ⟨rfl, by decide⟩
    · intro a' w' hF' hb hd
      have e44 : a'.tmps.getD 44 undef = .bool true := hd _ 44 (Array.mem_of_getElem? (i := 0) rfl) rfl rfl
      exact if_not (wanted_by rfl rfl e44 rfl) ⟨rfl, by decide⟩
    · intro a' w' hF' hb hd
      have e44 : a'.tmps.getD 44 undef = .bool true := hd _ 44 (Array.mem_of_getElem? (i := 3) rfl) rfl rfl
      exact if_not (wanted_by rfl rfl e44 rfl) ⟨rfl, by decide⟩
    · intro a' w' hF' hb hd
      have e44 : a'.tmps.getD 44 undef = .bool true := hd _ 44 (Array.mem_of_getElem? (i := 0) rfl) rfl rfl
      exact if_not (wanted_by rfl rfl e44 rfl) ⟨rfl, by decide⟩
    · intro a' w' hF' hb hd
      have e44 : a'.tmps.getD 44 undef = .bool true := hd _ 44 (Array.mem_of_getElem? (i := 3) rfl) rfl rfl
      exact if_not (wanted_by rfl rfl e44 rfl) ⟨rfl, by decide⟩
    · intro a' w' hF' hb hd
      have e44 : a'.tmps.getD 44 undef = .bool true := hd _ 44 (Array.mem_of_getElem? (i := 1) rfl) rfl rfl
      exact if_not (wanted_by rfl rfl e44 rfl) ⟨rfl, by decide⟩
    · intro a' w' hF' hb hd
      have e44 : a'.tmps.getD 44 undef = .bool true := hd _ 44 (Array.mem_of_getElem? (i := 2) rfl) rfl rfl
      exact if_not (wanted_by rfl rfl e44 rfl) ⟨rfl, by decide⟩
    · intro a' w' hF' hb hd
      have e53 : a'.tmps.getD 53 undef = undef := hd _ 53 (Array.mem_of_getElem? (i := 0) rfl) rfl rfl
      exact if_not (wanted_undef rfl rfl e53) ⟨rfl, by decide⟩
    · intro a' w' hF' hb hd
      have e53 : a'.tmps.getD 53 undef = undef := hd _ 53 (Array.mem_of_getElem? (i := 1) rfl) rfl rfl
      exact if_not (wanted_undef rfl rfl e53) ⟨rfl, by decide⟩
    · intro a' w' hF' hb hd
      have e53 : a'.tmps.getD 53 undef = undef := hd _ 53 (Array.mem_of_getElem? (i := 0) rfl) rfl rfl
      exact if_not (wanted_undef rfl rfl e53) ⟨rfl, by decide⟩
    · intro a' w' hF' hb hd
      have e53 : a'.tmps.getD 53 undef = undef := hd _ 53 (Array.mem_of_getElem? (i := 2) rfl) rfl rfl
      exact if_not (wanted_undef rfl rfl e53) ⟨rfl, by decide⟩
    · intro a' w' hF' hb hd
      have e53 : a'.tmps.getD 53 undef = undef := hd _ 53 (Array.mem_of_getElem? (i := 2) rfl) rfl rfl
      exact if_not (wanted_undef rfl rfl e53) ⟨rfl, by decide⟩
    · intro a' w' hF' hb hd
      have e53 : a'.tmps.getD 53 undef = undef := hd _ 53 (Array.mem_of_getElem? (i := 1) rfl) rfl rfl
      exact if_not (wanted_undef rfl rfl e53) ⟨rfl, by decide⟩
    · intro a' w' hF' hb hd
      have e44 : a'.tmps.getD 44 undef = .bool true := hd _ 44 (Array.mem_of_getElem? (i := 2) rfl) rfl rfl
      exact if_not (wanted_by rfl rfl e44 rfl) ⟨rfl, by decide⟩
    · intro a' w' hF' hb hd
      have e44 : a'.tmps.getD 44 undef = .bool true := hd _ 44 (Array.mem_of_getElem? (i := 2) rfl) rfl rfl
      exact if_not (wanted_by rfl rfl e44 rfl) ⟨rfl, by decide⟩
    · intro a' w' hF' hb hd
      have e61 : a'.tmps.getD 61 undef = undef := hd _ 61 (Array.mem_of_getElem? (i := 0) rfl) rfl rfl
      exact if_not (wanted_undef rfl rfl e61) ⟨rfl, by decide⟩
    · intro a' w' hF' hb hd
      have e61 : a'.tmps.getD 61 undef = undef := hd _ 61 (Array.mem_of_getElem? (i := 1) rfl) rfl rfl
      exact if_not (wanted_undef rfl rfl e61) ⟨rfl, by decide⟩
    · intro a' w' hF' hb hd
      have e61 : a'.tmps.getD 61 undef = undef := hd _ 61 (Array.mem_of_getElem? (i := 0) rfl) rfl rfl
      exact if_not (wanted_undef rfl rfl e61) ⟨rfl, by decide⟩
    · intro a' w' hF' hb hd
      have e61 : a'.tmps.getD 61 undef = undef := hd _ 61 (Array.mem_of_getElem? (i := 1) rfl) rfl rfl
      exact if_not (wanted_undef rfl rfl e61) ⟨rfl, by decide⟩
    · intro a' w' hF' hb hd
      have e61 : a'.tmps.getD 61 undef = undef := hd _ 61 (Array.mem_of_getElem? (i := 2) rfl) rfl rfl
      exact if_not (wanted_undef rfl rfl e61) ⟨rfl, by decide⟩
    · intro a' w' hF' hb hd
      have e61 : a'.tmps.getD 61 undef = undef := hd _ 61 (Array.mem_of_getElem? (i := 1) rfl) rfl rfl
      exact if_not (wanted_undef rfl rfl e61) ⟨rfl, by decide⟩
    · intro a' w' hF' hb hd
      have e44 : a'.tmps.getD 44 undef = .bool true := hd _ 44 (Array.mem_of_getElem? (i := 2) rfl) rfl rfl
      exact if_not (wanted_by rfl rfl e44 rfl) ⟨rfl, by decide⟩
    · intro a' w' hF' hb hd
      have e44 : a'.tmps.getD 44 undef = .bool true := hd _ 44 (Array.mem_of_getElem? (i := 0) rfl) rfl rfl
      exact if_does (wanted_free rfl) (Does.vals (r_pick_t e44 ev_c) ⟨rfl, Below.refl _ _, (fun h => absurd h (by decide))⟩)
    intro a w40 hF bb hall hne
    have e69 : a.tmps.getD 69 undef = .bool true := hall 28 69 rfl
    clear hall hne
    replace bel := below_to bel bb
    clear bb
    replace hF := hF.add e69
    clear e69
    refine E.opset (L' := [(4, .bool true), (69, .bool true), (40, .bool false), (39, .bool false), (38, .int .i64 0), (37, .agg #[.bool b34, .slice ad34 n34 c34]), (36, .agg #[.bool (decide (fr (rawZ neg1 x1 10) (rawZ neg2 x2 10) < 0)), .slice ad21 n21 c21]), (35, .bool false), (34, .bool false), (33, .int .i64 0), (32, .agg #[.bool b31, .slice ad31 n31 c31]), (31, .agg #[.bool (decide (Int.fdiv (rawZ neg1 x1 10) (rawZ neg2 x2 10) < 0)), .slice ad20 n20 c20]), (10, .pointer (some ⟨g10, 0, none⟩)), (9, .pointer (some ⟨g9, 0, none⟩)), (30, .agg #[.bool b34, .slice ad34 n34 c34]), (8, .pointer (some ⟨g8, 0, none⟩)), (7, .pointer (some ⟨g7, 0, none⟩)), (22, .agg #[.bool (decide (fr (rawZ neg1 x1 10) (rawZ neg2 x2 10) < 0)), .slice ad21 n21 c21]), (21, .agg #[.bool (decide (Int.fdiv (rawZ neg1 x1 10) (rawZ neg2 x2 10) < 0)), .slice ad20 n20 c20]), (17, .tuple #[.agg #[.bool (decide (Int.fdiv (rawZ neg1 x1 10) (rawZ neg2 x2 10) < 0)), .slice ad20 n20 c20], .agg #[.bool (decide (fr (rawZ neg1 x1 10) (rawZ neg2 x2 10) < 0)), .slice ad21 n21 c21]]), (20, .tuple #[.agg #[.bool (decide (Int.fdiv (rawZ neg1 x1 10) (rawZ neg2 x2 10) < 0)), .slice ad20 n20 c20], .agg #[.bool (decide (fr (rawZ neg1 x1 10) (rawZ neg2 x2 10) < 0)), .slice ad21 n21 c21]]), (19, .agg #[.bool b10, .slice ad10 n10 c10]), (18, .agg #[.bool b9, .slice ad9 n9 c9]), (6, .pointer (some ⟨g6, 0, none⟩)), (5, .pointer (some ⟨g5, 0, none⟩)), (16, .agg #[.bool b10, .slice ad10 n10 c10]), (14, .agg #[.bool b9, .slice ad9 n9 c9]), (12, .bool false), (11, .bool true), (3, .pointer (some ⟨g3, 0, none⟩)), (2, .pointer (some ⟨g2, 0, none⟩)), (0, .agg #[.bool neg1, .slice a1 n1 c1]), (1, .agg #[.bool neg2, .slice a2 n2 c2])]) hF (r_assign (hF.at 0 rfl)) rfl rfl rfl rfl fun a hF => ?_
    refine E.nil ?_
    refine wp_ret ?_
    refine bodyPost_ret (res_tmp Try.results4 (hF.at 0 rfl)) hF.dfr ?_
    exact ⟨rfl, bel⟩
  · have bel : Below w.heap.size w w := Below.refl _ _
    refine E.enter (nt := 70) (L := [(0, .agg #[.bool neg1, .slice a1 n1 c1]), (1, .agg #[.bool neg2, .slice a2 n2 c2])]) Try.func4 rfl rfl rfl (args_cons (i := 0) rfl (args_cons (i := 1) rfl args_nil)) ?_
    intro a hF
    refine wp_seq ?_
    refine E.seq ?_
    obtain ⟨g2, w1, ge2, hr, bb, o2⟩ := own_box (P := Try.prog) (w := w) (cs := [.bool neg1, .slice a1 n1 c1]) (v := .agg #[.bool neg1, .slice a1 n1 c1]) 35 rfl (niB (niS ni0))
    replace ge2 : w.heap.size ≤ g2 := by rw [← ge2]; exact bel.size
    refine E.opv hF (r_box (hF.at 0 rfl) hr) rfl rfl rfl rfl fun a hF => ?_
    clear hr
    replace h2 := h2.below bb
    replace h1 := h1.below bb
    replace bel := below_to bel bb
    clear bb
    obtain ⟨g3, w2, ge3, hr, bb, o3⟩ := own_box (P := Try.prog) (w := w1) (cs := [.bool neg2, .slice a2 n2 c2]) (v := .agg #[.bool neg2, .slice a2 n2 c2]) 35 rfl (niB (niS ni0))
    have ne2_3 : g2 ≠ g3 := by rw [← ge3]; exact o2.ne_new
    replace ge3 : w.heap.size ≤ g3 := by rw [← ge3]; exact bel.size
    refine E.opv hF (r_box (hF.at 2 rfl) hr) rfl rfl rfl rfl fun a hF => ?_
    clear hr
    replace h1 := h1.below bb
    replace h2 := h2.below bb
    replace o2 := o2.below bb
    replace bel := below_to bel bb
    clear bb
    refine E.opv hF (r_assign ev_c) rfl rfl rfl rfl fun a hF => ?_
    refine E.nil ?_
    refine wp_seq ?_
    refine wp_seq ?_
    refine E.seq ?_
    refine E.call hF (r_call Try.func23 en23.1 en23.2 map0) (awake3_any _) rfl rfl rfl rfl ?_
    rintro e w3 ⟨rfl, bb⟩
    refine ⟨_, rfl, ?_⟩
    intro a hF
    replace h1 := h1.below bb
    replace h2 := h2.below bb
    replace o2 := o2.below bb
    replace o3 := o3.below bb
    replace bel := below_to bel bb
    clear bb
    refine E.opv hF (r_un (hF.at 0 rfl) (bn_not _ false rfl)) rfl rfl rfl rfl fun a hF => ?_
    refine E.nil ?_
    refine wp_cond_false (hF.at 0 rfl) ?_
    refine wp_skip ?_
    refine E.norm ?_
    refine wp_seq ?_
    refine E.drawn 6 mixed hF [13, 14, 15, 16, 5, 6] [(fun _ v => v = .agg #[.bool neg1, .slice a1 n1 c1]), (fun w v => Wz w v (rawZ neg1 x1 10)), (fun _ v => v = .agg #[.bool neg2, .slice a2 n2 c2]), (fun w v => Wz w v (rawZ neg2 x2 10)), (fun w v => ∃ g, v = .pointer (some ⟨g, 0, none⟩) ∧ w3.heap.size ≤ g ∧ Own w g [.bool false, .slice none 0 0]), (fun w v => ∃ g, v = .pointer (some ⟨g, 0, none⟩) ∧ w3.heap.size ≤ g ∧ Own w g [.bool false, .slice none 0 0])] [4, 5] (by decide +kernel) (by decide +kernel) rfl rfl rfl ⟨(Mb.eq _), (fun _ _ _ h hb => h.below hb), (Mb.eq _), (fun _ _ _ h hb => h.below hb), (fun _ _ _ ⟨g, e, l, o⟩ hb => ⟨g, e, l, o.below hb⟩), (fun _ _ _ ⟨g, e, l, o⟩ hb => ⟨g, e, l, o.below hb⟩), trivial⟩ ⟨fun _ _ ⟨g, e, _, o⟩ => ⟨g, e, o.lt⟩, ⟨fun _ _ ⟨g, e, _, o⟩ => ⟨g, e, o.lt⟩, trivial⟩⟩ ⟨?_, ?_, ?_, ?_, ?_, ?_, trivial⟩ ?_
    · intro a' w' hF' hb hd
      exact if_does (wanted_free rfl) (Does.vals (r_load (hF'.at 4 rfl) (ld_Raw (vs := [.bool neg1, .slice a1 n1 c1]) (o2.below hb) rfl rfl)) ⟨rfl, Below.refl _ _, (fun h => absurd h (by decide))⟩)
    · intro a' w' hF' hb hd
      have e13 : a'.tmps.getD 13 undef = .agg #[.bool neg1, .slice a1 n1 c1] := hd _ 13 (Array.mem_of_getElem? (i := 0) rfl) rfl rfl
      refine if_does (wanted_free rfl) (Does.calls (r_call Try.func24 en24.1 en24.2 (map2 e13 ev_c)) (own_any neg1 a1 n1 c1 10 x1 _ (h1.below hb) (by omega)) ?_)
      rintro e w'' ⟨v', rfl, h', bb⟩
      exact ⟨_, rfl, h', bb, (fun h => absurd h (by decide))⟩
    · intro a' w' hF' hb hd
      exact if_does (wanted_free rfl) (Does.vals (r_load (hF'.at 3 rfl) (ld_Raw (vs := [.bool neg2, .slice a2 n2 c2]) (o3.below hb) rfl rfl)) ⟨rfl, Below.refl _ _, (fun h => absurd h (by decide))⟩)
    · intro a' w' hF' hb hd
      have e15 : a'.tmps.getD 15 undef = .agg #[.bool neg2, .slice a2 n2 c2] := hd _ 15 (Array.mem_of_getElem? (i := 0) rfl) rfl rfl
      refine if_does (wanted_free rfl) (Does.calls (r_call Try.func24 en24.1 en24.2 (map2 e15 ev_c)) (own_any neg2 a2 n2 c2 10 x2 _ (h2.below hb) (by omega)) ?_)
      rintro e w'' ⟨v', rfl, h', bb⟩
      exact ⟨_, rfl, h', bb, (fun h => absurd h (by decide))⟩
    · intro a' w' hF' hb hd
      obtain ⟨g, w2, ge, hr, bb, on⟩ := own_alloc (P := Try.prog) (w := w') (cs := [.bool false, .slice none 0 0]) 37 ze_Int rfl (niB (niS ni0))
      subst ge
      exact if_does (wanted_free rfl) (Does.vals (r_alloc hr) ⟨⟨_, rfl, hb.size, on⟩, bb, fun _ => rfl⟩)
    · intro a' w' hF' hb hd
      obtain ⟨g, w2, ge, hr, bb, on⟩ := own_alloc (P := Try.prog) (w := w') (cs := [.bool false, .slice none 0 0]) 37 ze_Int rfl (niB (niS ni0))
      subst ge
      exact if_does (wanted_free rfl) (Does.vals (r_alloc hr) ⟨⟨_, rfl, hb.size, on⟩, bb, fun _ => rfl⟩)
    intro a w4 hF bb hall hne
    obtain ⟨vv5, e14, hh6⟩ : ∃ v, a.tmps.getD 14 undef = v ∧ Wz w4 v (rawZ neg1 x1 10) := ⟨_, rfl, hall 1 14 rfl⟩
    obtain ⟨vv7, e16, hh8⟩ : ∃ v, a.tmps.getD 16 undef = v ∧ Wz w4 v (rawZ neg2 x2 10) := ⟨_, rfl, hall 3 16 rfl⟩
    obtain ⟨g5, e5, ge5, o5⟩ : ∃ g, a.tmps.getD 5 undef = .pointer (some ⟨g, 0, none⟩) ∧ w3.heap.size ≤ g ∧ Own w4 g [.bool false, .slice none 0 0] := hall 4 5 rfl
    have ne2_5 : g2 ≠ g5 := Nat.ne_of_lt (Nat.lt_of_lt_of_le o2.lt ge5)
    have ne3_5 : g3 ≠ g5 := Nat.ne_of_lt (Nat.lt_of_lt_of_le o3.lt ge5)
    obtain ⟨g6, e6, ge6, o6⟩ : ∃ g, a.tmps.getD 6 undef = .pointer (some ⟨g, 0, none⟩) ∧ w3.heap.size ≤ g ∧ Own w4 g [.bool false, .slice none 0 0] := hall 5 6 rfl
    have ne2_6 : g2 ≠ g6 := Nat.ne_of_lt (Nat.lt_of_lt_of_le o2.lt ge6)
    have ne3_6 : g3 ≠ g6 := Nat.ne_of_lt (Nat.lt_of_lt_of_le o3.lt ge6)
    have ne5_6 : g5 ≠ g6 := by intro e; exact hne 4 5 5 6 rfl rfl (by decide) rfl rfl (by rw [e5, e6, e])
    replace ge5 : w.heap.size ≤ g5 := Nat.le_trans bel.size ge5
    replace ge6 : w.heap.size ≤ g6 := Nat.le_trans bel.size ge6
    clear hall hne
    replace h1 := h1.below bb
    replace h2 := h2.below bb
    replace o2 := o2.below bb
    replace o3 := o3.below bb
    replace bel := below_to bel bb
    clear bb
    obtain ⟨b9, ad9, n9, c9, rfl⟩ := Wz.form hh6
    replace hF := hF.add e14
    clear e14
    obtain ⟨b10, ad10, n10, c10, rfl⟩ := Wz.form hh8
    replace hF := hF.add e16
    clear e16
    replace hF := hF.add e5
    clear e5
    replace hF := hF.add e6
    clear e6
    obtain ⟨w11, hr, tu, on⟩ := st_Int (vs := [.bool b9, .slice ad9 n9 c9]) o5 rfl rfl (ocB (ocS oc0)) (niB (niS ni0)) (o := 0) rfl
    have kp := tu.keep o5
    refine E.st hF (r_store (hF.at 1 rfl) (hF.at 3 rfl) (hr _ rfl)) rfl rfl fun a hF => ?_
    clear hr
    replace hh8 := hh8.keep kp
    replace h1 := h1.keep kp
    replace h2 := h2.keep kp
    replace hh6 := hh6.keep kp
    replace o2 := tu.own o2 ne2_5
    replace o3 := tu.own o3 ne3_5
    replace o6 := tu.own o6 (Ne.symm ne5_6)
    replace bel := tu.below bel ge5
    clear tu kp
    replace o5 := on
    clear on
    have hf12 := Wz.abso hh6
    obtain ⟨w13, hr, tu, on⟩ := st_Int (vs := [.bool b10, .slice ad10 n10 c10]) o6 rfl rfl (ocB (ocS oc0)) (niB (niS ni0)) (o := 0) rfl
    have kp := tu.keep o6
    refine E.st hF (r_store (hF.at 0 rfl) (hF.at 2 rfl) (hr _ rfl)) rfl rfl fun a hF => ?_
    clear hr
    replace h1 := h1.keep kp
    replace h2 := h2.keep kp
    replace hf12 := hf12.keep kp
    replace hh6 := hh6.keep kp
    replace hh8 := hh8.keep kp
    replace o2 := tu.own o2 ne2_6
    replace o3 := tu.own o3 ne3_6
    replace o5 := tu.own o5 ne5_6
    replace bel := tu.below bel ge6
    clear tu kp
    replace o6 := on
    clear on
    have hf14 := Wz.abso hh8
    refine E.nil ?_
    refine wp_seq ?_
    refine E.seq ?_
    refine E.opv hF (r_load (hF.at 1 rfl) (ld_Int (vs := [.bool b9, .slice ad9 n9 c9]) o5 rfl rfl)) rfl rfl rfl rfl fun a hF => ?_
    refine E.opv hF (r_load (hF.at 1 rfl) (ld_Int (vs := [.bool b10, .slice ad10 n10 c10]) o6 rfl rfl)) rfl rfl rfl rfl fun a hF => ?_
    refine E.call hF (r_call Try.func25 en25.1 en25.2 (map2 (hF.at 1 rfl) (hF.at 0 rfl))) (whDivMod_any _ _ _ _ _ hh6 hh8 10 (rawZ_limo neg1 ok1 10) (by omega)) rfl rfl rfl rfl ?_
    rintro e w15 ⟨vv16, vv17, rfl, hh18, hh19, bb⟩
    refine ⟨_, rfl, ?_⟩
    intro a hF
    replace h1 := h1.below bb
    replace h2 := h2.below bb
    replace hf12 := hf12.below bb
    replace hh6 := hh6.below bb
    replace hf14 := hf14.below bb
    replace hh8 := hh8.below bb
    replace o2 := o2.below bb
    replace o3 := o3.below bb
    replace o5 := o5.below bb
    replace o6 := o6.below bb
    replace bel := below_to bel bb
    clear bb
    obtain ⟨ad20, n20, c20, rfl, _⟩ := Wc.shape hh18
    obtain ⟨ad21, n21, c21, rfl, _⟩ := Wc.shape hh19
    refine E.opv hF (r_move (hF.at 0 rfl)) rfl rfl rfl rfl fun a hF => ?_
    refine E.opv hF (r_extract (v := .agg #[.bool (decide (Int.fdiv (rawZ neg1 x1 10) (rawZ neg2 x2 10) < 0)), .slice ad20 n20 c20]) (hF.at 0 rfl) rfl) rfl rfl rfl rfl fun a hF => ?_
    refine E.opv hF (r_extract (v := .agg #[.bool (decide (fr (rawZ neg1 x1 10) (rawZ neg2 x2 10) < 0)), .slice ad21 n21 c21]) (hF.at 1 rfl) rfl) rfl rfl rfl rfl fun a hF => ?_
    obtain ⟨g7, w22, ge7, hr, bb, o7⟩ := own_alloc (P := Try.prog) (w := w15) (cs := [.bool false, .slice none 0 0]) 37 ze_Int rfl (niB (niS ni0))
    have ne2_7 : g2 ≠ g7 := by rw [← ge7]; exact o2.ne_new
    have ne3_7 : g3 ≠ g7 := by rw [← ge7]; exact o3.ne_new
    have ne5_7 : g5 ≠ g7 := by rw [← ge7]; exact o5.ne_new
    have ne6_7 : g6 ≠ g7 := by rw [← ge7]; exact o6.ne_new
    replace ge7 : w.heap.size ≤ g7 := by rw [← ge7]; exact bel.size
    refine E.opv hF (r_alloc hr) rfl rfl rfl rfl fun a hF => ?_
    clear hr
    replace hh19 := hh19.below bb
    replace hh18 := hh18.below bb
    replace h1 := h1.below bb
    replace h2 := h2.below bb
    replace hf12 := hf12.below bb
    replace hh6 := hh6.below bb
    replace hf14 := hf14.below bb
    replace hh8 := hh8.below bb
    replace o2 := o2.below bb
    replace o3 := o3.below bb
    replace o5 := o5.below bb
    replace o6 := o6.below bb
    replace bel := below_to bel bb
    clear bb
    obtain ⟨g8, w23, ge8, hr, bb, o8⟩ := own_alloc (P := Try.prog) (w := w22) (cs := [.bool false, .slice none 0 0]) 37 ze_Int rfl (niB (niS ni0))
    have ne2_8 : g2 ≠ g8 := by rw [← ge8]; exact o2.ne_new
    have ne3_8 : g3 ≠ g8 := by rw [← ge8]; exact o3.ne_new
    have ne5_8 : g5 ≠ g8 := by rw [← ge8]; exact o5.ne_new
    have ne6_8 : g6 ≠ g8 := by rw [← ge8]; exact o6.ne_new
    have ne7_8 : g7 ≠ g8 := by rw [← ge8]; exact o7.ne_new
    replace ge8 : w.heap.size ≤ g8 := by rw [← ge8]; exact bel.size
    refine E.opv hF (r_alloc hr) rfl rfl rfl rfl fun a hF => ?_
    clear hr
    replace hh19 := hh19.below bb
    replace hh18 := hh18.below bb
    replace h1 := h1.below bb
    replace h2 := h2.below bb
    replace hf12 := hf12.below bb
    replace hh6 := hh6.below bb
    replace hf14 := hf14.below bb
    replace hh8 := hh8.below bb
    replace o2 := o2.below bb
    replace o3 := o3.below bb
    replace o5 := o5.below bb
    replace o6 := o6.below bb
    replace o7 := o7.below bb
    replace bel := below_to bel bb
    clear bb
    obtain ⟨w24, hr, tu, on⟩ := st_Int (vs := [.bool (decide (Int.fdiv (rawZ neg1 x1 10) (rawZ neg2 x2 10) < 0)), .slice ad20 n20 c20]) o7 rfl rfl (ocB (ocS oc0)) (niB (niS ni0)) (o := 0) rfl
    have kp := tu.keep o7
    refine E.st hF (r_store (hF.at 1 rfl) (hF.at 3 rfl) (hr _ rfl)) rfl rfl fun a hF => ?_
    clear hr
    replace hh19 := hh19.keep kp
    replace h1 := h1.keep kp
    replace h2 := h2.keep kp
    replace hf12 := hf12.keep kp
    replace hh6 := hh6.keep kp
    replace hf14 := hf14.keep kp
    replace hh8 := hh8.keep kp
    replace hh18 := hh18.keep kp
    replace o2 := tu.own o2 ne2_7
    replace o3 := tu.own o3 ne3_7
    replace o5 := tu.own o5 ne5_7
    replace o6 := tu.own o6 ne6_7
    replace o8 := tu.own o8 (Ne.symm ne7_8)
    replace bel := tu.below bel ge7
    clear tu kp
    replace o7 := on
    clear on
    have hf25 := Wc.abs hh18
    obtain ⟨w26, hr, tu, on⟩ := st_Int (vs := [.bool (decide (fr (rawZ neg1 x1 10) (rawZ neg2 x2 10) < 0)), .slice ad21 n21 c21]) o8 rfl rfl (ocB (ocS oc0)) (niB (niS ni0)) (o := 0) rfl
    have kp := tu.keep o8
    refine E.st hF (r_store (hF.at 0 rfl) (hF.at 2 rfl) (hr _ rfl)) rfl rfl fun a hF => ?_
    clear hr
    replace h1 := h1.keep kp
    replace h2 := h2.keep kp
    replace hf12 := hf12.keep kp
    replace hh6 := hh6.keep kp
    replace hf14 := hf14.keep kp
    replace hh8 := hh8.keep kp
    replace hf25 := hf25.keep kp
    replace hh18 := hh18.keep kp
    replace hh19 := hh19.keep kp
    replace o2 := tu.own o2 ne2_8
    replace o3 := tu.own o3 ne3_8
    replace o5 := tu.own o5 ne5_8
    replace o6 := tu.own o6 ne6_8
    replace o7 := tu.own o7 ne7_8
    replace bel := tu.below bel ge8
    clear tu kp
    replace o8 := on
    clear on
    have hf27 := Wc.abs hh19
    refine E.nil ?_
    refine wp_seq ?_
    refine E.drawn2 11 mixed hF [some 24, some 25, some 26, some 27, some 28, some 23, some 29, some 30, some 9, some 10, none] [(fun _ v => v = .agg #[.bool neg1, .slice a1 n1 c1]), (fun w v => Rz w v (rawZ neg1 x1 10)), (fun _ v => v = .agg #[.bool neg2, .slice a2 n2 c2]), (fun w v => Rz w v (rawZ neg2 x2 10)), (fun w v => ∃ q r, v = .tuple #[q, r] ∧ Rz w q (Int.fdiv (rawZ neg1 x1 10) (rawZ neg2 x2 10)) ∧ Rz w r (fr (rawZ neg1 x1 10) (rawZ neg2 x2 10))), (fun w v => ∃ q r, v = .tuple #[q, r] ∧ Rz w q (Int.fdiv (rawZ neg1 x1 10) (rawZ neg2 x2 10)) ∧ Rz w r (fr (rawZ neg1 x1 10) (rawZ neg2 x2 10))), (fun w v => Rz w v (Int.fdiv (rawZ neg1 x1 10) (rawZ neg2 x2 10))), (fun w v => Rz w v (fr (rawZ neg1 x1 10) (rawZ neg2 x2 10))), (fun _ _ => True), (fun _ _ => True), (fun _ _ => True)] [8, 9] [⟨10, 8, 6⟩] [[], [], [], [], [], [], [], [], [.bool false, .slice none 0 0], [.bool false, .slice none 0 0], []] (by decide +kernel) (by decide +kernel) rfl rfl rfl (by decide +kernel) (by decide +kernel) ⟨(Mk.eq _), (fun _ _ _ h kp => h.keep kp), (Mk.eq _), (fun _ _ _ h kp => h.keep kp), (fun _ _ _ ⟨q, r, e, h1, h2⟩ kp => ⟨q, r, e, h1.keep kp, h2.keep kp⟩), (fun _ _ _ ⟨q, r, e, h1, h2⟩ kp => ⟨q, r, e, h1.keep kp, h2.keep kp⟩), (fun _ _ _ h kp => h.keep kp), (fun _ _ _ h kp => h.keep kp), Mk.any, Mk.any, Mk.any, trivial⟩ ⟨?_, ?_, ?_, ?_, ?_, ?_, ?_, ?_, ?_, ?_, ?_, trivial⟩ ?_
    · refine step2_val rfl ?_
      intro a' w' hF' hb hd
      exact if_does (wanted_free rfl) (Does.vals (r_load (hF'.at 16 rfl) (ld_Raw (vs := [.bool neg1, .slice a1 n1 c1]) (o2.below hb) rfl rfl)) ⟨fun _ => rfl, Below.refl _ _, (fun h => absurd h (by decide))⟩)
    · refine step2_val rfl ?_
      intro a' w' hF' hb hd
      have e24 : a'.tmps.getD 24 undef = .agg #[.bool neg1, .slice a1 n1 c1] := hd _ 24 (Array.mem_of_getElem? (i := 0) rfl) rfl rfl rfl
      refine if_does (wanted_free rfl) (Does.calls (r_call Try.func27 en27.1 en27.2 (map2 e24 ev_c)) (told_any neg1 a1 n1 c1 10 x1 _ (h1.below hb) (by omega)) ?_)
      rintro e w'' ⟨v', rfl, h', bb⟩
      exact ⟨_, rfl, fun _ => h', bb, (fun h => absurd h (by decide))⟩
    · refine step2_val rfl ?_
      intro a' w' hF' hb hd
      exact if_does (wanted_free rfl) (Does.vals (r_load (hF'.at 15 rfl) (ld_Raw (vs := [.bool neg2, .slice a2 n2 c2]) (o3.below hb) rfl rfl)) ⟨fun _ => rfl, Below.refl _ _, (fun h => absurd h (by decide))⟩)
    · refine step2_val rfl ?_
      intro a' w' hF' hb hd
      have e26 : a'.tmps.getD 26 undef = .agg #[.bool neg2, .slice a2 n2 c2] := hd _ 26 (Array.mem_of_getElem? (i := 0) rfl) rfl rfl rfl
      refine if_does (wanted_free rfl) (Does.calls (r_call Try.func27 en27.1 en27.2 (map2 e26 ev_c)) (told_any neg2 a2 n2 c2 10 x2 _ (h2.below hb) (by omega)) ?_)
      rintro e w'' ⟨v', rfl, h', bb⟩
      exact ⟨_, rfl, fun _ => h', bb, (fun h => absurd h (by decide))⟩
    · refine step2_val rfl ?_
      intro a' w' hF' hb hd
      obtain ⟨v25_0, e25, h25_1⟩ : ∃ v, a'.tmps.getD 25 undef = v ∧ Rz w' v (rawZ neg1 x1 10) := ⟨_, rfl, hd _ 25 (Array.mem_of_getElem? (i := 0) rfl) rfl rfl rfl⟩
      obtain ⟨v27_0, e27, h27_1⟩ : ∃ v, a'.tmps.getD 27 undef = v ∧ Rz w' v (rawZ neg2 x2 10) := ⟨_, rfl, hd _ 27 (Array.mem_of_getElem? (i := 1) rfl) rfl rfl rfl⟩
      refine if_does (wanted_free rfl) (Does.calls (r_call Try.func26 en26.1 en26.2 (map2 e25 e27)) (rDivMod_any _ _ _ _ 10 10 _ h25_1 h27_1 (rawZ_limo neg1 ok1 10) (rawZ_limo neg2 ok2 10) (by omega) (by omega)) ?_)
      rintro e w'' ⟨v1', v2', rfl, h1', h2', bb⟩
      exact ⟨_, rfl, fun _ => ⟨v1', v2', rfl, h1', h2'⟩, bb, (fun h => absurd h (by decide))⟩
    · refine step2_val rfl ?_
      intro a' w' hF' hb hd
      obtain ⟨v28_0, v28_1, e28, h28_2, h28_3⟩ : (fun (w : World) (v : Value) => ∃ q r, v = .tuple #[q, r] ∧ Rz w q (Int.fdiv (rawZ neg1 x1 10) (rawZ neg2 x2 10)) ∧ Rz w r (fr (rawZ neg1 x1 10) (rawZ neg2 x2 10))) w' (a'.tmps.getD 28 undef) := hd _ 28 (Array.mem_of_getElem? (i := 0) rfl) rfl rfl rfl
      exact if_does (wanted_free rfl) (Does.vals (r_move e28) ⟨fun _ => ⟨_, _, rfl, h28_2, h28_3⟩, Below.refl _ _, (fun h => absurd h (by decide))⟩)
    · refine step2_val rfl ?_
      intro a' w' hF' hb hd
      obtain ⟨v23, e23, h23⟩ : ∃ v, a'.tmps.getD 23 undef = v ∧ ∃ q r, v = .tuple #[q, r] ∧ Rz w' q (Int.fdiv (rawZ neg1 x1 10) (rawZ neg2 x2 10)) ∧ Rz w' r (fr (rawZ neg1 x1 10) (rawZ neg2 x2 10)) := ⟨_, rfl, hd _ 23 (Array.mem_of_getElem? (i := 0) rfl) rfl rfl rfl⟩
      obtain ⟨v23a, v23b, rfl, h23a, h23b⟩ := h23
      exact if_does (wanted_free rfl) (Does.vals (r_extract (v := v23a) e23 rfl) ⟨fun _ => h23a, Below.refl _ _, (fun h => absurd h (by decide))⟩)
    · refine step2_val rfl ?_
      intro a' w' hF' hb hd
      obtain ⟨v23, e23, h23⟩ : ∃ v, a'.tmps.getD 23 undef = v ∧ ∃ q r, v = .tuple #[q, r] ∧ Rz w' q (Int.fdiv (rawZ neg1 x1 10) (rawZ neg2 x2 10)) ∧ Rz w' r (fr (rawZ neg1 x1 10) (rawZ neg2 x2 10)) := ⟨_, rfl, hd _ 23 (Array.mem_of_getElem? (i := 0) rfl) rfl rfl rfl⟩
      obtain ⟨v23a, v23b, rfl, h23a, h23b⟩ := h23
      exact if_does (wanted_free rfl) (Does.vals (r_extract (v := v23b) e23 rfl) ⟨fun _ => h23b, Below.refl _ _, (fun h => absurd h (by decide))⟩)
    · refine step2_val rfl ?_
      intro a' w' hF' hb hd
      obtain ⟨g, w2, ge, hr, bb, on⟩ := own_alloc (P := Try.prog) (w := w') (cs := [.bool false, .slice none 0 0]) 43 ze_RInt rfl (niB (niS ni0))
      subst ge
      exact if_does (wanted_free rfl) (Does.vals (r_alloc hr) ⟨(fun h => absurd h (by decide)), bb, fun _ => ⟨rfl, on⟩⟩)
    · refine step2_val rfl ?_
      intro a' w' hF' hb hd
      obtain ⟨g, w2, ge, hr, bb, on⟩ := own_alloc (P := Try.prog) (w := w') (cs := [.bool false, .slice none 0 0]) 43 ze_RInt rfl (niB (niS ni0))
      subst ge
      exact if_does (wanted_free rfl) (Does.vals (r_alloc hr) ⟨(fun h => absurd h (by decide)), bb, fun _ => ⟨rfl, on⟩⟩)
    · exact step2_sto ⟨⟨10, 8, 6⟩, by simp, rfl⟩ (b := 8) (v := 6) rfl rfl rfl rfl rfl rfl sz_RInt rfl (by decide) (by decide) (fun _ _ h => cellsBS (Rz.form h))
    intro a w28 hF bb hall hblk hne
    obtain ⟨vv29, e29, hh30⟩ : ∃ v, a.tmps.getD 29 undef = v ∧ Rz w28 v (Int.fdiv (rawZ neg1 x1 10) (rawZ neg2 x2 10)) := ⟨_, rfl, hall 6 29 (by decide) rfl⟩
    obtain ⟨b31, ad31, n31, c31, rfl⟩ := Rz.form hh30
    obtain ⟨vv32, e30, hh33⟩ : ∃ v, a.tmps.getD 30 undef = v ∧ Rz w28 v (fr (rawZ neg1 x1 10) (rawZ neg2 x2 10)) := ⟨_, rfl, hall 7 30 (by decide) rfl⟩
    obtain ⟨b34, ad34, n34, c34, rfl⟩ := Rz.form hh33
    obtain ⟨g9, cs9, e9, ge9, o9, hc9⟩ := hblk 8 9 (by decide) rfl
    have hc9 := (hc9.2 ⟨10, 8, 6⟩ (by simp) rfl).2 rfl 29 rfl
    rw [e29] at hc9
    obtain rfl : cs9 = [.bool b31, .slice ad31 n31 c31] := by have hx := congrArg Array.toList hc9; exact hx.symm
    clear hc9
    have ne5_9 : g5 ≠ g9 := Nat.ne_of_lt (Nat.lt_of_lt_of_le o5.lt ge9)
    have ne6_9 : g6 ≠ g9 := Nat.ne_of_lt (Nat.lt_of_lt_of_le o6.lt ge9)
    have ne7_9 : g7 ≠ g9 := Nat.ne_of_lt (Nat.lt_of_lt_of_le o7.lt ge9)
    have ne8_9 : g8 ≠ g9 := Nat.ne_of_lt (Nat.lt_of_lt_of_le o8.lt ge9)
    obtain ⟨g10, cs10, e10, ge10, o10, hc10⟩ := hblk 9 10 (by decide) rfl
    obtain rfl : cs10 = [.bool false, .slice none 0 0] := hc10.1 (notBlk_spec rfl)
    clear hc10
    have ne5_10 : g5 ≠ g10 := Nat.ne_of_lt (Nat.lt_of_lt_of_le o5.lt ge10)
    have ne6_10 : g6 ≠ g10 := Nat.ne_of_lt (Nat.lt_of_lt_of_le o6.lt ge10)
    have ne7_10 : g7 ≠ g10 := Nat.ne_of_lt (Nat.lt_of_lt_of_le o7.lt ge10)
    have ne8_10 : g8 ≠ g10 := Nat.ne_of_lt (Nat.lt_of_lt_of_le o8.lt ge10)
    have ne9_10 : g9 ≠ g10 := by intro e; exact hne 8 9 9 10 (by decide) (by decide) (by decide) rfl rfl (by rw [e9, e10, e])
    replace ge9 : w.heap.size ≤ g9 := Nat.le_trans bel.size ge9
    replace ge10 : w.heap.size ≤ g10 := Nat.le_trans bel.size ge10
    clear hall hblk hne
    replace hf12 := hf12.below bb
    replace hh6 := hh6.below bb
    replace hf14 := hf14.below bb
    replace hh8 := hh8.below bb
    replace hf25 := hf25.below bb
    replace hh18 := hh18.below bb
    replace hf27 := hf27.below bb
    replace hh19 := hh19.below bb
    replace o5 := o5.below bb
    replace o6 := o6.below bb
    replace o7 := o7.below bb
    replace o8 := o8.below bb
    replace bel := below_to bel bb
    clear bb
    have hf35 := Rz.abs hh30
    clear e29
    replace hF := hF.add e30
    clear e30
    replace hF := hF.add e9
    clear e9
    replace hF := hF.add e10
    clear e10
    obtain ⟨w36, hr, tu, on⟩ := st_RInt (vs := [.bool b34, .slice ad34 n34 c34]) o10 rfl rfl (ocB (ocS oc0)) (niB (niS ni0)) (o := 0) rfl
    have kp := tu.keep o10
    refine E.st hF (r_store (hF.at 0 rfl) (hF.at 2 rfl) (hr _ rfl)) rfl rfl fun a hF => ?_
    clear hr
    replace hf12 := hf12.keep kp
    replace hh6 := hh6.keep kp
    replace hf14 := hf14.keep kp
    replace hh8 := hh8.keep kp
    replace hf25 := hf25.keep kp
    replace hh18 := hh18.keep kp
    replace hf27 := hf27.keep kp
    replace hh19 := hh19.keep kp
    replace hf35 := hf35.keep kp
    replace hh30 := hh30.keep kp
    replace hh33 := hh33.keep kp
    replace o5 := tu.own o5 ne5_10
    replace o6 := tu.own o6 ne6_10
    replace o7 := tu.own o7 ne7_10
    replace o8 := tu.own o8 ne8_10
    replace o9 := tu.own o9 ne9_10
    replace bel := tu.below bel ge10
    clear tu kp
    replace o10 := on
    clear on
    have hf37 := Rz.abs hh33
    refine E.nil ?_
    refine wp_seq ?_
    refine wp_seq ?_
    refine E.seq ?_
    refine E.opv hF (r_load (hF.at 4 rfl) (ld_Int (vs := [.bool (decide (Int.fdiv (rawZ neg1 x1 10) (rawZ neg2 x2 10) < 0)), .slice ad20 n20 c20]) o7 rfl rfl)) rfl rfl rfl rfl fun a hF => ?_
    refine E.opv hF (r_load (hF.at 2 rfl) (ld_RInt (vs := [.bool b31, .slice ad31 n31 c31]) o9 rfl rfl)) rfl rfl rfl rfl fun a hF => ?_
    refine E.call hF (r_call Try.func28 en28.1 en28.2 (map2 (hF.at 1 rfl) (hF.at 0 rfl))) (Is3_any _ _ (Int.fdiv (rawZ neg1 x1 10) (rawZ neg2 x2 10)) _ hh18 hh30) rfl rfl rfl rfl ?_
    rintro e w38 ⟨rfl, bb⟩
    refine ⟨_, rfl, ?_⟩
    intro a hF
    replace hf12 := hf12.below bb
    replace hh6 := hh6.below bb
    replace hf14 := hf14.below bb
    replace hh8 := hh8.below bb
    replace hf25 := hf25.below bb
    replace hh18 := hh18.below bb
    replace hf27 := hf27.below bb
    replace hh19 := hh19.below bb
    replace hf37 := hf37.below bb
    replace hh33 := hh33.below bb
    replace o5 := o5.below bb
    replace o6 := o6.below bb
    replace o7 := o7.below bb
    replace o8 := o8.below bb
    replace o10 := o10.below bb
    replace bel := below_to bel bb
    clear bb
    refine E.opv hF (r_bin (hF.at 0 rfl) ev_c eg_scalar (bi_int (ic_neq (c := false) (by simp)) (by simp))) rfl rfl rfl rfl fun a hF => ?_
    refine E.opv hF (r_move (hF.at 0 rfl)) rfl rfl rfl rfl fun a hF => ?_
    refine E.opvg hF (r_load (hF.at 8 rfl) (ld_Int (vs := [.bool (decide (fr (rawZ neg1 x1 10) (rawZ neg2 x2 10) < 0)), .slice ad21 n21 c21]) o8 rfl rfl)) (wanted_by rfl rfl (hF.at 0 rfl) rfl) rfl rfl rfl fun a hF => ?_
    refine E.opvg hF (r_load (hF.at 6 rfl) (ld_RInt (vs := [.bool b34, .slice ad34 n34 c34]) o10 rfl rfl)) (wanted_by rfl rfl (hF.at 1 rfl) rfl) rfl rfl rfl fun a hF => ?_
    refine E.callg hF (r_call Try.func28 en28.1 en28.2 (map2 (hF.at 1 rfl) (hF.at 0 rfl))) (Is3_any _ _ (fr (rawZ neg1 x1 10) (rawZ neg2 x2 10)) _ hh19 hh33) (wanted_by rfl rfl (hF.at 2 rfl) rfl) rfl rfl rfl ?_
    rintro e w39 ⟨rfl, bb⟩
    refine ⟨_, rfl, ?_⟩
    intro a hF
    replace hf12 := hf12.below bb
    replace hh6 := hh6.below bb
    replace hf14 := hf14.below bb
    replace hh8 := hh8.below bb
    replace hf25 := hf25.below bb
    replace hh18 := hh18.below bb
    replace hf27 := hf27.below bb
    replace hh19 := hh19.below bb
    replace o5 := o5.below bb
    replace o6 := o6.below bb
    replace o7 := o7.below bb
    replace o8 := o8.below bb
    replace bel := below_to bel bb
    clear bb
    refine E.opvg hF (r_bin (hF.at 0 rfl) ev_c eg_scalar (bi_int (ic_neq (c := false) (by simp)) (by simp))) (wanted_by rfl rfl (hF.at 3 rfl) rfl) rfl rfl rfl fun a hF => ?_
    refine E.opv hF (r_pick_f (hF.at 4 rfl) (hF.at 0 rfl)) rfl rfl rfl rfl fun a hF => ?_
    refine E.nil ?_
    refine wp_cond_false (hF.at 0 rfl) ?_
    refine wp_skip ?_
    refine E.norm ?_
    refine wp_seq ?_
    refine E.drawn 29 mixed hF [41, 42, 43, 44, 45, 46, 47, 48, 49, 50, 51, 52, 53, 54, 55, 56, 57, 58, 59, 60, 61, 62, 63, 64, 65, 66, 67, 68, 69] [(fun _ v => v = .agg #[.bool b10, .slice ad10 n10 c10]), (fun _ v => v = .int .i64 (sz (rawZ neg2 x2 10))), (fun _ v => v = .bool false), (fun _ v => v = .bool false), (fun _ v => v = .agg #[.bool (decide (Int.fdiv (rawZ neg1 x1 10) (rawZ neg2 x2 10) < 0)), .slice ad20 n20 c20]), (fun _ v => v = .agg #[.bool b10, .slice ad10 n10 c10]), (fun w v => Wc w v ((Int.fdiv (rawZ neg1 x1 10) (rawZ neg2 x2 10)) * (rawZ neg2 x2 10))), (fun _ v => v = .agg #[.bool (decide (fr (rawZ neg1 x1 10) (rawZ neg2 x2 10) < 0)), .slice ad21 n21 c21]), (fun w v => Wc w v (((Int.fdiv (rawZ neg1 x1 10) (rawZ neg2 x2 10)) * (rawZ neg2 x2 10)) + (fr (rawZ neg1 x1 10) (rawZ neg2 x2 10)))), (fun _ v => v = .agg #[.bool b9, .slice ad9 n9 c9]), (fun _ v => v = .int .i64 (ci (((Int.fdiv (rawZ neg1 x1 10) (rawZ neg2 x2 10)) * (rawZ neg2 x2 10)) + (fr (rawZ neg1 x1 10) (rawZ neg2 x2 10))) (rawZ neg1 x1 10))), (fun _ v => v = .bool true), (fun _ v => v = .bool true), (fun _ v => v = .agg #[.bool (decide (fr (rawZ neg1 x1 10) (rawZ neg2 x2 10) < 0)), .slice ad21 n21 c21]), (fun _ v => v = .int .i64 (sz (fr (rawZ neg1 x1 10) (rawZ neg2 x2 10)))), (fun _ v => v = .agg #[.bool b10, .slice ad10 n10 c10]), (fun _ v => v = .int .i64 (sz (rawZ neg2 x2 10))), (fun _ v => v = .int .i64 ((sz (fr (rawZ neg1 x1 10) (rawZ neg2 x2 10))) * (sz (rawZ neg2 x2 10)))), (fun _ v => v = .bool true), (fun _ v => v = .bool true), (fun _ v => v = .bool true), (fun _ v => v = .pointer (some ⟨g8, 1, none⟩)), (fun _ v => v = .slice ad21 n21 c21), (fun _ v => v = .pointer (some ⟨g6, 1, none⟩)), (fun _ v => v = .slice ad10 n10 c10), (fun _ v => v = .int .i64 (c3 (Int.natAbs (fr (rawZ neg1 x1 10) (rawZ neg2 x2 10))) (Int.natAbs (rawZ neg2 x2 10)))), (fun _ v => v = .bool true), (fun _ v => v = .bool true), (fun _ v => v = .bool true)] [] (by decide +kernel) (by decide +kernel) rfl rfl rfl ⟨(Mb.eq _), (Mb.eq _), (Mb.eq _), (Mb.eq _), (Mb.eq _), (Mb.eq _), (fun _ _ _ h hb => h.below hb), (Mb.eq _), (fun _ _ _ h hb => h.below hb), (Mb.eq _), (Mb.eq _), (Mb.eq _), (Mb.eq _), (Mb.eq _), (Mb.eq _), (Mb.eq _), (Mb.eq _), (Mb.eq _), (Mb.eq _), (Mb.eq _), (Mb.eq _), (Mb.eq _), (Mb.eq _), (Mb.eq _), (Mb.eq _), (Mb.eq _), (Mb.eq _), (Mb.eq _), (Mb.eq _), trivial⟩ trivial ⟨?_, ?_, ?_, ?_, ?_, ?_, ?_, ?_, ?_, ?_, ?_, ?_, ?_, ?_, ?_, ?_, ?_, ?_, ?_, ?_, ?_, ?_, ?_, ?_, ?_, ?_, ?_, ?_, ?_, trivial⟩ ?_
    · intro a' w' hF' hb hd
      exact if_does (wanted_free rfl) (Does.vals (r_load (hF'.at 21 rfl) (ld_Int (vs := [.bool b10, .slice ad10 n10 c10]) (o6.below hb) rfl rfl)) ⟨rfl, Below.refl _ _, (fun h => absurd h (by decide))⟩)
    · intro a' w' hF' hb hd
      have e41 : a'.tmps.getD 41 undef = .agg #[.bool b10, .slice ad10 n10 c10] := hd _ 41 (Array.mem_of_getElem? (i := 0) rfl) rfl rfl
      refine if_does (wanted_free rfl) (Does.calls (r_call Try.func29 en29.1 en29.2 (map1 e41)) (whSign_any _ _ _ (hh8.below hb)) ?_)
      rintro e w'' ⟨rfl, bb⟩
      exact ⟨_, rfl, rfl, bb, (fun h => absurd h (by decide))⟩
    · intro a' w' hF' hb hd
      have e42 : a'.tmps.getD 42 undef = .int .i64 (sz (rawZ neg2 x2 10)) := hd _ 42 (Array.mem_of_getElem? (i := 0) rfl) rfl rfl
      exact if_does (wanted_free rfl) (Does.vals (r_bin e42 ev_c eg_scalar (bi_int (ic_eql (c := false) (dec_f (fun e => h0 (sz_eq0.1 e)))) (by simp))) ⟨rfl, Below.refl _ _, (fun h => absurd h (by decide))⟩)
    · intro a' w' hF' hb hd
      have e43 : a'.tmps.getD 43 undef = .bool false := hd _ 43 (Array.mem_of_getElem? (i := 0) rfl) rfl rfl
      exact if_does (wanted_free rfl) (Does.vals (r_move e43) ⟨rfl, Below.refl _ _, (fun h => absurd h (by decide))⟩)
    · intro a' w' hF' hb hd
      have e44 : a'.tmps.getD 44 undef = .bool false := hd _ 44 (Array.mem_of_getElem? (i := 0) rfl) rfl rfl
      exact if_does (wanted_by rfl rfl e44 rfl) (Does.vals (r_load (hF'.at 14 rfl) (ld_Int (vs := [.bool (decide (Int.fdiv (rawZ neg1 x1 10) (rawZ neg2 x2 10) < 0)), .slice ad20 n20 c20]) (o7.below hb) rfl rfl)) ⟨rfl, Below.refl _ _, (fun h => absurd h (by decide))⟩)
    · intro a' w' hF' hb hd
      have e44 : a'.tmps.getD 44 undef = .bool false := hd _ 44 (Array.mem_of_getElem? (i := 0) rfl) rfl rfl
      exact if_does (wanted_by rfl rfl e44 rfl) (Does.vals (r_load (hF'.at 21 rfl) (ld_Int (vs := [.bool b10, .slice ad10 n10 c10]) (o6.below hb) rfl rfl)) ⟨rfl, Below.refl _ _, (fun h => absurd h (by decide))⟩)
    · intro a' w' hF' hb hd
      have e44 : a'.tmps.getD 44 undef = .bool false := hd _ 44 (Array.mem_of_getElem? (i := 2) rfl) rfl rfl
      have e45 : a'.tmps.getD 45 undef = .agg #[.bool (decide (Int.fdiv (rawZ neg1 x1 10) (rawZ neg2 x2 10) < 0)), .slice ad20 n20 c20] := hd _ 45 (Array.mem_of_getElem? (i := 0) rfl) rfl rfl
      have e46 : a'.tmps.getD 46 undef = .agg #[.bool b10, .slice ad10 n10 c10] := hd _ 46 (Array.mem_of_getElem? (i := 1) rfl) rfl rfl
      refine if_does (wanted_by rfl rfl e44 rfl) (Does.calls (r_call Try.func30 en30.1 en30.2 (map2 e45 e46)) (whMul_any _ _ _ _ (10 + 1) 10 _ (Wc.wz (hh18.below hb)) (hh8.below hb) (limz_fdiv (rawZ neg2 x2 10) (rawZ_limo neg1 ok1 10)) (rawZ_limo neg2 ok2 10) (by omega) (by omega)) ?_)
      rintro e w'' ⟨v', rfl, h', bb⟩
      exact ⟨_, rfl, h', bb, (fun h => absurd h (by decide))⟩
    · intro a' w' hF' hb hd
      have e44 : a'.tmps.getD 44 undef = .bool false := hd _ 44 (Array.mem_of_getElem? (i := 0) rfl) rfl rfl
      exact if_does (wanted_by rfl rfl e44 rfl) (Does.vals (r_load (hF'.at 13 rfl) (ld_Int (vs := [.bool (decide (fr (rawZ neg1 x1 10) (rawZ neg2 x2 10) < 0)), .slice ad21 n21 c21]) (o8.below hb) rfl rfl)) ⟨rfl, Below.refl _ _, (fun h => absurd h (by decide))⟩)
    · intro a' w' hF' hb hd
      have e44 : a'.tmps.getD 44 undef = .bool false := hd _ 44 (Array.mem_of_getElem? (i := 3) rfl) rfl rfl
      obtain ⟨v47_0, e47, h47_1⟩ : ∃ v, a'.tmps.getD 47 undef = v ∧ Wc w' v ((Int.fdiv (rawZ neg1 x1 10) (rawZ neg2 x2 10)) * (rawZ neg2 x2 10)) := ⟨_, rfl, hd _ 47 (Array.mem_of_getElem? (i := 0) rfl) rfl rfl⟩
      have e48 : a'.tmps.getD 48 undef = .agg #[.bool (decide (fr (rawZ neg1 x1 10) (rawZ neg2 x2 10) < 0)), .slice ad21 n21 c21] := hd _ 48 (Array.mem_of_getElem? (i := 1) rfl) rfl rfl
      refine if_does (wanted_by rfl rfl e44 rfl) (Does.calls (r_call Try.func31 en31.1 en31.2 (map2 e47 e48)) (whAdd_any _ _ _ _ ((10 + 1) + 10) 10 _ (Wc.wz h47_1) (Wc.wz (hh19.below hb)) (limz_mul (limz_fdiv (rawZ neg2 x2 10) (rawZ_limo neg1 ok1 10)) (rawZ_limo neg2 ok2 10)) (limz_fr (rawZ_limo neg1 ok1 10) (rawZ_limo neg2 ok2 10)) (by omega) (by omega)) ?_)
      rintro e w'' ⟨v', rfl, h', bb⟩
      exact ⟨_, rfl, h', bb, (fun h => absurd h (by decide))⟩
    · intro a' w' hF' hb hd
      have e44 : a'.tmps.getD 44 undef = .bool false := hd _ 44 (Array.mem_of_getElem? (i := 0) rfl) rfl rfl
      exact if_does (wanted_by rfl rfl e44 rfl) (Does.vals (r_load (hF'.at 22 rfl) (ld_Int (vs := [.bool b9, .slice ad9 n9 c9]) (o5.below hb) rfl rfl)) ⟨rfl, Below.refl _ _, (fun h => absurd h (by decide))⟩)
    · intro a' w' hF' hb hd
      have e44 : a'.tmps.getD 44 undef = .bool false := hd _ 44 (Array.mem_of_getElem? (i := 3) rfl) rfl rfl
      obtain ⟨v49_0, e49, h49_1⟩ : ∃ v, a'.tmps.getD 49 undef = v ∧ Wc w' v (((Int.fdiv (rawZ neg1 x1 10) (rawZ neg2 x2 10)) * (rawZ neg2 x2 10)) + (fr (rawZ neg1 x1 10) (rawZ neg2 x2 10))) := ⟨_, rfl, hd _ 49 (Array.mem_of_getElem? (i := 0) rfl) rfl rfl⟩
      have e50 : a'.tmps.getD 50 undef = .agg #[.bool b9, .slice ad9 n9 c9] := hd _ 50 (Array.mem_of_getElem? (i := 1) rfl) rfl rfl
      refine if_does (wanted_by rfl rfl e44 rfl) (Does.calls (r_call Try.func32 en32.1 en32.2 (map2 e49 e50)) (whCmp_any _ _ _ _ _ (Wc.wz h49_1) (hh6.below hb)) ?_)
      rintro e w'' ⟨rfl, bb⟩
      exact ⟨_, rfl, rfl, bb, (fun h => absurd h (by decide))⟩
    · intro a' w' hF' hb hd
      have e44 : a'.tmps.getD 44 undef = .bool false := hd _ 44 (Array.mem_of_getElem? (i := 1) rfl) rfl rfl
      have e51 : a'.tmps.getD 51 undef = .int .i64 (ci (((Int.fdiv (rawZ neg1 x1 10) (rawZ neg2 x2 10)) * (rawZ neg2 x2 10)) + (fr (rawZ neg1 x1 10) (rawZ neg2 x2 10))) (rawZ neg1 x1 10)) := hd _ 51 (Array.mem_of_getElem? (i := 0) rfl) rfl rfl
      exact if_does (wanted_by rfl rfl e44 rfl) (Does.vals (r_bin e51 ev_c eg_scalar (bi_int (ic_eql (c := true) (eqx (ci_same ((fr_eq _ _).trans (if_neg h0))))) (by simp))) ⟨rfl, Below.refl _ _, (fun h => absurd h (by decide))⟩)
    · intro a' w' hF' hb hd
      have e44 : a'.tmps.getD 44 undef = .bool false := hd _ 44 (Array.mem_of_getElem? (i := 2) rfl) rfl rfl
      have e52 : a'.tmps.getD 52 undef = .bool true := hd _ 52 (Array.mem_of_getElem? (i := 0) rfl) rfl rfl
      exact if_does (wanted_by rfl rfl e44 rfl) (Does.vals (r_move e52) ⟨rfl, Below.refl _ _, (fun h => absurd h (by decide))⟩)
    · intro a' w' hF' hb hd
      have e53 : a'.tmps.getD 53 undef = .bool true := hd _ 53 (Array.mem_of_getElem? (i := 0) rfl) rfl rfl
      exact if_does (wanted_by rfl rfl e53 rfl) (Does.vals (r_load (hF'.at 13 rfl) (ld_Int (vs := [.bool (decide (fr (rawZ neg1 x1 10) (rawZ neg2 x2 10) < 0)), .slice ad21 n21 c21]) (o8.below hb) rfl rfl)) ⟨rfl, Below.refl _ _, (fun h => absurd h (by decide))⟩)
    · intro a' w' hF' hb hd
      have e53 : a'.tmps.getD 53 undef = .bool true := hd _ 53 (Array.mem_of_getElem? (i := 1) rfl) rfl rfl
      have e54 : a'.tmps.getD 54 undef = .agg #[.bool (decide (fr (rawZ neg1 x1 10) (rawZ neg2 x2 10) < 0)), .slice ad21 n21 c21] := hd _ 54 (Array.mem_of_getElem? (i := 0) rfl) rfl rfl
      refine if_does (wanted_by rfl rfl e53 rfl) (Does.calls (r_call Try.func29 en29.1 en29.2 (map1 e54)) (whSign_any _ _ _ (Wc.wz (hh19.below hb))) ?_)
      rintro e w'' ⟨rfl, bb⟩
      exact ⟨_, rfl, rfl, bb, (fun h => absurd h (by decide))⟩
    · intro a' w' hF' hb hd
      have e53 : a'.tmps.getD 53 undef = .bool true := hd _ 53 (Array.mem_of_getElem? (i := 0) rfl) rfl rfl
      exact if_does (wanted_by rfl rfl e53 rfl) (Does.vals (r_load (hF'.at 21 rfl) (ld_Int (vs := [.bool b10, .slice ad10 n10 c10]) (o6.below hb) rfl rfl)) ⟨rfl, Below.refl _ _, (fun h => absurd h (by decide))⟩)
    · intro a' w' hF' hb hd
      have e53 : a'.tmps.getD 53 undef = .bool true := hd _ 53 (Array.mem_of_getElem? (i := 2) rfl) rfl rfl
      have e56 : a'.tmps.getD 56 undef = .agg #[.bool b10, .slice ad10 n10 c10] := hd _ 56 (Array.mem_of_getElem? (i := 0) rfl) rfl rfl
      refine if_does (wanted_by rfl rfl e53 rfl) (Does.calls (r_call Try.func29 en29.1 en29.2 (map1 e56)) (whSign_any _ _ _ (hh8.below hb)) ?_)
      rintro e w'' ⟨rfl, bb⟩
      exact ⟨_, rfl, rfl, bb, (fun h => absurd h (by decide))⟩
    · intro a' w' hF' hb hd
      have e53 : a'.tmps.getD 53 undef = .bool true := hd _ 53 (Array.mem_of_getElem? (i := 2) rfl) rfl rfl
      have e55 : a'.tmps.getD 55 undef = .int .i64 (sz (fr (rawZ neg1 x1 10) (rawZ neg2 x2 10))) := hd _ 55 (Array.mem_of_getElem? (i := 0) rfl) rfl rfl
      have e57 : a'.tmps.getD 57 undef = .int .i64 (sz (rawZ neg2 x2 10)) := hd _ 57 (Array.mem_of_getElem? (i := 1) rfl) rfl rfl
      exact if_does (wanted_by rfl rfl e53 rfl) (Does.vals (r_bin e55 e57 eg_scalar (ia_mul (small_mul (sz_bd _) (sz_bd _)).1 (small_mul (sz_bd _) (sz_bd _)).2)) ⟨rfl, Below.refl _ _, (fun h => absurd h (by decide))⟩)
    · intro a' w' hF' hb hd
      have e53 : a'.tmps.getD 53 undef = .bool true := hd _ 53 (Array.mem_of_getElem? (i := 1) rfl) rfl rfl
      have e58 : a'.tmps.getD 58 undef = .int .i64 ((sz (fr (rawZ neg1 x1 10) (rawZ neg2 x2 10))) * (sz (rawZ neg2 x2 10))) := hd _ 58 (Array.mem_of_getElem? (i := 0) rfl) rfl rfl
      exact if_does (wanted_by rfl rfl e53 rfl) (Does.vals (r_bin e58 ev_c eg_scalar (bi_int (ic_geq (c := true) (ge0 (fr_sign _ _))) (by simp))) ⟨rfl, Below.refl _ _, (fun h => absurd h (by decide))⟩)
    · intro a' w' hF' hb hd
      have e44 : a'.tmps.getD 44 undef = .bool false := hd _ 44 (Array.mem_of_getElem? (i := 2) rfl) rfl rfl
      have e53 : a'.tmps.getD 53 undef = .bool true := hd _ 53 (Array.mem_of_getElem? (i := 0) rfl) rfl rfl
      have e59 : a'.tmps.getD 59 undef = .bool true := hd _ 59 (Array.mem_of_getElem? (i := 1) rfl) rfl rfl
      exact if_does (wanted_by rfl rfl e44 rfl) (Does.vals (r_pick_t e53 e59) ⟨rfl, Below.refl _ _, (fun h => absurd h (by decide))⟩)
    · intro a' w' hF' hb hd
      have e44 : a'.tmps.getD 44 undef = .bool false := hd _ 44 (Array.mem_of_getElem? (i := 2) rfl) rfl rfl
      have e60 : a'.tmps.getD 60 undef = .bool true := hd _ 60 (Array.mem_of_getElem? (i := 0) rfl) rfl rfl
      exact if_does (wanted_by rfl rfl e44 rfl) (Does.vals (r_move e60) ⟨rfl, Below.refl _ _, (fun h => absurd h (by decide))⟩)
    · intro a' w' hF' hb hd
      have e61 : a'.tmps.getD 61 undef = .bool true := hd _ 61 (Array.mem_of_getElem? (i := 0) rfl) rfl rfl
      exact if_does (wanted_by rfl rfl e61 rfl) (Does.vals (r_field (hF'.at 13 rfl) (fa_Int_1 (p := 1) rfl)) ⟨rfl, Below.refl _ _, (fun h => absurd h (by decide))⟩)
    · intro a' w' hF' hb hd
      have e61 : a'.tmps.getD 61 undef = .bool true := hd _ 61 (Array.mem_of_getElem? (i := 1) rfl) rfl rfl
      have e62 : a'.tmps.getD 62 undef = .pointer (some ⟨g8, 1, none⟩) := hd _ 62 (Array.mem_of_getElem? (i := 0) rfl) rfl rfl
      exact if_does (wanted_by rfl rfl e61 rfl) (Does.vals (r_load e62 (ld_Nat (v := .slice ad21 n21 c21) (o8.below hb) rfl)) ⟨rfl, Below.refl _ _, (fun h => absurd h (by decide))⟩)
    · intro a' w' hF' hb hd
      have e61 : a'.tmps.getD 61 undef = .bool true := hd _ 61 (Array.mem_of_getElem? (i := 0) rfl) rfl rfl
      exact if_does (wanted_by rfl rfl e61 rfl) (Does.vals (r_field (hF'.at 21 rfl) (fa_Int_1 (p := 1) rfl)) ⟨rfl, Below.refl _ _, (fun h => absurd h (by decide))⟩)
    · intro a' w' hF' hb hd
      have e61 : a'.tmps.getD 61 undef = .bool true := hd _ 61 (Array.mem_of_getElem? (i := 1) rfl) rfl rfl
      have e64 : a'.tmps.getD 64 undef = .pointer (some ⟨g6, 1, none⟩) := hd _ 64 (Array.mem_of_getElem? (i := 0) rfl) rfl rfl
      exact if_does (wanted_by rfl rfl e61 rfl) (Does.vals (r_load e64 (ld_Nat (v := .slice ad10 n10 c10) (o6.below hb) rfl)) ⟨rfl, Below.refl _ _, (fun h => absurd h (by decide))⟩)
    · intro a' w' hF' hb hd
      have e61 : a'.tmps.getD 61 undef = .bool true := hd _ 61 (Array.mem_of_getElem? (i := 2) rfl) rfl rfl
      have e63 : a'.tmps.getD 63 undef = .slice ad21 n21 c21 := hd _ 63 (Array.mem_of_getElem? (i := 0) rfl) rfl rfl
      have e65 : a'.tmps.getD 65 undef = .slice ad10 n10 c10 := hd _ 65 (Array.mem_of_getElem? (i := 1) rfl) rfl rfl
      refine if_does (wanted_by rfl rfl e61 rfl) (Does.calls (r_call Try.func33 en33.1 en33.2 (map2 e63 e65)) (cmp_any _ _ (Int.natAbs (fr (rawZ neg1 x1 10) (rawZ neg2 x2 10))) (Int.natAbs (rawZ neg2 x2 10)) _ (Dg.nt (hf27.below hb)) (hf14.below hb)) ?_)
      intro e w'' hh
      obtain ⟨rfl, bb, hsz⟩ := quiet_below hh
      exact ⟨_, rfl, rfl, bb, (fun h => absurd h (by decide))⟩
    · intro a' w' hF' hb hd
      have e61 : a'.tmps.getD 61 undef = .bool true := hd _ 61 (Array.mem_of_getElem? (i := 1) rfl) rfl rfl
      have e66 : a'.tmps.getD 66 undef = .int .i64 (c3 (Int.natAbs (fr (rawZ neg1 x1 10) (rawZ neg2 x2 10))) (Int.natAbs (rawZ neg2 x2 10))) := hd _ 66 (Array.mem_of_getElem? (i := 0) rfl) rfl rfl
      exact if_does (wanted_by rfl rfl e61 rfl) (Does.vals (r_bin e66 ev_c eg_scalar (bi_int (ic_lss (c := true) (dec_t (fr_lt _ _ h0))) (by simp))) ⟨rfl, Below.refl _ _, (fun h => absurd h (by decide))⟩)
    · intro a' w' hF' hb hd
      have e44 : a'.tmps.getD 44 undef = .bool false := hd _ 44 (Array.mem_of_getElem? (i := 2) rfl) rfl rfl
      have e61 : a'.tmps.getD 61 undef = .bool true := hd _ 61 (Array.mem_of_getElem? (i := 0) rfl) rfl rfl
      have e67 : a'.tmps.getD 67 undef = .bool true := hd _ 67 (Array.mem_of_getElem? (i := 1) rfl) rfl rfl
      exact if_does (wanted_by rfl rfl e44 rfl) (Does.vals (r_pick_t e61 e67) ⟨rfl, Below.refl _ _, (fun h => absurd h (by decide))⟩)
    · intro a' w' hF' hb hd
      have e44 : a'.tmps.getD 44 undef = .bool false := hd _ 44 (Array.mem_of_getElem? (i := 0) rfl) rfl rfl
      have e68 : a'.tmps.getD 68 undef = .bool true := hd _ 68 (Array.mem_of_getElem? (i := 1) rfl) rfl rfl
      exact if_does (wanted_free rfl) (Does.vals (r_pick_f e44 e68) ⟨rfl, Below.refl _ _, (fun h => absurd h (by decide))⟩)
    intro a w40 hF bb hall hne
    have e69 : a.tmps.getD 69 undef = .bool true := hall 28 69 rfl
    clear hall hne
    replace bel := below_to bel bb
    clear bb
    replace hF := hF.add e69
    clear e69
    refine E.opset (L' := [(4, .bool true), (69, .bool true), (40, .bool false), (39, .bool false), (38, .int .i64 0), (37, .agg #[.bool b34, .slice ad34 n34 c34]), (36, .agg #[.bool (decide (fr (rawZ neg1 x1 10) (rawZ neg2 x2 10) < 0)), .slice ad21 n21 c21]), (35, .bool false), (34, .bool false), (33, .int .i64 0), (32, .agg #[.bool b31, .slice ad31 n31 c31]), (31, .agg #[.bool (decide (Int.fdiv (rawZ neg1 x1 10) (rawZ neg2 x2 10) < 0)), .slice ad20 n20 c20]), (10, .pointer (some ⟨g10, 0, none⟩)), (9, .pointer (some ⟨g9, 0, none⟩)), (30, .agg #[.bool b34, .slice ad34 n34 c34]), (8, .pointer (some ⟨g8, 0, none⟩)), (7, .pointer (some ⟨g7, 0, none⟩)), (22, .agg #[.bool (decide (fr (rawZ neg1 x1 10) (rawZ neg2 x2 10) < 0)), .slice ad21 n21 c21]), (21, .agg #[.bool (decide (Int.fdiv (rawZ neg1 x1 10) (rawZ neg2 x2 10) < 0)), .slice ad20 n20 c20]), (17, .tuple #[.agg #[.bool (decide (Int.fdiv (rawZ neg1 x1 10) (rawZ neg2 x2 10) < 0)), .slice ad20 n20 c20], .agg #[.bool (decide (fr (rawZ neg1 x1 10) (rawZ neg2 x2 10) < 0)), .slice ad21 n21 c21]]), (20, .tuple #[.agg #[.bool (decide (Int.fdiv (rawZ neg1 x1 10) (rawZ neg2 x2 10) < 0)), .slice ad20 n20 c20], .agg #[.bool (decide (fr (rawZ neg1 x1 10) (rawZ neg2 x2 10) < 0)), .slice ad21 n21 c21]]), (19, .agg #[.bool b10, .slice ad10 n10 c10]), (18, .agg #[.bool b9, .slice ad9 n9 c9]), (6, .pointer (some ⟨g6, 0, none⟩)), (5, .pointer (some ⟨g5, 0, none⟩)), (16, .agg #[.bool b10, .slice ad10 n10 c10]), (14, .agg #[.bool b9, .slice ad9 n9 c9]), (12, .bool false), (11, .bool true), (3, .pointer (some ⟨g3, 0, none⟩)), (2, .pointer (some ⟨g2, 0, none⟩)), (0, .agg #[.bool neg1, .slice a1 n1 c1]), (1, .agg #[.bool neg2, .slice a2 n2 c2])]) hF (r_assign (hF.at 0 rfl)) rfl rfl rfl rfl fun a hF => ?_
    refine E.nil ?_
    refine wp_ret ?_
    refine bodyPost_ret (res_tmp Try.results4 (hF.at 0 rfl)) hF.dfr ?_
    exact ⟨rfl, bel⟩

end Go.Proofs.Ytjgafncpahbjkaa
