/- The walk of WholeSteps. -/
import Derived.Test.YtjgafncpahbjkaaWsA
import Derived.Test.YtjgafncpahbjkaaGG
namespace Go.Proofs.Ytjgafncpahbjkaa
open Go.RowKit
set_option maxRecDepth 100000
set_option linter.unusedVariables false

set_option maxHeartbeats 4000000 in
theorem wholeSteps_walk (neg1 : Bool) (a1 : Option Addr) (n1 c1 : Nat) (x1 : List Nat) (neg2 : Bool) (a2 : Option Addr) (n2 c2 : Nat) (x2 : List Nat) (n : Int) (w : World) (h1 : InX w a1 n1 c1 x1) (h2 : InX w a2 n2 c2 x2) (b1 : -9223372036854775808 ≤ n) (b2 : n ≤ 9223372036854775807) :
    Calls Try.prog 6 #[.agg #[.bool neg1, .slice a1 n1 c1], .agg #[.bool neg2, .slice a2 n2 c2], .int .i64 n] w (TruePost w) := by
  have ok1 := h1.ok
  have ok2 := h2.ok
  by_cases h0 : rawZ neg2 x2 4 = 0
  · have bel : Below w.heap.size w w := Below.refl _ _
    refine E.enter (nt := 53) (L := [(0, .agg #[.bool neg1, .slice a1 n1 c1]), (1, .agg #[.bool neg2, .slice a2 n2 c2]), (2, .int .i64 n)]) Try.func6 rfl rfl rfl (args_cons (i := 0) rfl (args_cons (i := 1) rfl (args_cons (i := 2) rfl args_nil))) ?_
    intro a hF
    refine wp_seq ?_
    refine E.seq ?_
    obtain ⟨g3, w1, ge3, hr, bb, o3⟩ := own_box (P := Try.prog) (w := w) (cs := [.bool neg1, .slice a1 n1 c1]) (v := .agg #[.bool neg1, .slice a1 n1 c1]) 35 rfl (niB (niS ni0))
    replace ge3 : w.heap.size ≤ g3 := by rw [← ge3]; exact bel.size
    refine E.opv hF (r_box (hF.at 0 rfl) hr) rfl rfl rfl rfl fun a hF => ?_
    clear hr
    replace h2 := h2.below bb
    replace h1 := h1.below bb
    replace bel := below_to bel bb
    clear bb
    obtain ⟨g4, w2, ge4, hr, bb, o4⟩ := own_box (P := Try.prog) (w := w1) (cs := [.bool neg2, .slice a2 n2 c2]) (v := .agg #[.bool neg2, .slice a2 n2 c2]) 35 rfl (niB (niS ni0))
    have ne3_4 : g3 ≠ g4 := by rw [← ge4]; exact o3.ne_new
    replace ge4 : w.heap.size ≤ g4 := by rw [← ge4]; exact bel.size
    refine E.opv hF (r_box (hF.at 2 rfl) hr) rfl rfl rfl rfl fun a hF => ?_
    clear hr
    replace h1 := h1.below bb
    replace h2 := h2.below bb
    replace o3 := o3.below bb
    replace bel := below_to bel bb
    clear bb
    refine E.opv hF (r_assign ev_c) rfl rfl rfl rfl fun a hF => ?_
    refine E.nil ?_
    refine wp_seq ?_
    refine wp_seq ?_
    refine E.seq ?_
    refine E.call hF (r_call Try.func23 en23.1 en23.2 map0) (awake3_any _) rfl rfl rfl rfl ?_
    rintro e w3 ⟨rfl, bb⟩
    refine ⟨_, rfl, ?_⟩
    intro a hF
    replace h1 := h1.below bb
    replace h2 := h2.below bb
    replace o3 := o3.below bb
    replace o4 := o4.below bb
    replace bel := below_to bel bb
    clear bb
    refine E.opv hF (r_un (hF.at 0 rfl) (bn_not _ false rfl)) rfl rfl rfl rfl fun a hF => ?_
    refine E.nil ?_
    refine wp_cond_false (hF.at 0 rfl) ?_
    refine wp_skip ?_
    refine E.norm ?_
    refine wp_seq ?_
    refine E.drawn 9 mixed hF [16, 17, 18, 19, 20, 21, 7, 8, 9] [(fun _ v => v = .agg #[.bool neg1, .slice a1 n1 c1]), (fun w v => Wz w v (rawZ neg1 x1 6)), (fun _ v => v = .agg #[.bool neg2, .slice a2 n2 c2]), (fun w v => Wz w v (rawZ neg2 x2 4)), (fun _ v => v = .int .i64 n), (fun w v => Wc w v (n)), (fun w v => ∃ g, v = .pointer (some ⟨g, 0, none⟩) ∧ w3.heap.size ≤ g ∧ Own w g [.bool false, .slice none 0 0]), (fun w v => ∃ g, v = .pointer (some ⟨g, 0, none⟩) ∧ w3.heap.size ≤ g ∧ Own w g [.bool false, .slice none 0 0]), (fun w v => ∃ g, v = .pointer (some ⟨g, 0, none⟩) ∧ w3.heap.size ≤ g ∧ Own w g [.bool false, .slice none 0 0])] [6, 7, 8] (by decide +kernel) (by decide +kernel) rfl rfl rfl ⟨(Mb.eq _), (fun _ _ _ h hb => h.below hb), (Mb.eq _), (fun _ _ _ h hb => h.below hb), (Mb.eq _), (fun _ _ _ h hb => h.below hb), (fun _ _ _ ⟨g, e, l, o⟩ hb => ⟨g, e, l, o.below hb⟩), (fun _ _ _ ⟨g, e, l, o⟩ hb => ⟨g, e, l, o.below hb⟩), (fun _ _ _ ⟨g, e, l, o⟩ hb => ⟨g, e, l, o.below hb⟩), trivial⟩ ⟨fun _ _ ⟨g, e, _, o⟩ => ⟨g, e, o.lt⟩, ⟨fun _ _ ⟨g, e, _, o⟩ => ⟨g, e, o.lt⟩, ⟨fun _ _ ⟨g, e, _, o⟩ => ⟨g, e, o.lt⟩, trivial⟩⟩⟩ ⟨?_, ?_, ?_, ?_, ?_, ?_, ?_, ?_, ?_, trivial⟩ ?_
    · intro a' w' hF' hb hd
      exact if_does (wanted_free rfl) (Does.vals (r_load (hF'.at 4 rfl) (ld_Raw (vs := [.bool neg1, .slice a1 n1 c1]) (o3.below hb) rfl rfl)) ⟨rfl, Below.refl _ _, (fun h => absurd h (by decide))⟩)
    · intro a' w' hF' hb hd
      have e16 : a'.tmps.getD 16 undef = .agg #[.bool neg1, .slice a1 n1 c1] := hd _ 16 (Array.mem_of_getElem? (i := 0) rfl) rfl rfl
      refine if_does (wanted_free rfl) (Does.calls (r_call Try.func24 en24.1 en24.2 (map2 e16 ev_c)) (own_any neg1 a1 n1 c1 6 x1 _ (h1.below hb) (by omega)) ?_)
      rintro e w'' ⟨v', rfl, h', bb⟩
      exact ⟨_, rfl, h', bb, (fun h => absurd h (by decide))⟩
    · intro a' w' hF' hb hd
      exact if_does (wanted_free rfl) (Does.vals (r_load (hF'.at 3 rfl) (ld_Raw (vs := [.bool neg2, .slice a2 n2 c2]) (o4.below hb) rfl rfl)) ⟨rfl, Below.refl _ _, (fun h => absurd h (by decide))⟩)
    · intro a' w' hF' hb hd
      have e18 : a'.tmps.getD 18 undef = .agg #[.bool neg2, .slice a2 n2 c2] := hd _ 18 (Array.mem_of_getElem? (i := 0) rfl) rfl rfl
      refine if_does (wanted_free rfl) (Does.calls (r_call Try.func24 en24.1 en24.2 (map2 e18 ev_c)) (own_any neg2 a2 n2 c2 4 x2 _ (h2.below hb) (by omega)) ?_)
      rintro e w'' ⟨v', rfl, h', bb⟩
      exact ⟨_, rfl, h', bb, (fun h => absurd h (by decide))⟩
    · intro a' w' hF' hb hd
      exact if_does (wanted_free rfl) (Does.vals (r_move (hF'.at 7 rfl)) ⟨rfl, Below.refl _ _, (fun h => absurd h (by decide))⟩)
    · intro a' w' hF' hb hd
      have e20 : a'.tmps.getD 20 undef = .int .i64 n := hd _ 20 (Array.mem_of_getElem? (i := 0) rfl) rfl rfl
      refine if_does (wanted_free rfl) (Does.calls (r_call Try.func36 en36.1 en36.2 (map1 e20)) (whOf_any n _ b1 b2) ?_)
      rintro e w'' ⟨v', rfl, h', bb⟩
      exact ⟨_, rfl, h', bb, (fun h => absurd h (by decide))⟩
    · intro a' w' hF' hb hd
      obtain ⟨g, w2, ge, hr, bb, on⟩ := own_alloc (P := Try.prog) (w := w') (cs := [.bool false, .slice none 0 0]) 37 ze_Int rfl (niB (niS ni0))
      subst ge
      exact if_does (wanted_free rfl) (Does.vals (r_alloc hr) ⟨⟨_, rfl, hb.size, on⟩, bb, fun _ => rfl⟩)
    · intro a' w' hF' hb hd
      obtain ⟨g, w2, ge, hr, bb, on⟩ := own_alloc (P := Try.prog) (w := w') (cs := [.bool false, .slice none 0 0]) 37 ze_Int rfl (niB (niS ni0))
      subst ge
      exact if_does (wanted_free rfl) (Does.vals (r_alloc hr) ⟨⟨_, rfl, hb.size, on⟩, bb, fun _ => rfl⟩)
    · intro a' w' hF' hb hd
      obtain ⟨g, w2, ge, hr, bb, on⟩ := own_alloc (P := Try.prog) (w := w') (cs := [.bool false, .slice none 0 0]) 37 ze_Int rfl (niB (niS ni0))
      subst ge
      exact if_does (wanted_free rfl) (Does.vals (r_alloc hr) ⟨⟨_, rfl, hb.size, on⟩, bb, fun _ => rfl⟩)
    intro a w4 hF bb hall hne
    obtain ⟨vv5, e17, hh6⟩ : ∃ v, a.tmps.getD 17 undef = v ∧ Wz w4 v (rawZ neg1 x1 6) := ⟨_, rfl, hall 1 17 rfl⟩
    obtain ⟨vv7, e19, hh8⟩ : ∃ v, a.tmps.getD 19 undef = v ∧ Wz w4 v (rawZ neg2 x2 4) := ⟨_, rfl, hall 3 19 rfl⟩
    obtain ⟨vv9, e21, hh10⟩ : ∃ v, a.tmps.getD 21 undef = v ∧ Wc w4 v (n) := ⟨_, rfl, hall 5 21 rfl⟩
    obtain ⟨g7, e7, ge7, o7⟩ : ∃ g, a.tmps.getD 7 undef = .pointer (some ⟨g, 0, none⟩) ∧ w3.heap.size ≤ g ∧ Own w4 g [.bool false, .slice none 0 0] := hall 6 7 rfl
    obtain ⟨g8, e8, ge8, o8⟩ : ∃ g, a.tmps.getD 8 undef = .pointer (some ⟨g, 0, none⟩) ∧ w3.heap.size ≤ g ∧ Own w4 g [.bool false, .slice none 0 0] := hall 7 8 rfl
    have ne7_8 : g7 ≠ g8 := by intro e; exact hne 6 7 7 8 rfl rfl (by decide) rfl rfl (by rw [e7, e8, e])
    obtain ⟨g9, e9, ge9, o9⟩ : ∃ g, a.tmps.getD 9 undef = .pointer (some ⟨g, 0, none⟩) ∧ w3.heap.size ≤ g ∧ Own w4 g [.bool false, .slice none 0 0] := hall 8 9 rfl
    have ne7_9 : g7 ≠ g9 := by intro e; exact hne 6 8 7 9 rfl rfl (by decide) rfl rfl (by rw [e7, e9, e])
    have ne8_9 : g8 ≠ g9 := by intro e; exact hne 7 8 8 9 rfl rfl (by decide) rfl rfl (by rw [e8, e9, e])
    replace ge7 : w.heap.size ≤ g7 := Nat.le_trans bel.size ge7
    replace ge8 : w.heap.size ≤ g8 := Nat.le_trans bel.size ge8
    replace ge9 : w.heap.size ≤ g9 := Nat.le_trans bel.size ge9
    clear hall hne
    replace bel := below_to bel bb
    clear bb
    obtain ⟨b11, ad11, n11, c11, rfl⟩ := Wz.form hh6
    replace hF := hF.add e17
    clear e17
    obtain ⟨b12, ad12, n12, c12, rfl⟩ := Wz.form hh8
    replace hF := hF.add e19
    clear e19
    obtain ⟨ad13, n13, c13, rfl, _⟩ := Wc.shape hh10
    replace hF := hF.add e21
    clear e21
    replace hF := hF.add e7
    clear e7
    replace hF := hF.add e8
    clear e8
    replace hF := hF.add e9
    clear e9
    obtain ⟨w14, hr, tu, on⟩ := st_Int (vs := [.bool b11, .slice ad11 n11 c11]) o7 rfl rfl (ocB (ocS oc0)) (niB (niS ni0)) (o := 0) rfl
    have kp := tu.keep o7
    refine E.st hF (r_store (hF.at 2 rfl) (hF.at 5 rfl) (hr _ rfl)) rfl rfl fun a hF => ?_
    clear hr
    replace hh10 := hh10.keep kp
    replace hh8 := hh8.keep kp
    replace hh6 := hh6.keep kp
    replace o8 := tu.own o8 (Ne.symm ne7_8)
    replace o9 := tu.own o9 (Ne.symm ne7_9)
    replace bel := tu.below bel ge7
    clear tu kp
    replace o7 := on
    clear on
    have hf15 := Wz.abso hh6
    obtain ⟨w16, hr, tu, on⟩ := st_Int (vs := [.bool b12, .slice ad12 n12 c12]) o8 rfl rfl (ocB (ocS oc0)) (niB (niS ni0)) (o := 0) rfl
    have kp := tu.keep o8
    refine E.st hF (r_store (hF.at 1 rfl) (hF.at 4 rfl) (hr _ rfl)) rfl rfl fun a hF => ?_
    clear hr
    replace hh10 := hh10.keep kp
    replace hf15 := hf15.keep kp
    replace hh6 := hh6.keep kp
    replace hh8 := hh8.keep kp
    replace o7 := tu.own o7 ne7_8
    replace o9 := tu.own o9 (Ne.symm ne8_9)
    replace bel := tu.below bel ge8
    clear tu kp
    replace o8 := on
    clear on
    have hf17 := Wz.abso hh8
    obtain ⟨w18, hr, tu, on⟩ := st_Int (vs := [.bool (decide (n < 0)), .slice ad13 n13 c13]) o9 rfl rfl (ocB (ocS oc0)) (niB (niS ni0)) (o := 0) rfl
    have kp := tu.keep o9
    refine E.st hF (r_store (hF.at 0 rfl) (hF.at 3 rfl) (hr _ rfl)) rfl rfl fun a hF => ?_
    clear hr
    replace hf15 := hf15.keep kp
    replace hh6 := hh6.keep kp
    replace hf17 := hf17.keep kp
    replace hh8 := hh8.keep kp
    replace hh10 := hh10.keep kp
    replace o7 := tu.own o7 ne7_9
    replace o8 := tu.own o8 ne8_9
    replace bel := tu.below bel ge9
    clear tu kp
    replace o9 := on
    clear on
    have hf19 := Wc.abs hh10
    refine E.nil ?_
    refine wp_seq ?_
    refine wp_seq ?_
    refine E.seq ?_
    refine E.opv hF (r_load (hF.at 1 rfl) (ld_Int (vs := [.bool b12, .slice ad12 n12 c12]) o8 rfl rfl)) rfl rfl rfl rfl fun a hF => ?_
    refine E.call hF (r_call Try.func29 en29.1 en29.2 (map1 (hF.at 0 rfl))) (whSign_any _ _ _ hh8) rfl rfl rfl rfl ?_
    rintro e w20 ⟨rfl, bb⟩
    refine ⟨_, rfl, ?_⟩
    intro a hF
    replace hf15 := hf15.below bb
    replace hh6 := hh6.below bb
    replace hf17 := hf17.below bb
    replace hh8 := hh8.below bb
    replace hf19 := hf19.below bb
    replace hh10 := hh10.below bb
    replace o7 := o7.below bb
    replace o8 := o8.below bb
    replace o9 := o9.below bb
    replace bel := below_to bel bb
    clear bb
    refine E.opv hF (r_bin (hF.at 0 rfl) ev_c eg_scalar (bi_int (ic_eql (c := true) (eqx (sz_eq0.2 h0))) (by simp))) rfl rfl rfl rfl fun a hF => ?_
    refine E.nil ?_
    refine wp_cond_true (hF.at 0 rfl) ?_
    refine wp_seq ?_
    refine E.seq ?_
    refine E.opset (L' := [(6, .bool true), (24, .bool true), (23, .int .i64 (sz (rawZ neg2 x2 4))), (22, .agg #[.bool b12, .slice ad12 n12 c12]), (9, .pointer (some ⟨g9, 0, none⟩)), (8, .pointer (some ⟨g8, 0, none⟩)), (7, .pointer (some ⟨g7, 0, none⟩)), (21, .agg #[.bool (decide (n < 0)), .slice ad13 n13 c13]), (19, .agg #[.bool b12, .slice ad12 n12 c12]), (17, .agg #[.bool b11, .slice ad11 n11 c11]), (15, .bool false), (14, .bool true), (4, .pointer (some ⟨g4, 0, none⟩)), (3, .pointer (some ⟨g3, 0, none⟩)), (0, .agg #[.bool neg1, .slice a1 n1 c1]), (1, .agg #[.bool neg2, .slice a2 n2 c2]), (2, .int .i64 n)]) hF (r_assign ev_c) rfl rfl rfl rfl fun a hF => ?_
    refine E.nil ?_
    refine wp_ret ?_
    refine bodyPost_ret (res_tmp Try.results6 (hF.at 0 rfl)) hF.dfr ?_
    exact ⟨rfl, bel⟩
  · have bel : Below w.heap.size w w := Below.refl _ _
    refine E.enter (nt := 53) (L := [(0, .agg #[.bool neg1, .slice a1 n1 c1]), (1, .agg #[.bool neg2, .slice a2 n2 c2]), (2, .int .i64 n)]) Try.func6 rfl rfl rfl (args_cons (i := 0) rfl (args_cons (i := 1) rfl (args_cons (i := 2) rfl args_nil))) ?_
    intro a hF
    refine wp_seq ?_
    refine E.seq ?_
    obtain ⟨g3, w1, ge3, hr, bb, o3⟩ := own_box (P := Try.prog) (w := w) (cs := [.bool neg1, .slice a1 n1 c1]) (v := .agg #[.bool neg1, .slice a1 n1 c1]) 35 rfl (niB (niS ni0))
    replace ge3 : w.heap.size ≤ g3 := by rw [← ge3]; exact bel.size
    refine E.opv hF (r_box (hF.at 0 rfl) hr) rfl rfl rfl rfl fun a hF => ?_
    clear hr
    replace h2 := h2.below bb
    replace h1 := h1.below bb
    replace bel := below_to bel bb
    clear bb
    obtain ⟨g4, w2, ge4, hr, bb, o4⟩ := own_box (P := Try.prog) (w := w1) (cs := [.bool neg2, .slice a2 n2 c2]) (v := .agg #[.bool neg2, .slice a2 n2 c2]) 35 rfl (niB (niS ni0))
    have ne3_4 : g3 ≠ g4 := by rw [← ge4]; exact o3.ne_new
    replace ge4 : w.heap.size ≤ g4 := by rw [← ge4]; exact bel.size
    refine E.opv hF (r_box (hF.at 2 rfl) hr) rfl rfl rfl rfl fun a hF => ?_
    clear hr
    replace h1 := h1.below bb
    replace h2 := h2.below bb
    replace o3 := o3.below bb
    replace bel := below_to bel bb
    clear bb
    refine E.opv hF (r_assign ev_c) rfl rfl rfl rfl fun a hF => ?_
    refine E.nil ?_
    refine wp_seq ?_
    refine wp_seq ?_
    refine E.seq ?_
    refine E.call hF (r_call Try.func23 en23.1 en23.2 map0) (awake3_any _) rfl rfl rfl rfl ?_
    rintro e w3 ⟨rfl, bb⟩
    refine ⟨_, rfl, ?_⟩
    intro a hF
    replace h1 := h1.below bb
    replace h2 := h2.below bb
    replace o3 := o3.below bb
    replace o4 := o4.below bb
    replace bel := below_to bel bb
    clear bb
    refine E.opv hF (r_un (hF.at 0 rfl) (bn_not _ false rfl)) rfl rfl rfl rfl fun a hF => ?_
    refine E.nil ?_
    refine wp_cond_false (hF.at 0 rfl) ?_
    refine wp_skip ?_
    refine E.norm ?_
    refine wp_seq ?_
    refine E.drawn 9 mixed hF [16, 17, 18, 19, 20, 21, 7, 8, 9] [(fun _ v => v = .agg #[.bool neg1, .slice a1 n1 c1]), (fun w v => Wz w v (rawZ neg1 x1 6)), (fun _ v => v = .agg #[.bool neg2, .slice a2 n2 c2]), (fun w v => Wz w v (rawZ neg2 x2 4)), (fun _ v => v = .int .i64 n), (fun w v => Wc w v (n)), (fun w v => ∃ g, v = .pointer (some ⟨g, 0, none⟩) ∧ w3.heap.size ≤ g ∧ Own w g [.bool false, .slice none 0 0]), (fun w v => ∃ g, v = .pointer (some ⟨g, 0, none⟩) ∧ w3.heap.size ≤ g ∧ Own w g [.bool false, .slice none 0 0]), (fun w v => ∃ g, v = .pointer (some ⟨g, 0, none⟩) ∧ w3.heap.size ≤ g ∧ Own w g [.bool false, .slice none 0 0])] [6, 7, 8] (by decide +kernel) (by decide +kernel) rfl rfl rfl ⟨(Mb.eq _), (fun _ _ _ h hb => h.below hb), (Mb.eq _), (fun _ _ _ h hb => h.below hb), (Mb.eq _), (fun _ _ _ h hb => h.below hb), (fun _ _ _ ⟨g, e, l, o⟩ hb => ⟨g, e, l, o.below hb⟩), (fun _ _ _ ⟨g, e, l, o⟩ hb => ⟨g, e, l, o.below hb⟩), (fun _ _ _ ⟨g, e, l, o⟩ hb => ⟨g, e, l, o.below hb⟩), trivial⟩ ⟨fun _ _ ⟨g, e, _, o⟩ => ⟨g, e, o.lt⟩, ⟨fun _ _ ⟨g, e, _, o⟩ => ⟨g, e, o.lt⟩, ⟨fun _ _ ⟨g, e, _, o⟩ => ⟨g, e, o.lt⟩, trivial⟩⟩⟩ ⟨?_, ?_, ?_, ?_, ?_, ?_, ?_, ?_, ?_, trivial⟩ ?_
    · intro a' w' hF' hb hd
      exact if_does (wanted_free rfl) (Does.vals (r_load (hF'.at 4 rfl) (ld_Raw (vs := [.bool neg1, .slice a1 n1 c1]) (o3.below hb) rfl rfl)) ⟨rfl, Below.refl _ _, (fun h => absurd h (by decide))⟩)
    · intro a' w' hF' hb hd
      have e16 : a'.tmps.getD 16 undef = .agg #[.bool neg1, .slice a1 n1 c1] := hd _ 16 (Array.mem_of_getElem? (i := 0) rfl) rfl rfl
      refine if_does (wanted_free rfl) (Does.calls (r_call Try.func24 en24.1 en24.2 (map2 e16 ev_c)) (own_any neg1 a1 n1 c1 6 x1 _ (h1.below hb) (by omega)) ?_)
      rintro e w'' ⟨v', rfl, h', bb⟩
      exact ⟨_, rfl, h', bb, (fun h => absurd h (by decide))⟩
    · intro a' w' hF' hb hd
      exact if_does (wanted_free rfl) (Does.vals (r_load (hF'.at 3 rfl) (ld_Raw (vs := [.bool neg2, .slice a2 n2 c2]) (o4.below hb) rfl rfl)) ⟨rfl, Below.refl _ _, (fun h => absurd h (by decide))⟩)
    · intro a' w' hF' hb hd
      have e18 : a'.tmps.getD 18 undef = .agg #[.bool neg2, .slice a2 n2 c2] := hd _ 18 (Array.mem_of_getElem? (i := 0) rfl) rfl rfl
      refine if_does (wanted_free rfl) (Does.calls (r_call Try.func24 en24.1 en24.2 (map2 e18 ev_c)) (own_any neg2 a2 n2 c2 4 x2 _ (h2.below hb) (by omega)) ?_)
      rintro e w'' ⟨v', rfl, h', bb⟩
      exact ⟨_, rfl, h', bb, (fun h => absurd h (by decide))⟩
    · intro a' w' hF' hb hd
      exact if_does (wanted_free rfl) (Does.vals (r_move (hF'.at 7 rfl)) ⟨rfl, Below.refl _ _, (fun h => absurd h (by decide))⟩)
    · intro a' w' hF' hb hd
      have e20 : a'.tmps.getD 20 undef = .int .i64 n := hd _ 20 (Array.mem_of_getElem? (i := 0) rfl) rfl rfl
      refine if_does (wanted_free rfl) (Does.calls (r_call Try.func36 en36.1 en36.2 (map1 e20)) (whOf_any n _ b1 b2) ?_)
      rintro e w'' ⟨v', rfl, h', bb⟩
      exact ⟨_, rfl, h', bb, (fun h => absurd h (by decide))⟩
    · intro a' w' hF' hb hd
      obtain ⟨g, w2, ge, hr, bb, on⟩ := own_alloc (P := Try.prog) (w := w') (cs := [.bool false, .slice none 0 0]) 37 ze_Int rfl (niB (niS ni0))
      subst ge
      exact if_does (wanted_free rfl) (Does.vals (r_alloc hr) ⟨⟨_, rfl, hb.size, on⟩, bb, fun _ => rfl⟩)
    · intro a' w' hF' hb hd
      obtain ⟨g, w2, ge, hr, bb, on⟩ := own_alloc (P := Try.prog) (w := w') (cs := [.bool false, .slice none 0 0]) 37 ze_Int rfl (niB (niS ni0))
      subst ge
      exact if_does (wanted_free rfl) (Does.vals (r_alloc hr) ⟨⟨_, rfl, hb.size, on⟩, bb, fun _ => rfl⟩)
    · intro a' w' hF' hb hd
      obtain ⟨g, w2, ge, hr, bb, on⟩ := own_alloc (P := Try.prog) (w := w') (cs := [.bool false, .slice none 0 0]) 37 ze_Int rfl (niB (niS ni0))
      subst ge
      exact if_does (wanted_free rfl) (Does.vals (r_alloc hr) ⟨⟨_, rfl, hb.size, on⟩, bb, fun _ => rfl⟩)
    intro a w4 hF bb hall hne
    obtain ⟨vv5, e17, hh6⟩ : ∃ v, a.tmps.getD 17 undef = v ∧ Wz w4 v (rawZ neg1 x1 6) := ⟨_, rfl, hall 1 17 rfl⟩
    obtain ⟨vv7, e19, hh8⟩ : ∃ v, a.tmps.getD 19 undef = v ∧ Wz w4 v (rawZ neg2 x2 4) := ⟨_, rfl, hall 3 19 rfl⟩
    obtain ⟨vv9, e21, hh10⟩ : ∃ v, a.tmps.getD 21 undef = v ∧ Wc w4 v (n) := ⟨_, rfl, hall 5 21 rfl⟩
    obtain ⟨g7, e7, ge7, o7⟩ : ∃ g, a.tmps.getD 7 undef = .pointer (some ⟨g, 0, none⟩) ∧ w3.heap.size ≤ g ∧ Own w4 g [.bool false, .slice none 0 0] := hall 6 7 rfl
    obtain ⟨g8, e8, ge8, o8⟩ : ∃ g, a.tmps.getD 8 undef = .pointer (some ⟨g, 0, none⟩) ∧ w3.heap.size ≤ g ∧ Own w4 g [.bool false, .slice none 0 0] := hall 7 8 rfl
    have ne7_8 : g7 ≠ g8 := by intro e; exact hne 6 7 7 8 rfl rfl (by decide) rfl rfl (by rw [e7, e8, e])
    obtain ⟨g9, e9, ge9, o9⟩ : ∃ g, a.tmps.getD 9 undef = .pointer (some ⟨g, 0, none⟩) ∧ w3.heap.size ≤ g ∧ Own w4 g [.bool false, .slice none 0 0] := hall 8 9 rfl
    have ne7_9 : g7 ≠ g9 := by intro e; exact hne 6 8 7 9 rfl rfl (by decide) rfl rfl (by rw [e7, e9, e])
    have ne8_9 : g8 ≠ g9 := by intro e; exact hne 7 8 8 9 rfl rfl (by decide) rfl rfl (by rw [e8, e9, e])
    replace ge7 : w.heap.size ≤ g7 := Nat.le_trans bel.size ge7
    replace ge8 : w.heap.size ≤ g8 := Nat.le_trans bel.size ge8
    replace ge9 : w.heap.size ≤ g9 := Nat.le_trans bel.size ge9
    clear hall hne
    replace bel := below_to bel bb
    clear bb
    obtain ⟨b11, ad11, n11, c11, rfl⟩ := Wz.form hh6
    replace hF := hF.add e17
    clear e17
    obtain ⟨b12, ad12, n12, c12, rfl⟩ := Wz.form hh8
    replace hF := hF.add e19
    clear e19
    obtain ⟨ad13, n13, c13, rfl, _⟩ := Wc.shape hh10
    replace hF := hF.add e21
    clear e21
    replace hF := hF.add e7
    clear e7
    replace hF := hF.add e8
    clear e8
    replace hF := hF.add e9
    clear e9
    obtain ⟨w14, hr, tu, on⟩ := st_Int (vs := [.bool b11, .slice ad11 n11 c11]) o7 rfl rfl (ocB (ocS oc0)) (niB (niS ni0)) (o := 0) rfl
    have kp := tu.keep o7
    refine E.st hF (r_store (hF.at 2 rfl) (hF.at 5 rfl) (hr _ rfl)) rfl rfl fun a hF => ?_
    clear hr
    replace hh10 := hh10.keep kp
    replace hh8 := hh8.keep kp
    replace hh6 := hh6.keep kp
    replace o8 := tu.own o8 (Ne.symm ne7_8)
    replace o9 := tu.own o9 (Ne.symm ne7_9)
    replace bel := tu.below bel ge7
    clear tu kp
    replace o7 := on
    clear on
    have hf15 := Wz.abso hh6
    obtain ⟨w16, hr, tu, on⟩ := st_Int (vs := [.bool b12, .slice ad12 n12 c12]) o8 rfl rfl (ocB (ocS oc0)) (niB (niS ni0)) (o := 0) rfl
    have kp := tu.keep o8
    refine E.st hF (r_store (hF.at 1 rfl) (hF.at 4 rfl) (hr _ rfl)) rfl rfl fun a hF => ?_
    clear hr
    replace hh10 := hh10.keep kp
    replace hf15 := hf15.keep kp
    replace hh6 := hh6.keep kp
    replace hh8 := hh8.keep kp
    replace o7 := tu.own o7 ne7_8
    replace o9 := tu.own o9 (Ne.symm ne8_9)
    replace bel := tu.below bel ge8
    clear tu kp
    replace o8 := on
    clear on
    have hf17 := Wz.abso hh8
    obtain ⟨w18, hr, tu, on⟩ := st_Int (vs := [.bool (decide (n < 0)), .slice ad13 n13 c13]) o9 rfl rfl (ocB (ocS oc0)) (niB (niS ni0)) (o := 0) rfl
    have kp := tu.keep o9
    refine E.st hF (r_store (hF.at 0 rfl) (hF.at 3 rfl) (hr _ rfl)) rfl rfl fun a hF => ?_
    clear hr
    replace hf15 := hf15.keep kp
    replace hh6 := hh6.keep kp
    replace hf17 := hf17.keep kp
    replace hh8 := hh8.keep kp
    replace hh10 := hh10.keep kp
    replace o7 := tu.own o7 ne7_9
    replace o8 := tu.own o8 ne8_9
    replace bel := tu.below bel ge9
    clear tu kp
    replace o9 := on
    clear on
    have hf19 := Wc.abs hh10
    refine E.nil ?_
    refine wp_seq ?_
    refine wp_seq ?_
    refine E.seq ?_
    refine E.opv hF (r_load (hF.at 1 rfl) (ld_Int (vs := [.bool b12, .slice ad12 n12 c12]) o8 rfl rfl)) rfl rfl rfl rfl fun a hF => ?_
    refine E.call hF (r_call Try.func29 en29.1 en29.2 (map1 (hF.at 0 rfl))) (whSign_any _ _ _ hh8) rfl rfl rfl rfl ?_
    rintro e w20 ⟨rfl, bb⟩
    refine ⟨_, rfl, ?_⟩
    intro a hF
    replace hf15 := hf15.below bb
    replace hh6 := hh6.below bb
    replace hf17 := hf17.below bb
    replace hh8 := hh8.below bb
    replace hf19 := hf19.below bb
    replace hh10 := hh10.below bb
    replace o7 := o7.below bb
    replace o8 := o8.below bb
    replace o9 := o9.below bb
    replace bel := below_to bel bb
    clear bb
    refine E.opv hF (r_bin (hF.at 0 rfl) ev_c eg_scalar (bi_int (ic_eql (c := false) (dec_f (fun e => h0 (sz_eq0.1 e)))) (by simp))) rfl rfl rfl rfl fun a hF => ?_
    refine E.nil ?_
    refine wp_cond_false (hF.at 0 rfl) ?_
    refine wp_skip ?_
    refine E.norm ?_
    refine wp_seq ?_
    refine E.seq ?_
    refine E.opv hF (r_load (hF.at 5 rfl) (ld_Int (vs := [.bool b11, .slice ad11 n11 c11]) o7 rfl rfl)) rfl rfl rfl rfl fun a hF => ?_
    refine E.opv hF (r_load (hF.at 5 rfl) (ld_Int (vs := [.bool b12, .slice ad12 n12 c12]) o8 rfl rfl)) rfl rfl rfl rfl fun a hF => ?_
    refine E.call hF (r_call Try.func25 en25.1 en25.2 (map2 (hF.at 1 rfl) (hF.at 0 rfl))) (whDivMod_any _ _ _ _ _ hh6 hh8 6 (rawZ_limo neg1 ok1 6) (by omega)) rfl rfl rfl rfl ?_
    rintro e w21 ⟨vv22, vv23, rfl, hh24, hh25, bb⟩
    refine ⟨_, rfl, ?_⟩
    intro a hF
    replace hf15 := hf15.below bb
    replace hh6 := hh6.below bb
    replace hf17 := hf17.below bb
    replace hh8 := hh8.below bb
    replace hf19 := hf19.below bb
    replace hh10 := hh10.below bb
    replace o7 := o7.below bb
    replace o8 := o8.below bb
    replace o9 := o9.below bb
    replace bel := below_to bel bb
    clear bb
    obtain ⟨ad26, n26, c26, rfl, _⟩ := Wc.shape hh24
    obtain ⟨ad27, n27, c27, rfl, _⟩ := Wc.shape hh25
    refine E.opv hF (r_move (hF.at 0 rfl)) rfl rfl rfl rfl fun a hF => ?_
    refine E.opv hF (r_extract (v := .agg #[.bool (decide (Int.fdiv (rawZ neg1 x1 6) (rawZ neg2 x2 4) < 0)), .slice ad26 n26 c26]) (hF.at 0 rfl) rfl) rfl rfl rfl rfl fun a hF => ?_
    refine E.opv hF (r_extract (v := .agg #[.bool (decide (fr (rawZ neg1 x1 6) (rawZ neg2 x2 4) < 0)), .slice ad27 n27 c27]) (hF.at 1 rfl) rfl) rfl rfl rfl rfl fun a hF => ?_
    obtain ⟨g10, w28, ge10, hr, bb, o10⟩ := own_alloc (P := Try.prog) (w := w21) (cs := [.bool false, .slice none 0 0]) 37 ze_Int rfl (niB (niS ni0))
    have ne7_10 : g7 ≠ g10 := by rw [← ge10]; exact o7.ne_new
    have ne8_10 : g8 ≠ g10 := by rw [← ge10]; exact o8.ne_new
    have ne9_10 : g9 ≠ g10 := by rw [← ge10]; exact o9.ne_new
    replace ge10 : w.heap.size ≤ g10 := by rw [← ge10]; exact bel.size
    refine E.opv hF (r_alloc hr) rfl rfl rfl rfl fun a hF => ?_
    clear hr
    replace hh25 := hh25.below bb
    replace hh24 := hh24.below bb
    replace hf15 := hf15.below bb
    replace hh6 := hh6.below bb
    replace hf17 := hf17.below bb
    replace hh8 := hh8.below bb
    replace hf19 := hf19.below bb
    replace hh10 := hh10.below bb
    replace o7 := o7.below bb
    replace o8 := o8.below bb
    replace o9 := o9.below bb
    replace bel := below_to bel bb
    clear bb
    obtain ⟨g11, w29, ge11, hr, bb, o11⟩ := own_alloc (P := Try.prog) (w := w28) (cs := [.bool false, .slice none 0 0]) 37 ze_Int rfl (niB (niS ni0))
    have ne7_11 : g7 ≠ g11 := by rw [← ge11]; exact o7.ne_new
    have ne8_11 : g8 ≠ g11 := by rw [← ge11]; exact o8.ne_new
    have ne9_11 : g9 ≠ g11 := by rw [← ge11]; exact o9.ne_new
    have ne10_11 : g10 ≠ g11 := by rw [← ge11]; exact o10.ne_new
    replace ge11 : w.heap.size ≤ g11 := by rw [← ge11]; exact bel.size
    refine E.opv hF (r_alloc hr) rfl rfl rfl rfl fun a hF => ?_
    clear hr
    replace hh25 := hh25.below bb
    replace hh24 := hh24.below bb
    replace hf15 := hf15.below bb
    replace hh6 := hh6.below bb
    replace hf17 := hf17.below bb
    replace hh8 := hh8.below bb
    replace hf19 := hf19.below bb
    replace hh10 := hh10.below bb
    replace o7 := o7.below bb
    replace o8 := o8.below bb
    replace o9 := o9.below bb
    replace o10 := o10.below bb
    replace bel := below_to bel bb
    clear bb
    obtain ⟨w30, hr, tu, on⟩ := st_Int (vs := [.bool (decide (Int.fdiv (rawZ neg1 x1 6) (rawZ neg2 x2 4) < 0)), .slice ad26 n26 c26]) o10 rfl rfl (ocB (ocS oc0)) (niB (niS ni0)) (o := 0) rfl
    have kp := tu.keep o10
    refine E.st hF (r_store (hF.at 1 rfl) (hF.at 3 rfl) (hr _ rfl)) rfl rfl fun a hF => ?_
    clear hr
    replace hh25 := hh25.keep kp
    replace hf15 := hf15.keep kp
    replace hh6 := hh6.keep kp
    replace hf17 := hf17.keep kp
    replace hh8 := hh8.keep kp
    replace hf19 := hf19.keep kp
    replace hh10 := hh10.keep kp
    replace hh24 := hh24.keep kp
    replace o7 := tu.own o7 ne7_10
    replace o8 := tu.own o8 ne8_10
    replace o9 := tu.own o9 ne9_10
    replace o11 := tu.own o11 (Ne.symm ne10_11)
    replace bel := tu.below bel ge10
    clear tu kp
    replace o10 := on
    clear on
    have hf31 := Wc.abs hh24
    obtain ⟨w32, hr, tu, on⟩ := st_Int (vs := [.bool (decide (fr (rawZ neg1 x1 6) (rawZ neg2 x2 4) < 0)), .slice ad27 n27 c27]) o11 rfl rfl (ocB (ocS oc0)) (niB (niS ni0)) (o := 0) rfl
    have kp := tu.keep o11
    refine E.st hF (r_store (hF.at 0 rfl) (hF.at 2 rfl) (hr _ rfl)) rfl rfl fun a hF => ?_
    clear hr
    replace hf15 := hf15.keep kp
    replace hh6 := hh6.keep kp
    replace hf17 := hf17.keep kp
    replace hh8 := hh8.keep kp
    replace hf19 := hf19.keep kp
    replace hh10 := hh10.keep kp
    replace hf31 := hf31.keep kp
    replace hh24 := hh24.keep kp
    replace hh25 := hh25.keep kp
    replace o7 := tu.own o7 ne7_11
    replace o8 := tu.own o8 ne8_11
    replace o9 := tu.own o9 ne9_11
    replace o10 := tu.own o10 ne10_11
    replace bel := tu.below bel ge11
    clear tu kp
    replace o11 := on
    clear on
    have hf33 := Wc.abs hh25
    refine E.nil ?_
    refine wp_seq ?_
    refine E.drawn2 13 mixed hF [some 32, some 33, some 34, some 35, some 36, some 37, some 38, some 31, some 39, some 40, some 12, some 13, none] [(fun _ v => v = .agg #[.bool b11, .slice ad11 n11 c11]), (fun _ v => v = .agg #[.bool b12, .slice ad12 n12 c12]), (fun _ v => v = .agg #[.bool (decide (n < 0)), .slice ad13 n13 c13]), (fun w v => Wc w v ((rawZ neg2 x2 4) * n)), (fun w v => Wc w v ((rawZ neg1 x1 6) + ((rawZ neg2 x2 4) * n))), (fun _ v => v = .agg #[.bool b12, .slice ad12 n12 c12]), (fun w v => ∃ q r, v = .tuple #[q, r] ∧ Wc w q (Int.fdiv ((rawZ neg1 x1 6) + ((rawZ neg2 x2 4) * n)) (rawZ neg2 x2 4)) ∧ Wc w r (fr ((rawZ neg1 x1 6) + ((rawZ neg2 x2 4) * n)) (rawZ neg2 x2 4))), (fun w v => ∃ q r, v = .tuple #[q, r] ∧ Wc w q (Int.fdiv ((rawZ neg1 x1 6) + ((rawZ neg2 x2 4) * n)) (rawZ neg2 x2 4)) ∧ Wc w r (fr ((rawZ neg1 x1 6) + ((rawZ neg2 x2 4) * n)) (rawZ neg2 x2 4))), (fun w v => Wc w v (Int.fdiv ((rawZ neg1 x1 6) + ((rawZ neg2 x2 4) * n)) (rawZ neg2 x2 4))), (fun w v => Wc w v (fr ((rawZ neg1 x1 6) + ((rawZ neg2 x2 4) * n)) (rawZ neg2 x2 4))), (fun _ _ => True), (fun _ _ => True), (fun _ _ => True)] [10, 11] [⟨12, 10, 8⟩] [[], [], [], [], [], [], [], [], [], [], [.bool false, .slice none 0 0], [.bool false, .slice none 0 0], []] (by decide +kernel) (by decide +kernel) rfl rfl rfl (by decide +kernel) (by decide +kernel) ⟨(Mk.eq _), (Mk.eq _), (Mk.eq _), (fun _ _ _ h kp => h.keep kp), (fun _ _ _ h kp => h.keep kp), (Mk.eq _), (fun _ _ _ ⟨q, r, e, h1, h2⟩ kp => ⟨q, r, e, h1.keep kp, h2.keep kp⟩), (fun _ _ _ ⟨q, r, e, h1, h2⟩ kp => ⟨q, r, e, h1.keep kp, h2.keep kp⟩), (fun _ _ _ h kp => h.keep kp), (fun _ _ _ h kp => h.keep kp), Mk.any, Mk.any, Mk.any, trivial⟩ ⟨?_, ?_, ?_, ?_, ?_, ?_, ?_, ?_, ?_, ?_, ?_, ?_, ?_, trivial⟩ ?_
    · refine step2_val rfl ?_
      intro a' w' hF' hb hd
      exact if_does (wanted_free rfl) (Does.vals (r_load (hF'.at 13 rfl) (ld_Int (vs := [.bool b11, .slice ad11 n11 c11]) (o7.below hb) rfl rfl)) ⟨fun _ => rfl, Below.refl _ _, (fun h => absurd h (by decide))⟩)
    · refine step2_val rfl ?_
      intro a' w' hF' hb hd
      exact if_does (wanted_free rfl) (Does.vals (r_load (hF'.at 12 rfl) (ld_Int (vs := [.bool b12, .slice ad12 n12 c12]) (o8.below hb) rfl rfl)) ⟨fun _ => rfl, Below.refl _ _, (fun h => absurd h (by decide))⟩)
    · refine step2_val rfl ?_
      intro a' w' hF' hb hd
      exact if_does (wanted_free rfl) (Does.vals (r_load (hF'.at 11 rfl) (ld_Int (vs := [.bool (decide (n < 0)), .slice ad13 n13 c13]) (o9.below hb) rfl rfl)) ⟨fun _ => rfl, Below.refl _ _, (fun h => absurd h (by decide))⟩)
    · refine step2_val rfl ?_
      intro a' w' hF' hb hd
      have e33 : a'.tmps.getD 33 undef = .agg #[.bool b12, .slice ad12 n12 c12] := hd _ 33 (Array.mem_of_getElem? (i := 0) rfl) rfl rfl rfl
      have e34 : a'.tmps.getD 34 undef = .agg #[.bool (decide (n < 0)), .slice ad13 n13 c13] := hd _ 34 (Array.mem_of_getElem? (i := 1) rfl) rfl rfl rfl
      refine if_does (wanted_free rfl) (Does.calls (r_call Try.func30 en30.1 en30.2 (map2 e33 e34)) (whMul_any _ _ _ _ 4 2 _ (hh8.below hb) (Wc.wz (hh10.below hb)) (rawZ_limo neg2 ok2 4) (limz_64 b1 b2) (by omega) (by omega)) ?_)
      rintro e w'' ⟨v', rfl, h', bb⟩
      exact ⟨_, rfl, fun _ => h', bb, (fun h => absurd h (by decide))⟩
    · refine step2_val rfl ?_
      intro a' w' hF' hb hd
      have e32 : a'.tmps.getD 32 undef = .agg #[.bool b11, .slice ad11 n11 c11] := hd _ 32 (Array.mem_of_getElem? (i := 0) rfl) rfl rfl rfl
      obtain ⟨v35_0, e35, h35_1⟩ : ∃ v, a'.tmps.getD 35 undef = v ∧ Wc w' v ((rawZ neg2 x2 4) * n) := ⟨_, rfl, hd _ 35 (Array.mem_of_getElem? (i := 1) rfl) rfl rfl rfl⟩
      refine if_does (wanted_free rfl) (Does.calls (r_call Try.func31 en31.1 en31.2 (map2 e32 e35)) (whAdd_any _ _ _ _ 6 (4 + 2) _ (hh6.below hb) (Wc.wz h35_1) (rawZ_limo neg1 ok1 6) (limz_mul (rawZ_limo neg2 ok2 4) (limz_64 b1 b2)) (by omega) (by omega)) ?_)
      rintro e w'' ⟨v', rfl, h', bb⟩
      exact ⟨_, rfl, fun _ => h', bb, (fun h => absurd h (by decide))⟩
    · refine step2_val rfl ?_
      intro a' w' hF' hb hd
      exact if_does (wanted_free rfl) (Does.vals (r_load (hF'.at 12 rfl) (ld_Int (vs := [.bool b12, .slice ad12 n12 c12]) (o8.below hb) rfl rfl)) ⟨fun _ => rfl, Below.refl _ _, (fun h => absurd h (by decide))⟩)
    · refine step2_val rfl ?_
      intro a' w' hF' hb hd
      obtain ⟨v36_0, e36, h36_1⟩ : ∃ v, a'.tmps.getD 36 undef = v ∧ Wc w' v ((rawZ neg1 x1 6) + ((rawZ neg2 x2 4) * n)) := ⟨_, rfl, hd _ 36 (Array.mem_of_getElem? (i := 0) rfl) rfl rfl rfl⟩
      have e37 : a'.tmps.getD 37 undef = .agg #[.bool b12, .slice ad12 n12 c12] := hd _ 37 (Array.mem_of_getElem? (i := 1) rfl) rfl rfl rfl
      refine if_does (wanted_free rfl) (Does.calls (r_call Try.func25 en25.1 en25.2 (map2 e36 e37)) (whDivMod_any _ _ _ _ _ (Wc.wz h36_1) (hh8.below hb) ((max 6 (4 + 2)) + 1) (limz_add (rawZ_limo neg1 ok1 6) (limz_mul (rawZ_limo neg2 ok2 4) (limz_64 b1 b2)) ((max 6 (4 + 2)) + 1) (by omega) (by omega)) (by omega)) ?_)
      rintro e w'' ⟨v1', v2', rfl, h1', h2', bb⟩
      exact ⟨_, rfl, fun _ => ⟨v1', v2', rfl, h1', h2'⟩, bb, (fun h => absurd h (by decide))⟩
    · refine step2_val rfl ?_
      intro a' w' hF' hb hd
      obtain ⟨v38_0, v38_1, e38, h38_2, h38_3⟩ : (fun (w : World) (v : Value) => ∃ q r, v = .tuple #[q, r] ∧ Wc w q (Int.fdiv ((rawZ neg1 x1 6) + ((rawZ neg2 x2 4) * n)) (rawZ neg2 x2 4)) ∧ Wc w r (fr ((rawZ neg1 x1 6) + ((rawZ neg2 x2 4) * n)) (rawZ neg2 x2 4))) w' (a'.tmps.getD 38 undef) := hd _ 38 (Array.mem_of_getElem? (i := 0) rfl) rfl rfl rfl
      exact if_does (wanted_free rfl) (Does.vals (r_move e38) ⟨fun _ => ⟨_, _, rfl, h38_2, h38_3⟩, Below.refl _ _, (fun h => absurd h (by decide))⟩)
    · refine step2_val rfl ?_
      intro a' w' hF' hb hd
      obtain ⟨v31, e31, h31⟩ : ∃ v, a'.tmps.getD 31 undef = v ∧ ∃ q r, v = .tuple #[q, r] ∧ Wc w' q (Int.fdiv ((rawZ neg1 x1 6) + ((rawZ neg2 x2 4) * n)) (rawZ neg2 x2 4)) ∧ Wc w' r (fr ((rawZ neg1 x1 6) + ((rawZ neg2 x2 4) * n)) (rawZ neg2 x2 4)) := ⟨_, rfl, hd _ 31 (Array.mem_of_getElem? (i := 0) rfl) rfl rfl rfl⟩
      obtain ⟨v31a, v31b, rfl, h31a, h31b⟩ := h31
      exact if_does (wanted_free rfl) (Does.vals (r_extract (v := v31a) e31 rfl) ⟨fun _ => h31a, Below.refl _ _, (fun h => absurd h (by decide))⟩)
    · refine step2_val rfl ?_
      intro a' w' hF' hb hd
      obtain ⟨v31, e31, h31⟩ : ∃ v, a'.tmps.getD 31 undef = v ∧ ∃ q r, v = .tuple #[q, r] ∧ Wc w' q (Int.fdiv ((rawZ neg1 x1 6) + ((rawZ neg2 x2 4) * n)) (rawZ neg2 x2 4)) ∧ Wc w' r (fr ((rawZ neg1 x1 6) + ((rawZ neg2 x2 4) * n)) (rawZ neg2 x2 4)) := ⟨_, rfl, hd _ 31 (Array.mem_of_getElem? (i := 0) rfl) rfl rfl rfl⟩
      obtain ⟨v31a, v31b, rfl, h31a, h31b⟩ := h31
      exact if_does (wanted_free rfl) (Does.vals (r_extract (v := v31b) e31 rfl) ⟨fun _ => h31b, Below.refl _ _, (fun h => absurd h (by decide))⟩)
    · refine step2_val rfl ?_
      intro a' w' hF' hb hd
      obtain ⟨g, w2, ge, hr, bb, on⟩ := own_alloc (P := Try.prog) (w := w') (cs := [.bool false, .slice none 0 0]) 37 ze_Int rfl (niB (niS ni0))
      subst ge
      exact if_does (wanted_free rfl) (Does.vals (r_alloc hr) ⟨(fun h => absurd h (by decide)), bb, fun _ => ⟨rfl, on⟩⟩)
    · refine step2_val rfl ?_
      intro a' w' hF' hb hd
      obtain ⟨g, w2, ge, hr, bb, on⟩ := own_alloc (P := Try.prog) (w := w') (cs := [.bool false, .slice none 0 0]) 37 ze_Int rfl (niB (niS ni0))
      subst ge
      exact if_does (wanted_free rfl) (Does.vals (r_alloc hr) ⟨(fun h => absurd h (by decide)), bb, fun _ => ⟨rfl, on⟩⟩)
    · exact step2_sto ⟨⟨12, 10, 8⟩, by simp, rfl⟩ (b := 10) (v := 8) rfl rfl rfl rfl rfl rfl sz_Int rfl (by decide) (by decide) (fun _ _ h => cellsBS (Wc.form h))
    intro a w34 hF bb hall hblk hne
    obtain ⟨vv35, e39, hh36⟩ : ∃ v, a.tmps.getD 39 undef = v ∧ Wc w34 v (Int.fdiv ((rawZ neg1 x1 6) + ((rawZ neg2 x2 4) * n)) (rawZ neg2 x2 4)) := ⟨_, rfl, hall 8 39 (by decide) rfl⟩
    obtain ⟨ad37, n37, c37, rfl, _⟩ := Wc.shape hh36
    obtain ⟨vv38, e40, hh39⟩ : ∃ v, a.tmps.getD 40 undef = v ∧ Wc w34 v (fr ((rawZ neg1 x1 6) + ((rawZ neg2 x2 4) * n)) (rawZ neg2 x2 4)) := ⟨_, rfl, hall 9 40 (by decide) rfl⟩
    obtain ⟨ad40, n40, c40, rfl, _⟩ := Wc.shape hh39
    obtain ⟨g12, cs12, e12, ge12, o12, hc12⟩ := hblk 10 12 (by decide) rfl
    have hc12 := (hc12.2 ⟨12, 10, 8⟩ (by simp) rfl).2 rfl 39 rfl
    rw [e39] at hc12
    obtain rfl : cs12 = [.bool (decide (Int.fdiv ((rawZ neg1 x1 6) + ((rawZ neg2 x2 4) * n)) (rawZ neg2 x2 4) < 0)), .slice ad37 n37 c37] := by have hx := congrArg Array.toList hc12; exact hx.symm
    clear hc12
    have ne9_12 : g9 ≠ g12 := Nat.ne_of_lt (Nat.lt_of_lt_of_le o9.lt ge12)
    have ne10_12 : g10 ≠ g12 := Nat.ne_of_lt (Nat.lt_of_lt_of_le o10.lt ge12)
    have ne11_12 : g11 ≠ g12 := Nat.ne_of_lt (Nat.lt_of_lt_of_le o11.lt ge12)
    obtain ⟨g13, cs13, e13, ge13, o13, hc13⟩ := hblk 11 13 (by decide) rfl
    obtain rfl : cs13 = [.bool false, .slice none 0 0] := hc13.1 (notBlk_spec rfl)
    clear hc13
    have ne9_13 : g9 ≠ g13 := Nat.ne_of_lt (Nat.lt_of_lt_of_le o9.lt ge13)
    have ne10_13 : g10 ≠ g13 := Nat.ne_of_lt (Nat.lt_of_lt_of_le o10.lt ge13)
    have ne11_13 : g11 ≠ g13 := Nat.ne_of_lt (Nat.lt_of_lt_of_le o11.lt ge13)
    have ne12_13 : g12 ≠ g13 := by intro e; exact hne 10 11 12 13 (by decide) (by decide) (by decide) rfl rfl (by rw [e12, e13, e])
    replace ge12 : w.heap.size ≤ g12 := Nat.le_trans bel.size ge12
    replace ge13 : w.heap.size ≤ g13 := Nat.le_trans bel.size ge13
    clear hall hblk hne
    replace hf19 := hf19.below bb
    replace hh10 := hh10.below bb
    replace hf31 := hf31.below bb
    replace hh24 := hh24.below bb
    replace hf33 := hf33.below bb
    replace hh25 := hh25.below bb
    replace o9 := o9.below bb
    replace o10 := o10.below bb
    replace o11 := o11.below bb
    replace bel := below_to bel bb
    clear bb
    have hf41 := Wc.abs hh36
    clear e39
    replace hF := hF.add e40
    clear e40
    replace hF := hF.add e12
    clear e12
    replace hF := hF.add e13
    clear e13
    obtain ⟨w42, hr, tu, on⟩ := st_Int (vs := [.bool (decide (fr ((rawZ neg1 x1 6) + ((rawZ neg2 x2 4) * n)) (rawZ neg2 x2 4) < 0)), .slice ad40 n40 c40]) o13 rfl rfl (ocB (ocS oc0)) (niB (niS ni0)) (o := 0) rfl
    have kp := tu.keep o13
    refine E.st hF (r_store (hF.at 0 rfl) (hF.at 2 rfl) (hr _ rfl)) rfl rfl fun a hF => ?_
    clear hr
    replace hf19 := hf19.keep kp
    replace hh10 := hh10.keep kp
    replace hf31 := hf31.keep kp
    replace hh24 := hh24.keep kp
    replace hf33 := hf33.keep kp
    replace hh25 := hh25.keep kp
    replace hf41 := hf41.keep kp
    replace hh36 := hh36.keep kp
    replace hh39 := hh39.keep kp
    replace o9 := tu.own o9 ne9_13
    replace o10 := tu.own o10 ne10_13
    replace o11 := tu.own o11 ne11_13
    replace o12 := tu.own o12 ne12_13
    replace bel := tu.below bel ge13
    clear tu kp
    replace o13 := on
    clear on
    have hf43 := Wc.abs hh39
    refine E.nil ?_
    refine wp_seq ?_
    refine E.drawn 12 mixed hF [41, 42, 43, 44, 45, 46, 47, 48, 49, 50, 51, 52] [(fun _ v => v = .agg #[.bool (decide (Int.fdiv ((rawZ neg1 x1 6) + ((rawZ neg2 x2 4) * n)) (rawZ neg2 x2 4) < 0)), .slice ad37 n37 c37]), (fun _ v => v = .agg #[.bool (decide (Int.fdiv (rawZ neg1 x1 6) (rawZ neg2 x2 4) < 0)), .slice ad26 n26 c26]), (fun _ v => v = .agg #[.bool (decide (n < 0)), .slice ad13 n13 c13]), (fun w v => Wc w v ((Int.fdiv (rawZ neg1 x1 6) (rawZ neg2 x2 4)) + n)), (fun _ v => v = .int .i64 (ci (Int.fdiv ((rawZ neg1 x1 6) + ((rawZ neg2 x2 4) * n)) (rawZ neg2 x2 4)) ((Int.fdiv (rawZ neg1 x1 6) (rawZ neg2 x2 4)) + n))), (fun _ v => v = .bool true), (fun _ v => v = .bool true), (fun _ v => v = .agg #[.bool (decide (fr ((rawZ neg1 x1 6) + ((rawZ neg2 x2 4) * n)) (rawZ neg2 x2 4) < 0)), .slice ad40 n40 c40]), (fun _ v => v = .agg #[.bool (decide (fr (rawZ neg1 x1 6) (rawZ neg2 x2 4) < 0)), .slice ad27 n27 c27]), (fun _ v => v = .int .i64 (ci (fr ((rawZ neg1 x1 6) + ((rawZ neg2 x2 4) * n)) (rawZ neg2 x2 4)) (fr (rawZ neg1 x1 6) (rawZ neg2 x2 4)))), (fun _ v => v = .bool true), (fun _ v => v = .bool true)] [] (by decide +kernel) (by decide +kernel) rfl rfl rfl ⟨(Mb.eq _), (Mb.eq _), (Mb.eq _), (fun _ _ _ h hb => h.below hb), (Mb.eq _), (Mb.eq _), (Mb.eq _), (Mb.eq _), (Mb.eq _), (Mb.eq _), (Mb.eq _), (Mb.eq _), trivial⟩ trivial ⟨?_, ?_, ?_, ?_, ?_, ?_, ?_, ?_, ?_, ?_, ?_, ?_, trivial⟩ ?_
    · intro a' w' hF' hb hd
      exact if_does (wanted_free rfl) (Does.vals (r_load (hF'.at 1 rfl) (ld_Int (vs := [.bool (decide (Int.fdiv ((rawZ neg1 x1 6) + ((rawZ neg2 x2 4) * n)) (rawZ neg2 x2 4) < 0)), .slice ad37 n37 c37]) (o12.below hb) rfl rfl)) ⟨rfl, Below.refl _ _, (fun h => absurd h (by decide))⟩)
    · intro a' w' hF' hb hd
      exact if_does (wanted_free rfl) (Does.vals (r_load (hF'.at 4 rfl) (ld_Int (vs := [.bool (decide (Int.fdiv (rawZ neg1 x1 6) (rawZ neg2 x2 4) < 0)), .slice ad26 n26 c26]) (o10.below hb) rfl rfl)) ⟨rfl, Below.refl _ _, (fun h => absurd h (by decide))⟩)
    · intro a' w' hF' hb hd
      exact if_does (wanted_free rfl) (Does.vals (r_load (hF'.at 14 rfl) (ld_Int (vs := [.bool (decide (n < 0)), .slice ad13 n13 c13]) (o9.below hb) rfl rfl)) ⟨rfl, Below.refl _ _, (fun h => absurd h (by decide))⟩)
    · intro a' w' hF' hb hd
      have e42 : a'.tmps.getD 42 undef = .agg #[.bool (decide (Int.fdiv (rawZ neg1 x1 6) (rawZ neg2 x2 4) < 0)), .slice ad26 n26 c26] := hd _ 42 (Array.mem_of_getElem? (i := 0) rfl) rfl rfl
      have e43 : a'.tmps.getD 43 undef = .agg #[.bool (decide (n < 0)), .slice ad13 n13 c13] := hd _ 43 (Array.mem_of_getElem? (i := 1) rfl) rfl rfl
      refine if_does (wanted_free rfl) (Does.calls (r_call Try.func31 en31.1 en31.2 (map2 e42 e43)) (whAdd_any _ _ _ _ (6 + 1) 2 _ (Wc.wz (hh24.below hb)) (Wc.wz (hh10.below hb)) (limz_fdiv (rawZ neg2 x2 4) (rawZ_limo neg1 ok1 6)) (limz_64 b1 b2) (by omega) (by omega)) ?_)
      rintro e w'' ⟨v', rfl, h', bb⟩
      exact ⟨_, rfl, h', bb, (fun h => absurd h (by decide))⟩
    · intro a' w' hF' hb hd
      have e41 : a'.tmps.getD 41 undef = .agg #[.bool (decide (Int.fdiv ((rawZ neg1 x1 6) + ((rawZ neg2 x2 4) * n)) (rawZ neg2 x2 4) < 0)), .slice ad37 n37 c37] := hd _ 41 (Array.mem_of_getElem? (i := 0) rfl) rfl rfl
      obtain ⟨v44_0, e44, h44_1⟩ : ∃ v, a'.tmps.getD 44 undef = v ∧ Wc w' v ((Int.fdiv (rawZ neg1 x1 6) (rawZ neg2 x2 4)) + n) := ⟨_, rfl, hd _ 44 (Array.mem_of_getElem? (i := 1) rfl) rfl rfl⟩
      refine if_does (wanted_free rfl) (Does.calls (r_call Try.func32 en32.1 en32.2 (map2 e41 e44)) (whCmp_any _ _ _ _ _ (Wc.wz (hh36.below hb)) (Wc.wz h44_1)) ?_)
      rintro e w'' ⟨rfl, bb⟩
      exact ⟨_, rfl, rfl, bb, (fun h => absurd h (by decide))⟩
    · intro a' w' hF' hb hd
      have e45 : a'.tmps.getD 45 undef = .int .i64 (ci (Int.fdiv ((rawZ neg1 x1 6) + ((rawZ neg2 x2 4) * n)) (rawZ neg2 x2 4)) ((Int.fdiv (rawZ neg1 x1 6) (rawZ neg2 x2 4)) + n)) := hd _ 45 (Array.mem_of_getElem? (i := 0) rfl) rfl rfl
      exact if_does (wanted_free rfl) (Does.vals (r_bin e45 ev_c eg_scalar (bi_int (ic_eql (c := true) (eqx (ci_same (fdiv_more _ _ _ h0)))) (by simp))) ⟨rfl, Below.refl _ _, (fun h => absurd h (by decide))⟩)
    · intro a' w' hF' hb hd
      have e46 : a'.tmps.getD 46 undef = .bool true := hd _ 46 (Array.mem_of_getElem? (i := 0) rfl) rfl rfl
      exact if_does (wanted_free rfl) (Does.vals (r_move e46) ⟨rfl, Below.refl _ _, (fun h => absurd h (by decide))⟩)
    · intro a' w' hF' hb hd
      have e47 : a'.tmps.getD 47 undef = .bool true := hd _ 47 (Array.mem_of_getElem? (i := 0) rfl) rfl rfl
      exact if_does (wanted_by rfl rfl e47 rfl) (Does.vals (r_load (hF'.at 0 rfl) (ld_Int (vs := [.bool (decide (fr ((rawZ neg1 x1 6) + ((rawZ neg2 x2 4) * n)) (rawZ neg2 x2 4) < 0)), .slice ad40 n40 c40]) (o13.below hb) rfl rfl)) ⟨rfl, Below.refl _ _, (fun h => absurd h (by decide))⟩)
    · intro a' w' hF' hb hd
      have e47 : a'.tmps.getD 47 undef = .bool true := hd _ 47 (Array.mem_of_getElem? (i := 0) rfl) rfl rfl
      exact if_does (wanted_by rfl rfl e47 rfl) (Does.vals (r_load (hF'.at 3 rfl) (ld_Int (vs := [.bool (decide (fr (rawZ neg1 x1 6) (rawZ neg2 x2 4) < 0)), .slice ad27 n27 c27]) (o11.below hb) rfl rfl)) ⟨rfl, Below.refl _ _, (fun h => absurd h (by decide))⟩)
    · intro a' w' hF' hb hd
      have e47 : a'.tmps.getD 47 undef = .bool true := hd _ 47 (Array.mem_of_getElem? (i := 2) rfl) rfl rfl
      have e48 : a'.tmps.getD 48 undef = .agg #[.bool (decide (fr ((rawZ neg1 x1 6) + ((rawZ neg2 x2 4) * n)) (rawZ neg2 x2 4) < 0)), .slice ad40 n40 c40] := hd _ 48 (Array.mem_of_getElem? (i := 0) rfl) rfl rfl
      have e49 : a'.tmps.getD 49 undef = .agg #[.bool (decide (fr (rawZ neg1 x1 6) (rawZ neg2 x2 4) < 0)), .slice ad27 n27 c27] := hd _ 49 (Array.mem_of_getElem? (i := 1) rfl) rfl rfl
      refine if_does (wanted_by rfl rfl e47 rfl) (Does.calls (r_call Try.func32 en32.1 en32.2 (map2 e48 e49)) (whCmp_any _ _ _ _ _ (Wc.wz (hh39.below hb)) (Wc.wz (hh25.below hb))) ?_)
      rintro e w'' ⟨rfl, bb⟩
      exact ⟨_, rfl, rfl, bb, (fun h => absurd h (by decide))⟩
    · intro a' w' hF' hb hd
      have e47 : a'.tmps.getD 47 undef = .bool true := hd _ 47 (Array.mem_of_getElem? (i := 1) rfl) rfl rfl
      have e50 : a'.tmps.getD 50 undef = .int .i64 (ci (fr ((rawZ neg1 x1 6) + ((rawZ neg2 x2 4) * n)) (rawZ neg2 x2 4)) (fr (rawZ neg1 x1 6) (rawZ neg2 x2 4))) := hd _ 50 (Array.mem_of_getElem? (i := 0) rfl) rfl rfl
      exact if_does (wanted_by rfl rfl e47 rfl) (Does.vals (r_bin e50 ev_c eg_scalar (bi_int (ic_eql (c := true) (eqx (ci_same (fr_more _ _ _)))) (by simp))) ⟨rfl, Below.refl _ _, (fun h => absurd h (by decide))⟩)
    · intro a' w' hF' hb hd
      have e47 : a'.tmps.getD 47 undef = .bool true := hd _ 47 (Array.mem_of_getElem? (i := 0) rfl) rfl rfl
      have e51 : a'.tmps.getD 51 undef = .bool true := hd _ 51 (Array.mem_of_getElem? (i := 1) rfl) rfl rfl
      exact if_does (wanted_free rfl) (Does.vals (r_pick_t e47 e51) ⟨rfl, Below.refl _ _, (fun h => absurd h (by decide))⟩)
    intro a w44 hF bb hall hne
    have e52 : a.tmps.getD 52 undef = .bool true := hall 11 52 rfl
    clear hall hne
    replace bel := below_to bel bb
    clear bb
    replace hF := hF.add e52
    clear e52
    refine E.opset (L' := [(6, .bool true), (52, .bool true), (13, .pointer (some ⟨g13, 0, none⟩)), (12, .pointer (some ⟨g12, 0, none⟩)), (40, .agg #[.bool (decide (fr ((rawZ neg1 x1 6) + ((rawZ neg2 x2 4) * n)) (rawZ neg2 x2 4) < 0)), .slice ad40 n40 c40]), (11, .pointer (some ⟨g11, 0, none⟩)), (10, .pointer (some ⟨g10, 0, none⟩)), (30, .agg #[.bool (decide (fr (rawZ neg1 x1 6) (rawZ neg2 x2 4) < 0)), .slice ad27 n27 c27]), (29, .agg #[.bool (decide (Int.fdiv (rawZ neg1 x1 6) (rawZ neg2 x2 4) < 0)), .slice ad26 n26 c26]), (25, .tuple #[.agg #[.bool (decide (Int.fdiv (rawZ neg1 x1 6) (rawZ neg2 x2 4) < 0)), .slice ad26 n26 c26], .agg #[.bool (decide (fr (rawZ neg1 x1 6) (rawZ neg2 x2 4) < 0)), .slice ad27 n27 c27]]), (28, .tuple #[.agg #[.bool (decide (Int.fdiv (rawZ neg1 x1 6) (rawZ neg2 x2 4) < 0)), .slice ad26 n26 c26], .agg #[.bool (decide (fr (rawZ neg1 x1 6) (rawZ neg2 x2 4) < 0)), .slice ad27 n27 c27]]), (27, .agg #[.bool b12, .slice ad12 n12 c12]), (26, .agg #[.bool b11, .slice ad11 n11 c11]), (24, .bool false), (23, .int .i64 (sz (rawZ neg2 x2 4))), (22, .agg #[.bool b12, .slice ad12 n12 c12]), (9, .pointer (some ⟨g9, 0, none⟩)), (8, .pointer (some ⟨g8, 0, none⟩)), (7, .pointer (some ⟨g7, 0, none⟩)), (21, .agg #[.bool (decide (n < 0)), .slice ad13 n13 c13]), (19, .agg #[.bool b12, .slice ad12 n12 c12]), (17, .agg #[.bool b11, .slice ad11 n11 c11]), (15, .bool false), (14, .bool true), (4, .pointer (some ⟨g4, 0, none⟩)), (3, .pointer (some ⟨g3, 0, none⟩)), (0, .agg #[.bool neg1, .slice a1 n1 c1]), (1, .agg #[.bool neg2, .slice a2 n2 c2]), (2, .int .i64 n)]) hF (r_assign (hF.at 0 rfl)) rfl rfl rfl rfl fun a hF => ?_
    refine E.nil ?_
    refine wp_ret ?_
    refine bodyPost_ret (res_tmp Try.results6 (hF.at 0 rfl)) hF.dfr ?_
    exact ⟨rfl, bel⟩

end Go.Proofs.Ytjgafncpahbjkaa
