/- The walk of WholeRing. -/
import Derived.Test.YtjgafncpahbjkaaQ
import Derived.Test.YtjgafncpahbjkaaGG
import Derived.Test.YtjgafncpahbjkaaLawS
namespace Go.Proofs.Ytjgafncpahbjkaa
open Go.RowKit
set_option maxRecDepth 100000
set_option linter.unusedVariables false

theorem Z3 (a b c : Int) : a * b * c = b * (c * a) := by rw [Int.mul_comm c a, ← Int.mul_assoc, Int.mul_comm b a]

set_option maxHeartbeats 4000000 in
theorem wholeRing_walk (neg1 : Bool) (a1 : Option Addr) (n1 c1 : Nat) (x1 : List Nat) (neg2 : Bool) (a2 : Option Addr) (n2 c2 : Nat) (x2 : List Nat) (neg3 : Bool) (a3 : Option Addr) (n3 c3 : Nat) (x3 : List Nat) (w : World) (h1 : InX w a1 n1 c1 x1) (h2 : InX w a2 n2 c2 x2) (h3 : InX w a3 n3 c3 x3) :
    Calls Try.prog 5 #[.agg #[.bool neg1, .slice a1 n1 c1], .agg #[.bool neg2, .slice a2 n2 c2], .agg #[.bool neg3, .slice a3 n3 c3]] w (TruePost w) := by
  have ok1 := h1.ok
  have ok2 := h2.ok
  have ok3 := h3.ok
  have bel : Below w.heap.size w w := Below.refl _ _
  refine E.enter (nt := 96) (L := [(0, .agg #[.bool neg1, .slice a1 n1 c1]), (1, .agg #[.bool neg2, .slice a2 n2 c2]), (2, .agg #[.bool neg3, .slice a3 n3 c3])]) Try.func5 rfl rfl rfl (args_cons (i := 0) rfl (args_cons (i := 1) rfl (args_cons (i := 2) rfl args_nil))) ?_
  intro a hF
  refine wp_seq ?_
  refine E.seq ?_
  obtain ⟨g3, w1, ge3, hr, bb, o3⟩ := own_box (P := Try.prog) (w := w) (cs := [.bool neg1, .slice a1 n1 c1]) (v := .agg #[.bool neg1, .slice a1 n1 c1]) 35 rfl (niB (niS ni0))
  replace ge3 : w.heap.size ≤ g3 := by rw [← ge3]; exact bel.size
  refine E.opv hF (r_box (hF.at 0 rfl) hr) rfl rfl rfl rfl fun a hF => ?_
  clear hr
  replace h2 := h2.below bb
  replace h3 := h3.below bb
  replace h1 := h1.below bb
  replace bel := below_to bel bb
  clear bb
  obtain ⟨g4, w2, ge4, hr, bb, o4⟩ := own_box (P := Try.prog) (w := w1) (cs := [.bool neg2, .slice a2 n2 c2]) (v := .agg #[.bool neg2, .slice a2 n2 c2]) 35 rfl (niB (niS ni0))
  have ne3_4 : g3 ≠ g4 := by rw [← ge4]; exact o3.ne_new
  replace ge4 : w.heap.size ≤ g4 := by rw [← ge4]; exact bel.size
  refine E.opv hF (r_box (hF.at 2 rfl) hr) rfl rfl rfl rfl fun a hF => ?_
  clear hr
  replace h3 := h3.below bb
  replace h1 := h1.below bb
  replace h2 := h2.below bb
  replace o3 := o3.below bb
  replace bel := below_to bel bb
  clear bb
  obtain ⟨g5, w3, ge5, hr, bb, o5⟩ := own_box (P := Try.prog) (w := w2) (cs := [.bool neg3, .slice a3 n3 c3]) (v := .agg #[.bool neg3, .slice a3 n3 c3]) 35 rfl (niB (niS ni0))
  have ne3_5 : g3 ≠ g5 := by rw [← ge5]; exact o3.ne_new
  have ne4_5 : g4 ≠ g5 := by rw [← ge5]; exact o4.ne_new
  replace ge5 : w.heap.size ≤ g5 := by rw [← ge5]; exact bel.size
  refine E.opv hF (r_box (hF.at 4 rfl) hr) rfl rfl rfl rfl fun a hF => ?_
  clear hr
  replace h1 := h1.below bb
  replace h2 := h2.below bb
  replace h3 := h3.below bb
  replace o3 := o3.below bb
  replace o4 := o4.below bb
  replace bel := below_to bel bb
  clear bb
  refine E.opv hF (r_assign rfl) rfl rfl rfl rfl fun a hF => ?_
  refine E.nil ?_
  refine wp_seq ?_
  refine wp_seq ?_
  refine E.seq ?_
  refine E.call hF (r_call Try.func23 en23.1 en23.2 map0) (awake3_any _) rfl rfl rfl rfl ?_
  rintro e w4 ⟨rfl, bb⟩
  refine ⟨_, rfl, ?_⟩
  intro a hF
  replace h1 := h1.below bb
  replace h2 := h2.below bb
  replace h3 := h3.below bb
  replace o3 := o3.below bb
  replace o4 := o4.below bb
  replace o5 := o5.below bb
  replace bel := below_to bel bb
  clear bb
  refine E.opv hF (r_un (hF.at 0 rfl) (bn_not _ _ rfl)) rfl rfl rfl rfl fun a hF => ?_
  refine E.nil ?_
  refine wp_cond_false (hF.at 0 rfl) ?_
  refine wp_skip ?_
  refine E.norm ?_
  refine wp_seq ?_
  refine E.drawn 9 mixed hF [12, 13, 14, 15, 16, 17, 7, 8, 9] [(fun _ v => v = .agg #[.bool neg1, .slice a1 n1 c1]), (fun w v => Wz w v (rawZ neg1 x1 6)), (fun _ v => v = .agg #[.bool neg2, .slice a2 n2 c2]), (fun w v => Wz w v (rawZ neg2 x2 6)), (fun _ v => v = .agg #[.bool neg3, .slice a3 n3 c3]), (fun w v => Wz w v (rawZ neg3 x3 6)), (fun w v => ∃ g, v = .pointer (some ⟨g, 0, none⟩) ∧ w4.heap.size ≤ g ∧ Own w g [.bool false, .slice none 0 0]), (fun w v => ∃ g, v = .pointer (some ⟨g, 0, none⟩) ∧ w4.heap.size ≤ g ∧ Own w g [.bool false, .slice none 0 0]), (fun w v => ∃ g, v = .pointer (some ⟨g, 0, none⟩) ∧ w4.heap.size ≤ g ∧ Own w g [.bool false, .slice none 0 0])] [6, 7, 8] (by decide +kernel) (by decide +kernel) rfl rfl rfl ⟨(Mb.eq _), (fun _ _ _ h hb => h.below hb), (Mb.eq _), (fun _ _ _ h hb => h.below hb), (Mb.eq _), (fun _ _ _ h hb => h.below hb), (fun _ _ _ ⟨g, e, l, o⟩ hb => ⟨g, e, l, o.below hb⟩), (fun _ _ _ ⟨g, e, l, o⟩ hb => ⟨g, e, l, o.below hb⟩), (fun _ _ _ ⟨g, e, l, o⟩ hb => ⟨g, e, l, o.below hb⟩), trivial⟩ ⟨fun _ _ ⟨g, e, _, o⟩ => ⟨g, e, o.lt⟩, ⟨fun _ _ ⟨g, e, _, o⟩ => ⟨g, e, o.lt⟩, ⟨fun _ _ ⟨g, e, _, o⟩ => ⟨g, e, o.lt⟩, trivial⟩⟩⟩ ⟨?_, ?_, ?_, ?_, ?_, ?_, ?_, ?_, ?_, trivial⟩ ?_
  · intro a' w' hF' hb hd
    exact if_does (wanted_free rfl) (Does.vals (r_load (hF'.at 5 rfl) (ld_Raw (o3.below hb) rfl rfl)) ⟨rfl, Below.refl _ _, (fun h => absurd h (by decide))⟩)
  · intro a' w' hF' hb hd
    have e12 : a'.tmps.getD 12 undef = .agg #[.bool neg1, .slice a1 n1 c1] := hd _ 12 (Array.mem_of_getElem? (i := 0) rfl) rfl rfl
    refine if_does (wanted_free rfl) (Does.calls (r_call Try.func24 en24.1 en24.2 (map2 e12 rfl)) (own_any neg1 a1 n1 c1 6 x1 _ (h1.below hb) (by omega)) ?_)
    rintro e w'' ⟨v', rfl, h', bb⟩
    exact ⟨_, rfl, h', bb, (fun h => absurd h (by decide))⟩
  · intro a' w' hF' hb hd
    exact if_does (wanted_free rfl) (Does.vals (r_load (hF'.at 4 rfl) (ld_Raw (o4.below hb) rfl rfl)) ⟨rfl, Below.refl _ _, (fun h => absurd h (by decide))⟩)
  · intro a' w' hF' hb hd
    have e14 : a'.tmps.getD 14 undef = .agg #[.bool neg2, .slice a2 n2 c2] := hd _ 14 (Array.mem_of_getElem? (i := 0) rfl) rfl rfl
    refine if_does (wanted_free rfl) (Does.calls (r_call Try.func24 en24.1 en24.2 (map2 e14 rfl)) (own_any neg2 a2 n2 c2 6 x2 _ (h2.below hb) (by omega)) ?_)
    rintro e w'' ⟨v', rfl, h', bb⟩
    exact ⟨_, rfl, h', bb, (fun h => absurd h (by decide))⟩
  · intro a' w' hF' hb hd
    exact if_does (wanted_free rfl) (Does.vals (r_load (hF'.at 3 rfl) (ld_Raw (o5.below hb) rfl rfl)) ⟨rfl, Below.refl _ _, (fun h => absurd h (by decide))⟩)
  · intro a' w' hF' hb hd
    have e16 : a'.tmps.getD 16 undef = .agg #[.bool neg3, .slice a3 n3 c3] := hd _ 16 (Array.mem_of_getElem? (i := 0) rfl) rfl rfl
    refine if_does (wanted_free rfl) (Does.calls (r_call Try.func24 en24.1 en24.2 (map2 e16 rfl)) (own_any neg3 a3 n3 c3 6 x3 _ (h3.below hb) (by omega)) ?_)
    rintro e w'' ⟨v', rfl, h', bb⟩
    exact ⟨_, rfl, h', bb, (fun h => absurd h (by decide))⟩
  · intro a' w' hF' hb hd
    obtain ⟨g, w2, ge, hr, bb, on⟩ := own_alloc (P := Try.prog) (w := w') (cs := [.bool false, .slice none 0 0]) 37 ze_Int rfl (niB (niS ni0))
    subst ge
    exact if_does (wanted_free rfl) (Does.vals (r_alloc hr) ⟨⟨_, rfl, hb.size, on⟩, bb, fun _ => rfl⟩)
  · intro a' w' hF' hb hd
    obtain ⟨g, w2, ge, hr, bb, on⟩ := own_alloc (P := Try.prog) (w := w') (cs := [.bool false, .slice none 0 0]) 37 ze_Int rfl (niB (niS ni0))
    subst ge
    exact if_does (wanted_free rfl) (Does.vals (r_alloc hr) ⟨⟨_, rfl, hb.size, on⟩, bb, fun _ => rfl⟩)
  · intro a' w' hF' hb hd
    obtain ⟨g, w2, ge, hr, bb, on⟩ := own_alloc (P := Try.prog) (w := w') (cs := [.bool false, .slice none 0 0]) 37 ze_Int rfl (niB (niS ni0))
    subst ge
    exact if_does (wanted_free rfl) (Does.vals (r_alloc hr) ⟨⟨_, rfl, hb.size, on⟩, bb, fun _ => rfl⟩)
  intro a w5 hF bb hall hne
  obtain ⟨v6, e13, h7⟩ : ∃ v, a.tmps.getD 13 undef = v ∧ Wz w5 v (rawZ neg1 x1 6) := ⟨_, rfl, hall 1 13 rfl⟩
  obtain ⟨v8, e15, h9⟩ : ∃ v, a.tmps.getD 15 undef = v ∧ Wz w5 v (rawZ neg2 x2 6) := ⟨_, rfl, hall 3 15 rfl⟩
  obtain ⟨v10, e17, h11⟩ : ∃ v, a.tmps.getD 17 undef = v ∧ Wz w5 v (rawZ neg3 x3 6) := ⟨_, rfl, hall 5 17 rfl⟩
  obtain ⟨g7, e7, ge7, o7⟩ : ∃ g, a.tmps.getD 7 undef = .pointer (some ⟨g, 0, none⟩) ∧ w4.heap.size ≤ g ∧ Own w5 g [.bool false, .slice none 0 0] := hall 6 7 rfl
  obtain ⟨g8, e8, ge8, o8⟩ : ∃ g, a.tmps.getD 8 undef = .pointer (some ⟨g, 0, none⟩) ∧ w4.heap.size ≤ g ∧ Own w5 g [.bool false, .slice none 0 0] := hall 7 8 rfl
  have ne7_8 : g7 ≠ g8 := by intro e; exact hne 6 7 7 8 rfl rfl (by decide) rfl rfl (by rw [e7, e8, e])
  obtain ⟨g9, e9, ge9, o9⟩ : ∃ g, a.tmps.getD 9 undef = .pointer (some ⟨g, 0, none⟩) ∧ w4.heap.size ≤ g ∧ Own w5 g [.bool false, .slice none 0 0] := hall 8 9 rfl
  have ne7_9 : g7 ≠ g9 := by intro e; exact hne 6 8 7 9 rfl rfl (by decide) rfl rfl (by rw [e7, e9, e])
  have ne8_9 : g8 ≠ g9 := by intro e; exact hne 7 8 8 9 rfl rfl (by decide) rfl rfl (by rw [e8, e9, e])
  replace ge7 : w.heap.size ≤ g7 := Nat.le_trans bel.size ge7
  replace ge8 : w.heap.size ≤ g8 := Nat.le_trans bel.size ge8
  replace ge9 : w.heap.size ≤ g9 := Nat.le_trans bel.size ge9
  clear hall hne
  replace bel := below_to bel bb
  clear bb
  replace hF := hF.add e13
  clear e13
  replace hF := hF.add e15
  clear e15
  replace hF := hF.add e17
  clear e17
  replace hF := hF.add e7
  clear e7
  replace hF := hF.add e8
  clear e8
  replace hF := hF.add e9
  clear e9
  obtain ⟨b12, ad12, n12, c12, rfl⟩ := Wz.form h7
  obtain ⟨w13, hr, tu, on⟩ := st_Int (vs := [.bool b12, .slice ad12 n12 c12]) o7 rfl rfl (ocB (ocS oc0)) (niB (niS ni0)) (o := 0) rfl
  have kp := tu.keep o7
  refine E.st hF (r_store (hF.at 2 rfl) (hF.at 5 rfl) (hr _ rfl)) rfl rfl fun a hF => ?_
  clear hr
  replace h11 := h11.keep kp
  replace h9 := h9.keep kp
  replace h7 := h7.keep kp
  replace o8 := tu.own o8 (Ne.symm ne7_8)
  replace o9 := tu.own o9 (Ne.symm ne7_9)
  replace bel := tu.below bel ge7
  clear tu kp
  replace o7 := on
  clear on
  have hf14 := Wz.abso h7
  obtain ⟨b15, ad15, n15, c15, rfl⟩ := Wz.form h9
  obtain ⟨w16, hr, tu, on⟩ := st_Int (vs := [.bool b15, .slice ad15 n15 c15]) o8 rfl rfl (ocB (ocS oc0)) (niB (niS ni0)) (o := 0) rfl
  have kp := tu.keep o8
  refine E.st hF (r_store (hF.at 1 rfl) (hF.at 4 rfl) (hr _ rfl)) rfl rfl fun a hF => ?_
  clear hr
  replace h11 := h11.keep kp
  replace hf14 := hf14.keep kp
  replace h7 := h7.keep kp
  replace h9 := h9.keep kp
  replace o7 := tu.own o7 ne7_8
  replace o9 := tu.own o9 (Ne.symm ne8_9)
  replace bel := tu.below bel ge8
  clear tu kp
  replace o8 := on
  clear on
  have hf17 := Wz.abso h9
  obtain ⟨b18, ad18, n18, c18, rfl⟩ := Wz.form h11
  obtain ⟨w19, hr, tu, on⟩ := st_Int (vs := [.bool b18, .slice ad18 n18 c18]) o9 rfl rfl (ocB (ocS oc0)) (niB (niS ni0)) (o := 0) rfl
  have kp := tu.keep o9
  refine E.st hF (r_store (hF.at 0 rfl) (hF.at 3 rfl) (hr _ rfl)) rfl rfl fun a hF => ?_
  clear hr
  replace hf14 := hf14.keep kp
  replace h7 := h7.keep kp
  replace hf17 := hf17.keep kp
  replace h9 := h9.keep kp
  replace h11 := h11.keep kp
  replace o7 := tu.own o7 ne7_9
  replace o8 := tu.own o8 ne8_9
  replace bel := tu.below bel ge9
  clear tu kp
  replace o9 := on
  clear on
  have hf20 := Wz.abso h11
  refine E.nil ?_
  refine wp_seq ?_
  refine wp_seq ?_
  refine E.drawn 42 mixed hF [18, 19, 20, 21, 22, 23, 24, 25, 26, 27, 28, 29, 30, 31, 32, 33, 34, 35, 36, 37, 38, 39, 40, 41, 42, 43, 44, 45, 46, 47, 48, 49, 50, 51, 52, 53, 54, 55, 56, 57, 58, 59] [(fun _ v => v = .agg #[.bool b12, .slice ad12 n12 c12]), (fun _ v => v = .agg #[.bool b15, .slice ad15 n15 c15]), (fun w v => Wc w v ((rawZ neg1 x1 6) + (rawZ neg2 x2 6))), (fun _ v => v = .agg #[.bool b18, .slice ad18 n18 c18]), (fun w v => Wc w v (((rawZ neg1 x1 6) + (rawZ neg2 x2 6)) + (rawZ neg3 x3 6))), (fun _ v => v = .agg #[.bool b18, .slice ad18 n18 c18]), (fun _ v => v = .agg #[.bool b15, .slice ad15 n15 c15]), (fun w v => Wc w v ((rawZ neg3 x3 6) + (rawZ neg2 x2 6))), (fun _ v => v = .agg #[.bool b12, .slice ad12 n12 c12]), (fun w v => Wc w v (((rawZ neg3 x3 6) + (rawZ neg2 x2 6)) + (rawZ neg1 x1 6))), (fun _ v => v = .int .i64 (ci (((rawZ neg1 x1 6) + (rawZ neg2 x2 6)) + (rawZ neg3 x3 6)) (((rawZ neg3 x3 6) + (rawZ neg2 x2 6)) + (rawZ neg1 x1 6)))), (fun _ v => v = .bool false), (fun _ v => v = .bool false), (fun _ v => v = .agg #[.bool b12, .slice ad12 n12 c12]), (fun _ v => v = .agg #[.bool b15, .slice ad15 n15 c15]), (fun _ v => v = .agg #[.bool b18, .slice ad18 n18 c18]), (fun w v => Wc w v ((rawZ neg2 x2 6) - (rawZ neg3 x3 6))), (fun w v => Wc w v ((rawZ neg1 x1 6) * ((rawZ neg2 x2 6) - (rawZ neg3 x3 6)))), (fun _ v => v = .agg #[.bool b12, .slice ad12 n12 c12]), (fun _ v => v = .agg #[.bool b15, .slice ad15 n15 c15]), (fun w v => Wc w v ((rawZ neg1 x1 6) * (rawZ neg2 x2 6))), (fun _ v => v = .agg #[.bool b12, .slice ad12 n12 c12]), (fun _ v => v = .agg #[.bool b18, .slice ad18 n18 c18]), (fun w v => Wc w v ((rawZ neg1 x1 6) * (rawZ neg3 x3 6))), (fun w v => Wc w v (((rawZ neg1 x1 6) * (rawZ neg2 x2 6)) - ((rawZ neg1 x1 6) * (rawZ neg3 x3 6)))), (fun _ v => v = .int .i64 (ci ((rawZ neg1 x1 6) * ((rawZ neg2 x2 6) - (rawZ neg3 x3 6))) (((rawZ neg1 x1 6) * (rawZ neg2 x2 6)) - ((rawZ neg1 x1 6) * (rawZ neg3 x3 6))))), (fun _ v => v = .bool false), (fun _ v => v = .bool false), (fun _ v => v = .bool false), (fun _ v => v = .agg #[.bool b12, .slice ad12 n12 c12]), (fun _ v => v = .agg #[.bool b15, .slice ad15 n15 c15]), (fun w v => Wc w v ((rawZ neg1 x1 6) * (rawZ neg2 x2 6))), (fun _ v => v = .agg #[.bool b18, .slice ad18 n18 c18]), (fun w v => Wc w v (((rawZ neg1 x1 6) * (rawZ neg2 x2 6)) * (rawZ neg3 x3 6))), (fun _ v => v = .agg #[.bool b15, .slice ad15 n15 c15]), (fun _ v => v = .agg #[.bool b18, .slice ad18 n18 c18]), (fun _ v => v = .agg #[.bool b12, .slice ad12 n12 c12]), (fun w v => Wc w v ((rawZ neg3 x3 6) * (rawZ neg1 x1 6))), (fun w v => Wc w v ((rawZ neg2 x2 6) * ((rawZ neg3 x3 6) * (rawZ neg1 x1 6)))), (fun _ v => v = .int .i64 (ci (((rawZ neg1 x1 6) * (rawZ neg2 x2 6)) * (rawZ neg3 x3 6)) ((rawZ neg2 x2 6) * ((rawZ neg3 x3 6) * (rawZ neg1 x1 6))))), (fun _ v => v = .bool false), (fun _ v => v = .bool false)] [] (by decide +kernel) (by decide +kernel) rfl rfl rfl ⟨(Mb.eq _), (Mb.eq _), (fun _ _ _ h hb => h.below hb), (Mb.eq _), (fun _ _ _ h hb => h.below hb), (Mb.eq _), (Mb.eq _), (fun _ _ _ h hb => h.below hb), (Mb.eq _), (fun _ _ _ h hb => h.below hb), (Mb.eq _), (Mb.eq _), (Mb.eq _), (Mb.eq _), (Mb.eq _), (Mb.eq _), (fun _ _ _ h hb => h.below hb), (fun _ _ _ h hb => h.below hb), (Mb.eq _), (Mb.eq _), (fun _ _ _ h hb => h.below hb), (Mb.eq _), (Mb.eq _), (fun _ _ _ h hb => h.below hb), (fun _ _ _ h hb => h.below hb), (Mb.eq _), (Mb.eq _), (Mb.eq _), (Mb.eq _), (Mb.eq _), (Mb.eq _), (fun _ _ _ h hb => h.below hb), (Mb.eq _), (fun _ _ _ h hb => h.below hb), (Mb.eq _), (Mb.eq _), (Mb.eq _), (fun _ _ _ h hb => h.below hb), (fun _ _ _ h hb => h.below hb), (Mb.eq _), (Mb.eq _), (Mb.eq _), trivial⟩ trivial ⟨?_, ?_, ?_, ?_, ?_, ?_, ?_, ?_, ?_, ?_, ?_, ?_, ?_, ?_, ?_, ?_, ?_, ?_, ?_, ?_, ?_, ?_, ?_, ?_, ?_, ?_, ?_, ?_, ?_, ?_, ?_, ?_, ?_, ?_, ?_, ?_, ?_, ?_, ?_, ?_, ?_, ?_, trivial⟩ ?_
  · intro a' w' hF' hb hd
    exact if_does (wanted_free rfl) (Does.vals (r_load (hF'.at 2 rfl) (ld_Int (o7.below hb) rfl rfl)) ⟨rfl, Below.refl _ _, (fun h => absurd h (by decide))⟩)
  · intro a' w' hF' hb hd
    exact if_does (wanted_free rfl) (Does.vals (r_load (hF'.at 1 rfl) (ld_Int (o8.below hb) rfl rfl)) ⟨rfl, Below.refl _ _, (fun h => absurd h (by decide))⟩)
  · intro a' w' hF' hb hd
    have e18 : a'.tmps.getD 18 undef = .agg #[.bool b12, .slice ad12 n12 c12] := hd _ 18 (Array.mem_of_getElem? (i := 0) rfl) rfl rfl
    have e19 : a'.tmps.getD 19 undef = .agg #[.bool b15, .slice ad15 n15 c15] := hd _ 19 (Array.mem_of_getElem? (i := 1) rfl) rfl rfl
    refine if_does (wanted_free rfl) (Does.calls (r_call Try.func31 en31.1 en31.2 (map2 e18 e19)) (whAdd_any _ _ _ _ 6 6 _ (h7.below hb) (h9.below hb) (rawZ_limo neg1 ok1 6) (rawZ_limo neg2 ok2 6) (by omega) (by omega)) ?_)
    rintro e w'' ⟨v', rfl, h', bb⟩
    exact ⟨_, rfl, h', bb, (fun h => absurd h (by decide))⟩
  · intro a' w' hF' hb hd
    exact if_does (wanted_free rfl) (Does.vals (r_load (hF'.at 0 rfl) (ld_Int (o9.below hb) rfl rfl)) ⟨rfl, Below.refl _ _, (fun h => absurd h (by decide))⟩)
  · intro a' w' hF' hb hd
    obtain ⟨v20_0, e20, h20_1⟩ : ∃ v, a'.tmps.getD 20 undef = v ∧ Wc w' v ((rawZ neg1 x1 6) + (rawZ neg2 x2 6)) := ⟨_, rfl, hd _ 20 (Array.mem_of_getElem? (i := 0) rfl) rfl rfl⟩
    have e21 : a'.tmps.getD 21 undef = .agg #[.bool b18, .slice ad18 n18 c18] := hd _ 21 (Array.mem_of_getElem? (i := 1) rfl) rfl rfl
    refine if_does (wanted_free rfl) (Does.calls (r_call Try.func31 en31.1 en31.2 (map2 e20 e21)) (whAdd_any _ _ _ _ (6 + 1) 6 _ (Wc.wz h20_1) (h11.below hb) (limz_add (rawZ_limo neg1 ok1 6) (rawZ_limo neg2 ok2 6) (6 + 1) (by omega) (by omega)) (rawZ_limo neg3 ok3 6) (by omega) (by omega)) ?_)
    rintro e w'' ⟨v', rfl, h', bb⟩
    exact ⟨_, rfl, h', bb, (fun h => absurd h (by decide))⟩
  · intro a' w' hF' hb hd
    exact if_does (wanted_free rfl) (Does.vals (r_load (hF'.at 0 rfl) (ld_Int (o9.below hb) rfl rfl)) ⟨rfl, Below.refl _ _, (fun h => absurd h (by decide))⟩)
  · intro a' w' hF' hb hd
    exact if_does (wanted_free rfl) (Does.vals (r_load (hF'.at 1 rfl) (ld_Int (o8.below hb) rfl rfl)) ⟨rfl, Below.refl _ _, (fun h => absurd h (by decide))⟩)
  · intro a' w' hF' hb hd
    have e23 : a'.tmps.getD 23 undef = .agg #[.bool b18, .slice ad18 n18 c18] := hd _ 23 (Array.mem_of_getElem? (i := 0) rfl) rfl rfl
    have e24 : a'.tmps.getD 24 undef = .agg #[.bool b15, .slice ad15 n15 c15] := hd _ 24 (Array.mem_of_getElem? (i := 1) rfl) rfl rfl
    refine if_does (wanted_free rfl) (Does.calls (r_call Try.func31 en31.1 en31.2 (map2 e23 e24)) (whAdd_any _ _ _ _ 6 6 _ (h11.below hb) (h9.below hb) (rawZ_limo neg3 ok3 6) (rawZ_limo neg2 ok2 6) (by omega) (by omega)) ?_)
    rintro e w'' ⟨v', rfl, h', bb⟩
    exact ⟨_, rfl, h', bb, (fun h => absurd h (by decide))⟩
  · intro a' w' hF' hb hd
    exact if_does (wanted_free rfl) (Does.vals (r_load (hF'.at 2 rfl) (ld_Int (o7.below hb) rfl rfl)) ⟨rfl, Below.refl _ _, (fun h => absurd h (by decide))⟩)
  · intro a' w' hF' hb hd
    obtain ⟨v25_0, e25, h25_1⟩ : ∃ v, a'.tmps.getD 25 undef = v ∧ Wc w' v ((rawZ neg3 x3 6) + (rawZ neg2 x2 6)) := ⟨_, rfl, hd _ 25 (Array.mem_of_getElem? (i := 0) rfl) rfl rfl⟩
    have e26 : a'.tmps.getD 26 undef = .agg #[.bool b12, .slice ad12 n12 c12] := hd _ 26 (Array.mem_of_getElem? (i := 1) rfl) rfl rfl
    refine if_does (wanted_free rfl) (Does.calls (r_call Try.func31 en31.1 en31.2 (map2 e25 e26)) (whAdd_any _ _ _ _ (6 + 1) 6 _ (Wc.wz h25_1) (h7.below hb) (limz_add (rawZ_limo neg3 ok3 6) (rawZ_limo neg2 ok2 6) (6 + 1) (by omega) (by omega)) (rawZ_limo neg1 ok1 6) (by omega) (by omega)) ?_)
    rintro e w'' ⟨v', rfl, h', bb⟩
    exact ⟨_, rfl, h', bb, (fun h => absurd h (by decide))⟩
  · intro a' w' hF' hb hd
    obtain ⟨v22_0, e22, h22_1⟩ : ∃ v, a'.tmps.getD 22 undef = v ∧ Wc w' v (((rawZ neg1 x1 6) + (rawZ neg2 x2 6)) + (rawZ neg3 x3 6)) := ⟨_, rfl, hd _ 22 (Array.mem_of_getElem? (i := 0) rfl) rfl rfl⟩
    obtain ⟨v27_0, e27, h27_1⟩ : ∃ v, a'.tmps.getD 27 undef = v ∧ Wc w' v (((rawZ neg3 x3 6) + (rawZ neg2 x2 6)) + (rawZ neg1 x1 6)) := ⟨_, rfl, hd _ 27 (Array.mem_of_getElem? (i := 1) rfl) rfl rfl⟩
    refine if_does (wanted_free rfl) (Does.calls (r_call Try.func32 en32.1 en32.2 (map2 e22 e27)) (whCmp_any _ _ _ _ _ (Wc.wz h22_1) (Wc.wz h27_1)) ?_)
    rintro e w'' ⟨rfl, bb⟩
    exact ⟨_, rfl, rfl, bb, (fun h => absurd h (by decide))⟩
  · intro a' w' hF' hb hd
    have e28 : a'.tmps.getD 28 undef = .int .i64 (ci (((rawZ neg1 x1 6) + (rawZ neg2 x2 6)) + (rawZ neg3 x3 6)) (((rawZ neg3 x3 6) + (rawZ neg2 x2 6)) + (rawZ neg1 x1 6))) := hd _ 28 (Array.mem_of_getElem? (i := 0) rfl) rfl rfl
    exact if_does (wanted_free rfl) (Does.vals (r_bin e28 rfl eg_scalar (bi_int (ic_neq (ne0 (ci_same (by omega)))) (by simp))) ⟨rfl, Below.refl _ _, (fun h => absurd h (by decide))⟩)
  · intro a' w' hF' hb hd
    have e29 : a'.tmps.getD 29 undef = .bool false := hd _ 29 (Array.mem_of_getElem? (i := 0) rfl) rfl rfl
    exact if_does (wanted_free rfl) (Does.vals (r_move e29) ⟨rfl, Below.refl _ _, (fun h => absurd h (by decide))⟩)
  · intro a' w' hF' hb hd
    have e30 : a'.tmps.getD 30 undef = .bool false := hd _ 30 (Array.mem_of_getElem? (i := 0) rfl) rfl rfl
    exact if_does (wanted_by rfl rfl e30 rfl) (Does.vals (r_load (hF'.at 2 rfl) (ld_Int (o7.below hb) rfl rfl)) ⟨rfl, Below.refl _ _, (fun h => absurd h (by decide))⟩)
  · intro a' w' hF' hb hd
    have e30 : a'.tmps.getD 30 undef = .bool false := hd _ 30 (Array.mem_of_getElem? (i := 0) rfl) rfl rfl
    exact if_does (wanted_by rfl rfl e30 rfl) (Does.vals (r_load (hF'.at 1 rfl) (ld_Int (o8.below hb) rfl rfl)) ⟨rfl, Below.refl _ _, (fun h => absurd h (by decide))⟩)
  · intro a' w' hF' hb hd
    have e30 : a'.tmps.getD 30 undef = .bool false := hd _ 30 (Array.mem_of_getElem? (i := 0) rfl) rfl rfl
    exact if_does (wanted_by rfl rfl e30 rfl) (Does.vals (r_load (hF'.at 0 rfl) (ld_Int (o9.below hb) rfl rfl)) ⟨rfl, Below.refl _ _, (fun h => absurd h (by decide))⟩)
  · intro a' w' hF' hb hd
    have e30 : a'.tmps.getD 30 undef = .bool false := hd _ 30 (Array.mem_of_getElem? (i := 2) rfl) rfl rfl
    have e32 : a'.tmps.getD 32 undef = .agg #[.bool b15, .slice ad15 n15 c15] := hd _ 32 (Array.mem_of_getElem? (i := 0) rfl) rfl rfl
    have e33 : a'.tmps.getD 33 undef = .agg #[.bool b18, .slice ad18 n18 c18] := hd _ 33 (Array.mem_of_getElem? (i := 1) rfl) rfl rfl
    refine if_does (wanted_by rfl rfl e30 rfl) (Does.calls (r_call Try.func34 en34.1 en34.2 (map2 e32 e33)) (whSub_any _ _ _ _ 6 6 _ (h9.below hb) (h11.below hb) (rawZ_limo neg2 ok2 6) (rawZ_limo neg3 ok3 6) (by omega) (by omega)) ?_)
    rintro e w'' ⟨v', rfl, h', bb⟩
    exact ⟨_, rfl, h', bb, (fun h => absurd h (by decide))⟩
  · intro a' w' hF' hb hd
    have e30 : a'.tmps.getD 30 undef = .bool false := hd _ 30 (Array.mem_of_getElem? (i := 3) rfl) rfl rfl
    have e31 : a'.tmps.getD 31 undef = .agg #[.bool b12, .slice ad12 n12 c12] := hd _ 31 (Array.mem_of_getElem? (i := 0) rfl) rfl rfl
    obtain ⟨v34_0, e34, h34_1⟩ : ∃ v, a'.tmps.getD 34 undef = v ∧ Wc w' v ((rawZ neg2 x2 6) - (rawZ neg3 x3 6)) := ⟨_, rfl, hd _ 34 (Array.mem_of_getElem? (i := 1) rfl) rfl rfl⟩
    refine if_does (wanted_by rfl rfl e30 rfl) (Does.calls (r_call Try.func30 en30.1 en30.2 (map2 e31 e34)) (whMul_any _ _ _ _ 6 (6 + 1) _ (h7.below hb) (Wc.wz h34_1) (rawZ_limo neg1 ok1 6) (limz_sub (rawZ_limo neg2 ok2 6) (rawZ_limo neg3 ok3 6) (6 + 1) (by omega) (by omega)) (by omega) (by omega)) ?_)
    rintro e w'' ⟨v', rfl, h', bb⟩
    exact ⟨_, rfl, h', bb, (fun h => absurd h (by decide))⟩
  · intro a' w' hF' hb hd
    have e30 : a'.tmps.getD 30 undef = .bool false := hd _ 30 (Array.mem_of_getElem? (i := 0) rfl) rfl rfl
    exact if_does (wanted_by rfl rfl e30 rfl) (Does.vals (r_load (hF'.at 2 rfl) (ld_Int (o7.below hb) rfl rfl)) ⟨rfl, Below.refl _ _, (fun h => absurd h (by decide))⟩)
  · intro a' w' hF' hb hd
    have e30 : a'.tmps.getD 30 undef = .bool false := hd _ 30 (Array.mem_of_getElem? (i := 0) rfl) rfl rfl
    exact if_does (wanted_by rfl rfl e30 rfl) (Does.vals (r_load (hF'.at 1 rfl) (ld_Int (o8.below hb) rfl rfl)) ⟨rfl, Below.refl _ _, (fun h => absurd h (by decide))⟩)
  · intro a' w' hF' hb hd
    have e30 : a'.tmps.getD 30 undef = .bool false := hd _ 30 (Array.mem_of_getElem? (i := 3) rfl) rfl rfl
    have e36 : a'.tmps.getD 36 undef = .agg #[.bool b12, .slice ad12 n12 c12] := hd _ 36 (Array.mem_of_getElem? (i := 0) rfl) rfl rfl
    have e37 : a'.tmps.getD 37 undef = .agg #[.bool b15, .slice ad15 n15 c15] := hd _ 37 (Array.mem_of_getElem? (i := 1) rfl) rfl rfl
    refine if_does (wanted_by rfl rfl e30 rfl) (Does.calls (r_call Try.func30 en30.1 en30.2 (map2 e36 e37)) (whMul_any _ _ _ _ 6 6 _ (h7.below hb) (h9.below hb) (rawZ_limo neg1 ok1 6) (rawZ_limo neg2 ok2 6) (by omega) (by omega)) ?_)
    rintro e w'' ⟨v', rfl, h', bb⟩
    exact ⟨_, rfl, h', bb, (fun h => absurd h (by decide))⟩
  · intro a' w' hF' hb hd
    have e30 : a'.tmps.getD 30 undef = .bool false := hd _ 30 (Array.mem_of_getElem? (i := 0) rfl) rfl rfl
    exact if_does (wanted_by rfl rfl e30 rfl) (Does.vals (r_load (hF'.at 2 rfl) (ld_Int (o7.below hb) rfl rfl)) ⟨rfl, Below.refl _ _, (fun h => absurd h (by decide))⟩)
  · intro a' w' hF' hb hd
    have e30 : a'.tmps.getD 30 undef = .bool false := hd _ 30 (Array.mem_of_getElem? (i := 0) rfl) rfl rfl
    exact if_does (wanted_by rfl rfl e30 rfl) (Does.vals (r_load (hF'.at 0 rfl) (ld_Int (o9.below hb) rfl rfl)) ⟨rfl, Below.refl _ _, (fun h => absurd h (by decide))⟩)
  · intro a' w' hF' hb hd
    have e30 : a'.tmps.getD 30 undef = .bool false := hd _ 30 (Array.mem_of_getElem? (i := 3) rfl) rfl rfl
    have e39 : a'.tmps.getD 39 undef = .agg #[.bool b12, .slice ad12 n12 c12] := hd _ 39 (Array.mem_of_getElem? (i := 0) rfl) rfl rfl
    have e40 : a'.tmps.getD 40 undef = .agg #[.bool b18, .slice ad18 n18 c18] := hd _ 40 (Array.mem_of_getElem? (i := 1) rfl) rfl rfl
    refine if_does (wanted_by rfl rfl e30 rfl) (Does.calls (r_call Try.func30 en30.1 en30.2 (map2 e39 e40)) (whMul_any _ _ _ _ 6 6 _ (h7.below hb) (h11.below hb) (rawZ_limo neg1 ok1 6) (rawZ_limo neg3 ok3 6) (by omega) (by omega)) ?_)
    rintro e w'' ⟨v', rfl, h', bb⟩
    exact ⟨_, rfl, h', bb, (fun h => absurd h (by decide))⟩
  · intro a' w' hF' hb hd
    have e30 : a'.tmps.getD 30 undef = .bool false := hd _ 30 (Array.mem_of_getElem? (i := 3) rfl) rfl rfl
    obtain ⟨v38_0, e38, h38_1⟩ : ∃ v, a'.tmps.getD 38 undef = v ∧ Wc w' v ((rawZ neg1 x1 6) * (rawZ neg2 x2 6)) := ⟨_, rfl, hd _ 38 (Array.mem_of_getElem? (i := 0) rfl) rfl rfl⟩
    obtain ⟨v41_0, e41, h41_1⟩ : ∃ v, a'.tmps.getD 41 undef = v ∧ Wc w' v ((rawZ neg1 x1 6) * (rawZ neg3 x3 6)) := ⟨_, rfl, hd _ 41 (Array.mem_of_getElem? (i := 1) rfl) rfl rfl⟩
    refine if_does (wanted_by rfl rfl e30 rfl) (Does.calls (r_call Try.func34 en34.1 en34.2 (map2 e38 e41)) (whSub_any _ _ _ _ (6 + 6) (6 + 6) _ (Wc.wz h38_1) (Wc.wz h41_1) (limz_mul (rawZ_limo neg1 ok1 6) (rawZ_limo neg2 ok2 6)) (limz_mul (rawZ_limo neg1 ok1 6) (rawZ_limo neg3 ok3 6)) (by omega) (by omega)) ?_)
    rintro e w'' ⟨v', rfl, h', bb⟩
    exact ⟨_, rfl, h', bb, (fun h => absurd h (by decide))⟩
  · intro a' w' hF' hb hd
    have e30 : a'.tmps.getD 30 undef = .bool false := hd _ 30 (Array.mem_of_getElem? (i := 3) rfl) rfl rfl
    obtain ⟨v35_0, e35, h35_1⟩ : ∃ v, a'.tmps.getD 35 undef = v ∧ Wc w' v ((rawZ neg1 x1 6) * ((rawZ neg2 x2 6) - (rawZ neg3 x3 6))) := ⟨_, rfl, hd _ 35 (Array.mem_of_getElem? (i := 0) rfl) rfl rfl⟩
    obtain ⟨v42_0, e42, h42_1⟩ : ∃ v, a'.tmps.getD 42 undef = v ∧ Wc w' v (((rawZ neg1 x1 6) * (rawZ neg2 x2 6)) - ((rawZ neg1 x1 6) * (rawZ neg3 x3 6))) := ⟨_, rfl, hd _ 42 (Array.mem_of_getElem? (i := 1) rfl) rfl rfl⟩
    refine if_does (wanted_by rfl rfl e30 rfl) (Does.calls (r_call Try.func32 en32.1 en32.2 (map2 e35 e42)) (whCmp_any _ _ _ _ _ (Wc.wz h35_1) (Wc.wz h42_1)) ?_)
    rintro e w'' ⟨rfl, bb⟩
    exact ⟨_, rfl, rfl, bb, (fun h => absurd h (by decide))⟩
  · intro a' w' hF' hb hd
    have e30 : a'.tmps.getD 30 undef = .bool false := hd _ 30 (Array.mem_of_getElem? (i := 1) rfl) rfl rfl
    have e43 : a'.tmps.getD 43 undef = .int .i64 (ci ((rawZ neg1 x1 6) * ((rawZ neg2 x2 6) - (rawZ neg3 x3 6))) (((rawZ neg1 x1 6) * (rawZ neg2 x2 6)) - ((rawZ neg1 x1 6) * (rawZ neg3 x3 6)))) := hd _ 43 (Array.mem_of_getElem? (i := 0) rfl) rfl rfl
    exact if_does (wanted_by rfl rfl e30 rfl) (Does.vals (r_bin e43 rfl eg_scalar (bi_int (ic_neq (ne0 (ci_same (Int.mul_sub _ _ _)))) (by simp))) ⟨rfl, Below.refl _ _, (fun h => absurd h (by decide))⟩)
  · intro a' w' hF' hb hd
    have e30 : a'.tmps.getD 30 undef = .bool false := hd _ 30 (Array.mem_of_getElem? (i := 0) rfl) rfl rfl
    have e44 : a'.tmps.getD 44 undef = .bool false := hd _ 44 (Array.mem_of_getElem? (i := 1) rfl) rfl rfl
    exact if_does (wanted_free rfl) (Does.vals (r_pick_f e30 e44) ⟨rfl, Below.refl _ _, (fun h => absurd h (by decide))⟩)
  · intro a' w' hF' hb hd
    have e45 : a'.tmps.getD 45 undef = .bool false := hd _ 45 (Array.mem_of_getElem? (i := 0) rfl) rfl rfl
    exact if_does (wanted_free rfl) (Does.vals (r_move e45) ⟨rfl, Below.refl _ _, (fun h => absurd h (by decide))⟩)
  · intro a' w' hF' hb hd
    have e46 : a'.tmps.getD 46 undef = .bool false := hd _ 46 (Array.mem_of_getElem? (i := 0) rfl) rfl rfl
    exact if_does (wanted_by rfl rfl e46 rfl) (Does.vals (r_load (hF'.at 2 rfl) (ld_Int (o7.below hb) rfl rfl)) ⟨rfl, Below.refl _ _, (fun h => absurd h (by decide))⟩)
  · intro a' w' hF' hb hd
    have e46 : a'.tmps.getD 46 undef = .bool false := hd _ 46 (Array.mem_of_getElem? (i := 0) rfl) rfl rfl
    exact if_does (wanted_by rfl rfl e46 rfl) (Does.vals (r_load (hF'.at 1 rfl) (ld_Int (o8.below hb) rfl rfl)) ⟨rfl, Below.refl _ _, (fun h => absurd h (by decide))⟩)
  · intro a' w' hF' hb hd
    have e46 : a'.tmps.getD 46 undef = .bool false := hd _ 46 (Array.mem_of_getElem? (i := 2) rfl) rfl rfl
    have e47 : a'.tmps.getD 47 undef = .agg #[.bool b12, .slice ad12 n12 c12] := hd _ 47 (Array.mem_of_getElem? (i := 0) rfl) rfl rfl
    have e48 : a'.tmps.getD 48 undef = .agg #[.bool b15, .slice ad15 n15 c15] := hd _ 48 (Array.mem_of_getElem? (i := 1) rfl) rfl rfl
    refine if_does (wanted_by rfl rfl e46 rfl) (Does.calls (r_call Try.func30 en30.1 en30.2 (map2 e47 e48)) (whMul_any _ _ _ _ 6 6 _ (h7.below hb) (h9.below hb) (rawZ_limo neg1 ok1 6) (rawZ_limo neg2 ok2 6) (by omega) (by omega)) ?_)
    rintro e w'' ⟨v', rfl, h', bb⟩
    exact ⟨_, rfl, h', bb, (fun h => absurd h (by decide))⟩
  · intro a' w' hF' hb hd
    have e46 : a'.tmps.getD 46 undef = .bool false := hd _ 46 (Array.mem_of_getElem? (i := 0) rfl) rfl rfl
    exact if_does (wanted_by rfl rfl e46 rfl) (Does.vals (r_load (hF'.at 0 rfl) (ld_Int (o9.below hb) rfl rfl)) ⟨rfl, Below.refl _ _, (fun h => absurd h (by decide))⟩)
  · intro a' w' hF' hb hd
    have e46 : a'.tmps.getD 46 undef = .bool false := hd _ 46 (Array.mem_of_getElem? (i := 3) rfl) rfl rfl
    obtain ⟨v49_0, e49, h49_1⟩ : ∃ v, a'.tmps.getD 49 undef = v ∧ Wc w' v ((rawZ neg1 x1 6) * (rawZ neg2 x2 6)) := ⟨_, rfl, hd _ 49 (Array.mem_of_getElem? (i := 0) rfl) rfl rfl⟩
    have e50 : a'.tmps.getD 50 undef = .agg #[.bool b18, .slice ad18 n18 c18] := hd _ 50 (Array.mem_of_getElem? (i := 1) rfl) rfl rfl
    refine if_does (wanted_by rfl rfl e46 rfl) (Does.calls (r_call Try.func30 en30.1 en30.2 (map2 e49 e50)) (whMul_any _ _ _ _ (6 + 6) 6 _ (Wc.wz h49_1) (h11.below hb) (limz_mul (rawZ_limo neg1 ok1 6) (rawZ_limo neg2 ok2 6)) (rawZ_limo neg3 ok3 6) (by omega) (by omega)) ?_)
    rintro e w'' ⟨v', rfl, h', bb⟩
    exact ⟨_, rfl, h', bb, (fun h => absurd h (by decide))⟩
  · intro a' w' hF' hb hd
    have e46 : a'.tmps.getD 46 undef = .bool false := hd _ 46 (Array.mem_of_getElem? (i := 0) rfl) rfl rfl
    exact if_does (wanted_by rfl rfl e46 rfl) (Does.vals (r_load (hF'.at 1 rfl) (ld_Int (o8.below hb) rfl rfl)) ⟨rfl, Below.refl _ _, (fun h => absurd h (by decide))⟩)
  · intro a' w' hF' hb hd
    have e46 : a'.tmps.getD 46 undef = .bool false := hd _ 46 (Array.mem_of_getElem? (i := 0) rfl) rfl rfl
    exact if_does (wanted_by rfl rfl e46 rfl) (Does.vals (r_load (hF'.at 0 rfl) (ld_Int (o9.below hb) rfl rfl)) ⟨rfl, Below.refl _ _, (fun h => absurd h (by decide))⟩)
  · intro a' w' hF' hb hd
    have e46 : a'.tmps.getD 46 undef = .bool false := hd _ 46 (Array.mem_of_getElem? (i := 0) rfl) rfl rfl
    exact if_does (wanted_by rfl rfl e46 rfl) (Does.vals (r_load (hF'.at 2 rfl) (ld_Int (o7.below hb) rfl rfl)) ⟨rfl, Below.refl _ _, (fun h => absurd h (by decide))⟩)
  · intro a' w' hF' hb hd
    have e46 : a'.tmps.getD 46 undef = .bool false := hd _ 46 (Array.mem_of_getElem? (i := 3) rfl) rfl rfl
    have e53 : a'.tmps.getD 53 undef = .agg #[.bool b18, .slice ad18 n18 c18] := hd _ 53 (Array.mem_of_getElem? (i := 0) rfl) rfl rfl
    have e54 : a'.tmps.getD 54 undef = .agg #[.bool b12, .slice ad12 n12 c12] := hd _ 54 (Array.mem_of_getElem? (i := 1) rfl) rfl rfl
    refine if_does (wanted_by rfl rfl e46 rfl) (Does.calls (r_call Try.func30 en30.1 en30.2 (map2 e53 e54)) (whMul_any _ _ _ _ 6 6 _ (h11.below hb) (h7.below hb) (rawZ_limo neg3 ok3 6) (rawZ_limo neg1 ok1 6) (by omega) (by omega)) ?_)
    rintro e w'' ⟨v', rfl, h', bb⟩
    exact ⟨_, rfl, h', bb, (fun h => absurd h (by decide))⟩
  · intro a' w' hF' hb hd
    have e46 : a'.tmps.getD 46 undef = .bool false := hd _ 46 (Array.mem_of_getElem? (i := 3) rfl) rfl rfl
    have e52 : a'.tmps.getD 52 undef = .agg #[.bool b15, .slice ad15 n15 c15] := hd _ 52 (Array.mem_of_getElem? (i := 0) rfl) rfl rfl
    obtain ⟨v55_0, e55, h55_1⟩ : ∃ v, a'.tmps.getD 55 undef = v ∧ Wc w' v ((rawZ neg3 x3 6) * (rawZ neg1 x1 6)) := ⟨_, rfl, hd _ 55 (Array.mem_of_getElem? (i := 1) rfl) rfl rfl⟩
    refine if_does (wanted_by rfl rfl e46 rfl) (Does.calls (r_call Try.func30 en30.1 en30.2 (map2 e52 e55)) (whMul_any _ _ _ _ 6 (6 + 6) _ (h9.below hb) (Wc.wz h55_1) (rawZ_limo neg2 ok2 6) (limz_mul (rawZ_limo neg3 ok3 6) (rawZ_limo neg1 ok1 6)) (by omega) (by omega)) ?_)
    rintro e w'' ⟨v', rfl, h', bb⟩
    exact ⟨_, rfl, h', bb, (fun h => absurd h (by decide))⟩
  · intro a' w' hF' hb hd
    have e46 : a'.tmps.getD 46 undef = .bool false := hd _ 46 (Array.mem_of_getElem? (i := 3) rfl) rfl rfl
    obtain ⟨v51_0, e51, h51_1⟩ : ∃ v, a'.tmps.getD 51 undef = v ∧ Wc w' v (((rawZ neg1 x1 6) * (rawZ neg2 x2 6)) * (rawZ neg3 x3 6)) := ⟨_, rfl, hd _ 51 (Array.mem_of_getElem? (i := 0) rfl) rfl rfl⟩
    obtain ⟨v56_0, e56, h56_1⟩ : ∃ v, a'.tmps.getD 56 undef = v ∧ Wc w' v ((rawZ neg2 x2 6) * ((rawZ neg3 x3 6) * (rawZ neg1 x1 6))) := ⟨_, rfl, hd _ 56 (Array.mem_of_getElem? (i := 1) rfl) rfl rfl⟩
    refine if_does (wanted_by rfl rfl e46 rfl) (Does.calls (r_call Try.func32 en32.1 en32.2 (map2 e51 e56)) (whCmp_any _ _ _ _ _ (Wc.wz h51_1) (Wc.wz h56_1)) ?_)
    rintro e w'' ⟨rfl, bb⟩
    exact ⟨_, rfl, rfl, bb, (fun h => absurd h (by decide))⟩
  · intro a' w' hF' hb hd
    have e46 : a'.tmps.getD 46 undef = .bool false := hd _ 46 (Array.mem_of_getElem? (i := 1) rfl) rfl rfl
    have e57 : a'.tmps.getD 57 undef = .int .i64 (ci (((rawZ neg1 x1 6) * (rawZ neg2 x2 6)) * (rawZ neg3 x3 6)) ((rawZ neg2 x2 6) * ((rawZ neg3 x3 6) * (rawZ neg1 x1 6)))) := hd _ 57 (Array.mem_of_getElem? (i := 0) rfl) rfl rfl
    exact if_does (wanted_by rfl rfl e46 rfl) (Does.vals (r_bin e57 rfl eg_scalar (bi_int (ic_neq (ne0 (ci_same (Z3 _ _ _)))) (by simp))) ⟨rfl, Below.refl _ _, (fun h => absurd h (by decide))⟩)
  · intro a' w' hF' hb hd
    have e46 : a'.tmps.getD 46 undef = .bool false := hd _ 46 (Array.mem_of_getElem? (i := 0) rfl) rfl rfl
    have e58 : a'.tmps.getD 58 undef = .bool false := hd _ 58 (Array.mem_of_getElem? (i := 1) rfl) rfl rfl
    exact if_does (wanted_free rfl) (Does.vals (r_pick_f e46 e58) ⟨rfl, Below.refl _ _, (fun h => absurd h (by decide))⟩)
  intro a w21 hF bb hall hne
  have e59 : a.tmps.getD 59 undef = .bool false := hall 41 59 rfl
  clear hall hne
  replace hf14 := hf14.below bb
  replace h7 := h7.below bb
  replace hf17 := hf17.below bb
  replace h9 := h9.below bb
  replace hf20 := hf20.below bb
  replace h11 := h11.below bb
  replace o7 := o7.below bb
  replace o8 := o8.below bb
  replace o9 := o9.below bb
  replace bel := below_to bel bb
  clear bb
  replace hF := hF.add e59
  clear e59
  refine E.nil ?_
  refine wp_cond_false (hF.at 0 rfl) ?_
  refine wp_skip ?_
  refine E.norm ?_
  refine wp_seq ?_
  refine E.drawn 36 mixed hF [60, 61, 62, 63, 64, 65, 66, 67, 68, 69, 70, 71, 72, 73, 74, 75, 76, 77, 78, 79, 80, 81, 82, 83, 84, 85, 86, 87, 88, 89, 90, 91, 92, 93, 94, 95] [(fun _ v => v = .agg #[.bool b12, .slice ad12 n12 c12]), (fun _ v => v = .agg #[.bool b18, .slice ad18 n18 c18]), (fun w v => Wc w v ((rawZ neg1 x1 6) + (rawZ neg3 x3 6))), (fun _ v => v = .agg #[.bool b15, .slice ad15 n15 c15]), (fun _ v => v = .agg #[.bool b18, .slice ad18 n18 c18]), (fun w v => Wc w v ((rawZ neg2 x2 6) + (rawZ neg3 x3 6))), (fun _ v => v = .int .i64 (ci ((rawZ neg1 x1 6) + (rawZ neg3 x3 6)) ((rawZ neg2 x2 6) + (rawZ neg3 x3 6)))), (fun _ v => v = .agg #[.bool b12, .slice ad12 n12 c12]), (fun _ v => v = .agg #[.bool b15, .slice ad15 n15 c15]), (fun _ v => v = .int .i64 (ci (rawZ neg1 x1 6) (rawZ neg2 x2 6))), (fun _ v => v = .bool true), (fun _ v => v = .bool true), (fun _ v => v = .agg #[.bool b15, .slice ad15 n15 c15]), (fun w v => Wc w v (-(rawZ neg2 x2 6))), (fun _ v => v = .agg #[.bool b12, .slice ad12 n12 c12]), (fun w v => Wc w v (-(rawZ neg1 x1 6))), (fun _ v => v = .int .i64 (ci (-(rawZ neg2 x2 6)) (-(rawZ neg1 x1 6)))), (fun _ v => v = .agg #[.bool b12, .slice ad12 n12 c12]), (fun _ v => v = .agg #[.bool b15, .slice ad15 n15 c15]), (fun _ v => v = .int .i64 (ci (rawZ neg1 x1 6) (rawZ neg2 x2 6))), (fun _ v => v = .bool true), (fun _ v => v = .bool true), (fun _ v => v = .bool true), (fun _ v => v = .agg #[.bool b12, .slice ad12 n12 c12]), (fun _ v => v = .agg #[.bool b12, .slice ad12 n12 c12]), (fun w v => Wc w v ((rawZ neg1 x1 6) - (rawZ neg1 x1 6))), (fun _ v => v = .int .i64 (sz ((rawZ neg1 x1 6) - (rawZ neg1 x1 6)))), (fun _ v => v = .bool true), (fun _ v => v = .bool true), (fun _ v => v = .bool true), (fun _ v => v = .agg #[.bool b12, .slice ad12 n12 c12]), (fun _ v => v = .agg #[.bool b12, .slice ad12 n12 c12]), (fun w v => Wc w v ((rawZ neg1 x1 6) * (rawZ neg1 x1 6))), (fun _ v => v = .int .i64 (sz ((rawZ neg1 x1 6) * (rawZ neg1 x1 6)))), (fun _ v => v = .bool true), (fun _ v => v = .bool true)] [] (by decide +kernel) (by decide +kernel) rfl rfl rfl ⟨(Mb.eq _), (Mb.eq _), (fun _ _ _ h hb => h.below hb), (Mb.eq _), (Mb.eq _), (fun _ _ _ h hb => h.below hb), (Mb.eq _), (Mb.eq _), (Mb.eq _), (Mb.eq _), (Mb.eq _), (Mb.eq _), (Mb.eq _), (fun _ _ _ h hb => h.below hb), (Mb.eq _), (fun _ _ _ h hb => h.below hb), (Mb.eq _), (Mb.eq _), (Mb.eq _), (Mb.eq _), (Mb.eq _), (Mb.eq _), (Mb.eq _), (Mb.eq _), (Mb.eq _), (fun _ _ _ h hb => h.below hb), (Mb.eq _), (Mb.eq _), (Mb.eq _), (Mb.eq _), (Mb.eq _), (Mb.eq _), (fun _ _ _ h hb => h.below hb), (Mb.eq _), (Mb.eq _), (Mb.eq _), trivial⟩ trivial ⟨?_, ?_, ?_, ?_, ?_, ?_, ?_, ?_, ?_, ?_, ?_, ?_, ?_, ?_, ?_, ?_, ?_, ?_, ?_, ?_, ?_, ?_, ?_, ?_, ?_, ?_, ?_, ?_, ?_, ?_, ?_, ?_, ?_, ?_, ?_, ?_, trivial⟩ ?_
  · intro a' w' hF' hb hd
    exact if_does (wanted_free rfl) (Does.vals (r_load (hF'.at 3 rfl) (ld_Int (o7.below hb) rfl rfl)) ⟨rfl, Below.refl _ _, (fun h => absurd h (by decide))⟩)
  · intro a' w' hF' hb hd
    exact if_does (wanted_free rfl) (Does.vals (r_load (hF'.at 1 rfl) (ld_Int (o9.below hb) rfl rfl)) ⟨rfl, Below.refl _ _, (fun h => absurd h (by decide))⟩)
  · intro a' w' hF' hb hd
    have e60 : a'.tmps.getD 60 undef = .agg #[.bool b12, .slice ad12 n12 c12] := hd _ 60 (Array.mem_of_getElem? (i := 0) rfl) rfl rfl
    have e61 : a'.tmps.getD 61 undef = .agg #[.bool b18, .slice ad18 n18 c18] := hd _ 61 (Array.mem_of_getElem? (i := 1) rfl) rfl rfl
    refine if_does (wanted_free rfl) (Does.calls (r_call Try.func31 en31.1 en31.2 (map2 e60 e61)) (whAdd_any _ _ _ _ 6 6 _ (h7.below hb) (h11.below hb) (rawZ_limo neg1 ok1 6) (rawZ_limo neg3 ok3 6) (by omega) (by omega)) ?_)
    rintro e w'' ⟨v', rfl, h', bb⟩
    exact ⟨_, rfl, h', bb, (fun h => absurd h (by decide))⟩
  · intro a' w' hF' hb hd
    exact if_does (wanted_free rfl) (Does.vals (r_load (hF'.at 2 rfl) (ld_Int (o8.below hb) rfl rfl)) ⟨rfl, Below.refl _ _, (fun h => absurd h (by decide))⟩)
  · intro a' w' hF' hb hd
    exact if_does (wanted_free rfl) (Does.vals (r_load (hF'.at 1 rfl) (ld_Int (o9.below hb) rfl rfl)) ⟨rfl, Below.refl _ _, (fun h => absurd h (by decide))⟩)
  · intro a' w' hF' hb hd
    have e63 : a'.tmps.getD 63 undef = .agg #[.bool b15, .slice ad15 n15 c15] := hd _ 63 (Array.mem_of_getElem? (i := 0) rfl) rfl rfl
    have e64 : a'.tmps.getD 64 undef = .agg #[.bool b18, .slice ad18 n18 c18] := hd _ 64 (Array.mem_of_getElem? (i := 1) rfl) rfl rfl
    refine if_does (wanted_free rfl) (Does.calls (r_call Try.func31 en31.1 en31.2 (map2 e63 e64)) (whAdd_any _ _ _ _ 6 6 _ (h9.below hb) (h11.below hb) (rawZ_limo neg2 ok2 6) (rawZ_limo neg3 ok3 6) (by omega) (by omega)) ?_)
    rintro e w'' ⟨v', rfl, h', bb⟩
    exact ⟨_, rfl, h', bb, (fun h => absurd h (by decide))⟩
  · intro a' w' hF' hb hd
    obtain ⟨v62_0, e62, h62_1⟩ : ∃ v, a'.tmps.getD 62 undef = v ∧ Wc w' v ((rawZ neg1 x1 6) + (rawZ neg3 x3 6)) := ⟨_, rfl, hd _ 62 (Array.mem_of_getElem? (i := 0) rfl) rfl rfl⟩
    obtain ⟨v65_0, e65, h65_1⟩ : ∃ v, a'.tmps.getD 65 undef = v ∧ Wc w' v ((rawZ neg2 x2 6) + (rawZ neg3 x3 6)) := ⟨_, rfl, hd _ 65 (Array.mem_of_getElem? (i := 1) rfl) rfl rfl⟩
    refine if_does (wanted_free rfl) (Does.calls (r_call Try.func32 en32.1 en32.2 (map2 e62 e65)) (whCmp_any _ _ _ _ _ (Wc.wz h62_1) (Wc.wz h65_1)) ?_)
    rintro e w'' ⟨rfl, bb⟩
    exact ⟨_, rfl, rfl, bb, (fun h => absurd h (by decide))⟩
  · intro a' w' hF' hb hd
    exact if_does (wanted_free rfl) (Does.vals (r_load (hF'.at 3 rfl) (ld_Int (o7.below hb) rfl rfl)) ⟨rfl, Below.refl _ _, (fun h => absurd h (by decide))⟩)
  · intro a' w' hF' hb hd
    exact if_does (wanted_free rfl) (Does.vals (r_load (hF'.at 2 rfl) (ld_Int (o8.below hb) rfl rfl)) ⟨rfl, Below.refl _ _, (fun h => absurd h (by decide))⟩)
  · intro a' w' hF' hb hd
    have e67 : a'.tmps.getD 67 undef = .agg #[.bool b12, .slice ad12 n12 c12] := hd _ 67 (Array.mem_of_getElem? (i := 0) rfl) rfl rfl
    have e68 : a'.tmps.getD 68 undef = .agg #[.bool b15, .slice ad15 n15 c15] := hd _ 68 (Array.mem_of_getElem? (i := 1) rfl) rfl rfl
    refine if_does (wanted_free rfl) (Does.calls (r_call Try.func32 en32.1 en32.2 (map2 e67 e68)) (whCmp_any _ _ _ _ _ (h7.below hb) (h9.below hb)) ?_)
    rintro e w'' ⟨rfl, bb⟩
    exact ⟨_, rfl, rfl, bb, (fun h => absurd h (by decide))⟩
  · intro a' w' hF' hb hd
    have e66 : a'.tmps.getD 66 undef = .int .i64 (ci ((rawZ neg1 x1 6) + (rawZ neg3 x3 6)) ((rawZ neg2 x2 6) + (rawZ neg3 x3 6))) := hd _ 66 (Array.mem_of_getElem? (i := 0) rfl) rfl rfl
    have e69 : a'.tmps.getD 69 undef = .int .i64 (ci (rawZ neg1 x1 6) (rawZ neg2 x2 6)) := hd _ 69 (Array.mem_of_getElem? (i := 1) rfl) rfl rfl
    exact if_does (wanted_free rfl) (Does.vals (r_bin e66 e69 eg_scalar (bi_int (ic_eql (eqx (ci_add _ _ _))) (by simp))) ⟨rfl, Below.refl _ _, (fun h => absurd h (by decide))⟩)
  · intro a' w' hF' hb hd
    have e70 : a'.tmps.getD 70 undef = .bool true := hd _ 70 (Array.mem_of_getElem? (i := 0) rfl) rfl rfl
    exact if_does (wanted_free rfl) (Does.vals (r_move e70) ⟨rfl, Below.refl _ _, (fun h => absurd h (by decide))⟩)
  · intro a' w' hF' hb hd
    have e71 : a'.tmps.getD 71 undef = .bool true := hd _ 71 (Array.mem_of_getElem? (i := 0) rfl) rfl rfl
    exact if_does (wanted_by rfl rfl e71 rfl) (Does.vals (r_load (hF'.at 2 rfl) (ld_Int (o8.below hb) rfl rfl)) ⟨rfl, Below.refl _ _, (fun h => absurd h (by decide))⟩)
  · intro a' w' hF' hb hd
    have e71 : a'.tmps.getD 71 undef = .bool true := hd _ 71 (Array.mem_of_getElem? (i := 1) rfl) rfl rfl
    have e72 : a'.tmps.getD 72 undef = .agg #[.bool b15, .slice ad15 n15 c15] := hd _ 72 (Array.mem_of_getElem? (i := 0) rfl) rfl rfl
    refine if_does (wanted_by rfl rfl e71 rfl) (Does.calls (r_call Try.func35 en35.1 en35.2 (map1 e72)) (whOpp_any _ _ _ (h9.below hb)) ?_)
    rintro e w'' ⟨v', rfl, h', bb⟩
    exact ⟨_, rfl, h', bb, (fun h => absurd h (by decide))⟩
  · intro a' w' hF' hb hd
    have e71 : a'.tmps.getD 71 undef = .bool true := hd _ 71 (Array.mem_of_getElem? (i := 0) rfl) rfl rfl
    exact if_does (wanted_by rfl rfl e71 rfl) (Does.vals (r_load (hF'.at 3 rfl) (ld_Int (o7.below hb) rfl rfl)) ⟨rfl, Below.refl _ _, (fun h => absurd h (by decide))⟩)
  · intro a' w' hF' hb hd
    have e71 : a'.tmps.getD 71 undef = .bool true := hd _ 71 (Array.mem_of_getElem? (i := 2) rfl) rfl rfl
    have e74 : a'.tmps.getD 74 undef = .agg #[.bool b12, .slice ad12 n12 c12] := hd _ 74 (Array.mem_of_getElem? (i := 0) rfl) rfl rfl
    refine if_does (wanted_by rfl rfl e71 rfl) (Does.calls (r_call Try.func35 en35.1 en35.2 (map1 e74)) (whOpp_any _ _ _ (h7.below hb)) ?_)
    rintro e w'' ⟨v', rfl, h', bb⟩
    exact ⟨_, rfl, h', bb, (fun h => absurd h (by decide))⟩
  · intro a' w' hF' hb hd
    have e71 : a'.tmps.getD 71 undef = .bool true := hd _ 71 (Array.mem_of_getElem? (i := 3) rfl) rfl rfl
    obtain ⟨v73_0, e73, h73_1⟩ : ∃ v, a'.tmps.getD 73 undef = v ∧ Wc w' v (-(rawZ neg2 x2 6)) := ⟨_, rfl, hd _ 73 (Array.mem_of_getElem? (i := 0) rfl) rfl rfl⟩
    obtain ⟨v75_0, e75, h75_1⟩ : ∃ v, a'.tmps.getD 75 undef = v ∧ Wc w' v (-(rawZ neg1 x1 6)) := ⟨_, rfl, hd _ 75 (Array.mem_of_getElem? (i := 1) rfl) rfl rfl⟩
    refine if_does (wanted_by rfl rfl e71 rfl) (Does.calls (r_call Try.func32 en32.1 en32.2 (map2 e73 e75)) (whCmp_any _ _ _ _ _ (Wc.wz h73_1) (Wc.wz h75_1)) ?_)
    rintro e w'' ⟨rfl, bb⟩
    exact ⟨_, rfl, rfl, bb, (fun h => absurd h (by decide))⟩
  · intro a' w' hF' hb hd
    have e71 : a'.tmps.getD 71 undef = .bool true := hd _ 71 (Array.mem_of_getElem? (i := 0) rfl) rfl rfl
    exact if_does (wanted_by rfl rfl e71 rfl) (Does.vals (r_load (hF'.at 3 rfl) (ld_Int (o7.below hb) rfl rfl)) ⟨rfl, Below.refl _ _, (fun h => absurd h (by decide))⟩)
  · intro a' w' hF' hb hd
    have e71 : a'.tmps.getD 71 undef = .bool true := hd _ 71 (Array.mem_of_getElem? (i := 0) rfl) rfl rfl
    exact if_does (wanted_by rfl rfl e71 rfl) (Does.vals (r_load (hF'.at 2 rfl) (ld_Int (o8.below hb) rfl rfl)) ⟨rfl, Below.refl _ _, (fun h => absurd h (by decide))⟩)
  · intro a' w' hF' hb hd
    have e71 : a'.tmps.getD 71 undef = .bool true := hd _ 71 (Array.mem_of_getElem? (i := 3) rfl) rfl rfl
    have e77 : a'.tmps.getD 77 undef = .agg #[.bool b12, .slice ad12 n12 c12] := hd _ 77 (Array.mem_of_getElem? (i := 0) rfl) rfl rfl
    have e78 : a'.tmps.getD 78 undef = .agg #[.bool b15, .slice ad15 n15 c15] := hd _ 78 (Array.mem_of_getElem? (i := 1) rfl) rfl rfl
    refine if_does (wanted_by rfl rfl e71 rfl) (Does.calls (r_call Try.func32 en32.1 en32.2 (map2 e77 e78)) (whCmp_any _ _ _ _ _ (h7.below hb) (h9.below hb)) ?_)
    rintro e w'' ⟨rfl, bb⟩
    exact ⟨_, rfl, rfl, bb, (fun h => absurd h (by decide))⟩
  · intro a' w' hF' hb hd
    have e71 : a'.tmps.getD 71 undef = .bool true := hd _ 71 (Array.mem_of_getElem? (i := 2) rfl) rfl rfl
    have e76 : a'.tmps.getD 76 undef = .int .i64 (ci (-(rawZ neg2 x2 6)) (-(rawZ neg1 x1 6))) := hd _ 76 (Array.mem_of_getElem? (i := 0) rfl) rfl rfl
    have e79 : a'.tmps.getD 79 undef = .int .i64 (ci (rawZ neg1 x1 6) (rawZ neg2 x2 6)) := hd _ 79 (Array.mem_of_getElem? (i := 1) rfl) rfl rfl
    exact if_does (wanted_by rfl rfl e71 rfl) (Does.vals (r_bin e76 e79 eg_scalar (bi_int (ic_eql (eqx (ci_opp _ _))) (by simp))) ⟨rfl, Below.refl _ _, (fun h => absurd h (by decide))⟩)
  · intro a' w' hF' hb hd
    have e71 : a'.tmps.getD 71 undef = .bool true := hd _ 71 (Array.mem_of_getElem? (i := 0) rfl) rfl rfl
    have e80 : a'.tmps.getD 80 undef = .bool true := hd _ 80 (Array.mem_of_getElem? (i := 1) rfl) rfl rfl
    exact if_does (wanted_free rfl) (Does.vals (r_pick_t e71 e80) ⟨rfl, Below.refl _ _, (fun h => absurd h (by decide))⟩)
  · intro a' w' hF' hb hd
    have e81 : a'.tmps.getD 81 undef = .bool true := hd _ 81 (Array.mem_of_getElem? (i := 0) rfl) rfl rfl
    exact if_does (wanted_free rfl) (Does.vals (r_move e81) ⟨rfl, Below.refl _ _, (fun h => absurd h (by decide))⟩)
  · intro a' w' hF' hb hd
    have e82 : a'.tmps.getD 82 undef = .bool true := hd _ 82 (Array.mem_of_getElem? (i := 0) rfl) rfl rfl
    exact if_does (wanted_by rfl rfl e82 rfl) (Does.vals (r_load (hF'.at 3 rfl) (ld_Int (o7.below hb) rfl rfl)) ⟨rfl, Below.refl _ _, (fun h => absurd h (by decide))⟩)
  · intro a' w' hF' hb hd
    have e82 : a'.tmps.getD 82 undef = .bool true := hd _ 82 (Array.mem_of_getElem? (i := 0) rfl) rfl rfl
    exact if_does (wanted_by rfl rfl e82 rfl) (Does.vals (r_load (hF'.at 3 rfl) (ld_Int (o7.below hb) rfl rfl)) ⟨rfl, Below.refl _ _, (fun h => absurd h (by decide))⟩)
  · intro a' w' hF' hb hd
    have e82 : a'.tmps.getD 82 undef = .bool true := hd _ 82 (Array.mem_of_getElem? (i := 2) rfl) rfl rfl
    have e83 : a'.tmps.getD 83 undef = .agg #[.bool b12, .slice ad12 n12 c12] := hd _ 83 (Array.mem_of_getElem? (i := 0) rfl) rfl rfl
    have e84 : a'.tmps.getD 84 undef = .agg #[.bool b12, .slice ad12 n12 c12] := hd _ 84 (Array.mem_of_getElem? (i := 1) rfl) rfl rfl
    refine if_does (wanted_by rfl rfl e82 rfl) (Does.calls (r_call Try.func34 en34.1 en34.2 (map2 e83 e84)) (whSub_any _ _ _ _ 6 6 _ (h7.below hb) (h7.below hb) (rawZ_limo neg1 ok1 6) (rawZ_limo neg1 ok1 6) (by omega) (by omega)) ?_)
    rintro e w'' ⟨v', rfl, h', bb⟩
    exact ⟨_, rfl, h', bb, (fun h => absurd h (by decide))⟩
  · intro a' w' hF' hb hd
    have e82 : a'.tmps.getD 82 undef = .bool true := hd _ 82 (Array.mem_of_getElem? (i := 2) rfl) rfl rfl
    obtain ⟨v85_0, e85, h85_1⟩ : ∃ v, a'.tmps.getD 85 undef = v ∧ Wc w' v ((rawZ neg1 x1 6) - (rawZ neg1 x1 6)) := ⟨_, rfl, hd _ 85 (Array.mem_of_getElem? (i := 0) rfl) rfl rfl⟩
    refine if_does (wanted_by rfl rfl e82 rfl) (Does.calls (r_call Try.func29 en29.1 en29.2 (map1 e85)) (whSign_any _ _ _ (Wc.wz h85_1)) ?_)
    rintro e w'' ⟨rfl, bb⟩
    exact ⟨_, rfl, rfl, bb, (fun h => absurd h (by decide))⟩
  · intro a' w' hF' hb hd
    have e82 : a'.tmps.getD 82 undef = .bool true := hd _ 82 (Array.mem_of_getElem? (i := 1) rfl) rfl rfl
    have e86 : a'.tmps.getD 86 undef = .int .i64 (sz ((rawZ neg1 x1 6) - (rawZ neg1 x1 6))) := hd _ 86 (Array.mem_of_getElem? (i := 0) rfl) rfl rfl
    exact if_does (wanted_by rfl rfl e82 rfl) (Does.vals (r_bin e86 rfl eg_scalar (bi_int (ic_eql (eq0 (by rw [Int.sub_self]; rfl))) (by simp))) ⟨rfl, Below.refl _ _, (fun h => absurd h (by decide))⟩)
  · intro a' w' hF' hb hd
    have e82 : a'.tmps.getD 82 undef = .bool true := hd _ 82 (Array.mem_of_getElem? (i := 0) rfl) rfl rfl
    have e87 : a'.tmps.getD 87 undef = .bool true := hd _ 87 (Array.mem_of_getElem? (i := 1) rfl) rfl rfl
    exact if_does (wanted_free rfl) (Does.vals (r_pick_t e82 e87) ⟨rfl, Below.refl _ _, (fun h => absurd h (by decide))⟩)
  · intro a' w' hF' hb hd
    have e88 : a'.tmps.getD 88 undef = .bool true := hd _ 88 (Array.mem_of_getElem? (i := 0) rfl) rfl rfl
    exact if_does (wanted_free rfl) (Does.vals (r_move e88) ⟨rfl, Below.refl _ _, (fun h => absurd h (by decide))⟩)
  · intro a' w' hF' hb hd
    have e89 : a'.tmps.getD 89 undef = .bool true := hd _ 89 (Array.mem_of_getElem? (i := 0) rfl) rfl rfl
    exact if_does (wanted_by rfl rfl e89 rfl) (Does.vals (r_load (hF'.at 3 rfl) (ld_Int (o7.below hb) rfl rfl)) ⟨rfl, Below.refl _ _, (fun h => absurd h (by decide))⟩)
  · intro a' w' hF' hb hd
    have e89 : a'.tmps.getD 89 undef = .bool true := hd _ 89 (Array.mem_of_getElem? (i := 0) rfl) rfl rfl
    exact if_does (wanted_by rfl rfl e89 rfl) (Does.vals (r_load (hF'.at 3 rfl) (ld_Int (o7.below hb) rfl rfl)) ⟨rfl, Below.refl _ _, (fun h => absurd h (by decide))⟩)
  · intro a' w' hF' hb hd
    have e89 : a'.tmps.getD 89 undef = .bool true := hd _ 89 (Array.mem_of_getElem? (i := 2) rfl) rfl rfl
    have e90 : a'.tmps.getD 90 undef = .agg #[.bool b12, .slice ad12 n12 c12] := hd _ 90 (Array.mem_of_getElem? (i := 0) rfl) rfl rfl
    have e91 : a'.tmps.getD 91 undef = .agg #[.bool b12, .slice ad12 n12 c12] := hd _ 91 (Array.mem_of_getElem? (i := 1) rfl) rfl rfl
    refine if_does (wanted_by rfl rfl e89 rfl) (Does.calls (r_call Try.func30 en30.1 en30.2 (map2 e90 e91)) (whMul_any _ _ _ _ 6 6 _ (h7.below hb) (h7.below hb) (rawZ_limo neg1 ok1 6) (rawZ_limo neg1 ok1 6) (by omega) (by omega)) ?_)
    rintro e w'' ⟨v', rfl, h', bb⟩
    exact ⟨_, rfl, h', bb, (fun h => absurd h (by decide))⟩
  · intro a' w' hF' hb hd
    have e89 : a'.tmps.getD 89 undef = .bool true := hd _ 89 (Array.mem_of_getElem? (i := 2) rfl) rfl rfl
    obtain ⟨v92_0, e92, h92_1⟩ : ∃ v, a'.tmps.getD 92 undef = v ∧ Wc w' v ((rawZ neg1 x1 6) * (rawZ neg1 x1 6)) := ⟨_, rfl, hd _ 92 (Array.mem_of_getElem? (i := 0) rfl) rfl rfl⟩
    refine if_does (wanted_by rfl rfl e89 rfl) (Does.calls (r_call Try.func29 en29.1 en29.2 (map1 e92)) (whSign_any _ _ _ (Wc.wz h92_1)) ?_)
    rintro e w'' ⟨rfl, bb⟩
    exact ⟨_, rfl, rfl, bb, (fun h => absurd h (by decide))⟩
  · intro a' w' hF' hb hd
    have e89 : a'.tmps.getD 89 undef = .bool true := hd _ 89 (Array.mem_of_getElem? (i := 1) rfl) rfl rfl
    have e93 : a'.tmps.getD 93 undef = .int .i64 (sz ((rawZ neg1 x1 6) * (rawZ neg1 x1 6))) := hd _ 93 (Array.mem_of_getElem? (i := 0) rfl) rfl rfl
    exact if_does (wanted_by rfl rfl e89 rfl) (Does.vals (r_bin e93 rfl eg_scalar (bi_int (ic_geq (ge0 (sz_nonneg (sq_nonneg _)))) (by simp))) ⟨rfl, Below.refl _ _, (fun h => absurd h (by decide))⟩)
  · intro a' w' hF' hb hd
    have e89 : a'.tmps.getD 89 undef = .bool true := hd _ 89 (Array.mem_of_getElem? (i := 0) rfl) rfl rfl
    have e94 : a'.tmps.getD 94 undef = .bool true := hd _ 94 (Array.mem_of_getElem? (i := 1) rfl) rfl rfl
    exact if_does (wanted_free rfl) (Does.vals (r_pick_t e89 e94) ⟨rfl, Below.refl _ _, (fun h => absurd h (by decide))⟩)
  intro a w22 hF bb hall hne
  have e95 : a.tmps.getD 95 undef = .bool true := hall 35 95 rfl
  clear hall hne
  replace bel := below_to bel bb
  clear bb
  replace hF := hF.add e95
  clear e95
  refine E.opset hF (r_assign (hF.at 0 rfl)) rfl rfl rfl rfl fun a hF => ?_
  refine E.nil ?_
  refine wp_ret ?_
  refine bodyPost_ret (res_tmp Try.results5 (hF.at 0 rfl)) hF.dfr ?_
  exact ⟨rfl, bel⟩
end Go.Proofs.Ytjgafncpahbjkaa
