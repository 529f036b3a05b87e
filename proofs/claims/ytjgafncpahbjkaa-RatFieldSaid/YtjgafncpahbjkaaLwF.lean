/- The walk of RatField. -/
import Derived.Test.YtjgafncpahbjkaaGJ
import Derived.Test.YtjgafncpahbjkaaGI
import Derived.Test.YtjgafncpahbjkaaGK
namespace Go.Proofs.Ytjgafncpahbjkaa
open Go.RowKit
set_option maxRecDepth 100000
set_option linter.unusedVariables false

theorem rsum_turn (a b c : Rat) : a + b + c = c + a + b := by rw [Rat.add_comm, ← Rat.add_assoc]
theorem rsub_same (a : Rat) : a - a = 0 := by grind
theorem rdiv_none {a b : Rat} (h : b = 0) : a / b = 0 := by rw [h, Rat.div_def, Rat.inv_zero, Rat.mul_zero]
theorem rdiv_mul {a b : Rat} (h : b ≠ 0) : a / b * b = a := by rw [Rat.div_def, Rat.mul_assoc, Rat.inv_mul_cancel _ h, Rat.mul_one]
theorem rmul_div {a b : Rat} (h : b ≠ 0) : a * b / b = a := by rw [Rat.div_def, Rat.mul_assoc, Rat.mul_inv_cancel _ h, Rat.mul_one]
set_option maxHeartbeats 8000000 in
theorem ratField_walk (nega1 : Bool) (aa1 : Option Addr) (na1 ca1 : Nat) (xa1 : List Nat) (negb1 : Bool) (ab1 : Option Addr) (nb1 cb1 : Nat) (xb1 : List Nat) (nega2 : Bool) (aa2 : Option Addr) (na2 ca2 : Nat) (xa2 : List Nat) (negb2 : Bool) (ab2 : Option Addr) (nb2 cb2 : Nat) (xb2 : List Nat) (nega3 : Bool) (aa3 : Option Addr) (na3 ca3 : Nat) (xa3 : List Nat) (negb3 : Bool) (ab3 : Option Addr) (nb3 cb3 : Nat) (xb3 : List Nat) (w : World) (ia1 : InX w aa1 na1 ca1 xa1) (ib1 : InX w ab1 nb1 cb1 xb1) (ia2 : InX w aa2 na2 ca2 xa2) (ib2 : InX w ab2 nb2 cb2 xb2) (ia3 : InX w aa3 na3 ca3 xa3) (ib3 : InX w ab3 nb3 cb3 xb3) :
    Calls Try.prog 12 #[.agg #[.bool nega1, .slice aa1 na1 ca1, .bool negb1, .slice ab1 nb1 cb1], .agg #[.bool nega2, .slice aa2 na2 ca2, .bool negb2, .slice ab2 nb2 cb2], .agg #[.bool nega3, .slice aa3 na3 ca3, .bool negb3, .slice ab3 nb3 cb3]] w (TruePost w) := by
  by_cases h0 : ((rawZ nega2 xa2 4 : Int) : Rat) / ((rawZ negb2 xb2 4 : Int) : Rat) = 0
  · have hn0 := Rat.num_eq_zero.2 h0
    have oka1 := ia1.ok
    have okb1 := ib1.ok
    have oka2 := ia2.ok
    have okb2 := ib2.ok
    have oka3 := ia3.ok
    have okb3 := ib3.ok
    have bel : Below w.heap.size w w := Below.refl _ _
    refine E.enter (nt := 88) (L := [(0, .agg #[.bool nega1, .slice aa1 na1 ca1, .bool negb1, .slice ab1 nb1 cb1]), (1, .agg #[.bool nega2, .slice aa2 na2 ca2, .bool negb2, .slice ab2 nb2 cb2]), (2, .agg #[.bool nega3, .slice aa3 na3 ca3, .bool negb3, .slice ab3 nb3 cb3])]) Try.func12 rfl rfl rfl (args_cons (i := 0) rfl (args_cons (i := 1) rfl (args_cons (i := 2) rfl args_nil))) ?_
    intro a hF
    refine wp_seq ?_
    refine E.seq ?_
    obtain ⟨g3, w1, ge3, hr, bb, o3⟩ := own_box (P := Try.prog) (w := w) (cs := [.bool nega1, .slice aa1 na1 ca1, .bool negb1, .slice ab1 nb1 cb1]) (v := .agg #[.bool nega1, .slice aa1 na1 ca1, .bool negb1, .slice ab1 nb1 cb1]) 74 rfl (niB (niS (niB (niS ni0))))
    replace ge3 : w.heap.size ≤ g3 := by rw [← ge3]; exact bel.size
    refine E.opv hF (r_box (hF.at 0 rfl) hr) rfl rfl rfl rfl fun a hF => ?_
    clear hr
    replace ia2 := ia2.below bb
    replace ib2 := ib2.below bb
    replace ia3 := ia3.below bb
    replace ib3 := ib3.below bb
    replace ia1 := ia1.below bb
    replace ib1 := ib1.below bb
    replace bel := below_to bel bb
    clear bb
    obtain ⟨g4, w2, ge4, hr, bb, o4⟩ := own_box (P := Try.prog) (w := w1) (cs := [.bool nega2, .slice aa2 na2 ca2, .bool negb2, .slice ab2 nb2 cb2]) (v := .agg #[.bool nega2, .slice aa2 na2 ca2, .bool negb2, .slice ab2 nb2 cb2]) 74 rfl (niB (niS (niB (niS ni0))))
    have ne3_4 : g3 ≠ g4 := by rw [← ge4]; exact o3.ne_new
    replace ge4 : w.heap.size ≤ g4 := by rw [← ge4]; exact bel.size
    refine E.opv hF (r_box (hF.at 2 rfl) hr) rfl rfl rfl rfl fun a hF => ?_
    clear hr
    replace ia3 := ia3.below bb
    replace ib3 := ib3.below bb
    replace ia1 := ia1.below bb
    replace ib1 := ib1.below bb
    replace ia2 := ia2.below bb
    replace ib2 := ib2.below bb
    replace o3 := o3.below bb
    replace bel := below_to bel bb
    clear bb
    obtain ⟨g5, w3, ge5, hr, bb, o5⟩ := own_box (P := Try.prog) (w := w2) (cs := [.bool nega3, .slice aa3 na3 ca3, .bool negb3, .slice ab3 nb3 cb3]) (v := .agg #[.bool nega3, .slice aa3 na3 ca3, .bool negb3, .slice ab3 nb3 cb3]) 74 rfl (niB (niS (niB (niS ni0))))
    have ne3_5 : g3 ≠ g5 := by rw [← ge5]; exact o3.ne_new
    have ne4_5 : g4 ≠ g5 := by rw [← ge5]; exact o4.ne_new
    replace ge5 : w.heap.size ≤ g5 := by rw [← ge5]; exact bel.size
    refine E.opv hF (r_box (hF.at 4 rfl) hr) rfl rfl rfl rfl fun a hF => ?_
    clear hr
    replace ia1 := ia1.below bb
    replace ib1 := ib1.below bb
    replace ia2 := ia2.below bb
    replace ib2 := ib2.below bb
    replace ia3 := ia3.below bb
    replace ib3 := ib3.below bb
    replace o3 := o3.below bb
    replace o4 := o4.below bb
    replace bel := below_to bel bb
    clear bb
    refine E.opv hF (r_assign ev_c) rfl rfl rfl rfl fun a hF => ?_
    refine E.nil ?_
    refine wp_seq ?_
    refine wp_seq ?_
    refine E.seq ?_
    refine E.call hF (r_call Try.func45 en45.1 en45.2 map0) (awake5_any _) rfl rfl rfl rfl ?_
    rintro e w4 ⟨rfl, bb⟩
    refine ⟨_, rfl, ?_⟩
    intro a hF
    replace ia1 := ia1.below bb
    replace ib1 := ib1.below bb
    replace ia2 := ia2.below bb
    replace ib2 := ib2.below bb
    replace ia3 := ia3.below bb
    replace ib3 := ib3.below bb
    replace o3 := o3.below bb
    replace o4 := o4.below bb
    replace o5 := o5.below bb
    replace bel := below_to bel bb
    clear bb
    refine E.opv hF (r_un (hF.at 0 rfl) (bn_not _ false rfl)) rfl rfl rfl rfl fun a hF => ?_
    refine E.nil ?_
    refine wp_cond_false (hF.at 0 rfl) ?_
    refine wp_skip ?_
    refine E.norm ?_
    refine wp_seq ?_
    refine E.drawn 9 mixed hF [12, 13, 14, 15, 16, 17, 7, 8, 9] [(fun _ v => v = .agg #[.bool nega1, .slice aa1 na1 ca1, .bool negb1, .slice ab1 nb1 cb1]), (fun w v => Rq w v (((rawZ nega1 xa1 4 : Int) : Rat) / ((rawZ negb1 xb1 4 : Int) : Rat))), (fun _ v => v = .agg #[.bool nega2, .slice aa2 na2 ca2, .bool negb2, .slice ab2 nb2 cb2]), (fun w v => Rq w v (((rawZ nega2 xa2 4 : Int) : Rat) / ((rawZ negb2 xb2 4 : Int) : Rat))), (fun _ v => v = .agg #[.bool nega3, .slice aa3 na3 ca3, .bool negb3, .slice ab3 nb3 cb3]), (fun w v => Rq w v (((rawZ nega3 xa3 4 : Int) : Rat) / ((rawZ negb3 xb3 4 : Int) : Rat))), (fun w v => ∃ g, v = .pointer (some ⟨g, 0, none⟩) ∧ w4.heap.size ≤ g ∧ Own w g [.bool false, .slice none 0 0, .slice none 0 0]), (fun w v => ∃ g, v = .pointer (some ⟨g, 0, none⟩) ∧ w4.heap.size ≤ g ∧ Own w g [.bool false, .slice none 0 0, .slice none 0 0]), (fun w v => ∃ g, v = .pointer (some ⟨g, 0, none⟩) ∧ w4.heap.size ≤ g ∧ Own w g [.bool false, .slice none 0 0, .slice none 0 0])] [6, 7, 8] (by decide +kernel) (by decide +kernel) rfl rfl rfl ⟨(Mb.eq _), (fun _ _ _ h hb => h.below hb), (Mb.eq _), (fun _ _ _ h hb => h.below hb), (Mb.eq _), (fun _ _ _ h hb => h.below hb), (fun _ _ _ ⟨g, e, l, o⟩ hb => ⟨g, e, l, o.below hb⟩), (fun _ _ _ ⟨g, e, l, o⟩ hb => ⟨g, e, l, o.below hb⟩), (fun _ _ _ ⟨g, e, l, o⟩ hb => ⟨g, e, l, o.below hb⟩), trivial⟩ ⟨fun _ _ ⟨g, e, _, o⟩ => ⟨g, e, o.lt⟩, ⟨fun _ _ ⟨g, e, _, o⟩ => ⟨g, e, o.lt⟩, ⟨fun _ _ ⟨g, e, _, o⟩ => ⟨g, e, o.lt⟩, trivial⟩⟩⟩ ⟨?_, ?_, ?_, ?_, ?_, ?_, ?_, ?_, ?_, trivial⟩ ?_
    · intro a' w' hF' hb hd
      exact if_does (wanted_free rfl) (Does.vals (r_load (hF'.at 5 rfl) (ld_Raw5 (vs := [.bool nega1, .slice aa1 na1 ca1, .bool negb1, .slice ab1 nb1 cb1]) (o3.below hb) rfl rfl)) ⟨rfl, Below.refl _ _, (fun h => absurd h (by decide))⟩)
    · intro a' w' hF' hb hd
      have e12 : a'.tmps.getD 12 undef = .agg #[.bool nega1, .slice aa1 na1 ca1, .bool negb1, .slice ab1 nb1 cb1] := hd _ 12 (Array.mem_of_getElem? (i := 0) rfl) rfl rfl
      refine if_does (wanted_free rfl) (Does.calls (r_call Try.func46 en46.1 en46.2 (map2 e12 ev_c)) (Own5_any nega1 aa1 na1 ca1 xa1 negb1 ab1 nb1 cb1 xb1 4 _ (ia1.below hb) (ib1.below hb) (by omega)) ?_)
      rintro e w'' ⟨v', rfl, h', bb⟩
      exact ⟨_, rfl, h', bb, (fun h => absurd h (by decide))⟩
    · intro a' w' hF' hb hd
      exact if_does (wanted_free rfl) (Does.vals (r_load (hF'.at 4 rfl) (ld_Raw5 (vs := [.bool nega2, .slice aa2 na2 ca2, .bool negb2, .slice ab2 nb2 cb2]) (o4.below hb) rfl rfl)) ⟨rfl, Below.refl _ _, (fun h => absurd h (by decide))⟩)
    · intro a' w' hF' hb hd
      have e14 : a'.tmps.getD 14 undef = .agg #[.bool nega2, .slice aa2 na2 ca2, .bool negb2, .slice ab2 nb2 cb2] := hd _ 14 (Array.mem_of_getElem? (i := 0) rfl) rfl rfl
      refine if_does (wanted_free rfl) (Does.calls (r_call Try.func46 en46.1 en46.2 (map2 e14 ev_c)) (Own5_any nega2 aa2 na2 ca2 xa2 negb2 ab2 nb2 cb2 xb2 4 _ (ia2.below hb) (ib2.below hb) (by omega)) ?_)
      rintro e w'' ⟨v', rfl, h', bb⟩
      exact ⟨_, rfl, h', bb, (fun h => absurd h (by decide))⟩
    · intro a' w' hF' hb hd
      exact if_does (wanted_free rfl) (Does.vals (r_load (hF'.at 3 rfl) (ld_Raw5 (vs := [.bool nega3, .slice aa3 na3 ca3, .bool negb3, .slice ab3 nb3 cb3]) (o5.below hb) rfl rfl)) ⟨rfl, Below.refl _ _, (fun h => absurd h (by decide))⟩)
    · intro a' w' hF' hb hd
      have e16 : a'.tmps.getD 16 undef = .agg #[.bool nega3, .slice aa3 na3 ca3, .bool negb3, .slice ab3 nb3 cb3] := hd _ 16 (Array.mem_of_getElem? (i := 0) rfl) rfl rfl
      refine if_does (wanted_free rfl) (Does.calls (r_call Try.func46 en46.1 en46.2 (map2 e16 ev_c)) (Own5_any nega3 aa3 na3 ca3 xa3 negb3 ab3 nb3 cb3 xb3 4 _ (ia3.below hb) (ib3.below hb) (by omega)) ?_)
      rintro e w'' ⟨v', rfl, h', bb⟩
      exact ⟨_, rfl, h', bb, (fun h => absurd h (by decide))⟩
    · intro a' w' hF' hb hd
      obtain ⟨g, w2, ge, hr, bb, on⟩ := own_alloc (P := Try.prog) (w := w') (cs := [.bool false, .slice none 0 0, .slice none 0 0]) 76 ze_Rat rfl (niB (niS (niS ni0)))
      subst ge
      exact if_does (wanted_free rfl) (Does.vals (r_alloc hr) ⟨⟨_, rfl, hb.size, on⟩, bb, fun _ => rfl⟩)
    · intro a' w' hF' hb hd
      obtain ⟨g, w2, ge, hr, bb, on⟩ := own_alloc (P := Try.prog) (w := w') (cs := [.bool false, .slice none 0 0, .slice none 0 0]) 76 ze_Rat rfl (niB (niS (niS ni0)))
      subst ge
      exact if_does (wanted_free rfl) (Does.vals (r_alloc hr) ⟨⟨_, rfl, hb.size, on⟩, bb, fun _ => rfl⟩)
    · intro a' w' hF' hb hd
      obtain ⟨g, w2, ge, hr, bb, on⟩ := own_alloc (P := Try.prog) (w := w') (cs := [.bool false, .slice none 0 0, .slice none 0 0]) 76 ze_Rat rfl (niB (niS (niS ni0)))
      subst ge
      exact if_does (wanted_free rfl) (Does.vals (r_alloc hr) ⟨⟨_, rfl, hb.size, on⟩, bb, fun _ => rfl⟩)
    intro a w5 hF bb hall hne
    obtain ⟨vv6, e13, hh7⟩ : ∃ v, a.tmps.getD 13 undef = v ∧ Rq w5 v (((rawZ nega1 xa1 4 : Int) : Rat) / ((rawZ negb1 xb1 4 : Int) : Rat)) := ⟨_, rfl, hall 1 13 rfl⟩
    obtain ⟨vv8, e15, hh9⟩ : ∃ v, a.tmps.getD 15 undef = v ∧ Rq w5 v (((rawZ nega2 xa2 4 : Int) : Rat) / ((rawZ negb2 xb2 4 : Int) : Rat)) := ⟨_, rfl, hall 3 15 rfl⟩
    obtain ⟨vv10, e17, hh11⟩ : ∃ v, a.tmps.getD 17 undef = v ∧ Rq w5 v (((rawZ nega3 xa3 4 : Int) : Rat) / ((rawZ negb3 xb3 4 : Int) : Rat)) := ⟨_, rfl, hall 5 17 rfl⟩
    obtain ⟨g7, e7, ge7, o7⟩ : ∃ g, a.tmps.getD 7 undef = .pointer (some ⟨g, 0, none⟩) ∧ w4.heap.size ≤ g ∧ Own w5 g [.bool false, .slice none 0 0, .slice none 0 0] := hall 6 7 rfl
    obtain ⟨g8, e8, ge8, o8⟩ : ∃ g, a.tmps.getD 8 undef = .pointer (some ⟨g, 0, none⟩) ∧ w4.heap.size ≤ g ∧ Own w5 g [.bool false, .slice none 0 0, .slice none 0 0] := hall 7 8 rfl
    have ne7_8 : g7 ≠ g8 := by intro e; exact hne 6 7 7 8 rfl rfl (by decide) rfl rfl (by rw [e7, e8, e])
    obtain ⟨g9, e9, ge9, o9⟩ : ∃ g, a.tmps.getD 9 undef = .pointer (some ⟨g, 0, none⟩) ∧ w4.heap.size ≤ g ∧ Own w5 g [.bool false, .slice none 0 0, .slice none 0 0] := hall 8 9 rfl
    have ne7_9 : g7 ≠ g9 := by intro e; exact hne 6 8 7 9 rfl rfl (by decide) rfl rfl (by rw [e7, e9, e])
    have ne8_9 : g8 ≠ g9 := by intro e; exact hne 7 8 8 9 rfl rfl (by decide) rfl rfl (by rw [e8, e9, e])
    replace ge7 : w.heap.size ≤ g7 := Nat.le_trans bel.size ge7
    replace ge8 : w.heap.size ≤ g8 := Nat.le_trans bel.size ge8
    replace ge9 : w.heap.size ≤ g9 := Nat.le_trans bel.size ge9
    clear hall hne
    replace bel := below_to bel bb
    clear bb
    obtain ⟨b12, ad12, n12, c12, ae12, m12, d12, rfl, hn12, hd12⟩ := Rq.shape hh7
    have hf13 := Wc.abs hn12
    replace hF := hF.add e13
    clear e13
    obtain ⟨b14, ad14, n14, c14, ae14, m14, d14, rfl, hn14, hd14⟩ := Rq.shape hh9
    have hf15 := Wc.abs hn14
    replace hF := hF.add e15
    clear e15
    obtain ⟨b16, ad16, n16, c16, ae16, m16, d16, rfl, hn16, hd16⟩ := Rq.shape hh11
    have hf17 := Wc.abs hn16
    replace hF := hF.add e17
    clear e17
    replace hF := hF.add e7
    clear e7
    replace hF := hF.add e8
    clear e8
    replace hF := hF.add e9
    clear e9
    obtain ⟨w18, hr, tu, on⟩ := st_Rat (vs := [.bool b12, .slice ad12 n12 c12, .slice ae12 m12 d12]) o7 rfl rfl (ocB (ocS (ocS oc0))) (niB (niS (niS ni0))) (o := 0) rfl
    have kp := tu.keep o7
    refine E.st hF (r_store (hF.at 2 rfl) (hF.at 5 rfl) (hr _ rfl)) rfl rfl fun a hF => ?_
    clear hr
    replace hh11 := hh11.keep kp
    replace hn16 := hn16.keep kp
    replace hf17 := hf17.keep kp
    replace hd16 := hd16.keep kp
    replace hh9 := hh9.keep kp
    replace hn14 := hn14.keep kp
    replace hf15 := hf15.keep kp
    replace hd14 := hd14.keep kp
    replace hh7 := hh7.keep kp
    replace hn12 := hn12.keep kp
    replace hf13 := hf13.keep kp
    replace hd12 := hd12.keep kp
    replace o8 := tu.own o8 (Ne.symm ne7_8)
    replace o9 := tu.own o9 (Ne.symm ne7_9)
    replace bel := tu.below bel ge7
    clear tu kp
    replace o7 := on
    clear on
    obtain ⟨w19, hr, tu, on⟩ := st_Rat (vs := [.bool b14, .slice ad14 n14 c14, .slice ae14 m14 d14]) o8 rfl rfl (ocB (ocS (ocS oc0))) (niB (niS (niS ni0))) (o := 0) rfl
    have kp := tu.keep o8
    refine E.st hF (r_store (hF.at 1 rfl) (hF.at 4 rfl) (hr _ rfl)) rfl rfl fun a hF => ?_
    clear hr
    replace hh11 := hh11.keep kp
    replace hn16 := hn16.keep kp
    replace hf17 := hf17.keep kp
    replace hd16 := hd16.keep kp
    replace hf13 := hf13.keep kp
    replace hd12 := hd12.keep kp
    replace hh7 := hh7.keep kp
    replace hn12 := hn12.keep kp
    replace hh9 := hh9.keep kp
    replace hn14 := hn14.keep kp
    replace hf15 := hf15.keep kp
    replace hd14 := hd14.keep kp
    replace o7 := tu.own o7 ne7_8
    replace o9 := tu.own o9 (Ne.symm ne8_9)
    replace bel := tu.below bel ge8
    clear tu kp
    replace o8 := on
    clear on
    obtain ⟨w20, hr, tu, on⟩ := st_Rat (vs := [.bool b16, .slice ad16 n16 c16, .slice ae16 m16 d16]) o9 rfl rfl (ocB (ocS (ocS oc0))) (niB (niS (niS ni0))) (o := 0) rfl
    have kp := tu.keep o9
    refine E.st hF (r_store (hF.at 0 rfl) (hF.at 3 rfl) (hr _ rfl)) rfl rfl fun a hF => ?_
    clear hr
    replace hf13 := hf13.keep kp
    replace hd12 := hd12.keep kp
    replace hh7 := hh7.keep kp
    replace hn12 := hn12.keep kp
    replace hf15 := hf15.keep kp
    replace hd14 := hd14.keep kp
    replace hh9 := hh9.keep kp
    replace hn14 := hn14.keep kp
    replace hh11 := hh11.keep kp
    replace hn16 := hn16.keep kp
    replace hf17 := hf17.keep kp
    replace hd16 := hd16.keep kp
    replace o7 := tu.own o7 ne7_9
    replace o8 := tu.own o8 ne8_9
    replace bel := tu.below bel ge9
    clear tu kp
    replace o9 := on
    clear on
    refine E.nil ?_
    refine wp_seq ?_
    refine wp_seq ?_
    refine E.drawn 46 mixed hF [18, 19, 20, 21, 22, 23, 24, 25, 26, 27, 28, 29, 30, 31, 32, 33, 34, 35, 36, 37, 38, 39, 40, 41, 42, 43, 44, 45, 46, 47, 48, 49, 50, 51, 52, 53, 54, 55, 56, 57, 58, 59, 60, 61, 62, 63] [(fun _ v => v = .agg #[.bool b12, .slice ad12 n12 c12, .slice ae12 m12 d12]), (fun _ v => v = .agg #[.bool b14, .slice ad14 n14 c14, .slice ae14 m14 d14]), (fun _ v => v = .agg #[.bool b16, .slice ad16 n16 c16, .slice ae16 m16 d16]), (fun w v => Rq w v ((((rawZ nega2 xa2 4 : Int) : Rat) / ((rawZ negb2 xb2 4 : Int) : Rat)) + (((rawZ nega3 xa3 4 : Int) : Rat) / ((rawZ negb3 xb3 4 : Int) : Rat)))), (fun w v => Rq w v ((((rawZ nega1 xa1 4 : Int) : Rat) / ((rawZ negb1 xb1 4 : Int) : Rat)) * ((((rawZ nega2 xa2 4 : Int) : Rat) / ((rawZ negb2 xb2 4 : Int) : Rat)) + (((rawZ nega3 xa3 4 : Int) : Rat) / ((rawZ negb3 xb3 4 : Int) : Rat))))), (fun _ v => v = .agg #[.bool b12, .slice ad12 n12 c12, .slice ae12 m12 d12]), (fun _ v => v = .agg #[.bool b14, .slice ad14 n14 c14, .slice ae14 m14 d14]), (fun w v => Rq w v ((((rawZ nega1 xa1 4 : Int) : Rat) / ((rawZ negb1 xb1 4 : Int) : Rat)) * (((rawZ nega2 xa2 4 : Int) : Rat) / ((rawZ negb2 xb2 4 : Int) : Rat)))), (fun _ v => v = .agg #[.bool b12, .slice ad12 n12 c12, .slice ae12 m12 d12]), (fun _ v => v = .agg #[.bool b16, .slice ad16 n16 c16, .slice ae16 m16 d16]), (fun w v => Rq w v ((((rawZ nega1 xa1 4 : Int) : Rat) / ((rawZ negb1 xb1 4 : Int) : Rat)) * (((rawZ nega3 xa3 4 : Int) : Rat) / ((rawZ negb3 xb3 4 : Int) : Rat)))), (fun w v => Rq w v (((((rawZ nega1 xa1 4 : Int) : Rat) / ((rawZ negb1 xb1 4 : Int) : Rat)) * (((rawZ nega2 xa2 4 : Int) : Rat) / ((rawZ negb2 xb2 4 : Int) : Rat))) + ((((rawZ nega1 xa1 4 : Int) : Rat) / ((rawZ negb1 xb1 4 : Int) : Rat)) * (((rawZ nega3 xa3 4 : Int) : Rat) / ((rawZ negb3 xb3 4 : Int) : Rat))))), (fun _ v => v = .bool true), (fun _ v => v = .bool false), (fun _ v => v = .bool false), (fun _ v => v = .agg #[.bool b12, .slice ad12 n12 c12, .slice ae12 m12 d12]), (fun _ v => v = .agg #[.bool b14, .slice ad14 n14 c14, .slice ae14 m14 d14]), (fun _ v => v = .agg #[.bool b16, .slice ad16 n16 c16, .slice ae16 m16 d16]), (fun w v => QRow w v [((rawZ nega1 xa1 4 : Int) : Rat) / ((rawZ negb1 xb1 4 : Int) : Rat), ((rawZ nega2 xa2 4 : Int) : Rat) / ((rawZ negb2 xb2 4 : Int) : Rat), ((rawZ nega3 xa3 4 : Int) : Rat) / ((rawZ negb3 xb3 4 : Int) : Rat)]), (fun w v => Rq w v ((((rawZ nega1 xa1 4 : Int) : Rat) / ((rawZ negb1 xb1 4 : Int) : Rat)) + (((rawZ nega2 xa2 4 : Int) : Rat) / ((rawZ negb2 xb2 4 : Int) : Rat)) + (((rawZ nega3 xa3 4 : Int) : Rat) / ((rawZ negb3 xb3 4 : Int) : Rat)))), (fun _ v => v = .agg #[.bool b16, .slice ad16 n16 c16, .slice ae16 m16 d16]), (fun _ v => v = .agg #[.bool b12, .slice ad12 n12 c12, .slice ae12 m12 d12]), (fun _ v => v = .agg #[.bool b14, .slice ad14 n14 c14, .slice ae14 m14 d14]), (fun w v => QRow w v [((rawZ nega3 xa3 4 : Int) : Rat) / ((rawZ negb3 xb3 4 : Int) : Rat), ((rawZ nega1 xa1 4 : Int) : Rat) / ((rawZ negb1 xb1 4 : Int) : Rat), ((rawZ nega2 xa2 4 : Int) : Rat) / ((rawZ negb2 xb2 4 : Int) : Rat)]), (fun w v => Rq w v ((((rawZ nega3 xa3 4 : Int) : Rat) / ((rawZ negb3 xb3 4 : Int) : Rat)) + (((rawZ nega1 xa1 4 : Int) : Rat) / ((rawZ negb1 xb1 4 : Int) : Rat)) + (((rawZ nega2 xa2 4 : Int) : Rat) / ((rawZ negb2 xb2 4 : Int) : Rat)))), (fun _ v => v = .bool true), (fun _ v => v = .bool false), (fun _ v => v = .bool false), (fun _ v => v = .bool false), (fun _ v => v = .agg #[.bool b12, .slice ad12 n12 c12, .slice ae12 m12 d12]), (fun _ v => v = .agg #[.bool b14, .slice ad14 n14 c14, .slice ae14 m14 d14]), (fun w v => Rq w v ((((rawZ nega1 xa1 4 : Int) : Rat) / ((rawZ negb1 xb1 4 : Int) : Rat)) * (((rawZ nega2 xa2 4 : Int) : Rat) / ((rawZ negb2 xb2 4 : Int) : Rat)))), (fun _ v => v = .agg #[.bool b14, .slice ad14 n14 c14, .slice ae14 m14 d14]), (fun _ v => v = .agg #[.bool b12, .slice ad12 n12 c12, .slice ae12 m12 d12]), (fun w v => Rq w v ((((rawZ nega2 xa2 4 : Int) : Rat) / ((rawZ negb2 xb2 4 : Int) : Rat)) * (((rawZ nega1 xa1 4 : Int) : Rat) / ((rawZ negb1 xb1 4 : Int) : Rat)))), (fun _ v => v = .bool true), (fun _ v => v = .bool false), (fun _ v => v = .bool false), (fun _ v => v = .bool false), (fun _ v => v = .agg #[.bool b12, .slice ad12 n12 c12, .slice ae12 m12 d12]), (fun _ v => v = .agg #[.bool b12, .slice ad12 n12 c12, .slice ae12 m12 d12]), (fun w v => Rq w v ((((rawZ nega1 xa1 4 : Int) : Rat) / ((rawZ negb1 xb1 4 : Int) : Rat)) - (((rawZ nega1 xa1 4 : Int) : Rat) / ((rawZ negb1 xb1 4 : Int) : Rat)))), (fun _ v => v = .agg #[.bool false, .slice none 0 0, .slice none 0 0]), (fun _ v => v = .bool true), (fun _ v => v = .bool false), (fun _ v => v = .bool false)] [] (by decide +kernel) (by decide +kernel) rfl rfl rfl ⟨(Mb.eq _), (Mb.eq _), (Mb.eq _), (fun _ _ _ h hb => h.below hb), (fun _ _ _ h hb => h.below hb), (Mb.eq _), (Mb.eq _), (fun _ _ _ h hb => h.below hb), (Mb.eq _), (Mb.eq _), (fun _ _ _ h hb => h.below hb), (fun _ _ _ h hb => h.below hb), (Mb.eq _), (Mb.eq _), (Mb.eq _), (Mb.eq _), (Mb.eq _), (Mb.eq _), (QRow.mono _), (fun _ _ _ h hb => h.below hb), (Mb.eq _), (Mb.eq _), (Mb.eq _), (QRow.mono _), (fun _ _ _ h hb => h.below hb), (Mb.eq _), (Mb.eq _), (Mb.eq _), (Mb.eq _), (Mb.eq _), (Mb.eq _), (fun _ _ _ h hb => h.below hb), (Mb.eq _), (Mb.eq _), (fun _ _ _ h hb => h.below hb), (Mb.eq _), (Mb.eq _), (Mb.eq _), (Mb.eq _), (Mb.eq _), (Mb.eq _), (fun _ _ _ h hb => h.below hb), (Mb.eq _), (Mb.eq _), (Mb.eq _), (Mb.eq _), trivial⟩ trivial ⟨?_, ?_, ?_, ?_, ?_, ?_, ?_, ?_, ?_, ?_, ?_, ?_, ?_, ?_, ?_, ?_, ?_, ?_, ?_, ?_, ?_, ?_, ?_, ?_, ?_, ?_, ?_, ?_, ?_, ?_, ?_, ?_, ?_, ?_, ?_, ?_, ?_, ?_, ?_, ?_, ?_, ?_, ?_, ?_, ?_, ?_, trivial⟩ ?_
    · intro a' w' hF' hb hd
      exact if_does (wanted_free rfl) (Does.vals (r_load (hF'.at 2 rfl) (ld_Rat (vs := [.bool b12, .slice ad12 n12 c12, .slice ae12 m12 d12]) (o7.below hb) rfl rfl)) ⟨rfl, Below.refl _ _, (fun h => absurd h (by decide))⟩)
    · intro a' w' hF' hb hd
      exact if_does (wanted_free rfl) (Does.vals (r_load (hF'.at 1 rfl) (ld_Rat (vs := [.bool b14, .slice ad14 n14 c14, .slice ae14 m14 d14]) (o8.below hb) rfl rfl)) ⟨rfl, Below.refl _ _, (fun h => absurd h (by decide))⟩)
    · intro a' w' hF' hb hd
      exact if_does (wanted_free rfl) (Does.vals (r_load (hF'.at 0 rfl) (ld_Rat (vs := [.bool b16, .slice ad16 n16 c16, .slice ae16 m16 d16]) (o9.below hb) rfl rfl)) ⟨rfl, Below.refl _ _, (fun h => absurd h (by decide))⟩)
    · intro a' w' hF' hb hd
      have e19 : a'.tmps.getD 19 undef = .agg #[.bool b14, .slice ad14 n14 c14, .slice ae14 m14 d14] := hd _ 19 (Array.mem_of_getElem? (i := 0) rfl) rfl rfl
      have e20 : a'.tmps.getD 20 undef = .agg #[.bool b16, .slice ad16 n16 c16, .slice ae16 m16 d16] := hd _ 20 (Array.mem_of_getElem? (i := 1) rfl) rfl rfl
      refine if_does (wanted_free rfl) (Does.calls (r_call Try.func60 en60.1 en60.2 (map2 e19 e20)) (rAdd_any _ _ (((rawZ nega2 xa2 4 : Int) : Rat) / ((rawZ negb2 xb2 4 : Int) : Rat)) (((rawZ nega3 xa3 4 : Int) : Rat) / ((rawZ negb3 xb3 4 : Int) : Rat)) 4 _ (hh9.below hb) (hh11.below hb) ((own5_lim nega2 negb2 oka2 okb2 4 (by decide)).up _ (by omega)) ((own5_lim nega3 negb3 oka3 okb3 4 (by decide)).up _ (by omega)) (by omega)) ?_)
      rintro e w'' ⟨v', rfl, h', bb⟩
      exact ⟨_, rfl, h', bb, (fun h => absurd h (by decide))⟩
    · intro a' w' hF' hb hd
      have e18 : a'.tmps.getD 18 undef = .agg #[.bool b12, .slice ad12 n12 c12, .slice ae12 m12 d12] := hd _ 18 (Array.mem_of_getElem? (i := 0) rfl) rfl rfl
      obtain ⟨v21_0, e21, h21_1⟩ : ∃ v, a'.tmps.getD 21 undef = v ∧ Rq w' v ((((rawZ nega2 xa2 4 : Int) : Rat) / ((rawZ negb2 xb2 4 : Int) : Rat)) + (((rawZ nega3 xa3 4 : Int) : Rat) / ((rawZ negb3 xb3 4 : Int) : Rat))) := ⟨_, rfl, hd _ 21 (Array.mem_of_getElem? (i := 1) rfl) rfl rfl⟩
      refine if_does (wanted_free rfl) (Does.calls (r_call Try.func64 en64.1 en64.2 (map2 e18 e21)) (rMul_any _ _ (((rawZ nega1 xa1 4 : Int) : Rat) / ((rawZ negb1 xb1 4 : Int) : Rat)) ((((rawZ nega2 xa2 4 : Int) : Rat) / ((rawZ negb2 xb2 4 : Int) : Rat)) + (((rawZ nega3 xa3 4 : Int) : Rat) / ((rawZ negb3 xb3 4 : Int) : Rat))) (max 4 (4 + 4 + 1)) _ (hh7.below hb) h21_1 ((own5_lim nega1 negb1 oka1 okb1 4 (by decide)).up _ (by omega)) ((rlim_add (own5_lim nega2 negb2 oka2 okb2 4 (by decide)) (own5_lim nega3 negb3 oka3 okb3 4 (by decide))).up _ (by omega)) (by omega)) ?_)
      rintro e w'' ⟨v', rfl, h', bb⟩
      exact ⟨_, rfl, h', bb, (fun h => absurd h (by decide))⟩
    · intro a' w' hF' hb hd
      exact if_does (wanted_free rfl) (Does.vals (r_load (hF'.at 2 rfl) (ld_Rat (vs := [.bool b12, .slice ad12 n12 c12, .slice ae12 m12 d12]) (o7.below hb) rfl rfl)) ⟨rfl, Below.refl _ _, (fun h => absurd h (by decide))⟩)
    · intro a' w' hF' hb hd
      exact if_does (wanted_free rfl) (Does.vals (r_load (hF'.at 1 rfl) (ld_Rat (vs := [.bool b14, .slice ad14 n14 c14, .slice ae14 m14 d14]) (o8.below hb) rfl rfl)) ⟨rfl, Below.refl _ _, (fun h => absurd h (by decide))⟩)
    · intro a' w' hF' hb hd
      have e23 : a'.tmps.getD 23 undef = .agg #[.bool b12, .slice ad12 n12 c12, .slice ae12 m12 d12] := hd _ 23 (Array.mem_of_getElem? (i := 0) rfl) rfl rfl
      have e24 : a'.tmps.getD 24 undef = .agg #[.bool b14, .slice ad14 n14 c14, .slice ae14 m14 d14] := hd _ 24 (Array.mem_of_getElem? (i := 1) rfl) rfl rfl
      refine if_does (wanted_free rfl) (Does.calls (r_call Try.func64 en64.1 en64.2 (map2 e23 e24)) (rMul_any _ _ (((rawZ nega1 xa1 4 : Int) : Rat) / ((rawZ negb1 xb1 4 : Int) : Rat)) (((rawZ nega2 xa2 4 : Int) : Rat) / ((rawZ negb2 xb2 4 : Int) : Rat)) 4 _ (hh7.below hb) (hh9.below hb) ((own5_lim nega1 negb1 oka1 okb1 4 (by decide)).up _ (by omega)) ((own5_lim nega2 negb2 oka2 okb2 4 (by decide)).up _ (by omega)) (by omega)) ?_)
      rintro e w'' ⟨v', rfl, h', bb⟩
      exact ⟨_, rfl, h', bb, (fun h => absurd h (by decide))⟩
    · intro a' w' hF' hb hd
      exact if_does (wanted_free rfl) (Does.vals (r_load (hF'.at 2 rfl) (ld_Rat (vs := [.bool b12, .slice ad12 n12 c12, .slice ae12 m12 d12]) (o7.below hb) rfl rfl)) ⟨rfl, Below.refl _ _, (fun h => absurd h (by decide))⟩)
    · intro a' w' hF' hb hd
      exact if_does (wanted_free rfl) (Does.vals (r_load (hF'.at 0 rfl) (ld_Rat (vs := [.bool b16, .slice ad16 n16 c16, .slice ae16 m16 d16]) (o9.below hb) rfl rfl)) ⟨rfl, Below.refl _ _, (fun h => absurd h (by decide))⟩)
    · intro a' w' hF' hb hd
      have e26 : a'.tmps.getD 26 undef = .agg #[.bool b12, .slice ad12 n12 c12, .slice ae12 m12 d12] := hd _ 26 (Array.mem_of_getElem? (i := 0) rfl) rfl rfl
      have e27 : a'.tmps.getD 27 undef = .agg #[.bool b16, .slice ad16 n16 c16, .slice ae16 m16 d16] := hd _ 27 (Array.mem_of_getElem? (i := 1) rfl) rfl rfl
      refine if_does (wanted_free rfl) (Does.calls (r_call Try.func64 en64.1 en64.2 (map2 e26 e27)) (rMul_any _ _ (((rawZ nega1 xa1 4 : Int) : Rat) / ((rawZ negb1 xb1 4 : Int) : Rat)) (((rawZ nega3 xa3 4 : Int) : Rat) / ((rawZ negb3 xb3 4 : Int) : Rat)) 4 _ (hh7.below hb) (hh11.below hb) ((own5_lim nega1 negb1 oka1 okb1 4 (by decide)).up _ (by omega)) ((own5_lim nega3 negb3 oka3 okb3 4 (by decide)).up _ (by omega)) (by omega)) ?_)
      rintro e w'' ⟨v', rfl, h', bb⟩
      exact ⟨_, rfl, h', bb, (fun h => absurd h (by decide))⟩
    · intro a' w' hF' hb hd
      obtain ⟨v25_0, e25, h25_1⟩ : ∃ v, a'.tmps.getD 25 undef = v ∧ Rq w' v ((((rawZ nega1 xa1 4 : Int) : Rat) / ((rawZ negb1 xb1 4 : Int) : Rat)) * (((rawZ nega2 xa2 4 : Int) : Rat) / ((rawZ negb2 xb2 4 : Int) : Rat))) := ⟨_, rfl, hd _ 25 (Array.mem_of_getElem? (i := 0) rfl) rfl rfl⟩
      obtain ⟨v28_0, e28, h28_1⟩ : ∃ v, a'.tmps.getD 28 undef = v ∧ Rq w' v ((((rawZ nega1 xa1 4 : Int) : Rat) / ((rawZ negb1 xb1 4 : Int) : Rat)) * (((rawZ nega3 xa3 4 : Int) : Rat) / ((rawZ negb3 xb3 4 : Int) : Rat))) := ⟨_, rfl, hd _ 28 (Array.mem_of_getElem? (i := 1) rfl) rfl rfl⟩
      refine if_does (wanted_free rfl) (Does.calls (r_call Try.func60 en60.1 en60.2 (map2 e25 e28)) (rAdd_any _ _ ((((rawZ nega1 xa1 4 : Int) : Rat) / ((rawZ negb1 xb1 4 : Int) : Rat)) * (((rawZ nega2 xa2 4 : Int) : Rat) / ((rawZ negb2 xb2 4 : Int) : Rat))) ((((rawZ nega1 xa1 4 : Int) : Rat) / ((rawZ negb1 xb1 4 : Int) : Rat)) * (((rawZ nega3 xa3 4 : Int) : Rat) / ((rawZ negb3 xb3 4 : Int) : Rat))) (4 + 4) _ h25_1 h28_1 ((rlim_mul (own5_lim nega1 negb1 oka1 okb1 4 (by decide)) (own5_lim nega2 negb2 oka2 okb2 4 (by decide))).up _ (by omega)) ((rlim_mul (own5_lim nega1 negb1 oka1 okb1 4 (by decide)) (own5_lim nega3 negb3 oka3 okb3 4 (by decide))).up _ (by omega)) (by omega)) ?_)
      rintro e w'' ⟨v', rfl, h', bb⟩
      exact ⟨_, rfl, h', bb, (fun h => absurd h (by decide))⟩
    · intro a' w' hF' hb hd
      obtain ⟨v22_0, e22, h22_1⟩ : ∃ v, a'.tmps.getD 22 undef = v ∧ Rq w' v ((((rawZ nega1 xa1 4 : Int) : Rat) / ((rawZ negb1 xb1 4 : Int) : Rat)) * ((((rawZ nega2 xa2 4 : Int) : Rat) / ((rawZ negb2 xb2 4 : Int) : Rat)) + (((rawZ nega3 xa3 4 : Int) : Rat) / ((rawZ negb3 xb3 4 : Int) : Rat)))) := ⟨_, rfl, hd _ 22 (Array.mem_of_getElem? (i := 0) rfl) rfl rfl⟩
      obtain ⟨v29_0, e29, h29_1⟩ : ∃ v, a'.tmps.getD 29 undef = v ∧ Rq w' v (((((rawZ nega1 xa1 4 : Int) : Rat) / ((rawZ negb1 xb1 4 : Int) : Rat)) * (((rawZ nega2 xa2 4 : Int) : Rat) / ((rawZ negb2 xb2 4 : Int) : Rat))) + ((((rawZ nega1 xa1 4 : Int) : Rat) / ((rawZ negb1 xb1 4 : Int) : Rat)) * (((rawZ nega3 xa3 4 : Int) : Rat) / ((rawZ negb3 xb3 4 : Int) : Rat)))) := ⟨_, rfl, hd _ 29 (Array.mem_of_getElem? (i := 1) rfl) rfl rfl⟩
      refine if_does (wanted_free rfl) (Does.calls (r_call Try.func70 en70.1 en70.2 (map2 e22 e29)) (rSame_true _ _ ((((rawZ nega1 xa1 4 : Int) : Rat) / ((rawZ negb1 xb1 4 : Int) : Rat)) * ((((rawZ nega2 xa2 4 : Int) : Rat) / ((rawZ negb2 xb2 4 : Int) : Rat)) + (((rawZ nega3 xa3 4 : Int) : Rat) / ((rawZ negb3 xb3 4 : Int) : Rat)))) (((((rawZ nega1 xa1 4 : Int) : Rat) / ((rawZ negb1 xb1 4 : Int) : Rat)) * (((rawZ nega2 xa2 4 : Int) : Rat) / ((rawZ negb2 xb2 4 : Int) : Rat))) + ((((rawZ nega1 xa1 4 : Int) : Rat) / ((rawZ negb1 xb1 4 : Int) : Rat)) * (((rawZ nega3 xa3 4 : Int) : Rat) / ((rawZ negb3 xb3 4 : Int) : Rat)))) _ h22_1 h29_1 (Rat.mul_add _ _ _)) ?_)
      rintro e w'' ⟨rfl, bb⟩
      exact ⟨_, rfl, rfl, bb, (fun h => absurd h (by decide))⟩
    · intro a' w' hF' hb hd
      have e30 : a'.tmps.getD 30 undef = .bool true := hd _ 30 (Array.mem_of_getElem? (i := 0) rfl) rfl rfl
      exact if_does (wanted_free rfl) (Does.vals (r_un e30 (bn_not _ false rfl)) ⟨rfl, Below.refl _ _, (fun h => absurd h (by decide))⟩)
    · intro a' w' hF' hb hd
      have e31 : a'.tmps.getD 31 undef = .bool false := hd _ 31 (Array.mem_of_getElem? (i := 0) rfl) rfl rfl
      exact if_does (wanted_free rfl) (Does.vals (r_move e31) ⟨rfl, Below.refl _ _, (fun h => absurd h (by decide))⟩)
    · intro a' w' hF' hb hd
      have e32 : a'.tmps.getD 32 undef = .bool false := hd _ 32 (Array.mem_of_getElem? (i := 0) rfl) rfl rfl
      exact if_does (wanted_by rfl rfl e32 rfl) (Does.vals (r_load (hF'.at 2 rfl) (ld_Rat (vs := [.bool b12, .slice ad12 n12 c12, .slice ae12 m12 d12]) (o7.below hb) rfl rfl)) ⟨rfl, Below.refl _ _, (fun h => absurd h (by decide))⟩)
    · intro a' w' hF' hb hd
      have e32 : a'.tmps.getD 32 undef = .bool false := hd _ 32 (Array.mem_of_getElem? (i := 0) rfl) rfl rfl
      exact if_does (wanted_by rfl rfl e32 rfl) (Does.vals (r_load (hF'.at 1 rfl) (ld_Rat (vs := [.bool b14, .slice ad14 n14 c14, .slice ae14 m14 d14]) (o8.below hb) rfl rfl)) ⟨rfl, Below.refl _ _, (fun h => absurd h (by decide))⟩)
    · intro a' w' hF' hb hd
      have e32 : a'.tmps.getD 32 undef = .bool false := hd _ 32 (Array.mem_of_getElem? (i := 0) rfl) rfl rfl
      exact if_does (wanted_by rfl rfl e32 rfl) (Does.vals (r_load (hF'.at 0 rfl) (ld_Rat (vs := [.bool b16, .slice ad16 n16 c16, .slice ae16 m16 d16]) (o9.below hb) rfl rfl)) ⟨rfl, Below.refl _ _, (fun h => absurd h (by decide))⟩)
    · intro a' w' hF' hb hd
      have e32 : a'.tmps.getD 32 undef = .bool false := hd _ 32 (Array.mem_of_getElem? (i := 3) rfl) rfl rfl
      have e33 : a'.tmps.getD 33 undef = .agg #[.bool b12, .slice ad12 n12 c12, .slice ae12 m12 d12] := hd _ 33 (Array.mem_of_getElem? (i := 0) rfl) rfl rfl
      have e34 : a'.tmps.getD 34 undef = .agg #[.bool b14, .slice ad14 n14 c14, .slice ae14 m14 d14] := hd _ 34 (Array.mem_of_getElem? (i := 1) rfl) rfl rfl
      have e35 : a'.tmps.getD 35 undef = .agg #[.bool b16, .slice ad16 n16 c16, .slice ae16 m16 d16] := hd _ 35 (Array.mem_of_getElem? (i := 2) rfl) rfl rfl
      obtain ⟨vq, w2, hr, bb, hq⟩ := bs_rats (hh7.below hb) (hh9.below hb) (hh11.below hb)
      exact if_does (wanted_by rfl rfl e32 rfl) (Does.vals (r_buildSlice (pair3 e33 e34 e35) hr) ⟨hq, bb, (fun h => absurd h (by decide))⟩)
    · intro a' w' hF' hb hd
      have e32 : a'.tmps.getD 32 undef = .bool false := hd _ 32 (Array.mem_of_getElem? (i := 1) rfl) rfl rfl
      obtain ⟨v36_0, e36, h36_1⟩ : ∃ v, a'.tmps.getD 36 undef = v ∧ QRow w' v [((rawZ nega1 xa1 4 : Int) : Rat) / ((rawZ negb1 xb1 4 : Int) : Rat), ((rawZ nega2 xa2 4 : Int) : Rat) / ((rawZ negb2 xb2 4 : Int) : Rat), ((rawZ nega3 xa3 4 : Int) : Rat) / ((rawZ negb3 xb3 4 : Int) : Rat)] := ⟨_, rfl, hd _ 36 (Array.mem_of_getElem? (i := 0) rfl) rfl rfl⟩
      refine if_does (wanted_by rfl rfl e32 rfl) (Does.calls (r_call Try.func71 en71.1 en71.2 (map1 e36)) (rSum3 _ (((rawZ nega1 xa1 4 : Int) : Rat) / ((rawZ negb1 xb1 4 : Int) : Rat)) (((rawZ nega2 xa2 4 : Int) : Rat) / ((rawZ negb2 xb2 4 : Int) : Rat)) (((rawZ nega3 xa3 4 : Int) : Rat) / ((rawZ negb3 xb3 4 : Int) : Rat)) 4 _ h36_1 ((own5_lim nega1 negb1 oka1 okb1 4 (by decide)).up _ (by omega)) ((own5_lim nega2 negb2 oka2 okb2 4 (by decide)).up _ (by omega)) ((own5_lim nega3 negb3 oka3 okb3 4 (by decide)).up _ (by omega)) (by omega)) ?_)
      rintro e w'' ⟨v', rfl, h', bb⟩
      exact ⟨_, rfl, h', bb, (fun h => absurd h (by decide))⟩
    · intro a' w' hF' hb hd
      have e32 : a'.tmps.getD 32 undef = .bool false := hd _ 32 (Array.mem_of_getElem? (i := 0) rfl) rfl rfl
      exact if_does (wanted_by rfl rfl e32 rfl) (Does.vals (r_load (hF'.at 0 rfl) (ld_Rat (vs := [.bool b16, .slice ad16 n16 c16, .slice ae16 m16 d16]) (o9.below hb) rfl rfl)) ⟨rfl, Below.refl _ _, (fun h => absurd h (by decide))⟩)
    · intro a' w' hF' hb hd
      have e32 : a'.tmps.getD 32 undef = .bool false := hd _ 32 (Array.mem_of_getElem? (i := 0) rfl) rfl rfl
      exact if_does (wanted_by rfl rfl e32 rfl) (Does.vals (r_load (hF'.at 2 rfl) (ld_Rat (vs := [.bool b12, .slice ad12 n12 c12, .slice ae12 m12 d12]) (o7.below hb) rfl rfl)) ⟨rfl, Below.refl _ _, (fun h => absurd h (by decide))⟩)
    · intro a' w' hF' hb hd
      have e32 : a'.tmps.getD 32 undef = .bool false := hd _ 32 (Array.mem_of_getElem? (i := 0) rfl) rfl rfl
      exact if_does (wanted_by rfl rfl e32 rfl) (Does.vals (r_load (hF'.at 1 rfl) (ld_Rat (vs := [.bool b14, .slice ad14 n14 c14, .slice ae14 m14 d14]) (o8.below hb) rfl rfl)) ⟨rfl, Below.refl _ _, (fun h => absurd h (by decide))⟩)
    · intro a' w' hF' hb hd
      have e32 : a'.tmps.getD 32 undef = .bool false := hd _ 32 (Array.mem_of_getElem? (i := 3) rfl) rfl rfl
      have e38 : a'.tmps.getD 38 undef = .agg #[.bool b16, .slice ad16 n16 c16, .slice ae16 m16 d16] := hd _ 38 (Array.mem_of_getElem? (i := 0) rfl) rfl rfl
      have e39 : a'.tmps.getD 39 undef = .agg #[.bool b12, .slice ad12 n12 c12, .slice ae12 m12 d12] := hd _ 39 (Array.mem_of_getElem? (i := 1) rfl) rfl rfl
      have e40 : a'.tmps.getD 40 undef = .agg #[.bool b14, .slice ad14 n14 c14, .slice ae14 m14 d14] := hd _ 40 (Array.mem_of_getElem? (i := 2) rfl) rfl rfl
      obtain ⟨vq, w2, hr, bb, hq⟩ := bs_rats (hh11.below hb) (hh7.below hb) (hh9.below hb)
      exact if_does (wanted_by rfl rfl e32 rfl) (Does.vals (r_buildSlice (pair3 e38 e39 e40) hr) ⟨hq, bb, (fun h => absurd h (by decide))⟩)
    · intro a' w' hF' hb hd
      have e32 : a'.tmps.getD 32 undef = .bool false := hd _ 32 (Array.mem_of_getElem? (i := 2) rfl) rfl rfl
      obtain ⟨v41_0, e41, h41_1⟩ : ∃ v, a'.tmps.getD 41 undef = v ∧ QRow w' v [((rawZ nega3 xa3 4 : Int) : Rat) / ((rawZ negb3 xb3 4 : Int) : Rat), ((rawZ nega1 xa1 4 : Int) : Rat) / ((rawZ negb1 xb1 4 : Int) : Rat), ((rawZ nega2 xa2 4 : Int) : Rat) / ((rawZ negb2 xb2 4 : Int) : Rat)] := ⟨_, rfl, hd _ 41 (Array.mem_of_getElem? (i := 0) rfl) rfl rfl⟩
      refine if_does (wanted_by rfl rfl e32 rfl) (Does.calls (r_call Try.func71 en71.1 en71.2 (map1 e41)) (rSum3 _ (((rawZ nega3 xa3 4 : Int) : Rat) / ((rawZ negb3 xb3 4 : Int) : Rat)) (((rawZ nega1 xa1 4 : Int) : Rat) / ((rawZ negb1 xb1 4 : Int) : Rat)) (((rawZ nega2 xa2 4 : Int) : Rat) / ((rawZ negb2 xb2 4 : Int) : Rat)) 4 _ h41_1 ((own5_lim nega3 negb3 oka3 okb3 4 (by decide)).up _ (by omega)) ((own5_lim nega1 negb1 oka1 okb1 4 (by decide)).up _ (by omega)) ((own5_lim nega2 negb2 oka2 okb2 4 (by decide)).up _ (by omega)) (by omega)) ?_)
      rintro e w'' ⟨v', rfl, h', bb⟩
      exact ⟨_, rfl, h', bb, (fun h => absurd h (by decide))⟩
    · intro a' w' hF' hb hd
      have e32 : a'.tmps.getD 32 undef = .bool false := hd _ 32 (Array.mem_of_getElem? (i := 3) rfl) rfl rfl
      obtain ⟨v37_0, e37, h37_1⟩ : ∃ v, a'.tmps.getD 37 undef = v ∧ Rq w' v ((((rawZ nega1 xa1 4 : Int) : Rat) / ((rawZ negb1 xb1 4 : Int) : Rat)) + (((rawZ nega2 xa2 4 : Int) : Rat) / ((rawZ negb2 xb2 4 : Int) : Rat)) + (((rawZ nega3 xa3 4 : Int) : Rat) / ((rawZ negb3 xb3 4 : Int) : Rat))) := ⟨_, rfl, hd _ 37 (Array.mem_of_getElem? (i := 0) rfl) rfl rfl⟩
      obtain ⟨v42_0, e42, h42_1⟩ : ∃ v, a'.tmps.getD 42 undef = v ∧ Rq w' v ((((rawZ nega3 xa3 4 : Int) : Rat) / ((rawZ negb3 xb3 4 : Int) : Rat)) + (((rawZ nega1 xa1 4 : Int) : Rat) / ((rawZ negb1 xb1 4 : Int) : Rat)) + (((rawZ nega2 xa2 4 : Int) : Rat) / ((rawZ negb2 xb2 4 : Int) : Rat))) := ⟨_, rfl, hd _ 42 (Array.mem_of_getElem? (i := 1) rfl) rfl rfl⟩
      refine if_does (wanted_by rfl rfl e32 rfl) (Does.calls (r_call Try.func70 en70.1 en70.2 (map2 e37 e42)) (rSame_true _ _ ((((rawZ nega1 xa1 4 : Int) : Rat) / ((rawZ negb1 xb1 4 : Int) : Rat)) + (((rawZ nega2 xa2 4 : Int) : Rat) / ((rawZ negb2 xb2 4 : Int) : Rat)) + (((rawZ nega3 xa3 4 : Int) : Rat) / ((rawZ negb3 xb3 4 : Int) : Rat))) ((((rawZ nega3 xa3 4 : Int) : Rat) / ((rawZ negb3 xb3 4 : Int) : Rat)) + (((rawZ nega1 xa1 4 : Int) : Rat) / ((rawZ negb1 xb1 4 : Int) : Rat)) + (((rawZ nega2 xa2 4 : Int) : Rat) / ((rawZ negb2 xb2 4 : Int) : Rat))) _ h37_1 h42_1 (rsum_turn _ _ _)) ?_)
      rintro e w'' ⟨rfl, bb⟩
      exact ⟨_, rfl, rfl, bb, (fun h => absurd h (by decide))⟩
    · intro a' w' hF' hb hd
      have e32 : a'.tmps.getD 32 undef = .bool false := hd _ 32 (Array.mem_of_getElem? (i := 1) rfl) rfl rfl
      have e43 : a'.tmps.getD 43 undef = .bool true := hd _ 43 (Array.mem_of_getElem? (i := 0) rfl) rfl rfl
      exact if_does (wanted_by rfl rfl e32 rfl) (Does.vals (r_un e43 (bn_not _ false rfl)) ⟨rfl, Below.refl _ _, (fun h => absurd h (by decide))⟩)
    · intro a' w' hF' hb hd
      have e32 : a'.tmps.getD 32 undef = .bool false := hd _ 32 (Array.mem_of_getElem? (i := 0) rfl) rfl rfl
      have e44 : a'.tmps.getD 44 undef = .bool false := hd _ 44 (Array.mem_of_getElem? (i := 1) rfl) rfl rfl
      exact if_does (wanted_free rfl) (Does.vals (r_pick_f e32 e44) ⟨rfl, Below.refl _ _, (fun h => absurd h (by decide))⟩)
    · intro a' w' hF' hb hd
      have e45 : a'.tmps.getD 45 undef = .bool false := hd _ 45 (Array.mem_of_getElem? (i := 0) rfl) rfl rfl
      exact if_does (wanted_free rfl) (Does.vals (r_move e45) ⟨rfl, Below.refl _ _, (fun h => absurd h (by decide))⟩)
    · intro a' w' hF' hb hd
      have e46 : a'.tmps.getD 46 undef = .bool false := hd _ 46 (Array.mem_of_getElem? (i := 0) rfl) rfl rfl
      exact if_does (wanted_by rfl rfl e46 rfl) (Does.vals (r_load (hF'.at 2 rfl) (ld_Rat (vs := [.bool b12, .slice ad12 n12 c12, .slice ae12 m12 d12]) (o7.below hb) rfl rfl)) ⟨rfl, Below.refl _ _, (fun h => absurd h (by decide))⟩)
    · intro a' w' hF' hb hd
      have e46 : a'.tmps.getD 46 undef = .bool false := hd _ 46 (Array.mem_of_getElem? (i := 0) rfl) rfl rfl
      exact if_does (wanted_by rfl rfl e46 rfl) (Does.vals (r_load (hF'.at 1 rfl) (ld_Rat (vs := [.bool b14, .slice ad14 n14 c14, .slice ae14 m14 d14]) (o8.below hb) rfl rfl)) ⟨rfl, Below.refl _ _, (fun h => absurd h (by decide))⟩)
    · intro a' w' hF' hb hd
      have e46 : a'.tmps.getD 46 undef = .bool false := hd _ 46 (Array.mem_of_getElem? (i := 2) rfl) rfl rfl
      have e47 : a'.tmps.getD 47 undef = .agg #[.bool b12, .slice ad12 n12 c12, .slice ae12 m12 d12] := hd _ 47 (Array.mem_of_getElem? (i := 0) rfl) rfl rfl
      have e48 : a'.tmps.getD 48 undef = .agg #[.bool b14, .slice ad14 n14 c14, .slice ae14 m14 d14] := hd _ 48 (Array.mem_of_getElem? (i := 1) rfl) rfl rfl
      refine if_does (wanted_by rfl rfl e46 rfl) (Does.calls (r_call Try.func64 en64.1 en64.2 (map2 e47 e48)) (rMul_any _ _ (((rawZ nega1 xa1 4 : Int) : Rat) / ((rawZ negb1 xb1 4 : Int) : Rat)) (((rawZ nega2 xa2 4 : Int) : Rat) / ((rawZ negb2 xb2 4 : Int) : Rat)) 4 _ (hh7.below hb) (hh9.below hb) ((own5_lim nega1 negb1 oka1 okb1 4 (by decide)).up _ (by omega)) ((own5_lim nega2 negb2 oka2 okb2 4 (by decide)).up _ (by omega)) (by omega)) ?_)
      rintro e w'' ⟨v', rfl, h', bb⟩
      exact ⟨_, rfl, h', bb, (fun h => absurd h (by decide))⟩
    · intro a' w' hF' hb hd
      have e46 : a'.tmps.getD 46 undef = .bool false := hd _ 46 (Array.mem_of_getElem? (i := 0) rfl) rfl rfl
      exact if_does (wanted_by rfl rfl e46 rfl) (Does.vals (r_load (hF'.at 1 rfl) (ld_Rat (vs := [.bool b14, .slice ad14 n14 c14, .slice ae14 m14 d14]) (o8.below hb) rfl rfl)) ⟨rfl, Below.refl _ _, (fun h => absurd h (by decide))⟩)
    · intro a' w' hF' hb hd
      have e46 : a'.tmps.getD 46 undef = .bool false := hd _ 46 (Array.mem_of_getElem? (i := 0) rfl) rfl rfl
      exact if_does (wanted_by rfl rfl e46 rfl) (Does.vals (r_load (hF'.at 2 rfl) (ld_Rat (vs := [.bool b12, .slice ad12 n12 c12, .slice ae12 m12 d12]) (o7.below hb) rfl rfl)) ⟨rfl, Below.refl _ _, (fun h => absurd h (by decide))⟩)
    · intro a' w' hF' hb hd
      have e46 : a'.tmps.getD 46 undef = .bool false := hd _ 46 (Array.mem_of_getElem? (i := 3) rfl) rfl rfl
      have e50 : a'.tmps.getD 50 undef = .agg #[.bool b14, .slice ad14 n14 c14, .slice ae14 m14 d14] := hd _ 50 (Array.mem_of_getElem? (i := 0) rfl) rfl rfl
      have e51 : a'.tmps.getD 51 undef = .agg #[.bool b12, .slice ad12 n12 c12, .slice ae12 m12 d12] := hd _ 51 (Array.mem_of_getElem? (i := 1) rfl) rfl rfl
      refine if_does (wanted_by rfl rfl e46 rfl) (Does.calls (r_call Try.func64 en64.1 en64.2 (map2 e50 e51)) (rMul_any _ _ (((rawZ nega2 xa2 4 : Int) : Rat) / ((rawZ negb2 xb2 4 : Int) : Rat)) (((rawZ nega1 xa1 4 : Int) : Rat) / ((rawZ negb1 xb1 4 : Int) : Rat)) 4 _ (hh9.below hb) (hh7.below hb) ((own5_lim nega2 negb2 oka2 okb2 4 (by decide)).up _ (by omega)) ((own5_lim nega1 negb1 oka1 okb1 4 (by decide)).up _ (by omega)) (by omega)) ?_)
      rintro e w'' ⟨v', rfl, h', bb⟩
      exact ⟨_, rfl, h', bb, (fun h => absurd h (by decide))⟩
    · intro a' w' hF' hb hd
      have e46 : a'.tmps.getD 46 undef = .bool false := hd _ 46 (Array.mem_of_getElem? (i := 3) rfl) rfl rfl
      obtain ⟨v49_0, e49, h49_1⟩ : ∃ v, a'.tmps.getD 49 undef = v ∧ Rq w' v ((((rawZ nega1 xa1 4 : Int) : Rat) / ((rawZ negb1 xb1 4 : Int) : Rat)) * (((rawZ nega2 xa2 4 : Int) : Rat) / ((rawZ negb2 xb2 4 : Int) : Rat))) := ⟨_, rfl, hd _ 49 (Array.mem_of_getElem? (i := 0) rfl) rfl rfl⟩
      obtain ⟨v52_0, e52, h52_1⟩ : ∃ v, a'.tmps.getD 52 undef = v ∧ Rq w' v ((((rawZ nega2 xa2 4 : Int) : Rat) / ((rawZ negb2 xb2 4 : Int) : Rat)) * (((rawZ nega1 xa1 4 : Int) : Rat) / ((rawZ negb1 xb1 4 : Int) : Rat))) := ⟨_, rfl, hd _ 52 (Array.mem_of_getElem? (i := 1) rfl) rfl rfl⟩
      refine if_does (wanted_by rfl rfl e46 rfl) (Does.calls (r_call Try.func70 en70.1 en70.2 (map2 e49 e52)) (rSame_true _ _ ((((rawZ nega1 xa1 4 : Int) : Rat) / ((rawZ negb1 xb1 4 : Int) : Rat)) * (((rawZ nega2 xa2 4 : Int) : Rat) / ((rawZ negb2 xb2 4 : Int) : Rat))) ((((rawZ nega2 xa2 4 : Int) : Rat) / ((rawZ negb2 xb2 4 : Int) : Rat)) * (((rawZ nega1 xa1 4 : Int) : Rat) / ((rawZ negb1 xb1 4 : Int) : Rat))) _ h49_1 h52_1 (Rat.mul_comm _ _)) ?_)
      rintro e w'' ⟨rfl, bb⟩
      exact ⟨_, rfl, rfl, bb, (fun h => absurd h (by decide))⟩
    · intro a' w' hF' hb hd
      have e46 : a'.tmps.getD 46 undef = .bool false := hd _ 46 (Array.mem_of_getElem? (i := 1) rfl) rfl rfl
      have e53 : a'.tmps.getD 53 undef = .bool true := hd _ 53 (Array.mem_of_getElem? (i := 0) rfl) rfl rfl
      exact if_does (wanted_by rfl rfl e46 rfl) (Does.vals (r_un e53 (bn_not _ false rfl)) ⟨rfl, Below.refl _ _, (fun h => absurd h (by decide))⟩)
    · intro a' w' hF' hb hd
      have e46 : a'.tmps.getD 46 undef = .bool false := hd _ 46 (Array.mem_of_getElem? (i := 0) rfl) rfl rfl
      have e54 : a'.tmps.getD 54 undef = .bool false := hd _ 54 (Array.mem_of_getElem? (i := 1) rfl) rfl rfl
      exact if_does (wanted_free rfl) (Does.vals (r_pick_f e46 e54) ⟨rfl, Below.refl _ _, (fun h => absurd h (by decide))⟩)
    · intro a' w' hF' hb hd
      have e55 : a'.tmps.getD 55 undef = .bool false := hd _ 55 (Array.mem_of_getElem? (i := 0) rfl) rfl rfl
      exact if_does (wanted_free rfl) (Does.vals (r_move e55) ⟨rfl, Below.refl _ _, (fun h => absurd h (by decide))⟩)
    · intro a' w' hF' hb hd
      have e56 : a'.tmps.getD 56 undef = .bool false := hd _ 56 (Array.mem_of_getElem? (i := 0) rfl) rfl rfl
      exact if_does (wanted_by rfl rfl e56 rfl) (Does.vals (r_load (hF'.at 2 rfl) (ld_Rat (vs := [.bool b12, .slice ad12 n12 c12, .slice ae12 m12 d12]) (o7.below hb) rfl rfl)) ⟨rfl, Below.refl _ _, (fun h => absurd h (by decide))⟩)
    · intro a' w' hF' hb hd
      have e56 : a'.tmps.getD 56 undef = .bool false := hd _ 56 (Array.mem_of_getElem? (i := 0) rfl) rfl rfl
      exact if_does (wanted_by rfl rfl e56 rfl) (Does.vals (r_load (hF'.at 2 rfl) (ld_Rat (vs := [.bool b12, .slice ad12 n12 c12, .slice ae12 m12 d12]) (o7.below hb) rfl rfl)) ⟨rfl, Below.refl _ _, (fun h => absurd h (by decide))⟩)
    · intro a' w' hF' hb hd
      have e56 : a'.tmps.getD 56 undef = .bool false := hd _ 56 (Array.mem_of_getElem? (i := 2) rfl) rfl rfl
      have e57 : a'.tmps.getD 57 undef = .agg #[.bool b12, .slice ad12 n12 c12, .slice ae12 m12 d12] := hd _ 57 (Array.mem_of_getElem? (i := 0) rfl) rfl rfl
      have e58 : a'.tmps.getD 58 undef = .agg #[.bool b12, .slice ad12 n12 c12, .slice ae12 m12 d12] := hd _ 58 (Array.mem_of_getElem? (i := 1) rfl) rfl rfl
      refine if_does (wanted_by rfl rfl e56 rfl) (Does.calls (r_call Try.func62 en62.1 en62.2 (map2 e57 e58)) (rSub_any _ _ (((rawZ nega1 xa1 4 : Int) : Rat) / ((rawZ negb1 xb1 4 : Int) : Rat)) (((rawZ nega1 xa1 4 : Int) : Rat) / ((rawZ negb1 xb1 4 : Int) : Rat)) 4 _ (hh7.below hb) (hh7.below hb) ((own5_lim nega1 negb1 oka1 okb1 4 (by decide)).up _ (by omega)) ((own5_lim nega1 negb1 oka1 okb1 4 (by decide)).up _ (by omega)) (by omega)) ?_)
      rintro e w'' ⟨v', rfl, h', bb⟩
      exact ⟨_, rfl, h', bb, (fun h => absurd h (by decide))⟩
    · intro a' w' hF' hb hd
      have e56 : a'.tmps.getD 56 undef = .bool false := hd _ 56 (Array.mem_of_getElem? (i := 0) rfl) rfl rfl
      exact if_does (wanted_by rfl rfl e56 rfl) (Does.vals (r_build (by simp) (bd_Rat_ _)) ⟨rfl, Below.refl _ _, (fun h => absurd h (by decide))⟩)
    · intro a' w' hF' hb hd
      have e56 : a'.tmps.getD 56 undef = .bool false := hd _ 56 (Array.mem_of_getElem? (i := 3) rfl) rfl rfl
      obtain ⟨v59_0, e59, h59_1⟩ : ∃ v, a'.tmps.getD 59 undef = v ∧ Rq w' v ((((rawZ nega1 xa1 4 : Int) : Rat) / ((rawZ negb1 xb1 4 : Int) : Rat)) - (((rawZ nega1 xa1 4 : Int) : Rat) / ((rawZ negb1 xb1 4 : Int) : Rat))) := ⟨_, rfl, hd _ 59 (Array.mem_of_getElem? (i := 0) rfl) rfl rfl⟩
      have e60 : a'.tmps.getD 60 undef = .agg #[.bool false, .slice none 0 0, .slice none 0 0] := hd _ 60 (Array.mem_of_getElem? (i := 1) rfl) rfl rfl
      refine if_does (wanted_by rfl rfl e56 rfl) (Does.calls (r_call Try.func70 en70.1 en70.2 (map2 e59 e60)) (rSame_true _ _ ((((rawZ nega1 xa1 4 : Int) : Rat) / ((rawZ negb1 xb1 4 : Int) : Rat)) - (((rawZ nega1 xa1 4 : Int) : Rat) / ((rawZ negb1 xb1 4 : Int) : Rat))) (0) _ h59_1 (Rq.zero _) (rsub_same _)) ?_)
      rintro e w'' ⟨rfl, bb⟩
      exact ⟨_, rfl, rfl, bb, (fun h => absurd h (by decide))⟩
    · intro a' w' hF' hb hd
      have e56 : a'.tmps.getD 56 undef = .bool false := hd _ 56 (Array.mem_of_getElem? (i := 1) rfl) rfl rfl
      have e61 : a'.tmps.getD 61 undef = .bool true := hd _ 61 (Array.mem_of_getElem? (i := 0) rfl) rfl rfl
      exact if_does (wanted_by rfl rfl e56 rfl) (Does.vals (r_un e61 (bn_not _ false rfl)) ⟨rfl, Below.refl _ _, (fun h => absurd h (by decide))⟩)
    · intro a' w' hF' hb hd
      have e56 : a'.tmps.getD 56 undef = .bool false := hd _ 56 (Array.mem_of_getElem? (i := 0) rfl) rfl rfl
      have e62 : a'.tmps.getD 62 undef = .bool false := hd _ 62 (Array.mem_of_getElem? (i := 1) rfl) rfl rfl
      exact if_does (wanted_free rfl) (Does.vals (r_pick_f e56 e62) ⟨rfl, Below.refl _ _, (fun h => absurd h (by decide))⟩)
    intro a w21 hF bb hall hne
    have e63 : a.tmps.getD 63 undef = .bool false := hall 45 63 rfl
    clear hall hne
    replace hf13 := hf13.below bb
    replace hd12 := hd12.below bb
    replace hh7 := hh7.below bb
    replace hn12 := hn12.below bb
    replace hf15 := hf15.below bb
    replace hd14 := hd14.below bb
    replace hh9 := hh9.below bb
    replace hn14 := hn14.below bb
    replace o7 := o7.below bb
    replace o8 := o8.below bb
    replace bel := below_to bel bb
    clear bb
    replace hF := hF.add e63
    clear e63
    refine E.nil ?_
    refine wp_cond_false (hF.at 0 rfl) ?_
    refine wp_skip ?_
    refine E.norm ?_
    refine wp_seq ?_
    refine wp_seq ?_
    refine E.seq ?_
    refine E.opv hF (r_load (hF.at 2 rfl) (ld_Rat (vs := [.bool b14, .slice ad14 n14 c14, .slice ae14 m14 d14]) o8 rfl rfl)) rfl rfl rfl rfl fun a hF => ?_
    refine E.call hF (r_call Try.func58 en58.1 en58.2 (map1 (hF.at 0 rfl))) (rsgn_any _ (((rawZ nega2 xa2 4 : Int) : Rat) / ((rawZ negb2 xb2 4 : Int) : Rat)) _ hh9) rfl rfl rfl rfl ?_
    rintro e w22 ⟨rfl, bb⟩
    refine ⟨_, rfl, ?_⟩
    intro a hF
    replace hf13 := hf13.below bb
    replace hd12 := hd12.below bb
    replace hh7 := hh7.below bb
    replace hn12 := hn12.below bb
    replace hf15 := hf15.below bb
    replace hd14 := hd14.below bb
    replace hh9 := hh9.below bb
    replace hn14 := hn14.below bb
    replace o7 := o7.below bb
    replace o8 := o8.below bb
    replace bel := below_to bel bb
    clear bb
    refine E.opv hF (r_bin (hF.at 0 rfl) ev_c eg_scalar (bi_int (ic_eql (c := true) (eq0 (sz_eq0.2 hn0))) (by simp))) rfl rfl rfl rfl fun a hF => ?_
    refine E.nil ?_
    refine wp_cond_true (hF.at 0 rfl) ?_
    refine wp_seq ?_
    refine E.seq ?_
    refine E.opv hF (r_load (hF.at 6 rfl) (ld_Rat (vs := [.bool b12, .slice ad12 n12 c12, .slice ae12 m12 d12]) o7 rfl rfl)) rfl rfl rfl rfl fun a hF => ?_
    refine E.opv hF (r_load (hF.at 6 rfl) (ld_Rat (vs := [.bool b14, .slice ad14 n14 c14, .slice ae14 m14 d14]) o8 rfl rfl)) rfl rfl rfl rfl fun a hF => ?_
    refine E.call hF (r_call Try.func66 en66.1 en66.2 (map2 (hF.at 1 rfl) (hF.at 0 rfl))) (rDiv_any _ _ (((rawZ nega1 xa1 4 : Int) : Rat) / ((rawZ negb1 xb1 4 : Int) : Rat)) (((rawZ nega2 xa2 4 : Int) : Rat) / ((rawZ negb2 xb2 4 : Int) : Rat)) 4 _ hh7 hh9 ((own5_lim nega1 negb1 oka1 okb1 4 (by decide)).up _ (by omega)) ((own5_lim nega2 negb2 oka2 okb2 4 (by decide)).up _ (by omega)) (by omega)) rfl rfl rfl rfl ?_
    rintro e w23 ⟨vv24, rfl, hh25, bb⟩
    refine ⟨_, rfl, ?_⟩
    intro a hF
    replace hf13 := hf13.below bb
    replace hd12 := hd12.below bb
    replace hh7 := hh7.below bb
    replace hn12 := hn12.below bb
    replace hf15 := hf15.below bb
    replace hd14 := hd14.below bb
    replace hh9 := hh9.below bb
    replace hn14 := hn14.below bb
    replace o7 := o7.below bb
    replace o8 := o8.below bb
    replace bel := below_to bel bb
    clear bb
    obtain ⟨b26, ad26, n26, c26, ae26, m26, d26, rfl, hn26, hd26⟩ := Rq.shape hh25
    have hf27 := Wc.abs hn26
    refine E.opv hF (r_build (by simp) (bd_Rat_ _)) rfl rfl rfl rfl fun a hF => ?_
    refine E.call hF (r_call Try.func70 en70.1 en70.2 (map2 (hF.at 1 rfl) (hF.at 0 rfl))) (rSame_true _ _ ((((rawZ nega1 xa1 4 : Int) : Rat) / ((rawZ negb1 xb1 4 : Int) : Rat)) / (((rawZ nega2 xa2 4 : Int) : Rat) / ((rawZ negb2 xb2 4 : Int) : Rat))) (0) _ hh25 (Rq.zero _) (rdiv_none h0)) rfl rfl rfl rfl ?_
    rintro e w28 ⟨rfl, bb⟩
    refine ⟨_, rfl, ?_⟩
    intro a hF
    replace hf13 := hf13.below bb
    replace hd12 := hd12.below bb
    replace hh7 := hh7.below bb
    replace hn12 := hn12.below bb
    replace hf15 := hf15.below bb
    replace hd14 := hd14.below bb
    replace hh9 := hh9.below bb
    replace hn14 := hn14.below bb
    replace o7 := o7.below bb
    replace o8 := o8.below bb
    replace bel := below_to bel bb
    clear bb
    refine E.opset (L' := [(6, .bool true), (71, .bool true), (70, .agg #[.bool false, .slice none 0 0, .slice none 0 0]), (69, .agg #[.bool b26, .slice ad26 n26 c26, .slice ae26 m26 d26]), (68, .agg #[.bool b14, .slice ad14 n14 c14, .slice ae14 m14 d14]), (67, .agg #[.bool b12, .slice ad12 n12 c12, .slice ae12 m12 d12]), (66, .bool true), (65, .int .i64 (sz (Rat.num (((rawZ nega2 xa2 4 : Int) : Rat) / ((rawZ negb2 xb2 4 : Int) : Rat))))), (64, .agg #[.bool b14, .slice ad14 n14 c14, .slice ae14 m14 d14]), (63, .bool false), (9, .pointer (some ⟨g9, 0, none⟩)), (8, .pointer (some ⟨g8, 0, none⟩)), (7, .pointer (some ⟨g7, 0, none⟩)), (17, .agg #[.bool b16, .slice ad16 n16 c16, .slice ae16 m16 d16]), (15, .agg #[.bool b14, .slice ad14 n14 c14, .slice ae14 m14 d14]), (13, .agg #[.bool b12, .slice ad12 n12 c12, .slice ae12 m12 d12]), (11, .bool false), (10, .bool true), (5, .pointer (some ⟨g5, 0, none⟩)), (4, .pointer (some ⟨g4, 0, none⟩)), (3, .pointer (some ⟨g3, 0, none⟩)), (0, .agg #[.bool nega1, .slice aa1 na1 ca1, .bool negb1, .slice ab1 nb1 cb1]), (1, .agg #[.bool nega2, .slice aa2 na2 ca2, .bool negb2, .slice ab2 nb2 cb2]), (2, .agg #[.bool nega3, .slice aa3 na3 ca3, .bool negb3, .slice ab3 nb3 cb3])]) hF (r_assign (hF.at 0 rfl)) rfl rfl rfl rfl fun a hF => ?_
    refine E.nil ?_
    refine wp_ret ?_
    refine bodyPost_ret (res_tmp Try.results12 (hF.at 0 rfl)) hF.dfr ?_
    exact ⟨rfl, bel⟩
  · have hn0 := ne_num h0
    have oka1 := ia1.ok
    have okb1 := ib1.ok
    have oka2 := ia2.ok
    have okb2 := ib2.ok
    have oka3 := ia3.ok
    have okb3 := ib3.ok
    have bel : Below w.heap.size w w := Below.refl _ _
    refine E.enter (nt := 88) (L := [(0, .agg #[.bool nega1, .slice aa1 na1 ca1, .bool negb1, .slice ab1 nb1 cb1]), (1, .agg #[.bool nega2, .slice aa2 na2 ca2, .bool negb2, .slice ab2 nb2 cb2]), (2, .agg #[.bool nega3, .slice aa3 na3 ca3, .bool negb3, .slice ab3 nb3 cb3])]) Try.func12 rfl rfl rfl (args_cons (i := 0) rfl (args_cons (i := 1) rfl (args_cons (i := 2) rfl args_nil))) ?_
    intro a hF
    refine wp_seq ?_
    refine E.seq ?_
    obtain ⟨g3, w1, ge3, hr, bb, o3⟩ := own_box (P := Try.prog) (w := w) (cs := [.bool nega1, .slice aa1 na1 ca1, .bool negb1, .slice ab1 nb1 cb1]) (v := .agg #[.bool nega1, .slice aa1 na1 ca1, .bool negb1, .slice ab1 nb1 cb1]) 74 rfl (niB (niS (niB (niS ni0))))
    replace ge3 : w.heap.size ≤ g3 := by rw [← ge3]; exact bel.size
    refine E.opv hF (r_box (hF.at 0 rfl) hr) rfl rfl rfl rfl fun a hF => ?_
    clear hr
    replace ia2 := ia2.below bb
    replace ib2 := ib2.below bb
    replace ia3 := ia3.below bb
    replace ib3 := ib3.below bb
    replace ia1 := ia1.below bb
    replace ib1 := ib1.below bb
    replace bel := below_to bel bb
    clear bb
    obtain ⟨g4, w2, ge4, hr, bb, o4⟩ := own_box (P := Try.prog) (w := w1) (cs := [.bool nega2, .slice aa2 na2 ca2, .bool negb2, .slice ab2 nb2 cb2]) (v := .agg #[.bool nega2, .slice aa2 na2 ca2, .bool negb2, .slice ab2 nb2 cb2]) 74 rfl (niB (niS (niB (niS ni0))))
    have ne3_4 : g3 ≠ g4 := by rw [← ge4]; exact o3.ne_new
    replace ge4 : w.heap.size ≤ g4 := by rw [← ge4]; exact bel.size
    refine E.opv hF (r_box (hF.at 2 rfl) hr) rfl rfl rfl rfl fun a hF => ?_
    clear hr
    replace ia3 := ia3.below bb
    replace ib3 := ib3.below bb
    replace ia1 := ia1.below bb
    replace ib1 := ib1.below bb
    replace ia2 := ia2.below bb
    replace ib2 := ib2.below bb
    replace o3 := o3.below bb
    replace bel := below_to bel bb
    clear bb
    obtain ⟨g5, w3, ge5, hr, bb, o5⟩ := own_box (P := Try.prog) (w := w2) (cs := [.bool nega3, .slice aa3 na3 ca3, .bool negb3, .slice ab3 nb3 cb3]) (v := .agg #[.bool nega3, .slice aa3 na3 ca3, .bool negb3, .slice ab3 nb3 cb3]) 74 rfl (niB (niS (niB (niS ni0))))
    have ne3_5 : g3 ≠ g5 := by rw [← ge5]; exact o3.ne_new
    have ne4_5 : g4 ≠ g5 := by rw [← ge5]; exact o4.ne_new
    replace ge5 : w.heap.size ≤ g5 := by rw [← ge5]; exact bel.size
    refine E.opv hF (r_box (hF.at 4 rfl) hr) rfl rfl rfl rfl fun a hF => ?_
    clear hr
    replace ia1 := ia1.below bb
    replace ib1 := ib1.below bb
    replace ia2 := ia2.below bb
    replace ib2 := ib2.below bb
    replace ia3 := ia3.below bb
    replace ib3 := ib3.below bb
    replace o3 := o3.below bb
    replace o4 := o4.below bb
    replace bel := below_to bel bb
    clear bb
    refine E.opv hF (r_assign ev_c) rfl rfl rfl rfl fun a hF => ?_
    refine E.nil ?_
    refine wp_seq ?_
    refine wp_seq ?_
    refine E.seq ?_
    refine E.call hF (r_call Try.func45 en45.1 en45.2 map0) (awake5_any _) rfl rfl rfl rfl ?_
    rintro e w4 ⟨rfl, bb⟩
    refine ⟨_, rfl, ?_⟩
    intro a hF
    replace ia1 := ia1.below bb
    replace ib1 := ib1.below bb
    replace ia2 := ia2.below bb
    replace ib2 := ib2.below bb
    replace ia3 := ia3.below bb
    replace ib3 := ib3.below bb
    replace o3 := o3.below bb
    replace o4 := o4.below bb
    replace o5 := o5.below bb
    replace bel := below_to bel bb
    clear bb
    refine E.opv hF (r_un (hF.at 0 rfl) (bn_not _ false rfl)) rfl rfl rfl rfl fun a hF => ?_
    refine E.nil ?_
    refine wp_cond_false (hF.at 0 rfl) ?_
    refine wp_skip ?_
    refine E.norm ?_
    refine wp_seq ?_
    refine E.drawn 9 mixed hF [12, 13, 14, 15, 16, 17, 7, 8, 9] [(fun _ v => v = .agg #[.bool nega1, .slice aa1 na1 ca1, .bool negb1, .slice ab1 nb1 cb1]), (fun w v => Rq w v (((rawZ nega1 xa1 4 : Int) : Rat) / ((rawZ negb1 xb1 4 : Int) : Rat))), (fun _ v => v = .agg #[.bool nega2, .slice aa2 na2 ca2, .bool negb2, .slice ab2 nb2 cb2]), (fun w v => Rq w v (((rawZ nega2 xa2 4 : Int) : Rat) / ((rawZ negb2 xb2 4 : Int) : Rat))), (fun _ v => v = .agg #[.bool nega3, .slice aa3 na3 ca3, .bool negb3, .slice ab3 nb3 cb3]), (fun w v => Rq w v (((rawZ nega3 xa3 4 : Int) : Rat) / ((rawZ negb3 xb3 4 : Int) : Rat))), (fun w v => ∃ g, v = .pointer (some ⟨g, 0, none⟩) ∧ w4.heap.size ≤ g ∧ Own w g [.bool false, .slice none 0 0, .slice none 0 0]), (fun w v => ∃ g, v = .pointer (some ⟨g, 0, none⟩) ∧ w4.heap.size ≤ g ∧ Own w g [.bool false, .slice none 0 0, .slice none 0 0]), (fun w v => ∃ g, v = .pointer (some ⟨g, 0, none⟩) ∧ w4.heap.size ≤ g ∧ Own w g [.bool false, .slice none 0 0, .slice none 0 0])] [6, 7, 8] (by decide +kernel) (by decide +kernel) rfl rfl rfl ⟨(Mb.eq _), (fun _ _ _ h hb => h.below hb), (Mb.eq _), (fun _ _ _ h hb => h.below hb), (Mb.eq _), (fun _ _ _ h hb => h.below hb), (fun _ _ _ ⟨g, e, l, o⟩ hb => ⟨g, e, l, o.below hb⟩), (fun _ _ _ ⟨g, e, l, o⟩ hb => ⟨g, e, l, o.below hb⟩), (fun _ _ _ ⟨g, e, l, o⟩ hb => ⟨g, e, l, o.below hb⟩), trivial⟩ ⟨fun _ _ ⟨g, e, _, o⟩ => ⟨g, e, o.lt⟩, ⟨fun _ _ ⟨g, e, _, o⟩ => ⟨g, e, o.lt⟩, ⟨fun _ _ ⟨g, e, _, o⟩ => ⟨g, e, o.lt⟩, trivial⟩⟩⟩ ⟨?_, ?_, ?_, ?_, ?_, ?_, ?_, ?_, ?_, trivial⟩ ?_
    · intro a' w' hF' hb hd
      exact if_does (wanted_free rfl) (Does.vals (r_load (hF'.at 5 rfl) (ld_Raw5 (vs := [.bool nega1, .slice aa1 na1 ca1, .bool negb1, .slice ab1 nb1 cb1]) (o3.below hb) rfl rfl)) ⟨rfl, Below.refl _ _, (fun h => absurd h (by decide))⟩)
    · intro a' w' hF' hb hd
      have e12 : a'.tmps.getD 12 undef = .agg #[.bool nega1, .slice aa1 na1 ca1, .bool negb1, .slice ab1 nb1 cb1] := hd _ 12 (Array.mem_of_getElem? (i := 0) rfl) rfl rfl
      refine if_does (wanted_free rfl) (Does.calls (r_call Try.func46 en46.1 en46.2 (map2 e12 ev_c)) (Own5_any nega1 aa1 na1 ca1 xa1 negb1 ab1 nb1 cb1 xb1 4 _ (ia1.below hb) (ib1.below hb) (by omega)) ?_)
      rintro e w'' ⟨v', rfl, h', bb⟩
      exact ⟨_, rfl, h', bb, (fun h => absurd h (by decide))⟩
    · intro a' w' hF' hb hd
      exact if_does (wanted_free rfl) (Does.vals (r_load (hF'.at 4 rfl) (ld_Raw5 (vs := [.bool nega2, .slice aa2 na2 ca2, .bool negb2, .slice ab2 nb2 cb2]) (o4.below hb) rfl rfl)) ⟨rfl, Below.refl _ _, (fun h => absurd h (by decide))⟩)
    · intro a' w' hF' hb hd
      have e14 : a'.tmps.getD 14 undef = .agg #[.bool nega2, .slice aa2 na2 ca2, .bool negb2, .slice ab2 nb2 cb2] := hd _ 14 (Array.mem_of_getElem? (i := 0) rfl) rfl rfl
      refine if_does (wanted_free rfl) (Does.calls (r_call Try.func46 en46.1 en46.2 (map2 e14 ev_c)) (Own5_any nega2 aa2 na2 ca2 xa2 negb2 ab2 nb2 cb2 xb2 4 _ (ia2.below hb) (ib2.below hb) (by omega)) ?_)
      rintro e w'' ⟨v', rfl, h', bb⟩
      exact ⟨_, rfl, h', bb, (fun h => absurd h (by decide))⟩
    · intro a' w' hF' hb hd
      exact if_does (wanted_free rfl) (Does.vals (r_load (hF'.at 3 rfl) (ld_Raw5 (vs := [.bool nega3, .slice aa3 na3 ca3, .bool negb3, .slice ab3 nb3 cb3]) (o5.below hb) rfl rfl)) ⟨rfl, Below.refl _ _, (fun h => absurd h (by decide))⟩)
    · intro a' w' hF' hb hd
      have e16 : a'.tmps.getD 16 undef = .agg #[.bool nega3, .slice aa3 na3 ca3, .bool negb3, .slice ab3 nb3 cb3] := hd _ 16 (Array.mem_of_getElem? (i := 0) rfl) rfl rfl
      refine if_does (wanted_free rfl) (Does.calls (r_call Try.func46 en46.1 en46.2 (map2 e16 ev_c)) (Own5_any nega3 aa3 na3 ca3 xa3 negb3 ab3 nb3 cb3 xb3 4 _ (ia3.below hb) (ib3.below hb) (by omega)) ?_)
      rintro e w'' ⟨v', rfl, h', bb⟩
      exact ⟨_, rfl, h', bb, (fun h => absurd h (by decide))⟩
    · intro a' w' hF' hb hd
      obtain ⟨g, w2, ge, hr, bb, on⟩ := own_alloc (P := Try.prog) (w := w') (cs := [.bool false, .slice none 0 0, .slice none 0 0]) 76 ze_Rat rfl (niB (niS (niS ni0)))
      subst ge
      exact if_does (wanted_free rfl) (Does.vals (r_alloc hr) ⟨⟨_, rfl, hb.size, on⟩, bb, fun _ => rfl⟩)
    · intro a' w' hF' hb hd
      obtain ⟨g, w2, ge, hr, bb, on⟩ := own_alloc (P := Try.prog) (w := w') (cs := [.bool false, .slice none 0 0, .slice none 0 0]) 76 ze_Rat rfl (niB (niS (niS ni0)))
      subst ge
      exact if_does (wanted_free rfl) (Does.vals (r_alloc hr) ⟨⟨_, rfl, hb.size, on⟩, bb, fun _ => rfl⟩)
    · intro a' w' hF' hb hd
      obtain ⟨g, w2, ge, hr, bb, on⟩ := own_alloc (P := Try.prog) (w := w') (cs := [.bool false, .slice none 0 0, .slice none 0 0]) 76 ze_Rat rfl (niB (niS (niS ni0)))
      subst ge
      exact if_does (wanted_free rfl) (Does.vals (r_alloc hr) ⟨⟨_, rfl, hb.size, on⟩, bb, fun _ => rfl⟩)
    intro a w5 hF bb hall hne
    obtain ⟨vv6, e13, hh7⟩ : ∃ v, a.tmps.getD 13 undef = v ∧ Rq w5 v (((rawZ nega1 xa1 4 : Int) : Rat) / ((rawZ negb1 xb1 4 : Int) : Rat)) := ⟨_, rfl, hall 1 13 rfl⟩
    obtain ⟨vv8, e15, hh9⟩ : ∃ v, a.tmps.getD 15 undef = v ∧ Rq w5 v (((rawZ nega2 xa2 4 : Int) : Rat) / ((rawZ negb2 xb2 4 : Int) : Rat)) := ⟨_, rfl, hall 3 15 rfl⟩
    obtain ⟨vv10, e17, hh11⟩ : ∃ v, a.tmps.getD 17 undef = v ∧ Rq w5 v (((rawZ nega3 xa3 4 : Int) : Rat) / ((rawZ negb3 xb3 4 : Int) : Rat)) := ⟨_, rfl, hall 5 17 rfl⟩
    obtain ⟨g7, e7, ge7, o7⟩ : ∃ g, a.tmps.getD 7 undef = .pointer (some ⟨g, 0, none⟩) ∧ w4.heap.size ≤ g ∧ Own w5 g [.bool false, .slice none 0 0, .slice none 0 0] := hall 6 7 rfl
    obtain ⟨g8, e8, ge8, o8⟩ : ∃ g, a.tmps.getD 8 undef = .pointer (some ⟨g, 0, none⟩) ∧ w4.heap.size ≤ g ∧ Own w5 g [.bool false, .slice none 0 0, .slice none 0 0] := hall 7 8 rfl
    have ne7_8 : g7 ≠ g8 := by intro e; exact hne 6 7 7 8 rfl rfl (by decide) rfl rfl (by rw [e7, e8, e])
    obtain ⟨g9, e9, ge9, o9⟩ : ∃ g, a.tmps.getD 9 undef = .pointer (some ⟨g, 0, none⟩) ∧ w4.heap.size ≤ g ∧ Own w5 g [.bool false, .slice none 0 0, .slice none 0 0] := hall 8 9 rfl
    have ne7_9 : g7 ≠ g9 := by intro e; exact hne 6 8 7 9 rfl rfl (by decide) rfl rfl (by rw [e7, e9, e])
    have ne8_9 : g8 ≠ g9 := by intro e; exact hne 7 8 8 9 rfl rfl (by decide) rfl rfl (by rw [e8, e9, e])
    replace ge7 : w.heap.size ≤ g7 := Nat.le_trans bel.size ge7
    replace ge8 : w.heap.size ≤ g8 := Nat.le_trans bel.size ge8
    replace ge9 : w.heap.size ≤ g9 := Nat.le_trans bel.size ge9
    clear hall hne
    replace bel := below_to bel bb
    clear bb
    obtain ⟨b12, ad12, n12, c12, ae12, m12, d12, rfl, hn12, hd12⟩ := Rq.shape hh7
    have hf13 := Wc.abs hn12
    replace hF := hF.add e13
    clear e13
    obtain ⟨b14, ad14, n14, c14, ae14, m14, d14, rfl, hn14, hd14⟩ := Rq.shape hh9
    have hf15 := Wc.abs hn14
    replace hF := hF.add e15
    clear e15
    obtain ⟨b16, ad16, n16, c16, ae16, m16, d16, rfl, hn16, hd16⟩ := Rq.shape hh11
    have hf17 := Wc.abs hn16
    replace hF := hF.add e17
    clear e17
    replace hF := hF.add e7
    clear e7
    replace hF := hF.add e8
    clear e8
    replace hF := hF.add e9
    clear e9
    obtain ⟨w18, hr, tu, on⟩ := st_Rat (vs := [.bool b12, .slice ad12 n12 c12, .slice ae12 m12 d12]) o7 rfl rfl (ocB (ocS (ocS oc0))) (niB (niS (niS ni0))) (o := 0) rfl
    have kp := tu.keep o7
    refine E.st hF (r_store (hF.at 2 rfl) (hF.at 5 rfl) (hr _ rfl)) rfl rfl fun a hF => ?_
    clear hr
    replace hh11 := hh11.keep kp
    replace hn16 := hn16.keep kp
    replace hf17 := hf17.keep kp
    replace hd16 := hd16.keep kp
    replace hh9 := hh9.keep kp
    replace hn14 := hn14.keep kp
    replace hf15 := hf15.keep kp
    replace hd14 := hd14.keep kp
    replace hh7 := hh7.keep kp
    replace hn12 := hn12.keep kp
    replace hf13 := hf13.keep kp
    replace hd12 := hd12.keep kp
    replace o8 := tu.own o8 (Ne.symm ne7_8)
    replace o9 := tu.own o9 (Ne.symm ne7_9)
    replace bel := tu.below bel ge7
    clear tu kp
    replace o7 := on
    clear on
    obtain ⟨w19, hr, tu, on⟩ := st_Rat (vs := [.bool b14, .slice ad14 n14 c14, .slice ae14 m14 d14]) o8 rfl rfl (ocB (ocS (ocS oc0))) (niB (niS (niS ni0))) (o := 0) rfl
    have kp := tu.keep o8
    refine E.st hF (r_store (hF.at 1 rfl) (hF.at 4 rfl) (hr _ rfl)) rfl rfl fun a hF => ?_
    clear hr
    replace hh11 := hh11.keep kp
    replace hn16 := hn16.keep kp
    replace hf17 := hf17.keep kp
    replace hd16 := hd16.keep kp
    replace hf13 := hf13.keep kp
    replace hd12 := hd12.keep kp
    replace hh7 := hh7.keep kp
    replace hn12 := hn12.keep kp
    replace hh9 := hh9.keep kp
    replace hn14 := hn14.keep kp
    replace hf15 := hf15.keep kp
    replace hd14 := hd14.keep kp
    replace o7 := tu.own o7 ne7_8
    replace o9 := tu.own o9 (Ne.symm ne8_9)
    replace bel := tu.below bel ge8
    clear tu kp
    replace o8 := on
    clear on
    obtain ⟨w20, hr, tu, on⟩ := st_Rat (vs := [.bool b16, .slice ad16 n16 c16, .slice ae16 m16 d16]) o9 rfl rfl (ocB (ocS (ocS oc0))) (niB (niS (niS ni0))) (o := 0) rfl
    have kp := tu.keep o9
    refine E.st hF (r_store (hF.at 0 rfl) (hF.at 3 rfl) (hr _ rfl)) rfl rfl fun a hF => ?_
    clear hr
    replace hf13 := hf13.keep kp
    replace hd12 := hd12.keep kp
    replace hh7 := hh7.keep kp
    replace hn12 := hn12.keep kp
    replace hf15 := hf15.keep kp
    replace hd14 := hd14.keep kp
    replace hh9 := hh9.keep kp
    replace hn14 := hn14.keep kp
    replace hh11 := hh11.keep kp
    replace hn16 := hn16.keep kp
    replace hf17 := hf17.keep kp
    replace hd16 := hd16.keep kp
    replace o7 := tu.own o7 ne7_9
    replace o8 := tu.own o8 ne8_9
    replace bel := tu.below bel ge9
    clear tu kp
    replace o9 := on
    clear on
    refine E.nil ?_
    refine wp_seq ?_
    refine wp_seq ?_
    refine E.drawn 46 mixed hF [18, 19, 20, 21, 22, 23, 24, 25, 26, 27, 28, 29, 30, 31, 32, 33, 34, 35, 36, 37, 38, 39, 40, 41, 42, 43, 44, 45, 46, 47, 48, 49, 50, 51, 52, 53, 54, 55, 56, 57, 58, 59, 60, 61, 62, 63] [(fun _ v => v = .agg #[.bool b12, .slice ad12 n12 c12, .slice ae12 m12 d12]), (fun _ v => v = .agg #[.bool b14, .slice ad14 n14 c14, .slice ae14 m14 d14]), (fun _ v => v = .agg #[.bool b16, .slice ad16 n16 c16, .slice ae16 m16 d16]), (fun w v => Rq w v ((((rawZ nega2 xa2 4 : Int) : Rat) / ((rawZ negb2 xb2 4 : Int) : Rat)) + (((rawZ nega3 xa3 4 : Int) : Rat) / ((rawZ negb3 xb3 4 : Int) : Rat)))), (fun w v => Rq w v ((((rawZ nega1 xa1 4 : Int) : Rat) / ((rawZ negb1 xb1 4 : Int) : Rat)) * ((((rawZ nega2 xa2 4 : Int) : Rat) / ((rawZ negb2 xb2 4 : Int) : Rat)) + (((rawZ nega3 xa3 4 : Int) : Rat) / ((rawZ negb3 xb3 4 : Int) : Rat))))), (fun _ v => v = .agg #[.bool b12, .slice ad12 n12 c12, .slice ae12 m12 d12]), (fun _ v => v = .agg #[.bool b14, .slice ad14 n14 c14, .slice ae14 m14 d14]), (fun w v => Rq w v ((((rawZ nega1 xa1 4 : Int) : Rat) / ((rawZ negb1 xb1 4 : Int) : Rat)) * (((rawZ nega2 xa2 4 : Int) : Rat) / ((rawZ negb2 xb2 4 : Int) : Rat)))), (fun _ v => v = .agg #[.bool b12, .slice ad12 n12 c12, .slice ae12 m12 d12]), (fun _ v => v = .agg #[.bool b16, .slice ad16 n16 c16, .slice ae16 m16 d16]), (fun w v => Rq w v ((((rawZ nega1 xa1 4 : Int) : Rat) / ((rawZ negb1 xb1 4 : Int) : Rat)) * (((rawZ nega3 xa3 4 : Int) : Rat) / ((rawZ negb3 xb3 4 : Int) : Rat)))), (fun w v => Rq w v (((((rawZ nega1 xa1 4 : Int) : Rat) / ((rawZ negb1 xb1 4 : Int) : Rat)) * (((rawZ nega2 xa2 4 : Int) : Rat) / ((rawZ negb2 xb2 4 : Int) : Rat))) + ((((rawZ nega1 xa1 4 : Int) : Rat) / ((rawZ negb1 xb1 4 : Int) : Rat)) * (((rawZ nega3 xa3 4 : Int) : Rat) / ((rawZ negb3 xb3 4 : Int) : Rat))))), (fun _ v => v = .bool true), (fun _ v => v = .bool false), (fun _ v => v = .bool false), (fun _ v => v = .agg #[.bool b12, .slice ad12 n12 c12, .slice ae12 m12 d12]), (fun _ v => v = .agg #[.bool b14, .slice ad14 n14 c14, .slice ae14 m14 d14]), (fun _ v => v = .agg #[.bool b16, .slice ad16 n16 c16, .slice ae16 m16 d16]), (fun w v => QRow w v [((rawZ nega1 xa1 4 : Int) : Rat) / ((rawZ negb1 xb1 4 : Int) : Rat), ((rawZ nega2 xa2 4 : Int) : Rat) / ((rawZ negb2 xb2 4 : Int) : Rat), ((rawZ nega3 xa3 4 : Int) : Rat) / ((rawZ negb3 xb3 4 : Int) : Rat)]), (fun w v => Rq w v ((((rawZ nega1 xa1 4 : Int) : Rat) / ((rawZ negb1 xb1 4 : Int) : Rat)) + (((rawZ nega2 xa2 4 : Int) : Rat) / ((rawZ negb2 xb2 4 : Int) : Rat)) + (((rawZ nega3 xa3 4 : Int) : Rat) / ((rawZ negb3 xb3 4 : Int) : Rat)))), (fun _ v => v = .agg #[.bool b16, .slice ad16 n16 c16, .slice ae16 m16 d16]), (fun _ v => v = .agg #[.bool b12, .slice ad12 n12 c12, .slice ae12 m12 d12]), (fun _ v => v = .agg #[.bool b14, .slice ad14 n14 c14, .slice ae14 m14 d14]), (fun w v => QRow w v [((rawZ nega3 xa3 4 : Int) : Rat) / ((rawZ negb3 xb3 4 : Int) : Rat), ((rawZ nega1 xa1 4 : Int) : Rat) / ((rawZ negb1 xb1 4 : Int) : Rat), ((rawZ nega2 xa2 4 : Int) : Rat) / ((rawZ negb2 xb2 4 : Int) : Rat)]), (fun w v => Rq w v ((((rawZ nega3 xa3 4 : Int) : Rat) / ((rawZ negb3 xb3 4 : Int) : Rat)) + (((rawZ nega1 xa1 4 : Int) : Rat) / ((rawZ negb1 xb1 4 : Int) : Rat)) + (((rawZ nega2 xa2 4 : Int) : Rat) / ((rawZ negb2 xb2 4 : Int) : Rat)))), (fun _ v => v = .bool true), (fun _ v => v = .bool false), (fun _ v => v = .bool false), (fun _ v => v = .bool false), (fun _ v => v = .agg #[.bool b12, .slice ad12 n12 c12, .slice ae12 m12 d12]), (fun _ v => v = .agg #[.bool b14, .slice ad14 n14 c14, .slice ae14 m14 d14]), (fun w v => Rq w v ((((rawZ nega1 xa1 4 : Int) : Rat) / ((rawZ negb1 xb1 4 : Int) : Rat)) * (((rawZ nega2 xa2 4 : Int) : Rat) / ((rawZ negb2 xb2 4 : Int) : Rat)))), (fun _ v => v = .agg #[.bool b14, .slice ad14 n14 c14, .slice ae14 m14 d14]), (fun _ v => v = .agg #[.bool b12, .slice ad12 n12 c12, .slice ae12 m12 d12]), (fun w v => Rq w v ((((rawZ nega2 xa2 4 : Int) : Rat) / ((rawZ negb2 xb2 4 : Int) : Rat)) * (((rawZ nega1 xa1 4 : Int) : Rat) / ((rawZ negb1 xb1 4 : Int) : Rat)))), (fun _ v => v = .bool true), (fun _ v => v = .bool false), (fun _ v => v = .bool false), (fun _ v => v = .bool false), (fun _ v => v = .agg #[.bool b12, .slice ad12 n12 c12, .slice ae12 m12 d12]), (fun _ v => v = .agg #[.bool b12, .slice ad12 n12 c12, .slice ae12 m12 d12]), (fun w v => Rq w v ((((rawZ nega1 xa1 4 : Int) : Rat) / ((rawZ negb1 xb1 4 : Int) : Rat)) - (((rawZ nega1 xa1 4 : Int) : Rat) / ((rawZ negb1 xb1 4 : Int) : Rat)))), (fun _ v => v = .agg #[.bool false, .slice none 0 0, .slice none 0 0]), (fun _ v => v = .bool true), (fun _ v => v = .bool false), (fun _ v => v = .bool false)] [] (by decide +kernel) (by decide +kernel) rfl rfl rfl ⟨(Mb.eq _), (Mb.eq _), (Mb.eq _), (fun _ _ _ h hb => h.below hb), (fun _ _ _ h hb => h.below hb), (Mb.eq _), (Mb.eq _), (fun _ _ _ h hb => h.below hb), (Mb.eq _), (Mb.eq _), (fun _ _ _ h hb => h.below hb), (fun _ _ _ h hb => h.below hb), (Mb.eq _), (Mb.eq _), (Mb.eq _), (Mb.eq _), (Mb.eq _), (Mb.eq _), (QRow.mono _), (fun _ _ _ h hb => h.below hb), (Mb.eq _), (Mb.eq _), (Mb.eq _), (QRow.mono _), (fun _ _ _ h hb => h.below hb), (Mb.eq _), (Mb.eq _), (Mb.eq _), (Mb.eq _), (Mb.eq _), (Mb.eq _), (fun _ _ _ h hb => h.below hb), (Mb.eq _), (Mb.eq _), (fun _ _ _ h hb => h.below hb), (Mb.eq _), (Mb.eq _), (Mb.eq _), (Mb.eq _), (Mb.eq _), (Mb.eq _), (fun _ _ _ h hb => h.below hb), (Mb.eq _), (Mb.eq _), (Mb.eq _), (Mb.eq _), trivial⟩ trivial ⟨?_, ?_, ?_, ?_, ?_, ?_, ?_, ?_, ?_, ?_, ?_, ?_, ?_, ?_, ?_, ?_, ?_, ?_, ?_, ?_, ?_, ?_, ?_, ?_, ?_, ?_, ?_, ?_, ?_, ?_, ?_, ?_, ?_, ?_, ?_, ?_, ?_, ?_, ?_, ?_, ?_, ?_, ?_, ?_, ?_, ?_, trivial⟩ ?_
    · intro a' w' hF' hb hd
      exact if_does (wanted_free rfl) (Does.vals (r_load (hF'.at 2 rfl) (ld_Rat (vs := [.bool b12, .slice ad12 n12 c12, .slice ae12 m12 d12]) (o7.below hb) rfl rfl)) ⟨rfl, Below.refl _ _, (fun h => absurd h (by decide))⟩)
    · intro a' w' hF' hb hd
      exact if_does (wanted_free rfl) (Does.vals (r_load (hF'.at 1 rfl) (ld_Rat (vs := [.bool b14, .slice ad14 n14 c14, .slice ae14 m14 d14]) (o8.below hb) rfl rfl)) ⟨rfl, Below.refl _ _, (fun h => absurd h (by decide))⟩)
    · intro a' w' hF' hb hd
      exact if_does (wanted_free rfl) (Does.vals (r_load (hF'.at 0 rfl) (ld_Rat (vs := [.bool b16, .slice ad16 n16 c16, .slice ae16 m16 d16]) (o9.below hb) rfl rfl)) ⟨rfl, Below.refl _ _, (fun h => absurd h (by decide))⟩)
    · intro a' w' hF' hb hd
      have e19 : a'.tmps.getD 19 undef = .agg #[.bool b14, .slice ad14 n14 c14, .slice ae14 m14 d14] := hd _ 19 (Array.mem_of_getElem? (i := 0) rfl) rfl rfl
      have e20 : a'.tmps.getD 20 undef = .agg #[.bool b16, .slice ad16 n16 c16, .slice ae16 m16 d16] := hd _ 20 (Array.mem_of_getElem? (i := 1) rfl) rfl rfl
      refine if_does (wanted_free rfl) (Does.calls (r_call Try.func60 en60.1 en60.2 (map2 e19 e20)) (rAdd_any _ _ (((rawZ nega2 xa2 4 : Int) : Rat) / ((rawZ negb2 xb2 4 : Int) : Rat)) (((rawZ nega3 xa3 4 : Int) : Rat) / ((rawZ negb3 xb3 4 : Int) : Rat)) 4 _ (hh9.below hb) (hh11.below hb) ((own5_lim nega2 negb2 oka2 okb2 4 (by decide)).up _ (by omega)) ((own5_lim nega3 negb3 oka3 okb3 4 (by decide)).up _ (by omega)) (by omega)) ?_)
      rintro e w'' ⟨v', rfl, h', bb⟩
      exact ⟨_, rfl, h', bb, (fun h => absurd h (by decide))⟩
    · intro a' w' hF' hb hd
      have e18 : a'.tmps.getD 18 undef = .agg #[.bool b12, .slice ad12 n12 c12, .slice ae12 m12 d12] := hd _ 18 (Array.mem_of_getElem? (i := 0) rfl) rfl rfl
      obtain ⟨v21_0, e21, h21_1⟩ : ∃ v, a'.tmps.getD 21 undef = v ∧ Rq w' v ((((rawZ nega2 xa2 4 : Int) : Rat) / ((rawZ negb2 xb2 4 : Int) : Rat)) + (((rawZ nega3 xa3 4 : Int) : Rat) / ((rawZ negb3 xb3 4 : Int) : Rat))) := ⟨_, rfl, hd _ 21 (Array.mem_of_getElem? (i := 1) rfl) rfl rfl⟩
      refine if_does (wanted_free rfl) (Does.calls (r_call Try.func64 en64.1 en64.2 (map2 e18 e21)) (rMul_any _ _ (((rawZ nega1 xa1 4 : Int) : Rat) / ((rawZ negb1 xb1 4 : Int) : Rat)) ((((rawZ nega2 xa2 4 : Int) : Rat) / ((rawZ negb2 xb2 4 : Int) : Rat)) + (((rawZ nega3 xa3 4 : Int) : Rat) / ((rawZ negb3 xb3 4 : Int) : Rat))) (max 4 (4 + 4 + 1)) _ (hh7.below hb) h21_1 ((own5_lim nega1 negb1 oka1 okb1 4 (by decide)).up _ (by omega)) ((rlim_add (own5_lim nega2 negb2 oka2 okb2 4 (by decide)) (own5_lim nega3 negb3 oka3 okb3 4 (by decide))).up _ (by omega)) (by omega)) ?_)
      rintro e w'' ⟨v', rfl, h', bb⟩
      exact ⟨_, rfl, h', bb, (fun h => absurd h (by decide))⟩
    · intro a' w' hF' hb hd
      exact if_does (wanted_free rfl) (Does.vals (r_load (hF'.at 2 rfl) (ld_Rat (vs := [.bool b12, .slice ad12 n12 c12, .slice ae12 m12 d12]) (o7.below hb) rfl rfl)) ⟨rfl, Below.refl _ _, (fun h => absurd h (by decide))⟩)
    · intro a' w' hF' hb hd
      exact if_does (wanted_free rfl) (Does.vals (r_load (hF'.at 1 rfl) (ld_Rat (vs := [.bool b14, .slice ad14 n14 c14, .slice ae14 m14 d14]) (o8.below hb) rfl rfl)) ⟨rfl, Below.refl _ _, (fun h => absurd h (by decide))⟩)
    · intro a' w' hF' hb hd
      have e23 : a'.tmps.getD 23 undef = .agg #[.bool b12, .slice ad12 n12 c12, .slice ae12 m12 d12] := hd _ 23 (Array.mem_of_getElem? (i := 0) rfl) rfl rfl
      have e24 : a'.tmps.getD 24 undef = .agg #[.bool b14, .slice ad14 n14 c14, .slice ae14 m14 d14] := hd _ 24 (Array.mem_of_getElem? (i := 1) rfl) rfl rfl
      refine if_does (wanted_free rfl) (Does.calls (r_call Try.func64 en64.1 en64.2 (map2 e23 e24)) (rMul_any _ _ (((rawZ nega1 xa1 4 : Int) : Rat) / ((rawZ negb1 xb1 4 : Int) : Rat)) (((rawZ nega2 xa2 4 : Int) : Rat) / ((rawZ negb2 xb2 4 : Int) : Rat)) 4 _ (hh7.below hb) (hh9.below hb) ((own5_lim nega1 negb1 oka1 okb1 4 (by decide)).up _ (by omega)) ((own5_lim nega2 negb2 oka2 okb2 4 (by decide)).up _ (by omega)) (by omega)) ?_)
      rintro e w'' ⟨v', rfl, h', bb⟩
      exact ⟨_, rfl, h', bb, (fun h => absurd h (by decide))⟩
    · intro a' w' hF' hb hd
      exact if_does (wanted_free rfl) (Does.vals (r_load (hF'.at 2 rfl) (ld_Rat (vs := [.bool b12, .slice ad12 n12 c12, .slice ae12 m12 d12]) (o7.below hb) rfl rfl)) ⟨rfl, Below.refl _ _, (fun h => absurd h (by decide))⟩)
    · intro a' w' hF' hb hd
      exact if_does (wanted_free rfl) (Does.vals (r_load (hF'.at 0 rfl) (ld_Rat (vs := [.bool b16, .slice ad16 n16 c16, .slice ae16 m16 d16]) (o9.below hb) rfl rfl)) ⟨rfl, Below.refl _ _, (fun h => absurd h (by decide))⟩)
    · intro a' w' hF' hb hd
      have e26 : a'.tmps.getD 26 undef = .agg #[.bool b12, .slice ad12 n12 c12, .slice ae12 m12 d12] := hd _ 26 (Array.mem_of_getElem? (i := 0) rfl) rfl rfl
      have e27 : a'.tmps.getD 27 undef = .agg #[.bool b16, .slice ad16 n16 c16, .slice ae16 m16 d16] := hd _ 27 (Array.mem_of_getElem? (i := 1) rfl) rfl rfl
      refine if_does (wanted_free rfl) (Does.calls (r_call Try.func64 en64.1 en64.2 (map2 e26 e27)) (rMul_any _ _ (((rawZ nega1 xa1 4 : Int) : Rat) / ((rawZ negb1 xb1 4 : Int) : Rat)) (((rawZ nega3 xa3 4 : Int) : Rat) / ((rawZ negb3 xb3 4 : Int) : Rat)) 4 _ (hh7.below hb) (hh11.below hb) ((own5_lim nega1 negb1 oka1 okb1 4 (by decide)).up _ (by omega)) ((own5_lim nega3 negb3 oka3 okb3 4 (by decide)).up _ (by omega)) (by omega)) ?_)
      rintro e w'' ⟨v', rfl, h', bb⟩
      exact ⟨_, rfl, h', bb, (fun h => absurd h (by decide))⟩
    · intro a' w' hF' hb hd
      obtain ⟨v25_0, e25, h25_1⟩ : ∃ v, a'.tmps.getD 25 undef = v ∧ Rq w' v ((((rawZ nega1 xa1 4 : Int) : Rat) / ((rawZ negb1 xb1 4 : Int) : Rat)) * (((rawZ nega2 xa2 4 : Int) : Rat) / ((rawZ negb2 xb2 4 : Int) : Rat))) := ⟨_, rfl, hd _ 25 (Array.mem_of_getElem? (i := 0) rfl) rfl rfl⟩
      obtain ⟨v28_0, e28, h28_1⟩ : ∃ v, a'.tmps.getD 28 undef = v ∧ Rq w' v ((((rawZ nega1 xa1 4 : Int) : Rat) / ((rawZ negb1 xb1 4 : Int) : Rat)) * (((rawZ nega3 xa3 4 : Int) : Rat) / ((rawZ negb3 xb3 4 : Int) : Rat))) := ⟨_, rfl, hd _ 28 (Array.mem_of_getElem? (i := 1) rfl) rfl rfl⟩
      refine if_does (wanted_free rfl) (Does.calls (r_call Try.func60 en60.1 en60.2 (map2 e25 e28)) (rAdd_any _ _ ((((rawZ nega1 xa1 4 : Int) : Rat) / ((rawZ negb1 xb1 4 : Int) : Rat)) * (((rawZ nega2 xa2 4 : Int) : Rat) / ((rawZ negb2 xb2 4 : Int) : Rat))) ((((rawZ nega1 xa1 4 : Int) : Rat) / ((rawZ negb1 xb1 4 : Int) : Rat)) * (((rawZ nega3 xa3 4 : Int) : Rat) / ((rawZ negb3 xb3 4 : Int) : Rat))) (4 + 4) _ h25_1 h28_1 ((rlim_mul (own5_lim nega1 negb1 oka1 okb1 4 (by decide)) (own5_lim nega2 negb2 oka2 okb2 4 (by decide))).up _ (by omega)) ((rlim_mul (own5_lim nega1 negb1 oka1 okb1 4 (by decide)) (own5_lim nega3 negb3 oka3 okb3 4 (by decide))).up _ (by omega)) (by omega)) ?_)
      rintro e w'' ⟨v', rfl, h', bb⟩
      exact ⟨_, rfl, h', bb, (fun h => absurd h (by decide))⟩
    · intro a' w' hF' hb hd
      obtain ⟨v22_0, e22, h22_1⟩ : ∃ v, a'.tmps.getD 22 undef = v ∧ Rq w' v ((((rawZ nega1 xa1 4 : Int) : Rat) / ((rawZ negb1 xb1 4 : Int) : Rat)) * ((((rawZ nega2 xa2 4 : Int) : Rat) / ((rawZ negb2 xb2 4 : Int) : Rat)) + (((rawZ nega3 xa3 4 : Int) : Rat) / ((rawZ negb3 xb3 4 : Int) : Rat)))) := ⟨_, rfl, hd _ 22 (Array.mem_of_getElem? (i := 0) rfl) rfl rfl⟩
      obtain ⟨v29_0, e29, h29_1⟩ : ∃ v, a'.tmps.getD 29 undef = v ∧ Rq w' v (((((rawZ nega1 xa1 4 : Int) : Rat) / ((rawZ negb1 xb1 4 : Int) : Rat)) * (((rawZ nega2 xa2 4 : Int) : Rat) / ((rawZ negb2 xb2 4 : Int) : Rat))) + ((((rawZ nega1 xa1 4 : Int) : Rat) / ((rawZ negb1 xb1 4 : Int) : Rat)) * (((rawZ nega3 xa3 4 : Int) : Rat) / ((rawZ negb3 xb3 4 : Int) : Rat)))) := ⟨_, rfl, hd _ 29 (Array.mem_of_getElem? (i := 1) rfl) rfl rfl⟩
      refine if_does (wanted_free rfl) (Does.calls (r_call Try.func70 en70.1 en70.2 (map2 e22 e29)) (rSame_true _ _ ((((rawZ nega1 xa1 4 : Int) : Rat) / ((rawZ negb1 xb1 4 : Int) : Rat)) * ((((rawZ nega2 xa2 4 : Int) : Rat) / ((rawZ negb2 xb2 4 : Int) : Rat)) + (((rawZ nega3 xa3 4 : Int) : Rat) / ((rawZ negb3 xb3 4 : Int) : Rat)))) (((((rawZ nega1 xa1 4 : Int) : Rat) / ((rawZ negb1 xb1 4 : Int) : Rat)) * (((rawZ nega2 xa2 4 : Int) : Rat) / ((rawZ negb2 xb2 4 : Int) : Rat))) + ((((rawZ nega1 xa1 4 : Int) : Rat) / ((rawZ negb1 xb1 4 : Int) : Rat)) * (((rawZ nega3 xa3 4 : Int) : Rat) / ((rawZ negb3 xb3 4 : Int) : Rat)))) _ h22_1 h29_1 (Rat.mul_add _ _ _)) ?_)
      rintro e w'' ⟨rfl, bb⟩
      exact ⟨_, rfl, rfl, bb, (fun h => absurd h (by decide))⟩
    · intro a' w' hF' hb hd
      have e30 : a'.tmps.getD 30 undef = .bool true := hd _ 30 (Array.mem_of_getElem? (i := 0) rfl) rfl rfl
      exact if_does (wanted_free rfl) (Does.vals (r_un e30 (bn_not _ false rfl)) ⟨rfl, Below.refl _ _, (fun h => absurd h (by decide))⟩)
    · intro a' w' hF' hb hd
      have e31 : a'.tmps.getD 31 undef = .bool false := hd _ 31 (Array.mem_of_getElem? (i := 0) rfl) rfl rfl
      exact if_does (wanted_free rfl) (Does.vals (r_move e31) ⟨rfl, Below.refl _ _, (fun h => absurd h (by decide))⟩)
    · intro a' w' hF' hb hd
      have e32 : a'.tmps.getD 32 undef = .bool false := hd _ 32 (Array.mem_of_getElem? (i := 0) rfl) rfl rfl
      exact if_does (wanted_by rfl rfl e32 rfl) (Does.vals (r_load (hF'.at 2 rfl) (ld_Rat (vs := [.bool b12, .slice ad12 n12 c12, .slice ae12 m12 d12]) (o7.below hb) rfl rfl)) ⟨rfl, Below.refl _ _, (fun h => absurd h (by decide))⟩)
    · intro a' w' hF' hb hd
      have e32 : a'.tmps.getD 32 undef = .bool false := hd _ 32 (Array.mem_of_getElem? (i := 0) rfl) rfl rfl
      exact if_does (wanted_by rfl rfl e32 rfl) (Does.vals (r_load (hF'.at 1 rfl) (ld_Rat (vs := [.bool b14, .slice ad14 n14 c14, .slice ae14 m14 d14]) (o8.below hb) rfl rfl)) ⟨rfl, Below.refl _ _, (fun h => absurd h (by decide))⟩)
    · intro a' w' hF' hb hd
      have e32 : a'.tmps.getD 32 undef = .bool false := hd _ 32 (Array.mem_of_getElem? (i := 0) rfl) rfl rfl
      exact if_does (wanted_by rfl rfl e32 rfl) (Does.vals (r_load (hF'.at 0 rfl) (ld_Rat (vs := [.bool b16, .slice ad16 n16 c16, .slice ae16 m16 d16]) (o9.below hb) rfl rfl)) ⟨rfl, Below.refl _ _, (fun h => absurd h (by decide))⟩)
    · intro a' w' hF' hb hd
      have e32 : a'.tmps.getD 32 undef = .bool false := hd _ 32 (Array.mem_of_getElem? (i := 3) rfl) rfl rfl
      have e33 : a'.tmps.getD 33 undef = .agg #[.bool b12, .slice ad12 n12 c12, .slice ae12 m12 d12] := hd _ 33 (Array.mem_of_getElem? (i := 0) rfl) rfl rfl
      have e34 : a'.tmps.getD 34 undef = .agg #[.bool b14, .slice ad14 n14 c14, .slice ae14 m14 d14] := hd _ 34 (Array.mem_of_getElem? (i := 1) rfl) rfl rfl
      have e35 : a'.tmps.getD 35 undef = .agg #[.bool b16, .slice ad16 n16 c16, .slice ae16 m16 d16] := hd _ 35 (Array.mem_of_getElem? (i := 2) rfl) rfl rfl
      obtain ⟨vq, w2, hr, bb, hq⟩ := bs_rats (hh7.below hb) (hh9.below hb) (hh11.below hb)
      exact if_does (wanted_by rfl rfl e32 rfl) (Does.vals (r_buildSlice (pair3 e33 e34 e35) hr) ⟨hq, bb, (fun h => absurd h (by decide))⟩)
    · intro a' w' hF' hb hd
      have e32 : a'.tmps.getD 32 undef = .bool false := hd _ 32 (Array.mem_of_getElem? (i := 1) rfl) rfl rfl
      obtain ⟨v36_0, e36, h36_1⟩ : ∃ v, a'.tmps.getD 36 undef = v ∧ QRow w' v [((rawZ nega1 xa1 4 : Int) : Rat) / ((rawZ negb1 xb1 4 : Int) : Rat), ((rawZ nega2 xa2 4 : Int) : Rat) / ((rawZ negb2 xb2 4 : Int) : Rat), ((rawZ nega3 xa3 4 : Int) : Rat) / ((rawZ negb3 xb3 4 : Int) : Rat)] := ⟨_, rfl, hd _ 36 (Array.mem_of_getElem? (i := 0) rfl) rfl rfl⟩
      refine if_does (wanted_by rfl rfl e32 rfl) (Does.calls (r_call Try.func71 en71.1 en71.2 (map1 e36)) (rSum3 _ (((rawZ nega1 xa1 4 : Int) : Rat) / ((rawZ negb1 xb1 4 : Int) : Rat)) (((rawZ nega2 xa2 4 : Int) : Rat) / ((rawZ negb2 xb2 4 : Int) : Rat)) (((rawZ nega3 xa3 4 : Int) : Rat) / ((rawZ negb3 xb3 4 : Int) : Rat)) 4 _ h36_1 ((own5_lim nega1 negb1 oka1 okb1 4 (by decide)).up _ (by omega)) ((own5_lim nega2 negb2 oka2 okb2 4 (by decide)).up _ (by omega)) ((own5_lim nega3 negb3 oka3 okb3 4 (by decide)).up _ (by omega)) (by omega)) ?_)
      rintro e w'' ⟨v', rfl, h', bb⟩
      exact ⟨_, rfl, h', bb, (fun h => absurd h (by decide))⟩
    · intro a' w' hF' hb hd
      have e32 : a'.tmps.getD 32 undef = .bool false := hd _ 32 (Array.mem_of_getElem? (i := 0) rfl) rfl rfl
      exact if_does (wanted_by rfl rfl e32 rfl) (Does.vals (r_load (hF'.at 0 rfl) (ld_Rat (vs := [.bool b16, .slice ad16 n16 c16, .slice ae16 m16 d16]) (o9.below hb) rfl rfl)) ⟨rfl, Below.refl _ _, (fun h => absurd h (by decide))⟩)
    · intro a' w' hF' hb hd
      have e32 : a'.tmps.getD 32 undef = .bool false := hd _ 32 (Array.mem_of_getElem? (i := 0) rfl) rfl rfl
      exact if_does (wanted_by rfl rfl e32 rfl) (Does.vals (r_load (hF'.at 2 rfl) (ld_Rat (vs := [.bool b12, .slice ad12 n12 c12, .slice ae12 m12 d12]) (o7.below hb) rfl rfl)) ⟨rfl, Below.refl _ _, (fun h => absurd h (by decide))⟩)
    · intro a' w' hF' hb hd
      have e32 : a'.tmps.getD 32 undef = .bool false := hd _ 32 (Array.mem_of_getElem? (i := 0) rfl) rfl rfl
      exact if_does (wanted_by rfl rfl e32 rfl) (Does.vals (r_load (hF'.at 1 rfl) (ld_Rat (vs := [.bool b14, .slice ad14 n14 c14, .slice ae14 m14 d14]) (o8.below hb) rfl rfl)) ⟨rfl, Below.refl _ _, (fun h => absurd h (by decide))⟩)
    · intro a' w' hF' hb hd
      have e32 : a'.tmps.getD 32 undef = .bool false := hd _ 32 (Array.mem_of_getElem? (i := 3) rfl) rfl rfl
      have e38 : a'.tmps.getD 38 undef = .agg #[.bool b16, .slice ad16 n16 c16, .slice ae16 m16 d16] := hd _ 38 (Array.mem_of_getElem? (i := 0) rfl) rfl rfl
      have e39 : a'.tmps.getD 39 undef = .agg #[.bool b12, .slice ad12 n12 c12, .slice ae12 m12 d12] := hd _ 39 (Array.mem_of_getElem? (i := 1) rfl) rfl rfl
      have e40 : a'.tmps.getD 40 undef = .agg #[.bool b14, .slice ad14 n14 c14, .slice ae14 m14 d14] := hd _ 40 (Array.mem_of_getElem? (i := 2) rfl) rfl rfl
      obtain ⟨vq, w2, hr, bb, hq⟩ := bs_rats (hh11.below hb) (hh7.below hb) (hh9.below hb)
      exact if_does (wanted_by rfl rfl e32 rfl) (Does.vals (r_buildSlice (pair3 e38 e39 e40) hr) ⟨hq, bb, (fun h => absurd h (by decide))⟩)
    · intro a' w' hF' hb hd
      have e32 : a'.tmps.getD 32 undef = .bool false := hd _ 32 (Array.mem_of_getElem? (i := 2) rfl) rfl rfl
      obtain ⟨v41_0, e41, h41_1⟩ : ∃ v, a'.tmps.getD 41 undef = v ∧ QRow w' v [((rawZ nega3 xa3 4 : Int) : Rat) / ((rawZ negb3 xb3 4 : Int) : Rat), ((rawZ nega1 xa1 4 : Int) : Rat) / ((rawZ negb1 xb1 4 : Int) : Rat), ((rawZ nega2 xa2 4 : Int) : Rat) / ((rawZ negb2 xb2 4 : Int) : Rat)] := ⟨_, rfl, hd _ 41 (Array.mem_of_getElem? (i := 0) rfl) rfl rfl⟩
      refine if_does (wanted_by rfl rfl e32 rfl) (Does.calls (r_call Try.func71 en71.1 en71.2 (map1 e41)) (rSum3 _ (((rawZ nega3 xa3 4 : Int) : Rat) / ((rawZ negb3 xb3 4 : Int) : Rat)) (((rawZ nega1 xa1 4 : Int) : Rat) / ((rawZ negb1 xb1 4 : Int) : Rat)) (((rawZ nega2 xa2 4 : Int) : Rat) / ((rawZ negb2 xb2 4 : Int) : Rat)) 4 _ h41_1 ((own5_lim nega3 negb3 oka3 okb3 4 (by decide)).up _ (by omega)) ((own5_lim nega1 negb1 oka1 okb1 4 (by decide)).up _ (by omega)) ((own5_lim nega2 negb2 oka2 okb2 4 (by decide)).up _ (by omega)) (by omega)) ?_)
      rintro e w'' ⟨v', rfl, h', bb⟩
      exact ⟨_, rfl, h', bb, (fun h => absurd h (by decide))⟩
    · intro a' w' hF' hb hd
      have e32 : a'.tmps.getD 32 undef = .bool false := hd _ 32 (Array.mem_of_getElem? (i := 3) rfl) rfl rfl
      obtain ⟨v37_0, e37, h37_1⟩ : ∃ v, a'.tmps.getD 37 undef = v ∧ Rq w' v ((((rawZ nega1 xa1 4 : Int) : Rat) / ((rawZ negb1 xb1 4 : Int) : Rat)) + (((rawZ nega2 xa2 4 : Int) : Rat) / ((rawZ negb2 xb2 4 : Int) : Rat)) + (((rawZ nega3 xa3 4 : Int) : Rat) / ((rawZ negb3 xb3 4 : Int) : Rat))) := ⟨_, rfl, hd _ 37 (Array.mem_of_getElem? (i := 0) rfl) rfl rfl⟩
      obtain ⟨v42_0, e42, h42_1⟩ : ∃ v, a'.tmps.getD 42 undef = v ∧ Rq w' v ((((rawZ nega3 xa3 4 : Int) : Rat) / ((rawZ negb3 xb3 4 : Int) : Rat)) + (((rawZ nega1 xa1 4 : Int) : Rat) / ((rawZ negb1 xb1 4 : Int) : Rat)) + (((rawZ nega2 xa2 4 : Int) : Rat) / ((rawZ negb2 xb2 4 : Int) : Rat))) := ⟨_, rfl, hd _ 42 (Array.mem_of_getElem? (i := 1) rfl) rfl rfl⟩
      refine if_does (wanted_by rfl rfl e32 rfl) (Does.calls (r_call Try.func70 en70.1 en70.2 (map2 e37 e42)) (rSame_true _ _ ((((rawZ nega1 xa1 4 : Int) : Rat) / ((rawZ negb1 xb1 4 : Int) : Rat)) + (((rawZ nega2 xa2 4 : Int) : Rat) / ((rawZ negb2 xb2 4 : Int) : Rat)) + (((rawZ nega3 xa3 4 : Int) : Rat) / ((rawZ negb3 xb3 4 : Int) : Rat))) ((((rawZ nega3 xa3 4 : Int) : Rat) / ((rawZ negb3 xb3 4 : Int) : Rat)) + (((rawZ nega1 xa1 4 : Int) : Rat) / ((rawZ negb1 xb1 4 : Int) : Rat)) + (((rawZ nega2 xa2 4 : Int) : Rat) / ((rawZ negb2 xb2 4 : Int) : Rat))) _ h37_1 h42_1 (rsum_turn _ _ _)) ?_)
      rintro e w'' ⟨rfl, bb⟩
      exact ⟨_, rfl, rfl, bb, (fun h => absurd h (by decide))⟩
    · intro a' w' hF' hb hd
      have e32 : a'.tmps.getD 32 undef = .bool false := hd _ 32 (Array.mem_of_getElem? (i := 1) rfl) rfl rfl
      have e43 : a'.tmps.getD 43 undef = .bool true := hd _ 43 (Array.mem_of_getElem? (i := 0) rfl) rfl rfl
      exact if_does (wanted_by rfl rfl e32 rfl) (Does.vals (r_un e43 (bn_not _ false rfl)) ⟨rfl, Below.refl _ _, (fun h => absurd h (by decide))⟩)
    · intro a' w' hF' hb hd
      have e32 : a'.tmps.getD 32 undef = .bool false := hd _ 32 (Array.mem_of_getElem? (i := 0) rfl) rfl rfl
      have e44 : a'.tmps.getD 44 undef = .bool false := hd _ 44 (Array.mem_of_getElem? (i := 1) rfl) rfl rfl
      exact if_does (wanted_free rfl) (Does.vals (r_pick_f e32 e44) ⟨rfl, Below.refl _ _, (fun h => absurd h (by decide))⟩)
    · intro a' w' hF' hb hd
      have e45 : a'.tmps.getD 45 undef = .bool false := hd _ 45 (Array.mem_of_getElem? (i := 0) rfl) rfl rfl
      exact if_does (wanted_free rfl) (Does.vals (r_move e45) ⟨rfl, Below.refl _ _, (fun h => absurd h (by decide))⟩)
    · intro a' w' hF' hb hd
      have e46 : a'.tmps.getD 46 undef = .bool false := hd _ 46 (Array.mem_of_getElem? (i := 0) rfl) rfl rfl
      exact if_does (wanted_by rfl rfl e46 rfl) (Does.vals (r_load (hF'.at 2 rfl) (ld_Rat (vs := [.bool b12, .slice ad12 n12 c12, .slice ae12 m12 d12]) (o7.below hb) rfl rfl)) ⟨rfl, Below.refl _ _, (fun h => absurd h (by decide))⟩)
    · intro a' w' hF' hb hd
      have e46 : a'.tmps.getD 46 undef = .bool false := hd _ 46 (Array.mem_of_getElem? (i := 0) rfl) rfl rfl
      exact if_does (wanted_by rfl rfl e46 rfl) (Does.vals (r_load (hF'.at 1 rfl) (ld_Rat (vs := [.bool b14, .slice ad14 n14 c14, .slice ae14 m14 d14]) (o8.below hb) rfl rfl)) ⟨rfl, Below.refl _ _, (fun h => absurd h (by decide))⟩)
    · intro a' w' hF' hb hd
      have e46 : a'.tmps.getD 46 undef = .bool false := hd _ 46 (Array.mem_of_getElem? (i := 2) rfl) rfl rfl
      have e47 : a'.tmps.getD 47 undef = .agg #[.bool b12, .slice ad12 n12 c12, .slice ae12 m12 d12] := hd _ 47 (Array.mem_of_getElem? (i := 0) rfl) rfl rfl
      have e48 : a'.tmps.getD 48 undef = .agg #[.bool b14, .slice ad14 n14 c14, .slice ae14 m14 d14] := hd _ 48 (Array.mem_of_getElem? (i := 1) rfl) rfl rfl
      refine if_does (wanted_by rfl rfl e46 rfl) (Does.calls (r_call Try.func64 en64.1 en64.2 (map2 e47 e48)) (rMul_any _ _ (((rawZ nega1 xa1 4 : Int) : Rat) / ((rawZ negb1 xb1 4 : Int) : Rat)) (((rawZ nega2 xa2 4 : Int) : Rat) / ((rawZ negb2 xb2 4 : Int) : Rat)) 4 _ (hh7.below hb) (hh9.below hb) ((own5_lim nega1 negb1 oka1 okb1 4 (by decide)).up _ (by omega)) ((own5_lim nega2 negb2 oka2 okb2 4 (by decide)).up _ (by omega)) (by omega)) ?_)
      rintro e w'' ⟨v', rfl, h', bb⟩
      exact ⟨_, rfl, h', bb, (fun h => absurd h (by decide))⟩
    · intro a' w' hF' hb hd
      have e46 : a'.tmps.getD 46 undef = .bool false := hd _ 46 (Array.mem_of_getElem? (i := 0) rfl) rfl rfl
      exact if_does (wanted_by rfl rfl e46 rfl) (Does.vals (r_load (hF'.at 1 rfl) (ld_Rat (vs := [.bool b14, .slice ad14 n14 c14, .slice ae14 m14 d14]) (o8.below hb) rfl rfl)) ⟨rfl, Below.refl _ _, (fun h => absurd h (by decide))⟩)
    · intro a' w' hF' hb hd
      have e46 : a'.tmps.getD 46 undef = .bool false := hd _ 46 (Array.mem_of_getElem? (i := 0) rfl) rfl rfl
      exact if_does (wanted_by rfl rfl e46 rfl) (Does.vals (r_load (hF'.at 2 rfl) (ld_Rat (vs := [.bool b12, .slice ad12 n12 c12, .slice ae12 m12 d12]) (o7.below hb) rfl rfl)) ⟨rfl, Below.refl _ _, (fun h => absurd h (by decide))⟩)
    · intro a' w' hF' hb hd
      have e46 : a'.tmps.getD 46 undef = .bool false := hd _ 46 (Array.mem_of_getElem? (i := 3) rfl) rfl rfl
      have e50 : a'.tmps.getD 50 undef = .agg #[.bool b14, .slice ad14 n14 c14, .slice ae14 m14 d14] := hd _ 50 (Array.mem_of_getElem? (i := 0) rfl) rfl rfl
      have e51 : a'.tmps.getD 51 undef = .agg #[.bool b12, .slice ad12 n12 c12, .slice ae12 m12 d12] := hd _ 51 (Array.mem_of_getElem? (i := 1) rfl) rfl rfl
      refine if_does (wanted_by rfl rfl e46 rfl) (Does.calls (r_call Try.func64 en64.1 en64.2 (map2 e50 e51)) (rMul_any _ _ (((rawZ nega2 xa2 4 : Int) : Rat) / ((rawZ negb2 xb2 4 : Int) : Rat)) (((rawZ nega1 xa1 4 : Int) : Rat) / ((rawZ negb1 xb1 4 : Int) : Rat)) 4 _ (hh9.below hb) (hh7.below hb) ((own5_lim nega2 negb2 oka2 okb2 4 (by decide)).up _ (by omega)) ((own5_lim nega1 negb1 oka1 okb1 4 (by decide)).up _ (by omega)) (by omega)) ?_)
      rintro e w'' ⟨v', rfl, h', bb⟩
      exact ⟨_, rfl, h', bb, (fun h => absurd h (by decide))⟩
    · intro a' w' hF' hb hd
      have e46 : a'.tmps.getD 46 undef = .bool false := hd _ 46 (Array.mem_of_getElem? (i := 3) rfl) rfl rfl
      obtain ⟨v49_0, e49, h49_1⟩ : ∃ v, a'.tmps.getD 49 undef = v ∧ Rq w' v ((((rawZ nega1 xa1 4 : Int) : Rat) / ((rawZ negb1 xb1 4 : Int) : Rat)) * (((rawZ nega2 xa2 4 : Int) : Rat) / ((rawZ negb2 xb2 4 : Int) : Rat))) := ⟨_, rfl, hd _ 49 (Array.mem_of_getElem? (i := 0) rfl) rfl rfl⟩
      obtain ⟨v52_0, e52, h52_1⟩ : ∃ v, a'.tmps.getD 52 undef = v ∧ Rq w' v ((((rawZ nega2 xa2 4 : Int) : Rat) / ((rawZ negb2 xb2 4 : Int) : Rat)) * (((rawZ nega1 xa1 4 : Int) : Rat) / ((rawZ negb1 xb1 4 : Int) : Rat))) := ⟨_, rfl, hd _ 52 (Array.mem_of_getElem? (i := 1) rfl) rfl rfl⟩
      refine if_does (wanted_by rfl rfl e46 rfl) (Does.calls (r_call Try.func70 en70.1 en70.2 (map2 e49 e52)) (rSame_true _ _ ((((rawZ nega1 xa1 4 : Int) : Rat) / ((rawZ negb1 xb1 4 : Int) : Rat)) * (((rawZ nega2 xa2 4 : Int) : Rat) / ((rawZ negb2 xb2 4 : Int) : Rat))) ((((rawZ nega2 xa2 4 : Int) : Rat) / ((rawZ negb2 xb2 4 : Int) : Rat)) * (((rawZ nega1 xa1 4 : Int) : Rat) / ((rawZ negb1 xb1 4 : Int) : Rat))) _ h49_1 h52_1 (Rat.mul_comm _ _)) ?_)
      rintro e w'' ⟨rfl, bb⟩
      exact ⟨_, rfl, rfl, bb, (fun h => absurd h (by decide))⟩
    · intro a' w' hF' hb hd
      have e46 : a'.tmps.getD 46 undef = .bool false := hd _ 46 (Array.mem_of_getElem? (i := 1) rfl) rfl rfl
      have e53 : a'.tmps.getD 53 undef = .bool true := hd _ 53 (Array.mem_of_getElem? (i := 0) rfl) rfl rfl
      exact if_does (wanted_by rfl rfl e46 rfl) (Does.vals (r_un e53 (bn_not _ false rfl)) ⟨rfl, Below.refl _ _, (fun h => absurd h (by decide))⟩)
    · intro a' w' hF' hb hd
      have e46 : a'.tmps.getD 46 undef = .bool false := hd _ 46 (Array.mem_of_getElem? (i := 0) rfl) rfl rfl
      have e54 : a'.tmps.getD 54 undef = .bool false := hd _ 54 (Array.mem_of_getElem? (i := 1) rfl) rfl rfl
      exact if_does (wanted_free rfl) (Does.vals (r_pick_f e46 e54) ⟨rfl, Below.refl _ _, (fun h => absurd h (by decide))⟩)
    · intro a' w' hF' hb hd
      have e55 : a'.tmps.getD 55 undef = .bool false := hd _ 55 (Array.mem_of_getElem? (i := 0) rfl) rfl rfl
      exact if_does (wanted_free rfl) (Does.vals (r_move e55) ⟨rfl, Below.refl _ _, (fun h => absurd h (by decide))⟩)
    · intro a' w' hF' hb hd
      have e56 : a'.tmps.getD 56 undef = .bool false := hd _ 56 (Array.mem_of_getElem? (i := 0) rfl) rfl rfl
      exact if_does (wanted_by rfl rfl e56 rfl) (Does.vals (r_load (hF'.at 2 rfl) (ld_Rat (vs := [.bool b12, .slice ad12 n12 c12, .slice ae12 m12 d12]) (o7.below hb) rfl rfl)) ⟨rfl, Below.refl _ _, (fun h => absurd h (by decide))⟩)
    · intro a' w' hF' hb hd
      have e56 : a'.tmps.getD 56 undef = .bool false := hd _ 56 (Array.mem_of_getElem? (i := 0) rfl) rfl rfl
      exact if_does (wanted_by rfl rfl e56 rfl) (Does.vals (r_load (hF'.at 2 rfl) (ld_Rat (vs := [.bool b12, .slice ad12 n12 c12, .slice ae12 m12 d12]) (o7.below hb) rfl rfl)) ⟨rfl, Below.refl _ _, (fun h => absurd h (by decide))⟩)
    · intro a' w' hF' hb hd
      have e56 : a'.tmps.getD 56 undef = .bool false := hd _ 56 (Array.mem_of_getElem? (i := 2) rfl) rfl rfl
      have e57 : a'.tmps.getD 57 undef = .agg #[.bool b12, .slice ad12 n12 c12, .slice ae12 m12 d12] := hd _ 57 (Array.mem_of_getElem? (i := 0) rfl) rfl rfl
      have e58 : a'.tmps.getD 58 undef = .agg #[.bool b12, .slice ad12 n12 c12, .slice ae12 m12 d12] := hd _ 58 (Array.mem_of_getElem? (i := 1) rfl) rfl rfl
      refine if_does (wanted_by rfl rfl e56 rfl) (Does.calls (r_call Try.func62 en62.1 en62.2 (map2 e57 e58)) (rSub_any _ _ (((rawZ nega1 xa1 4 : Int) : Rat) / ((rawZ negb1 xb1 4 : Int) : Rat)) (((rawZ nega1 xa1 4 : Int) : Rat) / ((rawZ negb1 xb1 4 : Int) : Rat)) 4 _ (hh7.below hb) (hh7.below hb) ((own5_lim nega1 negb1 oka1 okb1 4 (by decide)).up _ (by omega)) ((own5_lim nega1 negb1 oka1 okb1 4 (by decide)).up _ (by omega)) (by omega)) ?_)
      rintro e w'' ⟨v', rfl, h', bb⟩
      exact ⟨_, rfl, h', bb, (fun h => absurd h (by decide))⟩
    · intro a' w' hF' hb hd
      have e56 : a'.tmps.getD 56 undef = .bool false := hd _ 56 (Array.mem_of_getElem? (i := 0) rfl) rfl rfl
      exact if_does (wanted_by rfl rfl e56 rfl) (Does.vals (r_build (by simp) (bd_Rat_ _)) ⟨rfl, Below.refl _ _, (fun h => absurd h (by decide))⟩)
    · intro a' w' hF' hb hd
      have e56 : a'.tmps.getD 56 undef = .bool false := hd _ 56 (Array.mem_of_getElem? (i := 3) rfl) rfl rfl
      obtain ⟨v59_0, e59, h59_1⟩ : ∃ v, a'.tmps.getD 59 undef = v ∧ Rq w' v ((((rawZ nega1 xa1 4 : Int) : Rat) / ((rawZ negb1 xb1 4 : Int) : Rat)) - (((rawZ nega1 xa1 4 : Int) : Rat) / ((rawZ negb1 xb1 4 : Int) : Rat))) := ⟨_, rfl, hd _ 59 (Array.mem_of_getElem? (i := 0) rfl) rfl rfl⟩
      have e60 : a'.tmps.getD 60 undef = .agg #[.bool false, .slice none 0 0, .slice none 0 0] := hd _ 60 (Array.mem_of_getElem? (i := 1) rfl) rfl rfl
      refine if_does (wanted_by rfl rfl e56 rfl) (Does.calls (r_call Try.func70 en70.1 en70.2 (map2 e59 e60)) (rSame_true _ _ ((((rawZ nega1 xa1 4 : Int) : Rat) / ((rawZ negb1 xb1 4 : Int) : Rat)) - (((rawZ nega1 xa1 4 : Int) : Rat) / ((rawZ negb1 xb1 4 : Int) : Rat))) (0) _ h59_1 (Rq.zero _) (rsub_same _)) ?_)
      rintro e w'' ⟨rfl, bb⟩
      exact ⟨_, rfl, rfl, bb, (fun h => absurd h (by decide))⟩
    · intro a' w' hF' hb hd
      have e56 : a'.tmps.getD 56 undef = .bool false := hd _ 56 (Array.mem_of_getElem? (i := 1) rfl) rfl rfl
      have e61 : a'.tmps.getD 61 undef = .bool true := hd _ 61 (Array.mem_of_getElem? (i := 0) rfl) rfl rfl
      exact if_does (wanted_by rfl rfl e56 rfl) (Does.vals (r_un e61 (bn_not _ false rfl)) ⟨rfl, Below.refl _ _, (fun h => absurd h (by decide))⟩)
    · intro a' w' hF' hb hd
      have e56 : a'.tmps.getD 56 undef = .bool false := hd _ 56 (Array.mem_of_getElem? (i := 0) rfl) rfl rfl
      have e62 : a'.tmps.getD 62 undef = .bool false := hd _ 62 (Array.mem_of_getElem? (i := 1) rfl) rfl rfl
      exact if_does (wanted_free rfl) (Does.vals (r_pick_f e56 e62) ⟨rfl, Below.refl _ _, (fun h => absurd h (by decide))⟩)
    intro a w21 hF bb hall hne
    have e63 : a.tmps.getD 63 undef = .bool false := hall 45 63 rfl
    clear hall hne
    replace hf13 := hf13.below bb
    replace hd12 := hd12.below bb
    replace hh7 := hh7.below bb
    replace hn12 := hn12.below bb
    replace hf15 := hf15.below bb
    replace hd14 := hd14.below bb
    replace hh9 := hh9.below bb
    replace hn14 := hn14.below bb
    replace o7 := o7.below bb
    replace o8 := o8.below bb
    replace bel := below_to bel bb
    clear bb
    replace hF := hF.add e63
    clear e63
    refine E.nil ?_
    refine wp_cond_false (hF.at 0 rfl) ?_
    refine wp_skip ?_
    refine E.norm ?_
    refine wp_seq ?_
    refine wp_seq ?_
    refine E.seq ?_
    refine E.opv hF (r_load (hF.at 2 rfl) (ld_Rat (vs := [.bool b14, .slice ad14 n14 c14, .slice ae14 m14 d14]) o8 rfl rfl)) rfl rfl rfl rfl fun a hF => ?_
    refine E.call hF (r_call Try.func58 en58.1 en58.2 (map1 (hF.at 0 rfl))) (rsgn_any _ (((rawZ nega2 xa2 4 : Int) : Rat) / ((rawZ negb2 xb2 4 : Int) : Rat)) _ hh9) rfl rfl rfl rfl ?_
    rintro e w22 ⟨rfl, bb⟩
    refine ⟨_, rfl, ?_⟩
    intro a hF
    replace hf13 := hf13.below bb
    replace hd12 := hd12.below bb
    replace hh7 := hh7.below bb
    replace hn12 := hn12.below bb
    replace hf15 := hf15.below bb
    replace hd14 := hd14.below bb
    replace hh9 := hh9.below bb
    replace hn14 := hn14.below bb
    replace o7 := o7.below bb
    replace o8 := o8.below bb
    replace bel := below_to bel bb
    clear bb
    refine E.opv hF (r_bin (hF.at 0 rfl) ev_c eg_scalar (bi_int (ic_eql (c := false) (eq0f (fun e => hn0 (sz_eq0.1 e)))) (by simp))) rfl rfl rfl rfl fun a hF => ?_
    refine E.nil ?_
    refine wp_cond_false (hF.at 0 rfl) ?_
    refine wp_skip ?_
    refine E.norm ?_
    refine wp_seq ?_
    refine E.drawn 16 mixed hF [72, 73, 74, 75, 76, 77, 78, 79, 80, 81, 82, 83, 84, 85, 86, 87] [(fun _ v => v = .agg #[.bool b12, .slice ad12 n12 c12, .slice ae12 m12 d12]), (fun _ v => v = .agg #[.bool b14, .slice ad14 n14 c14, .slice ae14 m14 d14]), (fun w v => Rq w v ((((rawZ nega1 xa1 4 : Int) : Rat) / ((rawZ negb1 xb1 4 : Int) : Rat)) / (((rawZ nega2 xa2 4 : Int) : Rat) / ((rawZ negb2 xb2 4 : Int) : Rat)))), (fun _ v => v = .agg #[.bool b14, .slice ad14 n14 c14, .slice ae14 m14 d14]), (fun w v => Rq w v (((((rawZ nega1 xa1 4 : Int) : Rat) / ((rawZ negb1 xb1 4 : Int) : Rat)) / (((rawZ nega2 xa2 4 : Int) : Rat) / ((rawZ negb2 xb2 4 : Int) : Rat))) * (((rawZ nega2 xa2 4 : Int) : Rat) / ((rawZ negb2 xb2 4 : Int) : Rat)))), (fun _ v => v = .agg #[.bool b12, .slice ad12 n12 c12, .slice ae12 m12 d12]), (fun _ v => v = .bool true), (fun _ v => v = .bool true), (fun _ v => v = .agg #[.bool b12, .slice ad12 n12 c12, .slice ae12 m12 d12]), (fun _ v => v = .agg #[.bool b14, .slice ad14 n14 c14, .slice ae14 m14 d14]), (fun w v => Rq w v ((((rawZ nega1 xa1 4 : Int) : Rat) / ((rawZ negb1 xb1 4 : Int) : Rat)) * (((rawZ nega2 xa2 4 : Int) : Rat) / ((rawZ negb2 xb2 4 : Int) : Rat)))), (fun _ v => v = .agg #[.bool b14, .slice ad14 n14 c14, .slice ae14 m14 d14]), (fun w v => Rq w v (((((rawZ nega1 xa1 4 : Int) : Rat) / ((rawZ negb1 xb1 4 : Int) : Rat)) * (((rawZ nega2 xa2 4 : Int) : Rat) / ((rawZ negb2 xb2 4 : Int) : Rat))) / (((rawZ nega2 xa2 4 : Int) : Rat) / ((rawZ negb2 xb2 4 : Int) : Rat)))), (fun _ v => v = .agg #[.bool b12, .slice ad12 n12 c12, .slice ae12 m12 d12]), (fun _ v => v = .bool true), (fun _ v => v = .bool true)] [] (by decide +kernel) (by decide +kernel) rfl rfl rfl ⟨(Mb.eq _), (Mb.eq _), (fun _ _ _ h hb => h.below hb), (Mb.eq _), (fun _ _ _ h hb => h.below hb), (Mb.eq _), (Mb.eq _), (Mb.eq _), (Mb.eq _), (Mb.eq _), (fun _ _ _ h hb => h.below hb), (Mb.eq _), (fun _ _ _ h hb => h.below hb), (Mb.eq _), (Mb.eq _), (Mb.eq _), trivial⟩ trivial ⟨?_, ?_, ?_, ?_, ?_, ?_, ?_, ?_, ?_, ?_, ?_, ?_, ?_, ?_, ?_, ?_, trivial⟩ ?_
    · intro a' w' hF' hb hd
      exact if_does (wanted_free rfl) (Does.vals (r_load (hF'.at 6 rfl) (ld_Rat (vs := [.bool b12, .slice ad12 n12 c12, .slice ae12 m12 d12]) (o7.below hb) rfl rfl)) ⟨rfl, Below.refl _ _, (fun h => absurd h (by decide))⟩)
    · intro a' w' hF' hb hd
      exact if_does (wanted_free rfl) (Does.vals (r_load (hF'.at 5 rfl) (ld_Rat (vs := [.bool b14, .slice ad14 n14 c14, .slice ae14 m14 d14]) (o8.below hb) rfl rfl)) ⟨rfl, Below.refl _ _, (fun h => absurd h (by decide))⟩)
    · intro a' w' hF' hb hd
      have e72 : a'.tmps.getD 72 undef = .agg #[.bool b12, .slice ad12 n12 c12, .slice ae12 m12 d12] := hd _ 72 (Array.mem_of_getElem? (i := 0) rfl) rfl rfl
      have e73 : a'.tmps.getD 73 undef = .agg #[.bool b14, .slice ad14 n14 c14, .slice ae14 m14 d14] := hd _ 73 (Array.mem_of_getElem? (i := 1) rfl) rfl rfl
      refine if_does (wanted_free rfl) (Does.calls (r_call Try.func66 en66.1 en66.2 (map2 e72 e73)) (rDiv_any _ _ (((rawZ nega1 xa1 4 : Int) : Rat) / ((rawZ negb1 xb1 4 : Int) : Rat)) (((rawZ nega2 xa2 4 : Int) : Rat) / ((rawZ negb2 xb2 4 : Int) : Rat)) 4 _ (hh7.below hb) (hh9.below hb) ((own5_lim nega1 negb1 oka1 okb1 4 (by decide)).up _ (by omega)) ((own5_lim nega2 negb2 oka2 okb2 4 (by decide)).up _ (by omega)) (by omega)) ?_)
      rintro e w'' ⟨v', rfl, h', bb⟩
      exact ⟨_, rfl, h', bb, (fun h => absurd h (by decide))⟩
    · intro a' w' hF' hb hd
      exact if_does (wanted_free rfl) (Does.vals (r_load (hF'.at 5 rfl) (ld_Rat (vs := [.bool b14, .slice ad14 n14 c14, .slice ae14 m14 d14]) (o8.below hb) rfl rfl)) ⟨rfl, Below.refl _ _, (fun h => absurd h (by decide))⟩)
    · intro a' w' hF' hb hd
      obtain ⟨v74_0, e74, h74_1⟩ : ∃ v, a'.tmps.getD 74 undef = v ∧ Rq w' v ((((rawZ nega1 xa1 4 : Int) : Rat) / ((rawZ negb1 xb1 4 : Int) : Rat)) / (((rawZ nega2 xa2 4 : Int) : Rat) / ((rawZ negb2 xb2 4 : Int) : Rat))) := ⟨_, rfl, hd _ 74 (Array.mem_of_getElem? (i := 0) rfl) rfl rfl⟩
      have e75 : a'.tmps.getD 75 undef = .agg #[.bool b14, .slice ad14 n14 c14, .slice ae14 m14 d14] := hd _ 75 (Array.mem_of_getElem? (i := 1) rfl) rfl rfl
      refine if_does (wanted_free rfl) (Does.calls (r_call Try.func64 en64.1 en64.2 (map2 e74 e75)) (rMul_any _ _ ((((rawZ nega1 xa1 4 : Int) : Rat) / ((rawZ negb1 xb1 4 : Int) : Rat)) / (((rawZ nega2 xa2 4 : Int) : Rat) / ((rawZ negb2 xb2 4 : Int) : Rat))) (((rawZ nega2 xa2 4 : Int) : Rat) / ((rawZ negb2 xb2 4 : Int) : Rat)) (max (4 + 4) 4) _ h74_1 (hh9.below hb) ((rlim_div (own5_lim nega1 negb1 oka1 okb1 4 (by decide)) (own5_lim nega2 negb2 oka2 okb2 4 (by decide))).up _ (by omega)) ((own5_lim nega2 negb2 oka2 okb2 4 (by decide)).up _ (by omega)) (by omega)) ?_)
      rintro e w'' ⟨v', rfl, h', bb⟩
      exact ⟨_, rfl, h', bb, (fun h => absurd h (by decide))⟩
    · intro a' w' hF' hb hd
      exact if_does (wanted_free rfl) (Does.vals (r_load (hF'.at 6 rfl) (ld_Rat (vs := [.bool b12, .slice ad12 n12 c12, .slice ae12 m12 d12]) (o7.below hb) rfl rfl)) ⟨rfl, Below.refl _ _, (fun h => absurd h (by decide))⟩)
    · intro a' w' hF' hb hd
      obtain ⟨v76_0, e76, h76_1⟩ : ∃ v, a'.tmps.getD 76 undef = v ∧ Rq w' v (((((rawZ nega1 xa1 4 : Int) : Rat) / ((rawZ negb1 xb1 4 : Int) : Rat)) / (((rawZ nega2 xa2 4 : Int) : Rat) / ((rawZ negb2 xb2 4 : Int) : Rat))) * (((rawZ nega2 xa2 4 : Int) : Rat) / ((rawZ negb2 xb2 4 : Int) : Rat))) := ⟨_, rfl, hd _ 76 (Array.mem_of_getElem? (i := 0) rfl) rfl rfl⟩
      have e77 : a'.tmps.getD 77 undef = .agg #[.bool b12, .slice ad12 n12 c12, .slice ae12 m12 d12] := hd _ 77 (Array.mem_of_getElem? (i := 1) rfl) rfl rfl
      refine if_does (wanted_free rfl) (Does.calls (r_call Try.func70 en70.1 en70.2 (map2 e76 e77)) (rSame_true _ _ (((((rawZ nega1 xa1 4 : Int) : Rat) / ((rawZ negb1 xb1 4 : Int) : Rat)) / (((rawZ nega2 xa2 4 : Int) : Rat) / ((rawZ negb2 xb2 4 : Int) : Rat))) * (((rawZ nega2 xa2 4 : Int) : Rat) / ((rawZ negb2 xb2 4 : Int) : Rat))) (((rawZ nega1 xa1 4 : Int) : Rat) / ((rawZ negb1 xb1 4 : Int) : Rat)) _ h76_1 (hh7.below hb) (rdiv_mul h0)) ?_)
      rintro e w'' ⟨rfl, bb⟩
      exact ⟨_, rfl, rfl, bb, (fun h => absurd h (by decide))⟩
    · intro a' w' hF' hb hd
      have e78 : a'.tmps.getD 78 undef = .bool true := hd _ 78 (Array.mem_of_getElem? (i := 0) rfl) rfl rfl
      exact if_does (wanted_free rfl) (Does.vals (r_move e78) ⟨rfl, Below.refl _ _, (fun h => absurd h (by decide))⟩)
    · intro a' w' hF' hb hd
      have e79 : a'.tmps.getD 79 undef = .bool true := hd _ 79 (Array.mem_of_getElem? (i := 0) rfl) rfl rfl
      exact if_does (wanted_by rfl rfl e79 rfl) (Does.vals (r_load (hF'.at 6 rfl) (ld_Rat (vs := [.bool b12, .slice ad12 n12 c12, .slice ae12 m12 d12]) (o7.below hb) rfl rfl)) ⟨rfl, Below.refl _ _, (fun h => absurd h (by decide))⟩)
    · intro a' w' hF' hb hd
      have e79 : a'.tmps.getD 79 undef = .bool true := hd _ 79 (Array.mem_of_getElem? (i := 0) rfl) rfl rfl
      exact if_does (wanted_by rfl rfl e79 rfl) (Does.vals (r_load (hF'.at 5 rfl) (ld_Rat (vs := [.bool b14, .slice ad14 n14 c14, .slice ae14 m14 d14]) (o8.below hb) rfl rfl)) ⟨rfl, Below.refl _ _, (fun h => absurd h (by decide))⟩)
    · intro a' w' hF' hb hd
      have e79 : a'.tmps.getD 79 undef = .bool true := hd _ 79 (Array.mem_of_getElem? (i := 2) rfl) rfl rfl
      have e80 : a'.tmps.getD 80 undef = .agg #[.bool b12, .slice ad12 n12 c12, .slice ae12 m12 d12] := hd _ 80 (Array.mem_of_getElem? (i := 0) rfl) rfl rfl
      have e81 : a'.tmps.getD 81 undef = .agg #[.bool b14, .slice ad14 n14 c14, .slice ae14 m14 d14] := hd _ 81 (Array.mem_of_getElem? (i := 1) rfl) rfl rfl
      refine if_does (wanted_by rfl rfl e79 rfl) (Does.calls (r_call Try.func64 en64.1 en64.2 (map2 e80 e81)) (rMul_any _ _ (((rawZ nega1 xa1 4 : Int) : Rat) / ((rawZ negb1 xb1 4 : Int) : Rat)) (((rawZ nega2 xa2 4 : Int) : Rat) / ((rawZ negb2 xb2 4 : Int) : Rat)) 4 _ (hh7.below hb) (hh9.below hb) ((own5_lim nega1 negb1 oka1 okb1 4 (by decide)).up _ (by omega)) ((own5_lim nega2 negb2 oka2 okb2 4 (by decide)).up _ (by omega)) (by omega)) ?_)
      rintro e w'' ⟨v', rfl, h', bb⟩
      exact ⟨_, rfl, h', bb, (fun h => absurd h (by decide))⟩
    · intro a' w' hF' hb hd
      have e79 : a'.tmps.getD 79 undef = .bool true := hd _ 79 (Array.mem_of_getElem? (i := 0) rfl) rfl rfl
      exact if_does (wanted_by rfl rfl e79 rfl) (Does.vals (r_load (hF'.at 5 rfl) (ld_Rat (vs := [.bool b14, .slice ad14 n14 c14, .slice ae14 m14 d14]) (o8.below hb) rfl rfl)) ⟨rfl, Below.refl _ _, (fun h => absurd h (by decide))⟩)
    · intro a' w' hF' hb hd
      have e79 : a'.tmps.getD 79 undef = .bool true := hd _ 79 (Array.mem_of_getElem? (i := 3) rfl) rfl rfl
      obtain ⟨v82_0, e82, h82_1⟩ : ∃ v, a'.tmps.getD 82 undef = v ∧ Rq w' v ((((rawZ nega1 xa1 4 : Int) : Rat) / ((rawZ negb1 xb1 4 : Int) : Rat)) * (((rawZ nega2 xa2 4 : Int) : Rat) / ((rawZ negb2 xb2 4 : Int) : Rat))) := ⟨_, rfl, hd _ 82 (Array.mem_of_getElem? (i := 0) rfl) rfl rfl⟩
      have e83 : a'.tmps.getD 83 undef = .agg #[.bool b14, .slice ad14 n14 c14, .slice ae14 m14 d14] := hd _ 83 (Array.mem_of_getElem? (i := 1) rfl) rfl rfl
      refine if_does (wanted_by rfl rfl e79 rfl) (Does.calls (r_call Try.func66 en66.1 en66.2 (map2 e82 e83)) (rDiv_any _ _ ((((rawZ nega1 xa1 4 : Int) : Rat) / ((rawZ negb1 xb1 4 : Int) : Rat)) * (((rawZ nega2 xa2 4 : Int) : Rat) / ((rawZ negb2 xb2 4 : Int) : Rat))) (((rawZ nega2 xa2 4 : Int) : Rat) / ((rawZ negb2 xb2 4 : Int) : Rat)) (max (4 + 4) 4) _ h82_1 (hh9.below hb) ((rlim_mul (own5_lim nega1 negb1 oka1 okb1 4 (by decide)) (own5_lim nega2 negb2 oka2 okb2 4 (by decide))).up _ (by omega)) ((own5_lim nega2 negb2 oka2 okb2 4 (by decide)).up _ (by omega)) (by omega)) ?_)
      rintro e w'' ⟨v', rfl, h', bb⟩
      exact ⟨_, rfl, h', bb, (fun h => absurd h (by decide))⟩
    · intro a' w' hF' hb hd
      have e79 : a'.tmps.getD 79 undef = .bool true := hd _ 79 (Array.mem_of_getElem? (i := 0) rfl) rfl rfl
      exact if_does (wanted_by rfl rfl e79 rfl) (Does.vals (r_load (hF'.at 6 rfl) (ld_Rat (vs := [.bool b12, .slice ad12 n12 c12, .slice ae12 m12 d12]) (o7.below hb) rfl rfl)) ⟨rfl, Below.refl _ _, (fun h => absurd h (by decide))⟩)
    · intro a' w' hF' hb hd
      have e79 : a'.tmps.getD 79 undef = .bool true := hd _ 79 (Array.mem_of_getElem? (i := 3) rfl) rfl rfl
      obtain ⟨v84_0, e84, h84_1⟩ : ∃ v, a'.tmps.getD 84 undef = v ∧ Rq w' v (((((rawZ nega1 xa1 4 : Int) : Rat) / ((rawZ negb1 xb1 4 : Int) : Rat)) * (((rawZ nega2 xa2 4 : Int) : Rat) / ((rawZ negb2 xb2 4 : Int) : Rat))) / (((rawZ nega2 xa2 4 : Int) : Rat) / ((rawZ negb2 xb2 4 : Int) : Rat))) := ⟨_, rfl, hd _ 84 (Array.mem_of_getElem? (i := 0) rfl) rfl rfl⟩
      have e85 : a'.tmps.getD 85 undef = .agg #[.bool b12, .slice ad12 n12 c12, .slice ae12 m12 d12] := hd _ 85 (Array.mem_of_getElem? (i := 1) rfl) rfl rfl
      refine if_does (wanted_by rfl rfl e79 rfl) (Does.calls (r_call Try.func70 en70.1 en70.2 (map2 e84 e85)) (rSame_true _ _ (((((rawZ nega1 xa1 4 : Int) : Rat) / ((rawZ negb1 xb1 4 : Int) : Rat)) * (((rawZ nega2 xa2 4 : Int) : Rat) / ((rawZ negb2 xb2 4 : Int) : Rat))) / (((rawZ nega2 xa2 4 : Int) : Rat) / ((rawZ negb2 xb2 4 : Int) : Rat))) (((rawZ nega1 xa1 4 : Int) : Rat) / ((rawZ negb1 xb1 4 : Int) : Rat)) _ h84_1 (hh7.below hb) (rmul_div h0)) ?_)
      rintro e w'' ⟨rfl, bb⟩
      exact ⟨_, rfl, rfl, bb, (fun h => absurd h (by decide))⟩
    · intro a' w' hF' hb hd
      have e79 : a'.tmps.getD 79 undef = .bool true := hd _ 79 (Array.mem_of_getElem? (i := 0) rfl) rfl rfl
      have e86 : a'.tmps.getD 86 undef = .bool true := hd _ 86 (Array.mem_of_getElem? (i := 1) rfl) rfl rfl
      exact if_does (wanted_free rfl) (Does.vals (r_pick_t e79 e86) ⟨rfl, Below.refl _ _, (fun h => absurd h (by decide))⟩)
    intro a w23 hF bb hall hne
    have e87 : a.tmps.getD 87 undef = .bool true := hall 15 87 rfl
    clear hall hne
    replace bel := below_to bel bb
    clear bb
    replace hF := hF.add e87
    clear e87
    refine E.opset (L' := [(6, .bool true), (87, .bool true), (66, .bool false), (65, .int .i64 (sz (Rat.num (((rawZ nega2 xa2 4 : Int) : Rat) / ((rawZ negb2 xb2 4 : Int) : Rat))))), (64, .agg #[.bool b14, .slice ad14 n14 c14, .slice ae14 m14 d14]), (63, .bool false), (9, .pointer (some ⟨g9, 0, none⟩)), (8, .pointer (some ⟨g8, 0, none⟩)), (7, .pointer (some ⟨g7, 0, none⟩)), (17, .agg #[.bool b16, .slice ad16 n16 c16, .slice ae16 m16 d16]), (15, .agg #[.bool b14, .slice ad14 n14 c14, .slice ae14 m14 d14]), (13, .agg #[.bool b12, .slice ad12 n12 c12, .slice ae12 m12 d12]), (11, .bool false), (10, .bool true), (5, .pointer (some ⟨g5, 0, none⟩)), (4, .pointer (some ⟨g4, 0, none⟩)), (3, .pointer (some ⟨g3, 0, none⟩)), (0, .agg #[.bool nega1, .slice aa1 na1 ca1, .bool negb1, .slice ab1 nb1 cb1]), (1, .agg #[.bool nega2, .slice aa2 na2 ca2, .bool negb2, .slice ab2 nb2 cb2]), (2, .agg #[.bool nega3, .slice aa3 na3 ca3, .bool negb3, .slice ab3 nb3 cb3])]) hF (r_assign (hF.at 0 rfl)) rfl rfl rfl rfl fun a hF => ?_
    refine E.nil ?_
    refine wp_ret ?_
    refine bodyPost_ret (res_tmp Try.results12 (hF.at 0 rfl)) hF.dfr ?_
    exact ⟨rfl, bel⟩

end Go.Proofs.Ytjgafncpahbjkaa
