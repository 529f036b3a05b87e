/- CutMoves. -/
import Derived.Test.YthoiocjbjfhgpaaGreatCuD
namespace Go.Proofs.YthoiocjbjfhgpaaGreat
open Go.RowKit
set_option maxRecDepth 100000
set_option linter.unusedVariables false

set_option maxHeartbeats 8000000 in
theorem cutMoves_walk (nega1 : Bool) (aa1 : Option Addr) (na1 ca1 : Nat) (xa1 : List Nat) (negb1 : Bool) (ab1 : Option Addr) (nb1 cb1 : Nat) (xb1 : List Nat) (nega2 : Bool) (aa2 : Option Addr) (na2 ca2 : Nat) (xa2 : List Nat) (negb2 : Bool) (ab2 : Option Addr) (nb2 cb2 : Nat) (xb2 : List Nat) (n : Int) (w : World) (hM : MLen w) (ia1 : InX w aa1 na1 ca1 xa1) (ib1 : InX w ab1 nb1 cb1 xb1) (ia2 : InX w aa2 na2 ca2 xa2) (ib2 : InX w ab2 nb2 cb2 xb2) (b1 : -9223372036854775808 ≤ n) (b2 : n ≤ 9223372036854775807) :
    Calls Tryz.prog 5 #[.agg #[.bool nega1, .slice aa1 na1 ca1, .bool negb1, .slice ab1 nb1 cb1], .agg #[.bool nega2, .slice aa2 na2 ca2, .bool negb2, .slice ab2 nb2 cb2], .int .i64 n] w (ValPost w (.bool true)) := by
  by_cases h0 : sz (Rat.num (((rawZ nega2 xa2 4 : Int) : Rat) / ((rawZ negb2 xb2 4 : Int) : Rat))) ≤ 0
  · have oka1 := ia1.ok
    have okb1 := ib1.ok
    have oka2 := ia2.ok
    have okb2 := ib2.ok
    have bel : Below w.heap.size w w := Below.refl _ _
    refine E.enter (nt := 45) (L := [(0, .agg #[.bool nega1, .slice aa1 na1 ca1, .bool negb1, .slice ab1 nb1 cb1]), (1, .agg #[.bool nega2, .slice aa2 na2 ca2, .bool negb2, .slice ab2 nb2 cb2]), (2, .int .i64 n)]) Tryz.func5 rfl rfl rfl (args_cons (i := 0) rfl (args_cons (i := 1) rfl (args_cons (i := 2) rfl args_nil))) ?_
    intro a hF
    refine wp_seq ?_
    refine E.seq ?_
    obtain ⟨g3, w1, ge3, hr, bb, o3⟩ := own_box (P := Tryz.prog) (w := w) (cs := [.bool nega1, .slice aa1 na1 ca1, .bool negb1, .slice ab1 nb1 cb1]) (v := .agg #[.bool nega1, .slice aa1 na1 ca1, .bool negb1, .slice ab1 nb1 cb1]) 26 rfl (niB (niS (niB (niS ni0))))
    replace ge3 : w.heap.size ≤ g3 := by rw [← ge3]; exact bel.size
    refine E.opv hF (r_box (hF.at 0 rfl) hr) rfl rfl rfl rfl fun a hF => ?_
    clear hr
    replace ia2 := ia2.below bb
    replace ib2 := ib2.below bb
    replace ia1 := ia1.below bb
    replace ib1 := ib1.below bb
    replace bel := below_to bel bb
    clear bb
    obtain ⟨g4, w2, ge4, hr, bb, o4⟩ := own_box (P := Tryz.prog) (w := w1) (cs := [.bool nega2, .slice aa2 na2 ca2, .bool negb2, .slice ab2 nb2 cb2]) (v := .agg #[.bool nega2, .slice aa2 na2 ca2, .bool negb2, .slice ab2 nb2 cb2]) 26 rfl (niB (niS (niB (niS ni0))))
    have ne3_4 : g3 ≠ g4 := by rw [← ge4]; exact o3.ne_new
    replace ge4 : w.heap.size ≤ g4 := by rw [← ge4]; exact bel.size
    refine E.opv hF (r_box (hF.at 2 rfl) hr) rfl rfl rfl rfl fun a hF => ?_
    clear hr
    replace ia1 := ia1.below bb
    replace ib1 := ib1.below bb
    replace ia2 := ia2.below bb
    replace ib2 := ib2.below bb
    replace o3 := o3.below bb
    replace bel := below_to bel bb
    clear bb
    refine E.opv hF (r_assign ev_c) rfl rfl rfl rfl fun a hF => ?_
    refine E.nil ?_
    refine wp_seq ?_
    refine wp_seq ?_
    refine E.seq ?_
    refine E.call hF (r_call Tryz.func9 en9.1 en9.2 map0) (awake6_any _ (hM.below bel)) rfl rfl rfl rfl ?_
    rintro e w3 ⟨rfl, bb⟩
    refine ⟨_, rfl, ?_⟩
    intro a hF
    replace ia1 := ia1.below bb
    replace ib1 := ib1.below bb
    replace ia2 := ia2.below bb
    replace ib2 := ib2.below bb
    replace o3 := o3.below bb
    replace o4 := o4.below bb
    replace bel := below_to bel bb
    clear bb
    refine E.opv hF (r_un (hF.at 0 rfl) (bn_not _ false rfl)) rfl rfl rfl rfl fun a hF => ?_
    refine E.nil ?_
    refine wp_cond_false (hF.at 0 rfl) ?_
    refine wp_skip ?_
    refine E.norm ?_
    refine wp_seq ?_
    refine E.drawn 9 mixed hF [12, 13, 14, 15, 16, 17, 7, 8, 9] [(fun _ v => v = .agg #[.bool nega1, .slice aa1 na1 ca1, .bool negb1, .slice ab1 nb1 cb1]), (fun w v => Rq w v (((rawZ nega1 xa1 4 : Int) : Rat) / ((rawZ negb1 xb1 4 : Int) : Rat))), (fun _ v => v = .agg #[.bool nega2, .slice aa2 na2 ca2, .bool negb2, .slice ab2 nb2 cb2]), (fun w v => Rq w v (((rawZ nega2 xa2 4 : Int) : Rat) / ((rawZ negb2 xb2 4 : Int) : Rat))), (fun _ v => v = .int .i64 n), (fun w v => Rq w v (((n : Int) : Rat))), (fun w v => ∃ g, v = .pointer (some ⟨g, 0, none⟩) ∧ w3.heap.size ≤ g ∧ Own w g [.bool false, .slice none 0 0, .slice none 0 0]), (fun w v => ∃ g, v = .pointer (some ⟨g, 0, none⟩) ∧ w3.heap.size ≤ g ∧ Own w g [.bool false, .slice none 0 0, .slice none 0 0]), (fun w v => ∃ g, v = .pointer (some ⟨g, 0, none⟩) ∧ w3.heap.size ≤ g ∧ Own w g [.bool false, .slice none 0 0, .slice none 0 0])] [6, 7, 8] (by decide +kernel) (by decide +kernel) rfl rfl rfl ⟨(Mb.eq _), (fun _ _ _ h hb => h.below hb), (Mb.eq _), (fun _ _ _ h hb => h.below hb), (Mb.eq _), (fun _ _ _ h hb => h.below hb), (fun _ _ _ ⟨g, e, l, o⟩ hb => ⟨g, e, l, o.below hb⟩), (fun _ _ _ ⟨g, e, l, o⟩ hb => ⟨g, e, l, o.below hb⟩), (fun _ _ _ ⟨g, e, l, o⟩ hb => ⟨g, e, l, o.below hb⟩), trivial⟩ ⟨fun _ _ ⟨g, e, _, o⟩ => ⟨g, e, o.lt⟩, ⟨fun _ _ ⟨g, e, _, o⟩ => ⟨g, e, o.lt⟩, ⟨fun _ _ ⟨g, e, _, o⟩ => ⟨g, e, o.lt⟩, trivial⟩⟩⟩ ⟨?_, ?_, ?_, ?_, ?_, ?_, ?_, ?_, ?_, trivial⟩ ?_
    · intro a' w' hF' hb hd
      exact if_does (wanted_free rfl) (Does.vals (r_load (hF'.at 4 rfl) (ld_Raw5 (vs := [.bool nega1, .slice aa1 na1 ca1, .bool negb1, .slice ab1 nb1 cb1]) (o3.below hb) rfl rfl)) ⟨rfl, Below.refl _ _, (fun h => absurd h (by decide))⟩)
    · intro a' w' hF' hb hd
      have e12 : a'.tmps.getD 12 undef = .agg #[.bool nega1, .slice aa1 na1 ca1, .bool negb1, .slice ab1 nb1 cb1] := hd _ 12 (Array.mem_of_getElem? (i := 0) rfl) rfl rfl
      refine if_does (wanted_free rfl) (Does.calls (r_call Tryz.func10 en10.1 en10.2 (map2 e12 ev_c)) (Own5_any nega1 aa1 na1 ca1 xa1 negb1 ab1 nb1 cb1 xb1 4 _ (ia1.below hb) (ib1.below hb) (by omega)) ?_)
      rintro e w'' ⟨v', rfl, h', bb⟩
      exact ⟨_, rfl, h', bb, (fun h => absurd h (by decide))⟩
    · intro a' w' hF' hb hd
      exact if_does (wanted_free rfl) (Does.vals (r_load (hF'.at 3 rfl) (ld_Raw5 (vs := [.bool nega2, .slice aa2 na2 ca2, .bool negb2, .slice ab2 nb2 cb2]) (o4.below hb) rfl rfl)) ⟨rfl, Below.refl _ _, (fun h => absurd h (by decide))⟩)
    · intro a' w' hF' hb hd
      have e14 : a'.tmps.getD 14 undef = .agg #[.bool nega2, .slice aa2 na2 ca2, .bool negb2, .slice ab2 nb2 cb2] := hd _ 14 (Array.mem_of_getElem? (i := 0) rfl) rfl rfl
      refine if_does (wanted_free rfl) (Does.calls (r_call Tryz.func10 en10.1 en10.2 (map2 e14 ev_c)) (Own5_any nega2 aa2 na2 ca2 xa2 negb2 ab2 nb2 cb2 xb2 4 _ (ia2.below hb) (ib2.below hb) (by omega)) ?_)
      rintro e w'' ⟨v', rfl, h', bb⟩
      exact ⟨_, rfl, h', bb, (fun h => absurd h (by decide))⟩
    · intro a' w' hF' hb hd
      exact if_does (wanted_free rfl) (Does.vals (r_move (hF'.at 7 rfl)) ⟨rfl, Below.refl _ _, (fun h => absurd h (by decide))⟩)
    · intro a' w' hF' hb hd
      have e16 : a'.tmps.getD 16 undef = .int .i64 n := hd _ 16 (Array.mem_of_getElem? (i := 0) rfl) rfl rfl
      refine if_does (wanted_free rfl) (Does.calls (r_call Tryz.func24 en24.1 en24.2 (map1 e16)) (rWhole_any (n) _ b1 b2) ?_)
      rintro e w'' ⟨v', rfl, h', bb⟩
      exact ⟨_, rfl, h', bb, (fun h => absurd h (by decide))⟩
    · intro a' w' hF' hb hd
      obtain ⟨g, w2, ge, hr, bb, on⟩ := own_alloc (P := Tryz.prog) (w := w') (cs := [.bool false, .slice none 0 0, .slice none 0 0]) 32 ze_Rat rfl (niB (niS (niS ni0)))
      subst ge
      exact if_does (wanted_free rfl) (Does.vals (r_alloc hr) ⟨⟨_, rfl, hb.size, on⟩, bb, fun _ => rfl⟩)
    · intro a' w' hF' hb hd
      obtain ⟨g, w2, ge, hr, bb, on⟩ := own_alloc (P := Tryz.prog) (w := w') (cs := [.bool false, .slice none 0 0, .slice none 0 0]) 32 ze_Rat rfl (niB (niS (niS ni0)))
      subst ge
      exact if_does (wanted_free rfl) (Does.vals (r_alloc hr) ⟨⟨_, rfl, hb.size, on⟩, bb, fun _ => rfl⟩)
    · intro a' w' hF' hb hd
      obtain ⟨g, w2, ge, hr, bb, on⟩ := own_alloc (P := Tryz.prog) (w := w') (cs := [.bool false, .slice none 0 0, .slice none 0 0]) 32 ze_Rat rfl (niB (niS (niS ni0)))
      subst ge
      exact if_does (wanted_free rfl) (Does.vals (r_alloc hr) ⟨⟨_, rfl, hb.size, on⟩, bb, fun _ => rfl⟩)
    intro a w4 hF bb hall hne
    obtain ⟨vv5, e13, hh6⟩ : ∃ v, a.tmps.getD 13 undef = v ∧ Rq w4 v (((rawZ nega1 xa1 4 : Int) : Rat) / ((rawZ negb1 xb1 4 : Int) : Rat)) := ⟨_, rfl, hall 1 13 rfl⟩
    obtain ⟨vv7, e15, hh8⟩ : ∃ v, a.tmps.getD 15 undef = v ∧ Rq w4 v (((rawZ nega2 xa2 4 : Int) : Rat) / ((rawZ negb2 xb2 4 : Int) : Rat)) := ⟨_, rfl, hall 3 15 rfl⟩
    obtain ⟨vv9, e17, hh10⟩ : ∃ v, a.tmps.getD 17 undef = v ∧ Rq w4 v (((n : Int) : Rat)) := ⟨_, rfl, hall 5 17 rfl⟩
    obtain ⟨g7, e7, ge7, o7⟩ : ∃ g, a.tmps.getD 7 undef = .pointer (some ⟨g, 0, none⟩) ∧ w3.heap.size ≤ g ∧ Own w4 g [.bool false, .slice none 0 0, .slice none 0 0] := hall 6 7 rfl
    obtain ⟨g8, e8, ge8, o8⟩ : ∃ g, a.tmps.getD 8 undef = .pointer (some ⟨g, 0, none⟩) ∧ w3.heap.size ≤ g ∧ Own w4 g [.bool false, .slice none 0 0, .slice none 0 0] := hall 7 8 rfl
    have ne7_8 : g7 ≠ g8 := by intro e; exact hne 6 7 7 8 rfl rfl (by decide) rfl rfl (by rw [e7, e8, e])
    obtain ⟨g9, e9, ge9, o9⟩ : ∃ g, a.tmps.getD 9 undef = .pointer (some ⟨g, 0, none⟩) ∧ w3.heap.size ≤ g ∧ Own w4 g [.bool false, .slice none 0 0, .slice none 0 0] := hall 8 9 rfl
    have ne7_9 : g7 ≠ g9 := by intro e; exact hne 6 8 7 9 rfl rfl (by decide) rfl rfl (by rw [e7, e9, e])
    have ne8_9 : g8 ≠ g9 := by intro e; exact hne 7 8 8 9 rfl rfl (by decide) rfl rfl (by rw [e8, e9, e])
    replace ge7 : w.heap.size ≤ g7 := Nat.le_trans bel.size ge7
    replace ge8 : w.heap.size ≤ g8 := Nat.le_trans bel.size ge8
    replace ge9 : w.heap.size ≤ g9 := Nat.le_trans bel.size ge9
    clear hall hne
    replace bel := below_to bel bb
    clear bb
    obtain ⟨b11, ad11, n11, c11, ae11, m11, d11, rfl, hn11, hd11⟩ := Rq.shape hh6
    have hf12 := Wc.abs hn11
    replace hF := hF.add e13
    clear e13
    obtain ⟨b13, ad13, n13, c13, ae13, m13, d13, rfl, hn13, hd13⟩ := Rq.shape hh8
    have hf14 := Wc.abs hn13
    replace hF := hF.add e15
    clear e15
    obtain ⟨b15, ad15, n15, c15, ae15, m15, d15, rfl, hn15, hd15⟩ := Rq.shape hh10
    have hf16 := Wc.abs hn15
    replace hF := hF.add e17
    clear e17
    replace hF := hF.add e7
    clear e7
    replace hF := hF.add e8
    clear e8
    replace hF := hF.add e9
    clear e9
    obtain ⟨w17, hr, tu, on⟩ := st_Rat (vs := [.bool b11, .slice ad11 n11 c11, .slice ae11 m11 d11]) o7 rfl rfl (ocB (ocS (ocS oc0))) (niB (niS (niS ni0))) (o := 0) rfl
    have kp := tu.keep o7
    refine E.st hF (r_store (hF.at 2 rfl) (hF.at 5 rfl) (hr _ rfl)) rfl rfl fun a hF => ?_
    clear hr
    replace hh10 := hh10.keep kp
    replace hn15 := hn15.keep kp
    replace hf16 := hf16.keep kp
    replace hd15 := hd15.keep kp
    replace hh8 := hh8.keep kp
    replace hn13 := hn13.keep kp
    replace hf14 := hf14.keep kp
    replace hd13 := hd13.keep kp
    replace hh6 := hh6.keep kp
    replace hn11 := hn11.keep kp
    replace hf12 := hf12.keep kp
    replace hd11 := hd11.keep kp
    replace o8 := tu.own o8 (Ne.symm ne7_8)
    replace o9 := tu.own o9 (Ne.symm ne7_9)
    replace bel := tu.below bel ge7
    clear tu kp
    replace o7 := on
    clear on
    obtain ⟨w18, hr, tu, on⟩ := st_Rat (vs := [.bool b13, .slice ad13 n13 c13, .slice ae13 m13 d13]) o8 rfl rfl (ocB (ocS (ocS oc0))) (niB (niS (niS ni0))) (o := 0) rfl
    have kp := tu.keep o8
    refine E.st hF (r_store (hF.at 1 rfl) (hF.at 4 rfl) (hr _ rfl)) rfl rfl fun a hF => ?_
    clear hr
    replace hh10 := hh10.keep kp
    replace hn15 := hn15.keep kp
    replace hf16 := hf16.keep kp
    replace hd15 := hd15.keep kp
    replace hf12 := hf12.keep kp
    replace hd11 := hd11.keep kp
    replace hh6 := hh6.keep kp
    replace hn11 := hn11.keep kp
    replace hh8 := hh8.keep kp
    replace hn13 := hn13.keep kp
    replace hf14 := hf14.keep kp
    replace hd13 := hd13.keep kp
    replace o7 := tu.own o7 ne7_8
    replace o9 := tu.own o9 (Ne.symm ne8_9)
    replace bel := tu.below bel ge8
    clear tu kp
    replace o8 := on
    clear on
    obtain ⟨w19, hr, tu, on⟩ := st_Rat (vs := [.bool b15, .slice ad15 n15 c15, .slice ae15 m15 d15]) o9 rfl rfl (ocB (ocS (ocS oc0))) (niB (niS (niS ni0))) (o := 0) rfl
    have kp := tu.keep o9
    refine E.st hF (r_store (hF.at 0 rfl) (hF.at 3 rfl) (hr _ rfl)) rfl rfl fun a hF => ?_
    clear hr
    replace hf12 := hf12.keep kp
    replace hd11 := hd11.keep kp
    replace hh6 := hh6.keep kp
    replace hn11 := hn11.keep kp
    replace hf14 := hf14.keep kp
    replace hd13 := hd13.keep kp
    replace hh8 := hh8.keep kp
    replace hn13 := hn13.keep kp
    replace hh10 := hh10.keep kp
    replace hn15 := hn15.keep kp
    replace hf16 := hf16.keep kp
    replace hd15 := hd15.keep kp
    replace o7 := tu.own o7 ne7_9
    replace o8 := tu.own o8 ne8_9
    replace bel := tu.below bel ge9
    clear tu kp
    replace o9 := on
    clear on
    refine E.nil ?_
    refine wp_seq ?_
    refine wp_seq ?_
    refine E.drawn 11 mixed hF [18, 19, 20, 21, 22, 23, 24, 25, 26, 27, 28] [(fun _ v => v = .agg #[.bool b11, .slice ad11 n11 c11, .slice ae11 m11 d11]), (fun _ v => v = .agg #[.bool b15, .slice ad15 n15 c15, .slice ae15 m15 d15]), (fun w v => Rq w v ((((rawZ nega1 xa1 4 : Int) : Rat) / ((rawZ negb1 xb1 4 : Int) : Rat)) + (((n : Int) : Rat)))), (fun w v => Wc w v (Rat.floor ((((rawZ nega1 xa1 4 : Int) : Rat) / ((rawZ negb1 xb1 4 : Int) : Rat)) + (((n : Int) : Rat))))), (fun _ v => v = .agg #[.bool b11, .slice ad11 n11 c11, .slice ae11 m11 d11]), (fun w v => Wc w v (Rat.floor (((rawZ nega1 xa1 4 : Int) : Rat) / ((rawZ negb1 xb1 4 : Int) : Rat)))), (fun _ v => v = .int .i64 n), (fun w v => Wc w v (n)), (fun w v => Wc w v ((Rat.floor (((rawZ nega1 xa1 4 : Int) : Rat) / ((rawZ negb1 xb1 4 : Int) : Rat))) + n)), (fun _ v => v = .int .i64 (ci (Rat.floor ((((rawZ nega1 xa1 4 : Int) : Rat) / ((rawZ negb1 xb1 4 : Int) : Rat)) + (((n : Int) : Rat)))) ((Rat.floor (((rawZ nega1 xa1 4 : Int) : Rat) / ((rawZ negb1 xb1 4 : Int) : Rat))) + n))), (fun _ v => v = .bool false)] [] (by decide +kernel) (by decide +kernel) rfl rfl rfl ⟨(Mb.eq _), (Mb.eq _), (fun _ _ _ h hb => h.below hb), (fun _ _ _ h hb => h.below hb), (Mb.eq _), (fun _ _ _ h hb => h.below hb), (Mb.eq _), (fun _ _ _ h hb => h.below hb), (fun _ _ _ h hb => h.below hb), (Mb.eq _), (Mb.eq _), trivial⟩ trivial ⟨?_, ?_, ?_, ?_, ?_, ?_, ?_, ?_, ?_, ?_, ?_, trivial⟩ ?_
    · intro a' w' hF' hb hd
      exact if_does (wanted_free rfl) (Does.vals (r_load (hF'.at 2 rfl) (ld_Rat (vs := [.bool b11, .slice ad11 n11 c11, .slice ae11 m11 d11]) (o7.below hb) rfl rfl)) ⟨rfl, Below.refl _ _, (fun h => absurd h (by decide))⟩)
    · intro a' w' hF' hb hd
      exact if_does (wanted_free rfl) (Does.vals (r_load (hF'.at 0 rfl) (ld_Rat (vs := [.bool b15, .slice ad15 n15 c15, .slice ae15 m15 d15]) (o9.below hb) rfl rfl)) ⟨rfl, Below.refl _ _, (fun h => absurd h (by decide))⟩)
    · intro a' w' hF' hb hd
      have e18 : a'.tmps.getD 18 undef = .agg #[.bool b11, .slice ad11 n11 c11, .slice ae11 m11 d11] := hd _ 18 (Array.mem_of_getElem? (i := 0) rfl) rfl rfl
      have e19 : a'.tmps.getD 19 undef = .agg #[.bool b15, .slice ad15 n15 c15, .slice ae15 m15 d15] := hd _ 19 (Array.mem_of_getElem? (i := 1) rfl) rfl rfl
      refine if_does (wanted_free rfl) (Does.calls (r_call Tryz.func23 en23.1 en23.2 (map2 e18 e19)) (rAdd_any _ _ (((rawZ nega1 xa1 4 : Int) : Rat) / ((rawZ negb1 xb1 4 : Int) : Rat)) (((n : Int) : Rat)) (max 4 2) _ (hh6.below hb) (hh10.below hb) ((own5_lim nega1 negb1 oka1 okb1 4 (by decide)).up _ (by omega)) ((rlim_int (limz_64 b1 b2) (by omega)).up _ (by omega)) (by omega)) ?_)
      rintro e w'' ⟨v', rfl, h', bb⟩
      exact ⟨_, rfl, h', bb, (fun h => absurd h (by decide))⟩
    · intro a' w' hF' hb hd
      obtain ⟨v20_0, e20, h20_1⟩ : ∃ v, a'.tmps.getD 20 undef = v ∧ Rq w' v ((((rawZ nega1 xa1 4 : Int) : Rat) / ((rawZ negb1 xb1 4 : Int) : Rat)) + (((n : Int) : Rat))) := ⟨_, rfl, hd _ 20 (Array.mem_of_getElem? (i := 0) rfl) rfl rfl⟩
      refine if_does (wanted_free rfl) (Does.calls (r_call Tryz.func13 en13.1 en13.2 (map1 e20)) (cFloor_any _ ((((rawZ nega1 xa1 4 : Int) : Rat) / ((rawZ negb1 xb1 4 : Int) : Rat)) + (((n : Int) : Rat))) (4 + 2 + 1) _ h20_1 (rlim_add (own5_lim nega1 negb1 oka1 okb1 4 (by decide)) (rlim_int (limz_64 b1 b2) (by omega))) (by omega)) ?_)
      rintro e w'' ⟨v', rfl, h', bb⟩
      exact ⟨_, rfl, h', bb, (fun h => absurd h (by decide))⟩
    · intro a' w' hF' hb hd
      exact if_does (wanted_free rfl) (Does.vals (r_load (hF'.at 2 rfl) (ld_Rat (vs := [.bool b11, .slice ad11 n11 c11, .slice ae11 m11 d11]) (o7.below hb) rfl rfl)) ⟨rfl, Below.refl _ _, (fun h => absurd h (by decide))⟩)
    · intro a' w' hF' hb hd
      have e22 : a'.tmps.getD 22 undef = .agg #[.bool b11, .slice ad11 n11 c11, .slice ae11 m11 d11] := hd _ 22 (Array.mem_of_getElem? (i := 0) rfl) rfl rfl
      refine if_does (wanted_free rfl) (Does.calls (r_call Tryz.func13 en13.1 en13.2 (map1 e22)) (cFloor_any _ (((rawZ nega1 xa1 4 : Int) : Rat) / ((rawZ negb1 xb1 4 : Int) : Rat)) 4 _ (hh6.below hb) (own5_lim nega1 negb1 oka1 okb1 4 (by decide)) (by omega)) ?_)
      rintro e w'' ⟨v', rfl, h', bb⟩
      exact ⟨_, rfl, h', bb, (fun h => absurd h (by decide))⟩
    · intro a' w' hF' hb hd
      exact if_does (wanted_free rfl) (Does.vals (r_move (hF'.at 13 rfl)) ⟨rfl, Below.refl _ _, (fun h => absurd h (by decide))⟩)
    · intro a' w' hF' hb hd
      have e24 : a'.tmps.getD 24 undef = .int .i64 n := hd _ 24 (Array.mem_of_getElem? (i := 0) rfl) rfl rfl
      refine if_does (wanted_free rfl) (Does.calls (r_call Tryz.func38 en38.1 en38.2 (map1 e24)) (whOf_any n _ b1 b2) ?_)
      rintro e w'' ⟨v', rfl, h', bb⟩
      exact ⟨_, rfl, h', bb, (fun h => absurd h (by decide))⟩
    · intro a' w' hF' hb hd
      obtain ⟨v23_0, e23, h23_1⟩ : ∃ v, a'.tmps.getD 23 undef = v ∧ Wc w' v (Rat.floor (((rawZ nega1 xa1 4 : Int) : Rat) / ((rawZ negb1 xb1 4 : Int) : Rat))) := ⟨_, rfl, hd _ 23 (Array.mem_of_getElem? (i := 0) rfl) rfl rfl⟩
      obtain ⟨v25_0, e25, h25_1⟩ : ∃ v, a'.tmps.getD 25 undef = v ∧ Wc w' v (n) := ⟨_, rfl, hd _ 25 (Array.mem_of_getElem? (i := 1) rfl) rfl rfl⟩
      refine if_does (wanted_free rfl) (Does.calls (r_call Tryz.func37 en37.1 en37.2 (map2 e23 e25)) (whAdd_any _ _ _ _ (4 + 1) 2 _ (Wc.wz h23_1) (Wc.wz h25_1) (fl_lim (own5_lim nega1 negb1 oka1 okb1 4 (by decide))) (limz_64 b1 b2) (by omega) (by omega)) ?_)
      rintro e w'' ⟨v', rfl, h', bb⟩
      exact ⟨_, rfl, h', bb, (fun h => absurd h (by decide))⟩
    · intro a' w' hF' hb hd
      obtain ⟨v21_0, e21, h21_1⟩ : ∃ v, a'.tmps.getD 21 undef = v ∧ Wc w' v (Rat.floor ((((rawZ nega1 xa1 4 : Int) : Rat) / ((rawZ negb1 xb1 4 : Int) : Rat)) + (((n : Int) : Rat)))) := ⟨_, rfl, hd _ 21 (Array.mem_of_getElem? (i := 0) rfl) rfl rfl⟩
      obtain ⟨v26_0, e26, h26_1⟩ : ∃ v, a'.tmps.getD 26 undef = v ∧ Wc w' v ((Rat.floor (((rawZ nega1 xa1 4 : Int) : Rat) / ((rawZ negb1 xb1 4 : Int) : Rat))) + n) := ⟨_, rfl, hd _ 26 (Array.mem_of_getElem? (i := 1) rfl) rfl rfl⟩
      refine if_does (wanted_free rfl) (Does.calls (r_call Tryz.func36 en36.1 en36.2 (map2 e21 e26)) (whCmp_any _ _ _ _ _ (Wc.wz h21_1) (Wc.wz h26_1)) ?_)
      rintro e w'' ⟨rfl, bb⟩
      exact ⟨_, rfl, rfl, bb, (fun h => absurd h (by decide))⟩
    · intro a' w' hF' hb hd
      have e27 : a'.tmps.getD 27 undef = .int .i64 (ci (Rat.floor ((((rawZ nega1 xa1 4 : Int) : Rat) / ((rawZ negb1 xb1 4 : Int) : Rat)) + (((n : Int) : Rat)))) ((Rat.floor (((rawZ nega1 xa1 4 : Int) : Rat) / ((rawZ negb1 xb1 4 : Int) : Rat))) + n)) := hd _ 27 (Array.mem_of_getElem? (i := 0) rfl) rfl rfl
      exact if_does (wanted_free rfl) (Does.vals (r_bin e27 ev_c eg_scalar (bi_int (ic_neq (c := false) (dec_ff (fun e => e (ci_same Rat.floor_add_intCast)))) (by simp))) ⟨rfl, Below.refl _ _, (fun h => absurd h (by decide))⟩)
    intro a w20 hF bb hall hne
    have e28 : a.tmps.getD 28 undef = .bool false := hall 10 28 rfl
    clear hall hne
    replace hf12 := hf12.below bb
    replace hd11 := hd11.below bb
    replace hh6 := hh6.below bb
    replace hn11 := hn11.below bb
    replace hf14 := hf14.below bb
    replace hd13 := hd13.below bb
    replace hh8 := hh8.below bb
    replace hn13 := hn13.below bb
    replace hf16 := hf16.below bb
    replace hd15 := hd15.below bb
    replace hh10 := hh10.below bb
    replace hn15 := hn15.below bb
    replace o7 := o7.below bb
    replace o8 := o8.below bb
    replace o9 := o9.below bb
    replace bel := below_to bel bb
    clear bb
    replace hF := hF.add e28
    clear e28
    refine E.nil ?_
    refine wp_cond_false (hF.at 0 rfl) ?_
    refine wp_skip ?_
    refine E.norm ?_
    refine wp_seq ?_
    refine E.drawn 16 mixed hF [29, 30, 31, 32, 33, 34, 35, 36, 37, 38, 39, 40, 41, 42, 43, 44] [(fun _ v => v = .agg #[.bool b13, .slice ad13 n13 c13, .slice ae13 m13 d13]), (fun _ v => v = .int .i64 (sz (Rat.num (((rawZ nega2 xa2 4 : Int) : Rat) / ((rawZ negb2 xb2 4 : Int) : Rat))))), (fun _ v => v = .bool true), (fun _ v => v = .bool true), (fun _ v => v = undef), (fun _ v => v = undef), (fun _ v => v = undef), (fun _ v => v = undef), (fun _ v => v = undef), (fun _ v => v = undef), (fun _ v => v = undef), (fun _ v => v = undef), (fun _ v => v = undef), (fun _ v => v = undef), (fun _ v => v = undef), (fun _ v => v = .bool true)] [] (by decide +kernel) (by decide +kernel) rfl rfl rfl ⟨(Mb.eq _), (Mb.eq _), (Mb.eq _), (Mb.eq _), (Mb.eq _), (Mb.eq _), (Mb.eq _), (Mb.eq _), (Mb.eq _), (Mb.eq _), (Mb.eq _), (Mb.eq _), (Mb.eq _), (Mb.eq _), (Mb.eq _), (Mb.eq _), trivial⟩ trivial ⟨?_, ?_, ?_, ?_, ?_, ?_, ?_, ?_, ?_, ?_, ?_, ?_, ?_, ?_, ?_, ?_, trivial⟩ ?_
    · intro a' w' hF' hb hd
      exact if_does (wanted_free rfl) (Does.vals (r_load (hF'.at 2 rfl) (ld_Rat (vs := [.bool b13, .slice ad13 n13 c13, .slice ae13 m13 d13]) (o8.below hb) rfl rfl)) ⟨rfl, Below.refl _ _, (fun h => absurd h (by decide))⟩)
    · intro a' w' hF' hb hd
      have e29 : a'.tmps.getD 29 undef = .agg #[.bool b13, .slice ad13 n13 c13, .slice ae13 m13 d13] := hd _ 29 (Array.mem_of_getElem? (i := 0) rfl) rfl rfl
      refine if_does (wanted_free rfl) (Does.calls (r_call Tryz.func35 en35.1 en35.2 (map1 e29)) (rsgn_any _ (((rawZ nega2 xa2 4 : Int) : Rat) / ((rawZ negb2 xb2 4 : Int) : Rat)) _ (hh8.below hb)) ?_)
      rintro e w'' ⟨rfl, bb⟩
      exact ⟨_, rfl, rfl, bb, (fun h => absurd h (by decide))⟩
    · intro a' w' hF' hb hd
      have e30 : a'.tmps.getD 30 undef = .int .i64 (sz (Rat.num (((rawZ nega2 xa2 4 : Int) : Rat) / ((rawZ negb2 xb2 4 : Int) : Rat)))) := hd _ 30 (Array.mem_of_getElem? (i := 0) rfl) rfl rfl
      exact if_does (wanted_free rfl) (Does.vals (r_bin e30 ev_c eg_scalar (bi_int (ic_leq (c := true) (dec_tt h0)) (by simp))) ⟨rfl, Below.refl _ _, (fun h => absurd h (by decide))⟩)
    · intro a' w' hF' hb hd
      have e31 : a'.tmps.getD 31 undef = .bool true := hd _ 31 (Array.mem_of_getElem? (i := 0) rfl) rfl rfl
      exact if_does (wanted_free rfl) (Does.vals (r_move e31) ⟨rfl, Below.refl _ _, (fun h => absurd h (by decide))⟩)
    · intro a' w' hF' hb hd
      have e32 : a'.tmps.getD 32 undef = .bool true := hd _ 32 (Array.mem_of_getElem? (i := 0) rfl) rfl rfl
      exact if_not (wanted_by rfl rfl e32 rfl) ⟨rfl, by decide⟩
    · intro a' w' hF' hb hd
      have e32 : a'.tmps.getD 32 undef = .bool true := hd _ 32 (Array.mem_of_getElem? (i := 0) rfl) rfl rfl
      exact if_not (wanted_by rfl rfl e32 rfl) ⟨rfl, by decide⟩
    · intro a' w' hF' hb hd
      have e32 : a'.tmps.getD 32 undef = .bool true := hd _ 32 (Array.mem_of_getElem? (i := 0) rfl) rfl rfl
      exact if_not (wanted_by rfl rfl e32 rfl) ⟨rfl, by decide⟩
    · intro a' w' hF' hb hd
      have e32 : a'.tmps.getD 32 undef = .bool true := hd _ 32 (Array.mem_of_getElem? (i := 2) rfl) rfl rfl
      exact if_not (wanted_by rfl rfl e32 rfl) ⟨rfl, by decide⟩
    · intro a' w' hF' hb hd
      have e32 : a'.tmps.getD 32 undef = .bool true := hd _ 32 (Array.mem_of_getElem? (i := 3) rfl) rfl rfl
      exact if_not (wanted_by rfl rfl e32 rfl) ⟨rfl, by decide⟩
    · intro a' w' hF' hb hd
      have e32 : a'.tmps.getD 32 undef = .bool true := hd _ 32 (Array.mem_of_getElem? (i := 0) rfl) rfl rfl
      exact if_not (wanted_by rfl rfl e32 rfl) ⟨rfl, by decide⟩
    · intro a' w' hF' hb hd
      have e32 : a'.tmps.getD 32 undef = .bool true := hd _ 32 (Array.mem_of_getElem? (i := 3) rfl) rfl rfl
      exact if_not (wanted_by rfl rfl e32 rfl) ⟨rfl, by decide⟩
    · intro a' w' hF' hb hd
      have e32 : a'.tmps.getD 32 undef = .bool true := hd _ 32 (Array.mem_of_getElem? (i := 0) rfl) rfl rfl
      exact if_not (wanted_by rfl rfl e32 rfl) ⟨rfl, by decide⟩
    · intro a' w' hF' hb hd
      have e32 : a'.tmps.getD 32 undef = .bool true := hd _ 32 (Array.mem_of_getElem? (i := 0) rfl) rfl rfl
      exact if_not (wanted_by rfl rfl e32 rfl) ⟨rfl, by decide⟩
    · intro a' w' hF' hb hd
      have e32 : a'.tmps.getD 32 undef = .bool true := hd _ 32 (Array.mem_of_getElem? (i := 3) rfl) rfl rfl
      exact if_not (wanted_by rfl rfl e32 rfl) ⟨rfl, by decide⟩
    · intro a' w' hF' hb hd
      have e32 : a'.tmps.getD 32 undef = .bool true := hd _ 32 (Array.mem_of_getElem? (i := 3) rfl) rfl rfl
      exact if_not (wanted_by rfl rfl e32 rfl) ⟨rfl, by decide⟩
    · intro a' w' hF' hb hd
      have e32 : a'.tmps.getD 32 undef = .bool true := hd _ 32 (Array.mem_of_getElem? (i := 0) rfl) rfl rfl
      exact if_does (wanted_free rfl) (Does.vals (r_pick_t e32 ev_c) ⟨rfl, Below.refl _ _, (fun h => absurd h (by decide))⟩)
    intro a w21 hF bb hall hne
    have e44 : a.tmps.getD 44 undef = .bool true := hall 15 44 rfl
    clear hall hne
    replace bel := below_to bel bb
    clear bb
    replace hF := hF.add e44
    clear e44
    refine E.opset (L' := [(6, .bool true), (44, .bool true), (28, .bool false), (9, .pointer (some ⟨g9, 0, none⟩)), (8, .pointer (some ⟨g8, 0, none⟩)), (7, .pointer (some ⟨g7, 0, none⟩)), (17, .agg #[.bool b15, .slice ad15 n15 c15, .slice ae15 m15 d15]), (15, .agg #[.bool b13, .slice ad13 n13 c13, .slice ae13 m13 d13]), (13, .agg #[.bool b11, .slice ad11 n11 c11, .slice ae11 m11 d11]), (11, .bool false), (10, .bool true), (4, .pointer (some ⟨g4, 0, none⟩)), (3, .pointer (some ⟨g3, 0, none⟩)), (0, .agg #[.bool nega1, .slice aa1 na1 ca1, .bool negb1, .slice ab1 nb1 cb1]), (1, .agg #[.bool nega2, .slice aa2 na2 ca2, .bool negb2, .slice ab2 nb2 cb2]), (2, .int .i64 n)]) hF (r_assign (hF.at 0 rfl)) rfl rfl rfl rfl fun a hF => ?_
    refine E.nil ?_
    refine wp_ret ?_
    refine bodyPost_ret (res_tmp Tryz.results5 (hF.at 0 rfl)) hF.dfr ?_
    exact ⟨rfl, bel⟩
  · have oka1 := ia1.ok
    have okb1 := ib1.ok
    have oka2 := ia2.ok
    have okb2 := ib2.ok
    have bel : Below w.heap.size w w := Below.refl _ _
    refine E.enter (nt := 45) (L := [(0, .agg #[.bool nega1, .slice aa1 na1 ca1, .bool negb1, .slice ab1 nb1 cb1]), (1, .agg #[.bool nega2, .slice aa2 na2 ca2, .bool negb2, .slice ab2 nb2 cb2]), (2, .int .i64 n)]) Tryz.func5 rfl rfl rfl (args_cons (i := 0) rfl (args_cons (i := 1) rfl (args_cons (i := 2) rfl args_nil))) ?_
    intro a hF
    refine wp_seq ?_
    refine E.seq ?_
    obtain ⟨g3, w1, ge3, hr, bb, o3⟩ := own_box (P := Tryz.prog) (w := w) (cs := [.bool nega1, .slice aa1 na1 ca1, .bool negb1, .slice ab1 nb1 cb1]) (v := .agg #[.bool nega1, .slice aa1 na1 ca1, .bool negb1, .slice ab1 nb1 cb1]) 26 rfl (niB (niS (niB (niS ni0))))
    replace ge3 : w.heap.size ≤ g3 := by rw [← ge3]; exact bel.size
    refine E.opv hF (r_box (hF.at 0 rfl) hr) rfl rfl rfl rfl fun a hF => ?_
    clear hr
    replace ia2 := ia2.below bb
    replace ib2 := ib2.below bb
    replace ia1 := ia1.below bb
    replace ib1 := ib1.below bb
    replace bel := below_to bel bb
    clear bb
    obtain ⟨g4, w2, ge4, hr, bb, o4⟩ := own_box (P := Tryz.prog) (w := w1) (cs := [.bool nega2, .slice aa2 na2 ca2, .bool negb2, .slice ab2 nb2 cb2]) (v := .agg #[.bool nega2, .slice aa2 na2 ca2, .bool negb2, .slice ab2 nb2 cb2]) 26 rfl (niB (niS (niB (niS ni0))))
    have ne3_4 : g3 ≠ g4 := by rw [← ge4]; exact o3.ne_new
    replace ge4 : w.heap.size ≤ g4 := by rw [← ge4]; exact bel.size
    refine E.opv hF (r_box (hF.at 2 rfl) hr) rfl rfl rfl rfl fun a hF => ?_
    clear hr
    replace ia1 := ia1.below bb
    replace ib1 := ib1.below bb
    replace ia2 := ia2.below bb
    replace ib2 := ib2.below bb
    replace o3 := o3.below bb
    replace bel := below_to bel bb
    clear bb
    refine E.opv hF (r_assign ev_c) rfl rfl rfl rfl fun a hF => ?_
    refine E.nil ?_
    refine wp_seq ?_
    refine wp_seq ?_
    refine E.seq ?_
    refine E.call hF (r_call Tryz.func9 en9.1 en9.2 map0) (awake6_any _ (hM.below bel)) rfl rfl rfl rfl ?_
    rintro e w3 ⟨rfl, bb⟩
    refine ⟨_, rfl, ?_⟩
    intro a hF
    replace ia1 := ia1.below bb
    replace ib1 := ib1.below bb
    replace ia2 := ia2.below bb
    replace ib2 := ib2.below bb
    replace o3 := o3.below bb
    replace o4 := o4.below bb
    replace bel := below_to bel bb
    clear bb
    refine E.opv hF (r_un (hF.at 0 rfl) (bn_not _ false rfl)) rfl rfl rfl rfl fun a hF => ?_
    refine E.nil ?_
    refine wp_cond_false (hF.at 0 rfl) ?_
    refine wp_skip ?_
    refine E.norm ?_
    refine wp_seq ?_
    refine E.drawn 9 mixed hF [12, 13, 14, 15, 16, 17, 7, 8, 9] [(fun _ v => v = .agg #[.bool nega1, .slice aa1 na1 ca1, .bool negb1, .slice ab1 nb1 cb1]), (fun w v => Rq w v (((rawZ nega1 xa1 4 : Int) : Rat) / ((rawZ negb1 xb1 4 : Int) : Rat))), (fun _ v => v = .agg #[.bool nega2, .slice aa2 na2 ca2, .bool negb2, .slice ab2 nb2 cb2]), (fun w v => Rq w v (((rawZ nega2 xa2 4 : Int) : Rat) / ((rawZ negb2 xb2 4 : Int) : Rat))), (fun _ v => v = .int .i64 n), (fun w v => Rq w v (((n : Int) : Rat))), (fun w v => ∃ g, v = .pointer (some ⟨g, 0, none⟩) ∧ w3.heap.size ≤ g ∧ Own w g [.bool false, .slice none 0 0, .slice none 0 0]), (fun w v => ∃ g, v = .pointer (some ⟨g, 0, none⟩) ∧ w3.heap.size ≤ g ∧ Own w g [.bool false, .slice none 0 0, .slice none 0 0]), (fun w v => ∃ g, v = .pointer (some ⟨g, 0, none⟩) ∧ w3.heap.size ≤ g ∧ Own w g [.bool false, .slice none 0 0, .slice none 0 0])] [6, 7, 8] (by decide +kernel) (by decide +kernel) rfl rfl rfl ⟨(Mb.eq _), (fun _ _ _ h hb => h.below hb), (Mb.eq _), (fun _ _ _ h hb => h.below hb), (Mb.eq _), (fun _ _ _ h hb => h.below hb), (fun _ _ _ ⟨g, e, l, o⟩ hb => ⟨g, e, l, o.below hb⟩), (fun _ _ _ ⟨g, e, l, o⟩ hb => ⟨g, e, l, o.below hb⟩), (fun _ _ _ ⟨g, e, l, o⟩ hb => ⟨g, e, l, o.below hb⟩), trivial⟩ ⟨fun _ _ ⟨g, e, _, o⟩ => ⟨g, e, o.lt⟩, ⟨fun _ _ ⟨g, e, _, o⟩ => ⟨g, e, o.lt⟩, ⟨fun _ _ ⟨g, e, _, o⟩ => ⟨g, e, o.lt⟩, trivial⟩⟩⟩ ⟨?_, ?_, ?_, ?_, ?_, ?_, ?_, ?_, ?_, trivial⟩ ?_
    · intro a' w' hF' hb hd
      exact if_does (wanted_free rfl) (Does.vals (r_load (hF'.at 4 rfl) (ld_Raw5 (vs := [.bool nega1, .slice aa1 na1 ca1, .bool negb1, .slice ab1 nb1 cb1]) (o3.below hb) rfl rfl)) ⟨rfl, Below.refl _ _, (fun h => absurd h (by decide))⟩)
    · intro a' w' hF' hb hd
      have e12 : a'.tmps.getD 12 undef = .agg #[.bool nega1, .slice aa1 na1 ca1, .bool negb1, .slice ab1 nb1 cb1] := hd _ 12 (Array.mem_of_getElem? (i := 0) rfl) rfl rfl
      refine if_does (wanted_free rfl) (Does.calls (r_call Tryz.func10 en10.1 en10.2 (map2 e12 ev_c)) (Own5_any nega1 aa1 na1 ca1 xa1 negb1 ab1 nb1 cb1 xb1 4 _ (ia1.below hb) (ib1.below hb) (by omega)) ?_)
      rintro e w'' ⟨v', rfl, h', bb⟩
      exact ⟨_, rfl, h', bb, (fun h => absurd h (by decide))⟩
    · intro a' w' hF' hb hd
      exact if_does (wanted_free rfl) (Does.vals (r_load (hF'.at 3 rfl) (ld_Raw5 (vs := [.bool nega2, .slice aa2 na2 ca2, .bool negb2, .slice ab2 nb2 cb2]) (o4.below hb) rfl rfl)) ⟨rfl, Below.refl _ _, (fun h => absurd h (by decide))⟩)
    · intro a' w' hF' hb hd
      have e14 : a'.tmps.getD 14 undef = .agg #[.bool nega2, .slice aa2 na2 ca2, .bool negb2, .slice ab2 nb2 cb2] := hd _ 14 (Array.mem_of_getElem? (i := 0) rfl) rfl rfl
      refine if_does (wanted_free rfl) (Does.calls (r_call Tryz.func10 en10.1 en10.2 (map2 e14 ev_c)) (Own5_any nega2 aa2 na2 ca2 xa2 negb2 ab2 nb2 cb2 xb2 4 _ (ia2.below hb) (ib2.below hb) (by omega)) ?_)
      rintro e w'' ⟨v', rfl, h', bb⟩
      exact ⟨_, rfl, h', bb, (fun h => absurd h (by decide))⟩
    · intro a' w' hF' hb hd
      exact if_does (wanted_free rfl) (Does.vals (r_move (hF'.at 7 rfl)) ⟨rfl, Below.refl _ _, (fun h => absurd h (by decide))⟩)
    · intro a' w' hF' hb hd
      have e16 : a'.tmps.getD 16 undef = .int .i64 n := hd _ 16 (Array.mem_of_getElem? (i := 0) rfl) rfl rfl
      refine if_does (wanted_free rfl) (Does.calls (r_call Tryz.func24 en24.1 en24.2 (map1 e16)) (rWhole_any (n) _ b1 b2) ?_)
      rintro e w'' ⟨v', rfl, h', bb⟩
      exact ⟨_, rfl, h', bb, (fun h => absurd h (by decide))⟩
    · intro a' w' hF' hb hd
      obtain ⟨g, w2, ge, hr, bb, on⟩ := own_alloc (P := Tryz.prog) (w := w') (cs := [.bool false, .slice none 0 0, .slice none 0 0]) 32 ze_Rat rfl (niB (niS (niS ni0)))
      subst ge
      exact if_does (wanted_free rfl) (Does.vals (r_alloc hr) ⟨⟨_, rfl, hb.size, on⟩, bb, fun _ => rfl⟩)
    · intro a' w' hF' hb hd
      obtain ⟨g, w2, ge, hr, bb, on⟩ := own_alloc (P := Tryz.prog) (w := w') (cs := [.bool false, .slice none 0 0, .slice none 0 0]) 32 ze_Rat rfl (niB (niS (niS ni0)))
      subst ge
      exact if_does (wanted_free rfl) (Does.vals (r_alloc hr) ⟨⟨_, rfl, hb.size, on⟩, bb, fun _ => rfl⟩)
    · intro a' w' hF' hb hd
      obtain ⟨g, w2, ge, hr, bb, on⟩ := own_alloc (P := Tryz.prog) (w := w') (cs := [.bool false, .slice none 0 0, .slice none 0 0]) 32 ze_Rat rfl (niB (niS (niS ni0)))
      subst ge
      exact if_does (wanted_free rfl) (Does.vals (r_alloc hr) ⟨⟨_, rfl, hb.size, on⟩, bb, fun _ => rfl⟩)
    intro a w4 hF bb hall hne
    obtain ⟨vv5, e13, hh6⟩ : ∃ v, a.tmps.getD 13 undef = v ∧ Rq w4 v (((rawZ nega1 xa1 4 : Int) : Rat) / ((rawZ negb1 xb1 4 : Int) : Rat)) := ⟨_, rfl, hall 1 13 rfl⟩
    obtain ⟨vv7, e15, hh8⟩ : ∃ v, a.tmps.getD 15 undef = v ∧ Rq w4 v (((rawZ nega2 xa2 4 : Int) : Rat) / ((rawZ negb2 xb2 4 : Int) : Rat)) := ⟨_, rfl, hall 3 15 rfl⟩
    obtain ⟨vv9, e17, hh10⟩ : ∃ v, a.tmps.getD 17 undef = v ∧ Rq w4 v (((n : Int) : Rat)) := ⟨_, rfl, hall 5 17 rfl⟩
    obtain ⟨g7, e7, ge7, o7⟩ : ∃ g, a.tmps.getD 7 undef = .pointer (some ⟨g, 0, none⟩) ∧ w3.heap.size ≤ g ∧ Own w4 g [.bool false, .slice none 0 0, .slice none 0 0] := hall 6 7 rfl
    obtain ⟨g8, e8, ge8, o8⟩ : ∃ g, a.tmps.getD 8 undef = .pointer (some ⟨g, 0, none⟩) ∧ w3.heap.size ≤ g ∧ Own w4 g [.bool false, .slice none 0 0, .slice none 0 0] := hall 7 8 rfl
    have ne7_8 : g7 ≠ g8 := by intro e; exact hne 6 7 7 8 rfl rfl (by decide) rfl rfl (by rw [e7, e8, e])
    obtain ⟨g9, e9, ge9, o9⟩ : ∃ g, a.tmps.getD 9 undef = .pointer (some ⟨g, 0, none⟩) ∧ w3.heap.size ≤ g ∧ Own w4 g [.bool false, .slice none 0 0, .slice none 0 0] := hall 8 9 rfl
    have ne7_9 : g7 ≠ g9 := by intro e; exact hne 6 8 7 9 rfl rfl (by decide) rfl rfl (by rw [e7, e9, e])
    have ne8_9 : g8 ≠ g9 := by intro e; exact hne 7 8 8 9 rfl rfl (by decide) rfl rfl (by rw [e8, e9, e])
    replace ge7 : w.heap.size ≤ g7 := Nat.le_trans bel.size ge7
    replace ge8 : w.heap.size ≤ g8 := Nat.le_trans bel.size ge8
    replace ge9 : w.heap.size ≤ g9 := Nat.le_trans bel.size ge9
    clear hall hne
    replace bel := below_to bel bb
    clear bb
    obtain ⟨b11, ad11, n11, c11, ae11, m11, d11, rfl, hn11, hd11⟩ := Rq.shape hh6
    have hf12 := Wc.abs hn11
    replace hF := hF.add e13
    clear e13
    obtain ⟨b13, ad13, n13, c13, ae13, m13, d13, rfl, hn13, hd13⟩ := Rq.shape hh8
    have hf14 := Wc.abs hn13
    replace hF := hF.add e15
    clear e15
    obtain ⟨b15, ad15, n15, c15, ae15, m15, d15, rfl, hn15, hd15⟩ := Rq.shape hh10
    have hf16 := Wc.abs hn15
    replace hF := hF.add e17
    clear e17
    replace hF := hF.add e7
    clear e7
    replace hF := hF.add e8
    clear e8
    replace hF := hF.add e9
    clear e9
    obtain ⟨w17, hr, tu, on⟩ := st_Rat (vs := [.bool b11, .slice ad11 n11 c11, .slice ae11 m11 d11]) o7 rfl rfl (ocB (ocS (ocS oc0))) (niB (niS (niS ni0))) (o := 0) rfl
    have kp := tu.keep o7
    refine E.st hF (r_store (hF.at 2 rfl) (hF.at 5 rfl) (hr _ rfl)) rfl rfl fun a hF => ?_
    clear hr
    replace hh10 := hh10.keep kp
    replace hn15 := hn15.keep kp
    replace hf16 := hf16.keep kp
    replace hd15 := hd15.keep kp
    replace hh8 := hh8.keep kp
    replace hn13 := hn13.keep kp
    replace hf14 := hf14.keep kp
    replace hd13 := hd13.keep kp
    replace hh6 := hh6.keep kp
    replace hn11 := hn11.keep kp
    replace hf12 := hf12.keep kp
    replace hd11 := hd11.keep kp
    replace o8 := tu.own o8 (Ne.symm ne7_8)
    replace o9 := tu.own o9 (Ne.symm ne7_9)
    replace bel := tu.below bel ge7
    clear tu kp
    replace o7 := on
    clear on
    obtain ⟨w18, hr, tu, on⟩ := st_Rat (vs := [.bool b13, .slice ad13 n13 c13, .slice ae13 m13 d13]) o8 rfl rfl (ocB (ocS (ocS oc0))) (niB (niS (niS ni0))) (o := 0) rfl
    have kp := tu.keep o8
    refine E.st hF (r_store (hF.at 1 rfl) (hF.at 4 rfl) (hr _ rfl)) rfl rfl fun a hF => ?_
    clear hr
    replace hh10 := hh10.keep kp
    replace hn15 := hn15.keep kp
    replace hf16 := hf16.keep kp
    replace hd15 := hd15.keep kp
    replace hf12 := hf12.keep kp
    replace hd11 := hd11.keep kp
    replace hh6 := hh6.keep kp
    replace hn11 := hn11.keep kp
    replace hh8 := hh8.keep kp
    replace hn13 := hn13.keep kp
    replace hf14 := hf14.keep kp
    replace hd13 := hd13.keep kp
    replace o7 := tu.own o7 ne7_8
    replace o9 := tu.own o9 (Ne.symm ne8_9)
    replace bel := tu.below bel ge8
    clear tu kp
    replace o8 := on
    clear on
    obtain ⟨w19, hr, tu, on⟩ := st_Rat (vs := [.bool b15, .slice ad15 n15 c15, .slice ae15 m15 d15]) o9 rfl rfl (ocB (ocS (ocS oc0))) (niB (niS (niS ni0))) (o := 0) rfl
    have kp := tu.keep o9
    refine E.st hF (r_store (hF.at 0 rfl) (hF.at 3 rfl) (hr _ rfl)) rfl rfl fun a hF => ?_
    clear hr
    replace hf12 := hf12.keep kp
    replace hd11 := hd11.keep kp
    replace hh6 := hh6.keep kp
    replace hn11 := hn11.keep kp
    replace hf14 := hf14.keep kp
    replace hd13 := hd13.keep kp
    replace hh8 := hh8.keep kp
    replace hn13 := hn13.keep kp
    replace hh10 := hh10.keep kp
    replace hn15 := hn15.keep kp
    replace hf16 := hf16.keep kp
    replace hd15 := hd15.keep kp
    replace o7 := tu.own o7 ne7_9
    replace o8 := tu.own o8 ne8_9
    replace bel := tu.below bel ge9
    clear tu kp
    replace o9 := on
    clear on
    refine E.nil ?_
    refine wp_seq ?_
    refine wp_seq ?_
    refine E.drawn 11 mixed hF [18, 19, 20, 21, 22, 23, 24, 25, 26, 27, 28] [(fun _ v => v = .agg #[.bool b11, .slice ad11 n11 c11, .slice ae11 m11 d11]), (fun _ v => v = .agg #[.bool b15, .slice ad15 n15 c15, .slice ae15 m15 d15]), (fun w v => Rq w v ((((rawZ nega1 xa1 4 : Int) : Rat) / ((rawZ negb1 xb1 4 : Int) : Rat)) + (((n : Int) : Rat)))), (fun w v => Wc w v (Rat.floor ((((rawZ nega1 xa1 4 : Int) : Rat) / ((rawZ negb1 xb1 4 : Int) : Rat)) + (((n : Int) : Rat))))), (fun _ v => v = .agg #[.bool b11, .slice ad11 n11 c11, .slice ae11 m11 d11]), (fun w v => Wc w v (Rat.floor (((rawZ nega1 xa1 4 : Int) : Rat) / ((rawZ negb1 xb1 4 : Int) : Rat)))), (fun _ v => v = .int .i64 n), (fun w v => Wc w v (n)), (fun w v => Wc w v ((Rat.floor (((rawZ nega1 xa1 4 : Int) : Rat) / ((rawZ negb1 xb1 4 : Int) : Rat))) + n)), (fun _ v => v = .int .i64 (ci (Rat.floor ((((rawZ nega1 xa1 4 : Int) : Rat) / ((rawZ negb1 xb1 4 : Int) : Rat)) + (((n : Int) : Rat)))) ((Rat.floor (((rawZ nega1 xa1 4 : Int) : Rat) / ((rawZ negb1 xb1 4 : Int) : Rat))) + n))), (fun _ v => v = .bool false)] [] (by decide +kernel) (by decide +kernel) rfl rfl rfl ⟨(Mb.eq _), (Mb.eq _), (fun _ _ _ h hb => h.below hb), (fun _ _ _ h hb => h.below hb), (Mb.eq _), (fun _ _ _ h hb => h.below hb), (Mb.eq _), (fun _ _ _ h hb => h.below hb), (fun _ _ _ h hb => h.below hb), (Mb.eq _), (Mb.eq _), trivial⟩ trivial ⟨?_, ?_, ?_, ?_, ?_, ?_, ?_, ?_, ?_, ?_, ?_, trivial⟩ ?_
    · intro a' w' hF' hb hd
      exact if_does (wanted_free rfl) (Does.vals (r_load (hF'.at 2 rfl) (ld_Rat (vs := [.bool b11, .slice ad11 n11 c11, .slice ae11 m11 d11]) (o7.below hb) rfl rfl)) ⟨rfl, Below.refl _ _, (fun h => absurd h (by decide))⟩)
    · intro a' w' hF' hb hd
      exact if_does (wanted_free rfl) (Does.vals (r_load (hF'.at 0 rfl) (ld_Rat (vs := [.bool b15, .slice ad15 n15 c15, .slice ae15 m15 d15]) (o9.below hb) rfl rfl)) ⟨rfl, Below.refl _ _, (fun h => absurd h (by decide))⟩)
    · intro a' w' hF' hb hd
      have e18 : a'.tmps.getD 18 undef = .agg #[.bool b11, .slice ad11 n11 c11, .slice ae11 m11 d11] := hd _ 18 (Array.mem_of_getElem? (i := 0) rfl) rfl rfl
      have e19 : a'.tmps.getD 19 undef = .agg #[.bool b15, .slice ad15 n15 c15, .slice ae15 m15 d15] := hd _ 19 (Array.mem_of_getElem? (i := 1) rfl) rfl rfl
      refine if_does (wanted_free rfl) (Does.calls (r_call Tryz.func23 en23.1 en23.2 (map2 e18 e19)) (rAdd_any _ _ (((rawZ nega1 xa1 4 : Int) : Rat) / ((rawZ negb1 xb1 4 : Int) : Rat)) (((n : Int) : Rat)) (max 4 2) _ (hh6.below hb) (hh10.below hb) ((own5_lim nega1 negb1 oka1 okb1 4 (by decide)).up _ (by omega)) ((rlim_int (limz_64 b1 b2) (by omega)).up _ (by omega)) (by omega)) ?_)
      rintro e w'' ⟨v', rfl, h', bb⟩
      exact ⟨_, rfl, h', bb, (fun h => absurd h (by decide))⟩
    · intro a' w' hF' hb hd
      obtain ⟨v20_0, e20, h20_1⟩ : ∃ v, a'.tmps.getD 20 undef = v ∧ Rq w' v ((((rawZ nega1 xa1 4 : Int) : Rat) / ((rawZ negb1 xb1 4 : Int) : Rat)) + (((n : Int) : Rat))) := ⟨_, rfl, hd _ 20 (Array.mem_of_getElem? (i := 0) rfl) rfl rfl⟩
      refine if_does (wanted_free rfl) (Does.calls (r_call Tryz.func13 en13.1 en13.2 (map1 e20)) (cFloor_any _ ((((rawZ nega1 xa1 4 : Int) : Rat) / ((rawZ negb1 xb1 4 : Int) : Rat)) + (((n : Int) : Rat))) (4 + 2 + 1) _ h20_1 (rlim_add (own5_lim nega1 negb1 oka1 okb1 4 (by decide)) (rlim_int (limz_64 b1 b2) (by omega))) (by omega)) ?_)
      rintro e w'' ⟨v', rfl, h', bb⟩
      exact ⟨_, rfl, h', bb, (fun h => absurd h (by decide))⟩
    · intro a' w' hF' hb hd
      exact if_does (wanted_free rfl) (Does.vals (r_load (hF'.at 2 rfl) (ld_Rat (vs := [.bool b11, .slice ad11 n11 c11, .slice ae11 m11 d11]) (o7.below hb) rfl rfl)) ⟨rfl, Below.refl _ _, (fun h => absurd h (by decide))⟩)
    · intro a' w' hF' hb hd
      have e22 : a'.tmps.getD 22 undef = .agg #[.bool b11, .slice ad11 n11 c11, .slice ae11 m11 d11] := hd _ 22 (Array.mem_of_getElem? (i := 0) rfl) rfl rfl
      refine if_does (wanted_free rfl) (Does.calls (r_call Tryz.func13 en13.1 en13.2 (map1 e22)) (cFloor_any _ (((rawZ nega1 xa1 4 : Int) : Rat) / ((rawZ negb1 xb1 4 : Int) : Rat)) 4 _ (hh6.below hb) (own5_lim nega1 negb1 oka1 okb1 4 (by decide)) (by omega)) ?_)
      rintro e w'' ⟨v', rfl, h', bb⟩
      exact ⟨_, rfl, h', bb, (fun h => absurd h (by decide))⟩
    · intro a' w' hF' hb hd
      exact if_does (wanted_free rfl) (Does.vals (r_move (hF'.at 13 rfl)) ⟨rfl, Below.refl _ _, (fun h => absurd h (by decide))⟩)
    · intro a' w' hF' hb hd
      have e24 : a'.tmps.getD 24 undef = .int .i64 n := hd _ 24 (Array.mem_of_getElem? (i := 0) rfl) rfl rfl
      refine if_does (wanted_free rfl) (Does.calls (r_call Tryz.func38 en38.1 en38.2 (map1 e24)) (whOf_any n _ b1 b2) ?_)
      rintro e w'' ⟨v', rfl, h', bb⟩
      exact ⟨_, rfl, h', bb, (fun h => absurd h (by decide))⟩
    · intro a' w' hF' hb hd
      obtain ⟨v23_0, e23, h23_1⟩ : ∃ v, a'.tmps.getD 23 undef = v ∧ Wc w' v (Rat.floor (((rawZ nega1 xa1 4 : Int) : Rat) / ((rawZ negb1 xb1 4 : Int) : Rat))) := ⟨_, rfl, hd _ 23 (Array.mem_of_getElem? (i := 0) rfl) rfl rfl⟩
      obtain ⟨v25_0, e25, h25_1⟩ : ∃ v, a'.tmps.getD 25 undef = v ∧ Wc w' v (n) := ⟨_, rfl, hd _ 25 (Array.mem_of_getElem? (i := 1) rfl) rfl rfl⟩
      refine if_does (wanted_free rfl) (Does.calls (r_call Tryz.func37 en37.1 en37.2 (map2 e23 e25)) (whAdd_any _ _ _ _ (4 + 1) 2 _ (Wc.wz h23_1) (Wc.wz h25_1) (fl_lim (own5_lim nega1 negb1 oka1 okb1 4 (by decide))) (limz_64 b1 b2) (by omega) (by omega)) ?_)
      rintro e w'' ⟨v', rfl, h', bb⟩
      exact ⟨_, rfl, h', bb, (fun h => absurd h (by decide))⟩
    · intro a' w' hF' hb hd
      obtain ⟨v21_0, e21, h21_1⟩ : ∃ v, a'.tmps.getD 21 undef = v ∧ Wc w' v (Rat.floor ((((rawZ nega1 xa1 4 : Int) : Rat) / ((rawZ negb1 xb1 4 : Int) : Rat)) + (((n : Int) : Rat)))) := ⟨_, rfl, hd _ 21 (Array.mem_of_getElem? (i := 0) rfl) rfl rfl⟩
      obtain ⟨v26_0, e26, h26_1⟩ : ∃ v, a'.tmps.getD 26 undef = v ∧ Wc w' v ((Rat.floor (((rawZ nega1 xa1 4 : Int) : Rat) / ((rawZ negb1 xb1 4 : Int) : Rat))) + n) := ⟨_, rfl, hd _ 26 (Array.mem_of_getElem? (i := 1) rfl) rfl rfl⟩
      refine if_does (wanted_free rfl) (Does.calls (r_call Tryz.func36 en36.1 en36.2 (map2 e21 e26)) (whCmp_any _ _ _ _ _ (Wc.wz h21_1) (Wc.wz h26_1)) ?_)
      rintro e w'' ⟨rfl, bb⟩
      exact ⟨_, rfl, rfl, bb, (fun h => absurd h (by decide))⟩
    · intro a' w' hF' hb hd
      have e27 : a'.tmps.getD 27 undef = .int .i64 (ci (Rat.floor ((((rawZ nega1 xa1 4 : Int) : Rat) / ((rawZ negb1 xb1 4 : Int) : Rat)) + (((n : Int) : Rat)))) ((Rat.floor (((rawZ nega1 xa1 4 : Int) : Rat) / ((rawZ negb1 xb1 4 : Int) : Rat))) + n)) := hd _ 27 (Array.mem_of_getElem? (i := 0) rfl) rfl rfl
      exact if_does (wanted_free rfl) (Does.vals (r_bin e27 ev_c eg_scalar (bi_int (ic_neq (c := false) (dec_ff (fun e => e (ci_same Rat.floor_add_intCast)))) (by simp))) ⟨rfl, Below.refl _ _, (fun h => absurd h (by decide))⟩)
    intro a w20 hF bb hall hne
    have e28 : a.tmps.getD 28 undef = .bool false := hall 10 28 rfl
    clear hall hne
    replace hf12 := hf12.below bb
    replace hd11 := hd11.below bb
    replace hh6 := hh6.below bb
    replace hn11 := hn11.below bb
    replace hf14 := hf14.below bb
    replace hd13 := hd13.below bb
    replace hh8 := hh8.below bb
    replace hn13 := hn13.below bb
    replace hf16 := hf16.below bb
    replace hd15 := hd15.below bb
    replace hh10 := hh10.below bb
    replace hn15 := hn15.below bb
    replace o7 := o7.below bb
    replace o8 := o8.below bb
    replace o9 := o9.below bb
    replace bel := below_to bel bb
    clear bb
    replace hF := hF.add e28
    clear e28
    refine E.nil ?_
    refine wp_cond_false (hF.at 0 rfl) ?_
    refine wp_skip ?_
    refine E.norm ?_
    refine wp_seq ?_
    refine E.drawn 16 mixed hF [29, 30, 31, 32, 33, 34, 35, 36, 37, 38, 39, 40, 41, 42, 43, 44] [(fun _ v => v = .agg #[.bool b13, .slice ad13 n13 c13, .slice ae13 m13 d13]), (fun _ v => v = .int .i64 (sz (Rat.num (((rawZ nega2 xa2 4 : Int) : Rat) / ((rawZ negb2 xb2 4 : Int) : Rat))))), (fun _ v => v = .bool false), (fun _ v => v = .bool false), (fun _ v => v = .agg #[.bool b11, .slice ad11 n11 c11, .slice ae11 m11 d11]), (fun _ v => v = .agg #[.bool b13, .slice ad13 n13 c13, .slice ae13 m13 d13]), (fun _ v => v = .agg #[.bool b15, .slice ad15 n15 c15, .slice ae15 m15 d15]), (fun w v => Rq w v ((((rawZ nega2 xa2 4 : Int) : Rat) / ((rawZ negb2 xb2 4 : Int) : Rat)) * (((n : Int) : Rat)))), (fun w v => Rq w v ((((rawZ nega1 xa1 4 : Int) : Rat) / ((rawZ negb1 xb1 4 : Int) : Rat)) + ((((rawZ nega2 xa2 4 : Int) : Rat) / ((rawZ negb2 xb2 4 : Int) : Rat)) * (((n : Int) : Rat))))), (fun _ v => v = .agg #[.bool b13, .slice ad13 n13 c13, .slice ae13 m13 d13]), (fun w v => Rq w v (rmod ((((rawZ nega1 xa1 4 : Int) : Rat) / ((rawZ negb1 xb1 4 : Int) : Rat)) + ((((rawZ nega2 xa2 4 : Int) : Rat) / ((rawZ negb2 xb2 4 : Int) : Rat)) * (((n : Int) : Rat)))) (((rawZ nega2 xa2 4 : Int) : Rat) / ((rawZ negb2 xb2 4 : Int) : Rat)))), (fun _ v => v = .agg #[.bool b11, .slice ad11 n11 c11, .slice ae11 m11 d11]), (fun _ v => v = .agg #[.bool b13, .slice ad13 n13 c13, .slice ae13 m13 d13]), (fun w v => Rq w v (rmod (((rawZ nega1 xa1 4 : Int) : Rat) / ((rawZ negb1 xb1 4 : Int) : Rat)) (((rawZ nega2 xa2 4 : Int) : Rat) / ((rawZ negb2 xb2 4 : Int) : Rat)))), (fun _ v => v = .bool true), (fun _ v => v = .bool true)] [] (by decide +kernel) (by decide +kernel) rfl rfl rfl ⟨(Mb.eq _), (Mb.eq _), (Mb.eq _), (Mb.eq _), (Mb.eq _), (Mb.eq _), (Mb.eq _), (fun _ _ _ h hb => h.below hb), (fun _ _ _ h hb => h.below hb), (Mb.eq _), (fun _ _ _ h hb => h.below hb), (Mb.eq _), (Mb.eq _), (fun _ _ _ h hb => h.below hb), (Mb.eq _), (Mb.eq _), trivial⟩ trivial ⟨?_, ?_, ?_, ?_, ?_, ?_, ?_, ?_, ?_, ?_, ?_, ?_, ?_, ?_, ?_, ?_, trivial⟩ ?_
    · intro a' w' hF' hb hd
      exact if_does (wanted_free rfl) (Does.vals (r_load (hF'.at 2 rfl) (ld_Rat (vs := [.bool b13, .slice ad13 n13 c13, .slice ae13 m13 d13]) (o8.below hb) rfl rfl)) ⟨rfl, Below.refl _ _, (fun h => absurd h (by decide))⟩)
    · intro a' w' hF' hb hd
      have e29 : a'.tmps.getD 29 undef = .agg #[.bool b13, .slice ad13 n13 c13, .slice ae13 m13 d13] := hd _ 29 (Array.mem_of_getElem? (i := 0) rfl) rfl rfl
      refine if_does (wanted_free rfl) (Does.calls (r_call Tryz.func35 en35.1 en35.2 (map1 e29)) (rsgn_any _ (((rawZ nega2 xa2 4 : Int) : Rat) / ((rawZ negb2 xb2 4 : Int) : Rat)) _ (hh8.below hb)) ?_)
      rintro e w'' ⟨rfl, bb⟩
      exact ⟨_, rfl, rfl, bb, (fun h => absurd h (by decide))⟩
    · intro a' w' hF' hb hd
      have e30 : a'.tmps.getD 30 undef = .int .i64 (sz (Rat.num (((rawZ nega2 xa2 4 : Int) : Rat) / ((rawZ negb2 xb2 4 : Int) : Rat)))) := hd _ 30 (Array.mem_of_getElem? (i := 0) rfl) rfl rfl
      exact if_does (wanted_free rfl) (Does.vals (r_bin e30 ev_c eg_scalar (bi_int (ic_leq (c := false) (dec_ff h0)) (by simp))) ⟨rfl, Below.refl _ _, (fun h => absurd h (by decide))⟩)
    · intro a' w' hF' hb hd
      have e31 : a'.tmps.getD 31 undef = .bool false := hd _ 31 (Array.mem_of_getElem? (i := 0) rfl) rfl rfl
      exact if_does (wanted_free rfl) (Does.vals (r_move e31) ⟨rfl, Below.refl _ _, (fun h => absurd h (by decide))⟩)
    · intro a' w' hF' hb hd
      have e32 : a'.tmps.getD 32 undef = .bool false := hd _ 32 (Array.mem_of_getElem? (i := 0) rfl) rfl rfl
      exact if_does (wanted_by rfl rfl e32 rfl) (Does.vals (r_load (hF'.at 3 rfl) (ld_Rat (vs := [.bool b11, .slice ad11 n11 c11, .slice ae11 m11 d11]) (o7.below hb) rfl rfl)) ⟨rfl, Below.refl _ _, (fun h => absurd h (by decide))⟩)
    · intro a' w' hF' hb hd
      have e32 : a'.tmps.getD 32 undef = .bool false := hd _ 32 (Array.mem_of_getElem? (i := 0) rfl) rfl rfl
      exact if_does (wanted_by rfl rfl e32 rfl) (Does.vals (r_load (hF'.at 2 rfl) (ld_Rat (vs := [.bool b13, .slice ad13 n13 c13, .slice ae13 m13 d13]) (o8.below hb) rfl rfl)) ⟨rfl, Below.refl _ _, (fun h => absurd h (by decide))⟩)
    · intro a' w' hF' hb hd
      have e32 : a'.tmps.getD 32 undef = .bool false := hd _ 32 (Array.mem_of_getElem? (i := 0) rfl) rfl rfl
      exact if_does (wanted_by rfl rfl e32 rfl) (Does.vals (r_load (hF'.at 1 rfl) (ld_Rat (vs := [.bool b15, .slice ad15 n15 c15, .slice ae15 m15 d15]) (o9.below hb) rfl rfl)) ⟨rfl, Below.refl _ _, (fun h => absurd h (by decide))⟩)
    · intro a' w' hF' hb hd
      have e32 : a'.tmps.getD 32 undef = .bool false := hd _ 32 (Array.mem_of_getElem? (i := 2) rfl) rfl rfl
      have e34 : a'.tmps.getD 34 undef = .agg #[.bool b13, .slice ad13 n13 c13, .slice ae13 m13 d13] := hd _ 34 (Array.mem_of_getElem? (i := 0) rfl) rfl rfl
      have e35 : a'.tmps.getD 35 undef = .agg #[.bool b15, .slice ad15 n15 c15, .slice ae15 m15 d15] := hd _ 35 (Array.mem_of_getElem? (i := 1) rfl) rfl rfl
      refine if_does (wanted_by rfl rfl e32 rfl) (Does.calls (r_call Tryz.func39 en39.1 en39.2 (map2 e34 e35)) (rMul_any _ _ (((rawZ nega2 xa2 4 : Int) : Rat) / ((rawZ negb2 xb2 4 : Int) : Rat)) (((n : Int) : Rat)) (max 4 2) _ (hh8.below hb) (hh10.below hb) ((own5_lim nega2 negb2 oka2 okb2 4 (by decide)).up _ (by omega)) ((rlim_int (limz_64 b1 b2) (by omega)).up _ (by omega)) (by omega)) ?_)
      rintro e w'' ⟨v', rfl, h', bb⟩
      exact ⟨_, rfl, h', bb, (fun h => absurd h (by decide))⟩
    · intro a' w' hF' hb hd
      have e32 : a'.tmps.getD 32 undef = .bool false := hd _ 32 (Array.mem_of_getElem? (i := 3) rfl) rfl rfl
      have e33 : a'.tmps.getD 33 undef = .agg #[.bool b11, .slice ad11 n11 c11, .slice ae11 m11 d11] := hd _ 33 (Array.mem_of_getElem? (i := 0) rfl) rfl rfl
      obtain ⟨v36_0, e36, h36_1⟩ : ∃ v, a'.tmps.getD 36 undef = v ∧ Rq w' v ((((rawZ nega2 xa2 4 : Int) : Rat) / ((rawZ negb2 xb2 4 : Int) : Rat)) * (((n : Int) : Rat))) := ⟨_, rfl, hd _ 36 (Array.mem_of_getElem? (i := 1) rfl) rfl rfl⟩
      refine if_does (wanted_by rfl rfl e32 rfl) (Does.calls (r_call Tryz.func23 en23.1 en23.2 (map2 e33 e36)) (rAdd_any _ _ (((rawZ nega1 xa1 4 : Int) : Rat) / ((rawZ negb1 xb1 4 : Int) : Rat)) ((((rawZ nega2 xa2 4 : Int) : Rat) / ((rawZ negb2 xb2 4 : Int) : Rat)) * (((n : Int) : Rat))) (max 4 (4 + 2)) _ (hh6.below hb) h36_1 ((own5_lim nega1 negb1 oka1 okb1 4 (by decide)).up _ (by omega)) ((rlim_mul (own5_lim nega2 negb2 oka2 okb2 4 (by decide)) (rlim_int (limz_64 b1 b2) (by omega))).up _ (by omega)) (by omega)) ?_)
      rintro e w'' ⟨v', rfl, h', bb⟩
      exact ⟨_, rfl, h', bb, (fun h => absurd h (by decide))⟩
    · intro a' w' hF' hb hd
      have e32 : a'.tmps.getD 32 undef = .bool false := hd _ 32 (Array.mem_of_getElem? (i := 0) rfl) rfl rfl
      exact if_does (wanted_by rfl rfl e32 rfl) (Does.vals (r_load (hF'.at 2 rfl) (ld_Rat (vs := [.bool b13, .slice ad13 n13 c13, .slice ae13 m13 d13]) (o8.below hb) rfl rfl)) ⟨rfl, Below.refl _ _, (fun h => absurd h (by decide))⟩)
    · intro a' w' hF' hb hd
      have e32 : a'.tmps.getD 32 undef = .bool false := hd _ 32 (Array.mem_of_getElem? (i := 3) rfl) rfl rfl
      obtain ⟨v37_0, e37, h37_1⟩ : ∃ v, a'.tmps.getD 37 undef = v ∧ Rq w' v ((((rawZ nega1 xa1 4 : Int) : Rat) / ((rawZ negb1 xb1 4 : Int) : Rat)) + ((((rawZ nega2 xa2 4 : Int) : Rat) / ((rawZ negb2 xb2 4 : Int) : Rat)) * (((n : Int) : Rat)))) := ⟨_, rfl, hd _ 37 (Array.mem_of_getElem? (i := 0) rfl) rfl rfl⟩
      have e38 : a'.tmps.getD 38 undef = .agg #[.bool b13, .slice ad13 n13 c13, .slice ae13 m13 d13] := hd _ 38 (Array.mem_of_getElem? (i := 1) rfl) rfl rfl
      refine if_does (wanted_by rfl rfl e32 rfl) (Does.calls (r_call Tryz.func30 en30.1 en30.2 (map2 e37 e38)) (cMod_any _ _ ((((rawZ nega1 xa1 4 : Int) : Rat) / ((rawZ negb1 xb1 4 : Int) : Rat)) + ((((rawZ nega2 xa2 4 : Int) : Rat) / ((rawZ negb2 xb2 4 : Int) : Rat)) * (((n : Int) : Rat)))) (((rawZ nega2 xa2 4 : Int) : Rat) / ((rawZ negb2 xb2 4 : Int) : Rat)) (4 + (4 + 2) + 1) 4 _ h37_1 (hh8.below hb) (rlim_add (own5_lim nega1 negb1 oka1 okb1 4 (by decide)) (rlim_mul (own5_lim nega2 negb2 oka2 okb2 4 (by decide)) (rlim_int (limz_64 b1 b2) (by omega)))) (own5_lim nega2 negb2 oka2 okb2 4 (by decide)) (by omega) (by omega)) ?_)
      rintro e w'' ⟨v', rfl, h', bb⟩
      exact ⟨_, rfl, h', bb, (fun h => absurd h (by decide))⟩
    · intro a' w' hF' hb hd
      have e32 : a'.tmps.getD 32 undef = .bool false := hd _ 32 (Array.mem_of_getElem? (i := 0) rfl) rfl rfl
      exact if_does (wanted_by rfl rfl e32 rfl) (Does.vals (r_load (hF'.at 3 rfl) (ld_Rat (vs := [.bool b11, .slice ad11 n11 c11, .slice ae11 m11 d11]) (o7.below hb) rfl rfl)) ⟨rfl, Below.refl _ _, (fun h => absurd h (by decide))⟩)
    · intro a' w' hF' hb hd
      have e32 : a'.tmps.getD 32 undef = .bool false := hd _ 32 (Array.mem_of_getElem? (i := 0) rfl) rfl rfl
      exact if_does (wanted_by rfl rfl e32 rfl) (Does.vals (r_load (hF'.at 2 rfl) (ld_Rat (vs := [.bool b13, .slice ad13 n13 c13, .slice ae13 m13 d13]) (o8.below hb) rfl rfl)) ⟨rfl, Below.refl _ _, (fun h => absurd h (by decide))⟩)
    · intro a' w' hF' hb hd
      have e32 : a'.tmps.getD 32 undef = .bool false := hd _ 32 (Array.mem_of_getElem? (i := 3) rfl) rfl rfl
      have e40 : a'.tmps.getD 40 undef = .agg #[.bool b11, .slice ad11 n11 c11, .slice ae11 m11 d11] := hd _ 40 (Array.mem_of_getElem? (i := 0) rfl) rfl rfl
      have e41 : a'.tmps.getD 41 undef = .agg #[.bool b13, .slice ad13 n13 c13, .slice ae13 m13 d13] := hd _ 41 (Array.mem_of_getElem? (i := 1) rfl) rfl rfl
      refine if_does (wanted_by rfl rfl e32 rfl) (Does.calls (r_call Tryz.func30 en30.1 en30.2 (map2 e40 e41)) (cMod_any _ _ (((rawZ nega1 xa1 4 : Int) : Rat) / ((rawZ negb1 xb1 4 : Int) : Rat)) (((rawZ nega2 xa2 4 : Int) : Rat) / ((rawZ negb2 xb2 4 : Int) : Rat)) 4 4 _ (hh6.below hb) (hh8.below hb) (own5_lim nega1 negb1 oka1 okb1 4 (by decide)) (own5_lim nega2 negb2 oka2 okb2 4 (by decide)) (by omega) (by omega)) ?_)
      rintro e w'' ⟨v', rfl, h', bb⟩
      exact ⟨_, rfl, h', bb, (fun h => absurd h (by decide))⟩
    · intro a' w' hF' hb hd
      have e32 : a'.tmps.getD 32 undef = .bool false := hd _ 32 (Array.mem_of_getElem? (i := 3) rfl) rfl rfl
      obtain ⟨v39_0, e39, h39_1⟩ : ∃ v, a'.tmps.getD 39 undef = v ∧ Rq w' v (rmod ((((rawZ nega1 xa1 4 : Int) : Rat) / ((rawZ negb1 xb1 4 : Int) : Rat)) + ((((rawZ nega2 xa2 4 : Int) : Rat) / ((rawZ negb2 xb2 4 : Int) : Rat)) * (((n : Int) : Rat)))) (((rawZ nega2 xa2 4 : Int) : Rat) / ((rawZ negb2 xb2 4 : Int) : Rat))) := ⟨_, rfl, hd _ 39 (Array.mem_of_getElem? (i := 0) rfl) rfl rfl⟩
      obtain ⟨v42_0, e42, h42_1⟩ : ∃ v, a'.tmps.getD 42 undef = v ∧ Rq w' v (rmod (((rawZ nega1 xa1 4 : Int) : Rat) / ((rawZ negb1 xb1 4 : Int) : Rat)) (((rawZ nega2 xa2 4 : Int) : Rat) / ((rawZ negb2 xb2 4 : Int) : Rat))) := ⟨_, rfl, hd _ 42 (Array.mem_of_getElem? (i := 1) rfl) rfl rfl⟩
      refine if_does (wanted_by rfl rfl e32 rfl) (Does.calls (r_call Tryz.func26 en26.1 en26.2 (map2 e39 e42)) (rSame_true _ _ (rmod ((((rawZ nega1 xa1 4 : Int) : Rat) / ((rawZ negb1 xb1 4 : Int) : Rat)) + ((((rawZ nega2 xa2 4 : Int) : Rat) / ((rawZ negb2 xb2 4 : Int) : Rat)) * (((n : Int) : Rat)))) (((rawZ nega2 xa2 4 : Int) : Rat) / ((rawZ negb2 xb2 4 : Int) : Rat))) (rmod (((rawZ nega1 xa1 4 : Int) : Rat) / ((rawZ negb1 xb1 4 : Int) : Rat)) (((rawZ nega2 xa2 4 : Int) : Rat) / ((rawZ negb2 xb2 4 : Int) : Rat))) _ h39_1 h42_1 (rmod_more _ (Rat.not_le.1 (fun e => h0 (sz_le0.2 e))))) ?_)
      rintro e w'' ⟨rfl, bb⟩
      exact ⟨_, rfl, rfl, bb, (fun h => absurd h (by decide))⟩
    · intro a' w' hF' hb hd
      have e32 : a'.tmps.getD 32 undef = .bool false := hd _ 32 (Array.mem_of_getElem? (i := 0) rfl) rfl rfl
      have e43 : a'.tmps.getD 43 undef = .bool true := hd _ 43 (Array.mem_of_getElem? (i := 1) rfl) rfl rfl
      exact if_does (wanted_free rfl) (Does.vals (r_pick_f e32 e43) ⟨rfl, Below.refl _ _, (fun h => absurd h (by decide))⟩)
    intro a w21 hF bb hall hne
    have e44 : a.tmps.getD 44 undef = .bool true := hall 15 44 rfl
    clear hall hne
    replace bel := below_to bel bb
    clear bb
    replace hF := hF.add e44
    clear e44
    refine E.opset (L' := [(6, .bool true), (44, .bool true), (28, .bool false), (9, .pointer (some ⟨g9, 0, none⟩)), (8, .pointer (some ⟨g8, 0, none⟩)), (7, .pointer (some ⟨g7, 0, none⟩)), (17, .agg #[.bool b15, .slice ad15 n15 c15, .slice ae15 m15 d15]), (15, .agg #[.bool b13, .slice ad13 n13 c13, .slice ae13 m13 d13]), (13, .agg #[.bool b11, .slice ad11 n11 c11, .slice ae11 m11 d11]), (11, .bool false), (10, .bool true), (4, .pointer (some ⟨g4, 0, none⟩)), (3, .pointer (some ⟨g3, 0, none⟩)), (0, .agg #[.bool nega1, .slice aa1 na1 ca1, .bool negb1, .slice ab1 nb1 cb1]), (1, .agg #[.bool nega2, .slice aa2 na2 ca2, .bool negb2, .slice ab2 nb2 cb2]), (2, .int .i64 n)]) hF (r_assign (hF.at 0 rfl)) rfl rfl rfl rfl fun a hF => ?_
    refine E.nil ?_
    refine wp_ret ?_
    refine bodyPost_ret (res_tmp Tryz.results5 (hF.at 0 rfl)) hF.dfr ?_
    exact ⟨rfl, bel⟩

end Go.Proofs.YthoiocjbjfhgpaaGreat
