/- OrbPlaces, OrbElements. -/
import Derived.Test.YtmpdbkdijfpbbaaGreatDoorRsC
import Derived.Test.YtmpdbkdijfpbbaaGreatDoorSh
namespace Go.Proofs.YtmpdbkdijfpbbaaGreatDoor
open Go.RowKit
set_option maxRecDepth 100000
set_option linter.unusedVariables false

set_option maxHeartbeats 8000000 in
theorem orbPlaces_walk (nega1 : Bool) (aa1 : Option Addr) (na1 ca1 : Nat) (xa1 : List Nat) (negb1 : Bool) (ab1 : Option Addr) (nb1 cb1 : Nat) (xb1 : List Nat) (w : World) (hT : TabD w) (ia1 : InX w aa1 na1 ca1 xa1) (ib1 : InX w ab1 nb1 cb1 xb1) :
    Calls Tryz.prog 3 #[.agg #[.bool nega1, .slice aa1 na1 ca1, .bool negb1, .slice ab1 nb1 cb1]] w (ValPost w (.bool true)) := by
  have oka1 := ia1.ok
  have okb1 := ib1.ok
  have bel : Below w.heap.size w w := Below.refl _ _
  refine E.enter (nt := 49) (L := [(0, .agg #[.bool nega1, .slice aa1 na1 ca1, .bool negb1, .slice ab1 nb1 cb1])]) Tryz.func3 rfl rfl rfl (args_cons (i := 0) rfl args_nil) ?_
  intro a hF
  refine wp_seq ?_
  refine E.seq ?_
  obtain ⟨g1, w1, ge1, hr, bb, o1⟩ := own_box (P := Tryz.prog) (w := w) (cs := [.bool nega1, .slice aa1 na1 ca1, .bool negb1, .slice ab1 nb1 cb1]) (v := .agg #[.bool nega1, .slice aa1 na1 ca1, .bool negb1, .slice ab1 nb1 cb1]) 26 rfl (niB (niS (niB (niS ni0))))
  replace ge1 : w.heap.size ≤ g1 := by rw [← ge1]; exact bel.size
  refine E.opv hF (r_box (hF.at 0 rfl) hr) rfl rfl rfl rfl fun a hF => ?_
  clear hr
  replace bel := below_to bel bb
  clear bb
  refine E.opv hF (r_assign ev_c) rfl rfl rfl rfl fun a hF => ?_
  refine E.nil ?_
  refine wp_seq ?_
  refine wp_seq ?_
  refine E.seq ?_
  refine E.call hF (r_call Tryz.func5 en5.1 en5.2 map0) (awake12_any _ (hT.below bel)) rfl rfl rfl rfl ?_
  rintro e w2 ⟨rfl, bb⟩
  refine ⟨_, rfl, ?_⟩
  intro a hF
  replace o1 := o1.below bb
  replace bel := below_to bel bb
  clear bb
  refine E.opv hF (r_un (hF.at 0 rfl) (bn_not _ false rfl)) rfl rfl rfl rfl fun a hF => ?_
  refine E.nil ?_
  refine wp_cond_false (hF.at 0 rfl) ?_
  refine wp_skip ?_
  refine E.norm ?_
  refine wp_seq ?_
  refine E.drawn 6 mixed hF [7, 8, 9, 10, 3, 4] [(fun _ v => v = .agg #[.bool nega1, .slice aa1 na1 ca1, .bool negb1, .slice ab1 nb1 cb1]), (fun w v => Rq w v (((rawZ nega1 xa1 2 : Int) : Rat) / ((rawZ negb1 xb1 2 : Int) : Rat))), (fun _ v => v = .agg #[.bool nega1, .slice aa1 na1 ca1, .bool negb1, .slice ab1 nb1 cb1]), (fun w v => Rr w v (((rawZ nega1 xa1 2 : Int) : Rat) / ((rawZ negb1 xb1 2 : Int) : Rat)) (2)), (fun w v => ∃ g, v = .pointer (some ⟨g, 0, none⟩) ∧ w2.heap.size ≤ g ∧ Own w g [.bool false, .slice none 0 0, .slice none 0 0]), (fun w v => ∃ g, v = .pointer (some ⟨g, 0, none⟩) ∧ w2.heap.size ≤ g ∧ Own w g [.bool false, .slice none 0 0, .slice none 0 0])] [4, 5] (by decide +kernel) (by decide +kernel) rfl rfl rfl ⟨(Mb.eq _), (fun _ _ _ h hb => h.below hb), (Mb.eq _), (fun _ _ _ h hb => h.below hb), (fun _ _ _ ⟨g, e, l, o⟩ hb => ⟨g, e, l, o.below hb⟩), (fun _ _ _ ⟨g, e, l, o⟩ hb => ⟨g, e, l, o.below hb⟩), trivial⟩ ⟨fun _ _ ⟨g, e, _, o⟩ => ⟨g, e, o.lt⟩, ⟨fun _ _ ⟨g, e, _, o⟩ => ⟨g, e, o.lt⟩, trivial⟩⟩ ⟨?_, ?_, ?_, ?_, ?_, ?_, trivial⟩ ?_
  · intro a' w' hF' hb hd
    exact dv0 (r_load (hF'.at 3 rfl) (ld_Raw5 (vs := [.bool nega1, .slice aa1 na1 ca1, .bool negb1, .slice ab1 nb1 cb1]) (o1.below hb) rfl rfl)) rfl rfl rfl
  · intro a' w' hF' hb hd
    have e7 := sHe hd 0 7 rfl rfl rfl rfl
    exact dc0 (r_call Tryz.func6 en6.1 en6.2 (map2 e7 ev_c)) (Own5_any nega1 aa1 na1 ca1 xa1 negb1 ab1 nb1 cb1 xb1 2 _ (ia1.below (below_to bel hb)) (ib1.below (below_to bel hb)) (by omega)) rfl rfl
  · intro a' w' hF' hb hd
    exact dv0 (r_load (hF'.at 3 rfl) (ld_Raw5 (vs := [.bool nega1, .slice aa1 na1 ca1, .bool negb1, .slice ab1 nb1 cb1]) (o1.below hb) rfl rfl)) rfl rfl rfl
  · intro a' w' hF' hb hd
    have e9 := sHe hd 0 9 rfl rfl rfl rfl
    exact dc0 (r_call Tryz.func7 en7.1 en7.2 (map2 e9 ev_c)) (Told5_any nega1 aa1 na1 ca1 xa1 negb1 ab1 nb1 cb1 xb1 2 _ (ia1.below (below_to bel hb)) (ib1.below (below_to bel hb)) (by omega) (by omega)) rfl rfl
  · intro a' w' hF' hb hd
    obtain ⟨g, w2, ge, hr, bb, on⟩ := own_alloc (P := Tryz.prog) (w := w') (cs := [.bool false, .slice none 0 0, .slice none 0 0]) 32 ze_Rat rfl (niB (niS (niS ni0)))
    subst ge
    exact if_does (wanted_free rfl) (Does.vals (r_alloc hr) ⟨⟨_, rfl, hb.size, on⟩, bb, fun _ => rfl⟩)
  · intro a' w' hF' hb hd
    obtain ⟨g, w2, ge, hr, bb, on⟩ := own_alloc (P := Tryz.prog) (w := w') (cs := [.bool false, .slice none 0 0, .slice none 0 0]) 39 ze_RRat rfl (niB (niS (niS ni0)))
    subst ge
    exact if_does (wanted_free rfl) (Does.vals (r_alloc hr) ⟨⟨_, rfl, hb.size, on⟩, bb, fun _ => rfl⟩)
  intro a w3 hF bb hall hne
  obtain ⟨vv4, e8, hh5⟩ := sS hall 1 8 rfl rfl
  obtain ⟨vv6, e10, hh7⟩ := sS hall 3 10 rfl rfl
  obtain ⟨g3, e3, ge3, o3⟩ : ∃ g, a.tmps.getD 3 undef = .pointer (some ⟨g, 0, none⟩) ∧ w2.heap.size ≤ g ∧ Own w3 g [.bool false, .slice none 0 0, .slice none 0 0] := hall 4 3 rfl
  obtain ⟨g4, e4, ge4, o4⟩ : ∃ g, a.tmps.getD 4 undef = .pointer (some ⟨g, 0, none⟩) ∧ w2.heap.size ≤ g ∧ Own w3 g [.bool false, .slice none 0 0, .slice none 0 0] := hall 5 4 rfl
  have ne3_4 : g3 ≠ g4 := by intro e; exact hne 4 5 3 4 rfl rfl (by decide) rfl rfl (by rw [e3, e4, e])
  replace ge3 : w.heap.size ≤ g3 := Nat.le_trans bel.size ge3
  replace ge4 : w.heap.size ≤ g4 := Nat.le_trans bel.size ge4
  clear hall hne
  replace bel := below_to bel bb
  clear bb
  obtain ⟨b8, ad8, n8, c8, ae8, m8, d8, rfl, hn8, hd8⟩ := Rq.shape hh5
  have hf9 := Wc.abs hn8
  replace hF := hF.add e8
  clear e8
  obtain ⟨b10, ad10, n10, c10, ae10, m10, d10, z10, D10, rfl, hn10, hd10, hD10, hq10, lz10, lD10⟩ := Rr.shape hh7
  have ha10 := hn10.abs
  replace hF := hF.add e10
  clear e10
  replace hF := hF.add e3
  clear e3
  replace hF := hF.add e4
  clear e4
  obtain ⟨w11, hr, tu, on⟩ := st_Rat (vs := [.bool b8, .slice ad8 n8 c8, .slice ae8 m8 d8]) o3 rfl rfl (ocB (ocS (ocS oc0))) (niB (niS (niS ni0))) (o := 0) rfl
  have kp := tu.keep o3
  refine E.st hF (r_store (hF.at 1 rfl) (hF.at 3 rfl) (hr _ rfl)) rfl rfl fun a hF => ?_
  clear hr
  replace hh7 := hh7.keep kp
  replace hn10 := hn10.keep kp
  replace ha10 := ha10.keep kp
  replace hd10 := hd10.keep kp
  replace hh5 := hh5.keep kp
  replace hn8 := hn8.keep kp
  replace hf9 := hf9.keep kp
  replace hd8 := hd8.keep kp
  replace o4 := tu.own o4 (Ne.symm ne3_4)
  replace bel := tu.below bel ge3
  clear tu kp
  replace o3 := on
  clear on
  obtain ⟨w12, hr, tu, on⟩ := st_RRat (vs := [.bool b10, .slice ad10 n10 c10, .slice ae10 m10 d10]) o4 rfl rfl (ocB (ocS (ocS oc0))) (niB (niS (niS ni0))) (o := 0) rfl
  have kp := tu.keep o4
  refine E.st hF (r_store (hF.at 0 rfl) (hF.at 2 rfl) (hr _ rfl)) rfl rfl fun a hF => ?_
  clear hr
  replace hf9 := hf9.keep kp
  replace hd8 := hd8.keep kp
  replace hh5 := hh5.keep kp
  replace hn8 := hn8.keep kp
  replace hh7 := hh7.keep kp
  replace hn10 := hn10.keep kp
  replace ha10 := ha10.keep kp
  replace hd10 := hd10.keep kp
  replace o3 := tu.own o3 ne3_4
  replace bel := tu.below bel ge4
  clear tu kp
  replace o4 := on
  clear on
  refine E.nil ?_
  refine wp_seq ?_
  refine E.drawn 38 mixed hF [11, 12, 13, 14, 15, 16, 17, 18, 19, 20, 21, 22, 23, 24, 25, 26, 27, 28, 29, 30, 31, 32, 33, 34, 35, 36, 37, 38, 39, 40, 41, 42, 43, 44, 45, 46, 47, 48] [(fun _ v => v = .agg #[.bool b8, .slice ad8 n8 c8, .slice ae8 m8 d8]), (fun w v => Rq w v (sunV (((rawZ nega1 xa1 2 : Int) : Rat) / ((rawZ negb1 xb1 2 : Int) : Rat)))), (fun _ v => v = .agg #[.bool b10, .slice ad10 n10 c10, .slice ae10 m10 d10]), (fun w v => Rr w v (sunV (((rawZ nega1 xa1 2 : Int) : Rat) / ((rawZ negb1 xb1 2 : Int) : Rat))) ((3 * 2 + 8 * 2 + 400))), (fun _ v => v = .int .i64 0), (fun _ v => v = .bool true), (fun _ v => v = .bool true), (fun _ v => v = .agg #[.bool b8, .slice ad8 n8 c8, .slice ae8 m8 d8]), (fun w v => Rq w v (moonV (((rawZ nega1 xa1 2 : Int) : Rat) / ((rawZ negb1 xb1 2 : Int) : Rat)))), (fun _ v => v = .agg #[.bool b10, .slice ad10 n10 c10, .slice ae10 m10 d10]), (fun w v => Rr w v (moonV (((rawZ nega1 xa1 2 : Int) : Rat) / ((rawZ negb1 xb1 2 : Int) : Rat))) ((3 * 2 + 8 * 2 + 400))), (fun _ v => v = .int .i64 0), (fun _ v => v = .bool true), (fun _ v => v = .bool true), (fun _ v => v = .bool true), (fun _ v => v = .agg #[.bool b8, .slice ad8 n8 c8, .slice ae8 m8 d8]), (fun w v => Rq w v (phaseV (((rawZ nega1 xa1 2 : Int) : Rat) / ((rawZ negb1 xb1 2 : Int) : Rat)))), (fun _ v => v = .agg #[.bool b10, .slice ad10 n10 c10, .slice ae10 m10 d10]), (fun w v => Rr w v (phaseV (((rawZ nega1 xa1 2 : Int) : Rat) / ((rawZ negb1 xb1 2 : Int) : Rat))) ((6 * 2 + 22 * 2 + 1100))), (fun _ v => v = .int .i64 0), (fun _ v => v = .bool true), (fun _ v => v = .bool true), (fun _ v => v = .bool true), (fun w v => Orb w v pyr pay ssz sch), (fun _ v => v = .agg #[.bool b8, .slice ad8 n8 c8, .slice ae8 m8 d8]), (fun w v => Rq w v (sunV (((rawZ nega1 xa1 2 : Int) : Rat) / ((rawZ negb1 xb1 2 : Int) : Rat)))), (fun _ v => v = .agg #[.bool b8, .slice ad8 n8 c8, .slice ae8 m8 d8]), (fun w v => Rq w v (sunV (((rawZ nega1 xa1 2 : Int) : Rat) / ((rawZ negb1 xb1 2 : Int) : Rat)))), (fun _ v => v = .bool true), (fun _ v => v = .bool true), (fun _ v => v = .bool true), (fun w v => Orb w v pmo pam msz mch), (fun _ v => v = .agg #[.bool b8, .slice ad8 n8 c8, .slice ae8 m8 d8]), (fun w v => Rq w v (moonV (((rawZ nega1 xa1 2 : Int) : Rat) / ((rawZ negb1 xb1 2 : Int) : Rat)))), (fun _ v => v = .agg #[.bool b8, .slice ad8 n8 c8, .slice ae8 m8 d8]), (fun w v => Rq w v (moonV (((rawZ nega1 xa1 2 : Int) : Rat) / ((rawZ negb1 xb1 2 : Int) : Rat)))), (fun _ v => v = .bool true), (fun _ v => v = .bool true)] [] (by decide +kernel) (by decide +kernel) rfl rfl rfl ⟨(Mb.eq _), (fun _ _ _ h hb => h.below hb), (Mb.eq _), (fun _ _ _ h hb => h.below hb), (Mb.eq _), (Mb.eq _), (Mb.eq _), (Mb.eq _), (fun _ _ _ h hb => h.below hb), (Mb.eq _), (fun _ _ _ h hb => h.below hb), (Mb.eq _), (Mb.eq _), (Mb.eq _), (Mb.eq _), (Mb.eq _), (fun _ _ _ h hb => h.below hb), (Mb.eq _), (fun _ _ _ h hb => h.below hb), (Mb.eq _), (Mb.eq _), (Mb.eq _), (Mb.eq _), (fun _ _ _ h hb => h.below hb), (Mb.eq _), (fun _ _ _ h hb => h.below hb), (Mb.eq _), (fun _ _ _ h hb => h.below hb), (Mb.eq _), (Mb.eq _), (Mb.eq _), (fun _ _ _ h hb => h.below hb), (Mb.eq _), (fun _ _ _ h hb => h.below hb), (Mb.eq _), (fun _ _ _ h hb => h.below hb), (Mb.eq _), (Mb.eq _), trivial⟩ trivial ⟨?_, ?_, ?_, ?_, ?_, ?_, ?_, ?_, ?_, ?_, ?_, ?_, ?_, ?_, ?_, ?_, ?_, ?_, ?_, ?_, ?_, ?_, ?_, ?_, ?_, ?_, ?_, ?_, ?_, ?_, ?_, ?_, ?_, ?_, ?_, ?_, ?_, ?_, trivial⟩ ?_
  · intro a' w' hF' hb hd
    exact dv0 (r_load (hF'.at 1 rfl) (ld_Rat (vs := [.bool b8, .slice ad8 n8 c8, .slice ae8 m8 d8]) (o3.below hb) rfl rfl)) rfl rfl rfl
  · intro a' w' hF' hb hd
    have e11 := sHe hd 0 11 rfl rfl rfl rfl
    exact dc0 (r_call Tryz.func9 en9.1 en9.2 (map1 e11)) (oSun_any _ _ 2 _ (hT.below (below_to bel hb)) (hh5.below hb) (own5_lim nega1 negb1 oka1 okb1 2 (by decide)) (by omega)) rfl rfl
  · intro a' w' hF' hb hd
    exact dv0 (r_load (hF'.at 0 rfl) (ld_RRat (vs := [.bool b10, .slice ad10 n10 c10, .slice ae10 m10 d10]) (o4.below hb) rfl rfl)) rfl rfl rfl
  · intro a' w' hF' hb hd
    have e13 := sHe hd 0 13 rfl rfl rfl rfl
    exact dc0 (r_call Tryz.func10 en10.1 en10.2 (map1 e13)) (rSun12_any _ _ 2 2 _ (hh7.below hb) (own5_lim nega1 negb1 oka1 okb1 2 (by decide)) (by omega) (by omega) (by omega)) rfl rfl
  · intro a' w' hF' hb hd
    obtain ⟨v12_0, e12, h12_1⟩ := sH hd 0 12 rfl rfl rfl rfl
    obtain ⟨v14_0, e14, h14_1⟩ := sH hd 1 14 rfl rfl rfl rfl
    exact dcx0 (r_call Tryz.func8 en8.1 en8.2 (map2 e12 e14)) (Is5_any _ _ _ _ (3 * 2 + 100) (3 * 2 + 8 * 2 + 400) _ h12_1 h14_1 (sunV_lim (own5_lim nega1 negb1 oka1 okb1 2 (by decide))) rfl (by omega) (by omega)) (fun _ => rfl) rfl rfl
  · intro a' w' hF' hb hd
    have e15 := sHe hd 0 15 rfl rfl rfl rfl
    exact dv0 (r_bin e15 ev_c eg_scalar (bi_int (ic_eql (c := true) (by decide)) (by simp))) rfl rfl rfl
  · intro a' w' hF' hb hd
    have e16 := sHe hd 0 16 rfl rfl rfl rfl
    exact dv0 (r_move e16) rfl rfl rfl
  · intro a' w' hF' hb hd
    have e17 := sHe hd 0 17 rfl rfl rfl rfl
    exact dv1 (wanted_by rfl rfl e17 rfl) (r_load (hF'.at 1 rfl) (ld_Rat (vs := [.bool b8, .slice ad8 n8 c8, .slice ae8 m8 d8]) (o3.below hb) rfl rfl)) rfl rfl
  · intro a' w' hF' hb hd
    have e17 := sHe hd 1 17 rfl rfl rfl rfl
    have e18 := sHe hd 0 18 rfl rfl rfl rfl
    exact dc1 (wanted_by rfl rfl e17 rfl) (r_call Tryz.func11 en11.1 en11.2 (map1 e18)) (oMoon_any _ _ 2 _ (hT.below (below_to bel hb)) (hh5.below hb) (own5_lim nega1 negb1 oka1 okb1 2 (by decide)) (by omega)) rfl
  · intro a' w' hF' hb hd
    have e17 := sHe hd 0 17 rfl rfl rfl rfl
    exact dv1 (wanted_by rfl rfl e17 rfl) (r_load (hF'.at 0 rfl) (ld_RRat (vs := [.bool b10, .slice ad10 n10 c10, .slice ae10 m10 d10]) (o4.below hb) rfl rfl)) rfl rfl
  · intro a' w' hF' hb hd
    have e17 := sHe hd 2 17 rfl rfl rfl rfl
    have e20 := sHe hd 0 20 rfl rfl rfl rfl
    exact dc1 (wanted_by rfl rfl e17 rfl) (r_call Tryz.func12 en12.1 en12.2 (map1 e20)) (rMoon12_any _ _ 2 2 _ (hh7.below hb) (own5_lim nega1 negb1 oka1 okb1 2 (by decide)) (by omega) (by omega) (by omega)) rfl
  · intro a' w' hF' hb hd
    have e17 := sHe hd 3 17 rfl rfl rfl rfl
    obtain ⟨v19_0, e19, h19_1⟩ := sH hd 0 19 rfl rfl rfl rfl
    obtain ⟨v21_0, e21, h21_1⟩ := sH hd 1 21 rfl rfl rfl rfl
    exact dcx1 (wanted_by rfl rfl e17 rfl) (r_call Tryz.func8 en8.1 en8.2 (map2 e19 e21)) (Is5_any _ _ _ _ (3 * 2 + 100) (3 * 2 + 8 * 2 + 400) _ h19_1 h21_1 (moonV_lim (own5_lim nega1 negb1 oka1 okb1 2 (by decide))) rfl (by omega) (by omega)) (fun _ => rfl) rfl
  · intro a' w' hF' hb hd
    have e17 := sHe hd 1 17 rfl rfl rfl rfl
    have e22 := sHe hd 0 22 rfl rfl rfl rfl
    exact dv1 (wanted_by rfl rfl e17 rfl) (r_bin e22 ev_c eg_scalar (bi_int (ic_eql (c := true) (by decide)) (by simp))) rfl rfl
  · intro a' w' hF' hb hd
    have e17 := sHe hd 0 17 rfl rfl rfl rfl
    have e23 := sHe hd 1 23 rfl rfl rfl rfl
    exact dv0 (r_pick_t e17 e23) rfl rfl rfl
  · intro a' w' hF' hb hd
    have e24 := sHe hd 0 24 rfl rfl rfl rfl
    exact dv0 (r_move e24) rfl rfl rfl
  · intro a' w' hF' hb hd
    have e25 := sHe hd 0 25 rfl rfl rfl rfl
    exact dv1 (wanted_by rfl rfl e25 rfl) (r_load (hF'.at 1 rfl) (ld_Rat (vs := [.bool b8, .slice ad8 n8 c8, .slice ae8 m8 d8]) (o3.below hb) rfl rfl)) rfl rfl
  · intro a' w' hF' hb hd
    have e25 := sHe hd 1 25 rfl rfl rfl rfl
    have e26 := sHe hd 0 26 rfl rfl rfl rfl
    exact dc1 (wanted_by rfl rfl e25 rfl) (r_call Tryz.func13 en13.1 en13.2 (map1 e26)) (oPhase_any _ _ 2 _ (hT.below (below_to bel hb)) (hh5.below hb) (own5_lim nega1 negb1 oka1 okb1 2 (by decide)) (by omega)) rfl
  · intro a' w' hF' hb hd
    have e25 := sHe hd 0 25 rfl rfl rfl rfl
    exact dv1 (wanted_by rfl rfl e25 rfl) (r_load (hF'.at 0 rfl) (ld_RRat (vs := [.bool b10, .slice ad10 n10 c10, .slice ae10 m10 d10]) (o4.below hb) rfl rfl)) rfl rfl
  · intro a' w' hF' hb hd
    have e25 := sHe hd 2 25 rfl rfl rfl rfl
    have e28 := sHe hd 0 28 rfl rfl rfl rfl
    exact dc1 (wanted_by rfl rfl e25 rfl) (r_call Tryz.func14 en14.1 en14.2 (map1 e28)) (rPhase12_any _ _ 2 2 _ (hh7.below hb) (own5_lim nega1 negb1 oka1 okb1 2 (by decide)) (by omega) (by omega) (by omega)) rfl
  · intro a' w' hF' hb hd
    have e25 := sHe hd 3 25 rfl rfl rfl rfl
    obtain ⟨v27_0, e27, h27_1⟩ := sH hd 0 27 rfl rfl rfl rfl
    obtain ⟨v29_0, e29, h29_1⟩ := sH hd 1 29 rfl rfl rfl rfl
    exact dcx1 (wanted_by rfl rfl e25 rfl) (r_call Tryz.func8 en8.1 en8.2 (map2 e27 e29)) (Is5_any _ _ _ _ (6 * 2 + 210) (6 * 2 + 22 * 2 + 1100) _ h27_1 h29_1 (phaseV_lim (own5_lim nega1 negb1 oka1 okb1 2 (by decide))) rfl (by omega) (by omega)) (fun _ => rfl) rfl
  · intro a' w' hF' hb hd
    have e25 := sHe hd 1 25 rfl rfl rfl rfl
    have e30 := sHe hd 0 30 rfl rfl rfl rfl
    exact dv1 (wanted_by rfl rfl e25 rfl) (r_bin e30 ev_c eg_scalar (bi_int (ic_eql (c := true) (by decide)) (by simp))) rfl rfl
  · intro a' w' hF' hb hd
    have e25 := sHe hd 0 25 rfl rfl rfl rfl
    have e31 := sHe hd 1 31 rfl rfl rfl rfl
    exact dv0 (r_pick_t e25 e31) rfl rfl rfl
  · intro a' w' hF' hb hd
    have e32 := sHe hd 0 32 rfl rfl rfl rfl
    exact dv0 (r_move e32) rfl rfl rfl
  · intro a' w' hF' hb hd
    have e33 := sHe hd 0 33 rfl rfl rfl rfl
    exact dc1 (wanted_by rfl rfl e33 rfl) (r_call Tryz.func15 en15.1 en15.2 map0) (oSunOrbit_any _) rfl
  · intro a' w' hF' hb hd
    have e33 := sHe hd 0 33 rfl rfl rfl rfl
    exact dv1 (wanted_by rfl rfl e33 rfl) (r_load (hF'.at 1 rfl) (ld_Rat (vs := [.bool b8, .slice ad8 n8 c8, .slice ae8 m8 d8]) (o3.below hb) rfl rfl)) rfl rfl
  · intro a' w' hF' hb hd
    have e33 := sHe hd 3 33 rfl rfl rfl rfl
    obtain ⟨v34_0, e34, h34_1⟩ := sH hd 0 34 rfl rfl rfl rfl
    have e35 := sHe hd 1 35 rfl rfl rfl rfl
    exact dc1 (wanted_by rfl rfl e33 rfl) (r_call Tryz.func16 en16.1 en16.2 (map2 e34 e35)) (oAt_any _ _ pyr pay ssz sch _ 2 _ (hT.below (below_to bel hb)) h34_1 (hh5.below hb) pyr_lim pay_lim ssz_lim sch_lim (own5_lim nega1 negb1 oka1 okb1 2 (by decide)) (by omega)) rfl
  · intro a' w' hF' hb hd
    have e33 := sHe hd 0 33 rfl rfl rfl rfl
    exact dv1 (wanted_by rfl rfl e33 rfl) (r_load (hF'.at 1 rfl) (ld_Rat (vs := [.bool b8, .slice ad8 n8 c8, .slice ae8 m8 d8]) (o3.below hb) rfl rfl)) rfl rfl
  · intro a' w' hF' hb hd
    have e33 := sHe hd 2 33 rfl rfl rfl rfl
    have e37 := sHe hd 0 37 rfl rfl rfl rfl
    exact dc1 (wanted_by rfl rfl e33 rfl) (r_call Tryz.func9 en9.1 en9.2 (map1 e37)) (oSun_any _ _ 2 _ (hT.below (below_to bel hb)) (hh5.below hb) (own5_lim nega1 negb1 oka1 okb1 2 (by decide)) (by omega)) rfl
  · intro a' w' hF' hb hd
    have e33 := sHe hd 3 33 rfl rfl rfl rfl
    obtain ⟨v36_0, e36, h36_1⟩ := sH hd 0 36 rfl rfl rfl rfl
    obtain ⟨v38_0, e38, h38_1⟩ := sH hd 1 38 rfl rfl rfl rfl
    exact dcx1 (wanted_by rfl rfl e33 rfl) (r_call Tryz.func17 en17.1 en17.2 (map2 e36 e38)) (rSame_true _ _ _ _ _ h36_1 h38_1 rfl) (fun _ => rfl) rfl
  · intro a' w' hF' hb hd
    have e33 := sHe hd 0 33 rfl rfl rfl rfl
    have e39 := sHe hd 1 39 rfl rfl rfl rfl
    exact dv0 (r_pick_t e33 e39) rfl rfl rfl
  · intro a' w' hF' hb hd
    have e40 := sHe hd 0 40 rfl rfl rfl rfl
    exact dv0 (r_move e40) rfl rfl rfl
  · intro a' w' hF' hb hd
    have e41 := sHe hd 0 41 rfl rfl rfl rfl
    exact dc1 (wanted_by rfl rfl e41 rfl) (r_call Tryz.func18 en18.1 en18.2 map0) (oMoonOrbit_any _) rfl
  · intro a' w' hF' hb hd
    have e41 := sHe hd 0 41 rfl rfl rfl rfl
    exact dv1 (wanted_by rfl rfl e41 rfl) (r_load (hF'.at 1 rfl) (ld_Rat (vs := [.bool b8, .slice ad8 n8 c8, .slice ae8 m8 d8]) (o3.below hb) rfl rfl)) rfl rfl
  · intro a' w' hF' hb hd
    have e41 := sHe hd 3 41 rfl rfl rfl rfl
    obtain ⟨v42_0, e42, h42_1⟩ := sH hd 0 42 rfl rfl rfl rfl
    have e43 := sHe hd 1 43 rfl rfl rfl rfl
    exact dc1 (wanted_by rfl rfl e41 rfl) (r_call Tryz.func16 en16.1 en16.2 (map2 e42 e43)) (oAt_any _ _ pmo pam msz mch _ 2 _ (hT.below (below_to bel hb)) h42_1 (hh5.below hb) pmo_lim pam_lim msz_lim mch_lim (own5_lim nega1 negb1 oka1 okb1 2 (by decide)) (by omega)) rfl
  · intro a' w' hF' hb hd
    have e41 := sHe hd 0 41 rfl rfl rfl rfl
    exact dv1 (wanted_by rfl rfl e41 rfl) (r_load (hF'.at 1 rfl) (ld_Rat (vs := [.bool b8, .slice ad8 n8 c8, .slice ae8 m8 d8]) (o3.below hb) rfl rfl)) rfl rfl
  · intro a' w' hF' hb hd
    have e41 := sHe hd 2 41 rfl rfl rfl rfl
    have e45 := sHe hd 0 45 rfl rfl rfl rfl
    exact dc1 (wanted_by rfl rfl e41 rfl) (r_call Tryz.func11 en11.1 en11.2 (map1 e45)) (oMoon_any _ _ 2 _ (hT.below (below_to bel hb)) (hh5.below hb) (own5_lim nega1 negb1 oka1 okb1 2 (by decide)) (by omega)) rfl
  · intro a' w' hF' hb hd
    have e41 := sHe hd 3 41 rfl rfl rfl rfl
    obtain ⟨v44_0, e44, h44_1⟩ := sH hd 0 44 rfl rfl rfl rfl
    obtain ⟨v46_0, e46, h46_1⟩ := sH hd 1 46 rfl rfl rfl rfl
    exact dcx1 (wanted_by rfl rfl e41 rfl) (r_call Tryz.func17 en17.1 en17.2 (map2 e44 e46)) (rSame_true _ _ _ _ _ h44_1 h46_1 rfl) (fun _ => rfl) rfl
  · intro a' w' hF' hb hd
    have e41 := sHe hd 0 41 rfl rfl rfl rfl
    have e47 := sHe hd 1 47 rfl rfl rfl rfl
    exact dv0 (r_pick_t e41 e47) rfl rfl rfl
  intro a w13 hF bb hall hne
  have e48 := sSe hall 37 48 rfl rfl
  clear hall hne
  replace bel := below_to bel bb
  clear bb
  replace hF := hF.add e48
  clear e48
  refine E.opset (L' := [(2, .bool true), (48, .bool true), (4, .pointer (some ⟨g4, 0, none⟩)), (3, .pointer (some ⟨g3, 0, none⟩)), (10, .agg #[.bool b10, .slice ad10 n10 c10, .slice ae10 m10 d10]), (8, .agg #[.bool b8, .slice ad8 n8 c8, .slice ae8 m8 d8]), (6, .bool false), (5, .bool true), (1, .pointer (some ⟨g1, 0, none⟩)), (0, .agg #[.bool nega1, .slice aa1 na1 ca1, .bool negb1, .slice ab1 nb1 cb1])]) hF (r_assign (hF.at 0 rfl)) rfl rfl rfl rfl fun a hF => ?_
  refine E.nil ?_
  refine wp_ret ?_
  refine bodyPost_ret (res_tmp Tryz.results3 (hF.at 0 rfl)) hF.dfr ?_
  exact ⟨rfl, bel⟩

set_option maxHeartbeats 8000000 in
theorem orbElements_walk (nega1 : Bool) (aa1 : Option Addr) (na1 ca1 : Nat) (xa1 : List Nat) (negb1 : Bool) (ab1 : Option Addr) (nb1 cb1 : Nat) (xb1 : List Nat) (w : World) (hT : TabD w) (ia1 : InX w aa1 na1 ca1 xa1) (ib1 : InX w ab1 nb1 cb1 xb1) :
    Calls Tryz.prog 4 #[.agg #[.bool nega1, .slice aa1 na1 ca1, .bool negb1, .slice ab1 nb1 cb1]] w (ValPost w (.bool true)) := by
  have oka1 := ia1.ok
  have okb1 := ib1.ok
  have bel : Below w.heap.size w w := Below.refl _ _
  refine E.enter (nt := 39) (L := [(0, .agg #[.bool nega1, .slice aa1 na1 ca1, .bool negb1, .slice ab1 nb1 cb1])]) Tryz.func4 rfl rfl rfl (args_cons (i := 0) rfl args_nil) ?_
  intro a hF
  refine wp_seq ?_
  refine E.seq ?_
  obtain ⟨g1, w1, ge1, hr, bb, o1⟩ := own_box (P := Tryz.prog) (w := w) (cs := [.bool nega1, .slice aa1 na1 ca1, .bool negb1, .slice ab1 nb1 cb1]) (v := .agg #[.bool nega1, .slice aa1 na1 ca1, .bool negb1, .slice ab1 nb1 cb1]) 26 rfl (niB (niS (niB (niS ni0))))
  replace ge1 : w.heap.size ≤ g1 := by rw [← ge1]; exact bel.size
  refine E.opv hF (r_box (hF.at 0 rfl) hr) rfl rfl rfl rfl fun a hF => ?_
  clear hr
  replace bel := below_to bel bb
  clear bb
  refine E.opv hF (r_assign ev_c) rfl rfl rfl rfl fun a hF => ?_
  refine E.nil ?_
  refine wp_seq ?_
  refine wp_seq ?_
  refine E.seq ?_
  refine E.call hF (r_call Tryz.func5 en5.1 en5.2 map0) (awake12_any _ (hT.below bel)) rfl rfl rfl rfl ?_
  rintro e w2 ⟨rfl, bb⟩
  refine ⟨_, rfl, ?_⟩
  intro a hF
  replace o1 := o1.below bb
  replace bel := below_to bel bb
  clear bb
  refine E.opv hF (r_un (hF.at 0 rfl) (bn_not _ false rfl)) rfl rfl rfl rfl fun a hF => ?_
  refine E.nil ?_
  refine wp_cond_false (hF.at 0 rfl) ?_
  refine wp_skip ?_
  refine E.norm ?_
  refine wp_seq ?_
  refine E.seq ?_
  refine E.opv hF (r_load (hF.at 3 rfl) (ld_Raw5 (vs := [.bool nega1, .slice aa1 na1 ca1, .bool negb1, .slice ab1 nb1 cb1]) o1 rfl rfl)) rfl rfl rfl rfl fun a hF => ?_
  refine E.call hF (r_call Tryz.func6 en6.1 en6.2 (map2 (hF.at 0 rfl) ev_c)) (Own5_any nega1 aa1 na1 ca1 xa1 negb1 ab1 nb1 cb1 xb1 2 _ (ia1.below bel) (ib1.below bel) (by omega)) rfl rfl rfl rfl ?_
  rintro e w3 ⟨vv4, rfl, hh5, bb⟩
  refine ⟨_, rfl, ?_⟩
  intro a hF
  replace o1 := o1.below bb
  replace bel := below_to bel bb
  clear bb
  obtain ⟨b6, ad6, n6, c6, ae6, m6, d6, rfl, hn6, hd6⟩ := Rq.shape hh5
  have hf7 := Wc.abs hn6
  obtain ⟨g3, w8, ge3, hr, bb, o3⟩ := own_alloc (P := Tryz.prog) (w := w3) (cs := [.bool false, .slice none 0 0, .slice none 0 0]) 32 ze_Rat rfl (niB (niS (niS ni0)))
  have ne1_3 : g1 ≠ g3 := by rw [← ge3]; exact o1.ne_new
  replace ge3 : w.heap.size ≤ g3 := by rw [← ge3]; exact bel.size
  refine E.opv hF (r_alloc hr) rfl rfl rfl rfl fun a hF => ?_
  clear hr
  replace hh5 := hh5.below bb
  replace hn6 := hn6.below bb
  replace hf7 := hf7.below bb
  replace hd6 := hd6.below bb
  replace o1 := o1.below bb
  replace bel := below_to bel bb
  clear bb
  obtain ⟨w9, hr, tu, on⟩ := st_Rat (vs := [.bool b6, .slice ad6 n6 c6, .slice ae6 m6 d6]) o3 rfl rfl (ocB (ocS (ocS oc0))) (niB (niS (niS ni0))) (o := 0) rfl
  have kp := tu.keep o3
  refine E.st hF (r_store (hF.at 0 rfl) (hF.at 1 rfl) (hr _ rfl)) rfl rfl fun a hF => ?_
  clear hr
  replace hh5 := hh5.keep kp
  replace hn6 := hn6.keep kp
  replace hf7 := hf7.keep kp
  replace hd6 := hd6.keep kp
  replace o1 := tu.own o1 ne1_3
  replace bel := tu.below bel ge3
  clear tu kp
  replace o3 := on
  clear on
  refine E.nil ?_
  refine wp_seq ?_
  refine E.seq ?_
  refine E.opv hF (r_load (hF.at 0 rfl) (ld_Rat (vs := [.bool b6, .slice ad6 n6 c6, .slice ae6 m6 d6]) o3 rfl rfl)) rfl rfl rfl rfl fun a hF => ?_
  refine E.call hF (r_call Tryz.func19 en19.1 en19.2 (map1 (hF.at 0 rfl))) (oElem_any _ _ 2 _ (hT.below bel) hh5 (own5_lim nega1 negb1 oka1 okb1 2 (by decide)) (by omega)) rfl rfl rfl rfl ?_
  rintro e w10 ⟨rfl, bb⟩
  refine ⟨_, rfl, ?_⟩
  intro a hF
  have hpa := prt_bd (x := phaseV (((rawZ nega1 xa1 2 : Int) : Rat) / ((rawZ negb1 xb1 2 : Int) : Rat))) (n := 60) (by omega) (phaseV_low _) (phaseV_high _)
  have hpb := prt_bd (x := phaseV (((rawZ nega1 xa1 2 : Int) : Rat) / ((rawZ negb1 xb1 2 : Int) : Rat))) (n := 30) (by omega) (phaseV_low _) (phaseV_high _)
  replace hf7 := hf7.below bb
  replace hd6 := hd6.below bb
  replace hh5 := hh5.below bb
  replace hn6 := hn6.below bb
  replace o1 := o1.below bb
  replace o3 := o3.below bb
  replace bel := below_to bel bb
  clear bb
  obtain ⟨g4, w11, ge4, hr, bb, o4⟩ := blk_alloc (P := Tryz.prog) (w := w10) (cs := [.int .i64 0, .int .i64 0, .int .i64 0, .int .i64 0, .int .i64 0]) 50 ze_Elem rfl
  have ne1_4 : g1 ≠ g4 := by rw [← ge4]; exact o1.ne_new
  have ne3_4 : g3 ≠ g4 := by rw [← ge4]; exact o3.ne_new
  have gk4 := Nat.le_of_eq ge4
  have bk4 := bb
  have kb4_0 := hf7
  have kb4_1 := hd6
  have kb4_2 := hh5
  have kb4_3 := hn6
  replace ge4 : w.heap.size ≤ g4 := by rw [← ge4]; exact bel.size
  refine E.opv hF (r_alloc hr) rfl rfl rfl rfl fun a hF => ?_
  clear hr
  replace hf7 := hf7.below bb
  replace hd6 := hd6.below bb
  replace hh5 := hh5.below bb
  replace hn6 := hn6.below bb
  replace o1 := o1.below bb
  replace o3 := o3.below bb
  replace bel := below_to bel bb
  clear bb
  obtain ⟨w12, hr, tu, on⟩ := stb_Elem (vs := [.int .i64 (prt (sunV (((rawZ nega1 xa1 2 : Int) : Rat) / ((rawZ negb1 xb1 2 : Int) : Rat))) 12), .int .i64 (prt (phaseV (((rawZ nega1 xa1 2 : Int) : Rat) / ((rawZ negb1 xb1 2 : Int) : Rat))) 30 + 1), .int .i64 (prt (moonV (((rawZ nega1 xa1 2 : Int) : Rat) / ((rawZ negb1 xb1 2 : Int) : Rat))) 27 + 1), .int .i64 (prt (yogaV (((rawZ nega1 xa1 2 : Int) : Rat) / ((rawZ negb1 xb1 2 : Int) : Rat))) 27 + 1), .int .i64 (prt (phaseV (((rawZ nega1 xa1 2 : Int) : Rat) / ((rawZ negb1 xb1 2 : Int) : Rat))) 60 + 1)]) o4 rfl rfl (ocI (ocI (ocI (ocI (ocI oc0))))) (o := 0) rfl
  refine E.st hF (r_store (hF.at 0 rfl) (hF.at 1 rfl) (hr _ rfl)) rfl rfl fun a hF => ?_
  clear hr
  have bq := tu.below bk4 gk4
  replace hf7 := kb4_0.below bq
  clear kb4_0
  replace hd6 := kb4_1.below bq
  clear kb4_1
  replace hh5 := kb4_2.below bq
  clear kb4_2
  replace hn6 := kb4_3.below bq
  clear kb4_3
  clear bq bk4 gk4
  replace o1 := tu.own o1 ne1_4
  replace o3 := tu.own o3 ne3_4
  replace bel := tu.below bel ge4
  clear tu
  replace o4 := on
  clear on
  refine E.nil ?_
  refine wp_seq ?_
  refine E.drawn 28 mixed hF [11, 12, 13, 14, 15, 16, 17, 18, 19, 20, 21, 22, 23, 24, 25, 26, 27, 28, 29, 30, 31, 32, 33, 34, 35, 36, 37, 38] [(fun _ v => v = .agg #[.int .i64 (prt (sunV (((rawZ nega1 xa1 2 : Int) : Rat) / ((rawZ negb1 xb1 2 : Int) : Rat))) 12), .int .i64 (prt (phaseV (((rawZ nega1 xa1 2 : Int) : Rat) / ((rawZ negb1 xb1 2 : Int) : Rat))) 30 + 1), .int .i64 (prt (moonV (((rawZ nega1 xa1 2 : Int) : Rat) / ((rawZ negb1 xb1 2 : Int) : Rat))) 27 + 1), .int .i64 (prt (yogaV (((rawZ nega1 xa1 2 : Int) : Rat) / ((rawZ negb1 xb1 2 : Int) : Rat))) 27 + 1), .int .i64 (prt (phaseV (((rawZ nega1 xa1 2 : Int) : Rat) / ((rawZ negb1 xb1 2 : Int) : Rat))) 60 + 1)]), (fun _ v => v = .agg #[.bool nega1, .slice aa1 na1 ca1, .bool negb1, .slice ab1 nb1 cb1]), (fun w v => Rr w v (((rawZ nega1 xa1 2 : Int) : Rat) / ((rawZ negb1 xb1 2 : Int) : Rat)) (2)), (fun _ v => v = .agg #[.int .i64 (prt (sunV (((rawZ nega1 xa1 2 : Int) : Rat) / ((rawZ negb1 xb1 2 : Int) : Rat))) 12), .int .i64 (prt (phaseV (((rawZ nega1 xa1 2 : Int) : Rat) / ((rawZ negb1 xb1 2 : Int) : Rat))) 30 + 1), .int .i64 (prt (moonV (((rawZ nega1 xa1 2 : Int) : Rat) / ((rawZ negb1 xb1 2 : Int) : Rat))) 27 + 1), .int .i64 (prt (yogaV (((rawZ nega1 xa1 2 : Int) : Rat) / ((rawZ negb1 xb1 2 : Int) : Rat))) 27 + 1), .int .i64 (prt (phaseV (((rawZ nega1 xa1 2 : Int) : Rat) / ((rawZ negb1 xb1 2 : Int) : Rat))) 60 + 1)]), (fun _ v => v = .bool true), (fun _ v => v = .bool true), (fun _ v => v = .agg #[.bool b6, .slice ad6 n6 c6, .slice ae6 m6 d6]), (fun _ v => v = .int .i64 (prt (sunV (((rawZ nega1 xa1 2 : Int) : Rat) / ((rawZ negb1 xb1 2 : Int) : Rat))) 12)), (fun _ v => v = .pointer (some ⟨g4, 0, none⟩)), (fun _ v => v = .int .i64 (prt (sunV (((rawZ nega1 xa1 2 : Int) : Rat) / ((rawZ negb1 xb1 2 : Int) : Rat))) 12)), (fun _ v => v = .bool true), (fun _ v => v = .bool true), (fun _ v => v = .bool true), (fun _ v => v = .agg #[.bool b6, .slice ad6 n6 c6, .slice ae6 m6 d6]), (fun _ v => v = .int .i64 (prt (phaseV (((rawZ nega1 xa1 2 : Int) : Rat) / ((rawZ negb1 xb1 2 : Int) : Rat))) 30 + 1)), (fun _ v => v = .pointer (some ⟨g4, 1, none⟩)), (fun _ v => v = .int .i64 (prt (phaseV (((rawZ nega1 xa1 2 : Int) : Rat) / ((rawZ negb1 xb1 2 : Int) : Rat))) 30 + 1)), (fun _ v => v = .bool true), (fun _ v => v = .bool true), (fun _ v => v = .bool true), (fun _ v => v = .pointer (some ⟨g4, 4, none⟩)), (fun _ v => v = .int .i64 (prt (phaseV (((rawZ nega1 xa1 2 : Int) : Rat) / ((rawZ negb1 xb1 2 : Int) : Rat))) 60 + 1)), (fun _ v => v = .int .i64 ((prt (phaseV (((rawZ nega1 xa1 2 : Int) : Rat) / ((rawZ negb1 xb1 2 : Int) : Rat))) 60 + 1) + 1)), (fun _ v => v = .int .i64 (((prt (phaseV (((rawZ nega1 xa1 2 : Int) : Rat) / ((rawZ negb1 xb1 2 : Int) : Rat))) 60 + 1) + 1) / 2)), (fun _ v => v = .pointer (some ⟨g4, 1, none⟩)), (fun _ v => v = .int .i64 (prt (phaseV (((rawZ nega1 xa1 2 : Int) : Rat) / ((rawZ negb1 xb1 2 : Int) : Rat))) 30 + 1)), (fun _ v => v = .bool true), (fun _ v => v = .bool true)] [] (by decide +kernel) (by decide +kernel) rfl rfl rfl ⟨(Mb.eq _), (Mb.eq _), (fun _ _ _ h hb => h.below hb), (Mb.eq _), (Mb.eq _), (Mb.eq _), (Mb.eq _), (Mb.eq _), (Mb.eq _), (Mb.eq _), (Mb.eq _), (Mb.eq _), (Mb.eq _), (Mb.eq _), (Mb.eq _), (Mb.eq _), (Mb.eq _), (Mb.eq _), (Mb.eq _), (Mb.eq _), (Mb.eq _), (Mb.eq _), (Mb.eq _), (Mb.eq _), (Mb.eq _), (Mb.eq _), (Mb.eq _), (Mb.eq _), trivial⟩ trivial ⟨?_, ?_, ?_, ?_, ?_, ?_, ?_, ?_, ?_, ?_, ?_, ?_, ?_, ?_, ?_, ?_, ?_, ?_, ?_, ?_, ?_, ?_, ?_, ?_, ?_, ?_, ?_, ?_, trivial⟩ ?_
  · intro a' w' hF' hb hd
    exact dv0 (r_load (hF'.at 0 rfl) (ldb_Elem (vs := [.int .i64 (prt (sunV (((rawZ nega1 xa1 2 : Int) : Rat) / ((rawZ negb1 xb1 2 : Int) : Rat))) 12), .int .i64 (prt (phaseV (((rawZ nega1 xa1 2 : Int) : Rat) / ((rawZ negb1 xb1 2 : Int) : Rat))) 30 + 1), .int .i64 (prt (moonV (((rawZ nega1 xa1 2 : Int) : Rat) / ((rawZ negb1 xb1 2 : Int) : Rat))) 27 + 1), .int .i64 (prt (yogaV (((rawZ nega1 xa1 2 : Int) : Rat) / ((rawZ negb1 xb1 2 : Int) : Rat))) 27 + 1), .int .i64 (prt (phaseV (((rawZ nega1 xa1 2 : Int) : Rat) / ((rawZ negb1 xb1 2 : Int) : Rat))) 60 + 1)]) (o4.below hb) rfl rfl)) rfl rfl rfl
  · intro a' w' hF' hb hd
    exact dv0 (r_load (hF'.at 9 rfl) (ld_Raw5 (vs := [.bool nega1, .slice aa1 na1 ca1, .bool negb1, .slice ab1 nb1 cb1]) (o1.below hb) rfl rfl)) rfl rfl rfl
  · intro a' w' hF' hb hd
    have e12 := sHe hd 0 12 rfl rfl rfl rfl
    exact dc0 (r_call Tryz.func7 en7.1 en7.2 (map2 e12 ev_c)) (Told5_any nega1 aa1 na1 ca1 xa1 negb1 ab1 nb1 cb1 xb1 2 _ (ia1.below (below_to bel hb)) (ib1.below (below_to bel hb)) (by omega) (by omega)) rfl rfl
  · intro a' w' hF' hb hd
    obtain ⟨v13_0, e13, h13_1⟩ := sH hd 0 13 rfl rfl rfl rfl
    exact dcx0 (r_call Tryz.func20 en20.1 en20.2 (map1 e13)) (rOf12_any _ _ 2 2 _ h13_1 (own5_lim nega1 negb1 oka1 okb1 2 (by decide)) (by omega) (by omega) (by omega)) (fun _ => rfl) rfl rfl
  · intro a' w' hF' hb hd
    have e11 := sHe hd 0 11 rfl rfl rfl rfl
    have e14 := sHe hd 1 14 rfl rfl rfl rfl
    exact dv0 (r_bin e11 e14 eg_RElem (es_RElem (dec_tt (by simp)))) rfl rfl rfl
  · intro a' w' hF' hb hd
    have e15 := sHe hd 0 15 rfl rfl rfl rfl
    exact dv0 (r_move e15) rfl rfl rfl
  · intro a' w' hF' hb hd
    have e16 := sHe hd 0 16 rfl rfl rfl rfl
    exact dv1 (wanted_by rfl rfl e16 rfl) (r_load (hF'.at 3 rfl) (ld_Rat (vs := [.bool b6, .slice ad6 n6 c6, .slice ae6 m6 d6]) (o3.below hb) rfl rfl)) rfl rfl
  · intro a' w' hF' hb hd
    have e16 := sHe hd 1 16 rfl rfl rfl rfl
    have e17 := sHe hd 0 17 rfl rfl rfl rfl
    exact dcx1 (wanted_by rfl rfl e16 rfl) (r_call Tryz.func21 en21.1 en21.2 (map1 e17)) (oSign_any _ _ 2 _ (hT.below (below_to bel hb)) (hh5.below hb) (own5_lim nega1 negb1 oka1 okb1 2 (by decide)) (by omega)) (fun _ => rfl) rfl
  · intro a' w' hF' hb hd
    have e16 := sHe hd 0 16 rfl rfl rfl rfl
    exact dv1 (wanted_by rfl rfl e16 rfl) (r_field (hF'.at 0 rfl) (fa_Elem_0 (p := 0) rfl)) rfl rfl
  · intro a' w' hF' hb hd
    have e16 := sHe hd 1 16 rfl rfl rfl rfl
    have e19 := sHe hd 0 19 rfl rfl rfl rfl
    exact dv1 (wanted_by rfl rfl e16 rfl) (r_load e19 (ldb_int (v := .int .i64 (prt (sunV (((rawZ nega1 xa1 2 : Int) : Rat) / ((rawZ negb1 xb1 2 : Int) : Rat))) 12)) (o4.below hb) rfl)) rfl rfl
  · intro a' w' hF' hb hd
    have e16 := sHe hd 2 16 rfl rfl rfl rfl
    have e18 := sHe hd 0 18 rfl rfl rfl rfl
    have e20 := sHe hd 1 20 rfl rfl rfl rfl
    exact dv1 (wanted_by rfl rfl e16 rfl) (r_bin e18 e20 eg_scalar (bi_int (ic_eql (c := true) (by simp)) (by simp))) rfl rfl
  · intro a' w' hF' hb hd
    have e16 := sHe hd 0 16 rfl rfl rfl rfl
    have e21 := sHe hd 1 21 rfl rfl rfl rfl
    exact dv0 (r_pick_t e16 e21) rfl rfl rfl
  · intro a' w' hF' hb hd
    have e22 := sHe hd 0 22 rfl rfl rfl rfl
    exact dv0 (r_move e22) rfl rfl rfl
  · intro a' w' hF' hb hd
    have e23 := sHe hd 0 23 rfl rfl rfl rfl
    exact dv1 (wanted_by rfl rfl e23 rfl) (r_load (hF'.at 3 rfl) (ld_Rat (vs := [.bool b6, .slice ad6 n6 c6, .slice ae6 m6 d6]) (o3.below hb) rfl rfl)) rfl rfl
  · intro a' w' hF' hb hd
    have e23 := sHe hd 1 23 rfl rfl rfl rfl
    have e24 := sHe hd 0 24 rfl rfl rfl rfl
    exact dcx1 (wanted_by rfl rfl e23 rfl) (r_call Tryz.func22 en22.1 en22.2 (map1 e24)) (oTithi_any _ _ 2 _ (hT.below (below_to bel hb)) (hh5.below hb) (own5_lim nega1 negb1 oka1 okb1 2 (by decide)) (by omega)) (fun _ => rfl) rfl
  · intro a' w' hF' hb hd
    have e23 := sHe hd 0 23 rfl rfl rfl rfl
    exact dv1 (wanted_by rfl rfl e23 rfl) (r_field (hF'.at 0 rfl) (fa_Elem_1 (p := 1) rfl)) rfl rfl
  · intro a' w' hF' hb hd
    have e23 := sHe hd 1 23 rfl rfl rfl rfl
    have e26 := sHe hd 0 26 rfl rfl rfl rfl
    exact dv1 (wanted_by rfl rfl e23 rfl) (r_load e26 (ldb_int (v := .int .i64 (prt (phaseV (((rawZ nega1 xa1 2 : Int) : Rat) / ((rawZ negb1 xb1 2 : Int) : Rat))) 30 + 1)) (o4.below hb) rfl)) rfl rfl
  · intro a' w' hF' hb hd
    have e23 := sHe hd 2 23 rfl rfl rfl rfl
    have e25 := sHe hd 0 25 rfl rfl rfl rfl
    have e27 := sHe hd 1 27 rfl rfl rfl rfl
    exact dv1 (wanted_by rfl rfl e23 rfl) (r_bin e25 e27 eg_scalar (bi_int (ic_eql (c := true) (by simp)) (by simp))) rfl rfl
  · intro a' w' hF' hb hd
    have e23 := sHe hd 0 23 rfl rfl rfl rfl
    have e28 := sHe hd 1 28 rfl rfl rfl rfl
    exact dv0 (r_pick_t e23 e28) rfl rfl rfl
  · intro a' w' hF' hb hd
    have e29 := sHe hd 0 29 rfl rfl rfl rfl
    exact dv0 (r_move e29) rfl rfl rfl
  · intro a' w' hF' hb hd
    have e30 := sHe hd 0 30 rfl rfl rfl rfl
    exact dv1 (wanted_by rfl rfl e30 rfl) (r_field (hF'.at 0 rfl) (fa_Elem_4 (p := 4) rfl)) rfl rfl
  · intro a' w' hF' hb hd
    have e30 := sHe hd 1 30 rfl rfl rfl rfl
    have e31 := sHe hd 0 31 rfl rfl rfl rfl
    exact dv1 (wanted_by rfl rfl e30 rfl) (r_load e31 (ldb_int (v := .int .i64 (prt (phaseV (((rawZ nega1 xa1 2 : Int) : Rat) / ((rawZ negb1 xb1 2 : Int) : Rat))) 60 + 1)) (o4.below hb) rfl)) rfl rfl
  · intro a' w' hF' hb hd
    have e30 := sHe hd 1 30 rfl rfl rfl rfl
    have e32 := sHe hd 0 32 rfl rfl rfl rfl
    exact dv1 (wanted_by rfl rfl e30 rfl) (r_bin e32 ev_c eg_scalar (ia_add (by omega) (by omega))) rfl rfl
  · intro a' w' hF' hb hd
    have e30 := sHe hd 1 30 rfl rfl rfl rfl
    have e33 := sHe hd 0 33 rfl rfl rfl rfl
    exact dv1 (wanted_by rfl rfl e30 rfl) (r_bin e33 ev_c eg_scalar (id_quon (a := (prt (phaseV (((rawZ nega1 xa1 2 : Int) : Rat) / ((rawZ negb1 xb1 2 : Int) : Rat))) 60 + 1) + 1) (b := 2) (by omega) (by omega) (by omega) (by omega))) rfl rfl
  · intro a' w' hF' hb hd
    have e30 := sHe hd 0 30 rfl rfl rfl rfl
    exact dv1 (wanted_by rfl rfl e30 rfl) (r_field (hF'.at 0 rfl) (fa_Elem_1 (p := 1) rfl)) rfl rfl
  · intro a' w' hF' hb hd
    have e30 := sHe hd 1 30 rfl rfl rfl rfl
    have e35 := sHe hd 0 35 rfl rfl rfl rfl
    exact dv1 (wanted_by rfl rfl e30 rfl) (r_load e35 (ldb_int (v := .int .i64 (prt (phaseV (((rawZ nega1 xa1 2 : Int) : Rat) / ((rawZ negb1 xb1 2 : Int) : Rat))) 30 + 1)) (o4.below hb) rfl)) rfl rfl
  · intro a' w' hF' hb hd
    have e30 := sHe hd 2 30 rfl rfl rfl rfl
    have e34 := sHe hd 0 34 rfl rfl rfl rfl
    have e36 := sHe hd 1 36 rfl rfl rfl rfl
    exact dv1 (wanted_by rfl rfl e30 rfl) (r_bin e34 e36 eg_scalar (bi_int (ic_eql (c := true) (dec_tt (half_tithi _))) (by simp))) rfl rfl
  · intro a' w' hF' hb hd
    have e30 := sHe hd 0 30 rfl rfl rfl rfl
    have e37 := sHe hd 1 37 rfl rfl rfl rfl
    exact dv0 (r_pick_t e30 e37) rfl rfl rfl
  intro a w13 hF bb hall hne
  have e38 := sSe hall 27 38 rfl rfl
  clear hall hne
  replace bel := below_to bel bb
  clear bb
  replace hF := hF.add e38
  clear e38
  refine E.opset (L' := [(2, .bool true), (38, .bool true), (4, .pointer (some ⟨g4, 0, none⟩)), (10, .agg #[.int .i64 (prt (sunV (((rawZ nega1 xa1 2 : Int) : Rat) / ((rawZ negb1 xb1 2 : Int) : Rat))) 12), .int .i64 (prt (phaseV (((rawZ nega1 xa1 2 : Int) : Rat) / ((rawZ negb1 xb1 2 : Int) : Rat))) 30 + 1), .int .i64 (prt (moonV (((rawZ nega1 xa1 2 : Int) : Rat) / ((rawZ negb1 xb1 2 : Int) : Rat))) 27 + 1), .int .i64 (prt (yogaV (((rawZ nega1 xa1 2 : Int) : Rat) / ((rawZ negb1 xb1 2 : Int) : Rat))) 27 + 1), .int .i64 (prt (phaseV (((rawZ nega1 xa1 2 : Int) : Rat) / ((rawZ negb1 xb1 2 : Int) : Rat))) 60 + 1)]), (9, .agg #[.bool b6, .slice ad6 n6 c6, .slice ae6 m6 d6]), (3, .pointer (some ⟨g3, 0, none⟩)), (8, .agg #[.bool b6, .slice ad6 n6 c6, .slice ae6 m6 d6]), (7, .agg #[.bool nega1, .slice aa1 na1 ca1, .bool negb1, .slice ab1 nb1 cb1]), (6, .bool false), (5, .bool true), (1, .pointer (some ⟨g1, 0, none⟩)), (0, .agg #[.bool nega1, .slice aa1 na1 ca1, .bool negb1, .slice ab1 nb1 cb1])]) hF (r_assign (hF.at 0 rfl)) rfl rfl rfl rfl fun a hF => ?_
  refine E.nil ?_
  refine wp_ret ?_
  refine bodyPost_ret (res_tmp Tryz.results4 (hF.at 0 rfl)) hF.dfr ?_
  exact ⟨rfl, bel⟩

end Go.Proofs.YtmpdbkdijfpbbaaGreatDoor
