/- SineOf, SineArcs. -/
import Derived.Test.YteafnboehmfmiaaGreatDoorSnE
namespace Go.Proofs.YteafnboehmfmiaaGreatDoor
open Go.RowKit
set_option maxRecDepth 100000
set_option linter.unusedVariables false

set_option maxHeartbeats 8000000 in
theorem sineOf_walk (nega1 : Bool) (aa1 : Option Addr) (na1 ca1 : Nat) (xa1 : List Nat) (negb1 : Bool) (ab1 : Option Addr) (nb1 cb1 : Nat) (xb1 : List Nat) (w : World) (hT : TabD w) (ia1 : InX w aa1 na1 ca1 xa1) (ib1 : InX w ab1 nb1 cb1 xb1) :
    Calls Tryz.prog 3 #[.agg #[.bool nega1, .slice aa1 na1 ca1, .bool negb1, .slice ab1 nb1 cb1]] w (ValPost w (.bool true)) := by
  have oka1 := ia1.ok
  have okb1 := ib1.ok
  have bel : Below w.heap.size w w := Below.refl _ _
  refine E.enter (nt := 33) (L := [(0, .agg #[.bool nega1, .slice aa1 na1 ca1, .bool negb1, .slice ab1 nb1 cb1])]) Tryz.func3 rfl rfl rfl (args_cons (i := 0) rfl args_nil) ?_
  intro a hF
  refine wp_seq ?_
  refine E.seq ?_
  obtain ⟨g1, w1, ge1, hr, bb, o1⟩ := own_box (P := Tryz.prog) (w := w) (cs := [.bool nega1, .slice aa1 na1 ca1, .bool negb1, .slice ab1 nb1 cb1]) (v := .agg #[.bool nega1, .slice aa1 na1 ca1, .bool negb1, .slice ab1 nb1 cb1]) 26 rfl (niB (niS (niB (niS ni0))))
  replace ge1 : w.heap.size ≤ g1 := by rw [← ge1]; exact bel.size
  refine E.opv hF (r_box (hF.at 0 rfl) hr) rfl rfl rfl rfl fun a hF => ?_
  clear hr
  replace ia1 := ia1.below bb
  replace ib1 := ib1.below bb
  replace bel := below_to bel bb
  clear bb
  refine E.opv hF (r_assign ev_c) rfl rfl rfl rfl fun a hF => ?_
  refine E.nil ?_
  refine wp_seq ?_
  refine wp_seq ?_
  refine E.seq ?_
  refine E.call hF (r_call Tryz.func5 en5.1 en5.2 map0) (awake10_any _ (hT.below bel)) rfl rfl rfl rfl ?_
  rintro e w2 ⟨rfl, bb⟩
  refine ⟨_, rfl, ?_⟩
  intro a hF
  replace ia1 := ia1.below bb
  replace ib1 := ib1.below bb
  replace o1 := o1.below bb
  replace bel := below_to bel bb
  clear bb
  refine E.opv hF (r_un (hF.at 0 rfl) (bn_not _ false rfl)) rfl rfl rfl rfl fun a hF => ?_
  refine E.nil ?_
  refine wp_cond_false (hF.at 0 rfl) ?_
  refine wp_skip ?_
  refine E.norm ?_
  refine wp_seq ?_
  refine E.drawn 6 mixed hF [7, 8, 9, 10, 3, 4] [(fun _ v => v = .agg #[.bool nega1, .slice aa1 na1 ca1, .bool negb1, .slice ab1 nb1 cb1]), (fun w v => Rq w v (((rawZ nega1 xa1 4 : Int) : Rat) / ((rawZ negb1 xb1 4 : Int) : Rat))), (fun _ v => v = .agg #[.bool nega1, .slice aa1 na1 ca1, .bool negb1, .slice ab1 nb1 cb1]), (fun w v => Rr w v (((rawZ nega1 xa1 4 : Int) : Rat) / ((rawZ negb1 xb1 4 : Int) : Rat)) (4)), (fun w v => ∃ g, v = .pointer (some ⟨g, 0, none⟩) ∧ w2.heap.size ≤ g ∧ Own w g [.bool false, .slice none 0 0, .slice none 0 0]), (fun w v => ∃ g, v = .pointer (some ⟨g, 0, none⟩) ∧ w2.heap.size ≤ g ∧ Own w g [.bool false, .slice none 0 0, .slice none 0 0])] [4, 5] (by decide +kernel) (by decide +kernel) rfl rfl rfl ⟨(Mb.eq _), (fun _ _ _ h hb => h.below hb), (Mb.eq _), (fun _ _ _ h hb => h.below hb), (fun _ _ _ ⟨g, e, l, o⟩ hb => ⟨g, e, l, o.below hb⟩), (fun _ _ _ ⟨g, e, l, o⟩ hb => ⟨g, e, l, o.below hb⟩), trivial⟩ ⟨fun _ _ ⟨g, e, _, o⟩ => ⟨g, e, o.lt⟩, ⟨fun _ _ ⟨g, e, _, o⟩ => ⟨g, e, o.lt⟩, trivial⟩⟩ ⟨?_, ?_, ?_, ?_, ?_, ?_, trivial⟩ ?_
  · intro a' w' hF' hb hd
    exact if_does (wanted_free rfl) (Does.vals (r_load (hF'.at 3 rfl) (ld_Raw5 (vs := [.bool nega1, .slice aa1 na1 ca1, .bool negb1, .slice ab1 nb1 cb1]) (o1.below hb) rfl rfl)) ⟨rfl, Below.refl _ _, (fun h => absurd h (by decide))⟩)
  · intro a' w' hF' hb hd
    have e7 : a'.tmps.getD 7 undef = .agg #[.bool nega1, .slice aa1 na1 ca1, .bool negb1, .slice ab1 nb1 cb1] := hd _ 7 (Array.mem_of_getElem? (i := 0) rfl) rfl rfl
    refine if_does (wanted_free rfl) (Does.calls (r_call Tryz.func6 en6.1 en6.2 (map2 e7 ev_c)) (Own5_any nega1 aa1 na1 ca1 xa1 negb1 ab1 nb1 cb1 xb1 4 _ (ia1.below hb) (ib1.below hb) (by omega)) ?_)
    rintro e w'' ⟨v', rfl, h', bb⟩
    exact ⟨_, rfl, h', bb, (fun h => absurd h (by decide))⟩
  · intro a' w' hF' hb hd
    exact if_does (wanted_free rfl) (Does.vals (r_load (hF'.at 3 rfl) (ld_Raw5 (vs := [.bool nega1, .slice aa1 na1 ca1, .bool negb1, .slice ab1 nb1 cb1]) (o1.below hb) rfl rfl)) ⟨rfl, Below.refl _ _, (fun h => absurd h (by decide))⟩)
  · intro a' w' hF' hb hd
    have e9 : a'.tmps.getD 9 undef = .agg #[.bool nega1, .slice aa1 na1 ca1, .bool negb1, .slice ab1 nb1 cb1] := hd _ 9 (Array.mem_of_getElem? (i := 0) rfl) rfl rfl
    refine if_does (wanted_free rfl) (Does.calls (r_call Tryz.func7 en7.1 en7.2 (map2 e9 ev_c)) (Told5_any nega1 aa1 na1 ca1 xa1 negb1 ab1 nb1 cb1 xb1 4 _ (ia1.below hb) (ib1.below hb) (by omega) (by omega)) ?_)
    rintro e w'' ⟨v', rfl, h', bb⟩
    exact ⟨_, rfl, h', bb, (fun h => absurd h (by decide))⟩
  · intro a' w' hF' hb hd
    obtain ⟨g, w2, ge, hr, bb, on⟩ := own_alloc (P := Tryz.prog) (w := w') (cs := [.bool false, .slice none 0 0, .slice none 0 0]) 32 ze_Rat rfl (niB (niS (niS ni0)))
    subst ge
    exact if_does (wanted_free rfl) (Does.vals (r_alloc hr) ⟨⟨_, rfl, hb.size, on⟩, bb, fun _ => rfl⟩)
  · intro a' w' hF' hb hd
    obtain ⟨g, w2, ge, hr, bb, on⟩ := own_alloc (P := Tryz.prog) (w := w') (cs := [.bool false, .slice none 0 0, .slice none 0 0]) 39 ze_RRat rfl (niB (niS (niS ni0)))
    subst ge
    exact if_does (wanted_free rfl) (Does.vals (r_alloc hr) ⟨⟨_, rfl, hb.size, on⟩, bb, fun _ => rfl⟩)
  intro a w3 hF bb hall hne
  obtain ⟨vv4, e8, hh5⟩ : ∃ v, a.tmps.getD 8 undef = v ∧ Rq w3 v (((rawZ nega1 xa1 4 : Int) : Rat) / ((rawZ negb1 xb1 4 : Int) : Rat)) := ⟨_, rfl, hall 1 8 rfl⟩
  obtain ⟨vv6, e10, hh7⟩ : ∃ v, a.tmps.getD 10 undef = v ∧ Rr w3 v (((rawZ nega1 xa1 4 : Int) : Rat) / ((rawZ negb1 xb1 4 : Int) : Rat)) (4) := ⟨_, rfl, hall 3 10 rfl⟩
  obtain ⟨g3, e3, ge3, o3⟩ : ∃ g, a.tmps.getD 3 undef = .pointer (some ⟨g, 0, none⟩) ∧ w2.heap.size ≤ g ∧ Own w3 g [.bool false, .slice none 0 0, .slice none 0 0] := hall 4 3 rfl
  obtain ⟨g4, e4, ge4, o4⟩ : ∃ g, a.tmps.getD 4 undef = .pointer (some ⟨g, 0, none⟩) ∧ w2.heap.size ≤ g ∧ Own w3 g [.bool false, .slice none 0 0, .slice none 0 0] := hall 5 4 rfl
  have ne3_4 : g3 ≠ g4 := by intro e; exact hne 4 5 3 4 rfl rfl (by decide) rfl rfl (by rw [e3, e4, e])
  replace ge3 : w.heap.size ≤ g3 := Nat.le_trans bel.size ge3
  replace ge4 : w.heap.size ≤ g4 := Nat.le_trans bel.size ge4
  clear hall hne
  replace bel := below_to bel bb
  clear bb
  obtain ⟨b8, ad8, n8, c8, ae8, m8, d8, rfl, hn8, hd8⟩ := Rq.shape hh5
  have hf9 := Wc.abs hn8
  replace hF := hF.add e8
  clear e8
  obtain ⟨b10, ad10, n10, c10, ae10, m10, d10, z10, D10, rfl, hn10, hd10, hD10, hq10, lz10, lD10⟩ := Rr.shape hh7
  have ha10 := hn10.abs
  replace hF := hF.add e10
  clear e10
  replace hF := hF.add e3
  clear e3
  replace hF := hF.add e4
  clear e4
  obtain ⟨w11, hr, tu, on⟩ := st_Rat (vs := [.bool b8, .slice ad8 n8 c8, .slice ae8 m8 d8]) o3 rfl rfl (ocB (ocS (ocS oc0))) (niB (niS (niS ni0))) (o := 0) rfl
  have kp := tu.keep o3
  refine E.st hF (r_store (hF.at 1 rfl) (hF.at 3 rfl) (hr _ rfl)) rfl rfl fun a hF => ?_
  clear hr
  replace hh7 := hh7.keep kp
  replace hn10 := hn10.keep kp
  replace ha10 := ha10.keep kp
  replace hd10 := hd10.keep kp
  replace hh5 := hh5.keep kp
  replace hn8 := hn8.keep kp
  replace hf9 := hf9.keep kp
  replace hd8 := hd8.keep kp
  replace o4 := tu.own o4 (Ne.symm ne3_4)
  replace bel := tu.below bel ge3
  clear tu kp
  replace o3 := on
  clear on
  obtain ⟨w12, hr, tu, on⟩ := st_RRat (vs := [.bool b10, .slice ad10 n10 c10, .slice ae10 m10 d10]) o4 rfl rfl (ocB (ocS (ocS oc0))) (niB (niS (niS ni0))) (o := 0) rfl
  have kp := tu.keep o4
  refine E.st hF (r_store (hF.at 0 rfl) (hF.at 2 rfl) (hr _ rfl)) rfl rfl fun a hF => ?_
  clear hr
  replace hf9 := hf9.keep kp
  replace hd8 := hd8.keep kp
  replace hh5 := hh5.keep kp
  replace hn8 := hn8.keep kp
  replace hh7 := hh7.keep kp
  replace hn10 := hn10.keep kp
  replace ha10 := ha10.keep kp
  replace hd10 := hd10.keep kp
  replace o3 := tu.own o3 ne3_4
  replace bel := tu.below bel ge4
  clear tu kp
  replace o4 := on
  clear on
  refine E.nil ?_
  refine wp_seq ?_
  refine E.drawn 22 mixed hF [11, 12, 13, 14, 15, 16, 17, 18, 19, 20, 21, 22, 23, 24, 25, 26, 27, 28, 29, 30, 31, 32] [(fun _ v => v = .agg #[.bool b8, .slice ad8 n8 c8, .slice ae8 m8 d8]), (fun w v => Rq w v (sof (((rawZ nega1 xa1 4 : Int) : Rat) / ((rawZ negb1 xb1 4 : Int) : Rat)))), (fun _ v => v = .agg #[.bool b10, .slice ad10 n10 c10, .slice ae10 m10 d10]), (fun w v => Rr w v (sof (((rawZ nega1 xa1 4 : Int) : Rat) / ((rawZ negb1 xb1 4 : Int) : Rat))) ((1000 * 4 + 5000))), (fun _ v => v = .int .i64 0), (fun _ v => v = .bool true), (fun _ v => v = .bool true), (fun _ v => v = .agg #[.bool b8, .slice ad8 n8 c8, .slice ae8 m8 d8]), (fun _ v => v = .int .i64 (spk (pk (((rawZ nega1 xa1 4 : Int) : Rat) / ((rawZ negb1 xb1 4 : Int) : Rat)) + 1) - spk (pk (((rawZ nega1 xa1 4 : Int) : Rat) / ((rawZ negb1 xb1 4 : Int) : Rat))))), (fun _ v => v = .agg #[.bool b10, .slice ad10 n10 c10, .slice ae10 m10 d10]), (fun _ v => v = .int .i64 (spk (pk (((rawZ nega1 xa1 4 : Int) : Rat) / ((rawZ negb1 xb1 4 : Int) : Rat)) + 1) - spk (pk (((rawZ nega1 xa1 4 : Int) : Rat) / ((rawZ negb1 xb1 4 : Int) : Rat))))), (fun _ v => v = .bool true), (fun _ v => v = .bool true), (fun _ v => v = .bool true), (fun _ v => v = .agg #[.bool b8, .slice ad8 n8 c8, .slice ae8 m8 d8]), (fun w v => Rq w v (sof ((((rawZ nega1 xa1 4 : Int) : Rat) / ((rawZ negb1 xb1 4 : Int) : Rat)) + ((90 : Int) : Rat)))), (fun _ v => v = .agg #[.bool b8, .slice ad8 n8 c8, .slice ae8 m8 d8]), (fun w v => Rq w v (((90 : Int) : Rat))), (fun w v => Rq w v ((((rawZ nega1 xa1 4 : Int) : Rat) / ((rawZ negb1 xb1 4 : Int) : Rat)) + (((90 : Int) : Rat)))), (fun w v => Rq w v (sof ((((rawZ nega1 xa1 4 : Int) : Rat) / ((rawZ negb1 xb1 4 : Int) : Rat)) + (((90 : Int) : Rat))))), (fun _ v => v = .bool true), (fun _ v => v = .bool true)] [] (by decide +kernel) (by decide +kernel) rfl rfl rfl ⟨(Mb.eq _), (fun _ _ _ h hb => h.below hb), (Mb.eq _), (fun _ _ _ h hb => h.below hb), (Mb.eq _), (Mb.eq _), (Mb.eq _), (Mb.eq _), (Mb.eq _), (Mb.eq _), (Mb.eq _), (Mb.eq _), (Mb.eq _), (Mb.eq _), (Mb.eq _), (fun _ _ _ h hb => h.below hb), (Mb.eq _), (fun _ _ _ h hb => h.below hb), (fun _ _ _ h hb => h.below hb), (fun _ _ _ h hb => h.below hb), (Mb.eq _), (Mb.eq _), trivial⟩ trivial ⟨?_, ?_, ?_, ?_, ?_, ?_, ?_, ?_, ?_, ?_, ?_, ?_, ?_, ?_, ?_, ?_, ?_, ?_, ?_, ?_, ?_, ?_, trivial⟩ ?_
  · intro a' w' hF' hb hd
    exact if_does (wanted_free rfl) (Does.vals (r_load (hF'.at 1 rfl) (ld_Rat (vs := [.bool b8, .slice ad8 n8 c8, .slice ae8 m8 d8]) (o3.below hb) rfl rfl)) ⟨rfl, Below.refl _ _, (fun h => absurd h (by decide))⟩)
  · intro a' w' hF' hb hd
    have e11 : a'.tmps.getD 11 undef = .agg #[.bool b8, .slice ad8 n8 c8, .slice ae8 m8 d8] := hd _ 11 (Array.mem_of_getElem? (i := 0) rfl) rfl rfl
    refine if_does (wanted_free rfl) (Does.calls (r_call Tryz.func9 en9.1 en9.2 (map1 e11)) (sof_any _ (((rawZ nega1 xa1 4 : Int) : Rat) / ((rawZ negb1 xb1 4 : Int) : Rat)) 4 _ (hT.below (below_to bel hb)) (hh5.below hb) (own5_lim nega1 negb1 oka1 okb1 4 (by decide)) (by omega)) ?_)
    rintro e w'' ⟨v', rfl, h', bb⟩
    exact ⟨_, rfl, h', bb, (fun h => absurd h (by decide))⟩
  · intro a' w' hF' hb hd
    exact if_does (wanted_free rfl) (Does.vals (r_load (hF'.at 0 rfl) (ld_RRat (vs := [.bool b10, .slice ad10 n10 c10, .slice ae10 m10 d10]) (o4.below hb) rfl rfl)) ⟨rfl, Below.refl _ _, (fun h => absurd h (by decide))⟩)
  · intro a' w' hF' hb hd
    have e13 : a'.tmps.getD 13 undef = .agg #[.bool b10, .slice ad10 n10 c10, .slice ae10 m10 d10] := hd _ 13 (Array.mem_of_getElem? (i := 0) rfl) rfl rfl
    refine if_does (wanted_free rfl) (Does.calls (r_call Tryz.func10 en10.1 en10.2 (map1 e13)) (rsof_any _ (((rawZ nega1 xa1 4 : Int) : Rat) / ((rawZ negb1 xb1 4 : Int) : Rat)) 4 _ (hh7.below hb) (by omega) (by omega)) ?_)
    rintro e w'' ⟨v', rfl, h', bb⟩
    exact ⟨_, rfl, h', bb, (fun h => absurd h (by decide))⟩
  · intro a' w' hF' hb hd
    obtain ⟨v12_0, e12, h12_1⟩ : ∃ v, a'.tmps.getD 12 undef = v ∧ Rq w' v (sof (((rawZ nega1 xa1 4 : Int) : Rat) / ((rawZ negb1 xb1 4 : Int) : Rat))) := ⟨_, rfl, hd _ 12 (Array.mem_of_getElem? (i := 0) rfl) rfl rfl⟩
    obtain ⟨v14_0, e14, h14_1⟩ : ∃ v, a'.tmps.getD 14 undef = v ∧ Rr w' v (sof (((rawZ nega1 xa1 4 : Int) : Rat) / ((rawZ negb1 xb1 4 : Int) : Rat))) ((1000 * 4 + 5000)) := ⟨_, rfl, hd _ 14 (Array.mem_of_getElem? (i := 1) rfl) rfl rfl⟩
    refine if_does (wanted_free rfl) (Does.calls (r_call Tryz.func8 en8.1 en8.2 (map2 e12 e14)) (Is5_any _ _ (sof (((rawZ nega1 xa1 4 : Int) : Rat) / ((rawZ negb1 xb1 4 : Int) : Rat))) (sof (((rawZ nega1 xa1 4 : Int) : Rat) / ((rawZ negb1 xb1 4 : Int) : Rat))) (4 * 4 + 60) (1000 * 4 + 5000) _ h12_1 h14_1 (sof_lim (own5_lim nega1 negb1 oka1 okb1 4 (by decide))) rfl (by omega) (by omega)) ?_)
    rintro e w'' ⟨rfl, bb⟩
    exact ⟨_, rfl, rfl, bb, (fun h => absurd h (by decide))⟩
  · intro a' w' hF' hb hd
    have e15 : a'.tmps.getD 15 undef = .int .i64 0 := hd _ 15 (Array.mem_of_getElem? (i := 0) rfl) rfl rfl
    exact if_does (wanted_free rfl) (Does.vals (r_bin e15 ev_c eg_scalar (bi_int (ic_eql (c := true) (by decide)) (by simp))) ⟨rfl, Below.refl _ _, (fun h => absurd h (by decide))⟩)
  · intro a' w' hF' hb hd
    have e16 : a'.tmps.getD 16 undef = .bool true := hd _ 16 (Array.mem_of_getElem? (i := 0) rfl) rfl rfl
    exact if_does (wanted_free rfl) (Does.vals (r_move e16) ⟨rfl, Below.refl _ _, (fun h => absurd h (by decide))⟩)
  · intro a' w' hF' hb hd
    have e17 : a'.tmps.getD 17 undef = .bool true := hd _ 17 (Array.mem_of_getElem? (i := 0) rfl) rfl rfl
    exact if_does (wanted_by rfl rfl e17 rfl) (Does.vals (r_load (hF'.at 1 rfl) (ld_Rat (vs := [.bool b8, .slice ad8 n8 c8, .slice ae8 m8 d8]) (o3.below hb) rfl rfl)) ⟨rfl, Below.refl _ _, (fun h => absurd h (by decide))⟩)
  · intro a' w' hF' hb hd
    have e17 : a'.tmps.getD 17 undef = .bool true := hd _ 17 (Array.mem_of_getElem? (i := 1) rfl) rfl rfl
    have e18 : a'.tmps.getD 18 undef = .agg #[.bool b8, .slice ad8 n8 c8, .slice ae8 m8 d8] := hd _ 18 (Array.mem_of_getElem? (i := 0) rfl) rfl rfl
    refine if_does (wanted_by rfl rfl e17 rfl) (Does.calls (r_call Tryz.func11 en11.1 en11.2 (map1 e18)) (step_any _ (((rawZ nega1 xa1 4 : Int) : Rat) / ((rawZ negb1 xb1 4 : Int) : Rat)) 4 _ (hT.below (below_to bel hb)) (hh5.below hb) (own5_lim nega1 negb1 oka1 okb1 4 (by decide)) (by omega)) ?_)
    rintro e w'' ⟨rfl, bb⟩
    exact ⟨_, rfl, rfl, bb, (fun h => absurd h (by decide))⟩
  · intro a' w' hF' hb hd
    have e17 : a'.tmps.getD 17 undef = .bool true := hd _ 17 (Array.mem_of_getElem? (i := 0) rfl) rfl rfl
    exact if_does (wanted_by rfl rfl e17 rfl) (Does.vals (r_load (hF'.at 0 rfl) (ld_RRat (vs := [.bool b10, .slice ad10 n10 c10, .slice ae10 m10 d10]) (o4.below hb) rfl rfl)) ⟨rfl, Below.refl _ _, (fun h => absurd h (by decide))⟩)
  · intro a' w' hF' hb hd
    have e17 : a'.tmps.getD 17 undef = .bool true := hd _ 17 (Array.mem_of_getElem? (i := 2) rfl) rfl rfl
    have e20 : a'.tmps.getD 20 undef = .agg #[.bool b10, .slice ad10 n10 c10, .slice ae10 m10 d10] := hd _ 20 (Array.mem_of_getElem? (i := 0) rfl) rfl rfl
    refine if_does (wanted_by rfl rfl e17 rfl) (Does.calls (r_call Tryz.func12 en12.1 en12.2 (map1 e20)) (rstep_any _ (((rawZ nega1 xa1 4 : Int) : Rat) / ((rawZ negb1 xb1 4 : Int) : Rat)) 4 _ (hh7.below hb) (by omega) (by omega)) ?_)
    rintro e w'' ⟨rfl, bb⟩
    exact ⟨_, rfl, rfl, bb, (fun h => absurd h (by decide))⟩
  · intro a' w' hF' hb hd
    have e17 : a'.tmps.getD 17 undef = .bool true := hd _ 17 (Array.mem_of_getElem? (i := 2) rfl) rfl rfl
    have e19 : a'.tmps.getD 19 undef = .int .i64 (spk (pk (((rawZ nega1 xa1 4 : Int) : Rat) / ((rawZ negb1 xb1 4 : Int) : Rat)) + 1) - spk (pk (((rawZ nega1 xa1 4 : Int) : Rat) / ((rawZ negb1 xb1 4 : Int) : Rat)))) := hd _ 19 (Array.mem_of_getElem? (i := 0) rfl) rfl rfl
    have e21 : a'.tmps.getD 21 undef = .int .i64 (spk (pk (((rawZ nega1 xa1 4 : Int) : Rat) / ((rawZ negb1 xb1 4 : Int) : Rat)) + 1) - spk (pk (((rawZ nega1 xa1 4 : Int) : Rat) / ((rawZ negb1 xb1 4 : Int) : Rat)))) := hd _ 21 (Array.mem_of_getElem? (i := 1) rfl) rfl rfl
    exact if_does (wanted_by rfl rfl e17 rfl) (Does.vals (r_bin e19 e21 eg_scalar (bi_int (ic_eql (c := true) (by simp)) (by simp))) ⟨rfl, Below.refl _ _, (fun h => absurd h (by decide))⟩)
  · intro a' w' hF' hb hd
    have e17 : a'.tmps.getD 17 undef = .bool true := hd _ 17 (Array.mem_of_getElem? (i := 0) rfl) rfl rfl
    have e22 : a'.tmps.getD 22 undef = .bool true := hd _ 22 (Array.mem_of_getElem? (i := 1) rfl) rfl rfl
    exact if_does (wanted_free rfl) (Does.vals (r_pick_t e17 e22) ⟨rfl, Below.refl _ _, (fun h => absurd h (by decide))⟩)
  · intro a' w' hF' hb hd
    have e23 : a'.tmps.getD 23 undef = .bool true := hd _ 23 (Array.mem_of_getElem? (i := 0) rfl) rfl rfl
    exact if_does (wanted_free rfl) (Does.vals (r_move e23) ⟨rfl, Below.refl _ _, (fun h => absurd h (by decide))⟩)
  · intro a' w' hF' hb hd
    have e24 : a'.tmps.getD 24 undef = .bool true := hd _ 24 (Array.mem_of_getElem? (i := 0) rfl) rfl rfl
    exact if_does (wanted_by rfl rfl e24 rfl) (Does.vals (r_load (hF'.at 1 rfl) (ld_Rat (vs := [.bool b8, .slice ad8 n8 c8, .slice ae8 m8 d8]) (o3.below hb) rfl rfl)) ⟨rfl, Below.refl _ _, (fun h => absurd h (by decide))⟩)
  · intro a' w' hF' hb hd
    have e24 : a'.tmps.getD 24 undef = .bool true := hd _ 24 (Array.mem_of_getElem? (i := 1) rfl) rfl rfl
    have e25 : a'.tmps.getD 25 undef = .agg #[.bool b8, .slice ad8 n8 c8, .slice ae8 m8 d8] := hd _ 25 (Array.mem_of_getElem? (i := 0) rfl) rfl rfl
    refine if_does (wanted_by rfl rfl e24 rfl) (Does.calls (r_call Tryz.func13 en13.1 en13.2 (map1 e25)) (scos_any _ (((rawZ nega1 xa1 4 : Int) : Rat) / ((rawZ negb1 xb1 4 : Int) : Rat)) 4 _ (hT.below (below_to bel hb)) (hh5.below hb) (own5_lim nega1 negb1 oka1 okb1 4 (by decide)) (by omega)) ?_)
    rintro e w'' ⟨v', rfl, h', bb⟩
    exact ⟨_, rfl, h', bb, (fun h => absurd h (by decide))⟩
  · intro a' w' hF' hb hd
    have e24 : a'.tmps.getD 24 undef = .bool true := hd _ 24 (Array.mem_of_getElem? (i := 0) rfl) rfl rfl
    exact if_does (wanted_by rfl rfl e24 rfl) (Does.vals (r_load (hF'.at 1 rfl) (ld_Rat (vs := [.bool b8, .slice ad8 n8 c8, .slice ae8 m8 d8]) (o3.below hb) rfl rfl)) ⟨rfl, Below.refl _ _, (fun h => absurd h (by decide))⟩)
  · intro a' w' hF' hb hd
    have e24 : a'.tmps.getD 24 undef = .bool true := hd _ 24 (Array.mem_of_getElem? (i := 1) rfl) rfl rfl
    refine if_does (wanted_by rfl rfl e24 rfl) (Does.calls (r_call Tryz.func16 en16.1 en16.2 (map1 ev_c)) (rWhole_any (90) _ (by decide) (by decide)) ?_)
    rintro e w'' ⟨v', rfl, h', bb⟩
    exact ⟨_, rfl, h', bb, (fun h => absurd h (by decide))⟩
  · intro a' w' hF' hb hd
    have e24 : a'.tmps.getD 24 undef = .bool true := hd _ 24 (Array.mem_of_getElem? (i := 3) rfl) rfl rfl
    have e27 : a'.tmps.getD 27 undef = .agg #[.bool b8, .slice ad8 n8 c8, .slice ae8 m8 d8] := hd _ 27 (Array.mem_of_getElem? (i := 0) rfl) rfl rfl
    obtain ⟨v28_0, e28, h28_1⟩ : ∃ v, a'.tmps.getD 28 undef = v ∧ Rq w' v (((90 : Int) : Rat)) := ⟨_, rfl, hd _ 28 (Array.mem_of_getElem? (i := 1) rfl) rfl rfl⟩
    refine if_does (wanted_by rfl rfl e24 rfl) (Does.calls (r_call Tryz.func15 en15.1 en15.2 (map2 e27 e28)) (rAdd_any _ _ (((rawZ nega1 xa1 4 : Int) : Rat) / ((rawZ negb1 xb1 4 : Int) : Rat)) (((90 : Int) : Rat)) (max 4 2) _ (hh5.below hb) h28_1 ((own5_lim nega1 negb1 oka1 okb1 4 (by decide)).up _ (by omega)) ((rlim_int (limz_64 (by decide) (by decide)) (by omega)).up _ (by omega)) (by omega)) ?_)
    rintro e w'' ⟨v', rfl, h', bb⟩
    exact ⟨_, rfl, h', bb, (fun h => absurd h (by decide))⟩
  · intro a' w' hF' hb hd
    have e24 : a'.tmps.getD 24 undef = .bool true := hd _ 24 (Array.mem_of_getElem? (i := 2) rfl) rfl rfl
    obtain ⟨v29_0, e29, h29_1⟩ : ∃ v, a'.tmps.getD 29 undef = v ∧ Rq w' v ((((rawZ nega1 xa1 4 : Int) : Rat) / ((rawZ negb1 xb1 4 : Int) : Rat)) + (((90 : Int) : Rat))) := ⟨_, rfl, hd _ 29 (Array.mem_of_getElem? (i := 0) rfl) rfl rfl⟩
    refine if_does (wanted_by rfl rfl e24 rfl) (Does.calls (r_call Tryz.func9 en9.1 en9.2 (map1 e29)) (sof_any _ ((((rawZ nega1 xa1 4 : Int) : Rat) / ((rawZ negb1 xb1 4 : Int) : Rat)) + (((90 : Int) : Rat))) (4 + 2 + 1) _ (hT.below (below_to bel hb)) h29_1 (rlim_add (own5_lim nega1 negb1 oka1 okb1 4 (by decide)) (rlim_int (limz_64 (by decide) (by decide)) (by omega))) (by omega)) ?_)
    rintro e w'' ⟨v', rfl, h', bb⟩
    exact ⟨_, rfl, h', bb, (fun h => absurd h (by decide))⟩
  · intro a' w' hF' hb hd
    have e24 : a'.tmps.getD 24 undef = .bool true := hd _ 24 (Array.mem_of_getElem? (i := 3) rfl) rfl rfl
    obtain ⟨v26_0, e26, h26_1⟩ : ∃ v, a'.tmps.getD 26 undef = v ∧ Rq w' v (sof ((((rawZ nega1 xa1 4 : Int) : Rat) / ((rawZ negb1 xb1 4 : Int) : Rat)) + ((90 : Int) : Rat))) := ⟨_, rfl, hd _ 26 (Array.mem_of_getElem? (i := 0) rfl) rfl rfl⟩
    obtain ⟨v30_0, e30, h30_1⟩ : ∃ v, a'.tmps.getD 30 undef = v ∧ Rq w' v (sof ((((rawZ nega1 xa1 4 : Int) : Rat) / ((rawZ negb1 xb1 4 : Int) : Rat)) + (((90 : Int) : Rat)))) := ⟨_, rfl, hd _ 30 (Array.mem_of_getElem? (i := 1) rfl) rfl rfl⟩
    refine if_does (wanted_by rfl rfl e24 rfl) (Does.calls (r_call Tryz.func14 en14.1 en14.2 (map2 e26 e30)) (rSame_true _ _ (sof ((((rawZ nega1 xa1 4 : Int) : Rat) / ((rawZ negb1 xb1 4 : Int) : Rat)) + ((90 : Int) : Rat))) (sof ((((rawZ nega1 xa1 4 : Int) : Rat) / ((rawZ negb1 xb1 4 : Int) : Rat)) + (((90 : Int) : Rat)))) _ h26_1 h30_1 rfl) ?_)
    rintro e w'' ⟨rfl, bb⟩
    exact ⟨_, rfl, rfl, bb, (fun h => absurd h (by decide))⟩
  · intro a' w' hF' hb hd
    have e24 : a'.tmps.getD 24 undef = .bool true := hd _ 24 (Array.mem_of_getElem? (i := 0) rfl) rfl rfl
    have e31 : a'.tmps.getD 31 undef = .bool true := hd _ 31 (Array.mem_of_getElem? (i := 1) rfl) rfl rfl
    exact if_does (wanted_free rfl) (Does.vals (r_pick_t e24 e31) ⟨rfl, Below.refl _ _, (fun h => absurd h (by decide))⟩)
  intro a w13 hF bb hall hne
  have e32 : a.tmps.getD 32 undef = .bool true := hall 21 32 rfl
  clear hall hne
  replace bel := below_to bel bb
  clear bb
  replace hF := hF.add e32
  clear e32
  refine E.opset (L' := [(2, .bool true), (32, .bool true), (4, .pointer (some ⟨g4, 0, none⟩)), (3, .pointer (some ⟨g3, 0, none⟩)), (10, .agg #[.bool b10, .slice ad10 n10 c10, .slice ae10 m10 d10]), (8, .agg #[.bool b8, .slice ad8 n8 c8, .slice ae8 m8 d8]), (6, .bool false), (5, .bool true), (1, .pointer (some ⟨g1, 0, none⟩)), (0, .agg #[.bool nega1, .slice aa1 na1 ca1, .bool negb1, .slice ab1 nb1 cb1])]) hF (r_assign (hF.at 0 rfl)) rfl rfl rfl rfl fun a hF => ?_
  refine E.nil ?_
  refine wp_ret ?_
  refine bodyPost_ret (res_tmp Tryz.results3 (hF.at 0 rfl)) hF.dfr ?_
  exact ⟨rfl, bel⟩

set_option maxHeartbeats 8000000 in
theorem sineArcs_walk (nega1 : Bool) (aa1 : Option Addr) (na1 ca1 : Nat) (xa1 : List Nat) (negb1 : Bool) (ab1 : Option Addr) (nb1 cb1 : Nat) (xb1 : List Nat) (w : World) (hT : TabD w) (ia1 : InX w aa1 na1 ca1 xa1) (ib1 : InX w ab1 nb1 cb1 xb1) :
    Calls Tryz.prog 4 #[.agg #[.bool nega1, .slice aa1 na1 ca1, .bool negb1, .slice ab1 nb1 cb1]] w (ValPost w (.bool true)) := by
  have oka1 := ia1.ok
  have okb1 := ib1.ok
  have bel : Below w.heap.size w w := Below.refl _ _
  refine E.enter (nt := 14) (L := [(0, .agg #[.bool nega1, .slice aa1 na1 ca1, .bool negb1, .slice ab1 nb1 cb1])]) Tryz.func4 rfl rfl rfl (args_cons (i := 0) rfl args_nil) ?_
  intro a hF
  refine wp_seq ?_
  refine E.seq ?_
  obtain ⟨g1, w1, ge1, hr, bb, o1⟩ := own_box (P := Tryz.prog) (w := w) (cs := [.bool nega1, .slice aa1 na1 ca1, .bool negb1, .slice ab1 nb1 cb1]) (v := .agg #[.bool nega1, .slice aa1 na1 ca1, .bool negb1, .slice ab1 nb1 cb1]) 26 rfl (niB (niS (niB (niS ni0))))
  replace ge1 : w.heap.size ≤ g1 := by rw [← ge1]; exact bel.size
  refine E.opv hF (r_box (hF.at 0 rfl) hr) rfl rfl rfl rfl fun a hF => ?_
  clear hr
  replace ia1 := ia1.below bb
  replace ib1 := ib1.below bb
  replace bel := below_to bel bb
  clear bb
  refine E.opv hF (r_assign ev_c) rfl rfl rfl rfl fun a hF => ?_
  refine E.nil ?_
  refine wp_seq ?_
  refine E.drawn 11 mixed hF [3, 4, 5, 6, 7, 8, 9, 10, 11, 12, 13] [(fun _ v => v = .bool true), (fun _ v => v = .bool true), (fun _ v => v = .agg #[.bool nega1, .slice aa1 na1 ca1, .bool negb1, .slice ab1 nb1 cb1]), (fun w v => Rq w v (((rawZ nega1 xa1 4 : Int) : Rat) / ((rawZ negb1 xb1 4 : Int) : Rat))), (fun w v => Rq w v (arcv (((rawZ nega1 xa1 4 : Int) : Rat) / ((rawZ negb1 xb1 4 : Int) : Rat)))), (fun _ v => v = .agg #[.bool nega1, .slice aa1 na1 ca1, .bool negb1, .slice ab1 nb1 cb1]), (fun w v => Rr w v (((rawZ nega1 xa1 4 : Int) : Rat) / ((rawZ negb1 xb1 4 : Int) : Rat)) (4)), (fun w v => Rr w v (arcv (((rawZ nega1 xa1 4 : Int) : Rat) / ((rawZ negb1 xb1 4 : Int) : Rat))) ((1000 * 4 + 5000))), (fun _ v => v = .int .i64 0), (fun _ v => v = .bool true), (fun _ v => v = .bool true)] [] (by decide +kernel) (by decide +kernel) rfl rfl rfl ⟨(Mb.eq _), (Mb.eq _), (Mb.eq _), (fun _ _ _ h hb => h.below hb), (fun _ _ _ h hb => h.below hb), (Mb.eq _), (fun _ _ _ h hb => h.below hb), (fun _ _ _ h hb => h.below hb), (Mb.eq _), (Mb.eq _), (Mb.eq _), trivial⟩ trivial ⟨?_, ?_, ?_, ?_, ?_, ?_, ?_, ?_, ?_, ?_, ?_, trivial⟩ ?_
  · intro a' w' hF' hb hd
    refine if_does (wanted_free rfl) (Does.calls (r_call Tryz.func5 en5.1 en5.2 map0) (awake10_any _ (hT.below (below_to bel hb))) ?_)
    rintro e w'' ⟨rfl, bb⟩
    exact ⟨_, rfl, rfl, bb, (fun h => absurd h (by decide))⟩
  · intro a' w' hF' hb hd
    have e3 : a'.tmps.getD 3 undef = .bool true := hd _ 3 (Array.mem_of_getElem? (i := 0) rfl) rfl rfl
    exact if_does (wanted_free rfl) (Does.vals (r_move e3) ⟨rfl, Below.refl _ _, (fun h => absurd h (by decide))⟩)
  · intro a' w' hF' hb hd
    have e4 : a'.tmps.getD 4 undef = .bool true := hd _ 4 (Array.mem_of_getElem? (i := 0) rfl) rfl rfl
    exact if_does (wanted_by rfl rfl e4 rfl) (Does.vals (r_load (hF'.at 1 rfl) (ld_Raw5 (vs := [.bool nega1, .slice aa1 na1 ca1, .bool negb1, .slice ab1 nb1 cb1]) (o1.below hb) rfl rfl)) ⟨rfl, Below.refl _ _, (fun h => absurd h (by decide))⟩)
  · intro a' w' hF' hb hd
    have e4 : a'.tmps.getD 4 undef = .bool true := hd _ 4 (Array.mem_of_getElem? (i := 1) rfl) rfl rfl
    have e5 : a'.tmps.getD 5 undef = .agg #[.bool nega1, .slice aa1 na1 ca1, .bool negb1, .slice ab1 nb1 cb1] := hd _ 5 (Array.mem_of_getElem? (i := 0) rfl) rfl rfl
    refine if_does (wanted_by rfl rfl e4 rfl) (Does.calls (r_call Tryz.func6 en6.1 en6.2 (map2 e5 ev_c)) (Own5_any nega1 aa1 na1 ca1 xa1 negb1 ab1 nb1 cb1 xb1 4 _ (ia1.below hb) (ib1.below hb) (by omega)) ?_)
    rintro e w'' ⟨v', rfl, h', bb⟩
    exact ⟨_, rfl, h', bb, (fun h => absurd h (by decide))⟩
  · intro a' w' hF' hb hd
    have e4 : a'.tmps.getD 4 undef = .bool true := hd _ 4 (Array.mem_of_getElem? (i := 2) rfl) rfl rfl
    obtain ⟨v6_0, e6, h6_1⟩ : ∃ v, a'.tmps.getD 6 undef = v ∧ Rq w' v (((rawZ nega1 xa1 4 : Int) : Rat) / ((rawZ negb1 xb1 4 : Int) : Rat)) := ⟨_, rfl, hd _ 6 (Array.mem_of_getElem? (i := 0) rfl) rfl rfl⟩
    refine if_does (wanted_by rfl rfl e4 rfl) (Does.calls (r_call Tryz.func17 en17.1 en17.2 (map1 e6)) (sarc_any _ (((rawZ nega1 xa1 4 : Int) : Rat) / ((rawZ negb1 xb1 4 : Int) : Rat)) 4 _ (hT.below (below_to bel hb)) h6_1 (own5_lim nega1 negb1 oka1 okb1 4 (by decide)) (by omega)) ?_)
    rintro e w'' ⟨v', rfl, h', bb⟩
    exact ⟨_, rfl, h', bb, (fun h => absurd h (by decide))⟩
  · intro a' w' hF' hb hd
    have e4 : a'.tmps.getD 4 undef = .bool true := hd _ 4 (Array.mem_of_getElem? (i := 0) rfl) rfl rfl
    exact if_does (wanted_by rfl rfl e4 rfl) (Does.vals (r_load (hF'.at 1 rfl) (ld_Raw5 (vs := [.bool nega1, .slice aa1 na1 ca1, .bool negb1, .slice ab1 nb1 cb1]) (o1.below hb) rfl rfl)) ⟨rfl, Below.refl _ _, (fun h => absurd h (by decide))⟩)
  · intro a' w' hF' hb hd
    have e4 : a'.tmps.getD 4 undef = .bool true := hd _ 4 (Array.mem_of_getElem? (i := 2) rfl) rfl rfl
    have e8 : a'.tmps.getD 8 undef = .agg #[.bool nega1, .slice aa1 na1 ca1, .bool negb1, .slice ab1 nb1 cb1] := hd _ 8 (Array.mem_of_getElem? (i := 0) rfl) rfl rfl
    refine if_does (wanted_by rfl rfl e4 rfl) (Does.calls (r_call Tryz.func7 en7.1 en7.2 (map2 e8 ev_c)) (Told5_any nega1 aa1 na1 ca1 xa1 negb1 ab1 nb1 cb1 xb1 4 _ (ia1.below hb) (ib1.below hb) (by omega) (by omega)) ?_)
    rintro e w'' ⟨v', rfl, h', bb⟩
    exact ⟨_, rfl, h', bb, (fun h => absurd h (by decide))⟩
  · intro a' w' hF' hb hd
    have e4 : a'.tmps.getD 4 undef = .bool true := hd _ 4 (Array.mem_of_getElem? (i := 2) rfl) rfl rfl
    obtain ⟨v9_0, e9, h9_1⟩ : ∃ v, a'.tmps.getD 9 undef = v ∧ Rr w' v (((rawZ nega1 xa1 4 : Int) : Rat) / ((rawZ negb1 xb1 4 : Int) : Rat)) (4) := ⟨_, rfl, hd _ 9 (Array.mem_of_getElem? (i := 0) rfl) rfl rfl⟩
    refine if_does (wanted_by rfl rfl e4 rfl) (Does.calls (r_call Tryz.func18 en18.1 en18.2 (map1 e9)) (rarc_any _ (((rawZ nega1 xa1 4 : Int) : Rat) / ((rawZ negb1 xb1 4 : Int) : Rat)) 4 _ h9_1 (by omega) (by omega)) ?_)
    rintro e w'' ⟨v', rfl, h', bb⟩
    exact ⟨_, rfl, h', bb, (fun h => absurd h (by decide))⟩
  · intro a' w' hF' hb hd
    have e4 : a'.tmps.getD 4 undef = .bool true := hd _ 4 (Array.mem_of_getElem? (i := 3) rfl) rfl rfl
    obtain ⟨v7_0, e7, h7_1⟩ : ∃ v, a'.tmps.getD 7 undef = v ∧ Rq w' v (arcv (((rawZ nega1 xa1 4 : Int) : Rat) / ((rawZ negb1 xb1 4 : Int) : Rat))) := ⟨_, rfl, hd _ 7 (Array.mem_of_getElem? (i := 0) rfl) rfl rfl⟩
    obtain ⟨v10_0, e10, h10_1⟩ : ∃ v, a'.tmps.getD 10 undef = v ∧ Rr w' v (arcv (((rawZ nega1 xa1 4 : Int) : Rat) / ((rawZ negb1 xb1 4 : Int) : Rat))) ((1000 * 4 + 5000)) := ⟨_, rfl, hd _ 10 (Array.mem_of_getElem? (i := 1) rfl) rfl rfl⟩
    refine if_does (wanted_by rfl rfl e4 rfl) (Does.calls (r_call Tryz.func8 en8.1 en8.2 (map2 e7 e10)) (Is5_any _ _ (arcv (((rawZ nega1 xa1 4 : Int) : Rat) / ((rawZ negb1 xb1 4 : Int) : Rat))) (arcv (((rawZ nega1 xa1 4 : Int) : Rat) / ((rawZ negb1 xb1 4 : Int) : Rat))) (4 + 20) (1000 * 4 + 5000) _ h7_1 h10_1 (arcv_lim (own5_lim nega1 negb1 oka1 okb1 4 (by decide))) rfl (by omega) (by omega)) ?_)
    rintro e w'' ⟨rfl, bb⟩
    exact ⟨_, rfl, rfl, bb, (fun h => absurd h (by decide))⟩
  · intro a' w' hF' hb hd
    have e4 : a'.tmps.getD 4 undef = .bool true := hd _ 4 (Array.mem_of_getElem? (i := 1) rfl) rfl rfl
    have e11 : a'.tmps.getD 11 undef = .int .i64 0 := hd _ 11 (Array.mem_of_getElem? (i := 0) rfl) rfl rfl
    exact if_does (wanted_by rfl rfl e4 rfl) (Does.vals (r_bin e11 ev_c eg_scalar (bi_int (ic_eql (c := true) (by decide)) (by simp))) ⟨rfl, Below.refl _ _, (fun h => absurd h (by decide))⟩)
  · intro a' w' hF' hb hd
    have e4 : a'.tmps.getD 4 undef = .bool true := hd _ 4 (Array.mem_of_getElem? (i := 0) rfl) rfl rfl
    have e12 : a'.tmps.getD 12 undef = .bool true := hd _ 12 (Array.mem_of_getElem? (i := 1) rfl) rfl rfl
    exact if_does (wanted_free rfl) (Does.vals (r_pick_t e4 e12) ⟨rfl, Below.refl _ _, (fun h => absurd h (by decide))⟩)
  intro a w2 hF bb hall hne
  have e13 : a.tmps.getD 13 undef = .bool true := hall 10 13 rfl
  clear hall hne
  replace bel := below_to bel bb
  clear bb
  replace hF := hF.add e13
  clear e13
  refine E.opset (L' := [(2, .bool true), (13, .bool true), (1, .pointer (some ⟨g1, 0, none⟩)), (0, .agg #[.bool nega1, .slice aa1 na1 ca1, .bool negb1, .slice ab1 nb1 cb1])]) hF (r_assign (hF.at 0 rfl)) rfl rfl rfl rfl fun a hF => ?_
  refine E.nil ?_
  refine wp_ret ?_
  refine bodyPost_ret (res_tmp Tryz.results4 (hF.at 0 rfl)) hF.dfr ?_
  exact ⟨rfl, bel⟩

end Go.Proofs.YteafnboehmfmiaaGreatDoor
