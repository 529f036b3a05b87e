/- MeanTurns, MeanKali, MeanPhase. -/
import Derived.Test.YtmpdbkdijfpbbaaMnB
import Derived.Test.YtmpdbkdijfpbbaaGJ
namespace Go.Proofs.Ytmpdbkdijfpbbaa
open Go.RowKit
set_option maxRecDepth 100000
set_option linter.unusedVariables false

set_option maxHeartbeats 4000000 in
theorem meanTurns_walk (nega1 : Bool) (aa1 : Option Addr) (na1 ca1 : Nat) (xa1 : List Nat) (negb1 : Bool) (ab1 : Option Addr) (nb1 cb1 : Nat) (xb1 : List Nat) (kk n : Int) (w : World) (ia1 : InX w aa1 na1 ca1 xa1) (ib1 : InX w ab1 nb1 cb1 xb1) (b1 : -9223372036854775808 ≤ n) (b2 : n ≤ 9223372036854775807) :
    Calls Try.prog 3 #[.agg #[.bool nega1, .slice aa1 na1 ca1, .bool negb1, .slice ab1 nb1 cb1], .int .i64 kk, .int .i64 n] w (ValPost w (.bool true)) := by
  have oka1 := ia1.ok
  have okb1 := ib1.ok
  have bel : Below w.heap.size w w := Below.refl _ _
  refine E.enter (nt := 57) (L := [(0, .agg #[.bool nega1, .slice aa1 na1 ca1, .bool negb1, .slice ab1 nb1 cb1]), (1, .int .i64 kk), (2, .int .i64 n)]) Try.func3 rfl rfl rfl (args_cons (i := 0) rfl (args_cons (i := 1) rfl (args_cons (i := 2) rfl args_nil))) ?_
  intro a hF
  refine wp_seq ?_
  refine E.seq ?_
  obtain ⟨g3, w1, ge3, hr, bb, o3⟩ := own_box (P := Try.prog) (w := w) (cs := [.bool nega1, .slice aa1 na1 ca1, .bool negb1, .slice ab1 nb1 cb1]) (v := .agg #[.bool nega1, .slice aa1 na1 ca1, .bool negb1, .slice ab1 nb1 cb1]) 26 rfl (niB (niS (niB (niS ni0))))
  replace ge3 : w.heap.size ≤ g3 := by rw [← ge3]; exact bel.size
  refine E.opv hF (r_box (hF.at 0 rfl) hr) rfl rfl rfl rfl fun a hF => ?_
  clear hr
  replace ia1 := ia1.below bb
  replace ib1 := ib1.below bb
  replace bel := below_to bel bb
  clear bb
  refine E.opv hF (r_assign ev_c) rfl rfl rfl rfl fun a hF => ?_
  refine E.nil ?_
  refine wp_seq ?_
  refine wp_seq ?_
  refine E.seq ?_
  refine E.call hF (r_call Try.func6 en6.1 en6.2 map0) (awake11_any _) rfl rfl rfl rfl ?_
  rintro e w2 ⟨rfl, bb⟩
  refine ⟨_, rfl, ?_⟩
  intro a hF
  replace ia1 := ia1.below bb
  replace ib1 := ib1.below bb
  replace o3 := o3.below bb
  replace bel := below_to bel bb
  clear bb
  refine E.opv hF (r_un (hF.at 0 rfl) (bn_not _ false rfl)) rfl rfl rfl rfl fun a hF => ?_
  refine E.nil ?_
  refine wp_cond_false (hF.at 0 rfl) ?_
  refine wp_skip ?_
  refine E.norm ?_
  refine wp_seq ?_
  refine E.drawn 9 mixed hF [13, 14, 15, 16, 17, 18, 19, 7, 8] [(fun _ v => v = .int .i64 kk), (fun _ v => v = .int .i64 (kk % 256)), (fun _ v => v = .int .i64 ((kk % 256) % 5)), (fun _ v => v = .int .i64 (1 + ((kk % 256) % 5))), (fun w v => Rq w v (per (1 + ((kk % 256) % 5)))), (fun _ v => v = .agg #[.bool nega1, .slice aa1 na1 ca1, .bool negb1, .slice ab1 nb1 cb1]), (fun w v => Rq w v (((rawZ nega1 xa1 3 : Int) : Rat) / ((rawZ negb1 xb1 3 : Int) : Rat))), (fun w v => ∃ g, v = .pointer (some ⟨g, 0, none⟩) ∧ w2.heap.size ≤ g ∧ Own w g [.bool false, .slice none 0 0, .slice none 0 0]), (fun w v => ∃ g, v = .pointer (some ⟨g, 0, none⟩) ∧ w2.heap.size ≤ g ∧ Own w g [.bool false, .slice none 0 0, .slice none 0 0])] [7, 8] (by decide +kernel) (by decide +kernel) rfl rfl rfl ⟨(Mb.eq _), (Mb.eq _), (Mb.eq _), (Mb.eq _), (fun _ _ _ h hb => h.below hb), (Mb.eq _), (fun _ _ _ h hb => h.below hb), (fun _ _ _ ⟨g, e, l, o⟩ hb => ⟨g, e, l, o.below hb⟩), (fun _ _ _ ⟨g, e, l, o⟩ hb => ⟨g, e, l, o.below hb⟩), trivial⟩ ⟨fun _ _ ⟨g, e, _, o⟩ => ⟨g, e, o.lt⟩, ⟨fun _ _ ⟨g, e, _, o⟩ => ⟨g, e, o.lt⟩, trivial⟩⟩ ⟨?_, ?_, ?_, ?_, ?_, ?_, ?_, ?_, ?_, trivial⟩ ?_
  · intro a' w' hF' hb hd
    exact if_does (wanted_free rfl) (Does.vals (r_move (hF'.at 5 rfl)) ⟨rfl, Below.refl _ _, (fun h => absurd h (by decide))⟩)
  · intro a' w' hF' hb hd
    have e13 : a'.tmps.getD 13 undef = .int .i64 kk := hd _ 13 (Array.mem_of_getElem? (i := 0) rfl) rfl rfl
    exact if_does (wanted_free rfl) (Does.vals (r_bin e13 ev_c eg_scalar (id_and (n := 8) (by decide) (d := 256) (by decide) (by decide))) ⟨rfl, Below.refl _ _, (fun h => absurd h (by decide))⟩)
  · intro a' w' hF' hb hd
    have e14 : a'.tmps.getD 14 undef = .int .i64 (kk % 256) := hd _ 14 (Array.mem_of_getElem? (i := 0) rfl) rfl rfl
    exact if_does (wanted_free rfl) (Does.vals (r_bin e14 ev_c eg_scalar (id_remn (a := kk % 256) (b := 5) (by omega) (by omega))) ⟨rfl, Below.refl _ _, (fun h => absurd h (by decide))⟩)
  · intro a' w' hF' hb hd
    have e15 : a'.tmps.getD 15 undef = .int .i64 ((kk % 256) % 5) := hd _ 15 (Array.mem_of_getElem? (i := 0) rfl) rfl rfl
    exact if_does (wanted_free rfl) (Does.vals (r_bin ev_c e15 eg_scalar (ia_add (by omega) (by omega))) ⟨rfl, Below.refl _ _, (fun h => absurd h (by decide))⟩)
  · intro a' w' hF' hb hd
    have e16 : a'.tmps.getD 16 undef = .int .i64 (1 + ((kk % 256) % 5)) := hd _ 16 (Array.mem_of_getElem? (i := 0) rfl) rfl rfl
    refine if_does (wanted_free rfl) (Does.calls (r_call Try.func7 en7.1 en7.2 (map1 e16)) (per11_any (1 + ((kk % 256) % 5)) _) ?_)
    rintro e w'' ⟨v', rfl, h', bb⟩
    exact ⟨_, rfl, h', bb, (fun h => absurd h (by decide))⟩
  · intro a' w' hF' hb hd
    exact if_does (wanted_free rfl) (Does.vals (r_load (hF'.at 3 rfl) (ld_Raw5 (vs := [.bool nega1, .slice aa1 na1 ca1, .bool negb1, .slice ab1 nb1 cb1]) (o3.below hb) rfl rfl)) ⟨rfl, Below.refl _ _, (fun h => absurd h (by decide))⟩)
  · intro a' w' hF' hb hd
    have e18 : a'.tmps.getD 18 undef = .agg #[.bool nega1, .slice aa1 na1 ca1, .bool negb1, .slice ab1 nb1 cb1] := hd _ 18 (Array.mem_of_getElem? (i := 0) rfl) rfl rfl
    refine if_does (wanted_free rfl) (Does.calls (r_call Try.func8 en8.1 en8.2 (map2 e18 ev_c)) (Own5_any nega1 aa1 na1 ca1 xa1 negb1 ab1 nb1 cb1 xb1 3 _ (ia1.below hb) (ib1.below hb) (by omega)) ?_)
    rintro e w'' ⟨v', rfl, h', bb⟩
    exact ⟨_, rfl, h', bb, (fun h => absurd h (by decide))⟩
  · intro a' w' hF' hb hd
    obtain ⟨g, w2, ge, hr, bb, on⟩ := own_alloc (P := Try.prog) (w := w') (cs := [.bool false, .slice none 0 0, .slice none 0 0]) 32 ze_Rat rfl (niB (niS (niS ni0)))
    subst ge
    exact if_does (wanted_free rfl) (Does.vals (r_alloc hr) ⟨⟨_, rfl, hb.size, on⟩, bb, fun _ => rfl⟩)
  · intro a' w' hF' hb hd
    obtain ⟨g, w2, ge, hr, bb, on⟩ := own_alloc (P := Try.prog) (w := w') (cs := [.bool false, .slice none 0 0, .slice none 0 0]) 32 ze_Rat rfl (niB (niS (niS ni0)))
    subst ge
    exact if_does (wanted_free rfl) (Does.vals (r_alloc hr) ⟨⟨_, rfl, hb.size, on⟩, bb, fun _ => rfl⟩)
  intro a w3 hF bb hall hne
  obtain ⟨vv4, e17, hh5⟩ : ∃ v, a.tmps.getD 17 undef = v ∧ Rq w3 v (per (1 + ((kk % 256) % 5))) := ⟨_, rfl, hall 4 17 rfl⟩
  obtain ⟨vv6, e19, hh7⟩ : ∃ v, a.tmps.getD 19 undef = v ∧ Rq w3 v (((rawZ nega1 xa1 3 : Int) : Rat) / ((rawZ negb1 xb1 3 : Int) : Rat)) := ⟨_, rfl, hall 6 19 rfl⟩
  obtain ⟨g7, e7, ge7, o7⟩ : ∃ g, a.tmps.getD 7 undef = .pointer (some ⟨g, 0, none⟩) ∧ w2.heap.size ≤ g ∧ Own w3 g [.bool false, .slice none 0 0, .slice none 0 0] := hall 7 7 rfl
  obtain ⟨g8, e8, ge8, o8⟩ : ∃ g, a.tmps.getD 8 undef = .pointer (some ⟨g, 0, none⟩) ∧ w2.heap.size ≤ g ∧ Own w3 g [.bool false, .slice none 0 0, .slice none 0 0] := hall 8 8 rfl
  have ne7_8 : g7 ≠ g8 := by intro e; exact hne 7 8 7 8 rfl rfl (by decide) rfl rfl (by rw [e7, e8, e])
  replace ge7 : w.heap.size ≤ g7 := Nat.le_trans bel.size ge7
  replace ge8 : w.heap.size ≤ g8 := Nat.le_trans bel.size ge8
  clear hall hne
  replace bel := below_to bel bb
  clear bb
  obtain ⟨b8, ad8, n8, c8, ae8, m8, d8, rfl, hn8, hd8⟩ := Rq.shape hh5
  have hf9 := Wc.abs hn8
  replace hF := hF.add e17
  clear e17
  obtain ⟨b10, ad10, n10, c10, ae10, m10, d10, rfl, hn10, hd10⟩ := Rq.shape hh7
  have hf11 := Wc.abs hn10
  replace hF := hF.add e19
  clear e19
  replace hF := hF.add e7
  clear e7
  replace hF := hF.add e8
  clear e8
  obtain ⟨w12, hr, tu, on⟩ := st_Rat (vs := [.bool b8, .slice ad8 n8 c8, .slice ae8 m8 d8]) o7 rfl rfl (ocB (ocS (ocS oc0))) (niB (niS (niS ni0))) (o := 0) rfl
  have kp := tu.keep o7
  refine E.st hF (r_store (hF.at 1 rfl) (hF.at 3 rfl) (hr _ rfl)) rfl rfl fun a hF => ?_
  clear hr
  replace hh7 := hh7.keep kp
  replace hn10 := hn10.keep kp
  replace hf11 := hf11.keep kp
  replace hd10 := hd10.keep kp
  replace hh5 := hh5.keep kp
  replace hn8 := hn8.keep kp
  replace hf9 := hf9.keep kp
  replace hd8 := hd8.keep kp
  replace o8 := tu.own o8 (Ne.symm ne7_8)
  replace bel := tu.below bel ge7
  clear tu kp
  replace o7 := on
  clear on
  obtain ⟨w13, hr, tu, on⟩ := st_Rat (vs := [.bool b10, .slice ad10 n10 c10, .slice ae10 m10 d10]) o8 rfl rfl (ocB (ocS (ocS oc0))) (niB (niS (niS ni0))) (o := 0) rfl
  have kp := tu.keep o8
  refine E.st hF (r_store (hF.at 0 rfl) (hF.at 2 rfl) (hr _ rfl)) rfl rfl fun a hF => ?_
  clear hr
  replace hf9 := hf9.keep kp
  replace hd8 := hd8.keep kp
  replace hh5 := hh5.keep kp
  replace hn8 := hn8.keep kp
  replace hh7 := hh7.keep kp
  replace hn10 := hn10.keep kp
  replace hf11 := hf11.keep kp
  replace hd10 := hd10.keep kp
  replace o7 := tu.own o7 ne7_8
  replace bel := tu.below bel ge8
  clear tu kp
  replace o8 := on
  clear on
  refine E.nil ?_
  refine wp_seq ?_
  refine E.drawn 7 mixed hF [20, 21, 22, 23, 24, 25, 9] [(fun _ v => v = .agg #[.bool b10, .slice ad10 n10 c10, .slice ae10 m10 d10]), (fun _ v => v = .agg #[.bool b8, .slice ad8 n8 c8, .slice ae8 m8 d8]), (fun _ v => v = .int .i64 n), (fun w v => Rq w v (((n : Int) : Rat))), (fun w v => Rq w v ((per (1 + ((kk % 256) % 5))) * (((n : Int) : Rat)))), (fun w v => Rq w v ((((rawZ nega1 xa1 3 : Int) : Rat) / ((rawZ negb1 xb1 3 : Int) : Rat)) + ((per (1 + ((kk % 256) % 5))) * (((n : Int) : Rat))))), (fun w v => ∃ g, v = .pointer (some ⟨g, 0, none⟩) ∧ w13.heap.size ≤ g ∧ Own w g [.bool false, .slice none 0 0, .slice none 0 0])] [6] (by decide +kernel) (by decide +kernel) rfl rfl rfl ⟨(Mb.eq _), (Mb.eq _), (Mb.eq _), (fun _ _ _ h hb => h.below hb), (fun _ _ _ h hb => h.below hb), (fun _ _ _ h hb => h.below hb), (fun _ _ _ ⟨g, e, l, o⟩ hb => ⟨g, e, l, o.below hb⟩), trivial⟩ ⟨fun _ _ ⟨g, e, _, o⟩ => ⟨g, e, o.lt⟩, trivial⟩ ⟨?_, ?_, ?_, ?_, ?_, ?_, ?_, trivial⟩ ?_
  · intro a' w' hF' hb hd
    exact if_does (wanted_free rfl) (Does.vals (r_load (hF'.at 0 rfl) (ld_Rat (vs := [.bool b10, .slice ad10 n10 c10, .slice ae10 m10 d10]) (o8.below hb) rfl rfl)) ⟨rfl, Below.refl _ _, (fun h => absurd h (by decide))⟩)
  · intro a' w' hF' hb hd
    exact if_does (wanted_free rfl) (Does.vals (r_load (hF'.at 1 rfl) (ld_Rat (vs := [.bool b8, .slice ad8 n8 c8, .slice ae8 m8 d8]) (o7.below hb) rfl rfl)) ⟨rfl, Below.refl _ _, (fun h => absurd h (by decide))⟩)
  · intro a' w' hF' hb hd
    exact if_does (wanted_free rfl) (Does.vals (r_move (hF'.at 10 rfl)) ⟨rfl, Below.refl _ _, (fun h => absurd h (by decide))⟩)
  · intro a' w' hF' hb hd
    have e22 : a'.tmps.getD 22 undef = .int .i64 n := hd _ 22 (Array.mem_of_getElem? (i := 0) rfl) rfl rfl
    refine if_does (wanted_free rfl) (Does.calls (r_call Try.func11 en11.1 en11.2 (map1 e22)) (rWhole_any (n) _ b1 b2) ?_)
    rintro e w'' ⟨v', rfl, h', bb⟩
    exact ⟨_, rfl, h', bb, (fun h => absurd h (by decide))⟩
  · intro a' w' hF' hb hd
    have e21 : a'.tmps.getD 21 undef = .agg #[.bool b8, .slice ad8 n8 c8, .slice ae8 m8 d8] := hd _ 21 (Array.mem_of_getElem? (i := 0) rfl) rfl rfl
    obtain ⟨v23_0, e23, h23_1⟩ : ∃ v, a'.tmps.getD 23 undef = v ∧ Rq w' v (((n : Int) : Rat)) := ⟨_, rfl, hd _ 23 (Array.mem_of_getElem? (i := 1) rfl) rfl rfl⟩
    refine if_does (wanted_free rfl) (Does.calls (r_call Try.func10 en10.1 en10.2 (map2 e21 e23)) (rMul_any _ _ (per (1 + ((kk % 256) % 5))) (((n : Int) : Rat)) 2 _ (hh5.below hb) h23_1 ((per_lim (1 + ((kk % 256) % 5))).up _ (by omega)) ((rlim_int (limz_64 b1 b2) (by omega)).up _ (by omega)) (by omega)) ?_)
    rintro e w'' ⟨v', rfl, h', bb⟩
    exact ⟨_, rfl, h', bb, (fun h => absurd h (by decide))⟩
  · intro a' w' hF' hb hd
    have e20 : a'.tmps.getD 20 undef = .agg #[.bool b10, .slice ad10 n10 c10, .slice ae10 m10 d10] := hd _ 20 (Array.mem_of_getElem? (i := 0) rfl) rfl rfl
    obtain ⟨v24_0, e24, h24_1⟩ : ∃ v, a'.tmps.getD 24 undef = v ∧ Rq w' v ((per (1 + ((kk % 256) % 5))) * (((n : Int) : Rat))) := ⟨_, rfl, hd _ 24 (Array.mem_of_getElem? (i := 1) rfl) rfl rfl⟩
    refine if_does (wanted_free rfl) (Does.calls (r_call Try.func9 en9.1 en9.2 (map2 e20 e24)) (rAdd_any _ _ (((rawZ nega1 xa1 3 : Int) : Rat) / ((rawZ negb1 xb1 3 : Int) : Rat)) ((per (1 + ((kk % 256) % 5))) * (((n : Int) : Rat))) (max 3 (2 + 2)) _ (hh7.below hb) h24_1 ((own5_lim nega1 negb1 oka1 okb1 3 (by decide)).up _ (by omega)) ((rlim_mul (per_lim (1 + ((kk % 256) % 5))) (rlim_int (limz_64 b1 b2) (by omega))).up _ (by omega)) (by omega)) ?_)
    rintro e w'' ⟨v', rfl, h', bb⟩
    exact ⟨_, rfl, h', bb, (fun h => absurd h (by decide))⟩
  · intro a' w' hF' hb hd
    obtain ⟨g, w2, ge, hr, bb, on⟩ := own_alloc (P := Try.prog) (w := w') (cs := [.bool false, .slice none 0 0, .slice none 0 0]) 32 ze_Rat rfl (niB (niS (niS ni0)))
    subst ge
    exact if_does (wanted_free rfl) (Does.vals (r_alloc hr) ⟨⟨_, rfl, hb.size, on⟩, bb, fun _ => rfl⟩)
  intro a w14 hF bb hall hne
  obtain ⟨vv15, e25, hh16⟩ : ∃ v, a.tmps.getD 25 undef = v ∧ Rq w14 v ((((rawZ nega1 xa1 3 : Int) : Rat) / ((rawZ negb1 xb1 3 : Int) : Rat)) + ((per (1 + ((kk % 256) % 5))) * (((n : Int) : Rat)))) := ⟨_, rfl, hall 5 25 rfl⟩
  obtain ⟨g9, e9, ge9, o9⟩ : ∃ g, a.tmps.getD 9 undef = .pointer (some ⟨g, 0, none⟩) ∧ w13.heap.size ≤ g ∧ Own w14 g [.bool false, .slice none 0 0, .slice none 0 0] := hall 6 9 rfl
  have ne7_9 : g7 ≠ g9 := Nat.ne_of_lt (Nat.lt_of_lt_of_le o7.lt ge9)
  have ne8_9 : g8 ≠ g9 := Nat.ne_of_lt (Nat.lt_of_lt_of_le o8.lt ge9)
  replace ge9 : w.heap.size ≤ g9 := Nat.le_trans bel.size ge9
  clear hall hne
  replace hf9 := hf9.below bb
  replace hd8 := hd8.below bb
  replace hh5 := hh5.below bb
  replace hn8 := hn8.below bb
  replace hf11 := hf11.below bb
  replace hd10 := hd10.below bb
  replace hh7 := hh7.below bb
  replace hn10 := hn10.below bb
  replace o7 := o7.below bb
  replace o8 := o8.below bb
  replace bel := below_to bel bb
  clear bb
  obtain ⟨b17, ad17, n17, c17, ae17, m17, d17, rfl, hn17, hd17⟩ := Rq.shape hh16
  have hf18 := Wc.abs hn17
  replace hF := hF.add e25
  clear e25
  replace hF := hF.add e9
  clear e9
  obtain ⟨w19, hr, tu, on⟩ := st_Rat (vs := [.bool b17, .slice ad17 n17 c17, .slice ae17 m17 d17]) o9 rfl rfl (ocB (ocS (ocS oc0))) (niB (niS (niS ni0))) (o := 0) rfl
  have kp := tu.keep o9
  refine E.st hF (r_store (hF.at 0 rfl) (hF.at 1 rfl) (hr _ rfl)) rfl rfl fun a hF => ?_
  clear hr
  replace hf9 := hf9.keep kp
  replace hd8 := hd8.keep kp
  replace hh5 := hh5.keep kp
  replace hn8 := hn8.keep kp
  replace hf11 := hf11.keep kp
  replace hd10 := hd10.keep kp
  replace hh7 := hh7.keep kp
  replace hn10 := hn10.keep kp
  replace hh16 := hh16.keep kp
  replace hn17 := hn17.keep kp
  replace hf18 := hf18.keep kp
  replace hd17 := hd17.keep kp
  replace o7 := tu.own o7 ne7_9
  replace o8 := tu.own o8 ne8_9
  replace bel := tu.below bel ge9
  clear tu kp
  replace o9 := on
  clear on
  refine E.nil ?_
  refine wp_seq ?_
  refine E.seq ?_
  refine E.opv hF (r_load (hF.at 2 rfl) (ld_Rat (vs := [.bool b10, .slice ad10 n10 c10, .slice ae10 m10 d10]) o8 rfl rfl)) rfl rfl rfl rfl fun a hF => ?_
  refine E.opv hF (r_load (hF.at 4 rfl) (ld_Rat (vs := [.bool b8, .slice ad8 n8 c8, .slice ae8 m8 d8]) o7 rfl rfl)) rfl rfl rfl rfl fun a hF => ?_
  refine E.call hF (r_call Try.func12 en12.1 en12.2 (map2 (hF.at 1 rfl) (hF.at 0 rfl))) (mOf_any _ _ (((rawZ nega1 xa1 3 : Int) : Rat) / ((rawZ negb1 xb1 3 : Int) : Rat)) (per (1 + ((kk % 256) % 5))) 3 2 _ hh7 hh5 (own5_lim nega1 negb1 oka1 okb1 3 (by decide)) (per_lim (1 + ((kk % 256) % 5))) (by omega) (by omega)) rfl rfl rfl rfl ?_
  rintro e w20 ⟨vv21, rfl, hh22, bb⟩
  refine ⟨_, rfl, ?_⟩
  intro a hF
  replace hf9 := hf9.below bb
  replace hd8 := hd8.below bb
  replace hh5 := hh5.below bb
  replace hn8 := hn8.below bb
  replace hf11 := hf11.below bb
  replace hd10 := hd10.below bb
  replace hh7 := hh7.below bb
  replace hn10 := hn10.below bb
  replace hf18 := hf18.below bb
  replace hd17 := hd17.below bb
  replace hh16 := hh16.below bb
  replace hn17 := hn17.below bb
  replace o7 := o7.below bb
  replace o8 := o8.below bb
  replace o9 := o9.below bb
  replace bel := below_to bel bb
  clear bb
  obtain ⟨b23, ad23, n23, c23, ae23, m23, d23, rfl, hn23, hd23⟩ := Rq.shape hh22
  have hf24 := Wc.abs hn23
  obtain ⟨g10, w25, ge10, hr, bb, o10⟩ := own_alloc (P := Try.prog) (w := w20) (cs := [.bool false, .slice none 0 0, .slice none 0 0]) 32 ze_Rat rfl (niB (niS (niS ni0)))
  have ne7_10 : g7 ≠ g10 := by rw [← ge10]; exact o7.ne_new
  have ne8_10 : g8 ≠ g10 := by rw [← ge10]; exact o8.ne_new
  have ne9_10 : g9 ≠ g10 := by rw [← ge10]; exact o9.ne_new
  replace ge10 : w.heap.size ≤ g10 := by rw [← ge10]; exact bel.size
  refine E.opv hF (r_alloc hr) rfl rfl rfl rfl fun a hF => ?_
  clear hr
  replace hh22 := hh22.below bb
  replace hn23 := hn23.below bb
  replace hf24 := hf24.below bb
  replace hd23 := hd23.below bb
  replace hf9 := hf9.below bb
  replace hd8 := hd8.below bb
  replace hh5 := hh5.below bb
  replace hn8 := hn8.below bb
  replace hf11 := hf11.below bb
  replace hd10 := hd10.below bb
  replace hh7 := hh7.below bb
  replace hn10 := hn10.below bb
  replace hf18 := hf18.below bb
  replace hd17 := hd17.below bb
  replace hh16 := hh16.below bb
  replace hn17 := hn17.below bb
  replace o7 := o7.below bb
  replace o8 := o8.below bb
  replace o9 := o9.below bb
  replace bel := below_to bel bb
  clear bb
  obtain ⟨w26, hr, tu, on⟩ := st_Rat (vs := [.bool b23, .slice ad23 n23 c23, .slice ae23 m23 d23]) o10 rfl rfl (ocB (ocS (ocS oc0))) (niB (niS (niS ni0))) (o := 0) rfl
  have kp := tu.keep o10
  refine E.st hF (r_store (hF.at 0 rfl) (hF.at 1 rfl) (hr _ rfl)) rfl rfl fun a hF => ?_
  clear hr
  replace hf9 := hf9.keep kp
  replace hd8 := hd8.keep kp
  replace hh5 := hh5.keep kp
  replace hn8 := hn8.keep kp
  replace hf11 := hf11.keep kp
  replace hd10 := hd10.keep kp
  replace hh7 := hh7.keep kp
  replace hn10 := hn10.keep kp
  replace hf18 := hf18.keep kp
  replace hd17 := hd17.keep kp
  replace hh16 := hh16.keep kp
  replace hn17 := hn17.keep kp
  replace hh22 := hh22.keep kp
  replace hn23 := hn23.keep kp
  replace hf24 := hf24.keep kp
  replace hd23 := hd23.keep kp
  replace o7 := tu.own o7 ne7_10
  replace o8 := tu.own o8 ne8_10
  replace o9 := tu.own o9 ne9_10
  replace bel := tu.below bel ge10
  clear tu kp
  replace o10 := on
  clear on
  refine E.nil ?_
  refine wp_seq ?_
  refine E.drawn 28 mixed hF [29, 30, 31, 32, 33, 34, 35, 36, 37, 38, 39, 40, 41, 42, 43, 44, 45, 46, 47, 48, 49, 50, 51, 52, 53, 54, 55, 56] [(fun _ v => v = .agg #[.bool b17, .slice ad17 n17 c17, .slice ae17 m17 d17]), (fun _ v => v = .agg #[.bool b8, .slice ad8 n8 c8, .slice ae8 m8 d8]), (fun w v => Rq w v (mof ((((rawZ nega1 xa1 3 : Int) : Rat) / ((rawZ negb1 xb1 3 : Int) : Rat)) + ((per (1 + ((kk % 256) % 5))) * (((n : Int) : Rat)))) (per (1 + ((kk % 256) % 5))))), (fun _ v => v = .agg #[.bool b23, .slice ad23 n23 c23, .slice ae23 m23 d23]), (fun _ v => v = .bool true), (fun _ v => v = .bool true), (fun _ v => v = .agg #[.bool b17, .slice ad17 n17 c17, .slice ae17 m17 d17]), (fun _ v => v = .agg #[.bool b8, .slice ad8 n8 c8, .slice ae8 m8 d8]), (fun w v => Rq w v (mturn ((((rawZ nega1 xa1 3 : Int) : Rat) / ((rawZ negb1 xb1 3 : Int) : Rat)) + ((per (1 + ((kk % 256) % 5))) * (((n : Int) : Rat)))) (per (1 + ((kk % 256) % 5))))), (fun _ v => v = .agg #[.bool b10, .slice ad10 n10 c10, .slice ae10 m10 d10]), (fun _ v => v = .agg #[.bool b8, .slice ad8 n8 c8, .slice ae8 m8 d8]), (fun w v => Rq w v (mturn (((rawZ nega1 xa1 3 : Int) : Rat) / ((rawZ negb1 xb1 3 : Int) : Rat)) (per (1 + ((kk % 256) % 5))))), (fun w v => Rq w v ((mturn ((((rawZ nega1 xa1 3 : Int) : Rat) / ((rawZ negb1 xb1 3 : Int) : Rat)) + ((per (1 + ((kk % 256) % 5))) * (((n : Int) : Rat)))) (per (1 + ((kk % 256) % 5)))) - (mturn (((rawZ nega1 xa1 3 : Int) : Rat) / ((rawZ negb1 xb1 3 : Int) : Rat)) (per (1 + ((kk % 256) % 5)))))), (fun _ v => v = .int .i64 n), (fun w v => Rq w v (((n : Int) : Rat))), (fun _ v => v = .bool true), (fun _ v => v = .bool true), (fun _ v => v = .bool true), (fun _ v => v = .agg #[.bool b23, .slice ad23 n23 c23, .slice ae23 m23 d23]), (fun _ v => v = .int .i64 (sz (Rat.num (mof (((rawZ nega1 xa1 3 : Int) : Rat) / ((rawZ negb1 xb1 3 : Int) : Rat)) (per (1 + ((kk % 256) % 5))))))), (fun _ v => v = .bool true), (fun _ v => v = .bool true), (fun _ v => v = .bool true), (fun _ v => v = .agg #[.bool b23, .slice ad23 n23 c23, .slice ae23 m23 d23]), (fun w v => Rq w v (((360 : Int) : Rat))), (fun _ v => v = .int .i64 (qc (mof (((rawZ nega1 xa1 3 : Int) : Rat) / ((rawZ negb1 xb1 3 : Int) : Rat)) (per (1 + ((kk % 256) % 5)))) (((360 : Int) : Rat)))), (fun _ v => v = .bool true), (fun _ v => v = .bool true)] [] (by decide +kernel) (by decide +kernel) rfl rfl rfl ⟨(Mb.eq _), (Mb.eq _), (fun _ _ _ h hb => h.below hb), (Mb.eq _), (Mb.eq _), (Mb.eq _), (Mb.eq _), (Mb.eq _), (fun _ _ _ h hb => h.below hb), (Mb.eq _), (Mb.eq _), (fun _ _ _ h hb => h.below hb), (fun _ _ _ h hb => h.below hb), (Mb.eq _), (fun _ _ _ h hb => h.below hb), (Mb.eq _), (Mb.eq _), (Mb.eq _), (Mb.eq _), (Mb.eq _), (Mb.eq _), (Mb.eq _), (Mb.eq _), (Mb.eq _), (fun _ _ _ h hb => h.below hb), (Mb.eq _), (Mb.eq _), (Mb.eq _), trivial⟩ trivial ⟨?_, ?_, ?_, ?_, ?_, ?_, ?_, ?_, ?_, ?_, ?_, ?_, ?_, ?_, ?_, ?_, ?_, ?_, ?_, ?_, ?_, ?_, ?_, ?_, ?_, ?_, ?_, ?_, trivial⟩ ?_
  · intro a' w' hF' hb hd
    exact if_does (wanted_free rfl) (Does.vals (r_load (hF'.at 4 rfl) (ld_Rat (vs := [.bool b17, .slice ad17 n17 c17, .slice ae17 m17 d17]) (o9.below hb) rfl rfl)) ⟨rfl, Below.refl _ _, (fun h => absurd h (by decide))⟩)
  · intro a' w' hF' hb hd
    exact if_does (wanted_free rfl) (Does.vals (r_load (hF'.at 7 rfl) (ld_Rat (vs := [.bool b8, .slice ad8 n8 c8, .slice ae8 m8 d8]) (o7.below hb) rfl rfl)) ⟨rfl, Below.refl _ _, (fun h => absurd h (by decide))⟩)
  · intro a' w' hF' hb hd
    have e29 : a'.tmps.getD 29 undef = .agg #[.bool b17, .slice ad17 n17 c17, .slice ae17 m17 d17] := hd _ 29 (Array.mem_of_getElem? (i := 0) rfl) rfl rfl
    have e30 : a'.tmps.getD 30 undef = .agg #[.bool b8, .slice ad8 n8 c8, .slice ae8 m8 d8] := hd _ 30 (Array.mem_of_getElem? (i := 1) rfl) rfl rfl
    refine if_does (wanted_free rfl) (Does.calls (r_call Try.func12 en12.1 en12.2 (map2 e29 e30)) (mOf_any _ _ ((((rawZ nega1 xa1 3 : Int) : Rat) / ((rawZ negb1 xb1 3 : Int) : Rat)) + ((per (1 + ((kk % 256) % 5))) * (((n : Int) : Rat)))) (per (1 + ((kk % 256) % 5))) (3 + (2 + 2) + 1) 2 _ (hh16.below hb) (hh5.below hb) (rlim_add (own5_lim nega1 negb1 oka1 okb1 3 (by decide)) (rlim_mul (per_lim (1 + ((kk % 256) % 5))) (rlim_int (limz_64 b1 b2) (by omega)))) (per_lim (1 + ((kk % 256) % 5))) (by omega) (by omega)) ?_)
    rintro e w'' ⟨v', rfl, h', bb⟩
    exact ⟨_, rfl, h', bb, (fun h => absurd h (by decide))⟩
  · intro a' w' hF' hb hd
    exact if_does (wanted_free rfl) (Does.vals (r_load (hF'.at 0 rfl) (ld_Rat (vs := [.bool b23, .slice ad23 n23 c23, .slice ae23 m23 d23]) (o10.below hb) rfl rfl)) ⟨rfl, Below.refl _ _, (fun h => absurd h (by decide))⟩)
  · intro a' w' hF' hb hd
    obtain ⟨v31_0, e31, h31_1⟩ : ∃ v, a'.tmps.getD 31 undef = v ∧ Rq w' v (mof ((((rawZ nega1 xa1 3 : Int) : Rat) / ((rawZ negb1 xb1 3 : Int) : Rat)) + ((per (1 + ((kk % 256) % 5))) * (((n : Int) : Rat)))) (per (1 + ((kk % 256) % 5)))) := ⟨_, rfl, hd _ 31 (Array.mem_of_getElem? (i := 0) rfl) rfl rfl⟩
    have e32 : a'.tmps.getD 32 undef = .agg #[.bool b23, .slice ad23 n23 c23, .slice ae23 m23 d23] := hd _ 32 (Array.mem_of_getElem? (i := 1) rfl) rfl rfl
    refine if_does (wanted_free rfl) (Does.calls (r_call Try.func13 en13.1 en13.2 (map2 e31 e32)) (rSame_true _ _ (mof ((((rawZ nega1 xa1 3 : Int) : Rat) / ((rawZ negb1 xb1 3 : Int) : Rat)) + ((per (1 + ((kk % 256) % 5))) * (((n : Int) : Rat)))) (per (1 + ((kk % 256) % 5)))) (mof (((rawZ nega1 xa1 3 : Int) : Rat) / ((rawZ negb1 xb1 3 : Int) : Rat)) (per (1 + ((kk % 256) % 5)))) _ h31_1 (hh22.below hb) (mof_more _ (per_pos _))) ?_)
    rintro e w'' ⟨rfl, bb⟩
    exact ⟨_, rfl, rfl, bb, (fun h => absurd h (by decide))⟩
  · intro a' w' hF' hb hd
    have e33 : a'.tmps.getD 33 undef = .bool true := hd _ 33 (Array.mem_of_getElem? (i := 0) rfl) rfl rfl
    exact if_does (wanted_free rfl) (Does.vals (r_move e33) ⟨rfl, Below.refl _ _, (fun h => absurd h (by decide))⟩)
  · intro a' w' hF' hb hd
    have e34 : a'.tmps.getD 34 undef = .bool true := hd _ 34 (Array.mem_of_getElem? (i := 0) rfl) rfl rfl
    exact if_does (wanted_by rfl rfl e34 rfl) (Does.vals (r_load (hF'.at 4 rfl) (ld_Rat (vs := [.bool b17, .slice ad17 n17 c17, .slice ae17 m17 d17]) (o9.below hb) rfl rfl)) ⟨rfl, Below.refl _ _, (fun h => absurd h (by decide))⟩)
  · intro a' w' hF' hb hd
    have e34 : a'.tmps.getD 34 undef = .bool true := hd _ 34 (Array.mem_of_getElem? (i := 0) rfl) rfl rfl
    exact if_does (wanted_by rfl rfl e34 rfl) (Does.vals (r_load (hF'.at 7 rfl) (ld_Rat (vs := [.bool b8, .slice ad8 n8 c8, .slice ae8 m8 d8]) (o7.below hb) rfl rfl)) ⟨rfl, Below.refl _ _, (fun h => absurd h (by decide))⟩)
  · intro a' w' hF' hb hd
    have e34 : a'.tmps.getD 34 undef = .bool true := hd _ 34 (Array.mem_of_getElem? (i := 2) rfl) rfl rfl
    have e35 : a'.tmps.getD 35 undef = .agg #[.bool b17, .slice ad17 n17 c17, .slice ae17 m17 d17] := hd _ 35 (Array.mem_of_getElem? (i := 0) rfl) rfl rfl
    have e36 : a'.tmps.getD 36 undef = .agg #[.bool b8, .slice ad8 n8 c8, .slice ae8 m8 d8] := hd _ 36 (Array.mem_of_getElem? (i := 1) rfl) rfl rfl
    refine if_does (wanted_by rfl rfl e34 rfl) (Does.calls (r_call Try.func14 en14.1 en14.2 (map2 e35 e36)) (mTurns_any _ _ ((((rawZ nega1 xa1 3 : Int) : Rat) / ((rawZ negb1 xb1 3 : Int) : Rat)) + ((per (1 + ((kk % 256) % 5))) * (((n : Int) : Rat)))) (per (1 + ((kk % 256) % 5))) (3 + (2 + 2) + 1) 2 _ (hh16.below hb) (hh5.below hb) (rlim_add (own5_lim nega1 negb1 oka1 okb1 3 (by decide)) (rlim_mul (per_lim (1 + ((kk % 256) % 5))) (rlim_int (limz_64 b1 b2) (by omega)))) (per_lim (1 + ((kk % 256) % 5))) (by omega) (by omega)) ?_)
    rintro e w'' ⟨v', rfl, h', bb⟩
    exact ⟨_, rfl, h', bb, (fun h => absurd h (by decide))⟩
  · intro a' w' hF' hb hd
    have e34 : a'.tmps.getD 34 undef = .bool true := hd _ 34 (Array.mem_of_getElem? (i := 0) rfl) rfl rfl
    exact if_does (wanted_by rfl rfl e34 rfl) (Does.vals (r_load (hF'.at 6 rfl) (ld_Rat (vs := [.bool b10, .slice ad10 n10 c10, .slice ae10 m10 d10]) (o8.below hb) rfl rfl)) ⟨rfl, Below.refl _ _, (fun h => absurd h (by decide))⟩)
  · intro a' w' hF' hb hd
    have e34 : a'.tmps.getD 34 undef = .bool true := hd _ 34 (Array.mem_of_getElem? (i := 0) rfl) rfl rfl
    exact if_does (wanted_by rfl rfl e34 rfl) (Does.vals (r_load (hF'.at 7 rfl) (ld_Rat (vs := [.bool b8, .slice ad8 n8 c8, .slice ae8 m8 d8]) (o7.below hb) rfl rfl)) ⟨rfl, Below.refl _ _, (fun h => absurd h (by decide))⟩)
  · intro a' w' hF' hb hd
    have e34 : a'.tmps.getD 34 undef = .bool true := hd _ 34 (Array.mem_of_getElem? (i := 3) rfl) rfl rfl
    have e38 : a'.tmps.getD 38 undef = .agg #[.bool b10, .slice ad10 n10 c10, .slice ae10 m10 d10] := hd _ 38 (Array.mem_of_getElem? (i := 0) rfl) rfl rfl
    have e39 : a'.tmps.getD 39 undef = .agg #[.bool b8, .slice ad8 n8 c8, .slice ae8 m8 d8] := hd _ 39 (Array.mem_of_getElem? (i := 1) rfl) rfl rfl
    refine if_does (wanted_by rfl rfl e34 rfl) (Does.calls (r_call Try.func14 en14.1 en14.2 (map2 e38 e39)) (mTurns_any _ _ (((rawZ nega1 xa1 3 : Int) : Rat) / ((rawZ negb1 xb1 3 : Int) : Rat)) (per (1 + ((kk % 256) % 5))) 3 2 _ (hh7.below hb) (hh5.below hb) (own5_lim nega1 negb1 oka1 okb1 3 (by decide)) (per_lim (1 + ((kk % 256) % 5))) (by omega) (by omega)) ?_)
    rintro e w'' ⟨v', rfl, h', bb⟩
    exact ⟨_, rfl, h', bb, (fun h => absurd h (by decide))⟩
  · intro a' w' hF' hb hd
    have e34 : a'.tmps.getD 34 undef = .bool true := hd _ 34 (Array.mem_of_getElem? (i := 3) rfl) rfl rfl
    obtain ⟨v37_0, e37, h37_1⟩ : ∃ v, a'.tmps.getD 37 undef = v ∧ Rq w' v (mturn ((((rawZ nega1 xa1 3 : Int) : Rat) / ((rawZ negb1 xb1 3 : Int) : Rat)) + ((per (1 + ((kk % 256) % 5))) * (((n : Int) : Rat)))) (per (1 + ((kk % 256) % 5)))) := ⟨_, rfl, hd _ 37 (Array.mem_of_getElem? (i := 0) rfl) rfl rfl⟩
    obtain ⟨v40_0, e40, h40_1⟩ : ∃ v, a'.tmps.getD 40 undef = v ∧ Rq w' v (mturn (((rawZ nega1 xa1 3 : Int) : Rat) / ((rawZ negb1 xb1 3 : Int) : Rat)) (per (1 + ((kk % 256) % 5)))) := ⟨_, rfl, hd _ 40 (Array.mem_of_getElem? (i := 1) rfl) rfl rfl⟩
    refine if_does (wanted_by rfl rfl e34 rfl) (Does.calls (r_call Try.func15 en15.1 en15.2 (map2 e37 e40)) (rSub_any _ _ (mturn ((((rawZ nega1 xa1 3 : Int) : Rat) / ((rawZ negb1 xb1 3 : Int) : Rat)) + ((per (1 + ((kk % 256) % 5))) * (((n : Int) : Rat)))) (per (1 + ((kk % 256) % 5)))) (mturn (((rawZ nega1 xa1 3 : Int) : Rat) / ((rawZ negb1 xb1 3 : Int) : Rat)) (per (1 + ((kk % 256) % 5)))) (max ((3 + (2 + 2) + 1) + 2 + 3) (3 + 2 + 3)) _ h37_1 h40_1 ((mturn_lim (rlim_add (own5_lim nega1 negb1 oka1 okb1 3 (by decide)) (rlim_mul (per_lim (1 + ((kk % 256) % 5))) (rlim_int (limz_64 b1 b2) (by omega)))) (per_lim (1 + ((kk % 256) % 5)))).up _ (by omega)) ((mturn_lim (own5_lim nega1 negb1 oka1 okb1 3 (by decide)) (per_lim (1 + ((kk % 256) % 5)))).up _ (by omega)) (by omega)) ?_)
    rintro e w'' ⟨v', rfl, h', bb⟩
    exact ⟨_, rfl, h', bb, (fun h => absurd h (by decide))⟩
  · intro a' w' hF' hb hd
    have e34 : a'.tmps.getD 34 undef = .bool true := hd _ 34 (Array.mem_of_getElem? (i := 0) rfl) rfl rfl
    exact if_does (wanted_by rfl rfl e34 rfl) (Does.vals (r_move (hF'.at 16 rfl)) ⟨rfl, Below.refl _ _, (fun h => absurd h (by decide))⟩)
  · intro a' w' hF' hb hd
    have e34 : a'.tmps.getD 34 undef = .bool true := hd _ 34 (Array.mem_of_getElem? (i := 2) rfl) rfl rfl
    have e42 : a'.tmps.getD 42 undef = .int .i64 n := hd _ 42 (Array.mem_of_getElem? (i := 0) rfl) rfl rfl
    refine if_does (wanted_by rfl rfl e34 rfl) (Does.calls (r_call Try.func11 en11.1 en11.2 (map1 e42)) (rWhole_any (n) _ b1 b2) ?_)
    rintro e w'' ⟨v', rfl, h', bb⟩
    exact ⟨_, rfl, h', bb, (fun h => absurd h (by decide))⟩
  · intro a' w' hF' hb hd
    have e34 : a'.tmps.getD 34 undef = .bool true := hd _ 34 (Array.mem_of_getElem? (i := 3) rfl) rfl rfl
    obtain ⟨v41_0, e41, h41_1⟩ : ∃ v, a'.tmps.getD 41 undef = v ∧ Rq w' v ((mturn ((((rawZ nega1 xa1 3 : Int) : Rat) / ((rawZ negb1 xb1 3 : Int) : Rat)) + ((per (1 + ((kk % 256) % 5))) * (((n : Int) : Rat)))) (per (1 + ((kk % 256) % 5)))) - (mturn (((rawZ nega1 xa1 3 : Int) : Rat) / ((rawZ negb1 xb1 3 : Int) : Rat)) (per (1 + ((kk % 256) % 5))))) := ⟨_, rfl, hd _ 41 (Array.mem_of_getElem? (i := 0) rfl) rfl rfl⟩
    obtain ⟨v43_0, e43, h43_1⟩ : ∃ v, a'.tmps.getD 43 undef = v ∧ Rq w' v (((n : Int) : Rat)) := ⟨_, rfl, hd _ 43 (Array.mem_of_getElem? (i := 1) rfl) rfl rfl⟩
    refine if_does (wanted_by rfl rfl e34 rfl) (Does.calls (r_call Try.func13 en13.1 en13.2 (map2 e41 e43)) (rSame_true _ _ ((mturn ((((rawZ nega1 xa1 3 : Int) : Rat) / ((rawZ negb1 xb1 3 : Int) : Rat)) + ((per (1 + ((kk % 256) % 5))) * (((n : Int) : Rat)))) (per (1 + ((kk % 256) % 5)))) - (mturn (((rawZ nega1 xa1 3 : Int) : Rat) / ((rawZ negb1 xb1 3 : Int) : Rat)) (per (1 + ((kk % 256) % 5))))) (((n : Int) : Rat)) _ h41_1 h43_1 (turns_back _ (per_pos _))) ?_)
    rintro e w'' ⟨rfl, bb⟩
    exact ⟨_, rfl, rfl, bb, (fun h => absurd h (by decide))⟩
  · intro a' w' hF' hb hd
    have e34 : a'.tmps.getD 34 undef = .bool true := hd _ 34 (Array.mem_of_getElem? (i := 0) rfl) rfl rfl
    have e44 : a'.tmps.getD 44 undef = .bool true := hd _ 44 (Array.mem_of_getElem? (i := 1) rfl) rfl rfl
    exact if_does (wanted_free rfl) (Does.vals (r_pick_t e34 e44) ⟨rfl, Below.refl _ _, (fun h => absurd h (by decide))⟩)
  · intro a' w' hF' hb hd
    have e45 : a'.tmps.getD 45 undef = .bool true := hd _ 45 (Array.mem_of_getElem? (i := 0) rfl) rfl rfl
    exact if_does (wanted_free rfl) (Does.vals (r_move e45) ⟨rfl, Below.refl _ _, (fun h => absurd h (by decide))⟩)
  · intro a' w' hF' hb hd
    have e46 : a'.tmps.getD 46 undef = .bool true := hd _ 46 (Array.mem_of_getElem? (i := 0) rfl) rfl rfl
    exact if_does (wanted_by rfl rfl e46 rfl) (Does.vals (r_load (hF'.at 0 rfl) (ld_Rat (vs := [.bool b23, .slice ad23 n23 c23, .slice ae23 m23 d23]) (o10.below hb) rfl rfl)) ⟨rfl, Below.refl _ _, (fun h => absurd h (by decide))⟩)
  · intro a' w' hF' hb hd
    have e46 : a'.tmps.getD 46 undef = .bool true := hd _ 46 (Array.mem_of_getElem? (i := 1) rfl) rfl rfl
    have e47 : a'.tmps.getD 47 undef = .agg #[.bool b23, .slice ad23 n23 c23, .slice ae23 m23 d23] := hd _ 47 (Array.mem_of_getElem? (i := 0) rfl) rfl rfl
    refine if_does (wanted_by rfl rfl e46 rfl) (Does.calls (r_call Try.func16 en16.1 en16.2 (map1 e47)) (rsgn_any _ (mof (((rawZ nega1 xa1 3 : Int) : Rat) / ((rawZ negb1 xb1 3 : Int) : Rat)) (per (1 + ((kk % 256) % 5)))) _ (hh22.below hb)) ?_)
    rintro e w'' ⟨rfl, bb⟩
    exact ⟨_, rfl, rfl, bb, (fun h => absurd h (by decide))⟩
  · intro a' w' hF' hb hd
    have e46 : a'.tmps.getD 46 undef = .bool true := hd _ 46 (Array.mem_of_getElem? (i := 1) rfl) rfl rfl
    have e48 : a'.tmps.getD 48 undef = .int .i64 (sz (Rat.num (mof (((rawZ nega1 xa1 3 : Int) : Rat) / ((rawZ negb1 xb1 3 : Int) : Rat)) (per (1 + ((kk % 256) % 5)))))) := hd _ 48 (Array.mem_of_getElem? (i := 0) rfl) rfl rfl
    exact if_does (wanted_by rfl rfl e46 rfl) (Does.vals (r_bin e48 ev_c eg_scalar (bi_int (ic_geq (c := true) (dec_tt (sz_ge0 (mof_low _ _)))) (by simp))) ⟨rfl, Below.refl _ _, (fun h => absurd h (by decide))⟩)
  · intro a' w' hF' hb hd
    have e46 : a'.tmps.getD 46 undef = .bool true := hd _ 46 (Array.mem_of_getElem? (i := 0) rfl) rfl rfl
    have e49 : a'.tmps.getD 49 undef = .bool true := hd _ 49 (Array.mem_of_getElem? (i := 1) rfl) rfl rfl
    exact if_does (wanted_free rfl) (Does.vals (r_pick_t e46 e49) ⟨rfl, Below.refl _ _, (fun h => absurd h (by decide))⟩)
  · intro a' w' hF' hb hd
    have e50 : a'.tmps.getD 50 undef = .bool true := hd _ 50 (Array.mem_of_getElem? (i := 0) rfl) rfl rfl
    exact if_does (wanted_free rfl) (Does.vals (r_move e50) ⟨rfl, Below.refl _ _, (fun h => absurd h (by decide))⟩)
  · intro a' w' hF' hb hd
    have e51 : a'.tmps.getD 51 undef = .bool true := hd _ 51 (Array.mem_of_getElem? (i := 0) rfl) rfl rfl
    exact if_does (wanted_by rfl rfl e51 rfl) (Does.vals (r_load (hF'.at 0 rfl) (ld_Rat (vs := [.bool b23, .slice ad23 n23 c23, .slice ae23 m23 d23]) (o10.below hb) rfl rfl)) ⟨rfl, Below.refl _ _, (fun h => absurd h (by decide))⟩)
  · intro a' w' hF' hb hd
    have e51 : a'.tmps.getD 51 undef = .bool true := hd _ 51 (Array.mem_of_getElem? (i := 0) rfl) rfl rfl
    refine if_does (wanted_by rfl rfl e51 rfl) (Does.calls (r_call Try.func11 en11.1 en11.2 (map1 ev_c)) (rWhole_any (360) _ (by decide) (by decide)) ?_)
    rintro e w'' ⟨v', rfl, h', bb⟩
    exact ⟨_, rfl, h', bb, (fun h => absurd h (by decide))⟩
  · intro a' w' hF' hb hd
    have e51 : a'.tmps.getD 51 undef = .bool true := hd _ 51 (Array.mem_of_getElem? (i := 3) rfl) rfl rfl
    have e52 : a'.tmps.getD 52 undef = .agg #[.bool b23, .slice ad23 n23 c23, .slice ae23 m23 d23] := hd _ 52 (Array.mem_of_getElem? (i := 0) rfl) rfl rfl
    obtain ⟨v53_0, e53, h53_1⟩ : ∃ v, a'.tmps.getD 53 undef = v ∧ Rq w' v (((360 : Int) : Rat)) := ⟨_, rfl, hd _ 53 (Array.mem_of_getElem? (i := 1) rfl) rfl rfl⟩
    refine if_does (wanted_by rfl rfl e51 rfl) (Does.calls (r_call Try.func17 en17.1 en17.2 (map2 e52 e53)) (rCmp_any _ _ (mof (((rawZ nega1 xa1 3 : Int) : Rat) / ((rawZ negb1 xb1 3 : Int) : Rat)) (per (1 + ((kk % 256) % 5)))) (((360 : Int) : Rat)) (max (3 + 2 + 5) 2) _ (hh22.below hb) h53_1 ((mof_lim (own5_lim nega1 negb1 oka1 okb1 3 (by decide)) (per_lim (1 + ((kk % 256) % 5)))).up _ (by omega)) ((rlim_int (limz_64 (by decide) (by decide)) (by omega)).up _ (by omega)) (by omega)) ?_)
    rintro e w'' ⟨rfl, bb⟩
    exact ⟨_, rfl, rfl, bb, (fun h => absurd h (by decide))⟩
  · intro a' w' hF' hb hd
    have e51 : a'.tmps.getD 51 undef = .bool true := hd _ 51 (Array.mem_of_getElem? (i := 1) rfl) rfl rfl
    have e54 : a'.tmps.getD 54 undef = .int .i64 (qc (mof (((rawZ nega1 xa1 3 : Int) : Rat) / ((rawZ negb1 xb1 3 : Int) : Rat)) (per (1 + ((kk % 256) % 5)))) (((360 : Int) : Rat))) := hd _ 54 (Array.mem_of_getElem? (i := 0) rfl) rfl rfl
    exact if_does (wanted_by rfl rfl e51 rfl) (Does.vals (r_bin e54 ev_c eg_scalar (bi_int (ic_lss (c := true) (dec_tt (qc_lt0 (mof_high _ _)))) (by simp))) ⟨rfl, Below.refl _ _, (fun h => absurd h (by decide))⟩)
  · intro a' w' hF' hb hd
    have e51 : a'.tmps.getD 51 undef = .bool true := hd _ 51 (Array.mem_of_getElem? (i := 0) rfl) rfl rfl
    have e55 : a'.tmps.getD 55 undef = .bool true := hd _ 55 (Array.mem_of_getElem? (i := 1) rfl) rfl rfl
    exact if_does (wanted_free rfl) (Does.vals (r_pick_t e51 e55) ⟨rfl, Below.refl _ _, (fun h => absurd h (by decide))⟩)
  intro a w27 hF bb hall hne
  have e56 : a.tmps.getD 56 undef = .bool true := hall 27 56 rfl
  clear hall hne
  replace bel := below_to bel bb
  clear bb
  replace hF := hF.add e56
  clear e56
  refine E.opset (L' := [(6, .bool true), (56, .bool true), (10, .pointer (some ⟨g10, 0, none⟩)), (28, .agg #[.bool b23, .slice ad23 n23 c23, .slice ae23 m23 d23]), (27, .agg #[.bool b8, .slice ad8 n8 c8, .slice ae8 m8 d8]), (26, .agg #[.bool b10, .slice ad10 n10 c10, .slice ae10 m10 d10]), (9, .pointer (some ⟨g9, 0, none⟩)), (25, .agg #[.bool b17, .slice ad17 n17 c17, .slice ae17 m17 d17]), (8, .pointer (some ⟨g8, 0, none⟩)), (7, .pointer (some ⟨g7, 0, none⟩)), (19, .agg #[.bool b10, .slice ad10 n10 c10, .slice ae10 m10 d10]), (17, .agg #[.bool b8, .slice ad8 n8 c8, .slice ae8 m8 d8]), (12, .bool false), (11, .bool true), (3, .pointer (some ⟨g3, 0, none⟩)), (0, .agg #[.bool nega1, .slice aa1 na1 ca1, .bool negb1, .slice ab1 nb1 cb1]), (1, .int .i64 kk), (2, .int .i64 n)]) hF (r_assign (hF.at 0 rfl)) rfl rfl rfl rfl fun a hF => ?_
  refine E.nil ?_
  refine wp_ret ?_
  refine bodyPost_ret (res_tmp Try.results3 (hF.at 0 rfl)) hF.dfr ?_
  exact ⟨rfl, bel⟩

set_option maxHeartbeats 4000000 in
theorem meanKali_walk (n : Int) (w : World) (b1 : -9223372036854775808 ≤ n) (b2 : n ≤ 9223372036854775807) :
    Calls Try.prog 4 #[.int .i64 n] w (ValPost w (.bool true)) := by
  have bel : Below w.heap.size w w := Below.refl _ _
  refine E.enter (nt := 28) (L := [(0, .int .i64 n)]) Try.func4 rfl rfl rfl (args_cons (i := 0) rfl args_nil) ?_
  intro a hF
  refine wp_seq ?_
  refine E.seq ?_
  refine E.opv hF (r_assign ev_c) rfl rfl rfl rfl fun a hF => ?_
  refine E.nil ?_
  refine wp_seq ?_
  refine wp_seq ?_
  refine E.seq ?_
  refine E.call hF (r_call Try.func6 en6.1 en6.2 map0) (awake11_any _) rfl rfl rfl rfl ?_
  rintro e w1 ⟨rfl, bb⟩
  refine ⟨_, rfl, ?_⟩
  intro a hF
  replace bel := below_to bel bb
  clear bb
  refine E.opv hF (r_un (hF.at 0 rfl) (bn_not _ false rfl)) rfl rfl rfl rfl fun a hF => ?_
  refine E.nil ?_
  refine wp_cond_false (hF.at 0 rfl) ?_
  refine wp_skip ?_
  refine E.norm ?_
  refine wp_seq ?_
  refine E.seq ?_
  refine E.call hF (r_call Try.func11 en11.1 en11.2 (map1 ev_c)) (rWhole_any ((-1132959)) _ (by decide) (by decide)) rfl rfl rfl rfl ?_
  rintro e w2 ⟨vv3, rfl, hh4, bb⟩
  refine ⟨_, rfl, ?_⟩
  intro a hF
  replace bel := below_to bel bb
  clear bb
  obtain ⟨b5, ad5, n5, c5, ae5, m5, d5, rfl, hn5, hd5⟩ := Rq.shape hh4
  have hf6 := Wc.abs hn5
  refine E.opv hF (r_move (hF.at 4 rfl)) rfl rfl rfl rfl fun a hF => ?_
  refine E.call hF (r_call Try.func11 en11.1 en11.2 (map1 (hF.at 0 rfl))) (rWhole_any (n) _ b1 b2) rfl rfl rfl rfl ?_
  rintro e w7 ⟨vv8, rfl, hh9, bb⟩
  refine ⟨_, rfl, ?_⟩
  intro a hF
  replace hh4 := hh4.below bb
  replace hn5 := hn5.below bb
  replace hf6 := hf6.below bb
  replace hd5 := hd5.below bb
  replace bel := below_to bel bb
  clear bb
  obtain ⟨b10, ad10, n10, c10, ae10, m10, d10, rfl, hn10, hd10⟩ := Rq.shape hh9
  have hf11 := Wc.abs hn10
  obtain ⟨g3, w12, ge3, hr, bb, o3⟩ := own_alloc (P := Try.prog) (w := w7) (cs := [.bool false, .slice none 0 0, .slice none 0 0]) 32 ze_Rat rfl (niB (niS (niS ni0)))
  replace ge3 : w.heap.size ≤ g3 := by rw [← ge3]; exact bel.size
  refine E.opv hF (r_alloc hr) rfl rfl rfl rfl fun a hF => ?_
  clear hr
  replace hh9 := hh9.below bb
  replace hn10 := hn10.below bb
  replace hf11 := hf11.below bb
  replace hd10 := hd10.below bb
  replace hh4 := hh4.below bb
  replace hn5 := hn5.below bb
  replace hf6 := hf6.below bb
  replace hd5 := hd5.below bb
  replace bel := below_to bel bb
  clear bb
  obtain ⟨g4, w13, ge4, hr, bb, o4⟩ := own_alloc (P := Try.prog) (w := w12) (cs := [.bool false, .slice none 0 0, .slice none 0 0]) 32 ze_Rat rfl (niB (niS (niS ni0)))
  have ne3_4 : g3 ≠ g4 := by rw [← ge4]; exact o3.ne_new
  replace ge4 : w.heap.size ≤ g4 := by rw [← ge4]; exact bel.size
  refine E.opv hF (r_alloc hr) rfl rfl rfl rfl fun a hF => ?_
  clear hr
  replace hh9 := hh9.below bb
  replace hn10 := hn10.below bb
  replace hf11 := hf11.below bb
  replace hd10 := hd10.below bb
  replace hh4 := hh4.below bb
  replace hn5 := hn5.below bb
  replace hf6 := hf6.below bb
  replace hd5 := hd5.below bb
  replace o3 := o3.below bb
  replace bel := below_to bel bb
  clear bb
  obtain ⟨w14, hr, tu, on⟩ := st_Rat (vs := [.bool b5, .slice ad5 n5 c5, .slice ae5 m5 d5]) o3 rfl rfl (ocB (ocS (ocS oc0))) (niB (niS (niS ni0))) (o := 0) rfl
  have kp := tu.keep o3
  refine E.st hF (r_store (hF.at 1 rfl) (hF.at 4 rfl) (hr _ rfl)) rfl rfl fun a hF => ?_
  clear hr
  replace hh9 := hh9.keep kp
  replace hn10 := hn10.keep kp
  replace hf11 := hf11.keep kp
  replace hd10 := hd10.keep kp
  replace hh4 := hh4.keep kp
  replace hn5 := hn5.keep kp
  replace hf6 := hf6.keep kp
  replace hd5 := hd5.keep kp
  replace o4 := tu.own o4 (Ne.symm ne3_4)
  replace bel := tu.below bel ge3
  clear tu kp
  replace o3 := on
  clear on
  obtain ⟨w15, hr, tu, on⟩ := st_Rat (vs := [.bool b10, .slice ad10 n10 c10, .slice ae10 m10 d10]) o4 rfl rfl (ocB (ocS (ocS oc0))) (niB (niS (niS ni0))) (o := 0) rfl
  have kp := tu.keep o4
  refine E.st hF (r_store (hF.at 0 rfl) (hF.at 2 rfl) (hr _ rfl)) rfl rfl fun a hF => ?_
  clear hr
  replace hf6 := hf6.keep kp
  replace hd5 := hd5.keep kp
  replace hh4 := hh4.keep kp
  replace hn5 := hn5.keep kp
  replace hh9 := hh9.keep kp
  replace hn10 := hn10.keep kp
  replace hf11 := hf11.keep kp
  replace hd10 := hd10.keep kp
  replace o3 := tu.own o3 ne3_4
  replace bel := tu.below bel ge4
  clear tu kp
  replace o4 := on
  clear on
  refine E.nil ?_
  refine wp_seq ?_
  refine E.drawn 18 mixed hF [10, 11, 12, 13, 14, 15, 16, 17, 18, 19, 20, 21, 22, 23, 24, 25, 26, 27] [(fun _ v => v = .agg #[.bool b5, .slice ad5 n5 c5, .slice ae5 m5 d5]), (fun w v => Rq w v (pyr)), (fun _ v => v = .agg #[.bool b10, .slice ad10 n10 c10, .slice ae10 m10 d10]), (fun w v => Rq w v ((pyr) * (((n : Int) : Rat)))), (fun w v => Rq w v (((((-1132959) : Int) : Rat)) + ((pyr) * (((n : Int) : Rat))))), (fun w v => Rq w v (mof (((((-1132959) : Int) : Rat)) + ((pyr) * (((n : Int) : Rat)))) pyr)), (fun _ v => v = .int .i64 (sz (Rat.num (mof (((((-1132959) : Int) : Rat)) + ((pyr) * (((n : Int) : Rat)))) pyr)))), (fun _ v => v = .bool true), (fun _ v => v = .bool true), (fun _ v => v = .agg #[.bool b5, .slice ad5 n5 c5, .slice ae5 m5 d5]), (fun w v => Rq w v (pmo)), (fun _ v => v = .agg #[.bool b10, .slice ad10 n10 c10, .slice ae10 m10 d10]), (fun w v => Rq w v ((pmo) * (((n : Int) : Rat)))), (fun w v => Rq w v (((((-1132959) : Int) : Rat)) + ((pmo) * (((n : Int) : Rat))))), (fun w v => Rq w v (mof (((((-1132959) : Int) : Rat)) + ((pmo) * (((n : Int) : Rat)))) pmo)), (fun _ v => v = .int .i64 (sz (Rat.num (mof (((((-1132959) : Int) : Rat)) + ((pmo) * (((n : Int) : Rat)))) pmo)))), (fun _ v => v = .bool true), (fun _ v => v = .bool true)] [] (by decide +kernel) (by decide +kernel) rfl rfl rfl ⟨(Mb.eq _), (fun _ _ _ h hb => h.below hb), (Mb.eq _), (fun _ _ _ h hb => h.below hb), (fun _ _ _ h hb => h.below hb), (fun _ _ _ h hb => h.below hb), (Mb.eq _), (Mb.eq _), (Mb.eq _), (Mb.eq _), (fun _ _ _ h hb => h.below hb), (Mb.eq _), (fun _ _ _ h hb => h.below hb), (fun _ _ _ h hb => h.below hb), (fun _ _ _ h hb => h.below hb), (Mb.eq _), (Mb.eq _), (Mb.eq _), trivial⟩ trivial ⟨?_, ?_, ?_, ?_, ?_, ?_, ?_, ?_, ?_, ?_, ?_, ?_, ?_, ?_, ?_, ?_, ?_, ?_, trivial⟩ ?_
  · intro a' w' hF' hb hd
    exact if_does (wanted_free rfl) (Does.vals (r_load (hF'.at 1 rfl) (ld_Rat (vs := [.bool b5, .slice ad5 n5 c5, .slice ae5 m5 d5]) (o3.below hb) rfl rfl)) ⟨rfl, Below.refl _ _, (fun h => absurd h (by decide))⟩)
  · intro a' w' hF' hb hd
    refine if_does (wanted_free rfl) (Does.calls (r_call Try.func19 en19.1 en19.2 map0) (mYear_any _) ?_)
    rintro e w'' ⟨v', rfl, h', bb⟩
    exact ⟨_, rfl, h', bb, (fun h => absurd h (by decide))⟩
  · intro a' w' hF' hb hd
    exact if_does (wanted_free rfl) (Does.vals (r_load (hF'.at 0 rfl) (ld_Rat (vs := [.bool b10, .slice ad10 n10 c10, .slice ae10 m10 d10]) (o4.below hb) rfl rfl)) ⟨rfl, Below.refl _ _, (fun h => absurd h (by decide))⟩)
  · intro a' w' hF' hb hd
    obtain ⟨v11_0, e11, h11_1⟩ : ∃ v, a'.tmps.getD 11 undef = v ∧ Rq w' v (pyr) := ⟨_, rfl, hd _ 11 (Array.mem_of_getElem? (i := 0) rfl) rfl rfl⟩
    have e12 : a'.tmps.getD 12 undef = .agg #[.bool b10, .slice ad10 n10 c10, .slice ae10 m10 d10] := hd _ 12 (Array.mem_of_getElem? (i := 1) rfl) rfl rfl
    refine if_does (wanted_free rfl) (Does.calls (r_call Try.func10 en10.1 en10.2 (map2 e11 e12)) (rMul_any _ _ (pyr) (((n : Int) : Rat)) 2 _ h11_1 (hh9.below hb) (pyr_lim.up _ (by omega)) ((rlim_int (limz_64 b1 b2) (by omega)).up _ (by omega)) (by omega)) ?_)
    rintro e w'' ⟨v', rfl, h', bb⟩
    exact ⟨_, rfl, h', bb, (fun h => absurd h (by decide))⟩
  · intro a' w' hF' hb hd
    have e10 : a'.tmps.getD 10 undef = .agg #[.bool b5, .slice ad5 n5 c5, .slice ae5 m5 d5] := hd _ 10 (Array.mem_of_getElem? (i := 0) rfl) rfl rfl
    obtain ⟨v13_0, e13, h13_1⟩ : ∃ v, a'.tmps.getD 13 undef = v ∧ Rq w' v ((pyr) * (((n : Int) : Rat))) := ⟨_, rfl, hd _ 13 (Array.mem_of_getElem? (i := 1) rfl) rfl rfl⟩
    refine if_does (wanted_free rfl) (Does.calls (r_call Try.func9 en9.1 en9.2 (map2 e10 e13)) (rAdd_any _ _ ((((-1132959) : Int) : Rat)) ((pyr) * (((n : Int) : Rat))) (max 2 (2 + 2)) _ (hh4.below hb) h13_1 ((rlim_int (limz_64 (by decide) (by decide)) (by omega)).up _ (by omega)) ((rlim_mul pyr_lim (rlim_int (limz_64 b1 b2) (by omega))).up _ (by omega)) (by omega)) ?_)
    rintro e w'' ⟨v', rfl, h', bb⟩
    exact ⟨_, rfl, h', bb, (fun h => absurd h (by decide))⟩
  · intro a' w' hF' hb hd
    obtain ⟨v14_0, e14, h14_1⟩ : ∃ v, a'.tmps.getD 14 undef = v ∧ Rq w' v (((((-1132959) : Int) : Rat)) + ((pyr) * (((n : Int) : Rat)))) := ⟨_, rfl, hd _ 14 (Array.mem_of_getElem? (i := 0) rfl) rfl rfl⟩
    refine if_does (wanted_free rfl) (Does.calls (r_call Try.func18 en18.1 en18.2 (map1 e14)) (mSun_any _ (((((-1132959) : Int) : Rat)) + ((pyr) * (((n : Int) : Rat)))) (2 + (2 + 2) + 1) _ h14_1 (rlim_add (rlim_int (limz_64 (by decide) (by decide)) (by omega)) (rlim_mul pyr_lim (rlim_int (limz_64 b1 b2) (by omega)))) (by omega)) ?_)
    rintro e w'' ⟨v', rfl, h', bb⟩
    exact ⟨_, rfl, h', bb, (fun h => absurd h (by decide))⟩
  · intro a' w' hF' hb hd
    obtain ⟨v15_0, e15, h15_1⟩ : ∃ v, a'.tmps.getD 15 undef = v ∧ Rq w' v (mof (((((-1132959) : Int) : Rat)) + ((pyr) * (((n : Int) : Rat)))) pyr) := ⟨_, rfl, hd _ 15 (Array.mem_of_getElem? (i := 0) rfl) rfl rfl⟩
    refine if_does (wanted_free rfl) (Does.calls (r_call Try.func16 en16.1 en16.2 (map1 e15)) (rsgn_any _ (mof (((((-1132959) : Int) : Rat)) + ((pyr) * (((n : Int) : Rat)))) pyr) _ h15_1) ?_)
    rintro e w'' ⟨rfl, bb⟩
    exact ⟨_, rfl, rfl, bb, (fun h => absurd h (by decide))⟩
  · intro a' w' hF' hb hd
    have e16 : a'.tmps.getD 16 undef = .int .i64 (sz (Rat.num (mof (((((-1132959) : Int) : Rat)) + ((pyr) * (((n : Int) : Rat)))) pyr))) := hd _ 16 (Array.mem_of_getElem? (i := 0) rfl) rfl rfl
    exact if_does (wanted_free rfl) (Does.vals (r_bin e16 ev_c eg_scalar (bi_int (ic_eql (c := true) (dec_tt (sz0_of (kali_sun _)))) (by simp))) ⟨rfl, Below.refl _ _, (fun h => absurd h (by decide))⟩)
  · intro a' w' hF' hb hd
    have e17 : a'.tmps.getD 17 undef = .bool true := hd _ 17 (Array.mem_of_getElem? (i := 0) rfl) rfl rfl
    exact if_does (wanted_free rfl) (Does.vals (r_move e17) ⟨rfl, Below.refl _ _, (fun h => absurd h (by decide))⟩)
  · intro a' w' hF' hb hd
    have e18 : a'.tmps.getD 18 undef = .bool true := hd _ 18 (Array.mem_of_getElem? (i := 0) rfl) rfl rfl
    exact if_does (wanted_by rfl rfl e18 rfl) (Does.vals (r_load (hF'.at 1 rfl) (ld_Rat (vs := [.bool b5, .slice ad5 n5 c5, .slice ae5 m5 d5]) (o3.below hb) rfl rfl)) ⟨rfl, Below.refl _ _, (fun h => absurd h (by decide))⟩)
  · intro a' w' hF' hb hd
    have e18 : a'.tmps.getD 18 undef = .bool true := hd _ 18 (Array.mem_of_getElem? (i := 0) rfl) rfl rfl
    refine if_does (wanted_by rfl rfl e18 rfl) (Does.calls (r_call Try.func21 en21.1 en21.2 map0) (mMonth_any _) ?_)
    rintro e w'' ⟨v', rfl, h', bb⟩
    exact ⟨_, rfl, h', bb, (fun h => absurd h (by decide))⟩
  · intro a' w' hF' hb hd
    have e18 : a'.tmps.getD 18 undef = .bool true := hd _ 18 (Array.mem_of_getElem? (i := 0) rfl) rfl rfl
    exact if_does (wanted_by rfl rfl e18 rfl) (Does.vals (r_load (hF'.at 0 rfl) (ld_Rat (vs := [.bool b10, .slice ad10 n10 c10, .slice ae10 m10 d10]) (o4.below hb) rfl rfl)) ⟨rfl, Below.refl _ _, (fun h => absurd h (by decide))⟩)
  · intro a' w' hF' hb hd
    have e18 : a'.tmps.getD 18 undef = .bool true := hd _ 18 (Array.mem_of_getElem? (i := 3) rfl) rfl rfl
    obtain ⟨v20_0, e20, h20_1⟩ : ∃ v, a'.tmps.getD 20 undef = v ∧ Rq w' v (pmo) := ⟨_, rfl, hd _ 20 (Array.mem_of_getElem? (i := 0) rfl) rfl rfl⟩
    have e21 : a'.tmps.getD 21 undef = .agg #[.bool b10, .slice ad10 n10 c10, .slice ae10 m10 d10] := hd _ 21 (Array.mem_of_getElem? (i := 1) rfl) rfl rfl
    refine if_does (wanted_by rfl rfl e18 rfl) (Does.calls (r_call Try.func10 en10.1 en10.2 (map2 e20 e21)) (rMul_any _ _ (pmo) (((n : Int) : Rat)) 2 _ h20_1 (hh9.below hb) (pmo_lim.up _ (by omega)) ((rlim_int (limz_64 b1 b2) (by omega)).up _ (by omega)) (by omega)) ?_)
    rintro e w'' ⟨v', rfl, h', bb⟩
    exact ⟨_, rfl, h', bb, (fun h => absurd h (by decide))⟩
  · intro a' w' hF' hb hd
    have e18 : a'.tmps.getD 18 undef = .bool true := hd _ 18 (Array.mem_of_getElem? (i := 3) rfl) rfl rfl
    have e19 : a'.tmps.getD 19 undef = .agg #[.bool b5, .slice ad5 n5 c5, .slice ae5 m5 d5] := hd _ 19 (Array.mem_of_getElem? (i := 0) rfl) rfl rfl
    obtain ⟨v22_0, e22, h22_1⟩ : ∃ v, a'.tmps.getD 22 undef = v ∧ Rq w' v ((pmo) * (((n : Int) : Rat))) := ⟨_, rfl, hd _ 22 (Array.mem_of_getElem? (i := 1) rfl) rfl rfl⟩
    refine if_does (wanted_by rfl rfl e18 rfl) (Does.calls (r_call Try.func9 en9.1 en9.2 (map2 e19 e22)) (rAdd_any _ _ ((((-1132959) : Int) : Rat)) ((pmo) * (((n : Int) : Rat))) (max 2 (2 + 2)) _ (hh4.below hb) h22_1 ((rlim_int (limz_64 (by decide) (by decide)) (by omega)).up _ (by omega)) ((rlim_mul pmo_lim (rlim_int (limz_64 b1 b2) (by omega))).up _ (by omega)) (by omega)) ?_)
    rintro e w'' ⟨v', rfl, h', bb⟩
    exact ⟨_, rfl, h', bb, (fun h => absurd h (by decide))⟩
  · intro a' w' hF' hb hd
    have e18 : a'.tmps.getD 18 undef = .bool true := hd _ 18 (Array.mem_of_getElem? (i := 2) rfl) rfl rfl
    obtain ⟨v23_0, e23, h23_1⟩ : ∃ v, a'.tmps.getD 23 undef = v ∧ Rq w' v (((((-1132959) : Int) : Rat)) + ((pmo) * (((n : Int) : Rat)))) := ⟨_, rfl, hd _ 23 (Array.mem_of_getElem? (i := 0) rfl) rfl rfl⟩
    refine if_does (wanted_by rfl rfl e18 rfl) (Does.calls (r_call Try.func20 en20.1 en20.2 (map1 e23)) (mMoon_any _ (((((-1132959) : Int) : Rat)) + ((pmo) * (((n : Int) : Rat)))) (2 + (2 + 2) + 1) _ h23_1 (rlim_add (rlim_int (limz_64 (by decide) (by decide)) (by omega)) (rlim_mul pmo_lim (rlim_int (limz_64 b1 b2) (by omega)))) (by omega)) ?_)
    rintro e w'' ⟨v', rfl, h', bb⟩
    exact ⟨_, rfl, h', bb, (fun h => absurd h (by decide))⟩
  · intro a' w' hF' hb hd
    have e18 : a'.tmps.getD 18 undef = .bool true := hd _ 18 (Array.mem_of_getElem? (i := 2) rfl) rfl rfl
    obtain ⟨v24_0, e24, h24_1⟩ : ∃ v, a'.tmps.getD 24 undef = v ∧ Rq w' v (mof (((((-1132959) : Int) : Rat)) + ((pmo) * (((n : Int) : Rat)))) pmo) := ⟨_, rfl, hd _ 24 (Array.mem_of_getElem? (i := 0) rfl) rfl rfl⟩
    refine if_does (wanted_by rfl rfl e18 rfl) (Does.calls (r_call Try.func16 en16.1 en16.2 (map1 e24)) (rsgn_any _ (mof (((((-1132959) : Int) : Rat)) + ((pmo) * (((n : Int) : Rat)))) pmo) _ h24_1) ?_)
    rintro e w'' ⟨rfl, bb⟩
    exact ⟨_, rfl, rfl, bb, (fun h => absurd h (by decide))⟩
  · intro a' w' hF' hb hd
    have e18 : a'.tmps.getD 18 undef = .bool true := hd _ 18 (Array.mem_of_getElem? (i := 1) rfl) rfl rfl
    have e25 : a'.tmps.getD 25 undef = .int .i64 (sz (Rat.num (mof (((((-1132959) : Int) : Rat)) + ((pmo) * (((n : Int) : Rat)))) pmo))) := hd _ 25 (Array.mem_of_getElem? (i := 0) rfl) rfl rfl
    exact if_does (wanted_by rfl rfl e18 rfl) (Does.vals (r_bin e25 ev_c eg_scalar (bi_int (ic_eql (c := true) (dec_tt (sz0_of (kali_moon _)))) (by simp))) ⟨rfl, Below.refl _ _, (fun h => absurd h (by decide))⟩)
  · intro a' w' hF' hb hd
    have e18 : a'.tmps.getD 18 undef = .bool true := hd _ 18 (Array.mem_of_getElem? (i := 0) rfl) rfl rfl
    have e26 : a'.tmps.getD 26 undef = .bool true := hd _ 26 (Array.mem_of_getElem? (i := 1) rfl) rfl rfl
    exact if_does (wanted_free rfl) (Does.vals (r_pick_t e18 e26) ⟨rfl, Below.refl _ _, (fun h => absurd h (by decide))⟩)
  intro a w16 hF bb hall hne
  have e27 : a.tmps.getD 27 undef = .bool true := hall 17 27 rfl
  clear hall hne
  replace bel := below_to bel bb
  clear bb
  replace hF := hF.add e27
  clear e27
  refine E.opset (L' := [(2, .bool true), (27, .bool true), (4, .pointer (some ⟨g4, 0, none⟩)), (3, .pointer (some ⟨g3, 0, none⟩)), (9, .agg #[.bool b10, .slice ad10 n10 c10, .slice ae10 m10 d10]), (8, .int .i64 n), (7, .agg #[.bool b5, .slice ad5 n5 c5, .slice ae5 m5 d5]), (6, .bool false), (5, .bool true), (0, .int .i64 n)]) hF (r_assign (hF.at 0 rfl)) rfl rfl rfl rfl fun a hF => ?_
  refine E.nil ?_
  refine wp_ret ?_
  refine bodyPost_ret (res_tmp Try.results4 (hF.at 0 rfl)) hF.dfr ?_
  exact ⟨rfl, bel⟩

set_option maxHeartbeats 4000000 in
theorem meanPhase_walk (nega1 : Bool) (aa1 : Option Addr) (na1 ca1 : Nat) (xa1 : List Nat) (negb1 : Bool) (ab1 : Option Addr) (nb1 cb1 : Nat) (xb1 : List Nat) (w : World) (ia1 : InX w aa1 na1 ca1 xa1) (ib1 : InX w ab1 nb1 cb1 xb1) :
    Calls Try.prog 5 #[.agg #[.bool nega1, .slice aa1 na1 ca1, .bool negb1, .slice ab1 nb1 cb1]] w (ValPost w (.bool true)) := by
  have oka1 := ia1.ok
  have okb1 := ib1.ok
  have bel : Below w.heap.size w w := Below.refl _ _
  refine E.enter (nt := 19) (L := [(0, .agg #[.bool nega1, .slice aa1 na1 ca1, .bool negb1, .slice ab1 nb1 cb1])]) Try.func5 rfl rfl rfl (args_cons (i := 0) rfl args_nil) ?_
  intro a hF
  refine wp_seq ?_
  refine E.seq ?_
  obtain ⟨g1, w1, ge1, hr, bb, o1⟩ := own_box (P := Try.prog) (w := w) (cs := [.bool nega1, .slice aa1 na1 ca1, .bool negb1, .slice ab1 nb1 cb1]) (v := .agg #[.bool nega1, .slice aa1 na1 ca1, .bool negb1, .slice ab1 nb1 cb1]) 26 rfl (niB (niS (niB (niS ni0))))
  replace ge1 : w.heap.size ≤ g1 := by rw [← ge1]; exact bel.size
  refine E.opv hF (r_box (hF.at 0 rfl) hr) rfl rfl rfl rfl fun a hF => ?_
  clear hr
  replace ia1 := ia1.below bb
  replace ib1 := ib1.below bb
  replace bel := below_to bel bb
  clear bb
  refine E.opv hF (r_assign ev_c) rfl rfl rfl rfl fun a hF => ?_
  refine E.nil ?_
  refine wp_seq ?_
  refine wp_seq ?_
  refine E.seq ?_
  refine E.call hF (r_call Try.func6 en6.1 en6.2 map0) (awake11_any _) rfl rfl rfl rfl ?_
  rintro e w2 ⟨rfl, bb⟩
  refine ⟨_, rfl, ?_⟩
  intro a hF
  replace ia1 := ia1.below bb
  replace ib1 := ib1.below bb
  replace o1 := o1.below bb
  replace bel := below_to bel bb
  clear bb
  refine E.opv hF (r_un (hF.at 0 rfl) (bn_not _ false rfl)) rfl rfl rfl rfl fun a hF => ?_
  refine E.nil ?_
  refine wp_cond_false (hF.at 0 rfl) ?_
  refine wp_skip ?_
  refine E.norm ?_
  refine wp_seq ?_
  refine E.seq ?_
  refine E.opv hF (r_load (hF.at 3 rfl) (ld_Raw5 (vs := [.bool nega1, .slice aa1 na1 ca1, .bool negb1, .slice ab1 nb1 cb1]) o1 rfl rfl)) rfl rfl rfl rfl fun a hF => ?_
  refine E.call hF (r_call Try.func8 en8.1 en8.2 (map2 (hF.at 0 rfl) ev_c)) (Own5_any nega1 aa1 na1 ca1 xa1 negb1 ab1 nb1 cb1 xb1 3 _ ia1 ib1 (by omega)) rfl rfl rfl rfl ?_
  rintro e w3 ⟨vv4, rfl, hh5, bb⟩
  refine ⟨_, rfl, ?_⟩
  intro a hF
  replace bel := below_to bel bb
  clear bb
  obtain ⟨b6, ad6, n6, c6, ae6, m6, d6, rfl, hn6, hd6⟩ := Rq.shape hh5
  have hf7 := Wc.abs hn6
  obtain ⟨g3, w8, ge3, hr, bb, o3⟩ := own_alloc (P := Try.prog) (w := w3) (cs := [.bool false, .slice none 0 0, .slice none 0 0]) 32 ze_Rat rfl (niB (niS (niS ni0)))
  replace ge3 : w.heap.size ≤ g3 := by rw [← ge3]; exact bel.size
  refine E.opv hF (r_alloc hr) rfl rfl rfl rfl fun a hF => ?_
  clear hr
  replace hh5 := hh5.below bb
  replace hn6 := hn6.below bb
  replace hf7 := hf7.below bb
  replace hd6 := hd6.below bb
  replace bel := below_to bel bb
  clear bb
  obtain ⟨w9, hr, tu, on⟩ := st_Rat (vs := [.bool b6, .slice ad6 n6 c6, .slice ae6 m6 d6]) o3 rfl rfl (ocB (ocS (ocS oc0))) (niB (niS (niS ni0))) (o := 0) rfl
  have kp := tu.keep o3
  refine E.st hF (r_store (hF.at 0 rfl) (hF.at 1 rfl) (hr _ rfl)) rfl rfl fun a hF => ?_
  clear hr
  replace hh5 := hh5.keep kp
  replace hn6 := hn6.keep kp
  replace hf7 := hf7.keep kp
  replace hd6 := hd6.keep kp
  replace bel := tu.below bel ge3
  clear tu kp
  replace o3 := on
  clear on
  refine E.nil ?_
  refine wp_seq ?_
  refine E.drawn 11 mixed hF [8, 9, 10, 11, 12, 13, 14, 15, 16, 17, 18] [(fun _ v => v = .agg #[.bool b6, .slice ad6 n6 c6, .slice ae6 m6 d6]), (fun w v => Rq w v (mof (((rawZ nega1 xa1 3 : Int) : Rat) / ((rawZ negb1 xb1 3 : Int) : Rat)) pmo)), (fun _ v => v = .agg #[.bool b6, .slice ad6 n6 c6, .slice ae6 m6 d6]), (fun w v => Rq w v (mof (((rawZ nega1 xa1 3 : Int) : Rat) / ((rawZ negb1 xb1 3 : Int) : Rat)) pyr)), (fun w v => Rq w v ((mof (((rawZ nega1 xa1 3 : Int) : Rat) / ((rawZ negb1 xb1 3 : Int) : Rat)) pmo) - (mof (((rawZ nega1 xa1 3 : Int) : Rat) / ((rawZ negb1 xb1 3 : Int) : Rat)) pyr))), (fun w v => Rq w v (((360 : Int) : Rat))), (fun w v => Rq w v (rmod ((mof (((rawZ nega1 xa1 3 : Int) : Rat) / ((rawZ negb1 xb1 3 : Int) : Rat)) pmo) - (mof (((rawZ nega1 xa1 3 : Int) : Rat) / ((rawZ negb1 xb1 3 : Int) : Rat)) pyr)) (((360 : Int) : Rat)))), (fun _ v => v = .agg #[.bool b6, .slice ad6 n6 c6, .slice ae6 m6 d6]), (fun w v => Rq w v (psy)), (fun w v => Rq w v (mof (((rawZ nega1 xa1 3 : Int) : Rat) / ((rawZ negb1 xb1 3 : Int) : Rat)) (psy))), (fun _ v => v = .bool true)] [] (by decide +kernel) (by decide +kernel) rfl rfl rfl ⟨(Mb.eq _), (fun _ _ _ h hb => h.below hb), (Mb.eq _), (fun _ _ _ h hb => h.below hb), (fun _ _ _ h hb => h.below hb), (fun _ _ _ h hb => h.below hb), (fun _ _ _ h hb => h.below hb), (Mb.eq _), (fun _ _ _ h hb => h.below hb), (fun _ _ _ h hb => h.below hb), (Mb.eq _), trivial⟩ trivial ⟨?_, ?_, ?_, ?_, ?_, ?_, ?_, ?_, ?_, ?_, ?_, trivial⟩ ?_
  · intro a' w' hF' hb hd
    exact if_does (wanted_free rfl) (Does.vals (r_load (hF'.at 0 rfl) (ld_Rat (vs := [.bool b6, .slice ad6 n6 c6, .slice ae6 m6 d6]) (o3.below hb) rfl rfl)) ⟨rfl, Below.refl _ _, (fun h => absurd h (by decide))⟩)
  · intro a' w' hF' hb hd
    have e8 : a'.tmps.getD 8 undef = .agg #[.bool b6, .slice ad6 n6 c6, .slice ae6 m6 d6] := hd _ 8 (Array.mem_of_getElem? (i := 0) rfl) rfl rfl
    refine if_does (wanted_free rfl) (Does.calls (r_call Try.func20 en20.1 en20.2 (map1 e8)) (mMoon_any _ (((rawZ nega1 xa1 3 : Int) : Rat) / ((rawZ negb1 xb1 3 : Int) : Rat)) 3 _ (hh5.below hb) (own5_lim nega1 negb1 oka1 okb1 3 (by decide)) (by omega)) ?_)
    rintro e w'' ⟨v', rfl, h', bb⟩
    exact ⟨_, rfl, h', bb, (fun h => absurd h (by decide))⟩
  · intro a' w' hF' hb hd
    exact if_does (wanted_free rfl) (Does.vals (r_load (hF'.at 0 rfl) (ld_Rat (vs := [.bool b6, .slice ad6 n6 c6, .slice ae6 m6 d6]) (o3.below hb) rfl rfl)) ⟨rfl, Below.refl _ _, (fun h => absurd h (by decide))⟩)
  · intro a' w' hF' hb hd
    have e10 : a'.tmps.getD 10 undef = .agg #[.bool b6, .slice ad6 n6 c6, .slice ae6 m6 d6] := hd _ 10 (Array.mem_of_getElem? (i := 0) rfl) rfl rfl
    refine if_does (wanted_free rfl) (Does.calls (r_call Try.func18 en18.1 en18.2 (map1 e10)) (mSun_any _ (((rawZ nega1 xa1 3 : Int) : Rat) / ((rawZ negb1 xb1 3 : Int) : Rat)) 3 _ (hh5.below hb) (own5_lim nega1 negb1 oka1 okb1 3 (by decide)) (by omega)) ?_)
    rintro e w'' ⟨v', rfl, h', bb⟩
    exact ⟨_, rfl, h', bb, (fun h => absurd h (by decide))⟩
  · intro a' w' hF' hb hd
    obtain ⟨v9_0, e9, h9_1⟩ : ∃ v, a'.tmps.getD 9 undef = v ∧ Rq w' v (mof (((rawZ nega1 xa1 3 : Int) : Rat) / ((rawZ negb1 xb1 3 : Int) : Rat)) pmo) := ⟨_, rfl, hd _ 9 (Array.mem_of_getElem? (i := 0) rfl) rfl rfl⟩
    obtain ⟨v11_0, e11, h11_1⟩ : ∃ v, a'.tmps.getD 11 undef = v ∧ Rq w' v (mof (((rawZ nega1 xa1 3 : Int) : Rat) / ((rawZ negb1 xb1 3 : Int) : Rat)) pyr) := ⟨_, rfl, hd _ 11 (Array.mem_of_getElem? (i := 1) rfl) rfl rfl⟩
    refine if_does (wanted_free rfl) (Does.calls (r_call Try.func15 en15.1 en15.2 (map2 e9 e11)) (rSub_any _ _ (mof (((rawZ nega1 xa1 3 : Int) : Rat) / ((rawZ negb1 xb1 3 : Int) : Rat)) pmo) (mof (((rawZ nega1 xa1 3 : Int) : Rat) / ((rawZ negb1 xb1 3 : Int) : Rat)) pyr) (3 + 2 + 5) _ h9_1 h11_1 ((mof_lim (own5_lim nega1 negb1 oka1 okb1 3 (by decide)) pmo_lim).up _ (by omega)) ((mof_lim (own5_lim nega1 negb1 oka1 okb1 3 (by decide)) pyr_lim).up _ (by omega)) (by omega)) ?_)
    rintro e w'' ⟨v', rfl, h', bb⟩
    exact ⟨_, rfl, h', bb, (fun h => absurd h (by decide))⟩
  · intro a' w' hF' hb hd
    refine if_does (wanted_free rfl) (Does.calls (r_call Try.func11 en11.1 en11.2 (map1 ev_c)) (rWhole_any (360) _ (by decide) (by decide)) ?_)
    rintro e w'' ⟨v', rfl, h', bb⟩
    exact ⟨_, rfl, h', bb, (fun h => absurd h (by decide))⟩
  · intro a' w' hF' hb hd
    obtain ⟨v12_0, e12, h12_1⟩ : ∃ v, a'.tmps.getD 12 undef = v ∧ Rq w' v ((mof (((rawZ nega1 xa1 3 : Int) : Rat) / ((rawZ negb1 xb1 3 : Int) : Rat)) pmo) - (mof (((rawZ nega1 xa1 3 : Int) : Rat) / ((rawZ negb1 xb1 3 : Int) : Rat)) pyr)) := ⟨_, rfl, hd _ 12 (Array.mem_of_getElem? (i := 0) rfl) rfl rfl⟩
    obtain ⟨v13_0, e13, h13_1⟩ : ∃ v, a'.tmps.getD 13 undef = v ∧ Rq w' v (((360 : Int) : Rat)) := ⟨_, rfl, hd _ 13 (Array.mem_of_getElem? (i := 1) rfl) rfl rfl⟩
    refine if_does (wanted_free rfl) (Does.calls (r_call Try.func22 en22.1 en22.2 (map2 e12 e13)) (cMod_any _ _ ((mof (((rawZ nega1 xa1 3 : Int) : Rat) / ((rawZ negb1 xb1 3 : Int) : Rat)) pmo) - (mof (((rawZ nega1 xa1 3 : Int) : Rat) / ((rawZ negb1 xb1 3 : Int) : Rat)) pyr)) (((360 : Int) : Rat)) ((3 + 2 + 5) + (3 + 2 + 5) + 1) 2 _ h12_1 h13_1 (rlim_sub (mof_lim (own5_lim nega1 negb1 oka1 okb1 3 (by decide)) pmo_lim) (mof_lim (own5_lim nega1 negb1 oka1 okb1 3 (by decide)) pyr_lim)) (rlim_int (limz_64 (by decide) (by decide)) (by omega)) (by omega) (by omega)) ?_)
    rintro e w'' ⟨v', rfl, h', bb⟩
    exact ⟨_, rfl, h', bb, (fun h => absurd h (by decide))⟩
  · intro a' w' hF' hb hd
    exact if_does (wanted_free rfl) (Does.vals (r_load (hF'.at 0 rfl) (ld_Rat (vs := [.bool b6, .slice ad6 n6 c6, .slice ae6 m6 d6]) (o3.below hb) rfl rfl)) ⟨rfl, Below.refl _ _, (fun h => absurd h (by decide))⟩)
  · intro a' w' hF' hb hd
    refine if_does (wanted_free rfl) (Does.calls (r_call Try.func23 en23.1 en23.2 map0) (mSynodic_any _) ?_)
    rintro e w'' ⟨v', rfl, h', bb⟩
    exact ⟨_, rfl, h', bb, (fun h => absurd h (by decide))⟩
  · intro a' w' hF' hb hd
    have e15 : a'.tmps.getD 15 undef = .agg #[.bool b6, .slice ad6 n6 c6, .slice ae6 m6 d6] := hd _ 15 (Array.mem_of_getElem? (i := 0) rfl) rfl rfl
    obtain ⟨v16_0, e16, h16_1⟩ : ∃ v, a'.tmps.getD 16 undef = v ∧ Rq w' v (psy) := ⟨_, rfl, hd _ 16 (Array.mem_of_getElem? (i := 1) rfl) rfl rfl⟩
    refine if_does (wanted_free rfl) (Does.calls (r_call Try.func12 en12.1 en12.2 (map2 e15 e16)) (mOf_any _ _ (((rawZ nega1 xa1 3 : Int) : Rat) / ((rawZ negb1 xb1 3 : Int) : Rat)) (psy) 3 2 _ (hh5.below hb) h16_1 (own5_lim nega1 negb1 oka1 okb1 3 (by decide)) psy_lim (by omega) (by omega)) ?_)
    rintro e w'' ⟨v', rfl, h', bb⟩
    exact ⟨_, rfl, h', bb, (fun h => absurd h (by decide))⟩
  · intro a' w' hF' hb hd
    obtain ⟨v14_0, e14, h14_1⟩ : ∃ v, a'.tmps.getD 14 undef = v ∧ Rq w' v (rmod ((mof (((rawZ nega1 xa1 3 : Int) : Rat) / ((rawZ negb1 xb1 3 : Int) : Rat)) pmo) - (mof (((rawZ nega1 xa1 3 : Int) : Rat) / ((rawZ negb1 xb1 3 : Int) : Rat)) pyr)) (((360 : Int) : Rat))) := ⟨_, rfl, hd _ 14 (Array.mem_of_getElem? (i := 0) rfl) rfl rfl⟩
    obtain ⟨v17_0, e17, h17_1⟩ : ∃ v, a'.tmps.getD 17 undef = v ∧ Rq w' v (mof (((rawZ nega1 xa1 3 : Int) : Rat) / ((rawZ negb1 xb1 3 : Int) : Rat)) (psy)) := ⟨_, rfl, hd _ 17 (Array.mem_of_getElem? (i := 1) rfl) rfl rfl⟩
    refine if_does (wanted_free rfl) (Does.calls (r_call Try.func13 en13.1 en13.2 (map2 e14 e17)) (rSame_true _ _ (rmod ((mof (((rawZ nega1 xa1 3 : Int) : Rat) / ((rawZ negb1 xb1 3 : Int) : Rat)) pmo) - (mof (((rawZ nega1 xa1 3 : Int) : Rat) / ((rawZ negb1 xb1 3 : Int) : Rat)) pyr)) (((360 : Int) : Rat))) (mof (((rawZ nega1 xa1 3 : Int) : Rat) / ((rawZ negb1 xb1 3 : Int) : Rat)) (psy)) _ h14_1 h17_1 (mphase _)) ?_)
    rintro e w'' ⟨rfl, bb⟩
    exact ⟨_, rfl, rfl, bb, (fun h => absurd h (by decide))⟩
  intro a w10 hF bb hall hne
  have e18 : a.tmps.getD 18 undef = .bool true := hall 10 18 rfl
  clear hall hne
  replace bel := below_to bel bb
  clear bb
  replace hF := hF.add e18
  clear e18
  refine E.opset (L' := [(2, .bool true), (18, .bool true), (3, .pointer (some ⟨g3, 0, none⟩)), (7, .agg #[.bool b6, .slice ad6 n6 c6, .slice ae6 m6 d6]), (6, .agg #[.bool nega1, .slice aa1 na1 ca1, .bool negb1, .slice ab1 nb1 cb1]), (5, .bool false), (4, .bool true), (1, .pointer (some ⟨g1, 0, none⟩)), (0, .agg #[.bool nega1, .slice aa1 na1 ca1, .bool negb1, .slice ab1 nb1 cb1])]) hF (r_assign (hF.at 0 rfl)) rfl rfl rfl rfl fun a hF => ?_
  refine E.nil ?_
  refine wp_ret ?_
  refine bodyPost_ret (res_tmp Try.results5 (hF.at 0 rfl)) hF.dfr ?_
  exact ⟨rfl, bel⟩

end Go.Proofs.Ytmpdbkdijfpbbaa
