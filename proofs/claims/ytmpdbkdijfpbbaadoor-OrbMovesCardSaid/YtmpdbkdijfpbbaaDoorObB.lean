/- OrbNear, OrbMoves. -/
import Derived.Test.YtmpdbkdijfpbbaaDoorObA
import Derived.Test.YtmpdbkdijfpbbaaDoorSnC
namespace Go.Proofs.YtmpdbkdijfpbbaaDoor
open Go.RowKit
set_option maxRecDepth 100000
set_option linter.unusedVariables false

theorem qc_le0f {p q : Rat} (h : q < p) : ¬ qc p q ≤ 0 := by
  rw [qc_def, if_neg (by grind), if_pos h]; decide
theorem qc_ge0f {p q : Rat} (h : p < q) : ¬ 0 ≤ qc p q := by rw [qc_def, if_pos h]; decide
set_option maxHeartbeats 1000000 in
theorem between_any (v1 : Value) (qt : Rat) (k : Nat) (f t : Int) (w : World) (h1 : Rq w v1 qt) (hl : RLim qt k) (hk : k ≤ 1000) (f0 : -9223372036854775808 ≤ f) (f1 : f ≤ 9223372036854775807) (t0 : -9223372036854775808 ≤ t) (t1 : t ≤ 9223372036854775807) (hlo : ((f : Int) : Rat) / ((100 : Int) : Rat) < rmod qt ((360 : Int) : Rat)) (hhi : rmod qt ((360 : Int) : Rat) < ((t : Int) : Rat) / ((100 : Int) : Rat)) :
    Calls Tryd.prog 24 #[v1, .int .i64 f, .int .i64 t] w (ValPost w (.int .i64 0)) := by
  have bel : Below w.heap.size w w := Below.refl _ _
  refine E.enter (nt := 23) (L := [(0, v1), (1, .int .i64 f), (2, .int .i64 t)]) Tryd.func24 rfl rfl rfl (args_cons (i := 0) rfl (args_cons (i := 1) rfl (args_cons (i := 2) rfl args_nil))) ?_
  intro a hF
  refine wp_seq ?_
  refine E.seq ?_
  obtain ⟨b1, ad1, n1, c1, ae1, m1, d1, rfl, hn1, hd1⟩ := Rq.shape h1
  have hf2 := Wc.abs hn1
  obtain ⟨g3, w3, ge3, hr, bb, o3⟩ := own_box (P := Tryd.prog) (w := w) (cs := [.bool b1, .slice ad1 n1 c1, .slice ae1 m1 d1]) (v := .agg #[.bool b1, .slice ad1 n1 c1, .slice ae1 m1 d1]) 32 rfl (niB (niS (niS ni0)))
  replace ge3 : w.heap.size ≤ g3 := by rw [← ge3]; exact bel.size
  refine E.opv hF (r_box (hF.at 0 rfl) hr) rfl rfl rfl rfl fun a hF => ?_
  clear hr
  replace h1 := h1.below bb
  replace hn1 := hn1.below bb
  replace hf2 := hf2.below bb
  replace hd1 := hd1.below bb
  replace bel := below_to bel bb
  clear bb
  refine E.opv hF (r_assign ev_c) rfl rfl rfl rfl fun a hF => ?_
  refine E.nil ?_
  refine wp_seq ?_
  refine E.drawn 4 mixed hF [8, 9, 10, 7] [(fun _ v => v = .agg #[.bool b1, .slice ad1 n1 c1, .slice ae1 m1 d1]), (fun w v => Rq w v (((360 : Int) : Rat))), (fun w v => Rq w v (rmod (qt) (((360 : Int) : Rat)))), (fun w v => ∃ g, v = .pointer (some ⟨g, 0, none⟩) ∧ w3.heap.size ≤ g ∧ Own w g [.bool false, .slice none 0 0, .slice none 0 0])] [3] (by decide +kernel) (by decide +kernel) rfl rfl rfl ⟨(Mb.eq _), (fun _ _ _ h hb => h.below hb), (fun _ _ _ h hb => h.below hb), (fun _ _ _ ⟨g, e, l, o⟩ hb => ⟨g, e, l, o.below hb⟩), trivial⟩ ⟨fun _ _ ⟨g, e, _, o⟩ => ⟨g, e, o.lt⟩, trivial⟩ ⟨?_, ?_, ?_, ?_, trivial⟩ ?_
  · intro a' w' hF' hb hd
    exact if_does (wanted_free rfl) (Does.vals (r_load (hF'.at 1 rfl) (ld_Rat (vs := [.bool b1, .slice ad1 n1 c1, .slice ae1 m1 d1]) (o3.below hb) rfl rfl)) ⟨rfl, Below.refl _ _, (fun h => absurd h (by decide))⟩)
  · intro a' w' hF' hb hd
    refine if_does (wanted_free rfl) (Does.calls (r_call Tryd.func19 en19.1 en19.2 (map1 ev_c)) (rWhole_any (360) _ (by decide) (by decide)) ?_)
    rintro e w'' ⟨v', rfl, h', bb⟩
    exact ⟨_, rfl, h', bb, (fun h => absurd h (by decide))⟩
  · intro a' w' hF' hb hd
    have e8 : a'.tmps.getD 8 undef = .agg #[.bool b1, .slice ad1 n1 c1, .slice ae1 m1 d1] := hd _ 8 (Array.mem_of_getElem? (i := 0) rfl) rfl rfl
    obtain ⟨v9_0, e9, h9_1⟩ : ∃ v, a'.tmps.getD 9 undef = v ∧ Rq w' v (((360 : Int) : Rat)) := ⟨_, rfl, hd _ 9 (Array.mem_of_getElem? (i := 1) rfl) rfl rfl⟩
    refine if_does (wanted_free rfl) (Does.calls (r_call Tryd.func16 en16.1 en16.2 (map2 e8 e9)) (cMod_any _ _ (qt) (((360 : Int) : Rat)) k 2 _ (h1.below hb) h9_1 hl (rlim_int (limz_64 (by decide) (by decide)) (by omega)) (by omega) (by omega)) ?_)
    rintro e w'' ⟨v', rfl, h', bb⟩
    exact ⟨_, rfl, h', bb, (fun h => absurd h (by decide))⟩
  · intro a' w' hF' hb hd
    obtain ⟨g, w2, ge, hr, bb, on⟩ := own_alloc (P := Tryd.prog) (w := w') (cs := [.bool false, .slice none 0 0, .slice none 0 0]) 32 ze_Rat rfl (niB (niS (niS ni0)))
    subst ge
    exact if_does (wanted_free rfl) (Does.vals (r_alloc hr) ⟨⟨_, rfl, hb.size, on⟩, bb, fun _ => rfl⟩)
  intro a w4 hF bb hall hne
  obtain ⟨vv5, e10, hh6⟩ : ∃ v, a.tmps.getD 10 undef = v ∧ Rq w4 v (rmod (qt) (((360 : Int) : Rat))) := ⟨_, rfl, hall 2 10 rfl⟩
  obtain ⟨g7, e7, ge7, o7⟩ : ∃ g, a.tmps.getD 7 undef = .pointer (some ⟨g, 0, none⟩) ∧ w3.heap.size ≤ g ∧ Own w4 g [.bool false, .slice none 0 0, .slice none 0 0] := hall 3 7 rfl
  replace ge7 : w.heap.size ≤ g7 := Nat.le_trans bel.size ge7
  clear hall hne
  replace bel := below_to bel bb
  clear bb
  obtain ⟨b7, ad7, n7, c7, ae7, m7, d7, rfl, hn7, hd7⟩ := Rq.shape hh6
  have hf8 := Wc.abs hn7
  replace hF := hF.add e10
  clear e10
  replace hF := hF.add e7
  clear e7
  obtain ⟨w9, hr, tu, on⟩ := st_Rat (vs := [.bool b7, .slice ad7 n7 c7, .slice ae7 m7 d7]) o7 rfl rfl (ocB (ocS (ocS oc0))) (niB (niS (niS ni0))) (o := 0) rfl
  have kp := tu.keep o7
  refine E.st hF (r_store (hF.at 0 rfl) (hF.at 1 rfl) (hr _ rfl)) rfl rfl fun a hF => ?_
  clear hr
  replace hh6 := hh6.keep kp
  replace hn7 := hn7.keep kp
  replace hf8 := hf8.keep kp
  replace hd7 := hd7.keep kp
  replace bel := tu.below bel ge7
  clear tu kp
  replace o7 := on
  clear on
  refine E.nil ?_
  refine wp_seq ?_
  refine wp_seq ?_
  refine E.drawn 12 mixed hF [11, 12, 13, 14, 15, 16, 17, 18, 19, 20, 21, 22] [(fun _ v => v = .agg #[.bool b7, .slice ad7 n7 c7, .slice ae7 m7 d7]), (fun _ v => v = .int .i64 f), (fun w v => Rq w v (((f : Int) : Rat) / ((100 : Int) : Rat))), (fun _ v => v = .int .i64 (qc (rmod (qt) (((360 : Int) : Rat))) (((f : Int) : Rat) / ((100 : Int) : Rat)))), (fun _ v => v = .bool false), (fun _ v => v = .bool false), (fun _ v => v = .agg #[.bool b7, .slice ad7 n7 c7, .slice ae7 m7 d7]), (fun _ v => v = .int .i64 t), (fun w v => Rq w v (((t : Int) : Rat) / ((100 : Int) : Rat))), (fun _ v => v = .int .i64 (qc (rmod (qt) (((360 : Int) : Rat))) (((t : Int) : Rat) / ((100 : Int) : Rat)))), (fun _ v => v = .bool false), (fun _ v => v = .bool false)] [] (by decide +kernel) (by decide +kernel) rfl rfl rfl ⟨(Mb.eq _), (Mb.eq _), (fun _ _ _ h hb => h.below hb), (Mb.eq _), (Mb.eq _), (Mb.eq _), (Mb.eq _), (Mb.eq _), (fun _ _ _ h hb => h.below hb), (Mb.eq _), (Mb.eq _), (Mb.eq _), trivial⟩ trivial ⟨?_, ?_, ?_, ?_, ?_, ?_, ?_, ?_, ?_, ?_, ?_, ?_, trivial⟩ ?_
  · intro a' w' hF' hb hd
    exact if_does (wanted_free rfl) (Does.vals (r_load (hF'.at 0 rfl) (ld_Rat (vs := [.bool b7, .slice ad7 n7 c7, .slice ae7 m7 d7]) (o7.below hb) rfl rfl)) ⟨rfl, Below.refl _ _, (fun h => absurd h (by decide))⟩)
  · intro a' w' hF' hb hd
    exact if_does (wanted_free rfl) (Does.vals (r_move (hF'.at 5 rfl)) ⟨rfl, Below.refl _ _, (fun h => absurd h (by decide))⟩)
  · intro a' w' hF' hb hd
    have e12 : a'.tmps.getD 12 undef = .int .i64 f := hd _ 12 (Array.mem_of_getElem? (i := 0) rfl) rfl rfl
    refine if_does (wanted_free rfl) (Does.calls (r_call Tryd.func15 en15.1 en15.2 (map2 e12 ev_c)) (rOf2_any (f) (100) _ f0 f1 (by decide) (by decide)) ?_)
    rintro e w'' ⟨v', rfl, h', bb⟩
    exact ⟨_, rfl, h', bb, (fun h => absurd h (by decide))⟩
  · intro a' w' hF' hb hd
    have e11 : a'.tmps.getD 11 undef = .agg #[.bool b7, .slice ad7 n7 c7, .slice ae7 m7 d7] := hd _ 11 (Array.mem_of_getElem? (i := 0) rfl) rfl rfl
    obtain ⟨v13_0, e13, h13_1⟩ : ∃ v, a'.tmps.getD 13 undef = v ∧ Rq w' v (((f : Int) : Rat) / ((100 : Int) : Rat)) := ⟨_, rfl, hd _ 13 (Array.mem_of_getElem? (i := 1) rfl) rfl rfl⟩
    refine if_does (wanted_free rfl) (Does.calls (r_call Tryd.func14 en14.1 en14.2 (map2 e11 e13)) (rCmp_any _ _ (rmod (qt) (((360 : Int) : Rat))) (((f : Int) : Rat) / ((100 : Int) : Rat)) (max (k + 4) 2) _ (hh6.below hb) h13_1 ((rmod360_lim hl).up _ (by omega)) ((RLim.up (rlim_mk2 (limz_64 f0 f1) (limz_64 (by decide) (by decide))) 2 (by decide)).up _ (by omega)) (by omega)) ?_)
    rintro e w'' ⟨rfl, bb⟩
    exact ⟨_, rfl, rfl, bb, (fun h => absurd h (by decide))⟩
  · intro a' w' hF' hb hd
    have e14 : a'.tmps.getD 14 undef = .int .i64 (qc (rmod (qt) (((360 : Int) : Rat))) (((f : Int) : Rat) / ((100 : Int) : Rat))) := hd _ 14 (Array.mem_of_getElem? (i := 0) rfl) rfl rfl
    exact if_does (wanted_free rfl) (Does.vals (r_bin e14 ev_c eg_scalar (bi_int (ic_leq (c := false) (dec_ff (qc_le0f hlo))) (by simp))) ⟨rfl, Below.refl _ _, (fun h => absurd h (by decide))⟩)
  · intro a' w' hF' hb hd
    have e15 : a'.tmps.getD 15 undef = .bool false := hd _ 15 (Array.mem_of_getElem? (i := 0) rfl) rfl rfl
    exact if_does (wanted_free rfl) (Does.vals (r_move e15) ⟨rfl, Below.refl _ _, (fun h => absurd h (by decide))⟩)
  · intro a' w' hF' hb hd
    have e16 : a'.tmps.getD 16 undef = .bool false := hd _ 16 (Array.mem_of_getElem? (i := 0) rfl) rfl rfl
    exact if_does (wanted_by rfl rfl e16 rfl) (Does.vals (r_load (hF'.at 0 rfl) (ld_Rat (vs := [.bool b7, .slice ad7 n7 c7, .slice ae7 m7 d7]) (o7.below hb) rfl rfl)) ⟨rfl, Below.refl _ _, (fun h => absurd h (by decide))⟩)
  · intro a' w' hF' hb hd
    have e16 : a'.tmps.getD 16 undef = .bool false := hd _ 16 (Array.mem_of_getElem? (i := 0) rfl) rfl rfl
    exact if_does (wanted_by rfl rfl e16 rfl) (Does.vals (r_move (hF'.at 6 rfl)) ⟨rfl, Below.refl _ _, (fun h => absurd h (by decide))⟩)
  · intro a' w' hF' hb hd
    have e16 : a'.tmps.getD 16 undef = .bool false := hd _ 16 (Array.mem_of_getElem? (i := 1) rfl) rfl rfl
    have e18 : a'.tmps.getD 18 undef = .int .i64 t := hd _ 18 (Array.mem_of_getElem? (i := 0) rfl) rfl rfl
    refine if_does (wanted_by rfl rfl e16 rfl) (Does.calls (r_call Tryd.func15 en15.1 en15.2 (map2 e18 ev_c)) (rOf2_any (t) (100) _ t0 t1 (by decide) (by decide)) ?_)
    rintro e w'' ⟨v', rfl, h', bb⟩
    exact ⟨_, rfl, h', bb, (fun h => absurd h (by decide))⟩
  · intro a' w' hF' hb hd
    have e16 : a'.tmps.getD 16 undef = .bool false := hd _ 16 (Array.mem_of_getElem? (i := 3) rfl) rfl rfl
    have e17 : a'.tmps.getD 17 undef = .agg #[.bool b7, .slice ad7 n7 c7, .slice ae7 m7 d7] := hd _ 17 (Array.mem_of_getElem? (i := 0) rfl) rfl rfl
    obtain ⟨v19_0, e19, h19_1⟩ : ∃ v, a'.tmps.getD 19 undef = v ∧ Rq w' v (((t : Int) : Rat) / ((100 : Int) : Rat)) := ⟨_, rfl, hd _ 19 (Array.mem_of_getElem? (i := 1) rfl) rfl rfl⟩
    refine if_does (wanted_by rfl rfl e16 rfl) (Does.calls (r_call Tryd.func14 en14.1 en14.2 (map2 e17 e19)) (rCmp_any _ _ (rmod (qt) (((360 : Int) : Rat))) (((t : Int) : Rat) / ((100 : Int) : Rat)) (max (k + 4) 2) _ (hh6.below hb) h19_1 ((rmod360_lim hl).up _ (by omega)) ((RLim.up (rlim_mk2 (limz_64 t0 t1) (limz_64 (by decide) (by decide))) 2 (by decide)).up _ (by omega)) (by omega)) ?_)
    rintro e w'' ⟨rfl, bb⟩
    exact ⟨_, rfl, rfl, bb, (fun h => absurd h (by decide))⟩
  · intro a' w' hF' hb hd
    have e16 : a'.tmps.getD 16 undef = .bool false := hd _ 16 (Array.mem_of_getElem? (i := 1) rfl) rfl rfl
    have e20 : a'.tmps.getD 20 undef = .int .i64 (qc (rmod (qt) (((360 : Int) : Rat))) (((t : Int) : Rat) / ((100 : Int) : Rat))) := hd _ 20 (Array.mem_of_getElem? (i := 0) rfl) rfl rfl
    exact if_does (wanted_by rfl rfl e16 rfl) (Does.vals (r_bin e20 ev_c eg_scalar (bi_int (ic_geq (c := false) (dec_ff (qc_ge0f hhi))) (by simp))) ⟨rfl, Below.refl _ _, (fun h => absurd h (by decide))⟩)
  · intro a' w' hF' hb hd
    have e16 : a'.tmps.getD 16 undef = .bool false := hd _ 16 (Array.mem_of_getElem? (i := 0) rfl) rfl rfl
    have e21 : a'.tmps.getD 21 undef = .bool false := hd _ 21 (Array.mem_of_getElem? (i := 1) rfl) rfl rfl
    exact if_does (wanted_free rfl) (Does.vals (r_pick_f e16 e21) ⟨rfl, Below.refl _ _, (fun h => absurd h (by decide))⟩)
  intro a w10 hF bb hall hne
  have e22 : a.tmps.getD 22 undef = .bool false := hall 11 22 rfl
  clear hall hne
  replace bel := below_to bel bb
  clear bb
  replace hF := hF.add e22
  clear e22
  refine E.nil ?_
  refine wp_cond_false (hF.at 0 rfl) ?_
  refine wp_skip ?_
  refine E.norm ?_
  refine wp_seq ?_
  refine E.seq ?_
  refine E.opset (L' := [(6, .int .i64 0), (22, .bool false), (7, .pointer (some ⟨g7, 0, none⟩)), (10, .agg #[.bool b7, .slice ad7 n7 c7, .slice ae7 m7 d7]), (3, .pointer (some ⟨g3, 0, none⟩)), (0, .agg #[.bool b1, .slice ad1 n1 c1, .slice ae1 m1 d1]), (1, .int .i64 f), (2, .int .i64 t)]) hF (r_assign ev_c) rfl rfl rfl rfl fun a hF => ?_
  refine E.nil ?_
  refine wp_ret ?_
  refine bodyPost_ret (res_tmp Tryd.results24 (hF.at 0 rfl)) hF.dfr ?_
  exact ⟨rfl, bel⟩

set_option maxHeartbeats 8000000 in
theorem orbNear_walk (nega1 : Bool) (aa1 : Option Addr) (na1 ca1 : Nat) (xa1 : List Nat) (negb1 : Bool) (ab1 : Option Addr) (nb1 cb1 : Nat) (xb1 : List Nat) (w : World) (hT : TabD w) (ia1 : InX w aa1 na1 ca1 xa1) (ib1 : InX w ab1 nb1 cb1 xb1) :
    Calls Tryd.prog 3 #[.agg #[.bool nega1, .slice aa1 na1 ca1, .bool negb1, .slice ab1 nb1 cb1]] w (ValPost w (.bool true)) := by
  have oka1 := ia1.ok
  have okb1 := ib1.ok
  have bel : Below w.heap.size w w := Below.refl _ _
  refine E.enter (nt := 48) (L := [(0, .agg #[.bool nega1, .slice aa1 na1 ca1, .bool negb1, .slice ab1 nb1 cb1])]) Tryd.func3 rfl rfl rfl (args_cons (i := 0) rfl args_nil) ?_
  intro a hF
  refine wp_seq ?_
  refine E.seq ?_
  obtain ⟨g1, w1, ge1, hr, bb, o1⟩ := own_box (P := Tryd.prog) (w := w) (cs := [.bool nega1, .slice aa1 na1 ca1, .bool negb1, .slice ab1 nb1 cb1]) (v := .agg #[.bool nega1, .slice aa1 na1 ca1, .bool negb1, .slice ab1 nb1 cb1]) 26 rfl (niB (niS (niB (niS ni0))))
  replace ge1 : w.heap.size ≤ g1 := by rw [← ge1]; exact bel.size
  refine E.opv hF (r_box (hF.at 0 rfl) hr) rfl rfl rfl rfl fun a hF => ?_
  clear hr
  replace ia1 := ia1.below bb
  replace ib1 := ib1.below bb
  replace bel := below_to bel bb
  clear bb
  refine E.opv hF (r_assign ev_c) rfl rfl rfl rfl fun a hF => ?_
  refine E.nil ?_
  refine wp_seq ?_
  refine wp_seq ?_
  refine E.seq ?_
  refine E.call hF (r_call Tryd.func8 en8.1 en8.2 map0) (awake12_any _ (hT.below bel)) rfl rfl rfl rfl ?_
  rintro e w2 ⟨rfl, bb⟩
  refine ⟨_, rfl, ?_⟩
  intro a hF
  replace ia1 := ia1.below bb
  replace ib1 := ib1.below bb
  replace o1 := o1.below bb
  replace bel := below_to bel bb
  clear bb
  refine E.opv hF (r_un (hF.at 0 rfl) (bn_not _ false rfl)) rfl rfl rfl rfl fun a hF => ?_
  refine E.nil ?_
  refine wp_cond_false (hF.at 0 rfl) ?_
  refine wp_skip ?_
  refine E.norm ?_
  refine wp_seq ?_
  refine E.seq ?_
  refine E.opv hF (r_load (hF.at 3 rfl) (ld_Raw5 (vs := [.bool nega1, .slice aa1 na1 ca1, .bool negb1, .slice ab1 nb1 cb1]) o1 rfl rfl)) rfl rfl rfl rfl fun a hF => ?_
  refine E.call hF (r_call Tryd.func9 en9.1 en9.2 (map2 (hF.at 0 rfl) ev_c)) (Own5_any nega1 aa1 na1 ca1 xa1 negb1 ab1 nb1 cb1 xb1 2 _ ia1 ib1 (by omega)) rfl rfl rfl rfl ?_
  rintro e w3 ⟨vv4, rfl, hh5, bb⟩
  refine ⟨_, rfl, ?_⟩
  intro a hF
  replace bel := below_to bel bb
  clear bb
  obtain ⟨b6, ad6, n6, c6, ae6, m6, d6, rfl, hn6, hd6⟩ := Rq.shape hh5
  have hf7 := Wc.abs hn6
  obtain ⟨g3, w8, ge3, hr, bb, o3⟩ := own_alloc (P := Tryd.prog) (w := w3) (cs := [.bool false, .slice none 0 0, .slice none 0 0]) 32 ze_Rat rfl (niB (niS (niS ni0)))
  replace ge3 : w.heap.size ≤ g3 := by rw [← ge3]; exact bel.size
  refine E.opv hF (r_alloc hr) rfl rfl rfl rfl fun a hF => ?_
  clear hr
  replace hh5 := hh5.below bb
  replace hn6 := hn6.below bb
  replace hf7 := hf7.below bb
  replace hd6 := hd6.below bb
  replace bel := below_to bel bb
  clear bb
  obtain ⟨w9, hr, tu, on⟩ := st_Rat (vs := [.bool b6, .slice ad6 n6 c6, .slice ae6 m6 d6]) o3 rfl rfl (ocB (ocS (ocS oc0))) (niB (niS (niS ni0))) (o := 0) rfl
  have kp := tu.keep o3
  refine E.st hF (r_store (hF.at 0 rfl) (hF.at 1 rfl) (hr _ rfl)) rfl rfl fun a hF => ?_
  clear hr
  replace hh5 := hh5.keep kp
  replace hn6 := hn6.keep kp
  replace hf7 := hf7.keep kp
  replace hd6 := hd6.keep kp
  replace bel := tu.below bel ge3
  clear tu kp
  replace o3 := on
  clear on
  refine E.nil ?_
  refine wp_seq ?_
  refine E.drawn 8 mixed hF [10, 11, 12, 13, 14, 15, 4, 5] [(fun w v => Orb w v pyr pay ssz sch), (fun _ v => v = .agg #[.bool b6, .slice ad6 n6 c6, .slice ae6 m6 d6]), (fun w v => Rq w v (sunE (((rawZ nega1 xa1 2 : Int) : Rat) / ((rawZ negb1 xb1 2 : Int) : Rat)))), (fun w v => Orb w v pmo pam msz mch), (fun _ v => v = .agg #[.bool b6, .slice ad6 n6 c6, .slice ae6 m6 d6]), (fun w v => Rq w v (moonE (((rawZ nega1 xa1 2 : Int) : Rat) / ((rawZ negb1 xb1 2 : Int) : Rat)))), (fun w v => ∃ g, v = .pointer (some ⟨g, 0, none⟩) ∧ w9.heap.size ≤ g ∧ Own w g [.bool false, .slice none 0 0, .slice none 0 0]), (fun w v => ∃ g, v = .pointer (some ⟨g, 0, none⟩) ∧ w9.heap.size ≤ g ∧ Own w g [.bool false, .slice none 0 0, .slice none 0 0])] [6, 7] (by decide +kernel) (by decide +kernel) rfl rfl rfl ⟨(fun _ _ _ h hb => h.below hb), (Mb.eq _), (fun _ _ _ h hb => h.below hb), (fun _ _ _ h hb => h.below hb), (Mb.eq _), (fun _ _ _ h hb => h.below hb), (fun _ _ _ ⟨g, e, l, o⟩ hb => ⟨g, e, l, o.below hb⟩), (fun _ _ _ ⟨g, e, l, o⟩ hb => ⟨g, e, l, o.below hb⟩), trivial⟩ ⟨fun _ _ ⟨g, e, _, o⟩ => ⟨g, e, o.lt⟩, ⟨fun _ _ ⟨g, e, _, o⟩ => ⟨g, e, o.lt⟩, trivial⟩⟩ ⟨?_, ?_, ?_, ?_, ?_, ?_, ?_, ?_, trivial⟩ ?_
  · intro a' w' hF' hb hd
    refine if_does (wanted_free rfl) (Does.calls (r_call Tryd.func10 en10.1 en10.2 map0) (oSunOrbit_any _) ?_)
    rintro e w'' ⟨v', rfl, h', bb⟩
    exact ⟨_, rfl, h', bb, (fun h => absurd h (by decide))⟩
  · intro a' w' hF' hb hd
    exact if_does (wanted_free rfl) (Does.vals (r_load (hF'.at 0 rfl) (ld_Rat (vs := [.bool b6, .slice ad6 n6 c6, .slice ae6 m6 d6]) (o3.below hb) rfl rfl)) ⟨rfl, Below.refl _ _, (fun h => absurd h (by decide))⟩)
  · intro a' w' hF' hb hd
    obtain ⟨v10_0, e10, h10_1⟩ : ∃ v, a'.tmps.getD 10 undef = v ∧ Orb w' v pyr pay ssz sch := ⟨_, rfl, hd _ 10 (Array.mem_of_getElem? (i := 0) rfl) rfl rfl⟩
    have e11 : a'.tmps.getD 11 undef = .agg #[.bool b6, .slice ad6 n6 c6, .slice ae6 m6 d6] := hd _ 11 (Array.mem_of_getElem? (i := 1) rfl) rfl rfl
    refine if_does (wanted_free rfl) (Does.calls (r_call Tryd.func11 en11.1 en11.2 (map2 e10 e11)) (oEq_any _ _ pyr pay ssz sch (((rawZ nega1 xa1 2 : Int) : Rat) / ((rawZ negb1 xb1 2 : Int) : Rat)) 2 _ (hT.below (below_to bel hb)) h10_1 (hh5.below hb) pyr_lim pay_lim ssz_lim sch_lim (own5_lim nega1 negb1 oka1 okb1 2 (by decide)) (by omega)) ?_)
    rintro e w'' ⟨v', rfl, h', bb⟩
    exact ⟨_, rfl, h', bb, (fun h => absurd h (by decide))⟩
  · intro a' w' hF' hb hd
    refine if_does (wanted_free rfl) (Does.calls (r_call Tryd.func12 en12.1 en12.2 map0) (oMoonOrbit_any _) ?_)
    rintro e w'' ⟨v', rfl, h', bb⟩
    exact ⟨_, rfl, h', bb, (fun h => absurd h (by decide))⟩
  · intro a' w' hF' hb hd
    exact if_does (wanted_free rfl) (Does.vals (r_load (hF'.at 0 rfl) (ld_Rat (vs := [.bool b6, .slice ad6 n6 c6, .slice ae6 m6 d6]) (o3.below hb) rfl rfl)) ⟨rfl, Below.refl _ _, (fun h => absurd h (by decide))⟩)
  · intro a' w' hF' hb hd
    obtain ⟨v13_0, e13, h13_1⟩ : ∃ v, a'.tmps.getD 13 undef = v ∧ Orb w' v pmo pam msz mch := ⟨_, rfl, hd _ 13 (Array.mem_of_getElem? (i := 0) rfl) rfl rfl⟩
    have e14 : a'.tmps.getD 14 undef = .agg #[.bool b6, .slice ad6 n6 c6, .slice ae6 m6 d6] := hd _ 14 (Array.mem_of_getElem? (i := 1) rfl) rfl rfl
    refine if_does (wanted_free rfl) (Does.calls (r_call Tryd.func11 en11.1 en11.2 (map2 e13 e14)) (oEq_any _ _ pmo pam msz mch (((rawZ nega1 xa1 2 : Int) : Rat) / ((rawZ negb1 xb1 2 : Int) : Rat)) 2 _ (hT.below (below_to bel hb)) h13_1 (hh5.below hb) pmo_lim pam_lim msz_lim mch_lim (own5_lim nega1 negb1 oka1 okb1 2 (by decide)) (by omega)) ?_)
    rintro e w'' ⟨v', rfl, h', bb⟩
    exact ⟨_, rfl, h', bb, (fun h => absurd h (by decide))⟩
  · intro a' w' hF' hb hd
    obtain ⟨g, w2, ge, hr, bb, on⟩ := own_alloc (P := Tryd.prog) (w := w') (cs := [.bool false, .slice none 0 0, .slice none 0 0]) 32 ze_Rat rfl (niB (niS (niS ni0)))
    subst ge
    exact if_does (wanted_free rfl) (Does.vals (r_alloc hr) ⟨⟨_, rfl, hb.size, on⟩, bb, fun _ => rfl⟩)
  · intro a' w' hF' hb hd
    obtain ⟨g, w2, ge, hr, bb, on⟩ := own_alloc (P := Tryd.prog) (w := w') (cs := [.bool false, .slice none 0 0, .slice none 0 0]) 32 ze_Rat rfl (niB (niS (niS ni0)))
    subst ge
    exact if_does (wanted_free rfl) (Does.vals (r_alloc hr) ⟨⟨_, rfl, hb.size, on⟩, bb, fun _ => rfl⟩)
  intro a w10 hF bb hall hne
  obtain ⟨vv11, e12, hh12⟩ : ∃ v, a.tmps.getD 12 undef = v ∧ Rq w10 v (sunE (((rawZ nega1 xa1 2 : Int) : Rat) / ((rawZ negb1 xb1 2 : Int) : Rat))) := ⟨_, rfl, hall 2 12 rfl⟩
  obtain ⟨vv13, e15, hh14⟩ : ∃ v, a.tmps.getD 15 undef = v ∧ Rq w10 v (moonE (((rawZ nega1 xa1 2 : Int) : Rat) / ((rawZ negb1 xb1 2 : Int) : Rat))) := ⟨_, rfl, hall 5 15 rfl⟩
  obtain ⟨g4, e4, ge4, o4⟩ : ∃ g, a.tmps.getD 4 undef = .pointer (some ⟨g, 0, none⟩) ∧ w9.heap.size ≤ g ∧ Own w10 g [.bool false, .slice none 0 0, .slice none 0 0] := hall 6 4 rfl
  have ne3_4 : g3 ≠ g4 := Nat.ne_of_lt (Nat.lt_of_lt_of_le o3.lt ge4)
  obtain ⟨g5, e5, ge5, o5⟩ : ∃ g, a.tmps.getD 5 undef = .pointer (some ⟨g, 0, none⟩) ∧ w9.heap.size ≤ g ∧ Own w10 g [.bool false, .slice none 0 0, .slice none 0 0] := hall 7 5 rfl
  have ne3_5 : g3 ≠ g5 := Nat.ne_of_lt (Nat.lt_of_lt_of_le o3.lt ge5)
  have ne4_5 : g4 ≠ g5 := by intro e; exact hne 6 7 4 5 rfl rfl (by decide) rfl rfl (by rw [e4, e5, e])
  replace ge4 : w.heap.size ≤ g4 := Nat.le_trans bel.size ge4
  replace ge5 : w.heap.size ≤ g5 := Nat.le_trans bel.size ge5
  clear hall hne
  replace hf7 := hf7.below bb
  replace hd6 := hd6.below bb
  replace hh5 := hh5.below bb
  replace hn6 := hn6.below bb
  replace o3 := o3.below bb
  replace bel := below_to bel bb
  clear bb
  obtain ⟨b15, ad15, n15, c15, ae15, m15, d15, rfl, hn15, hd15⟩ := Rq.shape hh12
  have hf16 := Wc.abs hn15
  replace hF := hF.add e12
  clear e12
  obtain ⟨b17, ad17, n17, c17, ae17, m17, d17, rfl, hn17, hd17⟩ := Rq.shape hh14
  have hf18 := Wc.abs hn17
  replace hF := hF.add e15
  clear e15
  replace hF := hF.add e4
  clear e4
  replace hF := hF.add e5
  clear e5
  obtain ⟨w19, hr, tu, on⟩ := st_Rat (vs := [.bool b15, .slice ad15 n15 c15, .slice ae15 m15 d15]) o4 rfl rfl (ocB (ocS (ocS oc0))) (niB (niS (niS ni0))) (o := 0) rfl
  have kp := tu.keep o4
  refine E.st hF (r_store (hF.at 1 rfl) (hF.at 3 rfl) (hr _ rfl)) rfl rfl fun a hF => ?_
  clear hr
  replace hh14 := hh14.keep kp
  replace hn17 := hn17.keep kp
  replace hf18 := hf18.keep kp
  replace hd17 := hd17.keep kp
  replace hf7 := hf7.keep kp
  replace hd6 := hd6.keep kp
  replace hh5 := hh5.keep kp
  replace hn6 := hn6.keep kp
  replace hh12 := hh12.keep kp
  replace hn15 := hn15.keep kp
  replace hf16 := hf16.keep kp
  replace hd15 := hd15.keep kp
  replace o3 := tu.own o3 ne3_4
  replace o5 := tu.own o5 (Ne.symm ne4_5)
  replace bel := tu.below bel ge4
  clear tu kp
  replace o4 := on
  clear on
  obtain ⟨w20, hr, tu, on⟩ := st_Rat (vs := [.bool b17, .slice ad17 n17 c17, .slice ae17 m17 d17]) o5 rfl rfl (ocB (ocS (ocS oc0))) (niB (niS (niS ni0))) (o := 0) rfl
  have kp := tu.keep o5
  refine E.st hF (r_store (hF.at 0 rfl) (hF.at 2 rfl) (hr _ rfl)) rfl rfl fun a hF => ?_
  clear hr
  replace hf7 := hf7.keep kp
  replace hd6 := hd6.keep kp
  replace hh5 := hh5.keep kp
  replace hn6 := hn6.keep kp
  replace hf16 := hf16.keep kp
  replace hd15 := hd15.keep kp
  replace hh12 := hh12.keep kp
  replace hn15 := hn15.keep kp
  replace hh14 := hh14.keep kp
  replace hn17 := hn17.keep kp
  replace hf18 := hf18.keep kp
  replace hd17 := hd17.keep kp
  replace o3 := tu.own o3 ne3_5
  replace o4 := tu.own o4 ne4_5
  replace bel := tu.below bel ge5
  clear tu kp
  replace o5 := on
  clear on
  refine E.nil ?_
  refine wp_seq ?_
  refine wp_seq ?_
  refine E.seq ?_
  refine E.opv hF (r_load (hF.at 1 rfl) (ld_Rat (vs := [.bool b15, .slice ad15 n15 c15, .slice ae15 m15 d15]) o4 rfl rfl)) rfl rfl rfl rfl fun a hF => ?_
  refine E.call hF (r_call Tryd.func13 en13.1 en13.2 (map1 (hF.at 0 rfl))) (rAbs_any _ (sunE (((rawZ nega1 xa1 2 : Int) : Rat) / ((rawZ negb1 xb1 2 : Int) : Rat))) _ hh12) rfl rfl rfl rfl ?_
  rintro e w21 ⟨vv22, rfl, hh23, bb⟩
  refine ⟨_, rfl, ?_⟩
  intro a hF
  replace hf7 := hf7.below bb
  replace hd6 := hd6.below bb
  replace hh5 := hh5.below bb
  replace hn6 := hn6.below bb
  replace hf16 := hf16.below bb
  replace hd15 := hd15.below bb
  replace hh12 := hh12.below bb
  replace hn15 := hn15.below bb
  replace hf18 := hf18.below bb
  replace hd17 := hd17.below bb
  replace hh14 := hh14.below bb
  replace hn17 := hn17.below bb
  replace o3 := o3.below bb
  replace o4 := o4.below bb
  replace o5 := o5.below bb
  replace bel := below_to bel bb
  clear bb
  obtain ⟨b24, ad24, n24, c24, ae24, m24, d24, rfl, hn24, hd24⟩ := Rq.shape hh23
  have hf25 := Wc.abs hn24
  refine E.call hF (r_call Tryd.func15 en15.1 en15.2 (map2 ev_c ev_c)) (rOf2_any (22) (10) _ (by decide) (by decide) (by decide) (by decide)) rfl rfl rfl rfl ?_
  rintro e w26 ⟨vv27, rfl, hh28, bb⟩
  refine ⟨_, rfl, ?_⟩
  intro a hF
  replace hh23 := hh23.below bb
  replace hn24 := hn24.below bb
  replace hf25 := hf25.below bb
  replace hd24 := hd24.below bb
  replace hf7 := hf7.below bb
  replace hd6 := hd6.below bb
  replace hh5 := hh5.below bb
  replace hn6 := hn6.below bb
  replace hf16 := hf16.below bb
  replace hd15 := hd15.below bb
  replace hh12 := hh12.below bb
  replace hn15 := hn15.below bb
  replace hf18 := hf18.below bb
  replace hd17 := hd17.below bb
  replace hh14 := hh14.below bb
  replace hn17 := hn17.below bb
  replace o3 := o3.below bb
  replace o4 := o4.below bb
  replace o5 := o5.below bb
  replace bel := below_to bel bb
  clear bb
  obtain ⟨b29, ad29, n29, c29, ae29, m29, d29, rfl, hn29, hd29⟩ := Rq.shape hh28
  have hf30 := Wc.abs hn29
  refine E.call hF (r_call Tryd.func14 en14.1 en14.2 (map2 (hF.at 1 rfl) (hF.at 0 rfl))) (rCmp_any _ _ (Rat.abs (sunE (((rawZ nega1 xa1 2 : Int) : Rat) / ((rawZ negb1 xb1 2 : Int) : Rat)))) (((22 : Int) : Rat) / ((10 : Int) : Rat)) (max (2 * 2 + 80) 2) _ hh23 hh28 ((rlim_abs (sunE_lim (own5_lim nega1 negb1 oka1 okb1 2 (by decide)))).up _ (by omega)) ((RLim.up (rlim_mk2 (limz_64 (by decide) (by decide)) (limz_64 (by decide) (by decide))) 2 (by decide)).up _ (by omega)) (by omega)) rfl rfl rfl rfl ?_
  rintro e w31 ⟨rfl, bb⟩
  refine ⟨_, rfl, ?_⟩
  intro a hF
  replace hf7 := hf7.below bb
  replace hd6 := hd6.below bb
  replace hh5 := hh5.below bb
  replace hn6 := hn6.below bb
  replace hf16 := hf16.below bb
  replace hd15 := hd15.below bb
  replace hh12 := hh12.below bb
  replace hn15 := hn15.below bb
  replace hf18 := hf18.below bb
  replace hd17 := hd17.below bb
  replace hh14 := hh14.below bb
  replace hn17 := hn17.below bb
  replace o3 := o3.below bb
  replace o4 := o4.below bb
  replace o5 := o5.below bb
  replace bel := below_to bel bb
  clear bb
  refine E.opv hF (r_bin (hF.at 0 rfl) ev_c eg_scalar (bi_int (ic_gtr (c := false) (dec_ff (qc_no (sun_near _)))) (by simp))) rfl rfl rfl rfl fun a hF => ?_
  refine E.opv hF (r_move (hF.at 0 rfl)) rfl rfl rfl rfl fun a hF => ?_
  refine E.opvg hF (r_load (hF.at 6 rfl) (ld_Rat (vs := [.bool b17, .slice ad17 n17 c17, .slice ae17 m17 d17]) o5 rfl rfl)) (wanted_by rfl rfl (hF.at 0 rfl) rfl) rfl rfl rfl fun a hF => ?_
  refine E.callg hF (r_call Tryd.func13 en13.1 en13.2 (map1 (hF.at 0 rfl))) (rAbs_any _ (moonE (((rawZ nega1 xa1 2 : Int) : Rat) / ((rawZ negb1 xb1 2 : Int) : Rat))) _ hh14) (wanted_by rfl rfl (hF.at 1 rfl) rfl) rfl rfl rfl ?_
  rintro e w32 ⟨vv33, rfl, hh34, bb⟩
  refine ⟨_, rfl, ?_⟩
  intro a hF
  replace hf7 := hf7.below bb
  replace hd6 := hd6.below bb
  replace hh5 := hh5.below bb
  replace hn6 := hn6.below bb
  replace hf16 := hf16.below bb
  replace hd15 := hd15.below bb
  replace hh12 := hh12.below bb
  replace hn15 := hn15.below bb
  replace hf18 := hf18.below bb
  replace hd17 := hd17.below bb
  replace hh14 := hh14.below bb
  replace hn17 := hn17.below bb
  replace o3 := o3.below bb
  replace o4 := o4.below bb
  replace o5 := o5.below bb
  replace bel := below_to bel bb
  clear bb
  obtain ⟨b35, ad35, n35, c35, ae35, m35, d35, rfl, hn35, hd35⟩ := Rq.shape hh34
  have hf36 := Wc.abs hn35
  refine E.callg hF (r_call Tryd.func15 en15.1 en15.2 (map2 ev_c ev_c)) (rOf2_any (51) (10) _ (by decide) (by decide) (by decide) (by decide)) (wanted_by rfl rfl (hF.at 2 rfl) rfl) rfl rfl rfl ?_
  rintro e w37 ⟨vv38, rfl, hh39, bb⟩
  refine ⟨_, rfl, ?_⟩
  intro a hF
  replace hh34 := hh34.below bb
  replace hn35 := hn35.below bb
  replace hf36 := hf36.below bb
  replace hd35 := hd35.below bb
  replace hf7 := hf7.below bb
  replace hd6 := hd6.below bb
  replace hh5 := hh5.below bb
  replace hn6 := hn6.below bb
  replace hf16 := hf16.below bb
  replace hd15 := hd15.below bb
  replace hh12 := hh12.below bb
  replace hn15 := hn15.below bb
  replace hf18 := hf18.below bb
  replace hd17 := hd17.below bb
  replace hh14 := hh14.below bb
  replace hn17 := hn17.below bb
  replace o3 := o3.below bb
  replace o4 := o4.below bb
  replace o5 := o5.below bb
  replace bel := below_to bel bb
  clear bb
  obtain ⟨b40, ad40, n40, c40, ae40, m40, d40, rfl, hn40, hd40⟩ := Rq.shape hh39
  have hf41 := Wc.abs hn40
  refine E.callg hF (r_call Tryd.func14 en14.1 en14.2 (map2 (hF.at 1 rfl) (hF.at 0 rfl))) (rCmp_any _ _ (Rat.abs (moonE (((rawZ nega1 xa1 2 : Int) : Rat) / ((rawZ negb1 xb1 2 : Int) : Rat)))) (((51 : Int) : Rat) / ((10 : Int) : Rat)) (max (2 * 2 + 80) 2) _ hh34 hh39 ((rlim_abs (moonE_lim (own5_lim nega1 negb1 oka1 okb1 2 (by decide)))).up _ (by omega)) ((RLim.up (rlim_mk2 (limz_64 (by decide) (by decide)) (limz_64 (by decide) (by decide))) 2 (by decide)).up _ (by omega)) (by omega)) (wanted_by rfl rfl (hF.at 3 rfl) rfl) rfl rfl rfl ?_
  rintro e w42 ⟨rfl, bb⟩
  refine ⟨_, rfl, ?_⟩
  intro a hF
  replace hf7 := hf7.below bb
  replace hd6 := hd6.below bb
  replace hh5 := hh5.below bb
  replace hn6 := hn6.below bb
  replace hf16 := hf16.below bb
  replace hd15 := hd15.below bb
  replace hh12 := hh12.below bb
  replace hn15 := hn15.below bb
  replace hf18 := hf18.below bb
  replace hd17 := hd17.below bb
  replace hh14 := hh14.below bb
  replace hn17 := hn17.below bb
  replace o3 := o3.below bb
  replace o4 := o4.below bb
  replace o5 := o5.below bb
  replace bel := below_to bel bb
  clear bb
  refine E.opvg hF (r_bin (hF.at 0 rfl) ev_c eg_scalar (bi_int (ic_gtr (c := false) (dec_ff (qc_no (moon_near _)))) (by simp))) (wanted_by rfl rfl (hF.at 4 rfl) rfl) rfl rfl rfl fun a hF => ?_
  refine E.opv hF (r_pick_f (hF.at 5 rfl) (hF.at 0 rfl)) rfl rfl rfl rfl fun a hF => ?_
  refine E.nil ?_
  refine wp_cond_false (hF.at 0 rfl) ?_
  refine wp_skip ?_
  refine E.norm ?_
  refine wp_seq ?_
  refine E.drawn 20 mixed hF [28, 29, 30, 31, 32, 33, 34, 35, 36, 37, 38, 39, 40, 41, 42, 43, 44, 45, 46, 47] [(fun _ v => v = .agg #[.bool b6, .slice ad6 n6 c6, .slice ae6 m6 d6]), (fun w v => Rq w v (sunV (((rawZ nega1 xa1 2 : Int) : Rat) / ((rawZ negb1 xb1 2 : Int) : Rat)))), (fun _ v => v = .agg #[.bool b15, .slice ad15 n15 c15, .slice ae15 m15 d15]), (fun w v => Rq w v ((sunV (((rawZ nega1 xa1 2 : Int) : Rat) / ((rawZ negb1 xb1 2 : Int) : Rat))) + (sunE (((rawZ nega1 xa1 2 : Int) : Rat) / ((rawZ negb1 xb1 2 : Int) : Rat))))), (fun w v => Rq w v (((360 : Int) : Rat))), (fun w v => Rq w v (rmod ((sunV (((rawZ nega1 xa1 2 : Int) : Rat) / ((rawZ negb1 xb1 2 : Int) : Rat))) + (sunE (((rawZ nega1 xa1 2 : Int) : Rat) / ((rawZ negb1 xb1 2 : Int) : Rat)))) (((360 : Int) : Rat)))), (fun _ v => v = .agg #[.bool b6, .slice ad6 n6 c6, .slice ae6 m6 d6]), (fun w v => Rq w v (mof (((rawZ nega1 xa1 2 : Int) : Rat) / ((rawZ negb1 xb1 2 : Int) : Rat)) pyr)), (fun _ v => v = .bool true), (fun _ v => v = .bool true), (fun _ v => v = .agg #[.bool b6, .slice ad6 n6 c6, .slice ae6 m6 d6]), (fun w v => Rq w v (moonV (((rawZ nega1 xa1 2 : Int) : Rat) / ((rawZ negb1 xb1 2 : Int) : Rat)))), (fun _ v => v = .agg #[.bool b17, .slice ad17 n17 c17, .slice ae17 m17 d17]), (fun w v => Rq w v ((moonV (((rawZ nega1 xa1 2 : Int) : Rat) / ((rawZ negb1 xb1 2 : Int) : Rat))) + (moonE (((rawZ nega1 xa1 2 : Int) : Rat) / ((rawZ negb1 xb1 2 : Int) : Rat))))), (fun w v => Rq w v (((360 : Int) : Rat))), (fun w v => Rq w v (rmod ((moonV (((rawZ nega1 xa1 2 : Int) : Rat) / ((rawZ negb1 xb1 2 : Int) : Rat))) + (moonE (((rawZ nega1 xa1 2 : Int) : Rat) / ((rawZ negb1 xb1 2 : Int) : Rat)))) (((360 : Int) : Rat)))), (fun _ v => v = .agg #[.bool b6, .slice ad6 n6 c6, .slice ae6 m6 d6]), (fun w v => Rq w v (mof (((rawZ nega1 xa1 2 : Int) : Rat) / ((rawZ negb1 xb1 2 : Int) : Rat)) pmo)), (fun _ v => v = .bool true), (fun _ v => v = .bool true)] [] (by decide +kernel) (by decide +kernel) rfl rfl rfl ⟨(Mb.eq _), (fun _ _ _ h hb => h.below hb), (Mb.eq _), (fun _ _ _ h hb => h.below hb), (fun _ _ _ h hb => h.below hb), (fun _ _ _ h hb => h.below hb), (Mb.eq _), (fun _ _ _ h hb => h.below hb), (Mb.eq _), (Mb.eq _), (Mb.eq _), (fun _ _ _ h hb => h.below hb), (Mb.eq _), (fun _ _ _ h hb => h.below hb), (fun _ _ _ h hb => h.below hb), (fun _ _ _ h hb => h.below hb), (Mb.eq _), (fun _ _ _ h hb => h.below hb), (Mb.eq _), (Mb.eq _), trivial⟩ trivial ⟨?_, ?_, ?_, ?_, ?_, ?_, ?_, ?_, ?_, ?_, ?_, ?_, ?_, ?_, ?_, ?_, ?_, ?_, ?_, ?_, trivial⟩ ?_
  · intro a' w' hF' hb hd
    exact if_does (wanted_free rfl) (Does.vals (r_load (hF'.at 16 rfl) (ld_Rat (vs := [.bool b6, .slice ad6 n6 c6, .slice ae6 m6 d6]) (o3.below hb) rfl rfl)) ⟨rfl, Below.refl _ _, (fun h => absurd h (by decide))⟩)
  · intro a' w' hF' hb hd
    have e28 : a'.tmps.getD 28 undef = .agg #[.bool b6, .slice ad6 n6 c6, .slice ae6 m6 d6] := hd _ 28 (Array.mem_of_getElem? (i := 0) rfl) rfl rfl
    refine if_does (wanted_free rfl) (Does.calls (r_call Tryd.func17 en17.1 en17.2 (map1 e28)) (oSun_any _ (((rawZ nega1 xa1 2 : Int) : Rat) / ((rawZ negb1 xb1 2 : Int) : Rat)) 2 _ (hT.below (below_to bel hb)) (hh5.below hb) (own5_lim nega1 negb1 oka1 okb1 2 (by decide)) (by omega)) ?_)
    rintro e w'' ⟨v', rfl, h', bb⟩
    exact ⟨_, rfl, h', bb, (fun h => absurd h (by decide))⟩
  · intro a' w' hF' hb hd
    exact if_does (wanted_free rfl) (Does.vals (r_load (hF'.at 13 rfl) (ld_Rat (vs := [.bool b15, .slice ad15 n15 c15, .slice ae15 m15 d15]) (o4.below hb) rfl rfl)) ⟨rfl, Below.refl _ _, (fun h => absurd h (by decide))⟩)
  · intro a' w' hF' hb hd
    obtain ⟨v29_0, e29, h29_1⟩ : ∃ v, a'.tmps.getD 29 undef = v ∧ Rq w' v (sunV (((rawZ nega1 xa1 2 : Int) : Rat) / ((rawZ negb1 xb1 2 : Int) : Rat))) := ⟨_, rfl, hd _ 29 (Array.mem_of_getElem? (i := 0) rfl) rfl rfl⟩
    have e30 : a'.tmps.getD 30 undef = .agg #[.bool b15, .slice ad15 n15 c15, .slice ae15 m15 d15] := hd _ 30 (Array.mem_of_getElem? (i := 1) rfl) rfl rfl
    refine if_does (wanted_free rfl) (Does.calls (r_call Tryd.func18 en18.1 en18.2 (map2 e29 e30)) (rAdd_any _ _ (sunV (((rawZ nega1 xa1 2 : Int) : Rat) / ((rawZ negb1 xb1 2 : Int) : Rat))) (sunE (((rawZ nega1 xa1 2 : Int) : Rat) / ((rawZ negb1 xb1 2 : Int) : Rat))) (max (3 * 2 + 100) (2 * 2 + 80)) _ h29_1 (hh12.below hb) ((sunV_lim (own5_lim nega1 negb1 oka1 okb1 2 (by decide))).up _ (by omega)) ((sunE_lim (own5_lim nega1 negb1 oka1 okb1 2 (by decide))).up _ (by omega)) (by omega)) ?_)
    rintro e w'' ⟨v', rfl, h', bb⟩
    exact ⟨_, rfl, h', bb, (fun h => absurd h (by decide))⟩
  · intro a' w' hF' hb hd
    refine if_does (wanted_free rfl) (Does.calls (r_call Tryd.func19 en19.1 en19.2 (map1 ev_c)) (rWhole_any (360) _ (by decide) (by decide)) ?_)
    rintro e w'' ⟨v', rfl, h', bb⟩
    exact ⟨_, rfl, h', bb, (fun h => absurd h (by decide))⟩
  · intro a' w' hF' hb hd
    obtain ⟨v31_0, e31, h31_1⟩ : ∃ v, a'.tmps.getD 31 undef = v ∧ Rq w' v ((sunV (((rawZ nega1 xa1 2 : Int) : Rat) / ((rawZ negb1 xb1 2 : Int) : Rat))) + (sunE (((rawZ nega1 xa1 2 : Int) : Rat) / ((rawZ negb1 xb1 2 : Int) : Rat)))) := ⟨_, rfl, hd _ 31 (Array.mem_of_getElem? (i := 0) rfl) rfl rfl⟩
    obtain ⟨v32_0, e32, h32_1⟩ : ∃ v, a'.tmps.getD 32 undef = v ∧ Rq w' v (((360 : Int) : Rat)) := ⟨_, rfl, hd _ 32 (Array.mem_of_getElem? (i := 1) rfl) rfl rfl⟩
    refine if_does (wanted_free rfl) (Does.calls (r_call Tryd.func16 en16.1 en16.2 (map2 e31 e32)) (cMod_any _ _ ((sunV (((rawZ nega1 xa1 2 : Int) : Rat) / ((rawZ negb1 xb1 2 : Int) : Rat))) + (sunE (((rawZ nega1 xa1 2 : Int) : Rat) / ((rawZ negb1 xb1 2 : Int) : Rat)))) (((360 : Int) : Rat)) ((3 * 2 + 100) + (2 * 2 + 80) + 1) 2 _ h31_1 h32_1 (rlim_add (sunV_lim (own5_lim nega1 negb1 oka1 okb1 2 (by decide))) (sunE_lim (own5_lim nega1 negb1 oka1 okb1 2 (by decide)))) (rlim_int (limz_64 (by decide) (by decide)) (by omega)) (by omega) (by omega)) ?_)
    rintro e w'' ⟨v', rfl, h', bb⟩
    exact ⟨_, rfl, h', bb, (fun h => absurd h (by decide))⟩
  · intro a' w' hF' hb hd
    exact if_does (wanted_free rfl) (Does.vals (r_load (hF'.at 16 rfl) (ld_Rat (vs := [.bool b6, .slice ad6 n6 c6, .slice ae6 m6 d6]) (o3.below hb) rfl rfl)) ⟨rfl, Below.refl _ _, (fun h => absurd h (by decide))⟩)
  · intro a' w' hF' hb hd
    have e34 : a'.tmps.getD 34 undef = .agg #[.bool b6, .slice ad6 n6 c6, .slice ae6 m6 d6] := hd _ 34 (Array.mem_of_getElem? (i := 0) rfl) rfl rfl
    refine if_does (wanted_free rfl) (Does.calls (r_call Tryd.func21 en21.1 en21.2 (map1 e34)) (mSun_any _ (((rawZ nega1 xa1 2 : Int) : Rat) / ((rawZ negb1 xb1 2 : Int) : Rat)) 2 _ (hh5.below hb) (own5_lim nega1 negb1 oka1 okb1 2 (by decide)) (by omega)) ?_)
    rintro e w'' ⟨v', rfl, h', bb⟩
    exact ⟨_, rfl, h', bb, (fun h => absurd h (by decide))⟩
  · intro a' w' hF' hb hd
    obtain ⟨v33_0, e33, h33_1⟩ : ∃ v, a'.tmps.getD 33 undef = v ∧ Rq w' v (rmod ((sunV (((rawZ nega1 xa1 2 : Int) : Rat) / ((rawZ negb1 xb1 2 : Int) : Rat))) + (sunE (((rawZ nega1 xa1 2 : Int) : Rat) / ((rawZ negb1 xb1 2 : Int) : Rat)))) (((360 : Int) : Rat))) := ⟨_, rfl, hd _ 33 (Array.mem_of_getElem? (i := 0) rfl) rfl rfl⟩
    obtain ⟨v35_0, e35, h35_1⟩ : ∃ v, a'.tmps.getD 35 undef = v ∧ Rq w' v (mof (((rawZ nega1 xa1 2 : Int) : Rat) / ((rawZ negb1 xb1 2 : Int) : Rat)) pyr) := ⟨_, rfl, hd _ 35 (Array.mem_of_getElem? (i := 1) rfl) rfl rfl⟩
    refine if_does (wanted_free rfl) (Does.calls (r_call Tryd.func20 en20.1 en20.2 (map2 e33 e35)) (rSame_true _ _ (rmod ((sunV (((rawZ nega1 xa1 2 : Int) : Rat) / ((rawZ negb1 xb1 2 : Int) : Rat))) + (sunE (((rawZ nega1 xa1 2 : Int) : Rat) / ((rawZ negb1 xb1 2 : Int) : Rat)))) (((360 : Int) : Rat))) (mof (((rawZ nega1 xa1 2 : Int) : Rat) / ((rawZ negb1 xb1 2 : Int) : Rat)) pyr) _ h33_1 h35_1 (at_back _ _ _ _ _)) ?_)
    rintro e w'' ⟨rfl, bb⟩
    exact ⟨_, rfl, rfl, bb, (fun h => absurd h (by decide))⟩
  · intro a' w' hF' hb hd
    have e36 : a'.tmps.getD 36 undef = .bool true := hd _ 36 (Array.mem_of_getElem? (i := 0) rfl) rfl rfl
    exact if_does (wanted_free rfl) (Does.vals (r_move e36) ⟨rfl, Below.refl _ _, (fun h => absurd h (by decide))⟩)
  · intro a' w' hF' hb hd
    have e37 : a'.tmps.getD 37 undef = .bool true := hd _ 37 (Array.mem_of_getElem? (i := 0) rfl) rfl rfl
    exact if_does (wanted_by rfl rfl e37 rfl) (Does.vals (r_load (hF'.at 16 rfl) (ld_Rat (vs := [.bool b6, .slice ad6 n6 c6, .slice ae6 m6 d6]) (o3.below hb) rfl rfl)) ⟨rfl, Below.refl _ _, (fun h => absurd h (by decide))⟩)
  · intro a' w' hF' hb hd
    have e37 : a'.tmps.getD 37 undef = .bool true := hd _ 37 (Array.mem_of_getElem? (i := 1) rfl) rfl rfl
    have e38 : a'.tmps.getD 38 undef = .agg #[.bool b6, .slice ad6 n6 c6, .slice ae6 m6 d6] := hd _ 38 (Array.mem_of_getElem? (i := 0) rfl) rfl rfl
    refine if_does (wanted_by rfl rfl e37 rfl) (Does.calls (r_call Tryd.func22 en22.1 en22.2 (map1 e38)) (oMoon_any _ (((rawZ nega1 xa1 2 : Int) : Rat) / ((rawZ negb1 xb1 2 : Int) : Rat)) 2 _ (hT.below (below_to bel hb)) (hh5.below hb) (own5_lim nega1 negb1 oka1 okb1 2 (by decide)) (by omega)) ?_)
    rintro e w'' ⟨v', rfl, h', bb⟩
    exact ⟨_, rfl, h', bb, (fun h => absurd h (by decide))⟩
  · intro a' w' hF' hb hd
    have e37 : a'.tmps.getD 37 undef = .bool true := hd _ 37 (Array.mem_of_getElem? (i := 0) rfl) rfl rfl
    exact if_does (wanted_by rfl rfl e37 rfl) (Does.vals (r_load (hF'.at 12 rfl) (ld_Rat (vs := [.bool b17, .slice ad17 n17 c17, .slice ae17 m17 d17]) (o5.below hb) rfl rfl)) ⟨rfl, Below.refl _ _, (fun h => absurd h (by decide))⟩)
  · intro a' w' hF' hb hd
    have e37 : a'.tmps.getD 37 undef = .bool true := hd _ 37 (Array.mem_of_getElem? (i := 3) rfl) rfl rfl
    obtain ⟨v39_0, e39, h39_1⟩ : ∃ v, a'.tmps.getD 39 undef = v ∧ Rq w' v (moonV (((rawZ nega1 xa1 2 : Int) : Rat) / ((rawZ negb1 xb1 2 : Int) : Rat))) := ⟨_, rfl, hd _ 39 (Array.mem_of_getElem? (i := 0) rfl) rfl rfl⟩
    have e40 : a'.tmps.getD 40 undef = .agg #[.bool b17, .slice ad17 n17 c17, .slice ae17 m17 d17] := hd _ 40 (Array.mem_of_getElem? (i := 1) rfl) rfl rfl
    refine if_does (wanted_by rfl rfl e37 rfl) (Does.calls (r_call Tryd.func18 en18.1 en18.2 (map2 e39 e40)) (rAdd_any _ _ (moonV (((rawZ nega1 xa1 2 : Int) : Rat) / ((rawZ negb1 xb1 2 : Int) : Rat))) (moonE (((rawZ nega1 xa1 2 : Int) : Rat) / ((rawZ negb1 xb1 2 : Int) : Rat))) (max (3 * 2 + 100) (2 * 2 + 80)) _ h39_1 (hh14.below hb) ((moonV_lim (own5_lim nega1 negb1 oka1 okb1 2 (by decide))).up _ (by omega)) ((moonE_lim (own5_lim nega1 negb1 oka1 okb1 2 (by decide))).up _ (by omega)) (by omega)) ?_)
    rintro e w'' ⟨v', rfl, h', bb⟩
    exact ⟨_, rfl, h', bb, (fun h => absurd h (by decide))⟩
  · intro a' w' hF' hb hd
    have e37 : a'.tmps.getD 37 undef = .bool true := hd _ 37 (Array.mem_of_getElem? (i := 1) rfl) rfl rfl
    refine if_does (wanted_by rfl rfl e37 rfl) (Does.calls (r_call Tryd.func19 en19.1 en19.2 (map1 ev_c)) (rWhole_any (360) _ (by decide) (by decide)) ?_)
    rintro e w'' ⟨v', rfl, h', bb⟩
    exact ⟨_, rfl, h', bb, (fun h => absurd h (by decide))⟩
  · intro a' w' hF' hb hd
    have e37 : a'.tmps.getD 37 undef = .bool true := hd _ 37 (Array.mem_of_getElem? (i := 3) rfl) rfl rfl
    obtain ⟨v41_0, e41, h41_1⟩ : ∃ v, a'.tmps.getD 41 undef = v ∧ Rq w' v ((moonV (((rawZ nega1 xa1 2 : Int) : Rat) / ((rawZ negb1 xb1 2 : Int) : Rat))) + (moonE (((rawZ nega1 xa1 2 : Int) : Rat) / ((rawZ negb1 xb1 2 : Int) : Rat)))) := ⟨_, rfl, hd _ 41 (Array.mem_of_getElem? (i := 0) rfl) rfl rfl⟩
    obtain ⟨v42_0, e42, h42_1⟩ : ∃ v, a'.tmps.getD 42 undef = v ∧ Rq w' v (((360 : Int) : Rat)) := ⟨_, rfl, hd _ 42 (Array.mem_of_getElem? (i := 1) rfl) rfl rfl⟩
    refine if_does (wanted_by rfl rfl e37 rfl) (Does.calls (r_call Tryd.func16 en16.1 en16.2 (map2 e41 e42)) (cMod_any _ _ ((moonV (((rawZ nega1 xa1 2 : Int) : Rat) / ((rawZ negb1 xb1 2 : Int) : Rat))) + (moonE (((rawZ nega1 xa1 2 : Int) : Rat) / ((rawZ negb1 xb1 2 : Int) : Rat)))) (((360 : Int) : Rat)) ((3 * 2 + 100) + (2 * 2 + 80) + 1) 2 _ h41_1 h42_1 (rlim_add (moonV_lim (own5_lim nega1 negb1 oka1 okb1 2 (by decide))) (moonE_lim (own5_lim nega1 negb1 oka1 okb1 2 (by decide)))) (rlim_int (limz_64 (by decide) (by decide)) (by omega)) (by omega) (by omega)) ?_)
    rintro e w'' ⟨v', rfl, h', bb⟩
    exact ⟨_, rfl, h', bb, (fun h => absurd h (by decide))⟩
  · intro a' w' hF' hb hd
    have e37 : a'.tmps.getD 37 undef = .bool true := hd _ 37 (Array.mem_of_getElem? (i := 0) rfl) rfl rfl
    exact if_does (wanted_by rfl rfl e37 rfl) (Does.vals (r_load (hF'.at 16 rfl) (ld_Rat (vs := [.bool b6, .slice ad6 n6 c6, .slice ae6 m6 d6]) (o3.below hb) rfl rfl)) ⟨rfl, Below.refl _ _, (fun h => absurd h (by decide))⟩)
  · intro a' w' hF' hb hd
    have e37 : a'.tmps.getD 37 undef = .bool true := hd _ 37 (Array.mem_of_getElem? (i := 2) rfl) rfl rfl
    have e44 : a'.tmps.getD 44 undef = .agg #[.bool b6, .slice ad6 n6 c6, .slice ae6 m6 d6] := hd _ 44 (Array.mem_of_getElem? (i := 0) rfl) rfl rfl
    refine if_does (wanted_by rfl rfl e37 rfl) (Does.calls (r_call Tryd.func23 en23.1 en23.2 (map1 e44)) (mMoon_any _ (((rawZ nega1 xa1 2 : Int) : Rat) / ((rawZ negb1 xb1 2 : Int) : Rat)) 2 _ (hh5.below hb) (own5_lim nega1 negb1 oka1 okb1 2 (by decide)) (by omega)) ?_)
    rintro e w'' ⟨v', rfl, h', bb⟩
    exact ⟨_, rfl, h', bb, (fun h => absurd h (by decide))⟩
  · intro a' w' hF' hb hd
    have e37 : a'.tmps.getD 37 undef = .bool true := hd _ 37 (Array.mem_of_getElem? (i := 3) rfl) rfl rfl
    obtain ⟨v43_0, e43, h43_1⟩ : ∃ v, a'.tmps.getD 43 undef = v ∧ Rq w' v (rmod ((moonV (((rawZ nega1 xa1 2 : Int) : Rat) / ((rawZ negb1 xb1 2 : Int) : Rat))) + (moonE (((rawZ nega1 xa1 2 : Int) : Rat) / ((rawZ negb1 xb1 2 : Int) : Rat)))) (((360 : Int) : Rat))) := ⟨_, rfl, hd _ 43 (Array.mem_of_getElem? (i := 0) rfl) rfl rfl⟩
    obtain ⟨v45_0, e45, h45_1⟩ : ∃ v, a'.tmps.getD 45 undef = v ∧ Rq w' v (mof (((rawZ nega1 xa1 2 : Int) : Rat) / ((rawZ negb1 xb1 2 : Int) : Rat)) pmo) := ⟨_, rfl, hd _ 45 (Array.mem_of_getElem? (i := 1) rfl) rfl rfl⟩
    refine if_does (wanted_by rfl rfl e37 rfl) (Does.calls (r_call Tryd.func20 en20.1 en20.2 (map2 e43 e45)) (rSame_true _ _ (rmod ((moonV (((rawZ nega1 xa1 2 : Int) : Rat) / ((rawZ negb1 xb1 2 : Int) : Rat))) + (moonE (((rawZ nega1 xa1 2 : Int) : Rat) / ((rawZ negb1 xb1 2 : Int) : Rat)))) (((360 : Int) : Rat))) (mof (((rawZ nega1 xa1 2 : Int) : Rat) / ((rawZ negb1 xb1 2 : Int) : Rat)) pmo) _ h43_1 h45_1 (at_back _ _ _ _ _)) ?_)
    rintro e w'' ⟨rfl, bb⟩
    exact ⟨_, rfl, rfl, bb, (fun h => absurd h (by decide))⟩
  · intro a' w' hF' hb hd
    have e37 : a'.tmps.getD 37 undef = .bool true := hd _ 37 (Array.mem_of_getElem? (i := 0) rfl) rfl rfl
    have e46 : a'.tmps.getD 46 undef = .bool true := hd _ 46 (Array.mem_of_getElem? (i := 1) rfl) rfl rfl
    exact if_does (wanted_free rfl) (Does.vals (r_pick_t e37 e46) ⟨rfl, Below.refl _ _, (fun h => absurd h (by decide))⟩)
  intro a w43 hF bb hall hne
  have e47 : a.tmps.getD 47 undef = .bool true := hall 19 47 rfl
  clear hall hne
  replace bel := below_to bel bb
  clear bb
  replace hF := hF.add e47
  clear e47
  refine E.opset (L' := [(2, .bool true), (47, .bool true), (27, .bool false), (26, .bool false), (25, .int .i64 (qc (Rat.abs (moonE (((rawZ nega1 xa1 2 : Int) : Rat) / ((rawZ negb1 xb1 2 : Int) : Rat)))) (((51 : Int) : Rat) / ((10 : Int) : Rat)))), (24, .agg #[.bool b40, .slice ad40 n40 c40, .slice ae40 m40 d40]), (23, .agg #[.bool b35, .slice ad35 n35 c35, .slice ae35 m35 d35]), (22, .agg #[.bool b17, .slice ad17 n17 c17, .slice ae17 m17 d17]), (21, .bool false), (20, .bool false), (19, .int .i64 (qc (Rat.abs (sunE (((rawZ nega1 xa1 2 : Int) : Rat) / ((rawZ negb1 xb1 2 : Int) : Rat)))) (((22 : Int) : Rat) / ((10 : Int) : Rat)))), (18, .agg #[.bool b29, .slice ad29 n29 c29, .slice ae29 m29 d29]), (17, .agg #[.bool b24, .slice ad24 n24 c24, .slice ae24 m24 d24]), (16, .agg #[.bool b15, .slice ad15 n15 c15, .slice ae15 m15 d15]), (5, .pointer (some ⟨g5, 0, none⟩)), (4, .pointer (some ⟨g4, 0, none⟩)), (15, .agg #[.bool b17, .slice ad17 n17 c17, .slice ae17 m17 d17]), (12, .agg #[.bool b15, .slice ad15 n15 c15, .slice ae15 m15 d15]), (3, .pointer (some ⟨g3, 0, none⟩)), (9, .agg #[.bool b6, .slice ad6 n6 c6, .slice ae6 m6 d6]), (8, .agg #[.bool nega1, .slice aa1 na1 ca1, .bool negb1, .slice ab1 nb1 cb1]), (7, .bool false), (6, .bool true), (1, .pointer (some ⟨g1, 0, none⟩)), (0, .agg #[.bool nega1, .slice aa1 na1 ca1, .bool negb1, .slice ab1 nb1 cb1])]) hF (r_assign (hF.at 0 rfl)) rfl rfl rfl rfl fun a hF => ?_
  refine E.nil ?_
  refine wp_ret ?_
  refine bodyPost_ret (res_tmp Tryd.results3 (hF.at 0 rfl)) hF.dfr ?_
  exact ⟨rfl, bel⟩

set_option maxHeartbeats 8000000 in
theorem orbMoves_walk (nega1 : Bool) (aa1 : Option Addr) (na1 ca1 : Nat) (xa1 : List Nat) (negb1 : Bool) (ab1 : Option Addr) (nb1 cb1 : Nat) (xb1 : List Nat) (w : World) (hT : TabD w) (ia1 : InX w aa1 na1 ca1 xa1) (ib1 : InX w ab1 nb1 cb1 xb1) :
    Calls Tryd.prog 4 #[.agg #[.bool nega1, .slice aa1 na1 ca1, .bool negb1, .slice ab1 nb1 cb1]] w (ValPost w (.bool true)) := by
  have oka1 := ia1.ok
  have okb1 := ib1.ok
  have bel : Below w.heap.size w w := Below.refl _ _
  refine E.enter (nt := 37) (L := [(0, .agg #[.bool nega1, .slice aa1 na1 ca1, .bool negb1, .slice ab1 nb1 cb1])]) Tryd.func4 rfl rfl rfl (args_cons (i := 0) rfl args_nil) ?_
  intro a hF
  refine wp_seq ?_
  refine E.seq ?_
  obtain ⟨g1, w1, ge1, hr, bb, o1⟩ := own_box (P := Tryd.prog) (w := w) (cs := [.bool nega1, .slice aa1 na1 ca1, .bool negb1, .slice ab1 nb1 cb1]) (v := .agg #[.bool nega1, .slice aa1 na1 ca1, .bool negb1, .slice ab1 nb1 cb1]) 26 rfl (niB (niS (niB (niS ni0))))
  replace ge1 : w.heap.size ≤ g1 := by rw [← ge1]; exact bel.size
  refine E.opv hF (r_box (hF.at 0 rfl) hr) rfl rfl rfl rfl fun a hF => ?_
  clear hr
  replace ia1 := ia1.below bb
  replace ib1 := ib1.below bb
  replace bel := below_to bel bb
  clear bb
  refine E.opv hF (r_assign ev_c) rfl rfl rfl rfl fun a hF => ?_
  refine E.nil ?_
  refine wp_seq ?_
  refine wp_seq ?_
  refine E.seq ?_
  refine E.call hF (r_call Tryd.func8 en8.1 en8.2 map0) (awake12_any _ (hT.below bel)) rfl rfl rfl rfl ?_
  rintro e w2 ⟨rfl, bb⟩
  refine ⟨_, rfl, ?_⟩
  intro a hF
  replace ia1 := ia1.below bb
  replace ib1 := ib1.below bb
  replace o1 := o1.below bb
  replace bel := below_to bel bb
  clear bb
  refine E.opv hF (r_un (hF.at 0 rfl) (bn_not _ false rfl)) rfl rfl rfl rfl fun a hF => ?_
  refine E.nil ?_
  refine wp_cond_false (hF.at 0 rfl) ?_
  refine wp_skip ?_
  refine E.norm ?_
  refine wp_seq ?_
  refine E.seq ?_
  refine E.opv hF (r_load (hF.at 3 rfl) (ld_Raw5 (vs := [.bool nega1, .slice aa1 na1 ca1, .bool negb1, .slice ab1 nb1 cb1]) o1 rfl rfl)) rfl rfl rfl rfl fun a hF => ?_
  refine E.call hF (r_call Tryd.func9 en9.1 en9.2 (map2 (hF.at 0 rfl) ev_c)) (Own5_any nega1 aa1 na1 ca1 xa1 negb1 ab1 nb1 cb1 xb1 2 _ ia1 ib1 (by omega)) rfl rfl rfl rfl ?_
  rintro e w3 ⟨vv4, rfl, hh5, bb⟩
  refine ⟨_, rfl, ?_⟩
  intro a hF
  replace bel := below_to bel bb
  clear bb
  obtain ⟨b6, ad6, n6, c6, ae6, m6, d6, rfl, hn6, hd6⟩ := Rq.shape hh5
  have hf7 := Wc.abs hn6
  obtain ⟨g3, w8, ge3, hr, bb, o3⟩ := own_alloc (P := Tryd.prog) (w := w3) (cs := [.bool false, .slice none 0 0, .slice none 0 0]) 32 ze_Rat rfl (niB (niS (niS ni0)))
  replace ge3 : w.heap.size ≤ g3 := by rw [← ge3]; exact bel.size
  refine E.opv hF (r_alloc hr) rfl rfl rfl rfl fun a hF => ?_
  clear hr
  replace hh5 := hh5.below bb
  replace hn6 := hn6.below bb
  replace hf7 := hf7.below bb
  replace hd6 := hd6.below bb
  replace bel := below_to bel bb
  clear bb
  obtain ⟨w9, hr, tu, on⟩ := st_Rat (vs := [.bool b6, .slice ad6 n6 c6, .slice ae6 m6 d6]) o3 rfl rfl (ocB (ocS (ocS oc0))) (niB (niS (niS ni0))) (o := 0) rfl
  have kp := tu.keep o3
  refine E.st hF (r_store (hF.at 0 rfl) (hF.at 1 rfl) (hr _ rfl)) rfl rfl fun a hF => ?_
  clear hr
  replace hh5 := hh5.keep kp
  replace hn6 := hn6.keep kp
  replace hf7 := hf7.keep kp
  replace hd6 := hd6.keep kp
  replace bel := tu.below bel ge3
  clear tu kp
  replace o3 := on
  clear on
  refine E.nil ?_
  refine wp_seq ?_
  refine E.drawn 4 mixed hF [9, 10, 11, 4] [(fun _ v => v = .agg #[.bool b6, .slice ad6 n6 c6, .slice ae6 m6 d6]), (fun w v => Rq w v (((1 : Int) : Rat))), (fun w v => Rq w v ((((rawZ nega1 xa1 2 : Int) : Rat) / ((rawZ negb1 xb1 2 : Int) : Rat)) + (((1 : Int) : Rat)))), (fun w v => ∃ g, v = .pointer (some ⟨g, 0, none⟩) ∧ w9.heap.size ≤ g ∧ Own w g [.bool false, .slice none 0 0, .slice none 0 0])] [3] (by decide +kernel) (by decide +kernel) rfl rfl rfl ⟨(Mb.eq _), (fun _ _ _ h hb => h.below hb), (fun _ _ _ h hb => h.below hb), (fun _ _ _ ⟨g, e, l, o⟩ hb => ⟨g, e, l, o.below hb⟩), trivial⟩ ⟨fun _ _ ⟨g, e, _, o⟩ => ⟨g, e, o.lt⟩, trivial⟩ ⟨?_, ?_, ?_, ?_, trivial⟩ ?_
  · intro a' w' hF' hb hd
    exact if_does (wanted_free rfl) (Does.vals (r_load (hF'.at 0 rfl) (ld_Rat (vs := [.bool b6, .slice ad6 n6 c6, .slice ae6 m6 d6]) (o3.below hb) rfl rfl)) ⟨rfl, Below.refl _ _, (fun h => absurd h (by decide))⟩)
  · intro a' w' hF' hb hd
    refine if_does (wanted_free rfl) (Does.calls (r_call Tryd.func19 en19.1 en19.2 (map1 ev_c)) (rWhole_any (1) _ (by decide) (by decide)) ?_)
    rintro e w'' ⟨v', rfl, h', bb⟩
    exact ⟨_, rfl, h', bb, (fun h => absurd h (by decide))⟩
  · intro a' w' hF' hb hd
    have e9 : a'.tmps.getD 9 undef = .agg #[.bool b6, .slice ad6 n6 c6, .slice ae6 m6 d6] := hd _ 9 (Array.mem_of_getElem? (i := 0) rfl) rfl rfl
    obtain ⟨v10_0, e10, h10_1⟩ : ∃ v, a'.tmps.getD 10 undef = v ∧ Rq w' v (((1 : Int) : Rat)) := ⟨_, rfl, hd _ 10 (Array.mem_of_getElem? (i := 1) rfl) rfl rfl⟩
    refine if_does (wanted_free rfl) (Does.calls (r_call Tryd.func18 en18.1 en18.2 (map2 e9 e10)) (rAdd_any _ _ (((rawZ nega1 xa1 2 : Int) : Rat) / ((rawZ negb1 xb1 2 : Int) : Rat)) (((1 : Int) : Rat)) 2 _ (hh5.below hb) h10_1 ((own5_lim nega1 negb1 oka1 okb1 2 (by decide)).up _ (by omega)) ((rlim_int (limz_64 (by decide) (by decide)) (by omega)).up _ (by omega)) (by omega)) ?_)
    rintro e w'' ⟨v', rfl, h', bb⟩
    exact ⟨_, rfl, h', bb, (fun h => absurd h (by decide))⟩
  · intro a' w' hF' hb hd
    obtain ⟨g, w2, ge, hr, bb, on⟩ := own_alloc (P := Tryd.prog) (w := w') (cs := [.bool false, .slice none 0 0, .slice none 0 0]) 32 ze_Rat rfl (niB (niS (niS ni0)))
    subst ge
    exact if_does (wanted_free rfl) (Does.vals (r_alloc hr) ⟨⟨_, rfl, hb.size, on⟩, bb, fun _ => rfl⟩)
  intro a w10 hF bb hall hne
  obtain ⟨vv11, e11, hh12⟩ : ∃ v, a.tmps.getD 11 undef = v ∧ Rq w10 v ((((rawZ nega1 xa1 2 : Int) : Rat) / ((rawZ negb1 xb1 2 : Int) : Rat)) + (((1 : Int) : Rat))) := ⟨_, rfl, hall 2 11 rfl⟩
  obtain ⟨g4, e4, ge4, o4⟩ : ∃ g, a.tmps.getD 4 undef = .pointer (some ⟨g, 0, none⟩) ∧ w9.heap.size ≤ g ∧ Own w10 g [.bool false, .slice none 0 0, .slice none 0 0] := hall 3 4 rfl
  have ne3_4 : g3 ≠ g4 := Nat.ne_of_lt (Nat.lt_of_lt_of_le o3.lt ge4)
  replace ge4 : w.heap.size ≤ g4 := Nat.le_trans bel.size ge4
  clear hall hne
  replace hf7 := hf7.below bb
  replace hd6 := hd6.below bb
  replace hh5 := hh5.below bb
  replace hn6 := hn6.below bb
  replace o3 := o3.below bb
  replace bel := below_to bel bb
  clear bb
  obtain ⟨b13, ad13, n13, c13, ae13, m13, d13, rfl, hn13, hd13⟩ := Rq.shape hh12
  have hf14 := Wc.abs hn13
  replace hF := hF.add e11
  clear e11
  replace hF := hF.add e4
  clear e4
  obtain ⟨w15, hr, tu, on⟩ := st_Rat (vs := [.bool b13, .slice ad13 n13 c13, .slice ae13 m13 d13]) o4 rfl rfl (ocB (ocS (ocS oc0))) (niB (niS (niS ni0))) (o := 0) rfl
  have kp := tu.keep o4
  refine E.st hF (r_store (hF.at 0 rfl) (hF.at 1 rfl) (hr _ rfl)) rfl rfl fun a hF => ?_
  clear hr
  replace hf7 := hf7.keep kp
  replace hd6 := hd6.keep kp
  replace hh5 := hh5.keep kp
  replace hn6 := hn6.keep kp
  replace hh12 := hh12.keep kp
  replace hn13 := hn13.keep kp
  replace hf14 := hf14.keep kp
  replace hd13 := hd13.keep kp
  replace o3 := tu.own o3 ne3_4
  replace bel := tu.below bel ge4
  clear tu kp
  replace o4 := on
  clear on
  refine E.nil ?_
  refine wp_seq ?_
  refine E.drawn 25 mixed hF [12, 13, 14, 15, 16, 17, 18, 19, 20, 21, 22, 23, 24, 25, 26, 27, 28, 29, 30, 31, 32, 33, 34, 35, 36] [(fun _ v => v = .agg #[.bool b13, .slice ad13 n13 c13, .slice ae13 m13 d13]), (fun w v => Rq w v (sunV ((((rawZ nega1 xa1 2 : Int) : Rat) / ((rawZ negb1 xb1 2 : Int) : Rat)) + (((1 : Int) : Rat))))), (fun _ v => v = .agg #[.bool b6, .slice ad6 n6 c6, .slice ae6 m6 d6]), (fun w v => Rq w v (sunV (((rawZ nega1 xa1 2 : Int) : Rat) / ((rawZ negb1 xb1 2 : Int) : Rat)))), (fun w v => Rq w v ((sunV ((((rawZ nega1 xa1 2 : Int) : Rat) / ((rawZ negb1 xb1 2 : Int) : Rat)) + (((1 : Int) : Rat)))) - (sunV (((rawZ nega1 xa1 2 : Int) : Rat) / ((rawZ negb1 xb1 2 : Int) : Rat))))), (fun _ v => v = .int .i64 0), (fun _ v => v = .bool true), (fun _ v => v = .bool true), (fun _ v => v = .agg #[.bool b13, .slice ad13 n13 c13, .slice ae13 m13 d13]), (fun w v => Rq w v (moonV ((((rawZ nega1 xa1 2 : Int) : Rat) / ((rawZ negb1 xb1 2 : Int) : Rat)) + (((1 : Int) : Rat))))), (fun _ v => v = .agg #[.bool b6, .slice ad6 n6 c6, .slice ae6 m6 d6]), (fun w v => Rq w v (moonV (((rawZ nega1 xa1 2 : Int) : Rat) / ((rawZ negb1 xb1 2 : Int) : Rat)))), (fun w v => Rq w v ((moonV ((((rawZ nega1 xa1 2 : Int) : Rat) / ((rawZ negb1 xb1 2 : Int) : Rat)) + (((1 : Int) : Rat)))) - (moonV (((rawZ nega1 xa1 2 : Int) : Rat) / ((rawZ negb1 xb1 2 : Int) : Rat))))), (fun _ v => v = .int .i64 0), (fun _ v => v = .bool true), (fun _ v => v = .bool true), (fun _ v => v = .bool true), (fun _ v => v = .agg #[.bool b13, .slice ad13 n13 c13, .slice ae13 m13 d13]), (fun w v => Rq w v (phaseV ((((rawZ nega1 xa1 2 : Int) : Rat) / ((rawZ negb1 xb1 2 : Int) : Rat)) + (((1 : Int) : Rat))))), (fun _ v => v = .agg #[.bool b6, .slice ad6 n6 c6, .slice ae6 m6 d6]), (fun w v => Rq w v (phaseV (((rawZ nega1 xa1 2 : Int) : Rat) / ((rawZ negb1 xb1 2 : Int) : Rat)))), (fun w v => Rq w v ((phaseV ((((rawZ nega1 xa1 2 : Int) : Rat) / ((rawZ negb1 xb1 2 : Int) : Rat)) + (((1 : Int) : Rat)))) - (phaseV (((rawZ nega1 xa1 2 : Int) : Rat) / ((rawZ negb1 xb1 2 : Int) : Rat))))), (fun _ v => v = .int .i64 0), (fun _ v => v = .bool true), (fun _ v => v = .bool true)] [] (by decide +kernel) (by decide +kernel) rfl rfl rfl ⟨(Mb.eq _), (fun _ _ _ h hb => h.below hb), (Mb.eq _), (fun _ _ _ h hb => h.below hb), (fun _ _ _ h hb => h.below hb), (Mb.eq _), (Mb.eq _), (Mb.eq _), (Mb.eq _), (fun _ _ _ h hb => h.below hb), (Mb.eq _), (fun _ _ _ h hb => h.below hb), (fun _ _ _ h hb => h.below hb), (Mb.eq _), (Mb.eq _), (Mb.eq _), (Mb.eq _), (Mb.eq _), (fun _ _ _ h hb => h.below hb), (Mb.eq _), (fun _ _ _ h hb => h.below hb), (fun _ _ _ h hb => h.below hb), (Mb.eq _), (Mb.eq _), (Mb.eq _), trivial⟩ trivial ⟨?_, ?_, ?_, ?_, ?_, ?_, ?_, ?_, ?_, ?_, ?_, ?_, ?_, ?_, ?_, ?_, ?_, ?_, ?_, ?_, ?_, ?_, ?_, ?_, ?_, trivial⟩ ?_
  · intro a' w' hF' hb hd
    exact if_does (wanted_free rfl) (Does.vals (r_load (hF'.at 0 rfl) (ld_Rat (vs := [.bool b13, .slice ad13 n13 c13, .slice ae13 m13 d13]) (o4.below hb) rfl rfl)) ⟨rfl, Below.refl _ _, (fun h => absurd h (by decide))⟩)
  · intro a' w' hF' hb hd
    have e12 : a'.tmps.getD 12 undef = .agg #[.bool b13, .slice ad13 n13 c13, .slice ae13 m13 d13] := hd _ 12 (Array.mem_of_getElem? (i := 0) rfl) rfl rfl
    refine if_does (wanted_free rfl) (Does.calls (r_call Tryd.func17 en17.1 en17.2 (map1 e12)) (oSun_any _ ((((rawZ nega1 xa1 2 : Int) : Rat) / ((rawZ negb1 xb1 2 : Int) : Rat)) + (((1 : Int) : Rat))) (2 + 2 + 1) _ (hT.below (below_to bel hb)) (hh12.below hb) (rlim_add (own5_lim nega1 negb1 oka1 okb1 2 (by decide)) (rlim_int (limz_64 (by decide) (by decide)) (by omega))) (by omega)) ?_)
    rintro e w'' ⟨v', rfl, h', bb⟩
    exact ⟨_, rfl, h', bb, (fun h => absurd h (by decide))⟩
  · intro a' w' hF' hb hd
    exact if_does (wanted_free rfl) (Does.vals (r_load (hF'.at 2 rfl) (ld_Rat (vs := [.bool b6, .slice ad6 n6 c6, .slice ae6 m6 d6]) (o3.below hb) rfl rfl)) ⟨rfl, Below.refl _ _, (fun h => absurd h (by decide))⟩)
  · intro a' w' hF' hb hd
    have e14 : a'.tmps.getD 14 undef = .agg #[.bool b6, .slice ad6 n6 c6, .slice ae6 m6 d6] := hd _ 14 (Array.mem_of_getElem? (i := 0) rfl) rfl rfl
    refine if_does (wanted_free rfl) (Does.calls (r_call Tryd.func17 en17.1 en17.2 (map1 e14)) (oSun_any _ (((rawZ nega1 xa1 2 : Int) : Rat) / ((rawZ negb1 xb1 2 : Int) : Rat)) 2 _ (hT.below (below_to bel hb)) (hh5.below hb) (own5_lim nega1 negb1 oka1 okb1 2 (by decide)) (by omega)) ?_)
    rintro e w'' ⟨v', rfl, h', bb⟩
    exact ⟨_, rfl, h', bb, (fun h => absurd h (by decide))⟩
  · intro a' w' hF' hb hd
    obtain ⟨v13_0, e13, h13_1⟩ : ∃ v, a'.tmps.getD 13 undef = v ∧ Rq w' v (sunV ((((rawZ nega1 xa1 2 : Int) : Rat) / ((rawZ negb1 xb1 2 : Int) : Rat)) + (((1 : Int) : Rat)))) := ⟨_, rfl, hd _ 13 (Array.mem_of_getElem? (i := 0) rfl) rfl rfl⟩
    obtain ⟨v15_0, e15, h15_1⟩ : ∃ v, a'.tmps.getD 15 undef = v ∧ Rq w' v (sunV (((rawZ nega1 xa1 2 : Int) : Rat) / ((rawZ negb1 xb1 2 : Int) : Rat))) := ⟨_, rfl, hd _ 15 (Array.mem_of_getElem? (i := 1) rfl) rfl rfl⟩
    refine if_does (wanted_free rfl) (Does.calls (r_call Tryd.func25 en25.1 en25.2 (map2 e13 e15)) (rSub_any _ _ (sunV ((((rawZ nega1 xa1 2 : Int) : Rat) / ((rawZ negb1 xb1 2 : Int) : Rat)) + (((1 : Int) : Rat)))) (sunV (((rawZ nega1 xa1 2 : Int) : Rat) / ((rawZ negb1 xb1 2 : Int) : Rat))) (max (3 * (2 + 2 + 1) + 100) (3 * 2 + 100)) _ h13_1 h15_1 ((sunV_lim (rlim_add (own5_lim nega1 negb1 oka1 okb1 2 (by decide)) (rlim_int (limz_64 (by decide) (by decide)) (by omega)))).up _ (by omega)) ((sunV_lim (own5_lim nega1 negb1 oka1 okb1 2 (by decide))).up _ (by omega)) (by omega)) ?_)
    rintro e w'' ⟨v', rfl, h', bb⟩
    exact ⟨_, rfl, h', bb, (fun h => absurd h (by decide))⟩
  · intro a' w' hF' hb hd
    obtain ⟨v16_0, e16, h16_1⟩ : ∃ v, a'.tmps.getD 16 undef = v ∧ Rq w' v ((sunV ((((rawZ nega1 xa1 2 : Int) : Rat) / ((rawZ negb1 xb1 2 : Int) : Rat)) + (((1 : Int) : Rat)))) - (sunV (((rawZ nega1 xa1 2 : Int) : Rat) / ((rawZ negb1 xb1 2 : Int) : Rat)))) := ⟨_, rfl, hd _ 16 (Array.mem_of_getElem? (i := 0) rfl) rfl rfl⟩
    refine if_does (wanted_free rfl) (Does.calls (r_call Tryd.func24 en24.1 en24.2 (map3 e16 ev_c ev_c)) (between_any _ ((sunV ((((rawZ nega1 xa1 2 : Int) : Rat) / ((rawZ negb1 xb1 2 : Int) : Rat)) + (((1 : Int) : Rat)))) - (sunV (((rawZ nega1 xa1 2 : Int) : Rat) / ((rawZ negb1 xb1 2 : Int) : Rat)))) ((3 * (2 + 2 + 1) + 100) + (3 * 2 + 100) + 1) 94 103 _ h16_1 (rlim_sub (sunV_lim (rlim_add (own5_lim nega1 negb1 oka1 okb1 2 (by decide)) (rlim_int (limz_64 (by decide) (by decide)) (by omega)))) (sunV_lim (own5_lim nega1 negb1 oka1 okb1 2 (by decide)))) (by omega) (by decide) (by decide) (by decide) (by decide) (sun_day2 _).1 (sun_day2 _).2) ?_)
    rintro e w'' ⟨rfl, bb⟩
    exact ⟨_, rfl, rfl, bb, (fun h => absurd h (by decide))⟩
  · intro a' w' hF' hb hd
    have e17 : a'.tmps.getD 17 undef = .int .i64 0 := hd _ 17 (Array.mem_of_getElem? (i := 0) rfl) rfl rfl
    exact if_does (wanted_free rfl) (Does.vals (r_bin e17 ev_c eg_scalar (bi_int (ic_eql (c := true) (by decide)) (by simp))) ⟨rfl, Below.refl _ _, (fun h => absurd h (by decide))⟩)
  · intro a' w' hF' hb hd
    have e18 : a'.tmps.getD 18 undef = .bool true := hd _ 18 (Array.mem_of_getElem? (i := 0) rfl) rfl rfl
    exact if_does (wanted_free rfl) (Does.vals (r_move e18) ⟨rfl, Below.refl _ _, (fun h => absurd h (by decide))⟩)
  · intro a' w' hF' hb hd
    have e19 : a'.tmps.getD 19 undef = .bool true := hd _ 19 (Array.mem_of_getElem? (i := 0) rfl) rfl rfl
    exact if_does (wanted_by rfl rfl e19 rfl) (Does.vals (r_load (hF'.at 0 rfl) (ld_Rat (vs := [.bool b13, .slice ad13 n13 c13, .slice ae13 m13 d13]) (o4.below hb) rfl rfl)) ⟨rfl, Below.refl _ _, (fun h => absurd h (by decide))⟩)
  · intro a' w' hF' hb hd
    have e19 : a'.tmps.getD 19 undef = .bool true := hd _ 19 (Array.mem_of_getElem? (i := 1) rfl) rfl rfl
    have e20 : a'.tmps.getD 20 undef = .agg #[.bool b13, .slice ad13 n13 c13, .slice ae13 m13 d13] := hd _ 20 (Array.mem_of_getElem? (i := 0) rfl) rfl rfl
    refine if_does (wanted_by rfl rfl e19 rfl) (Does.calls (r_call Tryd.func22 en22.1 en22.2 (map1 e20)) (oMoon_any _ ((((rawZ nega1 xa1 2 : Int) : Rat) / ((rawZ negb1 xb1 2 : Int) : Rat)) + (((1 : Int) : Rat))) (2 + 2 + 1) _ (hT.below (below_to bel hb)) (hh12.below hb) (rlim_add (own5_lim nega1 negb1 oka1 okb1 2 (by decide)) (rlim_int (limz_64 (by decide) (by decide)) (by omega))) (by omega)) ?_)
    rintro e w'' ⟨v', rfl, h', bb⟩
    exact ⟨_, rfl, h', bb, (fun h => absurd h (by decide))⟩
  · intro a' w' hF' hb hd
    have e19 : a'.tmps.getD 19 undef = .bool true := hd _ 19 (Array.mem_of_getElem? (i := 0) rfl) rfl rfl
    exact if_does (wanted_by rfl rfl e19 rfl) (Does.vals (r_load (hF'.at 2 rfl) (ld_Rat (vs := [.bool b6, .slice ad6 n6 c6, .slice ae6 m6 d6]) (o3.below hb) rfl rfl)) ⟨rfl, Below.refl _ _, (fun h => absurd h (by decide))⟩)
  · intro a' w' hF' hb hd
    have e19 : a'.tmps.getD 19 undef = .bool true := hd _ 19 (Array.mem_of_getElem? (i := 2) rfl) rfl rfl
    have e22 : a'.tmps.getD 22 undef = .agg #[.bool b6, .slice ad6 n6 c6, .slice ae6 m6 d6] := hd _ 22 (Array.mem_of_getElem? (i := 0) rfl) rfl rfl
    refine if_does (wanted_by rfl rfl e19 rfl) (Does.calls (r_call Tryd.func22 en22.1 en22.2 (map1 e22)) (oMoon_any _ (((rawZ nega1 xa1 2 : Int) : Rat) / ((rawZ negb1 xb1 2 : Int) : Rat)) 2 _ (hT.below (below_to bel hb)) (hh5.below hb) (own5_lim nega1 negb1 oka1 okb1 2 (by decide)) (by omega)) ?_)
    rintro e w'' ⟨v', rfl, h', bb⟩
    exact ⟨_, rfl, h', bb, (fun h => absurd h (by decide))⟩
  · intro a' w' hF' hb hd
    have e19 : a'.tmps.getD 19 undef = .bool true := hd _ 19 (Array.mem_of_getElem? (i := 3) rfl) rfl rfl
    obtain ⟨v21_0, e21, h21_1⟩ : ∃ v, a'.tmps.getD 21 undef = v ∧ Rq w' v (moonV ((((rawZ nega1 xa1 2 : Int) : Rat) / ((rawZ negb1 xb1 2 : Int) : Rat)) + (((1 : Int) : Rat)))) := ⟨_, rfl, hd _ 21 (Array.mem_of_getElem? (i := 0) rfl) rfl rfl⟩
    obtain ⟨v23_0, e23, h23_1⟩ : ∃ v, a'.tmps.getD 23 undef = v ∧ Rq w' v (moonV (((rawZ nega1 xa1 2 : Int) : Rat) / ((rawZ negb1 xb1 2 : Int) : Rat))) := ⟨_, rfl, hd _ 23 (Array.mem_of_getElem? (i := 1) rfl) rfl rfl⟩
    refine if_does (wanted_by rfl rfl e19 rfl) (Does.calls (r_call Tryd.func25 en25.1 en25.2 (map2 e21 e23)) (rSub_any _ _ (moonV ((((rawZ nega1 xa1 2 : Int) : Rat) / ((rawZ negb1 xb1 2 : Int) : Rat)) + (((1 : Int) : Rat)))) (moonV (((rawZ nega1 xa1 2 : Int) : Rat) / ((rawZ negb1 xb1 2 : Int) : Rat))) (max (3 * (2 + 2 + 1) + 100) (3 * 2 + 100)) _ h21_1 h23_1 ((moonV_lim (rlim_add (own5_lim nega1 negb1 oka1 okb1 2 (by decide)) (rlim_int (limz_64 (by decide) (by decide)) (by omega)))).up _ (by omega)) ((moonV_lim (own5_lim nega1 negb1 oka1 okb1 2 (by decide))).up _ (by omega)) (by omega)) ?_)
    rintro e w'' ⟨v', rfl, h', bb⟩
    exact ⟨_, rfl, h', bb, (fun h => absurd h (by decide))⟩
  · intro a' w' hF' hb hd
    have e19 : a'.tmps.getD 19 undef = .bool true := hd _ 19 (Array.mem_of_getElem? (i := 2) rfl) rfl rfl
    obtain ⟨v24_0, e24, h24_1⟩ : ∃ v, a'.tmps.getD 24 undef = v ∧ Rq w' v ((moonV ((((rawZ nega1 xa1 2 : Int) : Rat) / ((rawZ negb1 xb1 2 : Int) : Rat)) + (((1 : Int) : Rat)))) - (moonV (((rawZ nega1 xa1 2 : Int) : Rat) / ((rawZ negb1 xb1 2 : Int) : Rat)))) := ⟨_, rfl, hd _ 24 (Array.mem_of_getElem? (i := 0) rfl) rfl rfl⟩
    refine if_does (wanted_by rfl rfl e19 rfl) (Does.calls (r_call Tryd.func24 en24.1 en24.2 (map3 e24 ev_c ev_c)) (between_any _ ((moonV ((((rawZ nega1 xa1 2 : Int) : Rat) / ((rawZ negb1 xb1 2 : Int) : Rat)) + (((1 : Int) : Rat)))) - (moonV (((rawZ nega1 xa1 2 : Int) : Rat) / ((rawZ negb1 xb1 2 : Int) : Rat)))) ((3 * (2 + 2 + 1) + 100) + (3 * 2 + 100) + 1) 1200 1440 _ h24_1 (rlim_sub (moonV_lim (rlim_add (own5_lim nega1 negb1 oka1 okb1 2 (by decide)) (rlim_int (limz_64 (by decide) (by decide)) (by omega)))) (moonV_lim (own5_lim nega1 negb1 oka1 okb1 2 (by decide)))) (by omega) (by decide) (by decide) (by decide) (by decide) (moon_day2 _).1 (moon_day2 _).2) ?_)
    rintro e w'' ⟨rfl, bb⟩
    exact ⟨_, rfl, rfl, bb, (fun h => absurd h (by decide))⟩
  · intro a' w' hF' hb hd
    have e19 : a'.tmps.getD 19 undef = .bool true := hd _ 19 (Array.mem_of_getElem? (i := 1) rfl) rfl rfl
    have e25 : a'.tmps.getD 25 undef = .int .i64 0 := hd _ 25 (Array.mem_of_getElem? (i := 0) rfl) rfl rfl
    exact if_does (wanted_by rfl rfl e19 rfl) (Does.vals (r_bin e25 ev_c eg_scalar (bi_int (ic_eql (c := true) (by decide)) (by simp))) ⟨rfl, Below.refl _ _, (fun h => absurd h (by decide))⟩)
  · intro a' w' hF' hb hd
    have e19 : a'.tmps.getD 19 undef = .bool true := hd _ 19 (Array.mem_of_getElem? (i := 0) rfl) rfl rfl
    have e26 : a'.tmps.getD 26 undef = .bool true := hd _ 26 (Array.mem_of_getElem? (i := 1) rfl) rfl rfl
    exact if_does (wanted_free rfl) (Does.vals (r_pick_t e19 e26) ⟨rfl, Below.refl _ _, (fun h => absurd h (by decide))⟩)
  · intro a' w' hF' hb hd
    have e27 : a'.tmps.getD 27 undef = .bool true := hd _ 27 (Array.mem_of_getElem? (i := 0) rfl) rfl rfl
    exact if_does (wanted_free rfl) (Does.vals (r_move e27) ⟨rfl, Below.refl _ _, (fun h => absurd h (by decide))⟩)
  · intro a' w' hF' hb hd
    have e28 : a'.tmps.getD 28 undef = .bool true := hd _ 28 (Array.mem_of_getElem? (i := 0) rfl) rfl rfl
    exact if_does (wanted_by rfl rfl e28 rfl) (Does.vals (r_load (hF'.at 0 rfl) (ld_Rat (vs := [.bool b13, .slice ad13 n13 c13, .slice ae13 m13 d13]) (o4.below hb) rfl rfl)) ⟨rfl, Below.refl _ _, (fun h => absurd h (by decide))⟩)
  · intro a' w' hF' hb hd
    have e28 : a'.tmps.getD 28 undef = .bool true := hd _ 28 (Array.mem_of_getElem? (i := 1) rfl) rfl rfl
    have e29 : a'.tmps.getD 29 undef = .agg #[.bool b13, .slice ad13 n13 c13, .slice ae13 m13 d13] := hd _ 29 (Array.mem_of_getElem? (i := 0) rfl) rfl rfl
    refine if_does (wanted_by rfl rfl e28 rfl) (Does.calls (r_call Tryd.func26 en26.1 en26.2 (map1 e29)) (oPhase_any _ ((((rawZ nega1 xa1 2 : Int) : Rat) / ((rawZ negb1 xb1 2 : Int) : Rat)) + (((1 : Int) : Rat))) (2 + 2 + 1) _ (hT.below (below_to bel hb)) (hh12.below hb) (rlim_add (own5_lim nega1 negb1 oka1 okb1 2 (by decide)) (rlim_int (limz_64 (by decide) (by decide)) (by omega))) (by omega)) ?_)
    rintro e w'' ⟨v', rfl, h', bb⟩
    exact ⟨_, rfl, h', bb, (fun h => absurd h (by decide))⟩
  · intro a' w' hF' hb hd
    have e28 : a'.tmps.getD 28 undef = .bool true := hd _ 28 (Array.mem_of_getElem? (i := 0) rfl) rfl rfl
    exact if_does (wanted_by rfl rfl e28 rfl) (Does.vals (r_load (hF'.at 2 rfl) (ld_Rat (vs := [.bool b6, .slice ad6 n6 c6, .slice ae6 m6 d6]) (o3.below hb) rfl rfl)) ⟨rfl, Below.refl _ _, (fun h => absurd h (by decide))⟩)
  · intro a' w' hF' hb hd
    have e28 : a'.tmps.getD 28 undef = .bool true := hd _ 28 (Array.mem_of_getElem? (i := 2) rfl) rfl rfl
    have e31 : a'.tmps.getD 31 undef = .agg #[.bool b6, .slice ad6 n6 c6, .slice ae6 m6 d6] := hd _ 31 (Array.mem_of_getElem? (i := 0) rfl) rfl rfl
    refine if_does (wanted_by rfl rfl e28 rfl) (Does.calls (r_call Tryd.func26 en26.1 en26.2 (map1 e31)) (oPhase_any _ (((rawZ nega1 xa1 2 : Int) : Rat) / ((rawZ negb1 xb1 2 : Int) : Rat)) 2 _ (hT.below (below_to bel hb)) (hh5.below hb) (own5_lim nega1 negb1 oka1 okb1 2 (by decide)) (by omega)) ?_)
    rintro e w'' ⟨v', rfl, h', bb⟩
    exact ⟨_, rfl, h', bb, (fun h => absurd h (by decide))⟩
  · intro a' w' hF' hb hd
    have e28 : a'.tmps.getD 28 undef = .bool true := hd _ 28 (Array.mem_of_getElem? (i := 3) rfl) rfl rfl
    obtain ⟨v30_0, e30, h30_1⟩ : ∃ v, a'.tmps.getD 30 undef = v ∧ Rq w' v (phaseV ((((rawZ nega1 xa1 2 : Int) : Rat) / ((rawZ negb1 xb1 2 : Int) : Rat)) + (((1 : Int) : Rat)))) := ⟨_, rfl, hd _ 30 (Array.mem_of_getElem? (i := 0) rfl) rfl rfl⟩
    obtain ⟨v32_0, e32, h32_1⟩ : ∃ v, a'.tmps.getD 32 undef = v ∧ Rq w' v (phaseV (((rawZ nega1 xa1 2 : Int) : Rat) / ((rawZ negb1 xb1 2 : Int) : Rat))) := ⟨_, rfl, hd _ 32 (Array.mem_of_getElem? (i := 1) rfl) rfl rfl⟩
    refine if_does (wanted_by rfl rfl e28 rfl) (Does.calls (r_call Tryd.func25 en25.1 en25.2 (map2 e30 e32)) (rSub_any _ _ (phaseV ((((rawZ nega1 xa1 2 : Int) : Rat) / ((rawZ negb1 xb1 2 : Int) : Rat)) + (((1 : Int) : Rat)))) (phaseV (((rawZ nega1 xa1 2 : Int) : Rat) / ((rawZ negb1 xb1 2 : Int) : Rat))) (max (6 * (2 + 2 + 1) + 210) (6 * 2 + 210)) _ h30_1 h32_1 ((phaseV_lim (rlim_add (own5_lim nega1 negb1 oka1 okb1 2 (by decide)) (rlim_int (limz_64 (by decide) (by decide)) (by omega)))).up _ (by omega)) ((phaseV_lim (own5_lim nega1 negb1 oka1 okb1 2 (by decide))).up _ (by omega)) (by omega)) ?_)
    rintro e w'' ⟨v', rfl, h', bb⟩
    exact ⟨_, rfl, h', bb, (fun h => absurd h (by decide))⟩
  · intro a' w' hF' hb hd
    have e28 : a'.tmps.getD 28 undef = .bool true := hd _ 28 (Array.mem_of_getElem? (i := 2) rfl) rfl rfl
    obtain ⟨v33_0, e33, h33_1⟩ : ∃ v, a'.tmps.getD 33 undef = v ∧ Rq w' v ((phaseV ((((rawZ nega1 xa1 2 : Int) : Rat) / ((rawZ negb1 xb1 2 : Int) : Rat)) + (((1 : Int) : Rat)))) - (phaseV (((rawZ nega1 xa1 2 : Int) : Rat) / ((rawZ negb1 xb1 2 : Int) : Rat)))) := ⟨_, rfl, hd _ 33 (Array.mem_of_getElem? (i := 0) rfl) rfl rfl⟩
    refine if_does (wanted_by rfl rfl e28 rfl) (Does.calls (r_call Tryd.func24 en24.1 en24.2 (map3 e33 ev_c ev_c)) (between_any _ ((phaseV ((((rawZ nega1 xa1 2 : Int) : Rat) / ((rawZ negb1 xb1 2 : Int) : Rat)) + (((1 : Int) : Rat)))) - (phaseV (((rawZ nega1 xa1 2 : Int) : Rat) / ((rawZ negb1 xb1 2 : Int) : Rat)))) ((6 * (2 + 2 + 1) + 210) + (6 * 2 + 210) + 1) 1090 1350 _ h33_1 (rlim_sub (phaseV_lim (rlim_add (own5_lim nega1 negb1 oka1 okb1 2 (by decide)) (rlim_int (limz_64 (by decide) (by decide)) (by omega)))) (phaseV_lim (own5_lim nega1 negb1 oka1 okb1 2 (by decide)))) (by omega) (by decide) (by decide) (by decide) (by decide) (phase_day _).1 (phase_day _).2) ?_)
    rintro e w'' ⟨rfl, bb⟩
    exact ⟨_, rfl, rfl, bb, (fun h => absurd h (by decide))⟩
  · intro a' w' hF' hb hd
    have e28 : a'.tmps.getD 28 undef = .bool true := hd _ 28 (Array.mem_of_getElem? (i := 1) rfl) rfl rfl
    have e34 : a'.tmps.getD 34 undef = .int .i64 0 := hd _ 34 (Array.mem_of_getElem? (i := 0) rfl) rfl rfl
    exact if_does (wanted_by rfl rfl e28 rfl) (Does.vals (r_bin e34 ev_c eg_scalar (bi_int (ic_eql (c := true) (by decide)) (by simp))) ⟨rfl, Below.refl _ _, (fun h => absurd h (by decide))⟩)
  · intro a' w' hF' hb hd
    have e28 : a'.tmps.getD 28 undef = .bool true := hd _ 28 (Array.mem_of_getElem? (i := 0) rfl) rfl rfl
    have e35 : a'.tmps.getD 35 undef = .bool true := hd _ 35 (Array.mem_of_getElem? (i := 1) rfl) rfl rfl
    exact if_does (wanted_free rfl) (Does.vals (r_pick_t e28 e35) ⟨rfl, Below.refl _ _, (fun h => absurd h (by decide))⟩)
  intro a w16 hF bb hall hne
  have e36 : a.tmps.getD 36 undef = .bool true := hall 24 36 rfl
  clear hall hne
  replace bel := below_to bel bb
  clear bb
  replace hF := hF.add e36
  clear e36
  refine E.opset (L' := [(2, .bool true), (36, .bool true), (4, .pointer (some ⟨g4, 0, none⟩)), (11, .agg #[.bool b13, .slice ad13 n13 c13, .slice ae13 m13 d13]), (3, .pointer (some ⟨g3, 0, none⟩)), (8, .agg #[.bool b6, .slice ad6 n6 c6, .slice ae6 m6 d6]), (7, .agg #[.bool nega1, .slice aa1 na1 ca1, .bool negb1, .slice ab1 nb1 cb1]), (6, .bool false), (5, .bool true), (1, .pointer (some ⟨g1, 0, none⟩)), (0, .agg #[.bool nega1, .slice aa1 na1 ca1, .bool negb1, .slice ab1 nb1 cb1])]) hF (r_assign (hF.at 0 rfl)) rfl rfl rfl rfl fun a hF => ?_
  refine E.nil ?_
  refine wp_ret ?_
  refine bodyPost_ret (res_tmp Tryd.results4 (hF.at 0 rfl)) hF.dfr ?_
  exact ⟨rfl, bel⟩

end Go.Proofs.YtmpdbkdijfpbbaaDoor
