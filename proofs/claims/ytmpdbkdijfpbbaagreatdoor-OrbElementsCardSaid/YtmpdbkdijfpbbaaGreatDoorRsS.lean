/- The document's sines, with sharper limits. -/
import Derived.Test.YtmpdbkdijfpbbaaGreatDoorRsA
import Derived.Test.YtmpdbkdijfpbbaaGreatDoorSnE
import Derived.Test.YtmpdbkdijfpbbaaGreatDoorObW
import Derived.Test.YtmpdbkdijfpbbaaGreatDoorSh
namespace Go.Proofs.YtmpdbkdijfpbbaaGreatDoor
open Go.RowKit
set_option maxRecDepth 100000
set_option linter.unusedVariables false

set_option maxHeartbeats 1000000 in
theorem rint2_any (v1 : Value) (q1 : Rat) (k : Nat) (w : World) (h1 : Rr w v1 q1 k) (hp : 1 ≤ k) (hk : k ≤ 1990) (hf0 : 0 ≤ Rat.floor q1) (hf1 : Rat.floor q1 < 65536) :
    Calls Tryz.prog 105 #[v1] w (ValPost w (.int .i64 (Rat.floor q1))) := by
  have rl1 := h1.rlim
  obtain ⟨b1, ad1, n1, c1, ae1, m1, d1, z1, D1, rfl, hn1, hd1, hD1, hq1, lz1, lD1⟩ := h1.shape
  have h1 : Rr w (.agg #[.bool b1, .slice ad1 n1 c1, .slice ae1 m1 d1]) q1 k := ⟨_, _, _, _, _, _, _, _, _, rfl, hn1, hd1, hD1, hq1, lz1, lD1⟩
  have ha1 := hn1.abs
  have hb1 := hn1.neg
  replace hq1 := Lib.hid hq1
  have bel : Below w.heap.size w w := Below.refl _ _
  refine E.enter (nt := 6) (L := [(0, .agg #[.bool b1, .slice ad1 n1 c1, .slice ae1 m1 d1])]) Tryz.func105 rfl rfl rfl (args_cons (i := 0) rfl args_nil) ?_
  intro a hF
  refine wp_seq ?_
  refine E.seq ?_
  obtain ⟨g1, w1, ge1, hr, bb, o1⟩ := own_box (P := Tryz.prog) (w := w) (cs := [.bool b1, .slice ad1 n1 c1, .slice ae1 m1 d1]) (v := .agg #[.bool b1, .slice ad1 n1 c1, .slice ae1 m1 d1]) 39 rfl (niB (niS (niS ni0)))
  replace ge1 : w.heap.size ≤ g1 := by rw [← ge1]; exact bel.size
  refine E.opv hF (r_box (hF.at 0 rfl) hr) rfl rfl rfl rfl fun a hF => ?_
  clear hr
  replace bel := below_to bel bb
  clear bb
  refine E.opv hF (r_assign ev_c) rfl rfl rfl rfl fun a hF => ?_
  refine E.nil ?_
  refine wp_seq ?_
  refine E.seq ?_
  refine E.opv hF (r_load (hF.at 1 rfl) (ld_RRat (vs := [.bool b1, .slice ad1 n1 c1, .slice ae1 m1 d1]) o1 rfl rfl)) rfl rfl rfl rfl fun a hF => ?_
  refine E.call hF (r_call Tryz.func91 en91.1 en91.2 (map1 (hF.at 0 rfl))) (dFloor_any _ (q1) k _ (h1.below bel) (by omega) (by omega)) rfl rfl rfl rfl ?_
  rintro e w2 ⟨vv3, rfl, hh4, bb⟩
  refine ⟨_, rfl, ?_⟩
  intro a hF
  replace bel := below_to bel bb
  clear bb
  obtain ⟨b5, ad5, n5, c5, rfl⟩ := Rz.form hh4
  refine E.call hF (r_call Tryz.func140 en140.1 en140.2 (map1 (hF.at 0 rfl))) (rsmall_any _ (Rat.floor (q1)) _ hh4 hf0 hf1) rfl rfl rfl rfl ?_
  rintro e w6 ⟨rfl, bb⟩
  refine ⟨_, rfl, ?_⟩
  intro a hF
  replace bel := below_to bel bb
  clear bb
  refine E.opset (L' := [(2, .int .i64 (Rat.floor (q1))), (5, .int .i64 (Rat.floor (q1))), (4, .agg #[.bool b5, .slice ad5 n5 c5]), (3, .agg #[.bool b1, .slice ad1 n1 c1, .slice ae1 m1 d1]), (1, .pointer (some ⟨g1, 0, none⟩)), (0, .agg #[.bool b1, .slice ad1 n1 c1, .slice ae1 m1 d1])]) hF (r_assign (hF.at 0 rfl)) rfl rfl rfl rfl fun a hF => ?_
  refine E.nil ?_
  refine wp_ret ?_
  refine bodyPost_ret (res_tmp Tryz.results105 (hF.at 0 rfl)) hF.dfr ?_
  exact ⟨rfl, bel⟩

set_option maxHeartbeats 1000000 in
theorem rplace2_any (v1 : Value) (q1 : Rat) (k i : Nat) (w : World) (h1 : Rr w v1 q1 k) (li1 : RLim q1 i) (hp : 1 ≤ k) (hk : k ≤ 700) (hi : i ≤ 300) :
    Calls Tryz.prog 120 #[v1] w (ValPost w (.int .i64 (pk q1))) := by
  obtain ⟨b1, ad1, n1, c1, ae1, m1, d1, z1, D1, rfl, hn1, hd1, hD1, hq1, lz1, lD1⟩ := h1.shape
  have h1 : Rr w (.agg #[.bool b1, .slice ad1 n1 c1, .slice ae1 m1 d1]) q1 k := ⟨_, _, _, _, _, _, _, _, _, rfl, hn1, hd1, hD1, hq1, lz1, lD1⟩
  have ha1 := hn1.abs
  have hb1 := hn1.neg
  replace hq1 := Lib.hid hq1
  have bel : Below w.heap.size w w := Below.refl _ _
  refine E.enter (nt := 9) (L := [(0, .agg #[.bool b1, .slice ad1 n1 c1, .slice ae1 m1 d1])]) Tryz.func120 rfl rfl rfl (args_cons (i := 0) rfl args_nil) ?_
  intro a hF
  refine wp_seq ?_
  refine E.seq ?_
  obtain ⟨g1, w1, ge1, hr, bb, o1⟩ := own_box (P := Tryz.prog) (w := w) (cs := [.bool b1, .slice ad1 n1 c1, .slice ae1 m1 d1]) (v := .agg #[.bool b1, .slice ad1 n1 c1, .slice ae1 m1 d1]) 39 rfl (niB (niS (niS ni0)))
  replace ge1 : w.heap.size ≤ g1 := by rw [← ge1]; exact bel.size
  refine E.opv hF (r_box (hF.at 0 rfl) hr) rfl rfl rfl rfl fun a hF => ?_
  clear hr
  replace bel := below_to bel bb
  clear bb
  refine E.opv hF (r_assign ev_c) rfl rfl rfl rfl fun a hF => ?_
  refine E.nil ?_
  refine wp_seq ?_
  refine E.drawn 6 mixed hF [3, 4, 5, 6, 7, 8] [(fun _ v => v = .agg #[.bool b1, .slice ad1 n1 c1, .slice ae1 m1 d1]), (fun w v => Rr w v (((4 : Int) : Rat) / ((15 : Int) : Rat)) (2)), (fun w v => Rr w v ((q1) * (((4 : Int) : Rat) / ((15 : Int) : Rat))) ((k + 2))), (fun w v => Rr w v (((96 : Int) : Rat)) (2)), (fun w v => Rr w v (rmod ((q1) * (((4 : Int) : Rat) / ((15 : Int) : Rat))) (((96 : Int) : Rat))) (((k + 2) + 2 + (i + 2) + 2 + 3))), (fun _ v => v = .int .i64 (Rat.floor (rmod ((q1) * (((4 : Int) : Rat) / ((15 : Int) : Rat))) (((96 : Int) : Rat)))))] [] (by decide +kernel) (by decide +kernel) rfl rfl rfl ⟨(Mb.eq _), (fun _ _ _ h hb => h.below hb), (fun _ _ _ h hb => h.below hb), (fun _ _ _ h hb => h.below hb), (fun _ _ _ h hb => h.below hb), (Mb.eq _), trivial⟩ trivial ⟨?_, ?_, ?_, ?_, ?_, ?_, trivial⟩ ?_
  · intro a' w' hF' hb hd
    exact dv0 (r_load (hF'.at 1 rfl) (ld_RRat (vs := [.bool b1, .slice ad1 n1 c1, .slice ae1 m1 d1]) (o1.below hb) rfl rfl)) rfl rfl rfl
  · intro a' w' hF' hb hd
    exact dc0 (r_call Tryz.func43 en43.1 en43.2 (map2 ev_c ev_c)) (dOf_any (4) (15) _ (by decide) (by decide) (by decide) (by decide)) rfl rfl
  · intro a' w' hF' hb hd
    have e3 := sHe hd 0 3 rfl rfl rfl rfl
    obtain ⟨v4_0, e4, h4_1⟩ := sH hd 1 4 rfl rfl rfl rfl
    exact dc0 (r_call Tryz.func83 en83.1 en83.2 (map2 e3 e4)) (dMul2_any _ _ (q1) _ k 2 _ (h1.below (below_to bel hb)) h4_1 (by omega) (by omega) (by omega) (by omega)) rfl rfl
  · intro a' w' hF' hb hd
    exact dc0 (r_call Tryz.func43 en43.1 en43.2 (map2 ev_c ev_c)) (dOf1b_any (96) _ (by decide) (by decide)) rfl rfl
  · intro a' w' hF' hb hd
    obtain ⟨v5_0, e5, h5_1⟩ := sH hd 0 5 rfl rfl rfl rfl
    obtain ⟨v6_0, e6, h6_1⟩ := sH hd 1 6 rfl rfl rfl rfl
    exact dc0 (r_call Tryz.func48 en48.1 en48.2 (map2 e5 e6)) (dMod2_any _ _ _ _ (k + 2) 2 (i + 2) 2 _ h5_1 h6_1 (rlim_mul li1 (RLim.up (rlim_mk2 (limz_64 (by decide) (by decide)) (limz_64 (by decide) (by decide))) 2 (by decide))) (lim64 (by decide) (by decide)) (by omega) (by omega) (by omega) (by omega) (by omega) (by omega)) rfl rfl
  · intro a' w' hF' hb hd
    obtain ⟨v7_0, e7, h7_1⟩ := sH hd 0 7 rfl rfl rfl rfl
    exact dcx0 (r_call Tryz.func105 en105.1 en105.2 (map1 e7)) (rint2_any _ _ ((k + 2) + 2 + (i + 2) + 2 + 3) _ h7_1 (by omega) (by omega) (by rw [place_eq]; exact (pk_bd q1).1) (by rw [place_eq]; have := (pk_bd q1).2; omega)) (fun _ => rfl) rfl rfl
  intro a w2 hF bb hall hne
  have e8 := sSe hall 5 8 rfl rfl
  clear hall hne
  replace bel := below_to bel bb
  clear bb
  replace hF := hF.add e8
  clear e8
  refine E.opset (L' := [(2, .int .i64 (Rat.floor (rmod ((q1) * (((4 : Int) : Rat) / ((15 : Int) : Rat))) (((96 : Int) : Rat))))), (8, .int .i64 (Rat.floor (rmod ((q1) * (((4 : Int) : Rat) / ((15 : Int) : Rat))) (((96 : Int) : Rat))))), (1, .pointer (some ⟨g1, 0, none⟩)), (0, .agg #[.bool b1, .slice ad1 n1 c1, .slice ae1 m1 d1])]) hF (r_assign (hF.at 0 rfl)) rfl rfl rfl rfl fun a hF => ?_
  refine E.nil ?_
  refine wp_ret ?_
  refine bodyPost_ret (res_tmp Tryz.results120 (hF.at 0 rfl)) hF.dfr ?_
  exact ⟨rv_int (place_eq q1), bel⟩

set_option maxHeartbeats 1000000 in
theorem rstep2_any (v1 : Value) (q1 : Rat) (k i : Nat) (w : World) (h1 : Rr w v1 q1 k) (li1 : RLim q1 i) (hp : 1 ≤ k) (hk : k ≤ 700) (hi : i ≤ 300) :
    Calls Tryz.prog 122 #[v1] w (ValPost w (.int .i64 (spk (pk q1 + 1) - spk (pk q1)))) := by
  obtain ⟨b1, ad1, n1, c1, ae1, m1, d1, z1, D1, rfl, hn1, hd1, hD1, hq1, lz1, lD1⟩ := h1.shape
  have h1 : Rr w (.agg #[.bool b1, .slice ad1 n1 c1, .slice ae1 m1 d1]) q1 k := ⟨_, _, _, _, _, _, _, _, _, rfl, hn1, hd1, hD1, hq1, lz1, lD1⟩
  have ha1 := hn1.abs
  have hb1 := hn1.neg
  replace hq1 := Lib.hid hq1
  have hpk := pk_bd q1
  have hsa := sp_bd (pk q1)
  have hsb := sp_bd (pk q1 + 1)
  have bel : Below w.heap.size w w := Below.refl _ _
  refine E.enter (nt := 11) (L := [(0, .agg #[.bool b1, .slice ad1 n1 c1, .slice ae1 m1 d1])]) Tryz.func122 rfl rfl rfl (args_cons (i := 0) rfl args_nil) ?_
  intro a hF
  refine wp_seq ?_
  refine E.seq ?_
  obtain ⟨g1, w1, ge1, hr, bb, o1⟩ := own_box (P := Tryz.prog) (w := w) (cs := [.bool b1, .slice ad1 n1 c1, .slice ae1 m1 d1]) (v := .agg #[.bool b1, .slice ad1 n1 c1, .slice ae1 m1 d1]) 39 rfl (niB (niS (niS ni0)))
  replace ge1 : w.heap.size ≤ g1 := by rw [← ge1]; exact bel.size
  refine E.opv hF (r_box (hF.at 0 rfl) hr) rfl rfl rfl rfl fun a hF => ?_
  clear hr
  replace bel := below_to bel bb
  clear bb
  refine E.opv hF (r_assign ev_c) rfl rfl rfl rfl fun a hF => ?_
  refine E.nil ?_
  refine wp_seq ?_
  refine E.drawn 8 mixed hF [3, 4, 5, 6, 7, 8, 9, 10] [(fun _ v => v = .agg #[.bool b1, .slice ad1 n1 c1, .slice ae1 m1 d1]), (fun _ v => v = .int .i64 (pk (q1))), (fun _ v => v = .int .i64 ((pk (q1)) + 1)), (fun _ v => v = .int .i64 (spk ((pk (q1)) + 1))), (fun _ v => v = .agg #[.bool b1, .slice ad1 n1 c1, .slice ae1 m1 d1]), (fun _ v => v = .int .i64 (pk (q1))), (fun _ v => v = .int .i64 (spk (pk (q1)))), (fun _ v => v = .int .i64 ((spk ((pk (q1)) + 1)) - (spk (pk (q1)))))] [] (by decide +kernel) (by decide +kernel) rfl rfl rfl ⟨(Mb.eq _), (Mb.eq _), (Mb.eq _), (Mb.eq _), (Mb.eq _), (Mb.eq _), (Mb.eq _), (Mb.eq _), trivial⟩ trivial ⟨?_, ?_, ?_, ?_, ?_, ?_, ?_, ?_, trivial⟩ ?_
  · intro a' w' hF' hb hd
    exact dv0 (r_load (hF'.at 1 rfl) (ld_RRat (vs := [.bool b1, .slice ad1 n1 c1, .slice ae1 m1 d1]) (o1.below hb) rfl rfl)) rfl rfl rfl
  · intro a' w' hF' hb hd
    have e3 := sHe hd 0 3 rfl rfl rfl rfl
    exact dcx0 (r_call Tryz.func120 en120.1 en120.2 (map1 e3)) (rplace2_any _ (q1) k i _ (h1.below (below_to bel hb)) li1 (by omega) (by omega) (by omega)) (fun _ => rfl) rfl rfl
  · intro a' w' hF' hb hd
    have e4 := sHe hd 0 4 rfl rfl rfl rfl
    have hpk := pk_bd (q1)
    exact dv0 (r_bin e4 ev_c eg_scalar (ia_add (by omega) (by omega))) rfl rfl rfl
  · intro a' w' hF' hb hd
    have e5 := sHe hd 0 5 rfl rfl rfl rfl
    exact dcx0 (r_call Tryz.func121 en121.1 en121.2 (map1 e5)) (rsine_any ((pk (q1)) + 1) _) (fun _ => rfl) rfl rfl
  · intro a' w' hF' hb hd
    exact dv0 (r_load (hF'.at 1 rfl) (ld_RRat (vs := [.bool b1, .slice ad1 n1 c1, .slice ae1 m1 d1]) (o1.below hb) rfl rfl)) rfl rfl rfl
  · intro a' w' hF' hb hd
    have e7 := sHe hd 0 7 rfl rfl rfl rfl
    exact dcx0 (r_call Tryz.func120 en120.1 en120.2 (map1 e7)) (rplace2_any _ (q1) k i _ (h1.below (below_to bel hb)) li1 (by omega) (by omega) (by omega)) (fun _ => rfl) rfl rfl
  · intro a' w' hF' hb hd
    have e8 := sHe hd 0 8 rfl rfl rfl rfl
    have hpk := pk_bd (q1)
    exact dcx0 (r_call Tryz.func121 en121.1 en121.2 (map1 e8)) (rsine_any (pk (q1)) _) (fun _ => rfl) rfl rfl
  · intro a' w' hF' hb hd
    have e6 := sHe hd 0 6 rfl rfl rfl rfl
    have e9 := sHe hd 1 9 rfl rfl rfl rfl
    exact dv0 (r_bin e6 e9 eg_scalar (ia_sub (by omega) (by omega))) rfl rfl rfl
  intro a w2 hF bb hall hne
  have e10 := sSe hall 7 10 rfl rfl
  clear hall hne
  replace bel := below_to bel bb
  clear bb
  replace hF := hF.add e10
  clear e10
  refine E.opset (L' := [(2, .int .i64 ((spk ((pk (q1)) + 1)) - (spk (pk (q1))))), (10, .int .i64 ((spk ((pk (q1)) + 1)) - (spk (pk (q1))))), (1, .pointer (some ⟨g1, 0, none⟩)), (0, .agg #[.bool b1, .slice ad1 n1 c1, .slice ae1 m1 d1])]) hF (r_assign (hF.at 0 rfl)) rfl rfl rfl rfl fun a hF => ?_
  refine E.nil ?_
  refine wp_ret ?_
  refine bodyPost_ret (res_tmp Tryz.results122 (hF.at 0 rfl)) hF.dfr ?_
  exact ⟨rfl, bel⟩

set_option maxHeartbeats 4000000 in
theorem rsof2_any (v1 : Value) (q1 : Rat) (k i : Nat) (w : World) (h1 : Rr w v1 q1 k) (li1 : RLim q1 i) (hp : 1 ≤ k) (hk : k ≤ 700) (hi : i ≤ 300) :
    Calls Tryz.prog 81 #[v1] w (RrPost w (sof q1) (k + i + 40)) := by
  obtain ⟨b1, ad1, n1, c1, ae1, m1, d1, z1, D1, rfl, hn1, hd1, hD1, hq1, lz1, lD1⟩ := h1.shape
  have h1 : Rr w (.agg #[.bool b1, .slice ad1 n1 c1, .slice ae1 m1 d1]) q1 k := ⟨_, _, _, _, _, _, _, _, _, rfl, hn1, hd1, hD1, hq1, lz1, lD1⟩
  have ha1 := hn1.abs
  have hb1 := hn1.neg
  replace hq1 := Lib.hid hq1
  have hpk := pk_bd q1
  have bel : Below w.heap.size w w := Below.refl _ _
  refine E.enter (nt := 27) (L := [(0, .agg #[.bool b1, .slice ad1 n1 c1, .slice ae1 m1 d1])]) Tryz.func81 rfl rfl rfl (args_cons (i := 0) rfl args_nil) ?_
  intro a hF
  refine wp_seq ?_
  refine E.seq ?_
  obtain ⟨g1, w1, ge1, hr, bb, o1⟩ := own_box (P := Tryz.prog) (w := w) (cs := [.bool b1, .slice ad1 n1 c1, .slice ae1 m1 d1]) (v := .agg #[.bool b1, .slice ad1 n1 c1, .slice ae1 m1 d1]) 39 rfl (niB (niS (niS ni0)))
  replace ge1 : w.heap.size ≤ g1 := by rw [← ge1]; exact bel.size
  refine E.opv hF (r_box (hF.at 0 rfl) hr) rfl rfl rfl rfl fun a hF => ?_
  clear hr
  replace bel := below_to bel bb
  clear bb
  obtain ⟨g2, w2, ge2, hr, bb, o2⟩ := own_alloc (P := Tryz.prog) (w := w1) (cs := [.bool false, .slice none 0 0, .slice none 0 0]) 39 ze_RRat rfl (niB (niS (niS ni0)))
  have ne1_2 : g1 ≠ g2 := by rw [← ge2]; exact o1.ne_new
  replace ge2 : w.heap.size ≤ g2 := by rw [← ge2]; exact bel.size
  refine E.opv hF (r_alloc hr) rfl rfl rfl rfl fun a hF => ?_
  clear hr
  replace o1 := o1.below bb
  replace bel := below_to bel bb
  clear bb
  refine E.nil ?_
  refine wp_seq ?_
  refine E.drawn 6 mixed hF [5, 6, 7, 8, 9, 3] [(fun _ v => v = .agg #[.bool b1, .slice ad1 n1 c1, .slice ae1 m1 d1]), (fun w v => Rr w v (((4 : Int) : Rat) / ((15 : Int) : Rat)) (2)), (fun w v => Rr w v ((q1) * (((4 : Int) : Rat) / ((15 : Int) : Rat))) ((k + 2))), (fun w v => Rr w v (((96 : Int) : Rat)) (2)), (fun w v => Rr w v (rmod ((q1) * (((4 : Int) : Rat) / ((15 : Int) : Rat))) (((96 : Int) : Rat))) (((k + 2) + 2 + (i + 2) + 2 + 3))), (fun w v => ∃ g, v = .pointer (some ⟨g, 0, none⟩) ∧ w2.heap.size ≤ g ∧ Own w g [.bool false, .slice none 0 0, .slice none 0 0])] [5] (by decide +kernel) (by decide +kernel) rfl rfl rfl ⟨(Mb.eq _), (fun _ _ _ h hb => h.below hb), (fun _ _ _ h hb => h.below hb), (fun _ _ _ h hb => h.below hb), (fun _ _ _ h hb => h.below hb), (fun _ _ _ ⟨g, e, l, o⟩ hb => ⟨g, e, l, o.below hb⟩), trivial⟩ ⟨fun _ _ ⟨g, e, _, o⟩ => ⟨g, e, o.lt⟩, trivial⟩ ⟨?_, ?_, ?_, ?_, ?_, ?_, trivial⟩ ?_
  · intro a' w' hF' hb hd
    exact dv0 (r_load (hF'.at 1 rfl) (ld_RRat (vs := [.bool b1, .slice ad1 n1 c1, .slice ae1 m1 d1]) (o1.below hb) rfl rfl)) rfl rfl rfl
  · intro a' w' hF' hb hd
    exact dc0 (r_call Tryz.func43 en43.1 en43.2 (map2 ev_c ev_c)) (dOf_any (4) (15) _ (by decide) (by decide) (by decide) (by decide)) rfl rfl
  · intro a' w' hF' hb hd
    have e5 := sHe hd 0 5 rfl rfl rfl rfl
    obtain ⟨v6_0, e6, h6_1⟩ := sH hd 1 6 rfl rfl rfl rfl
    exact dc0 (r_call Tryz.func83 en83.1 en83.2 (map2 e5 e6)) (dMul2_any _ _ (q1) _ k 2 _ (h1.below (below_to bel hb)) h6_1 (by omega) (by omega) (by omega) (by omega)) rfl rfl
  · intro a' w' hF' hb hd
    exact dc0 (r_call Tryz.func43 en43.1 en43.2 (map2 ev_c ev_c)) (dOf1b_any (96) _ (by decide) (by decide)) rfl rfl
  · intro a' w' hF' hb hd
    obtain ⟨v7_0, e7, h7_1⟩ := sH hd 0 7 rfl rfl rfl rfl
    obtain ⟨v8_0, e8, h8_1⟩ := sH hd 1 8 rfl rfl rfl rfl
    exact dc0 (r_call Tryz.func48 en48.1 en48.2 (map2 e7 e8)) (dMod2_any _ _ _ _ (k + 2) 2 (i + 2) 2 _ h7_1 h8_1 (rlim_mul li1 (RLim.up (rlim_mk2 (limz_64 (by decide) (by decide)) (limz_64 (by decide) (by decide))) 2 (by decide))) (lim64 (by decide) (by decide)) (by omega) (by omega) (by omega) (by omega) (by omega) (by omega)) rfl rfl
  · intro a' w' hF' hb hd
    obtain ⟨g, w2, ge, hr, bb, on⟩ := own_alloc (P := Tryz.prog) (w := w') (cs := [.bool false, .slice none 0 0, .slice none 0 0]) 39 ze_RRat rfl (niB (niS (niS ni0)))
    subst ge
    exact if_does (wanted_free rfl) (Does.vals (r_alloc hr) ⟨⟨_, rfl, hb.size, on⟩, bb, fun _ => rfl⟩)
  intro a w3 hF bb hall hne
  obtain ⟨vv4, e9, hh5⟩ := sS hall 4 9 rfl rfl
  obtain ⟨g3, e3, ge3, o3⟩ : ∃ g, a.tmps.getD 3 undef = .pointer (some ⟨g, 0, none⟩) ∧ w2.heap.size ≤ g ∧ Own w3 g [.bool false, .slice none 0 0, .slice none 0 0] := hall 5 3 rfl
  have ne1_3 : g1 ≠ g3 := Nat.ne_of_lt (Nat.lt_of_lt_of_le o1.lt ge3)
  have ne2_3 : g2 ≠ g3 := Nat.ne_of_lt (Nat.lt_of_lt_of_le o2.lt ge3)
  replace ge3 : w.heap.size ≤ g3 := Nat.le_trans bel.size ge3
  clear hall hne
  replace o1 := o1.below bb
  replace o2 := o2.below bb
  replace bel := below_to bel bb
  clear bb
  obtain ⟨b6, ad6, n6, c6, ae6, m6, d6, z6, D6, rfl, hn6, hd6, hD6, hq6, lz6, lD6⟩ := Rr.shape hh5
  have ha6 := hn6.abs
  replace hF := hF.add e9
  clear e9
  replace hF := hF.add e3
  clear e3
  obtain ⟨w7, hr, tu, on⟩ := st_RRat (vs := [.bool b6, .slice ad6 n6 c6, .slice ae6 m6 d6]) o3 rfl rfl (ocB (ocS (ocS oc0))) (niB (niS (niS ni0))) (o := 0) rfl
  have kp := tu.keep o3
  refine E.st hF (r_store (hF.at 0 rfl) (hF.at 1 rfl) (hr _ rfl)) rfl rfl fun a hF => ?_
  clear hr
  replace hh5 := hh5.keep kp
  replace hn6 := hn6.keep kp
  replace ha6 := ha6.keep kp
  replace hd6 := hd6.keep kp
  replace o1 := tu.own o1 ne1_3
  replace o2 := tu.own o2 ne2_3
  replace bel := tu.below bel ge3
  clear tu kp
  replace o3 := on
  clear on
  refine E.nil ?_
  refine wp_seq ?_
  refine E.drawn 6 mixed hF [10, 11, 12, 13, 14, 4] [(fun _ v => v = .agg #[.bool b6, .slice ad6 n6 c6, .slice ae6 m6 d6]), (fun _ v => v = .agg #[.bool b1, .slice ad1 n1 c1, .slice ae1 m1 d1]), (fun _ v => v = .int .i64 (pk (q1))), (fun w v => Rr w v (((pk (q1) : Int) : Rat)) (2)), (fun w v => Rr w v ((rmod ((q1) * (((4 : Int) : Rat) / ((15 : Int) : Rat))) (((96 : Int) : Rat))) - (((pk (q1) : Int) : Rat))) ((((k + 2) + 2 + (i + 2) + 2 + 3) + 2 + 1))), (fun w v => ∃ g, v = .pointer (some ⟨g, 0, none⟩) ∧ w7.heap.size ≤ g ∧ Own w g [.bool false, .slice none 0 0, .slice none 0 0])] [5] (by decide +kernel) (by decide +kernel) rfl rfl rfl ⟨(Mb.eq _), (Mb.eq _), (Mb.eq _), (fun _ _ _ h hb => h.below hb), (fun _ _ _ h hb => h.below hb), (fun _ _ _ ⟨g, e, l, o⟩ hb => ⟨g, e, l, o.below hb⟩), trivial⟩ ⟨fun _ _ ⟨g, e, _, o⟩ => ⟨g, e, o.lt⟩, trivial⟩ ⟨?_, ?_, ?_, ?_, ?_, ?_, trivial⟩ ?_
  · intro a' w' hF' hb hd
    exact dv0 (r_load (hF'.at 0 rfl) (ld_RRat (vs := [.bool b6, .slice ad6 n6 c6, .slice ae6 m6 d6]) (o3.below hb) rfl rfl)) rfl rfl rfl
  · intro a' w' hF' hb hd
    exact dv0 (r_load (hF'.at 3 rfl) (ld_RRat (vs := [.bool b1, .slice ad1 n1 c1, .slice ae1 m1 d1]) (o1.below hb) rfl rfl)) rfl rfl rfl
  · intro a' w' hF' hb hd
    have e11 := sHe hd 0 11 rfl rfl rfl rfl
    exact dcx0 (r_call Tryz.func120 en120.1 en120.2 (map1 e11)) (rplace2_any _ (q1) k i _ (h1.below (below_to bel hb)) li1 (by omega) (by omega) (by omega)) (fun _ => rfl) rfl rfl
  · intro a' w' hF' hb hd
    have e12 := sHe hd 0 12 rfl rfl rfl rfl
    have hpk := pk_bd (q1)
    exact dc0 (r_call Tryz.func43 en43.1 en43.2 (map2 e12 ev_c)) (dOf1b_any (pk (q1)) _ (by omega) (by omega)) rfl rfl
  · intro a' w' hF' hb hd
    have e10 := sHe hd 0 10 rfl rfl rfl rfl
    obtain ⟨v13_0, e13, h13_1⟩ := sH hd 1 13 rfl rfl rfl rfl
    exact dc0 (r_call Tryz.func49 en49.1 en49.2 (map2 e10 e13)) (dSub2_any _ _ _ _ ((k + 2) + 2 + (i + 2) + 2 + 3) 2 _ (hh5.below hb) h13_1 (by omega) (by omega) (by omega) (by omega)) rfl rfl
  · intro a' w' hF' hb hd
    obtain ⟨g, w2, ge, hr, bb, on⟩ := own_alloc (P := Tryz.prog) (w := w') (cs := [.bool false, .slice none 0 0, .slice none 0 0]) 39 ze_RRat rfl (niB (niS (niS ni0)))
    subst ge
    exact if_does (wanted_free rfl) (Does.vals (r_alloc hr) ⟨⟨_, rfl, hb.size, on⟩, bb, fun _ => rfl⟩)
  intro a w8 hF bb hall hne
  obtain ⟨vv9, e14, hh10⟩ := sS hall 4 14 rfl rfl
  obtain ⟨g4, e4, ge4, o4⟩ : ∃ g, a.tmps.getD 4 undef = .pointer (some ⟨g, 0, none⟩) ∧ w7.heap.size ≤ g ∧ Own w8 g [.bool false, .slice none 0 0, .slice none 0 0] := hall 5 4 rfl
  have ne1_4 : g1 ≠ g4 := Nat.ne_of_lt (Nat.lt_of_lt_of_le o1.lt ge4)
  have ne2_4 : g2 ≠ g4 := Nat.ne_of_lt (Nat.lt_of_lt_of_le o2.lt ge4)
  replace ge4 : w.heap.size ≤ g4 := Nat.le_trans bel.size ge4
  clear hall hne
  replace o1 := o1.below bb
  replace o2 := o2.below bb
  replace bel := below_to bel bb
  clear bb
  obtain ⟨b11, ad11, n11, c11, ae11, m11, d11, z11, D11, rfl, hn11, hd11, hD11, hq11, lz11, lD11⟩ := Rr.shape hh10
  have ha11 := hn11.abs
  replace hF := hF.add e14
  clear e14
  replace hF := hF.add e4
  clear e4
  obtain ⟨w12, hr, tu, on⟩ := st_RRat (vs := [.bool b11, .slice ad11 n11 c11, .slice ae11 m11 d11]) o4 rfl rfl (ocB (ocS (ocS oc0))) (niB (niS (niS ni0))) (o := 0) rfl
  have kp := tu.keep o4
  refine E.st hF (r_store (hF.at 0 rfl) (hF.at 1 rfl) (hr _ rfl)) rfl rfl fun a hF => ?_
  clear hr
  replace hh10 := hh10.keep kp
  replace hn11 := hn11.keep kp
  replace ha11 := ha11.keep kp
  replace hd11 := hd11.keep kp
  replace o1 := tu.own o1 ne1_4
  replace o2 := tu.own o2 ne2_4
  replace bel := tu.below bel ge4
  clear tu kp
  replace o4 := on
  clear on
  refine E.nil ?_
  refine wp_seq ?_
  refine E.drawn 12 mixed hF [15, 16, 17, 18, 19, 20, 21, 22, 23, 24, 25, 26] [(fun _ v => v = .agg #[.bool b1, .slice ad1 n1 c1, .slice ae1 m1 d1]), (fun _ v => v = .int .i64 (pk (q1))), (fun _ v => v = .int .i64 (spk (pk (q1)))), (fun w v => Rr w v (((spk (pk (q1)) : Int) : Rat)) (2)), (fun _ v => v = .agg #[.bool b11, .slice ad11 n11 c11, .slice ae11 m11 d11]), (fun _ v => v = .agg #[.bool b1, .slice ad1 n1 c1, .slice ae1 m1 d1]), (fun _ v => v = .int .i64 (spk (pk (q1) + 1) - spk (pk (q1)))), (fun w v => Rr w v (((spk (pk (q1) + 1) - spk (pk (q1)) : Int) : Rat)) (2)), (fun w v => Rr w v (((rmod ((q1) * (((4 : Int) : Rat) / ((15 : Int) : Rat))) (((96 : Int) : Rat))) - (((pk (q1) : Int) : Rat))) * (((spk (pk (q1) + 1) - spk (pk (q1)) : Int) : Rat))) (((((k + 2) + 2 + (i + 2) + 2 + 3) + 2 + 1) + 2))), (fun w v => Rr w v ((((spk (pk (q1)) : Int) : Rat)) + (((rmod ((q1) * (((4 : Int) : Rat) / ((15 : Int) : Rat))) (((96 : Int) : Rat))) - (((pk (q1) : Int) : Rat))) * (((spk (pk (q1) + 1) - spk (pk (q1)) : Int) : Rat)))) ((2 + ((((k + 2) + 2 + (i + 2) + 2 + 3) + 2 + 1) + 2) + 1))), (fun w v => Rr w v (((1 : Int) : Rat) / ((3438 : Int) : Rat)) (2)), (fun w v => Rr w v (((((spk (pk (q1)) : Int) : Rat)) + (((rmod ((q1) * (((4 : Int) : Rat) / ((15 : Int) : Rat))) (((96 : Int) : Rat))) - (((pk (q1) : Int) : Rat))) * (((spk (pk (q1) + 1) - spk (pk (q1)) : Int) : Rat)))) * (((1 : Int) : Rat) / ((3438 : Int) : Rat))) (((2 + ((((k + 2) + 2 + (i + 2) + 2 + 3) + 2 + 1) + 2) + 1) + 2)))] [] (by decide +kernel) (by decide +kernel) rfl rfl rfl ⟨(Mb.eq _), (Mb.eq _), (Mb.eq _), (fun _ _ _ h hb => h.below hb), (Mb.eq _), (Mb.eq _), (Mb.eq _), (fun _ _ _ h hb => h.below hb), (fun _ _ _ h hb => h.below hb), (fun _ _ _ h hb => h.below hb), (fun _ _ _ h hb => h.below hb), (fun _ _ _ h hb => h.below hb), trivial⟩ trivial ⟨?_, ?_, ?_, ?_, ?_, ?_, ?_, ?_, ?_, ?_, ?_, ?_, trivial⟩ ?_
  · intro a' w' hF' hb hd
    exact dv0 (r_load (hF'.at 5 rfl) (ld_RRat (vs := [.bool b1, .slice ad1 n1 c1, .slice ae1 m1 d1]) (o1.below hb) rfl rfl)) rfl rfl rfl
  · intro a' w' hF' hb hd
    have e15 := sHe hd 0 15 rfl rfl rfl rfl
    exact dcx0 (r_call Tryz.func120 en120.1 en120.2 (map1 e15)) (rplace2_any _ (q1) k i _ (h1.below (below_to bel hb)) li1 (by omega) (by omega) (by omega)) (fun _ => rfl) rfl rfl
  · intro a' w' hF' hb hd
    have e16 := sHe hd 0 16 rfl rfl rfl rfl
    have hpk := pk_bd (q1)
    exact dcx0 (r_call Tryz.func121 en121.1 en121.2 (map1 e16)) (rsine_any (pk (q1)) _) (fun _ => rfl) rfl rfl
  · intro a' w' hF' hb hd
    have e17 := sHe hd 0 17 rfl rfl rfl rfl
    exact dc0 (r_call Tryz.func43 en43.1 en43.2 (map2 e17 ev_c)) (dOf1b_any (spk (pk (q1))) _ (by have := spk64S (pk (q1)); omega) (by have := spk64S (pk (q1)); omega)) rfl rfl
  · intro a' w' hF' hb hd
    exact dv0 (r_load (hF'.at 0 rfl) (ld_RRat (vs := [.bool b11, .slice ad11 n11 c11, .slice ae11 m11 d11]) (o4.below hb) rfl rfl)) rfl rfl rfl
  · intro a' w' hF' hb hd
    exact dv0 (r_load (hF'.at 5 rfl) (ld_RRat (vs := [.bool b1, .slice ad1 n1 c1, .slice ae1 m1 d1]) (o1.below hb) rfl rfl)) rfl rfl rfl
  · intro a' w' hF' hb hd
    have e20 := sHe hd 0 20 rfl rfl rfl rfl
    exact dcx0 (r_call Tryz.func122 en122.1 en122.2 (map1 e20)) (rstep2_any _ (q1) k i _ (h1.below (below_to bel hb)) li1 (by omega) (by omega) (by omega)) (fun _ => rfl) rfl rfl
  · intro a' w' hF' hb hd
    have e21 := sHe hd 0 21 rfl rfl rfl rfl
    exact dc0 (r_call Tryz.func43 en43.1 en43.2 (map2 e21 ev_c)) (dOf1b_any (spk (pk (q1) + 1) - spk (pk (q1))) _ (by have := dif64S (pk (q1)); omega) (by have := dif64S (pk (q1)); omega)) rfl rfl
  · intro a' w' hF' hb hd
    have e19 := sHe hd 0 19 rfl rfl rfl rfl
    obtain ⟨v22_0, e22, h22_1⟩ := sH hd 1 22 rfl rfl rfl rfl
    exact dc0 (r_call Tryz.func83 en83.1 en83.2 (map2 e19 e22)) (dMul2_any _ _ _ _ (((k + 2) + 2 + (i + 2) + 2 + 3) + 2 + 1) 2 _ (hh10.below hb) h22_1 (by omega) (by omega) (by omega) (by omega)) rfl rfl
  · intro a' w' hF' hb hd
    obtain ⟨v18_0, e18, h18_1⟩ := sH hd 0 18 rfl rfl rfl rfl
    obtain ⟨v23_0, e23, h23_1⟩ := sH hd 1 23 rfl rfl rfl rfl
    exact dc0 (r_call Tryz.func61 en61.1 en61.2 (map2 e18 e23)) (dAdd2_any _ _ _ _ 2 ((((k + 2) + 2 + (i + 2) + 2 + 3) + 2 + 1) + 2) _ h18_1 h23_1 (by omega) (by omega) (by omega) (by omega)) rfl rfl
  · intro a' w' hF' hb hd
    exact dc0 (r_call Tryz.func43 en43.1 en43.2 (map2 ev_c ev_c)) (dOf_any (1) (3438) _ (by decide) (by decide) (by decide) (by decide)) rfl rfl
  · intro a' w' hF' hb hd
    obtain ⟨v24_0, e24, h24_1⟩ := sH hd 0 24 rfl rfl rfl rfl
    obtain ⟨v25_0, e25, h25_1⟩ := sH hd 1 25 rfl rfl rfl rfl
    exact dc0 (r_call Tryz.func83 en83.1 en83.2 (map2 e24 e25)) (dMul2_any _ _ _ _ (2 + ((((k + 2) + 2 + (i + 2) + 2 + 3) + 2 + 1) + 2) + 1) 2 _ h24_1 h25_1 (by omega) (by omega) (by omega) (by omega)) rfl rfl
  intro a w13 hF bb hall hne
  obtain ⟨vv14, e26, hh15⟩ := sS hall 11 26 rfl rfl
  clear hall hne
  replace o2 := o2.below bb
  replace bel := below_to bel bb
  clear bb
  obtain ⟨b16, ad16, n16, c16, ae16, m16, d16, z16, D16, rfl, hn16, hd16, hD16, hq16, lz16, lD16⟩ := Rr.shape hh15
  have ha16 := hn16.abs
  replace hF := hF.add e26
  clear e26
  obtain ⟨w17, hr, tu, on⟩ := st_RRat (vs := [.bool b16, .slice ad16 n16 c16, .slice ae16 m16 d16]) o2 rfl rfl (ocB (ocS (ocS oc0))) (niB (niS (niS ni0))) (o := 0) rfl
  have kp := tu.keep o2
  refine E.st hF (r_store (hF.at 5 rfl) (hF.at 0 rfl) (hr _ rfl)) rfl rfl fun a hF => ?_
  clear hr
  replace hh15 := hh15.keep kp
  replace hn16 := hn16.keep kp
  replace ha16 := ha16.keep kp
  replace hd16 := hd16.keep kp
  replace bel := tu.below bel ge2
  clear tu kp
  replace o2 := on
  clear on
  refine E.nil ?_
  refine wp_ret ?_
  refine bodyPost_ret (res_cell Tryz.results81 (hF.at 5 rfl) (ld_RRat (vs := [.bool b16, .slice ad16 n16 c16, .slice ae16 m16 d16]) o2 rfl rfl)) hF.dfr ?_
  exact ⟨_, rfl, Rr.cast (Rr.up hh15 _ (by omega)) (dsof_eq q1), bel⟩

set_option maxHeartbeats 8000000 in
theorem rarc2_pos (v1 : Value) (q1 : Rat) (k : Nat) (w : World) (h1 : Rr w v1 q1 k) (hp : 1 ≤ k) (hk : k ≤ 1500) (hx : ¬ q1 < 0) :
    Calls Tryz.prog 124 #[v1] w (RrPost w (arcv q1) (k + 20)) := by
  have rl1 := h1.rlim
  obtain ⟨b1, ad1, n1, c1, ae1, m1, d1, z1, D1, rfl, hn1, hd1, hD1, hq1, lz1, lD1⟩ := h1.shape
  have h1 : Rr w (.agg #[.bool b1, .slice ad1 n1 c1, .slice ae1 m1 d1]) q1 k := ⟨_, _, _, _, _, _, _, _, _, rfl, hn1, hd1, hD1, hq1, lz1, lD1⟩
  have ha1 := hn1.abs
  have hb1 := hn1.neg
  replace hq1 := Lib.hid hq1
  have bel : Below w.heap.size w w := Below.refl _ _
  refine E.enter (nt := 44) (L := [(0, .agg #[.bool b1, .slice ad1 n1 c1, .slice ae1 m1 d1])]) Tryz.func124 rfl rfl rfl (args_cons (i := 0) rfl args_nil) ?_
  intro a hF
  refine wp_seq ?_
  refine E.seq ?_
  obtain ⟨g1, w1, ge1, hr, bb, o1⟩ := own_box (P := Tryz.prog) (w := w) (cs := [.bool b1, .slice ad1 n1 c1, .slice ae1 m1 d1]) (v := .agg #[.bool b1, .slice ad1 n1 c1, .slice ae1 m1 d1]) 39 rfl (niB (niS (niS ni0)))
  replace ge1 : w.heap.size ≤ g1 := by rw [← ge1]; exact bel.size
  refine E.opv hF (r_box (hF.at 0 rfl) hr) rfl rfl rfl rfl fun a hF => ?_
  clear hr
  replace bel := below_to bel bb
  clear bb
  obtain ⟨g2, w2, ge2, hr, bb, o2⟩ := own_alloc (P := Tryz.prog) (w := w1) (cs := [.bool false, .slice none 0 0, .slice none 0 0]) 39 ze_RRat rfl (niB (niS (niS ni0)))
  have ne1_2 : g1 ≠ g2 := by rw [← ge2]; exact o1.ne_new
  replace ge2 : w.heap.size ≤ g2 := by rw [← ge2]; exact bel.size
  refine E.opv hF (r_alloc hr) rfl rfl rfl rfl fun a hF => ?_
  clear hr
  replace o1 := o1.below bb
  replace bel := below_to bel bb
  clear bb
  refine E.nil ?_
  refine wp_seq ?_
  refine E.drawn 4 mixed hF [6, 7, 8, 3] [(fun _ v => v = .agg #[.bool b1, .slice ad1 n1 c1, .slice ae1 m1 d1]), (fun w v => Rr w v (((3438 : Int) : Rat)) (2)), (fun w v => Rr w v ((q1) * (((3438 : Int) : Rat))) ((k + 2))), (fun w v => ∃ g, v = .pointer (some ⟨g, 0, none⟩) ∧ w2.heap.size ≤ g ∧ Own w g [.bool false, .slice none 0 0, .slice none 0 0])] [3] (by decide +kernel) (by decide +kernel) rfl rfl rfl ⟨(Mb.eq _), (fun _ _ _ h hb => h.below hb), (fun _ _ _ h hb => h.below hb), (fun _ _ _ ⟨g, e, l, o⟩ hb => ⟨g, e, l, o.below hb⟩), trivial⟩ ⟨fun _ _ ⟨g, e, _, o⟩ => ⟨g, e, o.lt⟩, trivial⟩ ⟨?_, ?_, ?_, ?_, trivial⟩ ?_
  · intro a' w' hF' hb hd
    exact dv0 (r_load (hF'.at 1 rfl) (ld_RRat (vs := [.bool b1, .slice ad1 n1 c1, .slice ae1 m1 d1]) (o1.below hb) rfl rfl)) rfl rfl rfl
  · intro a' w' hF' hb hd
    exact dc0 (r_call Tryz.func43 en43.1 en43.2 (map2 ev_c ev_c)) (dOf1b_any (3438) _ (by decide) (by decide)) rfl rfl
  · intro a' w' hF' hb hd
    have e6 := sHe hd 0 6 rfl rfl rfl rfl
    obtain ⟨v7_0, e7, h7_1⟩ := sH hd 1 7 rfl rfl rfl rfl
    exact dc0 (r_call Tryz.func83 en83.1 en83.2 (map2 e6 e7)) (dMul2_any _ _ (q1) _ k 2 _ (h1.below (below_to bel hb)) h7_1 (by omega) (by omega) (by omega) (by omega)) rfl rfl
  · intro a' w' hF' hb hd
    obtain ⟨g, w2, ge, hr, bb, on⟩ := own_alloc (P := Tryz.prog) (w := w') (cs := [.bool false, .slice none 0 0, .slice none 0 0]) 39 ze_RRat rfl (niB (niS (niS ni0)))
    subst ge
    exact if_does (wanted_free rfl) (Does.vals (r_alloc hr) ⟨⟨_, rfl, hb.size, on⟩, bb, fun _ => rfl⟩)
  intro a w3 hF bb hall hne
  obtain ⟨vv4, e8, hh5⟩ := sS hall 2 8 rfl rfl
  obtain ⟨g3, e3, ge3, o3⟩ : ∃ g, a.tmps.getD 3 undef = .pointer (some ⟨g, 0, none⟩) ∧ w2.heap.size ≤ g ∧ Own w3 g [.bool false, .slice none 0 0, .slice none 0 0] := hall 3 3 rfl
  have ne2_3 : g2 ≠ g3 := Nat.ne_of_lt (Nat.lt_of_lt_of_le o2.lt ge3)
  replace ge3 : w.heap.size ≤ g3 := Nat.le_trans bel.size ge3
  clear hall hne
  replace o2 := o2.below bb
  replace bel := below_to bel bb
  clear bb
  obtain ⟨b6, ad6, n6, c6, ae6, m6, d6, z6, D6, rfl, hn6, hd6, hD6, hq6, lz6, lD6⟩ := Rr.shape hh5
  have ha6 := hn6.abs
  replace hF := hF.add e8
  clear e8
  replace hF := hF.add e3
  clear e3
  obtain ⟨w7, hr, tu, on⟩ := st_RRat (vs := [.bool b6, .slice ad6 n6 c6, .slice ae6 m6 d6]) o3 rfl rfl (ocB (ocS (ocS oc0))) (niB (niS (niS ni0))) (o := 0) rfl
  have kp := tu.keep o3
  refine E.st hF (r_store (hF.at 0 rfl) (hF.at 1 rfl) (hr _ rfl)) rfl rfl fun a hF => ?_
  clear hr
  replace hh5 := hh5.keep kp
  replace hn6 := hn6.keep kp
  replace ha6 := ha6.keep kp
  replace hd6 := hd6.keep kp
  replace o2 := tu.own o2 ne2_3
  replace bel := tu.below bel ge3
  clear tu kp
  replace o3 := on
  clear on
  refine E.nil ?_
  refine wp_seq ?_
  refine E.seq ?_
  refine E.opv hF (r_assign ev_c) rfl rfl rfl rfl fun a hF => ?_
  refine E.nil ?_
  refine wp_seq ?_
  refine wp_block ?_
  refine E.loop (fun mq a wv => ∃ (j : Nat), j ≤ 24 ∧ ykf (q1 * ((3438 : Int) : Rat)) (24 - j) j = yk (q1 * ((3438 : Int) : Rat)) ∧ Fr 44 a [(4, .int .i64 ((j : Nat) : Int)), (3, .pointer (some ⟨g3, 0, none⟩)), (2, .pointer (some ⟨g2, 0, none⟩))] ∧ Below w7.heap.size w7 wv ∧ Below w.heap.size w wv ∧ mq = 24 - j) (24 - 0) ?_ ?_
  · exact ⟨0, (by omega), rfl, hF.sub (by intro p hp; simp only [List.mem_cons, List.not_mem_nil, or_false] at hp ⊢; rcases hp with rfl | rfl | rfl <;> simp), Below.refl _ _, bel, rfl⟩
  · rintro mq a w8 ⟨j, hj, hyk, hF, sty, bel, hm⟩
    replace ha6 := ha6.below sty
    replace hd6 := hd6.below sty
    replace hh5 := hh5.below sty
    replace hn6 := hn6.below sty
    replace o2 := o2.below sty
    replace o3 := o3.below sty
    have hsa := dif64S ((j : Nat) : Int)
    refine wp_seq ?_
    refine wp_seq ?_
    by_cases hc9 : ((j : Nat) : Int) < 24
    · first
      | (exfalso; omega)
      | (by_cases hc10 : 0 < qc ((q1) * (((3438 : Int) : Rat))) (((spk (((j : Nat) : Int) + 1) : Int) : Rat))
         · first
           | (exfalso; omega)
           | (refine E.drawn 11 mixed hF [9, 10, 11, 12, 13, 14, 15, 16, 17, 18, 19] [(fun _ v => v = .int .i64 ((j : Nat) : Int)), (fun _ v => v = .bool true), (fun _ v => v = .bool true), (fun _ v => v = .agg #[.bool b6, .slice ad6 n6 c6, .slice ae6 m6 d6]), (fun _ v => v = .int .i64 ((j : Nat) : Int)), (fun _ v => v = .int .i64 (((j : Nat) : Int) + 1)), (fun _ v => v = .int .i64 (spk (((j : Nat) : Int) + 1))), (fun w v => Rr w v (((spk (((j : Nat) : Int) + 1) : Int) : Rat)) (2)), (fun _ v => v = .int .i64 (qc ((q1) * (((3438 : Int) : Rat))) (((spk (((j : Nat) : Int) + 1) : Int) : Rat)))), (fun _ v => v = .bool true), (fun _ v => v = .bool true)] [] (by decide +kernel) (by decide +kernel) rfl rfl rfl ⟨(Mb.eq _), (Mb.eq _), (Mb.eq _), (Mb.eq _), (Mb.eq _), (Mb.eq _), (Mb.eq _), (fun _ _ _ h hb => h.below hb), (Mb.eq _), (Mb.eq _), (Mb.eq _), trivial⟩ trivial ⟨?_, ?_, ?_, ?_, ?_, ?_, ?_, ?_, ?_, ?_, ?_, trivial⟩ ?_
              · intro a' w' hF' hb hd
                exact dv0 (r_move (hF'.at 0 rfl)) rfl rfl rfl
              · intro a' w' hF' hb hd
                have e9 := sHe hd 0 9 rfl rfl rfl rfl
                exact dv0 (r_bin e9 ev_c eg_scalar (bi_int (ic_lss (c := true) (dec_tt hc9)) (by simp))) rfl rfl rfl
              · intro a' w' hF' hb hd
                have e10 := sHe hd 0 10 rfl rfl rfl rfl
                exact dv0 (r_move e10) rfl rfl rfl
              · intro a' w' hF' hb hd
                have e11 := sHe hd 0 11 rfl rfl rfl rfl
                exact dv1 (wanted_by rfl rfl e11 rfl) (r_load (hF'.at 1 rfl) (ld_RRat (vs := [.bool b6, .slice ad6 n6 c6, .slice ae6 m6 d6]) (o3.below hb) rfl rfl)) rfl rfl
              · intro a' w' hF' hb hd
                have e11 := sHe hd 0 11 rfl rfl rfl rfl
                exact dv1 (wanted_by rfl rfl e11 rfl) (r_move (hF'.at 0 rfl)) rfl rfl
              · intro a' w' hF' hb hd
                have e11 := sHe hd 1 11 rfl rfl rfl rfl
                have e13 := sHe hd 0 13 rfl rfl rfl rfl
                exact dv1 (wanted_by rfl rfl e11 rfl) (r_bin e13 ev_c eg_scalar (ia_add (by omega) (by omega))) rfl rfl
              · intro a' w' hF' hb hd
                have e11 := sHe hd 1 11 rfl rfl rfl rfl
                have e14 := sHe hd 0 14 rfl rfl rfl rfl
                exact dcx1 (wanted_by rfl rfl e11 rfl) (r_call Tryz.func147 en147.1 en147.2 (map1 e14)) (high_spd (((j : Nat) : Int) + 1) _ (by omega) (by omega)) (fun _ => rfl) rfl
              · intro a' w' hF' hb hd
                have e11 := sHe hd 2 11 rfl rfl rfl rfl
                have e15 := sHe hd 0 15 rfl rfl rfl rfl
                exact dc1 (wanted_by rfl rfl e11 rfl) (r_call Tryz.func43 en43.1 en43.2 (map2 e15 ev_c)) (dOf1b_any (spk (((j : Nat) : Int) + 1)) _ (by have := spk64S (((j : Nat) : Int) + 1); omega) (by have := spk64S (((j : Nat) : Int) + 1); omega)) rfl
              · intro a' w' hF' hb hd
                have e11 := sHe hd 3 11 rfl rfl rfl rfl
                have e12 := sHe hd 0 12 rfl rfl rfl rfl
                obtain ⟨v16_0, e16, h16_1⟩ := sH hd 1 16 rfl rfl rfl rfl
                exact dcx1 (wanted_by rfl rfl e11 rfl) (r_call Tryz.func146 en146.1 en146.2 (map2 e12 e16)) (dCmp2_any _ _ _ _ (k + 2) 2 _ (hh5.below hb) h16_1 (by omega) (by omega)) (fun _ => rfl) rfl
              · intro a' w' hF' hb hd
                have e11 := sHe hd 1 11 rfl rfl rfl rfl
                have e17 := sHe hd 0 17 rfl rfl rfl rfl
                exact dv1 (wanted_by rfl rfl e11 rfl) (r_bin e17 ev_c eg_scalar (bi_int (ic_gtr (c := true) (dec_tt hc10)) (by simp))) rfl rfl
              · intro a' w' hF' hb hd
                have e11 := sHe hd 0 11 rfl rfl rfl rfl
                have e18 := sHe hd 1 18 rfl rfl rfl rfl
                exact dv0 (r_pick_t e11 e18) rfl rfl rfl
              intro a w11 hF bb hall hne
              have e19 := sSe hall 10 19 rfl rfl
              clear hall hne
              replace ha6 := ha6.below bb
              replace hd6 := hd6.below bb
              replace hh5 := hh5.below bb
              replace hn6 := hn6.below bb
              replace o2 := o2.below bb
              replace o3 := o3.below bb
              replace sty := below_to sty bb
              replace bel := below_to bel bb
              clear bb
              replace hF := hF.add e19
              clear e19
              refine E.nil ?_
              refine wp_cond_true (hF.at 0 rfl) ?_
              refine wp_skip ?_
              refine E.norm ?_
              refine wp_block ?_
              refine E.seq ?_
              refine E.opv hF (r_move (hF.at 1 rfl)) rfl rfl rfl rfl fun a hF => ?_
              refine E.opv hF (r_bin (hF.at 0 rfl) ev_c eg_scalar (ia_add (by omega) (by omega))) rfl rfl rfl rfl fun a hF => ?_
              refine E.opset (L' := [(4, .int .i64 (((j : Nat) : Int) + 1)), (21, .int .i64 (((j : Nat) : Int) + 1)), (20, .int .i64 ((j : Nat) : Int)), (19, .bool true), (3, .pointer (some ⟨g3, 0, none⟩)), (2, .pointer (some ⟨g2, 0, none⟩))]) hF (r_assign (hF.at 0 rfl)) rfl rfl rfl rfl fun a hF => ?_
              refine E.nil0 ?_
              refine E.blk ?_
              refine E.norm ?_
              exact ⟨24 - (j + 1), by omega, ⟨(j + 1), (by omega), (yk_next (by omega) hyk hc10), (by rw [show ((j + 1 : Nat) : Int) = ((j : Nat) : Int) + 1 from by omega]; exact Fr.sub (L' := [(4, .int .i64 (((j : Nat) : Int) + 1)), (3, .pointer (some ⟨g3, 0, none⟩)), (2, .pointer (some ⟨g2, 0, none⟩))]) hF (by intro p hp; simp only [List.mem_cons, List.not_mem_nil, or_false] at hp ⊢; rcases hp with rfl | rfl | rfl <;> simp)), sty, bel, rfl⟩⟩)
         · first
           | (exfalso; omega)
           | (refine E.drawn 11 mixed hF [9, 10, 11, 12, 13, 14, 15, 16, 17, 18, 19] [(fun _ v => v = .int .i64 ((j : Nat) : Int)), (fun _ v => v = .bool true), (fun _ v => v = .bool true), (fun _ v => v = .agg #[.bool b6, .slice ad6 n6 c6, .slice ae6 m6 d6]), (fun _ v => v = .int .i64 ((j : Nat) : Int)), (fun _ v => v = .int .i64 (((j : Nat) : Int) + 1)), (fun _ v => v = .int .i64 (spk (((j : Nat) : Int) + 1))), (fun w v => Rr w v (((spk (((j : Nat) : Int) + 1) : Int) : Rat)) (2)), (fun _ v => v = .int .i64 (qc ((q1) * (((3438 : Int) : Rat))) (((spk (((j : Nat) : Int) + 1) : Int) : Rat)))), (fun _ v => v = .bool false), (fun _ v => v = .bool false)] [] (by decide +kernel) (by decide +kernel) rfl rfl rfl ⟨(Mb.eq _), (Mb.eq _), (Mb.eq _), (Mb.eq _), (Mb.eq _), (Mb.eq _), (Mb.eq _), (fun _ _ _ h hb => h.below hb), (Mb.eq _), (Mb.eq _), (Mb.eq _), trivial⟩ trivial ⟨?_, ?_, ?_, ?_, ?_, ?_, ?_, ?_, ?_, ?_, ?_, trivial⟩ ?_
              · intro a' w' hF' hb hd
                exact dv0 (r_move (hF'.at 0 rfl)) rfl rfl rfl
              · intro a' w' hF' hb hd
                have e9 := sHe hd 0 9 rfl rfl rfl rfl
                exact dv0 (r_bin e9 ev_c eg_scalar (bi_int (ic_lss (c := true) (dec_tt hc9)) (by simp))) rfl rfl rfl
              · intro a' w' hF' hb hd
                have e10 := sHe hd 0 10 rfl rfl rfl rfl
                exact dv0 (r_move e10) rfl rfl rfl
              · intro a' w' hF' hb hd
                have e11 := sHe hd 0 11 rfl rfl rfl rfl
                exact dv1 (wanted_by rfl rfl e11 rfl) (r_load (hF'.at 1 rfl) (ld_RRat (vs := [.bool b6, .slice ad6 n6 c6, .slice ae6 m6 d6]) (o3.below hb) rfl rfl)) rfl rfl
              · intro a' w' hF' hb hd
                have e11 := sHe hd 0 11 rfl rfl rfl rfl
                exact dv1 (wanted_by rfl rfl e11 rfl) (r_move (hF'.at 0 rfl)) rfl rfl
              · intro a' w' hF' hb hd
                have e11 := sHe hd 1 11 rfl rfl rfl rfl
                have e13 := sHe hd 0 13 rfl rfl rfl rfl
                exact dv1 (wanted_by rfl rfl e11 rfl) (r_bin e13 ev_c eg_scalar (ia_add (by omega) (by omega))) rfl rfl
              · intro a' w' hF' hb hd
                have e11 := sHe hd 1 11 rfl rfl rfl rfl
                have e14 := sHe hd 0 14 rfl rfl rfl rfl
                exact dcx1 (wanted_by rfl rfl e11 rfl) (r_call Tryz.func147 en147.1 en147.2 (map1 e14)) (high_spd (((j : Nat) : Int) + 1) _ (by omega) (by omega)) (fun _ => rfl) rfl
              · intro a' w' hF' hb hd
                have e11 := sHe hd 2 11 rfl rfl rfl rfl
                have e15 := sHe hd 0 15 rfl rfl rfl rfl
                exact dc1 (wanted_by rfl rfl e11 rfl) (r_call Tryz.func43 en43.1 en43.2 (map2 e15 ev_c)) (dOf1b_any (spk (((j : Nat) : Int) + 1)) _ (by have := spk64S (((j : Nat) : Int) + 1); omega) (by have := spk64S (((j : Nat) : Int) + 1); omega)) rfl
              · intro a' w' hF' hb hd
                have e11 := sHe hd 3 11 rfl rfl rfl rfl
                have e12 := sHe hd 0 12 rfl rfl rfl rfl
                obtain ⟨v16_0, e16, h16_1⟩ := sH hd 1 16 rfl rfl rfl rfl
                exact dcx1 (wanted_by rfl rfl e11 rfl) (r_call Tryz.func146 en146.1 en146.2 (map2 e12 e16)) (dCmp2_any _ _ _ _ (k + 2) 2 _ (hh5.below hb) h16_1 (by omega) (by omega)) (fun _ => rfl) rfl
              · intro a' w' hF' hb hd
                have e11 := sHe hd 1 11 rfl rfl rfl rfl
                have e17 := sHe hd 0 17 rfl rfl rfl rfl
                exact dv1 (wanted_by rfl rfl e11 rfl) (r_bin e17 ev_c eg_scalar (bi_int (ic_gtr (c := false) (dec_ff hc10)) (by simp))) rfl rfl
              · intro a' w' hF' hb hd
                have e11 := sHe hd 0 11 rfl rfl rfl rfl
                have e18 := sHe hd 1 18 rfl rfl rfl rfl
                exact dv0 (r_pick_t e11 e18) rfl rfl rfl
              intro a w12 hF bb hall hne
              have e19 := sSe hall 10 19 rfl rfl
              clear hall hne
              replace ha6 := ha6.below bb
              replace hd6 := hd6.below bb
              replace hh5 := hh5.below bb
              replace hn6 := hn6.below bb
              replace o2 := o2.below bb
              replace o3 := o3.below bb
              replace sty := below_to sty bb
              replace bel := below_to bel bb
              clear bb
              replace hF := hF.add e19
              clear e19
              refine E.nil ?_
              refine wp_cond_false (hF.at 0 rfl) ?_
              refine wp_exit ?_
              refine E.past ?_
              refine E.past ?_
              refine E.out (id := 0) ?_
              refine E.norm ?_
              refine wp_seq ?_
              refine wp_seq ?_
              refine E.seq ?_
              refine E.opv hF (r_move (hF.at 1 rfl)) rfl rfl rfl rfl fun a hF => ?_
              by_cases hc13 : ((j : Nat) : Int) = 24
              · first
                | (exfalso; omega)
                | (refine E.opv hF (r_bin (hF.at 0 rfl) ev_c eg_scalar (bi_int (ic_eql (c := true) (dec_tt hc13)) (by simp))) rfl rfl rfl rfl fun a hF => ?_
                   refine E.nil ?_
                   refine wp_cond_true (hF.at 0 rfl) ?_
                   refine wp_seq ?_
                   refine E.seq ?_
                   refine E.call hF (r_call Tryz.func43 en43.1 en43.2 (map2 ev_c ev_c)) (dOf1b_any (90) _ (by decide) (by decide)) rfl rfl rfl rfl ?_
                   rintro e w14 ⟨vv15, rfl, hh16, bb⟩
                   refine ⟨_, rfl, ?_⟩
                   intro a hF
                   replace ha6 := ha6.below bb
                   replace hd6 := hd6.below bb
                   replace hh5 := hh5.below bb
                   replace hn6 := hn6.below bb
                   replace o2 := o2.below bb
                   replace o3 := o3.below bb
                   replace bel := below_to bel bb
                   clear bb
                   obtain ⟨b17, ad17, n17, c17, ae17, m17, d17, z17, D17, rfl, hn17, hd17, hD17, hq17, lz17, lD17⟩ := Rr.shape hh16
                   have ha17 := hn17.abs
                   obtain ⟨w18, hr, tu, on⟩ := st_RRat (vs := [.bool b17, .slice ad17 n17 c17, .slice ae17 m17 d17]) o2 rfl rfl (ocB (ocS (ocS oc0))) (niB (niS (niS ni0))) (o := 0) rfl
                   have kp := tu.keep o2
                   refine E.st hF (r_store (hF.at 6 rfl) (hF.at 0 rfl) (hr _ rfl)) rfl rfl fun a hF => ?_
                   clear hr
                   replace ha6 := ha6.keep kp
                   replace hd6 := hd6.keep kp
                   replace hh5 := hh5.keep kp
                   replace hn6 := hn6.keep kp
                   replace hh16 := hh16.keep kp
                   replace hn17 := hn17.keep kp
                   replace ha17 := ha17.keep kp
                   replace hd17 := hd17.keep kp
                   replace o3 := tu.own o3 (Ne.symm ne2_3)
                   replace bel := tu.below bel ge2
                   clear tu kp
                   replace o2 := on
                   clear on
                   refine E.nil ?_
                   refine wp_ret ?_
                   refine bodyPost_ret (res_cell Tryz.results124 (hF.at 6 rfl) (ld_RRat (vs := [.bool b17, .slice ad17 n17 c17, .slice ae17 m17 d17]) o2 rfl rfl)) hF.dfr ?_
                   have e24 : j = 24 := by omega
                   subst e24
                   exact ⟨_, rfl, Rr.cast (Rr.up hh16 _ (by omega)) (arc_end hx hyk.symm), bel⟩)
              · first
                | (exfalso; omega)
                | (refine E.opv hF (r_bin (hF.at 0 rfl) ev_c eg_scalar (bi_int (ic_eql (c := false) (dec_ff hc13)) (by simp))) rfl rfl rfl rfl fun a hF => ?_
                   refine E.nil ?_
                   refine wp_cond_false (hF.at 0 rfl) ?_
                   refine wp_skip ?_
                   refine E.norm ?_
                   refine wp_seq ?_
                   refine E.drawn 14 mixed hF [25, 26, 27, 28, 29, 30, 31, 32, 33, 34, 35, 36, 37, 5] [(fun _ v => v = .agg #[.bool b6, .slice ad6 n6 c6, .slice ae6 m6 d6]), (fun _ v => v = .int .i64 ((j : Nat) : Int)), (fun _ v => v = .int .i64 (spk ((j : Nat) : Int))), (fun w v => Rr w v (((spk ((j : Nat) : Int) : Int) : Rat)) (2)), (fun w v => Rr w v (((q1) * (((3438 : Int) : Rat))) - (((spk ((j : Nat) : Int) : Int) : Rat))) (((k + 2) + 2 + 1))), (fun _ v => v = .int .i64 ((j : Nat) : Int)), (fun _ v => v = .int .i64 (((j : Nat) : Int) + 1)), (fun _ v => v = .int .i64 (spk (((j : Nat) : Int) + 1))), (fun _ v => v = .int .i64 ((j : Nat) : Int)), (fun _ v => v = .int .i64 (spk ((j : Nat) : Int))), (fun _ v => v = .int .i64 ((spk (((j : Nat) : Int) + 1)) - (spk ((j : Nat) : Int)))), (fun w v => Rr w v ((((spk (((j : Nat) : Int) + 1)) - (spk ((j : Nat) : Int)) : Int) : Rat)) (2)), (fun w v => Rr w v ((((q1) * (((3438 : Int) : Rat))) - (((spk ((j : Nat) : Int) : Int) : Rat))) / ((((spk (((j : Nat) : Int) + 1)) - (spk ((j : Nat) : Int)) : Int) : Rat))) ((((k + 2) + 2 + 1) + 2))), (fun w v => ∃ g, v = .pointer (some ⟨g, 0, none⟩) ∧ w12.heap.size ≤ g ∧ Own w g [.bool false, .slice none 0 0, .slice none 0 0])] [13] (by decide +kernel) (by decide +kernel) rfl rfl rfl ⟨(Mb.eq _), (Mb.eq _), (Mb.eq _), (fun _ _ _ h hb => h.below hb), (fun _ _ _ h hb => h.below hb), (Mb.eq _), (Mb.eq _), (Mb.eq _), (Mb.eq _), (Mb.eq _), (Mb.eq _), (fun _ _ _ h hb => h.below hb), (fun _ _ _ h hb => h.below hb), (fun _ _ _ ⟨g, e, l, o⟩ hb => ⟨g, e, l, o.below hb⟩), trivial⟩ ⟨fun _ _ ⟨g, e, _, o⟩ => ⟨g, e, o.lt⟩, trivial⟩ ⟨?_, ?_, ?_, ?_, ?_, ?_, ?_, ?_, ?_, ?_, ?_, ?_, ?_, ?_, trivial⟩ ?_
                   · intro a' w' hF' hb hd
                     exact dv0 (r_load (hF'.at 4 rfl) (ld_RRat (vs := [.bool b6, .slice ad6 n6 c6, .slice ae6 m6 d6]) (o3.below hb) rfl rfl)) rfl rfl rfl
                   · intro a' w' hF' hb hd
                     exact dv0 (r_move (hF'.at 3 rfl)) rfl rfl rfl
                   · intro a' w' hF' hb hd
                     have e26 := sHe hd 0 26 rfl rfl rfl rfl
                     exact dcx0 (r_call Tryz.func147 en147.1 en147.2 (map1 e26)) (high_spd ((j : Nat) : Int) _ (by omega) (by omega)) (fun _ => rfl) rfl rfl
                   · intro a' w' hF' hb hd
                     have e27 := sHe hd 0 27 rfl rfl rfl rfl
                     exact dc0 (r_call Tryz.func43 en43.1 en43.2 (map2 e27 ev_c)) (dOf1b_any (spk ((j : Nat) : Int)) _ (by have := spk64S ((j : Nat) : Int); omega) (by have := spk64S ((j : Nat) : Int); omega)) rfl rfl
                   · intro a' w' hF' hb hd
                     have e25 := sHe hd 0 25 rfl rfl rfl rfl
                     obtain ⟨v28_0, e28, h28_1⟩ := sH hd 1 28 rfl rfl rfl rfl
                     exact dc0 (r_call Tryz.func49 en49.1 en49.2 (map2 e25 e28)) (dSub2_any _ _ _ _ (k + 2) 2 _ (hh5.below hb) h28_1 (by omega) (by omega) (by omega) (by omega)) rfl rfl
                   · intro a' w' hF' hb hd
                     exact dv0 (r_move (hF'.at 3 rfl)) rfl rfl rfl
                   · intro a' w' hF' hb hd
                     have e30 := sHe hd 0 30 rfl rfl rfl rfl
                     exact dv0 (r_bin e30 ev_c eg_scalar (ia_add (by omega) (by omega))) rfl rfl rfl
                   · intro a' w' hF' hb hd
                     have e31 := sHe hd 0 31 rfl rfl rfl rfl
                     exact dcx0 (r_call Tryz.func147 en147.1 en147.2 (map1 e31)) (high_spd (((j : Nat) : Int) + 1) _ (by omega) (by omega)) (fun _ => rfl) rfl rfl
                   · intro a' w' hF' hb hd
                     exact dv0 (r_move (hF'.at 3 rfl)) rfl rfl rfl
                   · intro a' w' hF' hb hd
                     have e33 := sHe hd 0 33 rfl rfl rfl rfl
                     exact dcx0 (r_call Tryz.func147 en147.1 en147.2 (map1 e33)) (high_spd ((j : Nat) : Int) _ (by omega) (by omega)) (fun _ => rfl) rfl rfl
                   · intro a' w' hF' hb hd
                     have e32 := sHe hd 0 32 rfl rfl rfl rfl
                     have e34 := sHe hd 1 34 rfl rfl rfl rfl
                     exact dv0 (r_bin e32 e34 eg_scalar (ia_sub (by omega) (by omega))) rfl rfl rfl
                   · intro a' w' hF' hb hd
                     have e35 := sHe hd 0 35 rfl rfl rfl rfl
                     exact dc0 (r_call Tryz.func43 en43.1 en43.2 (map2 e35 ev_c)) (dOf1b_any ((spk (((j : Nat) : Int) + 1)) - (spk ((j : Nat) : Int))) _ (by omega) (by omega)) rfl rfl
                   · intro a' w' hF' hb hd
                     obtain ⟨v29_0, e29, h29_1⟩ := sH hd 0 29 rfl rfl rfl rfl
                     obtain ⟨v36_0, e36, h36_1⟩ := sH hd 1 36 rfl rfl rfl rfl
                     exact dc0 (r_call Tryz.func92 en92.1 en92.2 (map2 e29 e36)) (dDiv2_any _ _ _ _ ((k + 2) + 2 + 1) 2 _ h29_1 h36_1 (by omega) (by omega) (by omega) (by omega)) rfl rfl
                   · intro a' w' hF' hb hd
                     obtain ⟨g, w2, ge, hr, bb, on⟩ := own_alloc (P := Tryz.prog) (w := w') (cs := [.bool false, .slice none 0 0, .slice none 0 0]) 39 ze_RRat rfl (niB (niS (niS ni0)))
                     subst ge
                     exact if_does (wanted_free rfl) (Does.vals (r_alloc hr) ⟨⟨_, rfl, hb.size, on⟩, bb, fun _ => rfl⟩)
                   intro a w19 hF bb hall hne
                   obtain ⟨vv20, e37, hh21⟩ := sS hall 12 37 rfl rfl
                   obtain ⟨g5, e5, ge5, o5⟩ : ∃ g, a.tmps.getD 5 undef = .pointer (some ⟨g, 0, none⟩) ∧ w12.heap.size ≤ g ∧ Own w19 g [.bool false, .slice none 0 0, .slice none 0 0] := hall 13 5 rfl
                   have ne2_5 : g2 ≠ g5 := Nat.ne_of_lt (Nat.lt_of_lt_of_le o2.lt ge5)
                   replace ge5 : w.heap.size ≤ g5 := Nat.le_trans bel.size ge5
                   clear hall hne
                   replace o2 := o2.below bb
                   replace bel := below_to bel bb
                   clear bb
                   obtain ⟨b22, ad22, n22, c22, ae22, m22, d22, z22, D22, rfl, hn22, hd22, hD22, hq22, lz22, lD22⟩ := Rr.shape hh21
                   have ha22 := hn22.abs
                   replace hF := hF.add e37
                   clear e37
                   replace hF := hF.add e5
                   clear e5
                   obtain ⟨w23, hr, tu, on⟩ := st_RRat (vs := [.bool b22, .slice ad22 n22 c22, .slice ae22 m22 d22]) o5 rfl rfl (ocB (ocS (ocS oc0))) (niB (niS (niS ni0))) (o := 0) rfl
                   have kp := tu.keep o5
                   refine E.st hF (r_store (hF.at 0 rfl) (hF.at 1 rfl) (hr _ rfl)) rfl rfl fun a hF => ?_
                   clear hr
                   replace hh21 := hh21.keep kp
                   replace hn22 := hn22.keep kp
                   replace ha22 := ha22.keep kp
                   replace hd22 := hd22.keep kp
                   replace o2 := tu.own o2 ne2_5
                   replace bel := tu.below bel ge5
                   clear tu kp
                   replace o5 := on
                   clear on
                   refine E.nil ?_
                   refine wp_seq ?_
                   refine E.drawn 6 mixed hF [38, 39, 40, 41, 42, 43] [(fun _ v => v = .int .i64 ((j : Nat) : Int)), (fun w v => Rr w v (((((j : Nat) : Int) : Int) : Rat)) (2)), (fun _ v => v = .agg #[.bool b22, .slice ad22 n22 c22, .slice ae22 m22 d22]), (fun w v => Rr w v ((((((j : Nat) : Int) : Int) : Rat)) + ((((q1) * (((3438 : Int) : Rat))) - (((spk ((j : Nat) : Int) : Int) : Rat))) / ((((spk (((j : Nat) : Int) + 1)) - (spk ((j : Nat) : Int)) : Int) : Rat)))) ((2 + (((k + 2) + 2 + 1) + 2) + 1))), (fun w v => Rr w v (((15 : Int) : Rat) / ((4 : Int) : Rat)) (2)), (fun w v => Rr w v (((((((j : Nat) : Int) : Int) : Rat)) + ((((q1) * (((3438 : Int) : Rat))) - (((spk ((j : Nat) : Int) : Int) : Rat))) / ((((spk (((j : Nat) : Int) + 1)) - (spk ((j : Nat) : Int)) : Int) : Rat)))) * (((15 : Int) : Rat) / ((4 : Int) : Rat))) (((2 + (((k + 2) + 2 + 1) + 2) + 1) + 2)))] [] (by decide +kernel) (by decide +kernel) rfl rfl rfl ⟨(Mb.eq _), (fun _ _ _ h hb => h.below hb), (Mb.eq _), (fun _ _ _ h hb => h.below hb), (fun _ _ _ h hb => h.below hb), (fun _ _ _ h hb => h.below hb), trivial⟩ trivial ⟨?_, ?_, ?_, ?_, ?_, ?_, trivial⟩ ?_
                   · intro a' w' hF' hb hd
                     exact dv0 (r_move (hF'.at 5 rfl)) rfl rfl rfl
                   · intro a' w' hF' hb hd
                     have e38 := sHe hd 0 38 rfl rfl rfl rfl
                     exact dc0 (r_call Tryz.func43 en43.1 en43.2 (map2 e38 ev_c)) (dOf1b_any (((j : Nat) : Int)) _ (by omega) (by omega)) rfl rfl
                   · intro a' w' hF' hb hd
                     exact dv0 (r_load (hF'.at 0 rfl) (ld_RRat (vs := [.bool b22, .slice ad22 n22 c22, .slice ae22 m22 d22]) (o5.below hb) rfl rfl)) rfl rfl rfl
                   · intro a' w' hF' hb hd
                     obtain ⟨v39_0, e39, h39_1⟩ := sH hd 0 39 rfl rfl rfl rfl
                     have e40 := sHe hd 1 40 rfl rfl rfl rfl
                     exact dc0 (r_call Tryz.func61 en61.1 en61.2 (map2 e39 e40)) (dAdd2_any _ _ _ _ 2 (((k + 2) + 2 + 1) + 2) _ h39_1 (hh21.below hb) (by omega) (by omega) (by omega) (by omega)) rfl rfl
                   · intro a' w' hF' hb hd
                     exact dc0 (r_call Tryz.func43 en43.1 en43.2 (map2 ev_c ev_c)) (dOf_any (15) (4) _ (by decide) (by decide) (by decide) (by decide)) rfl rfl
                   · intro a' w' hF' hb hd
                     obtain ⟨v41_0, e41, h41_1⟩ := sH hd 0 41 rfl rfl rfl rfl
                     obtain ⟨v42_0, e42, h42_1⟩ := sH hd 1 42 rfl rfl rfl rfl
                     exact dc0 (r_call Tryz.func83 en83.1 en83.2 (map2 e41 e42)) (dMul2_any _ _ _ _ (2 + (((k + 2) + 2 + 1) + 2) + 1) 2 _ h41_1 h42_1 (by omega) (by omega) (by omega) (by omega)) rfl rfl
                   intro a w24 hF bb hall hne
                   obtain ⟨vv25, e43, hh26⟩ := sS hall 5 43 rfl rfl
                   clear hall hne
                   replace o2 := o2.below bb
                   replace bel := below_to bel bb
                   clear bb
                   obtain ⟨b27, ad27, n27, c27, ae27, m27, d27, z27, D27, rfl, hn27, hd27, hD27, hq27, lz27, lD27⟩ := Rr.shape hh26
                   have ha27 := hn27.abs
                   replace hF := hF.add e43
                   clear e43
                   obtain ⟨w28, hr, tu, on⟩ := st_RRat (vs := [.bool b27, .slice ad27 n27 c27, .slice ae27 m27 d27]) o2 rfl rfl (ocB (ocS (ocS oc0))) (niB (niS (niS ni0))) (o := 0) rfl
                   have kp := tu.keep o2
                   refine E.st hF (r_store (hF.at 8 rfl) (hF.at 0 rfl) (hr _ rfl)) rfl rfl fun a hF => ?_
                   clear hr
                   replace hh26 := hh26.keep kp
                   replace hn27 := hn27.keep kp
                   replace ha27 := ha27.keep kp
                   replace hd27 := hd27.keep kp
                   replace bel := tu.below bel ge2
                   clear tu kp
                   replace o2 := on
                   clear on
                   refine E.nil ?_
                   refine wp_ret ?_
                   refine bodyPost_ret (res_cell Tryz.results124 (hF.at 8 rfl) (ld_RRat (vs := [.bool b27, .slice ad27 n27 c27, .slice ae27 m27 d27]) o2 rfl rfl)) hF.dfr ?_
                   exact ⟨_, rfl, Rr.cast (Rr.up hh26 _ (by omega)) (darc_here hx (by omega) (yk_here (by omega) hyk hc10)), bel⟩)))
    · first
      | (exfalso; omega)
      | (refine E.drawn 11 mixed hF [9, 10, 11, 12, 13, 14, 15, 16, 17, 18, 19] [(fun _ v => v = .int .i64 ((j : Nat) : Int)), (fun _ v => v = .bool false), (fun _ v => v = .bool false), (fun _ v => v = undef), (fun _ v => v = undef), (fun _ v => v = undef), (fun _ v => v = undef), (fun _ v => v = undef), (fun _ v => v = undef), (fun _ v => v = undef), (fun _ v => v = .bool false)] [] (by decide +kernel) (by decide +kernel) rfl rfl rfl ⟨(Mb.eq _), (Mb.eq _), (Mb.eq _), (Mb.eq _), (Mb.eq _), (Mb.eq _), (Mb.eq _), (Mb.eq _), (Mb.eq _), (Mb.eq _), (Mb.eq _), trivial⟩ trivial ⟨?_, ?_, ?_, ?_, ?_, ?_, ?_, ?_, ?_, ?_, ?_, trivial⟩ ?_
         · intro a' w' hF' hb hd
           exact dv0 (r_move (hF'.at 0 rfl)) rfl rfl rfl
         · intro a' w' hF' hb hd
           have e9 := sHe hd 0 9 rfl rfl rfl rfl
           exact dv0 (r_bin e9 ev_c eg_scalar (bi_int (ic_lss (c := false) (dec_ff hc9)) (by simp))) rfl rfl rfl
         · intro a' w' hF' hb hd
           have e10 := sHe hd 0 10 rfl rfl rfl rfl
           exact dv0 (r_move e10) rfl rfl rfl
         · intro a' w' hF' hb hd
           have e11 := sHe hd 0 11 rfl rfl rfl rfl
           exact if_not (wanted_by rfl rfl e11 rfl) ⟨rfl, by decide⟩
         · intro a' w' hF' hb hd
           have e11 := sHe hd 0 11 rfl rfl rfl rfl
           exact if_not (wanted_by rfl rfl e11 rfl) ⟨rfl, by decide⟩
         · intro a' w' hF' hb hd
           have e11 := sHe hd 1 11 rfl rfl rfl rfl
           exact if_not (wanted_by rfl rfl e11 rfl) ⟨rfl, by decide⟩
         · intro a' w' hF' hb hd
           have e11 := sHe hd 1 11 rfl rfl rfl rfl
           exact if_not (wanted_by rfl rfl e11 rfl) ⟨rfl, by decide⟩
         · intro a' w' hF' hb hd
           have e11 := sHe hd 2 11 rfl rfl rfl rfl
           exact if_not (wanted_by rfl rfl e11 rfl) ⟨rfl, by decide⟩
         · intro a' w' hF' hb hd
           have e11 := sHe hd 3 11 rfl rfl rfl rfl
           exact if_not (wanted_by rfl rfl e11 rfl) ⟨rfl, by decide⟩
         · intro a' w' hF' hb hd
           have e11 := sHe hd 1 11 rfl rfl rfl rfl
           exact if_not (wanted_by rfl rfl e11 rfl) ⟨rfl, by decide⟩
         · intro a' w' hF' hb hd
           have e11 := sHe hd 0 11 rfl rfl rfl rfl
           exact dv0 (r_pick_f e11 ev_c) rfl rfl rfl
         intro a w29 hF bb hall hne
         have e19 := sSe hall 10 19 rfl rfl
         clear hall hne
         replace ha6 := ha6.below bb
         replace hd6 := hd6.below bb
         replace hh5 := hh5.below bb
         replace hn6 := hn6.below bb
         replace o2 := o2.below bb
         replace o3 := o3.below bb
         replace sty := below_to sty bb
         replace bel := below_to bel bb
         clear bb
         replace hF := hF.add e19
         clear e19
         refine E.nil ?_
         refine wp_cond_false (hF.at 0 rfl) ?_
         refine wp_exit ?_
         refine E.past ?_
         refine E.past ?_
         refine E.out (id := 0) ?_
         refine E.norm ?_
         refine wp_seq ?_
         refine wp_seq ?_
         refine E.seq ?_
         refine E.opv hF (r_move (hF.at 1 rfl)) rfl rfl rfl rfl fun a hF => ?_
         by_cases hc30 : ((j : Nat) : Int) = 24
         · first
           | (exfalso; omega)
           | (refine E.opv hF (r_bin (hF.at 0 rfl) ev_c eg_scalar (bi_int (ic_eql (c := true) (dec_tt hc30)) (by simp))) rfl rfl rfl rfl fun a hF => ?_
              refine E.nil ?_
              refine wp_cond_true (hF.at 0 rfl) ?_
              refine wp_seq ?_
              refine E.seq ?_
              refine E.call hF (r_call Tryz.func43 en43.1 en43.2 (map2 ev_c ev_c)) (dOf1b_any (90) _ (by decide) (by decide)) rfl rfl rfl rfl ?_
              rintro e w31 ⟨vv32, rfl, hh33, bb⟩
              refine ⟨_, rfl, ?_⟩
              intro a hF
              replace ha6 := ha6.below bb
              replace hd6 := hd6.below bb
              replace hh5 := hh5.below bb
              replace hn6 := hn6.below bb
              replace o2 := o2.below bb
              replace o3 := o3.below bb
              replace bel := below_to bel bb
              clear bb
              obtain ⟨b34, ad34, n34, c34, ae34, m34, d34, z34, D34, rfl, hn34, hd34, hD34, hq34, lz34, lD34⟩ := Rr.shape hh33
              have ha34 := hn34.abs
              obtain ⟨w35, hr, tu, on⟩ := st_RRat (vs := [.bool b34, .slice ad34 n34 c34, .slice ae34 m34 d34]) o2 rfl rfl (ocB (ocS (ocS oc0))) (niB (niS (niS ni0))) (o := 0) rfl
              have kp := tu.keep o2
              refine E.st hF (r_store (hF.at 6 rfl) (hF.at 0 rfl) (hr _ rfl)) rfl rfl fun a hF => ?_
              clear hr
              replace ha6 := ha6.keep kp
              replace hd6 := hd6.keep kp
              replace hh5 := hh5.keep kp
              replace hn6 := hn6.keep kp
              replace hh33 := hh33.keep kp
              replace hn34 := hn34.keep kp
              replace ha34 := ha34.keep kp
              replace hd34 := hd34.keep kp
              replace o3 := tu.own o3 (Ne.symm ne2_3)
              replace bel := tu.below bel ge2
              clear tu kp
              replace o2 := on
              clear on
              refine E.nil ?_
              refine wp_ret ?_
              refine bodyPost_ret (res_cell Tryz.results124 (hF.at 6 rfl) (ld_RRat (vs := [.bool b34, .slice ad34 n34 c34, .slice ae34 m34 d34]) o2 rfl rfl)) hF.dfr ?_
              have e24 : j = 24 := by omega
              subst e24
              exact ⟨_, rfl, Rr.cast (Rr.up hh33 _ (by omega)) (arc_end hx hyk.symm), bel⟩)
         · first
           | (exfalso; omega)
           | (refine E.opv hF (r_bin (hF.at 0 rfl) ev_c eg_scalar (bi_int (ic_eql (c := false) (dec_ff hc30)) (by simp))) rfl rfl rfl rfl fun a hF => ?_
              refine E.nil ?_
              refine wp_cond_false (hF.at 0 rfl) ?_
              refine wp_skip ?_
              refine E.norm ?_
              refine wp_seq ?_
              refine E.drawn 14 mixed hF [25, 26, 27, 28, 29, 30, 31, 32, 33, 34, 35, 36, 37, 5] [(fun _ v => v = .agg #[.bool b6, .slice ad6 n6 c6, .slice ae6 m6 d6]), (fun _ v => v = .int .i64 ((j : Nat) : Int)), (fun _ v => v = .int .i64 (spk ((j : Nat) : Int))), (fun w v => Rr w v (((spk ((j : Nat) : Int) : Int) : Rat)) (2)), (fun w v => Rr w v (((q1) * (((3438 : Int) : Rat))) - (((spk ((j : Nat) : Int) : Int) : Rat))) (((k + 2) + 2 + 1))), (fun _ v => v = .int .i64 ((j : Nat) : Int)), (fun _ v => v = .int .i64 (((j : Nat) : Int) + 1)), (fun _ v => v = .int .i64 (spk (((j : Nat) : Int) + 1))), (fun _ v => v = .int .i64 ((j : Nat) : Int)), (fun _ v => v = .int .i64 (spk ((j : Nat) : Int))), (fun _ v => v = .int .i64 ((spk (((j : Nat) : Int) + 1)) - (spk ((j : Nat) : Int)))), (fun w v => Rr w v ((((spk (((j : Nat) : Int) + 1)) - (spk ((j : Nat) : Int)) : Int) : Rat)) (2)), (fun w v => Rr w v ((((q1) * (((3438 : Int) : Rat))) - (((spk ((j : Nat) : Int) : Int) : Rat))) / ((((spk (((j : Nat) : Int) + 1)) - (spk ((j : Nat) : Int)) : Int) : Rat))) ((((k + 2) + 2 + 1) + 2))), (fun w v => ∃ g, v = .pointer (some ⟨g, 0, none⟩) ∧ w29.heap.size ≤ g ∧ Own w g [.bool false, .slice none 0 0, .slice none 0 0])] [13] (by decide +kernel) (by decide +kernel) rfl rfl rfl ⟨(Mb.eq _), (Mb.eq _), (Mb.eq _), (fun _ _ _ h hb => h.below hb), (fun _ _ _ h hb => h.below hb), (Mb.eq _), (Mb.eq _), (Mb.eq _), (Mb.eq _), (Mb.eq _), (Mb.eq _), (fun _ _ _ h hb => h.below hb), (fun _ _ _ h hb => h.below hb), (fun _ _ _ ⟨g, e, l, o⟩ hb => ⟨g, e, l, o.below hb⟩), trivial⟩ ⟨fun _ _ ⟨g, e, _, o⟩ => ⟨g, e, o.lt⟩, trivial⟩ ⟨?_, ?_, ?_, ?_, ?_, ?_, ?_, ?_, ?_, ?_, ?_, ?_, ?_, ?_, trivial⟩ ?_
              · intro a' w' hF' hb hd
                exact dv0 (r_load (hF'.at 4 rfl) (ld_RRat (vs := [.bool b6, .slice ad6 n6 c6, .slice ae6 m6 d6]) (o3.below hb) rfl rfl)) rfl rfl rfl
              · intro a' w' hF' hb hd
                exact dv0 (r_move (hF'.at 3 rfl)) rfl rfl rfl
              · intro a' w' hF' hb hd
                have e26 := sHe hd 0 26 rfl rfl rfl rfl
                exact dcx0 (r_call Tryz.func147 en147.1 en147.2 (map1 e26)) (high_spd ((j : Nat) : Int) _ (by omega) (by omega)) (fun _ => rfl) rfl rfl
              · intro a' w' hF' hb hd
                have e27 := sHe hd 0 27 rfl rfl rfl rfl
                exact dc0 (r_call Tryz.func43 en43.1 en43.2 (map2 e27 ev_c)) (dOf1b_any (spk ((j : Nat) : Int)) _ (by have := spk64S ((j : Nat) : Int); omega) (by have := spk64S ((j : Nat) : Int); omega)) rfl rfl
              · intro a' w' hF' hb hd
                have e25 := sHe hd 0 25 rfl rfl rfl rfl
                obtain ⟨v28_0, e28, h28_1⟩ := sH hd 1 28 rfl rfl rfl rfl
                exact dc0 (r_call Tryz.func49 en49.1 en49.2 (map2 e25 e28)) (dSub2_any _ _ _ _ (k + 2) 2 _ (hh5.below hb) h28_1 (by omega) (by omega) (by omega) (by omega)) rfl rfl
              · intro a' w' hF' hb hd
                exact dv0 (r_move (hF'.at 3 rfl)) rfl rfl rfl
              · intro a' w' hF' hb hd
                have e30 := sHe hd 0 30 rfl rfl rfl rfl
                exact dv0 (r_bin e30 ev_c eg_scalar (ia_add (by omega) (by omega))) rfl rfl rfl
              · intro a' w' hF' hb hd
                have e31 := sHe hd 0 31 rfl rfl rfl rfl
                exact dcx0 (r_call Tryz.func147 en147.1 en147.2 (map1 e31)) (high_spd (((j : Nat) : Int) + 1) _ (by omega) (by omega)) (fun _ => rfl) rfl rfl
              · intro a' w' hF' hb hd
                exact dv0 (r_move (hF'.at 3 rfl)) rfl rfl rfl
              · intro a' w' hF' hb hd
                have e33 := sHe hd 0 33 rfl rfl rfl rfl
                exact dcx0 (r_call Tryz.func147 en147.1 en147.2 (map1 e33)) (high_spd ((j : Nat) : Int) _ (by omega) (by omega)) (fun _ => rfl) rfl rfl
              · intro a' w' hF' hb hd
                have e32 := sHe hd 0 32 rfl rfl rfl rfl
                have e34 := sHe hd 1 34 rfl rfl rfl rfl
                exact dv0 (r_bin e32 e34 eg_scalar (ia_sub (by omega) (by omega))) rfl rfl rfl
              · intro a' w' hF' hb hd
                have e35 := sHe hd 0 35 rfl rfl rfl rfl
                exact dc0 (r_call Tryz.func43 en43.1 en43.2 (map2 e35 ev_c)) (dOf1b_any ((spk (((j : Nat) : Int) + 1)) - (spk ((j : Nat) : Int))) _ (by omega) (by omega)) rfl rfl
              · intro a' w' hF' hb hd
                obtain ⟨v29_0, e29, h29_1⟩ := sH hd 0 29 rfl rfl rfl rfl
                obtain ⟨v36_0, e36, h36_1⟩ := sH hd 1 36 rfl rfl rfl rfl
                exact dc0 (r_call Tryz.func92 en92.1 en92.2 (map2 e29 e36)) (dDiv2_any _ _ _ _ ((k + 2) + 2 + 1) 2 _ h29_1 h36_1 (by omega) (by omega) (by omega) (by omega)) rfl rfl
              · intro a' w' hF' hb hd
                obtain ⟨g, w2, ge, hr, bb, on⟩ := own_alloc (P := Tryz.prog) (w := w') (cs := [.bool false, .slice none 0 0, .slice none 0 0]) 39 ze_RRat rfl (niB (niS (niS ni0)))
                subst ge
                exact if_does (wanted_free rfl) (Does.vals (r_alloc hr) ⟨⟨_, rfl, hb.size, on⟩, bb, fun _ => rfl⟩)
              intro a w36 hF bb hall hne
              obtain ⟨vv37, e37, hh38⟩ := sS hall 12 37 rfl rfl
              obtain ⟨g5, e5, ge5, o5⟩ : ∃ g, a.tmps.getD 5 undef = .pointer (some ⟨g, 0, none⟩) ∧ w29.heap.size ≤ g ∧ Own w36 g [.bool false, .slice none 0 0, .slice none 0 0] := hall 13 5 rfl
              have ne2_5 : g2 ≠ g5 := Nat.ne_of_lt (Nat.lt_of_lt_of_le o2.lt ge5)
              replace ge5 : w.heap.size ≤ g5 := Nat.le_trans bel.size ge5
              clear hall hne
              replace o2 := o2.below bb
              replace bel := below_to bel bb
              clear bb
              obtain ⟨b39, ad39, n39, c39, ae39, m39, d39, z39, D39, rfl, hn39, hd39, hD39, hq39, lz39, lD39⟩ := Rr.shape hh38
              have ha39 := hn39.abs
              replace hF := hF.add e37
              clear e37
              replace hF := hF.add e5
              clear e5
              obtain ⟨w40, hr, tu, on⟩ := st_RRat (vs := [.bool b39, .slice ad39 n39 c39, .slice ae39 m39 d39]) o5 rfl rfl (ocB (ocS (ocS oc0))) (niB (niS (niS ni0))) (o := 0) rfl
              have kp := tu.keep o5
              refine E.st hF (r_store (hF.at 0 rfl) (hF.at 1 rfl) (hr _ rfl)) rfl rfl fun a hF => ?_
              clear hr
              replace hh38 := hh38.keep kp
              replace hn39 := hn39.keep kp
              replace ha39 := ha39.keep kp
              replace hd39 := hd39.keep kp
              replace o2 := tu.own o2 ne2_5
              replace bel := tu.below bel ge5
              clear tu kp
              replace o5 := on
              clear on
              refine E.nil ?_
              refine wp_seq ?_
              refine E.drawn 6 mixed hF [38, 39, 40, 41, 42, 43] [(fun _ v => v = .int .i64 ((j : Nat) : Int)), (fun w v => Rr w v (((((j : Nat) : Int) : Int) : Rat)) (2)), (fun _ v => v = .agg #[.bool b39, .slice ad39 n39 c39, .slice ae39 m39 d39]), (fun w v => Rr w v ((((((j : Nat) : Int) : Int) : Rat)) + ((((q1) * (((3438 : Int) : Rat))) - (((spk ((j : Nat) : Int) : Int) : Rat))) / ((((spk (((j : Nat) : Int) + 1)) - (spk ((j : Nat) : Int)) : Int) : Rat)))) ((2 + (((k + 2) + 2 + 1) + 2) + 1))), (fun w v => Rr w v (((15 : Int) : Rat) / ((4 : Int) : Rat)) (2)), (fun w v => Rr w v (((((((j : Nat) : Int) : Int) : Rat)) + ((((q1) * (((3438 : Int) : Rat))) - (((spk ((j : Nat) : Int) : Int) : Rat))) / ((((spk (((j : Nat) : Int) + 1)) - (spk ((j : Nat) : Int)) : Int) : Rat)))) * (((15 : Int) : Rat) / ((4 : Int) : Rat))) (((2 + (((k + 2) + 2 + 1) + 2) + 1) + 2)))] [] (by decide +kernel) (by decide +kernel) rfl rfl rfl ⟨(Mb.eq _), (fun _ _ _ h hb => h.below hb), (Mb.eq _), (fun _ _ _ h hb => h.below hb), (fun _ _ _ h hb => h.below hb), (fun _ _ _ h hb => h.below hb), trivial⟩ trivial ⟨?_, ?_, ?_, ?_, ?_, ?_, trivial⟩ ?_
              · intro a' w' hF' hb hd
                exact dv0 (r_move (hF'.at 5 rfl)) rfl rfl rfl
              · intro a' w' hF' hb hd
                have e38 := sHe hd 0 38 rfl rfl rfl rfl
                exact dc0 (r_call Tryz.func43 en43.1 en43.2 (map2 e38 ev_c)) (dOf1b_any (((j : Nat) : Int)) _ (by omega) (by omega)) rfl rfl
              · intro a' w' hF' hb hd
                exact dv0 (r_load (hF'.at 0 rfl) (ld_RRat (vs := [.bool b39, .slice ad39 n39 c39, .slice ae39 m39 d39]) (o5.below hb) rfl rfl)) rfl rfl rfl
              · intro a' w' hF' hb hd
                obtain ⟨v39_0, e39, h39_1⟩ := sH hd 0 39 rfl rfl rfl rfl
                have e40 := sHe hd 1 40 rfl rfl rfl rfl
                exact dc0 (r_call Tryz.func61 en61.1 en61.2 (map2 e39 e40)) (dAdd2_any _ _ _ _ 2 (((k + 2) + 2 + 1) + 2) _ h39_1 (hh38.below hb) (by omega) (by omega) (by omega) (by omega)) rfl rfl
              · intro a' w' hF' hb hd
                exact dc0 (r_call Tryz.func43 en43.1 en43.2 (map2 ev_c ev_c)) (dOf_any (15) (4) _ (by decide) (by decide) (by decide) (by decide)) rfl rfl
              · intro a' w' hF' hb hd
                obtain ⟨v41_0, e41, h41_1⟩ := sH hd 0 41 rfl rfl rfl rfl
                obtain ⟨v42_0, e42, h42_1⟩ := sH hd 1 42 rfl rfl rfl rfl
                exact dc0 (r_call Tryz.func83 en83.1 en83.2 (map2 e41 e42)) (dMul2_any _ _ _ _ (2 + (((k + 2) + 2 + 1) + 2) + 1) 2 _ h41_1 h42_1 (by omega) (by omega) (by omega) (by omega)) rfl rfl
              intro a w41 hF bb hall hne
              obtain ⟨vv42, e43, hh43⟩ := sS hall 5 43 rfl rfl
              clear hall hne
              replace o2 := o2.below bb
              replace bel := below_to bel bb
              clear bb
              obtain ⟨b44, ad44, n44, c44, ae44, m44, d44, z44, D44, rfl, hn44, hd44, hD44, hq44, lz44, lD44⟩ := Rr.shape hh43
              have ha44 := hn44.abs
              replace hF := hF.add e43
              clear e43
              obtain ⟨w45, hr, tu, on⟩ := st_RRat (vs := [.bool b44, .slice ad44 n44 c44, .slice ae44 m44 d44]) o2 rfl rfl (ocB (ocS (ocS oc0))) (niB (niS (niS ni0))) (o := 0) rfl
              have kp := tu.keep o2
              refine E.st hF (r_store (hF.at 8 rfl) (hF.at 0 rfl) (hr _ rfl)) rfl rfl fun a hF => ?_
              clear hr
              replace hh43 := hh43.keep kp
              replace hn44 := hn44.keep kp
              replace ha44 := ha44.keep kp
              replace hd44 := hd44.keep kp
              replace bel := tu.below bel ge2
              clear tu kp
              replace o2 := on
              clear on
              refine E.nil ?_
              refine wp_ret ?_
              refine bodyPost_ret (res_cell Tryz.results124 (hF.at 8 rfl) (ld_RRat (vs := [.bool b44, .slice ad44 n44 c44, .slice ae44 m44 d44]) o2 rfl rfl)) hF.dfr ?_
              exfalso; omega))

set_option maxHeartbeats 4000000 in
theorem rarc2_any (v1 : Value) (q1 : Rat) (k : Nat) (w : World) (h1 : Rr w v1 q1 k) (hp : 1 ≤ k) (hk : k ≤ 1500) :
    Calls Tryz.prog 85 #[v1] w (RrPost w (arcv q1) (k + 20)) := by
  have rl1 := h1.rlim
  obtain ⟨b1, ad1, n1, c1, ae1, m1, d1, z1, D1, rfl, hn1, hd1, hD1, hq1, lz1, lD1⟩ := h1.shape
  have h1 : Rr w (.agg #[.bool b1, .slice ad1 n1 c1, .slice ae1 m1 d1]) q1 k := ⟨_, _, _, _, _, _, _, _, _, rfl, hn1, hd1, hD1, hq1, lz1, lD1⟩
  have ha1 := hn1.abs
  have hb1 := hn1.neg
  replace hq1 := Lib.hid hq1
  by_cases hn : sz (Rat.num (q1)) < 0
  · have hx : q1 < 0 := sz_lt0.1 hn
    have bel : Below w.heap.size w w := Below.refl _ _
    refine E.enter (nt := 12) (L := [(0, .agg #[.bool b1, .slice ad1 n1 c1, .slice ae1 m1 d1])]) Tryz.func85 rfl rfl rfl (args_cons (i := 0) rfl args_nil) ?_
    intro a hF
    refine wp_seq ?_
    refine E.seq ?_
    obtain ⟨g1, w1, ge1, hr, bb, o1⟩ := own_box (P := Tryz.prog) (w := w) (cs := [.bool b1, .slice ad1 n1 c1, .slice ae1 m1 d1]) (v := .agg #[.bool b1, .slice ad1 n1 c1, .slice ae1 m1 d1]) 39 rfl (niB (niS (niS ni0)))
    replace ge1 : w.heap.size ≤ g1 := by rw [← ge1]; exact bel.size
    refine E.opv hF (r_box (hF.at 0 rfl) hr) rfl rfl rfl rfl fun a hF => ?_
    clear hr
    replace bel := below_to bel bb
    clear bb
    obtain ⟨g2, w2, ge2, hr, bb, o2⟩ := own_alloc (P := Tryz.prog) (w := w1) (cs := [.bool false, .slice none 0 0, .slice none 0 0]) 39 ze_RRat rfl (niB (niS (niS ni0)))
    have ne1_2 : g1 ≠ g2 := by rw [← ge2]; exact o1.ne_new
    replace ge2 : w.heap.size ≤ g2 := by rw [← ge2]; exact bel.size
    refine E.opv hF (r_alloc hr) rfl rfl rfl rfl fun a hF => ?_
    clear hr
    replace o1 := o1.below bb
    replace bel := below_to bel bb
    clear bb
    refine E.nil ?_
    refine wp_seq ?_
    refine wp_seq ?_
    refine E.seq ?_
    refine E.opv hF (r_load (hF.at 1 rfl) (ld_RRat (vs := [.bool b1, .slice ad1 n1 c1, .slice ae1 m1 d1]) o1 rfl rfl)) rfl rfl rfl rfl fun a hF => ?_
    refine E.call hF (r_call Tryz.func89 en89.1 en89.2 (map1 (hF.at 0 rfl))) (dSgn_any _ (q1) k _ (h1.below bel)) rfl rfl rfl rfl ?_
    rintro e w3 ⟨rfl, bb⟩
    refine ⟨_, rfl, ?_⟩
    intro a hF
    replace o1 := o1.below bb
    replace o2 := o2.below bb
    replace bel := below_to bel bb
    clear bb
    refine E.opv hF (r_bin (hF.at 0 rfl) ev_c eg_scalar (bi_int (ic_lss (c := true) (dec_tt hn)) (by simp))) rfl rfl rfl rfl fun a hF => ?_
    refine E.nil ?_
    refine wp_cond_true (hF.at 0 rfl) ?_
    refine wp_seq ?_
    refine E.seq ?_
    refine E.opv hF (r_load (hF.at 4 rfl) (ld_RRat (vs := [.bool b1, .slice ad1 n1 c1, .slice ae1 m1 d1]) o1 rfl rfl)) rfl rfl rfl rfl fun a hF => ?_
    refine E.call hF (r_call Tryz.func93 en93.1 en93.2 (map1 (hF.at 0 rfl))) (dOpp_any _ (q1) k _ (h1.below bel)) rfl rfl rfl rfl ?_
    rintro e w4 ⟨vv5, rfl, hh6, bb⟩
    refine ⟨_, rfl, ?_⟩
    intro a hF
    replace o1 := o1.below bb
    replace o2 := o2.below bb
    replace bel := below_to bel bb
    clear bb
    obtain ⟨b7, ad7, n7, c7, ae7, m7, d7, z7, D7, rfl, hn7, hd7, hD7, hq7, lz7, lD7⟩ := Rr.shape hh6
    have ha7 := hn7.abs
    refine E.call hF (r_call Tryz.func124 en124.1 en124.2 (map1 (hF.at 0 rfl))) (rarc2_pos _ (-(q1)) k _ hh6 (by omega) (by omega) (fun e => neg_not hx (sz_lt0.2 e))) rfl rfl rfl rfl ?_
    rintro e w8 ⟨vv9, rfl, hh10, bb⟩
    refine ⟨_, rfl, ?_⟩
    intro a hF
    replace o1 := o1.below bb
    replace o2 := o2.below bb
    replace bel := below_to bel bb
    clear bb
    obtain ⟨b11, ad11, n11, c11, ae11, m11, d11, z11, D11, rfl, hn11, hd11, hD11, hq11, lz11, lD11⟩ := Rr.shape hh10
    have ha11 := hn11.abs
    refine E.call hF (r_call Tryz.func93 en93.1 en93.2 (map1 (hF.at 0 rfl))) (dOpp_any _ _ (k + 20) _ hh10) rfl rfl rfl rfl ?_
    rintro e w12 ⟨vv13, rfl, hh14, bb⟩
    refine ⟨_, rfl, ?_⟩
    intro a hF
    replace o1 := o1.below bb
    replace o2 := o2.below bb
    replace bel := below_to bel bb
    clear bb
    obtain ⟨b15, ad15, n15, c15, ae15, m15, d15, z15, D15, rfl, hn15, hd15, hD15, hq15, lz15, lD15⟩ := Rr.shape hh14
    have ha15 := hn15.abs
    obtain ⟨w16, hr, tu, on⟩ := st_RRat (vs := [.bool b15, .slice ad15 n15 c15, .slice ae15 m15 d15]) o2 rfl rfl (ocB (ocS (ocS oc0))) (niB (niS (niS ni0))) (o := 0) rfl
    have kp := tu.keep o2
    refine E.st hF (r_store (hF.at 7 rfl) (hF.at 0 rfl) (hr _ rfl)) rfl rfl fun a hF => ?_
    clear hr
    replace hh14 := hh14.keep kp
    replace hn15 := hn15.keep kp
    replace ha15 := ha15.keep kp
    replace hd15 := hd15.keep kp
    replace o1 := tu.own o1 ne1_2
    replace bel := tu.below bel ge2
    clear tu kp
    replace o2 := on
    clear on
    refine E.nil ?_
    refine wp_ret ?_
    refine bodyPost_ret (res_cell Tryz.results85 (hF.at 7 rfl) (ld_RRat (vs := [.bool b15, .slice ad15 n15 c15, .slice ae15 m15 d15]) o2 rfl rfl)) hF.dfr ?_
    exact ⟨_, rfl, Rr.cast (Rr.up hh14 _ (by omega)) (arc_neg hx), bel⟩
  · have hx : ¬ q1 < 0 := fun e => hn (sz_lt0.2 e)
    have bel : Below w.heap.size w w := Below.refl _ _
    refine E.enter (nt := 12) (L := [(0, .agg #[.bool b1, .slice ad1 n1 c1, .slice ae1 m1 d1])]) Tryz.func85 rfl rfl rfl (args_cons (i := 0) rfl args_nil) ?_
    intro a hF
    refine wp_seq ?_
    refine E.seq ?_
    obtain ⟨g1, w1, ge1, hr, bb, o1⟩ := own_box (P := Tryz.prog) (w := w) (cs := [.bool b1, .slice ad1 n1 c1, .slice ae1 m1 d1]) (v := .agg #[.bool b1, .slice ad1 n1 c1, .slice ae1 m1 d1]) 39 rfl (niB (niS (niS ni0)))
    replace ge1 : w.heap.size ≤ g1 := by rw [← ge1]; exact bel.size
    refine E.opv hF (r_box (hF.at 0 rfl) hr) rfl rfl rfl rfl fun a hF => ?_
    clear hr
    replace bel := below_to bel bb
    clear bb
    obtain ⟨g2, w2, ge2, hr, bb, o2⟩ := own_alloc (P := Tryz.prog) (w := w1) (cs := [.bool false, .slice none 0 0, .slice none 0 0]) 39 ze_RRat rfl (niB (niS (niS ni0)))
    have ne1_2 : g1 ≠ g2 := by rw [← ge2]; exact o1.ne_new
    replace ge2 : w.heap.size ≤ g2 := by rw [← ge2]; exact bel.size
    refine E.opv hF (r_alloc hr) rfl rfl rfl rfl fun a hF => ?_
    clear hr
    replace o1 := o1.below bb
    replace bel := below_to bel bb
    clear bb
    refine E.nil ?_
    refine wp_seq ?_
    refine wp_seq ?_
    refine E.seq ?_
    refine E.opv hF (r_load (hF.at 1 rfl) (ld_RRat (vs := [.bool b1, .slice ad1 n1 c1, .slice ae1 m1 d1]) o1 rfl rfl)) rfl rfl rfl rfl fun a hF => ?_
    refine E.call hF (r_call Tryz.func89 en89.1 en89.2 (map1 (hF.at 0 rfl))) (dSgn_any _ (q1) k _ (h1.below bel)) rfl rfl rfl rfl ?_
    rintro e w3 ⟨rfl, bb⟩
    refine ⟨_, rfl, ?_⟩
    intro a hF
    replace o1 := o1.below bb
    replace o2 := o2.below bb
    replace bel := below_to bel bb
    clear bb
    refine E.opv hF (r_bin (hF.at 0 rfl) ev_c eg_scalar (bi_int (ic_lss (c := false) (dec_ff hn)) (by simp))) rfl rfl rfl rfl fun a hF => ?_
    refine E.nil ?_
    refine wp_cond_false (hF.at 0 rfl) ?_
    refine wp_skip ?_
    refine E.norm ?_
    refine wp_seq ?_
    refine E.seq ?_
    refine E.opv hF (r_load (hF.at 4 rfl) (ld_RRat (vs := [.bool b1, .slice ad1 n1 c1, .slice ae1 m1 d1]) o1 rfl rfl)) rfl rfl rfl rfl fun a hF => ?_
    refine E.call hF (r_call Tryz.func124 en124.1 en124.2 (map1 (hF.at 0 rfl))) (rarc2_pos _ (q1) k _ (h1.below bel) (by omega) (by omega) hx) rfl rfl rfl rfl ?_
    rintro e w4 ⟨vv5, rfl, hh6, bb⟩
    refine ⟨_, rfl, ?_⟩
    intro a hF
    replace o2 := o2.below bb
    replace bel := below_to bel bb
    clear bb
    obtain ⟨b7, ad7, n7, c7, ae7, m7, d7, z7, D7, rfl, hn7, hd7, hD7, hq7, lz7, lD7⟩ := Rr.shape hh6
    have ha7 := hn7.abs
    obtain ⟨w8, hr, tu, on⟩ := st_RRat (vs := [.bool b7, .slice ad7 n7 c7, .slice ae7 m7 d7]) o2 rfl rfl (ocB (ocS (ocS oc0))) (niB (niS (niS ni0))) (o := 0) rfl
    have kp := tu.keep o2
    refine E.st hF (r_store (hF.at 5 rfl) (hF.at 0 rfl) (hr _ rfl)) rfl rfl fun a hF => ?_
    clear hr
    replace hh6 := hh6.keep kp
    replace hn7 := hn7.keep kp
    replace ha7 := ha7.keep kp
    replace hd7 := hd7.keep kp
    replace bel := tu.below bel ge2
    clear tu kp
    replace o2 := on
    clear on
    refine E.nil ?_
    refine wp_ret ?_
    refine bodyPost_ret (res_cell Tryz.results85 (hF.at 5 rfl) (ld_RRat (vs := [.bool b7, .slice ad7 n7 c7, .slice ae7 m7 d7]) o2 rfl rfl)) hF.dfr ?_
    exact ⟨_, rfl, Rr.cast (Rr.up hh6 _ (by omega)) rfl, bel⟩

end Go.Proofs.YtmpdbkdijfpbbaaGreatDoor
