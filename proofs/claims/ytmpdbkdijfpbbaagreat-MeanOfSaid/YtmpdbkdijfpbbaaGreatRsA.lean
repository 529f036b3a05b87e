/- The document's numbers, with sharper limits. -/
import Derived.Test.YtmpdbkdijfpbbaaGreatCuF
import Derived.Test.YtmpdbkdijfpbbaaGreatMnW
import Derived.Test.YtmpdbkdijfpbbaaGreatSh
namespace Go.Proofs.YtmpdbkdijfpbbaaGreat
open Go.RowKit
set_option maxRecDepth 100000
set_option linter.unusedVariables false

theorem one_div2 (n : Int) : ((n : Int) : Rat) / ((1 : Int) : Rat) = ((n : Int) : Rat) := of_one n
theorem dOf1b_any (n : Int) (w : World) (b1 : -9223372036854775808 < n) (b2 : n ≤ 9223372036854775807) : Calls Tryz.prog 47 #[.int .i64 n, .int .i64 1] w (RrPost w ((n : Int) : Rat) 2) := by
  have := dOf_any n 1 w b1 b2 (by decide) (by decide)
  rwa [one_div2] at this
set_option maxHeartbeats 1000000 in
theorem dAdd2_any (v1 v2 : Value) (q1 q2 : Rat) (k j : Nat) (w : World) (h1 : Rr w v1 q1 k) (h2 : Rr w v2 q2 j) (hp : 1 ≤ k) (hp2 : 1 ≤ j) (hk : k ≤ 10000) (hj : j ≤ 10000) :
    Calls Tryz.prog 65 #[v1, v2] w (RrPost w (q1 + q2) (k + j + 1)) := by
  obtain ⟨b1, ad1, n1, c1, ae1, m1, d1, z1, D1, rfl, hn1, hd1, hD1, hq1, lz1, lD1⟩ := h1.shape
  have h1 : Rr w (.agg #[.bool b1, .slice ad1 n1 c1, .slice ae1 m1 d1]) q1 k := ⟨_, _, _, _, _, _, _, _, _, rfl, hn1, hd1, hD1, hq1, lz1, lD1⟩
  have ha1 := hn1.abs
  have hb1 := hn1.neg
  replace hq1 := Lib.hid hq1
  obtain ⟨b2, ad2, n2, c2, ae2, m2, d2, z2, D2, rfl, hn2, hd2, hD2, hq2, lz2, lD2⟩ := h2.shape
  have h2 : Rr w (.agg #[.bool b2, .slice ad2 n2 c2, .slice ae2 m2 d2]) q2 j := ⟨_, _, _, _, _, _, _, _, _, rfl, hn2, hd2, hD2, hq2, lz2, lD2⟩
  have ha2 := hn2.abs
  have hb2 := hn2.neg
  replace hq2 := Lib.hid hq2
  have bel : Below w.heap.size w w := Below.refl _ _
  refine E.enter (nt := 26) (L := [(0, .agg #[.bool b1, .slice ad1 n1 c1, .slice ae1 m1 d1]), (1, .agg #[.bool b2, .slice ad2 n2 c2, .slice ae2 m2 d2])]) Tryz.func65 rfl rfl rfl (args_cons (i := 0) rfl (args_cons (i := 1) rfl args_nil)) ?_
  intro a hF
  refine wp_seq ?_
  refine E.seq ?_
  obtain ⟨g2, w1, ge2, hr, bb, o2⟩ := own_box (P := Tryz.prog) (w := w) (cs := [.bool b1, .slice ad1 n1 c1, .slice ae1 m1 d1]) (v := .agg #[.bool b1, .slice ad1 n1 c1, .slice ae1 m1 d1]) 39 rfl (niB (niS (niS ni0)))
  replace ge2 : w.heap.size ≤ g2 := by rw [← ge2]; exact bel.size
  refine E.opv hF (r_box (hF.at 0 rfl) hr) rfl rfl rfl rfl fun a hF => ?_
  clear hr
  replace bel := below_to bel bb
  clear bb
  obtain ⟨g3, w2, ge3, hr, bb, o3⟩ := own_box (P := Tryz.prog) (w := w1) (cs := [.bool b2, .slice ad2 n2 c2, .slice ae2 m2 d2]) (v := .agg #[.bool b2, .slice ad2 n2 c2, .slice ae2 m2 d2]) 39 rfl (niB (niS (niS ni0)))
  have ne2_3 : g2 ≠ g3 := by rw [← ge3]; exact o2.ne_new
  replace ge3 : w.heap.size ≤ g3 := by rw [← ge3]; exact bel.size
  refine E.opv hF (r_box (hF.at 2 rfl) hr) rfl rfl rfl rfl fun a hF => ?_
  clear hr
  replace o2 := o2.below bb
  replace bel := below_to bel bb
  clear bb
  obtain ⟨g4, w3, ge4, hr, bb, o4⟩ := own_alloc (P := Tryz.prog) (w := w2) (cs := [.bool false, .slice none 0 0, .slice none 0 0]) 39 ze_RRat rfl (niB (niS (niS ni0)))
  have ne2_4 : g2 ≠ g4 := by rw [← ge4]; exact o2.ne_new
  have ne3_4 : g3 ≠ g4 := by rw [← ge4]; exact o3.ne_new
  replace ge4 : w.heap.size ≤ g4 := by rw [← ge4]; exact bel.size
  refine E.opv hF (r_alloc hr) rfl rfl rfl rfl fun a hF => ?_
  clear hr
  replace o2 := o2.below bb
  replace o3 := o3.below bb
  replace bel := below_to bel bb
  clear bb
  refine E.nil ?_
  refine wp_seq ?_
  refine E.drawn2 9 mixed hF [some 7, some 8, some 9, some 10, some 11, some 12, some 5, some 6, none] [(fun _ v => v = .pointer (some ⟨g2, 2, none⟩)), (fun _ v => v = .slice ae1 m1 d1), (fun _ v => v = .agg #[.bool false, .slice ae1 m1 d1]), (fun _ v => v = .pointer (some ⟨g3, 2, none⟩)), (fun _ v => v = .slice ae2 m2 d2), (fun _ v => v = .agg #[.bool false, .slice ae2 m2 d2]), (fun _ _ => True), (fun _ _ => True), (fun _ _ => True)] [6, 7] [⟨8, 6, 2⟩] [[], [], [], [], [], [], [.bool false, .slice none 0 0], [.bool false, .slice none 0 0], []] (by decide +kernel) (by decide +kernel) rfl rfl rfl (by decide +kernel) (by decide +kernel) ⟨(Mk.eq _), (Mk.eq _), (Mk.eq _), (Mk.eq _), (Mk.eq _), (Mk.eq _), Mk.any, Mk.any, Mk.any, trivial⟩ ⟨?_, ?_, ?_, ?_, ?_, ?_, ?_, ?_, ?_, trivial⟩ ?_
  · refine step2_val rfl ?_
    intro a' w' hF' hb hd
    exact dw0 (r_field (hF'.at 2 rfl) (fa_RRat_1 (p := 2) rfl)) rfl rfl rfl
  · refine step2_val rfl ?_
    intro a' w' hF' hb hd
    have e7 := sHe2 hd 0 7 rfl rfl rfl rfl rfl
    exact dw0 (r_load e7 (ld_Num (v := .slice ae1 m1 d1) (o2.below hb) rfl)) rfl rfl rfl
  · refine step2_val rfl ?_
    intro a' w' hF' hb hd
    have e8 := sHe2 hd 0 8 rfl rfl rfl rfl rfl
    exact dw0 (r_build (pair1 e8) (bd_RInt_1 _ _ _ _)) rfl rfl rfl
  · refine step2_val rfl ?_
    intro a' w' hF' hb hd
    exact dw0 (r_field (hF'.at 1 rfl) (fa_RRat_1 (p := 2) rfl)) rfl rfl rfl
  · refine step2_val rfl ?_
    intro a' w' hF' hb hd
    have e10 := sHe2 hd 0 10 rfl rfl rfl rfl rfl
    exact dw0 (r_load e10 (ld_Num (v := .slice ae2 m2 d2) (o3.below hb) rfl)) rfl rfl rfl
  · refine step2_val rfl ?_
    intro a' w' hF' hb hd
    have e11 := sHe2 hd 0 11 rfl rfl rfl rfl rfl
    exact dw0 (r_build (pair1 e11) (bd_RInt_1 _ _ _ _)) rfl rfl rfl
  · refine step2_val rfl ?_
    intro a' w' hF' hb hd
    obtain ⟨g, w2, ge, hr, bb, on⟩ := own_alloc (P := Tryz.prog) (w := w') (cs := [.bool false, .slice none 0 0]) 37 ze_RInt rfl (niB (niS ni0))
    subst ge
    exact if_does (wanted_free rfl) (Does.vals (r_alloc hr) ⟨(fun h => absurd h (by decide)), bb, fun _ => ⟨rfl, on⟩⟩)
  · refine step2_val rfl ?_
    intro a' w' hF' hb hd
    obtain ⟨g, w2, ge, hr, bb, on⟩ := own_alloc (P := Tryz.prog) (w := w') (cs := [.bool false, .slice none 0 0]) 37 ze_RInt rfl (niB (niS ni0))
    subst ge
    exact if_does (wanted_free rfl) (Does.vals (r_alloc hr) ⟨(fun h => absurd h (by decide)), bb, fun _ => ⟨rfl, on⟩⟩)
  · exact step2_sto ⟨⟨8, 6, 2⟩, by simp, rfl⟩ (b := 6) (v := 2) rfl rfl rfl rfl rfl rfl sz_RInt rfl (by decide) (by decide) (fun _ _ h => ⟨[.bool false, .slice ae1 m1 d1], by rw [h]; rfl, rfl, (niB (niS ni0)), (ocB (ocS oc0))⟩)
  intro a w4 hF bb hall hblk hne
  have e9 := sSe2 hall 2 9 rfl rfl rfl
  have e12 := sSe2 hall 5 12 rfl rfl rfl
  obtain ⟨g5, cs5, e5, ge5, o5, hc5⟩ := hblk 6 5 (by decide) rfl
  have hc5 := (hc5.2 ⟨8, 6, 2⟩ (by simp) rfl).2 rfl 9 rfl
  rw [e9] at hc5
  obtain rfl : cs5 = [.bool false, .slice ae1 m1 d1] := by have hx := congrArg Array.toList hc5; exact hx.symm
  clear hc5
  have ne2_5 : g2 ≠ g5 := Nat.ne_of_lt (Nat.lt_of_lt_of_le o2.lt ge5)
  have ne3_5 : g3 ≠ g5 := Nat.ne_of_lt (Nat.lt_of_lt_of_le o3.lt ge5)
  have ne4_5 : g4 ≠ g5 := Nat.ne_of_lt (Nat.lt_of_lt_of_le o4.lt ge5)
  obtain ⟨g6, cs6, e6, ge6, o6, hc6⟩ := hblk 7 6 (by decide) rfl
  obtain rfl : cs6 = [.bool false, .slice none 0 0] := hc6.1 (notBlk_spec rfl)
  clear hc6
  have ne2_6 : g2 ≠ g6 := Nat.ne_of_lt (Nat.lt_of_lt_of_le o2.lt ge6)
  have ne3_6 : g3 ≠ g6 := Nat.ne_of_lt (Nat.lt_of_lt_of_le o3.lt ge6)
  have ne4_6 : g4 ≠ g6 := Nat.ne_of_lt (Nat.lt_of_lt_of_le o4.lt ge6)
  have ne5_6 : g5 ≠ g6 := by intro e; exact hne 6 7 5 6 (by decide) (by decide) (by decide) rfl rfl (by rw [e5, e6, e])
  replace ge5 : w.heap.size ≤ g5 := Nat.le_trans bel.size ge5
  replace ge6 : w.heap.size ≤ g6 := Nat.le_trans bel.size ge6
  clear hall hblk hne
  replace o2 := o2.below bb
  replace o3 := o3.below bb
  replace o4 := o4.below bb
  replace bel := below_to bel bb
  clear bb
  clear e9
  replace hF := hF.add e12
  clear e12
  replace hF := hF.add e5
  clear e5
  replace hF := hF.add e6
  clear e6
  obtain ⟨w5, hr, tu, on⟩ := st_RInt (vs := [.bool false, .slice ae2 m2 d2]) o6 rfl rfl (ocB (ocS oc0)) (niB (niS ni0)) (o := 0) rfl
  have kp := tu.keep o6
  refine E.st hF (r_store (hF.at 0 rfl) (hF.at 2 rfl) (hr _ rfl)) rfl rfl fun a hF => ?_
  clear hr
  replace o2 := tu.own o2 ne2_6
  replace o3 := tu.own o3 ne3_6
  replace o4 := tu.own o4 ne4_6
  replace o5 := tu.own o5 ne5_6
  replace bel := tu.below bel ge6
  clear tu kp
  replace o6 := on
  clear on
  refine E.nil ?_
  refine wp_seq ?_
  refine E.drawn 13 mixed hF [13, 14, 15, 16, 17, 18, 19, 20, 21, 22, 23, 24, 25] [(fun _ v => v = .pointer (some ⟨g2, 0, none⟩)), (fun _ v => v = .agg #[.bool b1, .slice ad1 n1 c1]), (fun _ v => v = .agg #[.bool false, .slice ae2 m2 d2]), (fun w v => Rz w v (z1 * (((D2 : Nat) : Int)))), (fun _ v => v = .pointer (some ⟨g3, 0, none⟩)), (fun _ v => v = .agg #[.bool b2, .slice ad2 n2 c2]), (fun _ v => v = .agg #[.bool false, .slice ae1 m1 d1]), (fun w v => Rz w v (z2 * (((D1 : Nat) : Int)))), (fun w v => Rz w v ((z1 * (((D2 : Nat) : Int))) + (z2 * (((D1 : Nat) : Int))))), (fun _ v => v = .agg #[.bool false, .slice ae1 m1 d1]), (fun _ v => v = .agg #[.bool false, .slice ae2 m2 d2]), (fun w v => Rz w v ((((D1 : Nat) : Int)) * (((D2 : Nat) : Int)))), (fun w v => Rr w v ((((z1 * (((D2 : Nat) : Int))) + (z2 * (((D1 : Nat) : Int))) : Int) : Rat) / (((((D1 : Nat) : Int)) * (((D2 : Nat) : Int)) : Int) : Rat)) ((max ((max (k + j) (j + k)) + 1) (k + j))))] [] (by decide +kernel) (by decide +kernel) rfl rfl rfl ⟨(Mb.eq _), (Mb.eq _), (Mb.eq _), (fun _ _ _ h hb => h.below hb), (Mb.eq _), (Mb.eq _), (Mb.eq _), (fun _ _ _ h hb => h.below hb), (fun _ _ _ h hb => h.below hb), (Mb.eq _), (Mb.eq _), (fun _ _ _ h hb => h.below hb), (fun _ _ _ h hb => h.below hb), trivial⟩ trivial ⟨?_, ?_, ?_, ?_, ?_, ?_, ?_, ?_, ?_, ?_, ?_, ?_, ?_, trivial⟩ ?_
  · intro a' w' hF' hb hd
    exact dv0 (r_field (hF'.at 5 rfl) (fa_RRat_0 (p := 0) rfl)) rfl rfl rfl
  · intro a' w' hF' hb hd
    have e13 := sHe hd 0 13 rfl rfl rfl rfl
    exact dv0 (r_load e13 (ld_RInt (vs := [.bool b1, .slice ad1 n1 c1]) (o2.below hb) rfl rfl)) rfl rfl rfl
  · intro a' w' hF' hb hd
    exact dv0 (r_load (hF'.at 0 rfl) (ld_RInt (vs := [.bool false, .slice ae2 m2 d2]) (o6.below hb) rfl rfl)) rfl rfl rfl
  · intro a' w' hF' hb hd
    have e14 := sHe hd 0 14 rfl rfl rfl rfl
    have e15 := sHe hd 1 15 rfl rfl rfl rfl
    exact dc0 (r_call Tryz.func45 en45.1 en45.2 (map2 e14 e15)) (rmul_any _ _ _ _ k j _ (hn1.below (below_to bel hb)) (Rz.nat (hd2.below (below_to bel hb))) lz1 (lim_cast lD2) (by omega) (by omega)) rfl rfl
  · intro a' w' hF' hb hd
    exact dv0 (r_field (hF'.at 4 rfl) (fa_RRat_0 (p := 0) rfl)) rfl rfl rfl
  · intro a' w' hF' hb hd
    have e17 := sHe hd 0 17 rfl rfl rfl rfl
    exact dv0 (r_load e17 (ld_RInt (vs := [.bool b2, .slice ad2 n2 c2]) (o3.below hb) rfl rfl)) rfl rfl rfl
  · intro a' w' hF' hb hd
    exact dv0 (r_load (hF'.at 1 rfl) (ld_RInt (vs := [.bool false, .slice ae1 m1 d1]) (o5.below hb) rfl rfl)) rfl rfl rfl
  · intro a' w' hF' hb hd
    have e18 := sHe hd 0 18 rfl rfl rfl rfl
    have e19 := sHe hd 1 19 rfl rfl rfl rfl
    exact dc0 (r_call Tryz.func45 en45.1 en45.2 (map2 e18 e19)) (rmul_any _ _ _ _ j k _ (hn2.below (below_to bel hb)) (Rz.nat (hd1.below (below_to bel hb))) lz2 (lim_cast lD1) (by omega) (by omega)) rfl rfl
  · intro a' w' hF' hb hd
    obtain ⟨v16_0, e16, h16_1⟩ := sH hd 0 16 rfl rfl rfl rfl
    obtain ⟨v20_0, e20, h20_1⟩ := sH hd 1 20 rfl rfl rfl rfl
    exact dc0 (r_call Tryz.func76 en76.1 en76.2 (map2 e16 e20)) (radd_any3 _ _ _ _ (k + j) (j + k) _ h16_1 h20_1 (limz_mul lz1 (lim_cast lD2)) (limz_mul lz2 (lim_cast lD1)) (by omega) (by omega)) rfl rfl
  · intro a' w' hF' hb hd
    exact dv0 (r_load (hF'.at 1 rfl) (ld_RInt (vs := [.bool false, .slice ae1 m1 d1]) (o5.below hb) rfl rfl)) rfl rfl rfl
  · intro a' w' hF' hb hd
    exact dv0 (r_load (hF'.at 0 rfl) (ld_RInt (vs := [.bool false, .slice ae2 m2 d2]) (o6.below hb) rfl rfl)) rfl rfl rfl
  · intro a' w' hF' hb hd
    have e22 := sHe hd 0 22 rfl rfl rfl rfl
    have e23 := sHe hd 1 23 rfl rfl rfl rfl
    exact dc0 (r_call Tryz.func45 en45.1 en45.2 (map2 e22 e23)) (rmul_any _ _ _ _ k j _ (Rz.nat (hd1.below (below_to bel hb))) (Rz.nat (hd2.below (below_to bel hb))) (lim_cast lD1) (lim_cast lD2) (by omega) (by omega)) rfl rfl
  · intro a' w' hF' hb hd
    obtain ⟨v21_0, e21, h21_1⟩ := sH hd 0 21 rfl rfl rfl rfl
    obtain ⟨v24_0, e24, h24_1⟩ := sH hd 1 24 rfl rfl rfl rfl
    exact dc0 (r_call Tryz.func26 en26.1 en26.2 (map2 e21 e24)) (dmk_any _ _ ((z1 * (((D2 : Nat) : Int))) + (z2 * (((D1 : Nat) : Int)))) ((((D1 : Nat) : Int)) * (((D2 : Nat) : Int))) (max ((max (k + j) (j + k)) + 1) (k + j)) _ h21_1 h24_1 (Lim.up (limz_add (limz_mul lz1 (lim_cast lD2)) (limz_mul lz2 (lim_cast lD1)) ((max (k + j) (j + k)) + 1) (by omega) (by omega)) _ (by omega)) (Lim.up (limz_mul (lim_cast lD1) (lim_cast lD2)) _ (by omega)) (by omega)) rfl rfl
  intro a w6 hF bb hall hne
  obtain ⟨vv7, e25, hh8⟩ := sS hall 12 25 rfl rfl
  clear hall hne
  replace o4 := o4.below bb
  replace bel := below_to bel bb
  clear bb
  obtain ⟨b9, ad9, n9, c9, ae9, m9, d9, z9, D9, rfl, hn9, hd9, hD9, hq9, lz9, lD9⟩ := Rr.shape hh8
  have ha9 := hn9.abs
  replace hF := hF.add e25
  clear e25
  obtain ⟨w10, hr, tu, on⟩ := st_RRat (vs := [.bool b9, .slice ad9 n9 c9, .slice ae9 m9 d9]) o4 rfl rfl (ocB (ocS (ocS oc0))) (niB (niS (niS ni0))) (o := 0) rfl
  have kp := tu.keep o4
  refine E.st hF (r_store (hF.at 4 rfl) (hF.at 0 rfl) (hr _ rfl)) rfl rfl fun a hF => ?_
  clear hr
  replace hh8 := hh8.keep kp
  replace hn9 := hn9.keep kp
  replace ha9 := ha9.keep kp
  replace hd9 := hd9.keep kp
  replace bel := tu.below bel ge4
  clear tu kp
  replace o4 := on
  clear on
  refine E.nil ?_
  refine wp_ret ?_
  refine bodyPost_ret (res_cell Tryz.results65 (hF.at 4 rfl) (ld_RRat (vs := [.bool b9, .slice ad9 n9 c9, .slice ae9 m9 d9]) o4 rfl rfl)) hF.dfr ?_
  exact ⟨_, rfl, Rr.cast (Rr.up hh8 _ (by omega)) (by rw [hq1.out, hq2.out]; exact radd_eq hD1 hD2), bel⟩

set_option maxHeartbeats 1000000 in
theorem dMul2_any (v1 v2 : Value) (q1 q2 : Rat) (k j : Nat) (w : World) (h1 : Rr w v1 q1 k) (h2 : Rr w v2 q2 j) (hp : 1 ≤ k) (hp2 : 1 ≤ j) (hk : k ≤ 10000) (hj : j ≤ 10000) :
    Calls Tryz.prog 48 #[v1, v2] w (RrPost w (q1 * q2) (k + j)) := by
  obtain ⟨b1, ad1, n1, c1, ae1, m1, d1, z1, D1, rfl, hn1, hd1, hD1, hq1, lz1, lD1⟩ := h1.shape
  have h1 : Rr w (.agg #[.bool b1, .slice ad1 n1 c1, .slice ae1 m1 d1]) q1 k := ⟨_, _, _, _, _, _, _, _, _, rfl, hn1, hd1, hD1, hq1, lz1, lD1⟩
  have ha1 := hn1.abs
  have hb1 := hn1.neg
  replace hq1 := Lib.hid hq1
  obtain ⟨b2, ad2, n2, c2, ae2, m2, d2, z2, D2, rfl, hn2, hd2, hD2, hq2, lz2, lD2⟩ := h2.shape
  have h2 : Rr w (.agg #[.bool b2, .slice ad2 n2 c2, .slice ae2 m2 d2]) q2 j := ⟨_, _, _, _, _, _, _, _, _, rfl, hn2, hd2, hD2, hq2, lz2, lD2⟩
  have ha2 := hn2.abs
  have hb2 := hn2.neg
  replace hq2 := Lib.hid hq2
  have bel : Below w.heap.size w w := Below.refl _ _
  refine E.enter (nt := 17) (L := [(0, .agg #[.bool b1, .slice ad1 n1 c1, .slice ae1 m1 d1]), (1, .agg #[.bool b2, .slice ad2 n2 c2, .slice ae2 m2 d2])]) Tryz.func48 rfl rfl rfl (args_cons (i := 0) rfl (args_cons (i := 1) rfl args_nil)) ?_
  intro a hF
  refine wp_seq ?_
  refine E.seq ?_
  obtain ⟨g2, w1, ge2, hr, bb, o2⟩ := own_box (P := Tryz.prog) (w := w) (cs := [.bool b1, .slice ad1 n1 c1, .slice ae1 m1 d1]) (v := .agg #[.bool b1, .slice ad1 n1 c1, .slice ae1 m1 d1]) 39 rfl (niB (niS (niS ni0)))
  replace ge2 : w.heap.size ≤ g2 := by rw [← ge2]; exact bel.size
  refine E.opv hF (r_box (hF.at 0 rfl) hr) rfl rfl rfl rfl fun a hF => ?_
  clear hr
  replace bel := below_to bel bb
  clear bb
  obtain ⟨g3, w2, ge3, hr, bb, o3⟩ := own_box (P := Tryz.prog) (w := w1) (cs := [.bool b2, .slice ad2 n2 c2, .slice ae2 m2 d2]) (v := .agg #[.bool b2, .slice ad2 n2 c2, .slice ae2 m2 d2]) 39 rfl (niB (niS (niS ni0)))
  have ne2_3 : g2 ≠ g3 := by rw [← ge3]; exact o2.ne_new
  replace ge3 : w.heap.size ≤ g3 := by rw [← ge3]; exact bel.size
  refine E.opv hF (r_box (hF.at 2 rfl) hr) rfl rfl rfl rfl fun a hF => ?_
  clear hr
  replace o2 := o2.below bb
  replace bel := below_to bel bb
  clear bb
  obtain ⟨g4, w3, ge4, hr, bb, o4⟩ := own_alloc (P := Tryz.prog) (w := w2) (cs := [.bool false, .slice none 0 0, .slice none 0 0]) 39 ze_RRat rfl (niB (niS (niS ni0)))
  have ne2_4 : g2 ≠ g4 := by rw [← ge4]; exact o2.ne_new
  have ne3_4 : g3 ≠ g4 := by rw [← ge4]; exact o3.ne_new
  replace ge4 : w.heap.size ≤ g4 := by rw [← ge4]; exact bel.size
  refine E.opv hF (r_alloc hr) rfl rfl rfl rfl fun a hF => ?_
  clear hr
  replace o2 := o2.below bb
  replace o3 := o3.below bb
  replace bel := below_to bel bb
  clear bb
  refine E.nil ?_
  refine wp_seq ?_
  refine E.drawn 12 mixed hF [5, 6, 7, 8, 9, 10, 11, 12, 13, 14, 15, 16] [(fun _ v => v = .pointer (some ⟨g2, 0, none⟩)), (fun _ v => v = .agg #[.bool b1, .slice ad1 n1 c1]), (fun _ v => v = .pointer (some ⟨g3, 0, none⟩)), (fun _ v => v = .agg #[.bool b2, .slice ad2 n2 c2]), (fun w v => Rz w v (z1 * z2)), (fun _ v => v = .pointer (some ⟨g2, 2, none⟩)), (fun _ v => v = .slice ae1 m1 d1), (fun _ v => v = .pointer (some ⟨g3, 2, none⟩)), (fun _ v => v = .slice ae2 m2 d2), (fun w v => Dg w .i64 65536 v ((D1) * (D2))), (fun w v => Rz w v ((((D1) * (D2) : Nat) : Int))), (fun w v => Rr w v (((z1 * z2 : Int) : Rat) / (((((D1) * (D2) : Nat) : Int) : Int) : Rat)) ((k + j)))] [] (by decide +kernel) (by decide +kernel) rfl rfl rfl ⟨(Mb.eq _), (Mb.eq _), (Mb.eq _), (Mb.eq _), (fun _ _ _ h hb => h.below hb), (Mb.eq _), (Mb.eq _), (Mb.eq _), (Mb.eq _), (fun _ _ _ h hb => h.below hb), (fun _ _ _ h hb => h.below hb), (fun _ _ _ h hb => h.below hb), trivial⟩ trivial ⟨?_, ?_, ?_, ?_, ?_, ?_, ?_, ?_, ?_, ?_, ?_, ?_, trivial⟩ ?_
  · intro a' w' hF' hb hd
    exact dv0 (r_field (hF'.at 2 rfl) (fa_RRat_0 (p := 0) rfl)) rfl rfl rfl
  · intro a' w' hF' hb hd
    have e5 := sHe hd 0 5 rfl rfl rfl rfl
    exact dv0 (r_load e5 (ld_RInt (vs := [.bool b1, .slice ad1 n1 c1]) (o2.below hb) rfl rfl)) rfl rfl rfl
  · intro a' w' hF' hb hd
    exact dv0 (r_field (hF'.at 1 rfl) (fa_RRat_0 (p := 0) rfl)) rfl rfl rfl
  · intro a' w' hF' hb hd
    have e7 := sHe hd 0 7 rfl rfl rfl rfl
    exact dv0 (r_load e7 (ld_RInt (vs := [.bool b2, .slice ad2 n2 c2]) (o3.below hb) rfl rfl)) rfl rfl rfl
  · intro a' w' hF' hb hd
    have e6 := sHe hd 0 6 rfl rfl rfl rfl
    have e8 := sHe hd 1 8 rfl rfl rfl rfl
    exact dc0 (r_call Tryz.func45 en45.1 en45.2 (map2 e6 e8)) (rmul_any _ _ _ _ k j _ (hn1.below (below_to bel hb)) (hn2.below (below_to bel hb)) lz1 lz2 (by omega) (by omega)) rfl rfl
  · intro a' w' hF' hb hd
    exact dv0 (r_field (hF'.at 2 rfl) (fa_RRat_1 (p := 2) rfl)) rfl rfl rfl
  · intro a' w' hF' hb hd
    have e10 := sHe hd 0 10 rfl rfl rfl rfl
    exact dv0 (r_load e10 (ld_Num (v := .slice ae1 m1 d1) (o2.below hb) rfl)) rfl rfl rfl
  · intro a' w' hF' hb hd
    exact dv0 (r_field (hF'.at 1 rfl) (fa_RRat_1 (p := 2) rfl)) rfl rfl rfl
  · intro a' w' hF' hb hd
    have e12 := sHe hd 0 12 rfl rfl rfl rfl
    exact dv0 (r_load e12 (ld_Num (v := .slice ae2 m2 d2) (o3.below hb) rfl)) rfl rfl rfl
  · intro a' w' hF' hb hd
    have e11 := sHe hd 0 11 rfl rfl rfl rfl
    have e13 := sHe hd 1 13 rfl rfl rfl rfl
    exact dc0 (r_call Tryz.func78 en78.1 en78.2 (map2 e11 e13)) (smul_any _ _ D1 D2 _ (hd1.below (below_to bel hb)) (hd2.below (below_to bel hb)) (Lim.dh lD1 _ (by omega)) (Lim.dh lD2 _ (by omega))) rfl rfl
  · intro a' w' hF' hb hd
    obtain ⟨v14_0, e14, h14_1⟩ := sH hd 0 14 rfl rfl rfl rfl
    obtain ⟨ad4, n4, c4, rfl⟩ := Dg.form h14_1
    exact dv0 (r_build (pair1 e14) (bd_RInt_1 _ _ _ _)) (Rz.nat h14_1) rfl rfl
  · intro a' w' hF' hb hd
    obtain ⟨v9_0, e9, h9_1⟩ := sH hd 0 9 rfl rfl rfl rfl
    obtain ⟨v15, e15, h15⟩ := sH hd 1 15 rfl rfl rfl rfl
    exact dc0 (r_call Tryz.func26 en26.1 en26.2 (map2 e9 e15)) (dmk_any _ _ (z1 * z2) ((((D1) * (D2) : Nat) : Int)) (k + j) _ h9_1 h15 (Lim.up (limz_mul lz1 lz2) _ (by omega)) (Lim.up (lim_cast (Lim.mul lD1 lD2)) _ (by omega)) (by omega)) rfl rfl
  intro a w5 hF bb hall hne
  obtain ⟨vv6, e16, hh7⟩ := sS hall 11 16 rfl rfl
  clear hall hne
  replace o4 := o4.below bb
  replace bel := below_to bel bb
  clear bb
  obtain ⟨b8, ad8, n8, c8, ae8, m8, d8, z8, D8, rfl, hn8, hd8, hD8, hq8, lz8, lD8⟩ := Rr.shape hh7
  have ha8 := hn8.abs
  replace hF := hF.add e16
  clear e16
  obtain ⟨w9, hr, tu, on⟩ := st_RRat (vs := [.bool b8, .slice ad8 n8 c8, .slice ae8 m8 d8]) o4 rfl rfl (ocB (ocS (ocS oc0))) (niB (niS (niS ni0))) (o := 0) rfl
  have kp := tu.keep o4
  refine E.st hF (r_store (hF.at 1 rfl) (hF.at 0 rfl) (hr _ rfl)) rfl rfl fun a hF => ?_
  clear hr
  replace hh7 := hh7.keep kp
  replace hn8 := hn8.keep kp
  replace ha8 := ha8.keep kp
  replace hd8 := hd8.keep kp
  replace bel := tu.below bel ge4
  clear tu kp
  replace o4 := on
  clear on
  refine E.nil ?_
  refine wp_ret ?_
  refine bodyPost_ret (res_cell Tryz.results48 (hF.at 1 rfl) (ld_RRat (vs := [.bool b8, .slice ad8 n8 c8, .slice ae8 m8 d8]) o4 rfl rfl)) hF.dfr ?_
  exact ⟨_, rfl, Rr.cast (Rr.up hh7 _ (by omega)) (by rw [hq1.out, hq2.out]; exact rmul_eq hD1 hD2), bel⟩

set_option maxHeartbeats 1000000 in
theorem dDiv2_any (v1 v2 : Value) (q1 q2 : Rat) (k j : Nat) (w : World) (h1 : Rr w v1 q1 k) (h2 : Rr w v2 q2 j) (hp : 1 ≤ k) (hp2 : 1 ≤ j) (hk : k ≤ 10000) (hj : j ≤ 10000) :
    Calls Tryz.prog 52 #[v1, v2] w (RrPost w (q1 / q2) (k + j)) := by
  obtain ⟨b1, ad1, n1, c1, ae1, m1, d1, z1, D1, rfl, hn1, hd1, hD1, hq1, lz1, lD1⟩ := h1.shape
  have h1 : Rr w (.agg #[.bool b1, .slice ad1 n1 c1, .slice ae1 m1 d1]) q1 k := ⟨_, _, _, _, _, _, _, _, _, rfl, hn1, hd1, hD1, hq1, lz1, lD1⟩
  have ha1 := hn1.abs
  have hb1 := hn1.neg
  replace hq1 := Lib.hid hq1
  obtain ⟨b2, ad2, n2, c2, ae2, m2, d2, z2, D2, rfl, hn2, hd2, hD2, hq2, lz2, lD2⟩ := h2.shape
  have h2 : Rr w (.agg #[.bool b2, .slice ad2 n2 c2, .slice ae2 m2 d2]) q2 j := ⟨_, _, _, _, _, _, _, _, _, rfl, hn2, hd2, hD2, hq2, lz2, lD2⟩
  have ha2 := hn2.abs
  have hb2 := hn2.neg
  replace hq2 := Lib.hid hq2
  have bel : Below w.heap.size w w := Below.refl _ _
  refine E.enter (nt := 18) (L := [(0, .agg #[.bool b1, .slice ad1 n1 c1, .slice ae1 m1 d1]), (1, .agg #[.bool b2, .slice ad2 n2 c2, .slice ae2 m2 d2])]) Tryz.func52 rfl rfl rfl (args_cons (i := 0) rfl (args_cons (i := 1) rfl args_nil)) ?_
  intro a hF
  refine wp_seq ?_
  refine E.seq ?_
  obtain ⟨g2, w1, ge2, hr, bb, o2⟩ := own_box (P := Tryz.prog) (w := w) (cs := [.bool b1, .slice ad1 n1 c1, .slice ae1 m1 d1]) (v := .agg #[.bool b1, .slice ad1 n1 c1, .slice ae1 m1 d1]) 39 rfl (niB (niS (niS ni0)))
  replace ge2 : w.heap.size ≤ g2 := by rw [← ge2]; exact bel.size
  refine E.opv hF (r_box (hF.at 0 rfl) hr) rfl rfl rfl rfl fun a hF => ?_
  clear hr
  replace bel := below_to bel bb
  clear bb
  obtain ⟨g3, w2, ge3, hr, bb, o3⟩ := own_box (P := Tryz.prog) (w := w1) (cs := [.bool b2, .slice ad2 n2 c2, .slice ae2 m2 d2]) (v := .agg #[.bool b2, .slice ad2 n2 c2, .slice ae2 m2 d2]) 39 rfl (niB (niS (niS ni0)))
  have ne2_3 : g2 ≠ g3 := by rw [← ge3]; exact o2.ne_new
  replace ge3 : w.heap.size ≤ g3 := by rw [← ge3]; exact bel.size
  refine E.opv hF (r_box (hF.at 2 rfl) hr) rfl rfl rfl rfl fun a hF => ?_
  clear hr
  replace o2 := o2.below bb
  replace bel := below_to bel bb
  clear bb
  obtain ⟨g4, w3, ge4, hr, bb, o4⟩ := own_alloc (P := Tryz.prog) (w := w2) (cs := [.bool false, .slice none 0 0, .slice none 0 0]) 39 ze_RRat rfl (niB (niS (niS ni0)))
  have ne2_4 : g2 ≠ g4 := by rw [← ge4]; exact o2.ne_new
  have ne3_4 : g3 ≠ g4 := by rw [← ge4]; exact o3.ne_new
  replace ge4 : w.heap.size ≤ g4 := by rw [← ge4]; exact bel.size
  refine E.opv hF (r_alloc hr) rfl rfl rfl rfl fun a hF => ?_
  clear hr
  replace o2 := o2.below bb
  replace o3 := o3.below bb
  replace bel := below_to bel bb
  clear bb
  refine E.nil ?_
  refine wp_seq ?_
  refine E.drawn 13 mixed hF [5, 6, 7, 8, 9, 10, 11, 12, 13, 14, 15, 16, 17] [(fun _ v => v = .pointer (some ⟨g2, 0, none⟩)), (fun _ v => v = .agg #[.bool b1, .slice ad1 n1 c1]), (fun _ v => v = .pointer (some ⟨g3, 2, none⟩)), (fun _ v => v = .slice ae2 m2 d2), (fun _ v => v = .agg #[.bool false, .slice ae2 m2 d2]), (fun w v => Rz w v (z1 * (((D2 : Nat) : Int)))), (fun _ v => v = .pointer (some ⟨g2, 2, none⟩)), (fun _ v => v = .slice ae1 m1 d1), (fun _ v => v = .agg #[.bool false, .slice ae1 m1 d1]), (fun _ v => v = .pointer (some ⟨g3, 0, none⟩)), (fun _ v => v = .agg #[.bool b2, .slice ad2 n2 c2]), (fun w v => Rz w v ((((D1 : Nat) : Int)) * z2)), (fun w v => Rr w v (((z1 * (((D2 : Nat) : Int)) : Int) : Rat) / (((((D1 : Nat) : Int)) * z2 : Int) : Rat)) ((k + j)))] [] (by decide +kernel) (by decide +kernel) rfl rfl rfl ⟨(Mb.eq _), (Mb.eq _), (Mb.eq _), (Mb.eq _), (Mb.eq _), (fun _ _ _ h hb => h.below hb), (Mb.eq _), (Mb.eq _), (Mb.eq _), (Mb.eq _), (Mb.eq _), (fun _ _ _ h hb => h.below hb), (fun _ _ _ h hb => h.below hb), trivial⟩ trivial ⟨?_, ?_, ?_, ?_, ?_, ?_, ?_, ?_, ?_, ?_, ?_, ?_, ?_, trivial⟩ ?_
  · intro a' w' hF' hb hd
    exact dv0 (r_field (hF'.at 2 rfl) (fa_RRat_0 (p := 0) rfl)) rfl rfl rfl
  · intro a' w' hF' hb hd
    have e5 := sHe hd 0 5 rfl rfl rfl rfl
    exact dv0 (r_load e5 (ld_RInt (vs := [.bool b1, .slice ad1 n1 c1]) (o2.below hb) rfl rfl)) rfl rfl rfl
  · intro a' w' hF' hb hd
    exact dv0 (r_field (hF'.at 1 rfl) (fa_RRat_1 (p := 2) rfl)) rfl rfl rfl
  · intro a' w' hF' hb hd
    have e7 := sHe hd 0 7 rfl rfl rfl rfl
    exact dv0 (r_load e7 (ld_Num (v := .slice ae2 m2 d2) (o3.below hb) rfl)) rfl rfl rfl
  · intro a' w' hF' hb hd
    have e8 := sHe hd 0 8 rfl rfl rfl rfl
    exact dv0 (r_build (pair1 e8) (bd_RInt_1 _ _ _ _)) rfl rfl rfl
  · intro a' w' hF' hb hd
    have e6 := sHe hd 0 6 rfl rfl rfl rfl
    have e9 := sHe hd 1 9 rfl rfl rfl rfl
    exact dc0 (r_call Tryz.func45 en45.1 en45.2 (map2 e6 e9)) (rmul_any _ _ _ _ k j _ (hn1.below (below_to bel hb)) (Rz.nat (hd2.below (below_to bel hb))) lz1 (lim_cast lD2) (by omega) (by omega)) rfl rfl
  · intro a' w' hF' hb hd
    exact dv0 (r_field (hF'.at 2 rfl) (fa_RRat_1 (p := 2) rfl)) rfl rfl rfl
  · intro a' w' hF' hb hd
    have e11 := sHe hd 0 11 rfl rfl rfl rfl
    exact dv0 (r_load e11 (ld_Num (v := .slice ae1 m1 d1) (o2.below hb) rfl)) rfl rfl rfl
  · intro a' w' hF' hb hd
    have e12 := sHe hd 0 12 rfl rfl rfl rfl
    exact dv0 (r_build (pair1 e12) (bd_RInt_1 _ _ _ _)) rfl rfl rfl
  · intro a' w' hF' hb hd
    exact dv0 (r_field (hF'.at 1 rfl) (fa_RRat_0 (p := 0) rfl)) rfl rfl rfl
  · intro a' w' hF' hb hd
    have e14 := sHe hd 0 14 rfl rfl rfl rfl
    exact dv0 (r_load e14 (ld_RInt (vs := [.bool b2, .slice ad2 n2 c2]) (o3.below hb) rfl rfl)) rfl rfl rfl
  · intro a' w' hF' hb hd
    have e13 := sHe hd 0 13 rfl rfl rfl rfl
    have e15 := sHe hd 1 15 rfl rfl rfl rfl
    exact dc0 (r_call Tryz.func45 en45.1 en45.2 (map2 e13 e15)) (rmul_any _ _ _ _ k j _ (Rz.nat (hd1.below (below_to bel hb))) (hn2.below (below_to bel hb)) (lim_cast lD1) lz2 (by omega) (by omega)) rfl rfl
  · intro a' w' hF' hb hd
    obtain ⟨v10_0, e10, h10_1⟩ := sH hd 0 10 rfl rfl rfl rfl
    obtain ⟨v16_0, e16, h16_1⟩ := sH hd 1 16 rfl rfl rfl rfl
    exact dc0 (r_call Tryz.func26 en26.1 en26.2 (map2 e10 e16)) (dmk_any _ _ (z1 * (((D2 : Nat) : Int))) ((((D1 : Nat) : Int)) * z2) (k + j) _ h10_1 h16_1 (Lim.up (limz_mul lz1 (lim_cast lD2)) _ (by omega)) (Lim.up (limz_mul (lim_cast lD1) lz2) _ (by omega)) (by omega)) rfl rfl
  intro a w4 hF bb hall hne
  obtain ⟨vv5, e17, hh6⟩ := sS hall 12 17 rfl rfl
  clear hall hne
  replace o4 := o4.below bb
  replace bel := below_to bel bb
  clear bb
  obtain ⟨b7, ad7, n7, c7, ae7, m7, d7, z7, D7, rfl, hn7, hd7, hD7, hq7, lz7, lD7⟩ := Rr.shape hh6
  have ha7 := hn7.abs
  replace hF := hF.add e17
  clear e17
  obtain ⟨w8, hr, tu, on⟩ := st_RRat (vs := [.bool b7, .slice ad7 n7 c7, .slice ae7 m7 d7]) o4 rfl rfl (ocB (ocS (ocS oc0))) (niB (niS (niS ni0))) (o := 0) rfl
  have kp := tu.keep o4
  refine E.st hF (r_store (hF.at 1 rfl) (hF.at 0 rfl) (hr _ rfl)) rfl rfl fun a hF => ?_
  clear hr
  replace hh6 := hh6.keep kp
  replace hn7 := hn7.keep kp
  replace ha7 := ha7.keep kp
  replace hd7 := hd7.keep kp
  replace bel := tu.below bel ge4
  clear tu kp
  replace o4 := on
  clear on
  refine E.nil ?_
  refine wp_ret ?_
  refine bodyPost_ret (res_cell Tryz.results52 (hF.at 1 rfl) (ld_RRat (vs := [.bool b7, .slice ad7 n7 c7, .slice ae7 m7 d7]) o4 rfl rfl)) hF.dfr ?_
  exact ⟨_, rfl, Rr.cast (Rr.up hh6 _ (by omega)) (by rw [hq1.out, hq2.out]; exact rdiv_eq hD1 hD2), bel⟩

set_option maxHeartbeats 1000000 in
theorem dSub2_any (v1 v2 : Value) (q1 q2 : Rat) (k j : Nat) (w : World) (h1 : Rr w v1 q1 k) (h2 : Rr w v2 q2 j) (hp : 1 ≤ k) (hp2 : 1 ≤ j) (hk : k ≤ 10000) (hj : j ≤ 10000) :
    Calls Tryz.prog 46 #[v1, v2] w (RrPost w (q1 - q2) (k + j + 1)) := by
  obtain ⟨b1, ad1, n1, c1, ae1, m1, d1, z1, D1, rfl, hn1, hd1, hD1, hq1, lz1, lD1⟩ := h1.shape
  have h1 : Rr w (.agg #[.bool b1, .slice ad1 n1 c1, .slice ae1 m1 d1]) q1 k := ⟨_, _, _, _, _, _, _, _, _, rfl, hn1, hd1, hD1, hq1, lz1, lD1⟩
  have ha1 := hn1.abs
  have hb1 := hn1.neg
  replace hq1 := Lib.hid hq1
  obtain ⟨b2, ad2, n2, c2, ae2, m2, d2, z2, D2, rfl, hn2, hd2, hD2, hq2, lz2, lD2⟩ := h2.shape
  have h2 : Rr w (.agg #[.bool b2, .slice ad2 n2 c2, .slice ae2 m2 d2]) q2 j := ⟨_, _, _, _, _, _, _, _, _, rfl, hn2, hd2, hD2, hq2, lz2, lD2⟩
  have ha2 := hn2.abs
  have hb2 := hn2.neg
  replace hq2 := Lib.hid hq2
  have bel : Below w.heap.size w w := Below.refl _ _
  refine E.enter (nt := 9) (L := [(0, .agg #[.bool b1, .slice ad1 n1 c1, .slice ae1 m1 d1]), (1, .agg #[.bool b2, .slice ad2 n2 c2, .slice ae2 m2 d2])]) Tryz.func46 rfl rfl rfl (args_cons (i := 0) rfl (args_cons (i := 1) rfl args_nil)) ?_
  intro a hF
  refine wp_seq ?_
  refine E.seq ?_
  obtain ⟨g2, w1, ge2, hr, bb, o2⟩ := own_box (P := Tryz.prog) (w := w) (cs := [.bool b1, .slice ad1 n1 c1, .slice ae1 m1 d1]) (v := .agg #[.bool b1, .slice ad1 n1 c1, .slice ae1 m1 d1]) 39 rfl (niB (niS (niS ni0)))
  replace ge2 : w.heap.size ≤ g2 := by rw [← ge2]; exact bel.size
  refine E.opv hF (r_box (hF.at 0 rfl) hr) rfl rfl rfl rfl fun a hF => ?_
  clear hr
  replace bel := below_to bel bb
  clear bb
  obtain ⟨g3, w2, ge3, hr, bb, o3⟩ := own_box (P := Tryz.prog) (w := w1) (cs := [.bool b2, .slice ad2 n2 c2, .slice ae2 m2 d2]) (v := .agg #[.bool b2, .slice ad2 n2 c2, .slice ae2 m2 d2]) 39 rfl (niB (niS (niS ni0)))
  have ne2_3 : g2 ≠ g3 := by rw [← ge3]; exact o2.ne_new
  replace ge3 : w.heap.size ≤ g3 := by rw [← ge3]; exact bel.size
  refine E.opv hF (r_box (hF.at 2 rfl) hr) rfl rfl rfl rfl fun a hF => ?_
  clear hr
  replace o2 := o2.below bb
  replace bel := below_to bel bb
  clear bb
  obtain ⟨g4, w3, ge4, hr, bb, o4⟩ := own_alloc (P := Tryz.prog) (w := w2) (cs := [.bool false, .slice none 0 0, .slice none 0 0]) 39 ze_RRat rfl (niB (niS (niS ni0)))
  have ne2_4 : g2 ≠ g4 := by rw [← ge4]; exact o2.ne_new
  have ne3_4 : g3 ≠ g4 := by rw [← ge4]; exact o3.ne_new
  replace ge4 : w.heap.size ≤ g4 := by rw [← ge4]; exact bel.size
  refine E.opv hF (r_alloc hr) rfl rfl rfl rfl fun a hF => ?_
  clear hr
  replace o2 := o2.below bb
  replace o3 := o3.below bb
  replace bel := below_to bel bb
  clear bb
  refine E.nil ?_
  refine wp_seq ?_
  refine E.drawn 4 mixed hF [5, 6, 7, 8] [(fun _ v => v = .agg #[.bool b1, .slice ad1 n1 c1, .slice ae1 m1 d1]), (fun _ v => v = .agg #[.bool b2, .slice ad2 n2 c2, .slice ae2 m2 d2]), (fun w v => Rr w v (-(q2)) (j)), (fun w v => Rr w v ((q1) + (-(q2))) ((k + j + 1)))] [] (by decide +kernel) (by decide +kernel) rfl rfl rfl ⟨(Mb.eq _), (Mb.eq _), (fun _ _ _ h hb => h.below hb), (fun _ _ _ h hb => h.below hb), trivial⟩ trivial ⟨?_, ?_, ?_, ?_, trivial⟩ ?_
  · intro a' w' hF' hb hd
    exact dv0 (r_load (hF'.at 2 rfl) (ld_RRat (vs := [.bool b1, .slice ad1 n1 c1, .slice ae1 m1 d1]) (o2.below hb) rfl rfl)) rfl rfl rfl
  · intro a' w' hF' hb hd
    exact dv0 (r_load (hF'.at 1 rfl) (ld_RRat (vs := [.bool b2, .slice ad2 n2 c2, .slice ae2 m2 d2]) (o3.below hb) rfl rfl)) rfl rfl rfl
  · intro a' w' hF' hb hd
    have e6 := sHe hd 0 6 rfl rfl rfl rfl
    exact dc0 (r_call Tryz.func79 en79.1 en79.2 (map1 e6)) (dOpp_any _ (q2) j _ (h2.below (below_to bel hb))) rfl rfl
  · intro a' w' hF' hb hd
    have e5 := sHe hd 0 5 rfl rfl rfl rfl
    obtain ⟨v7_0, e7, h7_1⟩ := sH hd 1 7 rfl rfl rfl rfl
    exact dc0 (r_call Tryz.func65 en65.1 en65.2 (map2 e5 e7)) (dAdd2_any _ _ (q1) (-(q2)) k j _ (h1.below (below_to bel hb)) h7_1 (by omega) (by omega) (by omega) (by omega)) rfl rfl
  intro a w4 hF bb hall hne
  obtain ⟨vv5, e8, hh6⟩ := sS hall 3 8 rfl rfl
  clear hall hne
  replace o4 := o4.below bb
  replace bel := below_to bel bb
  clear bb
  obtain ⟨b7, ad7, n7, c7, ae7, m7, d7, z7, D7, rfl, hn7, hd7, hD7, hq7, lz7, lD7⟩ := Rr.shape hh6
  have ha7 := hn7.abs
  replace hF := hF.add e8
  clear e8
  obtain ⟨w8, hr, tu, on⟩ := st_RRat (vs := [.bool b7, .slice ad7 n7 c7, .slice ae7 m7 d7]) o4 rfl rfl (ocB (ocS (ocS oc0))) (niB (niS (niS ni0))) (o := 0) rfl
  have kp := tu.keep o4
  refine E.st hF (r_store (hF.at 1 rfl) (hF.at 0 rfl) (hr _ rfl)) rfl rfl fun a hF => ?_
  clear hr
  replace hh6 := hh6.keep kp
  replace hn7 := hn7.keep kp
  replace ha7 := ha7.keep kp
  replace hd7 := hd7.keep kp
  replace bel := tu.below bel ge4
  clear tu kp
  replace o4 := on
  clear on
  refine E.nil ?_
  refine wp_ret ?_
  refine bodyPost_ret (res_cell Tryz.results46 (hF.at 1 rfl) (ld_RRat (vs := [.bool b7, .slice ad7 n7 c7, .slice ae7 m7 d7]) o4 rfl rfl)) hF.dfr ?_
  exact ⟨_, rfl, Rr.cast hh6 (Rat.sub_eq_add_neg q1 q2).symm, bel⟩

end Go.Proofs.YtmpdbkdijfpbbaaGreat
