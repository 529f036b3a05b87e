/- The walk of RatSmall. -/
import Derived.Test.YtjgafncpahbjkaaLwB
namespace Go.Proofs.Ytjgafncpahbjkaa
open Go.RowKit
set_option maxRecDepth 100000
set_option linter.unusedVariables false

set_option maxHeartbeats 4000000 in
theorem ratSmall_walk (n d : Int) (w : World) (b1 : -9223372036854775808 ≤ n) (b2 : n ≤ 9223372036854775807) (b3 : -9223372036854775808 ≤ d) (b4 : d ≤ 9223372036854775807) :
    Calls Try.prog 14 #[.int .i64 n, .int .i64 d] w (TruePost w) := by
  by_cases h0 : d = 0
  · have bel : Below w.heap.size w w := Below.refl _ _
    refine E.enter (nt := 40) (L := [(0, .int .i64 n), (1, .int .i64 d)]) Try.func14 rfl rfl rfl (args_cons (i := 0) rfl (args_cons (i := 1) rfl args_nil)) ?_
    intro a hF
    refine wp_seq ?_
    refine E.seq ?_
    refine E.opv hF (r_assign ev_c) rfl rfl rfl rfl fun a hF => ?_
    refine E.nil ?_
    refine wp_seq ?_
    refine wp_seq ?_
    refine E.seq ?_
    refine E.call hF (r_call Try.func45 en45.1 en45.2 map0) (awake5_any _) rfl rfl rfl rfl ?_
    rintro e w1 ⟨rfl, bb⟩
    refine ⟨_, rfl, ?_⟩
    intro a hF
    replace bel := below_to bel bb
    clear bb
    refine E.opv hF (r_un (hF.at 0 rfl) (bn_not _ false rfl)) rfl rfl rfl rfl fun a hF => ?_
    refine E.nil ?_
    refine wp_cond_false (hF.at 0 rfl) ?_
    refine wp_skip ?_
    refine E.norm ?_
    refine wp_seq ?_
    refine E.seq ?_
    refine E.opv hF (r_move (hF.at 3 rfl)) rfl rfl rfl rfl fun a hF => ?_
    refine E.opv hF (r_move (hF.at 5 rfl)) rfl rfl rfl rfl fun a hF => ?_
    refine E.call hF (r_call Try.func72 en72.1 en72.2 (map2 (hF.at 1 rfl) (hF.at 0 rfl))) (rOf2_any (n) (d) _ b1 b2 b3 b4) rfl rfl rfl rfl ?_
    rintro e w2 ⟨vv3, rfl, hh4, bb⟩
    refine ⟨_, rfl, ?_⟩
    intro a hF
    replace bel := below_to bel bb
    clear bb
    obtain ⟨b5, ad5, n5, c5, ae5, m5, d5, rfl, hn5, hd5⟩ := Rq.shape hh4
    have hf6 := Wc.abs hn5
    obtain ⟨g5, w7, ge5, hr, bb, o5⟩ := own_alloc (P := Try.prog) (w := w2) (cs := [.bool false, .slice none 0 0, .slice none 0 0]) 76 ze_Rat rfl (niB (niS (niS ni0)))
    replace ge5 : w.heap.size ≤ g5 := by rw [← ge5]; exact bel.size
    refine E.opv hF (r_alloc hr) rfl rfl rfl rfl fun a hF => ?_
    clear hr
    replace hh4 := hh4.below bb
    replace hn5 := hn5.below bb
    replace hf6 := hf6.below bb
    replace hd5 := hd5.below bb
    replace bel := below_to bel bb
    clear bb
    obtain ⟨w8, hr, tu, on⟩ := st_Rat (vs := [.bool b5, .slice ad5 n5 c5, .slice ae5 m5 d5]) o5 rfl rfl (ocB (ocS (ocS oc0))) (niB (niS (niS ni0))) (o := 0) rfl
    have kp := tu.keep o5
    refine E.st hF (r_store (hF.at 0 rfl) (hF.at 1 rfl) (hr _ rfl)) rfl rfl fun a hF => ?_
    clear hr
    replace hh4 := hh4.keep kp
    replace hn5 := hn5.keep kp
    replace hf6 := hf6.keep kp
    replace hd5 := hd5.keep kp
    replace bel := tu.below bel ge5
    clear tu kp
    replace o5 := on
    clear on
    refine E.nil ?_
    refine wp_seq ?_
    refine wp_seq ?_
    refine E.seq ?_
    refine E.opv hF (r_move (hF.at 8 rfl)) rfl rfl rfl rfl fun a hF => ?_
    refine E.opv hF (r_bin (hF.at 0 rfl) ev_c eg_scalar (bi_int (ic_eql (c := true) (dec_t h0)) (by simp))) rfl rfl rfl rfl fun a hF => ?_
    refine E.nil ?_
    refine wp_cond_true (hF.at 0 rfl) ?_
    refine wp_seq ?_
    refine E.seq ?_
    refine E.opv hF (r_load (hF.at 2 rfl) (ld_Rat (vs := [.bool b5, .slice ad5 n5 c5, .slice ae5 m5 d5]) o5 rfl rfl)) rfl rfl rfl rfl fun a hF => ?_
    refine E.call hF (r_call Try.func58 en58.1 en58.2 (map1 (hF.at 0 rfl))) (rsgn_any _ (((n : Int) : Rat) / ((d : Int) : Rat)) _ hh4) rfl rfl rfl rfl ?_
    rintro e w9 ⟨rfl, bb⟩
    refine ⟨_, rfl, ?_⟩
    intro a hF
    replace hf6 := hf6.below bb
    replace hd5 := hd5.below bb
    replace hh4 := hh4.below bb
    replace hn5 := hn5.below bb
    replace o5 := o5.below bb
    replace bel := below_to bel bb
    clear bb
    refine E.opv hF (r_bin (hF.at 0 rfl) ev_c eg_scalar (bi_int (ic_eql (c := true) (eqx (by rw [h0, Rat.intCast_zero, Rat.div_def, Rat.inv_zero, Rat.mul_zero]; rfl))) (by simp))) rfl rfl rfl rfl fun a hF => ?_
    refine E.opset (L' := [(4, .bool true), (15, .bool true), (14, .int .i64 (sz (Rat.num (((n : Int) : Rat) / ((d : Int) : Rat))))), (13, .agg #[.bool b5, .slice ad5 n5 c5, .slice ae5 m5 d5]), (12, .bool true), (11, .int .i64 d), (5, .pointer (some ⟨g5, 0, none⟩)), (10, .agg #[.bool b5, .slice ad5 n5 c5, .slice ae5 m5 d5]), (9, .int .i64 d), (8, .int .i64 n), (7, .bool false), (6, .bool true), (0, .int .i64 n), (1, .int .i64 d)]) hF (r_assign (hF.at 0 rfl)) rfl rfl rfl rfl fun a hF => ?_
    refine E.nil ?_
    refine wp_ret ?_
    refine bodyPost_ret (res_tmp Try.results14 (hF.at 0 rfl)) hF.dfr ?_
    exact ⟨rfl, bel⟩
  · have bel : Below w.heap.size w w := Below.refl _ _
    refine E.enter (nt := 40) (L := [(0, .int .i64 n), (1, .int .i64 d)]) Try.func14 rfl rfl rfl (args_cons (i := 0) rfl (args_cons (i := 1) rfl args_nil)) ?_
    intro a hF
    refine wp_seq ?_
    refine E.seq ?_
    refine E.opv hF (r_assign ev_c) rfl rfl rfl rfl fun a hF => ?_
    refine E.nil ?_
    refine wp_seq ?_
    refine wp_seq ?_
    refine E.seq ?_
    refine E.call hF (r_call Try.func45 en45.1 en45.2 map0) (awake5_any _) rfl rfl rfl rfl ?_
    rintro e w1 ⟨rfl, bb⟩
    refine ⟨_, rfl, ?_⟩
    intro a hF
    replace bel := below_to bel bb
    clear bb
    refine E.opv hF (r_un (hF.at 0 rfl) (bn_not _ false rfl)) rfl rfl rfl rfl fun a hF => ?_
    refine E.nil ?_
    refine wp_cond_false (hF.at 0 rfl) ?_
    refine wp_skip ?_
    refine E.norm ?_
    refine wp_seq ?_
    refine E.seq ?_
    refine E.opv hF (r_move (hF.at 3 rfl)) rfl rfl rfl rfl fun a hF => ?_
    refine E.opv hF (r_move (hF.at 5 rfl)) rfl rfl rfl rfl fun a hF => ?_
    refine E.call hF (r_call Try.func72 en72.1 en72.2 (map2 (hF.at 1 rfl) (hF.at 0 rfl))) (rOf2_any (n) (d) _ b1 b2 b3 b4) rfl rfl rfl rfl ?_
    rintro e w2 ⟨vv3, rfl, hh4, bb⟩
    refine ⟨_, rfl, ?_⟩
    intro a hF
    replace bel := below_to bel bb
    clear bb
    obtain ⟨b5, ad5, n5, c5, ae5, m5, d5, rfl, hn5, hd5⟩ := Rq.shape hh4
    have hf6 := Wc.abs hn5
    obtain ⟨g5, w7, ge5, hr, bb, o5⟩ := own_alloc (P := Try.prog) (w := w2) (cs := [.bool false, .slice none 0 0, .slice none 0 0]) 76 ze_Rat rfl (niB (niS (niS ni0)))
    replace ge5 : w.heap.size ≤ g5 := by rw [← ge5]; exact bel.size
    refine E.opv hF (r_alloc hr) rfl rfl rfl rfl fun a hF => ?_
    clear hr
    replace hh4 := hh4.below bb
    replace hn5 := hn5.below bb
    replace hf6 := hf6.below bb
    replace hd5 := hd5.below bb
    replace bel := below_to bel bb
    clear bb
    obtain ⟨w8, hr, tu, on⟩ := st_Rat (vs := [.bool b5, .slice ad5 n5 c5, .slice ae5 m5 d5]) o5 rfl rfl (ocB (ocS (ocS oc0))) (niB (niS (niS ni0))) (o := 0) rfl
    have kp := tu.keep o5
    refine E.st hF (r_store (hF.at 0 rfl) (hF.at 1 rfl) (hr _ rfl)) rfl rfl fun a hF => ?_
    clear hr
    replace hh4 := hh4.keep kp
    replace hn5 := hn5.keep kp
    replace hf6 := hf6.keep kp
    replace hd5 := hd5.keep kp
    replace bel := tu.below bel ge5
    clear tu kp
    replace o5 := on
    clear on
    refine E.nil ?_
    refine wp_seq ?_
    refine wp_seq ?_
    refine E.seq ?_
    refine E.opv hF (r_move (hF.at 8 rfl)) rfl rfl rfl rfl fun a hF => ?_
    refine E.opv hF (r_bin (hF.at 0 rfl) ev_c eg_scalar (bi_int (ic_eql (c := false) (dec_f h0)) (by simp))) rfl rfl rfl rfl fun a hF => ?_
    refine E.nil ?_
    refine wp_cond_false (hF.at 0 rfl) ?_
    refine wp_skip ?_
    refine E.norm ?_
    refine wp_seq ?_
    refine E.drawn 24 mixed hF [16, 17, 18, 19, 20, 21, 22, 23, 24, 25, 26, 27, 28, 29, 30, 31, 32, 33, 34, 35, 36, 37, 38, 39] [(fun _ v => v = .agg #[.bool b5, .slice ad5 n5 c5, .slice ae5 m5 d5]), (fun _ v => v = .int .i64 d), (fun w v => Rq w v (((d : Int) : Rat))), (fun w v => Rq w v ((((n : Int) : Rat) / ((d : Int) : Rat)) * (((d : Int) : Rat)))), (fun _ v => v = .int .i64 n), (fun w v => Rq w v (((n : Int) : Rat))), (fun _ v => v = .bool true), (fun _ v => v = .bool true), (fun _ v => v = .int .i64 n), (fun w v => Rq w v (((n : Int) : Rat))), (fun w v => Wc w v (Rat.num (((n : Int) : Rat)))), (fun _ v => v = .int .i64 n), (fun w v => Wc w v (n)), (fun _ v => v = .int .i64 (ci (Rat.num (((n : Int) : Rat))) (n))), (fun _ v => v = .bool true), (fun _ v => v = .bool true), (fun _ v => v = .bool true), (fun _ v => v = .int .i64 n), (fun w v => Rq w v (((n : Int) : Rat))), (fun w v => Dg w .u32 B32 v (Rat.den (((n : Int) : Rat)))), (fun w v => Dg w .u32 B32 v (1)), (fun _ v => v = .int .i64 (c3 (Rat.den (((n : Int) : Rat))) (1))), (fun _ v => v = .bool true), (fun _ v => v = .bool true)] [] (by decide +kernel) (by decide +kernel) rfl rfl rfl ⟨(Mb.eq _), (Mb.eq _), (fun _ _ _ h hb => h.below hb), (fun _ _ _ h hb => h.below hb), (Mb.eq _), (fun _ _ _ h hb => h.below hb), (Mb.eq _), (Mb.eq _), (Mb.eq _), (fun _ _ _ h hb => h.below hb), (fun _ _ _ h hb => h.below hb), (Mb.eq _), (fun _ _ _ h hb => h.below hb), (Mb.eq _), (Mb.eq _), (Mb.eq _), (Mb.eq _), (Mb.eq _), (fun _ _ _ h hb => h.below hb), (fun _ _ _ h hb => h.below hb), (fun _ _ _ h hb => h.below hb), (Mb.eq _), (Mb.eq _), (Mb.eq _), trivial⟩ trivial ⟨?_, ?_, ?_, ?_, ?_, ?_, ?_, ?_, ?_, ?_, ?_, ?_, ?_, ?_, ?_, ?_, ?_, ?_, ?_, ?_, ?_, ?_, ?_, ?_, trivial⟩ ?_
    · intro a' w' hF' hb hd
      exact if_does (wanted_free rfl) (Does.vals (r_load (hF'.at 2 rfl) (ld_Rat (vs := [.bool b5, .slice ad5 n5 c5, .slice ae5 m5 d5]) (o5.below hb) rfl rfl)) ⟨rfl, Below.refl _ _, (fun h => absurd h (by decide))⟩)
    · intro a' w' hF' hb hd
      exact if_does (wanted_free rfl) (Does.vals (r_move (hF'.at 10 rfl)) ⟨rfl, Below.refl _ _, (fun h => absurd h (by decide))⟩)
    · intro a' w' hF' hb hd
      have e17 : a'.tmps.getD 17 undef = .int .i64 d := hd _ 17 (Array.mem_of_getElem? (i := 0) rfl) rfl rfl
      refine if_does (wanted_free rfl) (Does.calls (r_call Try.func73 en73.1 en73.2 (map1 e17)) (rWhole_any (d) _ b3 b4) ?_)
      rintro e w'' ⟨v', rfl, h', bb⟩
      exact ⟨_, rfl, h', bb, (fun h => absurd h (by decide))⟩
    · intro a' w' hF' hb hd
      have e16 : a'.tmps.getD 16 undef = .agg #[.bool b5, .slice ad5 n5 c5, .slice ae5 m5 d5] := hd _ 16 (Array.mem_of_getElem? (i := 0) rfl) rfl rfl
      obtain ⟨v18_0, e18, h18_1⟩ : ∃ v, a'.tmps.getD 18 undef = v ∧ Rq w' v (((d : Int) : Rat)) := ⟨_, rfl, hd _ 18 (Array.mem_of_getElem? (i := 1) rfl) rfl rfl⟩
      refine if_does (wanted_free rfl) (Does.calls (r_call Try.func64 en64.1 en64.2 (map2 e16 e18)) (rMul_any _ _ (((n : Int) : Rat) / ((d : Int) : Rat)) (((d : Int) : Rat)) 2 _ (hh4.below hb) h18_1 ((RLim.up (rlim_mk2 (limz_64 b1 b2) (limz_64 b3 b4)) 2 (by decide)).up _ (by omega)) ((rlim_int (limz_64 b3 b4) (by omega)).up _ (by omega)) (by omega)) ?_)
      rintro e w'' ⟨v', rfl, h', bb⟩
      exact ⟨_, rfl, h', bb, (fun h => absurd h (by decide))⟩
    · intro a' w' hF' hb hd
      exact if_does (wanted_free rfl) (Does.vals (r_move (hF'.at 9 rfl)) ⟨rfl, Below.refl _ _, (fun h => absurd h (by decide))⟩)
    · intro a' w' hF' hb hd
      have e20 : a'.tmps.getD 20 undef = .int .i64 n := hd _ 20 (Array.mem_of_getElem? (i := 0) rfl) rfl rfl
      refine if_does (wanted_free rfl) (Does.calls (r_call Try.func73 en73.1 en73.2 (map1 e20)) (rWhole_any (n) _ b1 b2) ?_)
      rintro e w'' ⟨v', rfl, h', bb⟩
      exact ⟨_, rfl, h', bb, (fun h => absurd h (by decide))⟩
    · intro a' w' hF' hb hd
      obtain ⟨v19_0, e19, h19_1⟩ : ∃ v, a'.tmps.getD 19 undef = v ∧ Rq w' v ((((n : Int) : Rat) / ((d : Int) : Rat)) * (((d : Int) : Rat))) := ⟨_, rfl, hd _ 19 (Array.mem_of_getElem? (i := 0) rfl) rfl rfl⟩
      obtain ⟨v21_0, e21, h21_1⟩ : ∃ v, a'.tmps.getD 21 undef = v ∧ Rq w' v (((n : Int) : Rat)) := ⟨_, rfl, hd _ 21 (Array.mem_of_getElem? (i := 1) rfl) rfl rfl⟩
      refine if_does (wanted_free rfl) (Does.calls (r_call Try.func70 en70.1 en70.2 (map2 e19 e21)) (rSame_true _ _ ((((n : Int) : Rat) / ((d : Int) : Rat)) * (((d : Int) : Rat))) (((n : Int) : Rat)) _ h19_1 h21_1 (Rat.div_mul_cancel (fun e => h0 (Rat.intCast_inj.1 e)))) ?_)
      rintro e w'' ⟨rfl, bb⟩
      exact ⟨_, rfl, rfl, bb, (fun h => absurd h (by decide))⟩
    · intro a' w' hF' hb hd
      have e22 : a'.tmps.getD 22 undef = .bool true := hd _ 22 (Array.mem_of_getElem? (i := 0) rfl) rfl rfl
      exact if_does (wanted_free rfl) (Does.vals (r_move e22) ⟨rfl, Below.refl _ _, (fun h => absurd h (by decide))⟩)
    · intro a' w' hF' hb hd
      have e23 : a'.tmps.getD 23 undef = .bool true := hd _ 23 (Array.mem_of_getElem? (i := 0) rfl) rfl rfl
      exact if_does (wanted_by rfl rfl e23 rfl) (Does.vals (r_move (hF'.at 9 rfl)) ⟨rfl, Below.refl _ _, (fun h => absurd h (by decide))⟩)
    · intro a' w' hF' hb hd
      have e23 : a'.tmps.getD 23 undef = .bool true := hd _ 23 (Array.mem_of_getElem? (i := 1) rfl) rfl rfl
      have e24 : a'.tmps.getD 24 undef = .int .i64 n := hd _ 24 (Array.mem_of_getElem? (i := 0) rfl) rfl rfl
      refine if_does (wanted_by rfl rfl e23 rfl) (Does.calls (r_call Try.func73 en73.1 en73.2 (map1 e24)) (rWhole_any (n) _ b1 b2) ?_)
      rintro e w'' ⟨v', rfl, h', bb⟩
      exact ⟨_, rfl, h', bb, (fun h => absurd h (by decide))⟩
    · intro a' w' hF' hb hd
      have e23 : a'.tmps.getD 23 undef = .bool true := hd _ 23 (Array.mem_of_getElem? (i := 2) rfl) rfl rfl
      obtain ⟨v25_0, e25, h25_1⟩ : ∃ v, a'.tmps.getD 25 undef = v ∧ Rq w' v (((n : Int) : Rat)) := ⟨_, rfl, hd _ 25 (Array.mem_of_getElem? (i := 0) rfl) rfl rfl⟩
      refine if_does (wanted_by rfl rfl e23 rfl) (Does.calls (r_call Try.func49 en49.1 en49.2 (map1 e25)) (rnum_any _ (((n : Int) : Rat)) _ h25_1) ?_)
      rintro e w'' ⟨v', rfl, h', bb⟩
      exact ⟨_, rfl, h', bb, (fun h => absurd h (by decide))⟩
    · intro a' w' hF' hb hd
      have e23 : a'.tmps.getD 23 undef = .bool true := hd _ 23 (Array.mem_of_getElem? (i := 0) rfl) rfl rfl
      exact if_does (wanted_by rfl rfl e23 rfl) (Does.vals (r_move (hF'.at 9 rfl)) ⟨rfl, Below.refl _ _, (fun h => absurd h (by decide))⟩)
    · intro a' w' hF' hb hd
      have e23 : a'.tmps.getD 23 undef = .bool true := hd _ 23 (Array.mem_of_getElem? (i := 2) rfl) rfl rfl
      have e27 : a'.tmps.getD 27 undef = .int .i64 n := hd _ 27 (Array.mem_of_getElem? (i := 0) rfl) rfl rfl
      refine if_does (wanted_by rfl rfl e23 rfl) (Does.calls (r_call Try.func36 en36.1 en36.2 (map1 e27)) (whOf_any n _ b1 b2) ?_)
      rintro e w'' ⟨v', rfl, h', bb⟩
      exact ⟨_, rfl, h', bb, (fun h => absurd h (by decide))⟩
    · intro a' w' hF' hb hd
      have e23 : a'.tmps.getD 23 undef = .bool true := hd _ 23 (Array.mem_of_getElem? (i := 3) rfl) rfl rfl
      obtain ⟨v26_0, e26, h26_1⟩ : ∃ v, a'.tmps.getD 26 undef = v ∧ Wc w' v (Rat.num (((n : Int) : Rat))) := ⟨_, rfl, hd _ 26 (Array.mem_of_getElem? (i := 0) rfl) rfl rfl⟩
      obtain ⟨v28_0, e28, h28_1⟩ : ∃ v, a'.tmps.getD 28 undef = v ∧ Wc w' v (n) := ⟨_, rfl, hd _ 28 (Array.mem_of_getElem? (i := 1) rfl) rfl rfl⟩
      refine if_does (wanted_by rfl rfl e23 rfl) (Does.calls (r_call Try.func32 en32.1 en32.2 (map2 e26 e28)) (whCmp_any _ _ _ _ _ (Wc.wz h26_1) (Wc.wz h28_1)) ?_)
      rintro e w'' ⟨rfl, bb⟩
      exact ⟨_, rfl, rfl, bb, (fun h => absurd h (by decide))⟩
    · intro a' w' hF' hb hd
      have e23 : a'.tmps.getD 23 undef = .bool true := hd _ 23 (Array.mem_of_getElem? (i := 1) rfl) rfl rfl
      have e29 : a'.tmps.getD 29 undef = .int .i64 (ci (Rat.num (((n : Int) : Rat))) (n)) := hd _ 29 (Array.mem_of_getElem? (i := 0) rfl) rfl rfl
      exact if_does (wanted_by rfl rfl e23 rfl) (Does.vals (r_bin e29 ev_c eg_scalar (bi_int (ic_eql (c := true) (eqx (ci_same rfl))) (by simp))) ⟨rfl, Below.refl _ _, (fun h => absurd h (by decide))⟩)
    · intro a' w' hF' hb hd
      have e23 : a'.tmps.getD 23 undef = .bool true := hd _ 23 (Array.mem_of_getElem? (i := 0) rfl) rfl rfl
      have e30 : a'.tmps.getD 30 undef = .bool true := hd _ 30 (Array.mem_of_getElem? (i := 1) rfl) rfl rfl
      exact if_does (wanted_free rfl) (Does.vals (r_pick_t e23 e30) ⟨rfl, Below.refl _ _, (fun h => absurd h (by decide))⟩)
    · intro a' w' hF' hb hd
      have e31 : a'.tmps.getD 31 undef = .bool true := hd _ 31 (Array.mem_of_getElem? (i := 0) rfl) rfl rfl
      exact if_does (wanted_free rfl) (Does.vals (r_move e31) ⟨rfl, Below.refl _ _, (fun h => absurd h (by decide))⟩)
    · intro a' w' hF' hb hd
      have e32 : a'.tmps.getD 32 undef = .bool true := hd _ 32 (Array.mem_of_getElem? (i := 0) rfl) rfl rfl
      exact if_does (wanted_by rfl rfl e32 rfl) (Does.vals (r_move (hF'.at 9 rfl)) ⟨rfl, Below.refl _ _, (fun h => absurd h (by decide))⟩)
    · intro a' w' hF' hb hd
      have e32 : a'.tmps.getD 32 undef = .bool true := hd _ 32 (Array.mem_of_getElem? (i := 1) rfl) rfl rfl
      have e33 : a'.tmps.getD 33 undef = .int .i64 n := hd _ 33 (Array.mem_of_getElem? (i := 0) rfl) rfl rfl
      refine if_does (wanted_by rfl rfl e32 rfl) (Does.calls (r_call Try.func73 en73.1 en73.2 (map1 e33)) (rWhole_any (n) _ b1 b2) ?_)
      rintro e w'' ⟨v', rfl, h', bb⟩
      exact ⟨_, rfl, h', bb, (fun h => absurd h (by decide))⟩
    · intro a' w' hF' hb hd
      have e32 : a'.tmps.getD 32 undef = .bool true := hd _ 32 (Array.mem_of_getElem? (i := 2) rfl) rfl rfl
      obtain ⟨v34_0, e34, h34_1⟩ : ∃ v, a'.tmps.getD 34 undef = v ∧ Rq w' v (((n : Int) : Rat)) := ⟨_, rfl, hd _ 34 (Array.mem_of_getElem? (i := 0) rfl) rfl rfl⟩
      refine if_does (wanted_by rfl rfl e32 rfl) (Does.calls (r_call Try.func50 en50.1 en50.2 (map1 e34)) (rden_any _ (((n : Int) : Rat)) _ h34_1) ?_)
      rintro e w'' ⟨v', rfl, h', bb⟩
      exact ⟨_, rfl, h', bb, (fun h => absurd h (by decide))⟩
    · intro a' w' hF' hb hd
      have e32 : a'.tmps.getD 32 undef = .bool true := hd _ 32 (Array.mem_of_getElem? (i := 1) rfl) rfl rfl
      refine if_does (wanted_by rfl rfl e32 rfl) (Does.calls (r_call Try.func52 en52.1 en52.2 (map1 ev_c)) (of_any 1 _ (by decide)) ?_)
      rintro e w'' ⟨v', rfl, h', bb⟩
      exact ⟨_, rfl, h', bb, (fun h => absurd h (by decide))⟩
    · intro a' w' hF' hb hd
      have e32 : a'.tmps.getD 32 undef = .bool true := hd _ 32 (Array.mem_of_getElem? (i := 3) rfl) rfl rfl
      obtain ⟨v35_0, e35, h35_1⟩ : ∃ v, a'.tmps.getD 35 undef = v ∧ Dg w' .u32 B32 v (Rat.den (((n : Int) : Rat))) := ⟨_, rfl, hd _ 35 (Array.mem_of_getElem? (i := 0) rfl) rfl rfl⟩
      obtain ⟨v36_0, e36, h36_1⟩ : ∃ v, a'.tmps.getD 36 undef = v ∧ Dg w' .u32 B32 v (1) := ⟨_, rfl, hd _ 36 (Array.mem_of_getElem? (i := 1) rfl) rfl rfl⟩
      refine if_does (wanted_by rfl rfl e32 rfl) (Does.calls (r_call Try.func33 en33.1 en33.2 (map2 e35 e36)) (cmp_any _ _ (Rat.den (((n : Int) : Rat))) 1 _ (Dg.nt h35_1) (Dg.nt h36_1)) ?_)
      intro e w'' hh
      obtain ⟨rfl, bb, hsz⟩ := quiet_below hh
      exact ⟨_, rfl, rfl, bb, (fun h => absurd h (by decide))⟩
    · intro a' w' hF' hb hd
      have e32 : a'.tmps.getD 32 undef = .bool true := hd _ 32 (Array.mem_of_getElem? (i := 1) rfl) rfl rfl
      have e37 : a'.tmps.getD 37 undef = .int .i64 (c3 (Rat.den (((n : Int) : Rat))) (1)) := hd _ 37 (Array.mem_of_getElem? (i := 0) rfl) rfl rfl
      exact if_does (wanted_by rfl rfl e32 rfl) (Does.vals (r_bin e37 ev_c eg_scalar (bi_int (ic_eql (c := true) (eqx (c3_eqx rfl))) (by simp))) ⟨rfl, Below.refl _ _, (fun h => absurd h (by decide))⟩)
    · intro a' w' hF' hb hd
      have e32 : a'.tmps.getD 32 undef = .bool true := hd _ 32 (Array.mem_of_getElem? (i := 0) rfl) rfl rfl
      have e38 : a'.tmps.getD 38 undef = .bool true := hd _ 38 (Array.mem_of_getElem? (i := 1) rfl) rfl rfl
      exact if_does (wanted_free rfl) (Does.vals (r_pick_t e32 e38) ⟨rfl, Below.refl _ _, (fun h => absurd h (by decide))⟩)
    intro a w9 hF bb hall hne
    have e39 : a.tmps.getD 39 undef = .bool true := hall 23 39 rfl
    clear hall hne
    replace bel := below_to bel bb
    clear bb
    replace hF := hF.add e39
    clear e39
    refine E.opset (L' := [(4, .bool true), (39, .bool true), (12, .bool false), (11, .int .i64 d), (5, .pointer (some ⟨g5, 0, none⟩)), (10, .agg #[.bool b5, .slice ad5 n5 c5, .slice ae5 m5 d5]), (9, .int .i64 d), (8, .int .i64 n), (7, .bool false), (6, .bool true), (0, .int .i64 n), (1, .int .i64 d)]) hF (r_assign (hF.at 0 rfl)) rfl rfl rfl rfl fun a hF => ?_
    refine E.nil ?_
    refine wp_ret ?_
    refine bodyPost_ret (res_tmp Try.results14 (hF.at 0 rfl)) hF.dfr ?_
    exact ⟨rfl, bel⟩

end Go.Proofs.Ytjgafncpahbjkaa
