/- The sum of 1/(k(k+1)). -/
import Derived.Test.YtjdmnchndnpdlaaGN
import Derived.Test.YtjdmnchndnpdlaaGJ
namespace Go.Proofs.Ytjdmnchndnpdlaa
open Go.RowKit
set_option maxRecDepth 100000
set_option linter.unusedVariables false

theorem mul_rng {a b : Int} (h1 : 0 ≤ a) (h2 : a ≤ 1000) (h3 : 0 ≤ b) (h4 : b ≤ 1000) : -9223372036854775808 ≤ a * b ∧ a * b ≤ 9223372036854775807 := by
  have l := Int.mul_nonneg h1 h3
  have u := Int.mul_le_mul h2 h4 h3 (by omega)
  omega
theorem cast_ne {z : Int} (h : z ≠ 0) : (z : Rat) ≠ 0 := fun e => h (Rat.intCast_inj.1 (by rw [e]; rfl))
theorem tel_fwd {i : Int} (h : 1 ≤ i) : ((i - 1 : Int) : Rat) / ((i : Int) : Rat) + ((1 : Int) : Rat) / ((i * (i + 1) : Int) : Rat) = ((i + 1 - 1 : Int) : Rat) / ((i + 1 : Int) : Rat) := by
  have h1 := cast_ne (show i ≠ 0 by omega)
  have h2 := cast_ne (show i + 1 ≠ 0 by omega)
  rw [Rat.intCast_mul]
  simp only [Rat.intCast_add, Rat.intCast_sub] at *
  grind
theorem tel_back {n i : Int} (h : 1 ≤ i) (h' : i ≤ n) : ((i - 1 : Int) : Rat) / (((n + 1) * (n + 2 - i) : Int) : Rat) + ((1 : Int) : Rat) / (((n + 1 - i) * (n + 1 - i + 1) : Int) : Rat) = ((i + 1 - 1 : Int) : Rat) / (((n + 1) * (n + 2 - (i + 1)) : Int) : Rat) := by
  have h1 := cast_ne (show n + 1 ≠ 0 by omega)
  have h2 := cast_ne (show n + 2 - i ≠ 0 by omega)
  have h3 := cast_ne (show n + 1 - i ≠ 0 by omega)
  rw [Rat.intCast_mul, Rat.intCast_mul, Rat.intCast_mul]
  simp only [Rat.intCast_add, Rat.intCast_sub] at *
  grind
theorem tel_end1 {n i : Int} (h : i = n + 1) : ((i - 1 : Int) : Rat) / ((i : Int) : Rat) = ((n : Int) : Rat) / ((n + 1 : Int) : Rat) := by rw [h, show n + 1 - 1 = n by omega]
theorem tel_end1b {n i : Int} (h : i = n + 1) : ((i - 1 : Int) : Rat) / (((n + 1) * (n + 2 - i) : Int) : Rat) = ((n : Int) : Rat) / ((n + 1 : Int) : Rat) := by rw [h, show n + 1 - 1 = n by omega, show n + 2 - (n + 1) = 1 by omega, Int.mul_one]
theorem tel_end2 {q : Rat} {n : Int} (hn : 1 ≤ n) (h : q = ((n : Int) : Rat) / ((n + 1 : Int) : Rat)) : ((1 : Int) : Rat) - q = ((1 : Int) : Rat) / ((n + 1 : Int) : Rat) := by
  have h1 := cast_ne (show n + 1 ≠ 0 by omega)
  rw [h]
  simp only [Rat.intCast_add] at *
  grind
theorem Rq.cast {w : World} {v : Value} {p q : Rat} (h : Rq w v p) (e : p = q) : Rq w v q := e ▸ h
set_option maxHeartbeats 8000000 in
theorem telescope_walk (x : Int) (b : Bool) (w : World) :
    Calls Try.prog 7 #[.int .i64 x, .bool b] w (ValPost w (.bool true)) := by
  cases b
  · have bel : Below w.heap.size w w := Below.refl _ _
    refine E.enter (nt := 47) (L := [(0, .int .i64 x), (1, .bool false)]) Try.func7 rfl rfl rfl (args_cons (i := 0) rfl (args_cons (i := 1) rfl args_nil)) ?_
    intro a hF
    refine wp_seq ?_
    refine E.seq ?_
    refine E.opv hF (r_assign ev_c) rfl rfl rfl rfl fun a hF => ?_
    refine E.nil ?_
    refine wp_seq ?_
    refine wp_seq ?_
    refine E.seq ?_
    refine E.call hF (r_call Try.func27 en27.1 en27.2 map0) (live_any _) rfl rfl rfl rfl ?_
    rintro e w1 ⟨rfl, bb⟩
    refine ⟨_, rfl, ?_⟩
    intro a hF
    replace bel := below_to bel bb
    clear bb
    refine E.opv hF (r_un (hF.at 0 rfl) (bn_not _ false rfl)) rfl rfl rfl rfl fun a hF => ?_
    refine E.nil ?_
    refine wp_cond_false (hF.at 0 rfl) ?_
    refine wp_skip ?_
    refine E.norm ?_
    refine wp_seq ?_
    refine E.seq ?_
    refine E.opv hF (r_move (hF.at 3 rfl)) rfl rfl rfl rfl fun a hF => ?_
    refine E.opv hF (r_bin (hF.at 0 rfl) ev_c eg_scalar (id_and (n := 8) (by decide) (d := 256) (by decide) (by decide))) rfl rfl rfl rfl fun a hF => ?_
    refine E.opv hF (r_bin (hF.at 0 rfl) ev_c eg_scalar (id_remn (a := x % 256) (b := 60) (by omega) (by omega))) rfl rfl rfl rfl fun a hF => ?_
    refine E.opv hF (r_bin ev_c (hF.at 0 rfl) eg_scalar (ia_add (by omega) (by omega))) rfl rfl rfl rfl fun a hF => ?_
    refine E.opset (L' := [(0, .int .i64 (1 + ((x % 256) % 60))), (13, .int .i64 (1 + ((x % 256) % 60))), (12, .int .i64 ((x % 256) % 60)), (11, .int .i64 (x % 256)), (10, .int .i64 x), (9, .bool false), (8, .bool true), (4, .bool false), (1, .bool false)]) hF (r_assign (hF.at 0 rfl)) rfl rfl rfl rfl fun a hF => ?_
    obtain ⟨n, hn⟩ : ∃ n : Int, n = 1 + ((x % 256) % 60) := ⟨_, rfl⟩
    have hn1 : 1 ≤ n := by omega
    have hn2 : n ≤ 60 := by omega
    replace hF : Fr 47 a [(0, .int .i64 n), (1, .bool false), (4, .bool false)] := by rw [hn]; exact Fr.sub hF (by intro p hp; simp only [List.mem_cons, List.not_mem_nil, or_false] at hp ⊢; rcases hp with rfl | rfl | rfl <;> simp)
    clear hn
    refine E.nil ?_
    refine wp_seq ?_
    refine E.seq ?_
    obtain ⟨g5, w2, ge5, hr, bb, o5⟩ := own_alloc (P := Try.prog) (w := w1) (cs := [.bool false, .slice none 0 0, .slice none 0 0]) 62 ze_Rat rfl (niB (niS (niS ni0)))
    replace ge5 : w.heap.size ≤ g5 := by rw [← ge5]; exact bel.size
    refine E.opv hF (r_alloc hr) rfl rfl rfl rfl fun a hF => ?_
    clear hr
    replace bel := below_to bel bb
    clear bb
    refine E.nil ?_
    refine wp_seq ?_
    refine wp_seq ?_
    refine E.seq ?_
    refine E.opv hF (r_assign ev_c) rfl rfl rfl rfl fun a hF => ?_
    refine E.nil ?_
    refine wp_block ?_
    have nint := nn1 o5.noInt
    refine E.loop (fun mq a wv => ∃ (i : Int) (sb : Bool) (sa : Option Addr) (sn : Nat) (sc : Nat) (ta : Option Addr) (tn : Nat) (tc : Nat), 1 ≤ i ∧ i ≤ n + 1 ∧ Fr 47 a [(6, .int .i64 i), (5, .pointer (some ⟨g5, 0, none⟩)), (0, .int .i64 n), (1, .bool false), (4, .bool false)] ∧ Stay [g5] w2 wv ∧ Below w.heap.size w wv ∧ Own wv g5 [.bool sb, .slice sa sn sc, .slice ta tn tc] ∧ Rq wv (.agg #[.bool sb, .slice sa sn sc, .slice ta tn tc]) (((i - 1 : Int) : Rat) / ((i : Int) : Rat)) ∧ mq = (n + 1 - i).toNat) ((n + 1 - 1).toNat) ?_ ?_
    · exact ⟨(1 : Int), _, _, _, _, _, _, _, (by omega), (by omega), hF.sub (by intro p hp; simp only [List.mem_cons, List.not_mem_nil, or_false] at hp ⊢; rcases hp with rfl | rfl | rfl | rfl | rfl <;> simp), Stay.refl _ _, bel, o5, ((Rq.zero _).cast (by rw [show (1 : Int) - 1 = 0 from rfl, Rat.intCast_zero, Rat.div_def, Rat.zero_mul])), rfl⟩
    · rintro mq a w3 ⟨i, sb, sa, sn, sc, ta, tn, tc, hi1, hi2, hF, sty, bel, o5, hs, hm⟩
      have kps := sty.keep nint
      clear kps
      by_cases hi : i ≤ n
      · refine wp_seq ?_
        refine wp_seq ?_
        refine E.seq ?_
        refine E.opv hF (r_move (hF.at 0 rfl)) rfl rfl rfl rfl fun a hF => ?_
        refine E.opv hF (r_move (hF.at 3 rfl)) rfl rfl rfl rfl fun a hF => ?_
        refine E.opv hF (r_bin (hF.at 1 rfl) (hF.at 0 rfl) eg_scalar (bi_int (ic_leq (c := true) (dec_tt hi)) (by simp))) rfl rfl rfl rfl fun a hF => ?_
        refine E.nil ?_
        refine wp_cond_true (hF.at 0 rfl) ?_
        refine wp_skip ?_
        refine E.norm ?_
        refine wp_seq ?_
        refine wp_block ?_
        refine wp_seq ?_
        refine E.seq ?_
        refine E.opv hF (r_move (hF.at 3 rfl)) rfl rfl rfl rfl fun a hF => ?_
        refine E.opv hF (r_assign (hF.at 0 rfl)) rfl rfl rfl rfl fun a hF => ?_
        refine E.nil ?_
        refine wp_seq ?_
        refine wp_seq ?_
        refine E.seq ?_
        refine E.opv hF (r_move (hF.at 8 rfl)) rfl rfl rfl rfl fun a hF => ?_
        refine E.nil ?_
        refine wp_cond_false (hF.at 0 rfl) ?_
        refine wp_skip ?_
        refine E.norm ?_
        refine E.drawn 7 mixed hF [25, 26, 27, 28, 29, 30, 31] [(fun _ v => v = .agg #[.bool sb, .slice sa sn sc, .slice ta tn tc]), (fun _ v => v = .int .i64 i), (fun _ v => v = .int .i64 i), (fun _ v => v = .int .i64 (i + 1)), (fun _ v => v = .int .i64 (i * (i + 1))), (fun w v => Rq w v (((1 : Int) : Rat) / ((i * (i + 1) : Int) : Rat))), (fun w v => Rq w v ((((i - 1 : Int) : Rat) / ((i : Int) : Rat)) + (((1 : Int) : Rat) / ((i * (i + 1) : Int) : Rat))))] [] (by decide +kernel) (by decide +kernel) rfl rfl rfl ⟨(Mb.eq _), (Mb.eq _), (Mb.eq _), (Mb.eq _), (Mb.eq _), (fun _ _ _ h hb => h.below hb), (fun _ _ _ h hb => h.below hb), trivial⟩ trivial ⟨?_, ?_, ?_, ?_, ?_, ?_, ?_, trivial⟩ ?_
        · intro a' w' hF' hb hd
          exact if_does (wanted_free rfl) (Does.vals (r_load (hF'.at 7 rfl) (ld_Rat (vs := [.bool sb, .slice sa sn sc, .slice ta tn tc]) (o5.below hb) rfl rfl)) ⟨rfl, Below.refl _ _, (fun h => absurd h (by decide))⟩)
        · intro a' w' hF' hb hd
          exact if_does (wanted_free rfl) (Does.vals (r_move (hF'.at 1 rfl)) ⟨rfl, Below.refl _ _, (fun h => absurd h (by decide))⟩)
        · intro a' w' hF' hb hd
          exact if_does (wanted_free rfl) (Does.vals (r_move (hF'.at 1 rfl)) ⟨rfl, Below.refl _ _, (fun h => absurd h (by decide))⟩)
        · intro a' w' hF' hb hd
          have e27 : a'.tmps.getD 27 undef = .int .i64 i := hd _ 27 (Array.mem_of_getElem? (i := 0) rfl) rfl rfl
          exact if_does (wanted_free rfl) (Does.vals (r_bin e27 ev_c eg_scalar (ia_add (by omega) (by omega))) ⟨rfl, Below.refl _ _, (fun h => absurd h (by decide))⟩)
        · intro a' w' hF' hb hd
          have e26 : a'.tmps.getD 26 undef = .int .i64 i := hd _ 26 (Array.mem_of_getElem? (i := 0) rfl) rfl rfl
          have e28 : a'.tmps.getD 28 undef = .int .i64 (i + 1) := hd _ 28 (Array.mem_of_getElem? (i := 1) rfl) rfl rfl
          exact if_does (wanted_free rfl) (Does.vals (r_bin e26 e28 eg_scalar (ia_mul (mul_rng (by omega) (by omega) (by omega) (by omega)).1 (mul_rng (by omega) (by omega) (by omega) (by omega)).2)) ⟨rfl, Below.refl _ _, (fun h => absurd h (by decide))⟩)
        · intro a' w' hF' hb hd
          have e29 : a'.tmps.getD 29 undef = .int .i64 (i * (i + 1)) := hd _ 29 (Array.mem_of_getElem? (i := 0) rfl) rfl rfl
          refine if_does (wanted_free rfl) (Does.calls (r_call Try.func29 en29.1 en29.2 (map2 ev_c e29)) (rOf2_any (1) (i * (i + 1)) _ (by decide) (by decide) (mul_rng (by omega) (by omega) (by omega) (by omega)).1 (mul_rng (by omega) (by omega) (by omega) (by omega)).2) ?_)
          rintro e w'' ⟨v', rfl, h', bb⟩
          exact ⟨_, rfl, h', bb, (fun h => absurd h (by decide))⟩
        · intro a' w' hF' hb hd
          have e25 : a'.tmps.getD 25 undef = .agg #[.bool sb, .slice sa sn sc, .slice ta tn tc] := hd _ 25 (Array.mem_of_getElem? (i := 0) rfl) rfl rfl
          obtain ⟨v30_0, e30, h30_1⟩ : ∃ v, a'.tmps.getD 30 undef = v ∧ Rq w' v (((1 : Int) : Rat) / ((i * (i + 1) : Int) : Rat)) := ⟨_, rfl, hd _ 30 (Array.mem_of_getElem? (i := 1) rfl) rfl rfl⟩
          refine if_does (wanted_free rfl) (Does.calls (r_call Try.func28 en28.1 en28.2 (map2 e25 e30)) (rAdd_any _ _ (((i - 1 : Int) : Rat) / ((i : Int) : Rat)) (((1 : Int) : Rat) / ((i * (i + 1) : Int) : Rat)) 2 _ (hs.below hb) h30_1 ((RLim.up (rlim_mk2 (limz_64 (by omega) (by omega)) (limz_64 (by omega) (by omega))) 2 (by decide)).up _ (by omega)) ((RLim.up (rlim_mk2 (limz_64 (by decide) (by decide)) (limz_64 (mul_rng (by omega) (by omega) (by omega) (by omega)).1 (mul_rng (by omega) (by omega) (by omega) (by omega)).2)) 2 (by decide)).up _ (by omega)) (by omega)) ?_)
          rintro e w'' ⟨v', rfl, h', bb⟩
          exact ⟨_, rfl, h', bb, (fun h => absurd h (by decide))⟩
        intro a w4 hF bb hall hne
        obtain ⟨vv5, e31, hh6⟩ : ∃ v, a.tmps.getD 31 undef = v ∧ Rq w4 v ((((i - 1 : Int) : Rat) / ((i : Int) : Rat)) + (((1 : Int) : Rat) / ((i * (i + 1) : Int) : Rat))) := ⟨_, rfl, hall 6 31 rfl⟩
        clear hall hne
        replace hs := hs.below bb
        replace o5 := o5.below bb
        replace sty := sty.below bb
        replace bel := below_to bel bb
        clear bb
        obtain ⟨b7, ad7, n7, c7, ae7, m7, d7, rfl, hn7, hd7⟩ := Rq.shape hh6
        have hf8 := Wc.abs hn7
        replace hF := hF.add e31
        clear e31
        obtain ⟨w9, hr, tu, on⟩ := st_Rat (vs := [.bool b7, .slice ad7 n7 c7, .slice ae7 m7 d7]) o5 rfl rfl (ocB (ocS (ocS oc0))) (niB (niS (niS ni0))) (o := 0) rfl
        have kp := tu.keep o5
        refine E.st hF (r_store (hF.at 8 rfl) (hF.at 0 rfl) (hr _ rfl)) rfl rfl fun a hF => ?_
        clear hr
        replace hs := hs.keep kp
        replace hh6 := hh6.keep kp
        replace hn7 := hn7.keep kp
        replace hf8 := hf8.keep kp
        replace hd7 := hd7.keep kp
        replace bel := tu.below bel ge5
        replace sty := sty.turned tu (.inl (by simp))
        clear tu kp
        replace o5 := on
        clear on
        refine E.nil0 ?_
        refine E.blk ?_
        refine E.norm ?_
        refine E.seq ?_
        refine E.opv hF (r_move (hF.at 7 rfl)) rfl rfl rfl rfl fun a hF => ?_
        refine E.opv hF (r_bin (hF.at 0 rfl) ev_c eg_scalar (ia_add (by omega) (by omega))) rfl rfl rfl rfl fun a hF => ?_
        refine E.opset (L' := [(6, .int .i64 (i + 1)), (18, .int .i64 (i + 1)), (17, .int .i64 i), (31, .agg #[.bool b7, .slice ad7 n7 c7, .slice ae7 m7 d7]), (20, .bool false), (7, .int .i64 i), (19, .int .i64 i), (16, .bool true), (15, .int .i64 n), (14, .int .i64 i), (5, .pointer (some ⟨g5, 0, none⟩)), (0, .int .i64 n), (1, .bool false), (4, .bool false)]) hF (r_assign (hF.at 0 rfl)) rfl rfl rfl rfl fun a hF => ?_
        refine E.nil0 ?_
        refine E.norm ?_
        exact ⟨(n + 1 - (i + 1)).toNat, by omega, ⟨(i + 1), _, _, _, _, _, _, _, (by omega), (by omega), Fr.sub (L' := [(6, .int .i64 (i + 1)), (5, .pointer (some ⟨g5, 0, none⟩)), (0, .int .i64 n), (1, .bool false), (4, .bool false)]) hF (by intro p hp; simp only [List.mem_cons, List.not_mem_nil, or_false] at hp ⊢; rcases hp with rfl | rfl | rfl | rfl | rfl <;> simp), sty, bel, o5, (hh6.cast (tel_fwd (by omega))), rfl⟩⟩
      · refine wp_seq ?_
        refine wp_seq ?_
        refine E.seq ?_
        refine E.opv hF (r_move (hF.at 0 rfl)) rfl rfl rfl rfl fun a hF => ?_
        refine E.opv hF (r_move (hF.at 3 rfl)) rfl rfl rfl rfl fun a hF => ?_
        refine E.opv hF (r_bin (hF.at 1 rfl) (hF.at 0 rfl) eg_scalar (bi_int (ic_leq (c := false) (dec_ff hi)) (by simp))) rfl rfl rfl rfl fun a hF => ?_
        refine E.nil ?_
        refine wp_cond_false (hF.at 0 rfl) ?_
        refine wp_exit ?_
        refine E.past ?_
        refine E.past ?_
        refine E.out (id := 0) ?_
        refine E.norm ?_
        refine wp_seq ?_
        refine E.drawn 15 mixed hF [32, 33, 34, 35, 36, 37, 38, 39, 40, 41, 42, 43, 44, 45, 46] [(fun _ v => v = .agg #[.bool sb, .slice sa sn sc, .slice ta tn tc]), (fun _ v => v = .int .i64 n), (fun _ v => v = .int .i64 n), (fun _ v => v = .int .i64 (n + 1)), (fun w v => Rq w v (((n : Int) : Rat) / ((n + 1 : Int) : Rat))), (fun _ v => v = .bool true), (fun _ v => v = .bool true), (fun w v => Rq w v (((1 : Int) : Rat))), (fun _ v => v = .agg #[.bool sb, .slice sa sn sc, .slice ta tn tc]), (fun w v => Rq w v ((((1 : Int) : Rat)) - (((i - 1 : Int) : Rat) / ((i : Int) : Rat)))), (fun _ v => v = .int .i64 n), (fun _ v => v = .int .i64 (n + 1)), (fun w v => Rq w v (((1 : Int) : Rat) / ((n + 1 : Int) : Rat))), (fun _ v => v = .bool true), (fun _ v => v = .bool true)] [] (by decide +kernel) (by decide +kernel) rfl rfl rfl ⟨(Mb.eq _), (Mb.eq _), (Mb.eq _), (Mb.eq _), (fun _ _ _ h hb => h.below hb), (Mb.eq _), (Mb.eq _), (fun _ _ _ h hb => h.below hb), (Mb.eq _), (fun _ _ _ h hb => h.below hb), (Mb.eq _), (Mb.eq _), (fun _ _ _ h hb => h.below hb), (Mb.eq _), (Mb.eq _), trivial⟩ trivial ⟨?_, ?_, ?_, ?_, ?_, ?_, ?_, ?_, ?_, ?_, ?_, ?_, ?_, ?_, ?_, trivial⟩ ?_
        · intro a' w' hF' hb hd
          exact if_does (wanted_free rfl) (Does.vals (r_load (hF'.at 4 rfl) (ld_Rat (vs := [.bool sb, .slice sa sn sc, .slice ta tn tc]) (o5.below hb) rfl rfl)) ⟨rfl, Below.refl _ _, (fun h => absurd h (by decide))⟩)
        · intro a' w' hF' hb hd
          exact if_does (wanted_free rfl) (Does.vals (r_move (hF'.at 5 rfl)) ⟨rfl, Below.refl _ _, (fun h => absurd h (by decide))⟩)
        · intro a' w' hF' hb hd
          exact if_does (wanted_free rfl) (Does.vals (r_move (hF'.at 5 rfl)) ⟨rfl, Below.refl _ _, (fun h => absurd h (by decide))⟩)
        · intro a' w' hF' hb hd
          have e34 : a'.tmps.getD 34 undef = .int .i64 n := hd _ 34 (Array.mem_of_getElem? (i := 0) rfl) rfl rfl
          exact if_does (wanted_free rfl) (Does.vals (r_bin e34 ev_c eg_scalar (ia_add (by omega) (by omega))) ⟨rfl, Below.refl _ _, (fun h => absurd h (by decide))⟩)
        · intro a' w' hF' hb hd
          have e33 : a'.tmps.getD 33 undef = .int .i64 n := hd _ 33 (Array.mem_of_getElem? (i := 0) rfl) rfl rfl
          have e35 : a'.tmps.getD 35 undef = .int .i64 (n + 1) := hd _ 35 (Array.mem_of_getElem? (i := 1) rfl) rfl rfl
          refine if_does (wanted_free rfl) (Does.calls (r_call Try.func29 en29.1 en29.2 (map2 e33 e35)) (rOf2_any (n) (n + 1) _ (by omega) (by omega) (by omega) (by omega)) ?_)
          rintro e w'' ⟨v', rfl, h', bb⟩
          exact ⟨_, rfl, h', bb, (fun h => absurd h (by decide))⟩
        · intro a' w' hF' hb hd
          have e32 : a'.tmps.getD 32 undef = .agg #[.bool sb, .slice sa sn sc, .slice ta tn tc] := hd _ 32 (Array.mem_of_getElem? (i := 0) rfl) rfl rfl
          obtain ⟨v36_0, e36, h36_1⟩ : ∃ v, a'.tmps.getD 36 undef = v ∧ Rq w' v (((n : Int) : Rat) / ((n + 1 : Int) : Rat)) := ⟨_, rfl, hd _ 36 (Array.mem_of_getElem? (i := 1) rfl) rfl rfl⟩
          refine if_does (wanted_free rfl) (Does.calls (r_call Try.func30 en30.1 en30.2 (map2 e32 e36)) (rSame_true _ _ (((i - 1 : Int) : Rat) / ((i : Int) : Rat)) (((n : Int) : Rat) / ((n + 1 : Int) : Rat)) _ (hs.below hb) h36_1 (tel_end1 (by omega))) ?_)
          rintro e w'' ⟨rfl, bb⟩
          exact ⟨_, rfl, rfl, bb, (fun h => absurd h (by decide))⟩
        · intro a' w' hF' hb hd
          have e37 : a'.tmps.getD 37 undef = .bool true := hd _ 37 (Array.mem_of_getElem? (i := 0) rfl) rfl rfl
          exact if_does (wanted_free rfl) (Does.vals (r_move e37) ⟨rfl, Below.refl _ _, (fun h => absurd h (by decide))⟩)
        · intro a' w' hF' hb hd
          have e38 : a'.tmps.getD 38 undef = .bool true := hd _ 38 (Array.mem_of_getElem? (i := 0) rfl) rfl rfl
          refine if_does (wanted_by rfl rfl e38 rfl) (Does.calls (r_call Try.func31 en31.1 en31.2 (map1 ev_c)) (rWhole_any (1) _ (by decide) (by decide)) ?_)
          rintro e w'' ⟨v', rfl, h', bb⟩
          exact ⟨_, rfl, h', bb, (fun h => absurd h (by decide))⟩
        · intro a' w' hF' hb hd
          have e38 : a'.tmps.getD 38 undef = .bool true := hd _ 38 (Array.mem_of_getElem? (i := 0) rfl) rfl rfl
          exact if_does (wanted_by rfl rfl e38 rfl) (Does.vals (r_load (hF'.at 4 rfl) (ld_Rat (vs := [.bool sb, .slice sa sn sc, .slice ta tn tc]) (o5.below hb) rfl rfl)) ⟨rfl, Below.refl _ _, (fun h => absurd h (by decide))⟩)
        · intro a' w' hF' hb hd
          have e38 : a'.tmps.getD 38 undef = .bool true := hd _ 38 (Array.mem_of_getElem? (i := 3) rfl) rfl rfl
          obtain ⟨v39_0, e39, h39_1⟩ : ∃ v, a'.tmps.getD 39 undef = v ∧ Rq w' v (((1 : Int) : Rat)) := ⟨_, rfl, hd _ 39 (Array.mem_of_getElem? (i := 0) rfl) rfl rfl⟩
          have e40 : a'.tmps.getD 40 undef = .agg #[.bool sb, .slice sa sn sc, .slice ta tn tc] := hd _ 40 (Array.mem_of_getElem? (i := 1) rfl) rfl rfl
          refine if_does (wanted_by rfl rfl e38 rfl) (Does.calls (r_call Try.func32 en32.1 en32.2 (map2 e39 e40)) (rSub_any _ _ (((1 : Int) : Rat)) (((i - 1 : Int) : Rat) / ((i : Int) : Rat)) 2 _ h39_1 (hs.below hb) ((rlim_int (limz_64 (by decide) (by decide)) (by omega)).up _ (by omega)) ((RLim.up (rlim_mk2 (limz_64 (by omega) (by omega)) (limz_64 (by omega) (by omega))) 2 (by decide)).up _ (by omega)) (by omega)) ?_)
          rintro e w'' ⟨v', rfl, h', bb⟩
          exact ⟨_, rfl, h', bb, (fun h => absurd h (by decide))⟩
        · intro a' w' hF' hb hd
          have e38 : a'.tmps.getD 38 undef = .bool true := hd _ 38 (Array.mem_of_getElem? (i := 0) rfl) rfl rfl
          exact if_does (wanted_by rfl rfl e38 rfl) (Does.vals (r_move (hF'.at 5 rfl)) ⟨rfl, Below.refl _ _, (fun h => absurd h (by decide))⟩)
        · intro a' w' hF' hb hd
          have e38 : a'.tmps.getD 38 undef = .bool true := hd _ 38 (Array.mem_of_getElem? (i := 1) rfl) rfl rfl
          have e42 : a'.tmps.getD 42 undef = .int .i64 n := hd _ 42 (Array.mem_of_getElem? (i := 0) rfl) rfl rfl
          exact if_does (wanted_by rfl rfl e38 rfl) (Does.vals (r_bin e42 ev_c eg_scalar (ia_add (by omega) (by omega))) ⟨rfl, Below.refl _ _, (fun h => absurd h (by decide))⟩)
        · intro a' w' hF' hb hd
          have e38 : a'.tmps.getD 38 undef = .bool true := hd _ 38 (Array.mem_of_getElem? (i := 2) rfl) rfl rfl
          have e43 : a'.tmps.getD 43 undef = .int .i64 (n + 1) := hd _ 43 (Array.mem_of_getElem? (i := 0) rfl) rfl rfl
          refine if_does (wanted_by rfl rfl e38 rfl) (Does.calls (r_call Try.func29 en29.1 en29.2 (map2 ev_c e43)) (rOf2_any (1) (n + 1) _ (by decide) (by decide) (by omega) (by omega)) ?_)
          rintro e w'' ⟨v', rfl, h', bb⟩
          exact ⟨_, rfl, h', bb, (fun h => absurd h (by decide))⟩
        · intro a' w' hF' hb hd
          have e38 : a'.tmps.getD 38 undef = .bool true := hd _ 38 (Array.mem_of_getElem? (i := 3) rfl) rfl rfl
          obtain ⟨v41_0, e41, h41_1⟩ : ∃ v, a'.tmps.getD 41 undef = v ∧ Rq w' v ((((1 : Int) : Rat)) - (((i - 1 : Int) : Rat) / ((i : Int) : Rat))) := ⟨_, rfl, hd _ 41 (Array.mem_of_getElem? (i := 0) rfl) rfl rfl⟩
          obtain ⟨v44_0, e44, h44_1⟩ : ∃ v, a'.tmps.getD 44 undef = v ∧ Rq w' v (((1 : Int) : Rat) / ((n + 1 : Int) : Rat)) := ⟨_, rfl, hd _ 44 (Array.mem_of_getElem? (i := 1) rfl) rfl rfl⟩
          refine if_does (wanted_by rfl rfl e38 rfl) (Does.calls (r_call Try.func30 en30.1 en30.2 (map2 e41 e44)) (rSame_true _ _ ((((1 : Int) : Rat)) - (((i - 1 : Int) : Rat) / ((i : Int) : Rat))) (((1 : Int) : Rat) / ((n + 1 : Int) : Rat)) _ h41_1 h44_1 (tel_end2 hn1 (tel_end1 (by omega)))) ?_)
          rintro e w'' ⟨rfl, bb⟩
          exact ⟨_, rfl, rfl, bb, (fun h => absurd h (by decide))⟩
        · intro a' w' hF' hb hd
          have e38 : a'.tmps.getD 38 undef = .bool true := hd _ 38 (Array.mem_of_getElem? (i := 0) rfl) rfl rfl
          have e45 : a'.tmps.getD 45 undef = .bool true := hd _ 45 (Array.mem_of_getElem? (i := 1) rfl) rfl rfl
          exact if_does (wanted_free rfl) (Does.vals (r_pick_t e38 e45) ⟨rfl, Below.refl _ _, (fun h => absurd h (by decide))⟩)
        intro a w4 hF bb hall hne
        have e46 : a.tmps.getD 46 undef = .bool true := hall 14 46 rfl
        clear hall hne
        replace bel := below_to bel bb
        clear bb
        replace hF := hF.add e46
        clear e46
        refine E.opset (L' := [(4, .bool true), (46, .bool true), (16, .bool false), (15, .int .i64 n), (14, .int .i64 i), (6, .int .i64 i), (5, .pointer (some ⟨g5, 0, none⟩)), (0, .int .i64 n), (1, .bool false)]) hF (r_assign (hF.at 0 rfl)) rfl rfl rfl rfl fun a hF => ?_
        refine E.nil ?_
        refine wp_ret ?_
        refine bodyPost_ret (res_tmp Try.results7 (hF.at 0 rfl)) hF.dfr ?_
        exact ⟨rfl, bel⟩
  · have bel : Below w.heap.size w w := Below.refl _ _
    refine E.enter (nt := 47) (L := [(0, .int .i64 x), (1, .bool true)]) Try.func7 rfl rfl rfl (args_cons (i := 0) rfl (args_cons (i := 1) rfl args_nil)) ?_
    intro a hF
    refine wp_seq ?_
    refine E.seq ?_
    refine E.opv hF (r_assign ev_c) rfl rfl rfl rfl fun a hF => ?_
    refine E.nil ?_
    refine wp_seq ?_
    refine wp_seq ?_
    refine E.seq ?_
    refine E.call hF (r_call Try.func27 en27.1 en27.2 map0) (live_any _) rfl rfl rfl rfl ?_
    rintro e w1 ⟨rfl, bb⟩
    refine ⟨_, rfl, ?_⟩
    intro a hF
    replace bel := below_to bel bb
    clear bb
    refine E.opv hF (r_un (hF.at 0 rfl) (bn_not _ false rfl)) rfl rfl rfl rfl fun a hF => ?_
    refine E.nil ?_
    refine wp_cond_false (hF.at 0 rfl) ?_
    refine wp_skip ?_
    refine E.norm ?_
    refine wp_seq ?_
    refine E.seq ?_
    refine E.opv hF (r_move (hF.at 3 rfl)) rfl rfl rfl rfl fun a hF => ?_
    refine E.opv hF (r_bin (hF.at 0 rfl) ev_c eg_scalar (id_and (n := 8) (by decide) (d := 256) (by decide) (by decide))) rfl rfl rfl rfl fun a hF => ?_
    refine E.opv hF (r_bin (hF.at 0 rfl) ev_c eg_scalar (id_remn (a := x % 256) (b := 60) (by omega) (by omega))) rfl rfl rfl rfl fun a hF => ?_
    refine E.opv hF (r_bin ev_c (hF.at 0 rfl) eg_scalar (ia_add (by omega) (by omega))) rfl rfl rfl rfl fun a hF => ?_
    refine E.opset (L' := [(0, .int .i64 (1 + ((x % 256) % 60))), (13, .int .i64 (1 + ((x % 256) % 60))), (12, .int .i64 ((x % 256) % 60)), (11, .int .i64 (x % 256)), (10, .int .i64 x), (9, .bool false), (8, .bool true), (4, .bool false), (1, .bool true)]) hF (r_assign (hF.at 0 rfl)) rfl rfl rfl rfl fun a hF => ?_
    obtain ⟨n, hn⟩ : ∃ n : Int, n = 1 + ((x % 256) % 60) := ⟨_, rfl⟩
    have hn1 : 1 ≤ n := by omega
    have hn2 : n ≤ 60 := by omega
    replace hF : Fr 47 a [(0, .int .i64 n), (1, .bool true), (4, .bool false)] := by rw [hn]; exact Fr.sub hF (by intro p hp; simp only [List.mem_cons, List.not_mem_nil, or_false] at hp ⊢; rcases hp with rfl | rfl | rfl <;> simp)
    clear hn
    refine E.nil ?_
    refine wp_seq ?_
    refine E.seq ?_
    obtain ⟨g5, w2, ge5, hr, bb, o5⟩ := own_alloc (P := Try.prog) (w := w1) (cs := [.bool false, .slice none 0 0, .slice none 0 0]) 62 ze_Rat rfl (niB (niS (niS ni0)))
    replace ge5 : w.heap.size ≤ g5 := by rw [← ge5]; exact bel.size
    refine E.opv hF (r_alloc hr) rfl rfl rfl rfl fun a hF => ?_
    clear hr
    replace bel := below_to bel bb
    clear bb
    refine E.nil ?_
    refine wp_seq ?_
    refine wp_seq ?_
    refine E.seq ?_
    refine E.opv hF (r_assign ev_c) rfl rfl rfl rfl fun a hF => ?_
    refine E.nil ?_
    refine wp_block ?_
    have nint := nn1 o5.noInt
    refine E.loop (fun mq a wv => ∃ (i : Int) (sb : Bool) (sa : Option Addr) (sn : Nat) (sc : Nat) (ta : Option Addr) (tn : Nat) (tc : Nat), 1 ≤ i ∧ i ≤ n + 1 ∧ Fr 47 a [(6, .int .i64 i), (5, .pointer (some ⟨g5, 0, none⟩)), (0, .int .i64 n), (1, .bool true), (4, .bool false)] ∧ Stay [g5] w2 wv ∧ Below w.heap.size w wv ∧ Own wv g5 [.bool sb, .slice sa sn sc, .slice ta tn tc] ∧ Rq wv (.agg #[.bool sb, .slice sa sn sc, .slice ta tn tc]) (((i - 1 : Int) : Rat) / (((n + 1) * (n + 2 - i) : Int) : Rat)) ∧ mq = (n + 1 - i).toNat) ((n + 1 - 1).toNat) ?_ ?_
    · exact ⟨(1 : Int), _, _, _, _, _, _, _, (by omega), (by omega), hF.sub (by intro p hp; simp only [List.mem_cons, List.not_mem_nil, or_false] at hp ⊢; rcases hp with rfl | rfl | rfl | rfl | rfl <;> simp), Stay.refl _ _, bel, o5, ((Rq.zero _).cast (by rw [show (1 : Int) - 1 = 0 from rfl, Rat.intCast_zero, Rat.div_def, Rat.zero_mul])), rfl⟩
    · rintro mq a w3 ⟨i, sb, sa, sn, sc, ta, tn, tc, hi1, hi2, hF, sty, bel, o5, hs, hm⟩
      have kps := sty.keep nint
      clear kps
      by_cases hi : i ≤ n
      · refine wp_seq ?_
        refine wp_seq ?_
        refine E.seq ?_
        refine E.opv hF (r_move (hF.at 0 rfl)) rfl rfl rfl rfl fun a hF => ?_
        refine E.opv hF (r_move (hF.at 3 rfl)) rfl rfl rfl rfl fun a hF => ?_
        refine E.opv hF (r_bin (hF.at 1 rfl) (hF.at 0 rfl) eg_scalar (bi_int (ic_leq (c := true) (dec_tt hi)) (by simp))) rfl rfl rfl rfl fun a hF => ?_
        refine E.nil ?_
        refine wp_cond_true (hF.at 0 rfl) ?_
        refine wp_skip ?_
        refine E.norm ?_
        refine wp_seq ?_
        refine wp_block ?_
        refine wp_seq ?_
        refine E.seq ?_
        refine E.opv hF (r_move (hF.at 3 rfl)) rfl rfl rfl rfl fun a hF => ?_
        refine E.opv hF (r_assign (hF.at 0 rfl)) rfl rfl rfl rfl fun a hF => ?_
        refine E.nil ?_
        refine wp_seq ?_
        refine wp_seq ?_
        refine E.seq ?_
        refine E.opv hF (r_move (hF.at 8 rfl)) rfl rfl rfl rfl fun a hF => ?_
        refine E.nil ?_
        refine wp_cond_true (hF.at 0 rfl) ?_
        refine E.seq ?_
        refine E.opv hF (r_move (hF.at 8 rfl)) rfl rfl rfl rfl fun a hF => ?_
        refine E.opv hF (r_bin (hF.at 0 rfl) ev_c eg_scalar (ia_add (by omega) (by omega))) rfl rfl rfl rfl fun a hF => ?_
        refine E.opv hF (r_move (hF.at 8 rfl)) rfl rfl rfl rfl fun a hF => ?_
        refine E.opv hF (r_bin (hF.at 1 rfl) (hF.at 0 rfl) eg_scalar (ia_sub (by omega) (by omega))) rfl rfl rfl rfl fun a hF => ?_
        refine E.opset (L' := [(7, .int .i64 ((n + 1) - i)), (24, .int .i64 ((n + 1) - i)), (23, .int .i64 i), (22, .int .i64 (n + 1)), (21, .int .i64 n), (20, .bool true), (19, .int .i64 i), (16, .bool true), (15, .int .i64 n), (14, .int .i64 i), (6, .int .i64 i), (5, .pointer (some ⟨g5, 0, none⟩)), (0, .int .i64 n), (1, .bool true), (4, .bool false)]) hF (r_assign (hF.at 0 rfl)) rfl rfl rfl rfl fun a hF => ?_
        refine E.nil ?_
        refine E.drawn 7 mixed hF [25, 26, 27, 28, 29, 30, 31] [(fun _ v => v = .agg #[.bool sb, .slice sa sn sc, .slice ta tn tc]), (fun _ v => v = .int .i64 ((n + 1) - i)), (fun _ v => v = .int .i64 ((n + 1) - i)), (fun _ v => v = .int .i64 (((n + 1) - i) + 1)), (fun _ v => v = .int .i64 (((n + 1) - i) * (((n + 1) - i) + 1))), (fun w v => Rq w v (((1 : Int) : Rat) / ((((n + 1) - i) * (((n + 1) - i) + 1) : Int) : Rat))), (fun w v => Rq w v ((((i - 1 : Int) : Rat) / (((n + 1) * (n + 2 - i) : Int) : Rat)) + (((1 : Int) : Rat) / ((((n + 1) - i) * (((n + 1) - i) + 1) : Int) : Rat))))] [] (by decide +kernel) (by decide +kernel) rfl rfl rfl ⟨(Mb.eq _), (Mb.eq _), (Mb.eq _), (Mb.eq _), (Mb.eq _), (fun _ _ _ h hb => h.below hb), (fun _ _ _ h hb => h.below hb), trivial⟩ trivial ⟨?_, ?_, ?_, ?_, ?_, ?_, ?_, trivial⟩ ?_
        · intro a' w' hF' hb hd
          exact if_does (wanted_free rfl) (Does.vals (r_load (hF'.at 11 rfl) (ld_Rat (vs := [.bool sb, .slice sa sn sc, .slice ta tn tc]) (o5.below hb) rfl rfl)) ⟨rfl, Below.refl _ _, (fun h => absurd h (by decide))⟩)
        · intro a' w' hF' hb hd
          exact if_does (wanted_free rfl) (Does.vals (r_move (hF'.at 0 rfl)) ⟨rfl, Below.refl _ _, (fun h => absurd h (by decide))⟩)
        · intro a' w' hF' hb hd
          exact if_does (wanted_free rfl) (Does.vals (r_move (hF'.at 0 rfl)) ⟨rfl, Below.refl _ _, (fun h => absurd h (by decide))⟩)
        · intro a' w' hF' hb hd
          have e27 : a'.tmps.getD 27 undef = .int .i64 ((n + 1) - i) := hd _ 27 (Array.mem_of_getElem? (i := 0) rfl) rfl rfl
          exact if_does (wanted_free rfl) (Does.vals (r_bin e27 ev_c eg_scalar (ia_add (by omega) (by omega))) ⟨rfl, Below.refl _ _, (fun h => absurd h (by decide))⟩)
        · intro a' w' hF' hb hd
          have e26 : a'.tmps.getD 26 undef = .int .i64 ((n + 1) - i) := hd _ 26 (Array.mem_of_getElem? (i := 0) rfl) rfl rfl
          have e28 : a'.tmps.getD 28 undef = .int .i64 (((n + 1) - i) + 1) := hd _ 28 (Array.mem_of_getElem? (i := 1) rfl) rfl rfl
          exact if_does (wanted_free rfl) (Does.vals (r_bin e26 e28 eg_scalar (ia_mul (mul_rng (by omega) (by omega) (by omega) (by omega)).1 (mul_rng (by omega) (by omega) (by omega) (by omega)).2)) ⟨rfl, Below.refl _ _, (fun h => absurd h (by decide))⟩)
        · intro a' w' hF' hb hd
          have e29 : a'.tmps.getD 29 undef = .int .i64 (((n + 1) - i) * (((n + 1) - i) + 1)) := hd _ 29 (Array.mem_of_getElem? (i := 0) rfl) rfl rfl
          refine if_does (wanted_free rfl) (Does.calls (r_call Try.func29 en29.1 en29.2 (map2 ev_c e29)) (rOf2_any (1) (((n + 1) - i) * (((n + 1) - i) + 1)) _ (by decide) (by decide) (mul_rng (by omega) (by omega) (by omega) (by omega)).1 (mul_rng (by omega) (by omega) (by omega) (by omega)).2) ?_)
          rintro e w'' ⟨v', rfl, h', bb⟩
          exact ⟨_, rfl, h', bb, (fun h => absurd h (by decide))⟩
        · intro a' w' hF' hb hd
          have e25 : a'.tmps.getD 25 undef = .agg #[.bool sb, .slice sa sn sc, .slice ta tn tc] := hd _ 25 (Array.mem_of_getElem? (i := 0) rfl) rfl rfl
          obtain ⟨v30_0, e30, h30_1⟩ : ∃ v, a'.tmps.getD 30 undef = v ∧ Rq w' v (((1 : Int) : Rat) / ((((n + 1) - i) * (((n + 1) - i) + 1) : Int) : Rat)) := ⟨_, rfl, hd _ 30 (Array.mem_of_getElem? (i := 1) rfl) rfl rfl⟩
          refine if_does (wanted_free rfl) (Does.calls (r_call Try.func28 en28.1 en28.2 (map2 e25 e30)) (rAdd_any _ _ (((i - 1 : Int) : Rat) / (((n + 1) * (n + 2 - i) : Int) : Rat)) (((1 : Int) : Rat) / ((((n + 1) - i) * (((n + 1) - i) + 1) : Int) : Rat)) 2 _ (hs.below hb) h30_1 ((RLim.up (rlim_mk2 (limz_64 (by omega) (by omega)) (limz_64 (mul_rng (by omega) (by omega) (by omega) (by omega)).1 (mul_rng (by omega) (by omega) (by omega) (by omega)).2)) 2 (by decide)).up _ (by omega)) ((RLim.up (rlim_mk2 (limz_64 (by decide) (by decide)) (limz_64 (mul_rng (by omega) (by omega) (by omega) (by omega)).1 (mul_rng (by omega) (by omega) (by omega) (by omega)).2)) 2 (by decide)).up _ (by omega)) (by omega)) ?_)
          rintro e w'' ⟨v', rfl, h', bb⟩
          exact ⟨_, rfl, h', bb, (fun h => absurd h (by decide))⟩
        intro a w4 hF bb hall hne
        obtain ⟨vv5, e31, hh6⟩ : ∃ v, a.tmps.getD 31 undef = v ∧ Rq w4 v ((((i - 1 : Int) : Rat) / (((n + 1) * (n + 2 - i) : Int) : Rat)) + (((1 : Int) : Rat) / ((((n + 1) - i) * (((n + 1) - i) + 1) : Int) : Rat))) := ⟨_, rfl, hall 6 31 rfl⟩
        clear hall hne
        replace hs := hs.below bb
        replace o5 := o5.below bb
        replace sty := sty.below bb
        replace bel := below_to bel bb
        clear bb
        obtain ⟨b7, ad7, n7, c7, ae7, m7, d7, rfl, hn7, hd7⟩ := Rq.shape hh6
        have hf8 := Wc.abs hn7
        replace hF := hF.add e31
        clear e31
        obtain ⟨w9, hr, tu, on⟩ := st_Rat (vs := [.bool b7, .slice ad7 n7 c7, .slice ae7 m7 d7]) o5 rfl rfl (ocB (ocS (ocS oc0))) (niB (niS (niS ni0))) (o := 0) rfl
        have kp := tu.keep o5
        refine E.st hF (r_store (hF.at 12 rfl) (hF.at 0 rfl) (hr _ rfl)) rfl rfl fun a hF => ?_
        clear hr
        replace hs := hs.keep kp
        replace hh6 := hh6.keep kp
        replace hn7 := hn7.keep kp
        replace hf8 := hf8.keep kp
        replace hd7 := hd7.keep kp
        replace bel := tu.below bel ge5
        replace sty := sty.turned tu (.inl (by simp))
        clear tu kp
        replace o5 := on
        clear on
        refine E.nil0 ?_
        refine E.blk ?_
        refine E.norm ?_
        refine E.seq ?_
        refine E.opv hF (r_move (hF.at 11 rfl)) rfl rfl rfl rfl fun a hF => ?_
        refine E.opv hF (r_bin (hF.at 0 rfl) ev_c eg_scalar (ia_add (by omega) (by omega))) rfl rfl rfl rfl fun a hF => ?_
        refine E.opset (L' := [(6, .int .i64 (i + 1)), (18, .int .i64 (i + 1)), (17, .int .i64 i), (31, .agg #[.bool b7, .slice ad7 n7 c7, .slice ae7 m7 d7]), (7, .int .i64 ((n + 1) - i)), (24, .int .i64 ((n + 1) - i)), (23, .int .i64 i), (22, .int .i64 (n + 1)), (21, .int .i64 n), (20, .bool true), (19, .int .i64 i), (16, .bool true), (15, .int .i64 n), (14, .int .i64 i), (5, .pointer (some ⟨g5, 0, none⟩)), (0, .int .i64 n), (1, .bool true), (4, .bool false)]) hF (r_assign (hF.at 0 rfl)) rfl rfl rfl rfl fun a hF => ?_
        refine E.nil0 ?_
        refine E.norm ?_
        exact ⟨(n + 1 - (i + 1)).toNat, by omega, ⟨(i + 1), _, _, _, _, _, _, _, (by omega), (by omega), Fr.sub (L' := [(6, .int .i64 (i + 1)), (5, .pointer (some ⟨g5, 0, none⟩)), (0, .int .i64 n), (1, .bool true), (4, .bool false)]) hF (by intro p hp; simp only [List.mem_cons, List.not_mem_nil, or_false] at hp ⊢; rcases hp with rfl | rfl | rfl | rfl | rfl <;> simp), sty, bel, o5, (hh6.cast (tel_back (by omega) (by omega))), rfl⟩⟩
      · refine wp_seq ?_
        refine wp_seq ?_
        refine E.seq ?_
        refine E.opv hF (r_move (hF.at 0 rfl)) rfl rfl rfl rfl fun a hF => ?_
        refine E.opv hF (r_move (hF.at 3 rfl)) rfl rfl rfl rfl fun a hF => ?_
        refine E.opv hF (r_bin (hF.at 1 rfl) (hF.at 0 rfl) eg_scalar (bi_int (ic_leq (c := false) (dec_ff hi)) (by simp))) rfl rfl rfl rfl fun a hF => ?_
        refine E.nil ?_
        refine wp_cond_false (hF.at 0 rfl) ?_
        refine wp_exit ?_
        refine E.past ?_
        refine E.past ?_
        refine E.out (id := 0) ?_
        refine E.norm ?_
        refine wp_seq ?_
        refine E.drawn 15 mixed hF [32, 33, 34, 35, 36, 37, 38, 39, 40, 41, 42, 43, 44, 45, 46] [(fun _ v => v = .agg #[.bool sb, .slice sa sn sc, .slice ta tn tc]), (fun _ v => v = .int .i64 n), (fun _ v => v = .int .i64 n), (fun _ v => v = .int .i64 (n + 1)), (fun w v => Rq w v (((n : Int) : Rat) / ((n + 1 : Int) : Rat))), (fun _ v => v = .bool true), (fun _ v => v = .bool true), (fun w v => Rq w v (((1 : Int) : Rat))), (fun _ v => v = .agg #[.bool sb, .slice sa sn sc, .slice ta tn tc]), (fun w v => Rq w v ((((1 : Int) : Rat)) - (((i - 1 : Int) : Rat) / (((n + 1) * (n + 2 - i) : Int) : Rat)))), (fun _ v => v = .int .i64 n), (fun _ v => v = .int .i64 (n + 1)), (fun w v => Rq w v (((1 : Int) : Rat) / ((n + 1 : Int) : Rat))), (fun _ v => v = .bool true), (fun _ v => v = .bool true)] [] (by decide +kernel) (by decide +kernel) rfl rfl rfl ⟨(Mb.eq _), (Mb.eq _), (Mb.eq _), (Mb.eq _), (fun _ _ _ h hb => h.below hb), (Mb.eq _), (Mb.eq _), (fun _ _ _ h hb => h.below hb), (Mb.eq _), (fun _ _ _ h hb => h.below hb), (Mb.eq _), (Mb.eq _), (fun _ _ _ h hb => h.below hb), (Mb.eq _), (Mb.eq _), trivial⟩ trivial ⟨?_, ?_, ?_, ?_, ?_, ?_, ?_, ?_, ?_, ?_, ?_, ?_, ?_, ?_, ?_, trivial⟩ ?_
        · intro a' w' hF' hb hd
          exact if_does (wanted_free rfl) (Does.vals (r_load (hF'.at 4 rfl) (ld_Rat (vs := [.bool sb, .slice sa sn sc, .slice ta tn tc]) (o5.below hb) rfl rfl)) ⟨rfl, Below.refl _ _, (fun h => absurd h (by decide))⟩)
        · intro a' w' hF' hb hd
          exact if_does (wanted_free rfl) (Does.vals (r_move (hF'.at 5 rfl)) ⟨rfl, Below.refl _ _, (fun h => absurd h (by decide))⟩)
        · intro a' w' hF' hb hd
          exact if_does (wanted_free rfl) (Does.vals (r_move (hF'.at 5 rfl)) ⟨rfl, Below.refl _ _, (fun h => absurd h (by decide))⟩)
        · intro a' w' hF' hb hd
          have e34 : a'.tmps.getD 34 undef = .int .i64 n := hd _ 34 (Array.mem_of_getElem? (i := 0) rfl) rfl rfl
          exact if_does (wanted_free rfl) (Does.vals (r_bin e34 ev_c eg_scalar (ia_add (by omega) (by omega))) ⟨rfl, Below.refl _ _, (fun h => absurd h (by decide))⟩)
        · intro a' w' hF' hb hd
          have e33 : a'.tmps.getD 33 undef = .int .i64 n := hd _ 33 (Array.mem_of_getElem? (i := 0) rfl) rfl rfl
          have e35 : a'.tmps.getD 35 undef = .int .i64 (n + 1) := hd _ 35 (Array.mem_of_getElem? (i := 1) rfl) rfl rfl
          refine if_does (wanted_free rfl) (Does.calls (r_call Try.func29 en29.1 en29.2 (map2 e33 e35)) (rOf2_any (n) (n + 1) _ (by omega) (by omega) (by omega) (by omega)) ?_)
          rintro e w'' ⟨v', rfl, h', bb⟩
          exact ⟨_, rfl, h', bb, (fun h => absurd h (by decide))⟩
        · intro a' w' hF' hb hd
          have e32 : a'.tmps.getD 32 undef = .agg #[.bool sb, .slice sa sn sc, .slice ta tn tc] := hd _ 32 (Array.mem_of_getElem? (i := 0) rfl) rfl rfl
          obtain ⟨v36_0, e36, h36_1⟩ : ∃ v, a'.tmps.getD 36 undef = v ∧ Rq w' v (((n : Int) : Rat) / ((n + 1 : Int) : Rat)) := ⟨_, rfl, hd _ 36 (Array.mem_of_getElem? (i := 1) rfl) rfl rfl⟩
          refine if_does (wanted_free rfl) (Does.calls (r_call Try.func30 en30.1 en30.2 (map2 e32 e36)) (rSame_true _ _ (((i - 1 : Int) : Rat) / (((n + 1) * (n + 2 - i) : Int) : Rat)) (((n : Int) : Rat) / ((n + 1 : Int) : Rat)) _ (hs.below hb) h36_1 (tel_end1b (by omega))) ?_)
          rintro e w'' ⟨rfl, bb⟩
          exact ⟨_, rfl, rfl, bb, (fun h => absurd h (by decide))⟩
        · intro a' w' hF' hb hd
          have e37 : a'.tmps.getD 37 undef = .bool true := hd _ 37 (Array.mem_of_getElem? (i := 0) rfl) rfl rfl
          exact if_does (wanted_free rfl) (Does.vals (r_move e37) ⟨rfl, Below.refl _ _, (fun h => absurd h (by decide))⟩)
        · intro a' w' hF' hb hd
          have e38 : a'.tmps.getD 38 undef = .bool true := hd _ 38 (Array.mem_of_getElem? (i := 0) rfl) rfl rfl
          refine if_does (wanted_by rfl rfl e38 rfl) (Does.calls (r_call Try.func31 en31.1 en31.2 (map1 ev_c)) (rWhole_any (1) _ (by decide) (by decide)) ?_)
          rintro e w'' ⟨v', rfl, h', bb⟩
          exact ⟨_, rfl, h', bb, (fun h => absurd h (by decide))⟩
        · intro a' w' hF' hb hd
          have e38 : a'.tmps.getD 38 undef = .bool true := hd _ 38 (Array.mem_of_getElem? (i := 0) rfl) rfl rfl
          exact if_does (wanted_by rfl rfl e38 rfl) (Does.vals (r_load (hF'.at 4 rfl) (ld_Rat (vs := [.bool sb, .slice sa sn sc, .slice ta tn tc]) (o5.below hb) rfl rfl)) ⟨rfl, Below.refl _ _, (fun h => absurd h (by decide))⟩)
        · intro a' w' hF' hb hd
          have e38 : a'.tmps.getD 38 undef = .bool true := hd _ 38 (Array.mem_of_getElem? (i := 3) rfl) rfl rfl
          obtain ⟨v39_0, e39, h39_1⟩ : ∃ v, a'.tmps.getD 39 undef = v ∧ Rq w' v (((1 : Int) : Rat)) := ⟨_, rfl, hd _ 39 (Array.mem_of_getElem? (i := 0) rfl) rfl rfl⟩
          have e40 : a'.tmps.getD 40 undef = .agg #[.bool sb, .slice sa sn sc, .slice ta tn tc] := hd _ 40 (Array.mem_of_getElem? (i := 1) rfl) rfl rfl
          refine if_does (wanted_by rfl rfl e38 rfl) (Does.calls (r_call Try.func32 en32.1 en32.2 (map2 e39 e40)) (rSub_any _ _ (((1 : Int) : Rat)) (((i - 1 : Int) : Rat) / (((n + 1) * (n + 2 - i) : Int) : Rat)) 2 _ h39_1 (hs.below hb) ((rlim_int (limz_64 (by decide) (by decide)) (by omega)).up _ (by omega)) ((RLim.up (rlim_mk2 (limz_64 (by omega) (by omega)) (limz_64 (mul_rng (by omega) (by omega) (by omega) (by omega)).1 (mul_rng (by omega) (by omega) (by omega) (by omega)).2)) 2 (by decide)).up _ (by omega)) (by omega)) ?_)
          rintro e w'' ⟨v', rfl, h', bb⟩
          exact ⟨_, rfl, h', bb, (fun h => absurd h (by decide))⟩
        · intro a' w' hF' hb hd
          have e38 : a'.tmps.getD 38 undef = .bool true := hd _ 38 (Array.mem_of_getElem? (i := 0) rfl) rfl rfl
          exact if_does (wanted_by rfl rfl e38 rfl) (Does.vals (r_move (hF'.at 5 rfl)) ⟨rfl, Below.refl _ _, (fun h => absurd h (by decide))⟩)
        · intro a' w' hF' hb hd
          have e38 : a'.tmps.getD 38 undef = .bool true := hd _ 38 (Array.mem_of_getElem? (i := 1) rfl) rfl rfl
          have e42 : a'.tmps.getD 42 undef = .int .i64 n := hd _ 42 (Array.mem_of_getElem? (i := 0) rfl) rfl rfl
          exact if_does (wanted_by rfl rfl e38 rfl) (Does.vals (r_bin e42 ev_c eg_scalar (ia_add (by omega) (by omega))) ⟨rfl, Below.refl _ _, (fun h => absurd h (by decide))⟩)
        · intro a' w' hF' hb hd
          have e38 : a'.tmps.getD 38 undef = .bool true := hd _ 38 (Array.mem_of_getElem? (i := 2) rfl) rfl rfl
          have e43 : a'.tmps.getD 43 undef = .int .i64 (n + 1) := hd _ 43 (Array.mem_of_getElem? (i := 0) rfl) rfl rfl
          refine if_does (wanted_by rfl rfl e38 rfl) (Does.calls (r_call Try.func29 en29.1 en29.2 (map2 ev_c e43)) (rOf2_any (1) (n + 1) _ (by decide) (by decide) (by omega) (by omega)) ?_)
          rintro e w'' ⟨v', rfl, h', bb⟩
          exact ⟨_, rfl, h', bb, (fun h => absurd h (by decide))⟩
        · intro a' w' hF' hb hd
          have e38 : a'.tmps.getD 38 undef = .bool true := hd _ 38 (Array.mem_of_getElem? (i := 3) rfl) rfl rfl
          obtain ⟨v41_0, e41, h41_1⟩ : ∃ v, a'.tmps.getD 41 undef = v ∧ Rq w' v ((((1 : Int) : Rat)) - (((i - 1 : Int) : Rat) / (((n + 1) * (n + 2 - i) : Int) : Rat))) := ⟨_, rfl, hd _ 41 (Array.mem_of_getElem? (i := 0) rfl) rfl rfl⟩
          obtain ⟨v44_0, e44, h44_1⟩ : ∃ v, a'.tmps.getD 44 undef = v ∧ Rq w' v (((1 : Int) : Rat) / ((n + 1 : Int) : Rat)) := ⟨_, rfl, hd _ 44 (Array.mem_of_getElem? (i := 1) rfl) rfl rfl⟩
          refine if_does (wanted_by rfl rfl e38 rfl) (Does.calls (r_call Try.func30 en30.1 en30.2 (map2 e41 e44)) (rSame_true _ _ ((((1 : Int) : Rat)) - (((i - 1 : Int) : Rat) / (((n + 1) * (n + 2 - i) : Int) : Rat))) (((1 : Int) : Rat) / ((n + 1 : Int) : Rat)) _ h41_1 h44_1 (tel_end2 hn1 (tel_end1b (by omega)))) ?_)
          rintro e w'' ⟨rfl, bb⟩
          exact ⟨_, rfl, rfl, bb, (fun h => absurd h (by decide))⟩
        · intro a' w' hF' hb hd
          have e38 : a'.tmps.getD 38 undef = .bool true := hd _ 38 (Array.mem_of_getElem? (i := 0) rfl) rfl rfl
          have e45 : a'.tmps.getD 45 undef = .bool true := hd _ 45 (Array.mem_of_getElem? (i := 1) rfl) rfl rfl
          exact if_does (wanted_free rfl) (Does.vals (r_pick_t e38 e45) ⟨rfl, Below.refl _ _, (fun h => absurd h (by decide))⟩)
        intro a w4 hF bb hall hne
        have e46 : a.tmps.getD 46 undef = .bool true := hall 14 46 rfl
        clear hall hne
        replace bel := below_to bel bb
        clear bb
        replace hF := hF.add e46
        clear e46
        refine E.opset (L' := [(4, .bool true), (46, .bool true), (16, .bool false), (15, .int .i64 n), (14, .int .i64 i), (6, .int .i64 i), (5, .pointer (some ⟨g5, 0, none⟩)), (0, .int .i64 n), (1, .bool true)]) hF (r_assign (hF.at 0 rfl)) rfl rfl rfl rfl fun a hF => ?_
        refine E.nil ?_
        refine wp_ret ?_
        refine bodyPost_ret (res_tmp Try.results7 (hF.at 0 rfl)) hF.dfr ?_
        exact ⟨rfl, bel⟩

end Go.Proofs.Ytjdmnchndnpdlaa
