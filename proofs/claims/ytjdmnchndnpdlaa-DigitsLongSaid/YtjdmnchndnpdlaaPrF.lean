/- DigitsLong. -/
import Derived.Test.YtjdmnchndnpdlaaGW
import Derived.Laws.MakeOwn
namespace Go.Proofs.Ytjdmnchndnpdlaa
open Go.RowKit
set_option maxRecDepth 100000
set_option linter.unusedVariables false

theorem r_makeSlice {P : Program} {w w' : World} {a : Act} {dst : Option Tmp} {ty : TypeId} {pos : String} {af : Array Edge} {gd : Option (Nat × Bool)} {t : TypeId} {x y : Operand} {p q v : Value} (h : a.eval x = p) (h2 : a.eval y = q) (hl : (Instr.makeSlice t p q).run P w = .ok v w') :
    (execOp a.eval ⟨dst, .makeSlice t x y, ty, pos, af, gd⟩).run P w = .ok (.value v) w' := by
  simp only [execOp, h, h2]
  exact run_v hl
theorem made8 (n : Nat) : madeCells (Value.cells (.int .u8 0)) (n * 1) = (List.replicate n (Value.int .u8 0)).toArray := by
  apply Array.ext
  · simp [madeCells]
  · intro i h1 h2
    simp [madeCells, Value.cells, Nat.mod_one]
theorem mk8 (w : World) (n : Nat) (hn : n ≤ 4096) : ∃ g w', (Instr.makeSlice 58 (.int .i64 ((n : Nat) : Int)) (.int .i64 ((n : Nat) : Int))).run Try.prog w = .ok (.slice (some ⟨g, 0, none⟩) n n) w' ∧ AccK w' .u8 5 w.heap.size (.slice (some ⟨g, 0, none⟩) n n) (List.replicate n 0) ∧ Below w.heap.size w w' := by
  obtain ⟨i, h1, h2, h3, h4⟩ := info_u8
  have hr := run_make (P := Try.prog) w 58 5 i (.int .u8 0) Try.underlying58 h1 h2 .i64 .i64 ((n : Nat) : Int) ((n : Nat) : Int) (by omega) (Int.le_refl _) (by rw [h4]; omega) (by omega)
  rw [h3, Int.toNat_natCast, made8] at hr
  refine ⟨w.heap.size, _, hr, .inr ⟨w.heap.size, n, List.replicate n (.int .u8 0), by rw [List.length_replicate], Nat.le_refl _, ?_, by rw [List.length_replicate]; exact Nat.le_refl _, by unfold maxLen; omega, by simp, ?_, ?_⟩, (blk_new (w := w) (cs := List.replicate n (.int .u8 0)) 5).2⟩
  · simp only [World.alloc, Array.getElem?_push_size]
  · rw [List.length_replicate, List.take_of_length_le (by simp)]
    simp [cl]
  · intro u hu
    exact ⟨0, (List.mem_replicate.1 hu).2⟩
theorem rep_set {n i c : Nat} (h : i < n) : (List.replicate i c ++ List.replicate (n - i) 0).set i c = List.replicate (i + 1) c ++ List.replicate (n - (i + 1)) 0 := by
  rw [show n - i = (n - (i + 1)) + 1 by omega, List.replicate_succ, List.set_append_right _ _ (by simp)]
  simp [List.replicate_succ', List.append_assoc]
theorem rep_all {n i c : Nat} (h : ¬ i < n) (h' : i ≤ n) : List.replicate i c ++ List.replicate (n - i) 0 = List.replicate n c := by
  have : i = n := by omega
  subst this
  simp
theorem rp_t (n c : Nat) : [45] ++ List.replicate n c = rp n c true := rfl
theorem rp_f (n c : Nat) : List.replicate n c = rp n c false := rfl
theorem rp_len (n c : Nat) (b : Bool) : (rp n c b).length ≤ n + 1 := by
  unfold rp
  rw [List.length_append, List.length_replicate]
  split <;> simp <;> omega
theorem sz_rp {n c : Nat} {b : Bool} (h1 : 49 ≤ c) (h2 : c ≤ 57) : (n = 0 ∨ 1000 < n → sz (pz (rp n c b)) = 0) ∧ (0 < n → n ≤ 1000 → (sz (pz (rp n c b)) < 0 ↔ b = true)) := by
  refine ⟨fun h => by rw [rp_0 h1 h2 h]; rfl, fun hn hm => ?_⟩
  have this := rp_sz (b := b) h1 h2 (by omega) hm
  have e : pz (rp n c b) < 0 ↔ b = true := by
    generalize pz (rp n c b) = z at this
    subst this
    exact decide_eq_true_iff.symm
  rw [← e]
  generalize pz (rp n c b) = z
  unfold sz
  repeat' split
  all_goals omega
set_option maxHeartbeats 8000000 in
theorem long_walk (x y : Int) (b : Bool) (w : World) :
    Calls Try.prog 6 #[.int .i64 x, .int .i64 y, .bool b] w (ValPost w (.bool true)) := by
  cases b
  · have bel : Below w.heap.size w w := Below.refl _ _
    refine E.enter (nt := 79) (L := [(0, .int .i64 x), (1, .int .i64 y), (2, .bool false)]) Try.func6 rfl rfl rfl (args_cons (i := 0) rfl (args_cons (i := 1) rfl (args_cons (i := 2) rfl args_nil))) ?_
    intro a hF
    refine wp_seq ?_
    refine E.seq ?_
    refine E.opv hF (r_assign ev_c) rfl rfl rfl rfl fun a hF => ?_
    refine E.nil ?_
    refine wp_seq ?_
    refine wp_seq ?_
    refine E.seq ?_
    refine E.call hF (r_call Try.func15 en15.1 en15.2 map0) (awake4_any _) rfl rfl rfl rfl ?_
    rintro e w1 ⟨rfl, bb⟩
    refine ⟨_, rfl, ?_⟩
    intro a hF
    replace bel := below_to bel bb
    clear bb
    refine E.opv hF (r_un (hF.at 0 rfl) (bn_not _ false rfl)) rfl rfl rfl rfl fun a hF => ?_
    refine E.nil ?_
    refine wp_cond_false (hF.at 0 rfl) ?_
    refine wp_skip ?_
    refine E.norm ?_
    refine wp_seq ?_
    refine E.seq ?_
    refine E.opv hF (r_move (hF.at 3 rfl)) rfl rfl rfl rfl fun a hF => ?_
    refine E.opv hF (r_bin (hF.at 0 rfl) ev_c eg_scalar (id_and (n := 11) (by decide) (d := 2048) (by decide) (by decide))) rfl rfl rfl rfl fun a hF => ?_
    refine E.opv hF (r_move (hF.at 6 rfl)) rfl rfl rfl rfl fun a hF => ?_
    refine E.opv hF (r_bin (hF.at 0 rfl) ev_c eg_scalar (id_and (n := 8) (by decide) (d := 256) (by decide) (by decide))) rfl rfl rfl rfl fun a hF => ?_
    refine E.opv hF (r_bin (hF.at 0 rfl) ev_c eg_scalar (id_rem (a := y % 256) (b := 9) (by omega))) rfl rfl rfl rfl fun a hF => ?_
    refine E.opv hF (r_bin ev_c (hF.at 0 rfl) eg_scalar (ia_add (by omega) (by omega))) rfl rfl rfl rfl fun a hF => ?_
    refine E.opset (L' := [(0, .int .i64 (x % 2048)), (19, .int .i64 (1 + (if 0 ≤ y % 256 then (y % 256) % 9 else -(-(y % 256) % 9)))), (18, .int .i64 (if 0 ≤ y % 256 then (y % 256) % 9 else -(-(y % 256) % 9))), (17, .int .i64 (y % 256)), (16, .int .i64 y), (15, .int .i64 (x % 2048)), (14, .int .i64 x), (13, .bool false), (12, .bool true), (6, .bool false), (1, .int .i64 y), (2, .bool false)]) hF (r_assign (hF.at 4 rfl)) rfl rfl rfl rfl fun a hF => ?_
    refine E.opset (L' := [(1, .int .i64 (1 + (if 0 ≤ y % 256 then (y % 256) % 9 else -(-(y % 256) % 9)))), (0, .int .i64 (x % 2048)), (19, .int .i64 (1 + (if 0 ≤ y % 256 then (y % 256) % 9 else -(-(y % 256) % 9)))), (18, .int .i64 (if 0 ≤ y % 256 then (y % 256) % 9 else -(-(y % 256) % 9))), (17, .int .i64 (y % 256)), (16, .int .i64 y), (15, .int .i64 (x % 2048)), (14, .int .i64 x), (13, .bool false), (12, .bool true), (6, .bool false), (2, .bool false)]) hF (r_assign (hF.at 1 rfl)) rfl rfl rfl rfl fun a hF => ?_
    obtain ⟨n, hn⟩ : ∃ n : Nat, ((n : Nat) : Int) = x % 2048 := ⟨(x % 2048).toNat, by omega⟩
    obtain ⟨d, hd⟩ : ∃ d : Nat, ((d : Nat) : Int) = 1 + (if 0 ≤ y % 256 then (y % 256) % 9 else -(-(y % 256) % 9)) := ⟨(1 + (if 0 ≤ y % 256 then (y % 256) % 9 else -(-(y % 256) % 9))).toNat, by omega⟩
    have hn1 : n ≤ 2047 := by omega
    have hd1 : 1 ≤ d := by omega
    have hd2 : d ≤ 9 := by omega
    replace hF : Fr 79 a [(1, .int .i64 ((d : Nat) : Int)), (0, .int .i64 ((n : Nat) : Int)), (6, .bool false), (2, .bool false)] := by rw [hn, hd]; exact Fr.sub hF (by intro p hp; simp only [List.mem_cons, List.not_mem_nil, or_false] at hp ⊢; rcases hp with rfl | rfl | rfl | rfl <;> simp)
    clear hn hd
    have hpe := rp_pe (n := n) (c := 48 + d) (b := false) (by omega) (by omega)
    have hsz := sz_rp (n := n) (c := 48 + d) (b := false) (by omega) (by omega)
    have hs0 := hsz.1
    have hs1 := hsz.2
    clear hsz
    simp only [Bool.false_eq_true, iff_false] at hs1
    have hrl := rp_len n (48 + d) false
    refine E.nil ?_
    refine wp_seq ?_
    refine E.seq ?_
    refine E.opv hF (r_move (hF.at 1 rfl)) rfl rfl rfl rfl fun a hF => ?_
    obtain ⟨g8, w2, hr, ha3, bb⟩ := mk8 w1 n (by omega)
    replace ha3 := ha3.rebase bel.size
    refine E.opv hF (r_makeSlice (hF.at 0 rfl) (hF.at 0 rfl) hr) rfl rfl rfl rfl fun a hF => ?_
    clear hr
    replace bel := below_to bel bb
    clear bb
    refine E.opv hF (r_assign (hF.at 0 rfl)) rfl rfl rfl rfl fun a hF => ?_
    refine E.nil ?_
    refine wp_seq ?_
    refine wp_seq ?_
    refine E.seq ?_
    refine E.opv hF (r_move (hF.at 0 rfl)) rfl rfl rfl rfl fun a hF => ?_
    refine E.opv hF (r_builtin (map1 (hF.at 0 rfl)) bl_u8s) rfl rfl rfl rfl fun a hF => ?_
    refine E.opv hF (r_move ev_c) rfl rfl rfl rfl fun a hF => ?_
    refine E.nil ?_
    refine wp_block ?_
    refine E.loop (fun mq a wv => ∃ (i : Nat), i ≤ n ∧ Fr 79 a [(24, .int .i64 ((i : Nat) : Int)), (23, .int .i64 ((n : Nat) : Int)), (7, .slice (some ⟨g8, 0, none⟩) n n), (1, .int .i64 ((d : Nat) : Int)), (0, .int .i64 ((n : Nat) : Int)), (6, .bool false), (2, .bool false)] ∧ Below w.heap.size w wv ∧ AccK wv .u8 5 w.heap.size (.slice (some ⟨g8, 0, none⟩) n n) (List.replicate i (48 + d) ++ List.replicate (n - i) 0) ∧ mq = n - i) (n - 0) ?_ ?_
    · exact ⟨0, (Nat.zero_le _), Fr.sub (L' := [(24, .int .i64 ((0 : Nat) : Int)), (23, .int .i64 ((n : Nat) : Int)), (7, .slice (some ⟨g8, 0, none⟩) n n), (1, .int .i64 ((d : Nat) : Int)), (0, .int .i64 ((n : Nat) : Int)), (6, .bool false), (2, .bool false)]) hF (by intro p hp; simp only [List.mem_cons, List.not_mem_nil, or_false] at hp ⊢; rcases hp with rfl | rfl | rfl | rfl | rfl | rfl | rfl <;> simp), bel, (by simpa using ha3), rfl⟩
    · rintro mq a w4 ⟨i, hi, hF, bel, ha, hm⟩
      by_cases hin : i < n
      · refine wp_seq ?_
        refine E.seq ?_
        refine E.opv hF (r_bin (hF.at 0 rfl) (hF.at 1 rfl) eg_scalar (bi_int (ic_lss (c := true) (dec_tt (by omega))) (by simp))) rfl rfl rfl rfl fun a hF => ?_
        refine E.nil ?_
        refine wp_seq ?_
        refine wp_cond_true (hF.at 0 rfl) ?_
        refine wp_skip ?_
        refine E.norm ?_
        refine wp_seq ?_
        refine wp_block ?_
        refine wp_seq ?_
        refine E.seq ?_
        refine E.opv hF (r_move (hF.at 1 rfl)) rfl rfl rfl rfl fun a hF => ?_
        refine E.opv hF (r_assign (hF.at 0 rfl)) rfl rfl rfl rfl fun a hF => ?_
        refine E.nil ?_
        refine E.seq ?_
        refine E.opv hF (r_move (hF.at 5 rfl)) rfl rfl rfl rfl fun a hF => ?_
        refine E.opv hF (r_move (hF.at 1 rfl)) rfl rfl rfl rfl fun a hF => ?_
        refine E.opv hF (r_move (hF.at 8 rfl)) rfl rfl rfl rfl fun a hF => ?_
        refine E.opv hF (r_bin ev_c (hF.at 0 rfl) eg_scalar (ia_add (by omega) (by omega))) rfl rfl rfl rfl fun a hF => ?_
        refine E.opv hF (r_conv (hF.at 0 rfl) (cv_kind (k' := .u8) Try.underlying3 Try.underlying5 (w_u8 (by omega) (by omega)))) rfl rfl rfl rfl fun a hF => ?_
        refine E.opv hF (r_index (hF.at 4 rfl) (hF.at 3 rfl) (ix8 (by omega) (by omega))) rfl rfl rfl rfl fun a hF => ?_
        have hsv : 48 + ((d : Nat) : Int) = ((48 + d : Nat) : Int) := by omega
        obtain ⟨w5, hr, ha6, bb, gr⟩ := ha.store (P := Try.prog) sz_u8 (i := (((i : Nat) : Int)).toNat) (48 + d) (by simp only [List.length_append, List.length_replicate]; omega)
        rw [← hsv] at hr
        rw [Int.toNat_natCast, rep_set hin] at ha6
        refine E.st hF (r_store (hF.at 0 rfl) (hF.at 1 rfl) hr) rfl rfl fun a hF => ?_
        clear hr hsv
        replace bel := bel.trans bb
        clear bb gr
        refine E.nil0 ?_
        refine E.blk ?_
        refine E.norm ?_
        refine E.seq ?_
        refine E.opv hF (r_bin (hF.at 9 rfl) ev_c eg_scalar (ia_add (by omega) (by omega))) rfl rfl rfl rfl fun a hF => ?_
        refine E.opset (L' := [(24, .int .i64 (((i : Nat) : Int) + 1)), (33, .int .i64 (((i : Nat) : Int) + 1)), (32, .pointer (some ⟨g8, (((i : Nat) : Int)).toNat, none⟩)), (31, .int .u8 (48 + ((d : Nat) : Int))), (30, .int .i64 (48 + ((d : Nat) : Int))), (29, .int .i64 ((d : Nat) : Int)), (28, .int .i64 ((i : Nat) : Int)), (27, .slice (some ⟨g8, 0, none⟩) n n), (8, .int .i64 ((i : Nat) : Int)), (26, .int .i64 ((i : Nat) : Int)), (25, .bool true), (23, .int .i64 ((n : Nat) : Int)), (7, .slice (some ⟨g8, 0, none⟩) n n), (1, .int .i64 ((d : Nat) : Int)), (0, .int .i64 ((n : Nat) : Int)), (6, .bool false), (2, .bool false)]) hF (r_move (hF.at 0 rfl)) rfl rfl rfl rfl fun a hF => ?_
        refine E.nil0 ?_
        refine E.norm ?_
        exact ⟨n - (i + 1), by omega, ⟨(i + 1), (by omega), (by rw [show ((i + 1 : Nat) : Int) = ((i : Nat) : Int) + 1 from by omega]; exact Fr.sub (L' := [(24, .int .i64 (((i : Nat) : Int) + 1)), (23, .int .i64 ((n : Nat) : Int)), (7, .slice (some ⟨g8, 0, none⟩) n n), (1, .int .i64 ((d : Nat) : Int)), (0, .int .i64 ((n : Nat) : Int)), (6, .bool false), (2, .bool false)]) hF (by intro p hp; simp only [List.mem_cons, List.not_mem_nil, or_false] at hp ⊢; rcases hp with rfl | rfl | rfl | rfl | rfl | rfl | rfl <;> simp)), bel, ha6, rfl⟩⟩
      · refine wp_seq ?_
        refine E.seq ?_
        refine E.opv hF (r_bin (hF.at 0 rfl) (hF.at 1 rfl) eg_scalar (bi_int (ic_lss (c := false) (dec_ff (by omega))) (by simp))) rfl rfl rfl rfl fun a hF => ?_
        refine E.nil ?_
        refine wp_seq ?_
        refine wp_cond_false (hF.at 0 rfl) ?_
        refine wp_exit ?_
        refine E.past ?_
        refine E.past ?_
        refine E.out (id := 0) ?_
        refine E.norm ?_
        refine wp_seq ?_
        refine E.seq ?_
        refine E.opv hF (r_move (hF.at 3 rfl)) rfl rfl rfl rfl fun a hF => ?_
        refine E.opv hF (r_conv (hF.at 0 rfl) (cv_str (AccK.sqb ha))) rfl rfl rfl rfl fun a hF => ?_
        refine E.opv hF (r_assign (hF.at 0 rfl)) rfl rfl rfl rfl fun a hF => ?_
        have hxs : (List.replicate i (48 + d) ++ List.replicate (n - i) 0) = List.replicate n (48 + d) := rep_all (by omega) hi
        replace hF : Fr 79 a [(9, .string (bstr (rp n (48 + d) false))), (1, .int .i64 ((d : Nat) : Int)), (0, .int .i64 ((n : Nat) : Int)), (6, .bool false), (2, .bool false)] := by rw [← rp_f, ← hxs]; exact Fr.sub hF (by intro p hp; simp only [List.mem_cons, List.not_mem_nil, or_false] at hp ⊢; rcases hp with rfl | rfl | rfl | rfl | rfl <;> simp)
        refine E.nil ?_
        refine wp_seq ?_
        refine wp_seq ?_
        refine E.seq ?_
        refine E.opv hF (r_move (hF.at 4 rfl)) rfl rfl rfl rfl fun a hF => ?_
        refine E.nil ?_
        refine wp_cond_false (hF.at 0 rfl) ?_
        refine wp_skip ?_
        refine E.norm ?_
        refine wp_seq ?_
        refine E.seq ?_
        refine E.opv hF (r_move (hF.at 1 rfl)) rfl rfl rfl rfl fun a hF => ?_
        refine E.call hF (r_call Try.func19 en19.1 en19.2 (map1 (hF.at 0 rfl))) (parse_any ((rp n (48 + d) false)) _ (rp_okb (by omega)) (by first | omega | decide)) rfl rfl rfl rfl ?_
        rintro e w5 ⟨vv6, rfl, hh7, bb⟩
        refine ⟨_, rfl, ?_⟩
        intro a hF
        replace bel := below_to bel bb
        clear bb
        obtain ⟨ad8, n8, c8, rfl, _⟩ := Wc.shape hh7
        refine E.opv hF (r_move (hF.at 0 rfl)) rfl rfl rfl rfl fun a hF => ?_
        refine E.opv hF (r_extract (v := .agg #[.bool (decide (pz ((rp n (48 + d) false)) < 0)), .slice ad8 n8 c8]) (hF.at 0 rfl) rfl) rfl rfl rfl rfl fun a hF => ?_
        refine E.opv hF (r_extract (v := .int .i64 (pe ((rp n (48 + d) false)))) (hF.at 1 rfl) rfl) rfl rfl rfl rfl fun a hF => ?_
        obtain ⟨g10, w9, ge10, hr, bb, o10⟩ := own_alloc (P := Try.prog) (w := w5) (cs := [.bool false, .slice none 0 0]) 37 ze_Int rfl (niB (niS ni0))
        replace ge10 : w.heap.size ≤ g10 := by rw [← ge10]; exact bel.size
        refine E.opv hF (r_alloc hr) rfl rfl rfl rfl fun a hF => ?_
        clear hr
        replace hh7 := hh7.below bb
        replace bel := below_to bel bb
        clear bb
        obtain ⟨w10, hr, tu, on⟩ := st_Int (vs := [.bool (decide (pz ((rp n (48 + d) false)) < 0)), .slice ad8 n8 c8]) o10 rfl rfl (ocB (ocS oc0)) (niB (niS ni0)) (o := 0) rfl
        have kp := tu.keep o10
        refine E.st hF (r_store (hF.at 0 rfl) (hF.at 2 rfl) (hr _ rfl)) rfl rfl fun a hF => ?_
        clear hr
        replace hh7 := hh7.keep kp
        replace bel := tu.below bel ge10
        clear tu kp
        replace o10 := on
        clear on
        have hf11 := Wc.abs hh7
        refine E.opv hF (r_assign (hF.at 1 rfl)) rfl rfl rfl rfl fun a hF => ?_
        refine E.nil ?_
        refine wp_seq ?_
        refine wp_block ?_
        refine wp_seq ?_
        refine E.seq ?_
        refine E.opv hF (r_move (hF.at 10 rfl)) rfl rfl rfl rfl fun a hF => ?_
        by_cases hc12 : ((n : Nat) : Int) = 0
        · first
          | (exfalso; omega)
          | (refine E.opv hF (r_bin (hF.at 0 rfl) ev_c eg_scalar (bi_int (ic_eql (c := true) (dec_tt hc12)) (by simp))) rfl rfl rfl rfl fun a hF => ?_
             refine E.opv hF (r_assign (hF.at 0 rfl)) rfl rfl rfl rfl fun a hF => ?_
             refine E.nil ?_
             refine wp_cond_true (hF.at 0 rfl) ?_
             refine wp_seq ?_
             refine E.seq ?_
             refine E.opv hF (r_move (hF.at 3 rfl)) rfl rfl rfl rfl fun a hF => ?_
             by_cases hc13 : pe ((rp n (48 + d) false)) = 1
             · first
               | (exfalso; omega)
               | (refine E.opv hF (r_bin (hF.at 0 rfl) ev_c eg_scalar (bi_int (ic_eql (c := true) (dec_tt hc13)) (by simp))) rfl rfl rfl rfl fun a hF => ?_
                  refine E.opv hF (r_move (hF.at 0 rfl)) rfl rfl rfl rfl fun a hF => ?_
                  refine E.opvg hF (r_load (hF.at 7 rfl) (ld_Int (vs := [.bool (decide (pz ((rp n (48 + d) false)) < 0)), .slice ad8 n8 c8]) o10 rfl rfl)) (wanted_by rfl rfl (hF.at 0 rfl) rfl) rfl rfl rfl fun a hF => ?_
                  refine E.callg hF (r_call Try.func26 en26.1 en26.2 (map1 (hF.at 0 rfl))) (whSign_any _ _ _ (Wc.wz hh7)) (wanted_by rfl rfl (hF.at 1 rfl) rfl) rfl rfl rfl ?_
                  rintro e w14 ⟨rfl, bb⟩
                  refine ⟨_, rfl, ?_⟩
                  intro a hF
                  replace hf11 := hf11.below bb
                  replace hh7 := hh7.below bb
                  replace o10 := o10.below bb
                  replace bel := below_to bel bb
                  clear bb
                  by_cases hc15 : sz (pz ((rp n (48 + d) false))) = 0
                  · first
                    | (exfalso; omega)
                    | (refine E.opvg hF (r_bin (hF.at 0 rfl) ev_c eg_scalar (bi_int (ic_eql (c := true) (dec_tt hc15)) (by simp))) (wanted_by rfl rfl (hF.at 2 rfl) rfl) rfl rfl rfl fun a hF => ?_
                       refine E.opv hF (r_pick_t (hF.at 3 rfl) (hF.at 0 rfl)) rfl rfl rfl rfl fun a hF => ?_
                       refine E.opset (L' := [(6, .bool true), (53, .bool true), (52, .bool true), (51, .int .i64 (sz (pz ((rp n (48 + d) false))))), (50, .agg #[.bool (decide (pz ((rp n (48 + d) false)) < 0)), .slice ad8 n8 c8]), (49, .bool true), (48, .bool true), (47, .int .i64 (pe ((rp n (48 + d) false)))), (44, .bool true), (46, .bool true), (45, .int .i64 ((n : Nat) : Int)), (11, .int .i64 (pe ((rp n (48 + d) false)))), (10, .pointer (some ⟨g10, 0, none⟩)), (43, .int .i64 (pe ((rp n (48 + d) false)))), (42, .agg #[.bool (decide (pz ((rp n (48 + d) false)) < 0)), .slice ad8 n8 c8]), (39, .tuple #[.agg #[.bool (decide (pz ((rp n (48 + d) false)) < 0)), .slice ad8 n8 c8], .int .i64 (pe ((rp n (48 + d) false)))]), (41, .tuple #[.agg #[.bool (decide (pz ((rp n (48 + d) false)) < 0)), .slice ad8 n8 c8], .int .i64 (pe ((rp n (48 + d) false)))]), (40, .string (bstr (rp n (48 + d) false))), (36, .bool false), (9, .string (bstr (rp n (48 + d) false))), (1, .int .i64 ((d : Nat) : Int)), (0, .int .i64 ((n : Nat) : Int)), (2, .bool false)]) hF (r_assign (hF.at 0 rfl)) rfl rfl rfl rfl fun a hF => ?_
                       refine E.nil ?_
                       refine wp_ret ?_
                       refine bodyPost_ret (res_tmp Try.results6 (hF.at 0 rfl)) hF.dfr ?_
                       exact ⟨rfl, bel⟩)
                  · first
                    | (exfalso; omega)
                    | (refine E.opvg hF (r_bin (hF.at 0 rfl) ev_c eg_scalar (bi_int (ic_eql (c := false) (dec_ff hc15)) (by simp))) (wanted_by rfl rfl (hF.at 2 rfl) rfl) rfl rfl rfl fun a hF => ?_
                       refine E.opv hF (r_pick_t (hF.at 3 rfl) (hF.at 0 rfl)) rfl rfl rfl rfl fun a hF => ?_
                       refine E.opset (L' := [(6, .bool false), (53, .bool false), (52, .bool false), (51, .int .i64 (sz (pz ((rp n (48 + d) false))))), (50, .agg #[.bool (decide (pz ((rp n (48 + d) false)) < 0)), .slice ad8 n8 c8]), (49, .bool true), (48, .bool true), (47, .int .i64 (pe ((rp n (48 + d) false)))), (44, .bool true), (46, .bool true), (45, .int .i64 ((n : Nat) : Int)), (11, .int .i64 (pe ((rp n (48 + d) false)))), (10, .pointer (some ⟨g10, 0, none⟩)), (43, .int .i64 (pe ((rp n (48 + d) false)))), (42, .agg #[.bool (decide (pz ((rp n (48 + d) false)) < 0)), .slice ad8 n8 c8]), (39, .tuple #[.agg #[.bool (decide (pz ((rp n (48 + d) false)) < 0)), .slice ad8 n8 c8], .int .i64 (pe ((rp n (48 + d) false)))]), (41, .tuple #[.agg #[.bool (decide (pz ((rp n (48 + d) false)) < 0)), .slice ad8 n8 c8], .int .i64 (pe ((rp n (48 + d) false)))]), (40, .string (bstr (rp n (48 + d) false))), (36, .bool false), (9, .string (bstr (rp n (48 + d) false))), (1, .int .i64 ((d : Nat) : Int)), (0, .int .i64 ((n : Nat) : Int)), (2, .bool false)]) hF (r_assign (hF.at 0 rfl)) rfl rfl rfl rfl fun a hF => ?_
                       refine E.nil ?_
                       refine wp_ret ?_
                       refine bodyPost_ret (res_tmp Try.results6 (hF.at 0 rfl)) hF.dfr ?_
                       exfalso; omega))
             · first
               | (exfalso; omega)
               | (refine E.opv hF (r_bin (hF.at 0 rfl) ev_c eg_scalar (bi_int (ic_eql (c := false) (dec_ff hc13)) (by simp))) rfl rfl rfl rfl fun a hF => ?_
                  refine E.opv hF (r_move (hF.at 0 rfl)) rfl rfl rfl rfl fun a hF => ?_
                  refine E.unwanted hF (wanted_by rfl rfl (hF.at 0 rfl) rfl) rfl rfl rfl fun a hF => ?_
                  refine E.unwanted hF (wanted_by rfl rfl (hF.at 1 rfl) rfl) rfl rfl rfl fun a hF => ?_
                  refine E.unwanted hF (wanted_by rfl rfl (hF.at 2 rfl) rfl) rfl rfl rfl fun a hF => ?_
                  refine E.opv hF (r_pick_f (hF.at 3 rfl) ev_c) rfl rfl rfl rfl fun a hF => ?_
                  refine E.opset (L' := [(6, .bool false), (53, .bool false), (52, undef), (51, undef), (50, undef), (49, .bool false), (48, .bool false), (47, .int .i64 (pe ((rp n (48 + d) false)))), (44, .bool true), (46, .bool true), (45, .int .i64 ((n : Nat) : Int)), (11, .int .i64 (pe ((rp n (48 + d) false)))), (10, .pointer (some ⟨g10, 0, none⟩)), (43, .int .i64 (pe ((rp n (48 + d) false)))), (42, .agg #[.bool (decide (pz ((rp n (48 + d) false)) < 0)), .slice ad8 n8 c8]), (39, .tuple #[.agg #[.bool (decide (pz ((rp n (48 + d) false)) < 0)), .slice ad8 n8 c8], .int .i64 (pe ((rp n (48 + d) false)))]), (41, .tuple #[.agg #[.bool (decide (pz ((rp n (48 + d) false)) < 0)), .slice ad8 n8 c8], .int .i64 (pe ((rp n (48 + d) false)))]), (40, .string (bstr (rp n (48 + d) false))), (36, .bool false), (9, .string (bstr (rp n (48 + d) false))), (1, .int .i64 ((d : Nat) : Int)), (0, .int .i64 ((n : Nat) : Int)), (2, .bool false)]) hF (r_assign (hF.at 0 rfl)) rfl rfl rfl rfl fun a hF => ?_
                  refine E.nil ?_
                  refine wp_ret ?_
                  refine bodyPost_ret (res_tmp Try.results6 (hF.at 0 rfl)) hF.dfr ?_
                  exfalso; omega))
        · first
          | (exfalso; omega)
          | (refine E.opv hF (r_bin (hF.at 0 rfl) ev_c eg_scalar (bi_int (ic_eql (c := false) (dec_ff hc12)) (by simp))) rfl rfl rfl rfl fun a hF => ?_
             refine E.opv hF (r_assign (hF.at 0 rfl)) rfl rfl rfl rfl fun a hF => ?_
             refine E.nil ?_
             refine wp_cond_false (hF.at 0 rfl) ?_
             refine wp_seq ?_
             refine E.seq ?_
             refine E.opv hF (r_move (hF.at 13 rfl)) rfl rfl rfl rfl fun a hF => ?_
             by_cases hc16 : 1000 < ((n : Nat) : Int)
             · first
               | (exfalso; omega)
               | (refine E.opv hF (r_bin (hF.at 0 rfl) ev_c eg_scalar (bi_int (ic_gtr (c := true) (dec_tt hc16)) (by simp))) rfl rfl rfl rfl fun a hF => ?_
                  refine E.opv hF (r_assign (hF.at 0 rfl)) rfl rfl rfl rfl fun a hF => ?_
                  refine E.nil ?_
                  refine wp_cond_true (hF.at 0 rfl) ?_
                  refine wp_seq ?_
                  refine E.seq ?_
                  refine E.opv hF (r_move (hF.at 6 rfl)) rfl rfl rfl rfl fun a hF => ?_
                  by_cases hc17 : pe ((rp n (48 + d) false)) = 5
                  · first
                    | (exfalso; omega)
                    | (refine E.opv hF (r_bin (hF.at 0 rfl) ev_c eg_scalar (bi_int (ic_eql (c := true) (dec_tt hc17)) (by simp))) rfl rfl rfl rfl fun a hF => ?_
                       refine E.opv hF (r_move (hF.at 0 rfl)) rfl rfl rfl rfl fun a hF => ?_
                       refine E.opvg hF (r_load (hF.at 10 rfl) (ld_Int (vs := [.bool (decide (pz ((rp n (48 + d) false)) < 0)), .slice ad8 n8 c8]) o10 rfl rfl)) (wanted_by rfl rfl (hF.at 0 rfl) rfl) rfl rfl rfl fun a hF => ?_
                       refine E.callg hF (r_call Try.func26 en26.1 en26.2 (map1 (hF.at 0 rfl))) (whSign_any _ _ _ (Wc.wz hh7)) (wanted_by rfl rfl (hF.at 1 rfl) rfl) rfl rfl rfl ?_
                       rintro e w18 ⟨rfl, bb⟩
                       refine ⟨_, rfl, ?_⟩
                       intro a hF
                       replace hf11 := hf11.below bb
                       replace hh7 := hh7.below bb
                       replace o10 := o10.below bb
                       replace bel := below_to bel bb
                       clear bb
                       by_cases hc19 : sz (pz ((rp n (48 + d) false))) = 0
                       · first
                         | (exfalso; omega)
                         | (refine E.opvg hF (r_bin (hF.at 0 rfl) ev_c eg_scalar (bi_int (ic_eql (c := true) (dec_tt hc19)) (by simp))) (wanted_by rfl rfl (hF.at 2 rfl) rfl) rfl rfl rfl fun a hF => ?_
                            refine E.opv hF (r_pick_t (hF.at 3 rfl) (hF.at 0 rfl)) rfl rfl rfl rfl fun a hF => ?_
                            refine E.opset (L' := [(6, .bool true), (63, .bool true), (62, .bool true), (61, .int .i64 (sz (pz ((rp n (48 + d) false))))), (60, .agg #[.bool (decide (pz ((rp n (48 + d) false)) < 0)), .slice ad8 n8 c8]), (59, .bool true), (58, .bool true), (57, .int .i64 (pe ((rp n (48 + d) false)))), (54, .bool true), (56, .bool true), (55, .int .i64 ((n : Nat) : Int)), (44, .bool false), (46, .bool false), (45, .int .i64 ((n : Nat) : Int)), (11, .int .i64 (pe ((rp n (48 + d) false)))), (10, .pointer (some ⟨g10, 0, none⟩)), (43, .int .i64 (pe ((rp n (48 + d) false)))), (42, .agg #[.bool (decide (pz ((rp n (48 + d) false)) < 0)), .slice ad8 n8 c8]), (39, .tuple #[.agg #[.bool (decide (pz ((rp n (48 + d) false)) < 0)), .slice ad8 n8 c8], .int .i64 (pe ((rp n (48 + d) false)))]), (41, .tuple #[.agg #[.bool (decide (pz ((rp n (48 + d) false)) < 0)), .slice ad8 n8 c8], .int .i64 (pe ((rp n (48 + d) false)))]), (40, .string (bstr (rp n (48 + d) false))), (36, .bool false), (9, .string (bstr (rp n (48 + d) false))), (1, .int .i64 ((d : Nat) : Int)), (0, .int .i64 ((n : Nat) : Int)), (2, .bool false)]) hF (r_assign (hF.at 0 rfl)) rfl rfl rfl rfl fun a hF => ?_
                            refine E.nil ?_
                            refine wp_ret ?_
                            refine bodyPost_ret (res_tmp Try.results6 (hF.at 0 rfl)) hF.dfr ?_
                            exact ⟨rfl, bel⟩)
                       · first
                         | (exfalso; omega)
                         | (refine E.opvg hF (r_bin (hF.at 0 rfl) ev_c eg_scalar (bi_int (ic_eql (c := false) (dec_ff hc19)) (by simp))) (wanted_by rfl rfl (hF.at 2 rfl) rfl) rfl rfl rfl fun a hF => ?_
                            refine E.opv hF (r_pick_t (hF.at 3 rfl) (hF.at 0 rfl)) rfl rfl rfl rfl fun a hF => ?_
                            refine E.opset (L' := [(6, .bool false), (63, .bool false), (62, .bool false), (61, .int .i64 (sz (pz ((rp n (48 + d) false))))), (60, .agg #[.bool (decide (pz ((rp n (48 + d) false)) < 0)), .slice ad8 n8 c8]), (59, .bool true), (58, .bool true), (57, .int .i64 (pe ((rp n (48 + d) false)))), (54, .bool true), (56, .bool true), (55, .int .i64 ((n : Nat) : Int)), (44, .bool false), (46, .bool false), (45, .int .i64 ((n : Nat) : Int)), (11, .int .i64 (pe ((rp n (48 + d) false)))), (10, .pointer (some ⟨g10, 0, none⟩)), (43, .int .i64 (pe ((rp n (48 + d) false)))), (42, .agg #[.bool (decide (pz ((rp n (48 + d) false)) < 0)), .slice ad8 n8 c8]), (39, .tuple #[.agg #[.bool (decide (pz ((rp n (48 + d) false)) < 0)), .slice ad8 n8 c8], .int .i64 (pe ((rp n (48 + d) false)))]), (41, .tuple #[.agg #[.bool (decide (pz ((rp n (48 + d) false)) < 0)), .slice ad8 n8 c8], .int .i64 (pe ((rp n (48 + d) false)))]), (40, .string (bstr (rp n (48 + d) false))), (36, .bool false), (9, .string (bstr (rp n (48 + d) false))), (1, .int .i64 ((d : Nat) : Int)), (0, .int .i64 ((n : Nat) : Int)), (2, .bool false)]) hF (r_assign (hF.at 0 rfl)) rfl rfl rfl rfl fun a hF => ?_
                            refine E.nil ?_
                            refine wp_ret ?_
                            refine bodyPost_ret (res_tmp Try.results6 (hF.at 0 rfl)) hF.dfr ?_
                            exfalso; omega))
                  · first
                    | (exfalso; omega)
                    | (refine E.opv hF (r_bin (hF.at 0 rfl) ev_c eg_scalar (bi_int (ic_eql (c := false) (dec_ff hc17)) (by simp))) rfl rfl rfl rfl fun a hF => ?_
                       refine E.opv hF (r_move (hF.at 0 rfl)) rfl rfl rfl rfl fun a hF => ?_
                       refine E.unwanted hF (wanted_by rfl rfl (hF.at 0 rfl) rfl) rfl rfl rfl fun a hF => ?_
                       refine E.unwanted hF (wanted_by rfl rfl (hF.at 1 rfl) rfl) rfl rfl rfl fun a hF => ?_
                       refine E.unwanted hF (wanted_by rfl rfl (hF.at 2 rfl) rfl) rfl rfl rfl fun a hF => ?_
                       refine E.opv hF (r_pick_f (hF.at 3 rfl) ev_c) rfl rfl rfl rfl fun a hF => ?_
                       refine E.opset (L' := [(6, .bool false), (63, .bool false), (62, undef), (61, undef), (60, undef), (59, .bool false), (58, .bool false), (57, .int .i64 (pe ((rp n (48 + d) false)))), (54, .bool true), (56, .bool true), (55, .int .i64 ((n : Nat) : Int)), (44, .bool false), (46, .bool false), (45, .int .i64 ((n : Nat) : Int)), (11, .int .i64 (pe ((rp n (48 + d) false)))), (10, .pointer (some ⟨g10, 0, none⟩)), (43, .int .i64 (pe ((rp n (48 + d) false)))), (42, .agg #[.bool (decide (pz ((rp n (48 + d) false)) < 0)), .slice ad8 n8 c8]), (39, .tuple #[.agg #[.bool (decide (pz ((rp n (48 + d) false)) < 0)), .slice ad8 n8 c8], .int .i64 (pe ((rp n (48 + d) false)))]), (41, .tuple #[.agg #[.bool (decide (pz ((rp n (48 + d) false)) < 0)), .slice ad8 n8 c8], .int .i64 (pe ((rp n (48 + d) false)))]), (40, .string (bstr (rp n (48 + d) false))), (36, .bool false), (9, .string (bstr (rp n (48 + d) false))), (1, .int .i64 ((d : Nat) : Int)), (0, .int .i64 ((n : Nat) : Int)), (2, .bool false)]) hF (r_assign (hF.at 0 rfl)) rfl rfl rfl rfl fun a hF => ?_
                       refine E.nil ?_
                       refine wp_ret ?_
                       refine bodyPost_ret (res_tmp Try.results6 (hF.at 0 rfl)) hF.dfr ?_
                       exfalso; omega))
             · first
               | (exfalso; omega)
               | (refine E.opv hF (r_bin (hF.at 0 rfl) ev_c eg_scalar (bi_int (ic_gtr (c := false) (dec_ff hc16)) (by simp))) rfl rfl rfl rfl fun a hF => ?_
                  refine E.opv hF (r_assign (hF.at 0 rfl)) rfl rfl rfl rfl fun a hF => ?_
                  refine E.nil ?_
                  refine wp_cond_false (hF.at 0 rfl) ?_
                  refine wp_skip ?_
                  refine E.blk ?_
                  refine E.norm ?_
                  refine wp_seq ?_
                  refine E.seq ?_
                  refine E.opv hF (r_move (hF.at 6 rfl)) rfl rfl rfl rfl fun a hF => ?_
                  by_cases hc20 : pe ((rp n (48 + d) false)) = 0
                  · first
                    | (exfalso; omega)
                    | (refine E.opv hF (r_bin (hF.at 0 rfl) ev_c eg_scalar (bi_int (ic_eql (c := true) (dec_tt hc20)) (by simp))) rfl rfl rfl rfl fun a hF => ?_
                       refine E.opv hF (r_move (hF.at 0 rfl)) rfl rfl rfl rfl fun a hF => ?_
                       refine E.opvg hF (r_load (hF.at 10 rfl) (ld_Int (vs := [.bool (decide (pz ((rp n (48 + d) false)) < 0)), .slice ad8 n8 c8]) o10 rfl rfl)) (wanted_by rfl rfl (hF.at 0 rfl) rfl) rfl rfl rfl fun a hF => ?_
                       refine E.callg hF (r_call Try.func26 en26.1 en26.2 (map1 (hF.at 0 rfl))) (whSign_any _ _ _ (Wc.wz hh7)) (wanted_by rfl rfl (hF.at 1 rfl) rfl) rfl rfl rfl ?_
                       rintro e w21 ⟨rfl, bb⟩
                       refine ⟨_, rfl, ?_⟩
                       intro a hF
                       replace hf11 := hf11.below bb
                       replace hh7 := hh7.below bb
                       replace o10 := o10.below bb
                       replace bel := below_to bel bb
                       clear bb
                       by_cases hc22 : sz (pz ((rp n (48 + d) false))) < 0
                       · first
                         | (exfalso; omega)
                         | (refine E.opvg hF (r_bin (hF.at 0 rfl) ev_c eg_scalar (bi_int (ic_lss (c := true) (dec_tt hc22)) (by simp))) (wanted_by rfl rfl (hF.at 2 rfl) rfl) rfl rfl rfl fun a hF => ?_
                            refine E.opvg hF (r_move (hF.at 24 rfl)) (wanted_by rfl rfl (hF.at 3 rfl) rfl) rfl rfl rfl fun a hF => ?_
                            refine E.opvg hF (r_bin (hF.at 1 rfl) (hF.at 0 rfl) eg_bool (bb_eql (d := false) rfl)) (wanted_by rfl rfl (hF.at 4 rfl) rfl) rfl rfl rfl fun a hF => ?_
                            refine E.opv hF (r_pick_t (hF.at 5 rfl) (hF.at 0 rfl)) rfl rfl rfl rfl fun a hF => ?_
                            refine E.opv hF (r_move (hF.at 0 rfl)) rfl rfl rfl rfl fun a hF => ?_
                            refine E.unwanted hF (wanted_by rfl rfl (hF.at 0 rfl) rfl) rfl rfl rfl fun a hF => ?_
                            refine E.unwanted hF (wanted_by rfl rfl (hF.at 1 rfl) rfl) rfl rfl rfl fun a hF => ?_
                            refine E.unwanted hF (wanted_by rfl rfl (hF.at 2 rfl) rfl) rfl rfl rfl fun a hF => ?_
                            refine E.unwanted hF (wanted_by rfl rfl (hF.at 3 rfl) rfl) rfl rfl rfl fun a hF => ?_
                            refine E.opv hF (r_pick_f (hF.at 4 rfl) ev_c) rfl rfl rfl rfl fun a hF => ?_
                            refine E.opset (L' := [(6, .bool false), (78, .bool false), (77, undef), (76, undef), (75, undef), (74, undef), (73, .bool false), (72, .bool false), (71, .bool false), (70, .bool false), (69, .bool true), (68, .int .i64 (sz (pz ((rp n (48 + d) false))))), (67, .agg #[.bool (decide (pz ((rp n (48 + d) false)) < 0)), .slice ad8 n8 c8]), (66, .bool true), (65, .bool true), (64, .int .i64 (pe ((rp n (48 + d) false)))), (54, .bool false), (56, .bool false), (55, .int .i64 ((n : Nat) : Int)), (44, .bool false), (46, .bool false), (45, .int .i64 ((n : Nat) : Int)), (11, .int .i64 (pe ((rp n (48 + d) false)))), (10, .pointer (some ⟨g10, 0, none⟩)), (43, .int .i64 (pe ((rp n (48 + d) false)))), (42, .agg #[.bool (decide (pz ((rp n (48 + d) false)) < 0)), .slice ad8 n8 c8]), (39, .tuple #[.agg #[.bool (decide (pz ((rp n (48 + d) false)) < 0)), .slice ad8 n8 c8], .int .i64 (pe ((rp n (48 + d) false)))]), (41, .tuple #[.agg #[.bool (decide (pz ((rp n (48 + d) false)) < 0)), .slice ad8 n8 c8], .int .i64 (pe ((rp n (48 + d) false)))]), (40, .string (bstr (rp n (48 + d) false))), (36, .bool false), (9, .string (bstr (rp n (48 + d) false))), (1, .int .i64 ((d : Nat) : Int)), (0, .int .i64 ((n : Nat) : Int)), (2, .bool false)]) hF (r_assign (hF.at 0 rfl)) rfl rfl rfl rfl fun a hF => ?_
                            refine E.nil ?_
                            refine wp_ret ?_
                            refine bodyPost_ret (res_tmp Try.results6 (hF.at 0 rfl)) hF.dfr ?_
                            exfalso; omega)
                       · first
                         | (exfalso; omega)
                         | (refine E.opvg hF (r_bin (hF.at 0 rfl) ev_c eg_scalar (bi_int (ic_lss (c := false) (dec_ff hc22)) (by simp))) (wanted_by rfl rfl (hF.at 2 rfl) rfl) rfl rfl rfl fun a hF => ?_
                            refine E.opvg hF (r_move (hF.at 24 rfl)) (wanted_by rfl rfl (hF.at 3 rfl) rfl) rfl rfl rfl fun a hF => ?_
                            refine E.opvg hF (r_bin (hF.at 1 rfl) (hF.at 0 rfl) eg_bool (bb_eql (d := true) rfl)) (wanted_by rfl rfl (hF.at 4 rfl) rfl) rfl rfl rfl fun a hF => ?_
                            refine E.opv hF (r_pick_t (hF.at 5 rfl) (hF.at 0 rfl)) rfl rfl rfl rfl fun a hF => ?_
                            refine E.opv hF (r_move (hF.at 0 rfl)) rfl rfl rfl rfl fun a hF => ?_
                            refine E.opvg hF (r_load (hF.at 17 rfl) (ld_Int (vs := [.bool (decide (pz ((rp n (48 + d) false)) < 0)), .slice ad8 n8 c8]) o10 rfl rfl)) (wanted_by rfl rfl (hF.at 0 rfl) rfl) rfl rfl rfl fun a hF => ?_
                            refine E.callg hF (r_call Try.func18 en18.1 en18.2 (map1 (hF.at 0 rfl))) (dtext_any _ (pz ((rp n (48 + d) false))) (32 * 106) _ hh7 (lim_pow (pz_lim ((rp n (48 + d) false)))) (by omega)) (wanted_by rfl rfl (hF.at 1 rfl) rfl) rfl rfl rfl ?_
                            rintro e w23 ⟨rfl, bb⟩
                            refine ⟨_, rfl, ?_⟩
                            intro a hF
                            replace bel := below_to bel bb
                            clear bb
                            refine E.opvg hF (r_move (hF.at 26 rfl)) (wanted_by rfl rfl (hF.at 2 rfl) rfl) rfl rfl rfl fun a hF => ?_
                            refine E.opvg hF (r_bin (hF.at 1 rfl) (hF.at 0 rfl) eg_str (sb_eq (xs := tx (pz ((rp n (48 + d) false)))) (ys := (rp n (48 + d) false)) (streq_t (tx_pz (by omega))))) (wanted_by rfl rfl (hF.at 3 rfl) rfl) rfl rfl rfl fun a hF => ?_
                            refine E.opv hF (r_pick_t (hF.at 4 rfl) (hF.at 0 rfl)) rfl rfl rfl rfl fun a hF => ?_
                            refine E.opset (L' := [(6, .bool true), (78, .bool true), (77, .bool true), (76, .string (bstr (rp n (48 + d) false))), (75, .string (bstr (tx (pz ((rp n (48 + d) false)))))), (74, .agg #[.bool (decide (pz ((rp n (48 + d) false)) < 0)), .slice ad8 n8 c8]), (73, .bool true), (72, .bool true), (71, .bool true), (70, .bool false), (69, .bool false), (68, .int .i64 (sz (pz ((rp n (48 + d) false))))), (67, .agg #[.bool (decide (pz ((rp n (48 + d) false)) < 0)), .slice ad8 n8 c8]), (66, .bool true), (65, .bool true), (64, .int .i64 (pe ((rp n (48 + d) false)))), (54, .bool false), (56, .bool false), (55, .int .i64 ((n : Nat) : Int)), (44, .bool false), (46, .bool false), (45, .int .i64 ((n : Nat) : Int)), (11, .int .i64 (pe ((rp n (48 + d) false)))), (10, .pointer (some ⟨g10, 0, none⟩)), (43, .int .i64 (pe ((rp n (48 + d) false)))), (42, .agg #[.bool (decide (pz ((rp n (48 + d) false)) < 0)), .slice ad8 n8 c8]), (39, .tuple #[.agg #[.bool (decide (pz ((rp n (48 + d) false)) < 0)), .slice ad8 n8 c8], .int .i64 (pe ((rp n (48 + d) false)))]), (41, .tuple #[.agg #[.bool (decide (pz ((rp n (48 + d) false)) < 0)), .slice ad8 n8 c8], .int .i64 (pe ((rp n (48 + d) false)))]), (40, .string (bstr (rp n (48 + d) false))), (36, .bool false), (9, .string (bstr (rp n (48 + d) false))), (1, .int .i64 ((d : Nat) : Int)), (0, .int .i64 ((n : Nat) : Int)), (2, .bool false)]) hF (r_assign (hF.at 0 rfl)) rfl rfl rfl rfl fun a hF => ?_
                            refine E.nil ?_
                            refine wp_ret ?_
                            refine bodyPost_ret (res_tmp Try.results6 (hF.at 0 rfl)) hF.dfr ?_
                            exact ⟨rfl, bel⟩))
                  · first
                    | (exfalso; omega)
                    | (refine E.opv hF (r_bin (hF.at 0 rfl) ev_c eg_scalar (bi_int (ic_eql (c := false) (dec_ff hc20)) (by simp))) rfl rfl rfl rfl fun a hF => ?_
                       refine E.opv hF (r_move (hF.at 0 rfl)) rfl rfl rfl rfl fun a hF => ?_
                       refine E.unwanted hF (wanted_by rfl rfl (hF.at 0 rfl) rfl) rfl rfl rfl fun a hF => ?_
                       refine E.unwanted hF (wanted_by rfl rfl (hF.at 1 rfl) rfl) rfl rfl rfl fun a hF => ?_
                       refine E.unwanted hF (wanted_by rfl rfl (hF.at 2 rfl) rfl) rfl rfl rfl fun a hF => ?_
                       refine E.unwanted hF (wanted_by rfl rfl (hF.at 3 rfl) rfl) rfl rfl rfl fun a hF => ?_
                       refine E.unwanted hF (wanted_by rfl rfl (hF.at 4 rfl) rfl) rfl rfl rfl fun a hF => ?_
                       refine E.opv hF (r_pick_f (hF.at 5 rfl) ev_c) rfl rfl rfl rfl fun a hF => ?_
                       refine E.opv hF (r_move (hF.at 0 rfl)) rfl rfl rfl rfl fun a hF => ?_
                       refine E.unwanted hF (wanted_by rfl rfl (hF.at 0 rfl) rfl) rfl rfl rfl fun a hF => ?_
                       refine E.unwanted hF (wanted_by rfl rfl (hF.at 1 rfl) rfl) rfl rfl rfl fun a hF => ?_
                       refine E.unwanted hF (wanted_by rfl rfl (hF.at 2 rfl) rfl) rfl rfl rfl fun a hF => ?_
                       refine E.unwanted hF (wanted_by rfl rfl (hF.at 3 rfl) rfl) rfl rfl rfl fun a hF => ?_
                       refine E.opv hF (r_pick_f (hF.at 4 rfl) ev_c) rfl rfl rfl rfl fun a hF => ?_
                       refine E.opset (L' := [(6, .bool false), (78, .bool false), (77, undef), (76, undef), (75, undef), (74, undef), (73, .bool false), (72, .bool false), (71, undef), (70, undef), (69, undef), (68, undef), (67, undef), (66, .bool false), (65, .bool false), (64, .int .i64 (pe ((rp n (48 + d) false)))), (54, .bool false), (56, .bool false), (55, .int .i64 ((n : Nat) : Int)), (44, .bool false), (46, .bool false), (45, .int .i64 ((n : Nat) : Int)), (11, .int .i64 (pe ((rp n (48 + d) false)))), (10, .pointer (some ⟨g10, 0, none⟩)), (43, .int .i64 (pe ((rp n (48 + d) false)))), (42, .agg #[.bool (decide (pz ((rp n (48 + d) false)) < 0)), .slice ad8 n8 c8]), (39, .tuple #[.agg #[.bool (decide (pz ((rp n (48 + d) false)) < 0)), .slice ad8 n8 c8], .int .i64 (pe ((rp n (48 + d) false)))]), (41, .tuple #[.agg #[.bool (decide (pz ((rp n (48 + d) false)) < 0)), .slice ad8 n8 c8], .int .i64 (pe ((rp n (48 + d) false)))]), (40, .string (bstr (rp n (48 + d) false))), (36, .bool false), (9, .string (bstr (rp n (48 + d) false))), (1, .int .i64 ((d : Nat) : Int)), (0, .int .i64 ((n : Nat) : Int)), (2, .bool false)]) hF (r_assign (hF.at 0 rfl)) rfl rfl rfl rfl fun a hF => ?_
                       refine E.nil ?_
                       refine wp_ret ?_
                       refine bodyPost_ret (res_tmp Try.results6 (hF.at 0 rfl)) hF.dfr ?_
                       exfalso; omega)))
  · have bel : Below w.heap.size w w := Below.refl _ _
    refine E.enter (nt := 79) (L := [(0, .int .i64 x), (1, .int .i64 y), (2, .bool true)]) Try.func6 rfl rfl rfl (args_cons (i := 0) rfl (args_cons (i := 1) rfl (args_cons (i := 2) rfl args_nil))) ?_
    intro a hF
    refine wp_seq ?_
    refine E.seq ?_
    refine E.opv hF (r_assign ev_c) rfl rfl rfl rfl fun a hF => ?_
    refine E.nil ?_
    refine wp_seq ?_
    refine wp_seq ?_
    refine E.seq ?_
    refine E.call hF (r_call Try.func15 en15.1 en15.2 map0) (awake4_any _) rfl rfl rfl rfl ?_
    rintro e w1 ⟨rfl, bb⟩
    refine ⟨_, rfl, ?_⟩
    intro a hF
    replace bel := below_to bel bb
    clear bb
    refine E.opv hF (r_un (hF.at 0 rfl) (bn_not _ false rfl)) rfl rfl rfl rfl fun a hF => ?_
    refine E.nil ?_
    refine wp_cond_false (hF.at 0 rfl) ?_
    refine wp_skip ?_
    refine E.norm ?_
    refine wp_seq ?_
    refine E.seq ?_
    refine E.opv hF (r_move (hF.at 3 rfl)) rfl rfl rfl rfl fun a hF => ?_
    refine E.opv hF (r_bin (hF.at 0 rfl) ev_c eg_scalar (id_and (n := 11) (by decide) (d := 2048) (by decide) (by decide))) rfl rfl rfl rfl fun a hF => ?_
    refine E.opv hF (r_move (hF.at 6 rfl)) rfl rfl rfl rfl fun a hF => ?_
    refine E.opv hF (r_bin (hF.at 0 rfl) ev_c eg_scalar (id_and (n := 8) (by decide) (d := 256) (by decide) (by decide))) rfl rfl rfl rfl fun a hF => ?_
    refine E.opv hF (r_bin (hF.at 0 rfl) ev_c eg_scalar (id_rem (a := y % 256) (b := 9) (by omega))) rfl rfl rfl rfl fun a hF => ?_
    refine E.opv hF (r_bin ev_c (hF.at 0 rfl) eg_scalar (ia_add (by omega) (by omega))) rfl rfl rfl rfl fun a hF => ?_
    refine E.opset (L' := [(0, .int .i64 (x % 2048)), (19, .int .i64 (1 + (if 0 ≤ y % 256 then (y % 256) % 9 else -(-(y % 256) % 9)))), (18, .int .i64 (if 0 ≤ y % 256 then (y % 256) % 9 else -(-(y % 256) % 9))), (17, .int .i64 (y % 256)), (16, .int .i64 y), (15, .int .i64 (x % 2048)), (14, .int .i64 x), (13, .bool false), (12, .bool true), (6, .bool false), (1, .int .i64 y), (2, .bool true)]) hF (r_assign (hF.at 4 rfl)) rfl rfl rfl rfl fun a hF => ?_
    refine E.opset (L' := [(1, .int .i64 (1 + (if 0 ≤ y % 256 then (y % 256) % 9 else -(-(y % 256) % 9)))), (0, .int .i64 (x % 2048)), (19, .int .i64 (1 + (if 0 ≤ y % 256 then (y % 256) % 9 else -(-(y % 256) % 9)))), (18, .int .i64 (if 0 ≤ y % 256 then (y % 256) % 9 else -(-(y % 256) % 9))), (17, .int .i64 (y % 256)), (16, .int .i64 y), (15, .int .i64 (x % 2048)), (14, .int .i64 x), (13, .bool false), (12, .bool true), (6, .bool false), (2, .bool true)]) hF (r_assign (hF.at 1 rfl)) rfl rfl rfl rfl fun a hF => ?_
    obtain ⟨n, hn⟩ : ∃ n : Nat, ((n : Nat) : Int) = x % 2048 := ⟨(x % 2048).toNat, by omega⟩
    obtain ⟨d, hd⟩ : ∃ d : Nat, ((d : Nat) : Int) = 1 + (if 0 ≤ y % 256 then (y % 256) % 9 else -(-(y % 256) % 9)) := ⟨(1 + (if 0 ≤ y % 256 then (y % 256) % 9 else -(-(y % 256) % 9))).toNat, by omega⟩
    have hn1 : n ≤ 2047 := by omega
    have hd1 : 1 ≤ d := by omega
    have hd2 : d ≤ 9 := by omega
    replace hF : Fr 79 a [(1, .int .i64 ((d : Nat) : Int)), (0, .int .i64 ((n : Nat) : Int)), (6, .bool false), (2, .bool true)] := by rw [hn, hd]; exact Fr.sub hF (by intro p hp; simp only [List.mem_cons, List.not_mem_nil, or_false] at hp ⊢; rcases hp with rfl | rfl | rfl | rfl <;> simp)
    clear hn hd
    have hpe := rp_pe (n := n) (c := 48 + d) (b := true) (by omega) (by omega)
    have hsz := sz_rp (n := n) (c := 48 + d) (b := true) (by omega) (by omega)
    have hs0 := hsz.1
    have hs1 := hsz.2
    clear hsz
    simp only [iff_true] at hs1
    have hrl := rp_len n (48 + d) true
    refine E.nil ?_
    refine wp_seq ?_
    refine E.seq ?_
    refine E.opv hF (r_move (hF.at 1 rfl)) rfl rfl rfl rfl fun a hF => ?_
    obtain ⟨g8, w2, hr, ha3, bb⟩ := mk8 w1 n (by omega)
    replace ha3 := ha3.rebase bel.size
    refine E.opv hF (r_makeSlice (hF.at 0 rfl) (hF.at 0 rfl) hr) rfl rfl rfl rfl fun a hF => ?_
    clear hr
    replace bel := below_to bel bb
    clear bb
    refine E.opv hF (r_assign (hF.at 0 rfl)) rfl rfl rfl rfl fun a hF => ?_
    refine E.nil ?_
    refine wp_seq ?_
    refine wp_seq ?_
    refine E.seq ?_
    refine E.opv hF (r_move (hF.at 0 rfl)) rfl rfl rfl rfl fun a hF => ?_
    refine E.opv hF (r_builtin (map1 (hF.at 0 rfl)) bl_u8s) rfl rfl rfl rfl fun a hF => ?_
    refine E.opv hF (r_move ev_c) rfl rfl rfl rfl fun a hF => ?_
    refine E.nil ?_
    refine wp_block ?_
    refine E.loop (fun mq a wv => ∃ (i : Nat), i ≤ n ∧ Fr 79 a [(24, .int .i64 ((i : Nat) : Int)), (23, .int .i64 ((n : Nat) : Int)), (7, .slice (some ⟨g8, 0, none⟩) n n), (1, .int .i64 ((d : Nat) : Int)), (0, .int .i64 ((n : Nat) : Int)), (6, .bool false), (2, .bool true)] ∧ Below w.heap.size w wv ∧ AccK wv .u8 5 w.heap.size (.slice (some ⟨g8, 0, none⟩) n n) (List.replicate i (48 + d) ++ List.replicate (n - i) 0) ∧ mq = n - i) (n - 0) ?_ ?_
    · exact ⟨0, (Nat.zero_le _), Fr.sub (L' := [(24, .int .i64 ((0 : Nat) : Int)), (23, .int .i64 ((n : Nat) : Int)), (7, .slice (some ⟨g8, 0, none⟩) n n), (1, .int .i64 ((d : Nat) : Int)), (0, .int .i64 ((n : Nat) : Int)), (6, .bool false), (2, .bool true)]) hF (by intro p hp; simp only [List.mem_cons, List.not_mem_nil, or_false] at hp ⊢; rcases hp with rfl | rfl | rfl | rfl | rfl | rfl | rfl <;> simp), bel, (by simpa using ha3), rfl⟩
    · rintro mq a w4 ⟨i, hi, hF, bel, ha, hm⟩
      by_cases hin : i < n
      · refine wp_seq ?_
        refine E.seq ?_
        refine E.opv hF (r_bin (hF.at 0 rfl) (hF.at 1 rfl) eg_scalar (bi_int (ic_lss (c := true) (dec_tt (by omega))) (by simp))) rfl rfl rfl rfl fun a hF => ?_
        refine E.nil ?_
        refine wp_seq ?_
        refine wp_cond_true (hF.at 0 rfl) ?_
        refine wp_skip ?_
        refine E.norm ?_
        refine wp_seq ?_
        refine wp_block ?_
        refine wp_seq ?_
        refine E.seq ?_
        refine E.opv hF (r_move (hF.at 1 rfl)) rfl rfl rfl rfl fun a hF => ?_
        refine E.opv hF (r_assign (hF.at 0 rfl)) rfl rfl rfl rfl fun a hF => ?_
        refine E.nil ?_
        refine E.seq ?_
        refine E.opv hF (r_move (hF.at 5 rfl)) rfl rfl rfl rfl fun a hF => ?_
        refine E.opv hF (r_move (hF.at 1 rfl)) rfl rfl rfl rfl fun a hF => ?_
        refine E.opv hF (r_move (hF.at 8 rfl)) rfl rfl rfl rfl fun a hF => ?_
        refine E.opv hF (r_bin ev_c (hF.at 0 rfl) eg_scalar (ia_add (by omega) (by omega))) rfl rfl rfl rfl fun a hF => ?_
        refine E.opv hF (r_conv (hF.at 0 rfl) (cv_kind (k' := .u8) Try.underlying3 Try.underlying5 (w_u8 (by omega) (by omega)))) rfl rfl rfl rfl fun a hF => ?_
        refine E.opv hF (r_index (hF.at 4 rfl) (hF.at 3 rfl) (ix8 (by omega) (by omega))) rfl rfl rfl rfl fun a hF => ?_
        have hsv : 48 + ((d : Nat) : Int) = ((48 + d : Nat) : Int) := by omega
        obtain ⟨w5, hr, ha6, bb, gr⟩ := ha.store (P := Try.prog) sz_u8 (i := (((i : Nat) : Int)).toNat) (48 + d) (by simp only [List.length_append, List.length_replicate]; omega)
        rw [← hsv] at hr
        rw [Int.toNat_natCast, rep_set hin] at ha6
        refine E.st hF (r_store (hF.at 0 rfl) (hF.at 1 rfl) hr) rfl rfl fun a hF => ?_
        clear hr hsv
        replace bel := bel.trans bb
        clear bb gr
        refine E.nil0 ?_
        refine E.blk ?_
        refine E.norm ?_
        refine E.seq ?_
        refine E.opv hF (r_bin (hF.at 9 rfl) ev_c eg_scalar (ia_add (by omega) (by omega))) rfl rfl rfl rfl fun a hF => ?_
        refine E.opset (L' := [(24, .int .i64 (((i : Nat) : Int) + 1)), (33, .int .i64 (((i : Nat) : Int) + 1)), (32, .pointer (some ⟨g8, (((i : Nat) : Int)).toNat, none⟩)), (31, .int .u8 (48 + ((d : Nat) : Int))), (30, .int .i64 (48 + ((d : Nat) : Int))), (29, .int .i64 ((d : Nat) : Int)), (28, .int .i64 ((i : Nat) : Int)), (27, .slice (some ⟨g8, 0, none⟩) n n), (8, .int .i64 ((i : Nat) : Int)), (26, .int .i64 ((i : Nat) : Int)), (25, .bool true), (23, .int .i64 ((n : Nat) : Int)), (7, .slice (some ⟨g8, 0, none⟩) n n), (1, .int .i64 ((d : Nat) : Int)), (0, .int .i64 ((n : Nat) : Int)), (6, .bool false), (2, .bool true)]) hF (r_move (hF.at 0 rfl)) rfl rfl rfl rfl fun a hF => ?_
        refine E.nil0 ?_
        refine E.norm ?_
        exact ⟨n - (i + 1), by omega, ⟨(i + 1), (by omega), (by rw [show ((i + 1 : Nat) : Int) = ((i : Nat) : Int) + 1 from by omega]; exact Fr.sub (L' := [(24, .int .i64 (((i : Nat) : Int) + 1)), (23, .int .i64 ((n : Nat) : Int)), (7, .slice (some ⟨g8, 0, none⟩) n n), (1, .int .i64 ((d : Nat) : Int)), (0, .int .i64 ((n : Nat) : Int)), (6, .bool false), (2, .bool true)]) hF (by intro p hp; simp only [List.mem_cons, List.not_mem_nil, or_false] at hp ⊢; rcases hp with rfl | rfl | rfl | rfl | rfl | rfl | rfl <;> simp)), bel, ha6, rfl⟩⟩
      · refine wp_seq ?_
        refine E.seq ?_
        refine E.opv hF (r_bin (hF.at 0 rfl) (hF.at 1 rfl) eg_scalar (bi_int (ic_lss (c := false) (dec_ff (by omega))) (by simp))) rfl rfl rfl rfl fun a hF => ?_
        refine E.nil ?_
        refine wp_seq ?_
        refine wp_cond_false (hF.at 0 rfl) ?_
        refine wp_exit ?_
        refine E.past ?_
        refine E.past ?_
        refine E.out (id := 0) ?_
        refine E.norm ?_
        refine wp_seq ?_
        refine E.seq ?_
        refine E.opv hF (r_move (hF.at 3 rfl)) rfl rfl rfl rfl fun a hF => ?_
        refine E.opv hF (r_conv (hF.at 0 rfl) (cv_str (AccK.sqb ha))) rfl rfl rfl rfl fun a hF => ?_
        refine E.opv hF (r_assign (hF.at 0 rfl)) rfl rfl rfl rfl fun a hF => ?_
        have hxs : (List.replicate i (48 + d) ++ List.replicate (n - i) 0) = List.replicate n (48 + d) := rep_all (by omega) hi
        replace hF : Fr 79 a [(9, .string (bstr (List.replicate n (48 + d)))), (1, .int .i64 ((d : Nat) : Int)), (0, .int .i64 ((n : Nat) : Int)), (6, .bool false), (2, .bool true)] := by rw [← hxs]; exact Fr.sub hF (by intro p hp; simp only [List.mem_cons, List.not_mem_nil, or_false] at hp ⊢; rcases hp with rfl | rfl | rfl | rfl | rfl <;> simp)
        refine E.nil ?_
        refine wp_seq ?_
        refine wp_seq ?_
        refine E.seq ?_
        refine E.opv hF (r_move (hF.at 4 rfl)) rfl rfl rfl rfl fun a hF => ?_
        refine E.nil ?_
        refine wp_cond_true (hF.at 0 rfl) ?_
        refine E.seq ?_
        refine E.opv hF (r_move (hF.at 1 rfl)) rfl rfl rfl rfl fun a hF => ?_
        refine E.opv hF (r_bin ev_c (hF.at 0 rfl) eg_str (sb_add (xs := [45]) (ys := (List.replicate n (48 + d))) (by simp only [List.length_cons, List.length_nil, List.length_replicate]; omega))) rfl rfl rfl rfl fun a hF => ?_
        refine E.opset (L' := [(9, .string (bstr ([45] ++ (List.replicate n (48 + d))))), (38, .string (bstr ([45] ++ (List.replicate n (48 + d))))), (37, .string (bstr (List.replicate n (48 + d)))), (36, .bool true), (1, .int .i64 ((d : Nat) : Int)), (0, .int .i64 ((n : Nat) : Int)), (6, .bool false), (2, .bool true)]) hF (r_assign (hF.at 0 rfl)) rfl rfl rfl rfl fun a hF => ?_
        replace hF : Fr 79 a [(9, .string (bstr (rp n (48 + d) true))), (1, .int .i64 ((d : Nat) : Int)), (0, .int .i64 ((n : Nat) : Int)), (6, .bool false), (2, .bool true)] := by rw [← rp_t]; exact Fr.sub hF (by intro p hp; simp only [List.mem_cons, List.not_mem_nil, or_false] at hp ⊢; rcases hp with rfl | rfl | rfl | rfl | rfl <;> simp)
        refine E.nil ?_
        refine wp_seq ?_
        refine E.seq ?_
        refine E.opv hF (r_move (hF.at 0 rfl)) rfl rfl rfl rfl fun a hF => ?_
        refine E.call hF (r_call Try.func19 en19.1 en19.2 (map1 (hF.at 0 rfl))) (parse_any ((rp n (48 + d) true)) _ (rp_okb (by omega)) (by first | omega | decide)) rfl rfl rfl rfl ?_
        rintro e w5 ⟨vv6, rfl, hh7, bb⟩
        refine ⟨_, rfl, ?_⟩
        intro a hF
        replace bel := below_to bel bb
        clear bb
        obtain ⟨ad8, n8, c8, rfl, _⟩ := Wc.shape hh7
        refine E.opv hF (r_move (hF.at 0 rfl)) rfl rfl rfl rfl fun a hF => ?_
        refine E.opv hF (r_extract (v := .agg #[.bool (decide (pz ((rp n (48 + d) true)) < 0)), .slice ad8 n8 c8]) (hF.at 0 rfl) rfl) rfl rfl rfl rfl fun a hF => ?_
        refine E.opv hF (r_extract (v := .int .i64 (pe ((rp n (48 + d) true)))) (hF.at 1 rfl) rfl) rfl rfl rfl rfl fun a hF => ?_
        obtain ⟨g10, w9, ge10, hr, bb, o10⟩ := own_alloc (P := Try.prog) (w := w5) (cs := [.bool false, .slice none 0 0]) 37 ze_Int rfl (niB (niS ni0))
        replace ge10 : w.heap.size ≤ g10 := by rw [← ge10]; exact bel.size
        refine E.opv hF (r_alloc hr) rfl rfl rfl rfl fun a hF => ?_
        clear hr
        replace hh7 := hh7.below bb
        replace bel := below_to bel bb
        clear bb
        obtain ⟨w10, hr, tu, on⟩ := st_Int (vs := [.bool (decide (pz ((rp n (48 + d) true)) < 0)), .slice ad8 n8 c8]) o10 rfl rfl (ocB (ocS oc0)) (niB (niS ni0)) (o := 0) rfl
        have kp := tu.keep o10
        refine E.st hF (r_store (hF.at 0 rfl) (hF.at 2 rfl) (hr _ rfl)) rfl rfl fun a hF => ?_
        clear hr
        replace hh7 := hh7.keep kp
        replace bel := tu.below bel ge10
        clear tu kp
        replace o10 := on
        clear on
        have hf11 := Wc.abs hh7
        refine E.opv hF (r_assign (hF.at 1 rfl)) rfl rfl rfl rfl fun a hF => ?_
        refine E.nil ?_
        refine wp_seq ?_
        refine wp_block ?_
        refine wp_seq ?_
        refine E.seq ?_
        refine E.opv hF (r_move (hF.at 9 rfl)) rfl rfl rfl rfl fun a hF => ?_
        by_cases hc12 : ((n : Nat) : Int) = 0
        · first
          | (exfalso; omega)
          | (refine E.opv hF (r_bin (hF.at 0 rfl) ev_c eg_scalar (bi_int (ic_eql (c := true) (dec_tt hc12)) (by simp))) rfl rfl rfl rfl fun a hF => ?_
             refine E.opv hF (r_assign (hF.at 0 rfl)) rfl rfl rfl rfl fun a hF => ?_
             refine E.nil ?_
             refine wp_cond_true (hF.at 0 rfl) ?_
             refine wp_seq ?_
             refine E.seq ?_
             refine E.opv hF (r_move (hF.at 3 rfl)) rfl rfl rfl rfl fun a hF => ?_
             by_cases hc13 : pe ((rp n (48 + d) true)) = 1
             · first
               | (exfalso; omega)
               | (refine E.opv hF (r_bin (hF.at 0 rfl) ev_c eg_scalar (bi_int (ic_eql (c := true) (dec_tt hc13)) (by simp))) rfl rfl rfl rfl fun a hF => ?_
                  refine E.opv hF (r_move (hF.at 0 rfl)) rfl rfl rfl rfl fun a hF => ?_
                  refine E.opvg hF (r_load (hF.at 7 rfl) (ld_Int (vs := [.bool (decide (pz ((rp n (48 + d) true)) < 0)), .slice ad8 n8 c8]) o10 rfl rfl)) (wanted_by rfl rfl (hF.at 0 rfl) rfl) rfl rfl rfl fun a hF => ?_
                  refine E.callg hF (r_call Try.func26 en26.1 en26.2 (map1 (hF.at 0 rfl))) (whSign_any _ _ _ (Wc.wz hh7)) (wanted_by rfl rfl (hF.at 1 rfl) rfl) rfl rfl rfl ?_
                  rintro e w14 ⟨rfl, bb⟩
                  refine ⟨_, rfl, ?_⟩
                  intro a hF
                  replace hf11 := hf11.below bb
                  replace hh7 := hh7.below bb
                  replace o10 := o10.below bb
                  replace bel := below_to bel bb
                  clear bb
                  by_cases hc15 : sz (pz ((rp n (48 + d) true))) = 0
                  · first
                    | (exfalso; omega)
                    | (refine E.opvg hF (r_bin (hF.at 0 rfl) ev_c eg_scalar (bi_int (ic_eql (c := true) (dec_tt hc15)) (by simp))) (wanted_by rfl rfl (hF.at 2 rfl) rfl) rfl rfl rfl fun a hF => ?_
                       refine E.opv hF (r_pick_t (hF.at 3 rfl) (hF.at 0 rfl)) rfl rfl rfl rfl fun a hF => ?_
                       refine E.opset (L' := [(6, .bool true), (53, .bool true), (52, .bool true), (51, .int .i64 (sz (pz ((rp n (48 + d) true))))), (50, .agg #[.bool (decide (pz ((rp n (48 + d) true)) < 0)), .slice ad8 n8 c8]), (49, .bool true), (48, .bool true), (47, .int .i64 (pe ((rp n (48 + d) true)))), (44, .bool true), (46, .bool true), (45, .int .i64 ((n : Nat) : Int)), (11, .int .i64 (pe ((rp n (48 + d) true)))), (10, .pointer (some ⟨g10, 0, none⟩)), (43, .int .i64 (pe ((rp n (48 + d) true)))), (42, .agg #[.bool (decide (pz ((rp n (48 + d) true)) < 0)), .slice ad8 n8 c8]), (39, .tuple #[.agg #[.bool (decide (pz ((rp n (48 + d) true)) < 0)), .slice ad8 n8 c8], .int .i64 (pe ((rp n (48 + d) true)))]), (41, .tuple #[.agg #[.bool (decide (pz ((rp n (48 + d) true)) < 0)), .slice ad8 n8 c8], .int .i64 (pe ((rp n (48 + d) true)))]), (40, .string (bstr (rp n (48 + d) true))), (9, .string (bstr (rp n (48 + d) true))), (1, .int .i64 ((d : Nat) : Int)), (0, .int .i64 ((n : Nat) : Int)), (2, .bool true)]) hF (r_assign (hF.at 0 rfl)) rfl rfl rfl rfl fun a hF => ?_
                       refine E.nil ?_
                       refine wp_ret ?_
                       refine bodyPost_ret (res_tmp Try.results6 (hF.at 0 rfl)) hF.dfr ?_
                       exact ⟨rfl, bel⟩)
                  · first
                    | (exfalso; omega)
                    | (refine E.opvg hF (r_bin (hF.at 0 rfl) ev_c eg_scalar (bi_int (ic_eql (c := false) (dec_ff hc15)) (by simp))) (wanted_by rfl rfl (hF.at 2 rfl) rfl) rfl rfl rfl fun a hF => ?_
                       refine E.opv hF (r_pick_t (hF.at 3 rfl) (hF.at 0 rfl)) rfl rfl rfl rfl fun a hF => ?_
                       refine E.opset (L' := [(6, .bool false), (53, .bool false), (52, .bool false), (51, .int .i64 (sz (pz ((rp n (48 + d) true))))), (50, .agg #[.bool (decide (pz ((rp n (48 + d) true)) < 0)), .slice ad8 n8 c8]), (49, .bool true), (48, .bool true), (47, .int .i64 (pe ((rp n (48 + d) true)))), (44, .bool true), (46, .bool true), (45, .int .i64 ((n : Nat) : Int)), (11, .int .i64 (pe ((rp n (48 + d) true)))), (10, .pointer (some ⟨g10, 0, none⟩)), (43, .int .i64 (pe ((rp n (48 + d) true)))), (42, .agg #[.bool (decide (pz ((rp n (48 + d) true)) < 0)), .slice ad8 n8 c8]), (39, .tuple #[.agg #[.bool (decide (pz ((rp n (48 + d) true)) < 0)), .slice ad8 n8 c8], .int .i64 (pe ((rp n (48 + d) true)))]), (41, .tuple #[.agg #[.bool (decide (pz ((rp n (48 + d) true)) < 0)), .slice ad8 n8 c8], .int .i64 (pe ((rp n (48 + d) true)))]), (40, .string (bstr (rp n (48 + d) true))), (9, .string (bstr (rp n (48 + d) true))), (1, .int .i64 ((d : Nat) : Int)), (0, .int .i64 ((n : Nat) : Int)), (2, .bool true)]) hF (r_assign (hF.at 0 rfl)) rfl rfl rfl rfl fun a hF => ?_
                       refine E.nil ?_
                       refine wp_ret ?_
                       refine bodyPost_ret (res_tmp Try.results6 (hF.at 0 rfl)) hF.dfr ?_
                       exfalso; omega))
             · first
               | (exfalso; omega)
               | (refine E.opv hF (r_bin (hF.at 0 rfl) ev_c eg_scalar (bi_int (ic_eql (c := false) (dec_ff hc13)) (by simp))) rfl rfl rfl rfl fun a hF => ?_
                  refine E.opv hF (r_move (hF.at 0 rfl)) rfl rfl rfl rfl fun a hF => ?_
                  refine E.unwanted hF (wanted_by rfl rfl (hF.at 0 rfl) rfl) rfl rfl rfl fun a hF => ?_
                  refine E.unwanted hF (wanted_by rfl rfl (hF.at 1 rfl) rfl) rfl rfl rfl fun a hF => ?_
                  refine E.unwanted hF (wanted_by rfl rfl (hF.at 2 rfl) rfl) rfl rfl rfl fun a hF => ?_
                  refine E.opv hF (r_pick_f (hF.at 3 rfl) ev_c) rfl rfl rfl rfl fun a hF => ?_
                  refine E.opset (L' := [(6, .bool false), (53, .bool false), (52, undef), (51, undef), (50, undef), (49, .bool false), (48, .bool false), (47, .int .i64 (pe ((rp n (48 + d) true)))), (44, .bool true), (46, .bool true), (45, .int .i64 ((n : Nat) : Int)), (11, .int .i64 (pe ((rp n (48 + d) true)))), (10, .pointer (some ⟨g10, 0, none⟩)), (43, .int .i64 (pe ((rp n (48 + d) true)))), (42, .agg #[.bool (decide (pz ((rp n (48 + d) true)) < 0)), .slice ad8 n8 c8]), (39, .tuple #[.agg #[.bool (decide (pz ((rp n (48 + d) true)) < 0)), .slice ad8 n8 c8], .int .i64 (pe ((rp n (48 + d) true)))]), (41, .tuple #[.agg #[.bool (decide (pz ((rp n (48 + d) true)) < 0)), .slice ad8 n8 c8], .int .i64 (pe ((rp n (48 + d) true)))]), (40, .string (bstr (rp n (48 + d) true))), (9, .string (bstr (rp n (48 + d) true))), (1, .int .i64 ((d : Nat) : Int)), (0, .int .i64 ((n : Nat) : Int)), (2, .bool true)]) hF (r_assign (hF.at 0 rfl)) rfl rfl rfl rfl fun a hF => ?_
                  refine E.nil ?_
                  refine wp_ret ?_
                  refine bodyPost_ret (res_tmp Try.results6 (hF.at 0 rfl)) hF.dfr ?_
                  exfalso; omega))
        · first
          | (exfalso; omega)
          | (refine E.opv hF (r_bin (hF.at 0 rfl) ev_c eg_scalar (bi_int (ic_eql (c := false) (dec_ff hc12)) (by simp))) rfl rfl rfl rfl fun a hF => ?_
             refine E.opv hF (r_assign (hF.at 0 rfl)) rfl rfl rfl rfl fun a hF => ?_
             refine E.nil ?_
             refine wp_cond_false (hF.at 0 rfl) ?_
             refine wp_seq ?_
             refine E.seq ?_
             refine E.opv hF (r_move (hF.at 12 rfl)) rfl rfl rfl rfl fun a hF => ?_
             by_cases hc16 : 1000 < ((n : Nat) : Int)
             · first
               | (exfalso; omega)
               | (refine E.opv hF (r_bin (hF.at 0 rfl) ev_c eg_scalar (bi_int (ic_gtr (c := true) (dec_tt hc16)) (by simp))) rfl rfl rfl rfl fun a hF => ?_
                  refine E.opv hF (r_assign (hF.at 0 rfl)) rfl rfl rfl rfl fun a hF => ?_
                  refine E.nil ?_
                  refine wp_cond_true (hF.at 0 rfl) ?_
                  refine wp_seq ?_
                  refine E.seq ?_
                  refine E.opv hF (r_move (hF.at 6 rfl)) rfl rfl rfl rfl fun a hF => ?_
                  by_cases hc17 : pe ((rp n (48 + d) true)) = 5
                  · first
                    | (exfalso; omega)
                    | (refine E.opv hF (r_bin (hF.at 0 rfl) ev_c eg_scalar (bi_int (ic_eql (c := true) (dec_tt hc17)) (by simp))) rfl rfl rfl rfl fun a hF => ?_
                       refine E.opv hF (r_move (hF.at 0 rfl)) rfl rfl rfl rfl fun a hF => ?_
                       refine E.opvg hF (r_load (hF.at 10 rfl) (ld_Int (vs := [.bool (decide (pz ((rp n (48 + d) true)) < 0)), .slice ad8 n8 c8]) o10 rfl rfl)) (wanted_by rfl rfl (hF.at 0 rfl) rfl) rfl rfl rfl fun a hF => ?_
                       refine E.callg hF (r_call Try.func26 en26.1 en26.2 (map1 (hF.at 0 rfl))) (whSign_any _ _ _ (Wc.wz hh7)) (wanted_by rfl rfl (hF.at 1 rfl) rfl) rfl rfl rfl ?_
                       rintro e w18 ⟨rfl, bb⟩
                       refine ⟨_, rfl, ?_⟩
                       intro a hF
                       replace hf11 := hf11.below bb
                       replace hh7 := hh7.below bb
                       replace o10 := o10.below bb
                       replace bel := below_to bel bb
                       clear bb
                       by_cases hc19 : sz (pz ((rp n (48 + d) true))) = 0
                       · first
                         | (exfalso; omega)
                         | (refine E.opvg hF (r_bin (hF.at 0 rfl) ev_c eg_scalar (bi_int (ic_eql (c := true) (dec_tt hc19)) (by simp))) (wanted_by rfl rfl (hF.at 2 rfl) rfl) rfl rfl rfl fun a hF => ?_
                            refine E.opv hF (r_pick_t (hF.at 3 rfl) (hF.at 0 rfl)) rfl rfl rfl rfl fun a hF => ?_
                            refine E.opset (L' := [(6, .bool true), (63, .bool true), (62, .bool true), (61, .int .i64 (sz (pz ((rp n (48 + d) true))))), (60, .agg #[.bool (decide (pz ((rp n (48 + d) true)) < 0)), .slice ad8 n8 c8]), (59, .bool true), (58, .bool true), (57, .int .i64 (pe ((rp n (48 + d) true)))), (54, .bool true), (56, .bool true), (55, .int .i64 ((n : Nat) : Int)), (44, .bool false), (46, .bool false), (45, .int .i64 ((n : Nat) : Int)), (11, .int .i64 (pe ((rp n (48 + d) true)))), (10, .pointer (some ⟨g10, 0, none⟩)), (43, .int .i64 (pe ((rp n (48 + d) true)))), (42, .agg #[.bool (decide (pz ((rp n (48 + d) true)) < 0)), .slice ad8 n8 c8]), (39, .tuple #[.agg #[.bool (decide (pz ((rp n (48 + d) true)) < 0)), .slice ad8 n8 c8], .int .i64 (pe ((rp n (48 + d) true)))]), (41, .tuple #[.agg #[.bool (decide (pz ((rp n (48 + d) true)) < 0)), .slice ad8 n8 c8], .int .i64 (pe ((rp n (48 + d) true)))]), (40, .string (bstr (rp n (48 + d) true))), (9, .string (bstr (rp n (48 + d) true))), (1, .int .i64 ((d : Nat) : Int)), (0, .int .i64 ((n : Nat) : Int)), (2, .bool true)]) hF (r_assign (hF.at 0 rfl)) rfl rfl rfl rfl fun a hF => ?_
                            refine E.nil ?_
                            refine wp_ret ?_
                            refine bodyPost_ret (res_tmp Try.results6 (hF.at 0 rfl)) hF.dfr ?_
                            exact ⟨rfl, bel⟩)
                       · first
                         | (exfalso; omega)
                         | (refine E.opvg hF (r_bin (hF.at 0 rfl) ev_c eg_scalar (bi_int (ic_eql (c := false) (dec_ff hc19)) (by simp))) (wanted_by rfl rfl (hF.at 2 rfl) rfl) rfl rfl rfl fun a hF => ?_
                            refine E.opv hF (r_pick_t (hF.at 3 rfl) (hF.at 0 rfl)) rfl rfl rfl rfl fun a hF => ?_
                            refine E.opset (L' := [(6, .bool false), (63, .bool false), (62, .bool false), (61, .int .i64 (sz (pz ((rp n (48 + d) true))))), (60, .agg #[.bool (decide (pz ((rp n (48 + d) true)) < 0)), .slice ad8 n8 c8]), (59, .bool true), (58, .bool true), (57, .int .i64 (pe ((rp n (48 + d) true)))), (54, .bool true), (56, .bool true), (55, .int .i64 ((n : Nat) : Int)), (44, .bool false), (46, .bool false), (45, .int .i64 ((n : Nat) : Int)), (11, .int .i64 (pe ((rp n (48 + d) true)))), (10, .pointer (some ⟨g10, 0, none⟩)), (43, .int .i64 (pe ((rp n (48 + d) true)))), (42, .agg #[.bool (decide (pz ((rp n (48 + d) true)) < 0)), .slice ad8 n8 c8]), (39, .tuple #[.agg #[.bool (decide (pz ((rp n (48 + d) true)) < 0)), .slice ad8 n8 c8], .int .i64 (pe ((rp n (48 + d) true)))]), (41, .tuple #[.agg #[.bool (decide (pz ((rp n (48 + d) true)) < 0)), .slice ad8 n8 c8], .int .i64 (pe ((rp n (48 + d) true)))]), (40, .string (bstr (rp n (48 + d) true))), (9, .string (bstr (rp n (48 + d) true))), (1, .int .i64 ((d : Nat) : Int)), (0, .int .i64 ((n : Nat) : Int)), (2, .bool true)]) hF (r_assign (hF.at 0 rfl)) rfl rfl rfl rfl fun a hF => ?_
                            refine E.nil ?_
                            refine wp_ret ?_
                            refine bodyPost_ret (res_tmp Try.results6 (hF.at 0 rfl)) hF.dfr ?_
                            exfalso; omega))
                  · first
                    | (exfalso; omega)
                    | (refine E.opv hF (r_bin (hF.at 0 rfl) ev_c eg_scalar (bi_int (ic_eql (c := false) (dec_ff hc17)) (by simp))) rfl rfl rfl rfl fun a hF => ?_
                       refine E.opv hF (r_move (hF.at 0 rfl)) rfl rfl rfl rfl fun a hF => ?_
                       refine E.unwanted hF (wanted_by rfl rfl (hF.at 0 rfl) rfl) rfl rfl rfl fun a hF => ?_
                       refine E.unwanted hF (wanted_by rfl rfl (hF.at 1 rfl) rfl) rfl rfl rfl fun a hF => ?_
                       refine E.unwanted hF (wanted_by rfl rfl (hF.at 2 rfl) rfl) rfl rfl rfl fun a hF => ?_
                       refine E.opv hF (r_pick_f (hF.at 3 rfl) ev_c) rfl rfl rfl rfl fun a hF => ?_
                       refine E.opset (L' := [(6, .bool false), (63, .bool false), (62, undef), (61, undef), (60, undef), (59, .bool false), (58, .bool false), (57, .int .i64 (pe ((rp n (48 + d) true)))), (54, .bool true), (56, .bool true), (55, .int .i64 ((n : Nat) : Int)), (44, .bool false), (46, .bool false), (45, .int .i64 ((n : Nat) : Int)), (11, .int .i64 (pe ((rp n (48 + d) true)))), (10, .pointer (some ⟨g10, 0, none⟩)), (43, .int .i64 (pe ((rp n (48 + d) true)))), (42, .agg #[.bool (decide (pz ((rp n (48 + d) true)) < 0)), .slice ad8 n8 c8]), (39, .tuple #[.agg #[.bool (decide (pz ((rp n (48 + d) true)) < 0)), .slice ad8 n8 c8], .int .i64 (pe ((rp n (48 + d) true)))]), (41, .tuple #[.agg #[.bool (decide (pz ((rp n (48 + d) true)) < 0)), .slice ad8 n8 c8], .int .i64 (pe ((rp n (48 + d) true)))]), (40, .string (bstr (rp n (48 + d) true))), (9, .string (bstr (rp n (48 + d) true))), (1, .int .i64 ((d : Nat) : Int)), (0, .int .i64 ((n : Nat) : Int)), (2, .bool true)]) hF (r_assign (hF.at 0 rfl)) rfl rfl rfl rfl fun a hF => ?_
                       refine E.nil ?_
                       refine wp_ret ?_
                       refine bodyPost_ret (res_tmp Try.results6 (hF.at 0 rfl)) hF.dfr ?_
                       exfalso; omega))
             · first
               | (exfalso; omega)
               | (refine E.opv hF (r_bin (hF.at 0 rfl) ev_c eg_scalar (bi_int (ic_gtr (c := false) (dec_ff hc16)) (by simp))) rfl rfl rfl rfl fun a hF => ?_
                  refine E.opv hF (r_assign (hF.at 0 rfl)) rfl rfl rfl rfl fun a hF => ?_
                  refine E.nil ?_
                  refine wp_cond_false (hF.at 0 rfl) ?_
                  refine wp_skip ?_
                  refine E.blk ?_
                  refine E.norm ?_
                  refine wp_seq ?_
                  refine E.seq ?_
                  refine E.opv hF (r_move (hF.at 6 rfl)) rfl rfl rfl rfl fun a hF => ?_
                  by_cases hc20 : pe ((rp n (48 + d) true)) = 0
                  · first
                    | (exfalso; omega)
                    | (refine E.opv hF (r_bin (hF.at 0 rfl) ev_c eg_scalar (bi_int (ic_eql (c := true) (dec_tt hc20)) (by simp))) rfl rfl rfl rfl fun a hF => ?_
                       refine E.opv hF (r_move (hF.at 0 rfl)) rfl rfl rfl rfl fun a hF => ?_
                       refine E.opvg hF (r_load (hF.at 10 rfl) (ld_Int (vs := [.bool (decide (pz ((rp n (48 + d) true)) < 0)), .slice ad8 n8 c8]) o10 rfl rfl)) (wanted_by rfl rfl (hF.at 0 rfl) rfl) rfl rfl rfl fun a hF => ?_
                       refine E.callg hF (r_call Try.func26 en26.1 en26.2 (map1 (hF.at 0 rfl))) (whSign_any _ _ _ (Wc.wz hh7)) (wanted_by rfl rfl (hF.at 1 rfl) rfl) rfl rfl rfl ?_
                       rintro e w21 ⟨rfl, bb⟩
                       refine ⟨_, rfl, ?_⟩
                       intro a hF
                       replace hf11 := hf11.below bb
                       replace hh7 := hh7.below bb
                       replace o10 := o10.below bb
                       replace bel := below_to bel bb
                       clear bb
                       by_cases hc22 : sz (pz ((rp n (48 + d) true))) < 0
                       · first
                         | (exfalso; omega)
                         | (refine E.opvg hF (r_bin (hF.at 0 rfl) ev_c eg_scalar (bi_int (ic_lss (c := true) (dec_tt hc22)) (by simp))) (wanted_by rfl rfl (hF.at 2 rfl) rfl) rfl rfl rfl fun a hF => ?_
                            refine E.opvg hF (r_move (hF.at 23 rfl)) (wanted_by rfl rfl (hF.at 3 rfl) rfl) rfl rfl rfl fun a hF => ?_
                            refine E.opvg hF (r_bin (hF.at 1 rfl) (hF.at 0 rfl) eg_bool (bb_eql (d := true) rfl)) (wanted_by rfl rfl (hF.at 4 rfl) rfl) rfl rfl rfl fun a hF => ?_
                            refine E.opv hF (r_pick_t (hF.at 5 rfl) (hF.at 0 rfl)) rfl rfl rfl rfl fun a hF => ?_
                            refine E.opv hF (r_move (hF.at 0 rfl)) rfl rfl rfl rfl fun a hF => ?_
                            refine E.opvg hF (r_load (hF.at 17 rfl) (ld_Int (vs := [.bool (decide (pz ((rp n (48 + d) true)) < 0)), .slice ad8 n8 c8]) o10 rfl rfl)) (wanted_by rfl rfl (hF.at 0 rfl) rfl) rfl rfl rfl fun a hF => ?_
                            refine E.callg hF (r_call Try.func18 en18.1 en18.2 (map1 (hF.at 0 rfl))) (dtext_any _ (pz ((rp n (48 + d) true))) (32 * 106) _ hh7 (lim_pow (pz_lim ((rp n (48 + d) true)))) (by omega)) (wanted_by rfl rfl (hF.at 1 rfl) rfl) rfl rfl rfl ?_
                            rintro e w23 ⟨rfl, bb⟩
                            refine ⟨_, rfl, ?_⟩
                            intro a hF
                            replace bel := below_to bel bb
                            clear bb
                            refine E.opvg hF (r_move (hF.at 25 rfl)) (wanted_by rfl rfl (hF.at 2 rfl) rfl) rfl rfl rfl fun a hF => ?_
                            refine E.opvg hF (r_bin (hF.at 1 rfl) (hF.at 0 rfl) eg_str (sb_eq (xs := tx (pz ((rp n (48 + d) true)))) (ys := (rp n (48 + d) true)) (streq_t (tx_pz (by omega))))) (wanted_by rfl rfl (hF.at 3 rfl) rfl) rfl rfl rfl fun a hF => ?_
                            refine E.opv hF (r_pick_t (hF.at 4 rfl) (hF.at 0 rfl)) rfl rfl rfl rfl fun a hF => ?_
                            refine E.opset (L' := [(6, .bool true), (78, .bool true), (77, .bool true), (76, .string (bstr (rp n (48 + d) true))), (75, .string (bstr (tx (pz ((rp n (48 + d) true)))))), (74, .agg #[.bool (decide (pz ((rp n (48 + d) true)) < 0)), .slice ad8 n8 c8]), (73, .bool true), (72, .bool true), (71, .bool true), (70, .bool true), (69, .bool true), (68, .int .i64 (sz (pz ((rp n (48 + d) true))))), (67, .agg #[.bool (decide (pz ((rp n (48 + d) true)) < 0)), .slice ad8 n8 c8]), (66, .bool true), (65, .bool true), (64, .int .i64 (pe ((rp n (48 + d) true)))), (54, .bool false), (56, .bool false), (55, .int .i64 ((n : Nat) : Int)), (44, .bool false), (46, .bool false), (45, .int .i64 ((n : Nat) : Int)), (11, .int .i64 (pe ((rp n (48 + d) true)))), (10, .pointer (some ⟨g10, 0, none⟩)), (43, .int .i64 (pe ((rp n (48 + d) true)))), (42, .agg #[.bool (decide (pz ((rp n (48 + d) true)) < 0)), .slice ad8 n8 c8]), (39, .tuple #[.agg #[.bool (decide (pz ((rp n (48 + d) true)) < 0)), .slice ad8 n8 c8], .int .i64 (pe ((rp n (48 + d) true)))]), (41, .tuple #[.agg #[.bool (decide (pz ((rp n (48 + d) true)) < 0)), .slice ad8 n8 c8], .int .i64 (pe ((rp n (48 + d) true)))]), (40, .string (bstr (rp n (48 + d) true))), (9, .string (bstr (rp n (48 + d) true))), (1, .int .i64 ((d : Nat) : Int)), (0, .int .i64 ((n : Nat) : Int)), (2, .bool true)]) hF (r_assign (hF.at 0 rfl)) rfl rfl rfl rfl fun a hF => ?_
                            refine E.nil ?_
                            refine wp_ret ?_
                            refine bodyPost_ret (res_tmp Try.results6 (hF.at 0 rfl)) hF.dfr ?_
                            exact ⟨rfl, bel⟩)
                       · first
                         | (exfalso; omega)
                         | (refine E.opvg hF (r_bin (hF.at 0 rfl) ev_c eg_scalar (bi_int (ic_lss (c := false) (dec_ff hc22)) (by simp))) (wanted_by rfl rfl (hF.at 2 rfl) rfl) rfl rfl rfl fun a hF => ?_
                            refine E.opvg hF (r_move (hF.at 23 rfl)) (wanted_by rfl rfl (hF.at 3 rfl) rfl) rfl rfl rfl fun a hF => ?_
                            refine E.opvg hF (r_bin (hF.at 1 rfl) (hF.at 0 rfl) eg_bool (bb_eql (d := false) rfl)) (wanted_by rfl rfl (hF.at 4 rfl) rfl) rfl rfl rfl fun a hF => ?_
                            refine E.opv hF (r_pick_t (hF.at 5 rfl) (hF.at 0 rfl)) rfl rfl rfl rfl fun a hF => ?_
                            refine E.opv hF (r_move (hF.at 0 rfl)) rfl rfl rfl rfl fun a hF => ?_
                            refine E.unwanted hF (wanted_by rfl rfl (hF.at 0 rfl) rfl) rfl rfl rfl fun a hF => ?_
                            refine E.unwanted hF (wanted_by rfl rfl (hF.at 1 rfl) rfl) rfl rfl rfl fun a hF => ?_
                            refine E.unwanted hF (wanted_by rfl rfl (hF.at 2 rfl) rfl) rfl rfl rfl fun a hF => ?_
                            refine E.unwanted hF (wanted_by rfl rfl (hF.at 3 rfl) rfl) rfl rfl rfl fun a hF => ?_
                            refine E.opv hF (r_pick_f (hF.at 4 rfl) ev_c) rfl rfl rfl rfl fun a hF => ?_
                            refine E.opset (L' := [(6, .bool false), (78, .bool false), (77, undef), (76, undef), (75, undef), (74, undef), (73, .bool false), (72, .bool false), (71, .bool false), (70, .bool true), (69, .bool false), (68, .int .i64 (sz (pz ((rp n (48 + d) true))))), (67, .agg #[.bool (decide (pz ((rp n (48 + d) true)) < 0)), .slice ad8 n8 c8]), (66, .bool true), (65, .bool true), (64, .int .i64 (pe ((rp n (48 + d) true)))), (54, .bool false), (56, .bool false), (55, .int .i64 ((n : Nat) : Int)), (44, .bool false), (46, .bool false), (45, .int .i64 ((n : Nat) : Int)), (11, .int .i64 (pe ((rp n (48 + d) true)))), (10, .pointer (some ⟨g10, 0, none⟩)), (43, .int .i64 (pe ((rp n (48 + d) true)))), (42, .agg #[.bool (decide (pz ((rp n (48 + d) true)) < 0)), .slice ad8 n8 c8]), (39, .tuple #[.agg #[.bool (decide (pz ((rp n (48 + d) true)) < 0)), .slice ad8 n8 c8], .int .i64 (pe ((rp n (48 + d) true)))]), (41, .tuple #[.agg #[.bool (decide (pz ((rp n (48 + d) true)) < 0)), .slice ad8 n8 c8], .int .i64 (pe ((rp n (48 + d) true)))]), (40, .string (bstr (rp n (48 + d) true))), (9, .string (bstr (rp n (48 + d) true))), (1, .int .i64 ((d : Nat) : Int)), (0, .int .i64 ((n : Nat) : Int)), (2, .bool true)]) hF (r_assign (hF.at 0 rfl)) rfl rfl rfl rfl fun a hF => ?_
                            refine E.nil ?_
                            refine wp_ret ?_
                            refine bodyPost_ret (res_tmp Try.results6 (hF.at 0 rfl)) hF.dfr ?_
                            exfalso; omega))
                  · first
                    | (exfalso; omega)
                    | (refine E.opv hF (r_bin (hF.at 0 rfl) ev_c eg_scalar (bi_int (ic_eql (c := false) (dec_ff hc20)) (by simp))) rfl rfl rfl rfl fun a hF => ?_
                       refine E.opv hF (r_move (hF.at 0 rfl)) rfl rfl rfl rfl fun a hF => ?_
                       refine E.unwanted hF (wanted_by rfl rfl (hF.at 0 rfl) rfl) rfl rfl rfl fun a hF => ?_
                       refine E.unwanted hF (wanted_by rfl rfl (hF.at 1 rfl) rfl) rfl rfl rfl fun a hF => ?_
                       refine E.unwanted hF (wanted_by rfl rfl (hF.at 2 rfl) rfl) rfl rfl rfl fun a hF => ?_
                       refine E.unwanted hF (wanted_by rfl rfl (hF.at 3 rfl) rfl) rfl rfl rfl fun a hF => ?_
                       refine E.unwanted hF (wanted_by rfl rfl (hF.at 4 rfl) rfl) rfl rfl rfl fun a hF => ?_
                       refine E.opv hF (r_pick_f (hF.at 5 rfl) ev_c) rfl rfl rfl rfl fun a hF => ?_
                       refine E.opv hF (r_move (hF.at 0 rfl)) rfl rfl rfl rfl fun a hF => ?_
                       refine E.unwanted hF (wanted_by rfl rfl (hF.at 0 rfl) rfl) rfl rfl rfl fun a hF => ?_
                       refine E.unwanted hF (wanted_by rfl rfl (hF.at 1 rfl) rfl) rfl rfl rfl fun a hF => ?_
                       refine E.unwanted hF (wanted_by rfl rfl (hF.at 2 rfl) rfl) rfl rfl rfl fun a hF => ?_
                       refine E.unwanted hF (wanted_by rfl rfl (hF.at 3 rfl) rfl) rfl rfl rfl fun a hF => ?_
                       refine E.opv hF (r_pick_f (hF.at 4 rfl) ev_c) rfl rfl rfl rfl fun a hF => ?_
                       refine E.opset (L' := [(6, .bool false), (78, .bool false), (77, undef), (76, undef), (75, undef), (74, undef), (73, .bool false), (72, .bool false), (71, undef), (70, undef), (69, undef), (68, undef), (67, undef), (66, .bool false), (65, .bool false), (64, .int .i64 (pe ((rp n (48 + d) true)))), (54, .bool false), (56, .bool false), (55, .int .i64 ((n : Nat) : Int)), (44, .bool false), (46, .bool false), (45, .int .i64 ((n : Nat) : Int)), (11, .int .i64 (pe ((rp n (48 + d) true)))), (10, .pointer (some ⟨g10, 0, none⟩)), (43, .int .i64 (pe ((rp n (48 + d) true)))), (42, .agg #[.bool (decide (pz ((rp n (48 + d) true)) < 0)), .slice ad8 n8 c8]), (39, .tuple #[.agg #[.bool (decide (pz ((rp n (48 + d) true)) < 0)), .slice ad8 n8 c8], .int .i64 (pe ((rp n (48 + d) true)))]), (41, .tuple #[.agg #[.bool (decide (pz ((rp n (48 + d) true)) < 0)), .slice ad8 n8 c8], .int .i64 (pe ((rp n (48 + d) true)))]), (40, .string (bstr (rp n (48 + d) true))), (9, .string (bstr (rp n (48 + d) true))), (1, .int .i64 ((d : Nat) : Int)), (0, .int .i64 ((n : Nat) : Int)), (2, .bool true)]) hF (r_assign (hF.at 0 rfl)) rfl rfl rfl rfl fun a hF => ?_
                       refine E.nil ?_
                       refine wp_ret ?_
                       refine bodyPost_ret (res_tmp Try.results6 (hF.at 0 rfl)) hF.dfr ?_
                       exfalso; omega)))

end Go.Proofs.Ytjdmnchndnpdlaa
