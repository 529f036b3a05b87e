/- The document's n over d, of numbers of 64 bits. -/
import Derived.Test.YtpkhdajnppoinaaGJ
import Derived.Test.YtpkhdajnppoinaaGN
import Derived.Test.YtpkhdajnppoinaaPlA
import Derived.Test.YtpkhdajnppoinaaGO
import Derived.Test.YtpkhdajnppoinaaGI
namespace Go.Proofs.Ytpkhdajnppoinaa
open Go.RowKit
set_option maxRecDepth 100000
set_option linter.unusedVariables false

theorem InX.cl {a : Option Addr} {n c : Nat} {xs : List Nat} : Cl fun w => InX w a n c xs := fun _ _ h kp => h.keep kp
theorem cv_wrap {P : Program} {w : World} {s t : TypeId} {k k0 k' : IntKind} {a : Int} (hs : P.underlying s = some (.int k0)) (ht : P.underlying t = some (.int k')) : (convert s t (.int k a)).run P w = .ok (.int k' (k'.wrap a)) w := by
  unfold convert
  simp only [Sem.run_bind, run_underlying hs, run_underlying ht, Result.andThen_ok]
  rfl
theorem wr_u64 (a : Int) : IntKind.u64.wrap a = a % 18446744073709551616 := by simp [IntKind.wrap, IntKind.signed, IntKind.bits]
theorem wr_u32 (a : Int) : IntKind.u32.wrap a = a % 4294967296 := by simp [IntKind.wrap, IntKind.signed, IntKind.bits]
theorem cv_u64m {P : Program} {w : World} {s t : TypeId} {k k0 : IntKind} {N : Nat} (hs : P.underlying s = some (.int k0)) (ht : P.underlying t = some (.int .u64)) (h0 : 0 < N) (h1 : N ≤ 9223372036854775808) : (convert s t (.int k (-((N : Nat) : Int)))).run P w = .ok (.int .u64 (18446744073709551616 - ((N : Nat) : Int))) w := by
  rw [cv_wrap hs ht, wr_u64, show -((N : Nat) : Int) % 18446744073709551616 = 18446744073709551616 - ((N : Nat) : Int) by omega]
theorem cv_u32 {P : Program} {w : World} {s t : TypeId} {k k0 : IntKind} {N : Nat} (hs : P.underlying s = some (.int k0)) (ht : P.underlying t = some (.int .u32)) : (convert s t (.int k ((N : Nat) : Int))).run P w = .ok (.int .u32 ((N % 4294967296 : Nat) : Int)) w := by
  rw [cv_wrap hs ht, wr_u32, Int.natCast_emod]; rfl
theorem ng_u64 {P : Program} {w : World} {N : Nat} (h0 : 0 < N) (h1 : N ≤ 9223372036854775808) : (Op.unary .neg (.int .u64 (18446744073709551616 - ((N : Nat) : Int)))).run P w = .ok (.int .u64 ((N : Nat) : Int)) w := by
  show (Op.intArith .sub .u64 0 (18446744073709551616 - ((N : Nat) : Int))).run P w = _
  simp only [Op.intArith]
  rw [wr_u64, show (0 - (18446744073709551616 - ((N : Nat) : Int))) % 18446744073709551616 = ((N : Nat) : Int) by omega]
  rfl
theorem sh_u64 {P : Program} {w : World} {t : TypeId} {N : Nat} : (binOp .shr t (.int .u64 ((N : Nat) : Int)) (.int .u64 32)).run P w = .ok (.int .u64 ((N / 4294967296 : Nat) : Int)) w := by
  have e : min ((32 : Int).toNat) IntKind.u64.bits = 32 := by simp [IntKind.bits]
  have h0 : ¬ ((32 : Int) < 0) := by omega
  simp only [binOp, Op.shift, if_neg h0, e]
  rw [Int.fdiv_eq_ediv_of_nonneg _ (by exact Int.le_of_lt (Int.pow_pos (by decide)))]
  rfl
theorem bs_u32 (w : World) (x y : Nat) (hx : x < 4294967296) (hy : y < 4294967296) : ∃ g w', (Instr.buildSlice 42 2 #[(0, .int .u32 ((x : Nat) : Int)), (1, .int .u32 ((y : Nat) : Int))]).run Try.prog w = .ok (.slice (some ⟨g, 0, none⟩) 2 2) w' ∧ Below w.heap.size w w' ∧ InX w' (some ⟨g, 0, none⟩) 2 2 [x, y] := by
  have hb := blk_new (w := w) (cs := [.int .u32 ((x : Nat) : Int), .int .u32 ((y : Nat) : Int)]) 95
  refine ⟨w.heap.size, w.alloc (.cells #[.int .u32 ((x : Nat) : Int), .int .u32 ((y : Nat) : Int)] 95), ?_, hb.2, rfl, ⟨?_⟩, ?_, Nat.le_refl _, by unfold maxLen; omega, fun h => by cases h⟩
  · have hs := size_run (P := Try.prog) (T := 95) (n := 1) (by kernel_rfl) w
    simp [Instr.buildSlice, go_sem, hs, Instr.fill, Value.cells, newRow, run_underlying (P := Try.prog) Try.underlying42]
  · intro i hi
    refine ⟨w.heap.size, 0, rfl, hb.1.lt, ?_⟩
    obtain ⟨T, hh⟩ := hb.1
    rw [cell_of_row _ _ _ _ _ _ hh, List.getElem?_toArray]
    have hi' : i < 2 := hi
    match i, hi' with
    | 0, _ => rfl
    | 1, _ => rfl
  · intro z hz
    rcases List.mem_cons.1 hz with rfl | hz
    · exact hx
    · rcases List.mem_cons.1 hz with rfl | hz
      · exact hy
      · cases hz
def Raw2Post (w : World) (b : Bool) (N : Nat) : Ending → World → Prop := fun e w' => ∃ g, e = .returned (.agg #[.bool b, .slice (some ⟨g, 0, none⟩) 2 2]) ∧ InX w' (some ⟨g, 0, none⟩) 2 2 [N % 4294967296, N / 4294967296] ∧ Below w.heap.size w w'
theorem rawZ_two (b : Bool) (N : Nat) : rawZ b [N % 4294967296, N / 4294967296] 2 = sg b N := by
  have e : vl B32 ([N % 4294967296, N / 4294967296].take 2) = N := by
    show N % 4294967296 + 4294967296 * (N / 4294967296 + 4294967296 * 0) = N
    have := Nat.mod_add_div N 4294967296
    omega
  unfold rawZ; rw [e]
set_option maxHeartbeats 1000000 in
theorem raw_pos (N : Nat) (w : World) (h1 : N ≤ 9223372036854775807) :
    Calls Try.prog 50 #[.int .i64 ((N : Nat) : Int)] w (Raw2Post w false N) := by
  have st := St.start w
  refine E.enter (nt := 19) (L := [(0, .int .i64 ((N : Nat) : Int))]) Try.func50 rfl rfl rfl (args_cons (i := 0) rfl args_nil) ?_
  intro a hF
  refine wp_seq ?_
  refine E.seq ?_
  refine S.alloc st hF ty_Raw rfl rfl fun g2 w1 a st hF => ?_
  refine E.nil ?_
  refine wp_seq ?_
  refine E.seq ?_
  refine E.opv hF (r_move (hF.at 1 rfl)) rfl rfl rfl rfl fun a hF => ?_
  refine E.opv hF (r_conv (hF.at 0 rfl) (cv_kind (k' := .u64) Try.underlying2 Try.underlying70 (w_u64 (by omega) (by omega)))) rfl rfl rfl rfl fun a hF => ?_
  refine E.opv hF (r_assign (hF.at 0 rfl)) rfl rfl rfl rfl fun a hF => ?_
  refine E.nil ?_
  refine wp_seq ?_
  refine wp_seq ?_
  refine E.seq ?_
  refine E.opv hF (r_move (hF.at 4 rfl)) rfl rfl rfl rfl fun a hF => ?_
  refine E.opv hF (r_bin (hF.at 0 rfl) ev_c eg_scalar (bi_int (ic_lss (c := false) (dec_ff (by omega))) (by simp))) rfl rfl rfl rfl fun a hF => ?_
  refine E.nil ?_
  refine wp_cond_false (hF.at 0 rfl) ?_
  refine wp_skip ?_
  refine E.norm ?_
  refine wp_seq ?_
  refine E.seq ?_
  refine E.opv hF (r_move (hF.at 6 rfl)) rfl rfl rfl rfl fun a hF => ?_
  refine E.opv hF (r_bin (hF.at 0 rfl) ev_c eg_scalar (bi_int (ic_lss (c := false) (dec_ff (by omega))) (by simp))) rfl rfl rfl rfl fun a hF => ?_
  refine E.opv hF (r_move (hF.at 4 rfl)) rfl rfl rfl rfl fun a hF => ?_
  refine E.opv hF (r_conv (hF.at 0 rfl) (cv_u32 (N := N) Try.underlying70 Try.underlying95)) rfl rfl rfl rfl fun a hF => ?_
  refine E.opv hF (r_move (hF.at 6 rfl)) rfl rfl rfl rfl fun a hF => ?_
  refine E.opv hF (r_bin (hF.at 0 rfl) ev_c eg_scalar sh_u64) rfl rfl rfl rfl fun a hF => ?_
  refine E.opv hF (r_conv (hF.at 0 rfl) (cv_u32 (N := N / 4294967296) Try.underlying70 Try.underlying95)) rfl rfl rfl rfl fun a hF => ?_
  obtain ⟨gr, w2, hr, bb, hix⟩ := bs_u32 w1 (N % 4294967296) (N / 4294967296 % 4294967296) (by omega) (by omega)
  refine E.opv hF (r_buildSlice (pair2 (hF.at 3 rfl) (hF.at 0 rfl)) hr) rfl rfl rfl rfl fun a hF => ?_
  clear hr
  replace st := (st.to bb).add hix InX.cl
  clear bb hix
  refine E.opv hF (r_build (pair2 (hF.at 6 rfl) (hF.at 0 rfl)) (bd_Raw_01 _ _ _ _ _)) rfl rfl rfl rfl fun a hF => ?_
  refine S.sto st hF 0 rfl (hF.at 14 rfl) (hF.at 0 rfl) ty_Raw rfl rfl rfl rfl fun w3 a st hF => ?_
  refine E.nil ?_
  refine wp_ret ?_
  refine S.ret Try.results50 st hF (hF.at 14 rfl) 0 rfl ty_Raw rfl hF.dfr ?_
  have bel := st.bel
  have hix := (st.f 0 rfl)
  exact ⟨_, rfl, (by rw [show N / 4294967296 = N / 4294967296 % 4294967296 from by omega]; exact hix), bel⟩

set_option maxHeartbeats 1000000 in
theorem raw_neg (N : Nat) (w : World) (h0 : 0 < N) (h1 : N ≤ 9223372036854775808) :
    Calls Try.prog 50 #[.int .i64 (-((N : Nat) : Int))] w (Raw2Post w true N) := by
  have st := St.start w
  refine E.enter (nt := 19) (L := [(0, .int .i64 (-((N : Nat) : Int)))]) Try.func50 rfl rfl rfl (args_cons (i := 0) rfl args_nil) ?_
  intro a hF
  refine wp_seq ?_
  refine E.seq ?_
  refine S.alloc st hF ty_Raw rfl rfl fun g2 w1 a st hF => ?_
  refine E.nil ?_
  refine wp_seq ?_
  refine E.seq ?_
  refine E.opv hF (r_move (hF.at 1 rfl)) rfl rfl rfl rfl fun a hF => ?_
  refine E.opv hF (r_conv (hF.at 0 rfl) (cv_u64m Try.underlying2 Try.underlying70 h0 h1)) rfl rfl rfl rfl fun a hF => ?_
  refine E.opv hF (r_assign (hF.at 0 rfl)) rfl rfl rfl rfl fun a hF => ?_
  refine E.nil ?_
  refine wp_seq ?_
  refine wp_seq ?_
  refine E.seq ?_
  refine E.opv hF (r_move (hF.at 4 rfl)) rfl rfl rfl rfl fun a hF => ?_
  refine E.opv hF (r_bin (hF.at 0 rfl) ev_c eg_scalar (bi_int (ic_lss (c := true) (dec_tt (by omega))) (by simp))) rfl rfl rfl rfl fun a hF => ?_
  refine E.nil ?_
  refine wp_cond_true (hF.at 0 rfl) ?_
  refine E.seq ?_
  refine E.opv hF (r_move (hF.at 2 rfl)) rfl rfl rfl rfl fun a hF => ?_
  refine E.opv hF (r_un (hF.at 0 rfl) (ng_u64 h0 h1)) rfl rfl rfl rfl fun a hF => ?_
  refine E.opset (L' := [(3, .int .u64 ((N : Nat) : Int)), (9, .int .u64 ((N : Nat) : Int)), (8, .int .u64 (18446744073709551616 - ((N : Nat) : Int))), (7, .bool true), (6, .int .i64 (-((N : Nat) : Int))), (5, .int .u64 (18446744073709551616 - ((N : Nat) : Int))), (4, .int .i64 (-((N : Nat) : Int))), (2, .pointer (some ⟨g2, 0, none⟩)), (0, .int .i64 (-((N : Nat) : Int)))]) hF (r_assign (hF.at 0 rfl)) rfl rfl rfl rfl fun a hF => ?_
  refine E.nil ?_
  refine wp_seq ?_
  refine E.seq ?_
  refine E.opv hF (r_move (hF.at 8 rfl)) rfl rfl rfl rfl fun a hF => ?_
  refine E.opv hF (r_bin (hF.at 0 rfl) ev_c eg_scalar (bi_int (ic_lss (c := true) (dec_tt (by omega))) (by simp))) rfl rfl rfl rfl fun a hF => ?_
  refine E.opv hF (r_move (hF.at 2 rfl)) rfl rfl rfl rfl fun a hF => ?_
  refine E.opv hF (r_conv (hF.at 0 rfl) (cv_u32 (N := N) Try.underlying70 Try.underlying95)) rfl rfl rfl rfl fun a hF => ?_
  refine E.opv hF (r_move (hF.at 4 rfl)) rfl rfl rfl rfl fun a hF => ?_
  refine E.opv hF (r_bin (hF.at 0 rfl) ev_c eg_scalar sh_u64) rfl rfl rfl rfl fun a hF => ?_
  refine E.opv hF (r_conv (hF.at 0 rfl) (cv_u32 (N := N / 4294967296) Try.underlying70 Try.underlying95)) rfl rfl rfl rfl fun a hF => ?_
  obtain ⟨gr, w2, hr, bb, hix⟩ := bs_u32 w1 (N % 4294967296) (N / 4294967296 % 4294967296) (by omega) (by omega)
  refine E.opv hF (r_buildSlice (pair2 (hF.at 3 rfl) (hF.at 0 rfl)) hr) rfl rfl rfl rfl fun a hF => ?_
  clear hr
  replace st := (st.to bb).add hix InX.cl
  clear bb hix
  refine E.opv hF (r_build (pair2 (hF.at 6 rfl) (hF.at 0 rfl)) (bd_Raw_01 _ _ _ _ _)) rfl rfl rfl rfl fun a hF => ?_
  refine S.sto st hF 0 rfl (hF.at 16 rfl) (hF.at 0 rfl) ty_Raw rfl rfl rfl rfl fun w3 a st hF => ?_
  refine E.nil ?_
  refine wp_ret ?_
  refine S.ret Try.results50 st hF (hF.at 16 rfl) 0 rfl ty_Raw rfl hF.dfr ?_
  have bel := st.bel
  have hix := (st.f 0 rfl)
  exact ⟨_, rfl, (by rw [show N / 4294967296 = N / 4294967296 % 4294967296 from by omega]; exact hix), bel⟩

theorem raw_any (n : Int) (w : World) (h0 : -9223372036854775808 ≤ n) (h1 : n ≤ 9223372036854775807) : Calls Try.prog 50 #[.int .i64 n] w (Raw2Post w (decide (n < 0)) n.natAbs) := by
  by_cases h : n < 0
  · have := raw_neg n.natAbs w (by omega) (by omega)
    rwa [show -((n.natAbs : Nat) : Int) = n by omega, show true = decide (n < 0) from (decide_eq_true h).symm] at this
  · have := raw_pos n.natAbs w (by omega)
    rwa [show ((n.natAbs : Nat) : Int) = n by omega, show false = decide (n < 0) from (decide_eq_false h).symm] at this
theorem rawZ_int (n : Int) : rawZ (decide (n < 0)) [n.natAbs % 4294967296, n.natAbs / 4294967296] 2 = n := by rw [rawZ_two, sg_dec]
set_option maxHeartbeats 4000000 in
theorem lOf_any (n d : Int) (w : World) (hn0 : -9223372036854775808 ≤ n) (hn1 : n ≤ 9223372036854775807) (hd0 : -9223372036854775808 ≤ d) (hd1 : d ≤ 9223372036854775807) :
    Calls Try.prog 25 #[.int .i64 n, .int .i64 d] w (RrPost w (((n : Int) : Rat) / ((d : Int) : Rat)) 2) := by
  have bel : Below w.heap.size w w := Below.refl _ _
  refine E.enter (nt := 11) (L := [(0, .int .i64 n), (1, .int .i64 d)]) Try.func25 rfl rfl rfl (args_cons (i := 0) rfl (args_cons (i := 1) rfl args_nil)) ?_
  intro a hF
  refine wp_seq ?_
  refine E.seq ?_
  obtain ⟨g4, w1, ge4, hr, bb, o4⟩ := own_alloc (P := Try.prog) (w := w) (cs := [.bool false, .slice none 0 0, .slice none 0 0]) 38 ze_RRat rfl (niB (niS (niS ni0)))
  replace ge4 : w.heap.size ≤ g4 := by rw [← ge4]; exact bel.size
  refine E.opv hF (r_alloc hr) rfl rfl rfl rfl fun a hF => ?_
  clear hr
  replace bel := below_to bel bb
  clear bb
  refine E.nil ?_
  refine wp_seq ?_
  refine E.seq ?_
  refine E.opv hF (r_move (hF.at 1 rfl)) rfl rfl rfl rfl fun a hF => ?_
  refine E.call hF (r_call Try.func50 en50.1 en50.2 (map1 (hF.at 0 rfl))) (raw_any n _ hn0 hn1) rfl rfl rfl rfl ?_
  rintro e w2 ⟨vv3, rfl, hh4, bb⟩
  refine ⟨_, rfl, ?_⟩
  intro a hF
  replace o4 := o4.below bb
  replace bel := below_to bel bb
  clear bb
  refine E.opv hF (r_move (hF.at 4 rfl)) rfl rfl rfl rfl fun a hF => ?_
  refine E.call hF (r_call Try.func50 en50.1 en50.2 (map1 (hF.at 0 rfl))) (raw_any d _ hd0 hd1) rfl rfl rfl rfl ?_
  rintro e w5 ⟨vv6, rfl, hh7, bb⟩
  refine ⟨_, rfl, ?_⟩
  intro a hF
  replace hh4 := hh4.below bb
  replace o4 := o4.below bb
  replace bel := below_to bel bb
  clear bb
  refine E.opv hF (r_build (pair2 (hF.at 2 rfl) (hF.at 0 rfl)) (bd_Raw5_01 _ _ _ _ _ _ _ _ _)) rfl rfl rfl rfl fun a hF => ?_
  refine E.call hF (r_call Try.func49 en49.1 en49.2 (map2 (hF.at 0 rfl) ev_c)) (Told5_any (decide (n < 0)) (some ⟨vv3, 0, none⟩) 2 2 [Int.natAbs n % 4294967296, Int.natAbs n / 4294967296] (decide (d < 0)) (some ⟨vv6, 0, none⟩) 2 2 [Int.natAbs d % 4294967296, Int.natAbs d / 4294967296] 2 _ hh4 hh7 (by omega) (by omega)) rfl rfl rfl rfl ?_
  rintro e w8 ⟨vv9, rfl, hh10, bb⟩
  refine ⟨_, rfl, ?_⟩
  intro a hF
  replace o4 := o4.below bb
  replace bel := below_to bel bb
  clear bb
  obtain ⟨b11, ad11, n11, c11, ae11, m11, d11, z11, D11, rfl, hn11, hd11, hD11, hq11, lz11, lD11⟩ := Rr.shape hh10
  have ha11 := hn11.abs
  obtain ⟨w12, hr, tu, on⟩ := st_RRat (vs := [.bool b11, .slice ad11 n11 c11, .slice ae11 m11 d11]) o4 rfl rfl (ocB (ocS (ocS oc0))) (niB (niS (niS ni0))) (o := 0) rfl
  have kp := tu.keep o4
  refine E.st hF (r_store (hF.at 6 rfl) (hF.at 0 rfl) (hr _ rfl)) rfl rfl fun a hF => ?_
  clear hr
  replace hh10 := hh10.keep kp
  replace hn11 := hn11.keep kp
  replace ha11 := ha11.keep kp
  replace hd11 := hd11.keep kp
  replace bel := tu.below bel ge4
  clear tu kp
  replace o4 := on
  clear on
  refine E.nil ?_
  refine wp_ret ?_
  refine bodyPost_ret (res_cell Try.results25 (hF.at 6 rfl) (ld_RRat (vs := [.bool b11, .slice ad11 n11 c11, .slice ae11 m11 d11]) o4 rfl rfl)) hF.dfr ?_
  exact ⟨_, rfl, Rr.cast hh10 (by rw [rawZ_int, rawZ_int]), bel⟩

end Go.Proofs.Ytpkhdajnppoinaa
