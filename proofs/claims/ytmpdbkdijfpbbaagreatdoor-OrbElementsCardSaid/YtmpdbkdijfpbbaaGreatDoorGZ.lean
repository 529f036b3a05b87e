/- SnA SnB -/
import Derived.Test.YtmpdbkdijfpbbaaGreatDoorGY
import Derived.Test.YtmpdbkdijfpbbaaGreatDoorGX
import Derived.Test.YtmpdbkdijfpbbaaGreatDoorGO

/- Words: sines and arcs. -/
namespace Go.Proofs.YtmpdbkdijfpbbaaGreatDoor
open Go.RowKit
set_option maxRecDepth 100000
set_option linter.unusedVariables false

theorem fl_of {q : Rat} {k : Int} (h1 : (k : Rat) ≤ q) (h2 : q < (k : Rat) + 1) : q.floor = k := by
  have l1 : k ≤ q.floor := Rat.le_floor_iff.2 h1
  have l2 : q.floor < k + 1 := Rat.floor_lt_iff.2 (by rw [Rat.intCast_add, Rat.intCast_one]; exact h2)
  omega
/-- What lies between whole numbers' values. -/
def lin (S : Int → Int) (y : Rat) : Rat := (S y.floor : Rat) + (y - (y.floor : Rat)) * ((S (y.floor + 1) : Rat) - (S y.floor : Rat))


theorem lin_more {S : Int → Int} {n : Int} (h : ∀ k, S (k + n) = S k) (y : Rat) : lin S (y + (n : Rat)) = lin S y := by
  unfold lin
  rw [Rat.floor_add_intCast, h, show y.floor + n + 1 = y.floor + 1 + n by omega, h, Rat.intCast_add]
  grind
/-! ### Arcs -/
/-- The least place from k on, of n, whose next one isn't below h. -/
def ykf (h : Rat) : Nat → Nat → Nat
  | 0, k => k
  | n + 1, k => if h ≤ (spk ((k : Int) + 1) : Rat) then k else ykf h n (k + 1)
def yk (h : Rat) : Nat := ykf h 24 0
/-- The place of a height from 0 on. -/
def ay (h : Rat) : Rat := if yk h < 24 then (h - (spk (yk h) : Rat)) / ((spk ((yk h : Nat) + 1 : Int) - spk (yk h) : Int) : Rat) + ((yk h : Nat) : Int) else ((24 : Int) : Rat)
/-- The place of any height. -/
def ap (a : Rat) : Rat := if a < 0 then -ay (-a) else ay a
/-! ### Sines, of degrees -/
/-- How many degrees lie between two places. -/
def wd : Rat := ((360 : Int) : Rat) / ((96 : Int) : Rat)
theorem wd_eq : wd = 15 / 4 := by decide +kernel
def sof (x : Rat) : Rat := lin spk (x / wd) / ((3438 : Int) : Rat)
def arcv (a : Rat) : Rat := ap (a * ((3438 : Int) : Rat)) * wd
theorem c3438 : ((3438 : Int) : Rat) = 3438 := rfl
theorem lin_around (y : Rat) (n : Int) : lin spk (y + ((96 * n : Int) : Rat)) = lin spk y := lin_more (fun k => sp_more k n) y
theorem lin_rmod (y : Rat) : lin spk (rmod y ((96 : Int) : Rat)) = lin spk y := by
  unfold rmod
  rw [if_neg (by decide +kernel)]
  have := lin_around y (-(y / ((96 : Int) : Rat)).floor)
  rw [← this]
  congr 1
  rw [Rat.intCast_mul, Rat.intCast_neg]; grind
theorem sof_eq (x : Rat) : (((spk (rmod (x / wd) ((96 : Int) : Rat)).floor : Int) : Rat) + (rmod (x / wd) ((96 : Int) : Rat) - (((rmod (x / wd) ((96 : Int) : Rat)).floor : Int) : Rat)) * ((spk ((rmod (x / wd) ((96 : Int) : Rat)).floor + 1) - spk (rmod (x / wd) ((96 : Int) : Rat)).floor : Int) : Rat)) / ((3438 : Int) : Rat) = sof x := by
  unfold sof
  rw [← lin_rmod (x / wd)]
  unfold lin
  rw [Rat.intCast_sub]
/-! ### The circle -/
/-! ### The walks' words -/
def pk (x : Rat) : Int := (rmod (x / wd) ((96 : Int) : Rat)).floor
def pfr (x : Rat) : Rat := rmod (x / wd) ((96 : Int) : Rat) - ((pk x : Int) : Rat)
theorem pk_bd (x : Rat) : 0 ≤ pk x ∧ pk x < 96 := by
  have h : (0 : Rat) < ((96 : Int) : Rat) := by decide +kernel
  have h1 := rmod_low (x := x / wd) h
  have h2 := rmod_high (x := x / wd) h
  refine ⟨Rat.le_floor_iff.2 (by rw [Rat.intCast_zero]; exact h1), Rat.floor_lt_iff.2 h2⟩
theorem pk_sm (x : Rat) : sm64 (rmod (x / wd) ((96 : Int) : Rat)).floor = pk x := sm64_t (by have := pk_bd x; unfold pk at this; omega) (by have := pk_bd x; unfold pk at this; omega)
theorem sof_pk (x : Rat) : (((spk (pk x) : Int) : Rat) + pfr x * ((spk (pk x + 1) - spk (pk x) : Int) : Rat)) / ((3438 : Int) : Rat) = sof x := sof_eq x
theorem wd_lim : RLim wd 2 := (rlim_mk2 (limz_64 (by decide) (by decide)) (limz_64 (by decide) (by decide))).up 2 (by decide)
theorem lim64 {n : Int} (h0 : -9223372036854775808 ≤ n) (h1 : n ≤ 9223372036854775807) : RLim ((n : Int) : Rat) 2 := rlim_int (limz_64 h0 h1) (by decide)
theorem around_lim {x : Rat} {k : Nat} (h : RLim x k) : RLim (rmod (x / wd) ((96 : Int) : Rat)) (2 * k + 20) := (rmod_lim (rlim_div h wd_lim) (lim64 (by decide) (by decide))).up _ (by omega)
theorem pfr_lim {x : Rat} {k : Nat} (h : RLim x k) : RLim (pfr x) (4 * k + 50) := (frac_lim (around_lim h)).up _ (by omega)
theorem spk64 (k : Int) : -9223372036854775808 ≤ spk k ∧ spk k ≤ 9223372036854775807 := by have := sp_bd k; omega
theorem dif64 (k : Int) : -9223372036854775808 ≤ spk (k + 1) - spk k ∧ spk (k + 1) - spk k ≤ 9223372036854775807 := by have := sp_step k; omega
theorem ay_lim {h : Rat} {k : Nat} (l : RLim h k) : RLim (ay h) (k + 10) := by
  unfold ay
  split
  · exact (rlim_add (rlim_div (rlim_sub l (lim64 (spk64 _).1 (spk64 _).2)) (lim64 (dif64 _).1 (dif64 _).2)) (lim64 (by omega) (by omega))).up _ (by omega)
  · exact (lim64 (by decide) (by decide)).up _ (by omega)
theorem arcv_lim {x : Rat} {k : Nat} (l : RLim x k) : RLim (arcv x) (k + 20) := by
  have h := rlim_mul l (lim64 (n := 3438) (by decide) (by decide))
  unfold arcv ap
  refine (rlim_mul (k := k + 12) ?_ wd_lim).up _ (by omega)
  split
  · exact rlim_neg (ay_lim (rlim_neg h))
  · exact ay_lim h
theorem hiv_spk {k : Int} (h0 : 0 ≤ k) (h1 : k ≤ 24) : hiT.getD (max 0 (min k 24)).toNat 0 = spk k := by
  have t : ∀ n : Nat, n < 25 → hiT.getD (max 0 (min (n : Int) 24)).toNat 0 = spk (n : Int) := by decide +kernel
  have := t k.toNat (by omega)
  rwa [show ((k.toNat : Nat) : Int) = k by omega] at this
theorem qc_pos {a b : Rat} : 0 < qc a b ↔ b < a := by
  rw [qc_def]
  split
  · constructor
    · intro h; omega
    · intro h; grind
  · split
    · constructor
      · intro; assumption
      · intro; omega
    · constructor
      · intro h; omega
      · intro h; contradiction
theorem yk_next {h : Rat} {j : Nat} (hj : j < 24) (e : ykf h (24 - j) j = yk h) (hc : 0 < qc h ((spk (((j : Nat) : Int) + 1) : Int) : Rat)) : ykf h (24 - (j + 1)) (j + 1) = yk h := by
  rw [← e, show 24 - j = (24 - (j + 1)) + 1 by omega]
  show _ = if h ≤ _ then _ else _
  have := qc_pos.1 hc
  rw [if_neg (by grind)]
theorem yk_here {h : Rat} {j : Nat} (hj : j < 24) (e : ykf h (24 - j) j = yk h) (hc : ¬ 0 < qc h ((spk (((j : Nat) : Int) + 1) : Int) : Rat)) : yk h = j := by
  rw [← e, show 24 - j = (24 - (j + 1)) + 1 by omega]
  show (if h ≤ _ then _ else _) = _
  have : ¬ _ < _ := fun q => hc (qc_pos.2 q)
  rw [if_pos (by grind)]
theorem arc_here {x : Rat} {j : Nat} (hx : ¬ x < 0) (hj : j < 24) (e : yk (x * ((3438 : Int) : Rat)) = j) : ((x * ((3438 : Int) : Rat) - ((spk ((j : Nat) : Int) : Int) : Rat)) / ((spk (((j : Nat) : Int) + 1) - spk ((j : Nat) : Int) : Int) : Rat) + ((((j : Nat) : Int) : Int) : Rat)) * wd = arcv x := by
  unfold arcv ap
  rw [if_neg (by rw [c3438]; grind)]
  unfold ay
  rw [e, if_pos hj]
theorem arc_end {x : Rat} (hx : ¬ x < 0) (e : yk (x * ((3438 : Int) : Rat)) = 24) : ((90 : Int) : Rat) = arcv x := by
  unfold arcv ap
  rw [if_neg (by rw [c3438]; grind)]
  unfold ay
  rw [e, if_neg (by decide)]
  decide +kernel
theorem arc_neg {x : Rat} (hx : x < 0) : -(arcv (-x)) = arcv x := by
  unfold arcv ap
  rw [if_neg (by rw [c3438]; grind), if_pos (by rw [c3438]; grind), show -x * ((3438 : Int) : Rat) = -(x * ((3438 : Int) : Rat)) by grind]
  grind
theorem sz_lt0 {q : Rat} : sz q.num < 0 ↔ q < 0 := by
  rw [sz_def]
  split
  · constructor <;> intro <;> first | assumption | omega
  · split
    · constructor <;> intro <;> first | contradiction | omega
    · constructor <;> intro <;> first | contradiction | omega
theorem neg_not {q : Rat} (h : q < 0) : ¬ sz (-q).num < 0 := by
  rw [sz_lt0]; grind
def PlacePost (w : World) (x : Rat) : Ending → World → Prop := fun e w' => ∃ v, e = .returned (.tuple #[.int .i64 (pk x), v]) ∧ Rq w' v (pfr x) ∧ Below w.heap.size w w'
theorem rv_iv {a b : Int} {v : Value} (h : a = b) : Ending.returned (.tuple #[.int .i64 a, v]) = .returned (.tuple #[.int .i64 b, v]) := by rw [h]
theorem res_tmpcell {P : Program} {fn : Func} {a : Act} {w : World} {t u : Tmp} {T : TypeId} {p : Addr} {v x : Value} (h : fn.results = #[.tmp t, .cell u T]) (hx : a.tmps.getD t undef = x) (ha : a.tmps.getD u undef = .pointer (some p)) (hl : (Instr.loadAt T (.pointer (some p))).run P w = .ok v w) :
    (results fn a.tmps).run P w = .ok (.tuple #[x, v]) w := by
  have hl' : (loadVar T p).run P w = .ok v w := hl
  have e : (asAddr (a.tmps.getD u undef)).run P w = .ok p w := by rw [ha]; rfl
  simp only [results, h, List.mapM_toArray, List.mapM_cons, List.mapM_nil, Sem.run_bind, e, Result.andThen_ok, hl', Sem.run_pure, Sem.run_map, hx]
  rfl
end Go.Proofs.YtmpdbkdijfpbbaaGreatDoor

/- sine: its functions. -/
namespace Go.Proofs.YtmpdbkdijfpbbaaGreatDoor
open Go.RowKit
set_option maxRecDepth 100000
set_option linter.unusedVariables false

theorem en136 : (Tryz.f136.name == "runtime.NumGoroutine") = false ∧ Tryz.f136.body.isNone = false := ⟨by decide +kernel, by kernel_rfl⟩
theorem en131 : (Tryz.f131.name == "runtime.NumGoroutine") = false ∧ Tryz.f131.body.isNone = false := ⟨by decide +kernel, by kernel_rfl⟩
theorem en133 : (Tryz.f133.name == "runtime.NumGoroutine") = false ∧ Tryz.f133.body.isNone = false := ⟨by decide +kernel, by kernel_rfl⟩
theorem en98 : (Tryz.f98.name == "runtime.NumGoroutine") = false ∧ Tryz.f98.body.isNone = false := ⟨by decide +kernel, by kernel_rfl⟩
theorem en100 : (Tryz.f100.name == "runtime.NumGoroutine") = false ∧ Tryz.f100.body.isNone = false := ⟨by decide +kernel, by kernel_rfl⟩
theorem high_spk (k : Int) (w : World) (hT : TabD w) (h0 : 0 ≤ k) (h1 : k ≤ 24) : Calls Tryz.prog 135 #[.int .i64 k] w (ValPost w (.int .i64 (spk k))) := by
  have := high_any k w hT
  rwa [show hiv k = spk k from hiv_spk h0 h1] at this
set_option maxHeartbeats 1000000 in
theorem width_any (w : World) :
    Calls Tryz.prog 136 #[] w (RqPost w wd) := by
  have bel : Below w.heap.size w w := Below.refl _ _
  refine E.enter (nt := 2) (L := []) Tryz.func136 rfl rfl rfl args_nil ?_
  intro a hF
  refine wp_seq ?_
  refine E.seq ?_
  obtain ⟨g0, w1, ge0, hr, bb, o0⟩ := own_alloc (P := Tryz.prog) (w := w) (cs := [.bool false, .slice none 0 0, .slice none 0 0]) 32 ze_Rat rfl (niB (niS (niS ni0)))
  replace ge0 : w.heap.size ≤ g0 := by rw [← ge0]; exact bel.size
  refine E.opv hF (r_alloc hr) rfl rfl rfl rfl fun a hF => ?_
  clear hr
  replace bel := below_to bel bb
  clear bb
  refine E.nil ?_
  refine wp_seq ?_
  refine E.seq ?_
  refine E.call hF (r_call Tryz.func52 en52.1 en52.2 (map2 ev_c ev_c)) (rOf2_any (360) (96) _ (by decide) (by decide) (by decide) (by decide)) rfl rfl rfl rfl ?_
  rintro e w2 ⟨vv3, rfl, hh4, bb⟩
  refine ⟨_, rfl, ?_⟩
  intro a hF
  replace o0 := o0.below bb
  replace bel := below_to bel bb
  clear bb
  obtain ⟨b5, ad5, n5, c5, ae5, m5, d5, rfl, hn5, hd5⟩ := Rq.shape hh4
  have hf6 := Wc.abs hn5
  obtain ⟨w7, hr, tu, on⟩ := st_Rat (vs := [.bool b5, .slice ad5 n5 c5, .slice ae5 m5 d5]) o0 rfl rfl (ocB (ocS (ocS oc0))) (niB (niS (niS ni0))) (o := 0) rfl
  have kp := tu.keep o0
  refine E.st hF (r_store (hF.at 1 rfl) (hF.at 0 rfl) (hr _ rfl)) rfl rfl fun a hF => ?_
  clear hr
  replace hh4 := hh4.keep kp
  replace hn5 := hn5.keep kp
  replace hf6 := hf6.keep kp
  replace hd5 := hd5.keep kp
  replace bel := tu.below bel ge0
  clear tu kp
  replace o0 := on
  clear on
  refine E.nil ?_
  refine wp_ret ?_
  refine bodyPost_ret (res_cell Tryz.results136 (hF.at 1 rfl) (ld_Rat (vs := [.bool b5, .slice ad5 n5 c5, .slice ae5 m5 d5]) o0 rfl rfl)) hF.dfr ?_
  exact ⟨_, rfl, hh4, bel⟩

set_option maxHeartbeats 1000000 in
theorem rise_any (k : Int) (w : World) (hT : TabD w) (h0 : -1000000 ≤ k) (h1 : k ≤ 1000000) :
    Calls Tryz.prog 133 #[.int .i64 k] w (ValPost w (.int .i64 (spk (k + 1) - spk k))) := by
  have hsa := sp_bd k
  have hsb := sp_bd (k + 1)
  have bel : Below w.heap.size w w := Below.refl _ _
  refine E.enter (nt := 9) (L := [(0, .int .i64 k)]) Tryz.func133 rfl rfl rfl (args_cons (i := 0) rfl args_nil) ?_
  intro a hF
  refine wp_seq ?_
  refine E.seq ?_
  refine E.opv hF (r_assign ev_c) rfl rfl rfl rfl fun a hF => ?_
  refine E.nil ?_
  refine wp_seq ?_
  refine E.seq ?_
  refine E.opv hF (r_move (hF.at 1 rfl)) rfl rfl rfl rfl fun a hF => ?_
  refine E.opv hF (r_bin (hF.at 0 rfl) ev_c eg_scalar (ia_add (by omega) (by omega))) rfl rfl rfl rfl fun a hF => ?_
  refine E.call hF (r_call Tryz.func132 en132.1 en132.2 (map1 (hF.at 0 rfl))) (dsine_any (k + 1) _ (hT.below bel)) rfl rfl rfl rfl ?_
  rintro e w1 ⟨rfl, bb⟩
  refine ⟨_, rfl, ?_⟩
  intro a hF
  replace bel := below_to bel bb
  clear bb
  refine E.opv hF (r_move (hF.at 4 rfl)) rfl rfl rfl rfl fun a hF => ?_
  refine E.call hF (r_call Tryz.func132 en132.1 en132.2 (map1 (hF.at 0 rfl))) (dsine_any k _ (hT.below bel)) rfl rfl rfl rfl ?_
  rintro e w2 ⟨rfl, bb⟩
  refine ⟨_, rfl, ?_⟩
  intro a hF
  replace bel := below_to bel bb
  clear bb
  refine E.opv hF (r_bin (hF.at 2 rfl) (hF.at 0 rfl) eg_scalar (ia_sub (by omega) (by omega))) rfl rfl rfl rfl fun a hF => ?_
  refine E.opset (L' := [(2, .int .i64 ((spk (k + 1)) - (spk k))), (8, .int .i64 ((spk (k + 1)) - (spk k))), (7, .int .i64 (spk k)), (6, .int .i64 k), (5, .int .i64 (spk (k + 1))), (4, .int .i64 (k + 1)), (3, .int .i64 k), (0, .int .i64 k)]) hF (r_assign (hF.at 0 rfl)) rfl rfl rfl rfl fun a hF => ?_
  refine E.nil ?_
  refine wp_ret ?_
  refine bodyPost_ret (res_tmp Tryz.results133 (hF.at 0 rfl)) hF.dfr ?_
  exact ⟨rfl, bel⟩

set_option maxHeartbeats 1000000 in
theorem place_any (v1 : Value) (qx : Rat) (k : Nat) (w : World) (h1 : Rq w v1 qx) (hl : RLim qx k) (hk : k ≤ 900) :
    Calls Tryz.prog 131 #[v1] w (PlacePost w qx) := by
  have bel : Below w.heap.size w w := Below.refl _ _
  refine E.enter (nt := 20) (L := [(0, v1)]) Tryz.func131 rfl rfl rfl (args_cons (i := 0) rfl args_nil) ?_
  intro a hF
  refine wp_seq ?_
  refine E.seq ?_
  obtain ⟨b1, ad1, n1, c1, ae1, m1, d1, rfl, hn1, hd1⟩ := Rq.shape h1
  have hf2 := Wc.abs hn1
  obtain ⟨g1, w3, ge1, hr, bb, o1⟩ := own_box (P := Tryz.prog) (w := w) (cs := [.bool b1, .slice ad1 n1 c1, .slice ae1 m1 d1]) (v := .agg #[.bool b1, .slice ad1 n1 c1, .slice ae1 m1 d1]) 32 rfl (niB (niS (niS ni0)))
  replace ge1 : w.heap.size ≤ g1 := by rw [← ge1]; exact bel.size
  refine E.opv hF (r_box (hF.at 0 rfl) hr) rfl rfl rfl rfl fun a hF => ?_
  clear hr
  replace h1 := h1.below bb
  replace hn1 := hn1.below bb
  replace hf2 := hf2.below bb
  replace hd1 := hd1.below bb
  replace bel := below_to bel bb
  clear bb
  refine E.opv hF (r_assign ev_c) rfl rfl rfl rfl fun a hF => ?_
  obtain ⟨g3, w4, ge3, hr, bb, o3⟩ := own_alloc (P := Tryz.prog) (w := w3) (cs := [.bool false, .slice none 0 0, .slice none 0 0]) 32 ze_Rat rfl (niB (niS (niS ni0)))
  have ne1_3 : g1 ≠ g3 := by rw [← ge3]; exact o1.ne_new
  replace ge3 : w.heap.size ≤ g3 := by rw [← ge3]; exact bel.size
  refine E.opv hF (r_alloc hr) rfl rfl rfl rfl fun a hF => ?_
  clear hr
  replace hf2 := hf2.below bb
  replace hd1 := hd1.below bb
  replace h1 := h1.below bb
  replace hn1 := hn1.below bb
  replace o1 := o1.below bb
  replace bel := below_to bel bb
  clear bb
  refine E.nil ?_
  refine wp_seq ?_
  refine E.drawn 6 mixed hF [7, 8, 9, 10, 11, 4] [(fun _ v => v = .agg #[.bool b1, .slice ad1 n1 c1, .slice ae1 m1 d1]), (fun w v => Rq w v (wd)), (fun w v => Rq w v ((qx) / (wd))), (fun w v => Rq w v (((96 : Int) : Rat))), (fun w v => Rq w v (rmod ((qx) / (wd)) (((96 : Int) : Rat)))), (fun w v => ∃ g, v = .pointer (some ⟨g, 0, none⟩) ∧ w4.heap.size ≤ g ∧ Own w g [.bool false, .slice none 0 0, .slice none 0 0])] [5] (by decide +kernel) (by decide +kernel) rfl rfl rfl ⟨(Mb.eq _), (fun _ _ _ h hb => h.below hb), (fun _ _ _ h hb => h.below hb), (fun _ _ _ h hb => h.below hb), (fun _ _ _ h hb => h.below hb), (fun _ _ _ ⟨g, e, l, o⟩ hb => ⟨g, e, l, o.below hb⟩), trivial⟩ ⟨fun _ _ ⟨g, e, _, o⟩ => ⟨g, e, o.lt⟩, trivial⟩ ⟨?_, ?_, ?_, ?_, ?_, ?_, trivial⟩ ?_
  · intro a' w' hF' hb hd
    exact if_does (wanted_free rfl) (Does.vals (r_load (hF'.at 2 rfl) (ld_Rat (vs := [.bool b1, .slice ad1 n1 c1, .slice ae1 m1 d1]) (o1.below hb) rfl rfl)) ⟨rfl, Below.refl _ _, (fun h => absurd h (by decide))⟩)
  · intro a' w' hF' hb hd
    refine if_does (wanted_free rfl) (Does.calls (r_call Tryz.func136 en136.1 en136.2 map0) (width_any _) ?_)
    rintro e w'' ⟨v', rfl, h', bb⟩
    exact ⟨_, rfl, h', bb, (fun h => absurd h (by decide))⟩
  · intro a' w' hF' hb hd
    have e7 : a'.tmps.getD 7 undef = .agg #[.bool b1, .slice ad1 n1 c1, .slice ae1 m1 d1] := hd _ 7 (Array.mem_of_getElem? (i := 0) rfl) rfl rfl
    obtain ⟨v8_0, e8, h8_1⟩ : ∃ v, a'.tmps.getD 8 undef = v ∧ Rq w' v (wd) := ⟨_, rfl, hd _ 8 (Array.mem_of_getElem? (i := 1) rfl) rfl rfl⟩
    refine if_does (wanted_free rfl) (Does.calls (r_call Tryz.func128 en128.1 en128.2 (map2 e7 e8)) (rDiv_any _ _ (qx) (wd) (max k 2) _ (h1.below hb) h8_1 (hl.up _ (by omega)) (wd_lim.up _ (by omega)) (by omega)) ?_)
    rintro e w'' ⟨v', rfl, h', bb⟩
    exact ⟨_, rfl, h', bb, (fun h => absurd h (by decide))⟩
  · intro a' w' hF' hb hd
    refine if_does (wanted_free rfl) (Does.calls (r_call Tryz.func62 en62.1 en62.2 (map1 ev_c)) (rWhole_any (96) _ (by decide) (by decide)) ?_)
    rintro e w'' ⟨v', rfl, h', bb⟩
    exact ⟨_, rfl, h', bb, (fun h => absurd h (by decide))⟩
  · intro a' w' hF' hb hd
    obtain ⟨v9_0, e9, h9_1⟩ : ∃ v, a'.tmps.getD 9 undef = v ∧ Rq w' v ((qx) / (wd)) := ⟨_, rfl, hd _ 9 (Array.mem_of_getElem? (i := 0) rfl) rfl rfl⟩
    obtain ⟨v10_0, e10, h10_1⟩ : ∃ v, a'.tmps.getD 10 undef = v ∧ Rq w' v (((96 : Int) : Rat)) := ⟨_, rfl, hd _ 10 (Array.mem_of_getElem? (i := 1) rfl) rfl rfl⟩
    refine if_does (wanted_free rfl) (Does.calls (r_call Tryz.func87 en87.1 en87.2 (map2 e9 e10)) (cMod_any _ _ ((qx) / (wd)) (((96 : Int) : Rat)) (k + 2) 2 _ h9_1 h10_1 (rlim_div hl wd_lim) (rlim_int (limz_64 (by decide) (by decide)) (by omega)) (by omega) (by omega)) ?_)
    rintro e w'' ⟨v', rfl, h', bb⟩
    exact ⟨_, rfl, h', bb, (fun h => absurd h (by decide))⟩
  · intro a' w' hF' hb hd
    obtain ⟨g, w2, ge, hr, bb, on⟩ := own_alloc (P := Tryz.prog) (w := w') (cs := [.bool false, .slice none 0 0, .slice none 0 0]) 32 ze_Rat rfl (niB (niS (niS ni0)))
    subst ge
    exact if_does (wanted_free rfl) (Does.vals (r_alloc hr) ⟨⟨_, rfl, hb.size, on⟩, bb, fun _ => rfl⟩)
  intro a w5 hF bb hall hne
  obtain ⟨vv6, e11, hh7⟩ : ∃ v, a.tmps.getD 11 undef = v ∧ Rq w5 v (rmod ((qx) / (wd)) (((96 : Int) : Rat))) := ⟨_, rfl, hall 4 11 rfl⟩
  obtain ⟨g4, e4, ge4, o4⟩ : ∃ g, a.tmps.getD 4 undef = .pointer (some ⟨g, 0, none⟩) ∧ w4.heap.size ≤ g ∧ Own w5 g [.bool false, .slice none 0 0, .slice none 0 0] := hall 5 4 rfl
  have ne3_4 : g3 ≠ g4 := Nat.ne_of_lt (Nat.lt_of_lt_of_le o3.lt ge4)
  replace ge4 : w.heap.size ≤ g4 := Nat.le_trans bel.size ge4
  clear hall hne
  replace o3 := o3.below bb
  replace bel := below_to bel bb
  clear bb
  obtain ⟨b8, ad8, n8, c8, ae8, m8, d8, rfl, hn8, hd8⟩ := Rq.shape hh7
  have hf9 := Wc.abs hn8
  replace hF := hF.add e11
  clear e11
  replace hF := hF.add e4
  clear e4
  obtain ⟨w10, hr, tu, on⟩ := st_Rat (vs := [.bool b8, .slice ad8 n8 c8, .slice ae8 m8 d8]) o4 rfl rfl (ocB (ocS (ocS oc0))) (niB (niS (niS ni0))) (o := 0) rfl
  have kp := tu.keep o4
  refine E.st hF (r_store (hF.at 0 rfl) (hF.at 1 rfl) (hr _ rfl)) rfl rfl fun a hF => ?_
  clear hr
  replace hh7 := hh7.keep kp
  replace hn8 := hn8.keep kp
  replace hf9 := hf9.keep kp
  replace hd8 := hd8.keep kp
  replace o3 := tu.own o3 ne3_4
  replace bel := tu.below bel ge4
  clear tu kp
  replace o4 := on
  clear on
  refine E.nil ?_
  refine wp_seq ?_
  refine E.seq ?_
  refine E.opv hF (r_load (hF.at 0 rfl) (ld_Rat (vs := [.bool b8, .slice ad8 n8 c8, .slice ae8 m8 d8]) o4 rfl rfl)) rfl rfl rfl rfl fun a hF => ?_
  refine E.call hF (r_call Tryz.func101 en101.1 en101.2 (map1 (hF.at 0 rfl))) (cDays_any _ (rmod ((qx) / (wd)) (((96 : Int) : Rat))) ((k + 2) + (k + 2) + 2 + 2 + 3) _ hh7 (rmod_lim (rlim_div hl wd_lim) (rlim_int (limz_64 (by decide) (by decide)) (by omega))) (by omega)) rfl rfl rfl rfl ?_
  rintro e w11 ⟨rfl, bb⟩
  refine ⟨_, rfl, ?_⟩
  intro a hF
  replace hf9 := hf9.below bb
  replace hd8 := hd8.below bb
  replace hh7 := hh7.below bb
  replace hn8 := hn8.below bb
  replace o3 := o3.below bb
  replace o4 := o4.below bb
  replace bel := below_to bel bb
  clear bb
  refine E.opv hF (r_move (hF.at 0 rfl)) rfl rfl rfl rfl fun a hF => ?_
  refine E.opv hF (r_extract (v := .int .i64 (sm64 (Rat.floor (rmod ((qx) / (wd)) (((96 : Int) : Rat)))))) (hF.at 0 rfl) rfl) rfl rfl rfl rfl fun a hF => ?_
  refine E.opv hF (r_extract (v := .bool (fit64 (Rat.floor (rmod ((qx) / (wd)) (((96 : Int) : Rat)))))) (hF.at 1 rfl) rfl) rfl rfl rfl rfl fun a hF => ?_
  refine E.opv hF (r_assign (hF.at 1 rfl)) rfl rfl rfl rfl fun a hF => ?_
  refine E.opv hF (r_assign (hF.at 1 rfl)) rfl rfl rfl rfl fun a hF => ?_
  refine E.nil ?_
  refine wp_seq ?_
  refine E.seq ?_
  refine E.opv hF (r_move (hF.at 1 rfl)) rfl rfl rfl rfl fun a hF => ?_
  refine E.opv hF (r_load (hF.at 8 rfl) (ld_Rat (vs := [.bool b8, .slice ad8 n8 c8, .slice ae8 m8 d8]) o4 rfl rfl)) rfl rfl rfl rfl fun a hF => ?_
  refine E.call hF (r_call Tryz.func95 en95.1 en95.2 (map1 (hF.at 0 rfl))) (cFrac_any _ (rmod ((qx) / (wd)) (((96 : Int) : Rat))) ((k + 2) + (k + 2) + 2 + 2 + 3) _ hh7 (rmod_lim (rlim_div hl wd_lim) (rlim_int (limz_64 (by decide) (by decide)) (by omega))) (by omega)) rfl rfl rfl rfl ?_
  rintro e w12 ⟨vv13, rfl, hh14, bb⟩
  refine ⟨_, rfl, ?_⟩
  intro a hF
  replace o3 := o3.below bb
  replace bel := below_to bel bb
  clear bb
  obtain ⟨b15, ad15, n15, c15, ae15, m15, d15, rfl, hn15, hd15⟩ := Rq.shape hh14
  have hf16 := Wc.abs hn15
  refine E.opset (L' := [(2, .int .i64 (sm64 (Rat.floor (rmod ((qx) / (wd)) (((96 : Int) : Rat)))))), (19, .agg #[.bool b15, .slice ad15 n15 c15, .slice ae15 m15 d15]), (18, .agg #[.bool b8, .slice ad8 n8 c8, .slice ae8 m8 d8]), (17, .int .i64 (sm64 (Rat.floor (rmod ((qx) / (wd)) (((96 : Int) : Rat)))))), (6, .bool (fit64 (Rat.floor (rmod ((qx) / (wd)) (((96 : Int) : Rat)))))), (5, .int .i64 (sm64 (Rat.floor (rmod ((qx) / (wd)) (((96 : Int) : Rat)))))), (16, .bool (fit64 (Rat.floor (rmod ((qx) / (wd)) (((96 : Int) : Rat)))))), (15, .int .i64 (sm64 (Rat.floor (rmod ((qx) / (wd)) (((96 : Int) : Rat)))))), (12, .tuple #[.int .i64 (sm64 (Rat.floor (rmod ((qx) / (wd)) (((96 : Int) : Rat))))), .bool (fit64 (Rat.floor (rmod ((qx) / (wd)) (((96 : Int) : Rat)))))]), (14, .tuple #[.int .i64 (sm64 (Rat.floor (rmod ((qx) / (wd)) (((96 : Int) : Rat))))), .bool (fit64 (Rat.floor (rmod ((qx) / (wd)) (((96 : Int) : Rat)))))]), (13, .agg #[.bool b8, .slice ad8 n8 c8, .slice ae8 m8 d8]), (4, .pointer (some ⟨g4, 0, none⟩)), (11, .agg #[.bool b8, .slice ad8 n8 c8, .slice ae8 m8 d8]), (3, .pointer (some ⟨g3, 0, none⟩)), (1, .pointer (some ⟨g1, 0, none⟩)), (0, .agg #[.bool b1, .slice ad1 n1 c1, .slice ae1 m1 d1])]) hF (r_assign (hF.at 2 rfl)) rfl rfl rfl rfl fun a hF => ?_
  obtain ⟨w17, hr, tu, on⟩ := st_Rat (vs := [.bool b15, .slice ad15 n15 c15, .slice ae15 m15 d15]) o3 rfl rfl (ocB (ocS (ocS oc0))) (niB (niS (niS ni0))) (o := 0) rfl
  have kp := tu.keep o3
  refine E.st hF (r_store (hF.at 13 rfl) (hF.at 1 rfl) (hr _ rfl)) rfl rfl fun a hF => ?_
  clear hr
  replace hh14 := hh14.keep kp
  replace hn15 := hn15.keep kp
  replace hf16 := hf16.keep kp
  replace hd15 := hd15.keep kp
  replace bel := tu.below bel ge3
  clear tu kp
  replace o3 := on
  clear on
  refine E.nil ?_
  refine wp_ret ?_
  refine bodyPost_ret (res_tmpcell Tryz.results131 (hF.at 0 rfl) (hF.at 13 rfl) (ld_Rat (vs := [.bool b15, .slice ad15 n15 c15, .slice ae15 m15 d15]) o3 rfl rfl)) hF.dfr ?_
  exact ⟨_, rv_iv (pk_sm qx), hh14, bel⟩

set_option maxHeartbeats 4000000 in
theorem sof_any (v1 : Value) (qx : Rat) (k : Nat) (w : World) (hT : TabD w) (h1 : Rq w v1 qx) (hl : RLim qx k) (hk : k ≤ 800) :
    Calls Tryz.prog 98 #[v1] w (RqPost w (sof qx)) := by
  have bel : Below w.heap.size w w := Below.refl _ _
  refine E.enter (nt := 23) (L := [(0, v1)]) Tryz.func98 rfl rfl rfl (args_cons (i := 0) rfl args_nil) ?_
  intro a hF
  refine wp_seq ?_
  refine E.seq ?_
  obtain ⟨b1, ad1, n1, c1, ae1, m1, d1, rfl, hn1, hd1⟩ := Rq.shape h1
  have hf2 := Wc.abs hn1
  obtain ⟨g1, w3, ge1, hr, bb, o1⟩ := own_box (P := Tryz.prog) (w := w) (cs := [.bool b1, .slice ad1 n1 c1, .slice ae1 m1 d1]) (v := .agg #[.bool b1, .slice ad1 n1 c1, .slice ae1 m1 d1]) 32 rfl (niB (niS (niS ni0)))
  replace ge1 : w.heap.size ≤ g1 := by rw [← ge1]; exact bel.size
  refine E.opv hF (r_box (hF.at 0 rfl) hr) rfl rfl rfl rfl fun a hF => ?_
  clear hr
  replace h1 := h1.below bb
  replace hn1 := hn1.below bb
  replace hf2 := hf2.below bb
  replace hd1 := hd1.below bb
  replace bel := below_to bel bb
  clear bb
  obtain ⟨g2, w4, ge2, hr, bb, o2⟩ := own_alloc (P := Tryz.prog) (w := w3) (cs := [.bool false, .slice none 0 0, .slice none 0 0]) 32 ze_Rat rfl (niB (niS (niS ni0)))
  have ne1_2 : g1 ≠ g2 := by rw [← ge2]; exact o1.ne_new
  replace ge2 : w.heap.size ≤ g2 := by rw [← ge2]; exact bel.size
  refine E.opv hF (r_alloc hr) rfl rfl rfl rfl fun a hF => ?_
  clear hr
  replace hf2 := hf2.below bb
  replace hd1 := hd1.below bb
  replace h1 := h1.below bb
  replace hn1 := hn1.below bb
  replace o1 := o1.below bb
  replace bel := below_to bel bb
  clear bb
  refine E.nil ?_
  refine wp_seq ?_
  refine E.seq ?_
  refine E.opv hF (r_load (hF.at 1 rfl) (ld_Rat (vs := [.bool b1, .slice ad1 n1 c1, .slice ae1 m1 d1]) o1 rfl rfl)) rfl rfl rfl rfl fun a hF => ?_
  refine E.call hF (r_call Tryz.func131 en131.1 en131.2 (map1 (hF.at 0 rfl))) (place_any _ (qx) k _ h1 hl (by omega)) rfl rfl rfl rfl ?_
  rintro e w5 ⟨vv6, rfl, hh7, bb⟩
  refine ⟨_, rfl, ?_⟩
  intro a hF
  have hpk := pk_bd (qx)
  replace o2 := o2.below bb
  replace bel := below_to bel bb
  clear bb
  obtain ⟨b8, ad8, n8, c8, ae8, m8, d8, rfl, hn8, hd8⟩ := Rq.shape hh7
  have hf9 := Wc.abs hn8
  refine E.opv hF (r_move (hF.at 0 rfl)) rfl rfl rfl rfl fun a hF => ?_
  refine E.opv hF (r_extract (v := .int .i64 (pk (qx))) (hF.at 0 rfl) rfl) rfl rfl rfl rfl fun a hF => ?_
  refine E.opv hF (r_extract (v := .agg #[.bool b8, .slice ad8 n8 c8, .slice ae8 m8 d8]) (hF.at 1 rfl) rfl) rfl rfl rfl rfl fun a hF => ?_
  obtain ⟨g4, w10, ge4, hr, bb, o4⟩ := own_alloc (P := Tryz.prog) (w := w5) (cs := [.bool false, .slice none 0 0, .slice none 0 0]) 32 ze_Rat rfl (niB (niS (niS ni0)))
  have ne2_4 : g2 ≠ g4 := by rw [← ge4]; exact o2.ne_new
  replace ge4 : w.heap.size ≤ g4 := by rw [← ge4]; exact bel.size
  refine E.opv hF (r_alloc hr) rfl rfl rfl rfl fun a hF => ?_
  clear hr
  replace hh7 := hh7.below bb
  replace hn8 := hn8.below bb
  replace hf9 := hf9.below bb
  replace hd8 := hd8.below bb
  replace o2 := o2.below bb
  replace bel := below_to bel bb
  clear bb
  refine E.opv hF (r_assign (hF.at 2 rfl)) rfl rfl rfl rfl fun a hF => ?_
  obtain ⟨w11, hr, tu, on⟩ := st_Rat (vs := [.bool b8, .slice ad8 n8 c8, .slice ae8 m8 d8]) o4 rfl rfl (ocB (ocS (ocS oc0))) (niB (niS (niS ni0))) (o := 0) rfl
  have kp := tu.keep o4
  refine E.st hF (r_store (hF.at 1 rfl) (hF.at 2 rfl) (hr _ rfl)) rfl rfl fun a hF => ?_
  clear hr
  replace hh7 := hh7.keep kp
  replace hn8 := hn8.keep kp
  replace hf9 := hf9.keep kp
  replace hd8 := hd8.keep kp
  replace o2 := tu.own o2 ne2_4
  replace bel := tu.below bel ge4
  clear tu kp
  replace o4 := on
  clear on
  refine E.nil ?_
  refine wp_seq ?_
  refine E.drawn 10 mixed hF [11, 12, 13, 14, 15, 16, 17, 18, 19, 5] [(fun _ v => v = .int .i64 (pk (qx))), (fun _ v => v = .int .i64 (spk (pk (qx)))), (fun w v => Rq w v (((spk (pk (qx)) : Int) : Rat))), (fun _ v => v = .agg #[.bool b8, .slice ad8 n8 c8, .slice ae8 m8 d8]), (fun _ v => v = .int .i64 (pk (qx))), (fun _ v => v = .int .i64 (spk (pk (qx) + 1) - spk (pk (qx)))), (fun w v => Rq w v (((spk (pk (qx) + 1) - spk (pk (qx)) : Int) : Rat))), (fun w v => Rq w v ((pfr (qx)) * (((spk (pk (qx) + 1) - spk (pk (qx)) : Int) : Rat)))), (fun w v => Rq w v ((((spk (pk (qx)) : Int) : Rat)) + ((pfr (qx)) * (((spk (pk (qx) + 1) - spk (pk (qx)) : Int) : Rat))))), (fun w v => ∃ g, v = .pointer (some ⟨g, 0, none⟩) ∧ w11.heap.size ≤ g ∧ Own w g [.bool false, .slice none 0 0, .slice none 0 0])] [9] (by decide +kernel) (by decide +kernel) rfl rfl rfl ⟨(Mb.eq _), (Mb.eq _), (fun _ _ _ h hb => h.below hb), (Mb.eq _), (Mb.eq _), (Mb.eq _), (fun _ _ _ h hb => h.below hb), (fun _ _ _ h hb => h.below hb), (fun _ _ _ h hb => h.below hb), (fun _ _ _ ⟨g, e, l, o⟩ hb => ⟨g, e, l, o.below hb⟩), trivial⟩ ⟨fun _ _ ⟨g, e, _, o⟩ => ⟨g, e, o.lt⟩, trivial⟩ ⟨?_, ?_, ?_, ?_, ?_, ?_, ?_, ?_, ?_, ?_, trivial⟩ ?_
  · intro a' w' hF' hb hd
    exact if_does (wanted_free rfl) (Does.vals (r_move (hF'.at 0 rfl)) ⟨rfl, Below.refl _ _, (fun h => absurd h (by decide))⟩)
  · intro a' w' hF' hb hd
    have e11 : a'.tmps.getD 11 undef = .int .i64 (pk (qx)) := hd _ 11 (Array.mem_of_getElem? (i := 0) rfl) rfl rfl
    refine if_does (wanted_free rfl) (Does.calls (r_call Tryz.func132 en132.1 en132.2 (map1 e11)) (dsine_any (pk (qx)) _ (hT.below (below_to bel hb))) ?_)
    rintro e w'' ⟨rfl, bb⟩
    exact ⟨_, rfl, rfl, bb, (fun h => absurd h (by decide))⟩
  · intro a' w' hF' hb hd
    have e12 : a'.tmps.getD 12 undef = .int .i64 (spk (pk (qx))) := hd _ 12 (Array.mem_of_getElem? (i := 0) rfl) rfl rfl
    refine if_does (wanted_free rfl) (Does.calls (r_call Tryz.func62 en62.1 en62.2 (map1 e12)) (rWhole_any (spk (pk (qx))) _ (spk64 (pk (qx))).1 (spk64 (pk (qx))).2) ?_)
    rintro e w'' ⟨v', rfl, h', bb⟩
    exact ⟨_, rfl, h', bb, (fun h => absurd h (by decide))⟩
  · intro a' w' hF' hb hd
    exact if_does (wanted_free rfl) (Does.vals (r_load (hF'.at 1 rfl) (ld_Rat (vs := [.bool b8, .slice ad8 n8 c8, .slice ae8 m8 d8]) (o4.below hb) rfl rfl)) ⟨rfl, Below.refl _ _, (fun h => absurd h (by decide))⟩)
  · intro a' w' hF' hb hd
    exact if_does (wanted_free rfl) (Does.vals (r_move (hF'.at 0 rfl)) ⟨rfl, Below.refl _ _, (fun h => absurd h (by decide))⟩)
  · intro a' w' hF' hb hd
    have e15 : a'.tmps.getD 15 undef = .int .i64 (pk (qx)) := hd _ 15 (Array.mem_of_getElem? (i := 0) rfl) rfl rfl
    refine if_does (wanted_free rfl) (Does.calls (r_call Tryz.func133 en133.1 en133.2 (map1 e15)) (rise_any (pk (qx)) _ (hT.below (below_to bel hb)) (by omega) (by omega)) ?_)
    rintro e w'' ⟨rfl, bb⟩
    exact ⟨_, rfl, rfl, bb, (fun h => absurd h (by decide))⟩
  · intro a' w' hF' hb hd
    have e16 : a'.tmps.getD 16 undef = .int .i64 (spk (pk (qx) + 1) - spk (pk (qx))) := hd _ 16 (Array.mem_of_getElem? (i := 0) rfl) rfl rfl
    refine if_does (wanted_free rfl) (Does.calls (r_call Tryz.func62 en62.1 en62.2 (map1 e16)) (rWhole_any (spk (pk (qx) + 1) - spk (pk (qx))) _ (dif64 (pk (qx))).1 (dif64 (pk (qx))).2) ?_)
    rintro e w'' ⟨v', rfl, h', bb⟩
    exact ⟨_, rfl, h', bb, (fun h => absurd h (by decide))⟩
  · intro a' w' hF' hb hd
    have e14 : a'.tmps.getD 14 undef = .agg #[.bool b8, .slice ad8 n8 c8, .slice ae8 m8 d8] := hd _ 14 (Array.mem_of_getElem? (i := 0) rfl) rfl rfl
    obtain ⟨v17_0, e17, h17_1⟩ : ∃ v, a'.tmps.getD 17 undef = v ∧ Rq w' v (((spk (pk (qx) + 1) - spk (pk (qx)) : Int) : Rat)) := ⟨_, rfl, hd _ 17 (Array.mem_of_getElem? (i := 1) rfl) rfl rfl⟩
    refine if_does (wanted_free rfl) (Does.calls (r_call Tryz.func97 en97.1 en97.2 (map2 e14 e17)) (rMul_any _ _ (pfr (qx)) (((spk (pk (qx) + 1) - spk (pk (qx)) : Int) : Rat)) (max (4 * k + 50) 2) _ (hh7.below hb) h17_1 ((pfr_lim hl).up _ (by omega)) ((rlim_int (limz_64 (dif64 (pk (qx))).1 (dif64 (pk (qx))).2) (by omega)).up _ (by omega)) (by omega)) ?_)
    rintro e w'' ⟨v', rfl, h', bb⟩
    exact ⟨_, rfl, h', bb, (fun h => absurd h (by decide))⟩
  · intro a' w' hF' hb hd
    obtain ⟨v13_0, e13, h13_1⟩ : ∃ v, a'.tmps.getD 13 undef = v ∧ Rq w' v (((spk (pk (qx)) : Int) : Rat)) := ⟨_, rfl, hd _ 13 (Array.mem_of_getElem? (i := 0) rfl) rfl rfl⟩
    obtain ⟨v18_0, e18, h18_1⟩ : ∃ v, a'.tmps.getD 18 undef = v ∧ Rq w' v ((pfr (qx)) * (((spk (pk (qx) + 1) - spk (pk (qx)) : Int) : Rat))) := ⟨_, rfl, hd _ 18 (Array.mem_of_getElem? (i := 1) rfl) rfl rfl⟩
    refine if_does (wanted_free rfl) (Does.calls (r_call Tryz.func59 en59.1 en59.2 (map2 e13 e18)) (rAdd_any _ _ (((spk (pk (qx)) : Int) : Rat)) ((pfr (qx)) * (((spk (pk (qx) + 1) - spk (pk (qx)) : Int) : Rat))) (max 2 ((4 * k + 50) + 2)) _ h13_1 h18_1 ((rlim_int (limz_64 (spk64 (pk (qx))).1 (spk64 (pk (qx))).2) (by omega)).up _ (by omega)) ((rlim_mul (pfr_lim hl) (rlim_int (limz_64 (dif64 (pk (qx))).1 (dif64 (pk (qx))).2) (by omega))).up _ (by omega)) (by omega)) ?_)
    rintro e w'' ⟨v', rfl, h', bb⟩
    exact ⟨_, rfl, h', bb, (fun h => absurd h (by decide))⟩
  · intro a' w' hF' hb hd
    obtain ⟨g, w2, ge, hr, bb, on⟩ := own_alloc (P := Tryz.prog) (w := w') (cs := [.bool false, .slice none 0 0, .slice none 0 0]) 32 ze_Rat rfl (niB (niS (niS ni0)))
    subst ge
    exact if_does (wanted_free rfl) (Does.vals (r_alloc hr) ⟨⟨_, rfl, hb.size, on⟩, bb, fun _ => rfl⟩)
  intro a w12 hF bb hall hne
  obtain ⟨vv13, e19, hh14⟩ : ∃ v, a.tmps.getD 19 undef = v ∧ Rq w12 v ((((spk (pk (qx)) : Int) : Rat)) + ((pfr (qx)) * (((spk (pk (qx) + 1) - spk (pk (qx)) : Int) : Rat)))) := ⟨_, rfl, hall 8 19 rfl⟩
  obtain ⟨g5, e5, ge5, o5⟩ : ∃ g, a.tmps.getD 5 undef = .pointer (some ⟨g, 0, none⟩) ∧ w11.heap.size ≤ g ∧ Own w12 g [.bool false, .slice none 0 0, .slice none 0 0] := hall 9 5 rfl
  have ne2_5 : g2 ≠ g5 := Nat.ne_of_lt (Nat.lt_of_lt_of_le o2.lt ge5)
  replace ge5 : w.heap.size ≤ g5 := Nat.le_trans bel.size ge5
  clear hall hne
  replace o2 := o2.below bb
  replace bel := below_to bel bb
  clear bb
  obtain ⟨b15, ad15, n15, c15, ae15, m15, d15, rfl, hn15, hd15⟩ := Rq.shape hh14
  have hf16 := Wc.abs hn15
  replace hF := hF.add e19
  clear e19
  replace hF := hF.add e5
  clear e5
  obtain ⟨w17, hr, tu, on⟩ := st_Rat (vs := [.bool b15, .slice ad15 n15 c15, .slice ae15 m15 d15]) o5 rfl rfl (ocB (ocS (ocS oc0))) (niB (niS (niS ni0))) (o := 0) rfl
  have kp := tu.keep o5
  refine E.st hF (r_store (hF.at 0 rfl) (hF.at 1 rfl) (hr _ rfl)) rfl rfl fun a hF => ?_
  clear hr
  replace hh14 := hh14.keep kp
  replace hn15 := hn15.keep kp
  replace hf16 := hf16.keep kp
  replace hd15 := hd15.keep kp
  replace o2 := tu.own o2 ne2_5
  replace bel := tu.below bel ge5
  clear tu kp
  replace o5 := on
  clear on
  refine E.nil ?_
  refine wp_seq ?_
  refine E.drawn 3 mixed hF [20, 21, 22] [(fun _ v => v = .agg #[.bool b15, .slice ad15 n15 c15, .slice ae15 m15 d15]), (fun w v => Rq w v (((3438 : Int) : Rat))), (fun w v => Rq w v (((((spk (pk (qx)) : Int) : Rat)) + ((pfr (qx)) * (((spk (pk (qx) + 1) - spk (pk (qx)) : Int) : Rat)))) / (((3438 : Int) : Rat))))] [] (by decide +kernel) (by decide +kernel) rfl rfl rfl ⟨(Mb.eq _), (fun _ _ _ h hb => h.below hb), (fun _ _ _ h hb => h.below hb), trivial⟩ trivial ⟨?_, ?_, ?_, trivial⟩ ?_
  · intro a' w' hF' hb hd
    exact if_does (wanted_free rfl) (Does.vals (r_load (hF'.at 0 rfl) (ld_Rat (vs := [.bool b15, .slice ad15 n15 c15, .slice ae15 m15 d15]) (o5.below hb) rfl rfl)) ⟨rfl, Below.refl _ _, (fun h => absurd h (by decide))⟩)
  · intro a' w' hF' hb hd
    refine if_does (wanted_free rfl) (Does.calls (r_call Tryz.func62 en62.1 en62.2 (map1 ev_c)) (rWhole_any (3438) _ (by decide) (by decide)) ?_)
    rintro e w'' ⟨v', rfl, h', bb⟩
    exact ⟨_, rfl, h', bb, (fun h => absurd h (by decide))⟩
  · intro a' w' hF' hb hd
    have e20 : a'.tmps.getD 20 undef = .agg #[.bool b15, .slice ad15 n15 c15, .slice ae15 m15 d15] := hd _ 20 (Array.mem_of_getElem? (i := 0) rfl) rfl rfl
    obtain ⟨v21_0, e21, h21_1⟩ : ∃ v, a'.tmps.getD 21 undef = v ∧ Rq w' v (((3438 : Int) : Rat)) := ⟨_, rfl, hd _ 21 (Array.mem_of_getElem? (i := 1) rfl) rfl rfl⟩
    refine if_does (wanted_free rfl) (Does.calls (r_call Tryz.func128 en128.1 en128.2 (map2 e20 e21)) (rDiv_any _ _ ((((spk (pk (qx)) : Int) : Rat)) + ((pfr (qx)) * (((spk (pk (qx) + 1) - spk (pk (qx)) : Int) : Rat)))) (((3438 : Int) : Rat)) (max (2 + ((4 * k + 50) + 2) + 1) 2) _ (hh14.below hb) h21_1 ((rlim_add (rlim_int (limz_64 (spk64 (pk (qx))).1 (spk64 (pk (qx))).2) (by omega)) (rlim_mul (pfr_lim hl) (rlim_int (limz_64 (dif64 (pk (qx))).1 (dif64 (pk (qx))).2) (by omega)))).up _ (by omega)) ((rlim_int (limz_64 (by decide) (by decide)) (by omega)).up _ (by omega)) (by omega)) ?_)
    rintro e w'' ⟨v', rfl, h', bb⟩
    exact ⟨_, rfl, h', bb, (fun h => absurd h (by decide))⟩
  intro a w18 hF bb hall hne
  obtain ⟨vv19, e22, hh20⟩ : ∃ v, a.tmps.getD 22 undef = v ∧ Rq w18 v (((((spk (pk (qx)) : Int) : Rat)) + ((pfr (qx)) * (((spk (pk (qx) + 1) - spk (pk (qx)) : Int) : Rat)))) / (((3438 : Int) : Rat))) := ⟨_, rfl, hall 2 22 rfl⟩
  clear hall hne
  replace o2 := o2.below bb
  replace bel := below_to bel bb
  clear bb
  obtain ⟨b21, ad21, n21, c21, ae21, m21, d21, rfl, hn21, hd21⟩ := Rq.shape hh20
  have hf22 := Wc.abs hn21
  replace hF := hF.add e22
  clear e22
  obtain ⟨w23, hr, tu, on⟩ := st_Rat (vs := [.bool b21, .slice ad21 n21 c21, .slice ae21 m21 d21]) o2 rfl rfl (ocB (ocS (ocS oc0))) (niB (niS (niS ni0))) (o := 0) rfl
  have kp := tu.keep o2
  refine E.st hF (r_store (hF.at 10 rfl) (hF.at 0 rfl) (hr _ rfl)) rfl rfl fun a hF => ?_
  clear hr
  replace hh20 := hh20.keep kp
  replace hn21 := hn21.keep kp
  replace hf22 := hf22.keep kp
  replace hd21 := hd21.keep kp
  replace bel := tu.below bel ge2
  clear tu kp
  replace o2 := on
  clear on
  refine E.nil ?_
  refine wp_ret ?_
  refine bodyPost_ret (res_cell Tryz.results98 (hF.at 10 rfl) (ld_Rat (vs := [.bool b21, .slice ad21 n21 c21, .slice ae21 m21 d21]) o2 rfl rfl)) hF.dfr ?_
  exact ⟨_, rfl, Rq.castM hh20 (sof_pk qx), bel⟩

set_option maxHeartbeats 8000000 in
theorem arc_pos (v1 : Value) (qx : Rat) (k : Nat) (w : World) (hT : TabD w) (h1 : Rq w v1 qx) (hl : RLim qx k) (hk : k ≤ 1000) (hn : ¬ sz (Rat.num qx) < 0) :
    Calls Tryz.prog 100 #[v1] w (RqPost w (arcv qx)) := by
  have hx : ¬ qx < 0 := fun e => hn (sz_lt0.2 e)
  have bel : Below w.heap.size w w := Below.refl _ _
  refine E.enter (nt := 45) (L := [(0, v1)]) Tryz.func100 rfl rfl rfl (args_cons (i := 0) rfl args_nil) ?_
  intro a hF
  refine wp_seq ?_
  refine E.seq ?_
  obtain ⟨b1, ad1, n1, c1, ae1, m1, d1, rfl, hn1, hd1⟩ := Rq.shape h1
  have hf2 := Wc.abs hn1
  obtain ⟨g1, w3, ge1, hr, bb, o1⟩ := own_box (P := Tryz.prog) (w := w) (cs := [.bool b1, .slice ad1 n1 c1, .slice ae1 m1 d1]) (v := .agg #[.bool b1, .slice ad1 n1 c1, .slice ae1 m1 d1]) 32 rfl (niB (niS (niS ni0)))
  replace ge1 : w.heap.size ≤ g1 := by rw [← ge1]; exact bel.size
  refine E.opv hF (r_box (hF.at 0 rfl) hr) rfl rfl rfl rfl fun a hF => ?_
  clear hr
  replace h1 := h1.below bb
  replace hn1 := hn1.below bb
  replace hf2 := hf2.below bb
  replace hd1 := hd1.below bb
  replace bel := below_to bel bb
  clear bb
  obtain ⟨g2, w4, ge2, hr, bb, o2⟩ := own_alloc (P := Tryz.prog) (w := w3) (cs := [.bool false, .slice none 0 0, .slice none 0 0]) 32 ze_Rat rfl (niB (niS (niS ni0)))
  have ne1_2 : g1 ≠ g2 := by rw [← ge2]; exact o1.ne_new
  replace ge2 : w.heap.size ≤ g2 := by rw [← ge2]; exact bel.size
  refine E.opv hF (r_alloc hr) rfl rfl rfl rfl fun a hF => ?_
  clear hr
  replace hf2 := hf2.below bb
  replace hd1 := hd1.below bb
  replace h1 := h1.below bb
  replace hn1 := hn1.below bb
  replace o1 := o1.below bb
  replace bel := below_to bel bb
  clear bb
  refine E.nil ?_
  refine wp_seq ?_
  refine wp_seq ?_
  refine E.seq ?_
  refine E.opv hF (r_load (hF.at 1 rfl) (ld_Rat (vs := [.bool b1, .slice ad1 n1 c1, .slice ae1 m1 d1]) o1 rfl rfl)) rfl rfl rfl rfl fun a hF => ?_
  refine E.call hF (r_call Tryz.func25 en25.1 en25.2 (map1 (hF.at 0 rfl))) (rsgn_any _ (qx) _ h1) rfl rfl rfl rfl ?_
  rintro e w5 ⟨rfl, bb⟩
  refine ⟨_, rfl, ?_⟩
  intro a hF
  replace hf2 := hf2.below bb
  replace hd1 := hd1.below bb
  replace h1 := h1.below bb
  replace hn1 := hn1.below bb
  replace o1 := o1.below bb
  replace o2 := o2.below bb
  replace bel := below_to bel bb
  clear bb
  refine E.opv hF (r_bin (hF.at 0 rfl) ev_c eg_scalar (bi_int (ic_lss (c := false) (dec_ff hn)) (by simp))) rfl rfl rfl rfl fun a hF => ?_
  refine E.nil ?_
  refine wp_cond_false (hF.at 0 rfl) ?_
  refine wp_skip ?_
  refine E.norm ?_
  refine wp_seq ?_
  refine E.drawn 4 mixed hF [14, 15, 16, 3] [(fun _ v => v = .agg #[.bool b1, .slice ad1 n1 c1, .slice ae1 m1 d1]), (fun w v => Rq w v (((3438 : Int) : Rat))), (fun w v => Rq w v ((qx) * (((3438 : Int) : Rat)))), (fun w v => ∃ g, v = .pointer (some ⟨g, 0, none⟩) ∧ w5.heap.size ≤ g ∧ Own w g [.bool false, .slice none 0 0, .slice none 0 0])] [3] (by decide +kernel) (by decide +kernel) rfl rfl rfl ⟨(Mb.eq _), (fun _ _ _ h hb => h.below hb), (fun _ _ _ h hb => h.below hb), (fun _ _ _ ⟨g, e, l, o⟩ hb => ⟨g, e, l, o.below hb⟩), trivial⟩ ⟨fun _ _ ⟨g, e, _, o⟩ => ⟨g, e, o.lt⟩, trivial⟩ ⟨?_, ?_, ?_, ?_, trivial⟩ ?_
  · intro a' w' hF' hb hd
    exact if_does (wanted_free rfl) (Does.vals (r_load (hF'.at 4 rfl) (ld_Rat (vs := [.bool b1, .slice ad1 n1 c1, .slice ae1 m1 d1]) (o1.below hb) rfl rfl)) ⟨rfl, Below.refl _ _, (fun h => absurd h (by decide))⟩)
  · intro a' w' hF' hb hd
    refine if_does (wanted_free rfl) (Does.calls (r_call Tryz.func62 en62.1 en62.2 (map1 ev_c)) (rWhole_any (3438) _ (by decide) (by decide)) ?_)
    rintro e w'' ⟨v', rfl, h', bb⟩
    exact ⟨_, rfl, h', bb, (fun h => absurd h (by decide))⟩
  · intro a' w' hF' hb hd
    have e14 : a'.tmps.getD 14 undef = .agg #[.bool b1, .slice ad1 n1 c1, .slice ae1 m1 d1] := hd _ 14 (Array.mem_of_getElem? (i := 0) rfl) rfl rfl
    obtain ⟨v15_0, e15, h15_1⟩ : ∃ v, a'.tmps.getD 15 undef = v ∧ Rq w' v (((3438 : Int) : Rat)) := ⟨_, rfl, hd _ 15 (Array.mem_of_getElem? (i := 1) rfl) rfl rfl⟩
    refine if_does (wanted_free rfl) (Does.calls (r_call Tryz.func97 en97.1 en97.2 (map2 e14 e15)) (rMul_any _ _ (qx) (((3438 : Int) : Rat)) (max k 2) _ (h1.below hb) h15_1 (hl.up _ (by omega)) ((rlim_int (limz_64 (by decide) (by decide)) (by omega)).up _ (by omega)) (by omega)) ?_)
    rintro e w'' ⟨v', rfl, h', bb⟩
    exact ⟨_, rfl, h', bb, (fun h => absurd h (by decide))⟩
  · intro a' w' hF' hb hd
    obtain ⟨g, w2, ge, hr, bb, on⟩ := own_alloc (P := Tryz.prog) (w := w') (cs := [.bool false, .slice none 0 0, .slice none 0 0]) 32 ze_Rat rfl (niB (niS (niS ni0)))
    subst ge
    exact if_does (wanted_free rfl) (Does.vals (r_alloc hr) ⟨⟨_, rfl, hb.size, on⟩, bb, fun _ => rfl⟩)
  intro a w6 hF bb hall hne
  obtain ⟨vv7, e16, hh8⟩ : ∃ v, a.tmps.getD 16 undef = v ∧ Rq w6 v ((qx) * (((3438 : Int) : Rat))) := ⟨_, rfl, hall 2 16 rfl⟩
  obtain ⟨g3, e3, ge3, o3⟩ : ∃ g, a.tmps.getD 3 undef = .pointer (some ⟨g, 0, none⟩) ∧ w5.heap.size ≤ g ∧ Own w6 g [.bool false, .slice none 0 0, .slice none 0 0] := hall 3 3 rfl
  have ne2_3 : g2 ≠ g3 := Nat.ne_of_lt (Nat.lt_of_lt_of_le o2.lt ge3)
  replace ge3 : w.heap.size ≤ g3 := Nat.le_trans bel.size ge3
  clear hall hne
  replace o2 := o2.below bb
  replace bel := below_to bel bb
  clear bb
  obtain ⟨b9, ad9, n9, c9, ae9, m9, d9, rfl, hn9, hd9⟩ := Rq.shape hh8
  have hf10 := Wc.abs hn9
  replace hF := hF.add e16
  clear e16
  replace hF := hF.add e3
  clear e3
  obtain ⟨w11, hr, tu, on⟩ := st_Rat (vs := [.bool b9, .slice ad9 n9 c9, .slice ae9 m9 d9]) o3 rfl rfl (ocB (ocS (ocS oc0))) (niB (niS (niS ni0))) (o := 0) rfl
  have kp := tu.keep o3
  refine E.st hF (r_store (hF.at 0 rfl) (hF.at 1 rfl) (hr _ rfl)) rfl rfl fun a hF => ?_
  clear hr
  replace hh8 := hh8.keep kp
  replace hn9 := hn9.keep kp
  replace hf10 := hf10.keep kp
  replace hd9 := hd9.keep kp
  replace o2 := tu.own o2 ne2_3
  replace bel := tu.below bel ge3
  clear tu kp
  replace o3 := on
  clear on
  refine E.nil ?_
  refine wp_seq ?_
  refine wp_seq ?_
  refine E.seq ?_
  refine E.opv hF (r_move ev_c) rfl rfl rfl rfl fun a hF => ?_
  refine E.nil ?_
  refine wp_block ?_
  have nint := nn1 o2.noInt
  refine E.loop (fun mq a wv => ∃ (j : Nat), j ≤ 24 ∧ ykf (qx * ((3438 : Int) : Rat)) (24 - j) j = yk (qx * ((3438 : Int) : Rat)) ∧ Fr 45 a [(17, .int .i64 ((j : Nat) : Int)), (3, .pointer (some ⟨g3, 0, none⟩)), (2, .pointer (some ⟨g2, 0, none⟩))] ∧ Stay [g2] w11 wv ∧ Below w.heap.size w wv ∧ Own wv g2 [.bool false, .slice none 0 0, .slice none 0 0] ∧ Rq wv (.agg #[.bool false, .slice none 0 0, .slice none 0 0]) 0 ∧ mq = 24 - j) (24 - 0) ?_ ?_
  · exact ⟨0, (by omega), rfl, hF.sub (by intro p hp; simp only [List.mem_cons, List.not_mem_nil, or_false] at hp ⊢; rcases hp with rfl | rfl | rfl <;> simp), Stay.refl _ _, bel, o2, (Rq.zero _), rfl⟩
  · rintro mq a w12 ⟨j, hj, hyk, hF, sty, bel, o2, hz0, hm⟩
    have kps := sty.keep nint
    replace hf10 := hf10.keep kps
    replace hd9 := hd9.keep kps
    replace hh8 := hh8.keep kps
    replace hn9 := hn9.keep kps
    replace o3 := sty.own o3 (by simp only [List.mem_cons, List.not_mem_nil, or_false]; first | exact (Ne.symm ne2_3) | (intro e; exact (Ne.symm ne2_3) e))
    clear kps
    by_cases hjn : j < 24
    · refine wp_seq ?_
      refine E.seq ?_
      refine E.opv hF (r_bin (hF.at 0 rfl) ev_c eg_scalar (bi_int (ic_lss (c := true) (dec_tt (by omega))) (by simp))) rfl rfl rfl rfl fun a hF => ?_
      refine E.nil ?_
      refine wp_seq ?_
      refine wp_cond_true (hF.at 0 rfl) ?_
      refine wp_skip ?_
      refine E.norm ?_
      refine wp_seq ?_
      refine wp_block ?_
      refine wp_seq ?_
      refine E.seq ?_
      refine E.opv hF (r_move (hF.at 1 rfl)) rfl rfl rfl rfl fun a hF => ?_
      refine E.opv hF (r_assign (hF.at 0 rfl)) rfl rfl rfl rfl fun a hF => ?_
      refine E.nil ?_
      refine wp_seq ?_
      refine wp_seq ?_
      by_cases hc13 : 0 < qc ((qx) * (((3438 : Int) : Rat))) (((spk (((j : Nat) : Int) + 1) : Int) : Rat))
      · refine E.drawn 7 mixed hF [20, 21, 22, 23, 24, 25, 26] [(fun _ v => v = .agg #[.bool b9, .slice ad9 n9 c9, .slice ae9 m9 d9]), (fun _ v => v = .int .i64 ((j : Nat) : Int)), (fun _ v => v = .int .i64 (((j : Nat) : Int) + 1)), (fun _ v => v = .int .i64 (spk (((j : Nat) : Int) + 1))), (fun w v => Rq w v (((spk (((j : Nat) : Int) + 1) : Int) : Rat))), (fun _ v => v = .int .i64 (qc ((qx) * (((3438 : Int) : Rat))) (((spk (((j : Nat) : Int) + 1) : Int) : Rat)))), (fun _ v => v = .bool true)] [] (by decide +kernel) (by decide +kernel) rfl rfl rfl ⟨(Mb.eq _), (Mb.eq _), (Mb.eq _), (Mb.eq _), (fun _ _ _ h hb => h.below hb), (Mb.eq _), (Mb.eq _), trivial⟩ trivial ⟨?_, ?_, ?_, ?_, ?_, ?_, ?_, trivial⟩ ?_
        · intro a' w' hF' hb hd
          exact if_does (wanted_free rfl) (Does.vals (r_load (hF'.at 4 rfl) (ld_Rat (vs := [.bool b9, .slice ad9 n9 c9, .slice ae9 m9 d9]) (o3.below hb) rfl rfl)) ⟨rfl, Below.refl _ _, (fun h => absurd h (by decide))⟩)
        · intro a' w' hF' hb hd
          exact if_does (wanted_free rfl) (Does.vals (r_move (hF'.at 0 rfl)) ⟨rfl, Below.refl _ _, (fun h => absurd h (by decide))⟩)
        · intro a' w' hF' hb hd
          have e21 : a'.tmps.getD 21 undef = .int .i64 ((j : Nat) : Int) := hd _ 21 (Array.mem_of_getElem? (i := 0) rfl) rfl rfl
          exact if_does (wanted_free rfl) (Does.vals (r_bin e21 ev_c eg_scalar (ia_add (by omega) (by omega))) ⟨rfl, Below.refl _ _, (fun h => absurd h (by decide))⟩)
        · intro a' w' hF' hb hd
          have e22 : a'.tmps.getD 22 undef = .int .i64 (((j : Nat) : Int) + 1) := hd _ 22 (Array.mem_of_getElem? (i := 0) rfl) rfl rfl
          refine if_does (wanted_free rfl) (Does.calls (r_call Tryz.func135 en135.1 en135.2 (map1 e22)) (high_spk (((j : Nat) : Int) + 1) _ (hT.below (below_to bel hb)) (by omega) (by omega)) ?_)
          rintro e w'' ⟨rfl, bb⟩
          exact ⟨_, rfl, rfl, bb, (fun h => absurd h (by decide))⟩
        · intro a' w' hF' hb hd
          have e23 : a'.tmps.getD 23 undef = .int .i64 (spk (((j : Nat) : Int) + 1)) := hd _ 23 (Array.mem_of_getElem? (i := 0) rfl) rfl rfl
          refine if_does (wanted_free rfl) (Does.calls (r_call Tryz.func62 en62.1 en62.2 (map1 e23)) (rWhole_any (spk (((j : Nat) : Int) + 1)) _ (spk64 (((j : Nat) : Int) + 1)).1 (spk64 (((j : Nat) : Int) + 1)).2) ?_)
          rintro e w'' ⟨v', rfl, h', bb⟩
          exact ⟨_, rfl, h', bb, (fun h => absurd h (by decide))⟩
        · intro a' w' hF' hb hd
          have e20 : a'.tmps.getD 20 undef = .agg #[.bool b9, .slice ad9 n9 c9, .slice ae9 m9 d9] := hd _ 20 (Array.mem_of_getElem? (i := 0) rfl) rfl rfl
          obtain ⟨v24_0, e24, h24_1⟩ : ∃ v, a'.tmps.getD 24 undef = v ∧ Rq w' v (((spk (((j : Nat) : Int) + 1) : Int) : Rat)) := ⟨_, rfl, hd _ 24 (Array.mem_of_getElem? (i := 1) rfl) rfl rfl⟩
          refine if_does (wanted_free rfl) (Does.calls (r_call Tryz.func134 en134.1 en134.2 (map2 e20 e24)) (rCmp_any _ _ ((qx) * (((3438 : Int) : Rat))) (((spk (((j : Nat) : Int) + 1) : Int) : Rat)) (max (k + 2) 2) _ (hh8.below hb) h24_1 ((rlim_mul hl (rlim_int (limz_64 (by decide) (by decide)) (by omega))).up _ (by omega)) ((rlim_int (limz_64 (spk64 (((j : Nat) : Int) + 1)).1 (spk64 (((j : Nat) : Int) + 1)).2) (by omega)).up _ (by omega)) (by omega)) ?_)
          rintro e w'' ⟨rfl, bb⟩
          exact ⟨_, rfl, rfl, bb, (fun h => absurd h (by decide))⟩
        · intro a' w' hF' hb hd
          have e25 : a'.tmps.getD 25 undef = .int .i64 (qc ((qx) * (((3438 : Int) : Rat))) (((spk (((j : Nat) : Int) + 1) : Int) : Rat))) := hd _ 25 (Array.mem_of_getElem? (i := 0) rfl) rfl rfl
          exact if_does (wanted_free rfl) (Does.vals (r_bin e25 ev_c eg_scalar (bi_int (ic_gtr (c := true) (dec_tt hc13)) (by simp))) ⟨rfl, Below.refl _ _, (fun h => absurd h (by decide))⟩)
        intro a w14 hF bb hall hne
        have e26 : a.tmps.getD 26 undef = .bool true := hall 6 26 rfl
        clear hall hne
        replace hz0 := hz0.below bb
        replace hf10 := hf10.below bb
        replace hd9 := hd9.below bb
        replace hh8 := hh8.below bb
        replace hn9 := hn9.below bb
        replace o2 := o2.below bb
        replace o3 := o3.below bb
        replace sty := sty.below bb
        replace bel := below_to bel bb
        clear bb
        replace hF := hF.add e26
        clear e26
        refine E.nil ?_
        refine wp_cond_true (hF.at 0 rfl) ?_
        refine wp_exit ?_
        refine E.past ?_
        refine E.out (id := 1) ?_
        refine E.norm ?_
        refine E.seq ?_
        refine E.opv hF (r_bin (hF.at 4 rfl) ev_c eg_scalar (ia_add (by omega) (by omega))) rfl rfl rfl rfl fun a hF => ?_
        refine E.opset (L' := [(17, .int .i64 (((j : Nat) : Int) + 1)), (43, .int .i64 (((j : Nat) : Int) + 1)), (26, .bool true), (4, .int .i64 ((j : Nat) : Int)), (19, .int .i64 ((j : Nat) : Int)), (18, .bool true), (3, .pointer (some ⟨g3, 0, none⟩)), (2, .pointer (some ⟨g2, 0, none⟩))]) hF (r_move (hF.at 0 rfl)) rfl rfl rfl rfl fun a hF => ?_
        refine E.nil0 ?_
        refine E.norm ?_
        exact ⟨24 - (j + 1), by omega, ⟨(j + 1), (by omega), (yk_next (by omega) hyk hc13), (by rw [show ((j + 1 : Nat) : Int) = ((j : Nat) : Int) + 1 from by omega]; exact Fr.sub (L' := [(17, .int .i64 (((j : Nat) : Int) + 1)), (3, .pointer (some ⟨g3, 0, none⟩)), (2, .pointer (some ⟨g2, 0, none⟩))]) hF (by intro p hp; simp only [List.mem_cons, List.not_mem_nil, or_false] at hp ⊢; rcases hp with rfl | rfl | rfl <;> simp)), sty, bel, o2, hz0, rfl⟩⟩
      · refine E.drawn 7 mixed hF [20, 21, 22, 23, 24, 25, 26] [(fun _ v => v = .agg #[.bool b9, .slice ad9 n9 c9, .slice ae9 m9 d9]), (fun _ v => v = .int .i64 ((j : Nat) : Int)), (fun _ v => v = .int .i64 (((j : Nat) : Int) + 1)), (fun _ v => v = .int .i64 (spk (((j : Nat) : Int) + 1))), (fun w v => Rq w v (((spk (((j : Nat) : Int) + 1) : Int) : Rat))), (fun _ v => v = .int .i64 (qc ((qx) * (((3438 : Int) : Rat))) (((spk (((j : Nat) : Int) + 1) : Int) : Rat)))), (fun _ v => v = .bool false)] [] (by decide +kernel) (by decide +kernel) rfl rfl rfl ⟨(Mb.eq _), (Mb.eq _), (Mb.eq _), (Mb.eq _), (fun _ _ _ h hb => h.below hb), (Mb.eq _), (Mb.eq _), trivial⟩ trivial ⟨?_, ?_, ?_, ?_, ?_, ?_, ?_, trivial⟩ ?_
        · intro a' w' hF' hb hd
          exact if_does (wanted_free rfl) (Does.vals (r_load (hF'.at 4 rfl) (ld_Rat (vs := [.bool b9, .slice ad9 n9 c9, .slice ae9 m9 d9]) (o3.below hb) rfl rfl)) ⟨rfl, Below.refl _ _, (fun h => absurd h (by decide))⟩)
        · intro a' w' hF' hb hd
          exact if_does (wanted_free rfl) (Does.vals (r_move (hF'.at 0 rfl)) ⟨rfl, Below.refl _ _, (fun h => absurd h (by decide))⟩)
        · intro a' w' hF' hb hd
          have e21 : a'.tmps.getD 21 undef = .int .i64 ((j : Nat) : Int) := hd _ 21 (Array.mem_of_getElem? (i := 0) rfl) rfl rfl
          exact if_does (wanted_free rfl) (Does.vals (r_bin e21 ev_c eg_scalar (ia_add (by omega) (by omega))) ⟨rfl, Below.refl _ _, (fun h => absurd h (by decide))⟩)
        · intro a' w' hF' hb hd
          have e22 : a'.tmps.getD 22 undef = .int .i64 (((j : Nat) : Int) + 1) := hd _ 22 (Array.mem_of_getElem? (i := 0) rfl) rfl rfl
          refine if_does (wanted_free rfl) (Does.calls (r_call Tryz.func135 en135.1 en135.2 (map1 e22)) (high_spk (((j : Nat) : Int) + 1) _ (hT.below (below_to bel hb)) (by omega) (by omega)) ?_)
          rintro e w'' ⟨rfl, bb⟩
          exact ⟨_, rfl, rfl, bb, (fun h => absurd h (by decide))⟩
        · intro a' w' hF' hb hd
          have e23 : a'.tmps.getD 23 undef = .int .i64 (spk (((j : Nat) : Int) + 1)) := hd _ 23 (Array.mem_of_getElem? (i := 0) rfl) rfl rfl
          refine if_does (wanted_free rfl) (Does.calls (r_call Tryz.func62 en62.1 en62.2 (map1 e23)) (rWhole_any (spk (((j : Nat) : Int) + 1)) _ (spk64 (((j : Nat) : Int) + 1)).1 (spk64 (((j : Nat) : Int) + 1)).2) ?_)
          rintro e w'' ⟨v', rfl, h', bb⟩
          exact ⟨_, rfl, h', bb, (fun h => absurd h (by decide))⟩
        · intro a' w' hF' hb hd
          have e20 : a'.tmps.getD 20 undef = .agg #[.bool b9, .slice ad9 n9 c9, .slice ae9 m9 d9] := hd _ 20 (Array.mem_of_getElem? (i := 0) rfl) rfl rfl
          obtain ⟨v24_0, e24, h24_1⟩ : ∃ v, a'.tmps.getD 24 undef = v ∧ Rq w' v (((spk (((j : Nat) : Int) + 1) : Int) : Rat)) := ⟨_, rfl, hd _ 24 (Array.mem_of_getElem? (i := 1) rfl) rfl rfl⟩
          refine if_does (wanted_free rfl) (Does.calls (r_call Tryz.func134 en134.1 en134.2 (map2 e20 e24)) (rCmp_any _ _ ((qx) * (((3438 : Int) : Rat))) (((spk (((j : Nat) : Int) + 1) : Int) : Rat)) (max (k + 2) 2) _ (hh8.below hb) h24_1 ((rlim_mul hl (rlim_int (limz_64 (by decide) (by decide)) (by omega))).up _ (by omega)) ((rlim_int (limz_64 (spk64 (((j : Nat) : Int) + 1)).1 (spk64 (((j : Nat) : Int) + 1)).2) (by omega)).up _ (by omega)) (by omega)) ?_)
          rintro e w'' ⟨rfl, bb⟩
          exact ⟨_, rfl, rfl, bb, (fun h => absurd h (by decide))⟩
        · intro a' w' hF' hb hd
          have e25 : a'.tmps.getD 25 undef = .int .i64 (qc ((qx) * (((3438 : Int) : Rat))) (((spk (((j : Nat) : Int) + 1) : Int) : Rat))) := hd _ 25 (Array.mem_of_getElem? (i := 0) rfl) rfl rfl
          exact if_does (wanted_free rfl) (Does.vals (r_bin e25 ev_c eg_scalar (bi_int (ic_gtr (c := false) (dec_ff hc13)) (by simp))) ⟨rfl, Below.refl _ _, (fun h => absurd h (by decide))⟩)
        intro a w15 hF bb hall hne
        have e26 : a.tmps.getD 26 undef = .bool false := hall 6 26 rfl
        clear hall hne
        replace hz0 := hz0.below bb
        replace hf10 := hf10.below bb
        replace hd9 := hd9.below bb
        replace hh8 := hh8.below bb
        replace hn9 := hn9.below bb
        replace o2 := o2.below bb
        replace o3 := o3.below bb
        replace sty := sty.below bb
        replace bel := below_to bel bb
        clear bb
        replace hF := hF.add e26
        clear e26
        refine E.nil ?_
        refine wp_cond_false (hF.at 0 rfl) ?_
        refine wp_skip ?_
        refine E.norm ?_
        refine wp_seq ?_
        refine E.drawn 6 mixed hF [27, 28, 29, 30, 31, 5] [(fun _ v => v = .agg #[.bool b9, .slice ad9 n9 c9, .slice ae9 m9 d9]), (fun _ v => v = .int .i64 ((j : Nat) : Int)), (fun _ v => v = .int .i64 (spk ((j : Nat) : Int))), (fun w v => Rq w v (((spk ((j : Nat) : Int) : Int) : Rat))), (fun w v => Rq w v (((qx) * (((3438 : Int) : Rat))) - (((spk ((j : Nat) : Int) : Int) : Rat)))), (fun w v => ∃ g, v = .pointer (some ⟨g, 0, none⟩) ∧ w15.heap.size ≤ g ∧ Own w g [.bool false, .slice none 0 0, .slice none 0 0])] [5] (by decide +kernel) (by decide +kernel) rfl rfl rfl ⟨(Mb.eq _), (Mb.eq _), (Mb.eq _), (fun _ _ _ h hb => h.below hb), (fun _ _ _ h hb => h.below hb), (fun _ _ _ ⟨g, e, l, o⟩ hb => ⟨g, e, l, o.below hb⟩), trivial⟩ ⟨fun _ _ ⟨g, e, _, o⟩ => ⟨g, e, o.lt⟩, trivial⟩ ⟨?_, ?_, ?_, ?_, ?_, ?_, trivial⟩ ?_
        · intro a' w' hF' hb hd
          exact if_does (wanted_free rfl) (Does.vals (r_load (hF'.at 5 rfl) (ld_Rat (vs := [.bool b9, .slice ad9 n9 c9, .slice ae9 m9 d9]) (o3.below hb) rfl rfl)) ⟨rfl, Below.refl _ _, (fun h => absurd h (by decide))⟩)
        · intro a' w' hF' hb hd
          exact if_does (wanted_free rfl) (Does.vals (r_move (hF'.at 1 rfl)) ⟨rfl, Below.refl _ _, (fun h => absurd h (by decide))⟩)
        · intro a' w' hF' hb hd
          have e28 : a'.tmps.getD 28 undef = .int .i64 ((j : Nat) : Int) := hd _ 28 (Array.mem_of_getElem? (i := 0) rfl) rfl rfl
          refine if_does (wanted_free rfl) (Does.calls (r_call Tryz.func135 en135.1 en135.2 (map1 e28)) (high_spk ((j : Nat) : Int) _ (hT.below (below_to bel hb)) (by omega) (by omega)) ?_)
          rintro e w'' ⟨rfl, bb⟩
          exact ⟨_, rfl, rfl, bb, (fun h => absurd h (by decide))⟩
        · intro a' w' hF' hb hd
          have e29 : a'.tmps.getD 29 undef = .int .i64 (spk ((j : Nat) : Int)) := hd _ 29 (Array.mem_of_getElem? (i := 0) rfl) rfl rfl
          refine if_does (wanted_free rfl) (Does.calls (r_call Tryz.func62 en62.1 en62.2 (map1 e29)) (rWhole_any (spk ((j : Nat) : Int)) _ (spk64 ((j : Nat) : Int)).1 (spk64 ((j : Nat) : Int)).2) ?_)
          rintro e w'' ⟨v', rfl, h', bb⟩
          exact ⟨_, rfl, h', bb, (fun h => absurd h (by decide))⟩
        · intro a' w' hF' hb hd
          have e27 : a'.tmps.getD 27 undef = .agg #[.bool b9, .slice ad9 n9 c9, .slice ae9 m9 d9] := hd _ 27 (Array.mem_of_getElem? (i := 0) rfl) rfl rfl
          obtain ⟨v30_0, e30, h30_1⟩ : ∃ v, a'.tmps.getD 30 undef = v ∧ Rq w' v (((spk ((j : Nat) : Int) : Int) : Rat)) := ⟨_, rfl, hd _ 30 (Array.mem_of_getElem? (i := 1) rfl) rfl rfl⟩
          refine if_does (wanted_free rfl) (Does.calls (r_call Tryz.func47 en47.1 en47.2 (map2 e27 e30)) (rSub_any _ _ ((qx) * (((3438 : Int) : Rat))) (((spk ((j : Nat) : Int) : Int) : Rat)) (max (k + 2) 2) _ (hh8.below hb) h30_1 ((rlim_mul hl (rlim_int (limz_64 (by decide) (by decide)) (by omega))).up _ (by omega)) ((rlim_int (limz_64 (spk64 ((j : Nat) : Int)).1 (spk64 ((j : Nat) : Int)).2) (by omega)).up _ (by omega)) (by omega)) ?_)
          rintro e w'' ⟨v', rfl, h', bb⟩
          exact ⟨_, rfl, h', bb, (fun h => absurd h (by decide))⟩
        · intro a' w' hF' hb hd
          obtain ⟨g, w2, ge, hr, bb, on⟩ := own_alloc (P := Tryz.prog) (w := w') (cs := [.bool false, .slice none 0 0, .slice none 0 0]) 32 ze_Rat rfl (niB (niS (niS ni0)))
          subst ge
          exact if_does (wanted_free rfl) (Does.vals (r_alloc hr) ⟨⟨_, rfl, hb.size, on⟩, bb, fun _ => rfl⟩)
        intro a w16 hF bb hall hne
        obtain ⟨vv17, e31, hh18⟩ : ∃ v, a.tmps.getD 31 undef = v ∧ Rq w16 v (((qx) * (((3438 : Int) : Rat))) - (((spk ((j : Nat) : Int) : Int) : Rat))) := ⟨_, rfl, hall 4 31 rfl⟩
        obtain ⟨g5, e5, ge5, o5⟩ : ∃ g, a.tmps.getD 5 undef = .pointer (some ⟨g, 0, none⟩) ∧ w15.heap.size ≤ g ∧ Own w16 g [.bool false, .slice none 0 0, .slice none 0 0] := hall 5 5 rfl
        have ne2_5 : g2 ≠ g5 := Nat.ne_of_lt (Nat.lt_of_lt_of_le o2.lt ge5)
        have ne3_5 : g3 ≠ g5 := Nat.ne_of_lt (Nat.lt_of_lt_of_le o3.lt ge5)
        have gl5 : w11.heap.size ≤ g5 := Nat.le_trans sty.size ge5
        replace ge5 : w.heap.size ≤ g5 := Nat.le_trans bel.size ge5
        clear hall hne
        replace hz0 := hz0.below bb
        replace hf10 := hf10.below bb
        replace hd9 := hd9.below bb
        replace hh8 := hh8.below bb
        replace hn9 := hn9.below bb
        replace o2 := o2.below bb
        replace o3 := o3.below bb
        replace sty := sty.below bb
        replace bel := below_to bel bb
        clear bb
        obtain ⟨b19, ad19, n19, c19, ae19, m19, d19, rfl, hn19, hd19⟩ := Rq.shape hh18
        have hf20 := Wc.abs hn19
        replace hF := hF.add e31
        clear e31
        replace hF := hF.add e5
        clear e5
        obtain ⟨w21, hr, tu, on⟩ := st_Rat (vs := [.bool b19, .slice ad19 n19 c19, .slice ae19 m19 d19]) o5 rfl rfl (ocB (ocS (ocS oc0))) (niB (niS (niS ni0))) (o := 0) rfl
        have kp := tu.keep o5
        refine E.st hF (r_store (hF.at 0 rfl) (hF.at 1 rfl) (hr _ rfl)) rfl rfl fun a hF => ?_
        clear hr
        replace hz0 := hz0.keep kp
        replace hf10 := hf10.keep kp
        replace hd9 := hd9.keep kp
        replace hh8 := hh8.keep kp
        replace hn9 := hn9.keep kp
        replace hh18 := hh18.keep kp
        replace hn19 := hn19.keep kp
        replace hf20 := hf20.keep kp
        replace hd19 := hd19.keep kp
        replace o2 := tu.own o2 ne2_5
        replace o3 := tu.own o3 ne3_5
        replace bel := tu.below bel ge5
        replace sty := sty.turned tu (.inr gl5)
        clear tu kp
        replace o5 := on
        clear on
        refine E.nil ?_
        refine wp_seq ?_
        refine E.drawn 6 mixed hF [32, 33, 34, 35, 36, 6] [(fun _ v => v = .agg #[.bool b19, .slice ad19 n19 c19, .slice ae19 m19 d19]), (fun _ v => v = .int .i64 ((j : Nat) : Int)), (fun _ v => v = .int .i64 (spk (((j : Nat) : Int) + 1) - spk ((j : Nat) : Int))), (fun w v => Rq w v (((spk (((j : Nat) : Int) + 1) - spk ((j : Nat) : Int) : Int) : Rat))), (fun w v => Rq w v ((((qx) * (((3438 : Int) : Rat))) - (((spk ((j : Nat) : Int) : Int) : Rat))) / (((spk (((j : Nat) : Int) + 1) - spk ((j : Nat) : Int) : Int) : Rat)))), (fun w v => ∃ g, v = .pointer (some ⟨g, 0, none⟩) ∧ w21.heap.size ≤ g ∧ Own w g [.bool false, .slice none 0 0, .slice none 0 0])] [5] (by decide +kernel) (by decide +kernel) rfl rfl rfl ⟨(Mb.eq _), (Mb.eq _), (Mb.eq _), (fun _ _ _ h hb => h.below hb), (fun _ _ _ h hb => h.below hb), (fun _ _ _ ⟨g, e, l, o⟩ hb => ⟨g, e, l, o.below hb⟩), trivial⟩ ⟨fun _ _ ⟨g, e, _, o⟩ => ⟨g, e, o.lt⟩, trivial⟩ ⟨?_, ?_, ?_, ?_, ?_, ?_, trivial⟩ ?_
        · intro a' w' hF' hb hd
          exact if_does (wanted_free rfl) (Does.vals (r_load (hF'.at 0 rfl) (ld_Rat (vs := [.bool b19, .slice ad19 n19 c19, .slice ae19 m19 d19]) (o5.below hb) rfl rfl)) ⟨rfl, Below.refl _ _, (fun h => absurd h (by decide))⟩)
        · intro a' w' hF' hb hd
          exact if_does (wanted_free rfl) (Does.vals (r_move (hF'.at 3 rfl)) ⟨rfl, Below.refl _ _, (fun h => absurd h (by decide))⟩)
        · intro a' w' hF' hb hd
          have e33 : a'.tmps.getD 33 undef = .int .i64 ((j : Nat) : Int) := hd _ 33 (Array.mem_of_getElem? (i := 0) rfl) rfl rfl
          refine if_does (wanted_free rfl) (Does.calls (r_call Tryz.func133 en133.1 en133.2 (map1 e33)) (rise_any ((j : Nat) : Int) _ (hT.below (below_to bel hb)) (by omega) (by omega)) ?_)
          rintro e w'' ⟨rfl, bb⟩
          exact ⟨_, rfl, rfl, bb, (fun h => absurd h (by decide))⟩
        · intro a' w' hF' hb hd
          have e34 : a'.tmps.getD 34 undef = .int .i64 (spk (((j : Nat) : Int) + 1) - spk ((j : Nat) : Int)) := hd _ 34 (Array.mem_of_getElem? (i := 0) rfl) rfl rfl
          refine if_does (wanted_free rfl) (Does.calls (r_call Tryz.func62 en62.1 en62.2 (map1 e34)) (rWhole_any (spk (((j : Nat) : Int) + 1) - spk ((j : Nat) : Int)) _ (dif64 (((j : Nat) : Int))).1 (dif64 (((j : Nat) : Int))).2) ?_)
          rintro e w'' ⟨v', rfl, h', bb⟩
          exact ⟨_, rfl, h', bb, (fun h => absurd h (by decide))⟩
        · intro a' w' hF' hb hd
          have e32 : a'.tmps.getD 32 undef = .agg #[.bool b19, .slice ad19 n19 c19, .slice ae19 m19 d19] := hd _ 32 (Array.mem_of_getElem? (i := 0) rfl) rfl rfl
          obtain ⟨v35_0, e35, h35_1⟩ : ∃ v, a'.tmps.getD 35 undef = v ∧ Rq w' v (((spk (((j : Nat) : Int) + 1) - spk ((j : Nat) : Int) : Int) : Rat)) := ⟨_, rfl, hd _ 35 (Array.mem_of_getElem? (i := 1) rfl) rfl rfl⟩
          refine if_does (wanted_free rfl) (Does.calls (r_call Tryz.func128 en128.1 en128.2 (map2 e32 e35)) (rDiv_any _ _ (((qx) * (((3438 : Int) : Rat))) - (((spk ((j : Nat) : Int) : Int) : Rat))) (((spk (((j : Nat) : Int) + 1) - spk ((j : Nat) : Int) : Int) : Rat)) (max ((k + 2) + 2 + 1) 2) _ (hh18.below hb) h35_1 ((rlim_sub (rlim_mul hl (rlim_int (limz_64 (by decide) (by decide)) (by omega))) (rlim_int (limz_64 (spk64 ((j : Nat) : Int)).1 (spk64 ((j : Nat) : Int)).2) (by omega))).up _ (by omega)) ((rlim_int (limz_64 (dif64 (((j : Nat) : Int))).1 (dif64 (((j : Nat) : Int))).2) (by omega)).up _ (by omega)) (by omega)) ?_)
          rintro e w'' ⟨v', rfl, h', bb⟩
          exact ⟨_, rfl, h', bb, (fun h => absurd h (by decide))⟩
        · intro a' w' hF' hb hd
          obtain ⟨g, w2, ge, hr, bb, on⟩ := own_alloc (P := Tryz.prog) (w := w') (cs := [.bool false, .slice none 0 0, .slice none 0 0]) 32 ze_Rat rfl (niB (niS (niS ni0)))
          subst ge
          exact if_does (wanted_free rfl) (Does.vals (r_alloc hr) ⟨⟨_, rfl, hb.size, on⟩, bb, fun _ => rfl⟩)
        intro a w22 hF bb hall hne
        obtain ⟨vv23, e36, hh24⟩ : ∃ v, a.tmps.getD 36 undef = v ∧ Rq w22 v ((((qx) * (((3438 : Int) : Rat))) - (((spk ((j : Nat) : Int) : Int) : Rat))) / (((spk (((j : Nat) : Int) + 1) - spk ((j : Nat) : Int) : Int) : Rat))) := ⟨_, rfl, hall 4 36 rfl⟩
        obtain ⟨g6, e6, ge6, o6⟩ : ∃ g, a.tmps.getD 6 undef = .pointer (some ⟨g, 0, none⟩) ∧ w21.heap.size ≤ g ∧ Own w22 g [.bool false, .slice none 0 0, .slice none 0 0] := hall 5 6 rfl
        have ne2_6 : g2 ≠ g6 := Nat.ne_of_lt (Nat.lt_of_lt_of_le o2.lt ge6)
        have ne3_6 : g3 ≠ g6 := Nat.ne_of_lt (Nat.lt_of_lt_of_le o3.lt ge6)
        have gl6 : w11.heap.size ≤ g6 := Nat.le_trans sty.size ge6
        replace ge6 : w.heap.size ≤ g6 := Nat.le_trans bel.size ge6
        clear hall hne
        replace hz0 := hz0.below bb
        replace hf10 := hf10.below bb
        replace hd9 := hd9.below bb
        replace hh8 := hh8.below bb
        replace hn9 := hn9.below bb
        replace o2 := o2.below bb
        replace o3 := o3.below bb
        replace sty := sty.below bb
        replace bel := below_to bel bb
        clear bb
        obtain ⟨b25, ad25, n25, c25, ae25, m25, d25, rfl, hn25, hd25⟩ := Rq.shape hh24
        have hf26 := Wc.abs hn25
        replace hF := hF.add e36
        clear e36
        replace hF := hF.add e6
        clear e6
        obtain ⟨w27, hr, tu, on⟩ := st_Rat (vs := [.bool b25, .slice ad25 n25 c25, .slice ae25 m25 d25]) o6 rfl rfl (ocB (ocS (ocS oc0))) (niB (niS (niS ni0))) (o := 0) rfl
        have kp := tu.keep o6
        refine E.st hF (r_store (hF.at 0 rfl) (hF.at 1 rfl) (hr _ rfl)) rfl rfl fun a hF => ?_
        clear hr
        replace hz0 := hz0.keep kp
        replace hf10 := hf10.keep kp
        replace hd9 := hd9.keep kp
        replace hh8 := hh8.keep kp
        replace hn9 := hn9.keep kp
        replace hh24 := hh24.keep kp
        replace hn25 := hn25.keep kp
        replace hf26 := hf26.keep kp
        replace hd25 := hd25.keep kp
        replace o2 := tu.own o2 ne2_6
        replace o3 := tu.own o3 ne3_6
        replace bel := tu.below bel ge6
        replace sty := sty.turned tu (.inr gl6)
        clear tu kp
        replace o6 := on
        clear on
        refine E.nil ?_
        refine wp_seq ?_
        refine E.drawn 6 mixed hF [37, 38, 39, 40, 41, 42] [(fun _ v => v = .agg #[.bool b25, .slice ad25 n25 c25, .slice ae25 m25 d25]), (fun _ v => v = .int .i64 ((j : Nat) : Int)), (fun w v => Rq w v (((((j : Nat) : Int) : Int) : Rat))), (fun w v => Rq w v (((((qx) * (((3438 : Int) : Rat))) - (((spk ((j : Nat) : Int) : Int) : Rat))) / (((spk (((j : Nat) : Int) + 1) - spk ((j : Nat) : Int) : Int) : Rat))) + (((((j : Nat) : Int) : Int) : Rat)))), (fun w v => Rq w v (wd)), (fun w v => Rq w v ((((((qx) * (((3438 : Int) : Rat))) - (((spk ((j : Nat) : Int) : Int) : Rat))) / (((spk (((j : Nat) : Int) + 1) - spk ((j : Nat) : Int) : Int) : Rat))) + (((((j : Nat) : Int) : Int) : Rat))) * (wd)))] [] (by decide +kernel) (by decide +kernel) rfl rfl rfl ⟨(Mb.eq _), (Mb.eq _), (fun _ _ _ h hb => h.below hb), (fun _ _ _ h hb => h.below hb), (fun _ _ _ h hb => h.below hb), (fun _ _ _ h hb => h.below hb), trivial⟩ trivial ⟨?_, ?_, ?_, ?_, ?_, ?_, trivial⟩ ?_
        · intro a' w' hF' hb hd
          exact if_does (wanted_free rfl) (Does.vals (r_load (hF'.at 0 rfl) (ld_Rat (vs := [.bool b25, .slice ad25 n25 c25, .slice ae25 m25 d25]) (o6.below hb) rfl rfl)) ⟨rfl, Below.refl _ _, (fun h => absurd h (by decide))⟩)
        · intro a' w' hF' hb hd
          exact if_does (wanted_free rfl) (Does.vals (r_move (hF'.at 5 rfl)) ⟨rfl, Below.refl _ _, (fun h => absurd h (by decide))⟩)
        · intro a' w' hF' hb hd
          have e38 : a'.tmps.getD 38 undef = .int .i64 ((j : Nat) : Int) := hd _ 38 (Array.mem_of_getElem? (i := 0) rfl) rfl rfl
          refine if_does (wanted_free rfl) (Does.calls (r_call Tryz.func62 en62.1 en62.2 (map1 e38)) (rWhole_any (((j : Nat) : Int)) _ (by omega) (by omega)) ?_)
          rintro e w'' ⟨v', rfl, h', bb⟩
          exact ⟨_, rfl, h', bb, (fun h => absurd h (by decide))⟩
        · intro a' w' hF' hb hd
          have e37 : a'.tmps.getD 37 undef = .agg #[.bool b25, .slice ad25 n25 c25, .slice ae25 m25 d25] := hd _ 37 (Array.mem_of_getElem? (i := 0) rfl) rfl rfl
          obtain ⟨v39_0, e39, h39_1⟩ : ∃ v, a'.tmps.getD 39 undef = v ∧ Rq w' v (((((j : Nat) : Int) : Int) : Rat)) := ⟨_, rfl, hd _ 39 (Array.mem_of_getElem? (i := 1) rfl) rfl rfl⟩
          refine if_does (wanted_free rfl) (Does.calls (r_call Tryz.func59 en59.1 en59.2 (map2 e37 e39)) (rAdd_any _ _ ((((qx) * (((3438 : Int) : Rat))) - (((spk ((j : Nat) : Int) : Int) : Rat))) / (((spk (((j : Nat) : Int) + 1) - spk ((j : Nat) : Int) : Int) : Rat))) (((((j : Nat) : Int) : Int) : Rat)) (max (((k + 2) + 2 + 1) + 2) 2) _ (hh24.below hb) h39_1 ((rlim_div (rlim_sub (rlim_mul hl (rlim_int (limz_64 (by decide) (by decide)) (by omega))) (rlim_int (limz_64 (spk64 ((j : Nat) : Int)).1 (spk64 ((j : Nat) : Int)).2) (by omega))) (rlim_int (limz_64 (dif64 (((j : Nat) : Int))).1 (dif64 (((j : Nat) : Int))).2) (by omega))).up _ (by omega)) ((rlim_int (limz_64 (by omega) (by omega)) (by omega)).up _ (by omega)) (by omega)) ?_)
          rintro e w'' ⟨v', rfl, h', bb⟩
          exact ⟨_, rfl, h', bb, (fun h => absurd h (by decide))⟩
        · intro a' w' hF' hb hd
          refine if_does (wanted_free rfl) (Does.calls (r_call Tryz.func136 en136.1 en136.2 map0) (width_any _) ?_)
          rintro e w'' ⟨v', rfl, h', bb⟩
          exact ⟨_, rfl, h', bb, (fun h => absurd h (by decide))⟩
        · intro a' w' hF' hb hd
          obtain ⟨v40_0, e40, h40_1⟩ : ∃ v, a'.tmps.getD 40 undef = v ∧ Rq w' v (((((qx) * (((3438 : Int) : Rat))) - (((spk ((j : Nat) : Int) : Int) : Rat))) / (((spk (((j : Nat) : Int) + 1) - spk ((j : Nat) : Int) : Int) : Rat))) + (((((j : Nat) : Int) : Int) : Rat))) := ⟨_, rfl, hd _ 40 (Array.mem_of_getElem? (i := 0) rfl) rfl rfl⟩
          obtain ⟨v41_0, e41, h41_1⟩ : ∃ v, a'.tmps.getD 41 undef = v ∧ Rq w' v (wd) := ⟨_, rfl, hd _ 41 (Array.mem_of_getElem? (i := 1) rfl) rfl rfl⟩
          refine if_does (wanted_free rfl) (Does.calls (r_call Tryz.func97 en97.1 en97.2 (map2 e40 e41)) (rMul_any _ _ (((((qx) * (((3438 : Int) : Rat))) - (((spk ((j : Nat) : Int) : Int) : Rat))) / (((spk (((j : Nat) : Int) + 1) - spk ((j : Nat) : Int) : Int) : Rat))) + (((((j : Nat) : Int) : Int) : Rat))) (wd) (max ((((k + 2) + 2 + 1) + 2) + 2 + 1) 2) _ h40_1 h41_1 ((rlim_add (rlim_div (rlim_sub (rlim_mul hl (rlim_int (limz_64 (by decide) (by decide)) (by omega))) (rlim_int (limz_64 (spk64 ((j : Nat) : Int)).1 (spk64 ((j : Nat) : Int)).2) (by omega))) (rlim_int (limz_64 (dif64 (((j : Nat) : Int))).1 (dif64 (((j : Nat) : Int))).2) (by omega))) (rlim_int (limz_64 (by omega) (by omega)) (by omega))).up _ (by omega)) (wd_lim.up _ (by omega)) (by omega)) ?_)
          rintro e w'' ⟨v', rfl, h', bb⟩
          exact ⟨_, rfl, h', bb, (fun h => absurd h (by decide))⟩
        intro a w28 hF bb hall hne
        obtain ⟨vv29, e42, hh30⟩ : ∃ v, a.tmps.getD 42 undef = v ∧ Rq w28 v ((((((qx) * (((3438 : Int) : Rat))) - (((spk ((j : Nat) : Int) : Int) : Rat))) / (((spk (((j : Nat) : Int) + 1) - spk ((j : Nat) : Int) : Int) : Rat))) + (((((j : Nat) : Int) : Int) : Rat))) * (wd)) := ⟨_, rfl, hall 5 42 rfl⟩
        clear hall hne
        replace hz0 := hz0.below bb
        replace hf10 := hf10.below bb
        replace hd9 := hd9.below bb
        replace hh8 := hh8.below bb
        replace hn9 := hn9.below bb
        replace o2 := o2.below bb
        replace o3 := o3.below bb
        replace sty := sty.below bb
        replace bel := below_to bel bb
        clear bb
        obtain ⟨b31, ad31, n31, c31, ae31, m31, d31, rfl, hn31, hd31⟩ := Rq.shape hh30
        have hf32 := Wc.abs hn31
        replace hF := hF.add e42
        clear e42
        obtain ⟨w33, hr, tu, on⟩ := st_Rat (vs := [.bool b31, .slice ad31 n31 c31, .slice ae31 m31 d31]) o2 rfl rfl (ocB (ocS (ocS oc0))) (niB (niS (niS ni0))) (o := 0) rfl
        have kp := tu.keep o2
        refine E.st hF (r_store (hF.at 11 rfl) (hF.at 0 rfl) (hr _ rfl)) rfl rfl fun a hF => ?_
        clear hr
        replace hz0 := hz0.keep kp
        replace hf10 := hf10.keep kp
        replace hd9 := hd9.keep kp
        replace hh8 := hh8.keep kp
        replace hn9 := hn9.keep kp
        replace hh30 := hh30.keep kp
        replace hn31 := hn31.keep kp
        replace hf32 := hf32.keep kp
        replace hd31 := hd31.keep kp
        replace o3 := tu.own o3 (Ne.symm ne2_3)
        replace bel := tu.below bel ge2
        replace sty := sty.turned tu (.inl (by simp))
        clear tu kp
        replace o2 := on
        clear on
        refine E.nil ?_
        refine wp_ret ?_
        refine bodyPost_ret (res_cell Tryz.results100 (hF.at 11 rfl) (ld_Rat (vs := [.bool b31, .slice ad31 n31 c31, .slice ae31 m31 d31]) o2 rfl rfl)) hF.dfr ?_
        exact ⟨_, rfl, Rq.castM hh30 (arc_here hx hjn (yk_here hjn hyk hc13)), bel⟩
    · refine wp_seq ?_
      refine E.seq ?_
      refine E.opv hF (r_bin (hF.at 0 rfl) ev_c eg_scalar (bi_int (ic_lss (c := false) (dec_ff (by omega))) (by simp))) rfl rfl rfl rfl fun a hF => ?_
      refine E.nil ?_
      refine wp_seq ?_
      refine wp_cond_false (hF.at 0 rfl) ?_
      refine wp_exit ?_
      refine E.past ?_
      refine E.past ?_
      refine E.out (id := 0) ?_
      refine E.norm ?_
      refine wp_seq ?_
      refine E.seq ?_
      refine E.call hF (r_call Tryz.func62 en62.1 en62.2 (map1 ev_c)) (rWhole_any (90) _ (by decide) (by decide)) rfl rfl rfl rfl ?_
      rintro e w13 ⟨vv14, rfl, hh15, bb⟩
      refine ⟨_, rfl, ?_⟩
      intro a hF
      replace hz0 := hz0.below bb
      replace o2 := o2.below bb
      replace bel := below_to bel bb
      clear bb
      obtain ⟨b16, ad16, n16, c16, ae16, m16, d16, rfl, hn16, hd16⟩ := Rq.shape hh15
      have hf17 := Wc.abs hn16
      obtain ⟨w18, hr, tu, on⟩ := st_Rat (vs := [.bool b16, .slice ad16 n16 c16, .slice ae16 m16 d16]) o2 rfl rfl (ocB (ocS (ocS oc0))) (niB (niS (niS ni0))) (o := 0) rfl
      have kp := tu.keep o2
      refine E.st hF (r_store (hF.at 4 rfl) (hF.at 0 rfl) (hr _ rfl)) rfl rfl fun a hF => ?_
      clear hr
      replace hz0 := hz0.keep kp
      replace hh15 := hh15.keep kp
      replace hn16 := hn16.keep kp
      replace hf17 := hf17.keep kp
      replace hd16 := hd16.keep kp
      replace bel := tu.below bel ge2
      clear tu kp
      replace o2 := on
      clear on
      refine E.nil ?_
      refine wp_ret ?_
      refine bodyPost_ret (res_cell Tryz.results100 (hF.at 4 rfl) (ld_Rat (vs := [.bool b16, .slice ad16 n16 c16, .slice ae16 m16 d16]) o2 rfl rfl)) hF.dfr ?_
      have e24 : j = 24 := by omega
      subst e24
      exact ⟨_, rfl, Rq.castM hh15 (arc_end hx hyk.symm), bel⟩

set_option maxHeartbeats 4000000 in
theorem arc_neg_any (v1 : Value) (qx : Rat) (k : Nat) (w : World) (hT : TabD w) (h1 : Rq w v1 qx) (hl : RLim qx k) (hk : k ≤ 1000) (hn : sz (Rat.num qx) < 0) :
    Calls Tryz.prog 100 #[v1] w (RqPost w (arcv qx)) := by
  have hx : qx < 0 := sz_lt0.1 hn
  have bel : Below w.heap.size w w := Below.refl _ _
  refine E.enter (nt := 45) (L := [(0, v1)]) Tryz.func100 rfl rfl rfl (args_cons (i := 0) rfl args_nil) ?_
  intro a hF
  refine wp_seq ?_
  refine E.seq ?_
  obtain ⟨b1, ad1, n1, c1, ae1, m1, d1, rfl, hn1, hd1⟩ := Rq.shape h1
  have hf2 := Wc.abs hn1
  obtain ⟨g1, w3, ge1, hr, bb, o1⟩ := own_box (P := Tryz.prog) (w := w) (cs := [.bool b1, .slice ad1 n1 c1, .slice ae1 m1 d1]) (v := .agg #[.bool b1, .slice ad1 n1 c1, .slice ae1 m1 d1]) 32 rfl (niB (niS (niS ni0)))
  replace ge1 : w.heap.size ≤ g1 := by rw [← ge1]; exact bel.size
  refine E.opv hF (r_box (hF.at 0 rfl) hr) rfl rfl rfl rfl fun a hF => ?_
  clear hr
  replace h1 := h1.below bb
  replace hn1 := hn1.below bb
  replace hf2 := hf2.below bb
  replace hd1 := hd1.below bb
  replace bel := below_to bel bb
  clear bb
  obtain ⟨g2, w4, ge2, hr, bb, o2⟩ := own_alloc (P := Tryz.prog) (w := w3) (cs := [.bool false, .slice none 0 0, .slice none 0 0]) 32 ze_Rat rfl (niB (niS (niS ni0)))
  have ne1_2 : g1 ≠ g2 := by rw [← ge2]; exact o1.ne_new
  replace ge2 : w.heap.size ≤ g2 := by rw [← ge2]; exact bel.size
  refine E.opv hF (r_alloc hr) rfl rfl rfl rfl fun a hF => ?_
  clear hr
  replace hf2 := hf2.below bb
  replace hd1 := hd1.below bb
  replace h1 := h1.below bb
  replace hn1 := hn1.below bb
  replace o1 := o1.below bb
  replace bel := below_to bel bb
  clear bb
  refine E.nil ?_
  refine wp_seq ?_
  refine wp_seq ?_
  refine E.seq ?_
  refine E.opv hF (r_load (hF.at 1 rfl) (ld_Rat (vs := [.bool b1, .slice ad1 n1 c1, .slice ae1 m1 d1]) o1 rfl rfl)) rfl rfl rfl rfl fun a hF => ?_
  refine E.call hF (r_call Tryz.func25 en25.1 en25.2 (map1 (hF.at 0 rfl))) (rsgn_any _ (qx) _ h1) rfl rfl rfl rfl ?_
  rintro e w5 ⟨rfl, bb⟩
  refine ⟨_, rfl, ?_⟩
  intro a hF
  replace hf2 := hf2.below bb
  replace hd1 := hd1.below bb
  replace h1 := h1.below bb
  replace hn1 := hn1.below bb
  replace o1 := o1.below bb
  replace o2 := o2.below bb
  replace bel := below_to bel bb
  clear bb
  refine E.opv hF (r_bin (hF.at 0 rfl) ev_c eg_scalar (bi_int (ic_lss (c := true) (dec_tt hn)) (by simp))) rfl rfl rfl rfl fun a hF => ?_
  refine E.nil ?_
  refine wp_cond_true (hF.at 0 rfl) ?_
  refine wp_seq ?_
  refine E.seq ?_
  refine E.opv hF (r_load (hF.at 4 rfl) (ld_Rat (vs := [.bool b1, .slice ad1 n1 c1, .slice ae1 m1 d1]) o1 rfl rfl)) rfl rfl rfl rfl fun a hF => ?_
  refine E.call hF (r_call Tryz.func88 en88.1 en88.2 (map1 (hF.at 0 rfl))) (rOpp_any _ (qx) _ h1) rfl rfl rfl rfl ?_
  rintro e w6 ⟨vv7, rfl, hh8, bb⟩
  refine ⟨_, rfl, ?_⟩
  intro a hF
  replace hf2 := hf2.below bb
  replace hd1 := hd1.below bb
  replace h1 := h1.below bb
  replace hn1 := hn1.below bb
  replace o1 := o1.below bb
  replace o2 := o2.below bb
  replace bel := below_to bel bb
  clear bb
  obtain ⟨b9, ad9, n9, c9, ae9, m9, d9, rfl, hn9, hd9⟩ := Rq.shape hh8
  have hf10 := Wc.abs hn9
  refine E.call hF (r_call Tryz.func100 en100.1 en100.2 (map1 (hF.at 0 rfl))) (arc_pos _ (-(qx)) k _ (hT.below bel) hh8 (rlim_neg hl) (by omega) (neg_not hx)) rfl rfl rfl rfl ?_
  rintro e w11 ⟨vv12, rfl, hh13, bb⟩
  refine ⟨_, rfl, ?_⟩
  intro a hF
  replace hf2 := hf2.below bb
  replace hd1 := hd1.below bb
  replace h1 := h1.below bb
  replace hn1 := hn1.below bb
  replace o1 := o1.below bb
  replace o2 := o2.below bb
  replace bel := below_to bel bb
  clear bb
  obtain ⟨b14, ad14, n14, c14, ae14, m14, d14, rfl, hn14, hd14⟩ := Rq.shape hh13
  have hf15 := Wc.abs hn14
  refine E.call hF (r_call Tryz.func88 en88.1 en88.2 (map1 (hF.at 0 rfl))) (rOpp_any _ (arcv (-(qx))) _ hh13) rfl rfl rfl rfl ?_
  rintro e w16 ⟨vv17, rfl, hh18, bb⟩
  refine ⟨_, rfl, ?_⟩
  intro a hF
  replace hf2 := hf2.below bb
  replace hd1 := hd1.below bb
  replace h1 := h1.below bb
  replace hn1 := hn1.below bb
  replace o1 := o1.below bb
  replace o2 := o2.below bb
  replace bel := below_to bel bb
  clear bb
  obtain ⟨b19, ad19, n19, c19, ae19, m19, d19, rfl, hn19, hd19⟩ := Rq.shape hh18
  have hf20 := Wc.abs hn19
  obtain ⟨w21, hr, tu, on⟩ := st_Rat (vs := [.bool b19, .slice ad19 n19 c19, .slice ae19 m19 d19]) o2 rfl rfl (ocB (ocS (ocS oc0))) (niB (niS (niS ni0))) (o := 0) rfl
  have kp := tu.keep o2
  refine E.st hF (r_store (hF.at 7 rfl) (hF.at 0 rfl) (hr _ rfl)) rfl rfl fun a hF => ?_
  clear hr
  replace hf2 := hf2.keep kp
  replace hd1 := hd1.keep kp
  replace h1 := h1.keep kp
  replace hn1 := hn1.keep kp
  replace hh18 := hh18.keep kp
  replace hn19 := hn19.keep kp
  replace hf20 := hf20.keep kp
  replace hd19 := hd19.keep kp
  replace o1 := tu.own o1 ne1_2
  replace bel := tu.below bel ge2
  clear tu kp
  replace o2 := on
  clear on
  refine E.nil ?_
  refine wp_ret ?_
  refine bodyPost_ret (res_cell Tryz.results100 (hF.at 7 rfl) (ld_Rat (vs := [.bool b19, .slice ad19 n19 c19, .slice ae19 m19 d19]) o2 rfl rfl)) hF.dfr ?_
  exact ⟨_, rfl, Rq.castM hh18 (arc_neg hx), bel⟩

theorem sarc_any (v1 : Value) (qx : Rat) (k : Nat) (w : World) (hT : TabD w) (h1 : Rq w v1 qx) (hl : RLim qx k) (hk : k ≤ 1000) : Calls Tryz.prog 100 #[v1] w (RqPost w (arcv qx)) := by
  by_cases hn : sz (Rat.num qx) < 0
  · exact arc_neg_any v1 qx k w hT h1 hl hk hn
  · exact arc_pos v1 qx k w hT h1 hl hk hn
end Go.Proofs.YtmpdbkdijfpbbaaGreatDoor
