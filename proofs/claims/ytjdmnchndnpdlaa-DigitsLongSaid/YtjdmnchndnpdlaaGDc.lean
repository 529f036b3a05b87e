/- DivI DivJ -/
import Derived.Laws.CopyOwn
import Derived.Test.YtjdmnchndnpdlaaDivH

/- Contract of mult.DivMod. -/
namespace Go.Proofs.Ytjdmnchndnpdlaa
open Go.RowKit
set_option maxRecDepth 100000

theorem Row.heap {w : World} {k : IntKind} {T base g n : Nat} {xs : List Nat} (h : Row w k T base g n xs) (hn : xs.length = n) : w.heap[g]? = some (.cells (cl k xs).toArray T (0, 0)) := by
  rcases h.own.2 with ⟨h', _⟩ | ⟨g', cap', cur, h', hb, hg, hnc, hcm, hsz, htk⟩
  · simp at h'
  · simp only [Value.slice.injEq, Option.some.injEq, Addr.mk.injEq, and_true, true_and] at h'
    obtain ⟨rfl, rfl⟩ := h'
    rw [hg, ← htk, List.take_of_length_le (by simp; omega)]
theorem Row.of_heap {w : World} {k : IntKind} {T base g n : Nat} {xs : List Nat} (hg : w.heap[g]? = some (.cells (cl k xs).toArray T (0, 0))) (hn : xs.length = n) (hm : n ≤ maxLen) (hb : base ≤ g) : Row w k T base g n xs := by
  refine ⟨?_, .inr ⟨g, n, _, rfl, hb, hg, by omega, hm, by simp [cl_length, hn], ?_⟩⟩
  · simp [cl_length]
  · rw [List.take_of_length_le (by simp [cl_length])]

theorem copy_src {w : World} {ad : Option Addr} {xs : List Nat} (r : Rd w .u32 ad xs) (g : Nat) : 0 < (cl .u32 xs).length → (some (⟨g, 0, none⟩ : Addr) = some ⟨g, 0, none⟩) ∧ ∃ a, ad = some a ∧ ∀ j v, (cl .u32 xs)[j]? = some v → w.cell? (a.add j) = some v := by
  intro h
  rw [cl_length] at h
  obtain ⟨b, off, rfl, _, hc⟩ := r.get h
  refine ⟨rfl, _, rfl, fun j v hv => ?_⟩
  have hj : j < xs.length := by
    have := (List.getElem?_eq_some_iff.1 hv).1
    rwa [cl_length] at this
  rw [cl_get hj] at hv
  injection hv with hv
  subst hv
  have hcj := hc j hj
  unfold Addr.add
  split
  · rename_i h0; subst h0; exact hcj
  · exact hcj

theorem rd_apart {w : World} {k : IntKind} {ad : Option Addr} {xs : List Nat} (r : Rd w k ad xs) (hp : 0 < xs.length) {g : Nat} (hg : w.heap.size ≤ g) : Apart ad g := by
  intro b off e
  obtain ⟨b', off', e', hb, _⟩ := r.get hp
  rw [e] at e'
  injection e' with e'; injection e' with e1 _
  omega
theorem lg_replicate_zero (D t : Nat) : lg (List.replicate D 0) t = 0 := by
  by_cases h : t < D
  · rw [lg_get (by simp; exact h)]; simp
  · exact lg_out (by simp; omega)
theorem vl_replicate_zero (D : Nat) : vl B32 (List.replicate D 0) = 0 := by
  have := vl_congr B32 (xs := List.replicate D 0) (ys := []) (fun t => by rw [lg_replicate_zero]; rfl)
  rw [this]; rfl
theorem dl_zero_B32 : dl B32 0 = 0 := by
  rw [← length_dg, dg_zero]; rfl
/-- What cut leaves of a row of its own. -/
theorem cut_dg {w : World} {T base g n N : Nat} {xs : List Nat} (r : Row w .u32 T base g n xs) (ho : okb B32 xs) (hl : xs.length = n) (hn : n ≤ 1099511627776) (hv : vl B32 xs = N) : Dg w .u32 B32 (.slice (some ⟨g, 0, none⟩) (dl B32 (vl B32 xs)) n) N := by
  have hle := dl_vl_le B32_two ho
  have hrd := r.rd.dg ho
  have hp := r.parts
  rw [hv] at hle hrd ⊢
  exact ⟨_, _, by rw [length_dg], hrd, by rw [length_dg]; omega, hp.2.2.2, by rw [length_dg]; omega, fun h => by cases h⟩

/-- The quotient, and what is left over: 0 and 0 by 0. -/
def DMPost (w : World) (N M : Nat) (e : Ending) (w' : World) : Prop :=
  ∃ v1 v2, e = .returned (.tuple #[v1, v2]) ∧ Dg w' .u32 B32 v1 (N / M) ∧ Dg w' .u32 B32 v2 (if M = 0 then 0 else N % M) ∧ Below w.heap.size w w'

set_option maxHeartbeats 2000000 in
set_option maxRecDepth 100000 in
theorem divMod_any (v1 v2 : Value) (N M : Nat) (w : World) (h1 : Nt w v1 N) (h2 : Nt w v2 M) : Calls Try.prog 93 #[v1, v2] w (DMPost w N M) := by
  obtain ⟨xs, ox, vx, ad1, cap1, rfl, r1, c1, m1, l1, n1⟩ := h1
  obtain ⟨ys, oy, vy, ad2, cap2, rfl, r2, c2, m2, l2, n2⟩ := h2
  have rX := r1.dg ox
  have rY := r2.dg oy
  have dx := dl_vl_le B32_two ox
  have dy := dl_vl_le B32_two oy
  rw [vx] at rX dx; rw [vy] at rY dy
  have HX := Lib.hid vx; have HY := Lib.hid vy; clear vx vy
  obtain ⟨i0, hi, hz0, hz1, hz2⟩ := info_parts Try.info77
  go_enter Try.func93, Try.ntmps93
  go_wp2_with fail
  refine (mcut_any ad1 _ cap1 xs _ rfl r1 ox l1 c1 m1 n1).mono ?_
  rintro e w' ⟨rfl, hw⟩
  have hw := hw.symm; subst hw
  go_wp2_with fail
  refine (mcut_any ad2 _ cap2 ys _ rfl r2 oy l2 c2 m2 n2).mono ?_
  rintro e w' ⟨rfl, hw⟩
  have hw := hw.symm; subst hw
  rw [HX.out, HY.out]
  obtain ⟨d, hd⟩ : ∃ d, d = dl B32 N := ⟨_, rfl⟩
  obtain ⟨n, hn⟩ : ∃ n, n = dl B32 M := ⟨_, rfl⟩
  rw [← hd] at dx; rw [← hn] at dy
  rw [← hd, ← hn]
  have hdl : d ≤ 1099511627776 := by omega
  have hnl : n ≤ 1099511627776 := by omega
  have hd0 : ad1 = none → d = 0 := fun h => by have := n1 h; omega
  have HD := Lib.hid hd; have HN := Lib.hid hn; have HD0 := Lib.hid hd0
  have RX := Lib.hid rX; have RY := Lib.hid rY
  clear hd hn hd0 rX rY r1 r2 c1 c2 n1 n2 l1 l2 HX HY dx dy ox oy m1
  by_cases hn0 : n = 0
  · have hM : M = 0 := by
      have h := vl_lt (okb_dg B32_two M)
      rw [vl_dg B32_two, length_dg, ← HN.out, hn0] at h
      simpa using h
    have HM := Lib.hid hM
    have hnb : ((n : Int) == 0) = true := by simp; omega
    subst hn0
    clear hM
    go_wp2
    go_ret2
    rw [HM.out]
    exact ⟨_, _, rfl, by rw [Nat.div_zero]; exact Dg.zero _ _ _ _ (by unfold maxLen; omega) (fun _ => rfl), by rw [if_pos rfl]; exact Dg.zero _ _ _ _ (by unfold maxLen; omega) (fun _ => rfl), Below.refl _ _⟩
  · have hn1 : 1 ≤ n := by omega
    clear hn0
    go_wp2_with (at_make; refine wpList_make_full _ rfl _ _ 27 rfl w.heap.size 77 i0 (.int .u32 0) 1 Try.underlying27 hi hz0 hz1 .i64 .i64 _ _ d rfl rfl (by omega) (by omega) (by rw [hz2]; omega) (by unfold maxLen; omega) (Nat.le_refl _) ?_)
    intro w1 hown hgrow
    have hrow := Row.of_made hown
    have hb1 : Below w.heap.size w w1 := (Below.refl _ _).grown hgrow (Nat.le_refl _) (fun k h => by cases h)
    have hheap := hrow.heap (by simp)
    have hcp := copy_src (RX.out.below hb1) w.heap.size
    have hln : (cl .u32 (dg B32 N)).length = Nat.min d d := by rw [cl_length, length_dg, ← HD.out]; exact (Nat.min_self d).symm
    have hlc : 0 + (cl .u32 (dg B32 N)).length ≤ (cl .u32 (List.replicate d 0)).length := by rw [cl_length, cl_length, length_dg, ← HD.out]; simp
    have HHEAP := Lib.hid hheap; have HCP := Lib.hid hcp; have HLN := Lib.hid hln; have HLC := Lib.hid hlc; have HB1 := Lib.hid hb1
    clear hown hgrow hrow hheap hcp hln hlc hb1
    go_wp2_with (refine wpList_copy_splice (o := ⟨some 20, _, _, _, _, _⟩) rfl (.tmp 18) (.tmp 19) 27 27 rfl 77 Try.underlying27 (by rw [hi]; simp [hz1]) (some ⟨w.heap.size, 0, none⟩) ad1 d d d cap1 rfl rfl w.heap.size 0 (cl .u32 (List.replicate d 0)) 77 HHEAP.out (cl .u32 (dg B32 N)) HLN.out HCP.out HLC.out cl_one w.heap.size w HB1.out (Nat.le_refl _) ?_)
    intro w2 hh2 hb2
    have hsp : splice (cl .u32 (List.replicate d 0)) 0 (cl .u32 (dg B32 N)) = cl .u32 (dg B32 N) := by
      unfold splice
      rw [List.take_zero, List.nil_append, List.drop_eq_nil_of_le (by rw [cl_length, cl_length, length_dg, ← HD.out]; simp), List.append_nil]
    obtain ⟨g, hg⟩ : ∃ g, g = w.heap.size := ⟨_, rfl⟩
    have hh3 := hh2.out
    rw [hsp, ← hg] at hh3
    have hr2 := Row.of_heap (base := w.heap.size) (n := d) hh3 (by rw [length_dg]; exact HD.out.symm) (by unfold maxLen; omega) (Nat.le_of_eq hg.symm)
    rw [← hg]
    have hmax : max ((d : Int) - (n : Int) + 1) 0 = ((d + 1 - n : Nat) : Int) := by omega
    have HR2 := Lib.hid hr2; have HB2 := Lib.hid hb2; have HG := Lib.hid hg
    obtain ⟨D, hD⟩ : ∃ D, D = d + 1 - n := ⟨_, rfl⟩
    rw [← hD] at hmax
    have hDl : D ≤ 1099511627776 := by omega
    have HDD := Lib.hid hD
    clear hh2 hb2 hh3 hr2 hsp hg HHEAP HCP HLN HLC HB1 hD
    go_wp2_with (at_make; refine wpList_make_full _ rfl _ _ 27 rfl w2.heap.size 77 i0 (.int .u32 0) 1 Try.underlying27 hi hz0 hz1 .i64 .i64 _ _ D rfl rfl (by omega) (by omega) (by rw [hz2]; omega) (by unfold maxLen; omega) (Nat.le_refl _) ?_)
    intro w3 hown hgrow
    have hrow := Row.of_made hown
    have hb3 : Below w2.heap.size w2 w3 := (Below.refl _ _).grown hgrow (Nat.le_refl _) (fun k h => by cases h)
    have hgb := HR2.out.parts.2.1
    have hne : w2.heap.size ≠ g := by omega
    have hr3 := HR2.out.below hb3
    have hry := (RY.out.below HB2.out).below hb3
    have hq : QHas w3 w.heap.size g w2.heap.size D D (d + 1 - n) 0 (.slice (some ⟨w2.heap.size, 0, none⟩) D D) :=
      .inr ⟨rfl, hne, List.replicate D 0, by simp, okb_replicate B32_pos _, hrow.rebase HB2.out.size, fun t ht => lg_replicate_zero D t, vl_replicate_zero D⟩
    have hred := reduce_any w.heap.size g d d n w2.heap.size D D cap2 ad2 (dg B32 N) (dg B32 M) _ w3 hr3 (okb_dg B32_two N) hry (okb_dg B32_two M)
      (rd_apart RY.out (by rw [length_dg, ← HN.out]; omega) (Nat.le_of_eq HG.out.symm)) (rd_apart RY.out (by rw [length_dg, ← HN.out]; omega) HB2.out.size)
      (by rw [length_dg]; exact HD.out) (by rw [length_dg]; exact HN.out) hn1 (by have := (top_split B32_two (n := M) (by rw [← HN.out]; omega)).2; rw [← HN.out] at this; omega) (by omega) (by omega) (by have := HDD.out; omega) hq
    rw [vl_dg B32_two, vl_dg B32_two] at hred
    have hM0 : ¬ M = 0 := fun h0 => by have := HN.out; rw [h0, dl_zero_B32] at this; omega
    have HRED := Lib.hid hred; have HM0 := Lib.hid hM0
    have HB3 := Lib.hid (HB2.out.trans (hb3.mono HB2.out.size))
    have hsz3 := Lib.hid hb3.size
    clear hown hgrow hrow hb3 hgb hne hr3 hry hq hred hM0 HR2
    go_wp2_with fail
    refine (HRED.out).mono ?_
    rintro e w4 ⟨zs, rfl, hzl, hzo, hro, htw, hv, hqq⟩
    have hb4 := HB3.out.trans (htw.below (B := w.heap.size) (Nat.le_of_eq HG.out.symm) HB2.out.size)
    rcases hqq with hbad | ⟨_, hne, qs, hql, hqo, hqr, hqz, hqv⟩
    · exact absurd hbad (by simp)
    · have HQ := Lib.hid (cut_dg hqr hqo hql hDl hqv)
      have HR := Lib.hid (cut_dg hro hzo hzl hdl hv)
      have h1 := mcut_any (some ⟨w2.heap.size, 0, none⟩) D D qs w4 hql.symm hqr.rd hqo (by omega) (by omega) (by unfold maxLen; omega) (fun h => by cases h)
      have h2 := mcut_any (some ⟨g, 0, none⟩) d d zs w4 hzl.symm hro.rd hzo (by omega) (by omega) (by unfold maxLen; omega) (fun h => by cases h)
      have H1 := Lib.hid h1; have H2 := Lib.hid h2; have HB4 := Lib.hid hb4
      clear h1 h2 hzl hzo hro htw hv hql hqo hqr hqz hqv hb4 hne
      go_wp2_with fail
      refine (H1.out).mono ?_
      rintro e w' ⟨rfl, hw⟩
      have hw := hw.symm; subst hw
      go_wp2_with fail
      refine (H2.out).mono ?_
      rintro e w' ⟨rfl, hw⟩
      have hw := hw.symm; subst hw
      go_wp2
      go_ret2
      exact ⟨_, _, rfl, HQ.out, by rw [if_neg HM0.out]; exact HR.out, HB4.out⟩
end Go.Proofs.Ytjdmnchndnpdlaa

/- mult.Gcd: a cut row, reduce on nothing, the measure. -/
namespace Go.Proofs.Ytjdmnchndnpdlaa
open Go.RowKit
set_option maxRecDepth 100000

theorem Row.take {w : World} {k : IntKind} {T base g cap : Nat} {xs : List Nat} (h : Row w k T base g cap xs) (m : Nat) (hm : m ≤ xs.length) : Row w k T base g cap (xs.take m) := by
  rcases h.own.2 with ⟨h', _⟩ | ⟨g', cap', cur, h', hb, hg, hnc, hcm, hsz, htk⟩
  · simp at h'
  · simp only [Value.slice.injEq, Option.some.injEq, Addr.mk.injEq, and_true, true_and] at h'
    obtain ⟨rfl, rfl⟩ := h'
    have hl : (xs.take m).length = m := by simp; omega
    refine ⟨?_, .inr ⟨g, cap, cur, rfl, hb, hg, by omega, hcm, hsz, ?_⟩⟩
    · rw [cl_length, Nat.mul_one]
    · have e : cl k (xs.take m) = (cl k xs).take m := by simp [cl, List.map_take]
      rw [hl, e, ← htk, List.take_take]
      congr 1
      omega

theorem dg_take {xs : List Nat} {N : Nat} (ho : okb B32 xs) (hv : vl B32 xs = N) : xs.take (dl B32 N) = dg B32 N := by
  have hle := dl_vl_le B32_two ho
  rw [hv] at hle
  have hd := Nat.lt_of_lt_of_le (vl_lt (okb_dg B32_two N)) (Nat.le_refl _)
  rw [vl_dg B32_two, length_dg] at hd
  have hz := high_zero (xs := xs) (k := dl B32 N) (by rw [hv]; exact hd)
  have ht := (take_dg B32_two ho hle (fun h0 => by
    have hs := top_split B32_two (n := N) h0
    intro h1
    have hlt : vl B32 xs < B32 ^ (dl B32 N - 1) := vl_lt_zero ho (fun t ht => by
      by_cases e : t = dl B32 N - 1
      · rw [e]; exact h1
      · exact hz t (by omega))
    rw [hv] at hlt
    have := Nat.mul_le_mul_right (B32 ^ (dl B32 N - 1)) hs.2
    rw [Nat.succ_mul, Nat.zero_mul, Nat.zero_add] at this
    have h5 := Nat.le_add_left (lg (dg B32 N) (dl B32 N - 1) * B32 ^ (dl B32 N - 1)) (N % B32 ^ (dl B32 N - 1))
    rw [← hs.1] at h5
    omega) hz)
  rw [ht.1, hv]

set_option maxHeartbeats 400000 in
theorem reduce_nil (n cp2 : Nat) (ad : Option Addr) (ys : List Nat) (w : World) (ry : Rd w .u32 ad ys) (oy : okb B32 ys) (hn : n = ys.length) (hn1 : 1 ≤ n) (hnl : n ≤ 1099511627777) :
    Calls Try.prog 91 #[.slice none 0 0, .slice ad n cp2, .slice none 0 0] w fun e w' => e = .returned (.tuple #[]) ∧ w' = w := by
  have hpair := pair_any ad n cp2 ys (n - 1) w hn ry oy (by omega) (by omega)
  rw [show ((n - 1 : Nat) : Int) = (n : Int) - 1 from by omega] at hpair
  have HPAIR := Lib.hid hpair
  clear hpair hn ry
  go_enter Try.func91, Try.ntmps91
  go_wp2_with fail
  refine (HPAIR.out).mono ?_
  rintro e w' ⟨rfl, hw⟩
  have hw := hw.symm; subst hw
  go_wp2
  go_loopw [8] (fun i wr => i = .int .i64 (0 - (n : Int)) ∧ wr = w) (fun _ _ => 0)
  case atStart => exact ⟨by simp, rfl⟩
  case round =>
    obtain ⟨rfl, hw⟩ := hrel
    have hw := hw.symm; subst hw
    go_wp2
    go_end0
    exact ⟨rfl, rfl⟩

/-- The value of the slice in slot 6: Gcd's measure. -/
def gm (a : Act) (w : World) : Nat :=
  match a.tmps.getD 6 undef with
  | .slice (some ad) n _ => match w.heap[ad.block]? with
    | some (.cells cur _ _) => vl B32 ((cur.toList.take n).map (fun v => (intOf v).toNat))
    | _ => 0
  | _ => 0
theorem gm_row {a : Act} {w : World} {T base g cap B : Nat} (h : Row w .u32 T base g cap (dg B32 B)) (e : a.tmps.getD 6 undef = .slice (some ⟨g, 0, none⟩) (dl B32 B) cap) : gm a w = B := by
  rcases h.own.2 with ⟨h', _⟩ | ⟨g', cap', cur, h', hb, hg, hnc, hcm, hsz, htk⟩
  · simp at h'
  · simp only [Value.slice.injEq, Option.some.injEq, Addr.mk.injEq, and_true, true_and] at h'
    obtain ⟨rfl, rfl⟩ := h'
    unfold gm
    rw [e]
    simp only [hg]
    rw [length_dg, Nat.mul_one] at htk
    rw [htk]
    have : (cl .u32 (dg B32 B)).map (fun v => (intOf v).toNat) = dg B32 B := by simp [cl, intOf, Function.comp_def]
    rw [this, vl_dg B32_two]
end Go.Proofs.Ytjdmnchndnpdlaa
