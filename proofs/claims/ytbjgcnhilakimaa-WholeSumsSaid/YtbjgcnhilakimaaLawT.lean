/- The walk of WholeSums. -/
import Derived.Test.YtbjgcnhilakimaaLoc
import Derived.Test.YtbjgcnhilakimaaLawS
import Derived.Test.YtbjgcnhilakimaaGF
import Derived.Test.YtbjgcnhilakimaaWhE
import Derived.Test.YtbjgcnhilakimaaGE
import Derived.Deep.RegionHeld3
namespace Go.Proofs.Ytbjgcnhilakimaa
open Go.RowKit
set_option maxRecDepth 100000

theorem Wz.abs {w : World} {b : Bool} {a : Value} {neg : Bool} {V : Nat} (h : Wz w (.agg #[.bool b, a]) (sg neg V)) : Nt w a V := by
  obtain ⟨b', a', N, h1, h2, h3⟩ := h
  injection h1 with h1
  simp only [Array.mk.injEq, List.cons.injEq, and_true] at h1
  obtain ⟨_, rfl⟩ := h1
  have := congrArg Int.natAbs h3
  rw [sg_natAbs, sg_natAbs] at this
  rw [this]; exact h2
set_option maxHeartbeats 8000000 in
theorem wholeSums_walk (neg1 : Bool) (a1 : Option Addr) (n1 c1 : Nat) (x1 : List Nat) (neg2 : Bool) (a2 : Option Addr) (n2 c2 : Nat) (x2 : List Nat) (w : World) (h1 : InX w a1 n1 c1 x1) (h2 : InX w a2 n2 c2 x2) :
    Calls Try.prog 15 #[.agg #[.bool neg1, .slice a1 n1 c1], .agg #[.bool neg2, .slice a2 n2 c2]] w (TruePost w) := by
  have hb0 := ((Below.refl w.heap.size w).alloc (Nat.le_refl _) (.cells #[.bool neg1, .slice a1 n1 c1] 71)).alloc (by first | (simp; done) | (simp; omega) | omega) (.cells #[.bool neg2, .slice a2 n2 c2] 71)
  replace h1 := h1.below hb0
  replace h2 := h2.below hb0
  have s00 : (w.alloc (.cells #[.bool neg1, .slice a1 n1 c1] 71)).cell? ⟨w.heap.size, 0, none⟩ = some (.bool neg1) := by simp
  replace s00 := (World.cell?_alloc_old (w.alloc (.cells #[.bool neg1, .slice a1 n1 c1] 71)) (.cells #[.bool neg2, .slice a2 n2 c2] 71) ⟨w.heap.size, 0, none⟩ (by first | (simp; done) | (simp; omega) | omega)).trans s00
  have s01 : (w.alloc (.cells #[.bool neg1, .slice a1 n1 c1] 71)).cell? ⟨w.heap.size, 1, none⟩ = some (.slice a1 n1 c1) := by simp
  replace s01 := (World.cell?_alloc_old (w.alloc (.cells #[.bool neg1, .slice a1 n1 c1] 71)) (.cells #[.bool neg2, .slice a2 n2 c2] 71) ⟨w.heap.size, 1, none⟩ (by first | (simp; done) | (simp; omega) | omega)).trans s01
  have s10 : ((w.alloc (.cells #[.bool neg1, .slice a1 n1 c1] 71)).alloc (.cells #[.bool neg2, .slice a2 n2 c2] 71)).cell? ⟨(w.heap.size + 1), 0, none⟩ = some (.bool neg2) := by simp
  have s11 : ((w.alloc (.cells #[.bool neg1, .slice a1 n1 c1] 71)).alloc (.cells #[.bool neg2, .slice a2 n2 c2] 71)).cell? ⟨(w.heap.size + 1), 1, none⟩ = some (.slice a2 n2 c2) := by simp
  go_enter Try.func15, Try.ntmps15
  have l1 := rawZ_lim neg1 h1 10; have l2 := rawZ_lim neg2 h2 10
  have l2' : Lim (-rawZ neg2 x2 10).natAbs 10 := by rw [Int.natAbs_neg]; exact l2
  go_wp2_with fail
  refine (awake3_any _).mono ?_
  rintro e w1 ⟨rfl, bb⟩
  replace h1 := h1.below bb
  replace h2 := h2.below bb
  replace s00 := (bb.cell (p := ⟨w.heap.size, 0, none⟩) (cell_lt s00)).trans s00
  replace s01 := (bb.cell (p := ⟨w.heap.size, 1, none⟩) (cell_lt s01)).trans s01
  replace s10 := (bb.cell (p := ⟨(w.heap.size + 1), 0, none⟩) (cell_lt s10)).trans s10
  replace s11 := (bb.cell (p := ⟨(w.heap.size + 1), 1, none⟩) (cell_lt s11)).trans s11
  have bel := bb
  clear bb
  go_wp2_with fail
  refine wp_region_inv' (fun a0 W d a w' => ∃ t5 t6 t11 t12 t13 t14 : Value, a = ((((((a0.put (some 5) t5).put (some 6) t6).put (some 11) t11).put (some 12) t12).put (some 13) t13).put (some 14) t14) ∧ Below W.heap.size W w' ∧ (d 0 = true → t11 = .agg #[.bool neg1, .slice a1 n1 c1]) ∧ (d 2 = true → t13 = .agg #[.bool neg2, .slice a2 n2 c2]) ∧ Lo W w' (fun w v => Wz w v (rawZ neg1 x1 10)) (d 1) (d 4) (d 6) t12 t5 ∧ Lo W w' (fun w v => Wz w v (rawZ neg2 x2 10)) (d 3) (d 5) (d 7) t14 t6 ∧ (d 4 = true → d 5 = true → t5 ≠ t6)) (by kernel_rfl) (by decide +kernel) ?_ ?_ ?_
  · exact ⟨undef, undef, undef, undef, undef, undef, rfl, (Below.refl _ _).drew, (fun h => by cases h), (fun h => by cases h), Lo.start _ _ _ _ _, Lo.start _ _ _ _ _, (fun h => by cases h)⟩
  · rintro d a' w' ⟨t5, t6, t11, t12, t13, t14, rfl, hb, ld0, ld2, L0, L1, x01⟩ i o ho hd hdep K hK
    have hi : i < 8 := (Array.getElem?_eq_some_iff.1 ho).1
    have hcase : i = 0 ∨ i = 1 ∨ i = 2 ∨ i = 3 ∨ i = 4 ∨ i = 5 ∨ i = 6 ∨ i = 7 := by omega
    replace h1 := h1.below hb
    replace h2 := h2.below hb
    replace s00 := (hb.cell (p := ⟨w.heap.size, 0, none⟩) (cell_lt s00)).trans s00
    replace s01 := (hb.cell (p := ⟨w.heap.size, 1, none⟩) (cell_lt s01)).trans s01
    replace s10 := (hb.cell (p := ⟨(w.heap.size + 1), 0, none⟩) (cell_lt s10)).trans s10
    replace s11 := (hb.cell (p := ⟨(w.heap.size + 1), 1, none⟩) (cell_lt s11)).trans s11
    rcases hcase with rfl | rfl | rfl | rfl | rfl | rfl | rfl | rfl
    · obtain rfl := Option.some.inj ho
      go_simp
      refine hK _ _ ⟨t5, t6, _, t12, t13, t14, rfl, hb, (fun _ => rfl), ld2, L0, L1, x01⟩
    · have e0 : d 0 = true := by
          obtain rfl := Option.some.inj ho
          exact hdep ⟨0, .data⟩ (by simp) (by decide)
      obtain rfl := ld0 e0
      obtain rfl := Option.some.inj ho
      go_simp
      refine (own_any neg1 a1 n1 c1 10 x1 _ h1 (by omega)).mono ?_
      rintro e w'' ⟨v, rfl, hv, bb⟩
      rw [hd] at L0
      go_simp
      refine hK _ _ ⟨t5, t6, _, _, t13, t14, rfl, below_to hb bb, (fun _ => rfl), ld2, (L0.called bb hv), (L1.below (Mono.wz _) bb), x01⟩
    · obtain rfl := Option.some.inj ho
      go_simp
      refine hK _ _ ⟨t5, t6, t11, t12, _, t14, rfl, hb, ld0, (fun _ => rfl), L0, L1, x01⟩
    · have e2 : d 2 = true := by
          obtain rfl := Option.some.inj ho
          exact hdep ⟨2, .data⟩ (by simp) (by decide)
      obtain rfl := ld2 e2
      obtain rfl := Option.some.inj ho
      go_simp
      refine (own_any neg2 a2 n2 c2 10 x2 _ h2 (by omega)).mono ?_
      rintro e w'' ⟨v, rfl, hv, bb⟩
      rw [hd] at L1
      go_simp
      refine hK _ _ ⟨t5, t6, t11, t12, _, _, rfl, below_to hb bb, ld0, (fun _ => rfl), (L0.below (Mono.wz _) bb), (L1.called bb hv), x01⟩
    · rw [hd] at L0
      obtain rfl := Option.some.inj ho
      go_simp
      refine hK _ _ ⟨_, t6, t11, t12, t13, t14, rfl, hb.alloc hb.size _, ld0, ld2, (L0.made (Mono.wz _) (notInt_bool _) (notInt_slice _ _ _) hb.size), (L1.below (Mono.wz _) ((Below.refl _ _).alloc (Nat.le_refl _) _)), (fun _ e => (L1.ne_new e).symm)⟩
    · rw [hd] at L1
      obtain rfl := Option.some.inj ho
      go_simp
      refine hK _ _ ⟨t5, _, t11, t12, t13, t14, rfl, hb.alloc hb.size _, ld0, ld2, (L0.below (Mono.wz _) ((Below.refl _ _).alloc (Nat.le_refl _) _)), (L1.made (Mono.wz _) (notInt_bool _) (notInt_slice _ _ _) hb.size), (fun e _ => L0.ne_new e)⟩
    · have e1 : d 1 = true := by
          obtain rfl := Option.some.inj ho
          exact hdep ⟨1, .data⟩ (by simp) (by decide)
      have e4 : d 4 = true := by
          obtain rfl := Option.some.inj ho
          exact hdep ⟨4, .data⟩ (by simp) (by decide)
      rw [e1, e4] at L0
      have hz := L0.call rfl
      obtain ⟨b, ad, n, c, rfl⟩ := hz.form
      obtain ⟨g, rfl, hg, hw, _⟩ := L0.loc rfl
      obtain ⟨u0, hu0⟩ := hw.c0
      obtain ⟨u1, hu1⟩ := hw.c1
      have hf0 := hw.f0
      have hf1 := hw.f1
      have y1 : d 5 = true → t6 ≠ .pointer (some ⟨g, 0, none⟩) := fun e e' => x01 e4 e e'.symm
      obtain rfl := Option.some.inj ho
      go_simp
      refine hK _ _ ⟨_, t6, t11, _, t13, t14, rfl, below_put2 hb hg _ _, ld0, ld2, (by show Lo _ _ _ (d 1) (d 4) true _ _; rw [e1, e4]; exact L0.stored (Mono.wz _)), (L1.far (Mono.wz _) hw (notInt_bool _) y1), x01⟩
    · have e3 : d 3 = true := by
          obtain rfl := Option.some.inj ho
          exact hdep ⟨3, .data⟩ (by simp) (by decide)
      have e5 : d 5 = true := by
          obtain rfl := Option.some.inj ho
          exact hdep ⟨5, .data⟩ (by simp) (by decide)
      rw [e3, e5] at L1
      have hz := L1.call rfl
      obtain ⟨b, ad, n, c, rfl⟩ := hz.form
      obtain ⟨g, rfl, hg, hw, _⟩ := L1.loc rfl
      obtain ⟨u0, hu0⟩ := hw.c0
      obtain ⟨u1, hu1⟩ := hw.c1
      have hf0 := hw.f0
      have hf1 := hw.f1
      have y0 : d 4 = true → t5 ≠ .pointer (some ⟨g, 0, none⟩) := fun e e' => x01 e e5 e'
      obtain rfl := Option.some.inj ho
      go_simp
      refine hK _ _ ⟨t5, _, t11, t12, t13, _, rfl, below_put2 hb hg _ _, ld0, ld2, (L0.far (Mono.wz _) hw (notInt_bool _) y0), (by show Lo _ _ _ (d 3) (d 5) true _ _; rw [e3, e5]; exact L1.stored (Mono.wz _)), x01⟩
  · rintro d a' w2 ⟨t5, t6, t11, t12, t13, t14, rfl, hb, ld0, ld2, L0, L1, x01⟩ hall
    replace h1 := h1.below hb
    replace h2 := h2.below hb
    replace s00 := (hb.cell (p := ⟨w.heap.size, 0, none⟩) (cell_lt s00)).trans s00
    replace s01 := (hb.cell (p := ⟨w.heap.size, 1, none⟩) (cell_lt s01)).trans s01
    replace s10 := (hb.cell (p := ⟨(w.heap.size + 1), 0, none⟩) (cell_lt s10)).trans s10
    replace s11 := (hb.cell (p := ⟨(w.heap.size + 1), 1, none⟩) (cell_lt s11)).trans s11
    obtain rfl := ld0 (hall 0 (by decide))
    obtain rfl := ld2 (hall 2 (by decide))
    rw [hall 1 (by decide), hall 4 (by decide), hall 6 (by decide)] at L0
    have zp := L0.call rfl
    obtain ⟨gp, rfl, hgp, _, hhp⟩ := L0.loc rfl
    obtain ⟨bp, adp, np, cp, rfl, p0, p1⟩ := hhp rfl
    clear L0 hhp hgp
    rw [hall 3 (by decide), hall 5 (by decide), hall 7 (by decide)] at L1
    have zq := L1.call rfl
    obtain ⟨gq, rfl, hgq, _, hhq⟩ := L1.loc rfl
    obtain ⟨bq, adq, nq, cq, rfl, q0, q1⟩ := hhq rfl
    clear L1 hhq hgq
    have bw := below_to bel hb
    clear hall ld0 ld2 x01 hb bel
    have bel := bw
    clear bw
    go_simp
    go_wp2_with fail
    refine wp_region_inv' (fun a0 W d a w' => ∃ t7 t8 t15 t16 t17 t18 : Value, a = ((((((a0.put (some 7) t7).put (some 8) t8).put (some 15) t15).put (some 16) t16).put (some 17) t17).put (some 18) t18) ∧ Below W.heap.size W w' ∧ (d 0 = true → t15 = .agg #[.bool neg1, .slice a1 n1 c1]) ∧ (d 2 = true → t17 = .agg #[.bool neg2, .slice a2 n2 c2]) ∧ Lo W w' (fun w v => Rz w v (rawZ neg1 x1 10)) (d 1) (d 4) (d 6) t16 t7 ∧ Lo W w' (fun w v => Rz w v (rawZ neg2 x2 10)) (d 3) (d 5) (d 7) t18 t8 ∧ (d 4 = true → d 5 = true → t7 ≠ t8)) (by kernel_rfl) (by decide +kernel) ?_ ?_ ?_
    · exact ⟨undef, undef, undef, undef, undef, undef, rfl, (Below.refl _ _).drew, (fun h => by cases h), (fun h => by cases h), Lo.start _ _ _ _ _, Lo.start _ _ _ _ _, (fun h => by cases h)⟩
    · rintro d a' w' ⟨t7, t8, t15, t16, t17, t18, rfl, hb, ld0, ld2, L0, L1, x01⟩ i o ho hd hdep K hK
      have hi : i < 8 := (Array.getElem?_eq_some_iff.1 ho).1
      have hcase : i = 0 ∨ i = 1 ∨ i = 2 ∨ i = 3 ∨ i = 4 ∨ i = 5 ∨ i = 6 ∨ i = 7 := by omega
      replace h1 := h1.below hb
      replace h2 := h2.below hb
      replace zp := zp.below hb
      replace zq := zq.below hb
      replace s00 := (hb.cell (p := ⟨w.heap.size, 0, none⟩) (cell_lt s00)).trans s00
      replace s01 := (hb.cell (p := ⟨w.heap.size, 1, none⟩) (cell_lt s01)).trans s01
      replace s10 := (hb.cell (p := ⟨(w.heap.size + 1), 0, none⟩) (cell_lt s10)).trans s10
      replace s11 := (hb.cell (p := ⟨(w.heap.size + 1), 1, none⟩) (cell_lt s11)).trans s11
      replace p0 := (hb.cell (p := ⟨gp, 0, none⟩) (cell_lt p0)).trans p0
      replace p1 := (hb.cell (p := ⟨gp, 1, none⟩) (cell_lt p1)).trans p1
      replace q0 := (hb.cell (p := ⟨gq, 0, none⟩) (cell_lt q0)).trans q0
      replace q1 := (hb.cell (p := ⟨gq, 1, none⟩) (cell_lt q1)).trans q1
      rcases hcase with rfl | rfl | rfl | rfl | rfl | rfl | rfl | rfl
      · obtain rfl := Option.some.inj ho
        go_simp
        refine hK _ _ ⟨t7, t8, _, t16, t17, t18, rfl, hb, (fun _ => rfl), ld2, L0, L1, x01⟩
      · have e0 : d 0 = true := by
            obtain rfl := Option.some.inj ho
            exact hdep ⟨0, .data⟩ (by simp) (by decide)
        obtain rfl := ld0 e0
        obtain rfl := Option.some.inj ho
        go_simp
        refine (told_any neg1 a1 n1 c1 10 x1 _ h1 (by omega)).mono ?_
        rintro e w'' ⟨v, rfl, hv, bb⟩
        rw [hd] at L0
        go_simp
        refine hK _ _ ⟨t7, t8, _, _, t17, t18, rfl, below_to hb bb, (fun _ => rfl), ld2, (L0.called bb hv), (L1.below (Mono.rz _) bb), x01⟩
      · obtain rfl := Option.some.inj ho
        go_simp
        refine hK _ _ ⟨t7, t8, t15, t16, _, t18, rfl, hb, ld0, (fun _ => rfl), L0, L1, x01⟩
      · have e2 : d 2 = true := by
            obtain rfl := Option.some.inj ho
            exact hdep ⟨2, .data⟩ (by simp) (by decide)
        obtain rfl := ld2 e2
        obtain rfl := Option.some.inj ho
        go_simp
        refine (told_any neg2 a2 n2 c2 10 x2 _ h2 (by omega)).mono ?_
        rintro e w'' ⟨v, rfl, hv, bb⟩
        rw [hd] at L1
        go_simp
        refine hK _ _ ⟨t7, t8, t15, t16, _, _, rfl, below_to hb bb, ld0, (fun _ => rfl), (L0.below (Mono.rz _) bb), (L1.called bb hv), x01⟩
      · rw [hd] at L0
        obtain rfl := Option.some.inj ho
        go_simp
        refine hK _ _ ⟨_, t8, t15, t16, t17, t18, rfl, hb.alloc hb.size _, ld0, ld2, (L0.made (Mono.rz _) (notInt_bool _) (notInt_slice _ _ _) hb.size), (L1.below (Mono.rz _) ((Below.refl _ _).alloc (Nat.le_refl _) _)), (fun _ e => (L1.ne_new e).symm)⟩
      · rw [hd] at L1
        obtain rfl := Option.some.inj ho
        go_simp
        refine hK _ _ ⟨t7, _, t15, t16, t17, t18, rfl, hb.alloc hb.size _, ld0, ld2, (L0.below (Mono.rz _) ((Below.refl _ _).alloc (Nat.le_refl _) _)), (L1.made (Mono.rz _) (notInt_bool _) (notInt_slice _ _ _) hb.size), (fun e _ => L0.ne_new e)⟩
      · have e1 : d 1 = true := by
            obtain rfl := Option.some.inj ho
            exact hdep ⟨1, .data⟩ (by simp) (by decide)
        have e4 : d 4 = true := by
            obtain rfl := Option.some.inj ho
            exact hdep ⟨4, .data⟩ (by simp) (by decide)
        rw [e1, e4] at L0
        have hz := L0.call rfl
        obtain ⟨b, ad, n, c, rfl⟩ := hz.form
        obtain ⟨g, rfl, hg, hw, _⟩ := L0.loc rfl
        obtain ⟨u0, hu0⟩ := hw.c0
        obtain ⟨u1, hu1⟩ := hw.c1
        have hf0 := hw.f0
        have hf1 := hw.f1
        have y1 : d 5 = true → t8 ≠ .pointer (some ⟨g, 0, none⟩) := fun e e' => x01 e4 e e'.symm
        obtain rfl := Option.some.inj ho
        go_simp
        refine hK _ _ ⟨_, t8, t15, _, t17, t18, rfl, below_put2 hb hg _ _, ld0, ld2, (by show Lo _ _ _ (d 1) (d 4) true _ _; rw [e1, e4]; exact L0.stored (Mono.rz _)), (L1.far (Mono.rz _) hw (notInt_bool _) y1), x01⟩
      · have e3 : d 3 = true := by
            obtain rfl := Option.some.inj ho
            exact hdep ⟨3, .data⟩ (by simp) (by decide)
        have e5 : d 5 = true := by
            obtain rfl := Option.some.inj ho
            exact hdep ⟨5, .data⟩ (by simp) (by decide)
        rw [e3, e5] at L1
        have hz := L1.call rfl
        obtain ⟨b, ad, n, c, rfl⟩ := hz.form
        obtain ⟨g, rfl, hg, hw, _⟩ := L1.loc rfl
        obtain ⟨u0, hu0⟩ := hw.c0
        obtain ⟨u1, hu1⟩ := hw.c1
        have hf0 := hw.f0
        have hf1 := hw.f1
        have y0 : d 4 = true → t7 ≠ .pointer (some ⟨g, 0, none⟩) := fun e e' => x01 e e5 e'
        obtain rfl := Option.some.inj ho
        go_simp
        refine hK _ _ ⟨t7, _, t15, t16, t17, _, rfl, below_put2 hb hg _ _, ld0, ld2, (L0.far (Mono.rz _) hw (notInt_bool _) y0), (by show Lo _ _ _ (d 3) (d 5) true _ _; rw [e3, e5]; exact L1.stored (Mono.rz _)), x01⟩
    · rintro d a' w3 ⟨t7, t8, t15, t16, t17, t18, rfl, hb, ld0, ld2, L0, L1, x01⟩ hall
      replace h1 := h1.below hb
      replace h2 := h2.below hb
      replace zp := zp.below hb
      replace zq := zq.below hb
      replace s00 := (hb.cell (p := ⟨w.heap.size, 0, none⟩) (cell_lt s00)).trans s00
      replace s01 := (hb.cell (p := ⟨w.heap.size, 1, none⟩) (cell_lt s01)).trans s01
      replace s10 := (hb.cell (p := ⟨(w.heap.size + 1), 0, none⟩) (cell_lt s10)).trans s10
      replace s11 := (hb.cell (p := ⟨(w.heap.size + 1), 1, none⟩) (cell_lt s11)).trans s11
      replace p0 := (hb.cell (p := ⟨gp, 0, none⟩) (cell_lt p0)).trans p0
      replace p1 := (hb.cell (p := ⟨gp, 1, none⟩) (cell_lt p1)).trans p1
      replace q0 := (hb.cell (p := ⟨gq, 0, none⟩) (cell_lt q0)).trans q0
      replace q1 := (hb.cell (p := ⟨gq, 1, none⟩) (cell_lt q1)).trans q1
      obtain rfl := ld0 (hall 0 (by decide))
      obtain rfl := ld2 (hall 2 (by decide))
      rw [hall 1 (by decide), hall 4 (by decide), hall 6 (by decide)] at L0
      have zr := L0.call rfl
      obtain ⟨gr, rfl, hgr, _, hhr⟩ := L0.loc rfl
      obtain ⟨br, adr, nr, cr, rfl, r0, r1⟩ := hhr rfl
      clear L0 hhr hgr
      rw [hall 3 (by decide), hall 5 (by decide), hall 7 (by decide)] at L1
      have zs := L1.call rfl
      obtain ⟨gs, rfl, hgs, _, hhs⟩ := L1.loc rfl
      obtain ⟨bs, ads, ns, cs, rfl, s0, s1⟩ := hhs rfl
      clear L1 hhs hgs
      have bw := below_to bel hb
      clear hall ld0 ld2 x01 hb bel
      have bel := bw
      clear bw
      go_simp
      clear h1 h2 s10 s11
      go_wp2_with fail
      have bd := cell_bd s00
      replace zp := zp.below bd
      replace zq := zq.below bd
      replace zr := zr.below bd
      replace zs := zs.below bd
      replace s00 := (bd.cell (p := ⟨w.heap.size, 0, none⟩) (cell_lt s00)).trans s00
      replace s01 := (bd.cell (p := ⟨w.heap.size, 1, none⟩) (cell_lt s01)).trans s01
      replace p0 := (bd.cell (p := ⟨gp, 0, none⟩) (cell_lt p0)).trans p0
      replace p1 := (bd.cell (p := ⟨gp, 1, none⟩) (cell_lt p1)).trans p1
      replace q0 := (bd.cell (p := ⟨gq, 0, none⟩) (cell_lt q0)).trans q0
      replace q1 := (bd.cell (p := ⟨gq, 1, none⟩) (cell_lt q1)).trans q1
      replace r0 := (bd.cell (p := ⟨gr, 0, none⟩) (cell_lt r0)).trans r0
      replace r1 := (bd.cell (p := ⟨gr, 1, none⟩) (cell_lt r1)).trans r1
      replace s0 := (bd.cell (p := ⟨gs, 0, none⟩) (cell_lt s0)).trans s0
      replace s1 := (bd.cell (p := ⟨gs, 1, none⟩) (cell_lt s1)).trans s1
      replace bel := below_to bel bd
      clear bd
      go_region_held3 (fun w' => w'.cell? ⟨w.heap.size, 0, none⟩ = some (.bool neg1) ∧ w'.cell? ⟨w.heap.size, 1, none⟩ = some (.slice a1 n1 c1) ∧ w'.cell? ⟨gp, 0, none⟩ = some (.bool bp) ∧ w'.cell? ⟨gp, 1, none⟩ = some (.slice adp np cp) ∧ w'.cell? ⟨gq, 0, none⟩ = some (.bool bq) ∧ w'.cell? ⟨gq, 1, none⟩ = some (.slice adq nq cq) ∧ w'.cell? ⟨gr, 0, none⟩ = some (.bool br) ∧ w'.cell? ⟨gr, 1, none⟩ = some (.slice adr nr cr) ∧ w'.cell? ⟨gs, 0, none⟩ = some (.bool bs) ∧ w'.cell? ⟨gs, 1, none⟩ = some (.slice ads ns cs)) (first | exact ⟨s00, s01, p0, p1, q0, q1, r0, r1, s0, s1⟩ | go_keep)
        (first
        | (go_at_call 61; (with_reducible refine (whAdd_any _ _ _ _ 10 10 _ zp zq l1 l2 (by omega) (by omega)).mono ?_); rintro e w4 ⟨v1, rfl, d1, bb⟩; replace zp := zp.below bb; replace zq := zq.below bb; replace zr := zr.below bb; replace zs := zs.below bb; replace s00 := (bb.cell (p := ⟨w.heap.size, 0, none⟩) (cell_lt s00)).trans s00; replace s01 := (bb.cell (p := ⟨w.heap.size, 1, none⟩) (cell_lt s01)).trans s01; replace p0 := (bb.cell (p := ⟨gp, 0, none⟩) (cell_lt p0)).trans p0; replace p1 := (bb.cell (p := ⟨gp, 1, none⟩) (cell_lt p1)).trans p1; replace q0 := (bb.cell (p := ⟨gq, 0, none⟩) (cell_lt q0)).trans q0; replace q1 := (bb.cell (p := ⟨gq, 1, none⟩) (cell_lt q1)).trans q1; replace r0 := (bb.cell (p := ⟨gr, 0, none⟩) (cell_lt r0)).trans r0; replace r1 := (bb.cell (p := ⟨gr, 1, none⟩) (cell_lt r1)).trans r1; replace s0 := (bb.cell (p := ⟨gs, 0, none⟩) (cell_lt s0)).trans s0; replace s1 := (bb.cell (p := ⟨gs, 1, none⟩) (cell_lt s1)).trans s1; replace bel := below_to bel bb; clear bb)
        | (go_at_call 62; (with_reducible refine (radd_any3 _ _ _ _ 10 10 _ zr zs l1 l2 (by omega) (by omega)).mono ?_); rintro e w5 ⟨v2, rfl, d2, bb⟩; replace zp := zp.below bb; replace zq := zq.below bb; replace zr := zr.below bb; replace zs := zs.below bb; replace d1 := d1.below bb; replace s00 := (bb.cell (p := ⟨w.heap.size, 0, none⟩) (cell_lt s00)).trans s00; replace s01 := (bb.cell (p := ⟨w.heap.size, 1, none⟩) (cell_lt s01)).trans s01; replace p0 := (bb.cell (p := ⟨gp, 0, none⟩) (cell_lt p0)).trans p0; replace p1 := (bb.cell (p := ⟨gp, 1, none⟩) (cell_lt p1)).trans p1; replace q0 := (bb.cell (p := ⟨gq, 0, none⟩) (cell_lt q0)).trans q0; replace q1 := (bb.cell (p := ⟨gq, 1, none⟩) (cell_lt q1)).trans q1; replace r0 := (bb.cell (p := ⟨gr, 0, none⟩) (cell_lt r0)).trans r0; replace r1 := (bb.cell (p := ⟨gr, 1, none⟩) (cell_lt r1)).trans r1; replace s0 := (bb.cell (p := ⟨gs, 0, none⟩) (cell_lt s0)).trans s0; replace s1 := (bb.cell (p := ⟨gs, 1, none⟩) (cell_lt s1)).trans s1; replace bel := below_to bel bb; clear bb)
        | (go_at_call 60; (with_reducible refine (Is3_any _ _ _ _ d1 d2).mono ?_); rintro e w6 ⟨rfl, bb⟩; replace zp := zp.below bb; replace zq := zq.below bb; replace zr := zr.below bb; replace zs := zs.below bb; replace d1 := d1.below bb; replace d2 := d2.below bb; replace s00 := (bb.cell (p := ⟨w.heap.size, 0, none⟩) (cell_lt s00)).trans s00; replace s01 := (bb.cell (p := ⟨w.heap.size, 1, none⟩) (cell_lt s01)).trans s01; replace p0 := (bb.cell (p := ⟨gp, 0, none⟩) (cell_lt p0)).trans p0; replace p1 := (bb.cell (p := ⟨gp, 1, none⟩) (cell_lt p1)).trans p1; replace q0 := (bb.cell (p := ⟨gq, 0, none⟩) (cell_lt q0)).trans q0; replace q1 := (bb.cell (p := ⟨gq, 1, none⟩) (cell_lt q1)).trans q1; replace r0 := (bb.cell (p := ⟨gr, 0, none⟩) (cell_lt r0)).trans r0; replace r1 := (bb.cell (p := ⟨gr, 1, none⟩) (cell_lt r1)).trans r1; replace s0 := (bb.cell (p := ⟨gs, 0, none⟩) (cell_lt s0)).trans s0; replace s1 := (bb.cell (p := ⟨gs, 1, none⟩) (cell_lt s1)).trans s1; replace bel := below_to bel bb; clear bb; clear d1 d2)
        | (go_at_call 63; have kc := whSub_any _ _ _ _ 10 10 _ zp zq l1 l2 (by omega) (by omega); rw [Int.sub_eq_add_neg] at kc; (with_reducible refine kc.mono ?_); rintro e w7 ⟨v3, rfl, d3, bb⟩; clear kc; replace zp := zp.below bb; replace zq := zq.below bb; replace zr := zr.below bb; replace zs := zs.below bb; replace s00 := (bb.cell (p := ⟨w.heap.size, 0, none⟩) (cell_lt s00)).trans s00; replace s01 := (bb.cell (p := ⟨w.heap.size, 1, none⟩) (cell_lt s01)).trans s01; replace p0 := (bb.cell (p := ⟨gp, 0, none⟩) (cell_lt p0)).trans p0; replace p1 := (bb.cell (p := ⟨gp, 1, none⟩) (cell_lt p1)).trans p1; replace q0 := (bb.cell (p := ⟨gq, 0, none⟩) (cell_lt q0)).trans q0; replace q1 := (bb.cell (p := ⟨gq, 1, none⟩) (cell_lt q1)).trans q1; replace r0 := (bb.cell (p := ⟨gr, 0, none⟩) (cell_lt r0)).trans r0; replace r1 := (bb.cell (p := ⟨gr, 1, none⟩) (cell_lt r1)).trans r1; replace s0 := (bb.cell (p := ⟨gs, 0, none⟩) (cell_lt s0)).trans s0; replace s1 := (bb.cell (p := ⟨gs, 1, none⟩) (cell_lt s1)).trans s1; replace bel := below_to bel bb; clear bb)
        | (go_at_call 64; (with_reducible refine (ropp_any _ _ _ zs).mono ?_); rintro e w8 ⟨v4, rfl, d4, bb⟩; replace zp := zp.below bb; replace zq := zq.below bb; replace zr := zr.below bb; replace zs := zs.below bb; replace d3 := d3.below bb; replace s00 := (bb.cell (p := ⟨w.heap.size, 0, none⟩) (cell_lt s00)).trans s00; replace s01 := (bb.cell (p := ⟨w.heap.size, 1, none⟩) (cell_lt s01)).trans s01; replace p0 := (bb.cell (p := ⟨gp, 0, none⟩) (cell_lt p0)).trans p0; replace p1 := (bb.cell (p := ⟨gp, 1, none⟩) (cell_lt p1)).trans p1; replace q0 := (bb.cell (p := ⟨gq, 0, none⟩) (cell_lt q0)).trans q0; replace q1 := (bb.cell (p := ⟨gq, 1, none⟩) (cell_lt q1)).trans q1; replace r0 := (bb.cell (p := ⟨gr, 0, none⟩) (cell_lt r0)).trans r0; replace r1 := (bb.cell (p := ⟨gr, 1, none⟩) (cell_lt r1)).trans r1; replace s0 := (bb.cell (p := ⟨gs, 0, none⟩) (cell_lt s0)).trans s0; replace s1 := (bb.cell (p := ⟨gs, 1, none⟩) (cell_lt s1)).trans s1; replace bel := below_to bel bb; clear bb)
        | (go_at_call 62; (with_reducible refine (radd_any3 _ _ _ _ 10 10 _ zr d4 l1 l2' (by omega) (by omega)).mono ?_); rintro e w9 ⟨v5, rfl, d5, bb⟩; replace zp := zp.below bb; replace zq := zq.below bb; replace zr := zr.below bb; replace zs := zs.below bb; replace d3 := d3.below bb; replace d4 := d4.below bb; replace s00 := (bb.cell (p := ⟨w.heap.size, 0, none⟩) (cell_lt s00)).trans s00; replace s01 := (bb.cell (p := ⟨w.heap.size, 1, none⟩) (cell_lt s01)).trans s01; replace p0 := (bb.cell (p := ⟨gp, 0, none⟩) (cell_lt p0)).trans p0; replace p1 := (bb.cell (p := ⟨gp, 1, none⟩) (cell_lt p1)).trans p1; replace q0 := (bb.cell (p := ⟨gq, 0, none⟩) (cell_lt q0)).trans q0; replace q1 := (bb.cell (p := ⟨gq, 1, none⟩) (cell_lt q1)).trans q1; replace r0 := (bb.cell (p := ⟨gr, 0, none⟩) (cell_lt r0)).trans r0; replace r1 := (bb.cell (p := ⟨gr, 1, none⟩) (cell_lt r1)).trans r1; replace s0 := (bb.cell (p := ⟨gs, 0, none⟩) (cell_lt s0)).trans s0; replace s1 := (bb.cell (p := ⟨gs, 1, none⟩) (cell_lt s1)).trans s1; replace bel := below_to bel bb; clear bb; clear d4)
        | (go_at_call 60; (with_reducible refine (Is3_any _ _ _ _ d3 d5).mono ?_); rintro e w10 ⟨rfl, bb⟩; replace zp := zp.below bb; replace zq := zq.below bb; replace zr := zr.below bb; replace zs := zs.below bb; replace d3 := d3.below bb; replace d5 := d5.below bb; replace s00 := (bb.cell (p := ⟨w.heap.size, 0, none⟩) (cell_lt s00)).trans s00; replace s01 := (bb.cell (p := ⟨w.heap.size, 1, none⟩) (cell_lt s01)).trans s01; replace p0 := (bb.cell (p := ⟨gp, 0, none⟩) (cell_lt p0)).trans p0; replace p1 := (bb.cell (p := ⟨gp, 1, none⟩) (cell_lt p1)).trans p1; replace q0 := (bb.cell (p := ⟨gq, 0, none⟩) (cell_lt q0)).trans q0; replace q1 := (bb.cell (p := ⟨gq, 1, none⟩) (cell_lt q1)).trans q1; replace r0 := (bb.cell (p := ⟨gr, 0, none⟩) (cell_lt r0)).trans r0; replace r1 := (bb.cell (p := ⟨gr, 1, none⟩) (cell_lt r1)).trans r1; replace s0 := (bb.cell (p := ⟨gs, 0, none⟩) (cell_lt s0)).trans s0; replace s1 := (bb.cell (p := ⟨gs, 1, none⟩) (cell_lt s1)).trans s1; replace bel := below_to bel bb; clear bb; clear d3 d5)
        | (go_at_call 65; (with_reducible refine (whMul_any _ _ _ _ 10 10 _ zp zq l1 l2 (by omega) (by omega)).mono ?_); rintro e w11 ⟨v6, rfl, d6, bb⟩; replace zp := zp.below bb; replace zq := zq.below bb; replace zr := zr.below bb; replace zs := zs.below bb; replace s00 := (bb.cell (p := ⟨w.heap.size, 0, none⟩) (cell_lt s00)).trans s00; replace s01 := (bb.cell (p := ⟨w.heap.size, 1, none⟩) (cell_lt s01)).trans s01; replace p0 := (bb.cell (p := ⟨gp, 0, none⟩) (cell_lt p0)).trans p0; replace p1 := (bb.cell (p := ⟨gp, 1, none⟩) (cell_lt p1)).trans p1; replace q0 := (bb.cell (p := ⟨gq, 0, none⟩) (cell_lt q0)).trans q0; replace q1 := (bb.cell (p := ⟨gq, 1, none⟩) (cell_lt q1)).trans q1; replace r0 := (bb.cell (p := ⟨gr, 0, none⟩) (cell_lt r0)).trans r0; replace r1 := (bb.cell (p := ⟨gr, 1, none⟩) (cell_lt r1)).trans r1; replace s0 := (bb.cell (p := ⟨gs, 0, none⟩) (cell_lt s0)).trans s0; replace s1 := (bb.cell (p := ⟨gs, 1, none⟩) (cell_lt s1)).trans s1; replace bel := below_to bel bb; clear bb)
        | (go_at_call 66; (with_reducible refine (rmul_any _ _ _ _ 10 10 _ zr zs l1 l2 (by omega) (by omega)).mono ?_); rintro e w12 ⟨v7, rfl, d7, bb⟩; replace zp := zp.below bb; replace zq := zq.below bb; replace zr := zr.below bb; replace zs := zs.below bb; replace d6 := d6.below bb; replace s00 := (bb.cell (p := ⟨w.heap.size, 0, none⟩) (cell_lt s00)).trans s00; replace s01 := (bb.cell (p := ⟨w.heap.size, 1, none⟩) (cell_lt s01)).trans s01; replace p0 := (bb.cell (p := ⟨gp, 0, none⟩) (cell_lt p0)).trans p0; replace p1 := (bb.cell (p := ⟨gp, 1, none⟩) (cell_lt p1)).trans p1; replace q0 := (bb.cell (p := ⟨gq, 0, none⟩) (cell_lt q0)).trans q0; replace q1 := (bb.cell (p := ⟨gq, 1, none⟩) (cell_lt q1)).trans q1; replace r0 := (bb.cell (p := ⟨gr, 0, none⟩) (cell_lt r0)).trans r0; replace r1 := (bb.cell (p := ⟨gr, 1, none⟩) (cell_lt r1)).trans r1; replace s0 := (bb.cell (p := ⟨gs, 0, none⟩) (cell_lt s0)).trans s0; replace s1 := (bb.cell (p := ⟨gs, 1, none⟩) (cell_lt s1)).trans s1; replace bel := below_to bel bb; clear bb)
        | (go_at_call 60; (with_reducible refine (Is3_any _ _ _ _ d6 d7).mono ?_); rintro e w13 ⟨rfl, bb⟩; replace zp := zp.below bb; replace zq := zq.below bb; replace zr := zr.below bb; replace zs := zs.below bb; replace d6 := d6.below bb; replace d7 := d7.below bb; replace s00 := (bb.cell (p := ⟨w.heap.size, 0, none⟩) (cell_lt s00)).trans s00; replace s01 := (bb.cell (p := ⟨w.heap.size, 1, none⟩) (cell_lt s01)).trans s01; replace p0 := (bb.cell (p := ⟨gp, 0, none⟩) (cell_lt p0)).trans p0; replace p1 := (bb.cell (p := ⟨gp, 1, none⟩) (cell_lt p1)).trans p1; replace q0 := (bb.cell (p := ⟨gq, 0, none⟩) (cell_lt q0)).trans q0; replace q1 := (bb.cell (p := ⟨gq, 1, none⟩) (cell_lt q1)).trans q1; replace r0 := (bb.cell (p := ⟨gr, 0, none⟩) (cell_lt r0)).trans r0; replace r1 := (bb.cell (p := ⟨gr, 1, none⟩) (cell_lt r1)).trans r1; replace s0 := (bb.cell (p := ⟨gs, 0, none⟩) (cell_lt s0)).trans s0; replace s1 := (bb.cell (p := ⟨gs, 1, none⟩) (cell_lt s1)).trans s1; replace bel := below_to bel bb; clear bb; clear d6 d7)
        | (go_at_call 67; (with_reducible refine (whOpp_any _ _ _ zp).mono ?_); rintro e w14 ⟨v8, rfl, d8, bb⟩; replace zp := zp.below bb; replace zq := zq.below bb; replace zr := zr.below bb; replace zs := zs.below bb; replace s00 := (bb.cell (p := ⟨w.heap.size, 0, none⟩) (cell_lt s00)).trans s00; replace s01 := (bb.cell (p := ⟨w.heap.size, 1, none⟩) (cell_lt s01)).trans s01; replace p0 := (bb.cell (p := ⟨gp, 0, none⟩) (cell_lt p0)).trans p0; replace p1 := (bb.cell (p := ⟨gp, 1, none⟩) (cell_lt p1)).trans p1; replace q0 := (bb.cell (p := ⟨gq, 0, none⟩) (cell_lt q0)).trans q0; replace q1 := (bb.cell (p := ⟨gq, 1, none⟩) (cell_lt q1)).trans q1; replace r0 := (bb.cell (p := ⟨gr, 0, none⟩) (cell_lt r0)).trans r0; replace r1 := (bb.cell (p := ⟨gr, 1, none⟩) (cell_lt r1)).trans r1; replace s0 := (bb.cell (p := ⟨gs, 0, none⟩) (cell_lt s0)).trans s0; replace s1 := (bb.cell (p := ⟨gs, 1, none⟩) (cell_lt s1)).trans s1; replace bel := below_to bel bb; clear bb)
        | (go_at_call 64; (with_reducible refine (ropp_any _ _ _ zr).mono ?_); rintro e w15 ⟨v9, rfl, d9, bb⟩; replace zp := zp.below bb; replace zq := zq.below bb; replace zr := zr.below bb; replace zs := zs.below bb; replace d8 := d8.below bb; replace s00 := (bb.cell (p := ⟨w.heap.size, 0, none⟩) (cell_lt s00)).trans s00; replace s01 := (bb.cell (p := ⟨w.heap.size, 1, none⟩) (cell_lt s01)).trans s01; replace p0 := (bb.cell (p := ⟨gp, 0, none⟩) (cell_lt p0)).trans p0; replace p1 := (bb.cell (p := ⟨gp, 1, none⟩) (cell_lt p1)).trans p1; replace q0 := (bb.cell (p := ⟨gq, 0, none⟩) (cell_lt q0)).trans q0; replace q1 := (bb.cell (p := ⟨gq, 1, none⟩) (cell_lt q1)).trans q1; replace r0 := (bb.cell (p := ⟨gr, 0, none⟩) (cell_lt r0)).trans r0; replace r1 := (bb.cell (p := ⟨gr, 1, none⟩) (cell_lt r1)).trans r1; replace s0 := (bb.cell (p := ⟨gs, 0, none⟩) (cell_lt s0)).trans s0; replace s1 := (bb.cell (p := ⟨gs, 1, none⟩) (cell_lt s1)).trans s1; replace bel := below_to bel bb; clear bb)
        | (go_at_call 60; (with_reducible refine (Is3_any _ _ _ _ d8 d9).mono ?_); rintro e w16 ⟨rfl, bb⟩; replace zp := zp.below bb; replace zq := zq.below bb; replace zr := zr.below bb; replace zs := zs.below bb; replace d8 := d8.below bb; replace d9 := d9.below bb; replace s00 := (bb.cell (p := ⟨w.heap.size, 0, none⟩) (cell_lt s00)).trans s00; replace s01 := (bb.cell (p := ⟨w.heap.size, 1, none⟩) (cell_lt s01)).trans s01; replace p0 := (bb.cell (p := ⟨gp, 0, none⟩) (cell_lt p0)).trans p0; replace p1 := (bb.cell (p := ⟨gp, 1, none⟩) (cell_lt p1)).trans p1; replace q0 := (bb.cell (p := ⟨gq, 0, none⟩) (cell_lt q0)).trans q0; replace q1 := (bb.cell (p := ⟨gq, 1, none⟩) (cell_lt q1)).trans q1; replace r0 := (bb.cell (p := ⟨gr, 0, none⟩) (cell_lt r0)).trans r0; replace r1 := (bb.cell (p := ⟨gr, 1, none⟩) (cell_lt r1)).trans r1; replace s0 := (bb.cell (p := ⟨gs, 0, none⟩) (cell_lt s0)).trans s0; replace s1 := (bb.cell (p := ⟨gs, 1, none⟩) (cell_lt s1)).trans s1; replace bel := below_to bel bb; clear bb; clear d8 d9))
      go_wp2_with fail
      have bd := cell_bd s00
      replace zp := zp.below bd
      replace zq := zq.below bd
      replace zr := zr.below bd
      replace zs := zs.below bd
      replace s00 := (bd.cell (p := ⟨w.heap.size, 0, none⟩) (cell_lt s00)).trans s00
      replace s01 := (bd.cell (p := ⟨w.heap.size, 1, none⟩) (cell_lt s01)).trans s01
      replace p0 := (bd.cell (p := ⟨gp, 0, none⟩) (cell_lt p0)).trans p0
      replace p1 := (bd.cell (p := ⟨gp, 1, none⟩) (cell_lt p1)).trans p1
      replace q0 := (bd.cell (p := ⟨gq, 0, none⟩) (cell_lt q0)).trans q0
      replace q1 := (bd.cell (p := ⟨gq, 1, none⟩) (cell_lt q1)).trans q1
      replace r0 := (bd.cell (p := ⟨gr, 0, none⟩) (cell_lt r0)).trans r0
      replace r1 := (bd.cell (p := ⟨gr, 1, none⟩) (cell_lt r1)).trans r1
      replace s0 := (bd.cell (p := ⟨gs, 0, none⟩) (cell_lt s0)).trans s0
      replace s1 := (bd.cell (p := ⟨gs, 1, none⟩) (cell_lt s1)).trans s1
      replace bel := below_to bel bd
      clear bd
      go_region_held3 (fun w' => w'.cell? ⟨w.heap.size, 0, none⟩ = some (.bool neg1) ∧ w'.cell? ⟨w.heap.size, 1, none⟩ = some (.slice a1 n1 c1) ∧ w'.cell? ⟨gp, 0, none⟩ = some (.bool bp) ∧ w'.cell? ⟨gp, 1, none⟩ = some (.slice adp np cp) ∧ w'.cell? ⟨gq, 0, none⟩ = some (.bool bq) ∧ w'.cell? ⟨gq, 1, none⟩ = some (.slice adq nq cq) ∧ w'.cell? ⟨gr, 0, none⟩ = some (.bool br) ∧ w'.cell? ⟨gr, 1, none⟩ = some (.slice adr nr cr) ∧ w'.cell? ⟨gs, 0, none⟩ = some (.bool bs) ∧ w'.cell? ⟨gs, 1, none⟩ = some (.slice ads ns cs)) (first | exact ⟨s00, s01, p0, p1, q0, q1, r0, r1, s0, s1⟩ | go_keep)
        (first
        | (go_at_call 68; (with_reducible refine (whSign_any _ _ _ zp).mono ?_); rintro e w17 ⟨rfl, bb⟩; replace zp := zp.below bb; replace zq := zq.below bb; replace zr := zr.below bb; replace zs := zs.below bb; replace s00 := (bb.cell (p := ⟨w.heap.size, 0, none⟩) (cell_lt s00)).trans s00; replace s01 := (bb.cell (p := ⟨w.heap.size, 1, none⟩) (cell_lt s01)).trans s01; replace p0 := (bb.cell (p := ⟨gp, 0, none⟩) (cell_lt p0)).trans p0; replace p1 := (bb.cell (p := ⟨gp, 1, none⟩) (cell_lt p1)).trans p1; replace q0 := (bb.cell (p := ⟨gq, 0, none⟩) (cell_lt q0)).trans q0; replace q1 := (bb.cell (p := ⟨gq, 1, none⟩) (cell_lt q1)).trans q1; replace r0 := (bb.cell (p := ⟨gr, 0, none⟩) (cell_lt r0)).trans r0; replace r1 := (bb.cell (p := ⟨gr, 1, none⟩) (cell_lt r1)).trans r1; replace s0 := (bb.cell (p := ⟨gs, 0, none⟩) (cell_lt s0)).trans s0; replace s1 := (bb.cell (p := ⟨gs, 1, none⟩) (cell_lt s1)).trans s1; replace bel := below_to bel bb; clear bb)
        | (go_at_call 69; (with_reducible refine (rsign_any _ _ _ zr).mono ?_); rintro e w18 ⟨rfl, bb⟩; replace zp := zp.below bb; replace zq := zq.below bb; replace zr := zr.below bb; replace zs := zs.below bb; replace s00 := (bb.cell (p := ⟨w.heap.size, 0, none⟩) (cell_lt s00)).trans s00; replace s01 := (bb.cell (p := ⟨w.heap.size, 1, none⟩) (cell_lt s01)).trans s01; replace p0 := (bb.cell (p := ⟨gp, 0, none⟩) (cell_lt p0)).trans p0; replace p1 := (bb.cell (p := ⟨gp, 1, none⟩) (cell_lt p1)).trans p1; replace q0 := (bb.cell (p := ⟨gq, 0, none⟩) (cell_lt q0)).trans q0; replace q1 := (bb.cell (p := ⟨gq, 1, none⟩) (cell_lt q1)).trans q1; replace r0 := (bb.cell (p := ⟨gr, 0, none⟩) (cell_lt r0)).trans r0; replace r1 := (bb.cell (p := ⟨gr, 1, none⟩) (cell_lt r1)).trans r1; replace s0 := (bb.cell (p := ⟨gs, 0, none⟩) (cell_lt s0)).trans s0; replace s1 := (bb.cell (p := ⟨gs, 1, none⟩) (cell_lt s1)).trans s1; replace bel := below_to bel bb; clear bb)
        | (go_at_call 70; (with_reducible refine (whCmp_any _ _ _ _ _ zp zq).mono ?_); rintro e w19 ⟨rfl, bb⟩; replace zp := zp.below bb; replace zq := zq.below bb; replace zr := zr.below bb; replace zs := zs.below bb; replace s00 := (bb.cell (p := ⟨w.heap.size, 0, none⟩) (cell_lt s00)).trans s00; replace s01 := (bb.cell (p := ⟨w.heap.size, 1, none⟩) (cell_lt s01)).trans s01; replace p0 := (bb.cell (p := ⟨gp, 0, none⟩) (cell_lt p0)).trans p0; replace p1 := (bb.cell (p := ⟨gp, 1, none⟩) (cell_lt p1)).trans p1; replace q0 := (bb.cell (p := ⟨gq, 0, none⟩) (cell_lt q0)).trans q0; replace q1 := (bb.cell (p := ⟨gq, 1, none⟩) (cell_lt q1)).trans q1; replace r0 := (bb.cell (p := ⟨gr, 0, none⟩) (cell_lt r0)).trans r0; replace r1 := (bb.cell (p := ⟨gr, 1, none⟩) (cell_lt r1)).trans r1; replace s0 := (bb.cell (p := ⟨gs, 0, none⟩) (cell_lt s0)).trans s0; replace s1 := (bb.cell (p := ⟨gs, 1, none⟩) (cell_lt s1)).trans s1; replace bel := below_to bel bb; clear bb)
        | (go_at_call 71; (with_reducible refine (rcmp_any3 _ _ _ _ 10 10 _ zr zs l1 l2 (by omega) (by omega)).mono ?_); rintro e w20 ⟨rfl, bb⟩; replace zp := zp.below bb; replace zq := zq.below bb; replace zr := zr.below bb; replace zs := zs.below bb; replace s00 := (bb.cell (p := ⟨w.heap.size, 0, none⟩) (cell_lt s00)).trans s00; replace s01 := (bb.cell (p := ⟨w.heap.size, 1, none⟩) (cell_lt s01)).trans s01; replace p0 := (bb.cell (p := ⟨gp, 0, none⟩) (cell_lt p0)).trans p0; replace p1 := (bb.cell (p := ⟨gp, 1, none⟩) (cell_lt p1)).trans p1; replace q0 := (bb.cell (p := ⟨gq, 0, none⟩) (cell_lt q0)).trans q0; replace q1 := (bb.cell (p := ⟨gq, 1, none⟩) (cell_lt q1)).trans q1; replace r0 := (bb.cell (p := ⟨gr, 0, none⟩) (cell_lt r0)).trans r0; replace r1 := (bb.cell (p := ⟨gr, 1, none⟩) (cell_lt r1)).trans r1; replace s0 := (bb.cell (p := ⟨gs, 0, none⟩) (cell_lt s0)).trans s0; replace s1 := (bb.cell (p := ⟨gs, 1, none⟩) (cell_lt s1)).trans s1; replace bel := below_to bel bb; clear bb)
        | (go_at_call 72; (with_reducible refine (make_any neg1 _ _ _ (Wz.abs zp)).mono ?_); rintro e w21 ⟨v10, rfl, d10, bb⟩; replace zp := zp.below bb; replace zq := zq.below bb; replace zr := zr.below bb; replace zs := zs.below bb; replace s00 := (bb.cell (p := ⟨w.heap.size, 0, none⟩) (cell_lt s00)).trans s00; replace s01 := (bb.cell (p := ⟨w.heap.size, 1, none⟩) (cell_lt s01)).trans s01; replace p0 := (bb.cell (p := ⟨gp, 0, none⟩) (cell_lt p0)).trans p0; replace p1 := (bb.cell (p := ⟨gp, 1, none⟩) (cell_lt p1)).trans p1; replace q0 := (bb.cell (p := ⟨gq, 0, none⟩) (cell_lt q0)).trans q0; replace q1 := (bb.cell (p := ⟨gq, 1, none⟩) (cell_lt q1)).trans q1; replace r0 := (bb.cell (p := ⟨gr, 0, none⟩) (cell_lt r0)).trans r0; replace r1 := (bb.cell (p := ⟨gr, 1, none⟩) (cell_lt r1)).trans r1; replace s0 := (bb.cell (p := ⟨gs, 0, none⟩) (cell_lt s0)).trans s0; replace s1 := (bb.cell (p := ⟨gs, 1, none⟩) (cell_lt s1)).trans s1; replace bel := below_to bel bb; clear bb)
        | (go_at_call 60; (with_reducible refine (Is3_any _ _ _ _ d10 zr).mono ?_); rintro e w22 ⟨rfl, bb⟩; replace zp := zp.below bb; replace zq := zq.below bb; replace zr := zr.below bb; replace zs := zs.below bb; replace d10 := d10.below bb; replace s00 := (bb.cell (p := ⟨w.heap.size, 0, none⟩) (cell_lt s00)).trans s00; replace s01 := (bb.cell (p := ⟨w.heap.size, 1, none⟩) (cell_lt s01)).trans s01; replace p0 := (bb.cell (p := ⟨gp, 0, none⟩) (cell_lt p0)).trans p0; replace p1 := (bb.cell (p := ⟨gp, 1, none⟩) (cell_lt p1)).trans p1; replace q0 := (bb.cell (p := ⟨gq, 0, none⟩) (cell_lt q0)).trans q0; replace q1 := (bb.cell (p := ⟨gq, 1, none⟩) (cell_lt q1)).trans q1; replace r0 := (bb.cell (p := ⟨gr, 0, none⟩) (cell_lt r0)).trans r0; replace r1 := (bb.cell (p := ⟨gr, 1, none⟩) (cell_lt r1)).trans r1; replace s0 := (bb.cell (p := ⟨gs, 0, none⟩) (cell_lt s0)).trans s0; replace s1 := (bb.cell (p := ⟨gs, 1, none⟩) (cell_lt s1)).trans s1; replace bel := below_to bel bb; clear bb; clear d10))
      go_wp2
      go_ret
      exact ⟨rfl, hb0.trans (bel.mono hb0.size)⟩
end Go.Proofs.Ytbjgcnhilakimaa
