import Derived.Test.YtnkdjldieegpjaaLawE
namespace Go.Proofs.Ytnkdjldieegpjaa
open Go.RowKit

set_option maxHeartbeats 4000000 in
theorem natAdds_walk (a0 a1 : Option Addr) (n0 c0 n1 c1 : Nat) (x0 x1 : List Nat) (w : World)
    (e0 : n0 = x0.length) (r0 : Rd w .u32 a0 x0) (o0 : okb B32 x0) (l0 : x0.length ≤ c0) (m0 : c0 ≤ maxLen) (z0 : a0 = none → c0 = 0)
    (e1 : n1 = x1.length) (r1 : Rd w .u32 a1 x1) (o1 : okb B32 x1) (l1 : x1.length ≤ c1) (m1 : c1 ≤ maxLen) (z1 : a1 = none → c1 = 0) :
    Calls Try.prog 3 #[.slice a0 n0 c0, .slice a1 n1 c1] w (TruePost w) := by
  have E0 := Lib.hid e0; have E1 := Lib.hid e1
  clear e0 e1
  have T0 := Lib.hid (take_take_self x0 12); have T1 := Lib.hid (take_take_self x1 12)
  have ox := okb_take o0 12
  have oy := okb_take o1 12
  have lx : (x0.take 12).length ≤ 12 := by simp; omega
  have ly : (x1.take 12).length ≤ 12 := by simp; omega
  go_enter Try.func3, Try.ntmps3
  go_wp2_with fail
  refine (few_in a0 _ c0 x0 12 _ E0.out r0 l0 m0 z0 (by omega)).mono ?_
  rintro e wa ⟨x, rfl, sx, ba⟩
  go_wp2_with fail
  refine (few_in a1 _ c1 x1 12 _ E1.out (r1.below ba) l1 m1 z1 (by omega)).mono ?_
  rintro e wb ⟨y, rfl, sy, bb⟩
  have ab := below_to ba bb
  have sx := sx.below bb
  clear r0 r1 ba bb E0 E1 z0 z1 l0 l1 m0 m1 o0 o1
  go_wp2_with fail
  refine (awake_any _).mono ?_
  rintro e wc ⟨rfl, bc⟩
  have ac := below_to ab bc
  have sx := sx.below bc; have sy := sy.below bc
  clear ab bc
  go_wp2_with fail
  refine (rbits_sq x (x0.take 12) wc sx ox (by omega)).mono ?_
  rintro e wd ⟨a, rfl, da, bd⟩
  have ad := below_to ac bd
  have sx := sx.below bd; have sy := sy.below bd
  clear ac bd
  go_wp2_with fail
  refine (rbits_sq y (x1.take 12) wd sy oy (by omega)).mono ?_
  rintro e we ⟨b, rfl, db, be⟩
  have ae := below_to ad be
  have sx := sx.below be; have sy := sy.below be; have da := da.below be
  clear ad be
  go_wp2_with fail
  refine (few_sq x (x0.take 12) 12 we sx (by omega)).mono ?_
  rintro e wf ⟨p, rfl, sp, bf⟩
  rw [T0.out] at sp
  have af := below_to ae bf
  have sx := sx.below bf; have sy := sy.below bf; have da := da.below bf; have db := db.below bf
  clear ae bf
  go_wp2_with fail
  refine (few_sq y (x1.take 12) 12 wf sy (by omega)).mono ?_
  rintro e wg ⟨q, rfl, sq, bg⟩
  rw [T1.out] at sq
  have st : AddsSt w wg x y p q a b (x0.take 12) (x1.take 12) := ⟨below_to af bg, sx.below bg, sy.below bg, sp.below bg, sq, da.below bg, db.below bg⟩
  clear af bg sx sy sp sq da db T0 T1
  generalize x0.take 12 = xs at *
  generalize x1.take 12 = ys at *
  obtain ⟨P, hP⟩ : ∃ P, P = vl B32 xs := ⟨_, rfl⟩
  obtain ⟨Q, hQ⟩ : ∃ Q, Q = vl B32 ys := ⟨_, rfl⟩
  have bp : P < B32 ^ 12 := by rw [hP]; exact Nat.lt_of_lt_of_le (vl_lt ox) (Nat.pow_le_pow_right B32_pos lx)
  have bq : Q < B32 ^ 12 := by rw [hQ]; exact Nat.lt_of_lt_of_le (vl_lt oy) (Nat.pow_le_pow_right B32_pos ly)
  have HP := Lib.hid hP; have HQ := Lib.hid hQ
  clear hP hQ
  have np : ∀ w' : World, AddsSt w w' x y p q a b xs ys → Nt w' p P := fun _ h => by rw [HP.out]; exact h.sp.nt ox
  have nq : ∀ w' : World, AddsSt w w' x y p q a b xs ys → Nt w' q Q := fun _ h => by rw [HQ.out]; exact h.sq.nt oy
  have da : ∀ w' : World, AddsSt w w' x y p q a b xs ys → Dg w' .i64 2 a P := fun _ h => by rw [HP.out]; exact h.da
  have db : ∀ w' : World, AddsSt w w' x y p q a b xs ys → Dg w' .i64 2 b Q := fun _ h => by rw [HQ.out]; exact h.db
  have NP := Lib.hid np; have NQ := Lib.hid nq; have DA := Lib.hid da; have DB := Lib.hid db
  have D2 := Lib.hid (And.intro (dl2_small bp (by omega)) (dl2_small bq (by omega)))
  have DS := Lib.hid (dl_small (add_small bp bq) (by omega))
  have DP := Lib.hid (Nat.le_trans (dl_le B32_two bp) (show 12 ≤ 1000 by omega))
  clear np nq da db bp bq lx ly ox oy HP HQ
  go_wp2_with fail
  refine (sub_any p q P Q wg (NP.out _ st) (NQ.out _ st)).mono ?_
  intro e wh hs
  have bh : Below wg.heap.size wg wh := by rcases hs with ⟨_, _, h⟩ | ⟨_, _, _, _, h⟩ <;> exact h
  have st := st.below bh
  rcases hs with ⟨hlt, rfl, _⟩ | ⟨hle, v, rfl, dv, _⟩
  · have LT := Lib.hid (show decide (P < Q) = true from by simpa using hlt)
    clear hlt bh
    go_wp2_with fail
    refine (add_any p q P Q wh (NP.out _ st) (NQ.out _ st) DS.out).mono ?_
    rintro e wi ⟨v1, rfl, d1, bi⟩
    have st := st.below bi
    clear bi
    go_wp2_with fail
    refine (radd_any a b P Q wi (DA.out _ st) (DB.out _ st) (by have := D2.out; omega)).mono ?_
    rintro e wj ⟨v2, rfl, d2, bj⟩
    have st := st.below bj; have d1 := d1.below bj
    clear bj
    go_wp2_with fail
    refine (is_any v1 v2 (P + Q) wj d1 d2).mono ?_
    rintro e wk ⟨rfl, bk⟩
    have st := st.below bk
    clear bk d1 d2
    go_wp2_with fail
    refine (cmp_any p q P Q wk (NP.out _ st) (NQ.out _ st)).mono ?_
    intro e wl hh
    obtain ⟨rfl, bl, _⟩ := quiet_below hh
    have st := st.below bl
    clear bl hh
    go_wp2_with fail
    refine (rcmp_any a b P Q wl (DA.out _ st) (DB.out _ st)).mono ?_
    rintro e w2 ⟨rfl, hw⟩
    have hw := hw.symm; subst hw
    go_wp2_with fail
    have kc := rless_any a b P Q wl (DA.out _ st) (DB.out _ st)
    unfold LessPost at kc
    rw [LT.out] at kc
    refine kc.mono ?_
    rintro e w2 ⟨rfl, hw⟩
    have hw := hw.symm; subst hw
    clear kc
    go_wp2_with fail
    refine (same_any p x xs wl st.sp st.sx).mono ?_
    intro e wm hh
    obtain ⟨rfl, bl, _⟩ := quiet_below hh
    have st := st.below bl
    clear bl hh
    go_wp2_with fail
    refine (same_any q y ys wm st.sq st.sy).mono ?_
    intro e wn hh
    obtain ⟨rfl, bl, _⟩ := quiet_below hh
    have st := st.below bl
    clear bl hh
    go_wp2_with fail
    refine (trim_dg p P wn (NP.out _ st) DP.out).mono ?_
    rintro e wo ⟨v3, rfl, d3, bo⟩
    have st := st.below bo
    clear bo
    go_wp2_with fail
    refine (is_any v3 a P wo d3 (DA.out _ st)).mono ?_
    rintro e wp ⟨rfl, bk⟩
    have bel := (st.below bk).bel
    clear bk d3 st
    go_wp2_with fail
    go_ret
    exact ⟨rfl, bel⟩
  · have LT := Lib.hid (show decide (P < Q) = false from by simp; omega)
    have LE := Lib.hid hle
    clear hle bh
    go_wp2_with fail
    refine (add_any p q P Q wh (NP.out _ st) (NQ.out _ st) DS.out).mono ?_
    rintro e wi ⟨v1, rfl, d1, bi⟩
    have st := st.below bi; have dv := dv.below bi
    clear bi
    go_wp2_with fail
    refine (radd_any a b P Q wi (DA.out _ st) (DB.out _ st) (by have := D2.out; omega)).mono ?_
    rintro e wj ⟨v2, rfl, d2, bj⟩
    have st := st.below bj; have d1 := d1.below bj; have dv := dv.below bj
    clear bj
    go_wp2_with fail
    refine (is_any v1 v2 (P + Q) wj d1 d2).mono ?_
    rintro e wk ⟨rfl, bk⟩
    have st := st.below bk; have dv := dv.below bk
    clear bk d1 d2
    go_wp2_with fail
    refine (cmp_any p q P Q wk (NP.out _ st) (NQ.out _ st)).mono ?_
    intro e wl hh
    obtain ⟨rfl, bl, _⟩ := quiet_below hh
    have st := st.below bl; have dv := dv.below bl
    clear bl hh
    go_wp2_with fail
    refine (rcmp_any a b P Q wl (DA.out _ st) (DB.out _ st)).mono ?_
    rintro e w2 ⟨rfl, hw⟩
    have hw := hw.symm; subst hw
    go_wp2_with fail
    have kc := rless_any a b P Q wl (DA.out _ st) (DB.out _ st)
    unfold LessPost at kc
    rw [LT.out] at kc
    refine kc.mono ?_
    rintro e w2 ⟨rfl, hw⟩
    have hw := hw.symm; subst hw
    clear kc
    go_wp2_with fail
    refine (rsub_any a b P Q wl (DA.out _ st) (DB.out _ st) LE.out).mono ?_
    rintro e wm ⟨v4, rfl, d4, bm⟩
    have st := st.below bm; have dv := dv.below bm
    clear bm
    go_wp2_with fail
    refine (is_any v v4 (P - Q) wm dv d4).mono ?_
    rintro e wm2 ⟨rfl, bk⟩
    have st := st.below bk
    clear bk d4 dv
    go_wp2_with fail
    refine (same_any p x xs wm2 st.sp st.sx).mono ?_
    intro e wm3 hh
    obtain ⟨rfl, bl, _⟩ := quiet_below hh
    have st := st.below bl
    clear bl hh
    go_wp2_with fail
    refine (same_any q y ys wm3 st.sq st.sy).mono ?_
    intro e wn hh
    obtain ⟨rfl, bl, _⟩ := quiet_below hh
    have st := st.below bl
    clear bl hh
    go_wp2_with fail
    refine (trim_dg p P wn (NP.out _ st) DP.out).mono ?_
    rintro e wo ⟨v3, rfl, d3, bo⟩
    have st := st.below bo
    clear bo
    go_wp2_with fail
    refine (is_any v3 a P wo d3 (DA.out _ st)).mono ?_
    rintro e wp ⟨rfl, bk⟩
    have bel := (st.below bk).bel
    clear bk d3 st
    go_wp2_with fail
    go_ret
    exact ⟨rfl, bel⟩
end Go.Proofs.Ytnkdjldieegpjaa
