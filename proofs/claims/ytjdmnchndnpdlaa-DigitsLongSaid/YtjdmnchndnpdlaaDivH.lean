/- Contract of mult.reduce. -/
import Derived.Test.YtjdmnchndnpdlaaDivB
import Derived.Test.YtjdmnchndnpdlaaGDb
namespace Go.Proofs.Ytjdmnchndnpdlaa
open Go.RowKit
set_option maxRecDepth 100000

/-- w' differs from w in the blocks g and h only. -/
structure Two (g h : Nat) (w w' : World) : Prop where
  os : w'.os = w.os
  tape : w'.tape = w.tape
  output : w'.output = w.output
  size : w'.heap.size = w.heap.size
  block : ∀ k, k ≠ g → k ≠ h → w'.heap[k]? = w.heap[k]?

theorem Two.refl (g h : Nat) (w : World) : Two g h w w := ⟨rfl, rfl, rfl, rfl, fun _ _ _ => rfl⟩
theorem Two.trans {g h : Nat} {a b c : World} (x : Two g h a b) (y : Two g h b c) : Two g h a c :=
  ⟨y.os.trans x.os, y.tape.trans x.tape, y.output.trans x.output, y.size.trans x.size, fun i h1 h2 => (y.block i h1 h2).trans (x.block i h1 h2)⟩
theorem Only.two {g h : Nat} {a b : World} (x : Only g a b) : Two g h a b := ⟨x.os, x.tape, x.output, x.size, fun k h1 _ => x.block k h1⟩
theorem Only.two' {g h : Nat} {a b : World} (x : Only h a b) : Two g h a b := ⟨x.os, x.tape, x.output, x.size, fun k _ h2 => x.block k h2⟩
theorem Two.one {g : Nat} {a b : World} (x : Two g g a b) : Only g a b := ⟨x.os, x.tape, x.output, x.size, fun k h1 => x.block k h1 h1⟩
theorem Two.below {g h B : Nat} {w w' : World} (x : Two g h w w') (h1 : B ≤ g) (h2 : B ≤ h) : Below B w w' :=
  ⟨x.os, x.tape, x.output, Nat.le_of_eq x.size.symm, fun k hk => x.block k (by omega) (by omega)⟩
theorem Only.drewN {g : Nat} {a w : World} (x : Only g a w) (n : Nat) : Only g a (w.drewN n) := ⟨x.os, x.tape, x.output, x.size, x.block⟩
theorem Two.rd {g h : Nat} {w w' : World} {k : IntKind} {ad : Option Addr} {xs : List Nat} (x : Two g h w w') (r : Rd w k ad xs) (ha : Apart ad g) (hb : Apart ad h) : Rd w' k ad xs := by
  refine ⟨fun i hi => ?_⟩
  obtain ⟨b, off, e, hlt, hc⟩ := r.cell i hi
  refine ⟨b, off, e, by rw [x.size]; exact hlt, ?_⟩
  rw [← hc]
  unfold World.cell?
  rw [x.block b (ha b off e) (hb b off e)]

/-- Where the quotient goes: nowhere, or into a row of its own that holds Qv, with its limbs below m still 0. -/
def QHas (w : World) (base g h cq D m Qv : Nat) (vq : Value) : Prop :=
  vq = .slice none 0 0 ∨ (vq = .slice (some ⟨h, 0, none⟩) D cq ∧ h ≠ g ∧ ∃ qs, qs.length = D ∧ okb B32 qs ∧ Row w .u32 77 base h cq qs ∧ (∀ t, t < m → lg qs t = 0) ∧ vl B32 qs = Qv)

theorem QHas.only {w w' : World} {base g h cq D m Qv : Nat} {vq : Value} (x : QHas w base g h cq D m Qv vq) (o : Only g w w') : QHas w' base g h cq D m Qv vq := by
  rcases x with x | ⟨e, hne, qs, l, ok, r, z, v⟩
  · exact .inl x
  · exact .inr ⟨e, hne, qs, l, ok, r.of_block (o.block h hne), z, v⟩
theorem QHas.to {w : World} {base g h cq D m Qv Qv' : Nat} {vq : Value} (x : QHas w base g h cq D m Qv vq) (e : Qv = Qv') : QHas w base g h cq D m Qv' vq := e ▸ x

def RedInv (w : World) (base g cap L X Y n h cq D : Nat) (vq i : Value) (wr : World) : Prop :=
  ∃ (m : Nat) (zs : List Nat), m ≤ L + 1 - n ∧ i = .int .i64 ((m : Int) - 1) ∧ zs.length = L ∧ okb B32 zs ∧ Row wr .u32 77 base g cap zs ∧ Two g h w wr ∧ vl B32 zs = X % (Y * B32 ^ m) ∧ QHas wr base g h cq D m (X / (Y * B32 ^ m) * B32 ^ m) vq

def RedPost (w : World) (base g cap L X Y h cq D : Nat) (vq : Value) (e : Ending) (w' : World) : Prop :=
  ∃ (zs : List Nat), e = .returned (.tuple #[]) ∧ zs.length = L ∧ okb B32 zs ∧ Row w' .u32 77 base g cap zs ∧ Two g h w w' ∧ vl B32 zs = X % Y ∧ QHas w' base g h cq D 0 (X / Y) vq

/-- Behind the digit: the row holds what is left over, and limb K as it was. -/
def RedCut (w : World) (base g cap L K E V : Nat) (s9 : Value) (wc : World) : Prop :=
  ∃ (dd R : Nat) (zs : List Nat), s9 = .int .u64 dd ∧ dd < 4294967296 ∧ zs.length = L ∧ okb B32 zs ∧ Row wc .u32 77 base g cap zs ∧ Only g w wc ∧ vl B32 zs = R + lg zs K * B32 ^ K ∧ V = dd * E + R ∧ R < E

/-- Behind the top limb set to 0. -/
def RedCut2 (w : World) (base g cap L dd R : Nat) (s9 : Value) (wc : World) : Prop :=
  ∃ (zs : List Nat), s9 = .int .u64 dd ∧ zs.length = L ∧ okb B32 zs ∧ Row wc .u32 77 base g cap zs ∧ Only g w wc ∧ vl B32 zs = R

theorem mod_of_top {X Y L n : Nat} (h : n ≤ L) (hX : X < B32 ^ L) (hY : B32 ^ n ≤ Y * B32) : X < Y * B32 ^ (L + 1 - n) := by
  have e : B32 ^ L * B32 = B32 ^ n * B32 ^ (L + 1 - n) * 1 := by rw [Nat.mul_one, ← Nat.pow_add, ← Nat.pow_succ]; congr 1; omega
  have h1 := Nat.mul_le_mul_right (B32 ^ (L + 1 - n)) hY
  have h2 := Nat.mul_lt_mul_of_pos_right hX B32_pos
  rw [e, Nat.mul_one] at h2
  have h3 : X * B32 < Y * B32 ^ (L + 1 - n) * B32 := by
    rw [Nat.mul_assoc Y, Nat.mul_comm (B32 ^ _) B32, ← Nat.mul_assoc]
    exact Nat.lt_of_lt_of_le h2 h1
  exact Nat.lt_of_mul_lt_mul_right h3

/-- A number's size, when its top limb isn't 0. -/
theorem row_top_le {ys : List Nat} {n : Nat} (hn : n = ys.length) (h1 : 1 ≤ n) (ht : lg ys (n - 1) ≠ 0) : B32 ^ n ≤ vl B32 ys * B32 := by
  by_cases h : vl B32 ys < B32 ^ (n - 1)
  · exact absurd (high_zero h (n - 1) (Nat.le_refl _)) ht
  · have := Nat.mul_le_mul_right B32 (show B32 ^ (n - 1) ≤ vl B32 ys by omega)
    rw [← Nat.pow_succ, show (n - 1).succ = n from by omega] at this
    exact this

set_option maxHeartbeats 4000000 in
set_option maxRecDepth 100000 in
theorem reduce_any (base g cap L n h cq D cp2 : Nat) (ad : Option Addr) (xs ys : List Nat) (vq : Value) (w : World) (hr : Row w .u32 77 base g cap xs) (ho : okb B32 xs) (ry : Rd w .u32 ad ys) (oy : okb B32 ys) (ha : Apart ad g) (hah : Apart ad h)
    (hL : L = xs.length) (hn : n = ys.length) (hn1 : 1 ≤ n) (htop : lg ys (n - 1) ≠ 0) (hl : L ≤ 1099511627777) (hnl : n ≤ 1099511627777) (hD : L + 1 - n ≤ D) (hq : QHas w base g h cq D (L + 1 - n) 0 vq) :
    Calls Try.prog 91 #[.slice (some ⟨g, 0, none⟩) L cap, .slice ad n cp2, vq] w (RedPost w base g cap L (vl B32 xs) (vl B32 ys) h cq D vq) := by
  obtain ⟨X, hX⟩ : ∃ X, X = vl B32 xs := ⟨_, rfl⟩
  obtain ⟨Y, hY⟩ : ∃ Y, Y = vl B32 ys := ⟨_, rfl⟩
  have hXL : X < B32 ^ L := by rw [hX, hL]; exact vl_lt ho
  have hYn : B32 ^ n ≤ Y * B32 := by rw [hY]; exact row_top_le hn hn1 htop
  have hYp : 0 < Y := Nat.pos_of_ne_zero (fun h0 => by rw [h0, Nat.zero_mul] at hYn; have := Nat.pow_pos (n := n) B32_pos; omega)
  have HYP := Lib.hid hYp
  have hH := pr_ge htop
  have hH2 := pr_lt (i := n - 1) oy
  obtain ⟨H, hHe⟩ : ∃ H, H = pr ys (n - 1) := ⟨_, rfl⟩
  rw [← hHe] at hH hH2
  have hpair := pair_any ad n cp2 ys (n - 1) w hn ry oy (by omega) (by omega)
  rw [← hHe, show ((n - 1 : Nat) : Int) = (n : Int) - 1 from by omega] at hpair
  have HPAIR := Lib.hid hpair; have HX := Lib.hid hX; have HY := Lib.hid hY; have HL := Lib.hid hL; have HN := Lib.hid hn; have HXL := Lib.hid hXL; have HYN := Lib.hid hYn; have HHE := Lib.hid hHe
  have HR := Lib.hid hr; have HO := Lib.hid ho; have RY := Lib.hid ry; have OY := Lib.hid oy; have HA := Lib.hid ha; have HAH := Lib.hid hah; have HTOP := Lib.hid htop; have HQ := Lib.hid hq
  rw [← hX, ← hY]
  clear hYp hpair hX hY hL hn hXL hYn hHe hr ho ry oy ha hah htop hq
  by_cases hLn : L < n
  · have hXY : X < Y := by
      have h1 := Nat.mul_lt_mul_of_pos_right HXL.out B32_pos
      rw [← Nat.pow_succ] at h1
      have h2 : B32 ^ L.succ ≤ B32 ^ n := Nat.pow_le_pow_right B32_pos hLn
      exact Nat.lt_of_mul_lt_mul_right (Nat.lt_of_lt_of_le h1 (Nat.le_trans h2 HYN.out))
    have hf : RedPost w base g cap L X Y h cq D vq (.returned (.tuple #[])) w :=
      ⟨xs, rfl, HL.out.symm, HO.out, HR.out, Two.refl _ _ _, by rw [Nat.mod_eq_of_lt hXY]; exact HX.out.symm, by have := HQ.out; rw [show L + 1 - n = 0 from by omega] at this; rw [Nat.div_eq_of_lt hXY]; exact this⟩
    have HF := Lib.hid hf; clear hf hXY
    go_enter Try.func91, Try.ntmps91
    go_wp2_with fail
    refine (HPAIR.out).mono ?_
    rintro e w' ⟨rfl, hw⟩
    have hw := hw.symm; subst hw
    go_wp2
    go_loopw [8] (fun i wr => i = .int .i64 ((L : Int) - (n : Int)) ∧ wr = w) (fun _ _ => 0)
    case atStart => exact ⟨rfl, rfl⟩
    case round =>
      obtain ⟨rfl, hw⟩ := hrel
      have hw := hw.symm; subst hw
      go_wp2
      go_end0
      exact HF.out
  · go_enter Try.func91, Try.ntmps91
    go_wp2_with fail
    refine (HPAIR.out).mono ?_
    rintro e w' ⟨rfl, hw⟩
    have hw := hw.symm; subst hw
    go_wp2
    go_loopw [8] (fun i wr => RedInv w base g cap L X Y n h cq D vq i wr) (fun i _ => (intOf i + 1).toNat)
    case atStart =>
      have hlt := mod_of_top (n := n) (L := L) (by omega) HXL.out HYN.out
      exact ⟨L + 1 - n, xs, Nat.le_refl _, by go_num, HL.out.symm, HO.out, HR.out, Two.refl _ _ _, by rw [Nat.mod_eq_of_lt hlt]; exact HX.out.symm, HQ.out.to (by rw [Nat.div_eq_of_lt hlt, Nat.zero_mul])⟩
    case round =>
      obtain ⟨m, zs, hm, rfl, hzl, hzo, hro, htw, hv, hqh⟩ := hrel
      have HV := Lib.hid hv; have HZL := Lib.hid hzl; have HZO := Lib.hid hzo; have HRO := Lib.hid hro; have HTW := Lib.hid htw; have HQH := Lib.hid hqh
      clear hv hzl hzo hro htw hqh
      by_cases hp : 0 < m
      · obtain ⟨j, rfl⟩ : ∃ j, m = j + 1 := ⟨m - 1, by omega⟩
        rw [show ((j + 1 : Nat) : Int) - 1 = (j : Int) from by omega]
        have hjn : j + n ≤ L := by omega
        clear hm hp
        have hcap := HRO.out.parts.2.2.1
        rw [HZL.out] at hcap
        have hjc : j < cap := by omega
        have hjc2 : ¬ cap - j = 0 := by omega
        have lu : lg zs (j + n) < 4294967296 := lg_lt HZO.out B32_pos (j + n)
        have lp := pr_lt (i := j + n - 1) HZO.out
        have hat := mat_any (some ⟨g, 0, none⟩) L cap zs (j + n) wr HZL.out.symm HRO.out.rd HZO.out (by rw [HZL.out]; omega) (by omega)
        have hpr := pair_any (some ⟨g, 0, none⟩) L cap zs (j + n - 1) wr HZL.out.symm HRO.out.rd HZO.out (by rw [HZL.out]; omega) (by omega)
        have hdv := div64_any (lg zs (j + n)) (pr zs (j + n - 1)) H wr hH hH2 (by omega) lp
        rw [show ((j + n : Nat) : Int) = (j : Int) + (n : Int) from by omega] at hat
        rw [show ((j + n - 1 : Nat) : Int) = (j : Int) + (n : Int) - 1 from by omega] at hpr
        have hest := digit_est (zs := zs) (ys := ys) (j := j) HZO.out OY.out (by rw [← HN.out]; exact hn1) (by rw [HV.out, ← HY.out]; exact Nat.mod_lt _ (Nat.mul_pos HYP.out (Nat.pow_pos B32_pos))) rfl (by rw [← HN.out]; exact HTOP.out)
        rw [← HN.out, ← HHE.out, ← HY.out] at hest
        obtain ⟨u, hu⟩ : ∃ u, u = lg zs (j + n) := ⟨_, rfl⟩
        obtain ⟨v2, hv2⟩ : ∃ v2, v2 = pr zs (j + n - 1) := ⟨_, rfl⟩
        rw [← hu] at lu hat hdv hest
        rw [← hv2] at lp hpr hdv hest
        obtain ⟨qh, hqh⟩ : ∃ qh, qh = (u * 18446744073709551616 + v2) / H := ⟨_, rfl⟩
        rw [← hqh] at hdv hest
        obtain ⟨d, hd⟩ : ∃ d, d = min qh 4294967295 := ⟨_, rfl⟩
        rw [← hd] at hest
        have hdm : d < 4294967296 := by have := Nat.min_le_right qh 4294967295; omega
        have HAT := Lib.hid hat; have HPR := Lib.hid hpr; have HDV := Lib.hid hdv; have HEST := Lib.hid hest; have HU := Lib.hid hu; have HD := Lib.hid hd
        clear hat hpr hdv hest hu hv2 hqh hd lp lu
        go_wp2_with fail
        refine (HAT.out).mono ?_
        rintro e w' ⟨rfl, hw⟩
        have hw := hw.symm; subst hw
        go_wp2_with fail
        refine (HPR.out).mono ?_
        rintro e w' ⟨rfl, hw⟩
        have hw := hw.symm; subst hw
        go_wp2_with fail
        refine (HDV.out).mono ?_
        rintro e w' ⟨rr, nd, rfl, rfl⟩
        go_wp2_with fail
        rw [show min (qh : Int) 4294967295 = (d : Int) from by rw [HD.out]; omega]
        refine (take_any base g cap cp2 (cap - j) j (L - j) n d ad zs ys (wr.drewN nd) (HRO.out.drewN nd) HZO.out ((HTW.out.rd RY.out HA.out HAH.out).drewN nd) OY.out HA.out (by rw [HZL.out]) HN.out (by rw [HZL.out, ← HN.out]; exact hjn) hdm (by rw [HZL.out]; exact hl)).mono ?_
        rintro e w1 ⟨cc, z1, rfl, hcc, hl1, ho1, hr1, hon1, hs1, hv1⟩
        rw [← HN.out] at hs1 hv1 ⊢
        rw [← HY.out] at hv1
        rw [← HU.out]
        obtain ⟨bb, hbb⟩ : ∃ bb, bb = decide (u < cc) := ⟨_, rfl⟩
        rw [← hbb]
        have hz1 : ∀ t, j + n < t → lg z1 t = 0 := fun t h => by rw [hs1 t (.inr (by omega))]; exact HEST.out.2.2.1 t h
        have hu1 : lg z1 (j + n) = u := by rw [hs1 _ (.inr (Nat.le_refl _)), HU.out]
        have hv1' : vl B32 z1 + d * (Y * B32 ^ j) = vl B32 zs + cc * B32 ^ (j + n) := by rw [← Nat.mul_assoc]; exact hv1
        have HBB := Lib.hid hbb; have HL1 := Lib.hid hl1; have HO1 := Lib.hid ho1; have HR1 := Lib.hid hr1; have HON1 := Lib.hid (((Only.refl g wr).drewN nd).trans hon1); have HS1 := Lib.hid hs1; have HV1 := Lib.hid hv1'
        have HZ1 := Lib.hid hz1; have HU1 := Lib.hid hu1
        have RY1 := Lib.hid (hon1.rd ((HTW.out.rd RY.out HA.out HAH.out).drewN nd) HA.out)
        clear hbb hl1 ho1 hr1 hon1 hs1 hv1 hv1' hz1 hu1
        go_upto_if 48 with fail
        go_cut [9] (fun s9 wc => RedCut wr base g cap L (j + n) (Y * B32 ^ j) (vl B32 zs) s9 wc)
        case first =>
          cases bb with
          | false =>
            have hnd : cc ≤ u := by have := of_decide_eq_false HBB.out.symm; omega
            go_wp2
            go_meet
            obtain ⟨R, e1, e2, e3⟩ := round_ok rfl HO1.out HZ1.out HU1.out rfl HV1.out HEST.out.2.1 HEST.out.2.2.2 hnd
            exact ⟨d, R, z1, rfl, hdm, by rw [HL1.out, HZL.out], HO1.out, HR1.out, HON1.out, by rw [HU1.out]; exact e1, e2, e3⟩
          | true =>
            have hnd : u < cc := of_decide_eq_true HBB.out.symm
            have hd1 : 1 ≤ d := debt_pos rfl HO1.out HZ1.out HU1.out rfl HV1.out hnd
            go_wp2_with fail
            refine (putBack_any base g cap cp2 (cap - j) j (L - j) n ad z1 ys w1 HR1.out HO1.out RY1.out OY.out HA.out (by rw [HL1.out, HZL.out]) HN.out (by rw [HL1.out, HZL.out, ← HN.out]; exact hjn) (by rw [HL1.out, HZL.out]; exact hl)).mono ?_
            rintro e w2 ⟨c2, z2, rfl, hc2, hl2, ho2, hr2, hon2, hs2, hv2⟩
            rw [← HN.out] at hs2 hv2
            rw [← HY.out] at hv2
            have hz2 : ∀ t, j + n < t → lg z2 t = 0 := fun t h => by rw [hs2 t (.inr (by omega))]; exact HZ1.out t h
            have hu2 : lg z2 (j + n) = u := by rw [hs2 _ (.inr (Nat.le_refl _)), HU1.out]
            obtain ⟨hdp, R, e1, e2, e3⟩ := round_less rfl HO1.out HZ1.out HU1.out rfl ho2 hz2 hu2 rfl HV1.out HEST.out.1 HEST.out.2.2.2 hnd hv2 hc2
            have HF := Lib.hid (show RedCut wr base g cap L (j + n) (Y * B32 ^ j) (vl B32 zs) (.int .u64 ((d : Int) - 1)) w2 from
              ⟨d - 1, R, z2, by congr 1; omega, by omega, by rw [hl2, HL1.out, HZL.out], ho2, hr2, HON1.out.trans hon2, by rw [hu2]; exact e1, e2, e3⟩)
            clear hc2 hl2 ho2 hr2 hon2 hs2 hv2 hz2 hu2 hdp e1 e2 e3
            go_wp2
            go_meet
            exact HF.out
        case rest =>
          obtain ⟨dd, R, z, rfl, hdd, hzl2, hzo2, hro2, hon2, hvv, hVd, hR⟩ := hcut
          have hst := reduce_step (X := X) (b := B32) (by rw [Nat.mul_assoc, ← Nat.pow_succ]; exact HV.out) hVd hR
          have HST := Lib.hid hst; have HVV := Lib.hid hvv; have HZL2 := Lib.hid hzl2; have HZO2 := Lib.hid hzo2; have HRO2 := Lib.hid hro2
          have HTW2 := Lib.hid (HTW.out.trans hon2.two)
          have HQ2 := Lib.hid (HQH.out.only hon2)
          clear hzl2 hzo2 hro2 hon2 hvv hVd hR hst
          clear HPR HAT HDV HEST HU HD HBB HL1 HO1 HR1 HON1 HS1 HV1 HZ1 HU1 RY1
          obtain ⟨wx, hwx⟩ : ∃ wx, wx = wc := ⟨_, rfl⟩
          subst hwx
          go_upto_if 61 with fail
          go_cut [9] (fun s9 wd => RedCut2 wx base g cap L dd R s9 wd)
          case first =>
            by_cases hK : j + n < L
            · have hcs := HRO2.out.cell (j := j + n) (by rw [HZL2.out]; exact hK)
              have hfr := HRO2.out.free (j + n)
              go_wp2
              go_meet
              exact ⟨z.set (j + n) 0, rfl, by rw [List.length_set]; exact HZL2.out, okb_set HZO2.out B32_pos, HRO2.out.set (j + n) 0, (Only.refl g wx).setCell (p := ⟨g, j + n, none⟩) rfl _, set_zero rfl HVV.out (by rw [HZL2.out]; exact hK)⟩
            · have h0 : lg z (j + n) = 0 := lg_out (by rw [HZL2.out]; omega)
              have hR : Hid (vl B32 z = R) := by unfold Hid; rw [HVV.out, h0]; omega
              clear h0
              go_wp2
              go_meet
              exact ⟨z, rfl, HZL2.out, HZO2.out, HRO2.out, Only.refl _ _, hR.out⟩
          case rest =>
            obtain ⟨z', rfl, hzl3, hzo3, hro3, hon3, hv3⟩ := hcut
            have HTW3 := Lib.hid (HTW2.out.trans hon3.two)
            have hq3 := HQ2.out.only hon3
            have hpost := Lib.hid (show vl B32 z' = X % (Y * B32 ^ j) from hv3.trans HST.out.1)
            have HZL3 := Lib.hid hzl3; have HZO3 := Lib.hid hzo3; have HRO3 := Lib.hid hro3
            clear hzl3 hzo3 hro3 hon3 hv3 HRO2 HZL2 HZO2 HTW2 HQ2 HVV HTW HQH HRO HZO HZL
            rcases hq3 with rfl | ⟨rfl, hne, qs, hql, hqo, hqr, hqz, hqv⟩
            · go_wp2
              go_roundw
              case rel => exact ⟨j, z', by omega, by go_num, HZL3.out, HZO3.out, HRO3.out, HTW3.out, hpost.out, .inl rfl⟩
              case measure => simp [intOf]
            · have hcs := hqr.cell (j := j) (by omega)
              have hfr := hqr.free j
              have HQR := Lib.hid hqr; have HQL := Lib.hid hql; have HQZ := Lib.hid hqz; have HQV := Lib.hid hqv; have HQO := Lib.hid hqo
              have hjD : j < D := by omega
              have hdmod : (dd : Int) % 4294967296 = (dd : Int) := by omega
              clear hqr hql hqz hqv hqo
              go_wp2
              go_roundw
              case rel =>
                have hset := vl_set B32 (xs := qs) (i := j) dd (by rw [HQL.out]; exact hjD)
                rw [HQZ.out j (by omega), HQV.out] at hset
                refine ⟨j, z', by omega, by go_num, HZL3.out, HZO3.out, ?_, ?_, hpost.out, .inr ⟨rfl, hne, qs.set j dd, by rw [List.length_set]; exact HQL.out, okb_set HQO.out hdd, ?_, ?_, ?_⟩⟩
                · exact HRO3.out.of_block (Below.heap_setCell _ _ _ _ (fun e => hne e.symm))
                · exact HTW3.out.trans (((Only.refl h wc).setCell (p := ⟨h, j, none⟩) rfl _).two')
                · exact HQR.out.set j dd
                · intro t ht
                  rw [lg_set_other _ (by omega)]
                  exact HQZ.out t (by omega)
                · rw [HST.out.2, Nat.add_mul]
                  rw [Nat.mul_assoc, Nat.mul_comm B32, ← Nat.pow_succ]
                  rw [Nat.mul_assoc, ← Nat.pow_succ]
                  simpa using hset
              case measure => simp [intOf]
      · obtain rfl : m = 0 := by omega
        have hf : RedPost w base g cap L X Y h cq D vq (.returned (.tuple #[])) wr :=
          ⟨zs, rfl, HZL.out, HZO.out, HRO.out, HTW.out, by have := HV.out; rwa [Nat.pow_zero, Nat.mul_one] at this, by have := HQH.out; rwa [Nat.pow_zero, Nat.mul_one, Nat.mul_one] at this⟩
        have HF := Lib.hid hf; clear hf
        go_wp2
        go_end0
        exact HF.out
end Go.Proofs.Ytjdmnchndnpdlaa
