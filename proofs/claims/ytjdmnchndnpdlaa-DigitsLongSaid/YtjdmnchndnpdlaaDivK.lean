/- Contract of mult.Gcd. -/
import Derived.Test.YtjdmnchndnpdlaaGDc
import Derived.WalkMore
import Derived.ScopeJumps
namespace Go.Proofs.Ytjdmnchndnpdlaa
open Go.RowKit
set_option maxRecDepth 100000

/-- 'wp_scope_jumps' where the way in runs into the label too: what is shown of a pass serves there. -/
theorem scope_jumps2 {P : Program} {a : Act} {w : World} {Q : Exit → Act → World → Prop} {c rest : Code} (l : Nat) (J : Act → World → Prop) (μ : Act → World → Nat) (hf : findLabel c l = some (Code.skip.seq rest))
    (pass : ∀ a w, J a w → rest.wp P (Exit.jump l (fun a' w' => J a' w' ∧ μ a' w' < μ a w) Q) a w)
    (first : (∀ a w, J a w → rest.wp P (Exit.jump l J Q) a w) → c.wp P (Exit.jump l J Q) a w) : (Code.scope c).wp P Q a w :=
  wp_scope_jumps l J μ hf (first (fun a w h => Code.wp_mono (fun e a' w' => by cases e <;> first | exact fun h => h | exact fun h => ⟨h.1, h.2.1⟩) (pass a w h))) (fun a w h => wp_seq (wp_skip (pass a w h)))

/-- Gcd's two rows. -/
structure GI (w w' : World) (N M A B g h ca cb : Nat) : Prop where
  ne : g ≠ h
  pos : 0 < B
  ra : Row w' .u32 77 w.heap.size g ca (dg B32 A)
  rb : Row w' .u32 77 w.heap.size h cb (dg B32 B)
  gcd : Nat.gcd A B = Nat.gcd N M
  la : dl B32 A ≤ 1099511627776
  lb : dl B32 B ≤ 1099511627776
  below : Below w.heap.size w w'

def GJ (v1 v2 : Value) (w : World) (N M : Nat) (a : Act) (w' : World) : Prop :=
  ∃ (A B g h ca cb : Nat) (u7 u8 u9 u10 u11 u12 u13 u14 u15 u16 u17 u18 u19 u20 u21 u22 u23 u24 : Value),
    a = { tmps := #[v1, v2, undef, undef, .slice none 0 0, .slice (some ⟨g, 0, none⟩) (dl B32 A) ca, .slice (some ⟨h, 0, none⟩) (dl B32 B) cb, u7, u8, u9, u10, u11, u12, u13, u14, u15, u16, u17, u18, u19, u20, u21, u22, u23, u24], defers := [] } ∧ GI w w' N M A B g h ca cb

theorem nt_dl {w : World} {v : Value} {N : Nat} (h : Nt w v N) : dl B32 N ≤ 1099511627776 := by
  obtain ⟨xs, ox, rfl, ad, cap, rfl, r, c, m, l, n⟩ := h
  have := dl_vl_le B32_two ox
  omega

set_option maxHeartbeats 2000000 in
set_option maxRecDepth 100000 in
theorem gcd_any (v1 v2 : Value) (N M : Nat) (w : World) (h1 : Nt w v1 N) (h2 : Nt w v2 M) : Calls Try.prog 62 #[v1, v2] w (DgPost w (Nat.gcd N M)) := by
  have HH1 := Lib.hid h1; have HH2 := Lib.hid h2
  clear h1 h2
  go_enter Try.func62, Try.ntmps62
  go_wp2
  refine scope_jumps2 0 (GJ v1 v2 w N M) gm rfl ?_ ?_
  · rintro a w' ⟨A, B, g, h, ca, cb, u7, u8, u9, u10, u11, u12, u13, u14, u15, u16, u17, u18, u19, u20, u21, u22, u23, u24, rfl, hI⟩
    have hred := reduce_any w.heap.size g ca (dl B32 A) (dl B32 B) g 0 (dl B32 A + 1) cb (some ⟨h, 0, none⟩) (dg B32 A) (dg B32 B) (.slice none 0 0) w' hI.ra (okb_dg B32_two A) hI.rb.rd (okb_dg B32_two B)
      (fun b off e => by injection e with e; injection e with e _; rw [← e]; exact fun h => hI.ne h.symm) (fun b off e => by injection e with e; injection e with e _; rw [← e]; exact fun h => hI.ne h.symm)
      (length_dg _ _).symm (length_dg _ _).symm (dl_pos B32_two hI.pos) (by have := (top_split B32_two (n := B) (dl_pos B32_two hI.pos)).2; omega) (by have := hI.la; omega) (by have := hI.lb; omega) (by omega) (.inl rfl)
    rw [vl_dg B32_two, vl_dg B32_two] at hred
    have HRED := Lib.hid hred; have HI := Lib.hid hI
    have hmu := Lib.hid (gm_row (a := { tmps := #[v1, v2, undef, undef, .slice none 0 0, .slice (some ⟨g, 0, none⟩) (dl B32 A) ca, .slice (some ⟨h, 0, none⟩) (dl B32 B) cb, u7, u8, u9, u10, u11, u12, u13, u14, u15, u16, u17, u18, u19, u20, u21, u22, u23, u24], defers := [] }) hI.rb rfl)
    rw [hmu.out]
    clear hred hI
    go_wp2_with fail
    refine (HRED.out).mono ?_
    rintro e w4 ⟨zs, rfl, hzl, hzo, hro, htw, hv, _⟩
    have hca := hro.parts
    have hle := dl_vl_le B32_two hzo
    rw [hv] at hle
    have hrow2 := hro.take (dl B32 (A % B)) hle
    rw [dg_take hzo hv] at hrow2
    have hrb := HI.out.rb.of_block (htw.block h (fun e => HI.out.ne e.symm) (fun e => HI.out.ne e.symm))
    have hcut := mcut_any (some ⟨g, 0, none⟩) (dl B32 A) ca zs w4 hzl.symm hro.rd hzo (by rw [hzl]; exact HI.out.la) hca.2.2.1 hca.2.2.2 (fun h => by cases h)
    unfold CutPost at hcut
    rw [hv] at hcut
    have hbel := HI.out.below.trans (htw.one.below (B := w.heap.size) hca.1)
    have hg := HI.out.gcd
    rw [Nat.gcd_comm, Nat.gcd_rec] at hg
    have hrl : A % B < B := Nat.mod_lt _ HI.out.pos
    have hld : dl B32 (A % B) ≤ 1099511627776 := by have := HI.out.la; omega
    obtain ⟨r, hr⟩ : ∃ r, r = A % B := ⟨_, rfl⟩
    rw [← hr] at hrow2 hcut hg hrl hld
    have HCUT := Lib.hid hcut; have HROW := Lib.hid hrow2; have HRB := Lib.hid hrb; have HBEL := Lib.hid hbel; have HGC := Lib.hid hg; have HRL := Lib.hid hrl; have HLD := Lib.hid hld
    clear hr hca hle hcut hrow2 hrb hbel hg hrl hld hzl hzo hro htw hv
    by_cases hz : r = 0
    · subst hz
      have HC := Lib.hid dl_zero_B32
      go_wp2_with fail
      refine (HCUT.out).mono ?_
      rintro e w' ⟨rfl, hw⟩
      have hw := hw.symm; subst hw
      rw [HC.out]
      go_wp2
      simp only [Exit.jump]
      go_ret
      have hb0 : B = Nat.gcd N M := by have := HGC.out; rwa [Nat.gcd_zero_left] at this
      refine ⟨_, rfl, ?_, HBEL.out⟩
      have hs := HRB.out.sq (by rw [length_dg]; exact HI.out.lb)
      rw [length_dg] at hs
      rw [← hb0]
      exact hs
    · have hp : 0 < dl B32 r := dl_pos B32_two (by omega)
      have hr0 : 0 < r := by omega
      clear hz
      go_wp2_with fail
      refine (HCUT.out).mono ?_
      rintro e w' ⟨rfl, hw⟩
      have hw := hw.symm; subst hw
      go_wp2
      go_step3
      refine ⟨rfl, ⟨B, r, h, g, cb, ca, _, _, _, _, _, _, _, _, _, _, _, _, _, _, _, _, _, _, rfl, ⟨fun e => HI.out.ne e.symm, hr0, HRB.out, HROW.out, ?_, HI.out.lb, HLD.out, HBEL.out⟩⟩, ?_⟩
      · rw [Nat.gcd_comm]; exact HGC.out
      · rw [gm_row HROW.out rfl]; exact HRL.out
  · intro pass
    go_wp2_with fail
    refine (trim_any v1 N w HH1.out).mono ?_
    rintro e w1 ⟨va, rfl, ha, hb1⟩
    have HA := Lib.hid ha; have HB1 := Lib.hid hb1
    clear ha hb1
    go_wp2_with fail
    refine (trim_any v2 M w1 (HH2.out.below HB1.out)).mono ?_
    rintro e w2 ⟨vb, rfl, hb, hb2⟩
    have hnt := HH1.out
    have hmt := HH2.out
    have hln : dl B32 N ≤ 1099511627776 := nt_dl hnt
    have hlm : dl B32 M ≤ 1099511627776 := nt_dl hmt
    have HLN := Lib.hid hln; have HLM := Lib.hid hlm
    have HBB := Lib.hid (HB1.out.trans (hb2.mono HB1.out.size))
    have HB2 := Lib.hid hb2
    have hda := (HA.out.sq (by rw [length_dg]; exact hln)).below hb2
    have HDA := Lib.hid (show Dg w2 .u32 B32 va N from hda)
    clear hnt hmt hln hlm hb2 hda
    by_cases hM : M = 0
    · subst hM
      have hvb : ∃ ad cb, vb = .slice ad 0 cb := by
        rcases hb.shape with ⟨rfl, _⟩ | ⟨h, cb, rfl, _⟩
        · exact ⟨_, _, rfl⟩
        · exact ⟨_, cb, by rw [length_dg, dl_zero_B32]⟩
      obtain ⟨adb, cb, rfl⟩ := hvb
      clear hb
      go_wp2
      simp only [Exit.jump]
      go_ret
      exact ⟨_, rfl, by rw [Nat.gcd_zero_right]; exact HDA.out, HBB.out⟩
    · have hpos : 0 < M := by omega
      have hdp : 0 < dl B32 M := dl_pos B32_two hpos
      rcases hb.shape with ⟨rfl, h0⟩ | ⟨h, cb, rfl, hrb⟩
      · have := length_dg B32 M
        rw [h0] at this
        simp at this
        omega
      · rw [length_dg]
        have HRB := Lib.hid hrb
        clear hb hrb
        rcases HA.out.shape with ⟨rfl, h0⟩ | ⟨g, ca, rfl, hra⟩
        · have hN : N = 0 := by
            have := vl_dg B32_two N
            rw [h0] at this
            exact this.symm
          have hred := reduce_nil (dl B32 M) cb (some ⟨h, 0, none⟩) (dg B32 M) w2 HRB.out.rd (okb_dg B32_two M) (length_dg _ _).symm (by omega) (by have := HLM.out; omega)
          have hcut := mcut_any none 0 0 [] w2 rfl (Rd.nil _ _ _) (okb_nil _) (by simp) (by simp) (by unfold maxLen; omega) (fun _ => rfl)
          have hcut' : Hid (Calls Try.prog 92 #[.slice none 0 0] w2 fun e w' => e = .returned (.slice none 0 0) ∧ w' = w2) := by
            unfold Hid
            refine hcut.mono ?_
            rintro e w' ⟨rfl, rfl⟩
            exact ⟨by rw [show vl B32 [] = 0 from rfl, dl_zero_B32], rfl⟩
          have HRED := Lib.hid hred; have HN := Lib.hid hN
          clear hred hcut h0 hN
          go_wp2
          go_step3
          go_wp2_with fail
          refine (HRED.out).mono ?_
          rintro e w' ⟨rfl, hw⟩
          have hw := hw.symm; subst hw
          go_wp2_with fail
          refine (hcut'.out).mono ?_
          rintro e w' ⟨rfl, hw⟩
          have hw := hw.symm; subst hw
          go_wp2
          simp only [Exit.jump]
          go_ret
          refine ⟨_, rfl, ?_, HBB.out⟩
          have hs := HRB.out.sq (by rw [length_dg]; exact HLM.out)
          rw [length_dg] at hs
          rw [HN.out, Nat.gcd_zero_left]
          exact hs
        · rw [length_dg]
          have hgi : GI w w2 N M N M g h ca cb := by
            have h1 := hra.parts
            have h2 := HRB.out.parts
            exact ⟨by omega, hpos, hra.below HB2.out, HRB.out.rebase (by have := HB1.out.size; omega), rfl, HLN.out, HLM.out, HBB.out⟩
          have HGI := Lib.hid hgi
          clear hra hgi
          go_wp2
          go_step3
          simp only [Exit.then]
          apply_assumption
          exact pass _ _ ⟨N, M, g, h, ca, cb, _, _, _, _, _, _, _, _, _, _, _, _, _, _, _, _, _, _, rfl, HGI.out⟩
end Go.Proofs.Ytjdmnchndnpdlaa
