/- The document's numbers: a limit; whole ones. -/
import Derived.Test.YtmpdbkdijfpbbaaGreatGY
import Derived.Test.YtmpdbkdijfpbbaaGreatGI
namespace Go.Proofs.YtmpdbkdijfpbbaaGreat
open Go.RowKit
set_option maxRecDepth 100000
set_option linter.unusedVariables false

theorem Rr.rlim {w : World} {v : Value} {q : Rat} {k : Nat} (h : Rr w v q k) : RLim q k := by
  obtain ⟨_, _, _, _, _, _, _, z, D, _, _, _, hD, rfl, l1, l2⟩ := h
  exact rlim_mk l1 l2 (by omega)
theorem int_mk (z : Int) : ((z : Int) : Rat) = mkRat z 1 := by rw [Rat.mkRat_one]
set_option maxHeartbeats 1000000 in
theorem dWhole_any (v1 : Value) (z1 : Int) (k : Nat) (w : World) (h1 : Rz w v1 z1) (l1 : Lim z1.natAbs k) (hp : 1 ≤ k) :
    Calls Tryz.prog 53 #[v1] w (RrPost w ((z1 : Int) : Rat) k) := by
  obtain ⟨b1, ad1, n1, c1, rfl⟩ := h1.form
  have ha1 := h1.abs
  have hb1 := h1.neg
  have bel : Below w.heap.size w w := Below.refl _ _
  refine E.enter (nt := 6) (L := [(0, .agg #[.bool b1, .slice ad1 n1 c1])]) Tryz.func53 rfl rfl rfl (args_cons (i := 0) rfl args_nil) ?_
  intro a hF
  refine wp_seq ?_
  refine E.seq ?_
  obtain ⟨g1, w1, ge1, hr, bb, o1⟩ := own_box (P := Tryz.prog) (w := w) (cs := [.bool b1, .slice ad1 n1 c1]) (v := .agg #[.bool b1, .slice ad1 n1 c1]) 37 rfl (niB (niS ni0))
  replace ge1 : w.heap.size ≤ g1 := by rw [← ge1]; exact bel.size
  refine E.opv hF (r_box (hF.at 0 rfl) hr) rfl rfl rfl rfl fun a hF => ?_
  clear hr
  replace h1 := h1.below bb
  replace ha1 := ha1.below bb
  replace bel := below_to bel bb
  clear bb
  obtain ⟨g2, w2, ge2, hr, bb, o2⟩ := own_alloc (P := Tryz.prog) (w := w1) (cs := [.bool false, .slice none 0 0, .slice none 0 0]) 39 ze_RRat rfl (niB (niS (niS ni0)))
  have ne1_2 : g1 ≠ g2 := by rw [← ge2]; exact o1.ne_new
  replace ge2 : w.heap.size ≤ g2 := by rw [← ge2]; exact bel.size
  refine E.opv hF (r_alloc hr) rfl rfl rfl rfl fun a hF => ?_
  clear hr
  replace ha1 := ha1.below bb
  replace h1 := h1.below bb
  replace o1 := o1.below bb
  replace bel := below_to bel bb
  clear bb
  refine E.nil ?_
  refine wp_seq ?_
  refine E.seq ?_
  refine E.opv hF (r_load (hF.at 1 rfl) (ld_RInt (vs := [.bool b1, .slice ad1 n1 c1]) o1 rfl rfl)) rfl rfl rfl rfl fun a hF => ?_
  obtain ⟨vv3, w4, hr, bb, hh5⟩ := bs_one w2
  refine E.opv hF (r_buildSlice (qs := #[(0, .int .i64 1)]) (pair1 ev_c) hr) rfl rfl rfl rfl fun a hF => ?_
  clear hr
  replace h1 := h1.below bb
  replace ha1 := ha1.below bb
  replace o2 := o2.below bb
  replace bel := below_to bel bb
  clear bb
  obtain ⟨ad6, n6, c6, rfl⟩ := Dg.form hh5
  refine E.opv hF (r_build (pair2 (hF.at 1 rfl) (hF.at 0 rfl)) (bd_RRat_01 _ _ _ _ _ _ _ _)) rfl rfl rfl rfl fun a hF => ?_
  obtain ⟨w7, hr, tu, on⟩ := st_RRat (vs := [.bool b1, .slice ad1 n1 c1, .slice ad6 n6 c6]) o2 rfl rfl (ocB (ocS (ocS oc0))) (niB (niS (niS ni0))) (o := 0) rfl
  have kp := tu.keep o2
  refine E.st hF (r_store (hF.at 3 rfl) (hF.at 0 rfl) (hr _ rfl)) rfl rfl fun a hF => ?_
  clear hr
  replace h1 := h1.keep kp
  replace ha1 := ha1.keep kp
  replace hh5 := hh5.keep kp
  replace bel := tu.below bel ge2
  clear tu kp
  replace o2 := on
  clear on
  refine E.nil ?_
  refine wp_ret ?_
  refine bodyPost_ret (res_cell Tryz.results53 (hF.at 3 rfl) (ld_RRat (vs := [.bool b1, .slice ad1 n1 c1, .slice ad6 n6 c6]) o2 rfl rfl)) hF.dfr ?_
  exact ⟨_, rfl, (Rr.mk h1 hh5 (by decide) (int_mk z1) l1 (Lim.one hp)), bel⟩

end Go.Proofs.YtmpdbkdijfpbbaaGreat
