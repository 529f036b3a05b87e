import Derived.Test.YtnljadejcfgmaaaGreatDoorKB34
namespace Go.Proofs.YtnljadejcfgmaaaGreatDoor
open Go.RowKit
set_option maxRecDepth 100000
set_option linter.unusedVariables false
set_option maxHeartbeats 8000000
theorem tQ (n d:Int) (w:World):
 Calls Tryz.prog 97 #[.int .i64 n,.int .i64 d,.int .i64 60] w (aR w (.bool (wiB 60 n d))):=by
 have st:=St.start w
 refine go3 (nt:=28) Tryz.func97 rfl rfl rfl fun a hF=>?_
 refine wq ?_
 refine oC hF rfl fun a hF=>?_
 refine nq ?_
 refine oM hF 2 rfl rfl fun a hF=>?_
 by_cases hc1:1≤d
 ·refine oV hF (aq ao (hF.at 0 rfl) ab (aw (cn (c:=true) (aU hc1)) (by simp))) rfl fun a hF=>?_
  refine oM hF 0 rfl rfl fun a hF=>?_
  refine E.opvg hF (aP (hF.at 5 rfl)) (aa rfl rfl (hF.at 0 rfl) rfl) rfl rfl rfl fun a hF=>?_
  by_cases hc2:d≤3600
  ·refine E.opvg hF (aq (hF.at 0 rfl) ao ab (aw (cn (c:=true) (aU hc2)) (by simp))) (aa rfl rfl (hF.at 1 rfl) rfl) rfl rfl rfl fun a hF=>?_
   refine oV hF (aN (hF.at 2 rfl) (hF.at 0 rfl)) rfl fun a hF=>?_
   refine oM hF 0 rfl rfl fun a hF=>?_
   refine E.opvg hF (aP (hF.at 10 rfl)) (aa rfl rfl (hF.at 0 rfl) rfl) rfl rfl rfl fun a hF=>?_
   refine E.opvg hF (fi (hF.at 0 rfl) (pw (by omega) (by omega))) (aa rfl rfl (hF.at 1 rfl) rfl) rfl rfl rfl fun a hF=>?_
   refine E.opvg hF (aP (hF.at 11 rfl)) (aa rfl rfl (hF.at 2 rfl) rfl) rfl rfl rfl fun a hF=>?_
   refine E.opvg hF (aq (hF.at 1 rfl) (hF.at 0 rfl) ab (dZ (by omega) (by omega))) (aa rfl rfl (hF.at 3 rfl) rfl) rfl rfl rfl fun a hF=>?_
   refine E.opvg hF (aP (hF.at 12 rfl)) (aa rfl rfl (hF.at 4 rfl) rfl) rfl rfl rfl fun a hF=>?_
   by_cases hc3:(-60)*d≤n
   ·refine E.opvg hF (aq (hF.at 1 rfl) (hF.at 0 rfl) ab (aw (cn (c:=true) (aU hc3)) (by simp))) (aa rfl rfl (hF.at 5 rfl) rfl) rfl rfl rfl fun a hF=>?_
    refine oV hF (aN (hF.at 6 rfl) (hF.at 0 rfl)) rfl fun a hF=>?_
    refine oM hF 0 rfl rfl fun a hF=>?_
    refine E.opvg hF (aP (hF.at 16 rfl)) (aa rfl rfl (hF.at 0 rfl) rfl) rfl rfl rfl fun a hF=>?_
    refine E.opvg hF (aP (hF.at 19 rfl)) (aa rfl rfl (hF.at 1 rfl) rfl) rfl rfl rfl fun a hF=>?_
    refine E.opvg hF (aP (hF.at 19 rfl)) (aa rfl rfl (hF.at 2 rfl) rfl) rfl rfl rfl fun a hF=>?_
    refine E.opvg hF (aq (hF.at 1 rfl) (hF.at 0 rfl) ab (dZ (by omega) (by omega))) (aa rfl rfl (hF.at 3 rfl) rfl) rfl rfl rfl fun a hF=>?_
    by_cases hc4:n≤60*d
    ·refine E.opvg hF (aq (hF.at 3 rfl) (hF.at 0 rfl) ab (aw (cn (c:=true) (aU hc4)) (by simp))) (aa rfl rfl (hF.at 4 rfl) rfl) rfl rfl rfl fun a hF=>?_
     refine oV hF (aN (hF.at 5 rfl) (hF.at 0 rfl)) rfl fun a hF=>?_
     refine oE hF 0 rfl rfl fun a hF=>?_
     refine nr ?_
     have bel:=st.bel
     refine rt Tryz.results97 hF 0 rfl ?_
     refine⟨fF ?_,bel⟩
     unfold wiB
     first|exact(decide_eq_true (by omega)).symm |exact(decide_eq_false (by omega)).symm |exact decide_eq_decide.2 (by omega)
    ·refine E.opvg hF (aq (hF.at 3 rfl) (hF.at 0 rfl) ab (aw (cn (c:=false) (aK hc4)) (by simp))) (aa rfl rfl (hF.at 4 rfl) rfl) rfl rfl rfl fun a hF=>?_
     refine oV hF (aN (hF.at 5 rfl) (hF.at 0 rfl)) rfl fun a hF=>?_
     refine oE hF 0 rfl rfl fun a hF=>?_
     refine nr ?_
     have bel:=st.bel
     refine rt Tryz.results97 hF 0 rfl ?_
     refine⟨fF ?_,bel⟩
     unfold wiB
     first|exact(decide_eq_true (by omega)).symm |exact(decide_eq_false (by omega)).symm |exact decide_eq_decide.2 (by omega)
   ·refine E.opvg hF (aq (hF.at 1 rfl) (hF.at 0 rfl) ab (aw (cn (c:=false) (aK hc3)) (by simp))) (aa rfl rfl (hF.at 5 rfl) rfl) rfl rfl rfl fun a hF=>?_
    refine oV hF (aN (hF.at 6 rfl) (hF.at 0 rfl)) rfl fun a hF=>?_
    refine oM hF 0 rfl rfl fun a hF=>?_
    refine E.unwanted hF (aa rfl rfl (hF.at 0 rfl) rfl) rfl rfl rfl fun a hF=>?_
    refine E.unwanted hF (aa rfl rfl (hF.at 1 rfl) rfl) rfl rfl rfl fun a hF=>?_
    refine E.unwanted hF (aa rfl rfl (hF.at 2 rfl) rfl) rfl rfl rfl fun a hF=>?_
    refine E.unwanted hF (aa rfl rfl (hF.at 3 rfl) rfl) rfl rfl rfl fun a hF=>?_
    refine E.unwanted hF (aa rfl rfl (hF.at 4 rfl) rfl) rfl rfl rfl fun a hF=>?_
    refine oV hF (aQ (hF.at 5 rfl) ao) rfl fun a hF=>?_
    refine oE hF 0 rfl rfl fun a hF=>?_
    refine nr ?_
    have bel:=st.bel
    refine rt Tryz.results97 hF 0 rfl ?_
    refine⟨fF ?_,bel⟩
    unfold wiB
    first|exact(decide_eq_true (by omega)).symm |exact(decide_eq_false (by omega)).symm |exact decide_eq_decide.2 (by omega)
  ·refine E.opvg hF (aq (hF.at 0 rfl) ao ab (aw (cn (c:=false) (aK hc2)) (by simp))) (aa rfl rfl (hF.at 1 rfl) rfl) rfl rfl rfl fun a hF=>?_
   refine oV hF (aN (hF.at 2 rfl) (hF.at 0 rfl)) rfl fun a hF=>?_
   refine oM hF 0 rfl rfl fun a hF=>?_
   refine E.unwanted hF (aa rfl rfl (hF.at 0 rfl) rfl) rfl rfl rfl fun a hF=>?_
   refine E.unwanted hF (aa rfl rfl (hF.at 1 rfl) rfl) rfl rfl rfl fun a hF=>?_
   refine E.unwanted hF (aa rfl rfl (hF.at 2 rfl) rfl) rfl rfl rfl fun a hF=>?_
   refine E.unwanted hF (aa rfl rfl (hF.at 3 rfl) rfl) rfl rfl rfl fun a hF=>?_
   refine E.unwanted hF (aa rfl rfl (hF.at 4 rfl) rfl) rfl rfl rfl fun a hF=>?_
   refine E.unwanted hF (aa rfl rfl (hF.at 5 rfl) rfl) rfl rfl rfl fun a hF=>?_
   refine oV hF (aQ (hF.at 6 rfl) ao) rfl fun a hF=>?_
   refine oM hF 0 rfl rfl fun a hF=>?_
   refine E.unwanted hF (aa rfl rfl (hF.at 0 rfl) rfl) rfl rfl rfl fun a hF=>?_
   refine E.unwanted hF (aa rfl rfl (hF.at 1 rfl) rfl) rfl rfl rfl fun a hF=>?_
   refine E.unwanted hF (aa rfl rfl (hF.at 2 rfl) rfl) rfl rfl rfl fun a hF=>?_
   refine E.unwanted hF (aa rfl rfl (hF.at 3 rfl) rfl) rfl rfl rfl fun a hF=>?_
   refine E.unwanted hF (aa rfl rfl (hF.at 4 rfl) rfl) rfl rfl rfl fun a hF=>?_
   refine oV hF (aQ (hF.at 5 rfl) ao) rfl fun a hF=>?_
   refine oE hF 0 rfl rfl fun a hF=>?_
   refine nr ?_
   have bel:=st.bel
   refine rt Tryz.results97 hF 0 rfl ?_
   refine⟨fF ?_,bel⟩
   unfold wiB
   first|exact(decide_eq_true (by omega)).symm |exact(decide_eq_false (by omega)).symm |exact decide_eq_decide.2 (by omega)
 ·refine oV hF (aq ao (hF.at 0 rfl) ab (aw (cn (c:=false) (aK hc1)) (by simp))) rfl fun a hF=>?_
  refine oM hF 0 rfl rfl fun a hF=>?_
  refine E.unwanted hF (aa rfl rfl (hF.at 0 rfl) rfl) rfl rfl rfl fun a hF=>?_
  refine E.unwanted hF (aa rfl rfl (hF.at 1 rfl) rfl) rfl rfl rfl fun a hF=>?_
  refine oV hF (aQ (hF.at 2 rfl) ao) rfl fun a hF=>?_
  refine oM hF 0 rfl rfl fun a hF=>?_
  refine E.unwanted hF (aa rfl rfl (hF.at 0 rfl) rfl) rfl rfl rfl fun a hF=>?_
  refine E.unwanted hF (aa rfl rfl (hF.at 1 rfl) rfl) rfl rfl rfl fun a hF=>?_
  refine E.unwanted hF (aa rfl rfl (hF.at 2 rfl) rfl) rfl rfl rfl fun a hF=>?_
  refine E.unwanted hF (aa rfl rfl (hF.at 3 rfl) rfl) rfl rfl rfl fun a hF=>?_
  refine E.unwanted hF (aa rfl rfl (hF.at 4 rfl) rfl) rfl rfl rfl fun a hF=>?_
  refine E.unwanted hF (aa rfl rfl (hF.at 5 rfl) rfl) rfl rfl rfl fun a hF=>?_
  refine oV hF (aQ (hF.at 6 rfl) ao) rfl fun a hF=>?_
  refine oM hF 0 rfl rfl fun a hF=>?_
  refine E.unwanted hF (aa rfl rfl (hF.at 0 rfl) rfl) rfl rfl rfl fun a hF=>?_
  refine E.unwanted hF (aa rfl rfl (hF.at 1 rfl) rfl) rfl rfl rfl fun a hF=>?_
  refine E.unwanted hF (aa rfl rfl (hF.at 2 rfl) rfl) rfl rfl rfl fun a hF=>?_
  refine E.unwanted hF (aa rfl rfl (hF.at 3 rfl) rfl) rfl rfl rfl fun a hF=>?_
  refine E.unwanted hF (aa rfl rfl (hF.at 4 rfl) rfl) rfl rfl rfl fun a hF=>?_
  refine oV hF (aQ (hF.at 5 rfl) ao) rfl fun a hF=>?_
  refine oE hF 0 rfl rfl fun a hF=>?_
  refine nr ?_
  have bel:=st.bel
  refine rt Tryz.results97 hF 0 rfl ?_
  refine⟨fF ?_,bel⟩
  unfold wiB
  first|exact(decide_eq_true (by omega)).symm |exact(decide_eq_false (by omega)).symm |exact decide_eq_decide.2 (by omega)
theorem rp (n d:Int) (w:World):
 Calls Tryz.prog 97 #[.int .i64 n,.int .i64 d,.int .i64 180] w (aR w (.bool (wiB 180 n d))):=by
 have st:=St.start w
 refine go3 (nt:=28) Tryz.func97 rfl rfl rfl fun a hF=>?_
 refine wq ?_
 refine oC hF rfl fun a hF=>?_
 refine nq ?_
 refine oM hF 2 rfl rfl fun a hF=>?_
 by_cases hc1:1≤d
 ·refine oV hF (aq ao (hF.at 0 rfl) ab (aw (cn (c:=true) (aU hc1)) (by simp))) rfl fun a hF=>?_
  refine oM hF 0 rfl rfl fun a hF=>?_
  refine E.opvg hF (aP (hF.at 5 rfl)) (aa rfl rfl (hF.at 0 rfl) rfl) rfl rfl rfl fun a hF=>?_
  by_cases hc2:d≤3600
  ·refine E.opvg hF (aq (hF.at 0 rfl) ao ab (aw (cn (c:=true) (aU hc2)) (by simp))) (aa rfl rfl (hF.at 1 rfl) rfl) rfl rfl rfl fun a hF=>?_
   refine oV hF (aN (hF.at 2 rfl) (hF.at 0 rfl)) rfl fun a hF=>?_
   refine oM hF 0 rfl rfl fun a hF=>?_
   refine E.opvg hF (aP (hF.at 10 rfl)) (aa rfl rfl (hF.at 0 rfl) rfl) rfl rfl rfl fun a hF=>?_
   refine E.opvg hF (fi (hF.at 0 rfl) (pw (by omega) (by omega))) (aa rfl rfl (hF.at 1 rfl) rfl) rfl rfl rfl fun a hF=>?_
   refine E.opvg hF (aP (hF.at 11 rfl)) (aa rfl rfl (hF.at 2 rfl) rfl) rfl rfl rfl fun a hF=>?_
   refine E.opvg hF (aq (hF.at 1 rfl) (hF.at 0 rfl) ab (dZ (by omega) (by omega))) (aa rfl rfl (hF.at 3 rfl) rfl) rfl rfl rfl fun a hF=>?_
   refine E.opvg hF (aP (hF.at 12 rfl)) (aa rfl rfl (hF.at 4 rfl) rfl) rfl rfl rfl fun a hF=>?_
   by_cases hc3:(-180)*d≤n
   ·refine E.opvg hF (aq (hF.at 1 rfl) (hF.at 0 rfl) ab (aw (cn (c:=true) (aU hc3)) (by simp))) (aa rfl rfl (hF.at 5 rfl) rfl) rfl rfl rfl fun a hF=>?_
    refine oV hF (aN (hF.at 6 rfl) (hF.at 0 rfl)) rfl fun a hF=>?_
    refine oM hF 0 rfl rfl fun a hF=>?_
    refine E.opvg hF (aP (hF.at 16 rfl)) (aa rfl rfl (hF.at 0 rfl) rfl) rfl rfl rfl fun a hF=>?_
    refine E.opvg hF (aP (hF.at 19 rfl)) (aa rfl rfl (hF.at 1 rfl) rfl) rfl rfl rfl fun a hF=>?_
    refine E.opvg hF (aP (hF.at 19 rfl)) (aa rfl rfl (hF.at 2 rfl) rfl) rfl rfl rfl fun a hF=>?_
    refine E.opvg hF (aq (hF.at 1 rfl) (hF.at 0 rfl) ab (dZ (by omega) (by omega))) (aa rfl rfl (hF.at 3 rfl) rfl) rfl rfl rfl fun a hF=>?_
    by_cases hc4:n≤180*d
    ·refine E.opvg hF (aq (hF.at 3 rfl) (hF.at 0 rfl) ab (aw (cn (c:=true) (aU hc4)) (by simp))) (aa rfl rfl (hF.at 4 rfl) rfl) rfl rfl rfl fun a hF=>?_
     refine oV hF (aN (hF.at 5 rfl) (hF.at 0 rfl)) rfl fun a hF=>?_
     refine oE hF 0 rfl rfl fun a hF=>?_
     refine nr ?_
     have bel:=st.bel
     refine rt Tryz.results97 hF 0 rfl ?_
     refine⟨fF ?_,bel⟩
     unfold wiB
     first|exact(decide_eq_true (by omega)).symm |exact(decide_eq_false (by omega)).symm |exact decide_eq_decide.2 (by omega)
    ·refine E.opvg hF (aq (hF.at 3 rfl) (hF.at 0 rfl) ab (aw (cn (c:=false) (aK hc4)) (by simp))) (aa rfl rfl (hF.at 4 rfl) rfl) rfl rfl rfl fun a hF=>?_
     refine oV hF (aN (hF.at 5 rfl) (hF.at 0 rfl)) rfl fun a hF=>?_
     refine oE hF 0 rfl rfl fun a hF=>?_
     refine nr ?_
     have bel:=st.bel
     refine rt Tryz.results97 hF 0 rfl ?_
     refine⟨fF ?_,bel⟩
     unfold wiB
     first|exact(decide_eq_true (by omega)).symm |exact(decide_eq_false (by omega)).symm |exact decide_eq_decide.2 (by omega)
   ·refine E.opvg hF (aq (hF.at 1 rfl) (hF.at 0 rfl) ab (aw (cn (c:=false) (aK hc3)) (by simp))) (aa rfl rfl (hF.at 5 rfl) rfl) rfl rfl rfl fun a hF=>?_
    refine oV hF (aN (hF.at 6 rfl) (hF.at 0 rfl)) rfl fun a hF=>?_
    refine oM hF 0 rfl rfl fun a hF=>?_
    refine E.unwanted hF (aa rfl rfl (hF.at 0 rfl) rfl) rfl rfl rfl fun a hF=>?_
    refine E.unwanted hF (aa rfl rfl (hF.at 1 rfl) rfl) rfl rfl rfl fun a hF=>?_
    refine E.unwanted hF (aa rfl rfl (hF.at 2 rfl) rfl) rfl rfl rfl fun a hF=>?_
    refine E.unwanted hF (aa rfl rfl (hF.at 3 rfl) rfl) rfl rfl rfl fun a hF=>?_
    refine E.unwanted hF (aa rfl rfl (hF.at 4 rfl) rfl) rfl rfl rfl fun a hF=>?_
    refine oV hF (aQ (hF.at 5 rfl) ao) rfl fun a hF=>?_
    refine oE hF 0 rfl rfl fun a hF=>?_
    refine nr ?_
    have bel:=st.bel
    refine rt Tryz.results97 hF 0 rfl ?_
    refine⟨fF ?_,bel⟩
    unfold wiB
    first|exact(decide_eq_true (by omega)).symm |exact(decide_eq_false (by omega)).symm |exact decide_eq_decide.2 (by omega)
  ·refine E.opvg hF (aq (hF.at 0 rfl) ao ab (aw (cn (c:=false) (aK hc2)) (by simp))) (aa rfl rfl (hF.at 1 rfl) rfl) rfl rfl rfl fun a hF=>?_
   refine oV hF (aN (hF.at 2 rfl) (hF.at 0 rfl)) rfl fun a hF=>?_
   refine oM hF 0 rfl rfl fun a hF=>?_
   refine E.unwanted hF (aa rfl rfl (hF.at 0 rfl) rfl) rfl rfl rfl fun a hF=>?_
   refine E.unwanted hF (aa rfl rfl (hF.at 1 rfl) rfl) rfl rfl rfl fun a hF=>?_
   refine E.unwanted hF (aa rfl rfl (hF.at 2 rfl) rfl) rfl rfl rfl fun a hF=>?_
   refine E.unwanted hF (aa rfl rfl (hF.at 3 rfl) rfl) rfl rfl rfl fun a hF=>?_
   refine E.unwanted hF (aa rfl rfl (hF.at 4 rfl) rfl) rfl rfl rfl fun a hF=>?_
   refine E.unwanted hF (aa rfl rfl (hF.at 5 rfl) rfl) rfl rfl rfl fun a hF=>?_
   refine oV hF (aQ (hF.at 6 rfl) ao) rfl fun a hF=>?_
   refine oM hF 0 rfl rfl fun a hF=>?_
   refine E.unwanted hF (aa rfl rfl (hF.at 0 rfl) rfl) rfl rfl rfl fun a hF=>?_
   refine E.unwanted hF (aa rfl rfl (hF.at 1 rfl) rfl) rfl rfl rfl fun a hF=>?_
   refine E.unwanted hF (aa rfl rfl (hF.at 2 rfl) rfl) rfl rfl rfl fun a hF=>?_
   refine E.unwanted hF (aa rfl rfl (hF.at 3 rfl) rfl) rfl rfl rfl fun a hF=>?_
   refine E.unwanted hF (aa rfl rfl (hF.at 4 rfl) rfl) rfl rfl rfl fun a hF=>?_
   refine oV hF (aQ (hF.at 5 rfl) ao) rfl fun a hF=>?_
   refine oE hF 0 rfl rfl fun a hF=>?_
   refine nr ?_
   have bel:=st.bel
   refine rt Tryz.results97 hF 0 rfl ?_
   refine⟨fF ?_,bel⟩
   unfold wiB
   first|exact(decide_eq_true (by omega)).symm |exact(decide_eq_false (by omega)).symm |exact decide_eq_decide.2 (by omega)
 ·refine oV hF (aq ao (hF.at 0 rfl) ab (aw (cn (c:=false) (aK hc1)) (by simp))) rfl fun a hF=>?_
  refine oM hF 0 rfl rfl fun a hF=>?_
  refine E.unwanted hF (aa rfl rfl (hF.at 0 rfl) rfl) rfl rfl rfl fun a hF=>?_
  refine E.unwanted hF (aa rfl rfl (hF.at 1 rfl) rfl) rfl rfl rfl fun a hF=>?_
  refine oV hF (aQ (hF.at 2 rfl) ao) rfl fun a hF=>?_
  refine oM hF 0 rfl rfl fun a hF=>?_
  refine E.unwanted hF (aa rfl rfl (hF.at 0 rfl) rfl) rfl rfl rfl fun a hF=>?_
  refine E.unwanted hF (aa rfl rfl (hF.at 1 rfl) rfl) rfl rfl rfl fun a hF=>?_
  refine E.unwanted hF (aa rfl rfl (hF.at 2 rfl) rfl) rfl rfl rfl fun a hF=>?_
  refine E.unwanted hF (aa rfl rfl (hF.at 3 rfl) rfl) rfl rfl rfl fun a hF=>?_
  refine E.unwanted hF (aa rfl rfl (hF.at 4 rfl) rfl) rfl rfl rfl fun a hF=>?_
  refine E.unwanted hF (aa rfl rfl (hF.at 5 rfl) rfl) rfl rfl rfl fun a hF=>?_
  refine oV hF (aQ (hF.at 6 rfl) ao) rfl fun a hF=>?_
  refine oM hF 0 rfl rfl fun a hF=>?_
  refine E.unwanted hF (aa rfl rfl (hF.at 0 rfl) rfl) rfl rfl rfl fun a hF=>?_
  refine E.unwanted hF (aa rfl rfl (hF.at 1 rfl) rfl) rfl rfl rfl fun a hF=>?_
  refine E.unwanted hF (aa rfl rfl (hF.at 2 rfl) rfl) rfl rfl rfl fun a hF=>?_
  refine E.unwanted hF (aa rfl rfl (hF.at 3 rfl) rfl) rfl rfl rfl fun a hF=>?_
  refine E.unwanted hF (aa rfl rfl (hF.at 4 rfl) rfl) rfl rfl rfl fun a hF=>?_
  refine oV hF (aQ (hF.at 5 rfl) ao) rfl fun a hF=>?_
  refine oE hF 0 rfl rfl fun a hF=>?_
  refine nr ?_
  have bel:=st.bel
  refine rt Tryz.results97 hF 0 rfl ?_
  refine⟨fF ?_,bel⟩
  unfold wiB
  first|exact(decide_eq_true (by omega)).symm |exact(decide_eq_false (by omega)).symm |exact decide_eq_decide.2 (by omega)
theorem xz (xa xb xc xd:Int) (w:World):
 Calls Tryz.prog 32 #[.agg #[.int .i64 xa,.int .i64 xb,.int .i64 xc,.int .i64 xd]] w (aR w (.int .i64 (plE xa xb xc xd))):=by
 have st:=St.start w
 refine go1 (nt:=17) Tryz.func32 rfl rfl rfl fun a hF=>?_
 refine wq ?_
 refine bx st hF 0 rfl rfl fun g1 w1 a st hF=>?_
 refine oC hF rfl fun a hF=>?_
 refine ns ?_
 refine wq ?_
 refine oV hF (aA (hF.at 1 rfl) (lW (p:=0) rfl)) rfl fun a hF=>?_
 refine oV hF (av (hF.at 0 rfl) (bF (v:= .int .i64 xa) (st.bk 0 rfl) rfl)) rfl fun a hF=>?_
 refine oV hF (aA (hF.at 3 rfl) (l9 (p:=1) rfl)) rfl fun a hF=>?_
 refine oV hF (av (hF.at 0 rfl) (bF (v:= .int .i64 xb) (st.bk 0 rfl) rfl)) rfl fun a hF=>?_
 refine cX st hF (rk Gl (eB (hF.at 2 rfl) (hF.at 0 rfl) ao)) (tQ xa xb _) rfl fun w2 a st hF=>?_
 by_cases hc3:wiB 60 xa xb=true
 ·refine oV hF (fi (Eq.trans (hF.at 0 rfl) (congrArg Value.bool hc3)) (eK _ false rfl)) rfl fun a hF=>?_
  refine oM hF 0 rfl rfl fun a hF=>?_
  refine E.opvg hF (aA (hF.at 8 rfl) (mc (p:=2) rfl)) (aa rfl rfl (hF.at 0 rfl) rfl) rfl rfl rfl fun a hF=>?_
  refine E.opvg hF (av (hF.at 0 rfl) (bF (v:= .int .i64 xc) (st.bk 0 rfl) rfl)) (aa rfl rfl (hF.at 1 rfl) rfl) rfl rfl rfl fun a hF=>?_
  refine E.opvg hF (aA (hF.at 10 rfl) (lR (p:=3) rfl)) (aa rfl rfl (hF.at 2 rfl) rfl) rfl rfl rfl fun a hF=>?_
  refine E.opvg hF (av (hF.at 0 rfl) (bF (v:= .int .i64 xd) (st.bk 0 rfl) rfl)) (aa rfl rfl (hF.at 3 rfl) rfl) rfl rfl rfl fun a hF=>?_
  refine S.callxg st hF (aa rfl rfl (hF.at 4 rfl) rfl) (rk Gl (eB (hF.at 2 rfl) (hF.at 0 rfl) ao)) (rp xc xd _) rfl rfl rfl fun w4 a st hF=>?_
  by_cases hc5:wiB 180 xc xd=true
  ·refine E.opvg hF (fi (Eq.trans (hF.at 0 rfl) (congrArg Value.bool hc5)) (eK _ false rfl)) (aa rfl rfl (hF.at 5 rfl) rfl) rfl rfl rfl fun a hF=>?_
   refine oV hF (aQ (hF.at 6 rfl) (hF.at 0 rfl)) rfl fun a hF=>?_
   refine E.nil ?_
   refine wp_cond_false (hF.at 0 rfl) ?_
   refine wp_skip ?_
   refine E.norm ?_
   refine wq ?_
   refine oS hF (aO ao) rfl fun a hF=>?_
   refine nr ?_
   have bel:=st.bel
   refine rt Tryz.results32 hF 0 rfl ?_
   refine⟨cm ?_,bel⟩
   unfold plE
   rw[if_pos ⟨by assumption,by assumption⟩]
  ·refine E.opvg hF (fi (Eq.trans (hF.at 0 rfl) (congrArg Value.bool (eq_false_of_ne_true hc5))) (eK _ true rfl)) (aa rfl rfl (hF.at 5 rfl) rfl) rfl rfl rfl fun a hF=>?_
   refine oV hF (aQ (hF.at 6 rfl) (hF.at 0 rfl)) rfl fun a hF=>?_
   refine E.nil ?_
   refine wp_cond_true (hF.at 0 rfl) ?_
   refine wq ?_
   refine oS hF (aO ao) rfl fun a hF=>?_
   refine nr ?_
   have bel:=st.bel
   refine rt Tryz.results32 hF 0 rfl ?_
   refine⟨cm ?_,bel⟩
   unfold plE
   rw[if_neg (by rintro⟨e1,e2⟩;simp_all)]
 ·refine oV hF (fi (Eq.trans (hF.at 0 rfl) (congrArg Value.bool (eq_false_of_ne_true hc3))) (eK _ true rfl)) rfl fun a hF=>?_
  refine oM hF 0 rfl rfl fun a hF=>?_
  refine E.unwanted hF (aa rfl rfl (hF.at 0 rfl) rfl) rfl rfl rfl fun a hF=>?_
  refine E.unwanted hF (aa rfl rfl (hF.at 1 rfl) rfl) rfl rfl rfl fun a hF=>?_
  refine E.unwanted hF (aa rfl rfl (hF.at 2 rfl) rfl) rfl rfl rfl fun a hF=>?_
  refine E.unwanted hF (aa rfl rfl (hF.at 3 rfl) rfl) rfl rfl rfl fun a hF=>?_
  refine E.unwanted hF (aa rfl rfl (hF.at 4 rfl) rfl) rfl rfl rfl fun a hF=>?_
  refine E.unwanted hF (aa rfl rfl (hF.at 5 rfl) rfl) rfl rfl rfl fun a hF=>?_
  refine oV hF (aN (hF.at 6 rfl) ao) rfl fun a hF=>?_
  refine E.nil ?_
  refine wp_cond_true (hF.at 0 rfl) ?_
  refine wq ?_
  refine oS hF (aO ao) rfl fun a hF=>?_
  refine nr ?_
  have bel:=st.bel
  refine rt Tryz.results32 hF 0 rfl ?_
  refine⟨cm ?_,bel⟩
  unfold plE
  rw[if_neg (by rintro⟨e1,e2⟩;simp_all)]
end Go.Proofs.YtnljadejcfgmaaaGreatDoor
