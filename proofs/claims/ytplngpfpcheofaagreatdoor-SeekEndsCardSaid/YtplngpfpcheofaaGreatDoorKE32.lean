import Derived.Test.YtplngpfpcheofaaGreatDoorKE20
namespace Go.Proofs.YtplngpfpcheofaaGreatDoor
open Go.RowKit
set_option maxRecDepth 100000
set_option linter.unusedVariables false
set_option maxHeartbeats 8000000
theorem pJ {k n:Int} (h:0<n):0≤k%n∧k%n<n:=⟨Int.emod_nonneg k (by omega),Int.emod_lt_of_pos k h⟩
theorem rA {k n:Int} (h:0<n): -n<(if 0≤k then k%n else -(-k%n))∧(if 0≤k then k%n else -(-k%n))<n:=by
 have a:=pJ (k:=k) h
 have b:=pJ (k:= -k) h
 split <;> omega
def inD (n:Int):Int:=if(if 0≤n then n%6000001 else -(-n%6000001))< -3000000 then(if 0≤n then n%6000001 else -(-n%6000001))+6000000+1 else if 3000000<(if 0≤n then n%6000001 else -(-n%6000001)) then(if 0≤n then n%6000001 else -(-n%6000001))-6000000-1 else(if 0≤n then n%6000001 else -(-n%6000001))
theorem od (n:Int): -3000000≤inD n∧inD n≤3000000:=by
 unfold inD
 have:=rA (k:=n) (n:=6000001) (by decide)
 generalize (if 0≤n then n%6000001 else -(-n%6000001))=r at*
 split <;> (try split) <;> omega
theorem p8 (n:Int) (w:World):
 Calls Tryz.prog 11 #[.int .i64 n] w (aX w (.int .i64 (inD n))):=by
 have hrb:=rA (k:=n) (n:=6000001) (by decide)
 have st:=St.start w
 refine go1 (nt:=17) Tryz.func11 rfl rfl rfl fun a hF=>?_
 refine wq ?_
 refine oC hF rfl fun a hF=>?_
 refine nq ?_
 refine oM hF 1 rfl rfl fun a hF=>?_
 refine oV hF (av (hF.at 0 rfl) ao ab (fY (a:=n) (b:=6000001) (by omega))) rfl fun a hF=>?_
 refine oA hF 0 rfl rfl fun a hF=>?_
 refine ns ?_
 refine wq ?_
 refine oM hF 0 rfl rfl fun a hF=>?_
 by_cases hc1:(if 0≤n then n%6000001 else -(-n%6000001))<(-3000000)
 ·refine oV hF (av (hF.at 0 rfl) ao ab (aC (ce (c:=true) (aP hc1)) (by simp))) rfl fun a hF=>?_
  refine E.nil ?_
  refine wp_cond_true (hF.at 0 rfl) ?_
  refine wq ?_
  refine oM hF 2 rfl rfl fun a hF=>?_
  refine oV hF (av (hF.at 0 rfl) ao ab (bh (by omega) (by omega))) rfl fun a hF=>?_
  refine oV hF (av (hF.at 0 rfl) ao ab (bh (by omega) (by omega))) rfl fun a hF=>?_
  refine oE hF 0 rfl rfl fun a hF=>?_
  refine nr ?_
  have bel:=st.bel
  refine rt Tryz.results11 hF 0 rfl ?_
  refine⟨bB ?_,bel⟩
  unfold inD
  rw[if_pos hc1]
 ·refine oV hF (av (hF.at 0 rfl) ao ab (aC (ce (c:=false) (aZ hc1)) (by simp))) rfl fun a hF=>?_
  refine E.nil ?_
  refine wp_cond_false (hF.at 0 rfl) ?_
  refine wp_skip ?_
  refine E.norm ?_
  refine wp_seq ?_
  refine wq ?_
  refine oM hF 2 rfl rfl fun a hF=>?_
  by_cases hc2:3000000<(if 0≤n then n%6000001 else -(-n%6000001))
  ·refine oV hF (av (hF.at 0 rfl) ao ab (aC (dR (c:=true) (aP hc2)) (by simp))) rfl fun a hF=>?_
   refine E.nil ?_
   refine wp_cond_true (hF.at 0 rfl) ?_
   refine wq ?_
   refine oM hF 4 rfl rfl fun a hF=>?_
   refine oV hF (av (hF.at 0 rfl) ao ab (cC (by omega) (by omega))) rfl fun a hF=>?_
   refine oV hF (av (hF.at 0 rfl) ao ab (cC (by omega) (by omega))) rfl fun a hF=>?_
   refine oE hF 0 rfl rfl fun a hF=>?_
   refine nr ?_
   have bel:=st.bel
   refine rt Tryz.results11 hF 0 rfl ?_
   refine⟨bB ?_,bel⟩
   unfold inD
   rw[if_neg hc1,if_pos hc2]
  ·refine oV hF (av (hF.at 0 rfl) ao ab (aC (dR (c:=false) (aZ hc2)) (by simp))) rfl fun a hF=>?_
   refine E.nil ?_
   refine wp_cond_false (hF.at 0 rfl) ?_
   refine wp_skip ?_
   refine E.norm ?_
   refine wq ?_
   refine oM hF 4 rfl rfl fun a hF=>?_
   refine oE hF 0 rfl rfl fun a hF=>?_
   refine nr ?_
   have bel:=st.bel
   refine rt Tryz.results11 hF 0 rfl ?_
   refine⟨bB ?_,bel⟩
   unfold inD
   rw[if_neg hc1,if_neg hc2]
end Go.Proofs.YtplngpfpcheofaaGreatDoor
