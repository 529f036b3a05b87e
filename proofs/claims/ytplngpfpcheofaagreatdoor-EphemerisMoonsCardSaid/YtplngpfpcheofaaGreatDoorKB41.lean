import Derived.Test.YtplngpfpcheofaaGreatDoorKB39
import Derived.Test.YtplngpfpcheofaaGreatDoorKB40
namespace Go.Proofs.YtplngpfpcheofaaGreatDoor
open Go.RowKit
set_option maxRecDepth 100000
set_option linter.unusedVariables false
set_option maxHeartbeats 8000000
theorem wax_f {t:Rat}:wax t=false↔full t=true:=by unfold wax;cases full t <;> simp
theorem wax_t {t:Rat}:wax t=true↔full t=false:=by unfold wax;cases full t <;> simp
theorem comes_lr {n:Int} (h:comes n=true):wax ((n:Int):Rat)=false∧wax (((n+1:Int)):Rat)=true:=by
 unfold comes at h
 rw[Bool.and_eq_true,Bool.not_eq_true'] at h
 exact⟨wax_f.2 h.1,wax_t.2 h.2⟩
def nmL (n:Int):Rat:=hlo wax ((n:Int):Rat) (((n+1:Int)):Rat) 10
def nmR (n:Int):Rat:=hhi wax ((n:Int):Rat) (((n+1:Int)):Rat) 10
theorem nmL_w {n:Int} (h:comes n=true):wax (nmL n)=false:=hlv_left _ (comes_lr h).1 10
theorem nmR_w {n:Int} (h:comes n=true):wax (nmR n)=true:=hlv_right _ (comes_lr h).2 10
theorem nm_len (n:Int):nmR n=nmL n+1/1024:=by
 have h:=hlv_len wax ((n:Int):Rat) (((n+1:Int)):Rat) 10
 rw[show((1:Int):Rat)/(((2^10:Int):Int):Rat)=1/1024 by decide+kernel,day_next] at h
 unfold nmR nmL
 rw[day_next]
 grind
theorem prt_at {x:Rat} {j:Int} (h0:12*((j:Int):Rat)≤x) (h1:x<12*((j:Int):Rat)+12):prt x 30=j:=by
 unfold prt
 rw[show((30:Int):Rat)/((360:Int):Rat)=1/12 by decide+kernel]
 have a:j≤(x*(1/12)).floor :=Rat.le_floor_iff.2 (by grind)
 have b:(x*(1/12)).floor <j+1:=Rat.floor_lt_iff.2 (by rw[Rat.intCast_add,Rat.intCast_one];grind)
 omega
theorem moon_ends {t d:Rat} (h0:0≤d) (h1:d≤1/1024) (hf:full t=true) (hr:full (t+d)=false):prt (phaseV t) 30=29∧prt (phaseV (t+d)) 30=0:=by
 have i:=(full_iff t h0 (by grind)).1 ⟨hf,hr⟩
 have s:=turn_step t h0 (by grind)
 have r:=ph_rate t h0
 have b:=phase_bd t
 have b':=phase_bd (t+d)
 rcases s with s|s
 ·omega
 ·have p:=s.2
  exact⟨prt_at (by rw[show((29:Int):Rat)=29 from rfl];grind) (by rw[show((29:Int):Rat)=29 from rfl];grind),prt_at (by rw[show((0:Int):Rat)=0 from rfl];grind) (by rw[show((0:Int):Rat)=0 from rfl];grind)⟩
theorem nm_tithi {n:Int} (h:comes n=true):kI 1 (nmL n)=29∧kI 1 (nmR n)=0:=by
 have l:=wax_f.1 (nmL_w h)
 have r:=wax_t.1 (nmR_w h)
 rw[nm_len] at r ⊢
 exact moon_ends (d:=1/1024) (by decide+kernel) (by decide+kernel) l r
theorem nm_up {n:Int} (h:comes n=true):kS 1 (nmL n)<kS 1 (nmR n):=by
 have k:=nm_tithi h
 rw[nm_len] at k ⊢
 have e:=kS_next (c:=1) (by decide) (by decide) (nmL n) (d:=1/1024) (by decide+kernel) (by decide+kernel) (by rw[k.1,k.2];decide)
 omega
theorem nm_end {n:Int} (h:comes n=true):nmL n≤endA 1 (nmL n)∧endA 1 (nmL n)<nmR n∧kI 1 (endB 1 (nmL n))=0∧endB 1 (nmL n)-nmR n<1/1048576:=by
 have a:=endA_le 1 (nmL n)
 have s:=endA_s (c:=1) (by decide) (by decide) (nmL n)
 have u:=nm_up h
 have l:endA 1 (nmL n)<nmR n:=kS_lt (c:=1) (by decide) (by decide) (by omega)
 have i:=endB_i (c:=1) (by decide) (by decide) (nmL n)
 rw[(nm_tithi h).1] at i
 have e:=end_near 1 (nmL n)
 exact⟨a,l,i,by grind⟩
theorem pieceV_bd (c:Int) (t:Rat):((pieceV c t:Nat):Int)≤33:=by
 by_cases h:0≤c∧c≤4
 ·have:=(piece_spec h.1 h.2 t).1
  have:=kM_bd c
  omega
 ·unfold pieceV;rw[dif_neg h];decide
theorem endA_lim {c:Int} {t:Rat} {k:Nat} (h:RLim t k):RLim (endA c t) (3*k+17):=by
 have b:=pieceV_bd c t
 exact(hlo_lim (p:=notI c (kI c t)) (pcs_lim (c:=c) h (i:=((pieceV c t:Nat):Int)) (by omega) (by omega)) (pcs_lim (c:=c) h (i:=((pieceV c t:Nat):Int)+1) (by omega) (by omega)) (n:=21) (by decide)).up _ (by omega)
theorem endB_lim {c:Int} {t:Rat} {k:Nat} (h:RLim t k):RLim (endB c t) (3*k+17):=by
 have b:=pieceV_bd c t
 exact(hhi_lim (p:=notI c (kI c t)) (pcs_lim (c:=c) h (i:=((pieceV c t:Nat):Int)) (by omega) (by omega)) (pcs_lim (c:=c) h (i:=((pieceV c t:Nat):Int)+1) (by omega) (by omega)) (n:=21) (by decide)).up _ (by omega)
theorem lastI_bd (d:Int):d-34≤lastV ((d:Int):Rat)∧lastV ((d:Int):Rat)≤d∧comes (lastV ((d:Int):Rat))=true:=by
 have b:=lastV_bd ((d:Int):Rat)
 rw[Rat.floor_intCast] at b
 have no:¬nowC ((d:Int):Rat)=true:=by rw[nowC_int];decide
 refine⟨b.1,b.2,?_⟩
 rw[lastV_no no]
 exact(lastD_spec _).2.2.1
end Go.Proofs.YtplngpfpcheofaaGreatDoor
