import Derived.Test.YtplngpfpcheofaaGreatDoorKB33
namespace Go.Proofs.YtplngpfpcheofaaGreatDoor
open Go.RowKit
set_option maxRecDepth 100000
set_option linter.unusedVariables false
set_option maxHeartbeats 8000000
theorem kS_up {c:Int} (h0:0≤c) (h1:c≤4) {a b:Rat} (h:a≤b):kS c a≤kS c b:=by
 have r:=(kU_rate h0 h1 a (d:=b-a) (by grind)).1
 rw[show a+(b-a)=b by grind] at r
 unfold kS
 exact Rat.le_floor_iff.2 (Rat.le_trans (fl_le _) (by grind))
theorem kS_lt {c:Int} (h0:0≤c) (h1:c≤4) {a b:Rat} (h:kS c a<kS c b):a<b:=Rat.not_le.1 fun q=>by have:=kS_up h0 h1 q;omega
theorem frac_bd {k n:Int} (h0:0≤k) (h1:k≤n) (hn:0<n):0≤((k:Int):Rat)/((n:Int):Rat)∧((k:Int):Rat)/((n:Int):Rat)≤1:=by
 have a:0≤((k:Int):Rat):=Rat.intCast_nonneg.2 h0
 have b:((k:Int):Rat)≤((n:Int):Rat):=Rat.intCast_le_intCast.2 h1
 have c:0<((n:Int):Rat):=Rat.intCast_pos.2 hn
 have d:0<((n:Int):Rat)⁻¹ :=Rat.inv_pos.2 c
 have e:((n:Int):Rat)*((n:Int):Rat)⁻¹ =1:=Rat.mul_inv_cancel _ (by grind)
 rw[Rat.div_def]
 generalize ((n:Int):Rat)⁻¹ =y at*
 generalize ((n:Int):Rat)=x at*
 generalize ((k:Int):Rat)=z at*
 refine⟨Rat.mul_nonneg a (Rat.le_of_lt d),?_⟩
 have:=Rat.mul_le_mul_of_nonneg_right b (Rat.le_of_lt d)
 grind
theorem atR_bd {lo hi:Rat} (h:lo≤hi) {k n:Int} (h0:0≤k) (h1:k≤n) (hn:0<n):lo≤atR lo hi k n∧atR lo hi k n≤hi:=by
 have f:=frac_bd h0 h1 hn
 unfold atR
 generalize ((k:Int):Rat)/((n:Int):Rat)=y at*
 have g:0≤hi-lo:=by grind
 have a:=Rat.mul_nonneg g f.1
 have b:=Rat.mul_le_mul_of_nonneg_left f.2 g
 constructor <;> grind
theorem hlo_bd (p:Rat→Bool) {lo hi:Rat} (h:lo≤hi) (n:Nat):lo≤hlo p lo hi n∧hlo p lo hi n≤hi:=atR_bd h (hlv_bd p lo hi n).1 (by have:=hlv_bd p lo hi n;omega) (two_pos n)
theorem kQ_pos (c:Int):0<kQ c:=by unfold kQ;split <;> decide+kernel
theorem pcs_up {c:Int} {t:Rat} {i:Int} (h:0≤i):t≤pcs c t i:=by
 rw[pcs_kQ]
 have:=Rat.mul_nonneg (Rat.intCast_nonneg.2 h) (kQ_bd c).1
 grind
theorem endA_in (c:Int) (t:Rat):elo c t≤endA c t∧endA c t≤elo c t+kQ c:=by
 have h:=hlo_bd (notI c (kI c t)) (lo:=elo c t) (hi:=ehi c t) (by rw[ehi_lo];have:=kQ_pos c;grind) 21
 rw[ehi_lo] at h
 unfold endA
 rw[ehi_lo]
 exact h
theorem endA_le (c:Int) (t:Rat):t≤endA c t:=Rat.le_trans (pcs_up (Int.natCast_nonneg _)) (endA_in c t).1
theorem endA_s {c:Int} (h0:0≤c) (h1:c≤4) (t:Rat):kS c (endA c t)=kS c t:=by
 have i:=endA_in c t
 have p:=piece_same h0 h1 t
 have f:=endA_f h0 h1 t
 have g:=notI_f.1 (elo_f h0 h1 t)
 rw[←p]
 have s:=kS_same h0 h1 (elo c t) (d:=endA c t-elo c t) (by grind) (by grind)
 rw[show elo c t+(endA c t-elo c t)=endA c t by grind] at s
 exact s (by rw[f,g])
theorem end_step (c:Int) (t:Rat):endB c t=endA c t+kQ c*(1/2097152):=by have:=end_len c t;grind
theorem kQ_small (c:Int):0≤kQ c*(1/2097152)∧kQ c*(1/2097152)≤kQ c∧kQ c*(1/2097152)<1/1048576:=by
 unfold kQ
 split
 ·exact⟨by decide+kernel,by decide+kernel,by decide+kernel⟩
 ·exact⟨by decide+kernel,by decide+kernel,by decide+kernel⟩
theorem endB_s {c:Int} (h0:0≤c) (h1:c≤4) (t:Rat):kS c (endB c t)=kS c t+1:=by
 have q:=kQ_small c
 have e:=kS_next h0 h1 (endA c t) q.1 q.2.1 (by rw[←end_step,endA_f h0 h1];exact endB_t h0 h1 t)
 rw[←end_step,endA_s h0 h1] at e
 exact e
theorem endB_i {c:Int} (h0:0≤c) (h1:c≤4) (t:Rat):kI c (endB c t)=(kI c t+1)%kN c:=by
 rw[kI_mod h0 h1,kI_mod h0 h1,endB_s h0 h1]
 exact(Int.emod_add_emod _ _ _).symm
theorem end_near (c:Int) (t:Rat):endB c t-endA c t<1/1048576:=by have:=end_step c t;have:=kQ_small c;grind
theorem floor_half (y:Rat):y.floor=(y*2).floor /2:=by
 have a:=fl_le (y*2)
 have b:=fl_lt (y*2)
 have a':=fl_le y
 have b':=fl_lt y
 have h1:2*y.floor≤(y*2).floor :=Rat.le_floor_iff.2 (by rw[Rat.intCast_mul,show((2:Int):Rat)=2 from rfl];grind)
 have h2:(y*2).floor <2*y.floor+2:=Rat.floor_lt_iff.2 (by rw[Rat.intCast_add,Rat.intCast_mul,show((2:Int):Rat)=2 from rfl];grind)
 omega
theorem kS_half (t:Rat):kS 1 t=kS 4 t/2:=by
 show(phU t*(((30:Int):Rat)/((360:Int):Rat))).floor =(phU t*(((60:Int):Rat)/((360:Int):Rat))).floor /2
 rw[floor_half,show((30:Int):Rat)/((360:Int):Rat)=1/12 by decide+kernel,show((60:Int):Rat)/((360:Int):Rat)=1/6 by decide+kernel,show phU t*(1/12)*2=phU t*(1/6) by grind]
theorem abs_lt_of {x c:Rat} (h0: -c<x) (h1:x<c):x.abs<c:=by
 by_cases h:0≤x
 ·rw[Rat.abs_of_nonneg h];exact h1
 ·rw[Rat.abs_of_nonpos (by grind)];grind
theorem halves_near {t u:Rat} (h:kS 4 u=2*kS 1 t+1):(endB 4 u-endB 1 t).abs <1/1048576:=by
 have a1:=endA_s (c:=1) (by decide) (by decide) t
 have b1:=endB_s (c:=1) (by decide) (by decide) t
 have a4:=endA_s (c:=4) (by decide) (by decide) u
 have b4:=endB_s (c:=4) (by decide) (by decide) u
 have l1:endA 1 t<endB 4 u:=kS_lt (c:=1) (by decide) (by decide) (by rw[a1,kS_half (endB 4 u),b4];omega)
 have l2:endA 4 u<endB 1 t:=kS_lt (c:=1) (by decide) (by decide) (by rw[b1,kS_half (endA 4 u),a4];omega)
 have n1:=end_near 1 t
 have n4:=end_near 4 u
 exact abs_lt_of (by grind) (by grind)
theorem half_odd {t:Rat} (h:¬(kI 4 t+1)%2=1):kS 4 t=2*kS 1 t+1:=by
 have e:=kI_mod (c:=4) (by decide) (by decide) t
 have n:kN 4=60:=rfl
 rw[n] at e
 have k:=kS_half t
 omega
theorem half_even {t:Rat} (h:(kI 4 t+1)%2=1):kS 4 (endB 4 t)=2*kS 1 t+1∧kI 4 (endB 4 t)=kI 4 t+1∧kI 1 (endB 4 t)=kI 1 t:=by
 have e:=kI_mod (c:=4) (by decide) (by decide) t
 have n:kN 4=60:=rfl
 have n1:kN 1=30:=rfl
 have b:=endB_s (c:=4) (by decide) (by decide) t
 have i:=endB_i (c:=4) (by decide) (by decide) t
 rw[n] at e i
 have k:=kS_half t
 have k':=kS_half (endB 4 t)
 have m:=kI_mod (c:=1) (by decide) (by decide) t
 have m':=kI_mod (c:=1) (by decide) (by decide) (endB 4 t)
 rw[n1] at m m'
 refine⟨by omega,by omega,?_⟩
 rw[m,m',show kS 1 (endB 4 t)=kS 1 t by omega]
end Go.Proofs.YtplngpfpcheofaaGreatDoor
