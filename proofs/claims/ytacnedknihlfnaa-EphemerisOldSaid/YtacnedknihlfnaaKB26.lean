import Derived.Test.YtacnedknihlfnaaKB25
namespace Go.Proofs.Ytacnedknihlfnaa
open Go.RowKit
set_option maxRecDepth 100000
set_option linter.unusedVariables false
set_option maxHeartbeats 8000000
def osP (n:Int):Int:=6912*(n+1132959)+1728
def osM (n:Int):Int:=osP n/210389
def osD (n:Int):Int:=(osP n-210389*osM n)/6912+1
def osF (u d:Int):Int:= -(-(210389*u+6912*d-8640)/6912)-1132959
theorem osM_bd (n:Int):210389*osM n≤osP n∧osP n<210389*osM n+210389:=by unfold osM;omega
theorem osD_bd (n:Int):1≤osD n∧osD n≤31:=by have:=osM_bd n;unfold osD;omega
def omQ (n:Int):Int:=4*(n+1132959)+1
def omJ (n:Int):Int:=omQ n*4452778/525972500
def omL (n:Int):Int:=omQ n*133583340/525972500
def omU (j:Int):Int:= -(-(j*908880480000)/936815510642)
def omF (l:Int):Int:= -(-(525972500*l-133583340)/534333360)-1132959
theorem omJ_L (n:Int):omJ n=omL n/30:=by unfold omJ omL;omega
theorem omL_bd (n:Int):525972500*omL n≤omQ n*133583340∧omQ n*133583340<525972500*omL n+525972500:=by unfold omL;omega
theorem om_back (n:Int):omF (omL n)=n:=by
 have h:=omL_bd n
 unfold omF
 generalize omL n=l at*
 unfold omQ at*
 omega
theorem omL_step (n:Int):omL (n+1)=omL n+1∨omL (n+1)=omL n+2:=by
 have h:=omL_bd n
 have h':=omL_bd (n+1)
 unfold omQ at*
 omega
theorem omU_bd (j:Int):j*908880480000≤omU j*936815510642∧omU j*936815510642<j*908880480000+936815510642:=by unfold omU;omega
theorem omU_step (j:Int):(omU (j+1)=omU j∨omU (j+1)=omU j+1)∧omU j<omU (j+2)∧omU (j+2)≤omU (j+1)+1:=by
 have a:=omU_bd j
 have b:=omU_bd (j+1)
 have c:=omU_bd (j+2)
 omega
theorem omU_iff (j u:Int):omU j=u↔(u-1)*936815510642<j*908880480000∧j*908880480000≤u*936815510642:=by
 have a:=omU_bd j
 constructor
 ·rintro rfl;omega
 ·intro h;omega
theorem omU_up {i j:Int} (h:i≤j):omU i≤omU j:=by
 have a:=omU_bd i
 have b:=omU_bd j
 omega
def omA (u:Int):Int:=(u-1)*936815510642/908880480000+1
def omB (u:Int):Int:=u*936815510642/908880480000
theorem omAB (u:Int):omU (omA u)=u∧omU (omB u)=u∧(omB u=omA u∨omB u=omA u+1):=by
 refine⟨(omU_iff _ _).2 ?_,(omU_iff _ _).2 ?_,?_⟩ <;> (try unfold omA) <;> (try unfold omB) <;> omega
theorem omU_in {j u:Int} (h:omU j=u):omA u≤j∧j≤omB u:=by
 rw[omU_iff] at h
 unfold omA omB
 omega
theorem om_leap {j u:Int} (h:omU j=u) (l:omU (j+1)=u):j=omA u:=by
 have a:=omU_in h
 have b:=omU_in l
 have c:=(omAB u).2.2
 omega
theorem om_last {j u:Int} (h:omU j=u) (l:¬omU (j+1)=u):j=omB u:=by
 have a:=omU_in h
 have b:=(omAB u).2.1
 rcases Int.lt_or_eq_of_le a.2 with q|q
 ·exfalso
  have x:=omU_up (i:=j) (j:=j+1) (by omega)
  have y:=omU_up (i:=j+1) (j:=omB u) (by omega)
  omega
 ·exact q
def omN (u:Int) (leap:Bool):Int:=if leap=true then omA u else omB u
theorem om_date {n u:Int} {leap:Bool} (h:omU (omJ n)=u) (l:leap=decide (omU (omJ n+1)=u)):omN u leap=omJ n:=by
 subst l
 unfold omN
 split
 ·rename_i e;exact(om_leap h (of_decide_eq_true e)).symm
 ·rename_i e;exact(om_last h (fun x=>e (decide_eq_true x))).symm
theorem om_day (n:Int):1≤omL n-30*omJ n+1∧omL n-30*omJ n+1≤30:=by rw[omJ_L];omega
theorem om_back2 {n u:Int} {leap:Bool} (h:omU (omJ n)=u) (l:leap=decide (omU (omJ n+1)=u)):omF (30*omN u leap+(omL n-30*omJ n+1)-1)=n:=by
 rw[om_date h l,show 30*omJ n+(omL n-30*omJ n+1)-1=omL n by omega,om_back]
theorem om_year (u:Int):omA (u+12)-omA u=12∨omA (u+12)-omA u=13:=by unfold omA;omega
theorem om_old (n:Int):omU (omJ n)=osM n∨omU (omJ n)=osM n+1:=by
 have a:=omU_bd (omJ n)
 have b:=osM_bd n
 have c:525972500*omJ n≤omQ n*4452778∧omQ n*4452778<525972500*omJ n+525972500:=by unfold omJ;omega
 unfold omQ at c
 unfold osP at b
 omega
def ysR:Rat:=((1577917500:Int):Rat)/((4320000:Int):Rat)
def msR:Rat:=((1577917500:Int):Rat)/((51840000:Int):Rat)
def mmR:Rat:=((1577917500:Int):Rat)/((53433336:Int):Rat)
def ldR:Rat:=((1577917500:Int):Rat)/((1603000080:Int):Rat)
def qrR:Rat:=((1:Int):Rat)/((4:Int):Rat)
def suR (n:Int):Rat:=((n:Int):Rat)-((-1132959:Int):Rat)+qrR
theorem inv_ms:msR⁻¹ =((6912:Int):Rat)/((210389:Int):Rat):=by decide+kernel
theorem inv_ys:ysR⁻¹ =((6912:Int):Rat)/((2524668:Int):Rat):=by decide+kernel
theorem inv_mm:mmR⁻¹ =((4452778:Int):Rat)/((131493125:Int):Rat):=by decide+kernel
theorem inv_ld:ldR⁻¹ =((133583340:Int):Rat)/((131493125:Int):Rat):=by decide+kernel
theorem ms_is:msR=((210389:Int):Rat)/((6912:Int):Rat):=by decide+kernel
theorem mm_is:mmR=((131493125:Int):Rat)/((4452778:Int):Rat):=by decide+kernel
theorem ld_is:ldR=((131493125:Int):Rat)/((133583340:Int):Rat):=by decide+kernel
theorem ms_pos:0<msR:=by decide+kernel
theorem mm_pos:0<mmR:=by decide+kernel
theorem r12_pos:(0:Rat)<((12:Int):Rat):=by decide+kernel
theorem fl_quo9 {n d:Int} (hd:0<d):(((n:Int):Rat)/((d:Int):Rat)).floor =n/d:=by
 have c:0<((d:Int):Rat):=Rat.intCast_pos.2 hd
 have e:((n:Int):Rat)/((d:Int):Rat)*((d:Int):Rat)=((n:Int):Rat):=Rat.div_mul_cancel (by grind)
 have m0:=Int.mul_ediv_add_emod n d
 have m1:=Int.emod_nonneg n (b:=d) (by omega)
 have m2:=Int.emod_lt_of_pos n hd
 have a:n/d≤(((n:Int):Rat)/((d:Int):Rat)).floor :=by
  refine Rat.le_floor_iff.2 (Rat.not_lt.1 fun q=>?_)
  have q2:=Rat.mul_lt_mul_of_pos_right q c
  rw[e,←Rat.intCast_mul] at q2
  have:=Rat.intCast_lt_intCast.1 q2
  rw[Int.mul_comm] at this
  omega
 have b:(((n:Int):Rat)/((d:Int):Rat)).floor <n/d+1:=by
  refine Rat.floor_lt_iff.2 (Rat.not_le.1 fun q=>?_)
  have q2:=Rat.mul_le_mul_of_nonneg_right (c:=((d:Int):Rat)) q (by grind)
  rw[e,←Rat.intCast_mul] at q2
  have:=Rat.intCast_le_intCast.1 q2
  rw[Int.add_mul,Int.one_mul,Int.mul_comm] at this
  omega
 omega
theorem fl_by {q:Rat} {n d:Int} (hd:0<d) (h:q*((d:Int):Rat)=((n:Int):Rat)):q.floor=n/d:=by
 have c:0<((d:Int):Rat):=Rat.intCast_pos.2 hd
 rw[←fl_quo9 hd,←h,Rat.mul_div_cancel (by grind)]
theorem ce_by {q:Rat} {n d:Int} (hd:0<d) (h:q*((d:Int):Rat)=((n:Int):Rat)):q.ceil= -(-n/d):=by
 rw[Rat.ceil_eq_neg_floor_neg,fl_by (n:= -n) hd (by rw[Rat.neg_mul,h,Rat.intCast_neg])]
theorem su_parts (n:Int):suR n*((6912:Int):Rat)=((osP n:Int):Rat):=by
 unfold suR qrR osP
 simp only [Rat.intCast_add,Rat.intCast_mul]
 grind
theorem su_ms_by (n:Int):suR n/msR*((210389:Int):Rat)=((osP n:Int):Rat):=by
 rw[←su_parts,Rat.div_def,inv_ms]
 grind
theorem su_ms (n:Int):(suR n/msR).floor =osM n:=fl_by (by decide) (su_ms_by n)
theorem su_ys (n:Int):(suR n/ysR).floor =osM n/12:=by
 rw[fl_by (n:=osP n) (d:=2524668) (by decide) (by rw[←su_parts,Rat.div_def,inv_ys];grind)]
 unfold osM
 omega
theorem su_md (n:Int):(rmod (suR n/msR) ((12:Int):Rat)).floor =osM n%12:=by
 unfold rmod
 rw[if_neg (by have:=r12_pos;grind)]
 have e:(suR n/msR/((12:Int):Rat)).floor =osM n/12:=by
  rw[fl_by (n:=osP n) (d:=2524668) (by decide) (by rw[←su_ms_by];grind)]
  unfold osM
  omega
 rw[e,fl_by (n:=osP n-210389*(12*(osM n/12))) (d:=210389) (by decide) (by
  rw[Rat.intCast_sub,←su_ms_by,Rat.intCast_mul,Rat.intCast_mul]
  grind)]
 unfold osM
 omega
theorem su_day (n:Int):(rmod (suR n) msR).floor =osD n-1:=by
 unfold rmod
 rw[if_neg (by have:=ms_pos;grind),su_ms,fl_by (n:=osP n-210389*osM n) (d:=6912) (by decide) (by
  rw[Rat.intCast_sub,←su_parts,Rat.intCast_mul,ms_is]
  grind)]
 unfold osD
 omega
theorem su_quarters (n:Int):suR n*((4:Int):Rat)=((omQ n:Int):Rat):=by
 unfold suR qrR omQ
 simp only [Rat.intCast_add,Rat.intCast_mul]
 grind
theorem su_mm (n:Int):(suR n/mmR).floor =omJ n:=by
 rw[fl_by (n:=omQ n*4452778) (d:=525972500) (by decide) (by
  rw[Rat.intCast_mul,←su_quarters,Rat.div_def,inv_mm]
  grind)]
 rfl
theorem sunmonth (j:Int):(mmR*((j:Int):Rat)/msR).ceil =omU j:=by
 rw[ce_by (n:=j*908880480000) (d:=936815510642) (by decide) (by
  rw[Rat.intCast_mul,Rat.div_def,inv_ms,mm_is]
  grind)]
 unfold omU
 rfl
theorem lastU (u:Int):(msR*((u:Int):Rat)/mmR).floor =omB u:=by
 rw[fl_by (n:=u*936815510642) (d:=908880480000) (by decide) (by
  rw[Rat.intCast_mul,Rat.div_def,inv_mm,ms_is]
  grind)]
 rfl
theorem om_lunar (n:Int):(rmod (suR n) mmR/ldR).floor =omL n-30*omJ n:=by
 unfold rmod
 rw[if_neg (by have:=mm_pos;grind),su_mm,fl_by (n:=omQ n*133583340-525972500*(30*omJ n)) (d:=525972500) (by decide) (by
  rw[Rat.intCast_sub,Rat.intCast_mul,←su_quarters,Rat.intCast_mul,Rat.intCast_mul,Rat.div_def,inv_ld,mm_is]
  grind)]
 unfold omL
 omega
theorem om_ceil (l:Int):(ldR*((l:Int):Rat)-qrR).ceil =omF l+1132959:=by
 rw[ce_by (n:=525972500*l-133583340) (d:=534333360) (by decide) (by
  rw[Rat.intCast_sub,Rat.intCast_mul,ld_is]
  unfold qrR
  grind)]
 unfold omF
 omega
theorem md12 (u:Int):(rmod ((u:Int):Rat) ((12:Int):Rat)).floor =u%12:=by
 unfold rmod
 rw[if_neg (by have:=r12_pos;grind),fl_quo9 (by decide),←Rat.intCast_mul,←Rat.intCast_sub,Rat.floor_intCast]
 omega
theorem small_is (v:Value) (z n:Int) (w:World) (h:Wz w v z) (e:z=n) (b0: -9223372036854775808≤n) (b1:n≤9223372036854775807):Calls Try.prog 58 #[v] w (ValPost w (.tuple #[.int .i64 n,.bool true])):=by
 subst e
 have h':=small64 v z w h
 rw[sm64_t b0 b1,fit64_t b0 b1] at h'
 exact h'
theorem days_is (v:Value) (q:Rat) (k:Nat) (n:Int) (w:World) (h:Rq w v q) (hl:RLim q k) (hk:k≤10000) (e:q.floor=n) (b0: -9223372036854775808≤n) (b1:n≤9223372036854775807):Calls Try.prog 65 #[v] w (ValPost w (.tuple #[.int .i64 n,.bool true])):=by
 subst e
 have h':=cDays_any v q k w h hl hk
 rw[sm64_t b0 b1,fit64_t b0 b1] at h'
 exact h'
def osX (y m d:Int):Int:=osF (12*y+(m-1)) d
def osE (y m d:Int):Int:=if m<1∨12<m∨d<1∨31<d then 4 else if y< -20000∨20000<y then 2 else if osX y m d< -3000000∨3000000<osX y m d then 2 else if osM (osX y m d)/12=y∧osM (osX y m d)%12+1=m∧osD (osX y m d)=d then 0 else 3
def osN (y m d:Int):Int:=if osE y m d=0 then osX y m d else 0
theorem os_4 {y m d:Int} (h:m<1∨12<m∨d<1∨31<d):0=osN y m d∧4=osE y m d:=by
 have e:osE y m d=4:=by unfold osE;rw[if_pos h]
 unfold osN;rw[e];exact⟨rfl,rfl⟩
theorem os_2 {y m d:Int} (h:¬(m<1∨12<m∨d<1∨31<d)) (k:y< -20000∨20000<y):0=osN y m d∧2=osE y m d:=by
 have e:osE y m d=2:=by unfold osE;rw[if_neg h,if_pos k]
 unfold osN;rw[e];exact⟨rfl,rfl⟩
theorem os_clip (y m d:Int):osN (min (max y (-20001)) 20001) m d=osN y m d∧osE (min (max y (-20001)) 20001) m d=osE y m d:=by
 by_cases k:y< -20000∨20000<y
 ·by_cases h:m<1∨12<m∨d<1∨31<d
  ·exact⟨(os_4 h).1.symm.trans (os_4 h).1,(os_4 h).2.symm.trans (os_4 h).2⟩
  ·have a:=os_2 (y:=y) h k
   have b:=os_2 (y:=min (max y (-20001)) 20001) h (by omega)
   exact⟨b.1.symm.trans a.1,b.2.symm.trans a.2⟩
 ·rw[show min (max y (-20001)) 20001=y by omega];exact⟨rfl,rfl⟩
theorem osM_in {n:Int} (h0: -3000000≤n) (h1:n≤3000000): -1000000≤osM n∧osM n≤1000000:=by unfold osM osP;omega
theorem osN_bd (y m d:Int): -3000000≤osN y m d∧osN y m d≤3000000:=by
 unfold osN
 split
 ·rename_i h
  unfold osE at h
  split at h
  ·omega
  ·split at h
   ·omega
   ·split at h <;> omega
 ·omega
def omX (y m:Int) (l:Bool) (d:Int):Int:=omF (30*omN (12*y+(m-1)) l+(d-1))
def omE (y m:Int) (l:Bool) (d:Int):Int:=if m<1∨12<m∨d<1∨30<d then 4 else if y< -20000∨20000<y then 2 else if omX y m l d< -3000000∨3000000<omX y m l d then 2 else if omU (omJ (omX y m l d))/12=y∧omU (omJ (omX y m l d))%12+1=m∧decide (omU (omJ (omX y m l d)+1)=omU (omJ (omX y m l d)))=l∧omL (omX y m l d)-30*omJ (omX y m l d)+1=d then 0 else 3
def omM (y m:Int) (l:Bool) (d:Int):Int:=if omE y m l d=0 then omX y m l d else 0
theorem om_4 {y m d:Int} {l:Bool} (h:m<1∨12<m∨d<1∨30<d):0=omM y m l d∧4=omE y m l d:=by
 have e:omE y m l d=4:=by unfold omE;rw[if_pos h]
 unfold omM;rw[e];exact⟨rfl,rfl⟩
theorem om_2 {y m d:Int} {l:Bool} (h:¬(m<1∨12<m∨d<1∨30<d)) (k:y< -20000∨20000<y):0=omM y m l d∧2=omE y m l d:=by
 have e:omE y m l d=2:=by unfold omE;rw[if_neg h,if_pos k]
 unfold omM;rw[e];exact⟨rfl,rfl⟩
theorem om_2f {y m d n:Int} {l:Bool} (hn:n=omX y m l d) (h:¬(m<1∨12<m∨d<1∨30<d)) (k:¬(y< -20000∨20000<y)) (f:n< -3000000∨3000000<n):0=omM y m l d∧2=omE y m l d:=by
 subst hn
 have e:omE y m l d=2:=by unfold omE;rw[if_neg h,if_neg k,if_pos f]
 unfold omM;rw[e];exact⟨rfl,rfl⟩
theorem om_3 {y m d n:Int} {l:Bool} (hn:n=omX y m l d) (h:¬(m<1∨12<m∨d<1∨30<d)) (k:¬(y< -20000∨20000<y)) (f:¬(n< -3000000∨3000000<n)) (e:¬(omU (omJ n)/12=y∧omU (omJ n)%12+1=m∧decide (omU (omJ n+1)=omU (omJ n))=l∧omL n-30*omJ n+1=d)):0=omM y m l d∧3=omE y m l d:=by
 subst hn
 have e:omE y m l d=3:=by unfold omE;rw[if_neg h,if_neg k,if_neg f,if_neg e]
 unfold omM;rw[e];exact⟨rfl,rfl⟩
theorem om_0 {y m d n:Int} {l:Bool} (hn:n=omX y m l d) (h:¬(m<1∨12<m∨d<1∨30<d)) (k:¬(y< -20000∨20000<y)) (f:¬(n< -3000000∨3000000<n)) (e:omU (omJ n)/12=y∧omU (omJ n)%12+1=m∧decide (omU (omJ n+1)=omU (omJ n))=l∧omL n-30*omJ n+1=d):n=omM y m l d∧0=omE y m l d:=by
 subst hn
 have e:omE y m l d=0:=by unfold omE;rw[if_neg h,if_neg k,if_neg f,if_pos e]
 unfold omM;rw[e];exact⟨rfl,rfl⟩
theorem om_clip (y m d:Int) (l:Bool):omM (min (max y (-20001)) 20001) m l d=omM y m l d∧omE (min (max y (-20001)) 20001) m l d=omE y m l d:=by
 by_cases k:y< -20000∨20000<y
 ·by_cases h:m<1∨12<m∨d<1∨30<d
  ·exact⟨(om_4 h).1.symm.trans (om_4 h).1,(om_4 h).2.symm.trans (om_4 h).2⟩
  ·have a:=om_2 (y:=y) (l:=l) h k
   have b:=om_2 (y:=min (max y (-20001)) 20001) (l:=l) h (by omega)
   exact⟨b.1.symm.trans a.1,b.2.symm.trans a.2⟩
 ·rw[show min (max y (-20001)) 20001=y by omega];exact⟨rfl,rfl⟩
theorem omJ_in {n:Int} (h0: -3000000≤n) (h1:n≤3000000): -150000≤omJ n∧omJ n≤150000:=by unfold omJ omQ;omega
theorem omU_in2 {j:Int} (h0: -4194304≤j) (h1:j≤4194304): -4194304≤omU j∧omU j≤4194304:=by unfold omU;omega
theorem omU_lim {j:Int} (h0: -200000≤j) (h1:j≤200000): -200000≤omU j∧omU j≤200000:=by unfold omU;omega
theorem omB_bd {u:Int} (h0: -1000000≤u) (h1:u≤1000000): -1100000≤omB u∧omB u≤1100000:=by unfold omB;omega
theorem omN_t {u:Int} {l:Bool} (h:l=true):omB (u-1)+1=omN u l:=by unfold omN;rw[if_pos h];rfl
theorem omN_f {u:Int} {l:Bool} (h:¬l=true):omB u=omN u l:=by unfold omN;rw[if_neg h]
theorem omN_bd {u:Int} {l:Bool} (h0: -500000≤u) (h1:u≤500000): -600000≤omN u l∧omN u l≤600000:=by unfold omN omA omB;split <;> omega
theorem omF_bd {l:Int} (h0: -20000000≤l) (h1:l≤20000000): -30000000≤omF l∧omF l≤30000000:=by unfold omF;omega
theorem om_there {n:Int} (h0: -3000000≤n) (h1:n≤3000000):omM (omU (omJ n)/12) (omU (omJ n)%12+1) (decide (omU (omJ n+1)=omU (omJ n))) (omL n-30*omJ n+1)=n∧omE (omU (omJ n)/12) (omU (omJ n)%12+1) (decide (omU (omJ n+1)=omU (omJ n))) (omL n-30*omJ n+1)=0:=by
 have b:=om_day n
 have j:=omJ_in h0 h1
 have u:=omU_lim (j:=omJ n) (by omega) (by omega)
 have e:n=omX (omU (omJ n)/12) (omU (omJ n)%12+1) (decide (omU (omJ n+1)=omU (omJ n))) (omL n-30*omJ n+1):=by
  unfold omX
  rw[show 12*(omU (omJ n)/12)+(omU (omJ n)%12+1-1)=omU (omJ n) by omega]
  have r:=om_back2 (n:=n) (u:=omU (omJ n)) (leap:=decide (omU (omJ n+1)=omU (omJ n))) rfl rfl
  rw[Int.add_sub_assoc] at r
  exact r.symm
 have r:=om_0 e (by omega) (by omega) (by omega) ⟨rfl,rfl,rfl,rfl⟩
 exact⟨r.1.symm,r.2.symm⟩
theorem omE_cases (y m d:Int) (l:Bool):omE y m l d=0∨omE y m l d=2∨omE y m l d=3∨omE y m l d=4:=by unfold omE;split <;> (try split) <;> (try split) <;> (try split) <;> simp
theorem om_about (u:Int):omB u-3<omA u∧omA u≤omB u∧omB u≤omA u+1:=by
 have:=(omAB u).2.2
 omega
theorem om_less {j u:Int}:omU j<u↔j<omA u:=by
 have a:=omU_bd j
 unfold omA
 constructor <;> intro h <;> omega
theorem om_end {u:Int} {l:Bool} (h:¬(l=false∧omU (omA u+1)=u)):omA u=omN u l:=by
 unfold omN
 cases l
 ·rw[if_neg (by decide)]
  have a:=omAB u
  rcases a.2.2 with e|e
  ·exact e.symm
  ·exact absurd ⟨rfl,by rw[←e];exact a.2.1⟩ h
 ·rw[if_pos rfl]
theorem om_end2 {u:Int} {l:Bool} (h:l=false) (k:omU (omA u+1)=u):omA u+1=omN u l:=by
 subst h
 unfold omN
 rw[if_neg (by decide)]
 have a:=omAB u
 have b:=(omU_in k).2
 omega
theorem om_facts (k:Int):(omJ (k+1)=omJ k→omU (omJ (k+1))=omU (omJ k)∧omU (omJ (k+1)+1)=omU (omJ k+1))∧(omJ (k+1)=omJ k+1→omU (omJ (k+1))=omU (omJ k+1)∧omU (omJ (k+1)+1)=omU (omJ k+2)):=by
 refine⟨fun e=>by rw[e];exact⟨rfl,rfl⟩,fun e=>?_⟩
 rw[e]
 exact⟨rfl,by rw[show omJ k+1+1=omJ k+2 by omega]⟩
def clp (u i:Int):Int:=max (omA u) (min i (omA (u+12)))
theorem cl_in {u i:Int} (h:u≤omU i) (h2:omU i<u+12):clp u (i+1)=i+1∧clp u i=i:=by
 have a:=om_less (j:=i) (u:=u)
 have b:=om_less (j:=i) (u:=u+12)
 unfold clp
 omega
theorem cl_out {u i:Int} (h:¬(u≤omU i∧omU i<u+12)):clp u (i+1)=clp u i:=by
 have a:=om_less (j:=i) (u:=u)
 have b:=om_less (j:=i) (u:=u+12)
 have c:=om_year u
 unfold clp
 omega
theorem cl_end {u j:Int} (h:j=omB u-3):clp u (j+20)=omA (u+12)∧clp u (j+0)=omA u:=by
 have a:=om_about u
 have c:=om_year u
 unfold clp
 omega
theorem om_one (u:Int):omA (u+1)=omA u+1∨omA (u+1)=omA u+2:=by
 have a:=(omAB u).2.2
 have b:omA (u+1)=omB u+1:=by unfold omA omB;rw[show u+1-1=u by omega]
 omega
theorem om_found {y m d:Int} (e:omE y m true d=0):omA (12*y+m)=omA (12*y+(m-1))+2:=by
 unfold omE at e
 split at e
 ·omega
 ·split at e
  ·omega
  ·split at e
   ·omega
   ·split at e
    ·rename_i q
     obtain⟨q1,q2,q3,_⟩:=q
     have q3:=of_decide_eq_true q3
     generalize omX y m true d=x at*
     have f:omU (omJ x)=12*y+(m-1):=by omega
     have g:omU (omJ x+1)=12*y+(m-1):=by omega
     have a:=(omU_in f).1
     have b:=(omU_in g).2
     have c:omA (12*y+m)=omB (12*y+(m-1))+1:=by unfold omA omB;rw[show 12*y+m-1=12*y+(m-1) by omega]
     have h:=(omAB (12*y+(m-1))).2.2
     omega
    ·omega
theorem om_lunarday (l:Int):omL (omF l)=l∨omL (omF l)=l+1:=by
 have h:=omL_bd (omF l)
 have f:525972500*l-133583340≤534333360*(omF l+1132959)∧534333360*(omF l+1132959)<525972500*l-133583340+534333360:=by unfold omF;omega
 unfold omQ at h
 omega
theorem om_hit {y m d n:Int} (hm:1≤m) (hm2:m≤12) (hd:1≤d) (hd2:d≤30) (hy: -5000≤y) (hy2:y≤8000) (hl:omA (12*y+m)=omA (12*y+(m-1))+2) (hn:n=omX y m true d) (h:omL n=30*omA (12*y+(m-1))+(d-1)):omE y m true d=0:=by
 have J:=omJ_L n
 have e:omJ n=omA (12*y+(m-1)):=by omega
 have u1:=(omAB (12*y+(m-1))).1
 have c:omA (12*y+m)=omB (12*y+(m-1))+1:=by unfold omA omB;rw[show 12*y+m-1=12*y+(m-1) by omega]
 have u2:=(omAB (12*y+(m-1))).2.1
 rw[show omB (12*y+(m-1))=omA (12*y+(m-1))+1 by omega] at u2
 have r:¬(n< -3000000∨3000000<n):=by
  have b: -70000≤omA (12*y+(m-1))∧omA (12*y+(m-1))≤110000:=by unfold omA;omega
  have lb:=omL_bd n
  have p: -62000≤omA (12*y+(m-1)):=by unfold omA;omega
  unfold omQ at lb
  omega
 refine(om_0 hn (by omega) (by omega) r ⟨?_,?_,?_,?_⟩).2.symm
 ·rw[e,u1];omega
 ·rw[e,u1];omega
 ·rw[e,u1,u2];exact decide_eq_true rfl
 ·rw[h,e];omega
theorem om_none {y m:Int} (hm:1≤m) (hm2:m≤12) (hy: -5000≤y) (hy2:y≤8000) (h15:¬omE y m true 15=0) (h16:¬omE y m true 16=0):omA (12*y+m)=omA (12*y+(m-1))+1:=by
 have o:=om_one (12*y+(m-1))
 rw[show 12*y+(m-1)+1=12*y+m by omega] at o
 rcases o with o|o
 ·exact o
 ·exfalso
  have x15:omX y m true 15=omF (30*omA (12*y+(m-1))+14):=rfl
  have x16:omX y m true 16=omF (30*omA (12*y+(m-1))+15):=rfl
  rcases om_lunarday (30*omA (12*y+(m-1))+14) with h|h
  ·exact h15 (om_hit hm hm2 (by omega) (by omega) hy hy2 o x15.symm (by rw[h];omega))
  ·have k:=om_back (omF (30*omA (12*y+(m-1))+14))
   rw[h,Int.add_assoc] at k
   exact h16 (om_hit hm hm2 (by omega) (by omega) hy hy2 o (k.symm.trans x16.symm) (by rw[h];omega))
theorem bool_iff {A B:Prop} [Decidable A] [Decidable B]:(decide A == decide B)=decide (A↔B):=by by_cases a:A <;> by_cases b:B <;> simp[a,b]
theorem r16_neg {a b:Int} (hb:0<b): -((b-1-a)/b)=a/b:=by
 have e:=Int.mul_ediv_add_emod a b
 have h0:=Int.emod_nonneg a (b:=b) (by omega)
 have h1:=Int.emod_lt_of_pos a hb
 have s:b-1-a=(b-1-a%b)+b*(-(a/b)):=by rw[Int.mul_neg];omega
 rw[s,Int.add_mul_ediv_left _ _ (by omega),Int.ediv_eq_zero_of_lt (by omega) (by omega)]
 omega
theorem r16_bd {a b:Int} (hb:0<b) (h:a<0):0≤(b-1-a)/b∧(b-1-a)/b≤b-1-a:=⟨Int.ediv_nonneg (by omega) (by omega),Int.ediv_le_self _ (by omega)⟩
theorem r16_in {a b:Int} (hb:0<b) (h:0≤a):0≤a/b∧a/b≤a:=⟨Int.ediv_nonneg h (by omega),Int.ediv_le_self _ h⟩
theorem ysR_lim:RLim ysR 2:=(rlim_mk2 (limz_64 (by decide) (by decide)) (limz_64 (by decide) (by decide))).up 2 (by decide)
theorem msR_lim:RLim msR 2:=(rlim_mk2 (limz_64 (by decide) (by decide)) (limz_64 (by decide) (by decide))).up 2 (by decide)
theorem mmR_lim:RLim mmR 2:=(rlim_mk2 (limz_64 (by decide) (by decide)) (limz_64 (by decide) (by decide))).up 2 (by decide)
theorem ldR_lim:RLim ldR 2:=(rlim_mk2 (limz_64 (by decide) (by decide)) (limz_64 (by decide) (by decide))).up 2 (by decide)
theorem qrR_lim:RLim qrR 2:=(rlim_mk2 (limz_64 (by decide) (by decide)) (limz_64 (by decide) (by decide))).up 2 (by decide)
theorem suR_lim {n:Int} (b0: -9223372036854775808≤n) (b1:n≤9223372036854775807):RLim (suR n) 8:=(rlim_add (rlim_sub (rlim_int (limz_64 b0 b1) (by omega)) (rlim_int (limz_64 (by decide) (by decide)) (by omega))) qrR_lim).up 8 (by decide)
theorem omX_bd {y m d:Int} {l:Bool} (h0: -20000≤y) (h1:y≤20000) (h2:1≤m) (h3:m≤12) (h4:1≤d) (h5:d≤30): -30000000≤omX y m l d∧omX y m l d≤30000000:=by
 have:=omN_bd (u:=12*y+(m-1)) (l:=l) (by omega) (by omega)
 unfold omX
 exact omF_bd (by omega) (by omega)
end Go.Proofs.Ytacnedknihlfnaa
