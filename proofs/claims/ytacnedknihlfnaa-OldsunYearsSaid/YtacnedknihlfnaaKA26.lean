import Derived.Test.YtacnedknihlfnaaKA25
namespace Go.Proofs.Ytacnedknihlfnaa
open Go.RowKit
set_option maxRecDepth 100000
set_option linter.unusedVariables false
set_option maxHeartbeats 8000000
def osP (n:Int):Int:=6912*(n+1132959)+1728
def osM (n:Int):Int:=osP n/210389
def osD (n:Int):Int:=(osP n-210389*osM n)/6912+1
def osF (u d:Int):Int:= -(-(210389*u+6912*d-8640)/6912)-1132959
theorem osM_bd (n:Int):210389*osM n≤osP n∧osP n<210389*osM n+210389:=by unfold osM;omega
theorem osD_bd (n:Int):1≤osD n∧osD n≤31:=by have:=osM_bd n;unfold osD;omega
theorem os_back (n:Int):osF (osM n) (osD n)=n:=by
 have h:=osM_bd n
 unfold osF osD
 generalize osM n=u at*
 unfold osP at*
 omega
theorem os_step (n:Int):(osM (n+1)=osM n∧osD (n+1)=osD n+1)∨(osM (n+1)=osM n+1∧osD (n+1)=1∧30≤osD n):=by
 have h:=osM_bd n
 have h':=osM_bd (n+1)
 have e:osP (n+1)=osP n+6912:=by unfold osP;omega
 unfold osD
 rw[e] at h'
 rw[e]
 clear e
 generalize osM n=u at*
 generalize osM (n+1)=v at*
 generalize osP n=p at*
 have k:v=u∨v=u+1:=by omega
 rcases k with rfl|rfl
 ·left;exact⟨rfl,by omega⟩
 ·right;exact⟨rfl,by omega,by omega⟩
theorem osF_first (u:Int):osM (osF u 1)=u∧osD (osF u 1)=1:=by
 have h:=osM_bd (osF u 1)
 have e:osP (osF u 1)=6912*(osF u 1+1132959)+1728:=rfl
 have f:210389*u-1728≤6912*(osF u 1+1132959)∧6912*(osF u 1+1132959)<210389*u-1728+6912:=by unfold osF;omega
 have k:osM (osF u 1)=u:=by omega
 refine⟨k,?_⟩
 unfold osD
 rw[k]
 omega
theorem osF_len (u:Int):30≤osF (u+1) 1-osF u 1∧osF (u+1) 1-osF u 1≤31:=by unfold osF;omega
theorem osF_year (u:Int):365≤osF (u+12) 1-osF u 1∧osF (u+12) 1-osF u 1≤366:=by unfold osF;omega
def ysR:Rat:=((1577917500:Int):Rat)/((4320000:Int):Rat)
def msR:Rat:=((1577917500:Int):Rat)/((51840000:Int):Rat)
def qrR:Rat:=((1:Int):Rat)/((4:Int):Rat)
def suR (n:Int):Rat:=((n:Int):Rat)-((-1132959:Int):Rat)+qrR
theorem inv_ms:msR⁻¹ =((6912:Int):Rat)/((210389:Int):Rat):=by decide+kernel
theorem inv_ys:ysR⁻¹ =((6912:Int):Rat)/((2524668:Int):Rat):=by decide+kernel
theorem ms_is:msR=((210389:Int):Rat)/((6912:Int):Rat):=by decide+kernel
theorem ys_is:ysR=((210389:Int):Rat)/((576:Int):Rat):=by decide+kernel
theorem ms_pos:0<msR:=by decide+kernel
theorem r12_pos:(0:Rat)<((12:Int):Rat):=by decide+kernel
theorem fl_quo9 {n d:Int} (hd:0<d):(((n:Int):Rat)/((d:Int):Rat)).floor =n/d:=by
 have c:0<((d:Int):Rat):=Rat.intCast_pos.2 hd
 have e:((n:Int):Rat)/((d:Int):Rat)*((d:Int):Rat)=((n:Int):Rat):=Rat.div_mul_cancel (by grind)
 have m0:=Int.mul_ediv_add_emod n d
 have m1:=Int.emod_nonneg n (b:=d) (by omega)
 have m2:=Int.emod_lt_of_pos n hd
 have a:n/d≤(((n:Int):Rat)/((d:Int):Rat)).floor :=by
  refine Rat.le_floor_iff.2 (Rat.not_lt.1 fun q=>?_)
  have q2:=Rat.mul_lt_mul_of_pos_right q c
  rw[e,←Rat.intCast_mul] at q2
  have:=Rat.intCast_lt_intCast.1 q2
  rw[Int.mul_comm] at this
  omega
 have b:(((n:Int):Rat)/((d:Int):Rat)).floor <n/d+1:=by
  refine Rat.floor_lt_iff.2 (Rat.not_le.1 fun q=>?_)
  have q2:=Rat.mul_le_mul_of_nonneg_right (c:=((d:Int):Rat)) q (by grind)
  rw[e,←Rat.intCast_mul] at q2
  have:=Rat.intCast_le_intCast.1 q2
  rw[Int.add_mul,Int.one_mul,Int.mul_comm] at this
  omega
 omega
theorem fl_by {q:Rat} {n d:Int} (hd:0<d) (h:q*((d:Int):Rat)=((n:Int):Rat)):q.floor=n/d:=by
 have c:0<((d:Int):Rat):=Rat.intCast_pos.2 hd
 rw[←fl_quo9 hd,←h,Rat.mul_div_cancel (by grind)]
theorem ce_by {q:Rat} {n d:Int} (hd:0<d) (h:q*((d:Int):Rat)=((n:Int):Rat)):q.ceil= -(-n/d):=by
 rw[Rat.ceil_eq_neg_floor_neg,fl_by (n:= -n) hd (by rw[Rat.neg_mul,h,Rat.intCast_neg])]
theorem su_parts (n:Int):suR n*((6912:Int):Rat)=((osP n:Int):Rat):=by
 unfold suR qrR osP
 simp only [Rat.intCast_add,Rat.intCast_mul]
 grind
theorem su_ms_by (n:Int):suR n/msR*((210389:Int):Rat)=((osP n:Int):Rat):=by
 rw[←su_parts,Rat.div_def,inv_ms]
 grind
theorem su_ms (n:Int):(suR n/msR).floor =osM n:=fl_by (by decide) (su_ms_by n)
theorem su_ys (n:Int):(suR n/ysR).floor =osM n/12:=by
 rw[fl_by (n:=osP n) (d:=2524668) (by decide) (by rw[←su_parts,Rat.div_def,inv_ys];grind)]
 unfold osM
 omega
theorem su_md (n:Int):(rmod (suR n/msR) ((12:Int):Rat)).floor =osM n%12:=by
 unfold rmod
 rw[if_neg (by have:=r12_pos;grind)]
 have e:(suR n/msR/((12:Int):Rat)).floor =osM n/12:=by
  rw[fl_by (n:=osP n) (d:=2524668) (by decide) (by rw[←su_ms_by];grind)]
  unfold osM
  omega
 rw[e,fl_by (n:=osP n-210389*(12*(osM n/12))) (d:=210389) (by decide) (by
  rw[Rat.intCast_sub,←su_ms_by,Rat.intCast_mul,Rat.intCast_mul]
  grind)]
 unfold osM
 omega
theorem su_day (n:Int):(rmod (suR n) msR).floor =osD n-1:=by
 unfold rmod
 rw[if_neg (by have:=ms_pos;grind),su_ms,fl_by (n:=osP n-210389*osM n) (d:=6912) (by decide) (by
  rw[Rat.intCast_sub,←su_parts,Rat.intCast_mul,ms_is]
  grind)]
 unfold osD
 omega
theorem os_ceil (u d:Int):(msR*((u:Int):Rat)+((d-1:Int):Rat)-qrR).ceil =osF u d+1132959:=by
 rw[ce_by (n:=210389*u+6912*d-8640) (d:=6912) (by decide) (by
  rw[ms_is]
  unfold qrR
  simp only [Rat.intCast_add,Rat.intCast_sub,Rat.intCast_mul]
  grind)]
 unfold osF
 omega
theorem small_is (v:Value) (z n:Int) (w:World) (h:Wz w v z) (e:z=n) (b0: -9223372036854775808≤n) (b1:n≤9223372036854775807):Calls Try.prog 58 #[v] w (ValPost w (.tuple #[.int .i64 n,.bool true])):=by
 subst e
 have h':=small64 v z w h
 rw[sm64_t b0 b1,fit64_t b0 b1] at h'
 exact h'
theorem days_is (v:Value) (q:Rat) (k:Nat) (n:Int) (w:World) (h:Rq w v q) (hl:RLim q k) (hk:k≤10000) (e:q.floor=n) (b0: -9223372036854775808≤n) (b1:n≤9223372036854775807):Calls Try.prog 65 #[v] w (ValPost w (.tuple #[.int .i64 n,.bool true])):=by
 subst e
 have h':=cDays_any v q k w h hl hk
 rw[sm64_t b0 b1,fit64_t b0 b1] at h'
 exact h'
def osX (y m d:Int):Int:=osF (12*y+(m-1)) d
def osE (y m d:Int):Int:=if m<1∨12<m∨d<1∨31<d then 4 else if y< -20000∨20000<y then 2 else if osX y m d< -3000000∨3000000<osX y m d then 2 else if osM (osX y m d)/12=y∧osM (osX y m d)%12+1=m∧osD (osX y m d)=d then 0 else 3
def osN (y m d:Int):Int:=if osE y m d=0 then osX y m d else 0
theorem os_4 {y m d:Int} (h:m<1∨12<m∨d<1∨31<d):0=osN y m d∧4=osE y m d:=by
 have e:osE y m d=4:=by unfold osE;rw[if_pos h]
 unfold osN;rw[e];exact⟨rfl,rfl⟩
theorem os_2 {y m d:Int} (h:¬(m<1∨12<m∨d<1∨31<d)) (k:y< -20000∨20000<y):0=osN y m d∧2=osE y m d:=by
 have e:osE y m d=2:=by unfold osE;rw[if_neg h,if_pos k]
 unfold osN;rw[e];exact⟨rfl,rfl⟩
theorem os_2f {y m d n:Int} (hn:n=osX y m d) (h:¬(m<1∨12<m∨d<1∨31<d)) (k:¬(y< -20000∨20000<y)) (f:n< -3000000∨3000000<n):0=osN y m d∧2=osE y m d:=by
 subst hn
 have e:osE y m d=2:=by unfold osE;rw[if_neg h,if_neg k,if_pos f]
 unfold osN;rw[e];exact⟨rfl,rfl⟩
theorem os_3 {y m d n:Int} (hn:n=osX y m d) (h:¬(m<1∨12<m∨d<1∨31<d)) (k:¬(y< -20000∨20000<y)) (f:¬(n< -3000000∨3000000<n)) (e:¬(osM n/12=y∧osM n%12+1=m∧osD n=d)):0=osN y m d∧3=osE y m d:=by
 subst hn
 have e:osE y m d=3:=by unfold osE;rw[if_neg h,if_neg k,if_neg f,if_neg e]
 unfold osN;rw[e];exact⟨rfl,rfl⟩
theorem os_0 {y m d n:Int} (hn:n=osX y m d) (h:¬(m<1∨12<m∨d<1∨31<d)) (k:¬(y< -20000∨20000<y)) (f:¬(n< -3000000∨3000000<n)) (e:osM n/12=y∧osM n%12+1=m∧osD n=d):n=osN y m d∧0=osE y m d:=by
 subst hn
 have e:osE y m d=0:=by unfold osE;rw[if_neg h,if_neg k,if_neg f,if_pos e]
 unfold osN;rw[e];exact⟨rfl,rfl⟩
theorem os_clip (y m d:Int):osN (min (max y (-20001)) 20001) m d=osN y m d∧osE (min (max y (-20001)) 20001) m d=osE y m d:=by
 by_cases k:y< -20000∨20000<y
 ·by_cases h:m<1∨12<m∨d<1∨31<d
  ·exact⟨(os_4 h).1.symm.trans (os_4 h).1,(os_4 h).2.symm.trans (os_4 h).2⟩
  ·have a:=os_2 (y:=y) h k
   have b:=os_2 (y:=min (max y (-20001)) 20001) h (by omega)
   exact⟨b.1.symm.trans a.1,b.2.symm.trans a.2⟩
 ·rw[show min (max y (-20001)) 20001=y by omega];exact⟨rfl,rfl⟩
theorem osM_in {n:Int} (h0: -3000000≤n) (h1:n≤3000000): -1000000≤osM n∧osM n≤1000000:=by unfold osM osP;omega
theorem os_there {n:Int} (h0: -3000000≤n) (h1:n≤3000000):osN (osM n/12) (osM n%12+1) (osD n)=n∧osE (osM n/12) (osM n%12+1) (osD n)=0:=by
 have b:=osD_bd n
 have y0: -20000≤osM n/12∧osM n/12≤20000:=by unfold osM osP;omega
 have e:n=osX (osM n/12) (osM n%12+1) (osD n):=by
  unfold osX
  rw[show 12*(osM n/12)+(osM n%12+1-1)=osM n by omega,os_back]
 have r:=os_0 e (by omega) (by omega) (by omega) ⟨rfl,rfl,rfl⟩
 exact⟨r.1.symm,r.2.symm⟩
theorem os_first {y m:Int} (hm:1≤m) (hm2:m≤12) (hy: -20000≤y) (hy2:y≤20000):
 (osE y m 1=0∧osN y m 1=osF (12*y+(m-1)) 1∧ -3000000≤osF (12*y+(m-1)) 1∧osF (12*y+(m-1)) 1≤3000000)∨(osE y m 1=2∧(osF (12*y+(m-1)) 1< -3000000∨3000000<osF (12*y+(m-1)) 1)):=by
 by_cases f:osF (12*y+(m-1)) 1< -3000000∨3000000<osF (12*y+(m-1)) 1
 ·exact .inr ⟨(os_2f (n:=osF (12*y+(m-1)) 1) rfl (by omega) (by omega) f).2.symm,f⟩
 ·have g:=osF_first (12*y+(m-1))
  have r:=os_0 (y:=y) (m:=m) (d:=1) (n:=osF (12*y+(m-1)) 1) rfl (by omega) (by omega) f ⟨by rw[g.1];omega,by rw[g.1];omega,g.2⟩
  exact .inl ⟨r.2.symm,r.1.symm,by omega,by omega⟩
theorem osF_up {u v:Int} (h:u≤v):osF u 1≤osF v 1:=by unfold osF;omega
theorem osF_bd {u:Int} (h0: -300000≤u) (h1:u≤300000) {d:Int} (hd:0≤d) (hd1:d≤100): -20000000≤osF u d∧osF u d≤20000000:=by unfold osF;omega
theorem os_ref {y m d n:Int} (h:n= -(-(210389*(12*y+m-1)+6912*d-8640)/6912)-1132959):n=osX y m d:=by
 rw[h];unfold osX osF
 omega
theorem osE_cases (y m d:Int):osE y m d=0∨osE y m d=2∨osE y m d=3∨osE y m d=4:=by unfold osE;split <;> (try split) <;> (try split) <;> (try split) <;> simp
theorem osN_bd (y m d:Int): -3000000≤osN y m d∧osN y m d≤3000000:=by
 unfold osN
 split
 ·rename_i h
  unfold osE at h
  split at h
  ·omega
  ·split at h
   ·omega
   ·split at h <;> omega
 ·omega
theorem r16_neg {a b:Int} (hb:0<b): -((b-1-a)/b)=a/b:=by
 have e:=Int.mul_ediv_add_emod a b
 have h0:=Int.emod_nonneg a (b:=b) (by omega)
 have h1:=Int.emod_lt_of_pos a hb
 have s:b-1-a=(b-1-a%b)+b*(-(a/b)):=by rw[Int.mul_neg];omega
 rw[s,Int.add_mul_ediv_left _ _ (by omega),Int.ediv_eq_zero_of_lt (by omega) (by omega)]
 omega
theorem r16_bd {a b:Int} (hb:0<b) (h:a<0):0≤(b-1-a)/b∧(b-1-a)/b≤b-1-a:=⟨Int.ediv_nonneg (by omega) (by omega),Int.ediv_le_self _ (by omega)⟩
theorem r16_in {a b:Int} (hb:0<b) (h:0≤a):0≤a/b∧a/b≤a:=⟨Int.ediv_nonneg h (by omega),Int.ediv_le_self _ h⟩
theorem su_same (n:Int):suR n=((osP n:Int):Rat)/((6912:Int):Rat):=by
 rw[←su_parts,Rat.mul_div_cancel (by decide+kernel)]
theorem ysR_lim:RLim ysR 2:=(rlim_mk2 (limz_64 (by decide) (by decide)) (limz_64 (by decide) (by decide))).up 2 (by decide)
theorem msR_lim:RLim msR 2:=(rlim_mk2 (limz_64 (by decide) (by decide)) (limz_64 (by decide) (by decide))).up 2 (by decide)
theorem qrR_lim:RLim qrR 2:=(rlim_mk2 (limz_64 (by decide) (by decide)) (limz_64 (by decide) (by decide))).up 2 (by decide)
theorem suR_lim {n:Int} (b0: -9223372036854775808≤n) (b1:n≤9223372036854775807):RLim (suR n) 8:=(rlim_add (rlim_sub (rlim_int (limz_64 b0 b1) (by omega)) (rlim_int (limz_64 (by decide) (by decide)) (by omega))) qrR_lim).up 8 (by decide)
theorem osX_bd {y m d:Int} (h0: -20000≤y) (h1:y≤20000) (h2:1≤m) (h3:m≤12) (h4:1≤d) (h5:d≤31): -20000000≤osX y m d∧osX y m d≤20000000:=by unfold osX osF;omega
end Go.Proofs.Ytacnedknihlfnaa
