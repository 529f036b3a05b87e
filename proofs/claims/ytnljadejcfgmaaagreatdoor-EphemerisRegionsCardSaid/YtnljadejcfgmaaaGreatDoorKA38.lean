import Derived.Test.YtnljadejcfgmaaaGreatDoorKA18
import Derived.Test.YtnljadejcfgmaaaGreatDoorKA37
namespace Go.Proofs.YtnljadejcfgmaaaGreatDoor
open Go.RowKit
set_option maxRecDepth 100000
set_option linter.unusedVariables false
set_option maxHeartbeats 8000000
theorem grain_lim {x:Rat} {k:Nat} (h:RLim x k):RLim (grainV x) (k+10):=by
 have a:=rlim_mul h (lim64 (n:=1048576) (by decide) (by decide))
 have f:=rlim_int (fl_lim a) (by omega)
 exact(rlim_mul f (lim1d (n:=1) (d:=1048576) (by decide) (by decide))).up _ (by omega)
theorem prec_lim {t:Rat} {k:Nat} (h:RLim t k):RLim (precV t) (2*k+60):=by
 have y:RLim (preY t) (k+6):=(rlim_sub (rlim_mul (rlim_sub h (lim1 (n:= -1132959) (by decide))) (lim1d (n:=600) (d:=1577917828) (by decide) (by decide))) (lim1d (n:=1) (d:=4) (by decide) (by decide))).up _ (by omega)
 have x:=rinto_lim y (lim1d (n:= -1) (d:=2) (by decide) (by decide)) (lim1d (n:=1) (d:=2) (by decide) (by decide))
 exact(rlim_sub (lim1 (n:=27) (by decide)) (rlim_mul (lim1 (n:=108) (by decide)) (rlim_abs x))).up _ (by omega)
theorem trop_lim {t:Rat} {k:Nat} (h:RLim t k):RLim (tropV t) (5*k+180):=(rmod360_lim (rlim_sub (sunV_lim h) (prec_lim h))).up _ (by omega)
def epiQ (a:Rat):Rat:=((14:Int):Rat)/((360:Int):Rat)-a.abs*(((1:Int):Rat)/((1080:Int):Rat))
def motQ (x:Rat):Rat:=((360:Int):Rat)/pyr*(((1:Int):Rat)-((stpV x:Int):Rat)/((225:Int):Rat)*epiQ (sof x))
def eqnQ (x:Rat):Rat:=motQ x*(((1:Int):Rat)/((360:Int):Rat))*(sof x*(((573:Int):Rat)/((10:Int):Rat))*epiQ (sof x)*(((1:Int):Rat)/((360:Int):Rat)))*pyr
def risQ (x:Rat):Rat:=((risT (prt x 12):Int):Rat)/((1800:Int):Rat)
def hQ (x:Rat):Rat:=obl*sof x
def diffQ (x lat:Rat):Rat:=arcv (-(hQ x*sof lat/sof (lat+((90:Int):Rat))/cosa (hQ x)))
theorem hQ_lim {x:Rat} {k:Nat} (h:RLim x k):RLim (hQ x) (k+13):=(rlim_mul (lim1d (n:=1397) (d:=3438) (by decide) (by decide)) (sof_lim2 h)).up _ (by omega)
theorem diffQ_lim {x lat:Rat} {k j:Nat} (h:RLim x k) (hl:RLim lat j) (hj:j≤2):RLim (diffQ x lat) (2*k+140):=by
 have n90:RLim ((90:Int):Rat) 1:=lim1 (by decide)
 have c:RLim (cosa (hQ x)) (k+50):=(sof_lim2 (rlim_add (arcv_lim (hQ_lim h)) n90)).up _ (by omega)
 have e:=rlim_div (rlim_mul (hQ_lim h) (sof_lim2 hl)) (sof_lim2 (rlim_add hl n90))
 exact(arcv_lim (rlim_neg (rlim_div e c))).up _ (by omega)
theorem epiQ_lim {a:Rat} {k:Nat} (h:RLim a k):RLim (epiQ a) (k+3):=(rlim_sub (lim1d (n:=14) (d:=360) (by decide) (by decide)) (rlim_mul (rlim_abs h) (lim1d (n:=1) (d:=1080) (by decide) (by decide)))).up _ (by omega)
theorem motQ_lim {x:Rat} {k:Nat} (h:RLim x k):RLim (motQ x) (k+40):=by
 have s:=sp_step (pk x)
 have st:RLim (((stpV x:Int):Rat)/((225:Int):Rat)) 1:=lim1d (by unfold stpV;omega) (by decide)
 exact(rlim_mul year_lim1 (rlim_sub (lim1 (n:=1) (by decide)) (rlim_mul st (epiQ_lim (sof_lim2 h))))).up _ (by omega)
theorem eqnQ_lim {x:Rat} {k:Nat} (h:RLim x k):RLim (eqnQ x) (3*k+100):=by
 have o:RLim (((1:Int):Rat)/((360:Int):Rat)) 1:=lim1d (by decide) (by decide)
 exact(rlim_mul (rlim_mul (rlim_mul (motQ_lim h) o) (rlim_mul (rlim_mul (rlim_mul (sof_lim2 h) (lim1d (n:=573) (d:=10) (by decide) (by decide))) (epiQ_lim (sof_lim2 h))) o)) pyr_lim1).up _ (by omega)
theorem risQ_lim (x:Rat):RLim (risQ x) 1:=lim1d (by unfold risT;split <;> (try split) <;> decide) (by decide)
theorem sm30 {x:Rat} (h0:0≤x) (h1:x<((360:Int):Rat)):sm64 (Rat.floor (x*(((1:Int):Rat)/((30:Int):Rat))))=prt x 12∧fit64 (Rat.floor (x*(((1:Int):Rat)/((30:Int):Rat))))=true:=by
 have e:Rat.floor (x*(((1:Int):Rat)/((30:Int):Rat)))=prt x 12:=by
  unfold prt
  rw[show((1:Int):Rat)/((30:Int):Rat)=((12:Int):Rat)/((360:Int):Rat) by decide+kernel]
 have b:=prt_bd (x:=x) (n:=12) (by omega) h0 h1
 rw[e]
 exact⟨sm64_t (by omega) (by omega),fit64_t (by omega) (by omega)⟩
theorem risT_ix {k:Int}:([1670,1795,1935,1935,1795,1670].map fun z=>Value.int .i64 z)[(k%6).toNat]?=some (.int .i64 (risT k)):=by
 have h:k%6=0∨k%6=1∨k%6=2∨k%6=3∨k%6=4∨k%6=5:=by omega
 unfold risT
 rcases h with h|h|h|h|h|h <;> rw[h] <;> rfl
theorem risT_bd (k:Int):1670≤risT k∧risT k≤1935:=by unfold risT;split <;> (try split) <;> omega
theorem PlOk.ll {a b c d:Int} (h:PlOk a b c d):RLim (((a:Int):Rat)/((b:Int):Rat)) 1:=lim1d (by have:=h.b0;have:=h.b1;have:=h.a0;have:=h.a1;omega) (by have:=h.b0;have:=h.b1;omega)
theorem PlOk.lm {a b c d:Int} (h:PlOk a b c d):RLim (((c:Int):Rat)/((d:Int):Rat)) 1:=lim1d (by have:=h.d0;have:=h.d1;have:=h.c0;have:=h.c1;omega) (by have:=h.d0;have:=h.d1;omega)
def dawV (n a b c d:Int):Rat:=bothV ((n:Int):Rat) (((a:Int):Rat)/((b:Int):Rat)) (((c:Int):Rat)/((d:Int):Rat)) 1 1
def dusV (n a b c d:Int):Rat:=bothV ((n:Int):Rat) (((a:Int):Rat)/((b:Int):Rat)) (((c:Int):Rat)/((d:Int):Rat)) 3 (-1)
theorem daw_lim {n a b c d:Int} (h:PlOk a b c d) (h0: -4000000≤n) (h1:n≤4000000):RLim (dawV n a b c d) 90:=both_lim3 (by omega) h.ll h.lm h.la.1 h.la.2 (by decide) (by decide)
theorem dus_lim {n a b c d:Int} (h:PlOk a b c d) (h0: -4000000≤n) (h1:n≤4000000):RLim (dusV n a b c d) 90:=both_lim3 (by omega) h.ll h.lm h.la.1 h.la.2 (by decide) (by decide)
theorem sky_bd {m q dg sg:Rat} (m0:87/100≤m) (m1:m≤111/100) (d0: -53≤dg) (d1:dg≤53) (hq:q=1/4∨q=3/4) (hs:sg=1∨sg= -1): -1≤(m*q+sg*dg)*kap∧(m*q+sg*dg)*kap≤1:=by
 have k:=kap_bd
 have y: -55≤m*q+sg*dg∧m*q+sg*dg≤55:=by
  rcases hq with rfl|rfl <;> rcases hs with rfl|rfl <;> constructor <;> grind
 have b:=mul_bd (a:=55) (b:=1/100) (x:=m*q+sg*dg) (y:=kap) (by grind) (by grind) y.1 y.2 (by grind) (by grind)
 constructor <;> grind
theorem daw_bd {n a b c d:Int} (h:PlOk a b c d):((n:Int):Rat)-3≤dawV n a b c d∧dawV n a b c d≤((n:Int):Rat)+3:=by
 have s:=side_bd ((n:Int):Rat)
 have f:=diff_bd ((n:Int):Rat) h.la.1 h.la.2
 have e:=eqn_bd ((n:Int):Rat)
 have l:=h.lo
 have k:=sky_bd (q:=((1:Int):Rat)/((4:Int):Rat)) (sg:=((1:Int):Rat)) s.1 s.2 f.1 f.2 (.inl (by decide+kernel)) (.inl rfl)
 unfold dawV bothV eastV
 rw[show((45461:Int):Rat)/((600:Int):Rat)=45461/600 by decide+kernel,show((1:Int):Rat)/((360:Int):Rat)=1/360 by decide+kernel]
 have q:((1:Int):Rat)/((4:Int):Rat)=1/4:=by decide+kernel
 rw[q] at k ⊢
 constructor <;> grind
theorem dus_bd {n a b c d:Int} (h:PlOk a b c d):((n:Int):Rat)-3≤dusV n a b c d∧dusV n a b c d≤((n:Int):Rat)+3:=by
 have s:=side_bd ((n:Int):Rat)
 have f:=diff_bd ((n:Int):Rat) h.la.1 h.la.2
 have e:=eqn_bd ((n:Int):Rat)
 have l:=h.lo
 have k:=sky_bd (q:=((3:Int):Rat)/((4:Int):Rat)) (sg:=((-1:Int):Rat)) s.1 s.2 f.1 f.2 (.inr (by decide+kernel)) (.inr rfl)
 unfold dusV bothV eastV
 rw[show((45461:Int):Rat)/((600:Int):Rat)=45461/600 by decide+kernel,show((1:Int):Rat)/((360:Int):Rat)=1/360 by decide+kernel]
 have q:((3:Int):Rat)/((4:Int):Rat)=3/4:=by decide+kernel
 rw[q] at k ⊢
 constructor <;> grind
theorem grain_lim3 {x:Rat} {n:Int} (h0: -4000000≤n) (h1:n≤4000000) (a:((n:Int):Rat)-3≤x) (b:x≤((n:Int):Rat)+3):RLim (grainV x) 3:=by
 have c0:=cast_le h0
 have c1:=cast_le h1
 rw[show((-4000000:Int):Rat)= -4000000 from rfl] at c0
 rw[show((4000000:Int):Rat)=4000000 from rfl] at c1
 have e:((1048576:Int):Rat)=1048576:=rfl
 have f0: -5000000000000≤(x*((1048576:Int):Rat)).floor :=Rat.le_floor_iff.2 (by rw[e,show((-5000000000000:Int):Rat)= -5000000000000 from rfl];grind)
 have f1:(x*((1048576:Int):Rat)).floor <5000000000000:=Rat.floor_lt_iff.2 (by rw[e,show((5000000000000:Int):Rat)=5000000000000 from rfl];grind)
 exact(rlim_mul (lim64 (n:=(x*((1048576:Int):Rat)).floor) (by omega) (by omega)) (lim1d (n:=1) (d:=1048576) (by decide) (by decide))).up _ (by omega)
theorem sunr_lim {n a b c d:Int} (h:PlOk a b c d) (h0: -4000000≤n) (h1:n≤4000000):RLim (grainV (dawV n a b c d)) 3:=grain_lim3 h0 h1 (daw_bd h).1 (daw_bd h).2
theorem suns_lim {n a b c d:Int} (h:PlOk a b c d) (h0: -4000000≤n) (h1:n≤4000000):RLim (grainV (dusV n a b c d)) 3:=grain_lim3 h0 h1 (dus_bd h).1 (dus_bd h).2
theorem diffQ_eq (x lat:Rat):arcv (-(sof x*(((1397:Int):Rat)/((3438:Int):Rat))*sof lat/sof (lat+((90:Int):Rat)))/sof (arcv (sof x*(((1397:Int):Rat)/((3438:Int):Rat)))+((90:Int):Rat)))=diffQ x lat:=by
 unfold diffQ cosa hQ obl
 rw[Rat.mul_comm (sof x),Rat.div_def (-_),Rat.neg_mul,←Rat.div_def]
theorem cross_eq (t lat lon:Rat) (qd sg:Int) (z:Rat) (hz:z=((1577917828:Int):Rat)/((1582237828:Int):Rat)*(((1:Int):Rat)/((360:Int):Rat))*(((qd:Int):Rat)/((4:Int):Rat)*motV t*risV t+diffV t lat*((sg:Int):Rat))):
 t+((qd:Int):Rat)/((4:Int):Rat)+(((45461:Int):Rat)/((600:Int):Rat)-lon)*(((1:Int):Rat)/((360:Int):Rat))+ -(eqnV t)+z=bothV t lat lon qd sg:=by
 subst hz
 unfold bothV eastV kap
 grind
end Go.Proofs.YtnljadejcfgmaaaGreatDoor
