import Derived.Test.YtnljadejcfgmaaaGreatDoorKA32
namespace Go.Proofs.YtnljadejcfgmaaaGreatDoor
open Go.RowKit
set_option maxRecDepth 100000
set_option linter.unusedVariables false
set_option maxHeartbeats 8000000
def kli:Rat:=((-1132959:Int):Rat)
def preY (t:Rat):Rat:=(t-kli)*(((600:Int):Rat)/((1577917828:Int):Rat))-((1:Int):Rat)/((4:Int):Rat)
def preX (t:Rat):Rat:=rinto (preY t) (((-1:Int):Rat)/((2:Int):Rat)) (((1:Int):Rat)/((2:Int):Rat))
def precV (t:Rat):Rat:=((27:Int):Rat)-((108:Int):Rat)*(preX t).abs
def tropV (t:Rat):Rat:=rmod (sunV t-precV t) ((360:Int):Rat)
def obl:Rat:=((1397:Int):Rat)/((3438:Int):Rat)
def hV (t:Rat):Rat:=obl*sof (tropV t)
def cosa (h:Rat):Rat:=sof (arcv h+((90:Int):Rat))
def eV (t lat:Rat):Rat:=hV t*sof lat/sof (lat+((90:Int):Rat))
def diffV (t lat:Rat):Rat:=arcv (-(eV t lat/cosa (hV t)))
theorem obl_eq:obl=1397/3438:=by decide+kernel
theorem r90:((90:Int):Rat)=90:=rfl
theorem half_eq:(((-1:Int):Rat)/((2:Int):Rat))= -1/2∧(((1:Int):Rat)/((2:Int):Rat))=1/2:=by decide+kernel
theorem near_int (y:Rat) (m:Int):(rinto y (-1/2) (1/2)).abs ≤(y-((m:Int):Rat)).abs :=by
 have l:=rinto_low (x:=y) (a:= -1/2) (b:=1/2) (by grind)
 have u:=rinto_high (x:=y) (a:= -1/2) (b:=1/2) (by grind)
 obtain⟨n,e⟩:∃n:Int,rinto y (-1/2) (1/2)=y-((n:Int):Rat):=by
  refine⟨((y- -1/2)/(1/2- -1/2)).floor,?_⟩
  unfold rinto
  rw[if_neg (by grind)]
  unfold rmod
  rw[if_neg (by grind)]
  grind
 rw[e] at l u ⊢
 have h:m=n∨m≤n-1∨n+1≤m:=by omega
 rcases h with h|h|h
 ·rw[h];exact Rat.le_refl
 ·have:=cast_le h
  rw[Rat.intCast_sub,Rat.intCast_one] at this
  unfold Rat.abs;split <;> split <;> grind
 ·have:=cast_le h
  rw[Rat.intCast_add,Rat.intCast_one] at this
  unfold Rat.abs;split <;> split <;> grind
theorem tri_lip (y d:Rat):(rinto (y+d) (-1/2) (1/2)).abs ≤(rinto y (-1/2) (1/2)).abs +d.abs:=by
 obtain⟨n,e⟩:∃n:Int,rinto y (-1/2) (1/2)=y-((n:Int):Rat):=by
  refine⟨((y- -1/2)/(1/2- -1/2)).floor,?_⟩
  unfold rinto
  rw[if_neg (by grind)]
  unfold rmod
  rw[if_neg (by grind)]
  grind
 have h:=near_int (y+d) n
 have g:(y+d-((n:Int):Rat)).abs ≤(y-((n:Int):Rat)).abs +d.abs:=by
  unfold Rat.abs;split <;> split <;> split <;> grind
 rw[e];grind
theorem prec_day (t:Rat):(precV (t+((1:Int):Rat))-precV t).abs ≤1/1000:=by
 have e:preY (t+((1:Int):Rat))=preY t+((600:Int):Rat)/((1577917828:Int):Rat):=by unfold preY;rw[Rat.intCast_one];grind
 have e':preY t=preY (t+((1:Int):Rat))+ -(((600:Int):Rat)/((1577917828:Int):Rat)):=by rw[e];grind
 have k:(((600:Int):Rat)/((1577917828:Int):Rat)).abs ≤1/200000:=by decide+kernel
 have k':(-(((600:Int):Rat)/((1577917828:Int):Rat))).abs ≤1/200000:=by decide+kernel
 have a:=tri_lip (preY t) (((600:Int):Rat)/((1577917828:Int):Rat))
 have b:=tri_lip (preY (t+((1:Int):Rat))) (-(((600:Int):Rat)/((1577917828:Int):Rat)))
 rw[←e] at a
 rw[←e'] at b
 unfold precV preX
 rw[half_eq.1,half_eq.2,show((108:Int):Rat)=108 from rfl,show((27:Int):Rat)=27 from rfl]
 exact abs_le (by grind) (by grind)
theorem sof_le {p q:Rat} (h1:((-90:Int):Rat)≤p) (h2:p≤q) (h3:q≤((90:Int):Rat)):sof p≤sof q:=by
 by_cases e:p=q
 ·rw[e];exact Rat.le_refl
 ·exact Rat.le_of_lt (sof_rise h1 (by grind) h3)
theorem sof_rmod (x:Rat):sof (rmod x ((360:Int):Rat))=sof x:=by rw[rmod_fl c360_pos,sof_turn]
theorem arcv_bd {y:Rat} (h0: -1≤y) (h1:y≤1):((-90:Int):Rat)≤arcv y∧arcv y≤((90:Int):Rat):=by
 have h:=ap_of (h:=y*((3438:Int):Rat)) (by rw[c3438,show((-3438:Int):Rat)= -3438 from rfl];grind) (by rw[c3438];grind)
 unfold arcv
 rw[wd_eq,r90,show((-90:Int):Rat)= -90 from rfl]
 have a:=h.1
 have b:=h.2.1
 rw[show((-24:Int):Rat)= -24 from rfl] at a
 rw[show((24:Int):Rat)=24 from rfl] at b
 constructor <;> grind
theorem sof_arcv {y:Rat} (h0: -1≤y) (h1:y≤1):sof (arcv y)=y:=sof_arc h0 h1
theorem lat_sin {lat:Rat} (h0: -60≤lat) (h1:lat≤60): -(2978/3438)≤sof lat∧sof lat≤2978/3438:=by
 have a:sof 60=2978/3438:=by decide+kernel
 have b:sof (-60)= -(2978/3438):=by decide+kernel
 rw[←a]
 have b': -sof 60=sof (-60):=by rw[a,b]
 rw[b']
 exact⟨sof_le (by rw[show((-90:Int):Rat)= -90 from rfl];grind) h0 (by rw[r90];grind),sof_le (by rw[show((-90:Int):Rat)= -90 from rfl];grind) h1 (by rw[r90];grind)⟩
theorem lat_cos {lat:Rat} (h0: -60≤lat) (h1:lat≤60):1/2≤sof (lat+((90:Int):Rat)):=by
 have a:sof 30=1/2:=by decide+kernel
 rw[←a]
 by_cases h:lat≤0
 ·exact sof_le (by rw[show((-90:Int):Rat)= -90 from rfl];grind) (by rw[r90];grind) (by rw[r90];grind)
 ·have e:=sof_half (lat+((90:Int):Rat))
  rw[show((180:Int):Rat)-(lat+((90:Int):Rat))=90-lat by rw[show((180:Int):Rat)=180 from rfl,r90];grind] at e
  rw[←e]
  exact sof_le (by rw[show((-90:Int):Rat)= -90 from rfl];grind) (by grind) (by rw[r90];grind)
theorem cosa_bd {h:Rat} (h0: -obl≤h) (h1:h≤obl):9/10≤cosa h∧cosa h≤1:=by
 rw[obl_eq] at h0 h1
 have e:=sof_arcv (y:=h) (by grind) (by grind)
 have c:=circ_near (arcv h)
 have n:=(arc_circ (arcv h)).2
 rw[e] at c n
 have b:=sof_bd (arcv h+((90:Int):Rat))
 have p:0≤cosa h:=by
  unfold cosa
  rw[n]
  exact Rat.abs_nonneg
 refine⟨?_,b.2⟩
 unfold cosa at p ⊢
 generalize sof (arcv h+((90:Int):Rat))=x at*
 have k:=abs_two c
 rw[show((1:Int):Rat)/((500:Int):Rat)=1/500 by decide+kernel,Rat.intCast_one] at k
 refine Rat.not_lt.1 fun q=>?_
 have m:=Rat.mul_nonneg (a:=9/10-x) (b:=9/10+x) (by grind) (by grind)
 have m2:=Rat.mul_nonneg (a:=1397/3438-h) (b:=1397/3438+h) (by grind) (by grind)
 grind
theorem hV_bd (t:Rat): -obl≤hV t∧hV t≤obl:=by
 have b:=sof_bd (tropV t)
 unfold hV
 rw[obl_eq]
 constructor <;> grind
def quo (t lat:Rat):Rat:=eV t lat/cosa (hV t)
theorem quo_eq (t lat:Rat):quo t lat=sof lat/sof (lat+((90:Int):Rat))*(hV t/cosa (hV t)):=by
 unfold quo eV
 rw[Rat.div_def,Rat.div_def,Rat.div_def,Rat.div_def];grind
theorem div_le_of {x c b:Rat} (hc:0<c) (h:x≤b*c):x/c≤b:=Rat.not_lt.1 fun q=>by rw[Rat.lt_div_iff hc] at q;grind
theorem le_div_of {x c b:Rat} (hc:0<c) (h:b*c≤x):b≤x/c:=Rat.not_lt.1 fun q=>by rw[Rat.div_lt_iff hc] at q;grind
theorem tan_bd {lat:Rat} (h0: -60≤lat) (h1:lat≤60): -(2978/1719)≤sof lat/sof (lat+((90:Int):Rat))∧sof lat/sof (lat+((90:Int):Rat))≤2978/1719:=by
 have s:=lat_sin h0 h1
 have c:=lat_cos h0 h1
 exact⟨le_div_of (by grind) (by grind),div_le_of (by grind) (by grind)⟩
theorem hc_bd (t:Rat): -(1397/3438*(10/9))≤hV t/cosa (hV t)∧hV t/cosa (hV t)≤1397/3438*(10/9):=by
 have h:=hV_bd t
 have c:=cosa_bd h.1 h.2
 rw[obl_eq] at h
 exact⟨le_div_of (by grind) (by grind),div_le_of (by grind) (by grind)⟩
theorem mul_bd {x y a b:Rat} (ha:0≤a) (hb:0≤b) (x0: -a≤x) (x1:x≤a) (y0: -b≤y) (y1:y≤b): -(a*b)≤x*y∧x*y≤a*b:=by
 have m1:=Rat.mul_nonneg (a:=a-x) (b:=b+y) (by grind) (by grind)
 have m2:=Rat.mul_nonneg (a:=a+x) (b:=b-y) (by grind) (by grind)
 have m3:=Rat.mul_nonneg (a:=a-x) (b:=b-y) (by grind) (by grind)
 have m4:=Rat.mul_nonneg (a:=a+x) (b:=b+y) (by grind) (by grind)
 constructor <;> grind
theorem quo_bd (t:Rat) {lat:Rat} (h0: -60≤lat) (h1:lat≤60): -(79/100)≤quo t lat∧quo t lat≤79/100:=by
 have a:=tan_bd h0 h1
 have b:=hc_bd t
 have m:=mul_bd (by grind) (by grind) a.1 a.2 b.1 b.2
 rw[quo_eq]
 constructor <;> grind
theorem arc_bd {y:Rat} (h0: -(79/100)≤y) (h1:y≤79/100): -53≤arcv y∧arcv y≤53:=by
 have r:=arcv_bd (y:=y) (by grind) (by grind)
 have e:=sof_arcv (y:=y) (by grind) (by grind)
 have a:79/100<sof 53:=by decide+kernel
 have b:sof (-53)< -(79/100):=by decide+kernel
 constructor
 ·refine Rat.not_lt.1 fun q=>?_
  have:=sof_rise r.1 q (by rw[r90];grind)
  grind
 ·refine Rat.not_lt.1 fun q=>?_
  have:=sof_rise (by rw[show((-90:Int):Rat)= -90 from rfl];grind) q r.2
  grind
theorem diff_bd (t:Rat) {lat:Rat} (h0: -60≤lat) (h1:lat≤60): -53≤diffV t lat∧diffV t lat≤53:=by
 have q:=quo_bd t h0 h1
 exact arc_bd (y:= -(quo t lat)) (by grind) (by grind)
def cl15 (k:Int):Int:=max (-15) (min k 15)
def S15 (k:Int):Int:=spk (cl15 k)-131*cl15 k
theorem st15:∀n:Nat,n<30→131≤spk ((n:Int)-15+1)-spk ((n:Int)-15):=by decide+kernel
theorem S15_up (k:Int):S15 k≤S15 (k+1):=by
 unfold S15
 by_cases h: -15≤k∧k<15
 ·have e1:cl15 k=k:=by unfold cl15;omega
  have e2:cl15 (k+1)=k+1:=by unfold cl15;omega
  have:=st15 (k+15).toNat (by omega)
  rw[show(((k+15).toNat :Nat):Int)=k+15 by omega,show k+15-15=k by omega] at this
  rw[e1,e2];omega
 ·have e:cl15 (k+1)=cl15 k:=by unfold cl15;omega
  rw[e];exact Int.le_refl _
theorem S15_lin {y:Rat} (h0:((-15:Int):Rat)≤y) (h1:y≤((15:Int):Rat)):lin S15 y=lin spk y-131*y:=by
 have f0:=fl_ge h0
 have f1:y.floor≤15:=by
  have:=Rat.floor_monotone h1
  rwa[Rat.floor_intCast] at this
 have e1:cl15 y.floor=y.floor:=by unfold cl15;omega
 by_cases h:y.floor<15
 ·have e2:cl15 (y.floor+1)=y.floor+1:=by unfold cl15;omega
  unfold lin S15
  rw[e1,e2]
  simp only [Rat.intCast_sub,Rat.intCast_mul,Rat.intCast_add,Rat.intCast_one]
  rw[show((131:Int):Rat)=131 from rfl]
  grind
 ·have e3:y.floor=15:=by omega
  have e4:y=((15:Int):Rat):=by
   have:=fl_le y;rw[e3] at this;grind
  rw[e4,lin_int,lin_int]
  decide+kernel
theorem lin_steep {y z:Rat} (h0:((-15:Int):Rat)≤y) (h:y≤z) (h1:z≤((15:Int):Rat)):131*(z-y)≤lin spk z-lin spk y:=by
 have:=lin_up S15_up h
 rw[S15_lin h0 (by grind),S15_lin (by grind) h1] at this
 grind
theorem arc_lip2 {y z:Rat} (y0: -(79/100)≤y) (y1:y≤79/100) (z0: -(79/100)≤z) (z1:z≤79/100):(arcv z-arcv y).abs ≤3438*15/524*(z-y).abs :=by
 have key:∀ {y z:Rat}, -(79/100)≤y→y≤z→z≤79/100→0≤arcv z-arcv y∧arcv z-arcv y≤3438*15/524*(z-y):=by
  intro y z y0 h z1
  have a:=arc_bd (y:=y) y0 (by grind)
  have b:=arc_bd (y:=z) (by grind) z1
  have ey:=sof_arcv (y:=y) (by grind) (by grind)
  have ez:=sof_arcv (y:=z) (by grind) (by grind)
  have hp:arcv y≤arcv z:=Rat.not_lt.1 fun q=>by
   have:=sof_rise (by rw[show((-90:Int):Rat)= -90 from rfl];grind) q (by rw[r90];grind)
   grind
  have s:=lin_steep (y:=arcv y/wd) (z:=arcv z/wd) (by rw[wd_eq,show((-15:Int):Rat)= -15 from rfl];grind) (by rw[wd_eq];grind) (by rw[wd_eq,show((15:Int):Rat)=15 from rfl];grind)
  rw[←lin_sof,←lin_sof,ey,ez,c3438,wd_eq] at s
  constructor <;> grind
 rcases Rat.le_total (a:=y) (b:=z) with h|h
 ·have k:=key y0 h z1
  rw[Rat.abs_of_nonneg k.1,Rat.abs_of_nonneg (x:=z-y) (by grind)]
  exact k.2
 ·have k:=key z0 h y1
  rw[Rat.abs_of_nonpos (by grind),Rat.abs_of_nonpos (x:=z-y) (by grind)]
  grind
theorem cosa_lip (t u:Rat):(cosa (hV u)-cosa (hV t)).abs ≤900/524*(hV u-hV t).abs :=by
 have a:=hV_bd t
 have b:=hV_bd u
 rw[obl_eq] at a b
 have l:=arc_lip2 (y:=hV t) (z:=hV u) (by grind) (by grind) (by grind) (by grind)
 have s:=sof_lip (arcv (hV u)+((90:Int):Rat)) (arcv (hV t)+((90:Int):Rat))
 rw[show arcv (hV u)+((90:Int):Rat)-(arcv (hV t)+((90:Int):Rat))=arcv (hV u)-arcv (hV t) by grind,show((60:Int):Rat)/((3438:Int):Rat)=60/3438 by decide+kernel] at s
 unfold cosa
 grind
theorem abs_mul_r (x y:Rat):(x*y).abs =x.abs*y.abs:=by
 rcases Rat.le_total (a:=0) (b:=x) with hx|hx <;> rcases Rat.le_total (a:=0) (b:=y) with hy|hy
 ·rw[Rat.abs_of_nonneg hx,Rat.abs_of_nonneg hy,Rat.abs_of_nonneg (Rat.mul_nonneg hx hy)]
 ·have m:=Rat.mul_nonneg hx (b:= -y) (by grind)
  rw[Rat.abs_of_nonneg hx,Rat.abs_of_nonpos hy,Rat.abs_of_nonpos (by grind)];grind
 ·have m:=Rat.mul_nonneg (a:= -x) (by grind) hy
  rw[Rat.abs_of_nonpos hx,Rat.abs_of_nonneg hy,Rat.abs_of_nonpos (by grind)];grind
 ·have m:=Rat.mul_nonneg (a:= -x) (b:= -y) (by grind) (by grind)
  rw[Rat.abs_of_nonpos hx,Rat.abs_of_nonpos hy,Rat.abs_of_nonneg (by grind)];grind
theorem hc_lip (t u:Rat):(hV u/cosa (hV u)-hV t/cosa (hV t)).abs ≤21/10*(hV u-hV t).abs :=by
 have a:=hV_bd t
 have b:=hV_bd u
 have ct:=cosa_bd a.1 a.2
 have cu:=cosa_bd b.1 b.2
 have l:=cosa_lip t u
 rw[obl_eq] at a b
 generalize cosa (hV u)=p at*
 generalize cosa (hV t)=q at*
 generalize hV u=y at*
 generalize hV t=x at*
 have hp:p≠0:=by grind
 have hq:q≠0:=by grind
 have pq:0<p*q:=Rat.mul_pos (by grind) (by grind)
 have e:y/p-x/q=((y-x)*q-x*(p-q))/(p*q):=by
  rw[Rat.div_def,Rat.div_def,Rat.div_def,Rat.inv_mul_rev]
  grind
 have pq2:81/100≤p*q:=by
  have:=Rat.mul_nonneg (a:=p-9/10) (b:=q-9/10) (by grind) (by grind)
  grind
 have n1:((y-x)*q).abs ≤(y-x).abs :=by
  rw[abs_mul_r,Rat.abs_of_nonneg (x:=q) (by grind)]
  have:=Rat.mul_nonneg (a:=(y-x).abs) (b:=1-q) Rat.abs_nonneg (by grind)
  grind
 have n2:(x*(p-q)).abs ≤1397/3438*(900/524)*(y-x).abs :=by
  rw[abs_mul_r]
  have hx:x.abs≤1397/3438:=abs_le (by grind) (by grind)
  have:=Rat.mul_nonneg (a:=1397/3438-x.abs) (b:=(p-q).abs) (by grind) Rat.abs_nonneg
  grind
 have n:((y-x)*q-x*(p-q)).abs ≤17/10*(y-x).abs :=by
  have k:=le_abs ((y-x)*q)
  have k2:=le_abs (x*(p-q))
  have k3:(0:Rat)≤(y-x).abs :=Rat.abs_nonneg
  exact abs_le (by grind) (by grind)
 have m:=abs_two n
 rw[e]
 have k3:(0:Rat)≤(y-x).abs :=Rat.abs_nonneg
 have w:=Rat.mul_nonneg (a:=(y-x).abs) (b:=p*q-81/100) k3 (by grind)
 exact abs_le (le_div_of pq (by grind)) (div_le_of pq (by grind))
theorem trop_day (t:Rat):(sof (tropV (t+((1:Int):Rat)))-sof (tropV t)).abs ≤60/3438*(104/100):=by
 have s:=sun_day t
 have pr:=abs_two (prec_day t)
 unfold tropV
 rw[sof_rmod,sof_rmod]
 generalize hm:((360:Int):Rat)*(((1:Int):Rat)/pyr)-(sunE (t+((1:Int):Rat))-sunE t)=m at s
 have hu:∃j:Int,sunV (t+((1:Int):Rat))=sunV t+m+((360:Int):Rat)*((j:Int):Rat):=by
  have e:=s.1
  rw[rmod_fl c360_pos] at e
  refine⟨((sunV (t+((1:Int):Rat))-sunV t)/((360:Int):Rat)).floor,?_⟩
  rw[Rat.intCast_neg] at e
  grind
 obtain⟨j,hu⟩:=hu
 have l:=sof_lip (sunV t+m-precV (t+((1:Int):Rat))) (sunV t-precV t)
 rw[hu,show sunV t+m+((360:Int):Rat)*((j:Int):Rat)-precV (t+((1:Int):Rat))=(sunV t+m-precV (t+((1:Int):Rat)))+((360:Int):Rat)*((j:Int):Rat) by grind,sof_turn]
 rw[show((60:Int):Rat)/((3438:Int):Rat)=60/3438 by decide+kernel] at l
 have d:(sunV t+m-precV (t+((1:Int):Rat))-(sunV t-precV t)).abs ≤104/100:=abs_le (by grind) (by grind)
 grind
theorem diff_day (t:Rat) {lat:Rat} (h0: -60≤lat) (h1:lat≤60):(diffV (t+((1:Int):Rat)) lat-diffV t lat).abs ≤27/10:=by
 have d:=trop_day t
 have q:=quo_bd t h0 h1
 have q':=quo_bd (t+((1:Int):Rat)) h0 h1
 have hl:=hc_lip t (t+((1:Int):Rat))
 have ta:=tan_bd h0 h1
 have hh:(hV (t+((1:Int):Rat))-hV t).abs ≤1397/3438*(60/3438*(104/100)):=by
  unfold hV
  rw[show obl*sof (tropV (t+((1:Int):Rat)))-obl*sof (tropV t)=obl*(sof (tropV (t+((1:Int):Rat)))-sof (tropV t)) by grind,abs_mul_r,obl_eq,Rat.abs_of_nonneg (x:=1397/3438) (by grind)]
  grind
 have e:(quo (t+((1:Int):Rat)) lat-quo t lat).abs ≤2978/1719*(21/10*(1397/3438*(60/3438*(104/100)))):=by
  rw[quo_eq,quo_eq,show sof lat/sof (lat+((90:Int):Rat))*(hV (t+((1:Int):Rat))/cosa (hV (t+((1:Int):Rat))))-sof lat/sof (lat+((90:Int):Rat))*(hV t/cosa (hV t))=sof lat/sof (lat+((90:Int):Rat))*(hV (t+((1:Int):Rat))/cosa (hV (t+((1:Int):Rat)))-hV t/cosa (hV t)) by grind,abs_mul_r]
  have ka:(sof lat/sof (lat+((90:Int):Rat))).abs ≤2978/1719:=abs_le ta.1 ta.2
  generalize (sof lat/sof (lat+((90:Int):Rat))).abs =x at*
  have kb:(0:Rat)≤(hV (t+((1:Int):Rat))/cosa (hV (t+((1:Int):Rat)))-hV t/cosa (hV t)).abs :=Rat.abs_nonneg
  generalize (hV (t+((1:Int):Rat))/cosa (hV (t+((1:Int):Rat)))-hV t/cosa (hV t)).abs =y at*
  have m:=Rat.mul_nonneg (a:=2978/1719-x) (b:=y) (by grind) kb
  grind
 have a:=arc_lip2 (y:= -(quo t lat)) (z:= -(quo (t+((1:Int):Rat)) lat)) (by grind) (by grind) (by grind) (by grind)
 rw[show -(quo (t+((1:Int):Rat)) lat)- -(quo t lat)= -(quo (t+((1:Int):Rat)) lat-quo t lat) by grind,show(-(quo (t+((1:Int):Rat)) lat-quo t lat)).abs =(quo (t+((1:Int):Rat)) lat-quo t lat).abs by unfold Rat.abs;split <;> split <;> grind] at a
 show(arcv (-(quo (t+((1:Int):Rat)) lat))-arcv (-(quo t lat))).abs ≤27/10
 grind
def stpV (x:Rat):Int:=spk (pk x+1)-spk (pk x)
def motP (t:Rat):Rat:=((14:Int):Rat)/((360:Int):Rat)-(sof (mof t pay)).abs *(((1:Int):Rat)/((1080:Int):Rat))
def motV (t:Rat):Rat:=((360:Int):Rat)/pyr*(((1:Int):Rat)-((stpV (mof t pay):Int):Rat)/((225:Int):Rat)*motP t)
def risT (k:Int):Int:=if k%6=0∨k%6=5 then 1670 else if k%6=1∨k%6=4 then 1795 else 1935
def risV (t:Rat):Rat:=((risT (prt (tropV t) 12):Int):Rat)/((1800:Int):Rat)
def eqnV (t:Rat):Rat:=motV t*(((1:Int):Rat)/((360:Int):Rat))*(sof (mof t pay)*(((573:Int):Rat)/((10:Int):Rat))*motP t*(((1:Int):Rat)/((360:Int):Rat)))*pyr
def kap:Rat:=((1577917828:Int):Rat)/((1582237828:Int):Rat)*(((1:Int):Rat)/((360:Int):Rat))
def eastV (lon:Rat):Rat:=(((45461:Int):Rat)/((600:Int):Rat)-lon)*(((1:Int):Rat)/((360:Int):Rat))
def bothV (t lat lon:Rat) (qd sg:Int):Rat:=t+((qd:Int):Rat)/((4:Int):Rat)+(eastV lon-eqnV t)+(motV t*risV t*(((qd:Int):Rat)/((4:Int):Rat))+((sg:Int):Rat)*diffV t lat)*kap
def grainV (x:Rat):Rat:=(((x*((1048576:Int):Rat)).floor :Int):Rat)*(((1:Int):Rat)/((1048576:Int):Rat))
theorem grain_bd (x:Rat):x-1/1000000≤grainV x∧grainV x≤x:=by
 have a:=fl_le (x*((1048576:Int):Rat))
 have b:=fl_lt (x*((1048576:Int):Rat))
 unfold grainV
 rw[show((1:Int):Rat)/((1048576:Int):Rat)=1/1048576 by decide+kernel]
 rw[show((1048576:Int):Rat)=1048576 from rfl] at*
 constructor <;> grind
theorem motP_bd (t:Rat):13/360≤motP t∧motP t≤14/360:=by
 have b:=sof_bd (mof t pay)
 have c:(sof (mof t pay)).abs ≤1:=abs_le b.1 b.2
 have d:(0:Rat)≤(sof (mof t pay)).abs :=Rat.abs_nonneg
 unfold motP
 rw[show((14:Int):Rat)/((360:Int):Rat)=14/360 by decide+kernel,show((1:Int):Rat)/((1080:Int):Rat)=1/1080 by decide+kernel]
 constructor <;> grind
theorem stp_bd (x:Rat): -1≤((stpV x:Int):Rat)/((225:Int):Rat)∧((stpV x:Int):Rat)/((225:Int):Rat)≤1:=by
 have s:=sp_step (pk x)
 have a:=cast_le s.1
 have b:=cast_le s.2
 rw[show((-225:Int):Rat)= -225 from rfl] at a
 rw[show((225:Int):Rat)=225 from rfl] at b ⊢
 unfold stpV
 exact⟨le_div_of (by grind) (by grind),div_le_of (by grind) (by grind)⟩
theorem mot_bd (t:Rat):947/1000≤motV t∧motV t≤1025/1000:=by
 have p:=motP_bd t
 have s:=stp_bd (mof t pay)
 have m:=mul_bd (b:=14/360) (a:=1) (x:=((stpV (mof t pay):Int):Rat)/((225:Int):Rat)) (y:=motP t) (by grind) (by grind) s.1 s.2 (by grind) p.2
 have k1:985/1000≤((360:Int):Rat)/pyr:=by decide+kernel
 have k2:986/1000≥((360:Int):Rat)/pyr:=by decide+kernel
 have k3:9856/10000≤((360:Int):Rat)/pyr:=by decide+kernel
 unfold motV
 rw[Rat.intCast_one]
 generalize ((stpV (mof t pay):Int):Rat)/((225:Int):Rat)*motP t=y at*
 generalize ((360:Int):Rat)/pyr=c at*
 have u:=Rat.mul_nonneg (a:=c-9856/10000) (b:=1-y) (by grind) (by grind)
 have v:=Rat.mul_nonneg (a:=986/1000-c) (b:=1-y) (by grind) (by grind)
 constructor <;> grind
theorem ris_bd (t:Rat):1670/1800≤risV t∧risV t≤1935/1800:=by
 have h:1670≤risT (prt (tropV t) 12)∧risT (prt (tropV t) 12)≤1935:=by unfold risT;split <;> (try split) <;> omega
 have a:=cast_le h.1
 have b:=cast_le h.2
 rw[show((1670:Int):Rat)=1670 from rfl] at a
 rw[show((1935:Int):Rat)=1935 from rfl] at b
 unfold risV
 rw[show((1800:Int):Rat)=1800 from rfl]
 exact⟨le_div_of (by grind) (by grind),div_le_of (by grind) (by grind)⟩
theorem side_bd (t:Rat):87/100≤motV t*risV t∧motV t*risV t≤111/100:=by
 have m:=mot_bd t
 have r:=ris_bd t
 have u:=Rat.mul_nonneg (a:=motV t-947/1000) (b:=risV t) (by grind) (by grind)
 have v:=Rat.mul_nonneg (a:=1025/1000-motV t) (b:=risV t) (by grind) (by grind)
 constructor <;> grind
theorem kap_bd:277/100000≤kap∧kap≤27703/10000000:=by decide+kernel
theorem deg_eq (t:Rat):sof (mof t pay)*(((573:Int):Rat)/((10:Int):Rat))*motP t=573/10*epi (sof (mof t pay)) ssz sch:=by
 unfold motP epi
 rw[sz_eq.1,sz_eq.2.1,show((573:Int):Rat)/((10:Int):Rat)=573/10 by decide+kernel,show((14:Int):Rat)/((360:Int):Rat)=7/180 by decide+kernel,show((1:Int):Rat)/((1080:Int):Rat)=1/1080 by decide+kernel]
 grind
theorem eqn_eq (t:Rat):eqnV t=motV t*(epi (sof (mof t pay)) ssz sch*(573/10*(1/360)*(1/360)*pyr)):=by
 unfold eqnV
 rw[deg_eq,show((1:Int):Rat)/((360:Int):Rat)=1/360 by decide+kernel];grind
theorem eqc_bd:16/100≤573/10*(1/360)*(1/360)*pyr∧573/10*(1/360)*(1/360)*pyr≤162/1000:=by decide+kernel
theorem epi_b (t:Rat): -(41/1080)≤epi (sof (mof t pay)) ssz sch∧epi (sof (mof t pay)) ssz sch≤41/1080:=by
 have b:=sof_bd (mof t pay)
 have e:=epi_bd (s:=ssz) (c:=sch) b.1 b.2 (by decide+kernel) (by decide+kernel) (by decide+kernel)
 have k:ssz*(1-sch)=41/1080:=by decide+kernel
 rw[k] at e;exact e
theorem eqn_bd (t:Rat): -(64/10000)≤eqnV t∧eqnV t≤64/10000:=by
 have m:=mot_bd t
 have e:=epi_b t
 have c:=eqc_bd
 have n:=mul_bd (a:=41/1080) (b:=162/1000) (x:=epi (sof (mof t pay)) ssz sch) (y:=573/10*(1/360)*(1/360)*pyr) (by grind) (by grind) e.1 e.2 (by grind) c.2
 have o:=mul_bd (a:=1025/1000) (b:=41/1080*(162/1000)) (x:=motV t) (by grind) (by grind) (by grind) m.2 n.1 n.2
 rw[eqn_eq]
 constructor <;> grind
theorem epi_day (t:Rat):(epi (sof (mof (t+((1:Int):Rat)) pay)) ssz sch-epi (sof (mof t pay)) ssz sch).abs ≤7/180*(60/3438*(986/1000)):=by
 have l:=sof_lip (((360:Int):Rat)*mturn (t+((1:Int):Rat)) pay) (((360:Int):Rat)*mturn t pay)
 rw[←sof_mof pay_pos,←sof_mof pay_pos,mturn_add,show((60:Int):Rat)/((3438:Int):Rat)=60/3438 by decide+kernel] at l
 have d:(((360:Int):Rat)*(mturn t pay+((1:Int):Rat)/pay)-((360:Int):Rat)*mturn t pay).abs ≤986/1000:=by
  rw[show((360:Int):Rat)*(mturn t pay+((1:Int):Rat)/pay)-((360:Int):Rat)*mturn t pay=((360:Int):Rat)*(((1:Int):Rat)/pay) by grind]
  decide+kernel
 have bt:=sof_bd (mof t pay)
 have bu:=sof_bd (mof (t+((1:Int):Rat)) pay)
 have s1:=sz_eq.1
 have s2:=sz_eq.2.1
 generalize sof (mof (t+((1:Int):Rat)) pay)=b at*
 generalize sof (mof t pay)=x at*
 have n:(b-x).abs ≤60/3438*(986/1000):=by grind
 rcases Rat.le_total (a:=x) (b:=b) with h|h
 ·have e:=epi_lip (s:=ssz) (c:=sch) bt.1 bu.2 h (by decide+kernel) (by decide+kernel) (by decide+kernel)
  rw[Rat.abs_of_nonneg (x:=b-x) (by grind)] at n
  rw[Rat.abs_of_nonneg e.1]
  rw[s1] at e ⊢
  grind
 ·have e:=epi_lip (s:=ssz) (c:=sch) bu.1 bt.2 h (by decide+kernel) (by decide+kernel) (by decide+kernel)
  rw[Rat.abs_of_nonpos (x:=b-x) (by grind)] at n
  rw[Rat.abs_of_nonpos (by grind)]
  rw[s1] at e ⊢
  grind
theorem eqn_day (t:Rat):(eqnV (t+((1:Int):Rat))-eqnV t).abs ≤1/1000:=by
 have m:=mot_bd t
 have m':=mot_bd (t+((1:Int):Rat))
 have e:=epi_b t
 have d:=abs_two (epi_day t)
 have c:=eqc_bd
 rw[eqn_eq,eqn_eq]
 generalize epi (sof (mof (t+((1:Int):Rat)) pay)) ssz sch=b at*
 generalize epi (sof (mof t pay)) ssz sch=x at*
 generalize motV (t+((1:Int):Rat))=n at*
 generalize motV t=o at*
 generalize 573/10*(1/360)*(1/360)*pyr=k at*
 have u:=mul_bd (a:=1025/1000) (b:=7/180*(60/3438*(986/1000))) (x:=n) (y:=b-x) (by grind) (by grind) (by grind) (by grind) (by grind) (by grind)
 have v:=mul_bd (a:=78/1000) (b:=41/1080) (x:=n-o) (y:=x) (by grind) (by grind) (by grind) (by grind) e.1 e.2
 have q:=mul_bd (a:=1025/1000*(7/180*(60/3438*(986/1000)))+78/1000*(41/1080)) (b:=162/1000) (x:=n*(b-x)+(n-o)*x) (y:=k) (by grind) (by grind) (by grind) (by grind) (by grind) (by grind)
 rw[show n*(b*k)-o*(x*k)=(n*(b-x)+(n-o)*x)*k by grind]
 exact abs_le (by grind) (by grind)
theorem rise_long (t:Rat) {lat:Rat} (lon:Rat) (h0: -60≤lat) (h1:lat≤60):985/1000≤bothV (t+((1:Int):Rat)) lat lon 1 1-bothV t lat lon 1 1∧bothV (t+((1:Int):Rat)) lat lon 1 1-bothV t lat lon 1 1≤1015/1000:=by
 have e:=abs_two (eqn_day t)
 have d:=abs_two (diff_day t h0 h1)
 have s:=side_bd t
 have s':=side_bd (t+((1:Int):Rat))
 have k:=kap_bd
 unfold bothV
 rw[show((1:Int):Rat)/((4:Int):Rat)=1/4 by decide+kernel,Rat.intCast_one] at*
 generalize diffV (t+1) lat=d2 at*
 generalize diffV t lat=d1 at*
 generalize motV (t+1)*risV (t+1)=s2 at*
 generalize motV t*risV t=s1 at*
 generalize eqnV (t+1)=e2 at*
 generalize eqnV t=e1 at*
 have m:=mul_bd (a:=1/4*(111/100-87/100)+27/10) (b:=27703/10000000) (x:=(s2*(1/4)+1*d2)-(s1*(1/4)+1*d1)) (y:=kap) (by grind) (by grind) (by grind) (by grind) (by grind) k.2
 constructor <;> grind
theorem rise_light (t:Rat) {lat:Rat} (lon:Rat) (h0: -60≤lat) (h1:lat≤60):204/1000≤bothV t lat lon 3 (-1)-bothV t lat lon 1 1∧bothV t lat lon 3 (-1)-bothV t lat lon 1 1≤796/1000:=by
 have d:=diff_bd t h0 h1
 have s:=side_bd t
 have k:=kap_bd
 unfold bothV
 rw[show((1:Int):Rat)/((4:Int):Rat)=1/4 by decide+kernel,show((3:Int):Rat)/((4:Int):Rat)=3/4 by decide+kernel,Rat.intCast_one,show((-1:Int):Rat)= -1 from rfl]
 generalize diffV t lat=d1 at*
 generalize motV t*risV t=s1 at*
 have m:=mul_bd (a:=106+1/2*(111/100)) (b:=27703/10000000) (x:=s1*(1/2)-2*d1) (y:=kap) (by grind) (by grind) (by grind) (by grind) (by grind) k.2
 constructor <;> grind
end Go.Proofs.YtnljadejcfgmaaaGreatDoor
