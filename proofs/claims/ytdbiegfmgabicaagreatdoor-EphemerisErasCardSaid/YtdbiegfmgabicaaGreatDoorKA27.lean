import Derived.Test.YtdbiegfmgabicaaGreatDoorKA26
namespace Go.Proofs.YtdbiegfmgabicaaGreatDoor
open Go.RowKit
set_option maxRecDepth 100000
set_option linter.unusedVariables false
set_option maxHeartbeats 8000000
def kli:Rat:=((-1132959:Int):Rat)
def ji (t:Rat):Rat:=(t-kli)*(((600:Int):Rat)/((1577917828:Int):Rat))-((1:Int):Rat)/((4:Int):Rat)
def Ab (t:Rat):Rat:=dC (ji t) (((-1:Int):Rat)/((2:Int):Rat)) (((1:Int):Rat)/((2:Int):Rat))
def fP (t:Rat):Rat:=((27:Int):Rat)-((108:Int):Rat)*(Ab t).abs
def cg (t:Rat):Rat:=rmod (dz t-fP t) ((360:Int):Rat)
def obl:Rat:=((1397:Int):Rat)/((3438:Int):Rat)
def hV (t:Rat):Rat:=obl*sof (cg t)
def dZ (h:Rat):Rat:=sof (bK h+((90:Int):Rat))
def eV (t lat:Rat):Rat:=hV t*sof lat/sof (lat+((90:Int):Rat))
def fO (t lat:Rat):Rat:=bK (-(eV t lat/dZ (hV t)))
theorem kG:obl=1397/3438:=by decide+kernel
theorem r90:((90:Int):Rat)=90:=rfl
theorem pI:(((-1:Int):Rat)/((2:Int):Rat))= -1/2∧(((1:Int):Rat)/((2:Int):Rat))=1/2:=by decide+kernel
theorem F4 (y:Rat) (m:Int):(dC y (-1/2) (1/2)).abs ≤(y-((m:Int):Rat)).abs :=by
 have l:=Ck (x:=y) (a:= -1/2) (b:=1/2) (by grind)
 have u:=z9 (x:=y) (a:= -1/2) (b:=1/2) (by grind)
 obtain⟨n,e⟩:∃n:Int,dC y (-1/2) (1/2)=y-((n:Int):Rat):=by
  refine⟨((y- -1/2)/(1/2- -1/2)).floor,?_⟩
  unfold dC
  rw[if_neg (by grind)]
  unfold rmod
  rw[if_neg (by grind)]
  grind
 rw[e] at l u ⊢
 have h:m=n∨m≤n-1∨n+1≤m:=by omega
 rcases h with h|h|h
 ·rw[h];exact Rat.le_refl
 ·have:=cE h
  rw[Rat.intCast_sub,Rat.intCast_one] at this
  unfold Rat.abs;split <;> split <;> grind
 ·have:=cE h
  rw[Rat.intCast_add,Rat.intCast_one] at this
  unfold Rat.abs;split <;> split <;> grind
theorem zm (y d:Rat):(dC (y+d) (-1/2) (1/2)).abs ≤(dC y (-1/2) (1/2)).abs +d.abs:=by
 obtain⟨n,e⟩:∃n:Int,dC y (-1/2) (1/2)=y-((n:Int):Rat):=by
  refine⟨((y- -1/2)/(1/2- -1/2)).floor,?_⟩
  unfold dC
  rw[if_neg (by grind)]
  unfold rmod
  rw[if_neg (by grind)]
  grind
 have h:=F4 (y+d) n
 have g:(y+d-((n:Int):Rat)).abs ≤(y-((n:Int):Rat)).abs +d.abs:=by
  unfold Rat.abs;split <;> split <;> split <;> grind
 rw[e];grind
theorem El (t:Rat):(fP (t+((1:Int):Rat))-fP t).abs ≤1/1000:=by
 have e:ji (t+((1:Int):Rat))=ji t+((600:Int):Rat)/((1577917828:Int):Rat):=by unfold ji;rw[Rat.intCast_one];grind
 have e':ji t=ji (t+((1:Int):Rat))+ -(((600:Int):Rat)/((1577917828:Int):Rat)):=by rw[e];grind
 have k:(((600:Int):Rat)/((1577917828:Int):Rat)).abs ≤1/200000:=by decide+kernel
 have k':(-(((600:Int):Rat)/((1577917828:Int):Rat))).abs ≤1/200000:=by decide+kernel
 have a:=zm (ji t) (((600:Int):Rat)/((1577917828:Int):Rat))
 have b:=zm (ji (t+((1:Int):Rat))) (-(((600:Int):Rat)/((1577917828:Int):Rat)))
 rw[←e] at a
 rw[←e'] at b
 unfold fP Ab
 rw[pI.1,pI.2,show((108:Int):Rat)=108 from rfl,show((27:Int):Rat)=27 from rfl]
 exact gR (by grind) (by grind)
theorem rN {p q:Rat} (h1:((-90:Int):Rat)≤p) (h2:p≤q) (h3:q≤((90:Int):Rat)):sof p≤sof q:=by
 by_cases e:p=q
 ·rw[e];exact Rat.le_refl
 ·exact Rat.le_of_lt (nv h1 (by grind) h3)
theorem wU (x:Rat):sof (rmod x ((360:Int):Rat))=sof x:=by rw[iq bC,nF]
theorem zu {y:Rat} (h0: -1≤y) (h1:y≤1):((-90:Int):Rat)≤bK y∧bK y≤((90:Int):Rat):=by
 have h:=Am (h:=y*((3438:Int):Rat)) (by rw[eM,show((-3438:Int):Rat)= -3438 from rfl];grind) (by rw[eM];grind)
 unfold bK
 rw[eG,r90,show((-90:Int):Rat)= -90 from rfl]
 have a:=h.1
 have b:=h.2.1
 rw[show((-24:Int):Rat)= -24 from rfl] at a
 rw[show((24:Int):Rat)=24 from rfl] at b
 constructor <;> grind
theorem mM {y:Rat} (h0: -1≤y) (h1:y≤1):sof (bK y)=y:=zk h0 h1
theorem Ja {lat:Rat} (h0: -60≤lat) (h1:lat≤60): -(2978/3438)≤sof lat∧sof lat≤2978/3438:=by
 have a:sof 60=2978/3438:=by decide+kernel
 have b:sof (-60)= -(2978/3438):=by decide+kernel
 rw[←a]
 have b': -sof 60=sof (-60):=by rw[a,b]
 rw[b']
 exact⟨rN (by rw[show((-90:Int):Rat)= -90 from rfl];grind) h0 (by rw[r90];grind),rN (by rw[show((-90:Int):Rat)= -90 from rfl];grind) h1 (by rw[r90];grind)⟩
theorem JK {lat:Rat} (h0: -60≤lat) (h1:lat≤60):1/2≤sof (lat+((90:Int):Rat)):=by
 have a:sof 30=1/2:=by decide+kernel
 rw[←a]
 by_cases h:lat≤0
 ·exact rN (by rw[show((-90:Int):Rat)= -90 from rfl];grind) (by rw[r90];grind) (by rw[r90];grind)
 ·have e:=Fl (lat+((90:Int):Rat))
  rw[show((180:Int):Rat)-(lat+((90:Int):Rat))=90-lat by rw[show((180:Int):Rat)=180 from rfl,r90];grind] at e
  rw[←e]
  exact rN (by rw[show((-90:Int):Rat)= -90 from rfl];grind) (by grind) (by rw[r90];grind)
theorem sN {h:Rat} (h0: -obl≤h) (h1:h≤obl):9/10≤dZ h∧dZ h≤1:=by
 rw[kG] at h0 h1
 have e:=mM (y:=h) (by grind) (by grind)
 have c:=CJ (bK h)
 have n:=(FV (bK h)).2
 rw[e] at c n
 have b:=fY (bK h+((90:Int):Rat))
 have p:0≤dZ h:=by
  unfold dZ
  rw[n]
  exact Rat.abs_nonneg
 refine⟨?_,b.2⟩
 unfold dZ at p ⊢
 generalize sof (bK h+((90:Int):Rat))=x at*
 have k:=cP c
 rw[show((1:Int):Rat)/((500:Int):Rat)=1/500 by decide+kernel,Rat.intCast_one] at k
 refine Rat.not_lt.1 fun q=>?_
 have m:=Rat.mul_nonneg (a:=9/10-x) (b:=9/10+x) (by grind) (by grind)
 have m2:=Rat.mul_nonneg (a:=1397/3438-h) (b:=1397/3438+h) (by grind) (by grind)
 grind
theorem pp (t:Rat): -obl≤hV t∧hV t≤obl:=by
 have b:=fY (cg t)
 unfold hV
 rw[kG]
 constructor <;> grind
def quo (t lat:Rat):Rat:=eV t lat/dZ (hV t)
theorem vm (t lat:Rat):quo t lat=sof lat/sof (lat+((90:Int):Rat))*(hV t/dZ (hV t)):=by
 unfold quo eV
 rw[Rat.div_def,Rat.div_def,Rat.div_def,Rat.div_def];grind
theorem jT {x c b:Rat} (hc:0<c) (h:x≤b*c):x/c≤b:=Rat.not_lt.1 fun q=>by rw[Rat.lt_div_iff hc] at q;grind
theorem jZ {x c b:Rat} (hc:0<c) (h:b*c≤x):b≤x/c:=Rat.not_lt.1 fun q=>by rw[Rat.div_lt_iff hc] at q;grind
theorem Bk {lat:Rat} (h0: -60≤lat) (h1:lat≤60): -(2978/1719)≤sof lat/sof (lat+((90:Int):Rat))∧sof lat/sof (lat+((90:Int):Rat))≤2978/1719:=by
 have s:=Ja h0 h1
 have c:=JK h0 h1
 exact⟨jZ (by grind) (by grind),jT (by grind) (by grind)⟩
theorem MY (t:Rat): -(1397/3438*(10/9))≤hV t/dZ (hV t)∧hV t/dZ (hV t)≤1397/3438*(10/9):=by
 have h:=pp t
 have c:=sN h.1 h.2
 rw[kG] at h
 exact⟨jZ (by grind) (by grind),jT (by grind) (by grind)⟩
theorem fE {x y a b:Rat} (ha:0≤a) (hb:0≤b) (x0: -a≤x) (x1:x≤a) (y0: -b≤y) (y1:y≤b): -(a*b)≤x*y∧x*y≤a*b:=by
 have m1:=Rat.mul_nonneg (a:=a-x) (b:=b+y) (by grind) (by grind)
 have m2:=Rat.mul_nonneg (a:=a+x) (b:=b-y) (by grind) (by grind)
 have m3:=Rat.mul_nonneg (a:=a-x) (b:=b-y) (by grind) (by grind)
 have m4:=Rat.mul_nonneg (a:=a+x) (b:=b+y) (by grind) (by grind)
 constructor <;> grind
theorem ro (t:Rat) {lat:Rat} (h0: -60≤lat) (h1:lat≤60): -(79/100)≤quo t lat∧quo t lat≤79/100:=by
 have a:=Bk h0 h1
 have b:=MY t
 have m:=fE (by grind) (by grind) a.1 a.2 b.1 b.2
 rw[vm]
 constructor <;> grind
theorem vn {y:Rat} (h0: -(79/100)≤y) (h1:y≤79/100): -53≤bK y∧bK y≤53:=by
 have r:=zu (y:=y) (by grind) (by grind)
 have e:=mM (y:=y) (by grind) (by grind)
 have a:79/100<sof 53:=by decide+kernel
 have b:sof (-53)< -(79/100):=by decide+kernel
 constructor
 ·refine Rat.not_lt.1 fun q=>?_
  have:=nv r.1 q (by rw[r90];grind)
  grind
 ·refine Rat.not_lt.1 fun q=>?_
  have:=nv (by rw[show((-90:Int):Rat)= -90 from rfl];grind) q r.2
  grind
theorem mI (t:Rat) {lat:Rat} (h0: -60≤lat) (h1:lat≤60): -53≤fO t lat∧fO t lat≤53:=by
 have q:=ro t h0 h1
 exact vn (y:= -(quo t lat)) (by grind) (by grind)
def jt (k:Int):Int:=max (-15) (min k 15)
def S15 (k:Int):Int:=spk (jt k)-131*jt k
theorem NQ:∀n:Nat,n<30→131≤spk ((n:Int)-15+1)-spk ((n:Int)-15):=by decide+kernel
theorem Kn (k:Int):S15 k≤S15 (k+1):=by
 unfold S15
 by_cases h: -15≤k∧k<15
 ·have e1:jt k=k:=by unfold jt;omega
  have e2:jt (k+1)=k+1:=by unfold jt;omega
  have:=NQ (k+15).toNat (by omega)
  rw[show(((k+15).toNat :Nat):Int)=k+15 by omega,show k+15-15=k by omega] at this
  rw[e1,e2];omega
 ·have e:jt (k+1)=jt k:=by unfold jt;omega
  rw[e];exact Int.le_refl _
theorem zy {y:Rat} (h0:((-15:Int):Rat)≤y) (h1:y≤((15:Int):Rat)):lin S15 y=lin spk y-131*y:=by
 have f0:=GU h0
 have f1:y.floor≤15:=by
  have:=Rat.floor_monotone h1
  rwa[Rat.floor_intCast] at this
 have e1:jt y.floor=y.floor:=by unfold jt;omega
 by_cases h:y.floor<15
 ·have e2:jt (y.floor+1)=y.floor+1:=by unfold jt;omega
  unfold lin S15
  rw[e1,e2]
  simp only [Rat.intCast_sub,Rat.intCast_mul,Rat.intCast_add,Rat.intCast_one]
  rw[show((131:Int):Rat)=131 from rfl]
  grind
 ·have e3:y.floor=15:=by omega
  have e4:y=((15:Int):Rat):=by
   have:=eN y;rw[e3] at this;grind
  rw[e4,ip,ip]
  decide+kernel
theorem Bs {y z:Rat} (h0:((-15:Int):Rat)≤y) (h:y≤z) (h1:z≤((15:Int):Rat)):131*(z-y)≤lin spk z-lin spk y:=by
 have:=vg Kn h
 rw[zy h0 (by grind),zy (by grind) h1] at this
 grind
theorem v7 {y z:Rat} (y0: -(79/100)≤y) (y1:y≤79/100) (z0: -(79/100)≤z) (z1:z≤79/100):(bK z-bK y).abs ≤3438*15/524*(z-y).abs :=by
 have key:∀ {y z:Rat}, -(79/100)≤y→y≤z→z≤79/100→0≤bK z-bK y∧bK z-bK y≤3438*15/524*(z-y):=by
  intro y z y0 h z1
  have a:=vn (y:=y) y0 (by grind)
  have b:=vn (y:=z) (by grind) z1
  have ey:=mM (y:=y) (by grind) (by grind)
  have ez:=mM (y:=z) (by grind) (by grind)
  have hp:bK y≤bK z:=Rat.not_lt.1 fun q=>by
   have:=nv (by rw[show((-90:Int):Rat)= -90 from rfl];grind) q (by rw[r90];grind)
   grind
  have s:=Bs (y:=bK y/wd) (z:=bK z/wd) (by rw[eG,show((-15:Int):Rat)= -15 from rfl];grind) (by rw[eG];grind) (by rw[eG,show((15:Int):Rat)=15 from rfl];grind)
  rw[←ik,←ik,ey,ez,eM,eG] at s
  constructor <;> grind
 rcases Rat.le_total (a:=y) (b:=z) with h|h
 ·have k:=key y0 h z1
  rw[Rat.abs_of_nonneg k.1,Rat.abs_of_nonneg (x:=z-y) (by grind)]
  exact k.2
 ·have k:=key z0 h y1
  rw[Rat.abs_of_nonpos (by grind),Rat.abs_of_nonpos (x:=z-y) (by grind)]
  grind
theorem FY (t u:Rat):(dZ (hV u)-dZ (hV t)).abs ≤900/524*(hV u-hV t).abs :=by
 have a:=pp t
 have b:=pp u
 rw[kG] at a b
 have l:=v7 (y:=hV t) (z:=hV u) (by grind) (by grind) (by grind) (by grind)
 have s:=pK (bK (hV u)+((90:Int):Rat)) (bK (hV t)+((90:Int):Rat))
 rw[show bK (hV u)+((90:Int):Rat)-(bK (hV t)+((90:Int):Rat))=bK (hV u)-bK (hV t) by grind,show((60:Int):Rat)/((3438:Int):Rat)=60/3438 by decide+kernel] at s
 unfold dZ
 grind
theorem lL (x y:Rat):(x*y).abs =x.abs*y.abs:=by
 rcases Rat.le_total (a:=0) (b:=x) with hx|hx <;> rcases Rat.le_total (a:=0) (b:=y) with hy|hy
 ·rw[Rat.abs_of_nonneg hx,Rat.abs_of_nonneg hy,Rat.abs_of_nonneg (Rat.mul_nonneg hx hy)]
 ·have m:=Rat.mul_nonneg hx (b:= -y) (by grind)
  rw[Rat.abs_of_nonneg hx,Rat.abs_of_nonpos hy,Rat.abs_of_nonpos (by grind)];grind
 ·have m:=Rat.mul_nonneg (a:= -x) (by grind) hy
  rw[Rat.abs_of_nonpos hx,Rat.abs_of_nonneg hy,Rat.abs_of_nonpos (by grind)];grind
 ·have m:=Rat.mul_nonneg (a:= -x) (b:= -y) (by grind) (by grind)
  rw[Rat.abs_of_nonpos hx,Rat.abs_of_nonpos hy,Rat.abs_of_nonneg (by grind)];grind
theorem Lr (t u:Rat):(hV u/dZ (hV u)-hV t/dZ (hV t)).abs ≤21/10*(hV u-hV t).abs :=by
 have a:=pp t
 have b:=pp u
 have ct:=sN a.1 a.2
 have cu:=sN b.1 b.2
 have l:=FY t u
 rw[kG] at a b
 generalize dZ (hV u)=p at*
 generalize dZ (hV t)=q at*
 generalize hV u=y at*
 generalize hV t=x at*
 have hp:p≠0:=by grind
 have hq:q≠0:=by grind
 have pq:0<p*q:=Rat.mul_pos (by grind) (by grind)
 have e:y/p-x/q=((y-x)*q-x*(p-q))/(p*q):=by
  rw[Rat.div_def,Rat.div_def,Rat.div_def,Rat.inv_mul_rev]
  grind
 have pq2:81/100≤p*q:=by
  have:=Rat.mul_nonneg (a:=p-9/10) (b:=q-9/10) (by grind) (by grind)
  grind
 have n1:((y-x)*q).abs ≤(y-x).abs :=by
  rw[lL,Rat.abs_of_nonneg (x:=q) (by grind)]
  have:=Rat.mul_nonneg (a:=(y-x).abs) (b:=1-q) Rat.abs_nonneg (by grind)
  grind
 have n2:(x*(p-q)).abs ≤1397/3438*(900/524)*(y-x).abs :=by
  rw[lL]
  have hx:x.abs≤1397/3438:=gR (by grind) (by grind)
  have:=Rat.mul_nonneg (a:=1397/3438-x.abs) (b:=(p-q).abs) (by grind) Rat.abs_nonneg
  grind
 have n:((y-x)*q-x*(p-q)).abs ≤17/10*(y-x).abs :=by
  have k:=rK ((y-x)*q)
  have k2:=rK (x*(p-q))
  have k3:(0:Rat)≤(y-x).abs :=Rat.abs_nonneg
  exact gR (by grind) (by grind)
 have m:=cP n
 rw[e]
 have k3:(0:Rat)≤(y-x).abs :=Rat.abs_nonneg
 have w:=Rat.mul_nonneg (a:=(y-x).abs) (b:=p*q-81/100) k3 (by grind)
 exact gR (jZ pq (by grind)) (jT pq (by grind))
theorem F5 (t:Rat):(sof (cg (t+((1:Int):Rat)))-sof (cg t)).abs ≤60/3438*(104/100):=by
 have s:=IX t
 have pr:=cP (El t)
 unfold cg
 rw[wU,wU]
 generalize hm:((360:Int):Rat)*(((1:Int):Rat)/pyr)-(dG (t+((1:Int):Rat))-dG t)=m at s
 have hu:∃j:Int,dz (t+((1:Int):Rat))=dz t+m+((360:Int):Rat)*((j:Int):Rat):=by
  have e:=s.1
  rw[iq bC] at e
  refine⟨((dz (t+((1:Int):Rat))-dz t)/((360:Int):Rat)).floor,?_⟩
  rw[Rat.intCast_neg] at e
  grind
 obtain⟨j,hu⟩:=hu
 have l:=pK (dz t+m-fP (t+((1:Int):Rat))) (dz t-fP t)
 rw[hu,show dz t+m+((360:Int):Rat)*((j:Int):Rat)-fP (t+((1:Int):Rat))=(dz t+m-fP (t+((1:Int):Rat)))+((360:Int):Rat)*((j:Int):Rat) by grind,nF]
 rw[show((60:Int):Rat)/((3438:Int):Rat)=60/3438 by decide+kernel] at l
 have d:(dz t+m-fP (t+((1:Int):Rat))-(dz t-fP t)).abs ≤104/100:=gR (by grind) (by grind)
 grind
theorem wT (t:Rat) {lat:Rat} (h0: -60≤lat) (h1:lat≤60):(fO (t+((1:Int):Rat)) lat-fO t lat).abs ≤27/10:=by
 have d:=F5 t
 have q:=ro t h0 h1
 have q':=ro (t+((1:Int):Rat)) h0 h1
 have hl:=Lr t (t+((1:Int):Rat))
 have ta:=Bk h0 h1
 have hh:(hV (t+((1:Int):Rat))-hV t).abs ≤1397/3438*(60/3438*(104/100)):=by
  unfold hV
  rw[show obl*sof (cg (t+((1:Int):Rat)))-obl*sof (cg t)=obl*(sof (cg (t+((1:Int):Rat)))-sof (cg t)) by grind,lL,kG,Rat.abs_of_nonneg (x:=1397/3438) (by grind)]
  grind
 have e:(quo (t+((1:Int):Rat)) lat-quo t lat).abs ≤2978/1719*(21/10*(1397/3438*(60/3438*(104/100)))):=by
  rw[vm,vm,show sof lat/sof (lat+((90:Int):Rat))*(hV (t+((1:Int):Rat))/dZ (hV (t+((1:Int):Rat))))-sof lat/sof (lat+((90:Int):Rat))*(hV t/dZ (hV t))=sof lat/sof (lat+((90:Int):Rat))*(hV (t+((1:Int):Rat))/dZ (hV (t+((1:Int):Rat)))-hV t/dZ (hV t)) by grind,lL]
  have ka:(sof lat/sof (lat+((90:Int):Rat))).abs ≤2978/1719:=gR ta.1 ta.2
  generalize (sof lat/sof (lat+((90:Int):Rat))).abs =x at*
  have kb:(0:Rat)≤(hV (t+((1:Int):Rat))/dZ (hV (t+((1:Int):Rat)))-hV t/dZ (hV t)).abs :=Rat.abs_nonneg
  generalize (hV (t+((1:Int):Rat))/dZ (hV (t+((1:Int):Rat)))-hV t/dZ (hV t)).abs =y at*
  have m:=Rat.mul_nonneg (a:=2978/1719-x) (b:=y) (by grind) kb
  grind
 have a:=v7 (y:= -(quo t lat)) (z:= -(quo (t+((1:Int):Rat)) lat)) (by grind) (by grind) (by grind) (by grind)
 rw[show -(quo (t+((1:Int):Rat)) lat)- -(quo t lat)= -(quo (t+((1:Int):Rat)) lat-quo t lat) by grind,show(-(quo (t+((1:Int):Rat)) lat-quo t lat)).abs =(quo (t+((1:Int):Rat)) lat-quo t lat).abs by unfold Rat.abs;split <;> split <;> grind] at a
 show(bK (-(quo (t+((1:Int):Rat)) lat))-bK (-(quo t lat))).abs ≤27/10
 grind
def k6 (x:Rat):Int:=spk (pk x+1)-spk (pk x)
def lS (t:Rat):Rat:=((14:Int):Rat)/((360:Int):Rat)-(sof (mof t pay)).abs *(((1:Int):Rat)/((1080:Int):Rat))
def eR (t:Rat):Rat:=((360:Int):Rat)/pyr*(((1:Int):Rat)-((k6 (mof t pay):Int):Rat)/((225:Int):Rat)*lS t)
def gN (k:Int):Int:=if k%6=0∨k%6=5 then 1670 else if k%6=1∨k%6=4 then 1795 else 1935
def gO (t:Rat):Rat:=((gN (prt (cg t) 12):Int):Rat)/((1800:Int):Rat)
def gM (t:Rat):Rat:=eR t*(((1:Int):Rat)/((360:Int):Rat))*(sof (mof t pay)*(((573:Int):Rat)/((10:Int):Rat))*lS t*(((1:Int):Rat)/((360:Int):Rat)))*pyr
def kap:Rat:=((1577917828:Int):Rat)/((1582237828:Int):Rat)*(((1:Int):Rat)/((360:Int):Rat))
def kl (lon:Rat):Rat:=(((45461:Int):Rat)/((600:Int):Rat)-lon)*(((1:Int):Rat)/((360:Int):Rat))
def co (t lat lon:Rat) (qd sg:Int):Rat:=t+((qd:Int):Rat)/((4:Int):Rat)+(kl lon-gM t)+(eR t*gO t*(((qd:Int):Rat)/((4:Int):Rat))+((sg:Int):Rat)*fO t lat)*kap
def bX (x:Rat):Rat:=(((x*((1048576:Int):Rat)).floor :Int):Rat)*(((1:Int):Rat)/((1048576:Int):Rat))
theorem cS (x:Rat):x-1/1000000≤bX x∧bX x≤x:=by
 have a:=eN (x*((1048576:Int):Rat))
 have b:=fD (x*((1048576:Int):Rat))
 unfold bX
 rw[show((1:Int):Rat)/((1048576:Int):Rat)=1/1048576 by decide+kernel]
 rw[show((1048576:Int):Rat)=1048576 from rfl] at*
 constructor <;> grind
theorem IY (t:Rat):13/360≤lS t∧lS t≤14/360:=by
 have b:=fY (mof t pay)
 have c:(sof (mof t pay)).abs ≤1:=gR b.1 b.2
 have d:(0:Rat)≤(sof (mof t pay)).abs :=Rat.abs_nonneg
 unfold lS
 rw[show((14:Int):Rat)/((360:Int):Rat)=14/360 by decide+kernel,show((1:Int):Rat)/((1080:Int):Rat)=1/1080 by decide+kernel]
 constructor <;> grind
theorem Kt (x:Rat): -1≤((k6 x:Int):Rat)/((225:Int):Rat)∧((k6 x:Int):Rat)/((225:Int):Rat)≤1:=by
 have s:=ic (pk x)
 have a:=cE s.1
 have b:=cE s.2
 rw[show((-225:Int):Rat)= -225 from rfl] at a
 rw[show((225:Int):Rat)=225 from rfl] at b ⊢
 unfold k6
 exact⟨jZ (by grind) (by grind),jT (by grind) (by grind)⟩
theorem ru (t:Rat):947/1000≤eR t∧eR t≤1025/1000:=by
 have p:=IY t
 have s:=Kt (mof t pay)
 have m:=fE (b:=14/360) (a:=1) (x:=((k6 (mof t pay):Int):Rat)/((225:Int):Rat)) (y:=lS t) (by grind) (by grind) s.1 s.2 (by grind) p.2
 have k1:985/1000≤((360:Int):Rat)/pyr:=by decide+kernel
 have k2:986/1000≥((360:Int):Rat)/pyr:=by decide+kernel
 have k3:9856/10000≤((360:Int):Rat)/pyr:=by decide+kernel
 unfold eR
 rw[Rat.intCast_one]
 generalize ((k6 (mof t pay):Int):Rat)/((225:Int):Rat)*lS t=y at*
 generalize ((360:Int):Rat)/pyr=c at*
 have u:=Rat.mul_nonneg (a:=c-9856/10000) (b:=1-y) (by grind) (by grind)
 have v:=Rat.mul_nonneg (a:=986/1000-c) (b:=1-y) (by grind) (by grind)
 constructor <;> grind
theorem KG (t:Rat):1670/1800≤gO t∧gO t≤1935/1800:=by
 have h:1670≤gN (prt (cg t) 12)∧gN (prt (cg t) 12)≤1935:=by unfold gN;split <;> (try split) <;> omega
 have a:=cE h.1
 have b:=cE h.2
 rw[show((1670:Int):Rat)=1670 from rfl] at a
 rw[show((1935:Int):Rat)=1935 from rfl] at b
 unfold gO
 rw[show((1800:Int):Rat)=1800 from rfl]
 exact⟨jZ (by grind) (by grind),jT (by grind) (by grind)⟩
theorem il (t:Rat):87/100≤eR t*gO t∧eR t*gO t≤111/100:=by
 have m:=ru t
 have r:=KG t
 have u:=Rat.mul_nonneg (a:=eR t-947/1000) (b:=gO t) (by grind) (by grind)
 have v:=Rat.mul_nonneg (a:=1025/1000-eR t) (b:=gO t) (by grind) (by grind)
 constructor <;> grind
theorem nT:277/100000≤kap∧kap≤27703/10000000:=by decide+kernel
theorem Lh (t:Rat):sof (mof t pay)*(((573:Int):Rat)/((10:Int):Rat))*lS t=573/10*epi (sof (mof t pay)) ssz sch:=by
 unfold lS epi
 rw[uE.1,uE.2.1,show((573:Int):Rat)/((10:Int):Rat)=573/10 by decide+kernel,show((14:Int):Rat)/((360:Int):Rat)=7/180 by decide+kernel,show((1:Int):Rat)/((1080:Int):Rat)=1/1080 by decide+kernel]
 grind
theorem wk (t:Rat):gM t=eR t*(epi (sof (mof t pay)) ssz sch*(573/10*(1/360)*(1/360)*pyr)):=by
 unfold gM
 rw[Lh,show((1:Int):Rat)/((360:Int):Rat)=1/360 by decide+kernel];grind
theorem BB:16/100≤573/10*(1/360)*(1/360)*pyr∧573/10*(1/360)*(1/360)*pyr≤162/1000:=by decide+kernel
theorem Gc (t:Rat): -(41/1080)≤epi (sof (mof t pay)) ssz sch∧epi (sof (mof t pay)) ssz sch≤41/1080:=by
 have b:=fY (mof t pay)
 have e:=nO (s:=ssz) (c:=sch) b.1 b.2 (by decide+kernel) (by decide+kernel) (by decide+kernel)
 have k:ssz*(1-sch)=41/1080:=by decide+kernel
 rw[k] at e;exact e
theorem nN (t:Rat): -(64/10000)≤gM t∧gM t≤64/10000:=by
 have m:=ru t
 have e:=Gc t
 have c:=BB
 have n:=fE (a:=41/1080) (b:=162/1000) (x:=epi (sof (mof t pay)) ssz sch) (y:=573/10*(1/360)*(1/360)*pyr) (by grind) (by grind) e.1 e.2 (by grind) c.2
 have o:=fE (a:=1025/1000) (b:=41/1080*(162/1000)) (x:=eR t) (by grind) (by grind) (by grind) m.2 n.1 n.2
 rw[wk]
 constructor <;> grind
theorem Jd (t:Rat):(epi (sof (mof (t+((1:Int):Rat)) pay)) ssz sch-epi (sof (mof t pay)) ssz sch).abs ≤7/180*(60/3438*(986/1000)):=by
 have l:=pK (((360:Int):Rat)*bv (t+((1:Int):Rat)) pay) (((360:Int):Rat)*bv t pay)
 rw[←pA jo,←pA jo,ec,show((60:Int):Rat)/((3438:Int):Rat)=60/3438 by decide+kernel] at l
 have d:(((360:Int):Rat)*(bv t pay+((1:Int):Rat)/pay)-((360:Int):Rat)*bv t pay).abs ≤986/1000:=by
  rw[show((360:Int):Rat)*(bv t pay+((1:Int):Rat)/pay)-((360:Int):Rat)*bv t pay=((360:Int):Rat)*(((1:Int):Rat)/pay) by grind]
  decide+kernel
 have bt:=fY (mof t pay)
 have bu:=fY (mof (t+((1:Int):Rat)) pay)
 have s1:=uE.1
 have s2:=uE.2.1
 generalize sof (mof (t+((1:Int):Rat)) pay)=b at*
 generalize sof (mof t pay)=x at*
 have n:(b-x).abs ≤60/3438*(986/1000):=by grind
 rcases Rat.le_total (a:=x) (b:=b) with h|h
 ·have e:=kF (s:=ssz) (c:=sch) bt.1 bu.2 h (by decide+kernel) (by decide+kernel) (by decide+kernel)
  rw[Rat.abs_of_nonneg (x:=b-x) (by grind)] at n
  rw[Rat.abs_of_nonneg e.1]
  rw[s1] at e ⊢
  grind
 ·have e:=kF (s:=ssz) (c:=sch) bu.1 bt.2 h (by decide+kernel) (by decide+kernel) (by decide+kernel)
  rw[Rat.abs_of_nonpos (x:=b-x) (by grind)] at n
  rw[Rat.abs_of_nonpos (by grind)]
  rw[s1] at e ⊢
  grind
theorem yx (t:Rat):(gM (t+((1:Int):Rat))-gM t).abs ≤1/1000:=by
 have m:=ru t
 have m':=ru (t+((1:Int):Rat))
 have e:=Gc t
 have d:=cP (Jd t)
 have c:=BB
 rw[wk,wk]
 generalize epi (sof (mof (t+((1:Int):Rat)) pay)) ssz sch=b at*
 generalize epi (sof (mof t pay)) ssz sch=x at*
 generalize eR (t+((1:Int):Rat))=n at*
 generalize eR t=o at*
 generalize 573/10*(1/360)*(1/360)*pyr=k at*
 have u:=fE (a:=1025/1000) (b:=7/180*(60/3438*(986/1000))) (x:=n) (y:=b-x) (by grind) (by grind) (by grind) (by grind) (by grind) (by grind)
 have v:=fE (a:=78/1000) (b:=41/1080) (x:=n-o) (y:=x) (by grind) (by grind) (by grind) (by grind) e.1 e.2
 have q:=fE (a:=1025/1000*(7/180*(60/3438*(986/1000)))+78/1000*(41/1080)) (b:=162/1000) (x:=n*(b-x)+(n-o)*x) (y:=k) (by grind) (by grind) (by grind) (by grind) (by grind) (by grind)
 rw[show n*(b*k)-o*(x*k)=(n*(b-x)+(n-o)*x)*k by grind]
 exact gR (by grind) (by grind)
theorem Bx (t:Rat) {lat:Rat} (lon:Rat) (h0: -60≤lat) (h1:lat≤60):985/1000≤co (t+((1:Int):Rat)) lat lon 1 1-co t lat lon 1 1∧co (t+((1:Int):Rat)) lat lon 1 1-co t lat lon 1 1≤1015/1000:=by
 have e:=cP (yx t)
 have d:=cP (wT t h0 h1)
 have s:=il t
 have s':=il (t+((1:Int):Rat))
 have k:=nT
 unfold co
 rw[show((1:Int):Rat)/((4:Int):Rat)=1/4 by decide+kernel,Rat.intCast_one] at*
 generalize fO (t+1) lat=d2 at*
 generalize fO t lat=d1 at*
 generalize eR (t+1)*gO (t+1)=s2 at*
 generalize eR t*gO t=s1 at*
 generalize gM (t+1)=e2 at*
 generalize gM t=e1 at*
 have m:=fE (a:=1/4*(111/100-87/100)+27/10) (b:=27703/10000000) (x:=(s2*(1/4)+1*d2)-(s1*(1/4)+1*d1)) (y:=kap) (by grind) (by grind) (by grind) (by grind) (by grind) k.2
 constructor <;> grind
end Go.Proofs.YtdbiegfmgabicaaGreatDoor
