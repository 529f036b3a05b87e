import Derived.Test.YtnljadejcfgmaaaGreatDoorKB27
namespace Go.Proofs.YtnljadejcfgmaaaGreatDoor
open Go.RowKit
set_option maxRecDepth 100000
set_option linter.unusedVariables false
set_option maxHeartbeats 8000000
def kli:Rat:=((-1132959:Int):Rat)
def hZ (t:Rat):Rat:=(t-kli)*(((600:Int):Rat)/((1577917828:Int):Rat))-((1:Int):Rat)/((4:Int):Rat)
def wJ (t:Rat):Rat:=cO (hZ t) (((-1:Int):Rat)/((2:Int):Rat)) (((1:Int):Rat)/((2:Int):Rat))
def eR (t:Rat):Rat:=((27:Int):Rat)-((108:Int):Rat)*(wJ t).abs
def bD (t:Rat):Rat:=rmod (cT t-eR t) ((360:Int):Rat)
def obl:Rat:=((1397:Int):Rat)/((3438:Int):Rat)
def hV (t:Rat):Rat:=obl*sof (bD t)
def du (h:Rat):Rat:=sof (br h+((90:Int):Rat))
def eV (t lat:Rat):Rat:=hV t*sof lat/sof (lat+((90:Int):Rat))
def eT (t lat:Rat):Rat:=br (-(eV t lat/du (hV t)))
theorem jY:obl=1397/3438:=by decide+kernel
theorem r90:((90:Int):Rat)=90:=rfl
theorem nK:(((-1:Int):Rat)/((2:Int):Rat))= -1/2∧(((1:Int):Rat)/((2:Int):Rat))=1/2:=by decide+kernel
theorem AF (y:Rat) (m:Int):(cO y (-1/2) (1/2)).abs ≤(y-((m:Int):Rat)).abs :=by
 have l:=yK (x:=y) (a:= -1/2) (b:=1/2) (by grind)
 have u:=wS (x:=y) (a:= -1/2) (b:=1/2) (by grind)
 obtain⟨n,e⟩:∃n:Int,cO y (-1/2) (1/2)=y-((n:Int):Rat):=by
  refine⟨((y- -1/2)/(1/2- -1/2)).floor,?_⟩
  unfold cO
  rw[if_neg (by grind)]
  unfold rmod
  rw[if_neg (by grind)]
  grind
 rw[e] at l u ⊢
 have h:m=n∨m≤n-1∨n+1≤m:=by omega
 rcases h with h|h|h
 ·rw[h];exact Rat.le_refl
 ·have:=co h
  rw[Rat.intCast_sub,Rat.intCast_one] at this
  unfold Rat.abs;split <;> split <;> grind
 ·have:=co h
  rw[Rat.intCast_add,Rat.intCast_one] at this
  unfold Rat.abs;split <;> split <;> grind
theorem vA (y d:Rat):(cO (y+d) (-1/2) (1/2)).abs ≤(cO y (-1/2) (1/2)).abs +d.abs:=by
 obtain⟨n,e⟩:∃n:Int,cO y (-1/2) (1/2)=y-((n:Int):Rat):=by
  refine⟨((y- -1/2)/(1/2- -1/2)).floor,?_⟩
  unfold cO
  rw[if_neg (by grind)]
  unfold rmod
  rw[if_neg (by grind)]
  grind
 have h:=AF (y+d) n
 have g:(y+d-((n:Int):Rat)).abs ≤(y-((n:Int):Rat)).abs +d.abs:=by
  unfold Rat.abs;split <;> split <;> split <;> grind
 rw[e];grind
theorem BS (t:Rat):(eR (t+((1:Int):Rat))-eR t).abs ≤1/1000:=by
 have e:hZ (t+((1:Int):Rat))=hZ t+((600:Int):Rat)/((1577917828:Int):Rat):=by unfold hZ;rw[Rat.intCast_one];grind
 have e':hZ t=hZ (t+((1:Int):Rat))+ -(((600:Int):Rat)/((1577917828:Int):Rat)):=by rw[e];grind
 have k:(((600:Int):Rat)/((1577917828:Int):Rat)).abs ≤1/200000:=by decide+kernel
 have k':(-(((600:Int):Rat)/((1577917828:Int):Rat))).abs ≤1/200000:=by decide+kernel
 have a:=vA (hZ t) (((600:Int):Rat)/((1577917828:Int):Rat))
 have b:=vA (hZ (t+((1:Int):Rat))) (-(((600:Int):Rat)/((1577917828:Int):Rat)))
 rw[←e] at a
 rw[←e'] at b
 unfold eR wJ
 rw[nK.1,nK.2,show((108:Int):Rat)=108 from rfl,show((27:Int):Rat)=27 from rfl]
 exact fQ (by grind) (by grind)
theorem pi {p q:Rat} (h1:((-90:Int):Rat)≤p) (h2:p≤q) (h3:q≤((90:Int):Rat)):sof p≤sof q:=by
 by_cases e:p=q
 ·rw[e];exact Rat.le_refl
 ·exact Rat.le_of_lt (lG h1 (by grind) h3)
theorem tP (x:Rat):sof (rmod x ((360:Int):Rat))=sof x:=by rw[gO bE,lC]
theorem vn {y:Rat} (h0: -1≤y) (h1:y≤1):((-90:Int):Rat)≤br y∧br y≤((90:Int):Rat):=by
 have h:=rK (h:=y*((3438:Int):Rat)) (by rw[ed,show((-3438:Int):Rat)= -3438 from rfl];grind) (by rw[ed];grind)
 unfold br
 rw[dQ,r90,show((-90:Int):Rat)= -90 from rfl]
 have a:=h.1
 have b:=h.2.1
 rw[show((-24:Int):Rat)= -24 from rfl] at a
 rw[show((24:Int):Rat)=24 from rfl] at b
 constructor <;> grind
theorem me {y:Rat} (h0: -1≤y) (h1:y≤1):sof (br y)=y:=vh h0 h1
theorem DA {lat:Rat} (h0: -60≤lat) (h1:lat≤60): -(2978/3438)≤sof lat∧sof lat≤2978/3438:=by
 have a:sof 60=2978/3438:=by decide+kernel
 have b:sof (-60)= -(2978/3438):=by decide+kernel
 rw[←a]
 have b': -sof 60=sof (-60):=by rw[a,b]
 rw[b']
 exact⟨pi (by rw[show((-90:Int):Rat)= -90 from rfl];grind) h0 (by rw[r90];grind),pi (by rw[show((-90:Int):Rat)= -90 from rfl];grind) h1 (by rw[r90];grind)⟩
theorem Di {lat:Rat} (h0: -60≤lat) (h1:lat≤60):1/2≤sof (lat+((90:Int):Rat)):=by
 have a:sof 30=1/2:=by decide+kernel
 rw[←a]
 by_cases h:lat≤0
 ·exact pi (by rw[show((-90:Int):Rat)= -90 from rfl];grind) (by rw[r90];grind) (by rw[r90];grind)
 ·have e:=Cg (lat+((90:Int):Rat))
  rw[show((180:Int):Rat)-(lat+((90:Int):Rat))=90-lat by rw[show((180:Int):Rat)=180 from rfl,r90];grind] at e
  rw[←e]
  exact pi (by rw[show((-90:Int):Rat)= -90 from rfl];grind) (by grind) (by rw[r90];grind)
theorem qw {h:Rat} (h0: -obl≤h) (h1:h≤obl):9/10≤du h∧du h≤1:=by
 rw[jY] at h0 h1
 have e:=me (y:=h) (by grind) (by grind)
 have c:=yH (br h)
 have n:=(Af (br h)).2
 rw[e] at c n
 have b:=fv (br h+((90:Int):Rat))
 have p:0≤du h:=by
  unfold du
  rw[n]
  exact Rat.abs_nonneg
 refine⟨?_,b.2⟩
 unfold du at p ⊢
 generalize sof (br h+((90:Int):Rat))=x at*
 have k:=dC c
 rw[show((1:Int):Rat)/((500:Int):Rat)=1/500 by decide+kernel,Rat.intCast_one] at k
 refine Rat.not_lt.1 fun q=>?_
 have m:=Rat.mul_nonneg (a:=9/10-x) (b:=9/10+x) (by grind) (by grind)
 have m2:=Rat.mul_nonneg (a:=1397/3438-h) (b:=1397/3438+h) (by grind) (by grind)
 grind
theorem nJ (t:Rat): -obl≤hV t∧hV t≤obl:=by
 have b:=fv (bD t)
 unfold hV
 rw[jY]
 constructor <;> grind
def quo (t lat:Rat):Rat:=eV t lat/du (hV t)
theorem sj (t lat:Rat):quo t lat=sof lat/sof (lat+((90:Int):Rat))*(hV t/du (hV t)):=by
 unfold quo eV
 rw[Rat.div_def,Rat.div_def,Rat.div_def,Rat.div_def];grind
theorem jb {x c b:Rat} (hc:0<c) (h:x≤b*c):x/c≤b:=Rat.not_lt.1 fun q=>by rw[Rat.lt_div_iff hc] at q;grind
theorem jf {x c b:Rat} (hc:0<c) (h:b*c≤x):b≤x/c:=Rat.not_lt.1 fun q=>by rw[Rat.div_lt_iff hc] at q;grind
theorem zj {lat:Rat} (h0: -60≤lat) (h1:lat≤60): -(2978/1719)≤sof lat/sof (lat+((90:Int):Rat))∧sof lat/sof (lat+((90:Int):Rat))≤2978/1719:=by
 have s:=DA h0 h1
 have c:=Di h0 h1
 exact⟨jf (by grind) (by grind),jb (by grind) (by grind)⟩
theorem GL (t:Rat): -(1397/3438*(10/9))≤hV t/du (hV t)∧hV t/du (hV t)≤1397/3438*(10/9):=by
 have h:=nJ t
 have c:=qw h.1 h.2
 rw[jY] at h
 exact⟨jf (by grind) (by grind),jb (by grind) (by grind)⟩
theorem eI {x y a b:Rat} (ha:0≤a) (hb:0≤b) (x0: -a≤x) (x1:x≤a) (y0: -b≤y) (y1:y≤b): -(a*b)≤x*y∧x*y≤a*b:=by
 have m1:=Rat.mul_nonneg (a:=a-x) (b:=b+y) (by grind) (by grind)
 have m2:=Rat.mul_nonneg (a:=a+x) (b:=b-y) (by grind) (by grind)
 have m3:=Rat.mul_nonneg (a:=a-x) (b:=b-y) (by grind) (by grind)
 have m4:=Rat.mul_nonneg (a:=a+x) (b:=b+y) (by grind) (by grind)
 constructor <;> grind
theorem pu (t:Rat) {lat:Rat} (h0: -60≤lat) (h1:lat≤60): -(79/100)≤quo t lat∧quo t lat≤79/100:=by
 have a:=zj h0 h1
 have b:=GL t
 have m:=eI (by grind) (by grind) a.1 a.2 b.1 b.2
 rw[sj]
 constructor <;> grind
theorem rZ {y:Rat} (h0: -(79/100)≤y) (h1:y≤79/100): -53≤br y∧br y≤53:=by
 have r:=vn (y:=y) (by grind) (by grind)
 have e:=me (y:=y) (by grind) (by grind)
 have a:79/100<sof 53:=by decide+kernel
 have b:sof (-53)< -(79/100):=by decide+kernel
 constructor
 ·refine Rat.not_lt.1 fun q=>?_
  have:=lG r.1 q (by rw[r90];grind)
  grind
 ·refine Rat.not_lt.1 fun q=>?_
  have:=lG (by rw[show((-90:Int):Rat)= -90 from rfl];grind) q r.2
  grind
theorem lh (t:Rat) {lat:Rat} (h0: -60≤lat) (h1:lat≤60): -53≤eT t lat∧eT t lat≤53:=by
 have q:=pu t h0 h1
 exact rZ (y:= -(quo t lat)) (by grind) (by grind)
def ip (k:Int):Int:=max (-15) (min k 15)
def S15 (k:Int):Int:=spk (ip k)-131*ip k
theorem IL:∀n:Nat,n<30→131≤spk ((n:Int)-15+1)-spk ((n:Int)-15):=by decide+kernel
theorem Fb (k:Int):S15 k≤S15 (k+1):=by
 unfold S15
 by_cases h: -15≤k∧k<15
 ·have e1:ip k=k:=by unfold ip;omega
  have e2:ip (k+1)=k+1:=by unfold ip;omega
  have:=IL (k+15).toNat (by omega)
  rw[show(((k+15).toNat :Nat):Int)=k+15 by omega,show k+15-15=k by omega] at this
  rw[e1,e2];omega
 ·have e:ip (k+1)=ip k:=by unfold ip;omega
  rw[e];exact Int.le_refl _
theorem uG {y:Rat} (h0:((-15:Int):Rat)≤y) (h1:y≤((15:Int):Rat)):lin S15 y=lin spk y-131*y:=by
 have f0:=CE h0
 have f1:y.floor≤15:=by
  have:=Rat.floor_monotone h1
  rwa[Rat.floor_intCast] at this
 have e1:ip y.floor=y.floor:=by unfold ip;omega
 by_cases h:y.floor<15
 ·have e2:ip (y.floor+1)=y.floor+1:=by unfold ip;omega
  unfold lin S15
  rw[e1,e2]
  simp only [Rat.intCast_sub,Rat.intCast_mul,Rat.intCast_add,Rat.intCast_one]
  rw[show((131:Int):Rat)=131 from rfl]
  grind
 ·have e3:y.floor=15:=by omega
  have e4:y=((15:Int):Rat):=by
   have:=gi y;rw[e3] at this;grind
  rw[e4,gw,gw]
  decide+kernel
theorem zS {y z:Rat} (h0:((-15:Int):Rat)≤y) (h:y≤z) (h1:z≤((15:Int):Rat)):131*(z-y)≤lin spk z-lin spk y:=by
 have:=tb Fb h
 rw[uG h0 (by grind),uG (by grind) h1] at this
 grind
theorem sy {y z:Rat} (y0: -(79/100)≤y) (y1:y≤79/100) (z0: -(79/100)≤z) (z1:z≤79/100):(br z-br y).abs ≤3438*15/524*(z-y).abs :=by
 have key:∀ {y z:Rat}, -(79/100)≤y→y≤z→z≤79/100→0≤br z-br y∧br z-br y≤3438*15/524*(z-y):=by
  intro y z y0 h z1
  have a:=rZ (y:=y) y0 (by grind)
  have b:=rZ (y:=z) (by grind) z1
  have ey:=me (y:=y) (by grind) (by grind)
  have ez:=me (y:=z) (by grind) (by grind)
  have hp:br y≤br z:=Rat.not_lt.1 fun q=>by
   have:=lG (by rw[show((-90:Int):Rat)= -90 from rfl];grind) q (by rw[r90];grind)
   grind
  have s:=zS (y:=br y/wd) (z:=br z/wd) (by rw[dQ,show((-15:Int):Rat)= -15 from rfl];grind) (by rw[dQ];grind) (by rw[dQ,show((15:Int):Rat)=15 from rfl];grind)
  rw[←fE,←fE,ey,ez,ed,dQ] at s
  constructor <;> grind
 rcases Rat.le_total (a:=y) (b:=z) with h|h
 ·have k:=key y0 h z1
  rw[Rat.abs_of_nonneg k.1,Rat.abs_of_nonneg (x:=z-y) (by grind)]
  exact k.2
 ·have k:=key z0 h y1
  rw[Rat.abs_of_nonpos (by grind),Rat.abs_of_nonpos (x:=z-y) (by grind)]
  grind
theorem Bq (t u:Rat):(du (hV u)-du (hV t)).abs ≤900/524*(hV u-hV t).abs :=by
 have a:=nJ t
 have b:=nJ u
 rw[jY] at a b
 have l:=sy (y:=hV t) (z:=hV u) (by grind) (by grind) (by grind) (by grind)
 have s:=nj (br (hV u)+((90:Int):Rat)) (br (hV t)+((90:Int):Rat))
 rw[show br (hV u)+((90:Int):Rat)-(br (hV t)+((90:Int):Rat))=br (hV u)-br (hV t) by grind,show((60:Int):Rat)/((3438:Int):Rat)=60/3438 by decide+kernel] at s
 unfold du
 grind
theorem kt (x y:Rat):(x*y).abs =x.abs*y.abs:=by
 rcases Rat.le_total (a:=0) (b:=x) with hx|hx <;> rcases Rat.le_total (a:=0) (b:=y) with hy|hy
 ·rw[Rat.abs_of_nonneg hx,Rat.abs_of_nonneg hy,Rat.abs_of_nonneg (Rat.mul_nonneg hx hy)]
 ·have m:=Rat.mul_nonneg hx (b:= -y) (by grind)
  rw[Rat.abs_of_nonneg hx,Rat.abs_of_nonpos hy,Rat.abs_of_nonpos (by grind)];grind
 ·have m:=Rat.mul_nonneg (a:= -x) (by grind) hy
  rw[Rat.abs_of_nonpos hx,Rat.abs_of_nonneg hy,Rat.abs_of_nonpos (by grind)];grind
 ·have m:=Rat.mul_nonneg (a:= -x) (b:= -y) (by grind) (by grind)
  rw[Rat.abs_of_nonpos hx,Rat.abs_of_nonpos hy,Rat.abs_of_nonneg (by grind)];grind
theorem Ge (t u:Rat):(hV u/du (hV u)-hV t/du (hV t)).abs ≤21/10*(hV u-hV t).abs :=by
 have a:=nJ t
 have b:=nJ u
 have ct:=qw a.1 a.2
 have cu:=qw b.1 b.2
 have l:=Bq t u
 rw[jY] at a b
 generalize du (hV u)=p at*
 generalize du (hV t)=q at*
 generalize hV u=y at*
 generalize hV t=x at*
 have hp:p≠0:=by grind
 have hq:q≠0:=by grind
 have pq:0<p*q:=Rat.mul_pos (by grind) (by grind)
 have e:y/p-x/q=((y-x)*q-x*(p-q))/(p*q):=by
  rw[Rat.div_def,Rat.div_def,Rat.div_def,Rat.inv_mul_rev]
  grind
 have pq2:81/100≤p*q:=by
  have:=Rat.mul_nonneg (a:=p-9/10) (b:=q-9/10) (by grind) (by grind)
  grind
 have n1:((y-x)*q).abs ≤(y-x).abs :=by
  rw[kt,Rat.abs_of_nonneg (x:=q) (by grind)]
  have:=Rat.mul_nonneg (a:=(y-x).abs) (b:=1-q) Rat.abs_nonneg (by grind)
  grind
 have n2:(x*(p-q)).abs ≤1397/3438*(900/524)*(y-x).abs :=by
  rw[kt]
  have hx:x.abs≤1397/3438:=fQ (by grind) (by grind)
  have:=Rat.mul_nonneg (a:=1397/3438-x.abs) (b:=(p-q).abs) (by grind) Rat.abs_nonneg
  grind
 have n:((y-x)*q-x*(p-q)).abs ≤17/10*(y-x).abs :=by
  have k:=pj ((y-x)*q)
  have k2:=pj (x*(p-q))
  have k3:(0:Rat)≤(y-x).abs :=Rat.abs_nonneg
  exact fQ (by grind) (by grind)
 have m:=dC n
 rw[e]
 have k3:(0:Rat)≤(y-x).abs :=Rat.abs_nonneg
 have w:=Rat.mul_nonneg (a:=(y-x).abs) (b:=p*q-81/100) k3 (by grind)
 exact fQ (jf pq (by grind)) (jb pq (by grind))
theorem Bw (t:Rat):(sof (bD (t+((1:Int):Rat)))-sof (bD t)).abs ≤60/3438*(104/100):=by
 have s:=Dp t
 have pr:=dC (BS t)
 unfold bD
 rw[tP,tP]
 generalize hm:((360:Int):Rat)*(((1:Int):Rat)/pyr)-(dt (t+((1:Int):Rat))-dt t)=m at s
 have hu:∃j:Int,cT (t+((1:Int):Rat))=cT t+m+((360:Int):Rat)*((j:Int):Rat):=by
  have e:=s.1
  rw[gO bE] at e
  refine⟨((cT (t+((1:Int):Rat))-cT t)/((360:Int):Rat)).floor,?_⟩
  rw[Rat.intCast_neg] at e
  grind
 obtain⟨j,hu⟩:=hu
 have l:=nj (cT t+m-eR (t+((1:Int):Rat))) (cT t-eR t)
 rw[hu,show cT t+m+((360:Int):Rat)*((j:Int):Rat)-eR (t+((1:Int):Rat))=(cT t+m-eR (t+((1:Int):Rat)))+((360:Int):Rat)*((j:Int):Rat) by grind,lC]
 rw[show((60:Int):Rat)/((3438:Int):Rat)=60/3438 by decide+kernel] at l
 have d:(cT t+m-eR (t+((1:Int):Rat))-(cT t-eR t)).abs ≤104/100:=fQ (by grind) (by grind)
 grind
theorem tk (t:Rat) {lat:Rat} (h0: -60≤lat) (h1:lat≤60):(eT (t+((1:Int):Rat)) lat-eT t lat).abs ≤27/10:=by
 have d:=Bw t
 have q:=pu t h0 h1
 have q':=pu (t+((1:Int):Rat)) h0 h1
 have hl:=Ge t (t+((1:Int):Rat))
 have ta:=zj h0 h1
 have hh:(hV (t+((1:Int):Rat))-hV t).abs ≤1397/3438*(60/3438*(104/100)):=by
  unfold hV
  rw[show obl*sof (bD (t+((1:Int):Rat)))-obl*sof (bD t)=obl*(sof (bD (t+((1:Int):Rat)))-sof (bD t)) by grind,kt,jY,Rat.abs_of_nonneg (x:=1397/3438) (by grind)]
  grind
 have e:(quo (t+((1:Int):Rat)) lat-quo t lat).abs ≤2978/1719*(21/10*(1397/3438*(60/3438*(104/100)))):=by
  rw[sj,sj,show sof lat/sof (lat+((90:Int):Rat))*(hV (t+((1:Int):Rat))/du (hV (t+((1:Int):Rat))))-sof lat/sof (lat+((90:Int):Rat))*(hV t/du (hV t))=sof lat/sof (lat+((90:Int):Rat))*(hV (t+((1:Int):Rat))/du (hV (t+((1:Int):Rat)))-hV t/du (hV t)) by grind,kt]
  have ka:(sof lat/sof (lat+((90:Int):Rat))).abs ≤2978/1719:=fQ ta.1 ta.2
  generalize (sof lat/sof (lat+((90:Int):Rat))).abs =x at*
  have kb:(0:Rat)≤(hV (t+((1:Int):Rat))/du (hV (t+((1:Int):Rat)))-hV t/du (hV t)).abs :=Rat.abs_nonneg
  generalize (hV (t+((1:Int):Rat))/du (hV (t+((1:Int):Rat)))-hV t/du (hV t)).abs =y at*
  have m:=Rat.mul_nonneg (a:=2978/1719-x) (b:=y) (by grind) kb
  grind
 have a:=sy (y:= -(quo t lat)) (z:= -(quo (t+((1:Int):Rat)) lat)) (by grind) (by grind) (by grind) (by grind)
 rw[show -(quo (t+((1:Int):Rat)) lat)- -(quo t lat)= -(quo (t+((1:Int):Rat)) lat-quo t lat) by grind,show(-(quo (t+((1:Int):Rat)) lat-quo t lat)).abs =(quo (t+((1:Int):Rat)) lat-quo t lat).abs by unfold Rat.abs;split <;> split <;> grind] at a
 show(br (-(quo (t+((1:Int):Rat)) lat))-br (-(quo t lat))).abs ≤27/10
 grind
def j8 (x:Rat):Int:=spk (pk x+1)-spk (pk x)
def kI (t:Rat):Rat:=((14:Int):Rat)/((360:Int):Rat)-(sof (mof t pay)).abs *(((1:Int):Rat)/((1080:Int):Rat))
def ec (t:Rat):Rat:=((360:Int):Rat)/pyr*(((1:Int):Rat)-((j8 (mof t pay):Int):Rat)/((225:Int):Rat)*kI t)
def fM (k:Int):Int:=if k%6=0∨k%6=5 then 1670 else if k%6=1∨k%6=4 then 1795 else 1935
def fK (t:Rat):Rat:=((fM (prt (bD t) 12):Int):Rat)/((1800:Int):Rat)
def fL (t:Rat):Rat:=ec t*(((1:Int):Rat)/((360:Int):Rat))*(sof (mof t pay)*(((573:Int):Rat)/((10:Int):Rat))*kI t*(((1:Int):Rat)/((360:Int):Rat)))*pyr
def kap:Rat:=((1577917828:Int):Rat)/((1582237828:Int):Rat)*(((1:Int):Rat)/((360:Int):Rat))
def kr (lon:Rat):Rat:=(((45461:Int):Rat)/((600:Int):Rat)-lon)*(((1:Int):Rat)/((360:Int):Rat))
def cg (t lat lon:Rat) (qd sg:Int):Rat:=t+((qd:Int):Rat)/((4:Int):Rat)+(kr lon-fL t)+(ec t*fK t*(((qd:Int):Rat)/((4:Int):Rat))+((sg:Int):Rat)*eT t lat)*kap
def cz (x:Rat):Rat:=(((x*((1048576:Int):Rat)).floor :Int):Rat)*(((1:Int):Rat)/((1048576:Int):Rat))
theorem cS (x:Rat):x-1/1000000≤cz x∧cz x≤x:=by
 have a:=gi (x*((1048576:Int):Rat))
 have b:=gI (x*((1048576:Int):Rat))
 unfold cz
 rw[show((1:Int):Rat)/((1048576:Int):Rat)=1/1048576 by decide+kernel]
 rw[show((1048576:Int):Rat)=1048576 from rfl] at*
 constructor <;> grind
theorem Ew (t:Rat):13/360≤kI t∧kI t≤14/360:=by
 have b:=fv (mof t pay)
 have c:(sof (mof t pay)).abs ≤1:=fQ b.1 b.2
 have d:(0:Rat)≤(sof (mof t pay)).abs :=Rat.abs_nonneg
 unfold kI
 rw[show((14:Int):Rat)/((360:Int):Rat)=14/360 by decide+kernel,show((1:Int):Rat)/((1080:Int):Rat)=1/1080 by decide+kernel]
 constructor <;> grind
theorem GB (x:Rat): -1≤((j8 x:Int):Rat)/((225:Int):Rat)∧((j8 x:Int):Rat)/((225:Int):Rat)≤1:=by
 have s:=gt (pk x)
 have a:=co s.1
 have b:=co s.2
 rw[show((-225:Int):Rat)= -225 from rfl] at a
 rw[show((225:Int):Rat)=225 from rfl] at b ⊢
 unfold j8
 exact⟨jf (by grind) (by grind),jb (by grind) (by grind)⟩
theorem pA (t:Rat):947/1000≤ec t∧ec t≤1025/1000:=by
 have p:=Ew t
 have s:=GB (mof t pay)
 have m:=eI (b:=14/360) (a:=1) (x:=((j8 (mof t pay):Int):Rat)/((225:Int):Rat)) (y:=kI t) (by grind) (by grind) s.1 s.2 (by grind) p.2
 have k1:985/1000≤((360:Int):Rat)/pyr:=by decide+kernel
 have k2:986/1000≥((360:Int):Rat)/pyr:=by decide+kernel
 have k3:9856/10000≤((360:Int):Rat)/pyr:=by decide+kernel
 unfold ec
 rw[Rat.intCast_one]
 generalize ((j8 (mof t pay):Int):Rat)/((225:Int):Rat)*kI t=y at*
 generalize ((360:Int):Rat)/pyr=c at*
 have u:=Rat.mul_nonneg (a:=c-9856/10000) (b:=1-y) (by grind) (by grind)
 have v:=Rat.mul_nonneg (a:=986/1000-c) (b:=1-y) (by grind) (by grind)
 constructor <;> grind
theorem Fu (t:Rat):1670/1800≤fK t∧fK t≤1935/1800:=by
 have h:1670≤fM (prt (bD t) 12)∧fM (prt (bD t) 12)≤1935:=by unfold fM;split <;> (try split) <;> omega
 have a:=co h.1
 have b:=co h.2
 rw[show((1670:Int):Rat)=1670 from rfl] at a
 rw[show((1935:Int):Rat)=1935 from rfl] at b
 unfold fK
 rw[show((1800:Int):Rat)=1800 from rfl]
 exact⟨jf (by grind) (by grind),jb (by grind) (by grind)⟩
theorem gn (t:Rat):87/100≤ec t*fK t∧ec t*fK t≤111/100:=by
 have m:=pA t
 have r:=Fu t
 have u:=Rat.mul_nonneg (a:=ec t-947/1000) (b:=fK t) (by grind) (by grind)
 have v:=Rat.mul_nonneg (a:=1025/1000-ec t) (b:=fK t) (by grind) (by grind)
 constructor <;> grind
theorem mO:277/100000≤kap∧kap≤27703/10000000:=by decide+kernel
theorem GF (t:Rat):sof (mof t pay)*(((573:Int):Rat)/((10:Int):Rat))*kI t=573/10*epi (sof (mof t pay)) ssz sch:=by
 unfold kI epi
 rw[rJ.1,rJ.2.1,show((573:Int):Rat)/((10:Int):Rat)=573/10 by decide+kernel,show((14:Int):Rat)/((360:Int):Rat)=7/180 by decide+kernel,show((1:Int):Rat)/((1080:Int):Rat)=1/1080 by decide+kernel]
 grind
theorem sW (t:Rat):fL t=ec t*(epi (sof (mof t pay)) ssz sch*(573/10*(1/360)*(1/360)*pyr)):=by
 unfold fL
 rw[GF,show((1:Int):Rat)/((360:Int):Rat)=1/360 by decide+kernel];grind
theorem yf:16/100≤573/10*(1/360)*(1/360)*pyr∧573/10*(1/360)*(1/360)*pyr≤162/1000:=by decide+kernel
theorem CW (t:Rat): -(41/1080)≤epi (sof (mof t pay)) ssz sch∧epi (sof (mof t pay)) ssz sch≤41/1080:=by
 have b:=fv (mof t pay)
 have e:=mo (s:=ssz) (c:=sch) b.1 b.2 (by decide+kernel) (by decide+kernel) (by decide+kernel)
 have k:ssz*(1-sch)=41/1080:=by decide+kernel
 rw[k] at e;exact e
theorem mp (t:Rat): -(64/10000)≤fL t∧fL t≤64/10000:=by
 have m:=pA t
 have e:=CW t
 have c:=yf
 have n:=eI (a:=41/1080) (b:=162/1000) (x:=epi (sof (mof t pay)) ssz sch) (y:=573/10*(1/360)*(1/360)*pyr) (by grind) (by grind) e.1 e.2 (by grind) c.2
 have o:=eI (a:=1025/1000) (b:=41/1080*(162/1000)) (x:=ec t) (by grind) (by grind) (by grind) m.2 n.1 n.2
 rw[sW]
 constructor <;> grind
theorem DK (t:Rat):(epi (sof (mof (t+((1:Int):Rat)) pay)) ssz sch-epi (sof (mof t pay)) ssz sch).abs ≤7/180*(60/3438*(986/1000)):=by
 have l:=nj (((360:Int):Rat)*bn (t+((1:Int):Rat)) pay) (((360:Int):Rat)*bn t pay)
 rw[←na iA,←na iA,i6,show((60:Int):Rat)/((3438:Int):Rat)=60/3438 by decide+kernel] at l
 have d:(((360:Int):Rat)*(bn t pay+((1:Int):Rat)/pay)-((360:Int):Rat)*bn t pay).abs ≤986/1000:=by
  rw[show((360:Int):Rat)*(bn t pay+((1:Int):Rat)/pay)-((360:Int):Rat)*bn t pay=((360:Int):Rat)*(((1:Int):Rat)/pay) by grind]
  decide+kernel
 have bt:=fv (mof t pay)
 have bu:=fv (mof (t+((1:Int):Rat)) pay)
 have s1:=rJ.1
 have s2:=rJ.2.1
 generalize sof (mof (t+((1:Int):Rat)) pay)=b at*
 generalize sof (mof t pay)=x at*
 have n:(b-x).abs ≤60/3438*(986/1000):=by grind
 rcases Rat.le_total (a:=x) (b:=b) with h|h
 ·have e:=jC (s:=ssz) (c:=sch) bt.1 bu.2 h (by decide+kernel) (by decide+kernel) (by decide+kernel)
  rw[Rat.abs_of_nonneg (x:=b-x) (by grind)] at n
  rw[Rat.abs_of_nonneg e.1]
  rw[s1] at e ⊢
  grind
 ·have e:=jC (s:=ssz) (c:=sch) bu.1 bt.2 h (by decide+kernel) (by decide+kernel) (by decide+kernel)
  rw[Rat.abs_of_nonpos (x:=b-x) (by grind)] at n
  rw[Rat.abs_of_nonpos (by grind)]
  rw[s1] at e ⊢
  grind
theorem vK (t:Rat):(fL (t+((1:Int):Rat))-fL t).abs ≤1/1000:=by
 have m:=pA t
 have m':=pA (t+((1:Int):Rat))
 have e:=CW t
 have d:=dC (DK t)
 have c:=yf
 rw[sW,sW]
 generalize epi (sof (mof (t+((1:Int):Rat)) pay)) ssz sch=b at*
 generalize epi (sof (mof t pay)) ssz sch=x at*
 generalize ec (t+((1:Int):Rat))=n at*
 generalize ec t=o at*
 generalize 573/10*(1/360)*(1/360)*pyr=k at*
 have u:=eI (a:=1025/1000) (b:=7/180*(60/3438*(986/1000))) (x:=n) (y:=b-x) (by grind) (by grind) (by grind) (by grind) (by grind) (by grind)
 have v:=eI (a:=78/1000) (b:=41/1080) (x:=n-o) (y:=x) (by grind) (by grind) (by grind) (by grind) e.1 e.2
 have q:=eI (a:=1025/1000*(7/180*(60/3438*(986/1000)))+78/1000*(41/1080)) (b:=162/1000) (x:=n*(b-x)+(n-o)*x) (y:=k) (by grind) (by grind) (by grind) (by grind) (by grind) (by grind)
 rw[show n*(b*k)-o*(x*k)=(n*(b-x)+(n-o)*x)*k by grind]
 exact fQ (by grind) (by grind)
theorem zf (t:Rat) {lat:Rat} (lon:Rat) (h0: -60≤lat) (h1:lat≤60):985/1000≤cg (t+((1:Int):Rat)) lat lon 1 1-cg t lat lon 1 1∧cg (t+((1:Int):Rat)) lat lon 1 1-cg t lat lon 1 1≤1015/1000:=by
 have e:=dC (vK t)
 have d:=dC (tk t h0 h1)
 have s:=gn t
 have s':=gn (t+((1:Int):Rat))
 have k:=mO
 unfold cg
 rw[show((1:Int):Rat)/((4:Int):Rat)=1/4 by decide+kernel,Rat.intCast_one] at*
 generalize eT (t+1) lat=d2 at*
 generalize eT t lat=d1 at*
 generalize ec (t+1)*fK (t+1)=s2 at*
 generalize ec t*fK t=s1 at*
 generalize fL (t+1)=e2 at*
 generalize fL t=e1 at*
 have m:=eI (a:=1/4*(111/100-87/100)+27/10) (b:=27703/10000000) (x:=(s2*(1/4)+1*d2)-(s1*(1/4)+1*d1)) (y:=kap) (by grind) (by grind) (by grind) (by grind) (by grind) k.2
 constructor <;> grind
end Go.Proofs.YtnljadejcfgmaaaGreatDoor
