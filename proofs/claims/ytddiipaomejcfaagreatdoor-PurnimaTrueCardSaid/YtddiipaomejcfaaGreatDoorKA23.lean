import Derived.Test.YtddiipaomejcfaaGreatDoorKA21
namespace Go.Proofs.YtddiipaomejcfaaGreatDoor
open Go.RowKit
set_option maxRecDepth 100000
set_option linter.unusedVariables false
set_option maxHeartbeats 8000000
def kli:Rat:=((-1132959:Int):Rat)
def gx (t:Rat):Rat:=(t-kli)*(((600:Int):Rat)/((1577917828:Int):Rat))-((1:Int):Rat)/((4:Int):Rat)
def vo (t:Rat):Rat:=cB (gx t) (((-1:Int):Rat)/((2:Int):Rat)) (((1:Int):Rat)/((2:Int):Rat))
def eG (t:Rat):Rat:=((27:Int):Rat)-((108:Int):Rat)*(vo t).abs
def cy (t:Rat):Rat:=rmod (cK t-eG t) ((360:Int):Rat)
def obl:Rat:=((1397:Int):Rat)/((3438:Int):Rat)
def hV (t:Rat):Rat:=obl*sof (cy t)
def cP (h:Rat):Rat:=sof (bg h+((90:Int):Rat))
def eV (t lat:Rat):Rat:=hV t*sof lat/sof (lat+((90:Int):Rat))
def fe (t lat:Rat):Rat:=bg (-(eV t lat/cP (hV t)))
theorem i6:obl=1397/3438:=by decide+kernel
theorem r90:((90:Int):Rat)=90:=rfl
theorem l7:(((-1:Int):Rat)/((2:Int):Rat))= -1/2/\(((1:Int):Rat)/((2:Int):Rat))=1/2:=by decide+kernel
theorem zO (y:Rat) (m:Int):(cB y (-1/2) (1/2)).abs <=(y-((m:Int):Rat)).abs :=by
 have l:=yh (x:=y) (a:= -1/2) (b:=1/2) (by grind)
 have u:=uV (x:=y) (a:= -1/2) (b:=1/2) (by grind)
 obtain⟨n,e⟩:∃n:Int,cB y (-1/2) (1/2)=y-((n:Int):Rat):=by
  refine⟨((y- -1/2)/(1/2- -1/2)).floor,?_⟩
  unfold cB
  rw[if_neg (by grind)]
  unfold rmod
  rw[if_neg (by grind)]
  grind
 rw[e] at l u ⊢
 have h:m=n\/m<=n-1\/n+1<=m:=by omega
 rcases h with h|h|h
 ·rw[h];exact Rat.le_refl
 ·have:=bN h
  rw[Rat.intCast_sub,Rat.intCast_one] at this
  unfold Rat.abs;split <;> split <;> grind
 ·have:=bN h
  rw[Rat.intCast_add,Rat.intCast_one] at this
  unfold Rat.abs;split <;> split <;> grind
theorem uQ (y d:Rat):(cB (y+d) (-1/2) (1/2)).abs <=(cB y (-1/2) (1/2)).abs +d.abs:=by
 obtain⟨n,e⟩:∃n:Int,cB y (-1/2) (1/2)=y-((n:Int):Rat):=by
  refine⟨((y- -1/2)/(1/2- -1/2)).floor,?_⟩
  unfold cB
  rw[if_neg (by grind)]
  unfold rmod
  rw[if_neg (by grind)]
  grind
 have h:=zO (y+d) n
 have g:(y+d-((n:Int):Rat)).abs <=(y-((n:Int):Rat)).abs +d.abs:=by
  unfold Rat.abs;split <;> split <;> split <;> grind
 rw[e];grind
theorem Av (t:Rat):(eG (t+((1:Int):Rat))-eG t).abs <=1/1000:=by
 have e:gx (t+((1:Int):Rat))=gx t+((600:Int):Rat)/((1577917828:Int):Rat):=by unfold gx;rw[Rat.intCast_one];grind
 have e':gx t=gx (t+((1:Int):Rat))+ -(((600:Int):Rat)/((1577917828:Int):Rat)):=by rw[e];grind
 have k:(((600:Int):Rat)/((1577917828:Int):Rat)).abs <=1/200000:=by decide+kernel
 have k':(-(((600:Int):Rat)/((1577917828:Int):Rat))).abs <=1/200000:=by decide+kernel
 have a:=uQ (gx t) (((600:Int):Rat)/((1577917828:Int):Rat))
 have b:=uQ (gx (t+((1:Int):Rat))) (-(((600:Int):Rat)/((1577917828:Int):Rat)))
 rw[<-e] at a
 rw[<-e'] at b
 unfold eG vo
 rw[l7.1,l7.2,show((108:Int):Rat)=108 from rfl,show((27:Int):Rat)=27 from rfl]
 exact fA (by grind) (by grind)
theorem oj {p q:Rat} (h1:((-90:Int):Rat)<=p) (h2:p<=q) (h3:q<=((90:Int):Rat)):sof p<=sof q:=by
 by_cases e:p=q
 ·rw[e];exact Rat.le_refl
 ·exact Rat.le_of_lt (je h1 (by grind) h3)
theorem rI (x:Rat):sof (rmod x ((360:Int):Rat))=sof x:=by rw[fP bP,gU]
theorem tI {y:Rat} (h0: -1<=y) (h1:y<=1):((-90:Int):Rat)<=bg y/\bg y<=((90:Int):Rat):=by
 have h:=vD (h:=y*((3438:Int):Rat)) (by rw[dQ,show((-3438:Int):Rat)= -3438 from rfl];grind) (by rw[dQ];grind)
 unfold bg
 rw[dE,r90,show((-90:Int):Rat)= -90 from rfl]
 have a:=h.1
 have b:=h.2.1
 rw[show((-24:Int):Rat)= -24 from rfl] at a
 rw[show((24:Int):Rat)=24 from rfl] at b
 constructor <;> grind
theorem kG {y:Rat} (h0: -1<=y) (h1:y<=1):sof (bg y)=y:=uD h0 h1
theorem BO {lat:Rat} (h0: -60<=lat) (h1:lat<=60): -(2978/3438)<=sof lat/\sof lat<=2978/3438:=by
 have a:sof 60=2978/3438:=by decide+kernel
 have b:sof (-60)= -(2978/3438):=by decide+kernel
 rw[<-a]
 have b': -sof 60=sof (-60):=by rw[a,b]
 rw[b']
 exact⟨oj (by rw[show((-90:Int):Rat)= -90 from rfl];grind) h0 (by rw[r90];grind),oj (by rw[show((-90:Int):Rat)= -90 from rfl];grind) h1 (by rw[r90];grind)⟩
theorem CU {lat:Rat} (h0: -60<=lat) (h1:lat<=60):1/2<=sof (lat+((90:Int):Rat)):=by
 have a:sof 30=1/2:=by decide+kernel
 rw[<-a]
 by_cases h:lat<=0
 ·exact oj (by rw[show((-90:Int):Rat)= -90 from rfl];grind) (by rw[r90];grind) (by rw[r90];grind)
 ·have e:=sZ (lat+((90:Int):Rat))
  rw[show((180:Int):Rat)-(lat+((90:Int):Rat))=90-lat by rw[show((180:Int):Rat)=180 from rfl,r90];grind] at e
  rw[<-e]
  exact oj (by rw[show((-90:Int):Rat)= -90 from rfl];grind) (by grind) (by rw[r90];grind)
theorem pG {h:Rat} (h0: -obl<=h) (h1:h<=obl):9/10<=cP h/\cP h<=1:=by
 rw[i6] at h0 h1
 have e:=kG (y:=h) (by grind) (by grind)
 have c:=xj (bg h)
 have n:=(zt (bg h)).2
 rw[e] at c n
 have b:=dK (bg h+((90:Int):Rat))
 have p:0<=cP h:=by
  unfold cP
  rw[n]
  exact Rat.abs_nonneg
 refine⟨?_,b.2⟩
 unfold cP at p ⊢
 generalize sof (bg h+((90:Int):Rat))=x at*
 have k:=bM c
 rw[show((1:Int):Rat)/((500:Int):Rat)=1/500 by decide+kernel,Rat.intCast_one] at k
 refine Rat.not_lt.1 fun q=>?_
 have m:=Rat.mul_nonneg (a:=9/10-x) (b:=9/10+x) (by grind) (by grind)
 have m2:=Rat.mul_nonneg (a:=1397/3438-h) (b:=1397/3438+h) (by grind) (by grind)
 grind
theorem mr (t:Rat): -obl<=hV t/\hV t<=obl:=by
 have b:=dK (cy t)
 unfold hV
 rw[i6]
 constructor <;> grind
def quo (t lat:Rat):Rat:=eV t lat/cP (hV t)
theorem qX (t lat:Rat):quo t lat=sof lat/sof (lat+((90:Int):Rat))*(hV t/cP (hV t)):=by
 unfold quo eV
 rw[Rat.div_def,Rat.div_def,Rat.div_def,Rat.div_def];grind
theorem ip {x c b:Rat} (hc:0<c) (h:x<=b*c):x/c<=b:=Rat.not_lt.1 fun q=>by rw[Rat.lt_div_iff hc] at q;grind
theorem ig {x c b:Rat} (hc:0<c) (h:b*c<=x):b<=x/c:=Rat.not_lt.1 fun q=>by rw[Rat.div_lt_iff hc] at q;grind
theorem wF {lat:Rat} (h0: -60<=lat) (h1:lat<=60): -(2978/1719)<=sof lat/sof (lat+((90:Int):Rat))/\sof lat/sof (lat+((90:Int):Rat))<=2978/1719:=by
 have s:=BO h0 h1
 have c:=CU h0 h1
 exact⟨ig (by grind) (by grind),ip (by grind) (by grind)⟩
theorem FN (t:Rat): -(1397/3438*(10/9))<=hV t/cP (hV t)/\hV t/cP (hV t)<=1397/3438*(10/9):=by
 have h:=mr t
 have c:=pG h.1 h.2
 rw[i6] at h
 exact⟨ig (by grind) (by grind),ip (by grind) (by grind)⟩
theorem dX {x y a b:Rat} (ha:0<=a) (hb:0<=b) (x0: -a<=x) (x1:x<=a) (y0: -b<=y) (y1:y<=b): -(a*b)<=x*y/\x*y<=a*b:=by
 have m1:=Rat.mul_nonneg (a:=a-x) (b:=b+y) (by grind) (by grind)
 have m2:=Rat.mul_nonneg (a:=a+x) (b:=b-y) (by grind) (by grind)
 have m3:=Rat.mul_nonneg (a:=a-x) (b:=b-y) (by grind) (by grind)
 have m4:=Rat.mul_nonneg (a:=a+x) (b:=b+y) (by grind) (by grind)
 constructor <;> grind
theorem nS (t:Rat) {lat:Rat} (h0: -60<=lat) (h1:lat<=60): -(79/100)<=quo t lat/\quo t lat<=79/100:=by
 have a:=wF h0 h1
 have b:=FN t
 have m:=dX (by grind) (by grind) a.1 a.2 b.1 b.2
 rw[qX]
 constructor <;> grind
theorem sR {y:Rat} (h0: -(79/100)<=y) (h1:y<=79/100): -53<=bg y/\bg y<=53:=by
 have r:=tI (y:=y) (by grind) (by grind)
 have e:=kG (y:=y) (by grind) (by grind)
 have a:79/100<sof 53:=by decide+kernel
 have b:sof (-53)< -(79/100):=by decide+kernel
 constructor
 ·refine Rat.not_lt.1 fun q=>?_
  have:=je r.1 q (by rw[r90];grind)
  grind
 ·refine Rat.not_lt.1 fun q=>?_
  have:=je (by rw[show((-90:Int):Rat)= -90 from rfl];grind) q r.2
  grind
theorem mu (t:Rat) {lat:Rat} (h0: -60<=lat) (h1:lat<=60): -53<=fe t lat/\fe t lat<=53:=by
 have q:=nS t h0 h1
 exact sR (y:= -(quo t lat)) (by grind) (by grind)
def gT (k:Int):Int:=max (-15) (min k 15)
def S15 (k:Int):Int:=spk (gT k)-131*gT k
theorem GV:∀n:Nat,n<30->131<=spk ((n:Int)-15+1)-spk ((n:Int)-15):=by decide+kernel
theorem EG (k:Int):S15 k<=S15 (k+1):=by
 unfold S15
 by_cases h: -15<=k/\k<15
 ·have e1:gT k=k:=by unfold gT;omega
  have e2:gT (k+1)=k+1:=by unfold gT;omega
  have:=GV (k+15).toNat (by omega)
  rw[show(((k+15).toNat :Nat):Int)=k+15 by omega,show k+15-15=k by omega] at this
  rw[e1,e2];omega
 ·have e:gT (k+1)=gT k:=by unfold gT;omega
  rw[e];exact Int.le_refl _
theorem uN {y:Rat} (h0:((-15:Int):Rat)<=y) (h1:y<=((15:Int):Rat)):lin S15 y=lin spk y-131*y:=by
 have f0:=Bo h0
 have f1:y.floor<=15:=by
  have:=Rat.floor_monotone h1
  rwa[Rat.floor_intCast] at this
 have e1:gT y.floor=y.floor:=by unfold gT;omega
 by_cases h:y.floor<15
 ·have e2:gT (y.floor+1)=y.floor+1:=by unfold gT;omega
  unfold lin S15
  rw[e1,e2]
  simp only [Rat.intCast_sub,Rat.intCast_mul,Rat.intCast_add,Rat.intCast_one]
  rw[show((131:Int):Rat)=131 from rfl]
  grind
 ·have e3:y.floor=15:=by omega
  have e4:y=((15:Int):Rat):=by
   have:=ec y;rw[e3] at this;grind
  rw[e4,fO,fO]
  decide+kernel
theorem yz {y z:Rat} (h0:((-15:Int):Rat)<=y) (h:y<=z) (h1:z<=((15:Int):Rat)):131*(z-y)<=lin spk z-lin spk y:=by
 have:=rA EG h
 rw[uN h0 (by grind),uN (by grind) h1] at this
 grind
theorem rH {y z:Rat} (y0: -(79/100)<=y) (y1:y<=79/100) (z0: -(79/100)<=z) (z1:z<=79/100):(bg z-bg y).abs <=3438*15/524*(z-y).abs :=by
 have key:∀ {y z:Rat}, -(79/100)<=y->y<=z->z<=79/100->0<=bg z-bg y/\bg z-bg y<=3438*15/524*(z-y):=by
  intro y z y0 h z1
  have a:=sR (y:=y) y0 (by grind)
  have b:=sR (y:=z) (by grind) z1
  have ey:=kG (y:=y) (by grind) (by grind)
  have ez:=kG (y:=z) (by grind) (by grind)
  have hp:bg y<=bg z:=Rat.not_lt.1 fun q=>by
   have:=je (by rw[show((-90:Int):Rat)= -90 from rfl];grind) q (by rw[r90];grind)
   grind
  have s:=yz (y:=bg y/wd) (z:=bg z/wd) (by rw[dE,show((-15:Int):Rat)= -15 from rfl];grind) (by rw[dE];grind) (by rw[dE,show((15:Int):Rat)=15 from rfl];grind)
  rw[<-fJ,<-fJ,ey,ez,dQ,dE] at s
  constructor <;> grind
 rcases Rat.le_total (a:=y) (b:=z) with h|h
 ·have k:=key y0 h z1
  rw[Rat.abs_of_nonneg k.1,Rat.abs_of_nonneg (x:=z-y) (by grind)]
  exact k.2
 ·have k:=key z0 h y1
  rw[Rat.abs_of_nonpos (by grind),Rat.abs_of_nonpos (x:=z-y) (by grind)]
  grind
theorem y9 (t u:Rat):(cP (hV u)-cP (hV t)).abs <=900/524*(hV u-hV t).abs :=by
 have a:=mr t
 have b:=mr u
 rw[i6] at a b
 have l:=rH (y:=hV t) (z:=hV u) (by grind) (by grind) (by grind) (by grind)
 have s:=mi (bg (hV u)+((90:Int):Rat)) (bg (hV t)+((90:Int):Rat))
 rw[show bg (hV u)+((90:Int):Rat)-(bg (hV t)+((90:Int):Rat))=bg (hV u)-bg (hV t) by grind,show((60:Int):Rat)/((3438:Int):Rat)=60/3438 by decide+kernel] at s
 unfold cP
 grind
theorem jA (x y:Rat):(x*y).abs =x.abs*y.abs:=by
 rcases Rat.le_total (a:=0) (b:=x) with hx|hx <;> rcases Rat.le_total (a:=0) (b:=y) with hy|hy
 ·rw[Rat.abs_of_nonneg hx,Rat.abs_of_nonneg hy,Rat.abs_of_nonneg (Rat.mul_nonneg hx hy)]
 ·have m:=Rat.mul_nonneg hx (b:= -y) (by grind)
  rw[Rat.abs_of_nonneg hx,Rat.abs_of_nonpos hy,Rat.abs_of_nonpos (by grind)];grind
 ·have m:=Rat.mul_nonneg (a:= -x) (by grind) hy
  rw[Rat.abs_of_nonpos hx,Rat.abs_of_nonneg hy,Rat.abs_of_nonpos (by grind)];grind
 ·have m:=Rat.mul_nonneg (a:= -x) (b:= -y) (by grind) (by grind)
  rw[Rat.abs_of_nonpos hx,Rat.abs_of_nonpos hy,Rat.abs_of_nonneg (by grind)];grind
theorem Ep (t u:Rat):(hV u/cP (hV u)-hV t/cP (hV t)).abs <=21/10*(hV u-hV t).abs :=by
 have a:=mr t
 have b:=mr u
 have ct:=pG a.1 a.2
 have cu:=pG b.1 b.2
 have l:=y9 t u
 rw[i6] at a b
 generalize cP (hV u)=p at*
 generalize cP (hV t)=q at*
 generalize hV u=y at*
 generalize hV t=x at*
 have hp:p≠0:=by grind
 have hq:q≠0:=by grind
 have pq:0<p*q:=Rat.mul_pos (by grind) (by grind)
 have e:y/p-x/q=((y-x)*q-x*(p-q))/(p*q):=by
  rw[Rat.div_def,Rat.div_def,Rat.div_def,Rat.inv_mul_rev]
  grind
 have pq2:81/100<=p*q:=by
  have:=Rat.mul_nonneg (a:=p-9/10) (b:=q-9/10) (by grind) (by grind)
  grind
 have n1:((y-x)*q).abs <=(y-x).abs :=by
  rw[jA,Rat.abs_of_nonneg (x:=q) (by grind)]
  have:=Rat.mul_nonneg (a:=(y-x).abs) (b:=1-q) Rat.abs_nonneg (by grind)
  grind
 have n2:(x*(p-q)).abs <=1397/3438*(900/524)*(y-x).abs :=by
  rw[jA]
  have hx:x.abs<=1397/3438:=fA (by grind) (by grind)
  have:=Rat.mul_nonneg (a:=1397/3438-x.abs) (b:=(p-q).abs) (by grind) Rat.abs_nonneg
  grind
 have n:((y-x)*q-x*(p-q)).abs <=17/10*(y-x).abs :=by
  have k:=od ((y-x)*q)
  have k2:=od (x*(p-q))
  have k3:(0:Rat)<=(y-x).abs :=Rat.abs_nonneg
  exact fA (by grind) (by grind)
 have m:=bM n
 rw[e]
 have k3:(0:Rat)<=(y-x).abs :=Rat.abs_nonneg
 have w:=Rat.mul_nonneg (a:=(y-x).abs) (b:=p*q-81/100) k3 (by grind)
 exact fA (ig pq (by grind)) (ip pq (by grind))
theorem zw (t:Rat):(sof (cy (t+((1:Int):Rat)))-sof (cy t)).abs <=60/3438*(104/100):=by
 have s:=B0 t
 have pr:=bM (Av t)
 unfold cy
 rw[rI,rI]
 generalize hm:((360:Int):Rat)*(((1:Int):Rat)/pyr)-(b6 (t+((1:Int):Rat))-b6 t)=m at s
 have hu:∃j:Int,cK (t+((1:Int):Rat))=cK t+m+((360:Int):Rat)*((j:Int):Rat):=by
  have e:=s.1
  rw[fP bP] at e
  refine⟨((cK (t+((1:Int):Rat))-cK t)/((360:Int):Rat)).floor,?_⟩
  rw[Rat.intCast_neg] at e
  grind
 obtain⟨j,hu⟩:=hu
 have l:=mi (cK t+m-eG (t+((1:Int):Rat))) (cK t-eG t)
 rw[hu,show cK t+m+((360:Int):Rat)*((j:Int):Rat)-eG (t+((1:Int):Rat))=(cK t+m-eG (t+((1:Int):Rat)))+((360:Int):Rat)*((j:Int):Rat) by grind,gU]
 rw[show((60:Int):Rat)/((3438:Int):Rat)=60/3438 by decide+kernel] at l
 have d:(cK t+m-eG (t+((1:Int):Rat))-(cK t-eG t)).abs <=104/100:=fA (by grind) (by grind)
 grind
theorem qJ (t:Rat) {lat:Rat} (h0: -60<=lat) (h1:lat<=60):(fe (t+((1:Int):Rat)) lat-fe t lat).abs <=27/10:=by
 have d:=zw t
 have q:=nS t h0 h1
 have q':=nS (t+((1:Int):Rat)) h0 h1
 have hl:=Ep t (t+((1:Int):Rat))
 have ta:=wF h0 h1
 have hh:(hV (t+((1:Int):Rat))-hV t).abs <=1397/3438*(60/3438*(104/100)):=by
  unfold hV
  rw[show obl*sof (cy (t+((1:Int):Rat)))-obl*sof (cy t)=obl*(sof (cy (t+((1:Int):Rat)))-sof (cy t)) by grind,jA,i6,Rat.abs_of_nonneg (x:=1397/3438) (by grind)]
  grind
 have e:(quo (t+((1:Int):Rat)) lat-quo t lat).abs <=2978/1719*(21/10*(1397/3438*(60/3438*(104/100)))):=by
  rw[qX,qX,show sof lat/sof (lat+((90:Int):Rat))*(hV (t+((1:Int):Rat))/cP (hV (t+((1:Int):Rat))))-sof lat/sof (lat+((90:Int):Rat))*(hV t/cP (hV t))=sof lat/sof (lat+((90:Int):Rat))*(hV (t+((1:Int):Rat))/cP (hV (t+((1:Int):Rat)))-hV t/cP (hV t)) by grind,jA]
  have ka:(sof lat/sof (lat+((90:Int):Rat))).abs <=2978/1719:=fA ta.1 ta.2
  generalize (sof lat/sof (lat+((90:Int):Rat))).abs =x at*
  have kb:(0:Rat)<=(hV (t+((1:Int):Rat))/cP (hV (t+((1:Int):Rat)))-hV t/cP (hV t)).abs :=Rat.abs_nonneg
  generalize (hV (t+((1:Int):Rat))/cP (hV (t+((1:Int):Rat)))-hV t/cP (hV t)).abs =y at*
  have m:=Rat.mul_nonneg (a:=2978/1719-x) (b:=y) (by grind) kb
  grind
 have a:=rH (y:= -(quo t lat)) (z:= -(quo (t+((1:Int):Rat)) lat)) (by grind) (by grind) (by grind) (by grind)
 rw[show -(quo (t+((1:Int):Rat)) lat)- -(quo t lat)= -(quo (t+((1:Int):Rat)) lat-quo t lat) by grind,show(-(quo (t+((1:Int):Rat)) lat-quo t lat)).abs =(quo (t+((1:Int):Rat)) lat-quo t lat).abs by unfold Rat.abs;split <;> split <;> grind] at a
 show(bg (-(quo (t+((1:Int):Rat)) lat))-bg (-(quo t lat))).abs <=27/10
 grind
def jn (x:Rat):Int:=spk (pk x+1)-spk (pk x)
def jE (t:Rat):Rat:=((14:Int):Rat)/((360:Int):Rat)-(sof (mof t pay)).abs *(((1:Int):Rat)/((1080:Int):Rat))
def dS (t:Rat):Rat:=((360:Int):Rat)/pyr*(((1:Int):Rat)-((jn (mof t pay):Int):Rat)/((225:Int):Rat)*jE t)
def gz (k:Int):Int:=if k%6=0\/k%6=5 then 1670 else if k%6=1\/k%6=4 then 1795 else 1935
def fi (t:Rat):Rat:=((gz (prt (cy t) 12):Int):Rat)/((1800:Int):Rat)
def fQ (t:Rat):Rat:=dS t*(((1:Int):Rat)/((360:Int):Rat))*(sof (mof t pay)*(((573:Int):Rat)/((10:Int):Rat))*jE t*(((1:Int):Rat)/((360:Int):Rat)))*pyr
def kap:Rat:=((1577917828:Int):Rat)/((1582237828:Int):Rat)*(((1:Int):Rat)/((360:Int):Rat))
def km (lon:Rat):Rat:=(((45461:Int):Rat)/((600:Int):Rat)-lon)*(((1:Int):Rat)/((360:Int):Rat))
def cp (t lat lon:Rat) (qd sg:Int):Rat:=t+((qd:Int):Rat)/((4:Int):Rat)+(km lon-fQ t)+(dS t*fi t*(((qd:Int):Rat)/((4:Int):Rat))+((sg:Int):Rat)*fe t lat)*kap
def cO (x:Rat):Rat:=(((x*((1048576:Int):Rat)).floor :Int):Rat)*(((1:Int):Rat)/((1048576:Int):Rat))
theorem kN (x:Rat):x-1/1000000<=cO x/\cO x<=x:=by
 have a:=ec (x*((1048576:Int):Rat))
 have b:=eK (x*((1048576:Int):Rat))
 unfold cO
 rw[show((1:Int):Rat)/((1048576:Int):Rat)=1/1048576 by decide+kernel]
 rw[show((1048576:Int):Rat)=1048576 from rfl] at*
 constructor <;> grind
theorem Cv (t:Rat):13/360<=jE t/\jE t<=14/360:=by
 have b:=dK (mof t pay)
 have c:(sof (mof t pay)).abs <=1:=fA b.1 b.2
 have d:(0:Rat)<=(sof (mof t pay)).abs :=Rat.abs_nonneg
 unfold jE
 rw[show((14:Int):Rat)/((360:Int):Rat)=14/360 by decide+kernel,show((1:Int):Rat)/((1080:Int):Rat)=1/1080 by decide+kernel]
 constructor <;> grind
theorem DZ (x:Rat): -1<=((jn x:Int):Rat)/((225:Int):Rat)/\((jn x:Int):Rat)/((225:Int):Rat)<=1:=by
 have s:=gN (pk x)
 have a:=bN s.1
 have b:=bN s.2
 rw[show((-225:Int):Rat)= -225 from rfl] at a
 rw[show((225:Int):Rat)=225 from rfl] at b ⊢
 unfold jn
 exact⟨ig (by grind) (by grind),ip (by grind) (by grind)⟩
theorem nJ (t:Rat):947/1000<=dS t/\dS t<=1025/1000:=by
 have p:=Cv t
 have s:=DZ (mof t pay)
 have m:=dX (b:=14/360) (a:=1) (x:=((jn (mof t pay):Int):Rat)/((225:Int):Rat)) (y:=jE t) (by grind) (by grind) s.1 s.2 (by grind) p.2
 have k1:985/1000<=((360:Int):Rat)/pyr:=by decide+kernel
 have k2:986/1000≥((360:Int):Rat)/pyr:=by decide+kernel
 have k3:9856/10000<=((360:Int):Rat)/pyr:=by decide+kernel
 unfold dS
 rw[Rat.intCast_one]
 generalize ((jn (mof t pay):Int):Rat)/((225:Int):Rat)*jE t=y at*
 generalize ((360:Int):Rat)/pyr=c at*
 have u:=Rat.mul_nonneg (a:=c-9856/10000) (b:=1-y) (by grind) (by grind)
 have v:=Rat.mul_nonneg (a:=986/1000-c) (b:=1-y) (by grind) (by grind)
 constructor <;> grind
theorem Dx (t:Rat):1670/1800<=fi t/\fi t<=1935/1800:=by
 have h:1670<=gz (prt (cy t) 12)/\gz (prt (cy t) 12)<=1935:=by unfold gz;split <;> (try split) <;> omega
 have a:=bN h.1
 have b:=bN h.2
 rw[show((1670:Int):Rat)=1670 from rfl] at a
 rw[show((1935:Int):Rat)=1935 from rfl] at b
 unfold fi
 rw[show((1800:Int):Rat)=1800 from rfl]
 exact⟨ig (by grind) (by grind),ip (by grind) (by grind)⟩
theorem gw (t:Rat):87/100<=dS t*fi t/\dS t*fi t<=111/100:=by
 have m:=nJ t
 have r:=Dx t
 have u:=Rat.mul_nonneg (a:=dS t-947/1000) (b:=fi t) (by grind) (by grind)
 have v:=Rat.mul_nonneg (a:=1025/1000-dS t) (b:=fi t) (by grind) (by grind)
 constructor <;> grind
theorem lR:277/100000<=kap/\kap<=27703/10000000:=by decide+kernel
theorem Fd (t:Rat):sof (mof t pay)*(((573:Int):Rat)/((10:Int):Rat))*jE t=573/10*epi (sof (mof t pay)) ssz sch:=by
 unfold jE epi
 rw[ou.1,ou.2.1,show((573:Int):Rat)/((10:Int):Rat)=573/10 by decide+kernel,show((14:Int):Rat)/((360:Int):Rat)=7/180 by decide+kernel,show((1:Int):Rat)/((1080:Int):Rat)=1/1080 by decide+kernel]
 grind
theorem qI (t:Rat):fQ t=dS t*(epi (sof (mof t pay)) ssz sch*(573/10*(1/360)*(1/360)*pyr)):=by
 unfold fQ
 rw[Fd,show((1:Int):Rat)/((360:Int):Rat)=1/360 by decide+kernel];grind
theorem xm:16/100<=573/10*(1/360)*(1/360)*pyr/\573/10*(1/360)*(1/360)*pyr<=162/1000:=by decide+kernel
theorem Bv (t:Rat): -(41/1080)<=epi (sof (mof t pay)) ssz sch/\epi (sof (mof t pay)) ssz sch<=41/1080:=by
 have b:=dK (mof t pay)
 have e:=lE (s:=ssz) (c:=sch) b.1 b.2 (by decide+kernel) (by decide+kernel) (by decide+kernel)
 have k:ssz*(1-sch)=41/1080:=by decide+kernel
 rw[k] at e;exact e
theorem nU (t:Rat): -(64/10000)<=fQ t/\fQ t<=64/10000:=by
 have m:=nJ t
 have e:=Bv t
 have c:=xm
 have n:=dX (a:=41/1080) (b:=162/1000) (x:=epi (sof (mof t pay)) ssz sch) (y:=573/10*(1/360)*(1/360)*pyr) (by grind) (by grind) e.1 e.2 (by grind) c.2
 have o:=dX (a:=1025/1000) (b:=41/1080*(162/1000)) (x:=dS t) (by grind) (by grind) (by grind) m.2 n.1 n.2
 rw[qI]
 constructor <;> grind
theorem Ca (t:Rat):(epi (sof (mof (t+((1:Int):Rat)) pay)) ssz sch-epi (sof (mof t pay)) ssz sch).abs <=7/180*(60/3438*(986/1000)):=by
 have l:=mi (((360:Int):Rat)*aQ (t+((1:Int):Rat)) pay) (((360:Int):Rat)*aQ t pay)
 rw[<-iQ fG,<-iQ fG,cY,show((60:Int):Rat)/((3438:Int):Rat)=60/3438 by decide+kernel] at l
 have d:(((360:Int):Rat)*(aQ t pay+((1:Int):Rat)/pay)-((360:Int):Rat)*aQ t pay).abs <=986/1000:=by
  rw[show((360:Int):Rat)*(aQ t pay+((1:Int):Rat)/pay)-((360:Int):Rat)*aQ t pay=((360:Int):Rat)*(((1:Int):Rat)/pay) by grind]
  decide+kernel
 have bt:=dK (mof t pay)
 have bu:=dK (mof (t+((1:Int):Rat)) pay)
 have s1:=ou.1
 have s2:=ou.2.1
 generalize sof (mof (t+((1:Int):Rat)) pay)=b at*
 generalize sof (mof t pay)=x at*
 have n:(b-x).abs <=60/3438*(986/1000):=by grind
 rcases Rat.le_total (a:=x) (b:=b) with h|h
 ·have e:=iR (s:=ssz) (c:=sch) bt.1 bu.2 h (by decide+kernel) (by decide+kernel) (by decide+kernel)
  rw[Rat.abs_of_nonneg (x:=b-x) (by grind)] at n
  rw[Rat.abs_of_nonneg e.1]
  rw[s1] at e ⊢
  grind
 ·have e:=iR (s:=ssz) (c:=sch) bu.1 bt.2 h (by decide+kernel) (by decide+kernel) (by decide+kernel)
  rw[Rat.abs_of_nonpos (x:=b-x) (by grind)] at n
  rw[Rat.abs_of_nonpos (by grind)]
  rw[s1] at e ⊢
  grind
theorem tR (t:Rat):(fQ (t+((1:Int):Rat))-fQ t).abs <=1/1000:=by
 have m:=nJ t
 have m':=nJ (t+((1:Int):Rat))
 have e:=Bv t
 have d:=bM (Ca t)
 have c:=xm
 rw[qI,qI]
 generalize epi (sof (mof (t+((1:Int):Rat)) pay)) ssz sch=b at*
 generalize epi (sof (mof t pay)) ssz sch=x at*
 generalize dS (t+((1:Int):Rat))=n at*
 generalize dS t=o at*
 generalize 573/10*(1/360)*(1/360)*pyr=k at*
 have u:=dX (a:=1025/1000) (b:=7/180*(60/3438*(986/1000))) (x:=n) (y:=b-x) (by grind) (by grind) (by grind) (by grind) (by grind) (by grind)
 have v:=dX (a:=78/1000) (b:=41/1080) (x:=n-o) (y:=x) (by grind) (by grind) (by grind) (by grind) e.1 e.2
 have q:=dX (a:=1025/1000*(7/180*(60/3438*(986/1000)))+78/1000*(41/1080)) (b:=162/1000) (x:=n*(b-x)+(n-o)*x) (y:=k) (by grind) (by grind) (by grind) (by grind) (by grind) (by grind)
 rw[show n*(b*k)-o*(x*k)=(n*(b-x)+(n-o)*x)*k by grind]
 exact fA (by grind) (by grind)
theorem yp (t:Rat) {lat:Rat} (lon:Rat) (h0: -60<=lat) (h1:lat<=60):985/1000<=cp (t+((1:Int):Rat)) lat lon 1 1-cp t lat lon 1 1/\cp (t+((1:Int):Rat)) lat lon 1 1-cp t lat lon 1 1<=1015/1000:=by
 have e:=bM (tR t)
 have d:=bM (qJ t h0 h1)
 have s:=gw t
 have s':=gw (t+((1:Int):Rat))
 have k:=lR
 unfold cp
 rw[show((1:Int):Rat)/((4:Int):Rat)=1/4 by decide+kernel,Rat.intCast_one] at*
 generalize fe (t+1) lat=d2 at*
 generalize fe t lat=d1 at*
 generalize dS (t+1)*fi (t+1)=s2 at*
 generalize dS t*fi t=s1 at*
 generalize fQ (t+1)=e2 at*
 generalize fQ t=e1 at*
 have m:=dX (a:=1/4*(111/100-87/100)+27/10) (b:=27703/10000000) (x:=(s2*(1/4)+1*d2)-(s1*(1/4)+1*d1)) (y:=kap) (by grind) (by grind) (by grind) (by grind) (by grind) k.2
 constructor <;> grind
end Go.Proofs.YtddiipaomejcfaaGreatDoor
