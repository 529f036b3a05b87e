import Derived.Test.YtnljadejcfgmaaaGreatDoorKB18
import Derived.Test.YtnljadejcfgmaaaGreatDoorKB25
namespace Go.Proofs.YtnljadejcfgmaaaGreatDoor
open Go.RowKit
set_option maxRecDepth 100000
set_option linter.unusedVariables false
set_option maxHeartbeats 8000000
section
section
theorem CY {q:Rat} {k:Int} (h1:(k:Rat)≤q) (h2:q<(k:Rat)+1):q.floor=k:=by
 have l1:k≤q.floor:=Rat.le_floor_iff.2 h1
 have l2:q.floor<k+1:=Rat.floor_lt_iff.2 (by rw[Rat.intCast_add,Rat.intCast_one];exact h2)
 omega
def lin (S:Int→Int) (y:Rat):Rat:=(S y.floor:Rat)+(y-(y.floor:Rat))*((S (y.floor+1):Rat)-(S y.floor:Rat))
theorem gw (S:Int→Int) (k:Int):lin S (k:Rat)=(S k:Rat):=by
 unfold lin;rw[Rat.floor_intCast];grind
theorem Bd {S:Int→Int} {n:Int} (h:∀k,S (k+n)=S k) (y:Rat):lin S (y+(n:Rat))=lin S y:=by
 unfold lin
 rw[Rat.floor_add_intCast,h,show y.floor+n+1=y.floor+1+n by omega,h,Rat.intCast_add]
 grind
theorem vc {y:Rat} (c:Int) (h:(y.floor:Rat)≠y):((c:Rat)-y).floor =c-y.floor-1:=by
 have h1:=gi y
 have h2:=gI y
 refine CY ?_ ?_
 ·rw[Rat.intCast_sub,Rat.intCast_sub,Rat.intCast_one];grind
 ·rw[Rat.intCast_sub,Rat.intCast_sub,Rat.intCast_one];grind
theorem lF {S:Int→Int} (c:Int) (h:∀k,S (c-k)=S k) (y:Rat):lin S ((c:Rat)-y)=lin S y:=by
 by_cases e:(y.floor:Rat)=y
 ·rw[←e,←Rat.intCast_sub,gw,gw,h]
 ·unfold lin
  rw[vc c e,show c-y.floor-1+1=c-y.floor by omega,h,show c-y.floor-1=c-(y.floor+1) by omega,h,Rat.intCast_sub,Rat.intCast_add,Rat.intCast_one]
  grind
theorem BJ {S:Int→Int} (c:Int) (h:∀k,S (c-k)= -S k) (y:Rat):lin S ((c:Rat)-y)= -lin S y:=by
 by_cases e:(y.floor:Rat)=y
 ·rw[←e,←Rat.intCast_sub,gw,gw,h,Rat.intCast_neg]
 ·unfold lin
  rw[vc c e,show c-y.floor-1+1=c-y.floor by omega,h,show c-y.floor-1=c-(y.floor+1) by omega,h,Rat.intCast_sub,Rat.intCast_add,Rat.intCast_one]
  simp only [Rat.intCast_neg]
  grind
theorem C5 {S:Int→Int} (c:Int) (h:∀k,S (k+c)= -S k) (y:Rat):lin S (y+(c:Rat))= -lin S y:=by
 unfold lin
 rw[Rat.floor_add_intCast,h,show y.floor+c+1=y.floor+1+c by omega,h,Rat.intCast_add]
 simp only [Rat.intCast_neg]
 grind
theorem Ho {S:Int→Int} (h:∀k,S k≤S (k+1)) {a b:Int} (hab:a≤b):S a≤S b:=by
 obtain⟨n,rfl⟩:∃n:Nat,b=a+n:=⟨(b-a).toNat,by omega⟩
 clear hab
 induction n with
 |zero=>simp
 |succ n ih=>
  have:=h (a+n)
  rw[show a+((n+1:Nat):Int)=a+n+1 by omega]
  omega
theorem co {a b:Int} (h:a≤b):(a:Rat)≤(b:Rat):=Rat.intCast_le_intCast.2 h
theorem pR {a b:Int} (h:a<b):(a:Rat)<(b:Rat):=Rat.intCast_lt_intCast.2 h
theorem vf {S:Int→Int} {y:Rat} (h:S y.floor≤S (y.floor+1)):(S y.floor:Rat)≤lin S y:=by
 have h1:=gi y
 have h2:=co h
 have:=Rat.mul_nonneg (show 0≤y-(y.floor:Rat) by grind) (show 0≤(S (y.floor+1):Rat)-(S y.floor:Rat) by grind)
 unfold lin;grind
theorem Ba {S:Int→Int} {y:Rat} (h:S y.floor≤S (y.floor+1)):lin S y≤(S (y.floor+1):Rat):=by
 have h1:=gI y
 have h2:=co h
 have:=Rat.mul_nonneg (show 0≤(y.floor:Rat)+1-y by grind) (show 0≤(S (y.floor+1):Rat)-(S y.floor:Rat) by grind)
 unfold lin;grind
theorem zB {S:Int→Int} {y:Rat} (h:S y.floor<S (y.floor+1)):lin S y<(S (y.floor+1):Rat):=by
 have h1:=gI y
 have h2:=pR h
 have:=Rat.mul_pos (show 0<(y.floor:Rat)+1-y by grind) (show 0<(S (y.floor+1):Rat)-(S y.floor:Rat) by grind)
 unfold lin;grind
theorem tb {S:Int→Int} (h:∀k,S k≤S (k+1)) {y z:Rat} (hyz:y≤z):lin S y≤lin S z:=by
 by_cases e:y.floor=z.floor
 ·have h2:=co (h z.floor)
  have:=Rat.mul_nonneg (show 0≤z-y by grind) (show 0≤(S (z.floor+1):Rat)-(S z.floor:Rat) by grind)
  unfold lin;rw[e];grind
 ·have hm:=Rat.floor_monotone hyz
  have h1:=Ba (h y.floor)
  have h2:=vf (h z.floor)
  have h3:=co (Ho h (show y.floor+1≤z.floor by omega))
  grind
theorem tN (S:Int→Int) (c d:Int) (y:Rat):lin (fun k=>c*k+d*S k) y=(c:Rat)*y+(d:Rat)*lin S y:=by
 unfold lin
 simp only [Rat.intCast_add,Rat.intCast_mul,Rat.intCast_one]
 grind
theorem Dt {S:Int→Int} (c:Int) (h:∀k, -c≤S (k+1)-S k∧S (k+1)-S k≤c) {y z:Rat} (hyz:y≤z):(lin S y-lin S z).abs ≤(c:Rat)*(z-y):=by
 have h1:=tb (S:=fun k=>c*k+1*S k) (fun k=>by have:=h k;show c*k+1*S k≤c*(k+1)+1*S (k+1);rw[Int.mul_add];omega) hyz
 have h2:=tb (S:=fun k=>c*k+(-1)*S k) (fun k=>by have:=h k;show c*k+(-1)*S k≤c*(k+1)+(-1)*S (k+1);rw[Int.mul_add];omega) hyz
 rw[tN,tN] at h1 h2
 rw[Rat.intCast_one] at h1
 rw[Rat.intCast_neg,Rat.intCast_one] at h2
 unfold Rat.abs
 split <;> grind
theorem rU {S:Int→Int} (c:Int) (h:∀k, -c≤S k∧S k≤c) (y:Rat): -(c:Rat)≤lin S y∧lin S y≤(c:Rat):=by
 have a1:=h y.floor
 have a2:=h (y.floor+1)
 have f1:=gi y
 have f2:=gI y
 have b1:=co a1.1;have b2:=co a1.2;have b3:=co a2.1;have b4:=co a2.2
 rw[Rat.intCast_neg] at b1 b3
 have m1:=Rat.mul_nonneg (show 0≤(y.floor:Rat)+1-y by grind) (show 0≤(c:Rat)-(S y.floor:Rat) by grind)
 have m2:=Rat.mul_nonneg (show 0≤y-(y.floor:Rat) by grind) (show 0≤(c:Rat)-(S (y.floor+1):Rat) by grind)
 have m3:=Rat.mul_nonneg (show 0≤(y.floor:Rat)+1-y by grind) (show 0≤(S y.floor:Rat)+(c:Rat) by grind)
 have m4:=Rat.mul_nonneg (show 0≤y-(y.floor:Rat) by grind) (show 0≤(S (y.floor+1):Rat)+(c:Rat) by grind)
 unfold lin
 constructor <;> grind
theorem CE {y:Rat} {k:Int} (h:(k:Rat)≤y):k≤y.floor:=Rat.le_floor_iff.2 h
theorem Eu {y:Rat} {k:Int} (h:y<(k:Rat)):y.floor<k:=Rat.floor_lt_iff.2 h
theorem lS {y z:Rat} (h1:((-24:Int):Rat)≤y) (h2:y<z) (h3:z≤((24:Int):Rat)):lin spk y<lin spk z:=by
 have fy:=CE h1
 have fy2:y.floor<24:=Eu (by grind)
 have hm:=Rat.floor_monotone (show y≤z by grind)
 by_cases e:y.floor=z.floor
 ·have:=pR (nG (k:=z.floor) (by omega) (by omega))
  have:=Rat.mul_pos (show 0<z-y by grind) (show 0<(spk (z.floor+1):Rat)-(spk z.floor:Rat) by grind)
  unfold lin;rw[e];grind
 ·have a1:=zB (S:=spk) (y:=y) (nG fy fy2)
  have fz:z.floor≤24:=by
   have:=Rat.floor_monotone h3
   rwa[Rat.floor_intCast] at this
  have a2:=co (H7 (a:=y.floor+1) (b:=z.floor) (by omega) (by omega) fz)
  have a3:(spk z.floor:Rat)≤lin spk z:=by
   by_cases e2:z.floor<24
   ·exact vf (Int.le_of_lt (nG (by omega) e2))
   ·have e3:z.floor=24:=by omega
    have e4:z=((24:Int):Rat):=by
     have:=gi z;rw[e3] at this;grind
    rw[e4,gw,Rat.floor_intCast];grind
  grind
theorem uA {y z:Rat} (h1:((-24:Int):Rat)≤y) (h2:y≤((24:Int):Rat)) (h3:((-24:Int):Rat)≤z) (h4:z≤((24:Int):Rat)) (e:lin spk y=lin spk z):y=z:=by
 by_cases a:y<z
 ·have:=lS h1 a h4;grind
 ·by_cases b:z<y
  ·have:=lS h3 b h2;grind
  ·grind
def ykf (h:Rat):Nat→Nat→Nat
 |0,k=>k
 |n+1,k=>if h≤(spk ((k:Int)+1):Rat) then k else ykf h n (k+1)
def yk (h:Rat):Nat:=ykf h 24 0
theorem za (h:Rat):∀n k:Nat,k≤ykf h n k∧ykf h n k≤k+n
 |0,k=>by simp[ykf]
 |n+1,k=>by
  unfold ykf
  split
  ·omega
  ·have:=za h n (k+1);omega
theorem uU (h:Rat):∀n k:Nat,(spk (k:Int):Rat)≤h→(spk ((ykf h n k:Nat):Int):Rat)≤h
 |0,k,hk=>by simpa[ykf] using hk
 |n+1,k,hk=>by
  unfold ykf
  split
  ·exact hk
  ·refine uU h n (k+1) ?_
   rw[show((k+1:Nat):Int)=(k:Int)+1 by omega]
   grind
theorem tz (h:Rat):∀n k:Nat,ykf h n k<k+n→h≤(spk ((ykf h n k:Nat)+1:Int):Rat)
 |0,k,hk=>by simp[ykf] at hk
 |n+1,k,hk=>by
  unfold ykf at hk ⊢
  split
  ·assumption
  ·rename_i hn
   rw[if_neg hn] at hk
   exact tz h n (k+1) (by omega)
theorem vC (h:Rat):∀n k:Nat,ykf h n k=k+n→0<n→(spk ((k:Int)+n):Rat)<h
 |0,_,_,hn=>by omega
 |n+1,k,hk,_=>by
  unfold ykf at hk
  split at hk
  ·omega
  ·rename_i hh
   by_cases e:n=0
   ·subst e
    rw[show(k:Int)+((0+1:Nat):Int)=(k:Int)+1 by omega]
    grind
   ·have:=vC h n (k+1) (by omega) (by omega)
    rw[show((k+1:Nat):Int)+(n:Int)=(k:Int)+((n+1:Nat):Int) by omega] at this
    exact this
def ay (h:Rat):Rat:=if yk h<24 then(h-(spk (yk h):Rat))/((spk ((yk h:Nat)+1:Int)-spk (yk h):Int):Rat)+((yk h:Nat):Int) else((24:Int):Rat)
theorem CR {h:Rat} (h0:0≤h) (h1:h≤((3438:Int):Rat)):0≤ay h∧ay h≤((24:Int):Rat)∧lin spk (ay h)=h:=by
 have hl:=uU h 24 0 (by rw[show spk ((0:Nat):Int)=0 by decide+kernel,Rat.intCast_zero];exact h0)
 have hk:=za h 24 0
 have hh:=tz h 24 0
 have he:=vC h 24 0
 change (spk (yk h:Nat):Rat)≤h at hl
 change 0≤yk h∧yk h≤0+24 at hk
 change yk h<0+24→_ at hh
 change yk h=0+24→_ at he
 change _→h≤(spk ((yk h:Nat)+1:Int):Rat) at hh
 by_cases c:yk h<24
 ·have hh:=hh (by omega)
  have up:=nG (k:=(yk h:Nat)) (by omega) (by omega)
  unfold ay
  rw[if_pos c]
  generalize yk h=n at*
  have upq:=pR up
  have hd:(0:Rat)<((spk ((n:Nat)+1:Int)-spk (n:Nat):Int):Rat):=by rw[Rat.intCast_sub];grind
  have f0:0≤(h-(spk (n:Nat):Rat))/((spk ((n:Nat)+1:Int)-spk (n:Nat):Int):Rat):=Rat.not_lt.1 fun hn=>by rw[Rat.div_lt_iff hd] at hn;grind
  have f1:(h-(spk (n:Nat):Rat))/((spk ((n:Nat)+1:Int)-spk (n:Nat):Int):Rat)≤1:=Rat.not_lt.1 fun hn=>by rw[Rat.lt_div_iff hd,Rat.intCast_sub] at hn;grind
  have fm:(h-(spk (n:Nat):Rat))/((spk ((n:Nat)+1:Int)-spk (n:Nat):Int):Rat)*((spk ((n:Nat)+1:Int)-spk (n:Nat):Int):Rat)=h-(spk (n:Nat):Rat):=Rat.div_mul_cancel (by grind)
  generalize (h-(spk (n:Nat):Rat))/((spk ((n:Nat)+1:Int)-spk (n:Nat):Int):Rat)=f at*
  have k0:=co (show(0:Int)≤((n:Nat):Int) by omega)
  have k1:=co (show((n:Nat):Int)+1≤24 by omega)
  rw[Rat.intCast_add,Rat.intCast_one] at k1
  rw[Rat.intCast_zero] at k0
  rw[Rat.intCast_sub] at fm
  refine⟨by grind,by grind,?_⟩
  by_cases c1:f=1
  ·rw[c1,show(1:Rat)+(((n:Nat):Int):Rat)=(((n:Nat)+1:Int):Rat) by rw[Rat.intCast_add,Rat.intCast_one];grind,gw]
   grind
  ·have ef:(f+(((n:Nat):Int):Rat)).floor =((n:Nat):Int):=CY (by grind) (by grind)
   unfold lin
   rw[ef]
   grind
 ·have e:yk h=24:=by omega
  have:=he (by omega) (by decide)
  rw[show spk (((0:Nat):Int)+((24:Nat):Int))=3438 by decide+kernel] at this
  grind
def ap (a:Rat):Rat:=if a<0 then -ay (-a) else ay a
theorem rK {h:Rat} (h0:((-3438:Int):Rat)≤h) (h1:h≤((3438:Int):Rat)):((-24:Int):Rat)≤ap h∧ap h≤((24:Int):Rat)∧lin spk (ap h)=h:=by
 have e1:((-3438:Int):Rat)= -((3438:Int):Rat):=Rat.intCast_neg _
 have e2:((-24:Int):Rat)= -((24:Int):Rat):=Rat.intCast_neg _
 unfold ap
 split
 ·obtain⟨a,b,c⟩:=CR (h:= -h) (by grind) (by grind)
  refine⟨by grind,by grind,?_⟩
  have:=BJ (S:=spk) 0 (fun k=>by rw[Int.zero_sub];exact Ff k) (ay (-h))
  rw[show((0:Int):Rat)-ay (-h)= -ay (-h) by rw[Rat.intCast_zero];grind,c] at this
  rw[this];grind
 ·obtain⟨a,b,c⟩:=CR (h:=h) (by grind) h1
  have:(0:Rat)≤((24:Int):Rat):=by decide+kernel
  exact⟨by grind,b,c⟩
def wd:Rat:=((360:Int):Rat)/((96:Int):Rat)
theorem dQ:wd=15/4:=by decide+kernel
def sof (x:Rat):Rat:=lin spk (x/wd)/((3438:Int):Rat)
def br (a:Rat):Rat:=ap (a*((3438:Int):Rat))*wd
theorem ed:((3438:Int):Rat)=3438:=rfl
theorem jy (y:Rat) (n:Int):lin spk (y+((96*n:Int):Rat))=lin spk y:=Bd (fun k=>Et k n) y
theorem Ao (y:Rat):lin spk (rmod y ((96:Int):Rat))=lin spk y:=by
 unfold rmod
 rw[if_neg (by decide+kernel)]
 have:=jy y (-(y/((96:Int):Rat)).floor)
 rw[←this]
 congr 1
 rw[Rat.intCast_mul,Rat.intCast_neg];grind
theorem FV (x:Rat):(((spk (rmod (x/wd) ((96:Int):Rat)).floor :Int):Rat)+(rmod (x/wd) ((96:Int):Rat)-(((rmod (x/wd) ((96:Int):Rat)).floor :Int):Rat))*((spk ((rmod (x/wd) ((96:Int):Rat)).floor +1)-spk (rmod (x/wd) ((96:Int):Rat)).floor :Int):Rat))/((3438:Int):Rat)=sof x:=by
 unfold sof
 rw[←Ao (x/wd)]
 unfold lin
 rw[Rat.intCast_sub]
theorem FB (a b:Rat):(a+b)/wd=a/wd+b/wd:=by rw[dQ];grind
theorem lC (p:Rat) (n:Int):sof (p+((360:Int):Rat)*(n:Rat))=sof p:=by
 unfold sof
 rw[FB,show((360:Int):Rat)*(n:Rat)/wd=((96*n:Int):Rat) by rw[dQ,Rat.intCast_mul,show((360:Int):Rat)=360 from rfl,show((96:Int):Rat)=96 from rfl];grind,jy]
theorem Cg (p:Rat):sof (((180:Int):Rat)-p)=sof p:=by
 unfold sof
 rw[show(((180:Int):Rat)-p)/wd=((48:Int):Rat)-p/wd by rw[dQ,show((180:Int):Rat)=180 from rfl,show((48:Int):Rat)=48 from rfl];grind,lF 48 k9]
theorem Fj (p:Rat):p/wd*wd=p:=by rw[dQ];grind
theorem vh {a:Rat} (h1:((-1:Int):Rat)≤a) (h2:a≤((1:Int):Rat)):sof (br a)=a:=by
 have e1:((-1:Int):Rat)= -1:=by decide+kernel
 have e2:((1:Int):Rat)=1:=by decide+kernel
 have e3:((-3438:Int):Rat)= -3438:=by decide+kernel
 obtain⟨_,_,h⟩:=rK (h:=a*((3438:Int):Rat)) (by rw[ed];grind) (by rw[ed];grind)
 unfold sof br
 rw[show ap (a*((3438:Int):Rat))*wd/wd=ap (a*((3438:Int):Rat)) by rw[dQ];grind,h,ed]
 grind
theorem fv (p:Rat): -1≤sof p∧sof p≤1:=by
 have:=rU (S:=spk) 3438 iR (p/wd)
 unfold sof
 rw[ed] at*
 constructor <;> grind
theorem Bg {d:Rat} (h1:((-90:Int):Rat)≤d) (h2:d≤((90:Int):Rat)):((-24:Int):Rat)≤d/wd∧d/wd≤((24:Int):Rat):=by
 have e1:((-90:Int):Rat)= -90:=by decide+kernel
 have e2:((90:Int):Rat)=90:=by decide+kernel
 have e3:((-24:Int):Rat)= -24:=by decide+kernel
 have e4:((24:Int):Rat)=24:=by decide+kernel
 rw[dQ]
 constructor <;> grind
theorem fE (p:Rat):sof p*((3438:Int):Rat)=lin spk (p/wd):=by unfold sof;rw[ed];grind
theorem I4 {d:Rat} (h1:((-90:Int):Rat)≤d) (h2:d≤((90:Int):Rat)):br (sof d)=d:=by
 have b:=rU (S:=spk) 3438 iR (d/wd)
 have e3:((-3438:Int):Rat)= -((3438:Int):Rat):=by decide+kernel
 obtain⟨a1,a2,a3⟩:=rK (h:=lin spk (d/wd)) (by grind) b.2
 obtain⟨w1,w2⟩:=Bg h1 h2
 unfold br
 rw[fE,uA a1 a2 w1 w2 a3,Fj]
theorem fQ {a b:Rat} (h1: -b≤a) (h2:a≤b):a.abs≤b:=by unfold Rat.abs;split <;> grind
theorem pj (a:Rat):a≤a.abs∧ -a≤a.abs∧(a.abs=a∨a.abs= -a):=by unfold Rat.abs;split <;> grind
theorem nj (p q:Rat):(sof p-sof q).abs ≤(p-q).abs *(((60:Int):Rat)/((3438:Int):Rat)):=by
 have key:∀ {p q:Rat},p≤q→ -((q-p)*(60/3438))≤sof p-sof q∧sof p-sof q≤(q-p)*(60/3438):=by
  intro p q h
  have hw:p/wd≤q/wd:=by rw[dQ];grind
  have:=Dt (S:=spk) 225 gt hw
  obtain⟨l1,l2,_⟩:=pj (lin spk (p/wd)-lin spk (q/wd))
  have e:((225:Int):Rat)*(q/wd-p/wd)=60*(q-p):=by rw[dQ,show((225:Int):Rat)=225 from rfl];grind
  rw[e] at this
  have s1:=fE p
  have s2:=fE q
  rw[ed] at s1 s2
  constructor <;> grind
 have e:((60:Int):Rat)/((3438:Int):Rat)=60/3438:=by decide+kernel
 rw[e]
 by_cases h:p≤q
 ·obtain⟨a,b⟩:=key h
  have:(p-q).abs =q-p:=by unfold Rat.abs;split <;> grind
  rw[this];exact fQ a b
 ·obtain⟨a,b⟩:=key (show q≤p by grind)
  have:(p-q).abs =p-q:=by unfold Rat.abs;split <;> grind
  rw[this];exact fQ (by grind) (by grind)
theorem lG {p q:Rat} (h1:((-90:Int):Rat)≤p) (h2:p<q) (h3:q≤((90:Int):Rat)):sof p<sof q:=by
 have w1:=(Bg h1 (by grind)).1
 have w2:=(Bg (by grind) h3).2
 have:=lS w1 (show p/wd<q/wd by rw[dQ];grind) w2
 have s1:=fE p
 have s2:=fE q
 rw[ed] at s1 s2
 grind
theorem DF {f e0 e1 v:Rat} (h0:0≤f) (h1:f≤1) (a1:e0≤4000) (a2: -4000≤e0) (b1:e1≤4000) (b2: -4000≤e1) (c1:v≤4000) (c2: -30000≤v):
 (1-f)*(1-f)*e0+f*f*e1+2*(f*(1-f))*v≤4000∧ -17000≤(1-f)*(1-f)*e0+f*f*e1+2*(f*(1-f))*v:=by
 have t0:0≤f*(1-f):=Rat.mul_nonneg h0 (by grind)
 have s1:0≤(1-f)*(1-f):=Rat.mul_nonneg (by grind) (by grind)
 have s2:0≤f*f:=Rat.mul_nonneg h0 h0
 have m1:=Rat.mul_nonneg s1 (show 0≤4000-e0 by grind)
 have m2:=Rat.mul_nonneg s1 (show 0≤e0+4000 by grind)
 have m3:=Rat.mul_nonneg s2 (show 0≤4000-e1 by grind)
 have m4:=Rat.mul_nonneg s2 (show 0≤e1+4000 by grind)
 have m5:=Rat.mul_nonneg t0 (show 0≤4000-v by grind)
 have m6:=Rat.mul_nonneg t0 (show 0≤v+30000 by grind)
 have sq:0≤(f-1/2)*(f-1/2):=by
  by_cases h:f-1/2≤0
  ·have:=Rat.mul_nonneg (show 0≤ -(f-1/2) by grind) (show 0≤ -(f-1/2) by grind);grind
  ·exact Rat.mul_nonneg (by grind) (by grind)
 constructor <;> grind
theorem AQ (y:Rat):lin spk y*lin spk y+lin spk (y+((24:Int):Rat))*lin spk (y+((24:Int):Rat))-11819844≤4000∧ -17000≤lin spk y*lin spk y+lin spk (y+((24:Int):Rat))*lin spk (y+((24:Int):Rat))-11819844:=by
 have f0:=gi y
 have f1:=gI y
 have e:lin spk (y+((24:Int):Rat))=(spk (y.floor+24):Rat)+(y-(y.floor:Rat))*((spk (y.floor+25):Rat)-(spk (y.floor+24):Rat)):=by
  unfold lin
  rw[Rat.floor_add_intCast,show y.floor+24+1=y.floor+25 by omega,Rat.intCast_add];grind
 rw[e]
 unfold lin
 obtain⟨⟨t1,t2⟩,t3,t4⟩:=sK y.floor
 obtain⟨⟨t5,t6⟩,_⟩:=sK (y.floor+1)
 rw[show y.floor+1+24=y.floor+25 by omega] at t5 t6
 replace t1:=co t1;replace t2:=co t2;replace t3:=co t3;replace t4:=co t4;replace t5:=co t5;replace t6:=co t6
 simp only [Rat.intCast_add,Rat.intCast_mul,Rat.intCast_sub] at t1 t2 t3 t4 t5 t6
 rw[show((11819844:Int):Rat)=11819844 from rfl] at*
 rw[show((4000:Int):Rat)=4000 from rfl] at t1 t3 t5
 rw[show((-4000:Int):Rat)= -4000 from rfl] at t2 t6
 rw[show((-30000:Int):Rat)= -30000 from rfl] at t4
 generalize (spk y.floor:Rat)=A at*
 generalize (spk (y.floor+1):Rat)=B at*
 generalize (spk (y.floor+24):Rat)=C at*
 generalize (spk (y.floor+25):Rat)=D at*
 obtain⟨f,hf⟩:∃f,f=y-(y.floor:Rat):=⟨_,rfl⟩
 rw[←hf]
 have:=DF (f:=f) (e0:=A*A+C*C-11819844) (e1:=B*B+D*D-11819844) (v:=A*B+C*D-11819844) (by grind) (by grind) t1 t2 t5 t6 t3 t4
 have e2:(A+f*(B-A))*(A+f*(B-A))+(C+f*(D-C))*(C+f*(D-C))-11819844=(1-f)*(1-f)*(A*A+C*C-11819844)+f*f*(B*B+D*D-11819844)+2*(f*(1-f))*(A*B+C*D-11819844):=by grind
 rw[e2]
 exact this
theorem yH (p:Rat):(sof p*sof p+sof (p+((90:Int):Rat))*sof (p+((90:Int):Rat))-((1:Int):Rat)).abs ≤((1:Int):Rat)/((500:Int):Rat):=by
 have e1:((1:Int):Rat)=1:=by decide+kernel
 have e2:((1:Int):Rat)/((500:Int):Rat)=1/500:=by decide+kernel
 rw[e2,e1]
 have h:=AQ (p/wd)
 have e3:(p+((90:Int):Rat))/wd=p/wd+((24:Int):Rat):=by rw[dQ,show((90:Int):Rat)=90 from rfl,show((24:Int):Rat)=24 from rfl];grind
 have s1:=fE p
 have s2:=fE (p+((90:Int):Rat))
 rw[e3] at s2
 rw[←s1,←s2,ed] at h
 generalize sof p=s at*
 generalize sof (p+((90:Int):Rat))=c at*
 exact fQ (by grind) (by grind)
theorem Bu (y:Rat):∃z:Rat,((-24:Int):Rat)≤z∧z≤((24:Int):Rat)∧lin spk z=lin spk y∧lin spk (z+((24:Int):Rat))=(lin spk (y+((24:Int):Rat))).abs :=by
 have e24:((24:Int):Rat)=24:=by decide+kernel
 have e48:((48:Int):Rat)=48:=by decide+kernel
 have em24:((-24:Int):Rat)= -24:=by decide+kernel
 have e96:((96:Int):Rat)=96:=by decide+kernel
 obtain⟨r,hr0,hr1,n,hn⟩:∃r:Rat, -24≤r∧r<72∧∃n:Int,y=r+((96*n:Int):Rat):=by
  refine⟨rmod (y+24) 96-24,?_,?_,((y+24)/96).floor,?_⟩
  ·have:=dv (x:=y+24) (m:=96) (by grind);grind
  ·have:=cW (x:=y+24) (m:=96) (by grind);grind
  ·unfold rmod;rw[if_neg (by grind),Rat.intCast_mul,e96];grind
 have y1:lin spk y=lin spk r:=by rw[hn,jy]
 have y2:lin spk (y+((24:Int):Rat))=lin spk (r+((24:Int):Rat)):=by
  rw[hn,show r+((96*n:Int):Rat)+((24:Int):Rat)=r+((24:Int):Rat)+((96*n:Int):Rat) by grind,jy]
 have pos:∀z:Rat,0≤z→z≤48→0≤lin spk z:=by
  have l0:lin spk 0=0:=by have:=gw spk 0;rw[Rat.intCast_zero] at this;rw[this];decide+kernel
  have low:∀z:Rat,0≤z→z≤24→0≤lin spk z:=by
   intro z a b
   by_cases c:z=0
   ·rw[c,l0];grind
   ·have:=lS (y:=0) (z:=z) (by rw[em24];grind) (by grind) (by rw[e24];grind);grind
  intro z a b
  by_cases c:z≤24
  ·exact low z a c
  ·have:=lF (S:=spk) 48 k9 z
   rw[←this,e48];exact low _ (by grind) (by grind)
 rw[y1,y2]
 by_cases c:r≤24
 ·refine⟨r,by rw[em24];exact hr0,by rw[e24];exact c,rfl,?_⟩
  have:=pos (r+((24:Int):Rat)) (by rw[e24];grind) (by rw[e24];grind)
  unfold Rat.abs;rw[if_pos this]
 ·refine⟨((48:Int):Rat)-r,by rw[em24,e48];grind,by rw[e24,e48];grind,lF 48 k9 r,?_⟩
  have h1:lin spk (((48:Int):Rat)-r+((24:Int):Rat))=lin spk (r-((24:Int):Rat)):=by
   rw[←lF (S:=spk) 48 k9 (r-((24:Int):Rat))]
   congr 1;grind
  have h2:=C5 (S:=spk) 48 zH (r-((24:Int):Rat))
  rw[show r-((24:Int):Rat)+((48:Int):Rat)=r+((24:Int):Rat) by rw[e24,e48];grind] at h2
  have:=pos (r-((24:Int):Rat)) (by rw[e24];grind) (by rw[e24];grind)
  rw[h1,h2]
  unfold Rat.abs;split <;> grind
theorem Af (p:Rat):sof (br (sof p))=sof p∧sof (br (sof p)+((90:Int):Rat))=(sof (p+((90:Int):Rat))).abs :=by
 obtain⟨z,h1,h2,h3,h4⟩:=Bu (p/wd)
 have b:=fv p
 refine⟨vh (by rw[show((-1:Int):Rat)= -1 from rfl];exact b.1) (by rw[show((1:Int):Rat)=1 from rfl];exact b.2),?_⟩
 have e:br (sof p)=z*wd:=by
  have q:=rU (S:=spk) 3438 iR (p/wd)
  have e3:((-3438:Int):Rat)= -((3438:Int):Rat):=by decide+kernel
  obtain⟨a1,a2,a3⟩:=rK (h:=lin spk (p/wd)) (by grind) q.2
  unfold br
  rw[fE,uA a1 a2 h1 h2 (a3.trans h3.symm)]
 rw[e]
 unfold sof
 rw[show(z*wd+((90:Int):Rat))/wd=z+((24:Int):Rat) by rw[dQ,show((90:Int):Rat)=90 from rfl,show((24:Int):Rat)=24 from rfl];grind,show(p+((90:Int):Rat))/wd=p/wd+((24:Int):Rat) by rw[dQ,show((90:Int):Rat)=90 from rfl,show((24:Int):Rat)=24 from rfl];grind,h4,ed]
 unfold Rat.abs
 split <;> split <;> grind
def pk (x:Rat):Int:=(rmod (x/wd) ((96:Int):Rat)).floor
def pfr (x:Rat):Rat:=rmod (x/wd) ((96:Int):Rat)-((pk x:Int):Rat)
theorem iM (x:Rat):0≤pk x∧pk x<96:=by
 have h:(0:Rat)<((96:Int):Rat):=by decide+kernel
 have h1:=dv (x:=x/wd) h
 have h2:=cW (x:=x/wd) h
 refine⟨Rat.le_floor_iff.2 (by rw[Rat.intCast_zero];exact h1),Rat.floor_lt_iff.2 h2⟩
theorem Hk (x:Rat):fV (rmod (x/wd) ((96:Int):Rat)).floor =pk x:=ms (by have:=iM x;unfold pk at this;omega) (by have:=iM x;unfold pk at this;omega)
theorem ls (x:Rat):(((spk (pk x):Int):Rat)+pfr x*((spk (pk x+1)-spk (pk x):Int):Rat))/((3438:Int):Rat)=sof x:=FV x
theorem mn:au wd 2:=(aJ (az (by decide) (by decide)) (az (by decide) (by decide))).up 2 (by decide)
theorem bN {n:Int} (h0: -9223372036854775808≤n) (h1:n≤9223372036854775807):au ((n:Int):Rat) 2:=a9 (az h0 h1) (by decide)
theorem wt {x:Rat} {k:Nat} (h:au x k):au (rmod (x/wd) ((96:Int):Rat)) (2*k+20):=(jV (cF h mn) (bN (by decide) (by decide))).up _ (by omega)
theorem uI {x:Rat} {k:Nat} (h:au x k):au (pfr x) (4*k+50):=(tx (wt h)).up _ (by omega)
theorem df (k:Int): -9223372036854775808≤spk k∧spk k≤9223372036854775807:=by have:=iR k;omega
theorem dW (k:Int): -9223372036854775808≤spk (k+1)-spk k∧spk (k+1)-spk k≤9223372036854775807:=by have:=gt k;omega
theorem Ed {x:Rat} {k:Nat} (h:au x k):au (sof x) (4*k+60):=by
 rw[←ls]
 exact(cF (bp (bN (df _).1 (df _).2) (a7 (uI h) (bN (dW _).1 (dW _).2))) (bN (n:=3438) (by decide) (by decide))).up _ (by omega)
theorem yS {h:Rat} {k:Nat} (l:au h k):au (ay h) (k+10):=by
 unfold ay
 split
 ·exact(bp (cF (bQ l (bN (df _).1 (df _).2)) (bN (dW _).1 (dW _).2)) (bN (by omega) (by omega))).up _ (by omega)
 ·exact(bN (by decide) (by decide)).up _ (by omega)
theorem j5 {x:Rat} {k:Nat} (l:au x k):au (br x) (k+20):=by
 have h:=a7 l (bN (n:=3438) (by decide) (by decide))
 unfold br ap
 refine(a7 (k:=k+12) ?_ mn).up _ (by omega)
 split
 ·exact eM (yS (eM h))
 ·exact yS h
theorem uV {k:Int} (h0:0≤k) (h1:k≤24):hiT.getD (max 0 (min k 24)).toNat 0=spk k:=by
 have t:∀n:Nat,n<25→hiT.getD (max 0 (min (n:Int) 24)).toNat 0=spk (n:Int):=by decide+kernel
 have:=t k.toNat (by omega)
 rwa[show((k.toNat:Nat):Int)=k by omega] at this
theorem yJ {a b:Rat}:0<qc a b↔b<a:=by
 rw[zp]
 split
 ·constructor
  ·intro h;omega
  ·intro h;grind
 ·split
  ·constructor
   ·intro;assumption
   ·intro;omega
  ·constructor
   ·intro h;omega
   ·intro h;contradiction
theorem uY {h:Rat} {j:Nat} (hj:j<24) (e:ykf h (24-j) j=yk h) (hc:0<qc h ((spk (((j:Nat):Int)+1):Int):Rat)):ykf h (24-(j+1)) (j+1)=yk h:=by
 rw[←e,show 24-j=(24-(j+1))+1 by omega]
 show _=if h≤_ then _ else _
 have:=yJ.1 hc
 rw[if_neg (by grind)]
theorem uL {h:Rat} {j:Nat} (hj:j<24) (e:ykf h (24-j) j=yk h) (hc:¬0<qc h ((spk (((j:Nat):Int)+1):Int):Rat)):yk h=j:=by
 rw[←e,show 24-j=(24-(j+1))+1 by omega]
 show(if h≤_ then _ else _)=_
 have:¬_<_:=fun q=>hc (yJ.2 q)
 rw[if_pos (by grind)]
theorem tZ {x:Rat} {j:Nat} (hx:¬x<0) (hj:j<24) (e:yk (x*((3438:Int):Rat))=j):((x*((3438:Int):Rat)-((spk ((j:Nat):Int):Int):Rat))/((spk (((j:Nat):Int)+1)-spk ((j:Nat):Int):Int):Rat)+((((j:Nat):Int):Int):Rat))*wd=br x:=by
 unfold br ap
 rw[if_neg (by rw[ed];grind)]
 unfold ay
 rw[e,if_pos hj]
theorem pP {x:Rat} (hx:¬x<0) (e:yk (x*((3438:Int):Rat))=24):((90:Int):Rat)=br x:=by
 unfold br ap
 rw[if_neg (by rw[ed];grind)]
 unfold ay
 rw[e,if_neg (by decide)]
 decide+kernel
theorem vN {x:Rat} (hx:x<0): -(br (-x))=br x:=by
 unfold br ap
 rw[if_neg (by rw[ed];grind),if_pos (by rw[ed];grind),show -x*((3438:Int):Rat)= -(x*((3438:Int):Rat)) by grind]
 grind
theorem kU {q:Rat}:sz q.num<0↔q<0:=by
 rw[xV]
 split
 ·constructor <;> intro <;> first|assumption|omega
 ·split
  ·constructor <;> intro <;> first|contradiction|omega
  ·constructor <;> intro <;> first|contradiction|omega
theorem vp {q:Rat} (h:q<0):¬sz (-q).num <0:=by
 rw[kU];grind
def zV (w:World) (x:Rat):Ending→World→Prop:=fun e w'=>∃v,e= .returned (.tuple #[.int .i64 (pk x),v])∧Rq w' v (pfr x)∧Below w.heap.size w w'
theorem Ha {a b:Int} {v:Value} (h:a=b):Ending.returned (.tuple #[.int .i64 a,v])= .returned (.tuple #[.int .i64 b,v]):=by rw[h]
theorem ud {P:Program} {fn:Func} {a:Act} {w:World} {t u:Tmp} {T:TypeId} {p:Addr} {v x:Value} (h:fn.results=#[.tmp t,.cell u T]) (hx:a.tmps.getD t undef=x) (ha:a.tmps.getD u undef= .pointer (some p)) (hl:(Instr.loadAt T (.pointer (some p))).run P w= .ok v w):
 (results fn a.tmps).run P w= .ok (.tuple #[x,v]) w:=by
 have hl':(loadVar T p).run P w= .ok v w:=hl
 have e:(asAddr (a.tmps.getD u undef)).run P w= .ok p w:=by rw[ha];rfl
 simp only [results,h,List.mapM_toArray,List.mapM_cons,List.mapM_nil,Sem.run_bind,e,Result.andThen_ok,hl',Sem.run_pure,Sem.run_map,hx]
 rfl
end
section
theorem oK (k:Int) (w:World) (hT:bV w) (h0:0≤k) (h1:k≤24):Calls Tryz.prog 247 #[.int .i64 k] w (aR w (.int .i64 (spk k))):=by
 have:=oD k w hT
 rwa[show hiv k=spk k from uV h0 h1] at this
theorem rf (w:World):
 Calls Tryz.prog 248 #[] w (bl w wd):=by
 have st:=St.start w
 refine go0 (nt:=2) Tryz.func248 rfl rfl fun a hF=>?_
 refine wq ?_
 refine S.alloc st hF ah rfl rfl fun g0 w1 a st hF=>?_
 refine nq ?_
 refine S.ck st hF (rgc k35 (aC ao ao)) (aD (bw (360) (96) _ (by decide) (by decide) (by decide) (by decide)) (au.up (aJ (az (by decide) (by decide)) (az (by decide) (by decide))) 2 (by decide))) Rl.cl rfl fun vv3 w2 a st hF=>?_
 obtain⟨r5,rfl⟩:=Rq.fo (st.f 0 rfl).1
 refine so st hF 0 1 0 ah rfl rfl rfl rfl fun w6 a st hF=>?_
 refine nr ?_
 refine rs Tryz.results248 st hF 1 0 ah rfl rfl rfl ?_
 have bel:=st.bel
 exact⟨_,rfl,(st.f 0 rfl).1,bel⟩
theorem ol (k:Int) (w:World) (hT:bV w) (h0: -1000000≤k) (h1:k≤1000000):
 Calls Tryz.prog 246 #[.int .i64 k] w (aR w (.int .i64 (spk (k+1)-spk k))):=by
 have hsa:=iR k
 have hsb:=iR (k+1)
 have st:=St.start w
 refine go1 (nt:=9) Tryz.func246 rfl rfl rfl fun a hF=>?_
 refine wq ?_
 refine oC hF rfl fun a hF=>?_
 refine nq ?_
 refine oM hF 1 rfl rfl fun a hF=>?_
 refine oV hF (aq (hF.at 0 rfl) ao ab (bq (by omega) (by omega))) rfl fun a hF=>?_
 refine cX st hF (rgc AW (aI (hF.at 0 rfl))) (mU (k+1) _ (hT.below st.bel)) rfl fun w1 a st hF=>?_
 refine oM hF 4 rfl rfl fun a hF=>?_
 refine cX st hF (rgc AW (aI (hF.at 0 rfl))) (mU k _ (hT.below st.bel)) rfl fun w2 a st hF=>?_
 refine oV hF (aq (hF.at 2 rfl) (hF.at 0 rfl) ab (cv (by omega) (by omega))) rfl fun a hF=>?_
 refine oE hF 0 rfl rfl fun a hF=>?_
 refine nr ?_
 have bel:=st.bel
 refine rt Tryz.results246 hF 0 rfl ?_
 exact⟨rfl,bel⟩
theorem qG (v1:Value) (qx:Rat) (k:Nat) (w:World) (h1:Rq w v1 qx) (hl:au qx k) (hk:k≤900):
 Calls Tryz.prog 244 #[v1] w (zV w qx):=by
 have st:=St.start w
 refine go1 (nt:=20) Tryz.func244 rfl rfl rfl fun a hF=>?_
 refine wq ?_
 obtain⟨r2,rfl⟩:=Rq.fo h1
 refine bx st hF 0 rfl rfl fun g1 w1 a st hF=>?_
 refine oC hF rfl fun a hF=>?_
 refine S.alloc st hF ah rfl rfl fun g3 w3 a st hF=>?_
 refine ns ?_
 refine E.rga 6 aF hF [7,8,9,10,11,4] [_,_,_,_,_,kn w3 [.bool false,.slice none 0 0,.slice none 0 0]] [5] ⟨fun _ _ ⟨g,e,_,o⟩=>⟨g,e,o.lt⟩,trivial⟩ (by decide+kernel) rfl rfl rfl ⟨rb st ah 2 1 rfl,ck st Gi rfl fun _ s=>aD (rf _) mn,ck st k75 rfl fun _ s _ x8=>m8 ⟨(h1.below s.bel),hl⟩ x8,ck st k40 rfl fun _ s=>aD (bj (96) _ (by decide) (by decide)) (a9 (az (by decide) (by decide)) (by omega)),ck st AZ rfl fun _ s _ x9 _ x10=>IH x9 x10,ra ah rfl rfl,trivial⟩ ?_
 intro a w4 hF bb hall hne
 have s0:=st
 replace st:=st.to bb
 obtain⟨vv5,hF,st⟩:=rS hall hF st 4 rfl rfl Rl.cl
 obtain⟨r7,rfl⟩:=Rq.fo (st.f 0 rfl).1
 obtain⟨_,e4,g4,rfl,ge4,o4⟩:=sS hall 5 4 rfl rfl
 replace st:=st.push o4.blk (Nat.le_trans s0.bel.size ge4) (s0.ne ge4)
 clear o4
 replace hF:=hF.add e4
 clear hall bb hne s0
 refine so st hF 0 0 1 ah rfl rfl rfl rfl fun w8 a st hF=>?_
 refine nq ?_
 refine oL hF st 0 0 ah rfl rfl rfl rfl fun a hF=>?_
 refine cX st hF (rgc k89 (aI (hF.at 0 rfl))) (kg _ _ ((k+2)+(k+2)+2+2+3) _ (st.f 0 rfl).1 (st.f 0 rfl).2 (by omega)) rfl fun w9 a st hF=>?_
 refine oM hF 0 rfl rfl fun a hF=>?_
 refine oV hF (aW (v:= .int .i64 (fV (Rat.floor (rmod ((qx)/(wd)) (((96:Int):Rat)))))) (hF.at 0 rfl) rfl) rfl fun a hF=>?_
 refine oV hF (aW (v:= .bool (gv (Rat.floor (rmod ((qx)/(wd)) (((96:Int):Rat)))))) (hF.at 1 rfl) rfl) rfl fun a hF=>?_
 refine oA hF 1 rfl rfl fun a hF=>?_
 refine oA hF 1 rfl rfl fun a hF=>?_
 refine nq ?_
 refine oM hF 1 rfl rfl fun a hF=>?_
 refine oL hF st 8 0 ah rfl rfl rfl rfl fun a hF=>?_
 refine S.ck st hF (rgc Gt (aI (hF.at 0 rfl))) (CC (st.f 0 rfl)) Rl.cl rfl fun vv11 w10 a st hF=>?_
 obtain⟨r13,rfl⟩:=Rq.fo (st.f 0 rfl).1
 refine oE hF 2 rfl rfl fun a hF=>?_
 refine so st hF 1 13 1 ah rfl rfl rfl rfl fun w14 a st hF=>?_
 refine nr ?_
 have bel:=st.bel
 refine bodyPost_ret (ud Tryz.results244 (hF.at 0 rfl) (hF.at 13 rfl) (cD ah (st.bk 1 rfl) rfl)) hF.dfr ?_
 exact⟨_,Ha (Hk qx),(st.f 0 rfl).1,bel⟩
theorem vr (v1:Value) (qx:Rat) (k:Nat) (w:World) (hT:bV w) (h1:Rq w v1 qx) (hl:au qx k) (hk:k≤800):
 Calls Tryz.prog 223 #[v1] w (bl w (sof qx)):=by
 have st:=St.start w
 refine go1 (nt:=23) Tryz.func223 rfl rfl rfl fun a hF=>?_
 refine wq ?_
 obtain⟨r2,rfl⟩:=Rq.fo h1
 refine bx st hF 0 rfl rfl fun g1 w1 a st hF=>?_
 refine S.alloc st hF ah rfl rfl fun g2 w3 a st hF=>?_
 refine nq ?_
 refine oL hF st 1 1 ah rfl rfl rfl rfl fun a hF=>?_
 refine S.callt st hF (rgc FC (aI (hF.at 0 rfl))) (qG _ (qx) k _ (h1.below st.bel) hl (by omega)) (fun _ _ h=>h) Rq.cl rfl rfl rfl rfl fun vv5 w4 a st hF=>?_
 have hpk:=iM (qx)
 obtain⟨r7,rfl⟩:=Rq.fo (st.f 0 rfl)
 refine oM hF 0 rfl rfl fun a hF=>?_
 refine oV hF (aW (v:= .int .i64 (pk (qx))) (hF.at 0 rfl) rfl) rfl fun a hF=>?_
 refine oV hF (aW (v:= r7.v) (hF.at 1 rfl) rfl) rfl fun a hF=>?_
 refine S.alloc st hF ah rfl rfl fun g4 w8 a st hF=>?_
 refine oA hF 2 rfl rfl fun a hF=>?_
 refine so st hF 0 1 2 ah rfl rfl rfl rfl fun w9 a st hF=>?_
 refine ns ?_
 refine E.rga 10 aF hF [11,12,13,14,15,16,17,18,19,5] [_,_,_,_,_,_,_,_,_,kn w9 [.bool false,.slice none 0 0,.slice none 0 0]] [9] ⟨fun _ _ ⟨g,e,_,o⟩=>⟨g,e,o.lt⟩,trivial⟩ (by decide+kernel) rfl rfl rfl ⟨rm 0 rfl,ck st AW rfl fun _ s=>bA (mU (pk (qx)) _ (hT.below s.bel)),ck st k40 rfl fun _ s=>aD (bj (spk (pk (qx))) _ (df (pk (qx))).1 (df (pk (qx))).2) (a9 (az (df (pk (qx))).1 (df (pk (qx))).2) (by omega)),rb st ah 1 0 rfl,rm 0 rfl,ck st Cb rfl fun _ s=>bA (ol (pk (qx)) _ (hT.below s.bel) (by omega) (by omega)),ck st k40 rfl fun _ s=>aD (bj (spk (pk (qx)+1)-spk (pk (qx))) _ (dW (pk (qx))).1 (dW (pk (qx))).2) (a9 (az (dW (pk (qx))).1 (dW (pk (qx))).2) (by omega)),ck st k58 rfl fun _ s _ x17=>cB ⟨(s.f 0 rfl),(uI hl)⟩ x17,ck st k56 rfl fun _ s _ x13 _ x18=>o0 x13 x18,ra ah rfl rfl,trivial⟩ ?_
 intro a w10 hF bb hall hne
 have s0:=st
 replace st:=st.to bb
 obtain⟨vv11,hF,st⟩:=rS hall hF st 8 rfl rfl Rl.cl
 obtain⟨r13,rfl⟩:=Rq.fo (st.f 0 rfl).1
 obtain⟨_,e5,g5,rfl,ge5,o5⟩:=sS hall 9 5 rfl rfl
 replace st:=st.push o5.blk (Nat.le_trans s0.bel.size ge5) (s0.ne ge5)
 clear o5
 replace hF:=hF.add e5
 clear hall bb hne s0
 refine so st hF 0 0 1 ah rfl rfl rfl rfl fun w14 a st hF=>?_
 refine ns ?_
 refine E.rg 3 aF hF [20,21,22] [_,_,_] (by decide+kernel) rfl rfl rfl ⟨rb st ah 0 0 rfl,ck st k40 rfl fun _ s=>aD (bj (3438) _ (by decide) (by decide)) (a9 (az (by decide) (by decide)) (by omega)),ck st k75 rfl fun _ s _ x21=>m8 (s.f 0 rfl) x21,trivial⟩ ?_
 intro a w15 hF bb hall
 replace st:=st.to bb
 obtain⟨vv16,hF,st⟩:=rS hall hF st 2 rfl rfl Rl.cl
 obtain⟨r18,rfl⟩:=Rq.fo (st.f 0 rfl).1
 clear hall bb
 refine so st hF 2 10 0 ah rfl rfl rfl rfl fun w19 a st hF=>?_
 refine nr ?_
 refine rs Tryz.results223 st hF 10 2 ah rfl rfl rfl ?_
 have bel:=st.bel
 exact⟨_,rfl,Rq.castM (st.f 0 rfl).1 (ls qx),bel⟩
theorem BP (v1:Value) (qx:Rat) (k:Nat) (w:World) (hT:bV w) (h1:Rq w v1 qx) (hl:au qx k) (hk:k≤700):
 Calls Tryz.prog 239 #[v1] w (bl w (sof (qx+((90:Int):Rat)))):=by
 have st:=St.start w
 refine go1 (nt:=7) Tryz.func239 rfl rfl rfl fun a hF=>?_
 refine wq ?_
 obtain⟨r2,rfl⟩:=Rq.fo h1
 refine bx st hF 0 rfl rfl fun g1 w1 a st hF=>?_
 refine S.alloc st hF ah rfl rfl fun g2 w3 a st hF=>?_
 refine ns ?_
 refine E.rg 4 aF hF [3,4,5,6] [_,_,_,_] (by decide+kernel) rfl rfl rfl ⟨rb st ah 1 1 rfl,ck st k40 rfl fun _ s=>aD (bj (90) _ (by decide) (by decide)) (a9 (az (by decide) (by decide)) (by omega)),ck st k56 rfl fun _ s _ x4=>o0 ⟨(h1.below s.bel),hl⟩ x4,ck st qr rfl fun _ s _ x5=>aD (vr _ ((qx)+(((90:Int):Rat))) (k+2+1) _ (hT.below s.bel) x5.1 x5.2 (by omega)) (Ed x5.2),trivial⟩ ?_
 intro a w4 hF bb hall
 replace st:=st.to bb
 obtain⟨vv5,hF,st⟩:=rS hall hF st 3 rfl rfl Rl.cl
 obtain⟨r7,rfl⟩:=Rq.fo (st.f 0 rfl).1
 clear hall bb
 refine so st hF 0 1 0 ah rfl rfl rfl rfl fun w8 a st hF=>?_
 refine nr ?_
 refine rs Tryz.results239 st hF 1 0 ah rfl rfl rfl ?_
 have bel:=st.bel
 exact⟨_,rfl,(st.f 0 rfl).1,bel⟩
theorem AM (v1:Value) (qx:Rat) (k:Nat) (w:World) (hT:bV w) (h1:Rq w v1 qx) (hl:au qx k) (hk:k≤800):
 Calls Tryz.prog 236 #[v1] w (aR w (.int .i64 (spk (pk qx+1)-spk (pk qx)))):=by
 have st:=St.start w
 refine go1 (nt:=12) Tryz.func236 rfl rfl rfl fun a hF=>?_
 refine wq ?_
 obtain⟨r2,rfl⟩:=Rq.fo h1
 refine bx st hF 0 rfl rfl fun g1 w1 a st hF=>?_
 refine oC hF rfl fun a hF=>?_
 refine nq ?_
 refine oL hF st 1 0 ah rfl rfl rfl rfl fun a hF=>?_
 refine S.callt st hF (rgc FC (aI (hF.at 0 rfl))) (qG _ (qx) k _ (h1.below st.bel) hl (by omega)) (fun _ _ h=>h) Rq.cl rfl rfl rfl rfl fun vv4 w3 a st hF=>?_
 have hpk:=iM (qx)
 obtain⟨r6,rfl⟩:=Rq.fo (st.f 0 rfl)
 refine oM hF 0 rfl rfl fun a hF=>?_
 refine oV hF (aW (v:= .int .i64 (pk (qx))) (hF.at 0 rfl) rfl) rfl fun a hF=>?_
 refine oV hF (aW (v:= r6.v) (hF.at 1 rfl) rfl) rfl fun a hF=>?_
 refine S.alloc st hF ah rfl rfl fun g4 w7 a st hF=>?_
 refine oA hF 2 rfl rfl fun a hF=>?_
 refine so st hF 0 1 2 ah rfl rfl rfl rfl fun w8 a st hF=>?_
 refine nq ?_
 refine oM hF 0 rfl rfl fun a hF=>?_
 refine cX st hF (rgc Cb (aI (hF.at 0 rfl))) (ol (pk (qx)) _ (hT.below st.bel) (by omega) (by omega)) rfl fun w9 a st hF=>?_
 refine oE hF 0 rfl rfl fun a hF=>?_
 refine nr ?_
 have bel:=st.bel
 refine rt Tryz.results236 hF 0 rfl ?_
 exact⟨rfl,bel⟩
theorem vi (v1:Value) (qx:Rat) (k:Nat) (w:World) (hT:bV w) (h1:Rq w v1 qx) (hl:au qx k) (hk:k≤1000) (hn:¬sz (Rat.num qx)<0):
 Calls Tryz.prog 225 #[v1] w (bl w (br qx)):=by
 have hx:¬qx<0:=fun e=>hn (kU.2 e)
 have st:=St.start w
 refine go1 (nt:=45) Tryz.func225 rfl rfl rfl fun a hF=>?_
 refine wq ?_
 obtain⟨r2,rfl⟩:=Rq.fo h1
 refine bx st hF 0 rfl rfl fun g1 w1 a st hF=>?_
 refine S.alloc st hF ah rfl rfl fun g2 w3 a st hF=>?_
 refine ns ?_
 refine wq ?_
 refine oL hF st 1 1 ah rfl rfl rfl rfl fun a hF=>?_
 refine cX st hF (rgc xe (aI (hF.at 0 rfl))) (eO _ (qx) _ (h1.below st.bel)) rfl fun w4 a st hF=>?_
 refine oV hF (aq (hF.at 0 rfl) ao ab (aw (a6 (c:=false) (aK hn)) (by simp))) rfl fun a hF=>?_
 refine E.nil ?_
 refine wp_cond_false (hF.at 0 rfl) ?_
 refine wp_skip ?_
 refine E.norm ?_
 refine wp_seq ?_
 refine E.rga 4 aF hF [14,15,16,3] [_,_,_,kn w4 [.bool false,.slice none 0 0,.slice none 0 0]] [3] ⟨fun _ _ ⟨g,e,_,o⟩=>⟨g,e,o.lt⟩,trivial⟩ (by decide+kernel) rfl rfl rfl ⟨rb st ah 4 1 rfl,ck st k40 rfl fun _ s=>aD (bj (3438) _ (by decide) (by decide)) (a9 (az (by decide) (by decide)) (by omega)),ck st k58 rfl fun _ s _ x15=>cB ⟨(h1.below s.bel),hl⟩ x15,ra ah rfl rfl,trivial⟩ ?_
 intro a w5 hF bb hall hne
 have s0:=st
 replace st:=st.to bb
 obtain⟨vv6,hF,st⟩:=rS hall hF st 2 rfl rfl Rl.cl
 obtain⟨r8,rfl⟩:=Rq.fo (st.f 0 rfl).1
 obtain⟨_,e3,g3,rfl,ge3,o3⟩:=sS hall 3 3 rfl rfl
 replace st:=st.push o3.blk (Nat.le_trans s0.bel.size ge3) (s0.ne ge3)
 clear o3
 replace hF:=hF.add e3
 clear hall bb hne s0
 refine so st hF 0 0 1 ah rfl rfl rfl rfl fun w9 a st hF=>?_
 refine ns ?_
 refine wq ?_
 refine oV hF (aP ao) rfl fun a hF=>?_
 refine E.nil ?_
 refine wp_block ?_
 refine E.loop (fun mq a wv=>∃(j:Nat),j≤24∧ykf (qx*((3438:Int):Rat)) (24-j) j=yk (qx*((3438:Int):Rat))∧Fr 45 a [(17,.int .i64 ((j:Nat):Int)),(3,.pointer (some ⟨g3,0,none⟩)),(2,.pointer (some ⟨g2,0,none⟩))]∧St w wv [(g3,r8.l),(g2,[.bool false,.slice none 0 0,.slice none 0 0])] [fun w=>Rq w (.agg #[.bool false,.slice none 0 0,.slice none 0 0]) 0,fun w=>Rl ((qx)*(((3438:Int):Rat))) ((k+2)) w (r8.v)]∧mq=24-j) (24-0) ?_ ?_
 ·exact⟨0,(by omega),rfl,Fr.pick (L':=[(17,.int .i64 0),(3,.pointer (some ⟨g3,0,none⟩)),(2,.pointer (some ⟨g2,0,none⟩))]) hF [0,1,6] rfl,(st.add (Rq.zero _) (Rq.cl _)).pick [0,1] [0,1] rfl rfl (by decide),rfl⟩
 ·rintro mq a w10 ⟨j,hj,hyk,hF,st,hm⟩
  by_cases hjn:j<24
  ·refine wp_seq ?_
   refine E.seq ?_
   refine oV hF (aq (hF.at 0 rfl) ao ab (aw (a6 (c:=true) (aU (by omega))) (by simp))) rfl fun a hF=>?_
   refine ns ?_
   refine wp_cond_true (hF.at 0 rfl) ?_
   refine wp_skip ?_
   refine E.norm ?_
   refine wp_seq ?_
   refine wp_block ?_
   refine wq ?_
   refine oM hF 1 rfl rfl fun a hF=>?_
   refine oA hF 0 rfl rfl fun a hF=>?_
   refine ns ?_
   refine wp_seq ?_
   by_cases hc11:0<qc ((qx)*(((3438:Int):Rat))) (((spk (((j:Nat):Int)+1):Int):Rat))
   ·refine E.rg 7 aF hF [20,21,22,23,24,25,26] [_,_,.ex (.int .i64 (((j:Nat):Int)+1)),_,_,_,.ex (.bool true)] (by decide+kernel) rfl rfl rfl ⟨rb st ah 4 0 rfl,rm 0 rfl,(by intro a' w' hF' hb hd;have e21:=tE hd 0 rfl;exact dv0 (aq e21 ao ab (bq (by omega) (by omega))) rfl rfl rfl),ck st A1 rfl fun _ s=>bA (oK (((j:Nat):Int)+1) _ (hT.below s.bel) (by omega) (by omega)),ck st k40 rfl fun _ s=>aD (bj (spk (((j:Nat):Int)+1)) _ (df (((j:Nat):Int)+1)).1 (df (((j:Nat):Int)+1)).2) (a9 (az (df (((j:Nat):Int)+1)).1 (df (((j:Nat):Int)+1)).2) (by omega)),ck st k30 rfl fun _ s _ x24=>bA (s3 _ _ ((qx)*(((3438:Int):Rat))) (((spk (((j:Nat):Int)+1):Int):Rat)) (max (k+2) 2) _ (s.f 1 rfl).1 x24.1 ((s.f 1 rfl).2.up _ (by omega)) (x24.2.up _ (by omega)) (by omega)),(by intro a' w' hF' hb hd;have e25:=tE hd 0 rfl;exact dv0 (aq e25 ao ab (aw (bS (c:=true) (aU hc11)) (by simp))) rfl rfl rfl),trivial⟩ ?_
    intro a w12 hF bb hall
    replace st:=st.to bb
    replace hF:=rE hall hF 6 rfl rfl
    clear hall bb
    refine E.nil ?_
    refine wp_cond_true (hF.at 0 rfl) ?_
    refine wp_exit ?_
    refine E.past ?_
    refine E.out (id:=1) ?_
    refine E.norm ?_
    refine E.seq ?_
    refine oV hF (aq (hF.at 4 rfl) ao ab (bq (by omega) (by omega))) rfl fun a hF=>?_
    refine oS hF (aP (hF.at 0 rfl)) rfl fun a hF=>?_
    refine E.nil0 ?_
    refine E.norm ?_
    exact⟨24-(j+1),by omega,⟨(j+1),(by omega),(uY (by omega) hyk hc11),(by rw[show((j+1:Nat):Int)=((j:Nat):Int)+1 from by omega];exact Fr.pick (L':=[(17,.int .i64 (((j:Nat):Int)+1)),(3,.pointer (some ⟨g3,0,none⟩)),(2,.pointer (some ⟨g2,0,none⟩))]) hF [0,6,7] rfl),(st.add (st.f 0 rfl) (Rq.cl _)).pick [0,1] [0,2] rfl rfl (by decide),rfl⟩⟩
   ·refine E.rg 7 aF hF [20,21,22,23,24,25,26] [_,_,.ex (.int .i64 (((j:Nat):Int)+1)),_,_,_,.ex (.bool false)] (by decide+kernel) rfl rfl rfl ⟨rb st ah 4 0 rfl,rm 0 rfl,(by intro a' w' hF' hb hd;have e21:=tE hd 0 rfl;exact dv0 (aq e21 ao ab (bq (by omega) (by omega))) rfl rfl rfl),ck st A1 rfl fun _ s=>bA (oK (((j:Nat):Int)+1) _ (hT.below s.bel) (by omega) (by omega)),ck st k40 rfl fun _ s=>aD (bj (spk (((j:Nat):Int)+1)) _ (df (((j:Nat):Int)+1)).1 (df (((j:Nat):Int)+1)).2) (a9 (az (df (((j:Nat):Int)+1)).1 (df (((j:Nat):Int)+1)).2) (by omega)),ck st k30 rfl fun _ s _ x24=>bA (s3 _ _ ((qx)*(((3438:Int):Rat))) (((spk (((j:Nat):Int)+1):Int):Rat)) (max (k+2) 2) _ (s.f 1 rfl).1 x24.1 ((s.f 1 rfl).2.up _ (by omega)) (x24.2.up _ (by omega)) (by omega)),(by intro a' w' hF' hb hd;have e25:=tE hd 0 rfl;exact dv0 (aq e25 ao ab (aw (bS (c:=false) (aK hc11)) (by simp))) rfl rfl rfl),trivial⟩ ?_
    intro a w13 hF bb hall
    replace st:=st.to bb
    replace hF:=rE hall hF 6 rfl rfl
    clear hall bb
    refine E.nil ?_
    refine wp_cond_false (hF.at 0 rfl) ?_
    refine wp_skip ?_
    refine E.norm ?_
    refine wp_seq ?_
    refine E.rga 6 aF hF [27,28,29,30,31,5] [_,_,_,_,_,kn w13 [.bool false,.slice none 0 0,.slice none 0 0]] [5] ⟨fun _ _ ⟨g,e,_,o⟩=>⟨g,e,o.lt⟩,trivial⟩ (by decide+kernel) rfl rfl rfl ⟨rb st ah 5 0 rfl,rm 1 rfl,ck st A1 rfl fun _ s=>bA (oK ((j:Nat):Int) _ (hT.below s.bel) (by omega) (by omega)),ck st k40 rfl fun _ s=>aD (bj (spk ((j:Nat):Int)) _ (df ((j:Nat):Int)).1 (df ((j:Nat):Int)).2) (a9 (az (df ((j:Nat):Int)).1 (df ((j:Nat):Int)).2) (by omega)),ck st k57 rfl fun _ s _ x30=>gJ (s.f 1 rfl) x30,ra ah rfl rfl,trivial⟩ ?_
    intro a w14 hF bb hall hne
    have s0:=st
    replace st:=st.to bb
    obtain⟨vv15,hF,st⟩:=rS hall hF st 4 rfl rfl Rl.cl
    obtain⟨r17,rfl⟩:=Rq.fo (st.f 0 rfl).1
    obtain⟨_,e5,g5,rfl,ge5,o5⟩:=sS hall 5 5 rfl rfl
    replace st:=st.push o5.blk (Nat.le_trans s0.bel.size ge5) (s0.ne ge5)
    clear o5
    replace hF:=hF.add e5
    clear hall bb hne s0
    refine so st hF 0 0 1 ah rfl rfl rfl rfl fun w18 a st hF=>?_
    refine ns ?_
    refine E.rga 6 aF hF [32,33,34,35,36,6] [_,_,_,_,_,kn w18 [.bool false,.slice none 0 0,.slice none 0 0]] [5] ⟨fun _ _ ⟨g,e,_,o⟩=>⟨g,e,o.lt⟩,trivial⟩ (by decide+kernel) rfl rfl rfl ⟨rb st ah 0 0 rfl,rm 3 rfl,ck st Cb rfl fun _ s=>bA (ol ((j:Nat):Int) _ (hT.below s.bel) (by omega) (by omega)),ck st k40 rfl fun _ s=>aD (bj (spk (((j:Nat):Int)+1)-spk ((j:Nat):Int)) _ (dW (((j:Nat):Int))).1 (dW (((j:Nat):Int))).2) (a9 (az (dW (((j:Nat):Int))).1 (dW (((j:Nat):Int))).2) (by omega)),ck st k75 rfl fun _ s _ x35=>m8 (s.f 0 rfl) x35,ra ah rfl rfl,trivial⟩ ?_
    intro a w19 hF bb hall hne
    have s0:=st
    replace st:=st.to bb
    obtain⟨vv20,hF,st⟩:=rS hall hF st 4 rfl rfl Rl.cl
    obtain⟨r22,rfl⟩:=Rq.fo (st.f 0 rfl).1
    obtain⟨_,e6,g6,rfl,ge6,o6⟩:=sS hall 5 6 rfl rfl
    replace st:=st.push o6.blk (Nat.le_trans s0.bel.size ge6) (s0.ne ge6)
    clear o6
    replace hF:=hF.add e6
    clear hall bb hne s0
    refine so st hF 0 0 1 ah rfl rfl rfl rfl fun w23 a st hF=>?_
    refine ns ?_
    refine E.rg 6 aF hF [37,38,39,40,41,42] [_,_,_,_,_,_] (by decide+kernel) rfl rfl rfl ⟨rb st ah 0 0 rfl,rm 5 rfl,ck st k40 rfl fun _ s=>aD (bj (((j:Nat):Int)) _ (by omega) (by omega)) (a9 (az (by omega) (by omega)) (by omega)),ck st k56 rfl fun _ s _ x39=>o0 (s.f 0 rfl) x39,ck st Gi rfl fun _ s=>aD (rf _) mn,ck st k58 rfl fun _ s _ x40 _ x41=>cB x40 x41,trivial⟩ ?_
    intro a w24 hF bb hall
    replace st:=st.to bb
    obtain⟨vv25,hF,st⟩:=rS hall hF st 5 rfl rfl Rl.cl
    obtain⟨r27,rfl⟩:=Rq.fo (st.f 0 rfl).1
    clear hall bb
    refine so st hF 3 11 0 ah rfl rfl rfl rfl fun w28 a st hF=>?_
    refine nr ?_
    refine rs Tryz.results225 st hF 11 3 ah rfl rfl rfl ?_
    have bel:=st.bel
    exact⟨_,rfl,Rq.castM (st.f 0 rfl).1 (tZ hx hjn (uL hjn hyk hc11)),bel⟩
  ·refine wp_seq ?_
   refine E.seq ?_
   refine oV hF (aq (hF.at 0 rfl) ao ab (aw (a6 (c:=false) (aK (by omega))) (by simp))) rfl fun a hF=>?_
   refine ns ?_
   refine wp_cond_false (hF.at 0 rfl) ?_
   refine wp_exit ?_
   refine E.past ?_
   refine E.past ?_
   refine E.out (id:=0) ?_
   refine E.norm ?_
   refine wq ?_
   refine S.ck st hF (rgc k40 (aI ao)) (aD (bj (90) _ (by decide) (by decide)) (a9 (az (by decide) (by decide)) (by omega))) Rl.cl rfl fun vv30 w29 a st hF=>?_
   obtain⟨r32,rfl⟩:=Rq.fo (st.f 0 rfl).1
   refine so st hF 1 4 0 ah rfl rfl rfl rfl fun w33 a st hF=>?_
   refine nr ?_
   refine rs Tryz.results225 st hF 4 1 ah rfl rfl rfl ?_
   have bel:=st.bel
   have e24:j=24:=by omega
   subst e24
   exact⟨_,rfl,Rq.castM (st.f 0 rfl).1 (pP hx hyk.symm),bel⟩
theorem uk (v1:Value) (qx:Rat) (k:Nat) (w:World) (hT:bV w) (h1:Rq w v1 qx) (hl:au qx k) (hk:k≤1000) (hn:sz (Rat.num qx)<0):
 Calls Tryz.prog 225 #[v1] w (bl w (br qx)):=by
 have hx:qx<0:=kU.1 hn
 have st:=St.start w
 refine go1 (nt:=45) Tryz.func225 rfl rfl rfl fun a hF=>?_
 refine wq ?_
 obtain⟨r2,rfl⟩:=Rq.fo h1
 refine bx st hF 0 rfl rfl fun g1 w1 a st hF=>?_
 refine S.alloc st hF ah rfl rfl fun g2 w3 a st hF=>?_
 refine ns ?_
 refine wq ?_
 refine oL hF st 1 1 ah rfl rfl rfl rfl fun a hF=>?_
 refine cX st hF (rgc xe (aI (hF.at 0 rfl))) (eO _ (qx) _ (h1.below st.bel)) rfl fun w4 a st hF=>?_
 refine oV hF (aq (hF.at 0 rfl) ao ab (aw (a6 (c:=true) (aU hn)) (by simp))) rfl fun a hF=>?_
 refine E.nil ?_
 refine wp_cond_true (hF.at 0 rfl) ?_
 refine wq ?_
 refine oL hF st 4 1 ah rfl rfl rfl rfl fun a hF=>?_
 refine S.ck st hF (rgc s4 (aI (hF.at 0 rfl))) (xp ⟨(h1.below st.bel),hl⟩) Rl.cl rfl fun vv6 w5 a st hF=>?_
 obtain⟨r8,rfl⟩:=Rq.fo (st.f 0 rfl).1
 refine ca st hF (rgc vY (aI (hF.at 0 rfl))) (vi _ (-(qx)) k _ (hT.below st.bel) (st.f 0 rfl).1 (st.f 0 rfl).2 (by omega) (vp hx)) (fun _ _ h=>h) Rq.cl rfl fun vv10 w9 a st hF=>?_
 obtain⟨r12,rfl⟩:=Rq.fo (st.f 0 rfl)
 refine ca st hF (rgc s4 (aI (hF.at 0 rfl))) (oh _ _ _ (st.f 0 rfl)) (fun _ _ h=>h) Rq.cl rfl fun vv14 w13 a st hF=>?_
 obtain⟨r16,rfl⟩:=Rq.fo (st.f 0 rfl)
 refine so st hF 0 7 0 ah rfl rfl rfl rfl fun w17 a st hF=>?_
 refine nr ?_
 refine rs Tryz.results225 st hF 7 0 ah rfl rfl rfl ?_
 have bel:=st.bel
 exact⟨_,rfl,Rq.castM (st.f 0 rfl) (vN hx),bel⟩
theorem A6 (v1:Value) (qx:Rat) (k:Nat) (w:World) (hT:bV w) (h1:Rq w v1 qx) (hl:au qx k) (hk:k≤1000):Calls Tryz.prog 225 #[v1] w (bl w (br qx)):=by
 by_cases hn:sz (Rat.num qx)<0
 ·exact uk v1 qx k w hT h1 hl hk hn
 ·exact vi v1 qx k w hT h1 hl hk hn
end
end
end Go.Proofs.YtnljadejcfgmaaaGreatDoor
