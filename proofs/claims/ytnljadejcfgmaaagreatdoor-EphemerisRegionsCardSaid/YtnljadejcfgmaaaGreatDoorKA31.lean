import Derived.Test.YtnljadejcfgmaaaGreatDoorKA14
import Derived.Test.YtnljadejcfgmaaaGreatDoorKA27
namespace Go.Proofs.YtnljadejcfgmaaaGreatDoor
open Go.RowKit
set_option maxRecDepth 100000
set_option linter.unusedVariables false
set_option maxHeartbeats 8000000
section
section
theorem fl_of {q:Rat} {k:Int} (h1:(k:Rat)≤q) (h2:q<(k:Rat)+1):q.floor=k:=by
 have l1:k≤q.floor:=Rat.le_floor_iff.2 h1
 have l2:q.floor<k+1:=Rat.floor_lt_iff.2 (by rw[Rat.intCast_add,Rat.intCast_one];exact h2)
 omega
def lin (S:Int→Int) (y:Rat):Rat:=(S y.floor:Rat)+(y-(y.floor:Rat))*((S (y.floor+1):Rat)-(S y.floor:Rat))
theorem lin_int (S:Int→Int) (k:Int):lin S (k:Rat)=(S k:Rat):=by
 unfold lin;rw[Rat.floor_intCast];grind
theorem lin_more {S:Int→Int} {n:Int} (h:∀k,S (k+n)=S k) (y:Rat):lin S (y+(n:Rat))=lin S y:=by
 unfold lin
 rw[Rat.floor_add_intCast,h,show y.floor+n+1=y.floor+1+n by omega,h,Rat.intCast_add]
 grind
theorem fl_back {y:Rat} (c:Int) (h:(y.floor:Rat)≠y):((c:Rat)-y).floor =c-y.floor-1:=by
 have h1:=fl_le y
 have h2:=fl_lt y
 refine fl_of ?_ ?_
 ·rw[Rat.intCast_sub,Rat.intCast_sub,Rat.intCast_one];grind
 ·rw[Rat.intCast_sub,Rat.intCast_sub,Rat.intCast_one];grind
theorem lin_back {S:Int→Int} (c:Int) (h:∀k,S (c-k)=S k) (y:Rat):lin S ((c:Rat)-y)=lin S y:=by
 by_cases e:(y.floor:Rat)=y
 ·rw[←e,←Rat.intCast_sub,lin_int,lin_int,h]
 ·unfold lin
  rw[fl_back c e,show c-y.floor-1+1=c-y.floor by omega,h,show c-y.floor-1=c-(y.floor+1) by omega,h,Rat.intCast_sub,Rat.intCast_add,Rat.intCast_one]
  grind
theorem lin_turn {S:Int→Int} (c:Int) (h:∀k,S (c-k)= -S k) (y:Rat):lin S ((c:Rat)-y)= -lin S y:=by
 by_cases e:(y.floor:Rat)=y
 ·rw[←e,←Rat.intCast_sub,lin_int,lin_int,h,Rat.intCast_neg]
 ·unfold lin
  rw[fl_back c e,show c-y.floor-1+1=c-y.floor by omega,h,show c-y.floor-1=c-(y.floor+1) by omega,h,Rat.intCast_sub,Rat.intCast_add,Rat.intCast_one]
  simp only [Rat.intCast_neg]
  grind
theorem lin_opp {S:Int→Int} (c:Int) (h:∀k,S (k+c)= -S k) (y:Rat):lin S (y+(c:Rat))= -lin S y:=by
 unfold lin
 rw[Rat.floor_add_intCast,h,show y.floor+c+1=y.floor+1+c by omega,h,Rat.intCast_add]
 simp only [Rat.intCast_neg]
 grind
theorem up_le {S:Int→Int} (h:∀k,S k≤S (k+1)) {a b:Int} (hab:a≤b):S a≤S b:=by
 obtain⟨n,rfl⟩:∃n:Nat,b=a+n:=⟨(b-a).toNat,by omega⟩
 clear hab
 induction n with
 |zero=>simp
 |succ n ih=>
  have:=h (a+n)
  rw[show a+((n+1:Nat):Int)=a+n+1 by omega]
  omega
theorem cast_le {a b:Int} (h:a≤b):(a:Rat)≤(b:Rat):=Rat.intCast_le_intCast.2 h
theorem cast_lt {a b:Int} (h:a<b):(a:Rat)<(b:Rat):=Rat.intCast_lt_intCast.2 h
theorem lin_low {S:Int→Int} {y:Rat} (h:S y.floor≤S (y.floor+1)):(S y.floor:Rat)≤lin S y:=by
 have h1:=fl_le y
 have h2:=cast_le h
 have:=Rat.mul_nonneg (show 0≤y-(y.floor:Rat) by grind) (show 0≤(S (y.floor+1):Rat)-(S y.floor:Rat) by grind)
 unfold lin;grind
theorem lin_high {S:Int→Int} {y:Rat} (h:S y.floor≤S (y.floor+1)):lin S y≤(S (y.floor+1):Rat):=by
 have h1:=fl_lt y
 have h2:=cast_le h
 have:=Rat.mul_nonneg (show 0≤(y.floor:Rat)+1-y by grind) (show 0≤(S (y.floor+1):Rat)-(S y.floor:Rat) by grind)
 unfold lin;grind
theorem lin_hight {S:Int→Int} {y:Rat} (h:S y.floor<S (y.floor+1)):lin S y<(S (y.floor+1):Rat):=by
 have h1:=fl_lt y
 have h2:=cast_lt h
 have:=Rat.mul_pos (show 0<(y.floor:Rat)+1-y by grind) (show 0<(S (y.floor+1):Rat)-(S y.floor:Rat) by grind)
 unfold lin;grind
theorem lin_up {S:Int→Int} (h:∀k,S k≤S (k+1)) {y z:Rat} (hyz:y≤z):lin S y≤lin S z:=by
 by_cases e:y.floor=z.floor
 ·have h2:=cast_le (h z.floor)
  have:=Rat.mul_nonneg (show 0≤z-y by grind) (show 0≤(S (z.floor+1):Rat)-(S z.floor:Rat) by grind)
  unfold lin;rw[e];grind
 ·have hm:=Rat.floor_monotone hyz
  have h1:=lin_high (h y.floor)
  have h2:=lin_low (h z.floor)
  have h3:=cast_le (up_le h (show y.floor+1≤z.floor by omega))
  grind
theorem lin_comb (S:Int→Int) (c d:Int) (y:Rat):lin (fun k=>c*k+d*S k) y=(c:Rat)*y+(d:Rat)*lin S y:=by
 unfold lin
 simp only [Rat.intCast_add,Rat.intCast_mul,Rat.intCast_one]
 grind
theorem lin_lip {S:Int→Int} (c:Int) (h:∀k, -c≤S (k+1)-S k∧S (k+1)-S k≤c) {y z:Rat} (hyz:y≤z):(lin S y-lin S z).abs ≤(c:Rat)*(z-y):=by
 have h1:=lin_up (S:=fun k=>c*k+1*S k) (fun k=>by have:=h k;show c*k+1*S k≤c*(k+1)+1*S (k+1);rw[Int.mul_add];omega) hyz
 have h2:=lin_up (S:=fun k=>c*k+(-1)*S k) (fun k=>by have:=h k;show c*k+(-1)*S k≤c*(k+1)+(-1)*S (k+1);rw[Int.mul_add];omega) hyz
 rw[lin_comb,lin_comb] at h1 h2
 rw[Rat.intCast_one] at h1
 rw[Rat.intCast_neg,Rat.intCast_one] at h2
 unfold Rat.abs
 split <;> grind
theorem lin_bd {S:Int→Int} (c:Int) (h:∀k, -c≤S k∧S k≤c) (y:Rat): -(c:Rat)≤lin S y∧lin S y≤(c:Rat):=by
 have a1:=h y.floor
 have a2:=h (y.floor+1)
 have f1:=fl_le y
 have f2:=fl_lt y
 have b1:=cast_le a1.1;have b2:=cast_le a1.2;have b3:=cast_le a2.1;have b4:=cast_le a2.2
 rw[Rat.intCast_neg] at b1 b3
 have m1:=Rat.mul_nonneg (show 0≤(y.floor:Rat)+1-y by grind) (show 0≤(c:Rat)-(S y.floor:Rat) by grind)
 have m2:=Rat.mul_nonneg (show 0≤y-(y.floor:Rat) by grind) (show 0≤(c:Rat)-(S (y.floor+1):Rat) by grind)
 have m3:=Rat.mul_nonneg (show 0≤(y.floor:Rat)+1-y by grind) (show 0≤(S y.floor:Rat)+(c:Rat) by grind)
 have m4:=Rat.mul_nonneg (show 0≤y-(y.floor:Rat) by grind) (show 0≤(S (y.floor+1):Rat)+(c:Rat) by grind)
 unfold lin
 constructor <;> grind
theorem fl_ge {y:Rat} {k:Int} (h:(k:Rat)≤y):k≤y.floor:=Rat.le_floor_iff.2 h
theorem fl_less {y:Rat} {k:Int} (h:y<(k:Rat)):y.floor<k:=Rat.floor_lt_iff.2 h
theorem lin_rise {y z:Rat} (h1:((-24:Int):Rat)≤y) (h2:y<z) (h3:z≤((24:Int):Rat)):lin spk y<lin spk z:=by
 have fy:=fl_ge h1
 have fy2:y.floor<24:=fl_less (by grind)
 have hm:=Rat.floor_monotone (show y≤z by grind)
 by_cases e:y.floor=z.floor
 ·have:=cast_lt (sp_up (k:=z.floor) (by omega) (by omega))
  have:=Rat.mul_pos (show 0<z-y by grind) (show 0<(spk (z.floor+1):Rat)-(spk z.floor:Rat) by grind)
  unfold lin;rw[e];grind
 ·have a1:=lin_hight (S:=spk) (y:=y) (sp_up fy fy2)
  have fz:z.floor≤24:=by
   have:=Rat.floor_monotone h3
   rwa[Rat.floor_intCast] at this
  have a2:=cast_le (sp_le (a:=y.floor+1) (b:=z.floor) (by omega) (by omega) fz)
  have a3:(spk z.floor:Rat)≤lin spk z:=by
   by_cases e2:z.floor<24
   ·exact lin_low (Int.le_of_lt (sp_up (by omega) e2))
   ·have e3:z.floor=24:=by omega
    have e4:z=((24:Int):Rat):=by
     have:=fl_le z;rw[e3] at this;grind
    rw[e4,lin_int,Rat.floor_intCast];grind
  grind
theorem lin_inj {y z:Rat} (h1:((-24:Int):Rat)≤y) (h2:y≤((24:Int):Rat)) (h3:((-24:Int):Rat)≤z) (h4:z≤((24:Int):Rat)) (e:lin spk y=lin spk z):y=z:=by
 by_cases a:y<z
 ·have:=lin_rise h1 a h4;grind
 ·by_cases b:z<y
  ·have:=lin_rise h3 b h2;grind
  ·grind
def ykf (h:Rat):Nat→Nat→Nat
 |0,k=>k
 |n+1,k=>if h≤(spk ((k:Int)+1):Rat) then k else ykf h n (k+1)
def yk (h:Rat):Nat:=ykf h 24 0
theorem ykf_le (h:Rat):∀n k:Nat,k≤ykf h n k∧ykf h n k≤k+n
 |0,k=>by simp[ykf]
 |n+1,k=>by
  unfold ykf
  split
  ·omega
  ·have:=ykf_le h n (k+1);omega
theorem ykf_low (h:Rat):∀n k:Nat,(spk (k:Int):Rat)≤h→(spk ((ykf h n k:Nat):Int):Rat)≤h
 |0,k,hk=>by simpa[ykf] using hk
 |n+1,k,hk=>by
  unfold ykf
  split
  ·exact hk
  ·refine ykf_low h n (k+1) ?_
   rw[show((k+1:Nat):Int)=(k:Int)+1 by omega]
   grind
theorem ykf_high (h:Rat):∀n k:Nat,ykf h n k<k+n→h≤(spk ((ykf h n k:Nat)+1:Int):Rat)
 |0,k,hk=>by simp[ykf] at hk
 |n+1,k,hk=>by
  unfold ykf at hk ⊢
  split
  ·assumption
  ·rename_i hn
   rw[if_neg hn] at hk
   exact ykf_high h n (k+1) (by omega)
theorem ykf_end (h:Rat):∀n k:Nat,ykf h n k=k+n→0<n→(spk ((k:Int)+n):Rat)<h
 |0,_,_,hn=>by omega
 |n+1,k,hk,_=>by
  unfold ykf at hk
  split at hk
  ·omega
  ·rename_i hh
   by_cases e:n=0
   ·subst e
    rw[show(k:Int)+((0+1:Nat):Int)=(k:Int)+1 by omega]
    grind
   ·have:=ykf_end h n (k+1) (by omega) (by omega)
    rw[show((k+1:Nat):Int)+(n:Int)=(k:Int)+((n+1:Nat):Int) by omega] at this
    exact this
def ay (h:Rat):Rat:=if yk h<24 then(h-(spk (yk h):Rat))/((spk ((yk h:Nat)+1:Int)-spk (yk h):Int):Rat)+((yk h:Nat):Int) else((24:Int):Rat)
theorem ay_of {h:Rat} (h0:0≤h) (h1:h≤((3438:Int):Rat)):0≤ay h∧ay h≤((24:Int):Rat)∧lin spk (ay h)=h:=by
 have hl:=ykf_low h 24 0 (by rw[show spk ((0:Nat):Int)=0 by decide+kernel,Rat.intCast_zero];exact h0)
 have hk:=ykf_le h 24 0
 have hh:=ykf_high h 24 0
 have he:=ykf_end h 24 0
 change (spk (yk h:Nat):Rat)≤h at hl
 change 0≤yk h∧yk h≤0+24 at hk
 change yk h<0+24→_ at hh
 change yk h=0+24→_ at he
 change _→h≤(spk ((yk h:Nat)+1:Int):Rat) at hh
 by_cases c:yk h<24
 ·have hh:=hh (by omega)
  have up:=sp_up (k:=(yk h:Nat)) (by omega) (by omega)
  unfold ay
  rw[if_pos c]
  generalize yk h=n at*
  have upq:=cast_lt up
  have hd:(0:Rat)<((spk ((n:Nat)+1:Int)-spk (n:Nat):Int):Rat):=by rw[Rat.intCast_sub];grind
  have f0:0≤(h-(spk (n:Nat):Rat))/((spk ((n:Nat)+1:Int)-spk (n:Nat):Int):Rat):=Rat.not_lt.1 fun hn=>by rw[Rat.div_lt_iff hd] at hn;grind
  have f1:(h-(spk (n:Nat):Rat))/((spk ((n:Nat)+1:Int)-spk (n:Nat):Int):Rat)≤1:=Rat.not_lt.1 fun hn=>by rw[Rat.lt_div_iff hd,Rat.intCast_sub] at hn;grind
  have fm:(h-(spk (n:Nat):Rat))/((spk ((n:Nat)+1:Int)-spk (n:Nat):Int):Rat)*((spk ((n:Nat)+1:Int)-spk (n:Nat):Int):Rat)=h-(spk (n:Nat):Rat):=Rat.div_mul_cancel (by grind)
  generalize (h-(spk (n:Nat):Rat))/((spk ((n:Nat)+1:Int)-spk (n:Nat):Int):Rat)=f at*
  have k0:=cast_le (show(0:Int)≤((n:Nat):Int) by omega)
  have k1:=cast_le (show((n:Nat):Int)+1≤24 by omega)
  rw[Rat.intCast_add,Rat.intCast_one] at k1
  rw[Rat.intCast_zero] at k0
  rw[Rat.intCast_sub] at fm
  refine⟨by grind,by grind,?_⟩
  by_cases c1:f=1
  ·rw[c1,show(1:Rat)+(((n:Nat):Int):Rat)=(((n:Nat)+1:Int):Rat) by rw[Rat.intCast_add,Rat.intCast_one];grind,lin_int]
   grind
  ·have ef:(f+(((n:Nat):Int):Rat)).floor =((n:Nat):Int):=fl_of (by grind) (by grind)
   unfold lin
   rw[ef]
   grind
 ·have e:yk h=24:=by omega
  have:=he (by omega) (by decide)
  rw[show spk (((0:Nat):Int)+((24:Nat):Int))=3438 by decide+kernel] at this
  grind
def ap (a:Rat):Rat:=if a<0 then -ay (-a) else ay a
theorem ap_of {h:Rat} (h0:((-3438:Int):Rat)≤h) (h1:h≤((3438:Int):Rat)):((-24:Int):Rat)≤ap h∧ap h≤((24:Int):Rat)∧lin spk (ap h)=h:=by
 have e1:((-3438:Int):Rat)= -((3438:Int):Rat):=Rat.intCast_neg _
 have e2:((-24:Int):Rat)= -((24:Int):Rat):=Rat.intCast_neg _
 unfold ap
 split
 ·obtain⟨a,b,c⟩:=ay_of (h:= -h) (by grind) (by grind)
  refine⟨by grind,by grind,?_⟩
  have:=lin_turn (S:=spk) 0 (fun k=>by rw[Int.zero_sub];exact sp_neg k) (ay (-h))
  rw[show((0:Int):Rat)-ay (-h)= -ay (-h) by rw[Rat.intCast_zero];grind,c] at this
  rw[this];grind
 ·obtain⟨a,b,c⟩:=ay_of (h:=h) (by grind) h1
  have:(0:Rat)≤((24:Int):Rat):=by decide+kernel
  exact⟨by grind,b,c⟩
def wd:Rat:=((360:Int):Rat)/((96:Int):Rat)
theorem wd_eq:wd=15/4:=by decide+kernel
def sof (x:Rat):Rat:=lin spk (x/wd)/((3438:Int):Rat)
def arcv (a:Rat):Rat:=ap (a*((3438:Int):Rat))*wd
theorem c3438:((3438:Int):Rat)=3438:=rfl
theorem lin_around (y:Rat) (n:Int):lin spk (y+((96*n:Int):Rat))=lin spk y:=lin_more (fun k=>sp_more k n) y
theorem lin_rmod (y:Rat):lin spk (rmod y ((96:Int):Rat))=lin spk y:=by
 unfold rmod
 rw[if_neg (by decide+kernel)]
 have:=lin_around y (-(y/((96:Int):Rat)).floor)
 rw[←this]
 congr 1
 rw[Rat.intCast_mul,Rat.intCast_neg];grind
theorem sof_eq (x:Rat):(((spk (rmod (x/wd) ((96:Int):Rat)).floor :Int):Rat)+(rmod (x/wd) ((96:Int):Rat)-(((rmod (x/wd) ((96:Int):Rat)).floor :Int):Rat))*((spk ((rmod (x/wd) ((96:Int):Rat)).floor +1)-spk (rmod (x/wd) ((96:Int):Rat)).floor :Int):Rat))/((3438:Int):Rat)=sof x:=by
 unfold sof
 rw[←lin_rmod (x/wd)]
 unfold lin
 rw[Rat.intCast_sub]
theorem div_wd (a b:Rat):(a+b)/wd=a/wd+b/wd:=by rw[wd_eq];grind
theorem sof_turn (p:Rat) (n:Int):sof (p+((360:Int):Rat)*(n:Rat))=sof p:=by
 unfold sof
 rw[div_wd,show((360:Int):Rat)*(n:Rat)/wd=((96*n:Int):Rat) by rw[wd_eq,Rat.intCast_mul,show((360:Int):Rat)=360 from rfl,show((96:Int):Rat)=96 from rfl];grind,lin_around]
theorem sof_half (p:Rat):sof (((180:Int):Rat)-p)=sof p:=by
 unfold sof
 rw[show(((180:Int):Rat)-p)/wd=((48:Int):Rat)-p/wd by rw[wd_eq,show((180:Int):Rat)=180 from rfl,show((48:Int):Rat)=48 from rfl];grind,lin_back 48 sp_half]
theorem wd_mul (p:Rat):p/wd*wd=p:=by rw[wd_eq];grind
theorem sof_arc {a:Rat} (h1:((-1:Int):Rat)≤a) (h2:a≤((1:Int):Rat)):sof (arcv a)=a:=by
 have e1:((-1:Int):Rat)= -1:=by decide+kernel
 have e2:((1:Int):Rat)=1:=by decide+kernel
 have e3:((-3438:Int):Rat)= -3438:=by decide+kernel
 obtain⟨_,_,h⟩:=ap_of (h:=a*((3438:Int):Rat)) (by rw[c3438];grind) (by rw[c3438];grind)
 unfold sof arcv
 rw[show ap (a*((3438:Int):Rat))*wd/wd=ap (a*((3438:Int):Rat)) by rw[wd_eq];grind,h,c3438]
 grind
theorem sof_bd (p:Rat): -1≤sof p∧sof p≤1:=by
 have:=lin_bd (S:=spk) 3438 sp_bd (p/wd)
 unfold sof
 rw[c3438] at*
 constructor <;> grind
theorem wd90 {d:Rat} (h1:((-90:Int):Rat)≤d) (h2:d≤((90:Int):Rat)):((-24:Int):Rat)≤d/wd∧d/wd≤((24:Int):Rat):=by
 have e1:((-90:Int):Rat)= -90:=by decide+kernel
 have e2:((90:Int):Rat)=90:=by decide+kernel
 have e3:((-24:Int):Rat)= -24:=by decide+kernel
 have e4:((24:Int):Rat)=24:=by decide+kernel
 rw[wd_eq]
 constructor <;> grind
theorem lin_sof (p:Rat):sof p*((3438:Int):Rat)=lin spk (p/wd):=by unfold sof;rw[c3438];grind
theorem arc_sof {d:Rat} (h1:((-90:Int):Rat)≤d) (h2:d≤((90:Int):Rat)):arcv (sof d)=d:=by
 have b:=lin_bd (S:=spk) 3438 sp_bd (d/wd)
 have e3:((-3438:Int):Rat)= -((3438:Int):Rat):=by decide+kernel
 obtain⟨a1,a2,a3⟩:=ap_of (h:=lin spk (d/wd)) (by grind) b.2
 obtain⟨w1,w2⟩:=wd90 h1 h2
 unfold arcv
 rw[lin_sof,lin_inj a1 a2 w1 w2 a3,wd_mul]
theorem abs_le {a b:Rat} (h1: -b≤a) (h2:a≤b):a.abs≤b:=by unfold Rat.abs;split <;> grind
theorem le_abs (a:Rat):a≤a.abs∧ -a≤a.abs∧(a.abs=a∨a.abs= -a):=by unfold Rat.abs;split <;> grind
theorem sof_lip (p q:Rat):(sof p-sof q).abs ≤(p-q).abs *(((60:Int):Rat)/((3438:Int):Rat)):=by
 have key:∀ {p q:Rat},p≤q→ -((q-p)*(60/3438))≤sof p-sof q∧sof p-sof q≤(q-p)*(60/3438):=by
  intro p q h
  have hw:p/wd≤q/wd:=by rw[wd_eq];grind
  have:=lin_lip (S:=spk) 225 sp_step hw
  obtain⟨l1,l2,_⟩:=le_abs (lin spk (p/wd)-lin spk (q/wd))
  have e:((225:Int):Rat)*(q/wd-p/wd)=60*(q-p):=by rw[wd_eq,show((225:Int):Rat)=225 from rfl];grind
  rw[e] at this
  have s1:=lin_sof p
  have s2:=lin_sof q
  rw[c3438] at s1 s2
  constructor <;> grind
 have e:((60:Int):Rat)/((3438:Int):Rat)=60/3438:=by decide+kernel
 rw[e]
 by_cases h:p≤q
 ·obtain⟨a,b⟩:=key h
  have:(p-q).abs =q-p:=by unfold Rat.abs;split <;> grind
  rw[this];exact abs_le a b
 ·obtain⟨a,b⟩:=key (show q≤p by grind)
  have:(p-q).abs =p-q:=by unfold Rat.abs;split <;> grind
  rw[this];exact abs_le (by grind) (by grind)
theorem sof_rise {p q:Rat} (h1:((-90:Int):Rat)≤p) (h2:p<q) (h3:q≤((90:Int):Rat)):sof p<sof q:=by
 have w1:=(wd90 h1 (by grind)).1
 have w2:=(wd90 (by grind) h3).2
 have:=lin_rise w1 (show p/wd<q/wd by rw[wd_eq];grind) w2
 have s1:=lin_sof p
 have s2:=lin_sof q
 rw[c3438] at s1 s2
 grind
theorem comb_bd {f e0 e1 v:Rat} (h0:0≤f) (h1:f≤1) (a1:e0≤4000) (a2: -4000≤e0) (b1:e1≤4000) (b2: -4000≤e1) (c1:v≤4000) (c2: -30000≤v):
 (1-f)*(1-f)*e0+f*f*e1+2*(f*(1-f))*v≤4000∧ -17000≤(1-f)*(1-f)*e0+f*f*e1+2*(f*(1-f))*v:=by
 have t0:0≤f*(1-f):=Rat.mul_nonneg h0 (by grind)
 have s1:0≤(1-f)*(1-f):=Rat.mul_nonneg (by grind) (by grind)
 have s2:0≤f*f:=Rat.mul_nonneg h0 h0
 have m1:=Rat.mul_nonneg s1 (show 0≤4000-e0 by grind)
 have m2:=Rat.mul_nonneg s1 (show 0≤e0+4000 by grind)
 have m3:=Rat.mul_nonneg s2 (show 0≤4000-e1 by grind)
 have m4:=Rat.mul_nonneg s2 (show 0≤e1+4000 by grind)
 have m5:=Rat.mul_nonneg t0 (show 0≤4000-v by grind)
 have m6:=Rat.mul_nonneg t0 (show 0≤v+30000 by grind)
 have sq:0≤(f-1/2)*(f-1/2):=by
  by_cases h:f-1/2≤0
  ·have:=Rat.mul_nonneg (show 0≤ -(f-1/2) by grind) (show 0≤ -(f-1/2) by grind);grind
  ·exact Rat.mul_nonneg (by grind) (by grind)
 constructor <;> grind
theorem lin_circ (y:Rat):lin spk y*lin spk y+lin spk (y+((24:Int):Rat))*lin spk (y+((24:Int):Rat))-11819844≤4000∧ -17000≤lin spk y*lin spk y+lin spk (y+((24:Int):Rat))*lin spk (y+((24:Int):Rat))-11819844:=by
 have f0:=fl_le y
 have f1:=fl_lt y
 have e:lin spk (y+((24:Int):Rat))=(spk (y.floor+24):Rat)+(y-(y.floor:Rat))*((spk (y.floor+25):Rat)-(spk (y.floor+24):Rat)):=by
  unfold lin
  rw[Rat.floor_add_intCast,show y.floor+24+1=y.floor+25 by omega,Rat.intCast_add];grind
 rw[e]
 unfold lin
 obtain⟨⟨t1,t2⟩,t3,t4⟩:=circ_tab y.floor
 obtain⟨⟨t5,t6⟩,_⟩:=circ_tab (y.floor+1)
 rw[show y.floor+1+24=y.floor+25 by omega] at t5 t6
 replace t1:=cast_le t1;replace t2:=cast_le t2;replace t3:=cast_le t3;replace t4:=cast_le t4;replace t5:=cast_le t5;replace t6:=cast_le t6
 simp only [Rat.intCast_add,Rat.intCast_mul,Rat.intCast_sub] at t1 t2 t3 t4 t5 t6
 rw[show((11819844:Int):Rat)=11819844 from rfl] at*
 rw[show((4000:Int):Rat)=4000 from rfl] at t1 t3 t5
 rw[show((-4000:Int):Rat)= -4000 from rfl] at t2 t6
 rw[show((-30000:Int):Rat)= -30000 from rfl] at t4
 generalize (spk y.floor:Rat)=A at*
 generalize (spk (y.floor+1):Rat)=B at*
 generalize (spk (y.floor+24):Rat)=C at*
 generalize (spk (y.floor+25):Rat)=D at*
 obtain⟨f,hf⟩:∃f,f=y-(y.floor:Rat):=⟨_,rfl⟩
 rw[←hf]
 have:=comb_bd (f:=f) (e0:=A*A+C*C-11819844) (e1:=B*B+D*D-11819844) (v:=A*B+C*D-11819844) (by grind) (by grind) t1 t2 t5 t6 t3 t4
 have e2:(A+f*(B-A))*(A+f*(B-A))+(C+f*(D-C))*(C+f*(D-C))-11819844=(1-f)*(1-f)*(A*A+C*C-11819844)+f*f*(B*B+D*D-11819844)+2*(f*(1-f))*(A*B+C*D-11819844):=by grind
 rw[e2]
 exact this
theorem circ_near (p:Rat):(sof p*sof p+sof (p+((90:Int):Rat))*sof (p+((90:Int):Rat))-((1:Int):Rat)).abs ≤((1:Int):Rat)/((500:Int):Rat):=by
 have e1:((1:Int):Rat)=1:=by decide+kernel
 have e2:((1:Int):Rat)/((500:Int):Rat)=1/500:=by decide+kernel
 rw[e2,e1]
 have h:=lin_circ (p/wd)
 have e3:(p+((90:Int):Rat))/wd=p/wd+((24:Int):Rat):=by rw[wd_eq,show((90:Int):Rat)=90 from rfl,show((24:Int):Rat)=24 from rfl];grind
 have s1:=lin_sof p
 have s2:=lin_sof (p+((90:Int):Rat))
 rw[e3] at s2
 rw[←s1,←s2,c3438] at h
 generalize sof p=s at*
 generalize sof (p+((90:Int):Rat))=c at*
 exact abs_le (by grind) (by grind)
theorem lin_side (y:Rat):∃z:Rat,((-24:Int):Rat)≤z∧z≤((24:Int):Rat)∧lin spk z=lin spk y∧lin spk (z+((24:Int):Rat))=(lin spk (y+((24:Int):Rat))).abs :=by
 have e24:((24:Int):Rat)=24:=by decide+kernel
 have e48:((48:Int):Rat)=48:=by decide+kernel
 have em24:((-24:Int):Rat)= -24:=by decide+kernel
 have e96:((96:Int):Rat)=96:=by decide+kernel
 obtain⟨r,hr0,hr1,n,hn⟩:∃r:Rat, -24≤r∧r<72∧∃n:Int,y=r+((96*n:Int):Rat):=by
  refine⟨rmod (y+24) 96-24,?_,?_,((y+24)/96).floor,?_⟩
  ·have:=rmod_low (x:=y+24) (m:=96) (by grind);grind
  ·have:=rmod_high (x:=y+24) (m:=96) (by grind);grind
  ·unfold rmod;rw[if_neg (by grind),Rat.intCast_mul,e96];grind
 have y1:lin spk y=lin spk r:=by rw[hn,lin_around]
 have y2:lin spk (y+((24:Int):Rat))=lin spk (r+((24:Int):Rat)):=by
  rw[hn,show r+((96*n:Int):Rat)+((24:Int):Rat)=r+((24:Int):Rat)+((96*n:Int):Rat) by grind,lin_around]
 have pos:∀z:Rat,0≤z→z≤48→0≤lin spk z:=by
  have l0:lin spk 0=0:=by have:=lin_int spk 0;rw[Rat.intCast_zero] at this;rw[this];decide+kernel
  have low:∀z:Rat,0≤z→z≤24→0≤lin spk z:=by
   intro z a b
   by_cases c:z=0
   ·rw[c,l0];grind
   ·have:=lin_rise (y:=0) (z:=z) (by rw[em24];grind) (by grind) (by rw[e24];grind);grind
  intro z a b
  by_cases c:z≤24
  ·exact low z a c
  ·have:=lin_back (S:=spk) 48 sp_half z
   rw[←this,e48];exact low _ (by grind) (by grind)
 rw[y1,y2]
 by_cases c:r≤24
 ·refine⟨r,by rw[em24];exact hr0,by rw[e24];exact c,rfl,?_⟩
  have:=pos (r+((24:Int):Rat)) (by rw[e24];grind) (by rw[e24];grind)
  unfold Rat.abs;rw[if_pos this]
 ·refine⟨((48:Int):Rat)-r,by rw[em24,e48];grind,by rw[e24,e48];grind,lin_back 48 sp_half r,?_⟩
  have h1:lin spk (((48:Int):Rat)-r+((24:Int):Rat))=lin spk (r-((24:Int):Rat)):=by
   rw[←lin_back (S:=spk) 48 sp_half (r-((24:Int):Rat))]
   congr 1;grind
  have h2:=lin_opp (S:=spk) 48 sp_opp (r-((24:Int):Rat))
  rw[show r-((24:Int):Rat)+((48:Int):Rat)=r+((24:Int):Rat) by rw[e24,e48];grind] at h2
  have:=pos (r-((24:Int):Rat)) (by rw[e24];grind) (by rw[e24];grind)
  rw[h1,h2]
  unfold Rat.abs;split <;> grind
theorem arc_circ (p:Rat):sof (arcv (sof p))=sof p∧sof (arcv (sof p)+((90:Int):Rat))=(sof (p+((90:Int):Rat))).abs :=by
 obtain⟨z,h1,h2,h3,h4⟩:=lin_side (p/wd)
 have b:=sof_bd p
 refine⟨sof_arc (by rw[show((-1:Int):Rat)= -1 from rfl];exact b.1) (by rw[show((1:Int):Rat)=1 from rfl];exact b.2),?_⟩
 have e:arcv (sof p)=z*wd:=by
  have q:=lin_bd (S:=spk) 3438 sp_bd (p/wd)
  have e3:((-3438:Int):Rat)= -((3438:Int):Rat):=by decide+kernel
  obtain⟨a1,a2,a3⟩:=ap_of (h:=lin spk (p/wd)) (by grind) q.2
  unfold arcv
  rw[lin_sof,lin_inj a1 a2 h1 h2 (a3.trans h3.symm)]
 rw[e]
 unfold sof
 rw[show(z*wd+((90:Int):Rat))/wd=z+((24:Int):Rat) by rw[wd_eq,show((90:Int):Rat)=90 from rfl,show((24:Int):Rat)=24 from rfl];grind,show(p+((90:Int):Rat))/wd=p/wd+((24:Int):Rat) by rw[wd_eq,show((90:Int):Rat)=90 from rfl,show((24:Int):Rat)=24 from rfl];grind,h4,c3438]
 unfold Rat.abs
 split <;> split <;> grind
def pk (x:Rat):Int:=(rmod (x/wd) ((96:Int):Rat)).floor
def pfr (x:Rat):Rat:=rmod (x/wd) ((96:Int):Rat)-((pk x:Int):Rat)
theorem pk_bd (x:Rat):0≤pk x∧pk x<96:=by
 have h:(0:Rat)<((96:Int):Rat):=by decide+kernel
 have h1:=rmod_low (x:=x/wd) h
 have h2:=rmod_high (x:=x/wd) h
 refine⟨Rat.le_floor_iff.2 (by rw[Rat.intCast_zero];exact h1),Rat.floor_lt_iff.2 h2⟩
theorem pk_sm (x:Rat):sm64 (rmod (x/wd) ((96:Int):Rat)).floor =pk x:=sm64_t (by have:=pk_bd x;unfold pk at this;omega) (by have:=pk_bd x;unfold pk at this;omega)
theorem sof_pk (x:Rat):(((spk (pk x):Int):Rat)+pfr x*((spk (pk x+1)-spk (pk x):Int):Rat))/((3438:Int):Rat)=sof x:=sof_eq x
theorem wd_lim:RLim wd 2:=(rlim_mk2 (limz_64 (by decide) (by decide)) (limz_64 (by decide) (by decide))).up 2 (by decide)
theorem lim64 {n:Int} (h0: -9223372036854775808≤n) (h1:n≤9223372036854775807):RLim ((n:Int):Rat) 2:=rlim_int (limz_64 h0 h1) (by decide)
theorem around_lim {x:Rat} {k:Nat} (h:RLim x k):RLim (rmod (x/wd) ((96:Int):Rat)) (2*k+20):=(rmod_lim (rlim_div h wd_lim) (lim64 (by decide) (by decide))).up _ (by omega)
theorem pfr_lim {x:Rat} {k:Nat} (h:RLim x k):RLim (pfr x) (4*k+50):=(frac_lim (around_lim h)).up _ (by omega)
theorem spk64 (k:Int): -9223372036854775808≤spk k∧spk k≤9223372036854775807:=by have:=sp_bd k;omega
theorem dif64 (k:Int): -9223372036854775808≤spk (k+1)-spk k∧spk (k+1)-spk k≤9223372036854775807:=by have:=sp_step k;omega
theorem sof_lim {x:Rat} {k:Nat} (h:RLim x k):RLim (sof x) (4*k+60):=by
 rw[←sof_pk]
 exact(rlim_div (rlim_add (lim64 (spk64 _).1 (spk64 _).2) (rlim_mul (pfr_lim h) (lim64 (dif64 _).1 (dif64 _).2))) (lim64 (n:=3438) (by decide) (by decide))).up _ (by omega)
theorem ay_lim {h:Rat} {k:Nat} (l:RLim h k):RLim (ay h) (k+10):=by
 unfold ay
 split
 ·exact(rlim_add (rlim_div (rlim_sub l (lim64 (spk64 _).1 (spk64 _).2)) (lim64 (dif64 _).1 (dif64 _).2)) (lim64 (by omega) (by omega))).up _ (by omega)
 ·exact(lim64 (by decide) (by decide)).up _ (by omega)
theorem arcv_lim {x:Rat} {k:Nat} (l:RLim x k):RLim (arcv x) (k+20):=by
 have h:=rlim_mul l (lim64 (n:=3438) (by decide) (by decide))
 unfold arcv ap
 refine(rlim_mul (k:=k+12) ?_ wd_lim).up _ (by omega)
 split
 ·exact rlim_neg (ay_lim (rlim_neg h))
 ·exact ay_lim h
theorem hiv_spk {k:Int} (h0:0≤k) (h1:k≤24):hiT.getD (max 0 (min k 24)).toNat 0=spk k:=by
 have t:∀n:Nat,n<25→hiT.getD (max 0 (min (n:Int) 24)).toNat 0=spk (n:Int):=by decide+kernel
 have:=t k.toNat (by omega)
 rwa[show((k.toNat:Nat):Int)=k by omega] at this
theorem qc_pos {a b:Rat}:0<qc a b↔b<a:=by
 rw[qc_def]
 split
 ·constructor
  ·intro h;omega
  ·intro h;grind
 ·split
  ·constructor
   ·intro;assumption
   ·intro;omega
  ·constructor
   ·intro h;omega
   ·intro h;contradiction
theorem yk_next {h:Rat} {j:Nat} (hj:j<24) (e:ykf h (24-j) j=yk h) (hc:0<qc h ((spk (((j:Nat):Int)+1):Int):Rat)):ykf h (24-(j+1)) (j+1)=yk h:=by
 rw[←e,show 24-j=(24-(j+1))+1 by omega]
 show _=if h≤_ then _ else _
 have:=qc_pos.1 hc
 rw[if_neg (by grind)]
theorem yk_here {h:Rat} {j:Nat} (hj:j<24) (e:ykf h (24-j) j=yk h) (hc:¬0<qc h ((spk (((j:Nat):Int)+1):Int):Rat)):yk h=j:=by
 rw[←e,show 24-j=(24-(j+1))+1 by omega]
 show(if h≤_ then _ else _)=_
 have:¬_<_:=fun q=>hc (qc_pos.2 q)
 rw[if_pos (by grind)]
theorem arc_here {x:Rat} {j:Nat} (hx:¬x<0) (hj:j<24) (e:yk (x*((3438:Int):Rat))=j):((x*((3438:Int):Rat)-((spk ((j:Nat):Int):Int):Rat))/((spk (((j:Nat):Int)+1)-spk ((j:Nat):Int):Int):Rat)+((((j:Nat):Int):Int):Rat))*wd=arcv x:=by
 unfold arcv ap
 rw[if_neg (by rw[c3438];grind)]
 unfold ay
 rw[e,if_pos hj]
theorem arc_end {x:Rat} (hx:¬x<0) (e:yk (x*((3438:Int):Rat))=24):((90:Int):Rat)=arcv x:=by
 unfold arcv ap
 rw[if_neg (by rw[c3438];grind)]
 unfold ay
 rw[e,if_neg (by decide)]
 decide+kernel
theorem arc_neg {x:Rat} (hx:x<0): -(arcv (-x))=arcv x:=by
 unfold arcv ap
 rw[if_neg (by rw[c3438];grind),if_pos (by rw[c3438];grind),show -x*((3438:Int):Rat)= -(x*((3438:Int):Rat)) by grind]
 grind
theorem sz_lt0 {q:Rat}:sz q.num<0↔q<0:=by
 rw[sz_def]
 split
 ·constructor <;> intro <;> first|assumption|omega
 ·split
  ·constructor <;> intro <;> first|contradiction|omega
  ·constructor <;> intro <;> first|contradiction|omega
theorem neg_not {q:Rat} (h:q<0):¬sz (-q).num <0:=by
 rw[sz_lt0];grind
def PlacePost (w:World) (x:Rat):Ending→World→Prop:=fun e w'=>∃v,e= .returned (.tuple #[.int .i64 (pk x),v])∧Rq w' v (pfr x)∧Below w.heap.size w w'
theorem rv_iv {a b:Int} {v:Value} (h:a=b):Ending.returned (.tuple #[.int .i64 a,v])= .returned (.tuple #[.int .i64 b,v]):=by rw[h]
theorem res_tmpcell {P:Program} {fn:Func} {a:Act} {w:World} {t u:Tmp} {T:TypeId} {p:Addr} {v x:Value} (h:fn.results=#[.tmp t,.cell u T]) (hx:a.tmps.getD t undef=x) (ha:a.tmps.getD u undef= .pointer (some p)) (hl:(Instr.loadAt T (.pointer (some p))).run P w= .ok v w):
 (results fn a.tmps).run P w= .ok (.tuple #[x,v]) w:=by
 have hl':(loadVar T p).run P w= .ok v w:=hl
 have e:(asAddr (a.tmps.getD u undef)).run P w= .ok p w:=by rw[ha];rfl
 simp only [results,h,List.mapM_toArray,List.mapM_cons,List.mapM_nil,Sem.run_bind,e,Result.andThen_ok,hl',Sem.run_pure,Sem.run_map,hx]
 rfl
end
section
theorem high_spk (k:Int) (w:World) (hT:TabD w) (h0:0≤k) (h1:k≤24):Calls Tryz.prog 247 #[.int .i64 k] w (ValPost w (.int .i64 (spk k))):=by
 have:=high_any k w hT
 rwa[show hiv k=spk k from hiv_spk h0 h1] at this
theorem width_any (w:World):
 Calls Tryz.prog 248 #[] w (RqPost w wd):=by
 have st:=St.start w
 refine E.enter (nt:=2) (L:=[]) Tryz.func248 rfl rfl rfl args_nil ?_
 intro a hF
 refine wp_seq ?_
 refine E.seq ?_
 refine S.alloc st hF ty_Rat rfl rfl fun g0 w1 a st hF=>?_
 refine E.nil ?_
 refine wp_seq ?_
 refine E.seq ?_
 refine S.ck st hF (rgc k35 (map2 ev_c ev_c)) (rq_ret (rOf2_any (360) (96) _ (by decide) (by decide) (by decide) (by decide)) (RLim.up (rlim_mk2 (limz_64 (by decide) (by decide)) (limz_64 (by decide) (by decide))) 2 (by decide))) Rl.cl rfl fun vv3 w2 a st hF=>?_
 obtain⟨b5,ad5,n5,c5,ae5,m5,d5,rfl⟩:=Rq.form (st.f 0 rfl).1
 refine S.sto st hF 0 rfl (hF.at 1 rfl) (hF.at 0 rfl) ty_Rat rfl rfl rfl rfl fun w6 a st hF=>?_
 refine E.nil ?_
 refine wp_ret ?_
 refine S.ret Tryz.results248 st hF (hF.at 1 rfl) 0 rfl ty_Rat rfl hF.dfr ?_
 have bel:=st.bel
 exact⟨_,rfl,(st.f 0 rfl).1,bel⟩
theorem rise_any (k:Int) (w:World) (hT:TabD w) (h0: -1000000≤k) (h1:k≤1000000):
 Calls Tryz.prog 246 #[.int .i64 k] w (ValPost w (.int .i64 (spk (k+1)-spk k))):=by
 have hsa:=sp_bd k
 have hsb:=sp_bd (k+1)
 have st:=St.start w
 refine E.enter (nt:=9) (L:=[(0,.int .i64 k)]) Tryz.func246 rfl rfl rfl (args_cons (i:=0) rfl args_nil) ?_
 intro a hF
 refine wp_seq ?_
 refine E.seq ?_
 refine E.opv hF (r_assign ev_c) rfl rfl rfl rfl fun a hF=>?_
 refine E.nil ?_
 refine wp_seq ?_
 refine E.seq ?_
 refine E.opv hF (r_move (hF.at 1 rfl)) rfl rfl rfl rfl fun a hF=>?_
 refine E.opv hF (r_bin (hF.at 0 rfl) ev_c eg_scalar (ia_add (by omega) (by omega))) rfl rfl rfl rfl fun a hF=>?_
 refine S.callx st hF (rgc k245 (map1 (hF.at 0 rfl))) (dsine_any (k+1) _ (hT.below st.bel)) rfl rfl rfl rfl fun w1 a st hF=>?_
 refine E.opv hF (r_move (hF.at 4 rfl)) rfl rfl rfl rfl fun a hF=>?_
 refine S.callx st hF (rgc k245 (map1 (hF.at 0 rfl))) (dsine_any k _ (hT.below st.bel)) rfl rfl rfl rfl fun w2 a st hF=>?_
 refine E.opv hF (r_bin (hF.at 2 rfl) (hF.at 0 rfl) eg_scalar (ia_sub (by omega) (by omega))) rfl rfl rfl rfl fun a hF=>?_
 refine E.opset (L':=[(2,.int .i64 ((spk (k+1))-(spk k))),(8,.int .i64 ((spk (k+1))-(spk k))),(7,.int .i64 (spk k)),(6,.int .i64 k),(5,.int .i64 (spk (k+1))),(4,.int .i64 (k+1)),(3,.int .i64 k),(0,.int .i64 k)]) hF (r_assign (hF.at 0 rfl)) rfl rfl rfl rfl fun a hF=>?_
 refine E.nil ?_
 refine wp_ret ?_
 have bel:=st.bel
 refine bodyPost_ret (res_tmp Tryz.results246 (hF.at 0 rfl)) hF.dfr ?_
 exact⟨rfl,bel⟩
theorem place_any (v1:Value) (qx:Rat) (k:Nat) (w:World) (h1:Rq w v1 qx) (hl:RLim qx k) (hk:k≤900):
 Calls Tryz.prog 244 #[v1] w (PlacePost w qx):=by
 have st:=St.start w
 refine E.enter (nt:=20) (L:=[(0,v1)]) Tryz.func244 rfl rfl rfl (args_cons (i:=0) rfl args_nil) ?_
 intro a hF
 refine wp_seq ?_
 refine E.seq ?_
 obtain⟨b2,ad2,n2,c2,ae2,m2,d2,rfl⟩:=Rq.form h1
 refine S.box st hF (hF.at 0 rfl) rfl rfl fun g1 w1 a st hF=>?_
 refine E.opv hF (r_assign ev_c) rfl rfl rfl rfl fun a hF=>?_
 refine S.alloc st hF ty_Rat rfl rfl fun g3 w3 a st hF=>?_
 refine E.nil ?_
 refine wp_seq ?_
 refine E.rga 6 mixed hF [7,8,9,10,11,4] [_,_,_,_,_,kn w3 [.bool false,.slice none 0 0,.slice none 0 0]] [5] ⟨fun _ _ ⟨g,e,_,o⟩=>⟨g,e,o.lt⟩,trivial⟩ (by decide+kernel) rfl rfl rfl ⟨rb st ty_Rat 2 1 rfl,ck st k248 rfl fun _ s=>rq_ret (width_any _) wd_lim,ck st k75 rfl fun _ s _ x8=>qDiv ⟨(h1.below s.bel),hl⟩ x8,ck st k40 rfl fun _ s=>rq_ret (rWhole_any (96) _ (by decide) (by decide)) (rlim_int (limz_64 (by decide) (by decide)) (by omega)),ck st k220 rfl fun _ s _ x9 _ x10=>qMod x9 x10,ra ty_Rat rfl rfl,trivial⟩ ?_
 intro a w4 hF bb hall hne
 have s0:=st
 replace st:=st.to bb
 obtain⟨vv5,hF,st⟩:=rS hall hF st 4 rfl rfl Rl.cl
 obtain⟨b7,ad7,n7,c7,ae7,m7,d7,rfl⟩:=Rq.form (st.f 0 rfl).1
 obtain⟨_,e4,g4,rfl,ge4,o4⟩:=sS hall 5 4 rfl rfl
 replace st:=st.push o4.blk (Nat.le_trans s0.bel.size ge4) (s0.ne ge4)
 clear o4
 replace hF:=hF.add e4
 clear hall bb hne s0
 refine S.sto st hF 0 rfl (hF.at 0 rfl) (hF.at 1 rfl) ty_Rat rfl rfl rfl rfl fun w8 a st hF=>?_
 refine E.nil ?_
 refine wp_seq ?_
 refine E.seq ?_
 refine E.opv hF (r_load (hF.at 0 rfl) (ld_all ty_Rat (st.bk 0 rfl) rfl)) rfl rfl rfl rfl fun a hF=>?_
 refine S.callx st hF (rgc k89 (map1 (hF.at 0 rfl))) (cDays_any _ _ ((k+2)+(k+2)+2+2+3) _ (st.f 0 rfl).1 (st.f 0 rfl).2 (by omega)) rfl rfl rfl rfl fun w9 a st hF=>?_
 refine E.opv hF (r_move (hF.at 0 rfl)) rfl rfl rfl rfl fun a hF=>?_
 refine E.opv hF (r_extract (v:= .int .i64 (sm64 (Rat.floor (rmod ((qx)/(wd)) (((96:Int):Rat)))))) (hF.at 0 rfl) rfl) rfl rfl rfl rfl fun a hF=>?_
 refine E.opv hF (r_extract (v:= .bool (fit64 (Rat.floor (rmod ((qx)/(wd)) (((96:Int):Rat)))))) (hF.at 1 rfl) rfl) rfl rfl rfl rfl fun a hF=>?_
 refine E.opv hF (r_assign (hF.at 1 rfl)) rfl rfl rfl rfl fun a hF=>?_
 refine E.opv hF (r_assign (hF.at 1 rfl)) rfl rfl rfl rfl fun a hF=>?_
 refine E.nil ?_
 refine wp_seq ?_
 refine E.seq ?_
 refine E.opv hF (r_move (hF.at 1 rfl)) rfl rfl rfl rfl fun a hF=>?_
 refine E.opv hF (r_load (hF.at 8 rfl) (ld_all ty_Rat (st.bk 0 rfl) rfl)) rfl rfl rfl rfl fun a hF=>?_
 refine S.ck st hF (rgc k221 (map1 (hF.at 0 rfl))) (qFrac (st.f 0 rfl)) Rl.cl rfl fun vv11 w10 a st hF=>?_
 obtain⟨b13,ad13,n13,c13,ae13,m13,d13,rfl⟩:=Rq.form (st.f 0 rfl).1
 refine E.opset (L':=[(2,.int .i64 (sm64 (Rat.floor (rmod ((qx)/(wd)) (((96:Int):Rat)))))),(19,.agg #[.bool b13,.slice ad13 n13 c13,.slice ae13 m13 d13]),(18,.agg #[.bool b7,.slice ad7 n7 c7,.slice ae7 m7 d7]),(17,.int .i64 (sm64 (Rat.floor (rmod ((qx)/(wd)) (((96:Int):Rat)))))),(6,.bool (fit64 (Rat.floor (rmod ((qx)/(wd)) (((96:Int):Rat)))))),(5,.int .i64 (sm64 (Rat.floor (rmod ((qx)/(wd)) (((96:Int):Rat)))))),(16,.bool (fit64 (Rat.floor (rmod ((qx)/(wd)) (((96:Int):Rat)))))),(15,.int .i64 (sm64 (Rat.floor (rmod ((qx)/(wd)) (((96:Int):Rat)))))),(12,.tuple #[.int .i64 (sm64 (Rat.floor (rmod ((qx)/(wd)) (((96:Int):Rat))))),.bool (fit64 (Rat.floor (rmod ((qx)/(wd)) (((96:Int):Rat)))))]),(14,.tuple #[.int .i64 (sm64 (Rat.floor (rmod ((qx)/(wd)) (((96:Int):Rat))))),.bool (fit64 (Rat.floor (rmod ((qx)/(wd)) (((96:Int):Rat)))))]),(13,.agg #[.bool b7,.slice ad7 n7 c7,.slice ae7 m7 d7]),(4,.pointer (some ⟨g4,0,none⟩)),(11,.agg #[.bool b7,.slice ad7 n7 c7,.slice ae7 m7 d7]),(3,.pointer (some ⟨g3,0,none⟩)),(1,.pointer (some ⟨g1,0,none⟩)),(0,.agg #[.bool b2,.slice ad2 n2 c2,.slice ae2 m2 d2])]) hF (r_assign (hF.at 2 rfl)) rfl rfl rfl rfl fun a hF=>?_
 refine S.sto st hF 1 rfl (hF.at 13 rfl) (hF.at 1 rfl) ty_Rat rfl rfl rfl rfl fun w14 a st hF=>?_
 refine E.nil ?_
 refine wp_ret ?_
 have bel:=st.bel
 refine bodyPost_ret (res_tmpcell Tryz.results244 (hF.at 0 rfl) (hF.at 13 rfl) (ld_all ty_Rat (st.bk 1 rfl) rfl)) hF.dfr ?_
 exact⟨_,rv_iv (pk_sm qx),(st.f 0 rfl).1,bel⟩
theorem sof_any (v1:Value) (qx:Rat) (k:Nat) (w:World) (hT:TabD w) (h1:Rq w v1 qx) (hl:RLim qx k) (hk:k≤800):
 Calls Tryz.prog 223 #[v1] w (RqPost w (sof qx)):=by
 have st:=St.start w
 refine E.enter (nt:=23) (L:=[(0,v1)]) Tryz.func223 rfl rfl rfl (args_cons (i:=0) rfl args_nil) ?_
 intro a hF
 refine wp_seq ?_
 refine E.seq ?_
 obtain⟨b2,ad2,n2,c2,ae2,m2,d2,rfl⟩:=Rq.form h1
 refine S.box st hF (hF.at 0 rfl) rfl rfl fun g1 w1 a st hF=>?_
 refine S.alloc st hF ty_Rat rfl rfl fun g2 w3 a st hF=>?_
 refine E.nil ?_
 refine wp_seq ?_
 refine E.seq ?_
 refine E.opv hF (r_load (hF.at 1 rfl) (ld_all ty_Rat (st.bk 1 rfl) rfl)) rfl rfl rfl rfl fun a hF=>?_
 refine S.callt st hF (rgc k244 (map1 (hF.at 0 rfl))) (place_any _ (qx) k _ (h1.below st.bel) hl (by omega)) (fun _ _ h=>h) Rq.cl rfl rfl rfl rfl fun vv5 w4 a st hF=>?_
 have hpk:=pk_bd (qx)
 obtain⟨b7,ad7,n7,c7,ae7,m7,d7,rfl⟩:=Rq.form (st.f 0 rfl)
 refine E.opv hF (r_move (hF.at 0 rfl)) rfl rfl rfl rfl fun a hF=>?_
 refine E.opv hF (r_extract (v:= .int .i64 (pk (qx))) (hF.at 0 rfl) rfl) rfl rfl rfl rfl fun a hF=>?_
 refine E.opv hF (r_extract (v:= .agg #[.bool b7,.slice ad7 n7 c7,.slice ae7 m7 d7]) (hF.at 1 rfl) rfl) rfl rfl rfl rfl fun a hF=>?_
 refine S.alloc st hF ty_Rat rfl rfl fun g4 w8 a st hF=>?_
 refine E.opv hF (r_assign (hF.at 2 rfl)) rfl rfl rfl rfl fun a hF=>?_
 refine S.sto st hF 0 rfl (hF.at 1 rfl) (hF.at 2 rfl) ty_Rat rfl rfl rfl rfl fun w9 a st hF=>?_
 refine E.nil ?_
 refine wp_seq ?_
 refine E.rga 10 mixed hF [11,12,13,14,15,16,17,18,19,5] [_,_,_,_,_,_,_,_,_,kn w9 [.bool false,.slice none 0 0,.slice none 0 0]] [9] ⟨fun _ _ ⟨g,e,_,o⟩=>⟨g,e,o.lt⟩,trivial⟩ (by decide+kernel) rfl rfl rfl ⟨rm 0 rfl,ck st k245 rfl fun _ s=>ex_ret (dsine_any (pk (qx)) _ (hT.below s.bel)),ck st k40 rfl fun _ s=>rq_ret (rWhole_any (spk (pk (qx))) _ (spk64 (pk (qx))).1 (spk64 (pk (qx))).2) (rlim_int (limz_64 (spk64 (pk (qx))).1 (spk64 (pk (qx))).2) (by omega)),rb st ty_Rat 1 0 rfl,rm 0 rfl,ck st k246 rfl fun _ s=>ex_ret (rise_any (pk (qx)) _ (hT.below s.bel) (by omega) (by omega)),ck st k40 rfl fun _ s=>rq_ret (rWhole_any (spk (pk (qx)+1)-spk (pk (qx))) _ (dif64 (pk (qx))).1 (dif64 (pk (qx))).2) (rlim_int (limz_64 (dif64 (pk (qx))).1 (dif64 (pk (qx))).2) (by omega)),ck st k58 rfl fun _ s _ x17=>qMul ⟨(s.f 0 rfl),(pfr_lim hl)⟩ x17,ck st k56 rfl fun _ s _ x13 _ x18=>qAdd x13 x18,ra ty_Rat rfl rfl,trivial⟩ ?_
 intro a w10 hF bb hall hne
 have s0:=st
 replace st:=st.to bb
 obtain⟨vv11,hF,st⟩:=rS hall hF st 8 rfl rfl Rl.cl
 obtain⟨b13,ad13,n13,c13,ae13,m13,d13,rfl⟩:=Rq.form (st.f 0 rfl).1
 obtain⟨_,e5,g5,rfl,ge5,o5⟩:=sS hall 9 5 rfl rfl
 replace st:=st.push o5.blk (Nat.le_trans s0.bel.size ge5) (s0.ne ge5)
 clear o5
 replace hF:=hF.add e5
 clear hall bb hne s0
 refine S.sto st hF 0 rfl (hF.at 0 rfl) (hF.at 1 rfl) ty_Rat rfl rfl rfl rfl fun w14 a st hF=>?_
 refine E.nil ?_
 refine wp_seq ?_
 refine E.rg 3 mixed hF [20,21,22] [_,_,_] (by decide+kernel) rfl rfl rfl ⟨rb st ty_Rat 0 0 rfl,ck st k40 rfl fun _ s=>rq_ret (rWhole_any (3438) _ (by decide) (by decide)) (rlim_int (limz_64 (by decide) (by decide)) (by omega)),ck st k75 rfl fun _ s _ x21=>qDiv (s.f 0 rfl) x21,trivial⟩ ?_
 intro a w15 hF bb hall
 replace st:=st.to bb
 obtain⟨vv16,hF,st⟩:=rS hall hF st 2 rfl rfl Rl.cl
 obtain⟨b18,ad18,n18,c18,ae18,m18,d18,rfl⟩:=Rq.form (st.f 0 rfl).1
 clear hall bb
 refine S.sto st hF 2 rfl (hF.at 10 rfl) (hF.at 0 rfl) ty_Rat rfl rfl rfl rfl fun w19 a st hF=>?_
 refine E.nil ?_
 refine wp_ret ?_
 refine S.ret Tryz.results223 st hF (hF.at 10 rfl) 2 rfl ty_Rat rfl hF.dfr ?_
 have bel:=st.bel
 exact⟨_,rfl,Rq.castM (st.f 0 rfl).1 (sof_pk qx),bel⟩
theorem scos_any (v1:Value) (qx:Rat) (k:Nat) (w:World) (hT:TabD w) (h1:Rq w v1 qx) (hl:RLim qx k) (hk:k≤700):
 Calls Tryz.prog 239 #[v1] w (RqPost w (sof (qx+((90:Int):Rat)))):=by
 have st:=St.start w
 refine E.enter (nt:=7) (L:=[(0,v1)]) Tryz.func239 rfl rfl rfl (args_cons (i:=0) rfl args_nil) ?_
 intro a hF
 refine wp_seq ?_
 refine E.seq ?_
 obtain⟨b2,ad2,n2,c2,ae2,m2,d2,rfl⟩:=Rq.form h1
 refine S.box st hF (hF.at 0 rfl) rfl rfl fun g1 w1 a st hF=>?_
 refine S.alloc st hF ty_Rat rfl rfl fun g2 w3 a st hF=>?_
 refine E.nil ?_
 refine wp_seq ?_
 refine E.rg 4 mixed hF [3,4,5,6] [_,_,_,_] (by decide+kernel) rfl rfl rfl ⟨rb st ty_Rat 1 1 rfl,ck st k40 rfl fun _ s=>rq_ret (rWhole_any (90) _ (by decide) (by decide)) (rlim_int (limz_64 (by decide) (by decide)) (by omega)),ck st k56 rfl fun _ s _ x4=>qAdd ⟨(h1.below s.bel),hl⟩ x4,ck st k223 rfl fun _ s _ x5=>rq_ret (sof_any _ ((qx)+(((90:Int):Rat))) (k+2+1) _ (hT.below s.bel) x5.1 x5.2 (by omega)) (sof_lim x5.2),trivial⟩ ?_
 intro a w4 hF bb hall
 replace st:=st.to bb
 obtain⟨vv5,hF,st⟩:=rS hall hF st 3 rfl rfl Rl.cl
 obtain⟨b7,ad7,n7,c7,ae7,m7,d7,rfl⟩:=Rq.form (st.f 0 rfl).1
 clear hall bb
 refine S.sto st hF 0 rfl (hF.at 1 rfl) (hF.at 0 rfl) ty_Rat rfl rfl rfl rfl fun w8 a st hF=>?_
 refine E.nil ?_
 refine wp_ret ?_
 refine S.ret Tryz.results239 st hF (hF.at 1 rfl) 0 rfl ty_Rat rfl hF.dfr ?_
 have bel:=st.bel
 exact⟨_,rfl,(st.f 0 rfl).1,bel⟩
theorem step_any (v1:Value) (qx:Rat) (k:Nat) (w:World) (hT:TabD w) (h1:Rq w v1 qx) (hl:RLim qx k) (hk:k≤800):
 Calls Tryz.prog 236 #[v1] w (ValPost w (.int .i64 (spk (pk qx+1)-spk (pk qx)))):=by
 have st:=St.start w
 refine E.enter (nt:=12) (L:=[(0,v1)]) Tryz.func236 rfl rfl rfl (args_cons (i:=0) rfl args_nil) ?_
 intro a hF
 refine wp_seq ?_
 refine E.seq ?_
 obtain⟨b2,ad2,n2,c2,ae2,m2,d2,rfl⟩:=Rq.form h1
 refine S.box st hF (hF.at 0 rfl) rfl rfl fun g1 w1 a st hF=>?_
 refine E.opv hF (r_assign ev_c) rfl rfl rfl rfl fun a hF=>?_
 refine E.nil ?_
 refine wp_seq ?_
 refine E.seq ?_
 refine E.opv hF (r_load (hF.at 1 rfl) (ld_all ty_Rat (st.bk 0 rfl) rfl)) rfl rfl rfl rfl fun a hF=>?_
 refine S.callt st hF (rgc k244 (map1 (hF.at 0 rfl))) (place_any _ (qx) k _ (h1.below st.bel) hl (by omega)) (fun _ _ h=>h) Rq.cl rfl rfl rfl rfl fun vv4 w3 a st hF=>?_
 have hpk:=pk_bd (qx)
 obtain⟨b6,ad6,n6,c6,ae6,m6,d6,rfl⟩:=Rq.form (st.f 0 rfl)
 refine E.opv hF (r_move (hF.at 0 rfl)) rfl rfl rfl rfl fun a hF=>?_
 refine E.opv hF (r_extract (v:= .int .i64 (pk (qx))) (hF.at 0 rfl) rfl) rfl rfl rfl rfl fun a hF=>?_
 refine E.opv hF (r_extract (v:= .agg #[.bool b6,.slice ad6 n6 c6,.slice ae6 m6 d6]) (hF.at 1 rfl) rfl) rfl rfl rfl rfl fun a hF=>?_
 refine S.alloc st hF ty_Rat rfl rfl fun g4 w7 a st hF=>?_
 refine E.opv hF (r_assign (hF.at 2 rfl)) rfl rfl rfl rfl fun a hF=>?_
 refine S.sto st hF 0 rfl (hF.at 1 rfl) (hF.at 2 rfl) ty_Rat rfl rfl rfl rfl fun w8 a st hF=>?_
 refine E.nil ?_
 refine wp_seq ?_
 refine E.seq ?_
 refine E.opv hF (r_move (hF.at 0 rfl)) rfl rfl rfl rfl fun a hF=>?_
 refine S.callx st hF (rgc k246 (map1 (hF.at 0 rfl))) (rise_any (pk (qx)) _ (hT.below st.bel) (by omega) (by omega)) rfl rfl rfl rfl fun w9 a st hF=>?_
 refine E.opset (L':=[(2,.int .i64 (spk (pk (qx)+1)-spk (pk (qx)))),(11,.int .i64 (spk (pk (qx)+1)-spk (pk (qx)))),(10,.int .i64 (pk (qx))),(3,.int .i64 (pk (qx))),(4,.pointer (some ⟨g4,0,none⟩)),(9,.agg #[.bool b6,.slice ad6 n6 c6,.slice ae6 m6 d6]),(8,.int .i64 (pk (qx))),(5,.tuple #[.int .i64 (pk (qx)),.agg #[.bool b6,.slice ad6 n6 c6,.slice ae6 m6 d6]]),(7,.tuple #[.int .i64 (pk (qx)),.agg #[.bool b6,.slice ad6 n6 c6,.slice ae6 m6 d6]]),(6,.agg #[.bool b2,.slice ad2 n2 c2,.slice ae2 m2 d2]),(1,.pointer (some ⟨g1,0,none⟩)),(0,.agg #[.bool b2,.slice ad2 n2 c2,.slice ae2 m2 d2])]) hF (r_assign (hF.at 0 rfl)) rfl rfl rfl rfl fun a hF=>?_
 refine E.nil ?_
 refine wp_ret ?_
 have bel:=st.bel
 refine bodyPost_ret (res_tmp Tryz.results236 (hF.at 0 rfl)) hF.dfr ?_
 exact⟨rfl,bel⟩
theorem arc_pos (v1:Value) (qx:Rat) (k:Nat) (w:World) (hT:TabD w) (h1:Rq w v1 qx) (hl:RLim qx k) (hk:k≤1000) (hn:¬sz (Rat.num qx)<0):
 Calls Tryz.prog 225 #[v1] w (RqPost w (arcv qx)):=by
 have hx:¬qx<0:=fun e=>hn (sz_lt0.2 e)
 have st:=St.start w
 refine E.enter (nt:=45) (L:=[(0,v1)]) Tryz.func225 rfl rfl rfl (args_cons (i:=0) rfl args_nil) ?_
 intro a hF
 refine wp_seq ?_
 refine E.seq ?_
 obtain⟨b2,ad2,n2,c2,ae2,m2,d2,rfl⟩:=Rq.form h1
 refine S.box st hF (hF.at 0 rfl) rfl rfl fun g1 w1 a st hF=>?_
 refine S.alloc st hF ty_Rat rfl rfl fun g2 w3 a st hF=>?_
 refine E.nil ?_
 refine wp_seq ?_
 refine wp_seq ?_
 refine E.seq ?_
 refine E.opv hF (r_load (hF.at 1 rfl) (ld_all ty_Rat (st.bk 1 rfl) rfl)) rfl rfl rfl rfl fun a hF=>?_
 refine S.callx st hF (rgc k141 (map1 (hF.at 0 rfl))) (rsgn_any _ (qx) _ (h1.below st.bel)) rfl rfl rfl rfl fun w4 a st hF=>?_
 refine E.opv hF (r_bin (hF.at 0 rfl) ev_c eg_scalar (bi_int (ic_lss (c:=false) (dec_ff hn)) (by simp))) rfl rfl rfl rfl fun a hF=>?_
 refine E.nil ?_
 refine wp_cond_false (hF.at 0 rfl) ?_
 refine wp_skip ?_
 refine E.norm ?_
 refine wp_seq ?_
 refine E.rga 4 mixed hF [14,15,16,3] [_,_,_,kn w4 [.bool false,.slice none 0 0,.slice none 0 0]] [3] ⟨fun _ _ ⟨g,e,_,o⟩=>⟨g,e,o.lt⟩,trivial⟩ (by decide+kernel) rfl rfl rfl ⟨rb st ty_Rat 4 1 rfl,ck st k40 rfl fun _ s=>rq_ret (rWhole_any (3438) _ (by decide) (by decide)) (rlim_int (limz_64 (by decide) (by decide)) (by omega)),ck st k58 rfl fun _ s _ x15=>qMul ⟨(h1.below s.bel),hl⟩ x15,ra ty_Rat rfl rfl,trivial⟩ ?_
 intro a w5 hF bb hall hne
 have s0:=st
 replace st:=st.to bb
 obtain⟨vv6,hF,st⟩:=rS hall hF st 2 rfl rfl Rl.cl
 obtain⟨b8,ad8,n8,c8,ae8,m8,d8,rfl⟩:=Rq.form (st.f 0 rfl).1
 obtain⟨_,e3,g3,rfl,ge3,o3⟩:=sS hall 3 3 rfl rfl
 replace st:=st.push o3.blk (Nat.le_trans s0.bel.size ge3) (s0.ne ge3)
 clear o3
 replace hF:=hF.add e3
 clear hall bb hne s0
 refine S.sto st hF 0 rfl (hF.at 0 rfl) (hF.at 1 rfl) ty_Rat rfl rfl rfl rfl fun w9 a st hF=>?_
 refine E.nil ?_
 refine wp_seq ?_
 refine wp_seq ?_
 refine E.seq ?_
 refine E.opv hF (r_move ev_c) rfl rfl rfl rfl fun a hF=>?_
 refine E.nil ?_
 refine wp_block ?_
 refine E.loop (fun mq a wv=>∃(j:Nat),j≤24∧ykf (qx*((3438:Int):Rat)) (24-j) j=yk (qx*((3438:Int):Rat))∧Fr 45 a [(17,.int .i64 ((j:Nat):Int)),(3,.pointer (some ⟨g3,0,none⟩)),(2,.pointer (some ⟨g2,0,none⟩))]∧St w wv [(g3,[.bool b8,.slice ad8 n8 c8,.slice ae8 m8 d8]),(g2,[.bool false,.slice none 0 0,.slice none 0 0])] [fun w=>Rq w (.agg #[.bool false,.slice none 0 0,.slice none 0 0]) 0,fun w=>Rl ((qx)*(((3438:Int):Rat))) ((k+2)) w (.agg #[.bool b8,.slice ad8 n8 c8,.slice ae8 m8 d8])]∧mq=24-j) (24-0) ?_ ?_
 ·exact⟨0,(by omega),rfl,Fr.pick (L':=[(17,.int .i64 0),(3,.pointer (some ⟨g3,0,none⟩)),(2,.pointer (some ⟨g2,0,none⟩))]) hF [0,1,6] rfl,(st.add (Rq.zero _) (Rq.cl _)).pick [0,1] [0,1] rfl rfl (by decide),rfl⟩
 ·rintro mq a w10 ⟨j,hj,hyk,hF,st,hm⟩
  by_cases hjn:j<24
  ·refine wp_seq ?_
   refine E.seq ?_
   refine E.opv hF (r_bin (hF.at 0 rfl) ev_c eg_scalar (bi_int (ic_lss (c:=true) (dec_tt (by omega))) (by simp))) rfl rfl rfl rfl fun a hF=>?_
   refine E.nil ?_
   refine wp_seq ?_
   refine wp_cond_true (hF.at 0 rfl) ?_
   refine wp_skip ?_
   refine E.norm ?_
   refine wp_seq ?_
   refine wp_block ?_
   refine wp_seq ?_
   refine E.seq ?_
   refine E.opv hF (r_move (hF.at 1 rfl)) rfl rfl rfl rfl fun a hF=>?_
   refine E.opv hF (r_assign (hF.at 0 rfl)) rfl rfl rfl rfl fun a hF=>?_
   refine E.nil ?_
   refine wp_seq ?_
   refine wp_seq ?_
   by_cases hc11:0<qc ((qx)*(((3438:Int):Rat))) (((spk (((j:Nat):Int)+1):Int):Rat))
   ·refine E.rg 7 mixed hF [20,21,22,23,24,25,26] [_,_,.ex (.int .i64 (((j:Nat):Int)+1)),_,_,_,.ex (.bool true)] (by decide+kernel) rfl rfl rfl ⟨rb st ty_Rat 4 0 rfl,rm 0 rfl,(by intro a' w' hF' hb hd;have e21:=sHe hd 0 21 rfl rfl rfl rfl;exact dv0 (r_bin e21 ev_c eg_scalar (ia_add (by omega) (by omega))) rfl rfl rfl),ck st k247 rfl fun _ s=>ex_ret (high_spk (((j:Nat):Int)+1) _ (hT.below s.bel) (by omega) (by omega)),ck st k40 rfl fun _ s=>rq_ret (rWhole_any (spk (((j:Nat):Int)+1)) _ (spk64 (((j:Nat):Int)+1)).1 (spk64 (((j:Nat):Int)+1)).2) (rlim_int (limz_64 (spk64 (((j:Nat):Int)+1)).1 (spk64 (((j:Nat):Int)+1)).2) (by omega)),ck st k30 rfl fun _ s _ x24=>ex_ret (rCmp_any _ _ ((qx)*(((3438:Int):Rat))) (((spk (((j:Nat):Int)+1):Int):Rat)) (max (k+2) 2) _ (s.f 1 rfl).1 x24.1 ((s.f 1 rfl).2.up _ (by omega)) (x24.2.up _ (by omega)) (by omega)),(by intro a' w' hF' hb hd;have e25:=sHe hd 0 25 rfl rfl rfl rfl;exact dv0 (r_bin e25 ev_c eg_scalar (bi_int (ic_gtr (c:=true) (dec_tt hc11)) (by simp))) rfl rfl rfl),trivial⟩ ?_
    intro a w12 hF bb hall
    replace st:=st.to bb
    replace hF:=rE hall hF 6 rfl rfl
    clear hall bb
    refine E.nil ?_
    refine wp_cond_true (hF.at 0 rfl) ?_
    refine wp_exit ?_
    refine E.past ?_
    refine E.out (id:=1) ?_
    refine E.norm ?_
    refine E.seq ?_
    refine E.opv hF (r_bin (hF.at 4 rfl) ev_c eg_scalar (ia_add (by omega) (by omega))) rfl rfl rfl rfl fun a hF=>?_
    refine E.opset (L':=[(17,.int .i64 (((j:Nat):Int)+1)),(43,.int .i64 (((j:Nat):Int)+1)),(26,.bool true),(4,.int .i64 ((j:Nat):Int)),(19,.int .i64 ((j:Nat):Int)),(18,.bool true),(3,.pointer (some ⟨g3,0,none⟩)),(2,.pointer (some ⟨g2,0,none⟩))]) hF (r_move (hF.at 0 rfl)) rfl rfl rfl rfl fun a hF=>?_
    refine E.nil0 ?_
    refine E.norm ?_
    exact⟨24-(j+1),by omega,⟨(j+1),(by omega),(yk_next (by omega) hyk hc11),(by rw[show((j+1:Nat):Int)=((j:Nat):Int)+1 from by omega];exact Fr.pick (L':=[(17,.int .i64 (((j:Nat):Int)+1)),(3,.pointer (some ⟨g3,0,none⟩)),(2,.pointer (some ⟨g2,0,none⟩))]) hF [0,6,7] rfl),(st.add (st.f 0 rfl) (Rq.cl _)).pick [0,1] [0,2] rfl rfl (by decide),rfl⟩⟩
   ·refine E.rg 7 mixed hF [20,21,22,23,24,25,26] [_,_,.ex (.int .i64 (((j:Nat):Int)+1)),_,_,_,.ex (.bool false)] (by decide+kernel) rfl rfl rfl ⟨rb st ty_Rat 4 0 rfl,rm 0 rfl,(by intro a' w' hF' hb hd;have e21:=sHe hd 0 21 rfl rfl rfl rfl;exact dv0 (r_bin e21 ev_c eg_scalar (ia_add (by omega) (by omega))) rfl rfl rfl),ck st k247 rfl fun _ s=>ex_ret (high_spk (((j:Nat):Int)+1) _ (hT.below s.bel) (by omega) (by omega)),ck st k40 rfl fun _ s=>rq_ret (rWhole_any (spk (((j:Nat):Int)+1)) _ (spk64 (((j:Nat):Int)+1)).1 (spk64 (((j:Nat):Int)+1)).2) (rlim_int (limz_64 (spk64 (((j:Nat):Int)+1)).1 (spk64 (((j:Nat):Int)+1)).2) (by omega)),ck st k30 rfl fun _ s _ x24=>ex_ret (rCmp_any _ _ ((qx)*(((3438:Int):Rat))) (((spk (((j:Nat):Int)+1):Int):Rat)) (max (k+2) 2) _ (s.f 1 rfl).1 x24.1 ((s.f 1 rfl).2.up _ (by omega)) (x24.2.up _ (by omega)) (by omega)),(by intro a' w' hF' hb hd;have e25:=sHe hd 0 25 rfl rfl rfl rfl;exact dv0 (r_bin e25 ev_c eg_scalar (bi_int (ic_gtr (c:=false) (dec_ff hc11)) (by simp))) rfl rfl rfl),trivial⟩ ?_
    intro a w13 hF bb hall
    replace st:=st.to bb
    replace hF:=rE hall hF 6 rfl rfl
    clear hall bb
    refine E.nil ?_
    refine wp_cond_false (hF.at 0 rfl) ?_
    refine wp_skip ?_
    refine E.norm ?_
    refine wp_seq ?_
    refine E.rga 6 mixed hF [27,28,29,30,31,5] [_,_,_,_,_,kn w13 [.bool false,.slice none 0 0,.slice none 0 0]] [5] ⟨fun _ _ ⟨g,e,_,o⟩=>⟨g,e,o.lt⟩,trivial⟩ (by decide+kernel) rfl rfl rfl ⟨rb st ty_Rat 5 0 rfl,rm 1 rfl,ck st k247 rfl fun _ s=>ex_ret (high_spk ((j:Nat):Int) _ (hT.below s.bel) (by omega) (by omega)),ck st k40 rfl fun _ s=>rq_ret (rWhole_any (spk ((j:Nat):Int)) _ (spk64 ((j:Nat):Int)).1 (spk64 ((j:Nat):Int)).2) (rlim_int (limz_64 (spk64 ((j:Nat):Int)).1 (spk64 ((j:Nat):Int)).2) (by omega)),ck st k57 rfl fun _ s _ x30=>qSub (s.f 1 rfl) x30,ra ty_Rat rfl rfl,trivial⟩ ?_
    intro a w14 hF bb hall hne
    have s0:=st
    replace st:=st.to bb
    obtain⟨vv15,hF,st⟩:=rS hall hF st 4 rfl rfl Rl.cl
    obtain⟨b17,ad17,n17,c17,ae17,m17,d17,rfl⟩:=Rq.form (st.f 0 rfl).1
    obtain⟨_,e5,g5,rfl,ge5,o5⟩:=sS hall 5 5 rfl rfl
    replace st:=st.push o5.blk (Nat.le_trans s0.bel.size ge5) (s0.ne ge5)
    clear o5
    replace hF:=hF.add e5
    clear hall bb hne s0
    refine S.sto st hF 0 rfl (hF.at 0 rfl) (hF.at 1 rfl) ty_Rat rfl rfl rfl rfl fun w18 a st hF=>?_
    refine E.nil ?_
    refine wp_seq ?_
    refine E.rga 6 mixed hF [32,33,34,35,36,6] [_,_,_,_,_,kn w18 [.bool false,.slice none 0 0,.slice none 0 0]] [5] ⟨fun _ _ ⟨g,e,_,o⟩=>⟨g,e,o.lt⟩,trivial⟩ (by decide+kernel) rfl rfl rfl ⟨rb st ty_Rat 0 0 rfl,rm 3 rfl,ck st k246 rfl fun _ s=>ex_ret (rise_any ((j:Nat):Int) _ (hT.below s.bel) (by omega) (by omega)),ck st k40 rfl fun _ s=>rq_ret (rWhole_any (spk (((j:Nat):Int)+1)-spk ((j:Nat):Int)) _ (dif64 (((j:Nat):Int))).1 (dif64 (((j:Nat):Int))).2) (rlim_int (limz_64 (dif64 (((j:Nat):Int))).1 (dif64 (((j:Nat):Int))).2) (by omega)),ck st k75 rfl fun _ s _ x35=>qDiv (s.f 0 rfl) x35,ra ty_Rat rfl rfl,trivial⟩ ?_
    intro a w19 hF bb hall hne
    have s0:=st
    replace st:=st.to bb
    obtain⟨vv20,hF,st⟩:=rS hall hF st 4 rfl rfl Rl.cl
    obtain⟨b22,ad22,n22,c22,ae22,m22,d22,rfl⟩:=Rq.form (st.f 0 rfl).1
    obtain⟨_,e6,g6,rfl,ge6,o6⟩:=sS hall 5 6 rfl rfl
    replace st:=st.push o6.blk (Nat.le_trans s0.bel.size ge6) (s0.ne ge6)
    clear o6
    replace hF:=hF.add e6
    clear hall bb hne s0
    refine S.sto st hF 0 rfl (hF.at 0 rfl) (hF.at 1 rfl) ty_Rat rfl rfl rfl rfl fun w23 a st hF=>?_
    refine E.nil ?_
    refine wp_seq ?_
    refine E.rg 6 mixed hF [37,38,39,40,41,42] [_,_,_,_,_,_] (by decide+kernel) rfl rfl rfl ⟨rb st ty_Rat 0 0 rfl,rm 5 rfl,ck st k40 rfl fun _ s=>rq_ret (rWhole_any (((j:Nat):Int)) _ (by omega) (by omega)) (rlim_int (limz_64 (by omega) (by omega)) (by omega)),ck st k56 rfl fun _ s _ x39=>qAdd (s.f 0 rfl) x39,ck st k248 rfl fun _ s=>rq_ret (width_any _) wd_lim,ck st k58 rfl fun _ s _ x40 _ x41=>qMul x40 x41,trivial⟩ ?_
    intro a w24 hF bb hall
    replace st:=st.to bb
    obtain⟨vv25,hF,st⟩:=rS hall hF st 5 rfl rfl Rl.cl
    obtain⟨b27,ad27,n27,c27,ae27,m27,d27,rfl⟩:=Rq.form (st.f 0 rfl).1
    clear hall bb
    refine S.sto st hF 3 rfl (hF.at 11 rfl) (hF.at 0 rfl) ty_Rat rfl rfl rfl rfl fun w28 a st hF=>?_
    refine E.nil ?_
    refine wp_ret ?_
    refine S.ret Tryz.results225 st hF (hF.at 11 rfl) 3 rfl ty_Rat rfl hF.dfr ?_
    have bel:=st.bel
    exact⟨_,rfl,Rq.castM (st.f 0 rfl).1 (arc_here hx hjn (yk_here hjn hyk hc11)),bel⟩
  ·refine wp_seq ?_
   refine E.seq ?_
   refine E.opv hF (r_bin (hF.at 0 rfl) ev_c eg_scalar (bi_int (ic_lss (c:=false) (dec_ff (by omega))) (by simp))) rfl rfl rfl rfl fun a hF=>?_
   refine E.nil ?_
   refine wp_seq ?_
   refine wp_cond_false (hF.at 0 rfl) ?_
   refine wp_exit ?_
   refine E.past ?_
   refine E.past ?_
   refine E.out (id:=0) ?_
   refine E.norm ?_
   refine wp_seq ?_
   refine E.seq ?_
   refine S.ck st hF (rgc k40 (map1 ev_c)) (rq_ret (rWhole_any (90) _ (by decide) (by decide)) (rlim_int (limz_64 (by decide) (by decide)) (by omega))) Rl.cl rfl fun vv30 w29 a st hF=>?_
   obtain⟨b32,ad32,n32,c32,ae32,m32,d32,rfl⟩:=Rq.form (st.f 0 rfl).1
   refine S.sto st hF 1 rfl (hF.at 4 rfl) (hF.at 0 rfl) ty_Rat rfl rfl rfl rfl fun w33 a st hF=>?_
   refine E.nil ?_
   refine wp_ret ?_
   refine S.ret Tryz.results225 st hF (hF.at 4 rfl) 1 rfl ty_Rat rfl hF.dfr ?_
   have bel:=st.bel
   have e24:j=24:=by omega
   subst e24
   exact⟨_,rfl,Rq.castM (st.f 0 rfl).1 (arc_end hx hyk.symm),bel⟩
theorem arc_neg_any (v1:Value) (qx:Rat) (k:Nat) (w:World) (hT:TabD w) (h1:Rq w v1 qx) (hl:RLim qx k) (hk:k≤1000) (hn:sz (Rat.num qx)<0):
 Calls Tryz.prog 225 #[v1] w (RqPost w (arcv qx)):=by
 have hx:qx<0:=sz_lt0.1 hn
 have st:=St.start w
 refine E.enter (nt:=45) (L:=[(0,v1)]) Tryz.func225 rfl rfl rfl (args_cons (i:=0) rfl args_nil) ?_
 intro a hF
 refine wp_seq ?_
 refine E.seq ?_
 obtain⟨b2,ad2,n2,c2,ae2,m2,d2,rfl⟩:=Rq.form h1
 refine S.box st hF (hF.at 0 rfl) rfl rfl fun g1 w1 a st hF=>?_
 refine S.alloc st hF ty_Rat rfl rfl fun g2 w3 a st hF=>?_
 refine E.nil ?_
 refine wp_seq ?_
 refine wp_seq ?_
 refine E.seq ?_
 refine E.opv hF (r_load (hF.at 1 rfl) (ld_all ty_Rat (st.bk 1 rfl) rfl)) rfl rfl rfl rfl fun a hF=>?_
 refine S.callx st hF (rgc k141 (map1 (hF.at 0 rfl))) (rsgn_any _ (qx) _ (h1.below st.bel)) rfl rfl rfl rfl fun w4 a st hF=>?_
 refine E.opv hF (r_bin (hF.at 0 rfl) ev_c eg_scalar (bi_int (ic_lss (c:=true) (dec_tt hn)) (by simp))) rfl rfl rfl rfl fun a hF=>?_
 refine E.nil ?_
 refine wp_cond_true (hF.at 0 rfl) ?_
 refine wp_seq ?_
 refine E.seq ?_
 refine E.opv hF (r_load (hF.at 4 rfl) (ld_all ty_Rat (st.bk 1 rfl) rfl)) rfl rfl rfl rfl fun a hF=>?_
 refine S.ck st hF (rgc k121 (map1 (hF.at 0 rfl))) (qOpp ⟨(h1.below st.bel),hl⟩) Rl.cl rfl fun vv6 w5 a st hF=>?_
 obtain⟨b8,ad8,n8,c8,ae8,m8,d8,rfl⟩:=Rq.form (st.f 0 rfl).1
 refine S.call st hF (rgc k225 (map1 (hF.at 0 rfl))) (arc_pos _ (-(qx)) k _ (hT.below st.bel) (st.f 0 rfl).1 (st.f 0 rfl).2 (by omega) (neg_not hx)) (fun _ _ h=>h) Rq.cl rfl rfl rfl rfl fun vv10 w9 a st hF=>?_
 obtain⟨b12,ad12,n12,c12,ae12,m12,d12,rfl⟩:=Rq.form (st.f 0 rfl)
 refine S.call st hF (rgc k121 (map1 (hF.at 0 rfl))) (rOpp_any _ _ _ (st.f 0 rfl)) (fun _ _ h=>h) Rq.cl rfl rfl rfl rfl fun vv14 w13 a st hF=>?_
 obtain⟨b16,ad16,n16,c16,ae16,m16,d16,rfl⟩:=Rq.form (st.f 0 rfl)
 refine S.sto st hF 0 rfl (hF.at 7 rfl) (hF.at 0 rfl) ty_Rat rfl rfl rfl rfl fun w17 a st hF=>?_
 refine E.nil ?_
 refine wp_ret ?_
 refine S.ret Tryz.results225 st hF (hF.at 7 rfl) 0 rfl ty_Rat rfl hF.dfr ?_
 have bel:=st.bel
 exact⟨_,rfl,Rq.castM (st.f 0 rfl) (arc_neg hx),bel⟩
theorem sarc_any (v1:Value) (qx:Rat) (k:Nat) (w:World) (hT:TabD w) (h1:Rq w v1 qx) (hl:RLim qx k) (hk:k≤1000):Calls Tryz.prog 225 #[v1] w (RqPost w (arcv qx)):=by
 by_cases hn:sz (Rat.num qx)<0
 ·exact arc_neg_any v1 qx k w hT h1 hl hk hn
 ·exact arc_pos v1 qx k w hT h1 hl hk hn
end
end
end Go.Proofs.YtnljadejcfgmaaaGreatDoor
