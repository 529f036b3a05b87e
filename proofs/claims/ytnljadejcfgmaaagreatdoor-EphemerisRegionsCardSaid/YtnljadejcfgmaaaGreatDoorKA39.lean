import Derived.Test.YtnljadejcfgmaaaGreatDoorKA35
import Derived.Test.YtnljadejcfgmaaaGreatDoorKA38
namespace Go.Proofs.YtnljadejcfgmaaaGreatDoor
open Go.RowKit
set_option maxRecDepth 100000
set_option linter.unusedVariables false
set_option maxHeartbeats 8000000
theorem rmod_sub9 {x m:Rat} (h:0<m):rmod x m=x-m*(((x/m).floor :Int):Rat):=by unfold rmod;rw[if_neg (by grind)]
theorem both_long (t:Rat) {lat:Rat} (lon:Rat) {qd sg:Int} (hq:qd=1∧sg=1∨qd=3∧sg= -1) (h0: -60≤lat) (h1:lat≤60):985/1000≤bothV (t+((1:Int):Rat)) lat lon qd sg-bothV t lat lon qd sg∧bothV (t+((1:Int):Rat)) lat lon qd sg-bothV t lat lon qd sg≤1015/1000:=by
 rcases hq with⟨rfl,rfl⟩|⟨rfl,rfl⟩
 ·exact rise_long t lon h0 h1
 have e:=abs_two (eqn_day t)
 have d:=abs_two (diff_day t h0 h1)
 have s:=side_bd t
 have s':=side_bd (t+((1:Int):Rat))
 have k:=kap_bd
 unfold bothV
 rw[show((3:Int):Rat)/((4:Int):Rat)=3/4 by decide+kernel,show((-1:Int):Rat)= -1 from rfl,Rat.intCast_one] at*
 generalize diffV (t+1) lat=d2 at*
 generalize diffV t lat=d1 at*
 generalize motV (t+1)*risV (t+1)=s2 at*
 generalize motV t*risV t=s1 at*
 generalize eqnV (t+1)=e2 at*
 generalize eqnV t=e1 at*
 have m:=mul_bd (a:=3/4*(111/100-87/100)+27/10) (b:=27703/10000000) (x:=(s2*(3/4)+ -1*d2)-(s1*(3/4)+ -1*d1)) (y:=kap) (by grind) (by grind) (by grind) (by grind) (by grind) k.2
 constructor <;> grind
theorem both_span (t d:Rat) {lat:Rat} (lon:Rat) {qd sg:Int} (hq:qd=1∧sg=1∨qd=3∧sg= -1) (h0: -60≤lat) (h1:lat≤60):d-308/1000≤bothV (t+d) lat lon qd sg-bothV t lat lon qd sg:=by
 have e:=eqn_bd t
 have e':=eqn_bd (t+d)
 have g:=diff_bd t h0 h1
 have g':=diff_bd (t+d) h0 h1
 have s:=side_bd t
 have s':=side_bd (t+d)
 have k:=kap_bd
 unfold bothV
 generalize diffV (t+d) lat=d2 at*
 generalize diffV t lat=d1 at*
 generalize motV (t+d)*risV (t+d)=s2 at*
 generalize motV t*risV t=s1 at*
 generalize eqnV (t+d)=e2 at*
 generalize eqnV t=e1 at*
 rcases hq with⟨rfl,rfl⟩|⟨rfl,rfl⟩
 ·rw[show((1:Int):Rat)/((4:Int):Rat)=1/4 by decide+kernel,Rat.intCast_one] at*
  have m:=mul_bd (a:=1/4*(111/100-87/100)+106) (b:=27703/10000000) (x:=(s2*(1/4)+1*d2)-(s1*(1/4)+1*d1)) (y:=kap) (by grind) (by grind) (by grind) (by grind) (by grind) k.2
  grind
 ·rw[show((3:Int):Rat)/((4:Int):Rat)=3/4 by decide+kernel,show((-1:Int):Rat)= -1 from rfl] at*
  have m:=mul_bd (a:=3/4*(111/100-87/100)+106) (b:=27703/10000000) (x:=(s2*(3/4)+ -1*d2)-(s1*(3/4)+ -1*d1)) (y:=kap) (by grind) (by grind) (by grind) (by grind) (by grind) k.2
  grind
theorem east_bd {lon:Rat} (h0: -180≤lon) (h1:lon≤180): -(3/10)≤eastV lon∧eastV lon≤72/100:=by
 unfold eastV
 rw[show((45461:Int):Rat)/((600:Int):Rat)=45461/600 by decide+kernel,show((1:Int):Rat)/((360:Int):Rat)=1/360 by decide+kernel]
 constructor <;> grind
theorem both_near (t:Rat) {lat lon:Rat} {qd sg:Int} (hq:qd=1∧sg=1∨qd=3∧sg= -1) (h0: -60≤lat) (h1:lat≤60) (l0: -180≤lon) (l1:lon≤180):t-3/10≤bothV t lat lon qd sg∧bothV t lat lon qd sg≤t+17/10:=by
 have e:=eqn_bd t
 have g:=diff_bd t h0 h1
 have s:=side_bd t
 have k:=kap_bd
 have c:=east_bd l0 l1
 unfold bothV
 generalize diffV t lat=d1 at*
 generalize motV t*risV t=s1 at*
 generalize eqnV t=e1 at*
 rcases hq with⟨rfl,rfl⟩|⟨rfl,rfl⟩
 ·rw[show((1:Int):Rat)/((4:Int):Rat)=1/4 by decide+kernel,Rat.intCast_one] at*
  have m:=mul_bd (a:=1/4*(111/100)+53) (b:=27703/10000000) (x:=s1*(1/4)+1*d1) (y:=kap) (by grind) (by grind) (by grind) (by grind) (by grind) k.2
  constructor <;> grind
 ·rw[show((3:Int):Rat)/((4:Int):Rat)=3/4 by decide+kernel,show((-1:Int):Rat)= -1 from rfl] at*
  have m:=mul_bd (a:=3/4*(111/100)+53) (b:=27703/10000000) (x:=s1*(3/4)+ -1*d1) (y:=kap) (by grind) (by grind) (by grind) (by grind) (by grind) k.2
  constructor <;> grind
def riV (lat lon:Rat) (n:Int):Rat:=grainV (bothV ((n:Int):Rat) lat lon 1 1)
def seV (lat lon:Rat) (n:Int):Rat:=grainV (bothV ((n:Int):Rat) lat lon 3 (-1))
def mlV (a b:Rat):Rat:=a*(2/5)+b*(3/5)
def criV (r:Int) (lat lon:Rat) (n:Int):Rat:=if r=0 then riV lat lon (n+1) else if r=1 then seV lat lon n else if r=2 then grainV (mlV (riV lat lon n) (seV lat lon n)) else(((n+1:Int)):Rat)
def CrOk (C:Int→Rat):Prop:=(∀n,983/1000≤C (n+1)-C n∧C (n+1)-C n≤1017/1000)∧(∀n,3169/100≤C (n+32)-C n)
theorem day_32 (n:Int):(((n+32:Int)):Rat)=((n:Int):Rat)+32:=by rw[Rat.intCast_add];rfl
theorem ri_step {lat:Rat} (lon:Rat) (h0: -60≤lat) (h1:lat≤60) (n:Int):98499/100000≤riV lat lon (n+1)-riV lat lon n∧riV lat lon (n+1)-riV lat lon n≤101501/100000∧3169/100+1/1000≤riV lat lon (n+32)-riV lat lon n:=by
 have a:=both_long ((n:Int):Rat) (qd:=1) (sg:=1) lon (.inl ⟨rfl,rfl⟩) h0 h1
 have b:=both_span ((n:Int):Rat) 32 (qd:=1) (sg:=1) lon (.inl ⟨rfl,rfl⟩) h0 h1
 unfold riV
 rw[day_next,day_32]
 rw[Rat.intCast_one] at a
 have g1:=grain_bd (bothV ((n:Int):Rat) lat lon 1 1)
 have g2:=grain_bd (bothV (((n:Int):Rat)+1) lat lon 1 1)
 have g3:=grain_bd (bothV (((n:Int):Rat)+32) lat lon 1 1)
 refine⟨?_,?_,?_⟩ <;> grind
theorem se_step {lat:Rat} (lon:Rat) (h0: -60≤lat) (h1:lat≤60) (n:Int):98499/100000≤seV lat lon (n+1)-seV lat lon n∧seV lat lon (n+1)-seV lat lon n≤101501/100000∧3169/100+1/1000≤seV lat lon (n+32)-seV lat lon n:=by
 have a:=both_long ((n:Int):Rat) (qd:=3) (sg:= -1) lon (.inr ⟨rfl,rfl⟩) h0 h1
 have b:=both_span ((n:Int):Rat) 32 (qd:=3) (sg:= -1) lon (.inr ⟨rfl,rfl⟩) h0 h1
 unfold seV
 rw[day_next,day_32]
 rw[Rat.intCast_one] at a
 have g1:=grain_bd (bothV ((n:Int):Rat) lat lon 3 (-1))
 have g2:=grain_bd (bothV (((n:Int):Rat)+1) lat lon 3 (-1))
 have g3:=grain_bd (bothV (((n:Int):Rat)+32) lat lon 3 (-1))
 refine⟨?_,?_,?_⟩ <;> grind
theorem cri_ok (r:Int) {lat:Rat} (lon:Rat) (h0: -60≤lat) (h1:lat≤60):CrOk (criV r lat lon):=by
 have R:=ri_step lon h0 h1
 have S:=se_step lon h0 h1
 unfold CrOk criV
 by_cases r0:r=0
 ·simp only [if_pos r0]
  refine⟨fun n=>?_,fun n=>?_⟩
  ·have:=R (n+1);constructor <;> grind
  ·have:=R (n+1);rw[show n+32+1=n+1+32 by omega];grind
 simp only [if_neg r0]
 by_cases r1:r=1
 ·simp only [if_pos r1]
  refine⟨fun n=>?_,fun n=>?_⟩
  ·have:=S n;constructor <;> grind
  ·have:=S n;grind
 simp only [if_neg r1]
 by_cases r2:r=2
 ·simp only [if_pos r2]
  refine⟨fun n=>?_,fun n=>?_⟩
  ·have a:=R n
   have b:=S n
   have g:=grain_bd (mlV (riV lat lon n) (seV lat lon n))
   have g':=grain_bd (mlV (riV lat lon (n+1)) (seV lat lon (n+1)))
   unfold mlV at*
   constructor <;> grind
  ·have a:=R n
   have b:=S n
   have g:=grain_bd (mlV (riV lat lon n) (seV lat lon n))
   have g':=grain_bd (mlV (riV lat lon (n+32)) (seV lat lon (n+32)))
   unfold mlV at*
   grind
 simp only [if_neg r2]
 refine⟨fun n=>?_,fun n=>?_⟩
 ·rw[day_next (n+1)];constructor <;> grind
 ·rw[show n+32+1=n+1+32 by omega,day_32];grind
theorem cri_near {r:Int} {lat lon:Rat} (h0: -60≤lat) (h1:lat≤60) (l0: -180≤lon) (l1:lon≤180) (n:Int):((n:Int):Rat)-4/10≤criV r lat lon n∧criV r lat lon n≤((n:Int):Rat)+3:=by
 have a:=both_near ((n:Int):Rat) (qd:=1) (sg:=1) (.inl ⟨rfl,rfl⟩) h0 h1 l0 l1
 have a':=both_near ((((n+1:Int)):Rat)) (qd:=1) (sg:=1) (.inl ⟨rfl,rfl⟩) h0 h1 l0 l1
 have b:=both_near ((n:Int):Rat) (qd:=3) (sg:= -1) (.inr ⟨rfl,rfl⟩) h0 h1 l0 l1
 have ga:=grain_bd (bothV ((n:Int):Rat) lat lon 1 1)
 have ga':=grain_bd (bothV ((((n+1:Int)):Rat)) lat lon 1 1)
 have gb:=grain_bd (bothV ((n:Int):Rat) lat lon 3 (-1))
 have gm:=grain_bd (mlV (riV lat lon n) (seV lat lon n))
 have d:=day_next n
 unfold criV
 split
 ·unfold riV;constructor <;> grind
 ·split
  ·unfold seV;constructor <;> grind
  ·split
   ·unfold mlV riV seV at*;constructor <;> grind
   ·constructor <;> grind
def kaV (t:Rat):Int:=(sunU t*(1/30)).floor
theorem ka_bd (t:Rat):30*((kaV t:Int):Rat)≤sunU t∧sunU t<30*((kaV t:Int):Rat)+30:=by
 have a:=fl_le (sunU t*(1/30))
 have b:=fl_lt (sunU t*(1/30))
 unfold kaV
 constructor <;> grind
theorem ka_ge {t:Rat} {k:Int} (h:30*((k:Int):Rat)≤sunU t):k≤kaV t:=Rat.le_floor_iff.2 (by grind)
theorem ka_lt {t:Rat} {k:Int} (h:sunU t<30*((k:Int):Rat)):kaV t<k:=Rat.floor_lt_iff.2 (by grind)
theorem ka_sign (t:Rat):prt (sunV t) 12=kaV t%12:=by
 rw[sunV_U,floor_mod (by decide),show((12:Int):Rat)/((360:Int):Rat)=1/30 by decide+kernel]
 rfl
def cntX (t:Rat):Rat:=(t-kli)/pyr-sunV t*(((1:Int):Rat)/((360:Int):Rat))
def cntV (t:Rat):Int:=(cntX t+((1:Int):Rat)/((2:Int):Rat)).floor
theorem turn_kli:(kli-cre)/pyr=((1955880000:Int):Rat):=by decide+kernel
theorem ka_year (t:Rat):(sunU t/((360:Int):Rat)).floor =kaV t/12:=by
 have k:=ka_bd t
 have e:=Int.mul_ediv_add_emod (kaV t) 12
 have m0:=Int.emod_nonneg (kaV t) (b:=12) (by omega)
 have m1:=Int.emod_lt_of_pos (kaV t) (b:=12) (by omega)
 have q0:12*(kaV t/12)≤kaV t:=by omega
 have q1:kaV t≤12*(kaV t/12)+11:=by omega
 have c0:=Rat.intCast_le_intCast.2 q0
 have c1:=Rat.intCast_le_intCast.2 q1
 rw[Rat.intCast_add,Rat.intCast_mul] at c1
 rw[Rat.intCast_mul] at c0
 rw[show((12:Int):Rat)=12 from rfl] at c0 c1
 rw[show((11:Int):Rat)=11 from rfl] at c1
 have r:((360:Int):Rat)=360:=rfl
 have p:(0:Rat)<360:=by decide+kernel
 have a:kaV t/12≤(sunU t/((360:Int):Rat)).floor :=Rat.le_floor_iff.2 (Rat.not_lt.1 fun h=>by rw[r,Rat.div_lt_iff p] at h;grind)
 have b:(sunU t/((360:Int):Rat)).floor <kaV t/12+1:=Rat.floor_lt_iff.2 (by rw[r,Rat.div_lt_iff p,Rat.intCast_add,Rat.intCast_one];grind)
 omega
theorem cnt_is (t:Rat):cntV t=kaV t/12-1955880000:=by
 have n:=abs_two (sun_near t)
 rw[show((22:Int):Rat)/((10:Int):Rat)=22/10 by decide+kernel] at n
 have y:(t-kli)/pyr=mturn t pyr-((1955880000:Int):Rat):=by
  rw[←turn_kli]
  unfold mturn
  have:=pyr_pos
  grind
 have x:cntX t=sunE t/360+(((kaV t/12-1955880000:Int)):Rat):=by
  unfold cntX
  rw[y,sunV_U,rmod_sub9 (by decide+kernel),ka_year,Rat.intCast_sub]
  unfold sunU
  rw[show((1:Int):Rat)/((360:Int):Rat)=1/360 by decide+kernel,show((360:Int):Rat)=360 from rfl]
  grind
 unfold cntV
 rw[x,Rat.add_assoc,Rat.add_comm (((kaV t/12-1955880000:Int)):Rat),←Rat.add_assoc,Rat.floor_add_intCast]
 have f:(sunE t/360+((1:Int):Rat)/((2:Int):Rat)).floor =0:=by
  rw[show((1:Int):Rat)/((2:Int):Rat)=1/2 by decide+kernel]
  have a:(0:Int)≤(sunE t/360+1/2).floor :=Rat.le_floor_iff.2 (by rw[Rat.intCast_zero];grind)
  have b:(sunE t/360+1/2).floor <1:=Rat.floor_lt_iff.2 (by rw[Rat.intCast_one];grind)
  omega
 rw[f]
 omega
theorem sun_add {t u:Rat} (h:t≤u):9471/10000*(u-t)≤sunU u-sunU t∧sunU u-sunU t≤10242/10000*(u-t):=by
 have:=sun_rate t (d:=u-t) (by grind)
 rw[show t+(u-t)=u by grind] at this
 exact this
theorem su_step {C:Int→Rat} (h:CrOk C) (n:Int):930/1000≤sunU (C (n+1))-sunU (C n)∧sunU (C (n+1))-sunU (C n)≤1042/1000:=by
 have c:=h.1 n
 have s:=sun_add (t:=C n) (u:=C (n+1)) (by grind)
 constructor <;> grind
theorem su_manyN {C:Int→Rat} (h:CrOk C) (n:Int) (k:Nat):930/1000*(((k:Int)):Rat)≤sunU (C (n+k))-sunU (C n)∧sunU (C (n+k))-sunU (C n)≤1042/1000*(((k:Int)):Rat):=by
 induction k with
 |zero=>rw[show n+((0:Nat):Int)=n by omega,show(((0:Nat):Int))=0 from rfl,Rat.intCast_zero];constructor <;> grind
 |succ k ih=>
  have s:=su_step h (n+k)
  rw[show n+(((k+1:Nat)):Int)=n+(k:Int)+1 by omega,show(((k+1:Nat)):Int)=(k:Int)+1 by omega,Rat.intCast_add,Rat.intCast_one]
  constructor <;> grind
theorem su_many {C:Int→Rat} (h:CrOk C) {m n:Int} (l:m≤n):930/1000*(((n-m:Int)):Rat)≤sunU (C n)-sunU (C m)∧sunU (C n)-sunU (C m)≤1042/1000*(((n-m:Int)):Rat):=by
 have:=su_manyN h m (n-m).toNat
 rw[show m+(((n-m).toNat :Nat):Int)=n by omega,show(((n-m).toNat :Nat):Int)=n-m by omega] at this
 exact this
theorem su_32 {C:Int→Rat} (h:CrOk C) (n:Int):30≤sunU (C (n+32))-sunU (C n):=by
 have c:=h.2 n
 have s:=sun_add (t:=C n) (u:=C (n+32)) (by grind)
 grind
theorem k_up {C:Int→Rat} (h:CrOk C) {m n:Int} (l:m≤n):kaV (C m)≤kaV (C n):=by
 have s:=su_many h l
 have b:=ka_bd (C m)
 have e:(0:Rat)≤(((n-m:Int)):Rat):=Rat.intCast_nonneg.2 (by omega)
 exact ka_ge (by grind)
theorem k_step {C:Int→Rat} (h:CrOk C) (n:Int):kaV (C (n+1))=kaV (C n)∨kaV (C (n+1))=kaV (C n)+1:=by
 have a:=k_up h (m:=n) (n:=n+1) (by omega)
 have s:=su_step h n
 have b:=ka_bd (C n)
 have c:kaV (C (n+1))<kaV (C n)+2:=ka_lt (by rw[Rat.intCast_add,show((2:Int):Rat)=2 from rfl];grind)
 omega
theorem k_32 {C:Int→Rat} (h:CrOk C) (n:Int):kaV (C n)+1≤kaV (C (n+32)):=by
 have s:=su_32 h n
 have b:=ka_bd (C n)
 exact ka_ge (by rw[Rat.intCast_add,Rat.intCast_one];grind)
theorem k_28 {C:Int→Rat} (h:CrOk C) (n:Int):kaV (C (n+28))≤kaV (C n)+1:=by
 have s:=(su_many h (m:=n) (n:=n+28) (by omega)).2
 rw[show n+28-n=28 by omega,show((28:Int):Rat)=28 from rfl] at s
 have b:=ka_bd (C n)
 have c:kaV (C (n+28))<kaV (C n)+2:=ka_lt (by rw[Rat.intCast_add,show((2:Int):Rat)=2 from rfl];grind)
 omega
theorem first_ex {C:Int→Rat} (h:CrOk C) (n:Int):∃f,f≤n∧n≤f+31∧kaV (C f)=kaV (C n)∧kaV (C (f-1))=kaV (C n)-1:=by
 have go:∀i:Nat,i≤32→(∃f,f≤n∧n≤f+31∧kaV (C f)=kaV (C n)∧kaV (C (f-1))=kaV (C n)-1)∨kaV (C (n-i))=kaV (C n):=by
  intro i
  induction i with
  |zero=>intro _;right;rw[show n-((0:Nat):Int)=n by omega]
  |succ i ih=>
   intro hi
   rcases ih (by omega) with e|e
   ·exact .inl e
   ·rcases k_step h (n-i-1) with s|s
    ·right;rw[show n-(((i+1:Nat)):Int)=n-i-1 by omega,←s,show n-(i:Int)-1+1=n-i by omega];exact e
    ·left
     rw[show n-(i:Int)-1+1=n-i by omega] at s
     exact⟨n-i,by omega,by omega,e,by omega⟩
 rcases go 32 (by omega) with e|e
 ·exact e
 ·exfalso
  have:=k_32 h (n-32)
  rw[show n-32+32=n by omega] at this
  rw[show n-((32:Nat):Int)=n-32 by omega] at e
  omega
noncomputable def fsD (C:Int→Rat) (n:Int):Int:= @dite _ (CrOk C) (Classical.propDecidable _) (fun h=>Classical.choose (first_ex h n)) (fun _=>n)
theorem fs_spec {C:Int→Rat} (h:CrOk C) (n:Int):fsD C n≤n∧n≤fsD C n+31∧kaV (C (fsD C n))=kaV (C n)∧kaV (C (fsD C n-1))=kaV (C n)-1:=by
 unfold fsD
 rw[dif_pos h]
 exact Classical.choose_spec (first_ex h n)
theorem fs_is {C:Int→Rat} (h:CrOk C) {n f:Int} (e:kaV (C f)=kaV (C n)) (g:kaV (C (f-1))≠kaV (C n)):f=fsD C n:=by
 have s:=fs_spec h n
 rcases Int.lt_trichotomy f (fsD C n) with l|l|l
 ·have:=k_up h (m:=f) (n:=fsD C n-1) (by omega)
  omega
 ·exact l
 ·have a:=k_up h (m:=fsD C n) (n:=f-1) (by omega)
  have b:=k_up h (m:=f-1) (n:=f) (by omega)
  omega
theorem fs_same {C:Int→Rat} (h:CrOk C) {m n:Int} (e:kaV (C m)=kaV (C n)):fsD C m=fsD C n:=by
 have s:=fs_spec h m
 exact fs_is h (by omega) (by omega)
theorem fs_step {C:Int→Rat} (h:CrOk C) (n:Int):(kaV (C (n+1))=kaV (C n)∧fsD C (n+1)=fsD C n∧n+1-fsD C n+1≤32)∨(kaV (C (n+1))=kaV (C n)+1∧fsD C (n+1)=n+1∧28≤n-fsD C n+1):=by
 rcases k_step h n with e|e
 ·left
  have f:=fs_same h e
  have s:=fs_spec h (n+1)
  exact⟨e,f,by omega⟩
 ·right
  refine⟨e,(fs_is h rfl (by rw[show n+1-1=n by omega];omega)).symm,?_⟩
  have s:=fs_spec h n
  have k:=k_28 h (fsD C n-1)
  by_cases q:28≤n-fsD C n+1
  ·exact q
  ·exfalso
   have u:=k_up h (m:=n+1) (n:=fsD C n-1+28) (by omega)
   omega
def midT (y m:Int):Rat:=((24*(y+3179)+2*m-1:Int):Rat)/((24:Int):Rat)*pyr+((-1132959:Int):Rat)
theorem mid_sun (y m:Int):sunU (midT y m)=360*(((1955880000+y+3179:Int)):Rat)+30*(((m-1:Int)):Rat)+15-sunE (midT y m):=by
 have e:mturn (midT y m) pyr=((24*(y+3179)+2*m-1:Int):Rat)/((24:Int):Rat)+((1955880000:Int):Rat):=by
  rw[←turn_kli]
  unfold mturn midT kli
  have:=pyr_pos
  grind
 unfold sunU
 rw[e,show((360:Int):Rat)=360 from rfl,show((24:Int):Rat)=24 from rfl]
 simp only [Rat.intCast_add,Rat.intCast_sub,Rat.intCast_mul,Rat.intCast_one]
 rw[show((24:Int):Rat)=24 from rfl,show((2:Int):Rat)=2 from rfl]
 grind
theorem mid_is {C:Int→Rat} (near:∀n:Int,((n:Int):Rat)-4/10≤C n∧C n≤((n:Int):Rat)+3) (y m:Int):kaV (C (midT y m).floor)=12*(1955880000+y+3179)+(m-1):=by
 have f0:=fl_le (midT y m)
 have f1:=fl_lt (midT y m)
 have c:=near (midT y m).floor
 have s:=mid_sun y m
 have n:=abs_two (sun_near (midT y m))
 rw[show((22:Int):Rat)/((10:Int):Rat)=22/10 by decide+kernel] at n
 have w: -4≤sunU (C (midT y m).floor)-sunU (midT y m)∧sunU (C (midT y m).floor)-sunU (midT y m)≤4:=by
  by_cases l:midT y m≤C (midT y m).floor
  ·have:=sun_add l;constructor <;> grind
  ·have:=sun_add (t:=C (midT y m).floor) (u:=midT y m) (by grind);constructor <;> grind
 have e:(((12*(1955880000+y+3179)+(m-1):Int)):Rat)=12*(((1955880000+y+3179:Int)):Rat)+(((m-1:Int)):Rat):=by rw[Rat.intCast_add,Rat.intCast_mul];rfl
 have a:12*(1955880000+y+3179)+(m-1)≤kaV (C (midT y m).floor):=ka_ge (by rw[e];grind)
 have b:kaV (C (midT y m).floor)<12*(1955880000+y+3179)+(m-1)+1:=ka_lt (by rw[Rat.intCast_add,e,Rat.intCast_one];grind)
 omega
theorem ka_up {t u:Rat} (h:t≤u):kaV t≤kaV u:=by
 have s:=sun_add h
 have b:=ka_bd t
 exact ka_ge (by grind)
theorem fs_ahead {C D:Int→Rat} (hC:CrOk C) (hD:CrOk D) (le:∀n,D n≤C n) {m n:Int} (e:kaV (C m)=kaV (D n)):fsD C m≤fsD D n:=by
 have c:=fs_spec hC m
 have d:=fs_spec hD n
 refine Int.not_lt.1 fun q=>?_
 have a:=ka_up (le (fsD D n))
 have b:=k_up hC (m:=fsD D n) (n:=fsD C m-1) (by omega)
 omega
theorem cri_01 {lat:Rat} (lon:Rat) (h0: -60≤lat) (h1:lat≤60) (n:Int):criV 1 lat lon n≤criV 0 lat lon n:=by
 have s:=ri_step lon h0 h1 n
 have l:=rise_light ((n:Int):Rat) lon h0 h1
 have g:=grain_bd (bothV ((n:Int):Rat) lat lon 1 1)
 have g':=grain_bd (bothV ((n:Int):Rat) lat lon 3 (-1))
 show seV lat lon n≤riV lat lon (n+1)
 unfold riV seV at*
 grind
theorem cri_12 {lat:Rat} (lon:Rat) (h0: -60≤lat) (h1:lat≤60) (n:Int):criV 2 lat lon n≤criV 1 lat lon n:=by
 have l:=rise_light ((n:Int):Rat) lon h0 h1
 have g:=grain_bd (bothV ((n:Int):Rat) lat lon 1 1)
 have g':=grain_bd (bothV ((n:Int):Rat) lat lon 3 (-1))
 have m:=grain_bd (mlV (riV lat lon n) (seV lat lon n))
 show grainV (mlV (riV lat lon n) (seV lat lon n))≤seV lat lon n
 unfold mlV riV seV at*
 grind
theorem cri_20 {lat:Rat} (lon:Rat) (h0: -60≤lat) (h1:lat≤60) (n:Int):criV 0 lat lon n≤criV 2 lat lon (n+1):=by
 have l:=rise_light ((((n+1:Int)):Rat)) lon h0 h1
 have g:=grain_bd (bothV ((((n+1:Int)):Rat)) lat lon 1 1)
 have g':=grain_bd (bothV ((((n+1:Int)):Rat)) lat lon 3 (-1))
 have m:=grain_bd (mlV (riV lat lon (n+1)) (seV lat lon (n+1)))
 show riV lat lon (n+1)≤grainV (mlV (riV lat lon (n+1)) (seV lat lon (n+1)))
 unfold mlV riV seV at*
 grind
theorem cr_shift {C:Int→Rat} (h:CrOk C):CrOk (fun n=>C (n+1)):=⟨fun n=>h.1 (n+1),fun n=>by have:=h.2 (n+1);rw[show n+1+32=n+32+1 by omega] at this;exact this⟩
theorem fs_shift {C:Int→Rat} (h:CrOk C) (n:Int):fsD (fun n=>C (n+1)) (n-1)=fsD C n-1:=by
 have s:=fs_spec h n
 refine(fs_is (cr_shift h) (n:=n-1) (f:=fsD C n-1) ?_ ?_).symm
 ·show kaV (C (fsD C n-1+1))=kaV (C (n-1+1))
  rw[show fsD C n-1+1=fsD C n by omega,show n-1+1=n by omega];exact s.2.2.1
 ·show kaV (C (fsD C n-1-1+1))≠kaV (C (n-1+1))
  rw[show fsD C n-1-1+1=fsD C n-1 by omega,show n-1+1=n by omega];omega
theorem regions {lat lon:Rat} (h0: -60≤lat) (h1:lat≤60) {a b c:Int} (e:kaV (criV 0 lat lon a)=kaV (criV 1 lat lon b)) (g:kaV (criV 1 lat lon b)=kaV (criV 2 lat lon c)):
 fsD (criV 0 lat lon) a≤fsD (criV 1 lat lon) b∧fsD (criV 1 lat lon) b≤fsD (criV 2 lat lon) c∧fsD (criV 2 lat lon) c≤fsD (criV 0 lat lon) a+1:=by
 have k0:=cri_ok 0 lon h0 h1
 have k1:=cri_ok 1 lon h0 h1
 have k2:=cri_ok 2 lon h0 h1
 refine⟨fs_ahead k0 k1 (cri_01 lon h0 h1) e,fs_ahead k1 k2 (cri_12 lon h0 h1) g,?_⟩
 have x:=fs_ahead (cr_shift k2) k0 (cri_20 lon h0 h1) (m:=c-1) (n:=a) (by show kaV (criV 2 lat lon (c-1+1))=_;rw[show c-1+1=c by omega];omega)
 rw[fs_shift k2] at x
 omega
noncomputable def soX (C:Int→Rat) (y m d:Int):Int:=fsD C (midT y m).floor +(d-1)
noncomputable def soE (C:Int→Rat) (y m d:Int):Int:=if soX C y m d< -3000000∨3000000<soX C y m d then 3 else if kaV (C (soX C y m d))/12-1955880000-3179=y∧kaV (C (soX C y m d))%12+1=m∧soX C y m d-fsD C (soX C y m d)+1=d then 0 else 3
noncomputable def soN (C:Int→Rat) (y m d:Int):Int:=if soE C y m d=0 then soX C y m d else 0
theorem so_far {C:Int→Rat} {y m d n:Int} (hn:n=soX C y m d) (h:n< -3000000∨3000000<n):0=soN C y m d∧3=soE C y m d:=by
 subst hn
 have e:soE C y m d=3:=by unfold soE;rw[if_pos h]
 unfold soN;rw[e];exact⟨rfl,rfl⟩
theorem so_3 {C:Int→Rat} {y m d n:Int} (hn:n=soX C y m d) (h:¬(n< -3000000∨3000000<n)) (e:¬(kaV (C n)/12-1955880000-3179=y∧kaV (C n)%12+1=m∧n-fsD C n+1=d)):0=soN C y m d∧3=soE C y m d:=by
 subst hn
 have e:soE C y m d=3:=by unfold soE;rw[if_neg h,if_neg e]
 unfold soN;rw[e];exact⟨rfl,rfl⟩
theorem so_0 {C:Int→Rat} {y m d n:Int} (hn:n=soX C y m d) (h:¬(n< -3000000∨3000000<n)) (e:kaV (C n)/12-1955880000-3179=y∧kaV (C n)%12+1=m∧n-fsD C n+1=d):n=soN C y m d∧0=soE C y m d:=by
 subst hn
 have e:soE C y m d=0:=by unfold soE;rw[if_neg h,if_pos e]
 unfold soN;rw[e];exact⟨rfl,rfl⟩
theorem ka_in {t:Rat} (h0: -3900010≤t) (h1:t≤3900010):12*(1955880000+3179-11000)≤kaV t∧kaV t<12*(1955880000+3179+11000):=by
 have n:=abs_two (sun_near t)
 rw[show((22:Int):Rat)/((10:Int):Rat)=22/10 by decide+kernel] at n
 have p:=pyr_pos
 have a:(-3900010-cre)/pyr≤mturn t pyr:=by
  unfold mturn
  exact Rat.not_lt.1 fun q=>by rw[Rat.div_lt_iff p,Rat.div_mul_cancel (by grind)] at q;grind
 have b:mturn t pyr≤(3900010-cre)/pyr:=by
  unfold mturn
  exact Rat.not_lt.1 fun q=>by rw[Rat.div_lt_iff p,Rat.div_mul_cancel (by grind)] at q;grind
 have a2:1955880000+3179-10999≤(-3900010-cre)/pyr:=by decide+kernel
 have b2:(3900010-cre)/pyr≤1955880000+3179+10999:=by decide+kernel
 constructor
 ·refine ka_ge ?_
  unfold sunU
  rw[show((360:Int):Rat)=360 from rfl,show((12*(1955880000+3179-11000):Int):Rat)=12*(1955880000+3179-11000) by decide+kernel]
  grind
 ·refine ka_lt ?_
  unfold sunU
  rw[show((360:Int):Rat)=360 from rfl,show((12*(1955880000+3179+11000):Int):Rat)=12*(1955880000+3179+11000) by decide+kernel]
  grind
theorem cast_in {n:Int} (h0: -3900001≤n) (h1:n≤3900001) {t:Rat} (a:((n:Int):Rat)-4/10≤t) (b:t≤((n:Int):Rat)+3): -3900010≤t∧t≤3900010:=by
 have c0:=Rat.intCast_le_intCast.2 h0
 have c1:=Rat.intCast_le_intCast.2 h1
 rw[show((-3900001:Int):Rat)= -3900001 from rfl] at c0
 rw[show((3900001:Int):Rat)=3900001 from rfl] at c1
 constructor <;> grind
def Near (C:Int→Rat):Prop:=∀n:Int,((n:Int):Rat)-4/10≤C n∧C n≤((n:Int):Rat)+3
theorem kc_in {C:Int→Rat} (near:Near C) {n:Int} (h0: -3900001≤n) (h1:n≤3900001):12*(1955880000+3179-11000)≤kaV (C n)∧kaV (C n)<12*(1955880000+3179+11000):=by
 have c:=near n
 have r:=cast_in h0 h1 c.1 c.2
 exact ka_in r.1 r.2
theorem so_mid {C:Int→Rat} (h:CrOk C) (near:Near C) {n y m:Int} (hy:kaV (C n)/12-1955880000-3179=y) (hm:kaV (C n)%12+1=m):fsD C (midT y m).floor =fsD C n:=by
 refine fs_same h ?_
 rw[mid_is near]
 omega
theorem so_first {C:Int→Rat} (h:CrOk C) (near:Near C) (y m:Int):kaV (C (fsD C (midT y m).floor))=12*(1955880000+y+3179)+(m-1)∧kaV (C (fsD C (midT y m).floor - 1))=12*(1955880000+y+3179)+(m-1)-1∧fsD C (midT y m).floor ≤(midT y m).floor ∧(midT y m).floor ≤fsD C (midT y m).floor +31:=by
 have s:=fs_spec h (midT y m).floor
 rw[mid_is near] at s
 exact⟨s.2.2.1,s.2.2.2,s.1,s.2.1⟩
theorem so_one {C:Int→Rat} (h:CrOk C) (near:Near C) {y m:Int} (hm:1≤m) (hm2:m≤12) (h0: -3000000≤fsD C (midT y m).floor) (h1:fsD C (midT y m).floor ≤3000000):soE C y m 1=0∧soN C y m 1=fsD C (midT y m).floor :=by
 have s:=so_first h near y m
 have f:=fs_same h (m:=fsD C (midT y m).floor) (n:=(midT y m).floor) (by rw[s.1,mid_is near])
 have r:=so_0 (C:=C) (y:=y) (m:=m) (d:=1) (n:=fsD C (midT y m).floor) (by unfold soX;omega) (by omega) ⟨by rw[s.1];omega,by rw[s.1];omega,by rw[f];omega⟩
 exact⟨r.2.symm,r.1.symm⟩
theorem mid_bd {y m:Int} (h0: -9000≤y) (h1:y≤9000) (hm:1≤m) (hm2:m≤12): -3300000≤(midT y m).floor ∧(midT y m).floor ≤3400000:=by
 have a:=Rat.intCast_le_intCast.2 (show 24*(-9000+3179)+1≤24*(y+3179)+2*m-1 by omega)
 have b:=Rat.intCast_le_intCast.2 (show 24*(y+3179)+2*m-1≤24*(9000+3179)+23 by omega)
 have p:pyr=1577917828000/4320000000:=rfl
 constructor
 ·refine Rat.le_floor_iff.2 ?_
  unfold midT
  rw[show((24:Int):Rat)=24 from rfl,show((-1132959:Int):Rat)= -1132959 from rfl,show((-3300000:Int):Rat)= -3300000 from rfl,p]
  rw[show((24*(-9000+3179)+1:Int):Rat)=24*(-9000+3179)+1 by decide+kernel] at a
  grind
 ·refine Int.lt_add_one_iff.1 (Rat.floor_lt_iff.2 ?_)
  unfold midT
  rw[show((24:Int):Rat)=24 from rfl,show((-1132959:Int):Rat)= -1132959 from rfl,show((3400000+1:Int):Rat)=3400001 from rfl,p]
  rw[show((24*(9000+3179)+23:Int):Rat)=24*(9000+3179)+23 by decide+kernel] at b
  grind
def entT (s:Int):Rat:=pyr*(((s:Int):Rat)/((12:Int):Rat))+((-1132959:Int):Rat)
theorem ent_sun (s:Int):sunU (entT s)=30*(((s+23470560000:Int)):Rat)-sunE (entT s):=by
 have e:mturn (entT s) pyr=((s:Int):Rat)/((12:Int):Rat)+((1955880000:Int):Rat):=by
  rw[←turn_kli]
  unfold mturn entT kli
  have:=pyr_pos
  grind
 unfold sunU
 rw[e,show((360:Int):Rat)=360 from rfl,show((12:Int):Rat)=12 from rfl,Rat.intCast_add,show((1955880000:Int):Rat)=1955880000 from rfl,show((23470560000:Int):Rat)=23470560000 from rfl]
 grind
theorem ent_lo {C:Int→Rat} (near:Near C) (s:Int):kaV (C ((entT s).floor - 7))<s+23470560000:=by
 have f0:=fl_le (entT s)
 have c:=(near ((entT s).floor - 7)).2
 have u:=ent_sun s
 have n:=abs_two (sun_near (entT s))
 rw[show((22:Int):Rat)/((10:Int):Rat)=22/10 by decide+kernel] at n
 rw[Rat.intCast_sub,show((7:Int):Rat)=7 from rfl] at c
 have a:=sun_add (t:=C ((entT s).floor - 7)) (u:=entT s) (by grind)
 exact ka_lt (by grind)
theorem ent_hi {C:Int→Rat} (near:Near C) (s:Int):s+23470560000≤kaV (C ((entT s).floor +7)):=by
 have f0:=fl_lt (entT s)
 have c:=(near ((entT s).floor +7)).1
 have u:=ent_sun s
 have n:=abs_two (sun_near (entT s))
 rw[show((22:Int):Rat)/((10:Int):Rat)=22/10 by decide+kernel] at n
 rw[Rat.intCast_add,show((7:Int):Rat)=7 from rfl] at c
 have a:=sun_add (t:=entT s) (u:=C ((entT s).floor +7)) (by grind)
 exact ka_ge (by grind)
noncomputable def foD (C:Int→Rat) (y m:Int):Int:=fsD C (midT y m).floor
theorem fo_ka {C:Int→Rat} (h:CrOk C) (near:Near C) (y m:Int):kaV (C (foD C y m))=12*(1955880000+y+3179)+(m-1)∧kaV (C (foD C y m-1))=12*(1955880000+y+3179)+(m-1)-1:=by
 have s:=so_first h near y m
 exact⟨s.1,s.2.1⟩
theorem fo_iff {C:Int→Rat} (h:CrOk C) (near:Near C) (y m n:Int):12*(y+3179)+(m-1)+23470560000≤kaV (C n)↔foD C y m≤n:=by
 have s:=fo_ka h near y m
 constructor
 ·intro e
  refine Int.not_lt.1 fun q=>?_
  have:=k_up h (m:=n) (n:=foD C y m-1) (by omega)
  omega
 ·intro e
  have:=k_up h e
  omega
theorem fo_ent {C:Int→Rat} (h:CrOk C) (near:Near C) (y m:Int):(entT (12*(y+3179)+(m-1))).floor - 6≤foD C y m∧foD C y m≤(entT (12*(y+3179)+(m-1))).floor +7:=by
 have a:=ent_lo near (12*(y+3179)+(m-1))
 have b:=(fo_iff h near y m _).1 (ent_hi near (12*(y+3179)+(m-1)))
 refine⟨Int.not_lt.1 fun q=>?_,b⟩
 have:=(fo_iff h near y m ((entT (12*(y+3179)+(m-1))).floor - 7)).2 (by omega)
 omega
theorem fo_day {C:Int→Rat} (h:CrOk C) (near:Near C) (n:Int):foD C (kaV (C n)/12-1955880000-3179) (kaV (C n)%12+1)=fsD C n:=so_mid h near rfl rfl
theorem fo_bd {C:Int→Rat} (h:CrOk C) (near:Near C) {y m:Int} (h0: -9000≤y) (h1:y≤9000) (hm:1≤m) (hm2:m≤12): -3300040≤foD C y m∧foD C y m≤3400000:=by
 have b:=mid_bd h0 h1 hm hm2
 have s:=so_first h near y m
 unfold foD
 omega
theorem fo_regions {lat lon:Rat} (h0: -60≤lat) (h1:lat≤60) (l0: -180≤lon) (l1:lon≤180) (y m:Int):
 foD (criV 0 lat lon) y m≤foD (criV 1 lat lon) y m∧foD (criV 1 lat lon) y m≤foD (criV 2 lat lon) y m∧foD (criV 2 lat lon) y m≤foD (criV 0 lat lon) y m+1:=by
 have a:=mid_is (cri_near (r:=0) h0 h1 l0 l1) y m
 have b:=mid_is (cri_near (r:=1) h0 h1 l0 l1) y m
 have c:=mid_is (cri_near (r:=2) h0 h1 l0 l1) y m
 exact regions h0 h1 (a.trans b.symm) (b.trans c.symm)
def criQ (r n a b c d:Int):Rat:=criV r (((a:Int):Rat)/((b:Int):Rat)) (((c:Int):Rat)/((d:Int):Rat)) n
def criF (r a b c d:Int):Int→Rat:=criV r (((a:Int):Rat)/((b:Int):Rat)) (((c:Int):Rat)/((d:Int):Rat))
theorem cf_ok (r:Int) {a b c d:Int} (h:PlOk a b c d):CrOk (criF r a b c d):=cri_ok r _ h.la.1 h.la.2
theorem cf_near (r:Int) {a b c d:Int} (h:PlOk a b c d):Near (criF r a b c d):=cri_near h.la.1 h.la.2 h.lo.1 h.lo.2
theorem cri_0 {r n a b c d:Int} (h:r=0):grainV (dawV (n+1) a b c d)=criQ r n a b c d:=by subst h;rfl
theorem cri_1 {r n a b c d:Int} (h:r=1):grainV (dusV n a b c d)=criQ r n a b c d:=by subst h;rfl
theorem cri_2 {r n a b c d:Int} (h:r=2) {x:Rat} (e:x=mlV (grainV (dawV n a b c d)) (grainV (dusV n a b c d))):grainV x=criQ r n a b c d:=by subst h;rw[e];rfl
theorem ml_is (a b:Rat):a+(b-a)*(((3:Int):Rat)/((5:Int):Rat))=mlV a b:=by
 unfold mlV
 rw[show((3:Int):Rat)/((5:Int):Rat)=3/5 by decide+kernel]
 grind
theorem cri_3 {r n a b c d:Int} (h0:r≠0) (h1:r≠1) (h2:r≠2):(((n+1:Int)):Rat)=criQ r n a b c d:=by
 unfold criQ criV
 rw[if_neg h0,if_neg h1,if_neg h2]
theorem criQ_lim {r n a b c d:Int} (h:PlOk a b c d) (h0: -3900000≤n) (h1:n≤3900000):RLim (criQ r n a b c d) 3:=by
 by_cases r0:r=0
 ·rw[←cri_0 r0];exact sunr_lim h (by omega) (by omega)
 by_cases r1:r=1
 ·rw[←cri_1 r1];exact suns_lim h (by omega) (by omega)
 by_cases r2:r=2
 ·have x:=daw_bd (n:=n) h
  have y:=dus_bd (n:=n) h
  have gx:=grain_bd (dawV n a b c d)
  have gy:=grain_bd (dusV n a b c d)
  have e:=both_near ((n:Int):Rat) (qd:=1) (sg:=1) (.inl ⟨rfl,rfl⟩) h.la.1 h.la.2 h.lo.1 h.lo.2
  have f:=both_near ((n:Int):Rat) (qd:=3) (sg:= -1) (.inr ⟨rfl,rfl⟩) h.la.1 h.la.2 h.lo.1 h.lo.2
  rw[←cri_2 r2 rfl]
  refine grain_lim3 (n:=n) (by omega) (by omega) ?_ ?_ <;> (unfold mlV;unfold dawV dusV at*;grind)
 ·rw[←cri_3 r0 r1 r2];exact(lim1 (n:=n+1) (by omega)).up _ (by omega)
theorem kc_bd (r:Int) {n a b c d:Int} (h:PlOk a b c d) (h0: -3900000≤n) (h1:n≤3900000):12*(1955880000+3179-11000)≤kaV (criQ r n a b c d)∧kaV (criQ r n a b c d)<12*(1955880000+3179+11000):=kc_in (cf_near r h) (by omega) (by omega)
def ckE (r a b c d:Int):Int:=if 0≤r∧r≤3 then plE a b c d else 6
theorem pl_of {a b c d:Int} (h:plE a b c d=0):PlOk a b c d:=by
 unfold plE at h
 split at h
 ·rename_i k
  have x:=wiB_of k.1
  have y:=wiB_of k.2
  exact⟨x.1,x.2.1,x.2.2.1,x.2.2.2,y.1,y.2.1,y.2.2.1,y.2.2.2⟩
 ·cases h
theorem pl_ok {a b c d:Int} (h:PlOk a b c d):plE a b c d=0:=by unfold plE;rw[if_pos ⟨decide_eq_true ⟨h.b0,h.b1,h.a0,h.a1⟩,decide_eq_true ⟨h.d0,h.d1,h.c0,h.c1⟩⟩]
theorem pl_2 (a b c d:Int):plE a b c d=0∨plE a b c d=2:=by unfold plE;split <;> simp
theorem ckE_ok {r a b c d:Int} (h0:0≤r) (h1:r≤3) (h:PlOk a b c d):ckE r a b c d=0:=by unfold ckE;rw[if_pos ⟨h0,h1⟩];exact pl_ok h
theorem ckE_r {r a b c d:Int} (h:¬(0≤r∧r≤3)):ckE r a b c d=6:=if_neg h
theorem ckE_p {r a b c d:Int} (h:0≤r∧r≤3):ckE r a b c d=plE a b c d:=if_pos h
theorem fo_ask {r y m bg a b c d:Int} (hok:PlOk a b c d) (h:Int):decide (12*(y+3179)+(m-1)≤kaV (criQ r (bg+h) a b c d)-23470560000)=true↔foD (criF r a b c d) y m-bg≤h:=by
 have e:12*(y+3179)+(m-1)+23470560000≤kaV (criQ r (bg+h) a b c d)↔foD (criF r a b c d) y m≤bg+h:=fo_iff (cf_ok r hok) (cf_near r hok) y m (bg+h)
 rw[decide_eq_true_iff]
 constructor
 ·intro x;have:=e.1 (by omega);omega
 ·intro x;have:=e.2 (by omega);omega
theorem ka_in3 {t:Rat} (h0: -3000002≤t) (h1:t≤3000004):12*(1955880000-5200)≤kaV t∧kaV t<12*(1955880000+11400):=by
 have n:=abs_two (sun_near t)
 rw[show((22:Int):Rat)/((10:Int):Rat)=22/10 by decide+kernel] at n
 have p:=pyr_pos
 have a:(-3000002-cre)/pyr≤mturn t pyr:=by
  unfold mturn
  exact Rat.not_lt.1 fun q=>by rw[Rat.div_lt_iff p,Rat.div_mul_cancel (by grind)] at q;grind
 have b:mturn t pyr≤(3000004-cre)/pyr:=by
  unfold mturn
  exact Rat.not_lt.1 fun q=>by rw[Rat.div_lt_iff p,Rat.div_mul_cancel (by grind)] at q;grind
 have a2:1955880000-5199≤(-3000002-cre)/pyr:=by decide+kernel
 have b2:(3000004-cre)/pyr≤1955880000+11399:=by decide+kernel
 constructor
 ·refine ka_ge ?_
  unfold sunU
  rw[show((360:Int):Rat)=360 from rfl,show((12*(1955880000-5200):Int):Rat)=12*(1955880000-5200) by decide+kernel]
  grind
 ·refine ka_lt ?_
  unfold sunU
  rw[show((360:Int):Rat)=360 from rfl,show((12*(1955880000+11400):Int):Rat)=12*(1955880000+11400) by decide+kernel]
  grind
theorem cr_in3 (r:Int) {n a b c d:Int} (h:PlOk a b c d) (h0: -3000001≤n) (h1:n≤3000001):12*(1955880000-5200)≤kaV (criQ r n a b c d)∧kaV (criQ r n a b c d)<12*(1955880000+11400):=by
 have k:=cf_near r h n
 have c0:=Rat.intCast_le_intCast.2 h0
 have c1:=Rat.intCast_le_intCast.2 h1
 rw[show((-3000001:Int):Rat)= -3000001 from rfl] at c0
 rw[show((3000001:Int):Rat)=3000001 from rfl] at c1
 exact ka_in3 (t:=criQ r n a b c d) (show _≤criF r a b c d n by grind) (show criF r a b c d n≤_ by grind)
theorem so_next (r:Int) {a b c d:Int} (h:PlOk a b c d) (n:Int):(kaV (criQ r (n+1) a b c d)=kaV (criQ r n a b c d)∧fsD (criF r a b c d) (n+1)=fsD (criF r a b c d) n∧n+1-fsD (criF r a b c d) n+1≤32)∨(kaV (criQ r (n+1) a b c d)=kaV (criQ r n a b c d)+1∧fsD (criF r a b c d) (n+1)=n+1∧28≤n-fsD (criF r a b c d) n+1):=
 fs_step (cf_ok r h) n
theorem so_kas (r:Int) {a b c d:Int} (h:PlOk a b c d) (y m:Int):kaV (criQ r (foD (criF r a b c d) y m) a b c d)=12*(1955880000+y+3179)+(m-1)∧kaV (criQ r (foD (criF r a b c d) y m-1) a b c d)=12*(1955880000+y+3179)+(m-1)-1:=fo_ka (cf_ok r h) (cf_near r h) y m
theorem cr_lt (r:Int) {a b c d:Int} (h:PlOk a b c d) (n:Int):criQ r (n-1) a b c d<criQ r n a b c d:=by
 have k:983/1000≤criF r a b c d (n-1+1)-criF r a b c d (n-1):=((cf_ok r h).1 (n-1)).1
 rw[show n-1+1=n by omega] at k
 show criF r a b c d (n-1)<criF r a b c d n
 grind
theorem so_first0 (r:Int) {a b c d:Int} (h:PlOk a b c d):soE (criF r a b c d) 0 1 1=0:=by
 have q:20000≤(midT 0 1).floor ∧(midT 0 1).floor ≤40000:=by
  have e:midT 0 1=((76297:Int):Rat)/((24:Int):Rat)*(1577917828000/4320000000)+((-1132959:Int):Rat):=rfl
  constructor
  ·exact Rat.le_floor_iff.2 (by rw[e];decide+kernel)
  ·exact Int.lt_add_one_iff.1 (Rat.floor_lt_iff.2 (by rw[e];decide+kernel))
 have s:=so_first (cf_ok r h) (cf_near r h) 0 1
 exact(so_one (cf_ok r h) (cf_near r h) (y:=0) (m:=1) (by decide) (by decide) (by omega) (by omega)).1
theorem so_regions {a b c d:Int} (h:PlOk a b c d) (y m:Int):foD (criF 0 a b c d) y m≤foD (criF 1 a b c d) y m∧foD (criF 1 a b c d) y m≤foD (criF 2 a b c d) y m∧foD (criF 2 a b c d) y m≤foD (criF 0 a b c d) y m+1:=fo_regions h.la.1 h.la.2 h.lo.1 h.lo.2 y m
end Go.Proofs.YtnljadejcfgmaaaGreatDoor
