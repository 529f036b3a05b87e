import Derived.Test.YtdbiegfmgabicaaGreatDoorKA29
import Derived.Test.YtdbiegfmgabicaaGreatDoorKA34
import Derived.Laws.StructEq
namespace Go.Proofs.YtdbiegfmgabicaaGreatDoor
open Go.RowKit
set_option maxRecDepth 100000
set_option linter.unusedVariables false
set_option maxHeartbeats 8000000
theorem B3 {x m:Rat} (h:0<m):rmod x m=x-m*(((x/m).floor :Int):Rat):=by unfold rmod;rw[if_neg (by grind)]
theorem t9 (t:Rat) {lat:Rat} (lon:Rat) {qd sg:Int} (hq:qd=1∧sg=1∨qd=3∧sg= -1) (h0: -60≤lat) (h1:lat≤60):985/1000≤co (t+((1:Int):Rat)) lat lon qd sg-co t lat lon qd sg∧co (t+((1:Int):Rat)) lat lon qd sg-co t lat lon qd sg≤1015/1000:=by
 rcases hq with⟨rfl,rfl⟩|⟨rfl,rfl⟩
 ·exact Bx t lon h0 h1
 have e:=cP (yx t)
 have d:=cP (wT t h0 h1)
 have s:=il t
 have s':=il (t+((1:Int):Rat))
 have k:=nT
 unfold co
 rw[show((3:Int):Rat)/((4:Int):Rat)=3/4 by decide+kernel,show((-1:Int):Rat)= -1 from rfl,Rat.intCast_one] at*
 generalize fO (t+1) lat=d2 at*
 generalize fO t lat=d1 at*
 generalize eR (t+1)*gO (t+1)=s2 at*
 generalize eR t*gO t=s1 at*
 generalize gM (t+1)=e2 at*
 generalize gM t=e1 at*
 have m:=fE (a:=3/4*(111/100-87/100)+27/10) (b:=27703/10000000) (x:=(s2*(3/4)+ -1*d2)-(s1*(3/4)+ -1*d1)) (y:=kap) (by grind) (by grind) (by grind) (by grind) (by grind) k.2
 constructor <;> grind
theorem uc (t d:Rat) {lat:Rat} (lon:Rat) {qd sg:Int} (hq:qd=1∧sg=1∨qd=3∧sg= -1) (h0: -60≤lat) (h1:lat≤60):d-308/1000≤co (t+d) lat lon qd sg-co t lat lon qd sg:=by
 have e:=nN t
 have e':=nN (t+d)
 have g:=mI t h0 h1
 have g':=mI (t+d) h0 h1
 have s:=il t
 have s':=il (t+d)
 have k:=nT
 unfold co
 generalize fO (t+d) lat=d2 at*
 generalize fO t lat=d1 at*
 generalize eR (t+d)*gO (t+d)=s2 at*
 generalize eR t*gO t=s1 at*
 generalize gM (t+d)=e2 at*
 generalize gM t=e1 at*
 rcases hq with⟨rfl,rfl⟩|⟨rfl,rfl⟩
 ·rw[show((1:Int):Rat)/((4:Int):Rat)=1/4 by decide+kernel,Rat.intCast_one] at*
  have m:=fE (a:=1/4*(111/100-87/100)+106) (b:=27703/10000000) (x:=(s2*(1/4)+1*d2)-(s1*(1/4)+1*d1)) (y:=kap) (by grind) (by grind) (by grind) (by grind) (by grind) k.2
  grind
 ·rw[show((3:Int):Rat)/((4:Int):Rat)=3/4 by decide+kernel,show((-1:Int):Rat)= -1 from rfl] at*
  have m:=fE (a:=3/4*(111/100-87/100)+106) (b:=27703/10000000) (x:=(s2*(3/4)+ -1*d2)-(s1*(3/4)+ -1*d1)) (y:=kap) (by grind) (by grind) (by grind) (by grind) (by grind) k.2
  grind
theorem HJ {lon:Rat} (h0: -180≤lon) (h1:lon≤180): -(3/10)≤kl lon∧kl lon≤72/100:=by
 unfold kl
 rw[show((45461:Int):Rat)/((600:Int):Rat)=45461/600 by decide+kernel,show((1:Int):Rat)/((360:Int):Rat)=1/360 by decide+kernel]
 constructor <;> grind
theorem iP (t:Rat) {lat lon:Rat} {qd sg:Int} (hq:qd=1∧sg=1∨qd=3∧sg= -1) (h0: -60≤lat) (h1:lat≤60) (l0: -180≤lon) (l1:lon≤180):t-3/10≤co t lat lon qd sg∧co t lat lon qd sg≤t+17/10:=by
 have e:=nN t
 have g:=mI t h0 h1
 have s:=il t
 have k:=nT
 have c:=HJ l0 l1
 unfold co
 generalize fO t lat=d1 at*
 generalize eR t*gO t=s1 at*
 generalize gM t=e1 at*
 rcases hq with⟨rfl,rfl⟩|⟨rfl,rfl⟩
 ·rw[show((1:Int):Rat)/((4:Int):Rat)=1/4 by decide+kernel,Rat.intCast_one] at*
  have m:=fE (a:=1/4*(111/100)+53) (b:=27703/10000000) (x:=s1*(1/4)+1*d1) (y:=kap) (by grind) (by grind) (by grind) (by grind) (by grind) k.2
  constructor <;> grind
 ·rw[show((3:Int):Rat)/((4:Int):Rat)=3/4 by decide+kernel,show((-1:Int):Rat)= -1 from rfl] at*
  have m:=fE (a:=3/4*(111/100)+53) (b:=27703/10000000) (x:=s1*(3/4)+ -1*d1) (y:=kap) (by grind) (by grind) (by grind) (by grind) (by grind) k.2
  constructor <;> grind
def riV (lat lon:Rat) (n:Int):Rat:=bX (co ((n:Int):Rat) lat lon 1 1)
def seV (lat lon:Rat) (n:Int):Rat:=bX (co ((n:Int):Rat) lat lon 3 (-1))
def mlV (a b:Rat):Rat:=a*(2/5)+b*(3/5)
def oB (r:Int) (lat lon:Rat) (n:Int):Rat:=if r=0 then riV lat lon (n+1) else if r=1 then seV lat lon n else if r=2 then bX (mlV (riV lat lon n) (seV lat lon n)) else(((n+1:Int)):Rat)
def fH (C:Int→Rat):Prop:=(∀n,983/1000≤C (n+1)-C n∧C (n+1)-C n≤1017/1000)∧(∀n,3169/100≤C (n+32)-C n)
theorem uY (n:Int):(((n+32:Int)):Rat)=((n:Int):Rat)+32:=by rw[Rat.intCast_add];rfl
theorem pm {lat:Rat} (lon:Rat) (h0: -60≤lat) (h1:lat≤60) (n:Int):98499/100000≤riV lat lon (n+1)-riV lat lon n∧riV lat lon (n+1)-riV lat lon n≤101501/100000∧3169/100+1/1000≤riV lat lon (n+32)-riV lat lon n:=by
 have a:=t9 ((n:Int):Rat) (qd:=1) (sg:=1) lon (.inl ⟨rfl,rfl⟩) h0 h1
 have b:=uc ((n:Int):Rat) 32 (qd:=1) (sg:=1) lon (.inl ⟨rfl,rfl⟩) h0 h1
 unfold riV
 rw[eK,uY]
 rw[Rat.intCast_one] at a
 have g1:=cS (co ((n:Int):Rat) lat lon 1 1)
 have g2:=cS (co (((n:Int):Rat)+1) lat lon 1 1)
 have g3:=cS (co (((n:Int):Rat)+32) lat lon 1 1)
 refine⟨?_,?_,?_⟩ <;> grind
theorem HH {lat:Rat} (lon:Rat) (h0: -60≤lat) (h1:lat≤60) (n:Int):98499/100000≤seV lat lon (n+1)-seV lat lon n∧seV lat lon (n+1)-seV lat lon n≤101501/100000∧3169/100+1/1000≤seV lat lon (n+32)-seV lat lon n:=by
 have a:=t9 ((n:Int):Rat) (qd:=3) (sg:= -1) lon (.inr ⟨rfl,rfl⟩) h0 h1
 have b:=uc ((n:Int):Rat) 32 (qd:=3) (sg:= -1) lon (.inr ⟨rfl,rfl⟩) h0 h1
 unfold seV
 rw[eK,uY]
 rw[Rat.intCast_one] at a
 have g1:=cS (co ((n:Int):Rat) lat lon 3 (-1))
 have g2:=cS (co (((n:Int):Rat)+1) lat lon 3 (-1))
 have g3:=cS (co (((n:Int):Rat)+32) lat lon 3 (-1))
 refine⟨?_,?_,?_⟩ <;> grind
theorem Mj (r:Int) {lat:Rat} (lon:Rat) (h0: -60≤lat) (h1:lat≤60):fH (oB r lat lon):=by
 have R:=pm lon h0 h1
 have S:=HH lon h0 h1
 unfold fH oB
 by_cases r0:r=0
 ·simp only [if_pos r0]
  refine⟨fun n=>?_,fun n=>?_⟩
  ·have:=R (n+1);constructor <;> grind
  ·have:=R (n+1);rw[show n+32+1=n+1+32 by omega];grind
 simp only [if_neg r0]
 by_cases r1:r=1
 ·simp only [if_pos r1]
  refine⟨fun n=>?_,fun n=>?_⟩
  ·have:=S n;constructor <;> grind
  ·have:=S n;grind
 simp only [if_neg r1]
 by_cases r2:r=2
 ·simp only [if_pos r2]
  refine⟨fun n=>?_,fun n=>?_⟩
  ·have a:=R n
   have b:=S n
   have g:=cS (mlV (riV lat lon n) (seV lat lon n))
   have g':=cS (mlV (riV lat lon (n+1)) (seV lat lon (n+1)))
   unfold mlV at*
   constructor <;> grind
  ·have a:=R n
   have b:=S n
   have g:=cS (mlV (riV lat lon n) (seV lat lon n))
   have g':=cS (mlV (riV lat lon (n+32)) (seV lat lon (n+32)))
   unfold mlV at*
   grind
 simp only [if_neg r2]
 refine⟨fun n=>?_,fun n=>?_⟩
 ·rw[eK (n+1)];constructor <;> grind
 ·rw[show n+32+1=n+1+32 by omega,uY];grind
theorem DT {r:Int} {lat lon:Rat} (h0: -60≤lat) (h1:lat≤60) (l0: -180≤lon) (l1:lon≤180) (n:Int):((n:Int):Rat)-4/10≤oB r lat lon n∧oB r lat lon n≤((n:Int):Rat)+3:=by
 have a:=iP ((n:Int):Rat) (qd:=1) (sg:=1) (.inl ⟨rfl,rfl⟩) h0 h1 l0 l1
 have a':=iP ((((n+1:Int)):Rat)) (qd:=1) (sg:=1) (.inl ⟨rfl,rfl⟩) h0 h1 l0 l1
 have b:=iP ((n:Int):Rat) (qd:=3) (sg:= -1) (.inr ⟨rfl,rfl⟩) h0 h1 l0 l1
 have ga:=cS (co ((n:Int):Rat) lat lon 1 1)
 have ga':=cS (co ((((n+1:Int)):Rat)) lat lon 1 1)
 have gb:=cS (co ((n:Int):Rat) lat lon 3 (-1))
 have gm:=cS (mlV (riV lat lon n) (seV lat lon n))
 have d:=eK n
 unfold oB
 split
 ·unfold riV;constructor <;> grind
 ·split
  ·unfold seV;constructor <;> grind
  ·split
   ·unfold mlV riV seV at*;constructor <;> grind
   ·constructor <;> grind
def kaV (t:Rat):Int:=(cm t*(1/30)).floor
theorem jK (t:Rat):30*((kaV t:Int):Rat)≤cm t∧cm t<30*((kaV t:Int):Rat)+30:=by
 have a:=eN (cm t*(1/30))
 have b:=fD (cm t*(1/30))
 unfold kaV
 constructor <;> grind
theorem iZ {t:Rat} {k:Int} (h:30*((k:Int):Rat)≤cm t):k≤kaV t:=Rat.le_floor_iff.2 (by grind)
theorem j8 {t:Rat} {k:Int} (h:cm t<30*((k:Int):Rat)):kaV t<k:=Rat.floor_lt_iff.2 (by grind)
theorem tb (t:Rat):prt (dz t) 12=kaV t%12:=by
 rw[wN,tS (by decide),show((12:Int):Rat)/((360:Int):Rat)=1/30 by decide+kernel]
 rfl
def DK (t:Rat):Rat:=(t-kli)/pyr-dz t*(((1:Int):Rat)/((360:Int):Rat))
def KM (t:Rat):Int:=(DK t+((1:Int):Rat)/((2:Int):Rat)).floor
theorem q8:(kli-cre)/pyr=((1955880000:Int):Rat):=by decide+kernel
theorem It (t:Rat):(cm t/((360:Int):Rat)).floor =kaV t/12:=by
 have k:=jK t
 have e:=Int.mul_ediv_add_emod (kaV t) 12
 have m0:=Int.emod_nonneg (kaV t) (b:=12) (by omega)
 have m1:=Int.emod_lt_of_pos (kaV t) (b:=12) (by omega)
 have q0:12*(kaV t/12)≤kaV t:=by omega
 have q1:kaV t≤12*(kaV t/12)+11:=by omega
 have c0:=Rat.intCast_le_intCast.2 q0
 have c1:=Rat.intCast_le_intCast.2 q1
 rw[Rat.intCast_add,Rat.intCast_mul] at c1
 rw[Rat.intCast_mul] at c0
 rw[show((12:Int):Rat)=12 from rfl] at c0 c1
 rw[show((11:Int):Rat)=11 from rfl] at c1
 have r:((360:Int):Rat)=360:=rfl
 have p:(0:Rat)<360:=by decide+kernel
 have a:kaV t/12≤(cm t/((360:Int):Rat)).floor :=Rat.le_floor_iff.2 (Rat.not_lt.1 fun h=>by rw[r,Rat.div_lt_iff p] at h;grind)
 have b:(cm t/((360:Int):Rat)).floor <kaV t/12+1:=Rat.floor_lt_iff.2 (by rw[r,Rat.div_lt_iff p,Rat.intCast_add,Rat.intCast_one];grind)
 omega
theorem BW (t:Rat):KM t=kaV t/12-1955880000:=by
 have n:=cP (gQ t)
 rw[show((22:Int):Rat)/((10:Int):Rat)=22/10 by decide+kernel] at n
 have y:(t-kli)/pyr=bv t pyr-((1955880000:Int):Rat):=by
  rw[←q8]
  unfold bv
  have:=iS
  grind
 have x:DK t=dG t/360+(((kaV t/12-1955880000:Int)):Rat):=by
  unfold DK
  rw[y,wN,B3 (by decide+kernel),It,Rat.intCast_sub]
  unfold cm
  rw[show((1:Int):Rat)/((360:Int):Rat)=1/360 by decide+kernel,show((360:Int):Rat)=360 from rfl]
  grind
 unfold KM
 rw[x,Rat.add_assoc,Rat.add_comm (((kaV t/12-1955880000:Int)):Rat),←Rat.add_assoc,Rat.floor_add_intCast]
 have f:(dG t/360+((1:Int):Rat)/((2:Int):Rat)).floor =0:=by
  rw[show((1:Int):Rat)/((2:Int):Rat)=1/2 by decide+kernel]
  have a:(0:Int)≤(dG t/360+1/2).floor :=Rat.le_floor_iff.2 (by rw[Rat.intCast_zero];grind)
  have b:(dG t/360+1/2).floor <1:=Rat.floor_lt_iff.2 (by rw[Rat.intCast_one];grind)
  omega
 rw[f]
 omega
theorem dK {t u:Rat} (h:t≤u):9471/10000*(u-t)≤cm u-cm t∧cm u-cm t≤10242/10000*(u-t):=by
 have:=wi t (d:=u-t) (by grind)
 rw[show t+(u-t)=u by grind] at this
 exact this
theorem yY {C:Int→Rat} (h:fH C) (n:Int):930/1000≤cm (C (n+1))-cm (C n)∧cm (C (n+1))-cm (C n)≤1042/1000:=by
 have c:=h.1 n
 have s:=dK (t:=C n) (u:=C (n+1)) (by grind)
 constructor <;> grind
theorem Ey {C:Int→Rat} (h:fH C) (n:Int) (k:Nat):930/1000*(((k:Int)):Rat)≤cm (C (n+k))-cm (C n)∧cm (C (n+k))-cm (C n)≤1042/1000*(((k:Int)):Rat):=by
 induction k with
 |zero=>rw[show n+((0:Nat):Int)=n by omega,show(((0:Nat):Int))=0 from rfl,Rat.intCast_zero];constructor <;> grind
 |succ k ih=>
  have s:=yY h (n+k)
  rw[show n+(((k+1:Nat)):Int)=n+(k:Int)+1 by omega,show(((k+1:Nat)):Int)=(k:Int)+1 by omega,Rat.intCast_add,Rat.intCast_one]
  constructor <;> grind
theorem Hq {C:Int→Rat} (h:fH C) {m n:Int} (l:m≤n):930/1000*(((n-m:Int)):Rat)≤cm (C n)-cm (C m)∧cm (C n)-cm (C m)≤1042/1000*(((n-m:Int)):Rat):=by
 have:=Ey h m (n-m).toNat
 rw[show m+(((n-m).toNat :Nat):Int)=n by omega,show(((n-m).toNat :Nat):Int)=n-m by omega] at this
 exact this
theorem Ni {C:Int→Rat} (h:fH C) (n:Int):30≤cm (C (n+32))-cm (C n):=by
 have c:=h.2 n
 have s:=dK (t:=C n) (u:=C (n+32)) (by grind)
 grind
theorem sL {C:Int→Rat} (h:fH C) {m n:Int} (l:m≤n):kaV (C m)≤kaV (C n):=by
 have s:=Hq h l
 have b:=jK (C m)
 have e:(0:Rat)≤(((n-m:Int)):Rat):=Rat.intCast_nonneg.2 (by omega)
 exact iZ (by grind)
theorem K1 {C:Int→Rat} (h:fH C) (n:Int):kaV (C (n+1))=kaV (C n)∨kaV (C (n+1))=kaV (C n)+1:=by
 have a:=sL h (m:=n) (n:=n+1) (by omega)
 have s:=yY h n
 have b:=jK (C n)
 have c:kaV (C (n+1))<kaV (C n)+2:=j8 (by rw[Rat.intCast_add,show((2:Int):Rat)=2 from rfl];grind)
 omega
theorem NU {C:Int→Rat} (h:fH C) (n:Int):kaV (C n)+1≤kaV (C (n+32)):=by
 have s:=Ni h n
 have b:=jK (C n)
 exact iZ (by rw[Rat.intCast_add,Rat.intCast_one];grind)
theorem vD {C:Int→Rat} (h:fH C) (n:Int):∃f,f≤n∧n≤f+31∧kaV (C f)=kaV (C n)∧kaV (C (f-1))=kaV (C n)-1:=by
 have go:∀i:Nat,i≤32→(∃f,f≤n∧n≤f+31∧kaV (C f)=kaV (C n)∧kaV (C (f-1))=kaV (C n)-1)∨kaV (C (n-i))=kaV (C n):=by
  intro i
  induction i with
  |zero=>intro _;right;rw[show n-((0:Nat):Int)=n by omega]
  |succ i ih=>
   intro hi
   rcases ih (by omega) with e|e
   ·exact .inl e
   ·rcases K1 h (n-i-1) with s|s
    ·right;rw[show n-(((i+1:Nat)):Int)=n-i-1 by omega,←s,show n-(i:Int)-1+1=n-i by omega];exact e
    ·left
     rw[show n-(i:Int)-1+1=n-i by omega] at s
     exact⟨n-i,by omega,by omega,e,by omega⟩
 rcases go 32 (by omega) with e|e
 ·exact e
 ·exfalso
  have:=NU h (n-32)
  rw[show n-32+32=n by omega] at this
  rw[show n-((32:Nat):Int)=n-32 by omega] at e
  omega
noncomputable def fsD (C:Int→Rat) (n:Int):Int:= @dite _ (fH C) (Classical.propDecidable _) (fun h=>Classical.choose (vD h n)) (fun _=>n)
theorem pw {C:Int→Rat} (h:fH C) (n:Int):fsD C n≤n∧n≤fsD C n+31∧kaV (C (fsD C n))=kaV (C n)∧kaV (C (fsD C n-1))=kaV (C n)-1:=by
 unfold fsD
 rw[dif_pos h]
 exact Classical.choose_spec (vD h n)
theorem Ng {C:Int→Rat} (h:fH C) {n f:Int} (e:kaV (C f)=kaV (C n)) (g:kaV (C (f-1))≠kaV (C n)):f=fsD C n:=by
 have s:=pw h n
 rcases Int.lt_trichotomy f (fsD C n) with l|l|l
 ·have:=sL h (m:=f) (n:=fsD C n-1) (by omega)
  omega
 ·exact l
 ·have a:=sL h (m:=fsD C n) (n:=f-1) (by omega)
  have b:=sL h (m:=f-1) (n:=f) (by omega)
  omega
theorem I4 {C:Int→Rat} (h:fH C) {m n:Int} (e:kaV (C m)=kaV (C n)):fsD C m=fsD C n:=by
 have s:=pw h m
 exact Ng h (by omega) (by omega)
def ed (y m:Int):Rat:=((24*(y+3179)+2*m-1:Int):Rat)/((24:Int):Rat)*pyr+((-1132959:Int):Rat)
theorem IH (y m:Int):cm (ed y m)=360*(((1955880000+y+3179:Int)):Rat)+30*(((m-1:Int)):Rat)+15-dG (ed y m):=by
 have e:bv (ed y m) pyr=((24*(y+3179)+2*m-1:Int):Rat)/((24:Int):Rat)+((1955880000:Int):Rat):=by
  rw[←q8]
  unfold bv ed kli
  have:=iS
  grind
 unfold cm
 rw[e,show((360:Int):Rat)=360 from rfl,show((24:Int):Rat)=24 from rfl]
 simp only [Rat.intCast_add,Rat.intCast_sub,Rat.intCast_mul,Rat.intCast_one]
 rw[show((24:Int):Rat)=24 from rfl,show((2:Int):Rat)=2 from rfl]
 grind
theorem C3 {C:Int→Rat} (near:∀n:Int,((n:Int):Rat)-4/10≤C n∧C n≤((n:Int):Rat)+3) (y m:Int):kaV (C (ed y m).floor)=12*(1955880000+y+3179)+(m-1):=by
 have f0:=eN (ed y m)
 have f1:=fD (ed y m)
 have c:=near (ed y m).floor
 have s:=IH y m
 have n:=cP (gQ (ed y m))
 rw[show((22:Int):Rat)/((10:Int):Rat)=22/10 by decide+kernel] at n
 have w: -4≤cm (C (ed y m).floor)-cm (ed y m)∧cm (C (ed y m).floor)-cm (ed y m)≤4:=by
  by_cases l:ed y m≤C (ed y m).floor
  ·have:=dK l;constructor <;> grind
  ·have:=dK (t:=C (ed y m).floor) (u:=ed y m) (by grind);constructor <;> grind
 have e:(((12*(1955880000+y+3179)+(m-1):Int)):Rat)=12*(((1955880000+y+3179:Int)):Rat)+(((m-1:Int)):Rat):=by rw[Rat.intCast_add,Rat.intCast_mul];rfl
 have a:12*(1955880000+y+3179)+(m-1)≤kaV (C (ed y m).floor):=iZ (by rw[e];grind)
 have b:kaV (C (ed y m).floor)<12*(1955880000+y+3179)+(m-1)+1:=j8 (by rw[Rat.intCast_add,e,Rat.intCast_one];grind)
 omega
theorem M7 {t u:Rat} (h:t≤u):kaV t≤kaV u:=by
 have s:=dK h
 have b:=jK t
 exact iZ (by grind)
theorem Hh {t u:Rat} (h:t+27≤u) (g:u≤t+32):kaV t≤kaV u∧kaV u≤kaV t+2:=by
 have s:=dK (t:=t) (u:=u) (by grind)
 have b:=jK t
 refine⟨M7 (by grind),?_⟩
 have c:kaV u<kaV t+3:=j8 (by rw[Rat.intCast_add,show((3:Int):Rat)=3 from rfl];grind)
 omega
theorem Dw {t u:Rat} (h:t+55≤u):kaV t<kaV u:=by
 have s:=dK (t:=t) (u:=u) (by grind)
 have b:=jK t
 have c:kaV t+1≤kaV u:=iZ (by rw[Rat.intCast_add,Rat.intCast_one];grind)
 omega
theorem Gd {t:Rat} (h0: -3900010≤t) (h1:t≤3900010):12*(1955880000+3179-11000)≤kaV t∧kaV t<12*(1955880000+3179+11000):=by
 have n:=cP (gQ t)
 rw[show((22:Int):Rat)/((10:Int):Rat)=22/10 by decide+kernel] at n
 have p:=iS
 have a:(-3900010-cre)/pyr≤bv t pyr:=by
  unfold bv
  exact Rat.not_lt.1 fun q=>by rw[Rat.div_lt_iff p,Rat.div_mul_cancel (by grind)] at q;grind
 have b:bv t pyr≤(3900010-cre)/pyr:=by
  unfold bv
  exact Rat.not_lt.1 fun q=>by rw[Rat.div_lt_iff p,Rat.div_mul_cancel (by grind)] at q;grind
 have a2:1955880000+3179-10999≤(-3900010-cre)/pyr:=by decide+kernel
 have b2:(3900010-cre)/pyr≤1955880000+3179+10999:=by decide+kernel
 constructor
 ·refine iZ ?_
  unfold cm
  rw[show((360:Int):Rat)=360 from rfl,show((12*(1955880000+3179-11000):Int):Rat)=12*(1955880000+3179-11000) by decide+kernel]
  grind
 ·refine j8 ?_
  unfold cm
  rw[show((360:Int):Rat)=360 from rfl,show((12*(1955880000+3179+11000):Int):Rat)=12*(1955880000+3179+11000) by decide+kernel]
  grind
theorem Hf {n:Int} (h0: -3900001≤n) (h1:n≤3900001) {t:Rat} (a:((n:Int):Rat)-4/10≤t) (b:t≤((n:Int):Rat)+3): -3900010≤t∧t≤3900010:=by
 have c0:=Rat.intCast_le_intCast.2 h0
 have c1:=Rat.intCast_le_intCast.2 h1
 rw[show((-3900001:Int):Rat)= -3900001 from rfl] at c0
 rw[show((3900001:Int):Rat)=3900001 from rfl] at c1
 constructor <;> grind
def lf (C:Int→Rat):Prop:=∀n:Int,((n:Int):Rat)-4/10≤C n∧C n≤((n:Int):Rat)+3
theorem Nj {C:Int→Rat} (near:lf C) {n:Int} (h0: -3900001≤n) (h1:n≤3900001):12*(1955880000+3179-11000)≤kaV (C n)∧kaV (C n)<12*(1955880000+3179+11000):=by
 have c:=near n
 have r:=Hf h0 h1 c.1 c.2
 exact Gd r.1 r.2
theorem Md {C:Int→Rat} (h:fH C) (near:lf C) {n y m:Int} (hy:kaV (C n)/12-1955880000-3179=y) (hm:kaV (C n)%12+1=m):fsD C (ed y m).floor =fsD C n:=by
 refine I4 h ?_
 rw[C3 near]
 omega
theorem DJ {C:Int→Rat} (h:fH C) (near:lf C) (y m:Int):kaV (C (fsD C (ed y m).floor))=12*(1955880000+y+3179)+(m-1)∧kaV (C (fsD C (ed y m).floor - 1))=12*(1955880000+y+3179)+(m-1)-1∧fsD C (ed y m).floor ≤(ed y m).floor ∧(ed y m).floor ≤fsD C (ed y m).floor +31:=by
 have s:=pw h (ed y m).floor
 rw[C3 near] at s
 exact⟨s.2.2.1,s.2.2.2,s.1,s.2.1⟩
def fR (s:Int):Rat:=pyr*(((s:Int):Rat)/((12:Int):Rat))+((-1132959:Int):Rat)
theorem yA (s:Int):cm (fR s)=30*(((s+23470560000:Int)):Rat)-dG (fR s):=by
 have e:bv (fR s) pyr=((s:Int):Rat)/((12:Int):Rat)+((1955880000:Int):Rat):=by
  rw[←q8]
  unfold bv fR kli
  have:=iS
  grind
 unfold cm
 rw[e,show((360:Int):Rat)=360 from rfl,show((12:Int):Rat)=12 from rfl,Rat.intCast_add,show((1955880000:Int):Rat)=1955880000 from rfl,show((23470560000:Int):Rat)=23470560000 from rfl]
 grind
theorem LA {C:Int→Rat} (near:lf C) (s:Int):kaV (C ((fR s).floor - 7))<s+23470560000:=by
 have f0:=eN (fR s)
 have c:=(near ((fR s).floor - 7)).2
 have u:=yA s
 have n:=cP (gQ (fR s))
 rw[show((22:Int):Rat)/((10:Int):Rat)=22/10 by decide+kernel] at n
 rw[Rat.intCast_sub,show((7:Int):Rat)=7 from rfl] at c
 have a:=dK (t:=C ((fR s).floor - 7)) (u:=fR s) (by grind)
 exact j8 (by grind)
theorem KP {C:Int→Rat} (near:lf C) (s:Int):s+23470560000≤kaV (C ((fR s).floor +7)):=by
 have f0:=fD (fR s)
 have c:=(near ((fR s).floor +7)).1
 have u:=yA s
 have n:=cP (gQ (fR s))
 rw[show((22:Int):Rat)/((10:Int):Rat)=22/10 by decide+kernel] at n
 rw[Rat.intCast_add,show((7:Int):Rat)=7 from rfl] at c
 have a:=dK (t:=fR s) (u:=C ((fR s).floor +7)) (by grind)
 exact iZ (by grind)
noncomputable def foD (C:Int→Rat) (y m:Int):Int:=fsD C (ed y m).floor
theorem Nw {C:Int→Rat} (h:fH C) (near:lf C) (y m:Int):kaV (C (foD C y m))=12*(1955880000+y+3179)+(m-1)∧kaV (C (foD C y m-1))=12*(1955880000+y+3179)+(m-1)-1:=by
 have s:=DJ h near y m
 exact⟨s.1,s.2.1⟩
theorem wB {C:Int→Rat} (h:fH C) (near:lf C) (y m n:Int):12*(y+3179)+(m-1)+23470560000≤kaV (C n)↔foD C y m≤n:=by
 have s:=Nw h near y m
 constructor
 ·intro e
  refine Int.not_lt.1 fun q=>?_
  have:=sL h (m:=n) (n:=foD C y m-1) (by omega)
  omega
 ·intro e
  have:=sL h e
  omega
theorem Lm {C:Int→Rat} (h:fH C) (near:lf C) (y m:Int):(fR (12*(y+3179)+(m-1))).floor - 6≤foD C y m∧foD C y m≤(fR (12*(y+3179)+(m-1))).floor +7:=by
 have a:=LA near (12*(y+3179)+(m-1))
 have b:=(wB h near y m _).1 (KP near (12*(y+3179)+(m-1)))
 refine⟨Int.not_lt.1 fun q=>?_,b⟩
 have:=(wB h near y m ((fR (12*(y+3179)+(m-1))).floor - 7)).2 (by omega)
 omega
theorem KE {C:Int→Rat} (h:fH C) (near:lf C) (n:Int):foD C (kaV (C n)/12-1955880000-3179) (kaV (C n)%12+1)=fsD C n:=Md h near rfl rfl
def cW (r n a b c d:Int):Rat:=oB r (((a:Int):Rat)/((b:Int):Rat)) (((c:Int):Rat)/((d:Int):Rat)) n
def jf (r a b c d:Int):Int→Rat:=oB r (((a:Int):Rat)/((b:Int):Rat)) (((c:Int):Rat)/((d:Int):Rat))
theorem uA (r:Int) {a b c d:Int} (h:cf a b c d):fH (jf r a b c d):=Mj r _ h.la.1 h.la.2
theorem ko (r:Int) {a b c d:Int} (h:cf a b c d):lf (jf r a b c d):=DT h.la.1 h.la.2 h.lo.1 h.lo.2
theorem GQ {r n a b c d:Int} (h:r=0):bX (dN (n+1) a b c d)=cW r n a b c d:=by subst h;rfl
theorem Ga {r n a b c d:Int} (h:r=1):bX (jl n a b c d)=cW r n a b c d:=by subst h;rfl
theorem GS {r n a b c d:Int} (h:r=2) {x:Rat} (e:x=mlV (bX (dN n a b c d)) (bX (jl n a b c d))):bX x=cW r n a b c d:=by subst h;rw[e];rfl
theorem NF (a b:Rat):a+(b-a)*(((3:Int):Rat)/((5:Int):Rat))=mlV a b:=by
 unfold mlV
 rw[show((3:Int):Rat)/((5:Int):Rat)=3/5 by decide+kernel]
 grind
theorem Gr {r n a b c d:Int} (h0:r≠0) (h1:r≠1) (h2:r≠2):(((n+1:Int)):Rat)=cW r n a b c d:=by
 unfold cW oB
 rw[if_neg h0,if_neg h1,if_neg h2]
theorem uF {r n a b c d:Int} (h:cf a b c d) (h0: -3900000≤n) (h1:n≤3900000):ah (cW r n a b c d) 3:=by
 by_cases r0:r=0
 ·rw[←GQ r0];exact gj h (by omega) (by omega)
 by_cases r1:r=1
 ·rw[←Ga r1];exact nD h (by omega) (by omega)
 by_cases r2:r=2
 ·have x:=vd (n:=n) h
  have y:=vK (n:=n) h
  have gx:=cS (dN n a b c d)
  have gy:=cS (jl n a b c d)
  have e:=iP ((n:Int):Rat) (qd:=1) (sg:=1) (.inl ⟨rfl,rfl⟩) h.la.1 h.la.2 h.lo.1 h.lo.2
  have f:=iP ((n:Int):Rat) (qd:=3) (sg:= -1) (.inr ⟨rfl,rfl⟩) h.la.1 h.la.2 h.lo.1 h.lo.2
  rw[←GS r2 rfl]
  refine nb (n:=n) (by omega) (by omega) ?_ ?_ <;> (unfold mlV;unfold dN jl at*;grind)
 ·rw[←Gr r0 r1 r2];exact(lW (n:=n+1) (by omega)).up _ (by omega)
theorem G0 (r:Int) {n a b c d:Int} (h:cf a b c d) (h0: -3900000≤n) (h1:n≤3900000):12*(1955880000+3179-11000)≤kaV (cW r n a b c d)∧kaV (cW r n a b c d)<12*(1955880000+3179+11000):=Nj (ko r h) (by omega) (by omega)
def ckE (r a b c d:Int):Int:=if 0≤r∧r≤3 then plE a b c d else 6
theorem MM {a b c d:Int} (h:plE a b c d=0):cf a b c d:=by
 unfold plE at h
 split at h
 ·rename_i k
  have x:=Cx k.1
  have y:=Cx k.2
  exact⟨x.1,x.2.1,x.2.2.1,x.2.2.2,y.1,y.2.1,y.2.2.1,y.2.2.2⟩
 ·cases h
theorem Gu {a b c d:Int} (h:cf a b c d):plE a b c d=0:=by unfold plE;rw[if_pos ⟨decide_eq_true ⟨h.b0,h.b1,h.a0,h.a1⟩,decide_eq_true ⟨h.d0,h.d1,h.c0,h.c1⟩⟩]
theorem Od (a b c d:Int):plE a b c d=0∨plE a b c d=2:=by unfold plE;split <;> simp
theorem KL {r a b c d:Int} (h0:0≤r) (h1:r≤3) (h:cf a b c d):ckE r a b c d=0:=by unfold ckE;rw[if_pos ⟨h0,h1⟩];exact Gu h
theorem K3 {r y m bg a b c d:Int} (hok:cf a b c d) (h:Int):decide (12*(y+3179)+(m-1)≤kaV (cW r (bg+h) a b c d)-23470560000)=true↔foD (jf r a b c d) y m-bg≤h:=by
 have e:12*(y+3179)+(m-1)+23470560000≤kaV (cW r (bg+h) a b c d)↔foD (jf r a b c d) y m≤bg+h:=wB (uA r hok) (ko r hok) y m (bg+h)
 rw[decide_eq_true_iff]
 constructor
 ·intro x;have:=e.1 (by omega);omega
 ·intro x;have:=e.2 (by omega);omega
theorem LJ {t:Rat} (h0: -3000002≤t) (h1:t≤3000004):12*(1955880000-5200)≤kaV t∧kaV t<12*(1955880000+11400):=by
 have n:=cP (gQ t)
 rw[show((22:Int):Rat)/((10:Int):Rat)=22/10 by decide+kernel] at n
 have p:=iS
 have a:(-3000002-cre)/pyr≤bv t pyr:=by
  unfold bv
  exact Rat.not_lt.1 fun q=>by rw[Rat.div_lt_iff p,Rat.div_mul_cancel (by grind)] at q;grind
 have b:bv t pyr≤(3000004-cre)/pyr:=by
  unfold bv
  exact Rat.not_lt.1 fun q=>by rw[Rat.div_lt_iff p,Rat.div_mul_cancel (by grind)] at q;grind
 have a2:1955880000-5199≤(-3000002-cre)/pyr:=by decide+kernel
 have b2:(3000004-cre)/pyr≤1955880000+11399:=by decide+kernel
 constructor
 ·refine iZ ?_
  unfold cm
  rw[show((360:Int):Rat)=360 from rfl,show((12*(1955880000-5200):Int):Rat)=12*(1955880000-5200) by decide+kernel]
  grind
 ·refine j8 ?_
  unfold cm
  rw[show((360:Int):Rat)=360 from rfl,show((12*(1955880000+11400):Int):Rat)=12*(1955880000+11400) by decide+kernel]
  grind
theorem Ka (r:Int) {n a b c d:Int} (h:cf a b c d) (h0: -3000001≤n) (h1:n≤3000001):12*(1955880000-5200)≤kaV (cW r n a b c d)∧kaV (cW r n a b c d)<12*(1955880000+11400):=by
 have k:=ko r h n
 have c0:=Rat.intCast_le_intCast.2 h0
 have c1:=Rat.intCast_le_intCast.2 h1
 rw[show((-3000001:Int):Rat)= -3000001 from rfl] at c0
 rw[show((3000001:Int):Rat)=3000001 from rfl] at c1
 exact LJ (t:=cW r n a b c d) (show _≤jf r a b c d n by grind) (show jf r a b c d n≤_ by grind)
def dq (X j:Nat):Nat:=X/65536^j
def dg6 (X j:Nat):Nat:=X/65536^j%65536
theorem yZ (X:Nat):dq X 0=X:=by unfold dq;rw[Nat.pow_zero,Nat.div_one]
theorem Ib (X j:Nat):65536*dq X (j+1)+dg6 X j=dq X j:=by
 unfold dq dg6
 rw[Nat.pow_succ,←Nat.div_div_eq_div_mul]
 exact Nat.div_add_mod _ _
theorem GW (X j:Nat):dq X j≤X:=Nat.div_le_self _ _
theorem KJ (X:Nat):dq X (dl 65536 X)=0:=Nat.div_eq_of_lt (iE (by decide) X)
theorem Jj {w:World} {ad:Option Addr} {n c X j:Nat} (h:Dg w .i64 65536 (.slice ad n c) X) (hj:j<n):∃b off,ad=some ⟨b,off,none⟩∧w.cell? ⟨b,off+j,none⟩=some (.int .i64 ((dg6 X j:Nat):Int)):=by
 obtain⟨ad',cap,h1,hr,_⟩:=h
 injection h1 with e1 e2 e3
 subst e1
 obtain⟨b,off,e,_,hc⟩:=hr.cell j (by omega)
 rw[uz (by decide)] at hc
 exact⟨b,off,e,hc⟩
theorem Jr {w:World} {b off n c j:Nat} {i:Int} (hi:i=(j:Int)) (hn:j<n):(Instr.indexAt 34 (.slice (some ⟨b,off,none⟩) n c) (.int .i64 i)).run Tryz.prog w= .ok (.pointer (some ⟨b,off+j,none⟩)) w:=by
 subst hi
 simp[Instr.indexAt,asIntOf,run_underlying Tryz.underlying34,Sem.run_bind,Addr.add_mid]
 intro e;omega
theorem FL {X:Nat} {i n:Int} (h:n=((dq X (i+1).toNat :Nat):Int)):0≤n∧n≤((X:Nat):Int)∧(0≤i→0≤65536*n∧65536*n≤((X:Nat):Int)∧65536*n+((dg6 X i.toNat:Nat):Int)=((dq X (i-1+1).toNat :Nat):Int)∧65536*n+((dg6 X i.toNat:Nat):Int)≤((X:Nat):Int)):=by
 have a:=GW X (i+1).toNat
 subst h
 refine⟨by omega,by omega,fun h0=>?_⟩
 have e:=Ib X i.toNat
 have f:=GW X i.toNat
 rw[show(i+1).toNat =i.toNat+1 by omega,show(i-1+1).toNat =i.toNat by omega]
 omega
theorem xz (v1:Value) (z1:Int) (w:World) (h1:Rz w v1 z1) (h0: -4611686018427387904≤z1) (hs:z1≤4611686018427387904):
 Calls Tryz.prog 130 #[v1] w (aG w (.int .i64 z1)):=by
 obtain⟨b1,ad1,n1,c1,rfl⟩:=h1.form
 have ha1:=h1.abs
 have hb1:=h1.neg
 have hbt:b1=true↔z1<0:=by rw[hb1];exact decide_eq_true_iff
 clear hb1
 have hl1:n1=dl 65536 (Int.natAbs z1):=ha1.len
 have hl4:n1≤4:=by rw[hl1];exact fj (by decide) (by rw[show(65536:Nat)^4=18446744073709551616 from rfl];omega)
 have st:=St.start w
 refine go1 (nt:=26) Tryz.func130 rfl rfl rfl fun a hF=>?_
 refine wq ?_
 refine bx st hF 0 rfl rfl fun g1 w1 a st hF=>?_
 refine oC hF rfl fun a hF=>nq ?_
 refine oC hF rfl fun a hF=>ns ?_
 refine wq ?_
 refine oV hF (av hF.q (bZ (p:=1) rfl)) rfl fun a hF=>oV hF (au hF.o (cn (v:= .slice ad1 n1 c1) (st.b 0 rfl rfl) rfl)) rfl fun a hF=>oV hF (bI (aD hF.o) jj) rfl fun a hF=>oV hF (aq hF.o ar ab (bN (by omega) (by omega))) rfl fun a hF=>oA hF 0 rfl rfl fun a hF=>?_
 refine E.nil ?_
 refine wp_block ?_
 refine E.loop (fun mq a wv=>∃(i:Int) (n:Int), -1≤i∧i<((n1:Nat):Int)∧n=((dq (Int.natAbs z1) (i+1).toNat :Nat):Int)∧Fr 26 a [(4,.int .i64 i),(3,.int .i64 n),(2,.int .i64 0),(1,.pointer (some ⟨g1,0,none⟩))]∧St w wv [(g1,[.bool b1,.slice ad1 n1 c1])] []∧mq=(i+1:Int).toNat) (((((n1:Nat):Int)-1)+1:Int).toNat) ?_ ?_
 ·exact⟨(((n1:Nat):Int)-1:Int),(0:Int),(by omega),(by omega),(by rw[show(((n1:Nat):Int)-1+1).toNat =dl 65536 (Int.natAbs z1) by omega,KJ];rfl),Fr.pick (L':=[(4,.int .i64 (((n1:Nat):Int)-1)),(3,.int .i64 0),(2,.int .i64 0),(1,.pointer (some ⟨g1,0,none⟩))]) hF [0,5,6,7] rfl,st.pick [0] [] rfl rfl (by decide),rfl⟩
 ·rintro mq a w2 ⟨i,n,hi0,hi1,hn,hF,st,hm⟩
  have hsm:=FL hn
  refine wp_seq ?_
  refine wq ?_
  refine oM hF 0 rfl rfl fun a hF=>?_
  by_cases hc3:0≤i
  ·refine oT hF 0 (cJ (c:=true) (aL hc3)) rfl rfl fun a hF=>?_
   refine E.nil ?_
   refine wp_cond_true hF.o ?_
   refine wp_skip ?_
   refine E.norm ?_
   refine wp_seq ?_
   refine wp_block ?_
   refine E.seq ?_
   refine oM hF 3 rfl rfl fun a hF=>oV hF (aq ar hF.o ab (eL (by omega) (by omega))) rfl fun a hF=>oV hF (av (hF.at 7 rfl) (bZ (p:=1) rfl)) rfl fun a hF=>oV hF (au hF.o (cn (v:= .slice ad1 n1 c1) (st.b 0 rfl rfl) rfl)) rfl fun a hF=>oM hF 6 rfl rfl fun a hF=>?_
   obtain⟨gr,og,hag,hcl⟩:=Jj (j:=(i).toNat) (ha1.below st.bel) (by omega)
   refine oV hF (eI hF.p hF.o (by rw[hag];exact Jr (j:=(i).toNat) (by omega) (by omega))) rfl fun a hF=>oV hF (au hF.o (s8 hcl)) rfl fun a hF=>oV hF (aq (hF.at 5 rfl) hF.o ab (bj (by omega) (by omega))) rfl fun a hF=>oE hF 0 rfl rfl fun a hF=>?_
   refine E.nil0 ?_
   refine E.blk ?_
   refine E.norm ?_
   refine E.seq ?_
   refine oM hF 11 rfl rfl fun a hF=>oV hF (aq hF.o ar ab (bN (by omega) (by omega))) rfl fun a hF=>oE hF 0 rfl rfl fun a hF=>?_
   refine E.nil0 ?_
   refine E.norm ?_
   exact⟨((i-1)+1:Int).toNat,by omega,⟨(i-1:Int),((65536*n)+((dg6 (Int.natAbs z1) (i).toNat :Nat):Int):Int),(by omega),(by omega),(hsm.2.2 (by omega)).2.2.1,Fr.pick (L':=[(4,.int .i64 (i-1)),(3,.int .i64 ((65536*n)+((dg6 (Int.natAbs z1) (i).toNat :Nat):Int))),(2,.int .i64 0),(1,.pointer (some ⟨g1,0,none⟩))]) hF [0,3,14,15] rfl,st.pick [0] [] rfl rfl (by decide),rfl⟩⟩
  ·refine oT hF 0 (cJ (c:=false) (aV hc3)) rfl rfl fun a hF=>?_
   refine E.nil ?_
   refine wp_cond_false hF.o ?_
   refine wp_exit ?_
   refine E.past ?_
   refine E.past ?_
   refine E.out (id:=0) ?_
   refine E.norm ?_
   refine wp_seq ?_
   refine wq ?_
   refine oV hF (av (hF.at 5 rfl) (dS (p:=0) rfl)) rfl fun a hF=>oV hF (au hF.o (bR (v:= .bool b1) (st.b 0 rfl rfl) rfl)) rfl fun a hF=>?_
   refine E.nil ?_
   by_cases hc4:b1=true
   ·refine wp_cond_true (Eq.trans hF.o (congrArg Value.bool hc4)) ?_
    refine wq ?_
    refine oM hF 5 rfl rfl fun a hF=>oV hF (cF hF.o (rI (by omega) (by omega))) rfl fun a hF=>oE hF 0 rfl rfl fun a hF=>nr ?_
    have bel:=st.bel
    refine rt Tryz.results130 hF 0 rfl ?_
    have hz:=hbt.1 hc4
    rw[show(i+1).toNat =0 by omega,yZ] at hn
    refine⟨bS ?_,bel⟩
    omega
   ·refine wp_cond_false (Eq.trans hF.o (congrArg Value.bool (eq_false_of_ne_true hc4))) ?_
    refine wp_skip ?_
    refine E.norm ?_
    refine wq ?_
    refine oM hF 5 rfl rfl fun a hF=>oE hF 0 rfl rfl fun a hF=>nr ?_
    have bel:=st.bel
    refine rt Tryz.results130 hF 0 rfl ?_
    have hz:¬z1<0:=fun e=>hc4 (hbt.2 e)
    rw[show(i+1).toNat =0 by omega,yZ] at hn
    refine⟨bS ?_,bel⟩
    omega
theorem lH (v1:Value) (q1:Rat) (k:Nat) (w:World) (h1:Rr w v1 q1 k) (hp:1≤k) (hk:k≤4990) (hf0: -4611686018427387904≤Rat.floor q1) (hf1:Rat.floor q1≤4611686018427387904):
 Calls Tryz.prog 74 #[v1] w (aG w (.int .i64 (Rat.floor q1))):=by
 have rl1:=h1.rlim
 obtain⟨r1,rfl⟩:=h1.fo
 have st:=St.start w
 refine go1 (nt:=6) Tryz.func74 rfl rfl rfl fun a hF=>?_
 refine wq ?_
 refine bx st hF 0 rfl rfl fun g1 w1 a st hF=>?_
 refine oC hF rfl fun a hF=>nq ?_
 refine oL hF st 1 0 ag rfl rfl rfl rfl fun a hF=>?_
 refine ca st hF (rk G5 (aD hF.o)) (ja _ (q1) k _ (h1.below st.bel) (by omega) (by omega)) (fun _ _ h=>h) Rz.cl rfl fun vv3 w2 a st hF=>?_
 obtain⟨b5,ad5,n5,c5,rfl⟩:=Rz.form (st.f 0 rfl)
 refine cX st hF (rk Mt (aD hF.o)) (xz _ (Rat.floor (q1)) _ (st.f 0 rfl) hf0 hf1) rfl fun w6 a st hF=>?_
 refine oE hF 0 rfl rfl fun a hF=>nr ?_
 have bel:=st.bel
 refine rt Tryz.results74 hF 0 rfl ?_
 exact⟨rfl,bel⟩
theorem KR:(Tryz.prog.info? 70).map (·.size)=some 3:=by kernel_rfl
theorem CD:(Tryz.prog.info? 70).bind (·.zero)=some (.agg #[.int .i64 0,.int .i64 0,.int .i64 0]):=by kernel_rfl
theorem wn {w:World} {g o p:Nat} (hp:o+0=p):(Instr.fieldAt 70 (.pointer (some ⟨g,o,none⟩)) 0).run Tryz.prog w= .ok (.pointer (some ⟨g,p,none⟩)) w:=br Tryz.underlying70 rfl rfl cM rfl p hp
theorem Ap (z00:Int) (z10:Int) (z20:Int) (w:World):(Instr.build 70 #[(0,.int .i64 z00),(1,.int .i64 z10),(2,.int .i64 z20)]).run Tryz.prog w= .ok (.agg #[.int .i64 z00,.int .i64 z10,.int .i64 z20]) w:=by
 have hz:=cI CD w
 have h_int:∀w,(sizeOf 3).run Tryz.prog w= .ok 1 w:=fun w=>bn fB w
 have h_i64:∀w,(sizeOf 2).run Tryz.prog w= .ok 1 w:=fun w=>bn cM w
 simp only [Instr.build,Sem.run_bind,hz,Result.andThen_ok,run_underlying Tryz.underlying70,List.mapM_toArray,List.mapM_cons,List.mapM_nil,Sem.run_map,h_i64,h_int,Sem.run_pure]
 rfl
theorem Mn:(Tryz.prog.info? 23).map (·.size)=some 4:=by kernel_rfl
theorem LU:(Tryz.prog.info? 23).bind (·.zero)=some (.agg #[.int .i64 0,.int .i64 0,.int .i64 0,.int .i64 0]):=by kernel_rfl
theorem FJ {w:World} {g o p:Nat} (hp:o+0=p):(Instr.fieldAt 23 (.pointer (some ⟨g,o,none⟩)) 0).run Tryz.prog w= .ok (.pointer (some ⟨g,p,none⟩)) w:=br Tryz.underlying23 rfl rfl cM rfl p hp
theorem Eo {w:World} {g o p:Nat} (hp:o+1=p):(Instr.fieldAt 23 (.pointer (some ⟨g,o,none⟩)) 1).run Tryz.prog w= .ok (.pointer (some ⟨g,p,none⟩)) w:=br Tryz.underlying23 rfl rfl cM rfl p hp
theorem EB {w:World} {g o p:Nat} (hp:o+2=p):(Instr.fieldAt 23 (.pointer (some ⟨g,o,none⟩)) 2).run Tryz.prog w= .ok (.pointer (some ⟨g,p,none⟩)) w:=br Tryz.underlying23 rfl rfl cM rfl p hp
theorem EZ {w:World} {g o p:Nat} (hp:o+3=p):(Instr.fieldAt 23 (.pointer (some ⟨g,o,none⟩)) 3).run Tryz.prog w= .ok (.pointer (some ⟨g,p,none⟩)) w:=br Tryz.underlying23 rfl rfl cM rfl p hp
theorem rU:Ty Tryz.prog 70 3 [.int .i64 0,.int .i64 0,.int .i64 0]:=⟨⟨_,Tryz.underlying70,rfl⟩,KR,CD⟩
theorem uV:Ty Tryz.prog 23 4 [.int .i64 0,.int .i64 0,.int .i64 0,.int .i64 0]:=⟨⟨_,Tryz.underlying23,rfl⟩,Mn,LU⟩
theorem ma (n:Int) (xa xb xc xd:Int) (v1:Value) (w:World) (ho:RPl w v1 (((xa:Int):Rat)/((xb:Int):Rat)) (((xc:Int):Rat)/((xd:Int):Rat)) 2) (hok:cf xa xb xc xd) (hn0: -4000000≤n) (hn1:n≤4000000):
 Calls Tryz.prog 36 #[.int .i64 n,v1] w (bW w (bX (dN n xa xb xc xd)) 120):=by
 obtain⟨bpx,adpx,npx,cpx,aepx,mpx,dpx,bpy,adpy,npy,cpy,aepy,mpy,dpy,rfl,hpx,hpy⟩:=RPl.shape ho
 have ho:RPl w (.agg #[.bool bpx,.slice adpx npx cpx,.slice aepx mpx dpx,.bool bpy,.slice adpy npy cpy,.slice aepy mpy dpy]) (((xa:Int):Rat)/((xb:Int):Rat)) (((xc:Int):Rat)/((xd:Int):Rat)) 2:=⟨_,_,_,_,_,_,_,_,_,_,_,_,_,_,rfl,hpx,hpy⟩
 have st:=St.start w
 refine go2 (nt:=9) Tryz.func36 rfl rfl rfl fun a hF=>?_
 refine wq ?_
 refine bx st hF 1 rfl rfl fun g3 w1 a st hF=>?_
 refine S.alloc st hF ag rfl rfl fun g4 w2 a st hF=>?_
 refine nq ?_
 refine oM hF 2 rfl rfl fun a hF=>oL hF st 2 1 gC rfl rfl rfl rfl fun a hF=>?_
 refine S.ck st hF (rgc k69 (aI hF.p hF.o)) (aJ (xL n _ ((((xa:Int):Rat)/((xb:Int):Rat))) _ _ (ho.below st.bel) (hok.ll.up 2 (by decide)) (hok.lm.up 2 (by decide)) (by omega) (by omega)) (tj (by first|assumption|constructor<;>omega) (by omega) (by omega))) Rh.cl rfl fun vv4 w3 a st hF=>?_
 obtain⟨r6,rfl⟩:=Rr.fo (st.f 0 rfl).1
 refine S.ck st hF (rgc k68 (aD hF.o)) (aJ (vu _ _ 3300 90 _ (st.f 0 rfl).1 (st.f 0 rfl).2 (by omega) (by omega) (by omega)) (tM (st.f 0 rfl).2)) Rh.cl rfl fun vv8 w7 a st hF=>?_
 obtain⟨r10,rfl⟩:=Rr.fo (st.f 0 rfl).1
 refine so st hF 0 4 0 ag rfl rfl rfl rfl fun w11 a st hF=>?_
 refine nr ?_
 refine rs Tryz.results36 st hF 4 0 ag rfl rfl rfl ?_
 have bel:=st.bel
 exact⟨_,rfl,Rr.cast (Rr.up (st.f 0 rfl).1 _ (by omega)) rfl,bel⟩
theorem Ac (v1:Value) (q1:Rat) (k:Nat) (n:Int) (w:World) (h1:Rr w v1 q1 k) (hp:1≤k) (hk:k≤4990) (e:Rat.floor q1=n) (hf0: -4611686018427387904≤n) (hf1:n≤4611686018427387904):Calls Tryz.prog 74 #[v1] w (aG w (.int .i64 n)):=by
 subst e
 exact lH v1 q1 k w h1 hp hk hf0 hf1
theorem oW (v1:Value) (q1:Rat) (k i:Nat) (w:World) (h1:Rr w v1 q1 k) (li1:ah q1 i) (hp:1≤k) (hk:k≤300) (hi:i≤3) (hk0: -1000000000000≤kaV q1) (hk1:kaV q1≤1000000000000):
 Calls Tryz.prog 70 #[v1] w (aG w (.int .i64 (kaV q1/12-1955880000))):=by
 obtain⟨r1,rfl⟩:=h1.fo
 have st:=St.start w
 refine go1 (nt:=18) Tryz.func70 rfl rfl rfl fun a hF=>?_
 refine wq ?_
 refine bx st hF 0 rfl rfl fun g1 w1 a st hF=>?_
 refine oC hF rfl fun a hF=>ns ?_
 refine E.rga 11 aF hF [4,5,6,7,8,9,10,11,12,13,3] [_,_,_,_,_,_,_,_,_,_,kn w1 [.bool false,.slice none 0 0,.slice none 0 0]] [10] ⟨fun _ _ ⟨g,e,_,o⟩=>⟨g,e,o.lt⟩,trivial⟩ (by decide+kernel) rfl rfl rfl ⟨rb st ag 1 0 rfl,ck st k71 rfl fun _ s=>aJ (bm ((-1132959)) _ (by decide) (by decide)) (bP (by decide) (by decide)),ck st k77 rfl fun _ s _ x5=>eB ⟨(h1.below s.bel),li1⟩ x5,ck st vT rfl fun _ s=>rV,ck st sF rfl fun _ s _ x6 _ x7=>pB x6 x7,rb st ag 1 0 rfl,ck st k79 rfl fun _ s=>zS ⟨(h1.below s.bel),li1⟩,ck st k71 rfl fun _ s=>aJ (bD (1) (360) _ (by decide) (by decide) (by decide) (by decide)) (ah.up (aK (ao (by decide) (by decide)) (ao (by decide) (by decide))) 2 (by decide)),ck st k75 rfl fun _ s _ x10 _ x11=>cD x10 x11,ck st k77 rfl fun _ s _ x8 _ x12=>eB x8 x12,ra ag rfl rfl,trivial⟩ ?_
 intro a w2 hF bb hall hne
 have s0:=st
 replace st:=st.to bb
 obtain⟨vv3,hF,st⟩:=rS hall hF st 9 rfl rfl Rh.cl
 obtain⟨r5,rfl⟩:=Rr.fo (st.f 0 rfl).1
 obtain⟨_,e3,g3,rfl,ge3,o3⟩:=sS hall 10 3 rfl rfl
 replace st:=st.push o3.blk (Nat.le_trans s0.bel.size ge3) (s0.ne ge3)
 clear o3
 replace hF:=hF.add e3
 clear hall bb hne s0
 refine so st hF 0 0 1 ag rfl rfl rfl rfl fun w6 a st hF=>?_
 refine ns ?_
 refine E.rg 4 aF hF [14,15,16,17] [_,_,_,_] (by decide+kernel) rfl rfl rfl ⟨rb st ag 0 0 rfl,ck st k71 rfl fun _ s=>aJ (bD (1) (2) _ (by decide) (by decide) (by decide) (by decide)) (ah.up (aK (ao (by decide) (by decide)) (ao (by decide) (by decide))) 2 (by decide)),ck st lV rfl fun _ s _ x15=>jJ (s.f 0 rfl) x15,ck st k74 rfl fun _ s _ x16=>a9 (Ac _ (((((q1)-((((-1132959):Int):Rat)))/(pyr))-((dz (q1))*(((1:Int):Rat)/((360:Int):Rat))))+(((1:Int):Rat)/((2:Int):Rat))) ((((k+2+1)+7)+((3*k+8*i+400)+2)+1)+2+1) _ _ x16.1 (by omega) (by omega) (BW q1) (by omega) (by omega)),trivial⟩ ?_
 intro a w7 hF bb hall
 replace st:=st.to bb
 replace hF:=rE hall hF 3 rfl rfl
 clear hall bb
 refine oE hF 0 rfl rfl fun a hF=>nr ?_
 have bel:=st.bel
 refine rt Tryz.results70 hF 0 rfl ?_
 exact⟨rfl,bel⟩
end Go.Proofs.YtdbiegfmgabicaaGreatDoor
