import Derived.Test.YtnljadejcfgmaaaGreatDoorKB36
namespace Go.Proofs.YtnljadejcfgmaaaGreatDoor
open Go.RowKit
set_option maxRecDepth 100000
set_option linter.unusedVariables false
set_option maxHeartbeats 8000000
theorem mJ {x m:Rat} (h:0<m):rmod x m=x-m*(((x/m).floor :Int):Rat):=by unfold rmod;rw[if_neg (by grind)]
theorem qQ (t:Rat) {lat:Rat} (lon:Rat) {qd sg:Int} (hq:qd=1∧sg=1∨qd=3∧sg= -1) (h0: -60≤lat) (h1:lat≤60):985/1000≤cg (t+((1:Int):Rat)) lat lon qd sg-cg t lat lon qd sg∧cg (t+((1:Int):Rat)) lat lon qd sg-cg t lat lon qd sg≤1015/1000:=by
 rcases hq with⟨rfl,rfl⟩|⟨rfl,rfl⟩
 ·exact zf t lon h0 h1
 have e:=dC (vK t)
 have d:=dC (tk t h0 h1)
 have s:=gn t
 have s':=gn (t+((1:Int):Rat))
 have k:=mO
 unfold cg
 rw[show((3:Int):Rat)/((4:Int):Rat)=3/4 by decide+kernel,show((-1:Int):Rat)= -1 from rfl,Rat.intCast_one] at*
 generalize eT (t+1) lat=d2 at*
 generalize eT t lat=d1 at*
 generalize ec (t+1)*fK (t+1)=s2 at*
 generalize ec t*fK t=s1 at*
 generalize fL (t+1)=e2 at*
 generalize fL t=e1 at*
 have m:=eI (a:=3/4*(111/100-87/100)+27/10) (b:=27703/10000000) (x:=(s2*(3/4)+ -1*d2)-(s1*(3/4)+ -1*d1)) (y:=kap) (by grind) (by grind) (by grind) (by grind) (by grind) k.2
 constructor <;> grind
theorem ri (t d:Rat) {lat:Rat} (lon:Rat) {qd sg:Int} (hq:qd=1∧sg=1∨qd=3∧sg= -1) (h0: -60≤lat) (h1:lat≤60):d-308/1000≤cg (t+d) lat lon qd sg-cg t lat lon qd sg:=by
 have e:=mp t
 have e':=mp (t+d)
 have g:=lh t h0 h1
 have g':=lh (t+d) h0 h1
 have s:=gn t
 have s':=gn (t+d)
 have k:=mO
 unfold cg
 generalize eT (t+d) lat=d2 at*
 generalize eT t lat=d1 at*
 generalize ec (t+d)*fK (t+d)=s2 at*
 generalize ec t*fK t=s1 at*
 generalize fL (t+d)=e2 at*
 generalize fL t=e1 at*
 rcases hq with⟨rfl,rfl⟩|⟨rfl,rfl⟩
 ·rw[show((1:Int):Rat)/((4:Int):Rat)=1/4 by decide+kernel,Rat.intCast_one] at*
  have m:=eI (a:=1/4*(111/100-87/100)+106) (b:=27703/10000000) (x:=(s2*(1/4)+1*d2)-(s1*(1/4)+1*d1)) (y:=kap) (by grind) (by grind) (by grind) (by grind) (by grind) k.2
  grind
 ·rw[show((3:Int):Rat)/((4:Int):Rat)=3/4 by decide+kernel,show((-1:Int):Rat)= -1 from rfl] at*
  have m:=eI (a:=3/4*(111/100-87/100)+106) (b:=27703/10000000) (x:=(s2*(3/4)+ -1*d2)-(s1*(3/4)+ -1*d1)) (y:=kap) (by grind) (by grind) (by grind) (by grind) (by grind) k.2
  grind
theorem EG {lon:Rat} (h0: -180≤lon) (h1:lon≤180): -(3/10)≤kr lon∧kr lon≤72/100:=by
 unfold kr
 rw[show((45461:Int):Rat)/((600:Int):Rat)=45461/600 by decide+kernel,show((1:Int):Rat)/((360:Int):Rat)=1/360 by decide+kernel]
 constructor <;> grind
theorem jd (t:Rat) {lat lon:Rat} {qd sg:Int} (hq:qd=1∧sg=1∨qd=3∧sg= -1) (h0: -60≤lat) (h1:lat≤60) (l0: -180≤lon) (l1:lon≤180):t-3/10≤cg t lat lon qd sg∧cg t lat lon qd sg≤t+17/10:=by
 have e:=mp t
 have g:=lh t h0 h1
 have s:=gn t
 have k:=mO
 have c:=EG l0 l1
 unfold cg
 generalize eT t lat=d1 at*
 generalize ec t*fK t=s1 at*
 generalize fL t=e1 at*
 rcases hq with⟨rfl,rfl⟩|⟨rfl,rfl⟩
 ·rw[show((1:Int):Rat)/((4:Int):Rat)=1/4 by decide+kernel,Rat.intCast_one] at*
  have m:=eI (a:=1/4*(111/100)+53) (b:=27703/10000000) (x:=s1*(1/4)+1*d1) (y:=kap) (by grind) (by grind) (by grind) (by grind) (by grind) k.2
  constructor <;> grind
 ·rw[show((3:Int):Rat)/((4:Int):Rat)=3/4 by decide+kernel,show((-1:Int):Rat)= -1 from rfl] at*
  have m:=eI (a:=3/4*(111/100)+53) (b:=27703/10000000) (x:=s1*(3/4)+ -1*d1) (y:=kap) (by grind) (by grind) (by grind) (by grind) (by grind) k.2
  constructor <;> grind
def riV (lat lon:Rat) (n:Int):Rat:=cz (cg ((n:Int):Rat) lat lon 1 1)
def seV (lat lon:Rat) (n:Int):Rat:=cz (cg ((n:Int):Rat) lat lon 3 (-1))
def mlV (a b:Rat):Rat:=a*(2/5)+b*(3/5)
def mN (r:Int) (lat lon:Rat) (n:Int):Rat:=if r=0 then riV lat lon (n+1) else if r=1 then seV lat lon n else if r=2 then cz (mlV (riV lat lon n) (seV lat lon n)) else(((n+1:Int)):Rat)
def dT (C:Int→Rat):Prop:=(∀n,983/1000≤C (n+1)-C n∧C (n+1)-C n≤1017/1000)∧(∀n,3169/100≤C (n+32)-C n)
theorem tK (n:Int):(((n+32:Int)):Rat)=((n:Int):Rat)+32:=by rw[Rat.intCast_add];rfl
theorem El {lat:Rat} (lon:Rat) (h0: -60≤lat) (h1:lat≤60) (n:Int):98499/100000≤riV lat lon (n+1)-riV lat lon n∧riV lat lon (n+1)-riV lat lon n≤101501/100000∧3169/100+1/1000≤riV lat lon (n+32)-riV lat lon n:=by
 have a:=qQ ((n:Int):Rat) (qd:=1) (sg:=1) lon (.inl ⟨rfl,rfl⟩) h0 h1
 have b:=ri ((n:Int):Rat) 32 (qd:=1) (sg:=1) lon (.inl ⟨rfl,rfl⟩) h0 h1
 unfold riV
 rw[lO,tK]
 rw[Rat.intCast_one] at a
 have g1:=cS (cg ((n:Int):Rat) lat lon 1 1)
 have g2:=cS (cg (((n:Int):Rat)+1) lat lon 1 1)
 have g3:=cS (cg (((n:Int):Rat)+32) lat lon 1 1)
 refine⟨?_,?_,?_⟩ <;> grind
theorem D0 {lat:Rat} (lon:Rat) (h0: -60≤lat) (h1:lat≤60) (n:Int):98499/100000≤seV lat lon (n+1)-seV lat lon n∧seV lat lon (n+1)-seV lat lon n≤101501/100000∧3169/100+1/1000≤seV lat lon (n+32)-seV lat lon n:=by
 have a:=qQ ((n:Int):Rat) (qd:=3) (sg:= -1) lon (.inr ⟨rfl,rfl⟩) h0 h1
 have b:=ri ((n:Int):Rat) 32 (qd:=3) (sg:= -1) lon (.inr ⟨rfl,rfl⟩) h0 h1
 unfold seV
 rw[lO,tK]
 rw[Rat.intCast_one] at a
 have g1:=cS (cg ((n:Int):Rat) lat lon 3 (-1))
 have g2:=cS (cg (((n:Int):Rat)+1) lat lon 3 (-1))
 have g3:=cS (cg (((n:Int):Rat)+32) lat lon 3 (-1))
 refine⟨?_,?_,?_⟩ <;> grind
theorem F5 (r:Int) {lat:Rat} (lon:Rat) (h0: -60≤lat) (h1:lat≤60):dT (mN r lat lon):=by
 have R:=El lon h0 h1
 have S:=D0 lon h0 h1
 unfold dT mN
 by_cases r0:r=0
 ·simp only [if_pos r0]
  refine⟨fun n=>?_,fun n=>?_⟩
  ·have:=R (n+1);constructor <;> grind
  ·have:=R (n+1);rw[show n+32+1=n+1+32 by omega];grind
 simp only [if_neg r0]
 by_cases r1:r=1
 ·simp only [if_pos r1]
  refine⟨fun n=>?_,fun n=>?_⟩
  ·have:=S n;constructor <;> grind
  ·have:=S n;grind
 simp only [if_neg r1]
 by_cases r2:r=2
 ·simp only [if_pos r2]
  refine⟨fun n=>?_,fun n=>?_⟩
  ·have a:=R n
   have b:=S n
   have g:=cS (mlV (riV lat lon n) (seV lat lon n))
   have g':=cS (mlV (riV lat lon (n+1)) (seV lat lon (n+1)))
   unfold mlV at*
   constructor <;> grind
  ·have a:=R n
   have b:=S n
   have g:=cS (mlV (riV lat lon n) (seV lat lon n))
   have g':=cS (mlV (riV lat lon (n+32)) (seV lat lon (n+32)))
   unfold mlV at*
   grind
 simp only [if_neg r2]
 refine⟨fun n=>?_,fun n=>?_⟩
 ·rw[lO (n+1)];constructor <;> grind
 ·rw[show n+32+1=n+1+32 by omega,tK];grind
theorem Av {r:Int} {lat lon:Rat} (h0: -60≤lat) (h1:lat≤60) (l0: -180≤lon) (l1:lon≤180) (n:Int):((n:Int):Rat)-4/10≤mN r lat lon n∧mN r lat lon n≤((n:Int):Rat)+3:=by
 have a:=jd ((n:Int):Rat) (qd:=1) (sg:=1) (.inl ⟨rfl,rfl⟩) h0 h1 l0 l1
 have a':=jd ((((n+1:Int)):Rat)) (qd:=1) (sg:=1) (.inl ⟨rfl,rfl⟩) h0 h1 l0 l1
 have b:=jd ((n:Int):Rat) (qd:=3) (sg:= -1) (.inr ⟨rfl,rfl⟩) h0 h1 l0 l1
 have ga:=cS (cg ((n:Int):Rat) lat lon 1 1)
 have ga':=cS (cg ((((n+1:Int)):Rat)) lat lon 1 1)
 have gb:=cS (cg ((n:Int):Rat) lat lon 3 (-1))
 have gm:=cS (mlV (riV lat lon n) (seV lat lon n))
 have d:=lO n
 unfold mN
 split
 ·unfold riV;constructor <;> grind
 ·split
  ·unfold seV;constructor <;> grind
  ·split
   ·unfold mlV riV seV at*;constructor <;> grind
   ·constructor <;> grind
def kaV (t:Rat):Int:=(bO t*(1/30)).floor
theorem iX (t:Rat):30*((kaV t:Int):Rat)≤bO t∧bO t<30*((kaV t:Int):Rat)+30:=by
 have a:=gi (bO t*(1/30))
 have b:=gI (bO t*(1/30))
 unfold kaV
 constructor <;> grind
theorem nz {t:Rat} {k:Int} (h:30*((k:Int):Rat)≤bO t):k≤kaV t:=Rat.le_floor_iff.2 (by grind)
theorem nE {t:Rat} {k:Int} (h:bO t<30*((k:Int):Rat)):kaV t<k:=Rat.floor_lt_iff.2 (by grind)
theorem vM (t:Rat):prt (cT t) 12=kaV t%12:=by
 rw[sr,zL (by decide),show((12:Int):Rat)/((360:Int):Rat)=1/30 by decide+kernel]
 rfl
def Ah (t:Rat):Rat:=(t-kli)/pyr-cT t*(((1:Int):Rat)/((360:Int):Rat))
def FP (t:Rat):Int:=(Ah t+((1:Int):Rat)/((2:Int):Rat)).floor
theorem oT:(kli-cre)/pyr=((1955880000:Int):Rat):=by decide+kernel
theorem uz (t:Rat):(bO t/((360:Int):Rat)).floor =kaV t/12:=by
 have k:=iX t
 have e:=Int.mul_ediv_add_emod (kaV t) 12
 have m0:=Int.emod_nonneg (kaV t) (b:=12) (by omega)
 have m1:=Int.emod_lt_of_pos (kaV t) (b:=12) (by omega)
 have q0:12*(kaV t/12)≤kaV t:=by omega
 have q1:kaV t≤12*(kaV t/12)+11:=by omega
 have c0:=Rat.intCast_le_intCast.2 q0
 have c1:=Rat.intCast_le_intCast.2 q1
 rw[Rat.intCast_add,Rat.intCast_mul] at c1
 rw[Rat.intCast_mul] at c0
 rw[show((12:Int):Rat)=12 from rfl] at c0 c1
 rw[show((11:Int):Rat)=11 from rfl] at c1
 have r:((360:Int):Rat)=360:=rfl
 have p:(0:Rat)<360:=by decide+kernel
 have a:kaV t/12≤(bO t/((360:Int):Rat)).floor :=Rat.le_floor_iff.2 (Rat.not_lt.1 fun h=>by rw[r,Rat.div_lt_iff p] at h;grind)
 have b:(bO t/((360:Int):Rat)).floor <kaV t/12+1:=Rat.floor_lt_iff.2 (by rw[r,Rat.div_lt_iff p,Rat.intCast_add,Rat.intCast_one];grind)
 omega
theorem xW (t:Rat):FP t=kaV t/12-1955880000:=by
 have n:=dC (ir t)
 rw[show((22:Int):Rat)/((10:Int):Rat)=22/10 by decide+kernel] at n
 have y:(t-kli)/pyr=bn t pyr-((1955880000:Int):Rat):=by
  rw[←oT]
  unfold bn
  have:=gR
  grind
 have x:Ah t=dt t/360+(((kaV t/12-1955880000:Int)):Rat):=by
  unfold Ah
  rw[y,sr,mJ (by decide+kernel),uz,Rat.intCast_sub]
  unfold bO
  rw[show((1:Int):Rat)/((360:Int):Rat)=1/360 by decide+kernel,show((360:Int):Rat)=360 from rfl]
  grind
 unfold FP
 rw[x,Rat.add_assoc,Rat.add_comm (((kaV t/12-1955880000:Int)):Rat),←Rat.add_assoc,Rat.floor_add_intCast]
 have f:(dt t/360+((1:Int):Rat)/((2:Int):Rat)).floor =0:=by
  rw[show((1:Int):Rat)/((2:Int):Rat)=1/2 by decide+kernel]
  have a:(0:Int)≤(dt t/360+1/2).floor :=Rat.le_floor_iff.2 (by rw[Rat.intCast_zero];grind)
  have b:(dt t/360+1/2).floor <1:=Rat.floor_lt_iff.2 (by rw[Rat.intCast_one];grind)
  omega
 rw[f]
 omega
theorem jH {t u:Rat} (h:t≤u):9471/10000*(u-t)≤bO u-bO t∧bO u-bO t≤10242/10000*(u-t):=by
 have:=B7 t (d:=u-t) (by grind)
 rw[show t+(u-t)=u by grind] at this
 exact this
theorem vJ {C:Int→Rat} (h:dT C) (n:Int):930/1000≤bO (C (n+1))-bO (C n)∧bO (C (n+1))-bO (C n)≤1042/1000:=by
 have c:=h.1 n
 have s:=jH (t:=C n) (u:=C (n+1)) (by grind)
 constructor <;> grind
theorem A4 {C:Int→Rat} (h:dT C) (n:Int) (k:Nat):930/1000*(((k:Int)):Rat)≤bO (C (n+k))-bO (C n)∧bO (C (n+k))-bO (C n)≤1042/1000*(((k:Int)):Rat):=by
 induction k with
 |zero=>rw[show n+((0:Nat):Int)=n by omega,show(((0:Nat):Int))=0 from rfl,Rat.intCast_zero];constructor <;> grind
 |succ k ih=>
  have s:=vJ h (n+k)
  rw[show n+(((k+1:Nat)):Int)=n+(k:Int)+1 by omega,show(((k+1:Nat)):Int)=(k:Int)+1 by omega,Rat.intCast_add,Rat.intCast_one]
  constructor <;> grind
theorem nv {C:Int→Rat} (h:dT C) {m n:Int} (l:m≤n):930/1000*(((n-m:Int)):Rat)≤bO (C n)-bO (C m)∧bO (C n)-bO (C m)≤1042/1000*(((n-m:Int)):Rat):=by
 have:=A4 h m (n-m).toNat
 rw[show m+(((n-m).toNat :Nat):Int)=n by omega,show(((n-m).toNat :Nat):Int)=n-m by omega] at this
 exact this
theorem GZ {C:Int→Rat} (h:dT C) (n:Int):30≤bO (C (n+32))-bO (C n):=by
 have c:=h.2 n
 have s:=jH (t:=C n) (u:=C (n+32)) (by grind)
 grind
theorem lH {C:Int→Rat} (h:dT C) {m n:Int} (l:m≤n):kaV (C m)≤kaV (C n):=by
 have s:=nv h l
 have b:=iX (C m)
 have e:(0:Rat)≤(((n-m:Int)):Rat):=Rat.intCast_nonneg.2 (by omega)
 exact nz (by grind)
theorem EI {C:Int→Rat} (h:dT C) (n:Int):kaV (C (n+1))=kaV (C n)∨kaV (C (n+1))=kaV (C n)+1:=by
 have a:=lH h (m:=n) (n:=n+1) (by omega)
 have s:=vJ h n
 have b:=iX (C n)
 have c:kaV (C (n+1))<kaV (C n)+2:=nE (by rw[Rat.intCast_add,show((2:Int):Rat)=2 from rfl];grind)
 omega
theorem IY {C:Int→Rat} (h:dT C) (n:Int):kaV (C n)+1≤kaV (C (n+32)):=by
 have s:=GZ h n
 have b:=iX (C n)
 exact nz (by rw[Rat.intCast_add,Rat.intCast_one];grind)
theorem Hj {C:Int→Rat} (h:dT C) {m n:Int} (l:m≤n) (g:n≤m+100):kaV (C n)≤kaV (C m)+4:=by
 have s:=(nv h l).2
 have e:(((n-m:Int)):Rat)≤100:=by rw[show(100:Rat)=((100:Int):Rat) from rfl];exact Rat.intCast_le_intCast.2 (by omega)
 have b:=iX (C m)
 have c:kaV (C n)<kaV (C m)+5:=nE (by rw[Rat.intCast_add,show((5:Int):Rat)=5 from rfl];grind)
 omega
theorem sJ {C:Int→Rat} (h:dT C) (n:Int):∃f,f≤n∧n≤f+31∧kaV (C f)=kaV (C n)∧kaV (C (f-1))=kaV (C n)-1:=by
 have go:∀i:Nat,i≤32→(∃f,f≤n∧n≤f+31∧kaV (C f)=kaV (C n)∧kaV (C (f-1))=kaV (C n)-1)∨kaV (C (n-i))=kaV (C n):=by
  intro i
  induction i with
  |zero=>intro _;right;rw[show n-((0:Nat):Int)=n by omega]
  |succ i ih=>
   intro hi
   rcases ih (by omega) with e|e
   ·exact .inl e
   ·rcases EI h (n-i-1) with s|s
    ·right;rw[show n-(((i+1:Nat)):Int)=n-i-1 by omega,←s,show n-(i:Int)-1+1=n-i by omega];exact e
    ·left
     rw[show n-(i:Int)-1+1=n-i by omega] at s
     exact⟨n-i,by omega,by omega,e,by omega⟩
 rcases go 32 (by omega) with e|e
 ·exact e
 ·exfalso
  have:=IY h (n-32)
  rw[show n-32+32=n by omega] at this
  rw[show n-((32:Nat):Int)=n-32 by omega] at e
  omega
noncomputable def fsD (C:Int→Rat) (n:Int):Int:= @dite _ (dT C) (Classical.propDecidable _) (fun h=>Classical.choose (sJ h n)) (fun _=>n)
theorem eE {C:Int→Rat} (h:dT C) (n:Int):fsD C n≤n∧n≤fsD C n+31∧kaV (C (fsD C n))=kaV (C n)∧kaV (C (fsD C n-1))=kaV (C n)-1:=by
 unfold fsD
 rw[dif_pos h]
 exact Classical.choose_spec (sJ h n)
theorem Hq {C:Int→Rat} (h:dT C) {n f:Int} (e:kaV (C f)=kaV (C n)) (g:kaV (C (f-1))≠kaV (C n)):f=fsD C n:=by
 have s:=eE h n
 rcases Int.lt_trichotomy f (fsD C n) with l|l|l
 ·have:=lH h (m:=f) (n:=fsD C n-1) (by omega)
  omega
 ·exact l
 ·have a:=lH h (m:=fsD C n) (n:=f-1) (by omega)
  have b:=lH h (m:=f-1) (n:=f) (by omega)
  omega
theorem De {C:Int→Rat} (h:dT C) {m n:Int} (e:kaV (C m)=kaV (C n)):fsD C m=fsD C n:=by
 have s:=eE h m
 exact Hq h (by omega) (by omega)
def fZ (t:Rat):Rat:=rmod (cT t) ((30:Int):Rat)
theorem yz (t:Rat):fZ t=bO t-30*((kaV t:Int):Rat):=by
 unfold fZ
 rw[mJ (by decide+kernel),sr,mJ (by decide+kernel)]
 have k:=iX t
 have r:((360:Int):Rat)=360:=rfl
 have r30:((30:Int):Rat)=30:=rfl
 have y:=uz t
 rw[y]
 have e:((bO t-((360:Int):Rat)*(((kaV t/12:Int)):Rat))/((30:Int):Rat)).floor =kaV t-12*(kaV t/12):=by
  have x:(bO t-((360:Int):Rat)*(((kaV t/12:Int)):Rat))/((30:Int):Rat)=bO t*(1/30)+(((-(12*(kaV t/12)):Int)):Rat):=by
   rw[r,r30,Rat.intCast_neg,Rat.intCast_mul,show((12:Int):Rat)=12 from rfl]
   grind
  rw[x,Rat.floor_add_intCast]
  unfold kaV
  omega
 rw[e,Rat.intCast_sub,Rat.intCast_mul,show((12:Int):Rat)=12 from rfl,r,r30]
 grind
theorem zP {C:Int→Rat} (h:dT C) (n:Int):fsD C n-7≤n-(fZ (C n)).floor ∧n-(fZ (C n)).floor ≤fsD C n+7:=by
 have s:=eE h n
 have a:=nv h s.1
 have b:=nv h (m:=fsD C n-1) (n:=n) (by omega)
 have k:=iX (C (fsD C n))
 have k1:=iX (C (fsD C n-1))
 rw[s.2.2.1] at k
 rw[s.2.2.2,Rat.intCast_sub,Rat.intCast_one] at k1
 have L:=yz (C n)
 have kn:=iX (C n)
 have f0:=gi (fZ (C n))
 have f1:=gI (fZ (C n))
 rw[Rat.intCast_sub] at a b
 rw[Rat.intCast_sub,Rat.intCast_one] at b
 generalize (fZ (C n)).floor =l at*
 constructor
 ·refine Int.not_lt.1 fun q=>?_
  have q2:=Rat.intCast_le_intCast.2 (show n-l+1≤fsD C n-7 by omega)
  rw[Rat.intCast_add,Rat.intCast_sub,Rat.intCast_sub,Rat.intCast_one,show((7:Int):Rat)=7 from rfl] at q2
  grind
 ·refine Int.not_lt.1 fun q=>?_
  have q2:=Rat.intCast_le_intCast.2 (show fsD C n+7+1≤n-l by omega)
  rw[Rat.intCast_add,Rat.intCast_add,Rat.intCast_sub,Rat.intCast_one,show((7:Int):Rat)=7 from rfl] at q2
  grind
def cw (y m:Int):Rat:=((24*(y+3179)+2*m-1:Int):Rat)/((24:Int):Rat)*pyr+((-1132959:Int):Rat)
theorem Er (y m:Int):bO (cw y m)=360*(((1955880000+y+3179:Int)):Rat)+30*(((m-1:Int)):Rat)+15-dt (cw y m):=by
 have e:bn (cw y m) pyr=((24*(y+3179)+2*m-1:Int):Rat)/((24:Int):Rat)+((1955880000:Int):Rat):=by
  rw[←oT]
  unfold bn cw kli
  have:=gR
  grind
 unfold bO
 rw[e,show((360:Int):Rat)=360 from rfl,show((24:Int):Rat)=24 from rfl]
 simp only [Rat.intCast_add,Rat.intCast_sub,Rat.intCast_mul,Rat.intCast_one]
 rw[show((24:Int):Rat)=24 from rfl,show((2:Int):Rat)=2 from rfl]
 grind
theorem xM {C:Int→Rat} (near:∀n:Int,((n:Int):Rat)-4/10≤C n∧C n≤((n:Int):Rat)+3) (y m:Int):kaV (C (cw y m).floor)=12*(1955880000+y+3179)+(m-1):=by
 have f0:=gi (cw y m)
 have f1:=gI (cw y m)
 have c:=near (cw y m).floor
 have s:=Er y m
 have n:=dC (ir (cw y m))
 rw[show((22:Int):Rat)/((10:Int):Rat)=22/10 by decide+kernel] at n
 have w: -4≤bO (C (cw y m).floor)-bO (cw y m)∧bO (C (cw y m).floor)-bO (cw y m)≤4:=by
  by_cases l:cw y m≤C (cw y m).floor
  ·have:=jH l;constructor <;> grind
  ·have:=jH (t:=C (cw y m).floor) (u:=cw y m) (by grind);constructor <;> grind
 have e:(((12*(1955880000+y+3179)+(m-1):Int)):Rat)=12*(((1955880000+y+3179:Int)):Rat)+(((m-1:Int)):Rat):=by rw[Rat.intCast_add,Rat.intCast_mul];rfl
 have a:12*(1955880000+y+3179)+(m-1)≤kaV (C (cw y m).floor):=nz (by rw[e];grind)
 have b:kaV (C (cw y m).floor)<12*(1955880000+y+3179)+(m-1)+1:=nE (by rw[Rat.intCast_add,e,Rat.intCast_one];grind)
 omega
noncomputable def soX (C:Int→Rat) (y m d:Int):Int:=fsD C (cw y m).floor +(d-1)
noncomputable def soE (C:Int→Rat) (y m d:Int):Int:=if soX C y m d< -3000000∨3000000<soX C y m d then 3 else if kaV (C (soX C y m d))/12-1955880000-3179=y∧kaV (C (soX C y m d))%12+1=m∧soX C y m d-fsD C (soX C y m d)+1=d then 0 else 3
noncomputable def soN (C:Int→Rat) (y m d:Int):Int:=if soE C y m d=0 then soX C y m d else 0
theorem sD {C:Int→Rat} {y m d n:Int} (hn:n=soX C y m d) (h:n< -3000000∨3000000<n):0=soN C y m d∧3=soE C y m d:=by
 subst hn
 have e:soE C y m d=3:=by unfold soE;rw[if_pos h]
 unfold soN;rw[e];exact⟨rfl,rfl⟩
theorem Fp {C:Int→Rat} {y m d n:Int} (hn:n=soX C y m d) (h:¬(n< -3000000∨3000000<n)) (e:¬(kaV (C n)/12-1955880000-3179=y∧kaV (C n)%12+1=m∧n-fsD C n+1=d)):0=soN C y m d∧3=soE C y m d:=by
 subst hn
 have e:soE C y m d=3:=by unfold soE;rw[if_neg h,if_neg e]
 unfold soN;rw[e];exact⟨rfl,rfl⟩
theorem Ac {C:Int→Rat} {y m d n:Int} (hn:n=soX C y m d) (h:¬(n< -3000000∨3000000<n)) (e:kaV (C n)/12-1955880000-3179=y∧kaV (C n)%12+1=m∧n-fsD C n+1=d):n=soN C y m d∧0=soE C y m d:=by
 subst hn
 have e:soE C y m d=0:=by unfold soE;rw[if_neg h,if_pos e]
 unfold soN;rw[e];exact⟨rfl,rfl⟩
theorem GU {t:Rat} (h0: -3900010≤t) (h1:t≤3900010):12*(1955880000+3179-11000)≤kaV t∧kaV t<12*(1955880000+3179+11000):=by
 have n:=dC (ir t)
 rw[show((22:Int):Rat)/((10:Int):Rat)=22/10 by decide+kernel] at n
 have p:=gR
 have a:(-3900010-cre)/pyr≤bn t pyr:=by
  unfold bn
  exact Rat.not_lt.1 fun q=>by rw[Rat.div_lt_iff p,Rat.div_mul_cancel (by grind)] at q;grind
 have b:bn t pyr≤(3900010-cre)/pyr:=by
  unfold bn
  exact Rat.not_lt.1 fun q=>by rw[Rat.div_lt_iff p,Rat.div_mul_cancel (by grind)] at q;grind
 have a2:1955880000+3179-10999≤(-3900010-cre)/pyr:=by decide+kernel
 have b2:(3900010-cre)/pyr≤1955880000+3179+10999:=by decide+kernel
 constructor
 ·refine nz ?_
  unfold bO
  rw[show((360:Int):Rat)=360 from rfl,show((12*(1955880000+3179-11000):Int):Rat)=12*(1955880000+3179-11000) by decide+kernel]
  grind
 ·refine nE ?_
  unfold bO
  rw[show((360:Int):Rat)=360 from rfl,show((12*(1955880000+3179+11000):Int):Rat)=12*(1955880000+3179+11000) by decide+kernel]
  grind
theorem DV {n:Int} (h0: -3900001≤n) (h1:n≤3900001) {t:Rat} (a:((n:Int):Rat)-4/10≤t) (b:t≤((n:Int):Rat)+3): -3900010≤t∧t≤3900010:=by
 have c0:=Rat.intCast_le_intCast.2 h0
 have c1:=Rat.intCast_le_intCast.2 h1
 rw[show((-3900001:Int):Rat)= -3900001 from rfl] at c0
 rw[show((3900001:Int):Rat)=3900001 from rfl] at c1
 constructor <;> grind
def jj (C:Int→Rat):Prop:=∀n:Int,((n:Int):Rat)-4/10≤C n∧C n≤((n:Int):Rat)+3
theorem G4 {C:Int→Rat} (near:jj C) {n:Int} (h0: -3900001≤n) (h1:n≤3900001):12*(1955880000+3179-11000)≤kaV (C n)∧kaV (C n)<12*(1955880000+3179+11000):=by
 have c:=near n
 have r:=DV h0 h1 c.1 c.2
 exact GU r.1 r.2
theorem xK {C:Int→Rat} (h:dT C) (near:jj C) {n y m:Int} (hy:kaV (C n)/12-1955880000-3179=y) (hm:kaV (C n)%12+1=m):fsD C (cw y m).floor =fsD C n:=by
 refine De h ?_
 rw[xM near]
 omega
theorem Ag {C:Int→Rat} (h:dT C) (near:jj C) {n:Int} (h0: -3000000≤n) (h1:n≤3000000):
 soN C (kaV (C n)/12-1955880000-3179) (kaV (C n)%12+1) (n-fsD C n+1)=n∧soE C (kaV (C n)/12-1955880000-3179) (kaV (C n)%12+1) (n-fsD C n+1)=0:=by
 have e:n=soX C (kaV (C n)/12-1955880000-3179) (kaV (C n)%12+1) (n-fsD C n+1):=by
  unfold soX
  rw[xK h near rfl rfl]
  omega
 have r:=Ac e (by omega) ⟨rfl,rfl,rfl⟩
 exact⟨r.1.symm,r.2.symm⟩
theorem tB {C:Int→Rat} (h:dT C) (near:jj C) (y m:Int):kaV (C (fsD C (cw y m).floor))=12*(1955880000+y+3179)+(m-1)∧kaV (C (fsD C (cw y m).floor - 1))=12*(1955880000+y+3179)+(m-1)-1∧fsD C (cw y m).floor ≤(cw y m).floor ∧(cw y m).floor ≤fsD C (cw y m).floor +31:=by
 have s:=eE h (cw y m).floor
 rw[xM near] at s
 exact⟨s.2.2.1,s.2.2.2,s.1,s.2.1⟩
theorem yM {y m:Int} (h0: -9000≤y) (h1:y≤9000) (hm:1≤m) (hm2:m≤12): -3300000≤(cw y m).floor ∧(cw y m).floor ≤3400000:=by
 have a:=Rat.intCast_le_intCast.2 (show 24*(-9000+3179)+1≤24*(y+3179)+2*m-1 by omega)
 have b:=Rat.intCast_le_intCast.2 (show 24*(y+3179)+2*m-1≤24*(9000+3179)+23 by omega)
 have p:pyr=1577917828000/4320000000:=rfl
 constructor
 ·refine Rat.le_floor_iff.2 ?_
  unfold cw
  rw[show((24:Int):Rat)=24 from rfl,show((-1132959:Int):Rat)= -1132959 from rfl,show((-3300000:Int):Rat)= -3300000 from rfl,p]
  rw[show((24*(-9000+3179)+1:Int):Rat)=24*(-9000+3179)+1 by decide+kernel] at a
  grind
 ·refine Int.lt_add_one_iff.1 (Rat.floor_lt_iff.2 ?_)
  unfold cw
  rw[show((24:Int):Rat)=24 from rfl,show((-1132959:Int):Rat)= -1132959 from rfl,show((3400000+1:Int):Rat)=3400001 from rfl,p]
  rw[show((24*(9000+3179)+23:Int):Rat)=24*(9000+3179)+23 by decide+kernel] at b
  grind
theorem wB {C:Int→Rat} (h:dT C) {s n:Int} (h0:fsD C n-20≤s) (h1:s≤n):kaV (C s)%12=kaV (C n)%12↔fsD C n≤s:=by
 have f:=eE h n
 by_cases q:fsD C n≤s
 ·have a:=lH h q
  have b:=lH h h1
  have e:kaV (C s)=kaV (C n):=by omega
  rw[e]
  exact⟨fun _=>q,fun _=>rfl⟩
 ·have a:=lH h (m:=s) (n:=fsD C n-1) (by omega)
  have b:=Hj h h1 (by omega)
  constructor
  ·intro x;omega
  ·intro x;omega
def fg (s:Int):Rat:=pyr*(((s:Int):Rat)/((12:Int):Rat))+((-1132959:Int):Rat)
theorem ux (s:Int):bO (fg s)=30*(((s+23470560000:Int)):Rat)-dt (fg s):=by
 have e:bn (fg s) pyr=((s:Int):Rat)/((12:Int):Rat)+((1955880000:Int):Rat):=by
  rw[←oT]
  unfold bn fg kli
  have:=gR
  grind
 unfold bO
 rw[e,show((360:Int):Rat)=360 from rfl,show((12:Int):Rat)=12 from rfl,Rat.intCast_add,show((1955880000:Int):Rat)=1955880000 from rfl,show((23470560000:Int):Rat)=23470560000 from rfl]
 grind
theorem Fa {C:Int→Rat} (near:jj C) (s:Int):kaV (C ((fg s).floor - 7))<s+23470560000:=by
 have f0:=gi (fg s)
 have c:=(near ((fg s).floor - 7)).2
 have u:=ux s
 have n:=dC (ir (fg s))
 rw[show((22:Int):Rat)/((10:Int):Rat)=22/10 by decide+kernel] at n
 rw[Rat.intCast_sub,show((7:Int):Rat)=7 from rfl] at c
 have a:=jH (t:=C ((fg s).floor - 7)) (u:=fg s) (by grind)
 exact nE (by grind)
theorem E4 {C:Int→Rat} (near:jj C) (s:Int):s+23470560000≤kaV (C ((fg s).floor +7)):=by
 have f0:=gI (fg s)
 have c:=(near ((fg s).floor +7)).1
 have u:=ux s
 have n:=dC (ir (fg s))
 rw[show((22:Int):Rat)/((10:Int):Rat)=22/10 by decide+kernel] at n
 rw[Rat.intCast_add,show((7:Int):Rat)=7 from rfl] at c
 have a:=jH (t:=fg s) (u:=C ((fg s).floor +7)) (by grind)
 exact nz (by grind)
noncomputable def foD (C:Int→Rat) (y m:Int):Int:=fsD C (cw y m).floor
theorem Hc {C:Int→Rat} (h:dT C) (near:jj C) (y m:Int):kaV (C (foD C y m))=12*(1955880000+y+3179)+(m-1)∧kaV (C (foD C y m-1))=12*(1955880000+y+3179)+(m-1)-1:=by
 have s:=tB h near y m
 exact⟨s.1,s.2.1⟩
theorem sA {C:Int→Rat} (h:dT C) (near:jj C) (y m n:Int):12*(y+3179)+(m-1)+23470560000≤kaV (C n)↔foD C y m≤n:=by
 have s:=Hc h near y m
 constructor
 ·intro e
  refine Int.not_lt.1 fun q=>?_
  have:=lH h (m:=n) (n:=foD C y m-1) (by omega)
  omega
 ·intro e
  have:=lH h e
  omega
theorem F8 {C:Int→Rat} (h:dT C) (near:jj C) (y m:Int):(fg (12*(y+3179)+(m-1))).floor - 6≤foD C y m∧foD C y m≤(fg (12*(y+3179)+(m-1))).floor +7:=by
 have a:=Fa near (12*(y+3179)+(m-1))
 have b:=(sA h near y m _).1 (E4 near (12*(y+3179)+(m-1)))
 refine⟨Int.not_lt.1 fun q=>?_,b⟩
 have:=(sA h near y m ((fg (12*(y+3179)+(m-1))).floor - 7)).2 (by omega)
 omega
theorem Gv {C:Int→Rat} (h:dT C) (near:jj C) (n:Int):foD C (kaV (C n)/12-1955880000-3179) (kaV (C n)%12+1)=fsD C n:=xK h near rfl rfl
theorem Ic {C:Int→Rat} (h:dT C) (near:jj C) {y m:Int} (h0: -9000≤y) (h1:y≤9000) (hm:1≤m) (hm2:m≤12): -3300040≤foD C y m∧foD C y m≤3400000:=by
 have b:=yM h0 h1 hm hm2
 have s:=tB h near y m
 unfold foD
 omega
def aY (r n a b c d:Int):Rat:=mN r (((a:Int):Rat)/((b:Int):Rat)) (((c:Int):Rat)/((d:Int):Rat)) n
def bf (r a b c d:Int):Int→Rat:=mN r (((a:Int):Rat)/((b:Int):Rat)) (((c:Int):Rat)/((d:Int):Rat))
theorem eS (r:Int) {a b c d:Int} (h:cj a b c d):dT (bf r a b c d):=F5 r _ h.la.1 h.la.2
theorem iB (r:Int) {a b c d:Int} (h:cj a b c d):jj (bf r a b c d):=Av h.la.1 h.la.2 h.lo.1 h.lo.2
theorem wl {r n a b c d:Int} (h:r=0):cz (gz (n+1) a b c d)=aY r n a b c d:=by subst h;rfl
theorem wV {r n a b c d:Int} (h:r=1):cz (gL n a b c d)=aY r n a b c d:=by subst h;rfl
theorem vP {r n a b c d:Int} (h:r=2) {x:Rat} (e:x=mlV (cz (gz n a b c d)) (cz (gL n a b c d))):cz x=aY r n a b c d:=by subst h;rw[e];rfl
theorem GW (a b:Rat):a+(b-a)*(((3:Int):Rat)/((5:Int):Rat))=mlV a b:=by
 unfold mlV
 rw[show((3:Int):Rat)/((5:Int):Rat)=3/5 by decide+kernel]
 grind
theorem Ga (a b:Rat):a*(((2:Int):Rat)/((5:Int):Rat))+b*(((3:Int):Rat)/((5:Int):Rat))=mlV a b:=by
 unfold mlV
 rw[show((3:Int):Rat)/((5:Int):Rat)=3/5 by decide+kernel,show((2:Int):Rat)/((5:Int):Rat)=2/5 by decide+kernel]
theorem wZ {r n a b c d:Int} (h0:r≠0) (h1:r≠1) (h2:r≠2):(((n+1:Int)):Rat)=aY r n a b c d:=by
 unfold aY mN
 rw[if_neg h0,if_neg h1,if_neg h2]
theorem eu {r n a b c d:Int} (h:cj a b c d) (h0: -3900000≤n) (h1:n≤3900000):au (aY r n a b c d) 3:=by
 by_cases r0:r=0
 ·rw[←wl r0];exact iu h (by omega) (by omega)
 by_cases r1:r=1
 ·rw[←wV r1];exact iG h (by omega) (by omega)
 by_cases r2:r=2
 ·have x:=sf (n:=n) h
  have y:=sI (n:=n) h
  have gx:=cS (gz n a b c d)
  have gy:=cS (gL n a b c d)
  have e:=jd ((n:Int):Rat) (qd:=1) (sg:=1) (.inl ⟨rfl,rfl⟩) h.la.1 h.la.2 h.lo.1 h.lo.2
  have f:=jd ((n:Int):Rat) (qd:=3) (sg:= -1) (.inr ⟨rfl,rfl⟩) h.la.1 h.la.2 h.lo.1 h.lo.2
  rw[←vP r2 rfl]
  refine l8 (n:=n) (by omega) (by omega) ?_ ?_ <;> (unfold mlV;unfold gz gL at*;grind)
 ·rw[←wZ r0 r1 r2];exact(kN (n:=n+1) (by omega)).up _ (by omega)
theorem rA (r:Int) {n a b c d:Int} (h:cj a b c d) (h0: -3900000≤n) (h1:n≤3900000):12*(1955880000+3179-11000)≤kaV (aY r n a b c d)∧kaV (aY r n a b c d)<12*(1955880000+3179+11000):=G4 (iB r h) (by omega) (by omega)
def ckE (r a b c d:Int):Int:=if 0≤r∧r≤3 then plE a b c d else 6
theorem H9 {a b c d:Int} (h:cj a b c d):plE a b c d=0:=by unfold plE;rw[if_pos ⟨decide_eq_true ⟨h.b0,h.b1,h.a0,h.a1⟩,decide_eq_true ⟨h.d0,h.d1,h.c0,h.c1⟩⟩]
theorem ss {r a b c d:Int} (h0:0≤r) (h1:r≤3) (h:cj a b c d):ckE r a b c d=0:=by unfold ckE;rw[if_pos ⟨h0,h1⟩];exact H9 h
theorem xk {r a b c d:Int} (h:¬(0≤r∧r≤3)):ckE r a b c d=6:=if_neg h
theorem Fh {r y m bg a b c d:Int} (hok:cj a b c d) (h:Int):decide (12*(y+3179)+(m-1)≤kaV (aY r (bg+h) a b c d)-23470560000)=true↔foD (bf r a b c d) y m-bg≤h:=by
 have e:12*(y+3179)+(m-1)+23470560000≤kaV (aY r (bg+h) a b c d)↔foD (bf r a b c d) y m≤bg+h:=sA (eS r hok) (iB r hok) y m (bg+h)
 rw[decide_eq_true_iff]
 constructor
 ·intro x;have:=e.1 (by omega);omega
 ·intro x;have:=e.2 (by omega);omega
theorem E7 {t:Rat} (h0: -3000002≤t) (h1:t≤3000004):12*(1955880000-5200)≤kaV t∧kaV t<12*(1955880000+11400):=by
 have n:=dC (ir t)
 rw[show((22:Int):Rat)/((10:Int):Rat)=22/10 by decide+kernel] at n
 have p:=gR
 have a:(-3000002-cre)/pyr≤bn t pyr:=by
  unfold bn
  exact Rat.not_lt.1 fun q=>by rw[Rat.div_lt_iff p,Rat.div_mul_cancel (by grind)] at q;grind
 have b:bn t pyr≤(3000004-cre)/pyr:=by
  unfold bn
  exact Rat.not_lt.1 fun q=>by rw[Rat.div_lt_iff p,Rat.div_mul_cancel (by grind)] at q;grind
 have a2:1955880000-5199≤(-3000002-cre)/pyr:=by decide+kernel
 have b2:(3000004-cre)/pyr≤1955880000+11399:=by decide+kernel
 constructor
 ·refine nz ?_
  unfold bO
  rw[show((360:Int):Rat)=360 from rfl,show((12*(1955880000-5200):Int):Rat)=12*(1955880000-5200) by decide+kernel]
  grind
 ·refine nE ?_
  unfold bO
  rw[show((360:Int):Rat)=360 from rfl,show((12*(1955880000+11400):Int):Rat)=12*(1955880000+11400) by decide+kernel]
  grind
theorem Gm (r:Int) {n a b c d:Int} (h:cj a b c d) (h0: -3000001≤n) (h1:n≤3000001):12*(1955880000-5200)≤kaV (aY r n a b c d)∧kaV (aY r n a b c d)<12*(1955880000+11400):=by
 have k:=iB r h n
 have c0:=Rat.intCast_le_intCast.2 h0
 have c1:=Rat.intCast_le_intCast.2 h1
 rw[show((-3000001:Int):Rat)= -3000001 from rfl] at c0
 rw[show((3000001:Int):Rat)=3000001 from rfl] at c1
 exact E7 (t:=aY r n a b c d) (show _≤bf r a b c d n by grind) (show bf r a b c d n≤_ by grind)
theorem Da (r:Int) {n a b c d:Int} (h:cj a b c d) (h0: -3000000≤n) (h1:n≤3000000):soN (bf r a b c d) (kaV (aY r n a b c d)/12-1955880000-3179) (kaV (aY r n a b c d)%12+1) (n-fsD (bf r a b c d) n+1)=n∧soE (bf r a b c d) (kaV (aY r n a b c d)/12-1955880000-3179) (kaV (aY r n a b c d)%12+1) (n-fsD (bf r a b c d) n+1)=0:=
 Ag (eS r h) (iB r h) h0 h1
end Go.Proofs.YtnljadejcfgmaaaGreatDoor
