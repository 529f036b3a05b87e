import Derived.Test.YtgdpkknapcgcbaaGreatDoorKD26
import Derived.Test.YtgdpkknapcgcbaaGreatDoorKD27
namespace Go.Proofs.YtgdpkknapcgcbaaGreatDoor
open Go.RowKit
set_option maxRecDepth 100000
set_option linter.unusedVariables false
set_option maxHeartbeats 8000000
theorem yE {x m:Rat} (h:0<m):rmod x m=x-m*(((x/m).floor :Int):Rat):=by unfold rmod;rw[if_neg (by grind)]
theorem qW (t:Rat) {lat:Rat} (lon:Rat) {qd sg:Int} (hq:qd=1/\sg=1\/qd=3/\sg= -1) (h0: -60<=lat) (h1:lat<=60):985/1000<=bn (t+((1:Int):Rat)) lat lon qd sg-bn t lat lon qd sg/\bn (t+((1:Int):Rat)) lat lon qd sg-bn t lat lon qd sg<=1015/1000:=by
 rcases hq with⟨rfl,rfl⟩|⟨rfl,rfl⟩
 ·exact zi t lon h0 h1
 have e:=br (uL t)
 have d:=br (sm t h0 h1)
 have s:=eE t
 have s':=eE (t+((1:Int):Rat))
 have k:=j3
 unfold bn
 rw[show((3:Int):Rat)/((4:Int):Rat)=3/4 by decide+kernel,show((-1:Int):Rat)= -1 from rfl,Rat.intCast_one] at*
 generalize dW (t+1) lat=d2 at*
 generalize dW t lat=d1 at*
 generalize dI (t+1)*eN (t+1)=s2 at*
 generalize dI t*eN t=s1 at*
 generalize fl (t+1)=e2 at*
 generalize fl t=e1 at*
 have m:=dL (a:=3/4*(111/100-87/100)+27/10) (b:=27703/10000000) (x:=(s2*(3/4)+ -1*d2)-(s1*(3/4)+ -1*d1)) (y:=kap) (by grind) (by grind) (by grind) (by grind) (by grind) k.2
 constructor <;> grind
theorem jH (t d:Rat) {lat:Rat} (lon:Rat) {qd sg:Int} (hq:qd=1/\sg=1\/qd=3/\sg= -1) (h0: -60<=lat) (h1:lat<=60):d-308/1000<=bn (t+d) lat lon qd sg-bn t lat lon qd sg:=by
 have e:=ju t
 have e':=ju (t+d)
 have g:=j5 t h0 h1
 have g':=j5 (t+d) h0 h1
 have s:=eE t
 have s':=eE (t+d)
 have k:=j3
 unfold bn
 generalize dW (t+d) lat=d2 at*
 generalize dW t lat=d1 at*
 generalize dI (t+d)*eN (t+d)=s2 at*
 generalize dI t*eN t=s1 at*
 generalize fl (t+d)=e2 at*
 generalize fl t=e1 at*
 rcases hq with⟨rfl,rfl⟩|⟨rfl,rfl⟩
 ·rw[show((1:Int):Rat)/((4:Int):Rat)=1/4 by decide+kernel,Rat.intCast_one] at*
  have m:=dL (a:=1/4*(111/100-87/100)+106) (b:=27703/10000000) (x:=(s2*(1/4)+1*d2)-(s1*(1/4)+1*d1)) (y:=kap) (by grind) (by grind) (by grind) (by grind) (by grind) k.2
  grind
 ·rw[show((3:Int):Rat)/((4:Int):Rat)=3/4 by decide+kernel,show((-1:Int):Rat)= -1 from rfl] at*
  have m:=dL (a:=3/4*(111/100-87/100)+106) (b:=27703/10000000) (x:=(s2*(3/4)+ -1*d2)-(s1*(3/4)+ -1*d1)) (y:=kap) (by grind) (by grind) (by grind) (by grind) (by grind) k.2
  grind
theorem Ez {lon:Rat} (h0: -180<=lon) (h1:lon<=180): -(3/10)<=jJ lon/\jJ lon<=72/100:=by
 unfold jJ
 rw[show((45461:Int):Rat)/((600:Int):Rat)=45461/600 by decide+kernel,show((1:Int):Rat)/((360:Int):Rat)=1/360 by decide+kernel]
 constructor <;> grind
theorem gf (t:Rat) {lat lon:Rat} {qd sg:Int} (hq:qd=1/\sg=1\/qd=3/\sg= -1) (h0: -60<=lat) (h1:lat<=60) (l0: -180<=lon) (l1:lon<=180):t-3/10<=bn t lat lon qd sg/\bn t lat lon qd sg<=t+17/10:=by
 have e:=ju t
 have g:=j5 t h0 h1
 have s:=eE t
 have k:=j3
 have c:=Ez l0 l1
 unfold bn
 generalize dW t lat=d1 at*
 generalize dI t*eN t=s1 at*
 generalize fl t=e1 at*
 rcases hq with⟨rfl,rfl⟩|⟨rfl,rfl⟩
 ·rw[show((1:Int):Rat)/((4:Int):Rat)=1/4 by decide+kernel,Rat.intCast_one] at*
  have m:=dL (a:=1/4*(111/100)+53) (b:=27703/10000000) (x:=s1*(1/4)+1*d1) (y:=kap) (by grind) (by grind) (by grind) (by grind) (by grind) k.2
  constructor <;> grind
 ·rw[show((3:Int):Rat)/((4:Int):Rat)=3/4 by decide+kernel,show((-1:Int):Rat)= -1 from rfl] at*
  have m:=dL (a:=3/4*(111/100)+53) (b:=27703/10000000) (x:=s1*(3/4)+ -1*d1) (y:=kap) (by grind) (by grind) (by grind) (by grind) (by grind) k.2
  constructor <;> grind
def riV (lat lon:Rat) (n:Int):Rat:=bK (bn ((n:Int):Rat) lat lon 1 1)
def seV (lat lon:Rat) (n:Int):Rat:=bK (bn ((n:Int):Rat) lat lon 3 (-1))
def mlV (a b:Rat):Rat:=a*(2/5)+b*(3/5)
def lC (r:Int) (lat lon:Rat) (n:Int):Rat:=if r=0 then riV lat lon (n+1) else if r=1 then seV lat lon n else if r=2 then bK (mlV (riV lat lon n) (seV lat lon n)) else(((n+1:Int)):Rat)
def dP (C:Int->Rat):Prop:=(∀n,983/1000<=C (n+1)-C n/\C (n+1)-C n<=1017/1000)/\(∀n,3169/100<=C (n+32)-C n)
theorem sW (n:Int):(((n+32:Int)):Rat)=((n:Int):Rat)+32:=by rw[Rat.intCast_add];rfl
theorem mD {lat:Rat} (lon:Rat) (h0: -60<=lat) (h1:lat<=60) (n:Int):98499/100000<=riV lat lon (n+1)-riV lat lon n/\riV lat lon (n+1)-riV lat lon n<=101501/100000/\3169/100+1/1000<=riV lat lon (n+32)-riV lat lon n:=by
 have a:=qW ((n:Int):Rat) (qd:=1) (sg:=1) lon (.inl ⟨rfl,rfl⟩) h0 h1
 have b:=jH ((n:Int):Rat) 32 (qd:=1) (sg:=1) lon (.inl ⟨rfl,rfl⟩) h0 h1
 unfold riV
 rw[cQ,sW]
 rw[Rat.intCast_one] at a
 have g1:=bW (bn ((n:Int):Rat) lat lon 1 1)
 have g2:=bW (bn (((n:Int):Rat)+1) lat lon 1 1)
 have g3:=bW (bn (((n:Int):Rat)+32) lat lon 1 1)
 refine⟨?_,?_,?_⟩ <;> grind
theorem Dz {lat:Rat} (lon:Rat) (h0: -60<=lat) (h1:lat<=60) (n:Int):98499/100000<=seV lat lon (n+1)-seV lat lon n/\seV lat lon (n+1)-seV lat lon n<=101501/100000/\3169/100+1/1000<=seV lat lon (n+32)-seV lat lon n:=by
 have a:=qW ((n:Int):Rat) (qd:=3) (sg:= -1) lon (.inr ⟨rfl,rfl⟩) h0 h1
 have b:=jH ((n:Int):Rat) 32 (qd:=3) (sg:= -1) lon (.inr ⟨rfl,rfl⟩) h0 h1
 unfold seV
 rw[cQ,sW]
 rw[Rat.intCast_one] at a
 have g1:=bW (bn ((n:Int):Rat) lat lon 3 (-1))
 have g2:=bW (bn (((n:Int):Rat)+1) lat lon 3 (-1))
 have g3:=bW (bn (((n:Int):Rat)+32) lat lon 3 (-1))
 refine⟨?_,?_,?_⟩ <;> grind
theorem Gb (r:Int) {lat:Rat} (lon:Rat) (h0: -60<=lat) (h1:lat<=60):dP (lC r lat lon):=by
 have R:=mD lon h0 h1
 have S:=Dz lon h0 h1
 unfold dP lC
 by_cases r0:r=0
 ·simp only [if_pos r0]
  refine⟨fun n=>?_,fun n=>?_⟩
  ·have:=R (n+1);constructor <;> grind
  ·have:=R (n+1);rw[show n+32+1=n+1+32 by omega];grind
 simp only [if_neg r0]
 by_cases r1:r=1
 ·simp only [if_pos r1]
  refine⟨fun n=>?_,fun n=>?_⟩
  ·have:=S n;constructor <;> grind
  ·have:=S n;grind
 simp only [if_neg r1]
 by_cases r2:r=2
 ·simp only [if_pos r2]
  refine⟨fun n=>?_,fun n=>?_⟩
  ·have a:=R n
   have b:=S n
   have g:=bW (mlV (riV lat lon n) (seV lat lon n))
   have g':=bW (mlV (riV lat lon (n+1)) (seV lat lon (n+1)))
   unfold mlV at*
   constructor <;> grind
  ·have a:=R n
   have b:=S n
   have g:=bW (mlV (riV lat lon n) (seV lat lon n))
   have g':=bW (mlV (riV lat lon (n+32)) (seV lat lon (n+32)))
   unfold mlV at*
   grind
 simp only [if_neg r2]
 refine⟨fun n=>?_,fun n=>?_⟩
 ·rw[cQ (n+1)];constructor <;> grind
 ·rw[show n+32+1=n+1+32 by omega,sW];grind
theorem Bu {r:Int} {lat lon:Rat} (h0: -60<=lat) (h1:lat<=60) (l0: -180<=lon) (l1:lon<=180) (n:Int):((n:Int):Rat)-4/10<=lC r lat lon n/\lC r lat lon n<=((n:Int):Rat)+3:=by
 have a:=gf ((n:Int):Rat) (qd:=1) (sg:=1) (.inl ⟨rfl,rfl⟩) h0 h1 l0 l1
 have a':=gf ((((n+1:Int)):Rat)) (qd:=1) (sg:=1) (.inl ⟨rfl,rfl⟩) h0 h1 l0 l1
 have b:=gf ((n:Int):Rat) (qd:=3) (sg:= -1) (.inr ⟨rfl,rfl⟩) h0 h1 l0 l1
 have ga:=bW (bn ((n:Int):Rat) lat lon 1 1)
 have ga':=bW (bn ((((n+1:Int)):Rat)) lat lon 1 1)
 have gb:=bW (bn ((n:Int):Rat) lat lon 3 (-1))
 have gm:=bW (mlV (riV lat lon n) (seV lat lon n))
 have d:=cQ n
 unfold lC
 split
 ·unfold riV;constructor <;> grind
 ·split
  ·unfold seV;constructor <;> grind
  ·split
   ·unfold mlV riV seV at*;constructor <;> grind
   ·constructor <;> grind
def kaV (t:Rat):Int:=(a7 t*(1/30)).floor
theorem eS (t:Rat):30*((kaV t:Int):Rat)<=a7 t/\a7 t<30*((kaV t:Int):Rat)+30:=by
 have a:=cY (a7 t*(1/30))
 have b:=dr (a7 t*(1/30))
 unfold kaV
 constructor <;> grind
theorem hO {t:Rat} {k:Int} (h:30*((k:Int):Rat)<=a7 t):k<=kaV t:=Rat.le_floor_iff.2 (by grind)
theorem iL {t:Rat} {k:Int} (h:a7 t<30*((k:Int):Rat)):kaV t<k:=Rat.floor_lt_iff.2 (by grind)
theorem uU (t:Rat):prt (cV t) 12=kaV t%12:=by
 rw[mj,qS (by decide),show((12:Int):Rat)/((360:Int):Rat)=1/30 by decide+kernel]
 rfl
def AG (t:Rat):Rat:=(t-kli)/pyr-cV t*(((1:Int):Rat)/((360:Int):Rat))
def FP (t:Rat):Int:=(AG t+((1:Int):Rat)/((2:Int):Rat)).floor
theorem nx:(kli-cre)/pyr=((1955880000:Int):Rat):=by decide+kernel
theorem Du (t:Rat):(a7 t/((360:Int):Rat)).floor =kaV t/12:=by
 have k:=eS t
 have e:=Int.mul_ediv_add_emod (kaV t) 12
 have m0:=Int.emod_nonneg (kaV t) (b:=12) (by omega)
 have m1:=Int.emod_lt_of_pos (kaV t) (b:=12) (by omega)
 have q0:12*(kaV t/12)<=kaV t:=by omega
 have q1:kaV t<=12*(kaV t/12)+11:=by omega
 have c0:=Rat.intCast_le_intCast.2 q0
 have c1:=Rat.intCast_le_intCast.2 q1
 rw[Rat.intCast_add,Rat.intCast_mul] at c1
 rw[Rat.intCast_mul] at c0
 rw[show((12:Int):Rat)=12 from rfl] at c0 c1
 rw[show((11:Int):Rat)=11 from rfl] at c1
 have r:((360:Int):Rat)=360:=rfl
 have p:(0:Rat)<360:=by decide+kernel
 have a:kaV t/12<=(a7 t/((360:Int):Rat)).floor :=Rat.le_floor_iff.2 (Rat.not_lt.1 fun h=>by rw[r,Rat.div_lt_iff p] at h;grind)
 have b:(a7 t/((360:Int):Rat)).floor <kaV t/12+1:=Rat.floor_lt_iff.2 (by rw[r,Rat.div_lt_iff p,Rat.intCast_add,Rat.intCast_one];grind)
 omega
theorem FE (t:Rat):FP t=kaV t/12-1955880000:=by
 have n:=br (eQ t)
 rw[show((22:Int):Rat)/((10:Int):Rat)=22/10 by decide+kernel] at n
 have y:(t-kli)/pyr=aW t pyr-((1955880000:Int):Rat):=by
  rw[<-nx]
  unfold aW
  have:=fJ
  grind
 have x:AG t=cj t/360+(((kaV t/12-1955880000:Int)):Rat):=by
  unfold AG
  rw[y,mj,yE (by decide+kernel),Du,Rat.intCast_sub]
  unfold a7
  rw[show((1:Int):Rat)/((360:Int):Rat)=1/360 by decide+kernel,show((360:Int):Rat)=360 from rfl]
  grind
 unfold FP
 rw[x,Rat.add_assoc,Rat.add_comm (((kaV t/12-1955880000:Int)):Rat),<-Rat.add_assoc,Rat.floor_add_intCast]
 have f:(cj t/360+((1:Int):Rat)/((2:Int):Rat)).floor =0:=by
  rw[show((1:Int):Rat)/((2:Int):Rat)=1/2 by decide+kernel]
  have a:(0:Int)<=(cj t/360+1/2).floor :=Rat.le_floor_iff.2 (by rw[Rat.intCast_zero];grind)
  have b:(cj t/360+1/2).floor <1:=Rat.floor_lt_iff.2 (by rw[Rat.intCast_one];grind)
  omega
 rw[f]
 omega
theorem cB {t u:Rat} (h:t<=u):9471/10000*(u-t)<=a7 u-a7 t/\a7 u-a7 t<=10242/10000*(u-t):=by
 have:=jg t (d:=u-t) (by grind)
 rw[show t+(u-t)=u by grind] at this
 exact this
theorem vI {C:Int->Rat} (h:dP C) (n:Int):930/1000<=a7 (C (n+1))-a7 (C n)/\a7 (C (n+1))-a7 (C n)<=1042/1000:=by
 have c:=h.1 n
 have s:=cB (t:=C n) (u:=C (n+1)) (by grind)
 constructor <;> grind
theorem AQ {C:Int->Rat} (h:dP C) (n:Int) (k:Nat):930/1000*(((k:Int)):Rat)<=a7 (C (n+k))-a7 (C n)/\a7 (C (n+k))-a7 (C n)<=1042/1000*(((k:Int)):Rat):=by
 induction k with
 |zero=>rw[show n+((0:Nat):Int)=n by omega,show(((0:Nat):Int))=0 from rfl,Rat.intCast_zero];constructor <;> grind
 |succ k ih=>
  have s:=vI h (n+k)
  rw[show n+(((k+1:Nat)):Int)=n+(k:Int)+1 by omega,show(((k+1:Nat)):Int)=(k:Int)+1 by omega,Rat.intCast_add,Rat.intCast_one]
  constructor <;> grind
theorem vd {C:Int->Rat} (h:dP C) {m n:Int} (l:m<=n):930/1000*(((n-m:Int)):Rat)<=a7 (C n)-a7 (C m)/\a7 (C n)-a7 (C m)<=1042/1000*(((n-m:Int)):Rat):=by
 have:=AQ h m (n-m).toNat
 rw[show m+(((n-m).toNat :Nat):Int)=n by omega,show(((n-m).toNat :Nat):Int)=n-m by omega] at this
 exact this
theorem Ht {C:Int->Rat} (h:dP C) (n:Int):30<=a7 (C (n+32))-a7 (C n):=by
 have c:=h.2 n
 have s:=cB (t:=C n) (u:=C (n+32)) (by grind)
 grind
theorem nF {C:Int->Rat} (h:dP C) {m n:Int} (l:m<=n):kaV (C m)<=kaV (C n):=by
 have s:=vd h l
 have b:=eS (C m)
 have e:(0:Rat)<=(((n-m:Int)):Rat):=Rat.intCast_nonneg.2 (by omega)
 exact hO (by grind)
theorem zF {C:Int->Rat} (h:dP C) (n:Int):kaV (C (n+1))=kaV (C n)\/kaV (C (n+1))=kaV (C n)+1:=by
 have a:=nF h (m:=n) (n:=n+1) (by omega)
 have s:=vI h n
 have b:=eS (C n)
 have c:kaV (C (n+1))<kaV (C n)+2:=iL (by rw[Rat.intCast_add,show((2:Int):Rat)=2 from rfl];grind)
 omega
theorem IM {C:Int->Rat} (h:dP C) (n:Int):kaV (C n)+1<=kaV (C (n+32)):=by
 have s:=Ht h n
 have b:=eS (C n)
 exact hO (by rw[Rat.intCast_add,Rat.intCast_one];grind)
theorem I9 {C:Int->Rat} (h:dP C) (n:Int):kaV (C (n+28))<=kaV (C n)+1:=by
 have s:=(vd h (m:=n) (n:=n+28) (by omega)).2
 rw[show n+28-n=28 by omega,show((28:Int):Rat)=28 from rfl] at s
 have b:=eS (C n)
 have c:kaV (C (n+28))<kaV (C n)+2:=iL (by rw[Rat.intCast_add,show((2:Int):Rat)=2 from rfl];grind)
 omega
theorem sV {C:Int->Rat} (h:dP C) (n:Int):∃f,f<=n/\n<=f+31/\kaV (C f)=kaV (C n)/\kaV (C (f-1))=kaV (C n)-1:=by
 have go:∀i:Nat,i<=32->(∃f,f<=n/\n<=f+31/\kaV (C f)=kaV (C n)/\kaV (C (f-1))=kaV (C n)-1)\/kaV (C (n-i))=kaV (C n):=by
  intro i
  induction i with
  |zero=>intro _;right;rw[show n-((0:Nat):Int)=n by omega]
  |succ i ih=>
   intro hi
   rcases ih (by omega) with e|e
   ·exact .inl e
   ·rcases zF h (n-i-1) with s|s
    ·right;rw[show n-(((i+1:Nat)):Int)=n-i-1 by omega,<-s,show n-(i:Int)-1+1=n-i by omega];exact e
    ·left
     rw[show n-(i:Int)-1+1=n-i by omega] at s
     exact⟨n-i,by omega,by omega,e,by omega⟩
 rcases go 32 (by omega) with e|e
 ·exact e
 ·exfalso
  have:=IM h (n-32)
  rw[show n-32+32=n by omega] at this
  rw[show n-((32:Nat):Int)=n-32 by omega] at e
  omega
noncomputable def fsD (C:Int->Rat) (n:Int):Int:= @dite _ (dP C) (Classical.propDecidable _) (fun h=>Classical.choose (sV h n)) (fun _=>n)
theorem iW {C:Int->Rat} (h:dP C) (n:Int):fsD C n<=n/\n<=fsD C n+31/\kaV (C (fsD C n))=kaV (C n)/\kaV (C (fsD C n-1))=kaV (C n)-1:=by
 unfold fsD
 rw[dif_pos h]
 exact Classical.choose_spec (sV h n)
theorem wX {C:Int->Rat} (h:dP C) {n f:Int} (e:kaV (C f)=kaV (C n)) (g:kaV (C (f-1))≠kaV (C n)):f=fsD C n:=by
 have s:=iW h n
 rcases Int.lt_trichotomy f (fsD C n) with l|l|l
 ·have:=nF h (m:=f) (n:=fsD C n-1) (by omega)
  omega
 ·exact l
 ·have a:=nF h (m:=fsD C n) (n:=f-1) (by omega)
  have b:=nF h (m:=f-1) (n:=f) (by omega)
  omega
theorem vh {C:Int->Rat} (h:dP C) {m n:Int} (e:kaV (C m)=kaV (C n)):fsD C m=fsD C n:=by
 have s:=iW h m
 exact wX h (by omega) (by omega)
theorem Er {C:Int->Rat} (h:dP C) (n:Int):(kaV (C (n+1))=kaV (C n)/\fsD C (n+1)=fsD C n/\n+1-fsD C n+1<=32)\/(kaV (C (n+1))=kaV (C n)+1/\fsD C (n+1)=n+1/\28<=n-fsD C n+1):=by
 rcases zF h n with e|e
 ·left
  have f:=vh h e
  have s:=iW h (n+1)
  exact⟨e,f,by omega⟩
 ·right
  refine⟨e,(wX h rfl (by rw[show n+1-1=n by omega];omega)).symm,?_⟩
  have s:=iW h n
  have k:=I9 h (fsD C n-1)
  by_cases q:28<=n-fsD C n+1
  ·exact q
  ·exfalso
   have u:=nF h (m:=n+1) (n:=fsD C n-1+28) (by omega)
   omega
def b7 (y m:Int):Rat:=((24*(y+3179)+2*m-1:Int):Rat)/((24:Int):Rat)*pyr+((-1132959:Int):Rat)
theorem ET (y m:Int):a7 (b7 y m)=360*(((1955880000+y+3179:Int)):Rat)+30*(((m-1:Int)):Rat)+15-cj (b7 y m):=by
 have e:aW (b7 y m) pyr=((24*(y+3179)+2*m-1:Int):Rat)/((24:Int):Rat)+((1955880000:Int):Rat):=by
  rw[<-nx]
  unfold aW b7 kli
  have:=fJ
  grind
 unfold a7
 rw[e,show((360:Int):Rat)=360 from rfl,show((24:Int):Rat)=24 from rfl]
 simp only [Rat.intCast_add,Rat.intCast_sub,Rat.intCast_mul,Rat.intCast_one]
 rw[show((24:Int):Rat)=24 from rfl,show((2:Int):Rat)=2 from rfl]
 grind
theorem y6 {C:Int->Rat} (near:∀n:Int,((n:Int):Rat)-4/10<=C n/\C n<=((n:Int):Rat)+3) (y m:Int):kaV (C (b7 y m).floor)=12*(1955880000+y+3179)+(m-1):=by
 have f0:=cY (b7 y m)
 have f1:=dr (b7 y m)
 have c:=near (b7 y m).floor
 have s:=ET y m
 have n:=br (eQ (b7 y m))
 rw[show((22:Int):Rat)/((10:Int):Rat)=22/10 by decide+kernel] at n
 have w: -4<=a7 (C (b7 y m).floor)-a7 (b7 y m)/\a7 (C (b7 y m).floor)-a7 (b7 y m)<=4:=by
  by_cases l:b7 y m<=C (b7 y m).floor
  ·have:=cB l;constructor <;> grind
  ·have:=cB (t:=C (b7 y m).floor) (u:=b7 y m) (by grind);constructor <;> grind
 have e:(((12*(1955880000+y+3179)+(m-1):Int)):Rat)=12*(((1955880000+y+3179:Int)):Rat)+(((m-1:Int)):Rat):=by rw[Rat.intCast_add,Rat.intCast_mul];rfl
 have a:12*(1955880000+y+3179)+(m-1)<=kaV (C (b7 y m).floor):=hO (by rw[e];grind)
 have b:kaV (C (b7 y m).floor)<12*(1955880000+y+3179)+(m-1)+1:=iL (by rw[Rat.intCast_add,e,Rat.intCast_one];grind)
 omega
theorem CO {t u:Rat} (h:t<=u):kaV t<=kaV u:=by
 have s:=cB h
 have b:=eS t
 exact hO (by grind)
theorem Eb {t u:Rat} (h:t+27<=u) (g:u<=t+32):kaV t<=kaV u/\kaV u<=kaV t+2:=by
 have s:=cB (t:=t) (u:=u) (by grind)
 have b:=eS t
 refine⟨CO (by grind),?_⟩
 have c:kaV u<kaV t+3:=iL (by rw[Rat.intCast_add,show((3:Int):Rat)=3 from rfl];grind)
 omega
theorem BD {t u:Rat} (h:t+55<=u):kaV t<kaV u:=by
 have s:=cB (t:=t) (u:=u) (by grind)
 have b:=eS t
 have c:kaV t+1<=kaV u:=hO (by rw[Rat.intCast_add,Rat.intCast_one];grind)
 omega
theorem C0 {t:Rat} (h0: -3900010<=t) (h1:t<=3900010):12*(1955880000+3179-11000)<=kaV t/\kaV t<12*(1955880000+3179+11000):=by
 have n:=br (eQ t)
 rw[show((22:Int):Rat)/((10:Int):Rat)=22/10 by decide+kernel] at n
 have p:=fJ
 have a:(-3900010-cre)/pyr<=aW t pyr:=by
  unfold aW
  exact Rat.not_lt.1 fun q=>by rw[Rat.div_lt_iff p,Rat.div_mul_cancel (by grind)] at q;grind
 have b:aW t pyr<=(3900010-cre)/pyr:=by
  unfold aW
  exact Rat.not_lt.1 fun q=>by rw[Rat.div_lt_iff p,Rat.div_mul_cancel (by grind)] at q;grind
 have a2:1955880000+3179-10999<=(-3900010-cre)/pyr:=by decide+kernel
 have b2:(3900010-cre)/pyr<=1955880000+3179+10999:=by decide+kernel
 constructor
 ·refine hO ?_
  unfold a7
  rw[show((360:Int):Rat)=360 from rfl,show((12*(1955880000+3179-11000):Int):Rat)=12*(1955880000+3179-11000) by decide+kernel]
  grind
 ·refine iL ?_
  unfold a7
  rw[show((360:Int):Rat)=360 from rfl,show((12*(1955880000+3179+11000):Int):Rat)=12*(1955880000+3179+11000) by decide+kernel]
  grind
theorem D0 {n:Int} (h0: -3900001<=n) (h1:n<=3900001) {t:Rat} (a:((n:Int):Rat)-4/10<=t) (b:t<=((n:Int):Rat)+3): -3900010<=t/\t<=3900010:=by
 have c0:=Rat.intCast_le_intCast.2 h0
 have c1:=Rat.intCast_le_intCast.2 h1
 rw[show((-3900001:Int):Rat)= -3900001 from rfl] at c0
 rw[show((3900001:Int):Rat)=3900001 from rfl] at c1
 constructor <;> grind
def jS (C:Int->Rat):Prop:=∀n:Int,((n:Int):Rat)-4/10<=C n/\C n<=((n:Int):Rat)+3
theorem Ih {C:Int->Rat} (near:jS C) {n:Int} (h0: -3900001<=n) (h1:n<=3900001):12*(1955880000+3179-11000)<=kaV (C n)/\kaV (C n)<12*(1955880000+3179+11000):=by
 have c:=near n
 have r:=D0 h0 h1 c.1 c.2
 exact C0 r.1 r.2
theorem GP {C:Int->Rat} (h:dP C) (near:jS C) {n y m:Int} (hy:kaV (C n)/12-1955880000-3179=y) (hm:kaV (C n)%12+1=m):fsD C (b7 y m).floor =fsD C n:=by
 refine vh h ?_
 rw[y6 near]
 omega
theorem ou {C:Int->Rat} (h:dP C) (near:jS C) (y m:Int):kaV (C (fsD C (b7 y m).floor))=12*(1955880000+y+3179)+(m-1)/\kaV (C (fsD C (b7 y m).floor - 1))=12*(1955880000+y+3179)+(m-1)-1/\fsD C (b7 y m).floor <=(b7 y m).floor /\(b7 y m).floor <=fsD C (b7 y m).floor +31:=by
 have s:=iW h (b7 y m).floor
 rw[y6 near] at s
 exact⟨s.2.2.1,s.2.2.2,s.1,s.2.1⟩
def cw (s:Int):Rat:=pyr*(((s:Int):Rat)/((12:Int):Rat))+((-1132959:Int):Rat)
theorem mP (s:Int):a7 (cw s)=30*(((s+23470560000:Int)):Rat)-cj (cw s):=by
 have e:aW (cw s) pyr=((s:Int):Rat)/((12:Int):Rat)+((1955880000:Int):Rat):=by
  rw[<-nx]
  unfold aW cw kli
  have:=fJ
  grind
 unfold a7
 rw[e,show((360:Int):Rat)=360 from rfl,show((12:Int):Rat)=12 from rfl,Rat.intCast_add,show((1955880000:Int):Rat)=1955880000 from rfl,show((23470560000:Int):Rat)=23470560000 from rfl]
 grind
theorem GX {C:Int->Rat} (near:jS C) (s:Int):kaV (C ((cw s).floor - 7))<s+23470560000:=by
 have f0:=cY (cw s)
 have c:=(near ((cw s).floor - 7)).2
 have u:=mP s
 have n:=br (eQ (cw s))
 rw[show((22:Int):Rat)/((10:Int):Rat)=22/10 by decide+kernel] at n
 rw[Rat.intCast_sub,show((7:Int):Rat)=7 from rfl] at c
 have a:=cB (t:=C ((cw s).floor - 7)) (u:=cw s) (by grind)
 exact iL (by grind)
theorem Fu {C:Int->Rat} (near:jS C) (s:Int):s+23470560000<=kaV (C ((cw s).floor +7)):=by
 have f0:=dr (cw s)
 have c:=(near ((cw s).floor +7)).1
 have u:=mP s
 have n:=br (eQ (cw s))
 rw[show((22:Int):Rat)/((10:Int):Rat)=22/10 by decide+kernel] at n
 rw[Rat.intCast_add,show((7:Int):Rat)=7 from rfl] at c
 have a:=cB (t:=cw s) (u:=C ((cw s).floor +7)) (by grind)
 exact hO (by grind)
noncomputable def foD (C:Int->Rat) (y m:Int):Int:=fsD C (b7 y m).floor
theorem Ct {C:Int->Rat} (h:dP C) (near:jS C) (y m:Int):kaV (C (foD C y m))=12*(1955880000+y+3179)+(m-1)/\kaV (C (foD C y m-1))=12*(1955880000+y+3179)+(m-1)-1:=by
 have s:=ou h near y m
 exact⟨s.1,s.2.1⟩
theorem tj {C:Int->Rat} (h:dP C) (near:jS C) (y m n:Int):12*(y+3179)+(m-1)+23470560000<=kaV (C n)↔foD C y m<=n:=by
 have s:=Ct h near y m
 constructor
 ·intro e
  refine Int.not_lt.1 fun q=>?_
  have:=nF h (m:=n) (n:=foD C y m-1) (by omega)
  omega
 ·intro e
  have:=nF h e
  omega
theorem E4 {C:Int->Rat} (h:dP C) (near:jS C) (y m:Int):(cw (12*(y+3179)+(m-1))).floor - 6<=foD C y m/\foD C y m<=(cw (12*(y+3179)+(m-1))).floor +7:=by
 have a:=GX near (12*(y+3179)+(m-1))
 have b:=(tj h near y m _).1 (Fu near (12*(y+3179)+(m-1)))
 refine⟨Int.not_lt.1 fun q=>?_,b⟩
 have:=(tj h near y m ((cw (12*(y+3179)+(m-1))).floor - 7)).2 (by omega)
 omega
theorem FZ {C:Int->Rat} (h:dP C) (near:jS C) (n:Int):foD C (kaV (C n)/12-1955880000-3179) (kaV (C n)%12+1)=fsD C n:=GP h near rfl rfl
def bw (r n a b c d:Int):Rat:=lC r (((a:Int):Rat)/((b:Int):Rat)) (((c:Int):Rat)/((d:Int):Rat)) n
def dv (r a b c d:Int):Int->Rat:=lC r (((a:Int):Rat)/((b:Int):Rat)) (((c:Int):Rat)/((d:Int):Rat))
theorem iQ (r:Int) {a b c d:Int} (h:aZ a b c d):dP (dv r a b c d):=Gb r _ h.la.1 h.la.2
theorem gO (r:Int) {a b c d:Int} (h:aZ a b c d):jS (dv r a b c d):=Bu h.la.1 h.la.2 h.lo.1 h.lo.2
theorem Cr {r n a b c d:Int} (h:r=0):bK (dF (n+1) a b c d)=bw r n a b c d:=by subst h;rfl
theorem Cx {r n a b c d:Int} (h:r=1):bK (gP n a b c d)=bw r n a b c d:=by subst h;rfl
theorem CU {r n a b c d:Int} (h:r=2) {x:Rat} (e:x=mlV (bK (dF n a b c d)) (bK (gP n a b c d))):bK x=bw r n a b c d:=by subst h;rw[e];rfl
theorem G8 (a b:Rat):a+(b-a)*(((3:Int):Rat)/((5:Int):Rat))=mlV a b:=by
 unfold mlV
 rw[show((3:Int):Rat)/((5:Int):Rat)=3/5 by decide+kernel]
 grind
theorem Cz {r n a b c d:Int} (h0:r≠0) (h1:r≠1) (h2:r≠2):(((n+1:Int)):Rat)=bw r n a b c d:=by
 unfold bw lC
 rw[if_neg h0,if_neg h1,if_neg h2]
theorem ot {r n a b c d:Int} (h:aZ a b c d) (h0: -3900000<=n) (h1:n<=3900000):ag (bw r n a b c d) 3:=by
 by_cases r0:r=0
 ·rw[<-Cr r0];exact fX h (by omega) (by omega)
 by_cases r1:r=1
 ·rw[<-Cx r1];exact k7 h (by omega) (by omega)
 by_cases r2:r=2
 ·have x:=tk (n:=n) h
  have y:=tt (n:=n) h
  have gx:=bW (dF n a b c d)
  have gy:=bW (gP n a b c d)
  have e:=gf ((n:Int):Rat) (qd:=1) (sg:=1) (.inl ⟨rfl,rfl⟩) h.la.1 h.la.2 h.lo.1 h.lo.2
  have f:=gf ((n:Int):Rat) (qd:=3) (sg:= -1) (.inr ⟨rfl,rfl⟩) h.la.1 h.la.2 h.lo.1 h.lo.2
  rw[<-CU r2 rfl]
  refine kO (n:=n) (by omega) (by omega) ?_ ?_ <;> (unfold mlV;unfold dF gP at*;grind)
 ·rw[<-Cz r0 r1 r2];exact(jM (n:=n+1) (by omega)).up _ (by omega)
theorem Cq (r:Int) {n a b c d:Int} (h:aZ a b c d) (h0: -3900000<=n) (h1:n<=3900000):12*(1955880000+3179-11000)<=kaV (bw r n a b c d)/\kaV (bw r n a b c d)<12*(1955880000+3179+11000):=Ih (gO r h) (by omega) (by omega)
def ckE (r a b c d:Int):Int:=if 0<=r/\r<=3 then plE a b c d else 6
theorem wD {a b c d:Int} (h:aZ a b c d):plE a b c d=0:=by unfold plE;rw[if_pos ⟨decide_eq_true ⟨h.b0,h.b1,h.a0,h.a1⟩,decide_eq_true ⟨h.d0,h.d1,h.c0,h.c1⟩⟩]
theorem Ft {r a b c d:Int} (h0:0<=r) (h1:r<=3) (h:aZ a b c d):ckE r a b c d=0:=by unfold ckE;rw[if_pos ⟨h0,h1⟩];exact wD h
theorem GR {r y m bg a b c d:Int} (hok:aZ a b c d) (h:Int):decide (12*(y+3179)+(m-1)<=kaV (bw r (bg+h) a b c d)-23470560000)=true↔foD (dv r a b c d) y m-bg<=h:=by
 have e:12*(y+3179)+(m-1)+23470560000<=kaV (bw r (bg+h) a b c d)↔foD (dv r a b c d) y m<=bg+h:=tj (iQ r hok) (gO r hok) y m (bg+h)
 rw[decide_eq_true_iff]
 constructor
 ·intro x;have:=e.1 (by omega);omega
 ·intro x;have:=e.2 (by omega);omega
theorem pv (r:Int) {a b c d:Int} (h:aZ a b c d) (n:Int):(kaV (bw r (n+1) a b c d)=kaV (bw r n a b c d)/\fsD (dv r a b c d) (n+1)=fsD (dv r a b c d) n/\n+1-fsD (dv r a b c d) n+1<=32)\/(kaV (bw r (n+1) a b c d)=kaV (bw r n a b c d)+1/\fsD (dv r a b c d) (n+1)=n+1/\28<=n-fsD (dv r a b c d) n+1):=
 Er (iQ r h) n
theorem GU (r:Int) {a b c d:Int} (h:aZ a b c d) (y m:Int):kaV (bw r (foD (dv r a b c d) y m) a b c d)=12*(1955880000+y+3179)+(m-1)/\kaV (bw r (foD (dv r a b c d) y m-1) a b c d)=12*(1955880000+y+3179)+(m-1)-1:=Ct (iQ r h) (gO r h) y m
end Go.Proofs.YtgdpkknapcgcbaaGreatDoor
