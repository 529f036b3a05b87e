import Derived.Test.YtdbiegfmgabicaaGreatDoorKA35
import Derived.Test.YtdbiegfmgabicaaGreatDoorKA36
namespace Go.Proofs.YtdbiegfmgabicaaGreatDoor
open Go.RowKit
set_option maxRecDepth 100000
set_option linter.unusedVariables false
set_option maxHeartbeats 8000000
theorem JC {k n:Int} (h0:0≤k) (h1:k≤n) (hn:0<n):0≤((k:Int):Rat)/((n:Int):Rat)∧((k:Int):Rat)/((n:Int):Rat)≤1:=by
 have a:0≤((k:Int):Rat):=Rat.intCast_nonneg.2 h0
 have b:((k:Int):Rat)≤((n:Int):Rat):=Rat.intCast_le_intCast.2 h1
 have c:0<((n:Int):Rat):=Rat.intCast_pos.2 hn
 have d:0<((n:Int):Rat)⁻¹ :=Rat.inv_pos.2 c
 have e:((n:Int):Rat)*((n:Int):Rat)⁻¹ =1:=Rat.mul_inv_cancel _ (by grind)
 rw[Rat.div_def]
 generalize ((n:Int):Rat)⁻¹ =y at*
 generalize ((n:Int):Rat)=x at*
 generalize ((k:Int):Rat)=z at*
 refine⟨Rat.mul_nonneg a (Rat.le_of_lt d),?_⟩
 have:=Rat.mul_le_mul_of_nonneg_right b (Rat.le_of_lt d)
 grind
theorem KV {lo hi:Rat} (h:lo≤hi) {k n:Int} (h0:0≤k) (h1:k≤n) (hn:0<n):lo≤atR lo hi k n∧atR lo hi k n≤hi:=by
 have f:=JC h0 h1 hn
 unfold atR
 generalize ((k:Int):Rat)/((n:Int):Rat)=y at*
 have g:0≤hi-lo:=by grind
 have a:=Rat.mul_nonneg g f.1
 have b:=Rat.mul_le_mul_of_nonneg_left f.2 g
 constructor <;> grind
theorem JZ (p:Rat→Bool) {lo hi:Rat} (h:lo≤hi) (n:Nat):lo≤hlo p lo hi n∧hlo p lo hi n≤hi:=KV h (gE p lo hi n).1 (by have:=gE p lo hi n;omega) (eU n)
theorem Hz (t:Rat):decide (0≤qc (bi t) ((180:Int):Rat))=full t:=by
 have h:=CP t
 unfold wax at h
 cases e:full t with
 |true=>rw[e] at h;exact decide_eq_true (by have:=of_decide_eq_false h;omega)
 |false=>rw[e] at h;exact decide_eq_false (by have:=of_decide_eq_true h;omega)
theorem zI {t:Rat}:wax t=false↔full t=true:=by unfold wax;cases full t <;> simp
theorem AR {t:Rat}:wax t=true↔full t=false:=by unfold wax;cases full t <;> simp
theorem uW {n:Int} (h:bw n=true):wax ((n:Int):Rat)=false∧wax (((n+1:Int)):Rat)=true:=by
 unfold bw at h
 rw[Bool.and_eq_true,Bool.not_eq_true'] at h
 exact⟨zI.2 h.1,AR.2 h.2⟩
def nmL (n:Int):Rat:=hlo wax ((n:Int):Rat) (((n+1:Int)):Rat) 10
def nmR (n:Int):Rat:=hhi wax ((n:Int):Rat) (((n+1:Int)):Rat) 10
theorem MR {n:Int} (h:bw n=true):wax (nmL n)=false:=DX _ (uW h).1 10
theorem Mz {n:Int} (h:bw n=true):wax (nmR n)=true:=Cz _ (uW h).2 10
theorem sf (n:Int):nmR n=nmL n+1/1024:=by
 have h:=H9 wax ((n:Int):Rat) (((n+1:Int)):Rat) 10
 rw[show((1:Int):Rat)/(((2^10:Int):Int):Rat)=1/1024 by decide+kernel,eK] at h
 unfold nmR nmL
 rw[eK]
 grind
def mO (t:Rat):Int:=min (t.floor-1) ((t-bi t*(((10:Int):Rat)/((135:Int):Rat))).floor)
theorem m9 {t:Rat} (no:¬gi t=true):dV t.floor≤mO t∧mO t≤t.floor-1∧t.floor-34≤dV t.floor:=by
 have s:=fC t.floor
 have f:=Di (t:=t) (f:=t.floor) (L:=dV t.floor) rfl (by unfold gi at no;rw[Bool.and_eq_true,Bool.not_eq_true'] at no;exact no) s.2.1 s.2.2.1 s.2.2.2
 unfold mO
 omega
theorem nA (t:Rat):t.floor-30≤((t-bi t*(((10:Int):Rat)/((135:Int):Rat))).floor)∧((t-bi t*(((10:Int):Rat)/((135:Int):Rat))).floor)≤t.floor:=by
 have b:=jy t
 have a:=eN t
 have c:=fD t
 rw[show((10:Int):Rat)/((135:Int):Rat)=10/135 by decide+kernel]
 constructor
 ·exact Rat.le_floor_iff.2 (by rw[Rat.intCast_sub,show((30:Int):Rat)=30 from rfl];grind)
 ·have:(t-bi t*(10/135)).floor <t.floor+1:=Rat.floor_lt_iff.2 (by rw[Rat.intCast_add,Rat.intCast_one];grind)
  omega
theorem tT {t:Rat} (h:gi t=true):bw t.floor=true:=by
 unfold gi at h
 rw[Bool.and_eq_true,Bool.not_eq_true'] at h
 have f0:=eN t
 have f1:=fD t
 have e:((t.floor:Int):Rat)+(t-((t.floor:Int):Rat))=t:=by grind
 have i:=(kH ((t.floor:Int):Rat) (d:=t-((t.floor:Int):Rat)) (by grind) (by grind)).1 ⟨h.1,by rw[e];exact h.2⟩
 rw[e] at i
 refine(cY _).2 ?_
 have s:=i8 t.floor
 have u:=jX t (d:=((t.floor:Int):Rat)+1-t) (by grind) (by grind)
 rw[show t+(((t.floor:Int):Rat)+1-t)=(((t.floor+1:Int)):Rat) by rw[eK];grind] at u
 unfold bO at*
 rcases u with u|u <;> omega
theorem dU (t:Rat):bw (bJ t)=true:=by
 by_cases h:gi t=true
 ·rw[lE h];exact tT h
 ·rw[lr h];exact(fC _).2.2.1
theorem kW (n:Int):((n:Int):Rat)<nmR n∧nmR n≤((n:Int):Rat)+1:=by
 have b:=gE wax ((n:Int):Rat) (((n+1:Int)):Rat) 10
 rw[show(2:Int)^10=1024 from rfl] at b
 unfold nmR hhi atR
 generalize hlv wax ((n:Int):Rat) (((n+1:Int)):Rat) 10=k at*
 have a:=Rat.intCast_le_intCast.2 (show 1≤k+1 by omega)
 have c:=Rat.intCast_le_intCast.2 (show k+1≤1024 by omega)
 rw[eK,show((2^10:Int):Rat)=1024 by decide+kernel]
 rw[show((1:Int):Rat)=1 from rfl] at a
 rw[show((1024:Int):Rat)=1024 from rfl] at c
 constructor <;> grind
def smV (n:Int):Int:=kaV (nmR n)
theorem Hr {n:Int} (h:bw n=true):nmR n+27≤nmR (aQ n)∧nmR (aQ n)≤nmR n+32:=by
 have s:=cT h
 have a:=kW n
 have b:=kW (aQ n)
 have l:=Rat.intCast_le_intCast.2 s.1
 have g:=Rat.intCast_le_intCast.2 s.2.1
 rw[Rat.intCast_add,show((28:Int):Rat)=28 from rfl] at l
 rw[Rat.intCast_add,show((31:Int):Rat)=31 from rfl] at g
 constructor <;> grind
theorem pM {n:Int} (h:bw n=true):smV n≤smV (aQ n)∧smV (aQ n)≤smV n+2:=by
 have g:=Hr h
 exact Hh g.1 g.2
theorem LY {n:Int} (h:bw n=true):smV n<smV (aQ (aQ n)):=by
 have s:=cT h
 have t:=cT s.2.2.1
 have a:=kW n
 have b:=kW (aQ (aQ n))
 have l:=Rat.intCast_le_intCast.2 (show n+56≤aQ (aQ n) by omega)
 rw[Rat.intCast_add,show((56:Int):Rat)=56 from rfl] at l
 exact Dw (by grind)
theorem jR {t u:Rat} (h:t≤u):turn t≤turn u:=by
 have r:=(jm t (d:=u-t) (by grind)).1
 rw[show t+(u-t)=u by grind] at r
 have a:=dT t
 have b:=dT u
 rw[fb] at*
 have l:((turn t:Int):Rat)<((turn u+1:Int):Rat):=by rw[Rat.intCast_add,Rat.intCast_one];grind
 have:=Rat.intCast_lt_intCast.1 l
 omega
theorem iQ (t:Rat):turn t=bO (bJ t+1):=by
 have f0:=eN t
 have f1:=fD t
 have e:((t.floor:Int):Rat)+(t-((t.floor:Int):Rat))=t:=by grind
 have i:=kH ((t.floor:Int):Rat) (d:=t-((t.floor:Int):Rat)) (by grind) (by grind)
 rw[e] at i
 by_cases h:gi t=true
 ·rw[lE h]
  have c:=(cY _).1 (tT h)
  unfold gi at h
  rw[Bool.and_eq_true,Bool.not_eq_true'] at h
  have j:=i.1 h
  unfold bO at*
  omega
 ·rw[lr h]
  have s:=fC t.floor
  have b:=hC (a:=dV t.floor+1) (b:=t.floor) (by omega) fun m h1 h2=>s.2.2.2 m (by omega) h2
  have u:=jX ((t.floor:Int):Rat) (d:=t-((t.floor:Int):Rat)) (by grind) (by grind)
  rw[e] at u
  rcases u with u|u
  ·unfold bO at*;omega
  ·exfalso
   have j:=i.2 u.1
   apply h
   unfold gi
   rw[j.1,j.2];rfl
theorem rF {L M:Int} (h:bw L=true) (g:bw M=true) (e:bO (L+1)=bO (M+1)):L=M:=by
 rw[cY] at h g
 rcases Int.lt_trichotomy L M with l|l|l
 ·have:=fh (a:=L+1) (b:=M) (by omega);omega
 ·exact l
 ·have:=fh (a:=M+1) (b:=L) (by omega);omega
theorem Bm {t u:Rat} (e:turn t=turn u):bJ t=bJ u:=rF (dU t) (dU u) (by rw[←iQ,←iQ,e])
theorem se {n:Int} (h:bw n=true):bO (aQ n+1)=bO (n+1)+1:=by
 have s:=cT h
 have c:=(cY _).1 s.2.2.1
 have b:=hC (a:=n+1) (b:=aQ n) (by omega) fun m h1 h2=>s.2.2.2 m (by omega) h2
 omega
theorem A9 {t u:Rat} (e:turn u=turn t+1):bJ u=aQ (bJ t):=
 rF (dU u) (cT (dU t)).2.2.1 (by rw[←iQ,se (dU t),←iQ,e])
def tiV (t:Rat):Int:=(phU t*(1/12)).floor
theorem ut (t:Rat):12*((tiV t:Int):Rat)≤phU t∧phU t<12*((tiV t:Int):Rat)+12:=by
 have a:=eN (phU t*(1/12))
 have b:=fD (phU t*(1/12))
 unfold tiV
 constructor <;> grind
theorem Ag {t:Rat} {k:Int} (h:12*((k:Int):Rat)≤phU t):k≤tiV t:=Rat.le_floor_iff.2 (by grind)
theorem F8 {t:Rat} {k:Int} (h:phU t<12*((k:Int):Rat)):tiV t<k:=Rat.floor_lt_iff.2 (by grind)
theorem B4 (t:Rat):prt (bi t) 30=tiV t%30:=by
 rw[vG,tS (by decide),show((30:Int):Rat)/((360:Int):Rat)=1/12 by decide+kernel]
 rfl
theorem pv (t:Rat):turn t=tiV t/30:=by
 have k:=ut t
 have b:=dT t
 rw[fb] at b
 have e:=Int.mul_ediv_add_emod (tiV t) 30
 have m0:=Int.emod_nonneg (tiV t) (b:=30) (by omega)
 have m1:=Int.emod_lt_of_pos (tiV t) (b:=30) (by omega)
 have c0:=Rat.intCast_le_intCast.2 (show 30*(tiV t/30)≤tiV t by omega)
 have c1:=Rat.intCast_le_intCast.2 (show tiV t≤30*(tiV t/30)+29 by omega)
 rw[Rat.intCast_add,Rat.intCast_mul] at c1
 rw[Rat.intCast_mul] at c0
 rw[show((30:Int):Rat)=30 from rfl] at c0 c1
 rw[show((29:Int):Rat)=29 from rfl] at c1
 have l:((turn t:Int):Rat)<((tiV t/30+1:Int):Rat):=by rw[Rat.intCast_add,Rat.intCast_one];grind
 have g:((tiV t/30:Int):Rat)<((turn t+1:Int):Rat):=by rw[Rat.intCast_add,Rat.intCast_one];grind
 have:=Rat.intCast_lt_intCast.1 l
 have:=Rat.intCast_lt_intCast.1 g
 omega
theorem vX {t u:Rat} (h:t≤u):1098/100*(u-t)≤phU u-phU t∧phU u-phU t≤134/10*(u-t):=by
 have:=jm t (d:=u-t) (by grind)
 rwa[show t+(u-t)=u by grind] at this
theorem IU {lat:Rat} (lon:Rat) (h0: -60≤lat) (h1:lat≤60) (n:Int):tiV (riV lat lon n)≤tiV (riV lat lon (n+1))∧tiV (riV lat lon (n+1))≤tiV (riV lat lon n)+2:=by
 have s:=pm lon h0 h1 n
 have p:=vX (t:=riV lat lon n) (u:=riV lat lon (n+1)) (by grind)
 have b:=ut (riV lat lon n)
 refine⟨Ag (by grind),?_⟩
 have:=F8 (t:=riV lat lon (n+1)) (k:=tiV (riV lat lon n)+3) (by rw[Rat.intCast_add,show((3:Int):Rat)=3 from rfl];grind)
 omega
theorem KO {lat:Rat} (lon:Rat) (h0: -60≤lat) (h1:lat≤60) (n:Int):tiV (riV lat lon n)<tiV (riV lat lon (n+1+1)):=by
 have s:=pm lon h0 h1 n
 have s':=pm lon h0 h1 (n+1)
 have p:=vX (t:=riV lat lon n) (u:=riV lat lon (n+1+1)) (by grind)
 have b:=ut (riV lat lon n)
 have:=Ag (t:=riV lat lon (n+1+1)) (k:=tiV (riV lat lon n)+1) (by rw[Rat.intCast_add,Rat.intCast_one];grind)
 omega
theorem AN (t d:Rat):(ig (t+d)-ig t).abs ≤msz*(225/224)*(((360:Int):Rat)*(d/pam-1)).abs :=
 pz (n:=1) sZ (by decide+kernel) (by decide+kernel) (by decide+kernel) (by decide+kernel) (by rw[ec,Rat.intCast_one];grind)
theorem EG (t:Rat):360≤phU (t+299/10)-phU t:=by
 have a:=cP (vY t (299/10))
 have b:=cP (AN t (299/10))
 have ka:ssz*(225/224)*(((360:Int):Rat)*((299/10)/pay)).abs <116/100:=by decide+kernel
 have kb:msz*(225/224)*(((360:Int):Rat)*((299/10)/pam-1)).abs <275/100:=by decide+kernel
 have k:((360:Int):Rat)/psy=((360:Int):Rat)/pmo-((360:Int):Rat)/pyr:=by decide+kernel
 have k2:1219/100<((360:Int):Rat)/psy:=by decide+kernel
 have e:phU (t+299/10)-phU t=((360:Int):Rat)/psy*(299/10)-(ig (t+299/10)-ig t)+(dG (t+299/10)-dG t):=by
  unfold phU iC cm;rw[k,ec,ec,Rat.div_def,Rat.div_def,Rat.div_def,Rat.div_def];grind
 rw[e]
 generalize ((360:Int):Rat)/psy=y at*
 grind
theorem zx {L:Int} (h:bw L=true):turn (nmL L)=bO L∧turn (nmR L)=bO (L+1):=by
 have c:=(cY L).1 h
 have i:=(kH (nmL L) (d:=1/1024) (by decide+kernel) (by decide+kernel)).1 ⟨zI.1 (MR h),by rw[←sf];exact AR.1 (Mz h)⟩
 rw[←sf] at i
 have b:=kW L
 have l:=sf L
 have r:=JZ wax (lo:=((L:Int):Rat)) (hi:=(((L+1:Int)):Rat)) (by rw[eK];grind) 10
 have x:=jR (t:=((L:Int):Rat)) (u:=nmL L) r.1
 have y:=jR (t:=nmR L) (u:=(((L+1:Int)):Rat)) (by rw[eK];exact b.2)
 unfold bO at*
 omega
theorem nh (t:Rat):nmR (bJ t)-1/1024<t∧t<nmR (bJ t)+29902/1000:=by
 have e:=iQ t
 have h:=dU t
 generalize bJ t=L at*
 have n:=zx h
 have c:=(cY L).1 h
 have l:=sf L
 constructor
 ·refine Rat.not_le.1 fun q=>?_
  have:=jR (t:=t) (u:=nmL L) (by grind)
  omega
 ·refine Rat.not_le.1 fun q=>?_
  have g:=EG (nmR L)
  have a:=dT (nmR L)
  have b:=dT (nmR L+299/10)
  rw[fb] at*
  have u:((turn (nmR L):Int):Rat)<((turn (nmR L+299/10):Int):Rat):=by grind
  have:=Rat.intCast_lt_intCast.1 u
  have:=jR (t:=nmR L+299/10) (u:=t) (by grind)
  omega
theorem l9 {lat lon:Rat} (h0: -60≤lat) (h1:lat≤60) (l0: -180≤lon) (l1:lon≤180) (n:Int):((n:Int):Rat)-301/1000≤riV lat lon n∧riV lat lon n≤((n:Int):Rat)+17/10:=by
 have b:=iP ((n:Int):Rat) (qd:=1) (sg:=1) (.inl ⟨rfl,rfl⟩) h0 h1 l0 l1
 have g:=cS (co ((n:Int):Rat) lat lon 1 1)
 unfold riV
 constructor <;> grind
theorem Fk {lat lon:Rat} (h0: -60≤lat) (h1:lat≤60) (l0: -180≤lon) (l1:lon≤180) (n:Int) (g0:1≤smV (bJ (riV lat lon n))%12) (g1:smV (bJ (riV lat lon n))%12≤10):kaV (((n-1:Int)):Rat)/12=(smV (bJ (riV lat lon n))+1)/12:=by
 have r:=l9 h0 h1 l0 l1 n
 have m:=nh (riV lat lon n)
 have k:=jK (nmR (bJ (riV lat lon n)))
 have d:(((n-1:Int)):Rat)=((n:Int):Rat)-1:=by rw[Rat.intCast_sub,Rat.intCast_one]
 have e:kaV (nmR (bJ (riV lat lon n)))=smV (bJ (riV lat lon n)):=rfl
 rw[e] at k
 generalize smV (bJ (riV lat lon n))=s at*
 generalize nmR (bJ (riV lat lon n))=R at*
 have lo:s-1≤kaV (((n-1:Int)):Rat):=iZ (by
  rw[Rat.intCast_sub,Rat.intCast_one]
  by_cases q:R≤(((n-1:Int)):Rat)
  ·have:=dK q;grind
  ·have:=dK (t:=(((n-1:Int)):Rat)) (u:=R) (by grind);grind)
 have hi:kaV (((n-1:Int)):Rat)<s+2:=j8 (by
  rw[Rat.intCast_add,show((2:Int):Rat)=2 from rfl]
  by_cases q:R≤(((n-1:Int)):Rat)
  ·have:=dK q;grind
  ·have:=dK (t:=(((n-1:Int)):Rat)) (u:=R) (by grind);grind)
 omega
theorem EV {lat lon:Rat} (h0: -60≤lat) (h1:lat≤60) (l0: -180≤lon) (l1:lon≤180) (n:Int) (g:¬(1≤smV (bJ (riV lat lon n))%12∧smV (bJ (riV lat lon n))%12≤10)):kaV (((n+180:Int)):Rat)/12=(smV (bJ (riV lat lon n))+1)/12:=by
 have r:=l9 h0 h1 l0 l1 n
 have m:=nh (riV lat lon n)
 have k:=jK (nmR (bJ (riV lat lon n)))
 have d:(((n+180:Int)):Rat)=((n:Int):Rat)+180:=by rw[Rat.intCast_add];rfl
 have e:kaV (nmR (bJ (riV lat lon n)))=smV (bJ (riV lat lon n)):=rfl
 rw[e] at k
 generalize smV (bJ (riV lat lon n))=s at*
 generalize nmR (bJ (riV lat lon n))=R at*
 have a:=dK (t:=R) (u:=(((n+180:Int)):Rat)) (by grind)
 have lo:s+5≤kaV (((n+180:Int)):Rat):=iZ (by rw[Rat.intCast_add s 5,show((5:Int):Rat)=5 from rfl];grind)
 have hi:kaV (((n+180:Int)):Rat)<s+9:=j8 (by rw[Rat.intCast_add s 9,show((9:Int):Rat)=9 from rfl];grind)
 omega
theorem KW {C:Int→Rat} (near:lf C) {lat lon:Rat} (h0: -60≤lat) (h1:lat≤60) (l0: -180≤lon) (l1:lon≤180) (n:Int):smV (bJ (riV lat lon n))-1≤kaV (C n)∧kaV (C n)≤smV (bJ (riV lat lon n))+2:=by
 have r:=l9 h0 h1 l0 l1 n
 have m:=nh (riV lat lon n)
 have k:=jK (nmR (bJ (riV lat lon n)))
 have c:=near n
 have e:kaV (nmR (bJ (riV lat lon n)))=smV (bJ (riV lat lon n)):=rfl
 rw[e] at k
 generalize smV (bJ (riV lat lon n))=s at*
 generalize nmR (bJ (riV lat lon n))=R at*
 have lo:s-1≤kaV (C n):=iZ (by
  rw[Rat.intCast_sub,Rat.intCast_one]
  by_cases q:R≤C n
  ·have:=dK q;grind
  ·have:=dK (t:=C n) (u:=R) (by grind);grind)
 have hi:kaV (C n)<s+3:=j8 (by
  rw[Rat.intCast_add,show((3:Int):Rat)=3 from rfl]
  by_cases q:R≤C n
  ·have:=dK q;grind
  ·have:=dK (t:=C n) (u:=R) (by grind);grind)
 omega
theorem H4 {lat lon:Rat} (h0: -60≤lat) (h1:lat≤60) (l0: -180≤lon) (l1:lon≤180) (n:Int):bJ (riV lat lon n)≤n+2∧n≤aQ (bJ (riV lat lon n))+1∧n-40≤bJ (riV lat lon n):=by
 have r:=l9 h0 h1 l0 l1 n
 have e:=iQ (riV lat lon n)
 have h:=dU (riV lat lon n)
 have m:=nh (riV lat lon n)
 generalize bJ (riV lat lon n)=L at*
 generalize riV lat lon n=t at*
 have b:=kW L
 have s:=cT h
 have x:=kW (aQ L)
 have p:=zx s.2.2.1
 have q:=se h
 have lt:t<nmR (aQ L):=Rat.not_le.1 fun y=>by have:=jR y;omega
 refine⟨?_,?_,?_⟩
 ·have l:((L:Int):Rat)<((n+2:Int):Rat):=by rw[Rat.intCast_add,show((2:Int):Rat)=2 from rfl];grind
  have:=Rat.intCast_lt_intCast.1 l
  omega
 ·have l:((n:Int):Rat)<((aQ L+2:Int):Rat):=by rw[Rat.intCast_add,show((2:Int):Rat)=2 from rfl];grind
  have:=Rat.intCast_lt_intCast.1 l
  omega
 ·have l:((n-40:Int):Rat)<((L:Int):Rat):=by rw[Rat.intCast_sub,show((40:Int):Rat)=40 from rfl];grind
  have:=Rat.intCast_lt_intCast.1 l
  omega
theorem zQ {x y:Rat} (h:x≤y):bX x≤bX y:=by
 have p:(0:Rat)≤((1048576:Int):Rat):=by decide
 have f:(x*((1048576:Int):Rat)).floor ≤(y*((1048576:Int):Rat)).floor :=Rat.le_floor_iff.2 (Rat.le_trans (eN _) (Rat.mul_le_mul_of_nonneg_right h p))
 unfold bX
 exact Rat.mul_le_mul_of_nonneg_right (Rat.intCast_le_intCast.2 f) (by decide+kernel)
theorem Jv {t u:Rat} (h:t≤u) (g:u≤t+26/100):tiV t≤tiV u∧tiV u≤tiV t+1:=by
 have p:=vX h
 have b:=ut t
 refine⟨Ag (by grind),?_⟩
 have:=F8 (t:=u) (k:=tiV t+2) (by rw[Rat.intCast_add,show((2:Int):Rat)=2 from rfl];grind)
 omega
def amX (n a b c d:Int):Int:=tiV (bX (dN n a b c d))
noncomputable def amL (n a b c d:Int):Int:=bJ (bX (dN n a b c d))
def j4 (n m:Int):Int:=kaV (((if m=1∨m=2 then n+180 else n-1:Int)):Rat)/12-1955883044
theorem M8 (n a b c d:Int):bX (dN n a b c d)=riV (((a:Int):Rat)/((b:Int):Rat)) (((c:Int):Rat)/((d:Int):Rat)) n:=rfl
theorem mK {a b c d:Int} (h:cf a b c d) (n:Int):amX n a b c d≤amX (n+1) a b c d∧amX (n+1) a b c d≤amX n a b c d+2:=IU _ h.la.1 h.la.2 n
theorem Lx {a b c d:Int} (h:cf a b c d) (n:Int):amX (n-1) a b c d<amX (n+1) a b c d:=by
 have t:amX (n-1) a b c d<amX (n-1+1+1) a b c d:=KO (((c:Int):Rat)/((d:Int):Rat)) h.la.1 h.la.2 (n-1)
 rwa[show n-1+1+1=n+1 by omega] at t
theorem yf {m n a b c d e f g h:Int} (q:amX m a b c d/30=amX n e f g h/30):amL m a b c d=amL n e f g h:=Bm (by rw[pv,pv];exact q)
theorem IK {m n a b c d:Int} (q:amX m a b c d/30=amX n a b c d/30+1):amL m a b c d=aQ (amL n a b c d):=A9 (by rw[pv,pv];exact q)
theorem jp (n a b c d:Int):bw (amL n a b c d)=true:=dU _
theorem pt {a b c d:Int} (h:cf a b c d) (n:Int):n-1≤(bX (dN n a b c d)).floor ∧(bX (dN n a b c d)).floor ≤n+2:=by
 have r:=l9 h.la.1 h.la.2 h.lo.1 h.lo.2 n
 rw[M8]
 generalize riV (((a:Int):Rat)/((b:Int):Rat)) (((c:Int):Rat)/((d:Int):Rat)) n=x at*
 have l:n-1≤x.floor:=Rat.le_floor_iff.2 (by rw[Rat.intCast_sub,Rat.intCast_one];grind)
 have g:x.floor<n+2:=Rat.floor_lt_iff.2 (by rw[Rat.intCast_add,show((2:Int):Rat)=2 from rfl];grind)
 omega
theorem H5 {a b c d:Int} (h:cf a b c d) (n:Int):amL n a b c d≤n+2∧n≤aQ (amL n a b c d)+1∧n-40≤amL n a b c d:=H4 h.la.1 h.la.2 h.lo.1 h.lo.2 n
theorem uD {n:Int} (h0: -3900000≤n) (h1:n≤3900000):12*(1955880000+3179-11000)≤kaV ((n:Int):Rat)∧kaV ((n:Int):Rat)<12*(1955880000+3179+11000):=by
 have a:=Rat.intCast_le_intCast.2 h0
 have b:=Rat.intCast_le_intCast.2 h1
 rw[show((-3900000:Int):Rat)= -3900000 from rfl] at a
 rw[show((3900000:Int):Rat)=3900000 from rfl] at b
 exact Gd (by grind) (by grind)
theorem xY {a b c d:Int} (h:cf a b c d) {n L:Int} (e:amL n a b c d=L):j4 n ((smV L+1)%12+1)=(smV L+1)/12-1955883044:=by
 subst e
 unfold j4
 by_cases g:1≤smV (amL n a b c d)%12∧smV (amL n a b c d)%12≤10
 ·rw[if_neg (by omega),show kaV (((n-1:Int)):Rat)/12=(smV (amL n a b c d)+1)/12 from Fk h.la.1 h.la.2 h.lo.1 h.lo.2 n g.1 g.2]
 ·rw[if_pos (by omega),show kaV (((n+180:Int)):Rat)/12=(smV (amL n a b c d)+1)/12 from EV h.la.1 h.la.2 h.lo.1 h.lo.2 n g]
theorem J9 (r:Int) {a b c d:Int} (h:cf a b c d) (n:Int):smV (amL n a b c d)-1≤kaV (cW r n a b c d)∧kaV (cW r n a b c d)≤smV (amL n a b c d)+2:=KW (ko r h) h.la.1 h.la.2 h.lo.1 h.lo.2 n
theorem Hb {a b c d f g:Int} (n:Int) (h0:0≤((c:Int):Rat)/((d:Int):Rat)-((f:Int):Rat)/((g:Int):Rat)) (h1:((c:Int):Rat)/((d:Int):Rat)-((f:Int):Rat)/((g:Int):Rat)≤((90:Int):Rat)):amX n a b c d≤amX n a b f g∧amX n a b f g≤amX n a b c d+1:=by
 have e:dN n a b f g=dN n a b c d+(((c:Int):Rat)/((d:Int):Rat)-((f:Int):Rat)/((g:Int):Rat))*(1/360):=by
  show co _ _ _ _ _=co _ _ _ _ _+_
  unfold co kl
  rw[show((1:Int):Rat)/((360:Int):Rat)=1/360 by decide+kernel]
  grind
 rw[show((90:Int):Rat)=90 from rfl] at h1
 generalize ((c:Int):Rat)/((d:Int):Rat)-((f:Int):Rat)/((g:Int):Rat)=z at*
 have x:=cS (dN n a b c d)
 have y:=cS (dN n a b f g)
 exact Jv (zQ (by rw[e];grind)) (by rw[e] at*;grind)
theorem GT {y m d y' m' d':Int} {l g l' g':Bool} (hy:y=y') (hm:m=m') (hl:l=l') (hd:d=d') (hg:g=g'):Ending.returned (.agg #[.int .i64 y,.int .i64 m,.bool l,.int .i64 d,.bool g])= .returned (.agg #[.int .i64 y',.int .i64 m',.bool l',.int .i64 d',.bool g']):=by rw[hy,hm,hl,hd,hg]
theorem Nq {a b c d:Int} (h:cf a b c d) (n:Int):(amX (n-1) a b c d≤amX n a b c d∧amX n a b c d≤amX (n+1) a b c d∧amX (n+1) a b c d≤amX n a b c d+2∧amX (n-1) a b c d<amX (n+1) a b c d)∧
 (amX (n+1) a b c d/30=amX n a b c d/30∧smV (amL (n+1) a b c d)=smV (amL n a b c d)∧smV (aQ (amL (n+1) a b c d))=smV (aQ (amL n a b c d))∨
  amX (n+1) a b c d/30=amX n a b c d/30+1∧smV (amL (n+1) a b c d)=smV (aQ (amL n a b c d))∧smV (amL n a b c d)≤smV (aQ (amL n a b c d))∧smV (aQ (amL n a b c d))≤smV (amL n a b c d)+2∧smV (amL n a b c d)<smV (aQ (amL (n+1) a b c d))):=by
 have s:=mK h n
 have p:=mK h (n-1)
 rw[show n-1+1=n by omega] at p
 refine⟨⟨p.1,s.1,s.2,Lx h n⟩,?_⟩
 have m:amX (n+1) a b c d/30=amX n a b c d/30∨amX (n+1) a b c d/30=amX n a b c d/30+1:=by omega
 rcases m with m|m
 ·exact .inl ⟨m,by rw[yf m],by rw[yf m]⟩
 ·have e:=IK m
  have g:=pM (jp n a b c d)
  have t:=LY (jp n a b c d)
  rw[e]
  exact .inr ⟨m,rfl,g.1,g.2,t⟩
end Go.Proofs.YtdbiegfmgabicaaGreatDoor
