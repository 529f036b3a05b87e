import Derived.Test.YtgdpkknapcgcbaaGreatDoorKD31
namespace Go.Proofs.YtgdpkknapcgcbaaGreatDoor
open Go.RowKit
set_option maxRecDepth 100000
set_option linter.unusedVariables false
set_option maxHeartbeats 8000000
theorem iq {t u:Rat} (h:t<=u):turn t<=turn u:=by
 have r:=(i7 t (d:=u-t) (by grind)).1
 rw[show t+(u-t)=u by grind] at r
 have a:=cN t
 have b:=cN u
 rw[dE] at*
 have l:((turn t:Int):Rat)<((turn u+1:Int):Rat):=by rw[Rat.intCast_add,Rat.intCast_one];grind
 have:=Rat.intCast_lt_intCast.1 l
 omega
theorem lB (t:Rat):turn t=aD (bm t+1):=by
 have f0:=cY t
 have f1:=dr t
 have e:((t.floor:Int):Rat)+(t-((t.floor:Int):Rat))=t:=by grind
 have i:=lr ((t.floor:Int):Rat) (d:=t-((t.floor:Int):Rat)) (by grind) (by grind)
 rw[e] at i
 by_cases h:kQ t=true
 ·rw[lT h]
  have c:=(bZ _).1 (qC h)
  unfold kQ at h
  rw[Bool.and_eq_true,Bool.not_eq_true'] at h
  have j:=i.1 h
  unfold aD at*
  omega
 ·rw[nX h]
  have s:=bE t.floor
  have b:=gJ (a:=be t.floor+1) (b:=t.floor) (by omega) fun m h1 h2=>s.2.2.2 m (by omega) h2
  have u:=jI ((t.floor:Int):Rat) (d:=t-((t.floor:Int):Rat)) (by grind) (by grind)
  rw[e] at u
  rcases u with u|u
  ·unfold aD at*;omega
  ·exfalso
   have j:=i.2 u.1
   apply h
   unfold kQ
   rw[j.1,j.2];rfl
theorem xf {L M:Int} (h:aF L=true) (g:aF M=true) (e:aD (L+1)=aD (M+1)):L=M:=by
 rw[bZ] at h g
 rcases Int.lt_trichotomy L M with l|l|l
 ·have:=cA (a:=L+1) (b:=M) (by omega);omega
 ·exact l
 ·have:=cA (a:=M+1) (b:=L) (by omega);omega
theorem fK {n:Int} (h:aF n=true):aD (az n+1)=aD (n+1)+1:=by
 have s:=bD h
 have c:=(bZ _).1 s.2.2.1
 have b:=gJ (a:=n+1) (b:=az n) (by omega) fun m h1 h2=>s.2.2.2 m (by omega) h2
 omega
def tiV (t:Rat):Int:=(phU t*(1/12)).floor
theorem rx (t:Rat):12*((tiV t:Int):Rat)<=phU t/\phU t<12*((tiV t:Int):Rat)+12:=by
 have a:=cY (phU t*(1/12))
 have b:=dr (phU t*(1/12))
 unfold tiV
 constructor <;> grind
theorem xe {t:Rat} {k:Int} (h:12*((k:Int):Rat)<=phU t):k<=tiV t:=Rat.le_floor_iff.2 (by grind)
theorem H0 {t:Rat} {k:Int} (h:phU t<12*((k:Int):Rat)):tiV t<k:=Rat.floor_lt_iff.2 (by grind)
theorem Ga (t:Rat):prt (bf t) 30=tiV t%30:=by
 rw[sD,qS (by decide),show((30:Int):Rat)/((360:Int):Rat)=1/12 by decide+kernel]
 rfl
theorem EU (t:Rat):turn t=tiV t/30:=by
 have k:=rx t
 have b:=cN t
 rw[dE] at b
 have e:=Int.mul_ediv_add_emod (tiV t) 30
 have m0:=Int.emod_nonneg (tiV t) (b:=30) (by omega)
 have m1:=Int.emod_lt_of_pos (tiV t) (b:=30) (by omega)
 have c0:=Rat.intCast_le_intCast.2 (show 30*(tiV t/30)<=tiV t by omega)
 have c1:=Rat.intCast_le_intCast.2 (show tiV t<=30*(tiV t/30)+29 by omega)
 rw[Rat.intCast_add,Rat.intCast_mul] at c1
 rw[Rat.intCast_mul] at c0
 rw[show((30:Int):Rat)=30 from rfl] at c0 c1
 rw[show((29:Int):Rat)=29 from rfl] at c1
 have l:((turn t:Int):Rat)<((tiV t/30+1:Int):Rat):=by rw[Rat.intCast_add,Rat.intCast_one];grind
 have g:((tiV t/30:Int):Rat)<((turn t+1:Int):Rat):=by rw[Rat.intCast_add,Rat.intCast_one];grind
 have:=Rat.intCast_lt_intCast.1 l
 have:=Rat.intCast_lt_intCast.1 g
 omega
theorem iC {t u:Rat} (h:t<=u):1098/100*(u-t)<=phU u-phU t/\phU u-phU t<=134/10*(u-t):=by
 have:=i7 t (d:=u-t) (by grind)
 rwa[show t+(u-t)=u by grind] at this
theorem vB {lat:Rat} (lon:Rat) (h0: -60<=lat) (h1:lat<=60) (n:Int):tiV (riV lat lon n)<=tiV (riV lat lon (n+1))/\tiV (riV lat lon (n+1))<=tiV (riV lat lon n)+2:=by
 have s:=mD lon h0 h1 n
 have p:=iC (t:=riV lat lon n) (u:=riV lat lon (n+1)) (by grind)
 have b:=rx (riV lat lon n)
 refine⟨xe (by grind),?_⟩
 have:=H0 (t:=riV lat lon (n+1)) (k:=tiV (riV lat lon n)+3) (by rw[Rat.intCast_add,show((3:Int):Rat)=3 from rfl];grind)
 omega
theorem Gt {lat:Rat} (lon:Rat) (h0: -60<=lat) (h1:lat<=60) (n:Int):tiV (riV lat lon n)<tiV (riV lat lon (n+1+1)):=by
 have s:=mD lon h0 h1 n
 have s':=mD lon h0 h1 (n+1)
 have p:=iC (t:=riV lat lon n) (u:=riV lat lon (n+1+1)) (by grind)
 have b:=rx (riV lat lon n)
 have:=xe (t:=riV lat lon (n+1+1)) (k:=tiV (riV lat lon n)+1) (by rw[Rat.intCast_add,Rat.intCast_one];grind)
 omega
theorem lj (t d:Rat):(eM (t+d)-eM t).abs <=msz*(225/224)*(((360:Int):Rat)*(d/pam-1)).abs :=
 jZ (n:=1) pM (by decide+kernel) (by decide+kernel) (by decide+kernel) (by decide+kernel) (by rw[cF,Rat.intCast_one];grind)
theorem Aw (t:Rat):360<=phU (t+299/10)-phU t:=by
 have a:=br (k5 t (299/10))
 have b:=br (lj t (299/10))
 have ka:ssz*(225/224)*(((360:Int):Rat)*((299/10)/pay)).abs <116/100:=by decide+kernel
 have kb:msz*(225/224)*(((360:Int):Rat)*((299/10)/pam-1)).abs <275/100:=by decide+kernel
 have k:((360:Int):Rat)/psy=((360:Int):Rat)/pmo-((360:Int):Rat)/pyr:=by decide+kernel
 have k2:1219/100<((360:Int):Rat)/psy:=by decide+kernel
 have e:phU (t+299/10)-phU t=((360:Int):Rat)/psy*(299/10)-(eM (t+299/10)-eM t)+(cj (t+299/10)-cj t):=by
  unfold phU fL a7;rw[k,cF,cF,Rat.div_def,Rat.div_def,Rat.div_def,Rat.div_def];grind
 rw[e]
 generalize ((360:Int):Rat)/psy=y at*
 grind
theorem pS {L:Int} (h:aF L=true):turn (nmL L)=aD L/\turn (nmR L)=aD (L+1):=by
 have c:=(bZ L).1 h
 have i:=(lr (nmL L) (d:=1/1024) (by decide+kernel) (by decide+kernel)).1 ⟨Ck.1 (Ir h),by rw[<-ki];exact Cf.1 (Hw h)⟩
 rw[<-ki] at i
 have b:=dR L
 have l:=ki L
 have r:=yb wax (lo:=((L:Int):Rat)) (hi:=(((L+1:Int)):Rat)) (by rw[cQ];grind) 10
 have x:=iq (t:=((L:Int):Rat)) (u:=nmL L) r.1
 have y:=iq (t:=nmR L) (u:=(((L+1:Int)):Rat)) (by rw[cQ];exact b.2)
 unfold aD at*
 omega
theorem kZ (t:Rat):nmR (bm t)-1/1024<t/\t<nmR (bm t)+29902/1000:=by
 have e:=lB t
 have h:=fO t
 generalize bm t=L at*
 have n:=pS h
 have c:=(bZ L).1 h
 have l:=ki L
 constructor
 ·refine Rat.not_le.1 fun q=>?_
  have:=iq (t:=t) (u:=nmL L) (by grind)
  omega
 ·refine Rat.not_le.1 fun q=>?_
  have g:=Aw (nmR L)
  have a:=cN (nmR L)
  have b:=cN (nmR L+299/10)
  rw[dE] at*
  have u:((turn (nmR L):Int):Rat)<((turn (nmR L+299/10):Int):Rat):=by grind
  have:=Rat.intCast_lt_intCast.1 u
  have:=iq (t:=nmR L+299/10) (u:=t) (by grind)
  omega
theorem kF {lat lon:Rat} (h0: -60<=lat) (h1:lat<=60) (l0: -180<=lon) (l1:lon<=180) (n:Int):((n:Int):Rat)-301/1000<=riV lat lon n/\riV lat lon n<=((n:Int):Rat)+17/10:=by
 have b:=gf ((n:Int):Rat) (qd:=1) (sg:=1) (.inl ⟨rfl,rfl⟩) h0 h1 l0 l1
 have g:=bW (bn ((n:Int):Rat) lat lon 1 1)
 unfold riV
 constructor <;> grind
theorem Ar {lat lon:Rat} (h0: -60<=lat) (h1:lat<=60) (l0: -180<=lon) (l1:lon<=180) (n:Int) (g0:1<=smV (bm (riV lat lon n))%12) (g1:smV (bm (riV lat lon n))%12<=10):kaV (((n-1:Int)):Rat)/12=(smV (bm (riV lat lon n))+1)/12:=by
 have r:=kF h0 h1 l0 l1 n
 have m:=kZ (riV lat lon n)
 have k:=eS (nmR (bm (riV lat lon n)))
 have d:(((n-1:Int)):Rat)=((n:Int):Rat)-1:=by rw[Rat.intCast_sub,Rat.intCast_one]
 have e:kaV (nmR (bm (riV lat lon n)))=smV (bm (riV lat lon n)):=rfl
 rw[e] at k
 generalize smV (bm (riV lat lon n))=s at*
 generalize nmR (bm (riV lat lon n))=R at*
 have lo:s-1<=kaV (((n-1:Int)):Rat):=hO (by
  rw[Rat.intCast_sub,Rat.intCast_one]
  by_cases q:R<=(((n-1:Int)):Rat)
  ·have:=cB q;grind
  ·have:=cB (t:=(((n-1:Int)):Rat)) (u:=R) (by grind);grind)
 have hi:kaV (((n-1:Int)):Rat)<s+2:=iL (by
  rw[Rat.intCast_add,show((2:Int):Rat)=2 from rfl]
  by_cases q:R<=(((n-1:Int)):Rat)
  ·have:=cB q;grind
  ·have:=cB (t:=(((n-1:Int)):Rat)) (u:=R) (by grind);grind)
 omega
theorem Au {lat lon:Rat} (h0: -60<=lat) (h1:lat<=60) (l0: -180<=lon) (l1:lon<=180) (n:Int) (g:¬(1<=smV (bm (riV lat lon n))%12/\smV (bm (riV lat lon n))%12<=10)):kaV (((n+180:Int)):Rat)/12=(smV (bm (riV lat lon n))+1)/12:=by
 have r:=kF h0 h1 l0 l1 n
 have m:=kZ (riV lat lon n)
 have k:=eS (nmR (bm (riV lat lon n)))
 have d:(((n+180:Int)):Rat)=((n:Int):Rat)+180:=by rw[Rat.intCast_add];rfl
 have e:kaV (nmR (bm (riV lat lon n)))=smV (bm (riV lat lon n)):=rfl
 rw[e] at k
 generalize smV (bm (riV lat lon n))=s at*
 generalize nmR (bm (riV lat lon n))=R at*
 have a:=cB (t:=R) (u:=(((n+180:Int)):Rat)) (by grind)
 have lo:s+5<=kaV (((n+180:Int)):Rat):=hO (by rw[Rat.intCast_add s 5,show((5:Int):Rat)=5 from rfl];grind)
 have hi:kaV (((n+180:Int)):Rat)<s+9:=iL (by rw[Rat.intCast_add s 9,show((9:Int):Rat)=9 from rfl];grind)
 omega
theorem Ei {lat lon:Rat} (h0: -60<=lat) (h1:lat<=60) (l0: -180<=lon) (l1:lon<=180) (n:Int):bm (riV lat lon n)<=n+2/\n<=az (bm (riV lat lon n))+1/\n-40<=bm (riV lat lon n):=by
 have r:=kF h0 h1 l0 l1 n
 have e:=lB (riV lat lon n)
 have h:=fO (riV lat lon n)
 have m:=kZ (riV lat lon n)
 generalize bm (riV lat lon n)=L at*
 generalize riV lat lon n=t at*
 have b:=dR L
 have s:=bD h
 have x:=dR (az L)
 have p:=pS s.2.2.1
 have q:=fK h
 have lt:t<nmR (az L):=Rat.not_le.1 fun y=>by have:=iq y;omega
 refine⟨?_,?_,?_⟩
 ·have l:((L:Int):Rat)<((n+2:Int):Rat):=by rw[Rat.intCast_add,show((2:Int):Rat)=2 from rfl];grind
  have:=Rat.intCast_lt_intCast.1 l
  omega
 ·have l:((n:Int):Rat)<((az L+2:Int):Rat):=by rw[Rat.intCast_add,show((2:Int):Rat)=2 from rfl];grind
  have:=Rat.intCast_lt_intCast.1 l
  omega
 ·have l:((n-40:Int):Rat)<((L:Int):Rat):=by rw[Rat.intCast_sub,show((40:Int):Rat)=40 from rfl];grind
  have:=Rat.intCast_lt_intCast.1 l
  omega
def fiE (y m:Int):Int:=(cw (12*(y+3044)+(m-2))).floor
def fiS (y m:Int):Int:=12*(y+3044)+(m-2)+23470560000
theorem iB {n y m:Int} (h:smV n=fiS y m):fiE y m-4<=n/\n<=fiE y m+35:=by
 have f0:=cY (cw (12*(y+3044)+(m-2)))
 have f1:=dr (cw (12*(y+3044)+(m-2)))
 have u:=mP (12*(y+3044)+(m-2))
 have e:=br (eQ (cw (12*(y+3044)+(m-2))))
 rw[show((22:Int):Rat)/((10:Int):Rat)=22/10 by decide+kernel] at e
 have k:=eS (nmR n)
 have b:=dR n
 rw[show kaV (nmR n)=smV n from rfl,h] at k
 unfold fiE fiS at*
 generalize 12*(y+3044)+(m-2)=s at*
 generalize cw s=E at*
 generalize nmR n=R at*
 constructor
 ·refine Int.not_lt.1 fun q=>?_
  have q2:=Rat.intCast_le_intCast.2 (show n+5<=E.floor by omega)
  rw[Rat.intCast_add,show((5:Int):Rat)=5 from rfl] at q2
  have a:=cB (t:=R) (u:=E) (by grind)
  grind
 ·refine Int.not_lt.1 fun q=>?_
  have q2:=Rat.intCast_le_intCast.2 (show E.floor+36<=n by omega)
  rw[Rat.intCast_add,show((36:Int):Rat)=36 from rfl] at q2
  have a:=cB (t:=E) (u:=R) (by grind)
  grind
theorem Im {n y m:Int} (h0:fiE y m-5<=n) (h1:n<=fiE y m+40) (e:(smV n+1)%12+1=m):smV n=fiS y m:=by
 have f0:=cY (cw (12*(y+3044)+(m-2)))
 have f1:=dr (cw (12*(y+3044)+(m-2)))
 have u:=mP (12*(y+3044)+(m-2))
 have ee:=br (eQ (cw (12*(y+3044)+(m-2))))
 rw[show((22:Int):Rat)/((10:Int):Rat)=22/10 by decide+kernel] at ee
 have b:=dR n
 have lo:fiS y m-1<=kaV (nmR n)/\kaV (nmR n)<fiS y m+2:=by
  unfold fiE fiS at*
  generalize 12*(y+3044)+(m-2)=s at*
  generalize cw s=E at*
  generalize nmR n=R at*
  have q0:=Rat.intCast_le_intCast.2 h0
  have q1:=Rat.intCast_le_intCast.2 h1
  rw[Rat.intCast_sub,show((5:Int):Rat)=5 from rfl] at q0
  rw[Rat.intCast_add,show((40:Int):Rat)=40 from rfl] at q1
  constructor
  ·refine hO ?_
   rw[Rat.intCast_sub,Rat.intCast_one]
   by_cases q:E<=R
   ·have:=cB q;grind
   ·have:=cB (t:=R) (u:=E) (by grind);grind
  ·refine iL ?_
   rw[Rat.intCast_add,show((2:Int):Rat)=2 from rfl]
   by_cases q:E<=R
   ·have:=cB q;grind
   ·have:=cB (t:=R) (u:=E) (by grind);grind
 have x:kaV (nmR n)=smV n:=rfl
 unfold fiS at*
 omega
theorem CR {s y m:Int} (hm:1<=m) (hm2:m<=12):s=fiS y m↔(s+1)/12-1955880000-3044=y/\(s+1)%12+1=m:=by
 unfold fiS
 omega
theorem HK {lat:Rat} (lon:Rat) (h0: -60<=lat) (h1:lat<=60) {m n:Int} (l:m<=n):tiV (riV lat lon m)<=tiV (riV lat lon n):=by
 have key:∀k:Nat,tiV (riV lat lon m)<=tiV (riV lat lon (m+k)):=by
  intro k
  induction k with
  |zero=>rw[show m+((0:Nat):Int)=m by omega];exact Int.le_refl _
  |succ k ih=>
   rw[show m+(((k+1:Nat)):Int)=m+k+1 by omega]
   have:=(vB lon h0 h1 (m+k)).1
   omega
 have:=key (n-m).toNat
 rwa[show m+(((n-m).toNat :Nat):Int)=n by omega] at this
def amX (n a b c d:Int):Int:=tiV (bK (dF n a b c d))
noncomputable def amL (n a b c d:Int):Int:=bm (bK (dF n a b c d))
def nL (n m:Int):Int:=kaV (((if m=1\/m=2 then n+180 else n-1:Int)):Rat)/12-1955883044
theorem He (n a b c d:Int):bK (dF n a b c d)=riV (((a:Int):Rat)/((b:Int):Rat)) (((c:Int):Rat)/((d:Int):Rat)) n:=rfl
theorem EN {a b c d:Int} (h:aZ a b c d) (n:Int):amX n a b c d<=amX (n+1) a b c d/\amX (n+1) a b c d<=amX n a b c d+2:=vB _ h.la.1 h.la.2 n
theorem FK {a b c d:Int} (h:aZ a b c d) (n:Int):amX (n-1) a b c d<amX (n+1) a b c d:=by
 have t:amX (n-1) a b c d<amX (n-1+1+1) a b c d:=Gt (((c:Int):Rat)/((d:Int):Rat)) h.la.1 h.la.2 (n-1)
 rwa[show n-1+1+1=n+1 by omega] at t
theorem nU (n a b c d:Int):aF (amL n a b c d)=true:=fO _
theorem ru {a b c d:Int} (h:aZ a b c d) (n:Int):n-1<=(bK (dF n a b c d)).floor /\(bK (dF n a b c d)).floor <=n+2:=by
 have r:=kF h.la.1 h.la.2 h.lo.1 h.lo.2 n
 rw[He]
 generalize riV (((a:Int):Rat)/((b:Int):Rat)) (((c:Int):Rat)/((d:Int):Rat)) n=x at*
 have l:n-1<=x.floor:=Rat.le_floor_iff.2 (by rw[Rat.intCast_sub,Rat.intCast_one];grind)
 have g:x.floor<n+2:=Rat.floor_lt_iff.2 (by rw[Rat.intCast_add,show((2:Int):Rat)=2 from rfl];grind)
 omega
theorem D1 {a b c d:Int} (h:aZ a b c d) (n:Int):amL n a b c d<=n+2/\n<=az (amL n a b c d)+1/\n-40<=amL n a b c d:=Ei h.la.1 h.la.2 h.lo.1 h.lo.2 n
theorem Ci {n:Int} (h0: -3900000<=n) (h1:n<=3900000):12*(1955880000+3179-11000)<=kaV ((n:Int):Rat)/\kaV ((n:Int):Rat)<12*(1955880000+3179+11000):=by
 have a:=Rat.intCast_le_intCast.2 h0
 have b:=Rat.intCast_le_intCast.2 h1
 rw[show((-3900000:Int):Rat)= -3900000 from rfl] at a
 rw[show((3900000:Int):Rat)=3900000 from rfl] at b
 exact C0 (by grind) (by grind)
theorem EF {a b c d:Int} (h:aZ a b c d) {n L:Int} (e:amL n a b c d=L):nL n ((smV L+1)%12+1)=(smV L+1)/12-1955883044:=by
 subst e
 unfold nL
 by_cases g:1<=smV (amL n a b c d)%12/\smV (amL n a b c d)%12<=10
 ·rw[if_neg (by omega),show kaV (((n-1:Int)):Rat)/12=(smV (amL n a b c d)+1)/12 from Ar h.la.1 h.la.2 h.lo.1 h.lo.2 n g.1 g.2]
 ·rw[if_pos (by omega),show kaV (((n+180:Int)):Rat)/12=(smV (amL n a b c d)+1)/12 from Au h.la.1 h.la.2 h.lo.1 h.lo.2 n g]
theorem Hv {y m d y' m' d':Int} {l g l' g':Bool} (hy:y=y') (hm:m=m') (hl:l=l') (hd:d=d') (hg:g=g'):Ending.returned (.agg #[iv y,iv m,.bool l,iv d,.bool g])= .returned (.agg #[iv y',iv m',.bool l',iv d',.bool g']):=by rw[hy,hm,hl,hd,hg]
def fiB (y m n:Int):Bool:=decide (smV n=fiS y m)
noncomputable def gZ:List Int->List Value
 |[]=>[]
 |n::l=>moC n (az n)++gZ l
theorem tm:∀k l:List Int,gZ (k++l)=gZ k++gZ l
 |[],_=>rfl
 |n::k,l=>by show moC n (az n)++gZ (k++l)=(moC n (az n)++gZ k)++gZ l;rw[tm k l,List.append_assoc]
theorem sl (y m:Int):fiE y m-39<=bm (((fiE y m-5:Int)):Rat)/\bm (((fiE y m-5:Int)):Rat)<=fiE y m-5/\aF (bm (((fiE y m-5:Int)):Rat))=true:=by
 have b:=su (((fiE y m-5:Int)):Rat)
 rw[Rat.floor_intCast] at b
 exact⟨by omega,b.2,fO _⟩
theorem EP {y m n:Int} (hm:1<=m) (hm2:m<=12) (h1:n<=fiE y m+40):fiB y m n=true↔fiE y m-5<=n/\(smV n+1)%12+1=m:=by
 unfold fiB
 rw[decide_eq_true_iff]
 constructor
 ·intro e
  have w:=iB e
  have:=(CR (s:=smV n) (y:=y) hm hm2).1 e
  omega
 ·intro e
  exact Im e.1 h1 e.2
theorem kD {y m:Int} (h0: -9000<=y) (h1:y<=9000) (hm:1<=m) (hm2:m<=12): -3400000<=fiE y m/\fiE y m<=3400000:=by
 have a:=Rat.intCast_le_intCast.2 (show 12*(-9000+3044)-1<=12*(y+3044)+(m-2) by omega)
 have b:=Rat.intCast_le_intCast.2 (show 12*(y+3044)+(m-2)<=12*(9000+3044)+10 by omega)
 have p:pyr=1577917828000/4320000000:=rfl
 unfold fiE
 constructor
 ·refine Rat.le_floor_iff.2 ?_
  unfold cw
  rw[show((12:Int):Rat)=12 from rfl,show((-1132959:Int):Rat)= -1132959 from rfl,show((-3400000:Int):Rat)= -3400000 from rfl,p]
  rw[show((12*(-9000+3044)-1:Int):Rat)=12*(-9000+3044)-1 by decide+kernel] at a
  grind
 ·refine Int.lt_add_one_iff.1 (Rat.floor_lt_iff.2 ?_)
  unfold cw
  rw[show((12:Int):Rat)=12 from rfl,show((-1132959:Int):Rat)= -1132959 from rfl,show((3400000+1:Int):Rat)=3400001 from rfl,p]
  rw[show((12*(9000+3044)+10:Int):Rat)=12*(9000+3044)+10 by decide+kernel] at b
  grind
theorem GZ (y m:Int):Rat.floor (((12*(y+3044)+m-2:Int):Rat)/((12:Int):Rat)*pyr+((-1132959:Int):Rat))=fiE y m:=by
 unfold fiE cw
 rw[show 12*(y+3044)+m-2=12*(y+3044)+(m-2) by omega,Rat.mul_comm pyr]
theorem vG:∀(l:List Int) (more:List Value) {i:Nat},i<l.length->((gZ l++more).drop (4*i)).take 4=moC (l.getD i 0) (az (l.getD i 0))
 |[],_,i,h=>absurd h (Nat.not_lt_zero i)
 |n::l,more,0,_=>rfl
 |n::l,more,i+1,h=>by
  show(((moC n (az n)++gZ l)++more).drop (4*(i+1))).take 4=moC (l.getD i 0) (az (l.getD i 0))
  rw[List.append_assoc,show 4*(i+1)=4+4*i by omega,<-List.drop_drop]
  exact vG l more (Nat.lt_of_succ_lt_succ h)
def eu (y m x a b c d:Int):Int:=if plE a b c d≠0 then plE a b c d else if m<1\/12<m\/x<1\/30<x then 4 else if y< -9000\/9000<y then 2 else 0
theorem CZ {y m x a b c d:Int} (h:plE a b c d=0) (k:¬(m<1\/12<m\/x<1\/30<x)) (j:¬(y< -9000\/9000<y)):eu y m x a b c d=0:=by unfold eu;rw[if_neg (by omega),if_neg k,if_neg j]
end Go.Proofs.YtgdpkknapcgcbaaGreatDoor
