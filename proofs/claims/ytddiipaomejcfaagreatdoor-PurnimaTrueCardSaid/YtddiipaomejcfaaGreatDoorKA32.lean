import Derived.Test.YtddiipaomejcfaaGreatDoorKA31
namespace Go.Proofs.YtddiipaomejcfaaGreatDoor
open Go.RowKit
set_option maxRecDepth 100000
set_option linter.unusedVariables false
set_option maxHeartbeats 8000000
theorem gq {t u:Rat} (h:t<=u):turn t<=turn u:=by
 have r:=(iU t (d:=u-t) (by grind)).1
 rw[show t+(u-t)=u by grind] at r
 have a:=cg t
 have b:=cg u
 rw[dz] at*
 have l:((turn t:Int):Rat)<((turn u+1:Int):Rat):=by rw[Rat.intCast_add,Rat.intCast_one];grind
 have:=Rat.intCast_lt_intCast.1 l
 omega
theorem ij (t:Rat):turn t=bi (ar t+1):=by
 have f0:=ec t
 have f1:=eK t
 have e:((t.floor:Int):Rat)+(t-((t.floor:Int):Rat))=t:=by grind
 have i:=kE ((t.floor:Int):Rat) (d:=t-((t.floor:Int):Rat)) (by grind) (by grind)
 rw[e] at i
 by_cases h:kR t=true
 ·rw[lC h]
  have c:=(cm _).1 (p9 h)
  unfold kR at h
  rw[Bool.and_eq_true,Bool.not_eq_true'] at h
  have j:=i.1 h
  unfold bi at*
  omega
 ·rw[nB h]
  have s:=eu t.floor
  have b:=fC (a:=dN t.floor+1) (b:=t.floor) (by omega) fun m h1 h2=>s.2.2.2 m (by omega) h2
  have u:=jz ((t.floor:Int):Rat) (d:=t-((t.floor:Int):Rat)) (by grind) (by grind)
  rw[e] at u
  rcases u with u|u
  ·unfold bi at*;omega
  ·exfalso
   have j:=i.2 u.1
   apply h
   unfold kR
   rw[j.1,j.2];rfl
theorem vX {n:Int} (h:aY n=true):bi (ag n+1)=bi (n+1)+1:=by
 have s:=bJ h
 have c:=(cm _).1 s.2.2.1
 have b:=fC (a:=n+1) (b:=ag n) (by omega) fun m h1 h2=>s.2.2.2 m (by omega) h2
 omega
def tiV (t:Rat):Int:=(phU t*(1/12)).floor
theorem qw (t:Rat):12*((tiV t:Int):Rat)<=phU t/\phU t<12*((tiV t:Int):Rat)+12:=by
 have a:=ec (phU t*(1/12))
 have b:=eK (phU t*(1/12))
 unfold tiV
 constructor <;> grind
theorem Bg {t:Rat} {k:Int} (h:12*((k:Int):Rat)<=phU t):k<=tiV t:=Rat.le_floor_iff.2 (by grind)
theorem F6 {t:Rat} {k:Int} (h:phU t<12*((k:Int):Rat)):tiV t<k:=Rat.floor_lt_iff.2 (by grind)
theorem Ei (t:Rat):prt (bm t) 30=tiV t%30:=by
 rw[ro,pS (by decide),show((30:Int):Rat)/((360:Int):Rat)=1/12 by decide+kernel]
 rfl
theorem oK (t:Rat):turn t=tiV t/30:=by
 have k:=qw t
 have b:=cg t
 rw[dz] at b
 have e:=Int.mul_ediv_add_emod (tiV t) 30
 have m0:=Int.emod_nonneg (tiV t) (b:=30) (by omega)
 have m1:=Int.emod_lt_of_pos (tiV t) (b:=30) (by omega)
 have c0:=Rat.intCast_le_intCast.2 (show 30*(tiV t/30)<=tiV t by omega)
 have c1:=Rat.intCast_le_intCast.2 (show tiV t<=30*(tiV t/30)+29 by omega)
 rw[Rat.intCast_add,Rat.intCast_mul] at c1
 rw[Rat.intCast_mul] at c0
 rw[show((30:Int):Rat)=30 from rfl] at c0 c1
 rw[show((29:Int):Rat)=29 from rfl] at c1
 have l:((turn t:Int):Rat)<((tiV t/30+1:Int):Rat):=by rw[Rat.intCast_add,Rat.intCast_one];grind
 have g:((tiV t/30:Int):Rat)<((turn t+1:Int):Rat):=by rw[Rat.intCast_add,Rat.intCast_one];grind
 have:=Rat.intCast_lt_intCast.1 l
 have:=Rat.intCast_lt_intCast.1 g
 omega
theorem qZ {t u:Rat} (h:t<=u):1098/100*(u-t)<=phU u-phU t/\phU u-phU t<=134/10*(u-t):=by
 have:=iU t (d:=u-t) (by grind)
 rwa[show t+(u-t)=u by grind] at this
theorem ph {lat:Rat} (lon:Rat) (h0: -60<=lat) (h1:lat<=60) (n:Int):tiV (riV lat lon n)<=tiV (riV lat lon (n+1))/\tiV (riV lat lon (n+1))<=tiV (riV lat lon n)+2:=by
 have s:=oH lon h0 h1 n
 have p:=qZ (t:=riV lat lon n) (u:=riV lat lon (n+1)) (by grind)
 have b:=qw (riV lat lon n)
 refine⟨Bg (by grind),?_⟩
 have:=F6 (t:=riV lat lon (n+1)) (k:=tiV (riV lat lon n)+3) (by rw[Rat.intCast_add,show((3:Int):Rat)=3 from rfl];grind)
 omega
theorem yJ {lat:Rat} (lon:Rat) (h0: -60<=lat) (h1:lat<=60) (n:Int):tiV (riV lat lon n)<tiV (riV lat lon (n+1+1)):=by
 have s:=oH lon h0 h1 n
 have s':=oH lon h0 h1 (n+1)
 have p:=qZ (t:=riV lat lon n) (u:=riV lat lon (n+1+1)) (by grind)
 have b:=qw (riV lat lon n)
 have:=Bg (t:=riV lat lon (n+1+1)) (k:=tiV (riV lat lon n)+1) (by rw[Rat.intCast_add,Rat.intCast_one];grind)
 omega
theorem vn (t d:Rat):(fE (t+d)-fE t).abs <=msz*(225/224)*(((360:Int):Rat)*(d/pam-1)).abs :=
 mv (n:=1) pC (by decide+kernel) (by decide+kernel) (by decide+kernel) (by decide+kernel) (by rw[cY,Rat.intCast_one];grind)
theorem rR (t:Rat):360<=phU (t+299/10)-phU t:=by
 have a:=bM (sI t (299/10))
 have b:=bM (vn t (299/10))
 have ka:ssz*(225/224)*(((360:Int):Rat)*((299/10)/pay)).abs <116/100:=by decide+kernel
 have kb:msz*(225/224)*(((360:Int):Rat)*((299/10)/pam-1)).abs <275/100:=by decide+kernel
 have k:((360:Int):Rat)/psy=((360:Int):Rat)/pmo-((360:Int):Rat)/pyr:=by decide+kernel
 have k2:1219/100<((360:Int):Rat)/psy:=by decide+kernel
 have e:phU (t+299/10)-phU t=((360:Int):Rat)/psy*(299/10)-(fE (t+299/10)-fE t)+(b6 (t+299/10)-b6 t):=by
  unfold phU fY cd;rw[k,cY,cY,Rat.div_def,Rat.div_def,Rat.div_def,Rat.div_def];grind
 rw[e]
 generalize ((360:Int):Rat)/psy=y at*
 grind
theorem jK {L:Int} (h:aY L=true):turn (nmL L)=bi L/\turn (nmR L)=bi (L+1):=by
 have c:=(cm L).1 h
 have i:=(kE (nmL L) (d:=1/1024) (by decide+kernel) (by decide+kernel)).1 ⟨Bd.1 (FD h),by rw[<-j6];exact Bw.1 (Fj h)⟩
 rw[<-j6] at i
 have b:=dC L
 have l:=j6 L
 have r:=DB wax (lo:=((L:Int):Rat)) (hi:=(((L+1:Int)):Rat)) (by rw[eC];grind) 10
 have x:=gq (t:=((L:Int):Rat)) (u:=nmL L) r.1
 have y:=gq (t:=nmR L) (u:=(((L+1:Int)):Rat)) (by rw[eC];exact b.2)
 unfold bi at*
 omega
theorem mQ (t:Rat):nmR (ar t)-1/1024<t/\t<nmR (ar t)+29902/1000:=by
 have e:=ij t
 have h:=dF t
 generalize ar t=L at*
 have n:=jK h
 have c:=(cm L).1 h
 have l:=j6 L
 constructor
 ·refine Rat.not_le.1 fun q=>?_
  have:=gq (t:=t) (u:=nmL L) (by grind)
  omega
 ·refine Rat.not_le.1 fun q=>?_
  have g:=rR (nmR L)
  have a:=cg (nmR L)
  have b:=cg (nmR L+299/10)
  rw[dz] at*
  have u:((turn (nmR L):Int):Rat)<((turn (nmR L+299/10):Int):Rat):=by grind
  have:=Rat.intCast_lt_intCast.1 u
  have:=gq (t:=nmR L+299/10) (u:=t) (by grind)
  omega
theorem jL {lat lon:Rat} (h0: -60<=lat) (h1:lat<=60) (l0: -180<=lon) (l1:lon<=180) (n:Int):((n:Int):Rat)-301/1000<=riV lat lon n/\riV lat lon n<=((n:Int):Rat)+17/10:=by
 have b:=xl ((n:Int):Rat) (qd:=1) (sg:=1) (.inl ⟨rfl,rfl⟩) h0 h1 l0 l1
 have g:=kN (cp ((n:Int):Rat) lat lon 1 1)
 unfold riV
 constructor <;> grind
theorem zP {lat lon:Rat} (h0: -60<=lat) (h1:lat<=60) (l0: -180<=lon) (l1:lon<=180) (n:Int) (g0:1<=smV (ar (riV lat lon n))%12) (g1:smV (ar (riV lat lon n))%12<=10):kaV (((n-1:Int)):Rat)/12=(smV (ar (riV lat lon n))+1)/12:=by
 have r:=jL h0 h1 l0 l1 n
 have m:=mQ (riV lat lon n)
 have k:=iJ (nmR (ar (riV lat lon n)))
 have d:(((n-1:Int)):Rat)=((n:Int):Rat)-1:=by rw[Rat.intCast_sub,Rat.intCast_one]
 have e:kaV (nmR (ar (riV lat lon n)))=smV (ar (riV lat lon n)):=rfl
 rw[e] at k
 generalize smV (ar (riV lat lon n))=s at*
 generalize nmR (ar (riV lat lon n))=R at*
 have lo:s-1<=kaV (((n-1:Int)):Rat):=kt (by
  rw[Rat.intCast_sub,Rat.intCast_one]
  by_cases q:R<=(((n-1:Int)):Rat)
  ·have:=da q;grind
  ·have:=da (t:=(((n-1:Int)):Rat)) (u:=R) (by grind);grind)
 have hi:kaV (((n-1:Int)):Rat)<s+2:=lW (by
  rw[Rat.intCast_add,show((2:Int):Rat)=2 from rfl]
  by_cases q:R<=(((n-1:Int)):Rat)
  ·have:=da q;grind
  ·have:=da (t:=(((n-1:Int)):Rat)) (u:=R) (by grind);grind)
 omega
theorem AP {lat lon:Rat} (h0: -60<=lat) (h1:lat<=60) (l0: -180<=lon) (l1:lon<=180) (n:Int) (g:¬(1<=smV (ar (riV lat lon n))%12/\smV (ar (riV lat lon n))%12<=10)):kaV (((n+180:Int)):Rat)/12=(smV (ar (riV lat lon n))+1)/12:=by
 have r:=jL h0 h1 l0 l1 n
 have m:=mQ (riV lat lon n)
 have k:=iJ (nmR (ar (riV lat lon n)))
 have d:(((n+180:Int)):Rat)=((n:Int):Rat)+180:=by rw[Rat.intCast_add];rfl
 have e:kaV (nmR (ar (riV lat lon n)))=smV (ar (riV lat lon n)):=rfl
 rw[e] at k
 generalize smV (ar (riV lat lon n))=s at*
 generalize nmR (ar (riV lat lon n))=R at*
 have a:=da (t:=R) (u:=(((n+180:Int)):Rat)) (by grind)
 have lo:s+5<=kaV (((n+180:Int)):Rat):=kt (by rw[Rat.intCast_add s 5,show((5:Int):Rat)=5 from rfl];grind)
 have hi:kaV (((n+180:Int)):Rat)<s+9:=lW (by rw[Rat.intCast_add s 9,show((9:Int):Rat)=9 from rfl];grind)
 omega
theorem Dj {lat lon:Rat} (h0: -60<=lat) (h1:lat<=60) (l0: -180<=lon) (l1:lon<=180) (n:Int):ar (riV lat lon n)<=n+2/\n<=ag (ar (riV lat lon n))+1/\n-40<=ar (riV lat lon n):=by
 have r:=jL h0 h1 l0 l1 n
 have e:=ij (riV lat lon n)
 have h:=dF (riV lat lon n)
 have m:=mQ (riV lat lon n)
 generalize ar (riV lat lon n)=L at*
 generalize riV lat lon n=t at*
 have b:=dC L
 have s:=bJ h
 have x:=dC (ag L)
 have p:=jK s.2.2.1
 have q:=vX h
 have lt:t<nmR (ag L):=Rat.not_le.1 fun y=>by have:=gq y;omega
 refine⟨?_,?_,?_⟩
 ·have l:((L:Int):Rat)<((n+2:Int):Rat):=by rw[Rat.intCast_add,show((2:Int):Rat)=2 from rfl];grind
  have:=Rat.intCast_lt_intCast.1 l
  omega
 ·have l:((n:Int):Rat)<((ag L+2:Int):Rat):=by rw[Rat.intCast_add,show((2:Int):Rat)=2 from rfl];grind
  have:=Rat.intCast_lt_intCast.1 l
  omega
 ·have l:((n-40:Int):Rat)<((L:Int):Rat):=by rw[Rat.intCast_sub,show((40:Int):Rat)=40 from rfl];grind
  have:=Rat.intCast_lt_intCast.1 l
  omega
def amX (n a b c d:Int):Int:=tiV (cO (eI n a b c d))
noncomputable def amL (n a b c d:Int):Int:=ar (cO (eI n a b c d))
def mN (n m:Int):Int:=kaV (((if m=1\/m=2 then n+180 else n-1:Int)):Rat)/12-1955883044
theorem Fq (n a b c d:Int):cO (eI n a b c d)=riV (((a:Int):Rat)/((b:Int):Rat)) (((c:Int):Rat)/((d:Int):Rat)) n:=rfl
theorem oJ {a b c d:Int} (h:bz a b c d) (n:Int):amX n a b c d<=amX (n+1) a b c d/\amX (n+1) a b c d<=amX n a b c d+2:=ph _ h.la.1 h.la.2 n
theorem dA (n a b c d:Int):aY (amL n a b c d)=true:=dF _
theorem l6 {a b c d:Int} (h:bz a b c d) (n:Int):n-1<=(cO (eI n a b c d)).floor /\(cO (eI n a b c d)).floor <=n+2:=by
 have r:=jL h.la.1 h.la.2 h.lo.1 h.lo.2 n
 rw[Fq]
 generalize riV (((a:Int):Rat)/((b:Int):Rat)) (((c:Int):Rat)/((d:Int):Rat)) n=x at*
 have l:n-1<=x.floor:=Rat.le_floor_iff.2 (by rw[Rat.intCast_sub,Rat.intCast_one];grind)
 have g:x.floor<n+2:=Rat.floor_lt_iff.2 (by rw[Rat.intCast_add,show((2:Int):Rat)=2 from rfl];grind)
 omega
theorem jV {a b c d:Int} (h:bz a b c d) (n:Int):amL n a b c d<=n+2/\n<=ag (amL n a b c d)+1/\n-40<=amL n a b c d:=Dj h.la.1 h.la.2 h.lo.1 h.lo.2 n
theorem BG {n:Int} (h0: -3900000<=n) (h1:n<=3900000):12*(1955880000+3179-11000)<=kaV ((n:Int):Rat)/\kaV ((n:Int):Rat)<12*(1955880000+3179+11000):=by
 have a:=Rat.intCast_le_intCast.2 h0
 have b:=Rat.intCast_le_intCast.2 h1
 rw[show((-3900000:Int):Rat)= -3900000 from rfl] at a
 rw[show((3900000:Int):Rat)=3900000 from rfl] at b
 exact FR (by grind) (by grind)
theorem Dh {a b c d:Int} (h:bz a b c d) {n L:Int} (e:amL n a b c d=L):mN n ((smV L+1)%12+1)=(smV L+1)/12-1955883044:=by
 subst e
 unfold mN
 by_cases g:1<=smV (amL n a b c d)%12/\smV (amL n a b c d)%12<=10
 ·rw[if_neg (by omega),show kaV (((n-1:Int)):Rat)/12=(smV (amL n a b c d)+1)/12 from zP h.la.1 h.la.2 h.lo.1 h.lo.2 n g.1 g.2]
 ·rw[if_pos (by omega),show kaV (((n+180:Int)):Rat)/12=(smV (amL n a b c d)+1)/12 from AP h.la.1 h.la.2 h.lo.1 h.lo.2 n g]
theorem vh {y m d y' m' d':Int} {l g l' g':Bool} (hy:y=y') (hm:m=m') (hl:l=l') (hd:d=d') (hg:g=g'):Ending.returned (.agg #[iv y,iv m,.bool l,iv d,.bool g])= .returned (.agg #[iv y',iv m',.bool l',iv d',.bool g']):=by rw[hy,hm,hl,hd,hg]
def fiE (y m:Int):Int:=(fR (12*(y+3044)+(m-2))).floor
def fiS (y m:Int):Int:=12*(y+3044)+(m-2)+23470560000
theorem lw {n y m:Int} (h:smV n=fiS y m):fiE y m-4<=n/\n<=fiE y m+35:=by
 have f0:=ec (fR (12*(y+3044)+(m-2)))
 have f1:=eK (fR (12*(y+3044)+(m-2)))
 have u:=t7 (12*(y+3044)+(m-2))
 have e:=bM (ev (fR (12*(y+3044)+(m-2))))
 rw[show((22:Int):Rat)/((10:Int):Rat)=22/10 by decide+kernel] at e
 have k:=iJ (nmR n)
 have b:=dC n
 rw[show kaV (nmR n)=smV n from rfl,h] at k
 unfold fiE fiS at*
 generalize 12*(y+3044)+(m-2)=s at*
 generalize fR s=E at*
 generalize nmR n=R at*
 constructor
 ·refine Int.not_lt.1 fun q=>?_
  have q2:=Rat.intCast_le_intCast.2 (show n+5<=E.floor by omega)
  rw[Rat.intCast_add,show((5:Int):Rat)=5 from rfl] at q2
  have a:=da (t:=R) (u:=E) (by grind)
  grind
 ·refine Int.not_lt.1 fun q=>?_
  have q2:=Rat.intCast_le_intCast.2 (show E.floor+36<=n by omega)
  rw[Rat.intCast_add,show((36:Int):Rat)=36 from rfl] at q2
  have a:=da (t:=E) (u:=R) (by grind)
  grind
theorem FG {n y m:Int} (h0:fiE y m-5<=n) (h1:n<=fiE y m+40) (e:(smV n+1)%12+1=m):smV n=fiS y m:=by
 have f0:=ec (fR (12*(y+3044)+(m-2)))
 have f1:=eK (fR (12*(y+3044)+(m-2)))
 have u:=t7 (12*(y+3044)+(m-2))
 have ee:=bM (ev (fR (12*(y+3044)+(m-2))))
 rw[show((22:Int):Rat)/((10:Int):Rat)=22/10 by decide+kernel] at ee
 have b:=dC n
 have lo:fiS y m-1<=kaV (nmR n)/\kaV (nmR n)<fiS y m+2:=by
  unfold fiE fiS at*
  generalize 12*(y+3044)+(m-2)=s at*
  generalize fR s=E at*
  generalize nmR n=R at*
  have q0:=Rat.intCast_le_intCast.2 h0
  have q1:=Rat.intCast_le_intCast.2 h1
  rw[Rat.intCast_sub,show((5:Int):Rat)=5 from rfl] at q0
  rw[Rat.intCast_add,show((40:Int):Rat)=40 from rfl] at q1
  constructor
  ·refine kt ?_
   rw[Rat.intCast_sub,Rat.intCast_one]
   by_cases q:E<=R
   ·have:=da q;grind
   ·have:=da (t:=R) (u:=E) (by grind);grind
  ·refine lW ?_
   rw[Rat.intCast_add,show((2:Int):Rat)=2 from rfl]
   by_cases q:E<=R
   ·have:=da q;grind
   ·have:=da (t:=R) (u:=E) (by grind);grind
 have x:kaV (nmR n)=smV n:=rfl
 unfold fiS at*
 omega
theorem Bk {s y m:Int} (hm:1<=m) (hm2:m<=12):s=fiS y m↔(s+1)/12-1955880000-3044=y/\(s+1)%12+1=m:=by
 unfold fiS
 omega
theorem Da {L M:Int} (hL:aY L=true) (hM:aY M=true) (e:smV L=smV M) (l:L<M):M=ag L:=by
 have s:=bJ hL
 have t:=bJ s.2.2.1
 rcases Int.lt_trichotomy M (ag L) with q|q|q
 ·exact absurd hM (s.2.2.2 M l q)
 ·exact q
 ·exfalso
  have g:ag (ag L)<=M:=Int.not_lt.1 fun x=>t.2.2.2 M q x hM
  have a:=dC L
  have b:=dC M
  have c:=Rat.intCast_le_intCast.2 (show L+56<=M by omega)
  rw[Rat.intCast_add,show((56:Int):Rat)=56 from rfl] at c
  have:=q9 (t:=nmR L) (u:=nmR M) (by grind)
  unfold smV at e
  omega
theorem BP {L M:Int} (hL:aY L=true) (hM:aY M=true) (e:smV L=smV M) (f:(smV L%12=smV (ag L)%12)↔(smV M%12=smV (ag M)%12)):L=M:=by
 have key:∀ {A B:Int},aY A=true->aY B=true->smV A=smV B->A<B->smV A%12=smV (ag A)%12/\¬smV B%12=smV (ag B)%12:=by
  intro A B hA hB e l
  have p:=Da hA hB e l
  have t:=qQ hA
  have b:=fc hB
  rw[<-p] at t ⊢
  constructor
  ·rw[e]
  ·omega
 rcases Int.lt_trichotomy L M with q|q|q
 ·have:=key hL hM e q
  exact absurd (f.1 this.1) this.2
 ·exact q
 ·have:=key hM hL e.symm q
  exact absurd (f.2 this.1) this.2
theorem Cg {lat lon:Rat} (h0: -60<=lat) (h1:lat<=60) (l0: -180<=lon) (l1:lon<=180) (n:Int):ar (riV lat lon n)+(tiV (riV lat lon n)%30)*63/64-4<=n/\n<=ar (riV lat lon n)+(tiV (riV lat lon n)%30)*63/64+5:=by
 have r:=jL h0 h1 l0 l1 n
 have e:=ij (riV lat lon n)
 have h:=dF (riV lat lon n)
 have tt:=oK (riV lat lon n)
 have tb:=qw (riV lat lon n)
 generalize ar (riV lat lon n)=L at*
 generalize riV lat lon n=t at*
 have b:=dC L
 have p:=jK h
 have pb:=cg (nmR L)
 have pl:=cg (nmL L)
 have c:=(cm L).1 h
 have nl:=j6 L
 have pr:=qZ (t:=nmL L) (u:=nmR L) (by grind)
 rw[p.2] at pb
 rw[p.1] at pl
 rw[dz] at*
 have d:=pj (nmR L) (t-nmR L)
 rw[show nmR L+(t-nmR L)=t by grind] at d
 have k1:((360:Int):Rat)/psy<12191/1000:=by decide+kernel
 have k2:1219/100<((360:Int):Rat)/psy:=by decide+kernel
 rw[dz] at*
 -- the lunar days gone since
 obtain⟨j,hj⟩:∃j:Int,tiV t%30=j:=⟨_,rfl⟩
 have ej:tiV t=30*bi (L+1)+j:=by omega
 have j0:0<=j:=by omega
 have j1:j<=29:=by omega
 rw[hj]
 rw[ej,Rat.intCast_add,Rat.intCast_mul,show((30:Int):Rat)=30 from rfl] at tb
 have cc:((bi (L+1):Int):Rat)=((bi L:Int):Rat)+1:=by rw[c,Rat.intCast_add,Rat.intCast_one]
 rw[cc] at tb pb
 have jr0:=Rat.intCast_le_intCast.2 j0
 have jr1:=Rat.intCast_le_intCast.2 j1
 rw[Rat.intCast_zero] at jr0
 rw[show((29:Int):Rat)=29 from rfl] at jr1
 have w0:12*((j:Int):Rat)-1/10<=phU t-phU (nmR L)/\phU t-phU (nmR L)<=12*((j:Int):Rat)+12:=by constructor <;> grind
 -- the mean of it
 have m1:360/psy*(t-nmR L)<=12*((j:Int):Rat)+266/10:=by grind
 have m2:12*((j:Int):Rat)-147/10<=360/psy*(t-nmR L):=by grind
 have up:t-nmR L<=((j:Int):Rat)*(63/64)+22/10:=by
  refine Rat.not_lt.1 fun q=>?_
  have:=Rat.mul_lt_mul_of_pos_left q (show(0:Rat)<360/psy by grind)
  have g:=Rat.mul_le_mul_of_nonneg_right (show(1219:Rat)/100<=360/psy by grind) (show(0:Rat)<=((j:Int):Rat)*(63/64)+22/10 by grind)
  generalize (360:Rat)/psy=y at*
  grind
 have dn:((j:Int):Rat)*(63/64)-13/10<=t-nmR L:=by
  refine Rat.not_lt.1 fun q=>?_
  by_cases z:0<=((j:Int):Rat)*(63/64)-13/10
  ·have:=Rat.mul_lt_mul_of_pos_left q (show(0:Rat)<360/psy by grind)
   have g:=Rat.mul_le_mul_of_nonneg_right (show 360/psy<=(12191:Rat)/1000 by grind) z
   generalize (360:Rat)/psy=y at*
   grind
  ·have:=Rat.mul_lt_mul_of_pos_left q (show(0:Rat)<360/psy by grind)
   have g:=Rat.mul_le_mul_of_nonneg_right (show(1219:Rat)/100<=360/psy by grind) (show(0:Rat)<= -(((j:Int):Rat)*(63/64)-13/10) by grind)
   generalize (360:Rat)/psy=y at*
   grind
 have z0:=Int.mul_ediv_add_emod (j*63) 64
 have z1:=Int.emod_nonneg (j*63) (b:=64) (by omega)
 have z2:=Int.emod_lt_of_pos (j*63) (b:=64) (by omega)
 have v0:=Rat.intCast_le_intCast.2 (show 64*(j*63/64)<=j*63 by omega)
 have v1:=Rat.intCast_le_intCast.2 (show j*63<=64*(j*63/64)+63 by omega)
 rw[Rat.intCast_mul,Rat.intCast_mul,show((64:Int):Rat)=64 from rfl,show((63:Int):Rat)=63 from rfl] at v0
 rw[Rat.intCast_add,Rat.intCast_mul,Rat.intCast_mul,show((64:Int):Rat)=64 from rfl,show((63:Int):Rat)=63 from rfl] at v1
 generalize j*63/64=q at*
 constructor
 ·refine Int.not_lt.1 fun x=>?_
  have x2:=Rat.intCast_le_intCast.2 (show n+5<=L+q by omega)
  rw[Rat.intCast_add,Rat.intCast_add,show((5:Int):Rat)=5 from rfl] at x2
  grind
 ·refine Int.not_lt.1 fun x=>?_
  have x2:=Rat.intCast_le_intCast.2 (show L+q+6<=n by omega)
  rw[Rat.intCast_add,Rat.intCast_add,show((6:Int):Rat)=6 from rfl] at x2
  grind
theorem Fy {lat:Rat} (lon:Rat) (h0: -60<=lat) (h1:lat<=60) {m n:Int} (l:m<=n):tiV (riV lat lon m)<=tiV (riV lat lon n):=by
 have key:∀k:Nat,tiV (riV lat lon m)<=tiV (riV lat lon (m+k)):=by
  intro k
  induction k with
  |zero=>rw[show m+((0:Nat):Int)=m by omega];exact Int.le_refl _
  |succ k ih=>
   rw[show m+(((k+1:Nat)):Int)=m+k+1 by omega]
   have:=(ph lon h0 h1 (m+k)).1
   omega
 have:=key (n-m).toNat
 rwa[show m+(((n-m).toNat :Nat):Int)=n by omega] at this
theorem Cr {lat:Rat} (lon:Rat) (h0: -60<=lat) (h1:lat<=60) {m n:Int} (e:ar (riV lat lon m)=ar (riV lat lon n)) (d:tiV (riV lat lon m)%30=tiV (riV lat lon n)%30)
 (a:(tiV (riV lat lon (m-1))%30=tiV (riV lat lon m)%30)↔(tiV (riV lat lon (n-1))%30=tiV (riV lat lon n)%30)):m=n:=by
 have t1:=ij (riV lat lon m)
 have t2:=ij (riV lat lon n)
 rw[e,<-t2,oK,oK] at t1
 have te:tiV (riV lat lon m)=tiV (riV lat lon n):=by omega
 have key:∀ {p q:Int},tiV (riV lat lon p)=tiV (riV lat lon q)->p<q->(tiV (riV lat lon (q-1))%30=tiV (riV lat lon q)%30)/\¬(tiV (riV lat lon (p-1))%30=tiV (riV lat lon p)%30):=by
  intro p q te l
  have two:=yJ lon h0 h1 p
  have le:q<=p+1:=Int.not_lt.1 fun x=>by have:=Fy lon h0 h1 (m:=p+1+1) (n:=q) (by omega);omega
  have eq:q=p+1:=by omega
  subst eq
  rw[show p+1-1=p by omega]
  have tw:=yJ lon h0 h1 (p-1)
  have st:=ph lon h0 h1 (p-1)
  rw[show p-1+1=p by omega] at tw st
  exact⟨by rw[te],by omega⟩
 rcases Int.lt_trichotomy m n with q|q|q
 ·have:=key te q;exact absurd (a.2 this.1) this.2
 ·exact q
 ·have:=key te.symm q;exact absurd (a.1 this.1) this.2
end Go.Proofs.YtddiipaomejcfaaGreatDoor
