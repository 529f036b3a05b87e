import Derived.Test.YtddiipaomejcfaaGreatDoorKB34
namespace Go.Proofs.YtddiipaomejcfaaGreatDoor
open Go.RowKit
set_option maxRecDepth 100000
set_option linter.unusedVariables false
set_option maxHeartbeats 8000000
theorem jJ {t u:Rat} (h:t<=u):turn t<=turn u:=by
 have r:=(jq t (d:=u-t) (by grind)).1
 rw[show t+(u-t)=u by grind] at r
 have a:=cR t
 have b:=cR u
 rw[eu] at*
 have l:((turn t:Int):Rat)<((turn u+1:Int):Rat):=by rw[Rat.intCast_add,Rat.intCast_one];grind
 have:=Rat.intCast_lt_intCast.1 l
 omega
theorem jI (t:Rat):turn t=bA (ar t+1):=by
 have f0:=eI t
 have f1:=fk t
 have e:((t.floor:Int):Rat)+(t-((t.floor:Int):Rat))=t:=by grind
 have i:=kv ((t.floor:Int):Rat) (d:=t-((t.floor:Int):Rat)) (by grind) (by grind)
 rw[e] at i
 by_cases h:ga t=true
 ·rw[lh h]
  have c:=(cG _).1 (tW h)
  unfold ga at h
  rw[Bool.and_eq_true,Bool.not_eq_true'] at h
  have j:=i.1 h
  unfold bA at*
  omega
 ·rw[mJ h]
  have s:=ff t.floor
  have b:=gN (a:=dR t.floor+1) (b:=t.floor) (by omega) fun m h1 h2=>s.2.2.2 m (by omega) h2
  have u:=jN ((t.floor:Int):Rat) (d:=t-((t.floor:Int):Rat)) (by grind) (by grind)
  rw[e] at u
  rcases u with u|u
  ·unfold bA at*;omega
  ·exfalso
   have j:=i.2 u.1
   apply h
   unfold ga
   rw[j.1,j.2];rfl
theorem Ag {n:Int} (h:aY n=true):bA (au n+1)=bA (n+1)+1:=by
 have s:=bR h
 have c:=(cG _).1 s.2.2.1
 have b:=gN (a:=n+1) (b:=au n) (by omega) fun m h1 h2=>s.2.2.2 m (by omega) h2
 omega
def tiV (t:Rat):Int:=(phU t*(1/12)).floor
theorem uI (t:Rat):12*((tiV t:Int):Rat)<=phU t/\phU t<12*((tiV t:Int):Rat)+12:=by
 have a:=eI (phU t*(1/12))
 have b:=fk (phU t*(1/12))
 unfold tiV
 constructor <;> grind
theorem Gw {t:Rat} {k:Int} (h:12*((k:Int):Rat)<=phU t):k<=tiV t:=Rat.le_floor_iff.2 (by grind)
theorem Md {t:Rat} {k:Int} (h:phU t<12*((k:Int):Rat)):tiV t<k:=Rat.floor_lt_iff.2 (by grind)
theorem Ci (t:Rat):prt (bf t) 30=tiV t%30:=by
 rw[vH,ul (by decide),show((30:Int):Rat)/((360:Int):Rat)=1/12 by decide+kernel]
 rfl
theorem sP (t:Rat):turn t=tiV t/30:=by
 have k:=uI t
 have b:=cR t
 rw[eu] at b
 have e:=Int.mul_ediv_add_emod (tiV t) 30
 have m0:=Int.emod_nonneg (tiV t) (b:=30) (by omega)
 have m1:=Int.emod_lt_of_pos (tiV t) (b:=30) (by omega)
 have c0:=Rat.intCast_le_intCast.2 (show 30*(tiV t/30)<=tiV t by omega)
 have c1:=Rat.intCast_le_intCast.2 (show tiV t<=30*(tiV t/30)+29 by omega)
 rw[Rat.intCast_add,Rat.intCast_mul] at c1
 rw[Rat.intCast_mul] at c0
 rw[show((30:Int):Rat)=30 from rfl] at c0 c1
 rw[show((29:Int):Rat)=29 from rfl] at c1
 have l:((turn t:Int):Rat)<((tiV t/30+1:Int):Rat):=by rw[Rat.intCast_add,Rat.intCast_one];grind
 have g:((tiV t/30:Int):Rat)<((turn t+1:Int):Rat):=by rw[Rat.intCast_add,Rat.intCast_one];grind
 have:=Rat.intCast_lt_intCast.1 l
 have:=Rat.intCast_lt_intCast.1 g
 omega
theorem vf {t u:Rat} (h:t<=u):1098/100*(u-t)<=phU u-phU t/\phU u-phU t<=134/10*(u-t):=by
 have:=jq t (d:=u-t) (by grind)
 rwa[show t+(u-t)=u by grind] at this
theorem tC {lat:Rat} (lon:Rat) (h0: -60<=lat) (h1:lat<=60) (n:Int):tiV (riV lat lon n)<=tiV (riV lat lon (n+1))/\tiV (riV lat lon (n+1))<=tiV (riV lat lon n)+2:=by
 have s:=tg lon h0 h1 n
 have p:=vf (t:=riV lat lon n) (u:=riV lat lon (n+1)) (by grind)
 have b:=uI (riV lat lon n)
 refine⟨Gw (by grind),?_⟩
 have:=Md (t:=riV lat lon (n+1)) (k:=tiV (riV lat lon n)+3) (by rw[Rat.intCast_add,show((3:Int):Rat)=3 from rfl];grind)
 omega
theorem DJ {lat:Rat} (lon:Rat) (h0: -60<=lat) (h1:lat<=60) (n:Int):tiV (riV lat lon n)<tiV (riV lat lon (n+1+1)):=by
 have s:=tg lon h0 h1 n
 have s':=tg lon h0 h1 (n+1)
 have p:=vf (t:=riV lat lon n) (u:=riV lat lon (n+1+1)) (by grind)
 have b:=uI (riV lat lon n)
 have:=Gw (t:=riV lat lon (n+1+1)) (k:=tiV (riV lat lon n)+1) (by rw[Rat.intCast_add,Rat.intCast_one];grind)
 omega
theorem Bb (t d:Rat):(gV (t+d)-gV t).abs <=msz*(225/224)*(((360:Int):Rat)*(d/pam-1)).abs :=
 pG (n:=1) sC (by decide+kernel) (by decide+kernel) (by decide+kernel) (by decide+kernel) (by rw[dM,Rat.intCast_one];grind)
theorem FQ (t:Rat):360<=phU (t+299/10)-phU t:=by
 have a:=cE (wY t (299/10))
 have b:=cE (Bb t (299/10))
 have ka:ssz*(225/224)*(((360:Int):Rat)*((299/10)/pay)).abs <116/100:=by decide+kernel
 have kb:msz*(225/224)*(((360:Int):Rat)*((299/10)/pam-1)).abs <275/100:=by decide+kernel
 have k:((360:Int):Rat)/psy=((360:Int):Rat)/pmo-((360:Int):Rat)/pyr:=by decide+kernel
 have k2:1219/100<((360:Int):Rat)/psy:=by decide+kernel
 have e:phU (t+299/10)-phU t=((360:Int):Rat)/psy*(299/10)-(gV (t+299/10)-gV t)+(de (t+299/10)-de t):=by
  unfold phU ig dt;rw[k,dM,dM,Rat.div_def,Rat.div_def,Rat.div_def,Rat.div_def];grind
 rw[e]
 generalize ((360:Int):Rat)/psy=y at*
 grind
theorem sX {L:Int} (h:aY L=true):turn (nmL L)=bA L/\turn (nmR L)=bA (L+1):=by
 have c:=(cG L).1 h
 have i:=(kv (nmL L) (d:=1/1024) (by decide+kernel) (by decide+kernel)).1 ⟨Av.1 (Na h),by rw[<-oJ];exact Ai.1 (M0 h)⟩
 rw[<-oJ] at i
 have b:=gh L
 have l:=oJ L
 have r:=LF wax (lo:=((L:Int):Rat)) (hi:=(((L+1:Int)):Rat)) (by rw[fX];grind) 10
 have x:=jJ (t:=((L:Int):Rat)) (u:=nmL L) r.1
 have y:=jJ (t:=nmR L) (u:=(((L+1:Int)):Rat)) (by rw[fX];exact b.2)
 unfold bA at*
 omega
theorem qz (t:Rat):nmR (ar t)-1/1024<t/\t<nmR (ar t)+29902/1000:=by
 have e:=jI t
 have h:=dX t
 generalize ar t=L at*
 have n:=sX h
 have c:=(cG L).1 h
 have l:=oJ L
 constructor
 ·refine Rat.not_le.1 fun q=>?_
  have:=jJ (t:=t) (u:=nmL L) (by grind)
  omega
 ·refine Rat.not_le.1 fun q=>?_
  have g:=FQ (nmR L)
  have a:=cR (nmR L)
  have b:=cR (nmR L+299/10)
  rw[eu] at*
  have u:((turn (nmR L):Int):Rat)<((turn (nmR L+299/10):Int):Rat):=by grind
  have:=Rat.intCast_lt_intCast.1 u
  have:=jJ (t:=nmR L+299/10) (u:=t) (by grind)
  omega
theorem ma {lat lon:Rat} (h0: -60<=lat) (h1:lat<=60) (l0: -180<=lon) (l1:lon<=180) (n:Int):((n:Int):Rat)-301/1000<=riV lat lon n/\riV lat lon n<=((n:Int):Rat)+17/10:=by
 have b:=DD ((n:Int):Rat) (qd:=1) (sg:=1) (.inl ⟨rfl,rfl⟩) h0 h1 l0 l1
 have g:=nc (cC ((n:Int):Rat) lat lon 1 1)
 unfold riV
 constructor <;> grind
theorem Et {lat lon:Rat} (h0: -60<=lat) (h1:lat<=60) (l0: -180<=lon) (l1:lon<=180) (n:Int) (g0:1<=smV (ar (riV lat lon n))%12) (g1:smV (ar (riV lat lon n))%12<=10):kaV (((n-1:Int)):Rat)/12=(smV (ar (riV lat lon n))+1)/12:=by
 have r:=ma h0 h1 l0 l1 n
 have m:=qz (riV lat lon n)
 have k:=mU (nmR (ar (riV lat lon n)))
 have d:(((n-1:Int)):Rat)=((n:Int):Rat)-1:=by rw[Rat.intCast_sub,Rat.intCast_one]
 have e:kaV (nmR (ar (riV lat lon n)))=smV (ar (riV lat lon n)):=rfl
 rw[e] at k
 generalize smV (ar (riV lat lon n))=s at*
 generalize nmR (ar (riV lat lon n))=R at*
 have lo:s-1<=kaV (((n-1:Int)):Rat):=pp (by
  rw[Rat.intCast_sub,Rat.intCast_one]
  by_cases q:R<=(((n-1:Int)):Rat)
  ·have:=el q;grind
  ·have:=el (t:=(((n-1:Int)):Rat)) (u:=R) (by grind);grind)
 have hi:kaV (((n-1:Int)):Rat)<s+2:=rp (by
  rw[Rat.intCast_add,show((2:Int):Rat)=2 from rfl]
  by_cases q:R<=(((n-1:Int)):Rat)
  ·have:=el q;grind
  ·have:=el (t:=(((n-1:Int)):Rat)) (u:=R) (by grind);grind)
 omega
theorem Fw {lat lon:Rat} (h0: -60<=lat) (h1:lat<=60) (l0: -180<=lon) (l1:lon<=180) (n:Int) (g:¬(1<=smV (ar (riV lat lon n))%12/\smV (ar (riV lat lon n))%12<=10)):kaV (((n+180:Int)):Rat)/12=(smV (ar (riV lat lon n))+1)/12:=by
 have r:=ma h0 h1 l0 l1 n
 have m:=qz (riV lat lon n)
 have k:=mU (nmR (ar (riV lat lon n)))
 have d:(((n+180:Int)):Rat)=((n:Int):Rat)+180:=by rw[Rat.intCast_add];rfl
 have e:kaV (nmR (ar (riV lat lon n)))=smV (ar (riV lat lon n)):=rfl
 rw[e] at k
 generalize smV (ar (riV lat lon n))=s at*
 generalize nmR (ar (riV lat lon n))=R at*
 have a:=el (t:=R) (u:=(((n+180:Int)):Rat)) (by grind)
 have lo:s+5<=kaV (((n+180:Int)):Rat):=pp (by rw[Rat.intCast_add s 5,show((5:Int):Rat)=5 from rfl];grind)
 have hi:kaV (((n+180:Int)):Rat)<s+9:=rp (by rw[Rat.intCast_add s 9,show((9:Int):Rat)=9 from rfl];grind)
 omega
theorem JM {lat lon:Rat} (h0: -60<=lat) (h1:lat<=60) (l0: -180<=lon) (l1:lon<=180) (n:Int):ar (riV lat lon n)<=n+2/\n<=au (ar (riV lat lon n))+1/\n-40<=ar (riV lat lon n):=by
 have r:=ma h0 h1 l0 l1 n
 have e:=jI (riV lat lon n)
 have h:=dX (riV lat lon n)
 have m:=qz (riV lat lon n)
 generalize ar (riV lat lon n)=L at*
 generalize riV lat lon n=t at*
 have b:=gh L
 have s:=bR h
 have x:=gh (au L)
 have p:=sX s.2.2.1
 have q:=Ag h
 have lt:t<nmR (au L):=Rat.not_le.1 fun y=>by have:=jJ y;omega
 refine⟨?_,?_,?_⟩
 ·have l:((L:Int):Rat)<((n+2:Int):Rat):=by rw[Rat.intCast_add,show((2:Int):Rat)=2 from rfl];grind
  have:=Rat.intCast_lt_intCast.1 l
  omega
 ·have l:((n:Int):Rat)<((au L+2:Int):Rat):=by rw[Rat.intCast_add,show((2:Int):Rat)=2 from rfl];grind
  have:=Rat.intCast_lt_intCast.1 l
  omega
 ·have l:((n-40:Int):Rat)<((L:Int):Rat):=by rw[Rat.intCast_sub,show((40:Int):Rat)=40 from rfl];grind
  have:=Rat.intCast_lt_intCast.1 l
  omega
def amX (n a b c d:Int):Int:=tiV (cP (fu n a b c d))
noncomputable def amL (n a b c d:Int):Int:=ar (cP (fu n a b c d))
def kM (n m:Int):Int:=kaV (((if m=1\/m=2 then n+180 else n-1:Int)):Rat)/12-1955883044
theorem MO (n a b c d:Int):cP (fu n a b c d)=riV (((a:Int):Rat)/((b:Int):Rat)) (((c:Int):Rat)/((d:Int):Rat)) n:=rfl
theorem pA {a b c d:Int} (h:cr a b c d) (n:Int):amX n a b c d<=amX (n+1) a b c d/\amX (n+1) a b c d<=amX n a b c d+2:=tC _ h.la.1 h.la.2 n
theorem gL (n a b c d:Int):aY (amL n a b c d)=true:=dX _
theorem ld {a b c d:Int} (h:cr a b c d) (n:Int):n-1<=(cP (fu n a b c d)).floor /\(cP (fu n a b c d)).floor <=n+2:=by
 have r:=ma h.la.1 h.la.2 h.lo.1 h.lo.2 n
 rw[MO]
 generalize riV (((a:Int):Rat)/((b:Int):Rat)) (((c:Int):Rat)/((d:Int):Rat)) n=x at*
 have l:n-1<=x.floor:=Rat.le_floor_iff.2 (by rw[Rat.intCast_sub,Rat.intCast_one];grind)
 have g:x.floor<n+2:=Rat.floor_lt_iff.2 (by rw[Rat.intCast_add,show((2:Int):Rat)=2 from rfl];grind)
 omega
theorem Jz {a b c d:Int} (h:cr a b c d) (n:Int):amL n a b c d<=n+2/\n<=au (amL n a b c d)+1/\n-40<=amL n a b c d:=JM h.la.1 h.la.2 h.lo.1 h.lo.2 n
theorem uA {n:Int} (h0: -3900000<=n) (h1:n<=3900000):12*(1955880000+3179-11000)<=kaV ((n:Int):Rat)/\kaV ((n:Int):Rat)<12*(1955880000+3179+11000):=by
 have a:=Rat.intCast_le_intCast.2 h0
 have b:=Rat.intCast_le_intCast.2 h1
 rw[show((-3900000:Int):Rat)= -3900000 from rfl] at a
 rw[show((3900000:Int):Rat)=3900000 from rfl] at b
 exact MX (by grind) (by grind)
theorem zp {a b c d:Int} (h:cr a b c d) {n L:Int} (e:amL n a b c d=L):kM n ((smV L+1)%12+1)=(smV L+1)/12-1955883044:=by
 subst e
 unfold kM
 by_cases g:1<=smV (amL n a b c d)%12/\smV (amL n a b c d)%12<=10
 ·rw[if_neg (by omega),show kaV (((n-1:Int)):Rat)/12=(smV (amL n a b c d)+1)/12 from Et h.la.1 h.la.2 h.lo.1 h.lo.2 n g.1 g.2]
 ·rw[if_pos (by omega),show kaV (((n+180:Int)):Rat)/12=(smV (amL n a b c d)+1)/12 from Fw h.la.1 h.la.2 h.lo.1 h.lo.2 n g]
theorem pz {y m d y' m' d':Int} {l g l' g':Bool} (hy:y=y') (hm:m=m') (hl:l=l') (hd:d=d') (hg:g=g'):Ending.returned (.agg #[iv y,iv m,.bool l,iv d,.bool g])= .returned (.agg #[iv y',iv m',.bool l',iv d',.bool g']):=by rw[hy,hm,hl,hd,hg]
def fiE (y m:Int):Int:=(fx (12*(y+3044)+(m-2))).floor
def fiS (y m:Int):Int:=12*(y+3044)+(m-2)+23470560000
theorem lZ {n y m:Int} (h:smV n=fiS y m):fiE y m-4<=n/\n<=fiE y m+35:=by
 have f0:=eI (fx (12*(y+3044)+(m-2)))
 have f1:=fk (fx (12*(y+3044)+(m-2)))
 have u:=zQ (12*(y+3044)+(m-2))
 have e:=cE (jd (fx (12*(y+3044)+(m-2))))
 rw[show((22:Int):Rat)/((10:Int):Rat)=22/10 by decide+kernel] at e
 have k:=mU (nmR n)
 have b:=gh n
 rw[show kaV (nmR n)=smV n from rfl,h] at k
 unfold fiE fiS at*
 generalize 12*(y+3044)+(m-2)=s at*
 generalize fx s=E at*
 generalize nmR n=R at*
 constructor
 ·refine Int.not_lt.1 fun q=>?_
  have q2:=Rat.intCast_le_intCast.2 (show n+5<=E.floor by omega)
  rw[Rat.intCast_add,show((5:Int):Rat)=5 from rfl] at q2
  have a:=el (t:=R) (u:=E) (by grind)
  grind
 ·refine Int.not_lt.1 fun q=>?_
  have q2:=Rat.intCast_le_intCast.2 (show E.floor+36<=n by omega)
  rw[Rat.intCast_add,show((36:Int):Rat)=36 from rfl] at q2
  have a:=el (t:=E) (u:=R) (by grind)
  grind
theorem Mg {n y m:Int} (h0:fiE y m-5<=n) (h1:n<=fiE y m+40) (e:(smV n+1)%12+1=m):smV n=fiS y m:=by
 have f0:=eI (fx (12*(y+3044)+(m-2)))
 have f1:=fk (fx (12*(y+3044)+(m-2)))
 have u:=zQ (12*(y+3044)+(m-2))
 have ee:=cE (jd (fx (12*(y+3044)+(m-2))))
 rw[show((22:Int):Rat)/((10:Int):Rat)=22/10 by decide+kernel] at ee
 have b:=gh n
 have lo:fiS y m-1<=kaV (nmR n)/\kaV (nmR n)<fiS y m+2:=by
  unfold fiE fiS at*
  generalize 12*(y+3044)+(m-2)=s at*
  generalize fx s=E at*
  generalize nmR n=R at*
  have q0:=Rat.intCast_le_intCast.2 h0
  have q1:=Rat.intCast_le_intCast.2 h1
  rw[Rat.intCast_sub,show((5:Int):Rat)=5 from rfl] at q0
  rw[Rat.intCast_add,show((40:Int):Rat)=40 from rfl] at q1
  constructor
  ·refine pp ?_
   rw[Rat.intCast_sub,Rat.intCast_one]
   by_cases q:E<=R
   ·have:=el q;grind
   ·have:=el (t:=R) (u:=E) (by grind);grind
  ·refine rp ?_
   rw[Rat.intCast_add,show((2:Int):Rat)=2 from rfl]
   by_cases q:E<=R
   ·have:=el q;grind
   ·have:=el (t:=R) (u:=E) (by grind);grind
 have x:kaV (nmR n)=smV n:=rfl
 unfold fiS at*
 omega
theorem Al {s y m:Int} (hm:1<=m) (hm2:m<=12):s=fiS y m↔(s+1)/12-1955880000-3044=y/\(s+1)%12+1=m:=by
 unfold fiS
 omega
theorem I1 {L M:Int} (hL:aY L=true) (hM:aY M=true) (e:smV L=smV M) (l:L<M):M=au L:=by
 have s:=bR hL
 have t:=bR s.2.2.1
 rcases Int.lt_trichotomy M (au L) with q|q|q
 ·exact absurd hM (s.2.2.2 M l q)
 ·exact q
 ·exfalso
  have g:au (au L)<=M:=Int.not_lt.1 fun x=>t.2.2.2 M q x hM
  have a:=gh L
  have b:=gh M
  have c:=Rat.intCast_le_intCast.2 (show L+56<=M by omega)
  rw[Rat.intCast_add,show((56:Int):Rat)=56 from rfl] at c
  have:=wl (t:=nmR L) (u:=nmR M) (by grind)
  unfold smV at e
  omega
theorem Jx {L M:Int} (hL:aY L=true) (hM:aY M=true) (e:smV L=smV M) (f:(smV L%12=smV (au L)%12)↔(smV M%12=smV (au M)%12)):L=M:=by
 have key:∀ {A B:Int},aY A=true->aY B=true->smV A=smV B->A<B->smV A%12=smV (au A)%12/\¬smV B%12=smV (au B)%12:=by
  intro A B hA hB e l
  have p:=I1 hA hB e l
  have t:=vt hA
  have b:=iy hB
  rw[<-p] at t ⊢
  constructor
  ·rw[e]
  ·omega
 rcases Int.lt_trichotomy L M with q|q|q
 ·have:=key hL hM e q
  exact absurd (f.1 this.1) this.2
 ·exact q
 ·have:=key hM hL e.symm q
  exact absurd (f.2 this.1) this.2
theorem Hj {lat lon:Rat} (h0: -60<=lat) (h1:lat<=60) (l0: -180<=lon) (l1:lon<=180) (n:Int):ar (riV lat lon n)+(tiV (riV lat lon n)%30)*63/64-4<=n/\n<=ar (riV lat lon n)+(tiV (riV lat lon n)%30)*63/64+5:=by
 have r:=ma h0 h1 l0 l1 n
 have e:=jI (riV lat lon n)
 have h:=dX (riV lat lon n)
 have tt:=sP (riV lat lon n)
 have tb:=uI (riV lat lon n)
 generalize ar (riV lat lon n)=L at*
 generalize riV lat lon n=t at*
 have b:=gh L
 have p:=sX h
 have pb:=cR (nmR L)
 have pl:=cR (nmL L)
 have c:=(cG L).1 h
 have nl:=oJ L
 have pr:=vf (t:=nmL L) (u:=nmR L) (by grind)
 rw[p.2] at pb
 rw[p.1] at pl
 rw[eu] at*
 have d:=tx (nmR L) (t-nmR L)
 rw[show nmR L+(t-nmR L)=t by grind] at d
 have k1:((360:Int):Rat)/psy<12191/1000:=by decide+kernel
 have k2:1219/100<((360:Int):Rat)/psy:=by decide+kernel
 rw[eu] at*
 -- the lunar days gone since
 obtain⟨j,hj⟩:∃j:Int,tiV t%30=j:=⟨_,rfl⟩
 have ej:tiV t=30*bA (L+1)+j:=by omega
 have j0:0<=j:=by omega
 have j1:j<=29:=by omega
 rw[hj]
 rw[ej,Rat.intCast_add,Rat.intCast_mul,show((30:Int):Rat)=30 from rfl] at tb
 have cc:((bA (L+1):Int):Rat)=((bA L:Int):Rat)+1:=by rw[c,Rat.intCast_add,Rat.intCast_one]
 rw[cc] at tb pb
 have jr0:=Rat.intCast_le_intCast.2 j0
 have jr1:=Rat.intCast_le_intCast.2 j1
 rw[Rat.intCast_zero] at jr0
 rw[show((29:Int):Rat)=29 from rfl] at jr1
 have w0:12*((j:Int):Rat)-1/10<=phU t-phU (nmR L)/\phU t-phU (nmR L)<=12*((j:Int):Rat)+12:=by constructor <;> grind
 -- the mean of it
 have m1:360/psy*(t-nmR L)<=12*((j:Int):Rat)+266/10:=by grind
 have m2:12*((j:Int):Rat)-147/10<=360/psy*(t-nmR L):=by grind
 have up:t-nmR L<=((j:Int):Rat)*(63/64)+22/10:=by
  refine Rat.not_lt.1 fun q=>?_
  have:=Rat.mul_lt_mul_of_pos_left q (show(0:Rat)<360/psy by grind)
  have g:=Rat.mul_le_mul_of_nonneg_right (show(1219:Rat)/100<=360/psy by grind) (show(0:Rat)<=((j:Int):Rat)*(63/64)+22/10 by grind)
  generalize (360:Rat)/psy=y at*
  grind
 have dn:((j:Int):Rat)*(63/64)-13/10<=t-nmR L:=by
  refine Rat.not_lt.1 fun q=>?_
  by_cases z:0<=((j:Int):Rat)*(63/64)-13/10
  ·have:=Rat.mul_lt_mul_of_pos_left q (show(0:Rat)<360/psy by grind)
   have g:=Rat.mul_le_mul_of_nonneg_right (show 360/psy<=(12191:Rat)/1000 by grind) z
   generalize (360:Rat)/psy=y at*
   grind
  ·have:=Rat.mul_lt_mul_of_pos_left q (show(0:Rat)<360/psy by grind)
   have g:=Rat.mul_le_mul_of_nonneg_right (show(1219:Rat)/100<=360/psy by grind) (show(0:Rat)<= -(((j:Int):Rat)*(63/64)-13/10) by grind)
   generalize (360:Rat)/psy=y at*
   grind
 have z0:=Int.mul_ediv_add_emod (j*63) 64
 have z1:=Int.emod_nonneg (j*63) (b:=64) (by omega)
 have z2:=Int.emod_lt_of_pos (j*63) (b:=64) (by omega)
 have v0:=Rat.intCast_le_intCast.2 (show 64*(j*63/64)<=j*63 by omega)
 have v1:=Rat.intCast_le_intCast.2 (show j*63<=64*(j*63/64)+63 by omega)
 rw[Rat.intCast_mul,Rat.intCast_mul,show((64:Int):Rat)=64 from rfl,show((63:Int):Rat)=63 from rfl] at v0
 rw[Rat.intCast_add,Rat.intCast_mul,Rat.intCast_mul,show((64:Int):Rat)=64 from rfl,show((63:Int):Rat)=63 from rfl] at v1
 generalize j*63/64=q at*
 constructor
 ·refine Int.not_lt.1 fun x=>?_
  have x2:=Rat.intCast_le_intCast.2 (show n+5<=L+q by omega)
  rw[Rat.intCast_add,Rat.intCast_add,show((5:Int):Rat)=5 from rfl] at x2
  grind
 ·refine Int.not_lt.1 fun x=>?_
  have x2:=Rat.intCast_le_intCast.2 (show L+q+6<=n by omega)
  rw[Rat.intCast_add,Rat.intCast_add,show((6:Int):Rat)=6 from rfl] at x2
  grind
theorem MQ {lat:Rat} (lon:Rat) (h0: -60<=lat) (h1:lat<=60) {m n:Int} (l:m<=n):tiV (riV lat lon m)<=tiV (riV lat lon n):=by
 have key:∀k:Nat,tiV (riV lat lon m)<=tiV (riV lat lon (m+k)):=by
  intro k
  induction k with
  |zero=>rw[show m+((0:Nat):Int)=m by omega];exact Int.le_refl _
  |succ k ih=>
   rw[show m+(((k+1:Nat)):Int)=m+k+1 by omega]
   have:=(tC lon h0 h1 (m+k)).1
   omega
 have:=key (n-m).toNat
 rwa[show m+(((n-m).toNat :Nat):Int)=n by omega] at this
theorem Hd {lat:Rat} (lon:Rat) (h0: -60<=lat) (h1:lat<=60) {m n:Int} (e:ar (riV lat lon m)=ar (riV lat lon n)) (d:tiV (riV lat lon m)%30=tiV (riV lat lon n)%30)
 (a:(tiV (riV lat lon (m-1))%30=tiV (riV lat lon m)%30)↔(tiV (riV lat lon (n-1))%30=tiV (riV lat lon n)%30)):m=n:=by
 have t1:=jI (riV lat lon m)
 have t2:=jI (riV lat lon n)
 rw[e,<-t2,sP,sP] at t1
 have te:tiV (riV lat lon m)=tiV (riV lat lon n):=by omega
 have key:∀ {p q:Int},tiV (riV lat lon p)=tiV (riV lat lon q)->p<q->(tiV (riV lat lon (q-1))%30=tiV (riV lat lon q)%30)/\¬(tiV (riV lat lon (p-1))%30=tiV (riV lat lon p)%30):=by
  intro p q te l
  have two:=DJ lon h0 h1 p
  have le:q<=p+1:=Int.not_lt.1 fun x=>by have:=MQ lon h0 h1 (m:=p+1+1) (n:=q) (by omega);omega
  have eq:q=p+1:=by omega
  subst eq
  rw[show p+1-1=p by omega]
  have tw:=DJ lon h0 h1 (p-1)
  have st:=tC lon h0 h1 (p-1)
  rw[show p-1+1=p by omega] at tw st
  exact⟨by rw[te],by omega⟩
 rcases Int.lt_trichotomy m n with q|q|q
 ·have:=key te q;exact absurd (a.2 this.1) this.2
 ·exact q
 ·have:=key te.symm q;exact absurd (a.1 this.1) this.2
theorem vJ (v1:Value) (qt:Rat) (k:Nat) (w:World) (hT:bn w) (h1:Rq w v1 qt) (hl:aw qt k) (hk:k<=100):CV 49 #[v1] w (iv (tiV qt%30+1)):=by
 rw[<-Ci]
 exact A5 v1 qt k w hT h1 hl hk
theorem zM {v1:Value} {qt:Rat} {k:Nat} {L:Int} (w:World) (hT:bn w) (h1:Rq w v1 qt) (hl:aw qt k) (hk:k<=100) (hf0: -90000000<=Rat.floor qt) (hf1:Rat.floor qt<=90000000) (e:ar qt=L):CV 37 #[v1] w (.agg #[iv L,iv (au L),iv (smV L%12),iv (smV (au L)%12)]):=by
 subst e
 exact xi v1 qt k w hT h1 hl hk hf0 hf1
theorem qe (n xa xb xc xd X:Int) (w:World) (hT:bn w) (hok:cr xa xb xc xd) (hn0: -3850000<=n) (hn1:n<=3850000) (hX:amX n xa xb xc xd=X):
 CV 31 #[iv n,.agg #[iv xa,iv xb,iv xc,iv xd]] w (iv (X%30+1)):=by
 refine gs2 (nt:=9) Tryz.func31 rfl rfl rfl fun a st hF=>wq<|bx st hF 1 rfl rfl fun g3 w1 a st hF=>?_
 refine oC hF rfl fun a hF=>nq<|oM hF 2 rfl rfl fun a hF=>oL hF st 2 0 bi rfl rfl rfl rfl fun a hF=>S.ck st hF (rgc k38 (aF hF.p hF.o)) (aR (jQ n xa xb xc xd _ (hT.below st.bel) (by first|assumption|constructor<;>omega) (by omega) (by omega)) (il (by first|assumption|constructor<;>omega) (by omega) (by omega))) Rl.cl rfl fun vv3 w2 a st hF=>?_
 obtain⟨r5,rfl⟩:=Rq.fo (st.f 0 rfl).1
 refine cX st hF (rgc k49 (aD hF.o)) (vJ _ _ 3 _ (hT.below st.bel) (st.f 0 rfl).1 (st.f 0 rfl).2 (by omega)) rfl fun w6 a st hF=>?_
 refine oE hF 0 rfl rfl fun a hF=>nr ?_
 have bel:=st.bel
 refine rt Tryz.results31 hF 0 rfl ?_
 refine⟨bC ?_,bel⟩
 rw[<-hX]
 rfl
theorem zY (n m:Int) (w:World) (hT:bn w) (hn0: -3800000<=n) (hn1:n<=3800000):
 CV 51 #[iv n,iv m] w (iv (kM n m)):=by
 have hka:=uA (n:=n+180) (by omega) (by omega)
 have hkb:=uA (n:=n+ -1) (by omega) (by omega)
 refine gs2 (nt:=20) Tryz.func51 rfl rfl rfl fun a st hF=>wq ?_
 refine oC hF rfl fun a hF=>nq ?_
 refine oM hF 1 rfl rfl fun a hF=>oV hF (aq hF.o ao aa (aO (by omega) (by omega))) rfl fun a hF=>oA hF 0 rfl rfl fun a hF=>ns<|wq<|oM hF 5 rfl rfl fun a hF=>?_
 by_cases hc1:m=1
 ·first
  |(exfalso;omega)
  |(refine oT hF 0 (aQ (c:=true) (aK hc1)) rfl rfl fun a hF=>?_
    refine oM hF 0 rfl rfl fun a hF=>nu hF 0 rfl rfl rfl fun a hF=>nu hF 1 rfl rfl rfl fun a hF=>oV hF (aH hF.q ao) rfl fun a hF=>E.nil<|wp_cond_true hF.o<|E.seq ?_
    refine oM hF 10 rfl rfl fun a hF=>oV hF (aq hF.o ao aa (aO (by omega) (by omega))) rfl fun a hF=>oE hF 0 rfl rfl fun a hF=>nq<|oM hF 0 rfl rfl fun a hF=>S.ck st hF (rgc k52 (aD hF.o)) dv Rl.cl rfl fun vv3 w2 a st hF=>?_
    obtain⟨r5,rfl⟩:=Rq.fo (st.f 0 rfl).1
    refine cX st hF (rgc k88 (aD hF.o)) (lK _ _ 2 _ (hT.below st.bel) (st.f 0 rfl).1 (st.f 0 rfl).2 (by omega) (by omega) (by omega)) rfl fun w6 a st hF=>?_
    refine oV hF (aq hF.o ao aa (bE (by omega) (by omega))) rfl fun a hF=>oE hF 0 rfl rfl fun a hF=>nr ?_
    have bel:=st.bel
    refine rt Tryz.results51 hF 0 rfl ?_
    refine⟨bC ?_,bel⟩
    unfold kM
    rw[if_pos (by omega)]
    omega)
 ·first
  |(exfalso;omega)
  |(refine oT hF 0 (aQ (c:=false) (aL hc1)) rfl rfl fun a hF=>?_
    refine oM hF 0 rfl rfl fun a hF=>og hF (aB (hF.at 8 rfl)) 0 rfl rfl rfl fun a hF=>?_
    by_cases hc7:m=2
    ·first
     |(exfalso;omega)
     |(refine og hF (aq hF.o ao aa (aI (aQ (c:=true) (aK hc7)) (by simp))) 1 rfl rfl rfl fun a hF=>?_
       refine oV hF (aJ hF.q hF.o) rfl fun a hF=>E.nil<|wp_cond_true hF.o<|E.seq ?_
       refine oM hF 10 rfl rfl fun a hF=>oV hF (aq hF.o ao aa (aO (by omega) (by omega))) rfl fun a hF=>oE hF 0 rfl rfl fun a hF=>nq<|oM hF 0 rfl rfl fun a hF=>S.ck st hF (rgc k52 (aD hF.o)) dv Rl.cl rfl fun vv9 w8 a st hF=>?_
       obtain⟨r11,rfl⟩:=Rq.fo (st.f 0 rfl).1
       refine cX st hF (rgc k88 (aD hF.o)) (lK _ _ 2 _ (hT.below st.bel) (st.f 0 rfl).1 (st.f 0 rfl).2 (by omega) (by omega) (by omega)) rfl fun w12 a st hF=>?_
       refine oV hF (aq hF.o ao aa (bE (by omega) (by omega))) rfl fun a hF=>oE hF 0 rfl rfl fun a hF=>nr ?_
       have bel:=st.bel
       refine rt Tryz.results51 hF 0 rfl ?_
       refine⟨bC ?_,bel⟩
       unfold kM
       rw[if_pos (by omega)]
       omega)
    ·first
     |(exfalso;omega)
     |(refine og hF (aq hF.o ao aa (aI (aQ (c:=false) (aL hc7)) (by simp))) 1 rfl rfl rfl fun a hF=>?_
       refine oV hF (aJ hF.q hF.o) rfl fun a hF=>E.nil<|wp_cond_false hF.o<|wp_skip<|E.norm<|wq<|oM hF 6 rfl rfl fun a hF=>S.ck st hF (rgc k52 (aD hF.o)) dv Rl.cl rfl fun vv14 w13 a st hF=>?_
       obtain⟨r16,rfl⟩:=Rq.fo (st.f 0 rfl).1
       refine cX st hF (rgc k88 (aD hF.o)) (lK _ _ 2 _ (hT.below st.bel) (st.f 0 rfl).1 (st.f 0 rfl).2 (by omega) (by omega) (by omega)) rfl fun w17 a st hF=>?_
       refine oV hF (aq hF.o ao aa (bE (by omega) (by omega))) rfl fun a hF=>oE hF 0 rfl rfl fun a hF=>nr ?_
       have bel:=st.bel
       refine rt Tryz.results51 hF 0 rfl ?_
       refine⟨bC ?_,bel⟩
       unfold kM
       rw[if_neg (by omega),show n-1=n+ -1 from Int.sub_eq_add_neg]
       omega))
theorem lH (n xa xb xc xd L X Y:Int) (w:World) (hT:bn w) (hok:cr xa xb xc xd) (hn0: -3800000<=n) (hn1:n<=3800000) (hL:amL n xa xb xc xd=L) (hX:amX n xa xb xc xd=X) (hY:amX (n-1) xa xb xc xd=Y):
 CV 22 #[iv n,.agg #[iv xa,iv xb,iv xc,iv xd]] w (.agg #[iv ((smV L+1)/12-1955883044),iv ((smV L+1)%12+1),.bool (decide (smV (au L)=smV L)),iv (X%30+1),.bool (decide (Y=X))]):=by
 have hst:=pA hok (n-1)
 rw[show n-1+1=n by omega,hX,hY] at hst
 have hsm:=iy (gL n xa xb xc xd)
 rw[hL] at hsm
 have hyr:=zp hok hL
 refine gs2 (nt:=32) Tryz.func22 rfl rfl rfl fun a st hF=>wq<|bx st hF 1 rfl rfl fun g3 w1 a st hF=>S.alloc st hF bw rfl rfl fun g4 w2 a st hF=>nq<|oM hF 2 rfl rfl fun a hF=>oL hF st 2 1 bi rfl rfl rfl rfl fun a hF=>S.ck st hF (rgc k38 (aF hF.p hF.o)) (aR (jQ n xa xb xc xd _ (hT.below st.bel) (by first|assumption|constructor<;>omega) (by omega) (by omega)) (il (by first|assumption|constructor<;>omega) (by omega) (by omega))) Rl.cl rfl fun vv4 w3 a st hF=>?_
 obtain⟨r6,rfl⟩:=Rq.fo (st.f 0 rfl).1
 refine S.new st hF 0 rfl ab rfl rfl rfl rfl rfl fun g5 w7 a st hF=>ns ?_
 refine E.rga 5 aG hF [12,13,14,15,6] [_,_,_,_,kb w7 [iv 0,iv 0,iv 0,iv 0]] [4] ⟨fun _ _ ⟨g,e,_,o⟩=>⟨g,e,o.lt⟩,trivial⟩ (by decide+kernel) rfl rfl rfl ⟨rb st ab 0 0 rfl,ck st k37 rfl fun _ s=>a7 (zM _ (hT.below s.bel) (s.f 0 rfl).1 (s.f 0 rfl).2 (by omega) (by have:=ld hok n;omega) (by have:=ld hok n;omega) hL),rb st ab 0 0 rfl,ck st k49 rfl fun _ s=>a7 (vJ _ (cP (fu n xa xb xc xd)) 3 _ (hT.below s.bel) (s.f 0 rfl).1 (s.f 0 rfl).2 (by omega)),rai bX rfl,trivial⟩ ?_
 intro a w8 hF bb hall hne
 have s0:=st
 replace st:=st.to bb
 replace hF:=rE hall hF 1 rfl rfl
 replace hF:=rE hall hF 3 rfl rfl
 obtain⟨_,e6,g6,rfl,ge6,o6⟩:=sS hall 4 6 rfl rfl
 replace st:=st.push o6 (Nat.le_trans s0.bel.size ge6) (s0.ne ge6)
 clear o6
 replace hF:=hF.add e6
 clear hall bb hne s0
 refine S.stoI st hF 0 rfl hF.o hF.q bX rfl rfl rfl fun w9 a st hF=>?_
 refine oA hF 1 rfl rfl fun a hF=>nq<|oL hF st 1 0 bX rfl rfl rfl rfl fun a hF=>cX st hF (rgc k50 (aD hF.o)) (fV L (au L) (smV L%12) (smV (au L)%12) _ (by omega) (by omega)) rfl fun w10 a st hF=>?_
 refine oA hF 0 rfl rfl fun a hF=>ns ?_
 refine E.rg 14 aG hF [18,19,20,21,22,23,24,25,26,27,28,29,30,31] [_,_,_,_,_,_,_,_,.ex (iv (n-1)),_,_,_,.ex (.bool (decide (Y%30+1=tiV (cP (fu n xa xb xc xd))%30+1))),.ex (.agg #[iv (kM n (((smV L%12)+1)%12+1)),iv (((smV L%12)+1)%12+1),.bool (decide ((smV L%12)=(smV (au L)%12))),iv (tiV (cP (fu n xa xb xc xd))%30+1),.bool (decide (Y%30+1=tiV (cP (fu n xa xb xc xd))%30+1))])] (by decide+kernel) rfl rfl rfl ⟨rm 13 rfl,rm 0 rfl,ck st k51 rfl fun _ s=>a7 (zY n (((smV L%12)+1)%12+1) _ (hT.below s.bel) (by omega) (by omega)),rm 0 rfl,rb st bX 4 0 rfl,ck st k27 rfl fun _ s=>a7 (iY L (au L) (smV L%12) (smV (au L)%12) _),rm 3 rfl,rm 13 rfl,(by intro a' w' hF' hb hd;have e25:=tE hd 0 rfl;exact dv0 (aq e25 ao aa (bE (by omega) (by omega))) rfl rfl rfl),rb st bi 12 3 rfl,ck st k31 rfl fun _ s=>a7 (qe (n-1) xa xb xc xd Y _ (hT.below s.bel) (by first|assumption|constructor<;>omega) (by omega) (by omega) hY),rm 3 rfl,(by intro a' w' hF' hb hd;have e28:=tE hd 0 rfl;have e29:=tE hd 1 rfl;exact dv0 (aq e28 e29 aa (aI (aQ (c:=decide (Y%30+1=tiV (cP (fu n xa xb xc xd))%30+1)) rfl) (by simp))) rfl rfl rfl),(by intro a' w' hF' hb hd;have e20:=tE hd 0 rfl;have e21:=tE hd 1 rfl;have e23:=tE hd 2 rfl;have e24:=tE hd 3 rfl;have e30:=tE hd 4 rfl;exact dv0 (be (uC e20 e21 e23 e24 e30) (xH _ _ _ _ _ _)) rfl rfl rfl),trivial⟩ ?_
 intro a w11 hF bb hall
 replace st:=st.to bb
 replace hF:=rE hall hF 13 rfl rfl
 clear hall bb
 refine S.stoI st hF 2 rfl (hF.at 12 rfl) hF.o bw rfl rfl rfl fun w12 a st hF=>nr<|rs Tryz.results22 st hF 12 2 bw rfl rfl rfl ?_
 refine⟨pz ?_ ?_ ?_ ?_ ?_,st.bel⟩
 ·rw[show(smV L%12+1)%12+1=(smV L+1)%12+1 by omega,hyr]
 ·omega
 ·exact decide_eq_decide.2 (by omega)
 ·rw[<-hX];rfl
 ·rw[show tiV (cP (fu n xa xb xc xd))=X from hX];exact decide_eq_decide.2 (by omega)
theorem CD (n xa xb xc xd:Int) (w:World) (hE:plE xa xb xc xd≠0):
 CV 16 #[iv n,.agg #[iv xa,iv xb,iv xc,iv xd]] w (.tuple #[.agg #[iv 0,iv 0,.bool false,iv 0,.bool false],iv (plE xa xb xc xd)]):=by
 refine gs2 (nt:=20) Tryz.func16 rfl rfl rfl fun a st hF=>wq<|bx st hF 1 rfl rfl fun g3 w1 a st hF=>S.alloc st hF bw rfl rfl fun g4 w2 a st hF=>?_
 refine oC hF rfl fun a hF=>ns<|wq<|oL hF st 2 1 bi rfl rfl rfl rfl fun a hF=>cX st hF (rgc k43 (aD hF.o)) (mM xa xb xc xd _) rfl fun w3 a st hF=>?_
 refine oA hF 0 rfl rfl fun a hF=>nq<|oM hF 0 rfl rfl fun a hF=>oT hF 0 (cB (c:=true) (aK (by omega))) rfl rfl fun a hF=>E.nil<|wp_cond_true hF.o<|wq<|oV hF (be (by simp) (zz _)) rfl fun a hF=>oM hF 3 rfl rfl fun a hF=>S.stoI st hF 0 rfl (hF.at 8 rfl) hF.p bw rfl rfl rfl fun w4 a st hF=>?_
 refine oE hF 0 rfl rfl fun a hF=>nr ?_
 have bel:=st.bel
 refine bodyPost_ret (jy Tryz.results16 (hF.at 8 rfl) (aX bw (st.bk 0 rfl) rfl) hF.o) hF.dfr ?_
 exact⟨rfl,bel⟩
theorem F3 (n xa xb xc xd L X Y:Int) (w:World) (hT:bn w) (hok:cr xa xb xc xd) (hn0: -3000000<=n) (hn1:n<=3000000) (hL:amL n xa xb xc xd=L) (hX:amX n xa xb xc xd=X) (hY:amX (n-1) xa xb xc xd=Y):
 CV 16 #[iv n,.agg #[iv xa,iv xb,iv xc,iv xd]] w (.tuple #[.agg #[iv ((smV L+1)/12-1955883044),iv ((smV L+1)%12+1),.bool (decide (smV (au L)=smV L)),iv (X%30+1),.bool (decide (Y=X))],iv 0]):=by
 have hck:plE xa xb xc xd=0:=rP hok
 refine gs2 (nt:=20) Tryz.func16 rfl rfl rfl fun a st hF=>wq<|bx st hF 1 rfl rfl fun g3 w1 a st hF=>S.alloc st hF bw rfl rfl fun g4 w2 a st hF=>?_
 refine oC hF rfl fun a hF=>ns<|wq<|oL hF st 2 1 bi rfl rfl rfl rfl fun a hF=>cX st hF (rgc k43 (aD hF.o)) (mM xa xb xc xd _) rfl fun w3 a st hF=>?_
 refine oA hF 0 rfl rfl fun a hF=>nq<|oM hF 0 rfl rfl fun a hF=>oT hF 0 (cB (c:=false) (aL (by omega))) rfl rfl fun a hF=>E.nil<|wp_cond_false hF.o<|wp_skip<|E.norm<|wp_seq<|wq<|oM hF 8 rfl rfl fun a hF=>cX st hF (rgc k44 (aD hF.o)) (wg n _ (by omega) (by omega)) rfl fun w4 a st hF=>?_
 refine oV hF (dF hF.o (cA _ false rfl)) rfl fun a hF=>E.nil<|wp_cond_false hF.o<|wp_skip<|E.norm<|wq<|oM hF 11 rfl rfl fun a hF=>oL hF st 11 1 bi rfl rfl rfl rfl fun a hF=>cX st hF (rgc k22 (aF hF.p hF.o)) (lH n xa xb xc xd L X Y _ (hT.below st.bel) (by first|assumption|constructor<;>omega) (by omega) (by omega) hL hX hY) rfl fun w5 a st hF=>S.stoI st hF 0 rfl (hF.at 12 rfl) hF.o bw rfl rfl rfl fun w6 a st hF=>?_
 refine oS hF (aZ ao) rfl fun a hF=>nr ?_
 have bel:=st.bel
 refine bodyPost_ret (jy Tryz.results16 (hF.at 12 rfl) (aX bw (st.bk 0 rfl) rfl) hF.o) hF.dfr ?_
 exact⟨rfl,bel⟩
end Go.Proofs.YtddiipaomejcfaaGreatDoor
