import Derived.Test.YtddiipaomejcfaaGreatDoorKA21
namespace Go.Proofs.YtddiipaomejcfaaGreatDoor
open Go.RowKit
set_option maxRecDepth 100000
set_option linter.unusedVariables false
set_option maxHeartbeats 8000000
def cd (t:Rat):Rat:=((360:Int):Rat)*aQ t pyr-b6 t
def fY (t:Rat):Rat:=((360:Int):Rat)*aQ t pmo-fE t
def phU (t:Rat):Rat:=fY t-cd t
theorem qK (t:Rat):cK t=rmod (cd t) ((360:Int):Rat):=by
 unfold cK cd b6 atv
 rw[ik (t:=t) gP,show((360:Int):Rat)*aQ t pyr+((360:Int):Rat)*(((-(aQ t pyr).floor :Int)):Rat)-eqv t pay ssz sch=(((360:Int):Rat)*aQ t pyr-eqv t pay ssz sch)+((360:Int):Rat)*(((-(aQ t pyr).floor :Int)):Rat) by grind,ir _ bP]
theorem BM (t:Rat):ma t=rmod (fY t) ((360:Int):Rat):=by
 unfold ma fY fE atv
 rw[ik (t:=t) De,show((360:Int):Rat)*aQ t pmo+((360:Int):Rat)*(((-(aQ t pmo).floor :Int)):Rat)-eqv t pam msz mch=(((360:Int):Rat)*aQ t pmo-eqv t pam msz mch)+((360:Int):Rat)*(((-(aQ t pmo).floor :Int)):Rat) by grind,ir _ bP]
theorem ro (t:Rat):bm t=rmod (phU t) ((360:Int):Rat):=by
 unfold bm phU
 rw[BM,qK,sV]
theorem sI (t d:Rat):(b6 (t+d)-b6 t).abs <=ssz*(225/224)*(((360:Int):Rat)*(d/pay)).abs :=
 mv (n:=0) fG (by decide+kernel) (by decide+kernel) (by decide+kernel) (by decide+kernel) (by rw[cY,Rat.intCast_zero];grind)
theorem xh (t d:Rat):(fE (t+d)-fE t).abs <=msz*(225/224)*(((360:Int):Rat)*(d/pam)).abs :=
 mv (n:=0) pC (by decide+kernel) (by decide+kernel) (by decide+kernel) (by decide+kernel) (by rw[cY,Rat.intCast_zero];grind)
theorem qe {s c d:Rat} (hs:0<=s) (hc:0<c) (hd:0<=d):s*(((360:Int):Rat)*(d/c)).abs =s*((360:Int):Rat)/c*d:=by
 have h:(0:Rat)<=((360:Int):Rat)*(d/c):=Rat.mul_nonneg (by decide) (by rw[Rat.div_def];exact Rat.mul_nonneg hd (Rat.le_of_lt (Rat.inv_pos.2 hc)))
 rw[Rat.abs_of_nonneg h,Rat.div_def,Rat.div_def];grind
theorem rp (t:Rat) {d:Rat} (hd:0<=d):9471/10000*d<=cd (t+d)-cd t/\cd (t+d)-cd t<=10242/10000*d:=by
 have l:=bM (sI t d)
 rw[qe (s:=ssz*(225/224)) (by decide+kernel) fG hd] at l
 have k:ssz*(225/224)*((360:Int):Rat)/pay<385015/10000000:=by decide+kernel
 have k1:985602/1000000<((360:Int):Rat)/pyr:=by decide+kernel
 have k2:((360:Int):Rat)/pyr<985603/1000000:=by decide+kernel
 have e:cd (t+d)-cd t=((360:Int):Rat)/pyr*d-(b6 (t+d)-b6 t):=by
  unfold cd;rw[cY,Rat.div_def,Rat.div_def];grind
 have m:=Rat.mul_nonneg (a:=385015/10000000-ssz*(225/224)*((360:Int):Rat)/pay) (b:=d) (by grind) hd
 have m1:=Rat.mul_nonneg (a:=((360:Int):Rat)/pyr-985602/1000000) (b:=d) (by grind) hd
 have m2:=Rat.mul_nonneg (a:=985603/1000000-((360:Int):Rat)/pyr) (b:=d) (by grind) hd
 rw[e]
 generalize ssz*(225/224)*((360:Int):Rat)/pay=x at*
 generalize ((360:Int):Rat)/pyr=y at*
 constructor <;> grind
theorem wE (t:Rat) {d:Rat} (hd:0<=d):12009/1000*d<=fY (t+d)-fY t/\fY (t+d)-fY t<=14343/1000*d:=by
 have l:=bM (xh t d)
 rw[qe (s:=msz*(225/224)) (by decide+kernel) pC hd] at l
 have k:msz*(225/224)*((360:Int):Rat)/pam<11666/10000:=by decide+kernel
 have k1:1317635/100000<((360:Int):Rat)/pmo:=by decide+kernel
 have k2:((360:Int):Rat)/pmo<1317636/100000:=by decide+kernel
 have e:fY (t+d)-fY t=((360:Int):Rat)/pmo*d-(fE (t+d)-fE t):=by
  unfold fY;rw[cY,Rat.div_def,Rat.div_def];grind
 have m:=Rat.mul_nonneg (a:=11666/10000-msz*(225/224)*((360:Int):Rat)/pam) (b:=d) (by grind) hd
 have m1:=Rat.mul_nonneg (a:=((360:Int):Rat)/pmo-1317635/100000) (b:=d) (by grind) hd
 have m2:=Rat.mul_nonneg (a:=1317636/100000-((360:Int):Rat)/pmo) (b:=d) (by grind) hd
 rw[e]
 generalize msz*(225/224)*((360:Int):Rat)/pam=x at*
 generalize ((360:Int):Rat)/pmo=y at*
 constructor <;> grind
theorem iU (t:Rat) {d:Rat} (hd:0<=d):1098/100*d<=phU (t+d)-phU t/\phU (t+d)-phU t<=134/10*d:=by
 have a:=rp t hd
 have b:=wE t hd
 unfold phU
 constructor <;> grind
theorem pj (t d:Rat):((360:Int):Rat)/psy*d-146/10<=phU (t+d)-phU t/\phU (t+d)-phU t<=((360:Int):Rat)/psy*d+146/10:=by
 have a1:=bM (ev t)
 have a2:=bM (ev (t+d))
 have b1:=bM (pL t)
 have b2:=bM (pL (t+d))
 have c:((22:Int):Rat)/((10:Int):Rat)=22/10:=by decide+kernel
 have c':((51:Int):Rat)/((10:Int):Rat)=51/10:=by decide+kernel
 rw[c] at a1 a2
 rw[c'] at b1 b2
 have k:((360:Int):Rat)/psy=((360:Int):Rat)/pmo-((360:Int):Rat)/pyr:=by decide+kernel
 have e:phU (t+d)-phU t=((360:Int):Rat)/psy*d-(fE (t+d)-fE t)+(b6 (t+d)-b6 t):=by
  unfold phU fY cd;rw[k,cY,cY,Rat.div_def,Rat.div_def,Rat.div_def,Rat.div_def];grind
 rw[e]
 constructor <;> grind
def full (t:Rat):Bool:=decide (((180:Int):Rat)<=bm t)
def turn (t:Rat):Int:=(phU t/((360:Int):Rat)).floor
theorem cg (t:Rat):((360:Int):Rat)*((turn t:Int):Rat)<=phU t/\phU t<((360:Int):Rat)*((turn t:Int):Rat)+360:=by
 have a:=ec (phU t/((360:Int):Rat))
 have b:=eK (phU t/((360:Int):Rat))
 have e:phU t=phU t/((360:Int):Rat)*((360:Int):Rat):=(Rat.div_mul_cancel (by decide)).symm
 unfold turn
 rw[dz] at*
 constructor <;> grind
theorem uo {t:Rat} {j:Int} (h0:((360:Int):Rat)*((j:Int):Rat)<=phU t) (h1:phU t<((360:Int):Rat)*((j:Int):Rat)+360):turn t=j:=by
 have b:=cg t
 rw[dz] at*
 have u:((turn t:Int):Rat)<((j+1:Int):Rat):=by rw[Rat.intCast_add,Rat.intCast_one];grind
 have l:((j:Int):Rat)<((turn t+1:Int):Rat):=by rw[Rat.intCast_add,Rat.intCast_one];grind
 have:=Rat.intCast_lt_intCast.1 u
 have:=Rat.intCast_lt_intCast.1 l
 omega
theorem iE (t:Rat):bm t=phU t-((360:Int):Rat)*((turn t:Int):Rat):=by
 rw[ro,fP bP]
 unfold turn
 rw[Rat.intCast_neg];grind
theorem jz (t:Rat) {d:Rat} (h0:0<=d) (h1:d<=1):(turn (t+d)=turn t/\bm (t+d)=bm t+(phU (t+d)-phU t))\/(turn (t+d)=turn t+1/\bm (t+d)=bm t+(phU (t+d)-phU t)-360):=by
 have r:=iU t h0
 have b:=cg t
 have c:=cg (t+d)
 have p:=iE t
 have q:=iE (t+d)
 rw[dz] at*
 by_cases h:phU (t+d)<360*((turn t:Int):Rat)+360
 ·have e:turn (t+d)=turn t:=uo (by rw[dz];grind) (by rw[dz];grind)
  rw[e] at q
  exact .inl ⟨e,by grind⟩
 ·have e:turn (t+d)=turn t+1:=uo (by rw[dz,Rat.intCast_add,Rat.intCast_one];grind) (by rw[dz,Rat.intCast_add,Rat.intCast_one];grind)
  rw[e,Rat.intCast_add,Rat.intCast_one] at q
  exact .inr ⟨e,by grind⟩
theorem kQ (t:Rat):0<=bm t/\bm t<360:=by
 have a:=iH t
 have b:=ic t
 rw[dz] at b
 exact⟨a,b⟩
theorem kE (t:Rat) {d:Rat} (h0:0<=d) (h1:d<=1):(full t=true/\full (t+d)=false)↔turn (t+d)=turn t+1:=by
 have r:=iU t h0
 have a:=kQ t
 have b:=kQ (t+d)
 unfold full
 rw[decide_eq_true_iff,decide_eq_false_iff_not,show((180:Int):Rat)=180 from rfl]
 rcases jz t h0 h1 with⟨e,p⟩|⟨e,p⟩
 ·constructor
  ·rintro⟨x,y⟩;exact absurd (show 180<=bm (t+d) by grind) y
  ·intro x;omega
 ·constructor
  ·intro _;exact e
  ·intro _;exact⟨by grind,by grind⟩
def bi (n:Int):Int:=turn ((n:Int):Rat)
def aY (n:Int):Bool:=full ((n:Int):Rat) && !full (((n+1:Int)):Rat)
theorem eC (n:Int):(((n+1:Int)):Rat)=((n:Int):Rat)+1:=by rw[Rat.intCast_add,Rat.intCast_one]
theorem cm (n:Int):aY n=true↔bi (n+1)=bi n+1:=by
 have h:=kE ((n:Int):Rat) (d:=1) (by decide) (by decide)
 unfold aY bi
 rw[eC,<-h,Bool.and_eq_true,Bool.not_eq_true']
theorem gF (n:Int):bi (n+1)=bi n\/bi (n+1)=bi n+1:=by
 unfold bi
 rw[eC]
 rcases jz ((n:Int):Rat) (d:=1) (by decide) (by decide) with h|h
 ·exact .inl h.1
 ·exact .inr h.1
theorem AD (n:Int) (k:Nat):bi n<=bi (n+k):=by
 induction k with
 |zero=>rw[show n+((0:Nat):Int)=n by omega];exact Int.le_refl _
 |succ k ih=>
  rw[show n+((k+1:Nat):Int)=n+k+1 by omega]
  have:=gF (n+k)
  omega
theorem eE {a b:Int} (h:a<=b):bi a<=bi b:=by
 have:=AD a (b-a).toNat
 rwa[show a+(((b-a).toNat :Nat):Int)=b by omega] at this
theorem fC {a b:Int} (h:a<=b) (no:∀m,a<=m->m<b->¬aY m=true):bi b=bi a:=by
 have key:∀k:Nat,a+k<=b->bi (a+k)=bi a:=by
  intro k
  induction k with
  |zero=>intro _;rw[show a+((0:Nat):Int)=a by omega]
  |succ k ih=>
   intro hk
   rw[show a+((k+1:Nat):Int)=a+k+1 by omega]
   have h1:=ih (by omega)
   have h2:=no (a+k) (by omega) (by omega)
   rw[cm] at h2
   have:=gF (a+k)
   omega
 have:=key (b-a).toNat (by omega)
 rwa[show a+(((b-a).toNat :Nat):Int)=b by omega] at this
theorem Dp {a f:Int} (h:a<=f) (g:bi a<bi f):∃L,a<=L/\L<f/\aY L=true/\∀m,L<m->m<f->¬aY m=true:=by
 have key:∀k:Nat,k<=(f-a).toNat ->bi (f-k)<bi f->∃L,f-k<=L/\L<f/\aY L=true/\∀m,L<m->m<f->¬aY m=true:=by
  intro k
  induction k with
  |zero=>intro _ x;rw[show f-((0:Nat):Int)=f by omega] at x;omega
  |succ k ih=>
   intro hk x
   by_cases y:bi (f-k)<bi f
   ·obtain⟨L,l1,l2,l3,l4⟩:=ih (by omega) y
    exact⟨L,by omega,l2,l3,l4⟩
   ·have z:=eE (a:=f-k) (b:=f) (by omega)
    refine⟨f-((k+1:Nat):Int),Int.le_refl _,by omega,?_,?_⟩
    ·rw[cm,show f-((k+1:Nat):Int)+1=f-k by omega]
     have:=gF (f-((k+1:Nat):Int))
     rw[show f-((k+1:Nat):Int)+1=f-k by omega] at this
     omega
    ·intro m m1 m2 c
     rw[cm] at c
     have p:=eE (a:=f-k) (b:=m) (by omega)
     have q:=eE (a:=m+1) (b:=f) (by omega)
     omega
 have:=key (f-a).toNat (Nat.le_refl _) (by rwa[show f-(((f-a).toNat :Nat):Int)=a by omega])
 rwa[show f-(((f-a).toNat :Nat):Int)=a by omega] at this
theorem ue (f:Int):∃L,f-34<=L/\L<f/\aY L=true/\∀m,L<m->m<f->¬aY m=true:=by
 refine Dp (a:=f-34) (by omega) ?_
 have r:=(iU (((f-34:Int)):Rat) (d:=34) (by decide)).1
 have a:=cg (((f-34:Int)):Rat)
 have b:=cg ((f:Int):Rat)
 rw[show(((f-34:Int)):Rat)+34=((f:Int):Rat) by rw[Rat.intCast_sub,show((34:Int):Rat)=34 from rfl];grind] at r
 rw[dz] at*
 unfold bi
 have u:((turn (((f-34:Int)):Rat):Int):Rat)<((turn ((f:Int):Rat):Int):Rat):=by grind
 exact Rat.intCast_lt_intCast.1 u
theorem tX {n:Int} (h:aY n=true):∃m,n+28<=m/\m<=n+31/\aY m=true/\∀k,n<k->k<m->¬aY k=true:=by
 rw[cm] at h
 have k1:((360:Int):Rat)/psy<12191/1000:=by decide+kernel
 have k2:1219/100<((360:Int):Rat)/psy:=by decide+kernel
 have c0:=cg ((n:Int):Rat)
 have c1:=cg (((n+1:Int)):Rat)
 have c2:=cg (((n+28:Int)):Rat)
 have c3:=cg (((n+32:Int)):Rat)
 have r1:=(pj ((n:Int):Rat) 28).2
 have r2:=(pj (((n+1:Int)):Rat) 31).1
 rw[show((n:Int):Rat)+28=(((n+28:Int)):Rat) by rw[Rat.intCast_add];rfl] at r1
 rw[show(((n+1:Int)):Rat)+31=(((n+32:Int)):Rat) by rw[Rat.intCast_add,Rat.intCast_add,show((32:Int):Rat)=32 from rfl,Rat.intCast_one];grind] at r2
 unfold bi at h
 rw[h,Rat.intCast_add,Rat.intCast_one] at c1
 rw[dz] at*
 generalize (360:Rat)/psy=s at*
 have u:((turn (((n+28:Int)):Rat):Int):Rat)<((turn ((n:Int):Rat)+2:Int):Rat):=by rw[show((turn ((n:Int):Rat)+2:Int):Rat)=((turn ((n:Int):Rat):Int):Rat)+2 from Rat.intCast_add _ _];grind
 have l:((turn ((n:Int):Rat)+1:Int):Rat)<((turn (((n+32:Int)):Rat):Int):Rat):=by rw[show((turn ((n:Int):Rat)+1:Int):Rat)=((turn ((n:Int):Rat):Int):Rat)+1 from Rat.intCast_add _ _];grind
 have u:=Rat.intCast_lt_intCast.1 u
 have l:=Rat.intCast_lt_intCast.1 l
 have e1:bi (n+1)=bi n+1:=h
 have u:bi (n+28)<bi n+2:=u
 have l:bi n+1<bi (n+32):=l
 have up:bi (n+1)<=bi (n+28):=eE (by omega)
 -- the first one behind day n+28
 have key:∀k:Nat,bi (n+28)<bi (n+28+k)->∃m,n+28<=m/\m<n+28+k/\aY m=true/\∀j,n+28<=j->j<m->¬aY j=true:=by
  intro k
  induction k with
  |zero=>intro x;rw[show n+28+((0:Nat):Int)=n+28 by omega] at x;omega
  |succ k ih=>
   intro x
   by_cases y:bi (n+28)<bi (n+28+k)
   ·obtain⟨m,m1,m2,m3,m4⟩:=ih y
    exact⟨m,m1,by omega,m3,m4⟩
   ·have z:=eE (a:=n+28) (b:=n+28+k) (by omega)
    rw[show n+28+((k+1:Nat):Int)=n+28+k+1 by omega] at x
    refine⟨n+28+k,by omega,by omega,?_,?_⟩
    ·rw[cm]
     have:=gF (n+28+k)
     omega
    ·intro j j1 j2 c
     rw[cm] at c
     have p:=eE (a:=n+28) (b:=j) (by omega)
     have q:=eE (a:=j+1) (b:=n+28+k) (by omega)
     omega
 obtain⟨m,m1,m2,m3,m4⟩:=key 4 (by rw[show n+28+((4:Nat):Int)=n+32 by omega];omega)
 refine⟨m,m1,by omega,m3,fun k k1 k2 c=>?_⟩
 by_cases hk:n+28<=k
 ·exact m4 k hk k2 c
 ·rw[cm] at c
  have p:=eE (a:=n+1) (b:=k) (by omega)
  have q:=eE (a:=k+1) (b:=n+28) (by omega)
  omega
def atR (lo hi:Rat) (k n:Int):Rat:=lo+(hi-lo)*(((k:Int):Rat)/((n:Int):Rat))
def hlv (p:Rat->Bool) (lo hi:Rat):Nat->Int
 |0=>0
 |n+1=>if p (atR lo hi (2*hlv p lo hi n+1) (2^(n+1)))=true then 2*hlv p lo hi n else 2*hlv p lo hi n+1
theorem j7 (n:Nat):(0:Int)<2^n:=Int.pow_pos (by decide)
theorem iZ (n:Nat):(2:Int)^(n+1)=2*2^n:=by rw[Int.pow_succ,Int.mul_comm]
theorem gy (p:Rat->Bool) (lo hi:Rat) (n:Nat):0<=hlv p lo hi n/\hlv p lo hi n<2^n:=by
 induction n with
 |zero=>exact⟨Int.le_refl _,by show(0:Int)<1;decide⟩
 |succ n ih=>
  have e:=iZ n
  unfold hlv
  split <;> omega
theorem l9 {n:Int} (h:n≠0):((n:Int):Rat)≠0:=fun e=>h (Rat.intCast_inj.1 (by rw[e,Rat.intCast_zero]))
theorem uW (k:Int) {n c:Int} (hn:n≠0) (hc:c≠0):((k*c:Int):Rat)/((n*c:Int):Rat)=((k:Int):Rat)/((n:Int):Rat):=by
 have h1:=l9 hn
 have h2:=l9 hc
 rw[Rat.intCast_mul,Rat.intCast_mul]
 generalize ((n:Int):Rat)=x at*
 generalize ((c:Int):Rat)=y at*
 generalize ((k:Int):Rat)=z at*
 grind
theorem pP (lo hi:Rat) (k:Int) {n c:Int} (hn:n≠0) (hc:c≠0):atR lo hi (k*c) (n*c)=atR lo hi k n:=by unfold atR;rw[uW k hn hc]
theorem Ch (lo hi:Rat) (k:Int) {n:Int} (hn:n≠0):(atR lo hi k n+atR lo hi (k+1) n)*(((1:Int):Rat)/((2:Int):Rat))=atR lo hi (2*k+1) (2*n):=by
 have h1:=l9 hn
 unfold atR
 rw[Rat.intCast_add,Rat.intCast_add,Rat.intCast_mul,Rat.intCast_mul,show((1:Int):Rat)=1 from rfl,show((2:Int):Rat)=2 from rfl]
 generalize ((n:Int):Rat)=x at*
 generalize ((k:Int):Rat)=z at*
 grind
theorem B9 (lo hi:Rat) (k:Int) {n:Int} (hn:n≠0):atR lo hi (k+1) n-atR lo hi k n=(hi-lo)*(((1:Int):Rat)/((n:Int):Rat)):=by
 have h1:=l9 hn
 unfold atR
 rw[Rat.intCast_add,show((1:Int):Rat)=1 from rfl]
 generalize ((n:Int):Rat)=x at*
 generalize ((k:Int):Rat)=z at*
 grind
theorem zH (lo hi:Rat) (n:Int):atR lo hi 0 n=lo:=by unfold atR;rw[Rat.intCast_zero,Rat.div_def,Rat.zero_mul,Rat.mul_zero,Rat.add_zero]
theorem Di (lo hi:Rat):atR lo hi 1 1=hi:=by unfold atR;rw[show((1:Int):Rat)/((1:Int):Rat)=1 by decide+kernel];grind
def hlo (p:Rat->Bool) (lo hi:Rat) (n:Nat):Rat:=atR lo hi (hlv p lo hi n) (2^n)
def hhi (p:Rat->Bool) (lo hi:Rat) (n:Nat):Rat:=atR lo hi (hlv p lo hi n+1) (2^n)
def hmi (p:Rat->Bool) (lo hi:Rat) (n:Nat):Rat:=atR lo hi (2*hlv p lo hi n+1) (2^(n+1))
theorem rL (p:Rat->Bool) (lo hi:Rat):hlo p lo hi 0=lo:=zH lo hi _
theorem qV (p:Rat->Bool) (lo hi:Rat):hhi p lo hi 0=hi:=Di lo hi
theorem C0 (p:Rat->Bool) (lo hi:Rat) (n:Nat):(hlo p lo hi n+hhi p lo hi n)*(((1:Int):Rat)/((2:Int):Rat))=hmi p lo hi n:=by
 unfold hlo hhi hmi
 rw[Ch lo hi _ (by have:=j7 n;omega),iZ]
theorem Bl {p:Rat->Bool} {lo hi:Rat} {n:Nat} (h:p (hmi p lo hi n)=true):hlv p lo hi (n+1)=2*hlv p lo hi n:=by show(if _ then _ else _)=_;exact if_pos h
theorem Bm {p:Rat->Bool} {lo hi:Rat} {n:Nat} (h:p (hmi p lo hi n)=false):hlv p lo hi (n+1)=2*hlv p lo hi n+1:=by show(if _ then _ else _)=_;exact if_neg (by rw[show p (atR lo hi (2*hlv p lo hi n+1) (2^(n+1)))=false from h];simp)
theorem Bi {p:Rat->Bool} {lo hi:Rat} {n:Nat} (h:p (hmi p lo hi n)=true):hlo p lo hi (n+1)=hlo p lo hi n:=by
 unfold hlo
 rw[Bl h,iZ,Int.mul_comm 2 (hlv p lo hi n),Int.mul_comm 2 (2^n)]
 exact pP lo hi _ (by have:=j7 n;omega) (by decide)
theorem A7 {p:Rat->Bool} {lo hi:Rat} {n:Nat} (h:p (hmi p lo hi n)=true):hhi p lo hi (n+1)=hmi p lo hi n:=by unfold hhi hmi;rw[Bl h]
theorem BH {p:Rat->Bool} {lo hi:Rat} {n:Nat} (h:p (hmi p lo hi n)=false):hlo p lo hi (n+1)=hmi p lo hi n:=by unfold hlo hmi;rw[Bm h]
theorem BJ {p:Rat->Bool} {lo hi:Rat} {n:Nat} (h:p (hmi p lo hi n)=false):hhi p lo hi (n+1)=hhi p lo hi n:=by
 unfold hhi
 rw[Bm h,iZ,show 2*hlv p lo hi n+1+1=(hlv p lo hi n+1)*2 by omega,Int.mul_comm 2 (2^n)]
 exact pP lo hi _ (by have:=j7 n;omega) (by decide)
theorem zJ {p:Rat->Bool} {lo:Rat} (hi:Rat) (h:p lo=false) (n:Nat):p (hlo p lo hi n)=false:=by
 induction n with
 |zero=>rw[rL];exact h
 |succ n ih=>
  cases hm:p (hmi p lo hi n) with
  |true=>rw[Bi hm];exact ih
  |false=>rw[BH hm];exact hm
theorem xN {p:Rat->Bool} (lo:Rat) {hi:Rat} (h:p hi=true) (n:Nat):p (hhi p lo hi n)=true:=by
 induction n with
 |zero=>rw[qV];exact h
 |succ n ih=>
  cases hm:p (hmi p lo hi n) with
  |true=>rw[A7 hm];exact hm
  |false=>rw[BJ hm];exact ih
theorem Dt (p:Rat->Bool) (lo hi:Rat) (n:Nat):hhi p lo hi n-hlo p lo hi n=(hi-lo)*(((1:Int):Rat)/(((2^n:Int):Int):Rat)):=B9 lo hi _ (by have:=j7 n;omega)
theorem pz {n:Nat} (h:n<=64):(2:Int)^n<=18446744073709551616:=by
 have:(2:Nat)^n<=2^64:=Nat.pow_le_pow_right (by decide) h
 have e:((2^n:Nat):Int)=(2:Int)^n:=by rw[Int.natCast_pow];rfl
 rw[<-e];exact Int.ofNat_le.2 this
theorem Ez {n d:Int} {k:Nat} (h:n.natAbs<B32^k) (g:d.natAbs<B32^k) (hk:1<=k):au (((n:Int):Rat)/((d:Int):Rat)) (k+k):=cR (bZ h hk) (bZ g hk)
theorem pe {lo hi:Rat} {k n:Int} {i j:Nat} (h1:au lo i) (h2:au hi j) (hk:0<=k) (hk2:k<=n) (hn2:n<=18446744073709551616):au (atR lo hi k n) (2*i+j+8):=by
 have b:(18446744073709551616:Nat)<B32^3:=by decide+kernel
 exact(bl h1 (aW (bR h2 h1) (Ez (n:=k) (d:=n) (k:=3) (by omega) (by omega) (by decide)))).up _ (by omega)
theorem CE {p:Rat->Bool} {lo hi:Rat} {i j n:Nat} (h1:au lo i) (h2:au hi j) (hn:n<=64):au (hlo p lo hi n) (2*i+j+8):=
 pe h1 h2 (gy p lo hi n).1 (by have:=gy p lo hi n;omega) (pz hn)
theorem ux {p:Rat->Bool} {lo hi:Rat} {i j n:Nat} (h1:au lo i) (h2:au hi j) (hn:n<=64):au (hhi p lo hi n) (2*i+j+8):=
 pe h1 h2 (by have:=gy p lo hi n;omega) (by have:=gy p lo hi n;omega) (pz hn)
theorem Cq {p:Rat->Bool} {lo hi:Rat} {i j n:Nat} (h1:au lo i) (h2:au hi j) (hn:n<64):au (hmi p lo hi n) (2*i+j+8):=
 pe h1 h2 (by have:=gy p lo hi n;omega) (by have:=gy p lo hi n;have:=iZ n;omega) (pz hn)
theorem pS {x:Rat} {n:Int} (hn:0<n):prt (rmod x ((360:Int):Rat)) n=(x*(((n:Int):Rat)/((360:Int):Rat))).floor %n:=by
 have np:(0:Rat)<((n:Int):Rat):=Rat.intCast_pos.2 hn
 have e:(rmod x ((360:Int):Rat))*(((n:Int):Rat)/((360:Int):Rat))=x*(((n:Int):Rat)/((360:Int):Rat))+((n*(-(x/((360:Int):Rat)).floor):Int):Rat):=by
  rw[fP bP,Rat.intCast_mul,Rat.div_def ((n:Int):Rat),dz];grind
 have b:=ke (x:=rmod x ((360:Int):Rat)) hn (fx bP) (et bP)
 unfold prt at b ⊢
 rw[e,Rat.floor_add_intCast] at b ⊢
 have h:=Int.emod_eq_of_lt (b:=n) b.1 b.2
 rw[<-h,Int.add_mul_emod_self_left]
def skp (x:Rat):Int:=(x*(((1:Int):Rat)/((14:Int):Rat))).floor
theorem rB:((1:Int):Rat)/((14:Int):Rat)=1/14:=by decide+kernel
theorem qO {x:Rat} {m:Int} (h:x<=134/10*((m:Int):Rat)) (hm:0<m):skp x<=m-1:=by
 have c:=Rat.intCast_lt_intCast.2 hm
 have:skp x<m:=Rat.floor_lt_iff.2 (by rw[rB];rw[Rat.intCast_zero] at c;grind)
 omega
theorem rN {x:Rat} (h:0<=x):0<=skp x:=Rat.le_floor_iff.2 (by rw[rB,Rat.intCast_zero];grind)
theorem tV {a b:Int} (h:a<=b):phU ((b:Int):Rat)-phU ((a:Int):Rat)<=134/10*(((b-a:Int)):Rat):=by
 have c:0<=(((b-a:Int)):Rat):=Rat.intCast_nonneg.2 (by omega)
 have r:=(iU ((a:Int):Rat) c).2
 have e:((a:Int):Rat)+(((b-a:Int)):Rat)=((b:Int):Rat):=by rw[<-Rat.intCast_add];congr 1;omega
 rwa[e] at r
theorem xY {n L:Int} (h:L<n) (hc:aY L=true) (hn:∀m,L<m->m<n->¬aY m=true):0<=skp (bm ((n:Int):Rat))/\skp (bm ((n:Int):Rat))<=n-L-1:=by
 refine⟨rN (kQ _).1,?_⟩
 have t1:bi n=bi (L+1):=fC (by omega) fun m h1 h2=>hn m (by omega) h2
 have t2:=(cm L).1 hc
 have a:=(cg ((L:Int):Rat)).2
 have q:=iE ((n:Int):Rat)
 have r:=tV (Int.le_of_lt h)
 have e:((turn ((n:Int):Rat):Int):Rat)=((turn ((L:Int):Rat):Int):Rat)+1:=by
  rw[show turn ((n:Int):Rat)=turn ((L:Int):Rat)+1 from t1.trans t2,Rat.intCast_add];rfl
 rw[e] at q
 rw[show((360:Int):Rat)=360 from rfl] at a q
 exact qO (by grind) (by omega)
theorem wQ {n M:Int} (h:n<M) (hc:aY M=true) (hn:∀k,n<k->k<M->¬aY k=true):0<=skp (((360:Int):Rat)-bm (((n+1:Int)):Rat))/\n+1+skp (((360:Int):Rat)-bm (((n+1:Int)):Rat))<=M:=by
 have p:=kQ (((n+1:Int)):Rat)
 rw[show((360:Int):Rat)=360 from rfl]
 refine⟨rN (by grind),?_⟩
 have t1:bi M=bi (n+1):=fC (by omega) fun m h1 h2=>hn m (by omega) h2
 have t2:=(cm M).1 hc
 have a:=(cg (((M+1:Int)):Rat)).1
 have q:=iE (((n+1:Int)):Rat)
 have r:=tV (a:=n+1) (b:=M+1) (by omega)
 have e:((turn (((M+1:Int)):Rat):Int):Rat)=((turn (((n+1:Int)):Rat):Int):Rat)+1:=by
  rw[show turn (((M+1:Int)):Rat)=turn (((n+1:Int)):Rat)+1 from by rw[show turn (((M+1:Int)):Rat)=bi (M+1) from rfl,t2,t1];rfl,Rat.intCast_add];rfl
 rw[e] at a
 rw[show((360:Int):Rat)=360 from rfl] at a q
 have:=qO (x:=360-bm (((n+1:Int)):Rat)) (m:=M+1-(n+1)) (by grind) (by omega)
 omega
noncomputable def dN (f:Int):Int:=Classical.choose (ue f)
theorem eu (f:Int):f-34<=dN f/\dN f<f/\aY (dN f)=true/\∀m,dN f<m->m<f->¬aY m=true:=Classical.choose_spec (ue f)
def kR (t:Rat):Bool:=full ((t.floor:Int):Rat) && !full t
noncomputable def ar (t:Rat):Int:=if kR t=true then t.floor else dN t.floor
theorem lC {t:Rat} (h:kR t=true):ar t=t.floor:=if_pos h
theorem nB {t:Rat} (h:¬kR t=true):ar t=dN t.floor:=if_neg h
theorem nD (t:Rat):t.floor-34<=ar t/\ar t<=t.floor:=by
 have s:=eu t.floor
 unfold ar
 split <;> omega
theorem Ab {f n:Int} (h:dN f<=n) (hn:n<f) (hc:aY n=true):n=dN f:=by
 have s:=eu f
 by_cases e:dN f<n
 ·exact absurd hc (s.2.2.2 n e hn)
 ·omega
theorem yY {f n:Int} (h:dN f<=n) (hc:¬aY n=true):dN f<n:=by
 have s:=eu f
 by_cases e:n=dN f
 ·rw[e] at hc;exact absurd s.2.2.1 hc
 ·omega
noncomputable def ag (n:Int):Int:=if h:aY n=true then Classical.choose (tX h) else 0
theorem bJ {n:Int} (h:aY n=true):n+28<=ag n/\ag n<=n+31/\aY (ag n)=true/\∀k,n<k->k<ag n->¬aY k=true:=by
 unfold ag
 rw[dif_pos h]
 exact Classical.choose_spec (tX h)
theorem Ad {n m:Int} (h:aY n=true) (h1:n<m) (h2:m<=ag n) (hc:aY m=true):m=ag n:=by
 have s:=bJ h
 by_cases e:m<ag n
 ·exact absurd hc (s.2.2.2 m h1 e)
 ·omega
end Go.Proofs.YtddiipaomejcfaaGreatDoor
