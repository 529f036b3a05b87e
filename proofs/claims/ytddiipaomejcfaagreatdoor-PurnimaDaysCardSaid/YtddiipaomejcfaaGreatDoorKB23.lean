import Derived.Test.YtddiipaomejcfaaGreatDoorKB22
namespace Go.Proofs.YtddiipaomejcfaaGreatDoor
open Go.RowKit
set_option maxRecDepth 100000
set_option linter.unusedVariables false
set_option maxHeartbeats 8000000
def dt (t:Rat):Rat:=((360:Int):Rat)*bl t pyr-de t
def ig (t:Rat):Rat:=((360:Int):Rat)*bl t pmo-gV t
def phU (t:Rat):Rat:=ig t-dt t
theorem xJ (t:Rat):cT t=rmod (dt t) ((360:Int):Rat):=by
 unfold cT dt de atv
 rw[jF (t:=t) kd,show((360:Int):Rat)*bl t pyr+((360:Int):Rat)*(((-(bl t pyr).floor :Int)):Rat)-eqv t pay ssz sch=(((360:Int):Rat)*bl t pyr-eqv t pay ssz sch)+((360:Int):Rat)*(((-(bl t pyr).floor :Int)):Rat) by grind,jH _ bj]
theorem H4 (t:Rat):mC t=rmod (ig t) ((360:Int):Rat):=by
 unfold mC ig gV atv
 rw[jF (t:=t) Jb,show((360:Int):Rat)*bl t pmo+((360:Int):Rat)*(((-(bl t pmo).floor :Int)):Rat)-eqv t pam msz mch=(((360:Int):Rat)*bl t pmo-eqv t pam msz mch)+((360:Int):Rat)*(((-(bl t pmo).floor :Int)):Rat) by grind,jH _ bj]
theorem vH (t:Rat):bf t=rmod (phU t) ((360:Int):Rat):=by
 unfold bf phU
 rw[H4,xJ,vr]
theorem wY (t d:Rat):(de (t+d)-de t).abs <=ssz*(225/224)*(((360:Int):Rat)*(d/pay)).abs :=
 pG (n:=0) jj (by decide+kernel) (by decide+kernel) (by decide+kernel) (by decide+kernel) (by rw[dM,Rat.intCast_zero];grind)
theorem Cq (t d:Rat):(gV (t+d)-gV t).abs <=msz*(225/224)*(((360:Int):Rat)*(d/pam)).abs :=
 pG (n:=0) sC (by decide+kernel) (by decide+kernel) (by decide+kernel) (by decide+kernel) (by rw[dM,Rat.intCast_zero];grind)
theorem tG {s c d:Rat} (hs:0<=s) (hc:0<c) (hd:0<=d):s*(((360:Int):Rat)*(d/c)).abs =s*((360:Int):Rat)/c*d:=by
 have h:(0:Rat)<=((360:Int):Rat)*(d/c):=Rat.mul_nonneg (by decide) (by rw[Rat.div_def];exact Rat.mul_nonneg hd (Rat.le_of_lt (Rat.inv_pos.2 hc)))
 rw[Rat.abs_of_nonneg h,Rat.div_def,Rat.div_def];grind
theorem wQ (t:Rat) {d:Rat} (hd:0<=d):9471/10000*d<=dt (t+d)-dt t/\dt (t+d)-dt t<=10242/10000*d:=by
 have l:=cE (wY t d)
 rw[tG (s:=ssz*(225/224)) (by decide+kernel) jj hd] at l
 have k:ssz*(225/224)*((360:Int):Rat)/pay<385015/10000000:=by decide+kernel
 have k1:985602/1000000<((360:Int):Rat)/pyr:=by decide+kernel
 have k2:((360:Int):Rat)/pyr<985603/1000000:=by decide+kernel
 have e:dt (t+d)-dt t=((360:Int):Rat)/pyr*d-(de (t+d)-de t):=by
  unfold dt;rw[dM,Rat.div_def,Rat.div_def];grind
 have m:=Rat.mul_nonneg (a:=385015/10000000-ssz*(225/224)*((360:Int):Rat)/pay) (b:=d) (by grind) hd
 have m1:=Rat.mul_nonneg (a:=((360:Int):Rat)/pyr-985602/1000000) (b:=d) (by grind) hd
 have m2:=Rat.mul_nonneg (a:=985603/1000000-((360:Int):Rat)/pyr) (b:=d) (by grind) hd
 rw[e]
 generalize ssz*(225/224)*((360:Int):Rat)/pay=x at*
 generalize ((360:Int):Rat)/pyr=y at*
 constructor <;> grind
theorem Dx (t:Rat) {d:Rat} (hd:0<=d):12009/1000*d<=ig (t+d)-ig t/\ig (t+d)-ig t<=14343/1000*d:=by
 have l:=cE (Cq t d)
 rw[tG (s:=msz*(225/224)) (by decide+kernel) sC hd] at l
 have k:msz*(225/224)*((360:Int):Rat)/pam<11666/10000:=by decide+kernel
 have k1:1317635/100000<((360:Int):Rat)/pmo:=by decide+kernel
 have k2:((360:Int):Rat)/pmo<1317636/100000:=by decide+kernel
 have e:ig (t+d)-ig t=((360:Int):Rat)/pmo*d-(gV (t+d)-gV t):=by
  unfold ig;rw[dM,Rat.div_def,Rat.div_def];grind
 have m:=Rat.mul_nonneg (a:=11666/10000-msz*(225/224)*((360:Int):Rat)/pam) (b:=d) (by grind) hd
 have m1:=Rat.mul_nonneg (a:=((360:Int):Rat)/pmo-1317635/100000) (b:=d) (by grind) hd
 have m2:=Rat.mul_nonneg (a:=1317636/100000-((360:Int):Rat)/pmo) (b:=d) (by grind) hd
 rw[e]
 generalize msz*(225/224)*((360:Int):Rat)/pam=x at*
 generalize ((360:Int):Rat)/pmo=y at*
 constructor <;> grind
theorem jq (t:Rat) {d:Rat} (hd:0<=d):1098/100*d<=phU (t+d)-phU t/\phU (t+d)-phU t<=134/10*d:=by
 have a:=wQ t hd
 have b:=Dx t hd
 unfold phU
 constructor <;> grind
theorem tx (t d:Rat):((360:Int):Rat)/psy*d-146/10<=phU (t+d)-phU t/\phU (t+d)-phU t<=((360:Int):Rat)/psy*d+146/10:=by
 have a1:=cE (jd t)
 have a2:=cE (jd (t+d))
 have b1:=cE (t8 t)
 have b2:=cE (t8 (t+d))
 have c:((22:Int):Rat)/((10:Int):Rat)=22/10:=by decide+kernel
 have c':((51:Int):Rat)/((10:Int):Rat)=51/10:=by decide+kernel
 rw[c] at a1 a2
 rw[c'] at b1 b2
 have k:((360:Int):Rat)/psy=((360:Int):Rat)/pmo-((360:Int):Rat)/pyr:=by decide+kernel
 have e:phU (t+d)-phU t=((360:Int):Rat)/psy*d-(gV (t+d)-gV t)+(de (t+d)-de t):=by
  unfold phU ig dt;rw[k,dM,dM,Rat.div_def,Rat.div_def,Rat.div_def,Rat.div_def];grind
 rw[e]
 constructor <;> grind
def full (t:Rat):Bool:=decide (((180:Int):Rat)<=bf t)
def turn (t:Rat):Int:=(phU t/((360:Int):Rat)).floor
theorem cR (t:Rat):((360:Int):Rat)*((turn t:Int):Rat)<=phU t/\phU t<((360:Int):Rat)*((turn t:Int):Rat)+360:=by
 have a:=eI (phU t/((360:Int):Rat))
 have b:=fk (phU t/((360:Int):Rat))
 have e:phU t=phU t/((360:Int):Rat)*((360:Int):Rat):=(Rat.div_mul_cancel (by decide)).symm
 unfold turn
 rw[eu] at*
 constructor <;> grind
theorem zx {t:Rat} {j:Int} (h0:((360:Int):Rat)*((j:Int):Rat)<=phU t) (h1:phU t<((360:Int):Rat)*((j:Int):Rat)+360):turn t=j:=by
 have b:=cR t
 rw[eu] at*
 have u:((turn t:Int):Rat)<((j+1:Int):Rat):=by rw[Rat.intCast_add,Rat.intCast_one];grind
 have l:((j:Int):Rat)<((turn t+1:Int):Rat):=by rw[Rat.intCast_add,Rat.intCast_one];grind
 have:=Rat.intCast_lt_intCast.1 u
 have:=Rat.intCast_lt_intCast.1 l
 omega
theorem iS (t:Rat):bf t=phU t-((360:Int):Rat)*((turn t:Int):Rat):=by
 rw[vH,gR bj]
 unfold turn
 rw[Rat.intCast_neg];grind
theorem jN (t:Rat) {d:Rat} (h0:0<=d) (h1:d<=1):(turn (t+d)=turn t/\bf (t+d)=bf t+(phU (t+d)-phU t))\/(turn (t+d)=turn t+1/\bf (t+d)=bf t+(phU (t+d)-phU t)-360):=by
 have r:=jq t h0
 have b:=cR t
 have c:=cR (t+d)
 have p:=iS t
 have q:=iS (t+d)
 rw[eu] at*
 by_cases h:phU (t+d)<360*((turn t:Int):Rat)+360
 ·have e:turn (t+d)=turn t:=zx (by rw[eu];grind) (by rw[eu];grind)
  rw[e] at q
  exact .inl ⟨e,by grind⟩
 ·have e:turn (t+d)=turn t+1:=zx (by rw[eu,Rat.intCast_add,Rat.intCast_one];grind) (by rw[eu,Rat.intCast_add,Rat.intCast_one];grind)
  rw[e,Rat.intCast_add,Rat.intCast_one] at q
  exact .inr ⟨e,by grind⟩
theorem jg (t:Rat):0<=bf t/\bf t<360:=by
 have a:=j4 t
 have b:=jx t
 rw[eu] at b
 exact⟨a,b⟩
theorem kv (t:Rat) {d:Rat} (h0:0<=d) (h1:d<=1):(full t=true/\full (t+d)=false)↔turn (t+d)=turn t+1:=by
 have r:=jq t h0
 have a:=jg t
 have b:=jg (t+d)
 unfold full
 rw[decide_eq_true_iff,decide_eq_false_iff_not,show((180:Int):Rat)=180 from rfl]
 rcases jN t h0 h1 with⟨e,p⟩|⟨e,p⟩
 ·constructor
  ·rintro⟨x,y⟩;exact absurd (show 180<=bf (t+d) by grind) y
  ·intro x;omega
 ·constructor
  ·intro _;exact e
  ·intro _;exact⟨by grind,by grind⟩
def bA (n:Int):Int:=turn ((n:Int):Rat)
def aY (n:Int):Bool:=full ((n:Int):Rat) && !full (((n+1:Int)):Rat)
theorem fX (n:Int):(((n+1:Int)):Rat)=((n:Int):Rat)+1:=by rw[Rat.intCast_add,Rat.intCast_one]
theorem cG (n:Int):aY n=true↔bA (n+1)=bA n+1:=by
 have h:=kv ((n:Int):Rat) (d:=1) (by decide) (by decide)
 unfold aY bA
 rw[fX,<-h,Bool.and_eq_true,Bool.not_eq_true']
theorem iM (n:Int):bA (n+1)=bA n\/bA (n+1)=bA n+1:=by
 unfold bA
 rw[fX]
 rcases jN ((n:Int):Rat) (d:=1) (by decide) (by decide) with h|h
 ·exact .inl h.1
 ·exact .inr h.1
theorem Gd (n:Int) (k:Nat):bA n<=bA (n+k):=by
 induction k with
 |zero=>rw[show n+((0:Nat):Int)=n by omega];exact Int.le_refl _
 |succ k ih=>
  rw[show n+((k+1:Nat):Int)=n+k+1 by omega]
  have:=iM (n+k)
  omega
theorem f5 {a b:Int} (h:a<=b):bA a<=bA b:=by
 have:=Gd a (b-a).toNat
 rwa[show a+(((b-a).toNat :Nat):Int)=b by omega] at this
theorem gN {a b:Int} (h:a<=b) (no:∀m,a<=m->m<b->¬aY m=true):bA b=bA a:=by
 have key:∀k:Nat,a+k<=b->bA (a+k)=bA a:=by
  intro k
  induction k with
  |zero=>intro _;rw[show a+((0:Nat):Int)=a by omega]
  |succ k ih=>
   intro hk
   rw[show a+((k+1:Nat):Int)=a+k+1 by omega]
   have h1:=ih (by omega)
   have h2:=no (a+k) (by omega) (by omega)
   rw[cG] at h2
   have:=iM (a+k)
   omega
 have:=key (b-a).toNat (by omega)
 rwa[show a+(((b-a).toNat :Nat):Int)=b by omega] at this
theorem JE {a f:Int} (h:a<=f) (g:bA a<bA f):∃L,a<=L/\L<f/\aY L=true/\∀m,L<m->m<f->¬aY m=true:=by
 have key:∀k:Nat,k<=(f-a).toNat ->bA (f-k)<bA f->∃L,f-k<=L/\L<f/\aY L=true/\∀m,L<m->m<f->¬aY m=true:=by
  intro k
  induction k with
  |zero=>intro _ x;rw[show f-((0:Nat):Int)=f by omega] at x;omega
  |succ k ih=>
   intro hk x
   by_cases y:bA (f-k)<bA f
   ·obtain⟨L,l1,l2,l3,l4⟩:=ih (by omega) y
    exact⟨L,by omega,l2,l3,l4⟩
   ·have z:=f5 (a:=f-k) (b:=f) (by omega)
    refine⟨f-((k+1:Nat):Int),Int.le_refl _,by omega,?_,?_⟩
    ·rw[cG,show f-((k+1:Nat):Int)+1=f-k by omega]
     have:=iM (f-((k+1:Nat):Int))
     rw[show f-((k+1:Nat):Int)+1=f-k by omega] at this
     omega
    ·intro m m1 m2 c
     rw[cG] at c
     have p:=f5 (a:=f-k) (b:=m) (by omega)
     have q:=f5 (a:=m+1) (b:=f) (by omega)
     omega
 have:=key (f-a).toNat (Nat.le_refl _) (by rwa[show f-(((f-a).toNat :Nat):Int)=a by omega])
 rwa[show f-(((f-a).toNat :Nat):Int)=a by omega] at this
theorem zF (f:Int):∃L,f-34<=L/\L<f/\aY L=true/\∀m,L<m->m<f->¬aY m=true:=by
 refine JE (a:=f-34) (by omega) ?_
 have r:=(jq (((f-34:Int)):Rat) (d:=34) (by decide)).1
 have a:=cR (((f-34:Int)):Rat)
 have b:=cR ((f:Int):Rat)
 rw[show(((f-34:Int)):Rat)+34=((f:Int):Rat) by rw[Rat.intCast_sub,show((34:Int):Rat)=34 from rfl];grind] at r
 rw[eu] at*
 unfold bA
 have u:((turn (((f-34:Int)):Rat):Int):Rat)<((turn ((f:Int):Rat):Int):Rat):=by grind
 exact Rat.intCast_lt_intCast.1 u
theorem yY {n:Int} (h:aY n=true):∃m,n+28<=m/\m<=n+31/\aY m=true/\∀k,n<k->k<m->¬aY k=true:=by
 rw[cG] at h
 have k1:((360:Int):Rat)/psy<12191/1000:=by decide+kernel
 have k2:1219/100<((360:Int):Rat)/psy:=by decide+kernel
 have c0:=cR ((n:Int):Rat)
 have c1:=cR (((n+1:Int)):Rat)
 have c2:=cR (((n+28:Int)):Rat)
 have c3:=cR (((n+32:Int)):Rat)
 have r1:=(tx ((n:Int):Rat) 28).2
 have r2:=(tx (((n+1:Int)):Rat) 31).1
 rw[show((n:Int):Rat)+28=(((n+28:Int)):Rat) by rw[Rat.intCast_add];rfl] at r1
 rw[show(((n+1:Int)):Rat)+31=(((n+32:Int)):Rat) by rw[Rat.intCast_add,Rat.intCast_add,show((32:Int):Rat)=32 from rfl,Rat.intCast_one];grind] at r2
 unfold bA at h
 rw[h,Rat.intCast_add,Rat.intCast_one] at c1
 rw[eu] at*
 generalize (360:Rat)/psy=s at*
 have u:((turn (((n+28:Int)):Rat):Int):Rat)<((turn ((n:Int):Rat)+2:Int):Rat):=by rw[show((turn ((n:Int):Rat)+2:Int):Rat)=((turn ((n:Int):Rat):Int):Rat)+2 from Rat.intCast_add _ _];grind
 have l:((turn ((n:Int):Rat)+1:Int):Rat)<((turn (((n+32:Int)):Rat):Int):Rat):=by rw[show((turn ((n:Int):Rat)+1:Int):Rat)=((turn ((n:Int):Rat):Int):Rat)+1 from Rat.intCast_add _ _];grind
 have u:=Rat.intCast_lt_intCast.1 u
 have l:=Rat.intCast_lt_intCast.1 l
 have e1:bA (n+1)=bA n+1:=h
 have u:bA (n+28)<bA n+2:=u
 have l:bA n+1<bA (n+32):=l
 have up:bA (n+1)<=bA (n+28):=f5 (by omega)
 -- the first one behind day n+28
 have key:∀k:Nat,bA (n+28)<bA (n+28+k)->∃m,n+28<=m/\m<n+28+k/\aY m=true/\∀j,n+28<=j->j<m->¬aY j=true:=by
  intro k
  induction k with
  |zero=>intro x;rw[show n+28+((0:Nat):Int)=n+28 by omega] at x;omega
  |succ k ih=>
   intro x
   by_cases y:bA (n+28)<bA (n+28+k)
   ·obtain⟨m,m1,m2,m3,m4⟩:=ih y
    exact⟨m,m1,by omega,m3,m4⟩
   ·have z:=f5 (a:=n+28) (b:=n+28+k) (by omega)
    rw[show n+28+((k+1:Nat):Int)=n+28+k+1 by omega] at x
    refine⟨n+28+k,by omega,by omega,?_,?_⟩
    ·rw[cG]
     have:=iM (n+28+k)
     omega
    ·intro j j1 j2 c
     rw[cG] at c
     have p:=f5 (a:=n+28) (b:=j) (by omega)
     have q:=f5 (a:=j+1) (b:=n+28+k) (by omega)
     omega
 obtain⟨m,m1,m2,m3,m4⟩:=key 4 (by rw[show n+28+((4:Nat):Int)=n+32 by omega];omega)
 refine⟨m,m1,by omega,m3,fun k k1 k2 c=>?_⟩
 by_cases hk:n+28<=k
 ·exact m4 k hk k2 c
 ·rw[cG] at c
  have p:=f5 (a:=n+1) (b:=k) (by omega)
  have q:=f5 (a:=k+1) (b:=n+28) (by omega)
  omega
theorem BL {t:Rat} {f L:Int} (hf:f=t.floor) (no:¬(full ((f:Int):Rat)=true/\full t=false)) (hL:L<f) (hc:aY L=true) (hn:∀m,L<m->m<f->¬aY m=true):L<=(t-bf t*(((10:Int):Rat)/((135:Int):Rat))).floor :=by
 have f0:((f:Int):Rat)<=t:=by rw[hf];exact eI t
 have f1:t<((f:Int):Rat)+1:=by rw[hf];exact fk t
 have e:((f:Int):Rat)+(t-((f:Int):Rat))=t:=by grind
 have s:=jN ((f:Int):Rat) (d:=t-((f:Int):Rat)) (by grind) (by grind)
 have i:=kv ((f:Int):Rat) (d:=t-((f:Int):Rat)) (by grind) (by grind)
 rw[e] at s i
 have ht:turn t=bA f:=by
  rcases s with s|s
  ·exact s.1
  ·exact absurd (i.2 s.1) no
 have hb:=gN (a:=L+1) (b:=f) (by omega) fun m h1 h2=>hn m (by omega) h2
 rw[cG] at hc
 have hJ:turn t=turn ((L:Int):Rat)+1:=by rw[ht,hb];exact hc
 have c:=cR ((L:Int):Rat)
 have p:=iS t
 have pb:=jg t
 have Lf:=cg (show L+1<=f by omega)
 rw[Rat.intCast_add,Rat.intCast_one] at Lf
 have r:=(jq ((L:Int):Rat) (d:=t-((L:Int):Rat)) (by grind)).2
 rw[show((L:Int):Rat)+(t-((L:Int):Rat))=t by grind] at r
 rw[hJ,Rat.intCast_add,Rat.intCast_one] at p
 rw[eu] at*
 refine Rat.le_floor_iff.2 ?_
 rw[show((10:Int):Rat)/((135:Int):Rat)=10/135 by decide+kernel]
 grind
def atR (lo hi:Rat) (k n:Int):Rat:=lo+(hi-lo)*(((k:Int):Rat)/((n:Int):Rat))
def hlv (p:Rat->Bool) (lo hi:Rat):Nat->Int
 |0=>0
 |n+1=>if p (atR lo hi (2*hlv p lo hi n+1) (2^(n+1)))=true then 2*hlv p lo hi n else 2*hlv p lo hi n+1
theorem eN (n:Nat):(0:Int)<2^n:=Int.pow_pos (by decide)
theorem eU (n:Nat):(2:Int)^(n+1)=2*2^n:=by rw[Int.pow_succ,Int.mul_comm]
theorem gj (p:Rat->Bool) (lo hi:Rat) (n:Nat):0<=hlv p lo hi n/\hlv p lo hi n<2^n:=by
 induction n with
 |zero=>exact⟨Int.le_refl _,by show(0:Int)<1;decide⟩
 |succ n ih=>
  have e:=eU n
  unfold hlv
  split <;> omega
theorem pM {n:Int} (h:n≠0):((n:Int):Rat)≠0:=fun e=>h (Rat.intCast_inj.1 (by rw[e,Rat.intCast_zero]))
theorem Aw (k:Int) {n c:Int} (hn:n≠0) (hc:c≠0):((k*c:Int):Rat)/((n*c:Int):Rat)=((k:Int):Rat)/((n:Int):Rat):=by
 have h1:=pM hn
 have h2:=pM hc
 rw[Rat.intCast_mul,Rat.intCast_mul]
 generalize ((n:Int):Rat)=x at*
 generalize ((c:Int):Rat)=y at*
 generalize ((k:Int):Rat)=z at*
 grind
theorem oP (lo hi:Rat) (k:Int) {n c:Int} (hn:n≠0) (hc:c≠0):atR lo hi (k*c) (n*c)=atR lo hi k n:=by unfold atR;rw[Aw k hn hc]
theorem Hx (lo hi:Rat) (k:Int) {n:Int} (hn:n≠0):(atR lo hi k n+atR lo hi (k+1) n)*(((1:Int):Rat)/((2:Int):Rat))=atR lo hi (2*k+1) (2*n):=by
 have h1:=pM hn
 unfold atR
 rw[Rat.intCast_add,Rat.intCast_add,Rat.intCast_mul,Rat.intCast_mul,show((1:Int):Rat)=1 from rfl,show((2:Int):Rat)=2 from rfl]
 generalize ((n:Int):Rat)=x at*
 generalize ((k:Int):Rat)=z at*
 grind
theorem Jy (lo hi:Rat) (k:Int) {n:Int} (hn:n≠0):atR lo hi (k+1) n-atR lo hi k n=(hi-lo)*(((1:Int):Rat)/((n:Int):Rat)):=by
 have h1:=pM hn
 unfold atR
 rw[Rat.intCast_add,show((1:Int):Rat)=1 from rfl]
 generalize ((n:Int):Rat)=x at*
 generalize ((k:Int):Rat)=z at*
 grind
theorem Ft (lo hi:Rat) (n:Int):atR lo hi 0 n=lo:=by unfold atR;rw[Rat.intCast_zero,Rat.div_def,Rat.zero_mul,Rat.mul_zero,Rat.add_zero]
theorem H8 (lo hi:Rat):atR lo hi 1 1=hi:=by unfold atR;rw[show((1:Int):Rat)/((1:Int):Rat)=1 by decide+kernel];grind
def hlo (p:Rat->Bool) (lo hi:Rat) (n:Nat):Rat:=atR lo hi (hlv p lo hi n) (2^n)
def hhi (p:Rat->Bool) (lo hi:Rat) (n:Nat):Rat:=atR lo hi (hlv p lo hi n+1) (2^n)
def hmi (p:Rat->Bool) (lo hi:Rat) (n:Nat):Rat:=atR lo hi (2*hlv p lo hi n+1) (2^(n+1))
theorem xj (p:Rat->Bool) (lo hi:Rat):hlo p lo hi 0=lo:=Ft lo hi _
theorem wW (p:Rat->Bool) (lo hi:Rat):hhi p lo hi 0=hi:=H8 lo hi
theorem IZ (p:Rat->Bool) (lo hi:Rat) (n:Nat):(hlo p lo hi n+hhi p lo hi n)*(((1:Int):Rat)/((2:Int):Rat))=hmi p lo hi n:=by
 unfold hlo hhi hmi
 rw[Hx lo hi _ (by have:=eN n;omega),eU]
theorem zT {p:Rat->Bool} {lo hi:Rat} {n:Nat} (h:p (hmi p lo hi n)=true):hlv p lo hi (n+1)=2*hlv p lo hi n:=by show(if _ then _ else _)=_;exact if_pos h
theorem zV {p:Rat->Bool} {lo hi:Rat} {n:Nat} (h:p (hmi p lo hi n)=false):hlv p lo hi (n+1)=2*hlv p lo hi n+1:=by show(if _ then _ else _)=_;exact if_neg (by rw[show p (atR lo hi (2*hlv p lo hi n+1) (2^(n+1)))=false from h];simp)
theorem GM {p:Rat->Bool} {lo hi:Rat} {n:Nat} (h:p (hmi p lo hi n)=true):hlo p lo hi (n+1)=hlo p lo hi n:=by
 unfold hlo
 rw[zT h,eU,Int.mul_comm 2 (hlv p lo hi n),Int.mul_comm 2 (2^n)]
 exact oP lo hi _ (by have:=eN n;omega) (by decide)
theorem G5 {p:Rat->Bool} {lo hi:Rat} {n:Nat} (h:p (hmi p lo hi n)=true):hhi p lo hi (n+1)=hmi p lo hi n:=by unfold hhi hmi;rw[zT h]
theorem GB {p:Rat->Bool} {lo hi:Rat} {n:Nat} (h:p (hmi p lo hi n)=false):hlo p lo hi (n+1)=hmi p lo hi n:=by unfold hlo hmi;rw[zV h]
theorem GY {p:Rat->Bool} {lo hi:Rat} {n:Nat} (h:p (hmi p lo hi n)=false):hhi p lo hi (n+1)=hhi p lo hi n:=by
 unfold hhi
 rw[zV h,eU,show 2*hlv p lo hi n+1+1=(hlv p lo hi n+1)*2 by omega,Int.mul_comm 2 (2^n)]
 exact oP lo hi _ (by have:=eN n;omega) (by decide)
theorem FU {p:Rat->Bool} {lo:Rat} (hi:Rat) (h:p lo=false) (n:Nat):p (hlo p lo hi n)=false:=by
 induction n with
 |zero=>rw[xj];exact h
 |succ n ih=>
  cases hm:p (hmi p lo hi n) with
  |true=>rw[GM hm];exact ih
  |false=>rw[GB hm];exact hm
theorem BE {p:Rat->Bool} (lo:Rat) {hi:Rat} (h:p hi=true) (n:Nat):p (hhi p lo hi n)=true:=by
 induction n with
 |zero=>rw[wW];exact h
 |succ n ih=>
  cases hm:p (hmi p lo hi n) with
  |true=>rw[G5 hm];exact hm
  |false=>rw[GY hm];exact ih
theorem IK (p:Rat->Bool) (lo hi:Rat) (n:Nat):hhi p lo hi n-hlo p lo hi n=(hi-lo)*(((1:Int):Rat)/(((2^n:Int):Int):Rat)):=Jy lo hi _ (by have:=eN n;omega)
def dsz (m i:Nat):Int:=if i<m then 2^(m-1-i) else 0
def dct (p:Rat->Bool) (lo hi:Rat) (m i:Nat):Int:=hlv p lo hi i*2^(m-i)
theorem gP {m i:Nat}:0<dsz m i↔i<m:=by
 unfold dsz
 split
 ·rename_i h;exact⟨fun _=>h,fun _=>eN _⟩
 ·rename_i h;exact⟨fun e=>by omega,fun e=>absurd e h⟩
theorem EX {m i:Nat} (h:i<m):(dsz m i).tdiv 2=dsz m (i+1):=by
 unfold dsz
 rw[if_pos h]
 split
 ·rename_i h2
  rw[show m-1-i=(m-1-(i+1))+1 by omega,eU]
  exact Int.mul_tdiv_cancel_left _ (by decide)
 ·rename_i h2
  rw[show m-1-i=0 by omega];rfl
theorem FO (p:Rat->Bool) (lo hi:Rat) (m:Nat):dct p lo hi m 0=0:=Int.zero_mul _
theorem I2 (p:Rat->Bool) (lo hi:Rat) (m:Nat):dct p lo hi m m=hlv p lo hi m:=by unfold dct;rw[Nat.sub_self];exact Int.mul_one _
theorem IR (p:Rat->Bool) (lo hi:Rat) {m i:Nat} (h:i<m):atR lo hi (dct p lo hi m i+dsz m i) (2^m)=hmi p lo hi i:=by
 unfold dct dsz hmi
 rw[if_pos h]
 have e:(2:Int)^(m-i)=2*2^(m-1-i):=by rw[show m-i=(m-1-i)+1 by omega,eU]
 have e2:(2:Int)^m=2^(i+1)*2^(m-1-i):=by rw[<-Int.pow_add];congr 1;omega
 rw[e,e2,show hlv p lo hi i*(2*2^(m-1-i))+2^(m-1-i)=(2*hlv p lo hi i+1)*2^(m-1-i) by grind]
 exact oP lo hi _ (by have:=eN (i+1);omega) (by have:=eN (m-1-i);omega)
theorem M4 {p:Rat->Bool} {lo hi:Rat} {m i:Nat} (h:i<m) (hp:p (hmi p lo hi i)=true):dct p lo hi m (i+1)=dct p lo hi m i:=by
 unfold dct
 rw[zT hp,show(2:Int)^(m-i)=2*2^(m-(i+1)) by rw[show m-i=(m-(i+1))+1 by omega,eU]]
 grind
theorem Mi {p:Rat->Bool} {lo hi:Rat} {m i:Nat} (h:i<m) (hp:p (hmi p lo hi i)=false):dct p lo hi m (i+1)=dct p lo hi m i+dsz m i:=by
 unfold dct dsz
 rw[if_pos h,zV hp,show(2:Int)^(m-i)=2*2^(m-(i+1)) by rw[show m-i=(m-(i+1))+1 by omega,eU],show m-1-i=m-(i+1) by omega]
 grind
theorem Bs (p:Rat->Bool) (lo hi:Rat) {m i:Nat} (h:i<=m):0<=dct p lo hi m i/\dct p lo hi m i<2^m:=by
 have b:=gj p lo hi i
 have q:=eN (m-i)
 unfold dct
 have e2:(2:Int)^m=2^i*2^(m-i):=by rw[<-Int.pow_add];congr 1;omega
 refine⟨Int.mul_nonneg b.1 (by omega),?_⟩
 rw[e2]
 exact Int.mul_lt_mul_of_pos_right b.2 q
theorem Bt {m i:Nat}:0<=dsz m i/\dsz m i<=2^m:=by
 unfold dsz
 split
 ·rename_i h
  have:=eN (m-1-i)
  have e:(2:Int)^m=2^(i+1)*2^(m-1-i):=by rw[<-Int.pow_add];congr 1;omega
  have q:=eN (i+1)
  refine⟨by omega,?_⟩
  have h2:=Int.mul_le_mul_of_nonneg_right (show(1:Int)<=2^(i+1) by omega) (Int.le_of_lt this)
  rw[e];omega
 ·have:=eN m;omega
theorem sU {n:Nat} (h:n<=64):(2:Int)^n<=18446744073709551616:=by
 have:(2:Nat)^n<=2^64:=Nat.pow_le_pow_right (by decide) h
 have e:((2^n:Nat):Int)=(2:Int)^n:=by rw[Int.natCast_pow];rfl
 rw[<-e];exact Int.ofNat_le.2 this
theorem JX {n d:Int} {k:Nat} (h:n.natAbs<B32^k) (g:d.natAbs<B32^k) (hk:1<=k):aw (((n:Int):Rat)/((d:Int):Rat)) (k+k):=cZ (cd h hk) (cd g hk)
theorem tz {lo hi:Rat} {k n:Int} {i j:Nat} (h1:aw lo i) (h2:aw hi j) (hk:0<=k) (hk2:k<=n) (hn2:n<=18446744073709551616):aw (atR lo hi k n) (2*i+j+8):=by
 have b:(18446744073709551616:Nat)<B32^3:=by decide+kernel
 exact(bB h1 (a5 (bS h2 h1) (JX (n:=k) (d:=n) (k:=3) (by omega) (by omega) (by decide)))).up _ (by omega)
theorem Jn {p:Rat->Bool} {lo hi:Rat} {i j n:Nat} (h1:aw lo i) (h2:aw hi j) (hn:n<=64):aw (hlo p lo hi n) (2*i+j+8):=
 tz h1 h2 (gj p lo hi n).1 (by have:=gj p lo hi n;omega) (sU hn)
theorem zu {p:Rat->Bool} {lo hi:Rat} {i j n:Nat} (h1:aw lo i) (h2:aw hi j) (hn:n<=64):aw (hhi p lo hi n) (2*i+j+8):=
 tz h1 h2 (by have:=gj p lo hi n;omega) (by have:=gj p lo hi n;omega) (sU hn)
theorem Ja {p:Rat->Bool} {lo hi:Rat} {i j n:Nat} (h1:aw lo i) (h2:aw hi j) (hn:n<64):aw (hmi p lo hi n) (2*i+j+8):=
 tz h1 h2 (by have:=gj p lo hi n;omega) (by have:=gj p lo hi n;have:=eU n;omega) (sU hn)
theorem ul {x:Rat} {n:Int} (hn:0<n):prt (rmod x ((360:Int):Rat)) n=(x*(((n:Int):Rat)/((360:Int):Rat))).floor %n:=by
 have np:(0:Rat)<((n:Int):Rat):=Rat.intCast_pos.2 hn
 have e:(rmod x ((360:Int):Rat))*(((n:Int):Rat)/((360:Int):Rat))=x*(((n:Int):Rat)/((360:Int):Rat))+((n*(-(x/((360:Int):Rat)).floor):Int):Rat):=by
  rw[gR bj,Rat.intCast_mul,Rat.div_def ((n:Int):Rat),eu];grind
 have b:=gD (x:=rmod x ((360:Int):Rat)) hn (da bj) (cF bj)
 unfold prt at b ⊢
 rw[e,Rat.floor_add_intCast] at b ⊢
 have h:=Int.emod_eq_of_lt (b:=n) b.1 b.2
 rw[<-h,Int.add_mul_emod_self_left]
def skp (x:Rat):Int:=(x*(((1:Int):Rat)/((14:Int):Rat))).floor
theorem xw:((1:Int):Rat)/((14:Int):Rat)=1/14:=by decide+kernel
theorem vd {x:Rat} {m:Int} (h:x<=134/10*((m:Int):Rat)) (hm:0<m):skp x<=m-1:=by
 have c:=Rat.intCast_lt_intCast.2 hm
 have:skp x<m:=Rat.floor_lt_iff.2 (by rw[xw];rw[Rat.intCast_zero] at c;grind)
 omega
theorem wD {x:Rat} (h:0<=x):0<=skp x:=Rat.le_floor_iff.2 (by rw[xw,Rat.intCast_zero];grind)
theorem zP {a b:Int} (h:a<=b):phU ((b:Int):Rat)-phU ((a:Int):Rat)<=134/10*(((b-a:Int)):Rat):=by
 have c:0<=(((b-a:Int)):Rat):=Rat.intCast_nonneg.2 (by omega)
 have r:=(jq ((a:Int):Rat) c).2
 have e:((a:Int):Rat)+(((b-a:Int)):Rat)=((b:Int):Rat):=by rw[<-Rat.intCast_add];congr 1;omega
 rwa[e] at r
theorem BP {n L:Int} (h:L<n) (hc:aY L=true) (hn:∀m,L<m->m<n->¬aY m=true):0<=skp (bf ((n:Int):Rat))/\skp (bf ((n:Int):Rat))<=n-L-1:=by
 refine⟨wD (jg _).1,?_⟩
 have t1:bA n=bA (L+1):=gN (by omega) fun m h1 h2=>hn m (by omega) h2
 have t2:=(cG L).1 hc
 have a:=(cR ((L:Int):Rat)).2
 have q:=iS ((n:Int):Rat)
 have r:=zP (Int.le_of_lt h)
 have e:((turn ((n:Int):Rat):Int):Rat)=((turn ((L:Int):Rat):Int):Rat)+1:=by
  rw[show turn ((n:Int):Rat)=turn ((L:Int):Rat)+1 from t1.trans t2,Rat.intCast_add];rfl
 rw[e] at q
 rw[show((360:Int):Rat)=360 from rfl] at a q
 exact vd (by grind) (by omega)
theorem Dq {n M:Int} (h:n<M) (hc:aY M=true) (hn:∀k,n<k->k<M->¬aY k=true):0<=skp (((360:Int):Rat)-bf (((n+1:Int)):Rat))/\n+1+skp (((360:Int):Rat)-bf (((n+1:Int)):Rat))<=M:=by
 have p:=jg (((n+1:Int)):Rat)
 rw[show((360:Int):Rat)=360 from rfl]
 refine⟨wD (by grind),?_⟩
 have t1:bA M=bA (n+1):=gN (by omega) fun m h1 h2=>hn m (by omega) h2
 have t2:=(cG M).1 hc
 have a:=(cR (((M+1:Int)):Rat)).1
 have q:=iS (((n+1:Int)):Rat)
 have r:=zP (a:=n+1) (b:=M+1) (by omega)
 have e:((turn (((M+1:Int)):Rat):Int):Rat)=((turn (((n+1:Int)):Rat):Int):Rat)+1:=by
  rw[show turn (((M+1:Int)):Rat)=turn (((n+1:Int)):Rat)+1 from by rw[show turn (((M+1:Int)):Rat)=bA (M+1) from rfl,t2,t1];rfl,Rat.intCast_add];rfl
 rw[e] at a
 rw[show((360:Int):Rat)=360 from rfl] at a q
 have:=vd (x:=360-bf (((n+1:Int)):Rat)) (m:=M+1-(n+1)) (by grind) (by omega)
 omega
noncomputable def dR (f:Int):Int:=Classical.choose (zF f)
theorem ff (f:Int):f-34<=dR f/\dR f<f/\aY (dR f)=true/\∀m,dR f<m->m<f->¬aY m=true:=Classical.choose_spec (zF f)
def ga (t:Rat):Bool:=full ((t.floor:Int):Rat) && !full t
noncomputable def ar (t:Rat):Int:=if ga t=true then t.floor else dR t.floor
theorem lh {t:Rat} (h:ga t=true):ar t=t.floor:=if_pos h
theorem mJ {t:Rat} (h:¬ga t=true):ar t=dR t.floor:=if_neg h
theorem ji (t:Rat):t.floor-34<=ar t/\ar t<=t.floor:=by
 have s:=ff t.floor
 unfold ar
 split <;> omega
theorem uX {f n:Int} (h:dR f<=n) (hn:n<f) (hc:aY n=true):n=dR f:=by
 have s:=ff f
 by_cases e:dR f<n
 ·exact absurd hc (s.2.2.2 n e hn)
 ·omega
theorem xq {f n:Int} (h:dR f<=n) (hc:¬aY n=true):dR f<n:=by
 have s:=ff f
 by_cases e:n=dR f
 ·rw[e] at hc;exact absurd s.2.2.1 hc
 ·omega
noncomputable def au (n:Int):Int:=if h:aY n=true then Classical.choose (yY h) else 0
theorem bR {n:Int} (h:aY n=true):n+28<=au n/\au n<=n+31/\aY (au n)=true/\∀k,n<k->k<au n->¬aY k=true:=by
 unfold au
 rw[dif_pos h]
 exact Classical.choose_spec (yY h)
theorem u6 {n m:Int} (h:aY n=true) (h1:n<m) (h2:m<=au n) (hc:aY m=true):m=au n:=by
 have s:=bR h
 by_cases e:m<au n
 ·exact absurd hc (s.2.2.2 m h1 e)
 ·omega
end Go.Proofs.YtddiipaomejcfaaGreatDoor
