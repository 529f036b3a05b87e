import Derived.Test.YtgdpkknapcgcbaaGreatDoorKB25
namespace Go.Proofs.YtgdpkknapcgcbaaGreatDoor
open Go.RowKit
set_option maxRecDepth 100000
set_option linter.unusedVariables false
set_option maxHeartbeats 8000000
def atR (lo hi:Rat) (k n:Int):Rat:=lo+(hi-lo)*(((k:Int):Rat)/((n:Int):Rat))
def hlv (p:Rat->Bool) (lo hi:Rat):Nat->Int
 |0=>0
 |n+1=>if p (atR lo hi (2*hlv p lo hi n+1) (2^(n+1)))=true then 2*hlv p lo hi n else 2*hlv p lo hi n+1
theorem jC (n:Nat):(0:Int)<2^n:=Int.pow_pos (by decide)
theorem iU (n:Nat):(2:Int)^(n+1)=2*2^n:=by rw[Int.pow_succ,Int.mul_comm]
theorem gZ (p:Rat->Bool) (lo hi:Rat) (n:Nat):0<=hlv p lo hi n/\hlv p lo hi n<2^n:=by
 induction n with
 |zero=>exact⟨Int.le_refl _,by show(0:Int)<1;decide⟩
 |succ n ih=>
  have e:=iU n
  unfold hlv
  split <;> omega
theorem lT {n:Int} (h:n≠0):((n:Int):Rat)≠0:=fun e=>h (Rat.intCast_inj.1 (by rw[e,Rat.intCast_zero]))
theorem uU (k:Int) {n c:Int} (hn:n≠0) (hc:c≠0):((k*c:Int):Rat)/((n*c:Int):Rat)=((k:Int):Rat)/((n:Int):Rat):=by
 have h1:=lT hn
 have h2:=lT hc
 rw[Rat.intCast_mul,Rat.intCast_mul]
 generalize ((n:Int):Rat)=x at*
 generalize ((c:Int):Rat)=y at*
 generalize ((k:Int):Rat)=z at*
 grind
theorem pW (lo hi:Rat) (k:Int) {n c:Int} (hn:n≠0) (hc:c≠0):atR lo hi (k*c) (n*c)=atR lo hi k n:=by unfold atR;rw[uU k hn hc]
theorem BW (lo hi:Rat) (k:Int) {n:Int} (hn:n≠0):(atR lo hi k n+atR lo hi (k+1) n)*(((1:Int):Rat)/((2:Int):Rat))=atR lo hi (2*k+1) (2*n):=by
 have h1:=lT hn
 unfold atR
 rw[Rat.intCast_add,Rat.intCast_add,Rat.intCast_mul,Rat.intCast_mul,show((1:Int):Rat)=1 from rfl,show((2:Int):Rat)=2 from rfl]
 generalize ((n:Int):Rat)=x at*
 generalize ((k:Int):Rat)=z at*
 grind
theorem BD (lo hi:Rat) (k:Int) {n:Int} (hn:n≠0):atR lo hi (k+1) n-atR lo hi k n=(hi-lo)*(((1:Int):Rat)/((n:Int):Rat)):=by
 have h1:=lT hn
 unfold atR
 rw[Rat.intCast_add,show((1:Int):Rat)=1 from rfl]
 generalize ((n:Int):Rat)=x at*
 generalize ((k:Int):Rat)=z at*
 grind
theorem yh (lo hi:Rat) (n:Int):atR lo hi 0 n=lo:=by unfold atR;rw[Rat.intCast_zero,Rat.div_def,Rat.zero_mul,Rat.mul_zero,Rat.add_zero]
theorem Ck (lo hi:Rat):atR lo hi 1 1=hi:=by unfold atR;rw[show((1:Int):Rat)/((1:Int):Rat)=1 by decide+kernel];grind
def hlo (p:Rat->Bool) (lo hi:Rat) (n:Nat):Rat:=atR lo hi (hlv p lo hi n) (2^n)
def hhi (p:Rat->Bool) (lo hi:Rat) (n:Nat):Rat:=atR lo hi (hlv p lo hi n+1) (2^n)
def hmi (p:Rat->Bool) (lo hi:Rat) (n:Nat):Rat:=atR lo hi (2*hlv p lo hi n+1) (2^(n+1))
theorem rz (p:Rat->Bool) (lo hi:Rat):hlo p lo hi 0=lo:=yh lo hi _
theorem qu (p:Rat->Bool) (lo hi:Rat):hhi p lo hi 0=hi:=Ck lo hi
theorem Bf (p:Rat->Bool) (lo hi:Rat) (n:Nat):(hlo p lo hi n+hhi p lo hi n)*(((1:Int):Rat)/((2:Int):Rat))=hmi p lo hi n:=by
 unfold hlo hhi hmi
 rw[BW lo hi _ (by have:=jC n;omega),iU]
theorem Ar {p:Rat->Bool} {lo hi:Rat} {n:Nat} (h:p (hmi p lo hi n)=true):hlv p lo hi (n+1)=2*hlv p lo hi n:=by show(if _ then _ else _)=_;exact if_pos h
theorem Al {p:Rat->Bool} {lo hi:Rat} {n:Nat} (h:p (hmi p lo hi n)=false):hlv p lo hi (n+1)=2*hlv p lo hi n+1:=by show(if _ then _ else _)=_;exact if_neg (by rw[show p (atR lo hi (2*hlv p lo hi n+1) (2^(n+1)))=false from h];simp)
theorem AO {p:Rat->Bool} {lo hi:Rat} {n:Nat} (h:p (hmi p lo hi n)=true):hlo p lo hi (n+1)=hlo p lo hi n:=by
 unfold hlo
 rw[Ar h,iU,Int.mul_comm 2 (hlv p lo hi n),Int.mul_comm 2 (2^n)]
 exact pW lo hi _ (by have:=jC n;omega) (by decide)
theorem AU {p:Rat->Bool} {lo hi:Rat} {n:Nat} (h:p (hmi p lo hi n)=true):hhi p lo hi (n+1)=hmi p lo hi n:=by unfold hhi hmi;rw[Ar h]
theorem Am {p:Rat->Bool} {lo hi:Rat} {n:Nat} (h:p (hmi p lo hi n)=false):hlo p lo hi (n+1)=hmi p lo hi n:=by unfold hlo hmi;rw[Al h]
theorem AY {p:Rat->Bool} {lo hi:Rat} {n:Nat} (h:p (hmi p lo hi n)=false):hhi p lo hi (n+1)=hhi p lo hi n:=by
 unfold hhi
 rw[Al h,iU,show 2*hlv p lo hi n+1+1=(hlv p lo hi n+1)*2 by omega,Int.mul_comm 2 (2^n)]
 exact pW lo hi _ (by have:=jC n;omega) (by decide)
theorem xX {p:Rat->Bool} {lo:Rat} (hi:Rat) (h:p lo=false) (n:Nat):p (hlo p lo hi n)=false:=by
 induction n with
 |zero=>rw[rz];exact h
 |succ n ih=>
  cases hm:p (hmi p lo hi n) with
  |true=>rw[AO hm];exact ih
  |false=>rw[Am hm];exact hm
theorem wV {p:Rat->Bool} (lo:Rat) {hi:Rat} (h:p hi=true) (n:Nat):p (hhi p lo hi n)=true:=by
 induction n with
 |zero=>rw[qu];exact h
 |succ n ih=>
  cases hm:p (hmi p lo hi n) with
  |true=>rw[AU hm];exact hm
  |false=>rw[AY hm];exact ih
theorem B9 (p:Rat->Bool) (lo hi:Rat) (n:Nat):hhi p lo hi n-hlo p lo hi n=(hi-lo)*(((1:Int):Rat)/(((2^n:Int):Int):Rat)):=BD lo hi _ (by have:=jC n;omega)
theorem oO {n:Nat} (h:n<=64):(2:Int)^n<=18446744073709551616:=by
 have:(2:Nat)^n<=2^64:=Nat.pow_le_pow_right (by decide) h
 have e:((2^n:Nat):Int)=(2:Int)^n:=by rw[Int.natCast_pow];rfl
 rw[<-e];exact Int.ofNat_le.2 this
theorem xz {n d:Int} {k:Nat} (h:n.natAbs<B32^k) (g:d.natAbs<B32^k) (hk:1<=k):ag (((n:Int):Rat)/((d:Int):Rat)) (k+k):=cL (bX h hk) (bX g hk)
theorem pp {lo hi:Rat} {k n:Int} {i j:Nat} (h1:ag lo i) (h2:ag hi j) (hk:0<=k) (hk2:k<=n) (hn2:n<=18446744073709551616):ag (atR lo hi k n) (2*i+j+8):=by
 have b:(18446744073709551616:Nat)<B32^3:=by decide+kernel
 exact(aV h1 (aH (bI h2 h1) (xz (n:=k) (d:=n) (k:=3) (by omega) (by omega) (by decide)))).up _ (by omega)
theorem Bs {p:Rat->Bool} {lo hi:Rat} {i j n:Nat} (h1:ag lo i) (h2:ag hi j) (hn:n<=64):ag (hlo p lo hi n) (2*i+j+8):=
 pp h1 h2 (gZ p lo hi n).1 (by have:=gZ p lo hi n;omega) (oO hn)
theorem un {p:Rat->Bool} {lo hi:Rat} {i j n:Nat} (h1:ag lo i) (h2:ag hi j) (hn:n<=64):ag (hhi p lo hi n) (2*i+j+8):=
 pp h1 h2 (by have:=gZ p lo hi n;omega) (by have:=gZ p lo hi n;omega) (oO hn)
theorem Cd {p:Rat->Bool} {lo hi:Rat} {i j n:Nat} (h1:ag lo i) (h2:ag hi j) (hn:n<64):ag (hmi p lo hi n) (2*i+j+8):=
 pp h1 h2 (by have:=gZ p lo hi n;omega) (by have:=gZ p lo hi n;have:=iU n;omega) (oO hn)
noncomputable def EG (f:Int):Int:=Classical.choose (Cy f)
def FV (t:Rat):Bool:=full ((t.floor:Int):Rat) && !full t
noncomputable def E3 (t:Rat):Int:=if FV t=true then t.floor else EG t.floor
def ov (c:Int):Int:=if c=0 then 1 else 4
def pcs (c:Int) (t:Rat) (i:Int):Rat:=t+((i:Int):Rat)/((ov c:Int):Rat)
theorem Fd (c:Int):((1:Int):Rat)/((ov c:Int):Rat)=kQ c:=by
 unfold ov kQ
 split <;> decide+kernel
theorem EK (c:Int):1<=ov c/\ov c<=4:=by unfold ov;split <;> omega
theorem kv (c:Int) (t:Rat):pcs c t 0=t:=by unfold pcs;rw[Rat.intCast_zero,Rat.div_def,Rat.zero_mul,Rat.add_zero]
theorem jO (c:Int) (t:Rat) (i:Int):pcs c t i=t+((i:Int):Rat)*kQ c:=by
 rw[<-Fd];unfold pcs
 rw[Rat.div_def,Rat.div_def,show((1:Int):Rat)=1 from rfl,Rat.one_mul]
theorem iK (c:Int) (t:Rat) (i:Int):pcs c t (i+1)=pcs c t i+kQ c:=by
 rw[jO,jO,Rat.intCast_add,show((1:Int):Rat)=1 from rfl]
 generalize kQ c=q
 generalize ((i:Int):Rat)=x
 grind
theorem AK (c:Int):0<=kQ c/\kQ c<=1:=by unfold kQ;split <;> exact⟨by decide+kernel,by decide+kernel⟩
theorem Ea {a n:Int} (h:2<=n):(a+1)%n≠a%n:=by
 intro e
 have h1:(a+1-a)%n=0:=Int.emod_eq_emod_iff_emod_sub_eq_zero.1 e
 rw[show a+1-a=1 by omega,Int.emod_eq_of_lt (by decide) (by omega)] at h1
 cases h1
theorem tf {c:Int} (h0:0<=c) (h1:c<=4) (t:Rat) {d:Rat} (hd:0<=d) (hq:d<=kQ c) (e:kI c (t+d)=kI c t):kS c (t+d)=kS c t:=by
 rcases tQ h0 h1 t hd hq with q|q
 ·exact q
 ·exfalso
  rw[dc h0 h1,dc h0 h1,q] at e
  exact Ea (by have:=j2 c;omega) e
theorem BX {c:Int} (h0:0<=c) (h1:c<=4) (t:Rat) {d:Rat} (hd:0<=d) (hq:d<=kQ c) (e:kI c (t+d)≠kI c t):kS c (t+d)=kS c t+1:=by
 rcases tQ h0 h1 t hd hq with q|q
 ·exact absurd (by rw[dc h0 h1,dc h0 h1,q]) e
 ·exact q
theorem rP {c:Int} (h0:0<=c) (h1:c<=4) (t:Rat):∀k:Nat,(∀i:Nat,i<=k->kI c (pcs c t ((i:Nat):Int))=kI c t)->kS c (pcs c t ((k:Nat):Int))=kS c t:=by
 intro k
 induction k with
 |zero=>intro _;rw[show(((0:Nat)):Int)=0 from rfl,kv]
 |succ k ih=>
  intro h
  rw[<-ih fun i hi=>h i (by omega),show(((k+1:Nat)):Int)=((k:Nat):Int)+1 by omega,iK]
  refine tf h0 h1 _ (AK c).1 (Rat.le_refl) ?_
  rw[<-iK,show((k:Nat):Int)+1=(((k+1:Nat)):Int) by omega,h (k+1) (by omega),h k (by omega)]
theorem sf {c:Int} (h0:0<=c) (h1:c<=4) (t:Rat):∃k:Nat,((k:Nat):Int)<kM c/\(∀i:Nat,i<=k->kI c (pcs c t ((i:Nat):Int))=kI c t)/\kI c (pcs c t (((k:Nat):Int)+1))≠kI c t:=by
 have key:∀m:Nat,(∀i:Nat,i<=m->kI c (pcs c t ((i:Nat):Int))=kI c t)\/∃k:Nat,k<m/\(∀i:Nat,i<=k->kI c (pcs c t ((i:Nat):Int))=kI c t)/\kI c (pcs c t (((k:Nat):Int)+1))≠kI c t:=by
  intro m
  induction m with
  |zero=>left;intro i hi;rw[show i=0 by omega,show(((0:Nat)):Int)=0 from rfl,kv]
  |succ m ih=>
   rcases ih with ih|⟨k,hk,a⟩
   ·by_cases e:kI c (pcs c t (((m:Nat):Int)+1))=kI c t
    ·left;intro i hi
     by_cases q:i<=m
     ·exact ih i q
     ·rw[show((i:Nat):Int)=((m:Nat):Int)+1 by omega];exact e
    ·exact .inr ⟨m,by omega,ih,e⟩
   ·exact .inr ⟨k,by omega,a⟩
 have hM:(((kM c).toNat :Nat):Int)=kM c:=by unfold kM;split <;> rfl
 rcases key (kM c).toNat with h|⟨k,hk,a⟩
 ·exfalso
  have e:=rP h0 h1 t _ h
  rw[hM,jO] at e
  have:=DX h0 h1 t
  omega
 ·exact⟨k,by omega,a⟩
noncomputable def bH (c:Int) (t:Rat):Nat:=if h:0<=c/\c<=4 then Classical.choose (sf h.1 h.2 t) else 0
theorem dE {c:Int} (h0:0<=c) (h1:c<=4) (t:Rat):((bH c t:Nat):Int)<kM c/\(∀i:Nat,i<=bH c t->kI c (pcs c t ((i:Nat):Int))=kI c t)/\kI c (pcs c t (((bH c t:Nat):Int)+1))≠kI c t:=by
 unfold bH
 rw[dif_pos ⟨h0,h1⟩]
 exact Classical.choose_spec (sf h0 h1 t)
theorem vg {c:Int} (h0:0<=c) (h1:c<=4) (t:Rat):kS c (pcs c t ((bH c t:Nat):Int))=kS c t:=rP h0 h1 t _ (dE h0 h1 t).2.1
noncomputable def elo (c:Int) (t:Rat):Rat:=pcs c t ((bH c t:Nat):Int)
noncomputable def ehi (c:Int) (t:Rat):Rat:=pcs c t (((bH c t:Nat):Int)+1)
def gD (c was:Int) (x:Rat):Bool:=decide (kI c x≠was)
noncomputable def cC (c:Int) (t:Rat):Rat:=hlo (gD c (kI c t)) (elo c t) (ehi c t) 21
noncomputable def bZ (c:Int) (t:Rat):Rat:=hhi (gD c (kI c t)) (elo c t) (ehi c t) 21
theorem jR (c:Int) (t:Rat):ehi c t=elo c t+kQ c:=iK c t _
theorem rq {c was:Int} {x:Rat}:gD c was x=false↔kI c x=was:=by unfold gD;rw[decide_eq_false_iff_not];exact Decidable.not_not
theorem wt {c was:Int} {x:Rat}:gD c was x=true↔kI c x≠was:=decide_eq_true_iff
theorem AP {c:Int} (h0:0<=c) (h1:c<=4) (t:Rat):gD c (kI c t) (elo c t)=false:=rq.2 ((dE h0 h1 t).2.1 _ (Nat.le_refl _))
theorem E4 {c:Int} (h0:0<=c) (h1:c<=4) (t:Rat):gD c (kI c t) (ehi c t)=true:=wt.2 (dE h0 h1 t).2.2
theorem nW {c:Int} (h0:0<=c) (h1:c<=4) (t:Rat):kI c (cC c t)=kI c t:=rq.1 (xX _ (AP h0 h1 t) 21)
theorem DF {c:Int} (h0:0<=c) (h1:c<=4) (t:Rat):kI c (bZ c t)≠kI c t:=wt.1 (wV _ (E4 h0 h1 t) 21)
theorem A0 (c:Int) (t:Rat):bZ c t-cC c t=kQ c*(1/2097152):=by
 have h:=B9 (gD c (kI c t)) (elo c t) (ehi c t) 21
 rw[jR,show((1:Int):Rat)/(((2^21:Int):Int):Rat)=1/2097152 by decide+kernel] at h
 rw[show bZ c t-cC c t=(elo c t+kQ c-elo c t)*(1/2097152) from by rw[<-jR] at*;exact h]
 generalize kQ c=q
 grind
theorem zG {c:Int} (h0:0<=c) (h1:c<=4) {t:Rat} {i:Nat} (h:i<=bH c t) (e:kI c (pcs c t (((i:Nat):Int)+1))=kI c t):i+1<=bH c t:=by
 have s:=dE h0 h1 t
 by_cases q:i=bH c t
 ·rw[q] at e;exact absurd e s.2.2
 ·omega
theorem vj {c:Int} (h0:0<=c) (h1:c<=4) {t:Rat} {i:Nat} (h:i<=bH c t) (e:kI c (pcs c t (((i:Nat):Int)+1))≠kI c t):i=bH c t:=by
 have s:=dE h0 h1 t
 by_cases q:i+1<=bH c t
 ·have:=s.2.1 (i+1) q
  rw[show(((i+1:Nat)):Int)=((i:Nat):Int)+1 by omega] at this
  exact absurd this e
 ·omega
theorem vB (c:Int):kM c<=34:=by unfold kM;split <;> omega
theorem iw {c:Int} {t:Rat} {k:Nat} {i:Int} (h:ag t k) (h0:0<=i) (h1:i<=1000):ag (pcs c t i) (k+3):=by
 have o:=EK c
 have e:B32^1=4294967296:=rfl
 exact(aV h (xz (n:=i) (d:=ov c) (k:=1) (by omega) (by omega) (by decide))).up _ (by omega)
end Go.Proofs.YtgdpkknapcgcbaaGreatDoor
