import Derived.Test.YtplngpfpcheofaaGreatDoorKE34
namespace Go.Proofs.YtplngpfpcheofaaGreatDoor
open Go.RowKit
set_option maxRecDepth 100000
set_option linter.unusedVariables false
set_option maxHeartbeats 8000000
def atR (lo hi:Rat) (k n:Int):Rat:=lo+(hi-lo)*(((k:Int):Rat)/((n:Int):Rat))
def hlv (p:Rat→Bool) (lo hi:Rat):Nat→Int
 |0=>0
 |n+1=>if p (atR lo hi (2*hlv p lo hi n+1) (2^(n+1)))=true then 2*hlv p lo hi n else 2*hlv p lo hi n+1
theorem de (n:Nat):(0:Int)<2^n:=Int.pow_pos (by decide)
theorem du (n:Nat):(2:Int)^(n+1)=2*2^n:=by rw[Int.pow_succ,Int.mul_comm]
theorem eN (p:Rat→Bool) (lo hi:Rat) (n:Nat):0≤hlv p lo hi n∧hlv p lo hi n<2^n:=by
 induction n with
 |zero=>exact⟨Int.le_refl _,by show(0:Int)<1;decide⟩
 |succ n ih=>
  have e:=du n
  unfold hlv
  split <;> omega
theorem gD {n:Int} (h:n≠0):((n:Int):Rat)≠0:=fun e=>h (Rat.intCast_inj.1 (by rw[e,Rat.intCast_zero]))
theorem qU (k:Int) {n c:Int} (hn:n≠0) (hc:c≠0):((k*c:Int):Rat)/((n*c:Int):Rat)=((k:Int):Rat)/((n:Int):Rat):=by
 have h1:=gD hn
 have h2:=gD hc
 rw[Rat.intCast_mul,Rat.intCast_mul]
 generalize ((n:Int):Rat)=x at*
 generalize ((c:Int):Rat)=y at*
 generalize ((k:Int):Rat)=z at*
 grind
theorem jJ (lo hi:Rat) (k:Int) {n c:Int} (hn:n≠0) (hc:c≠0):atR lo hi (k*c) (n*c)=atR lo hi k n:=by unfold atR;rw[qU k hn hc]
theorem wH (lo hi:Rat) (k:Int) {n:Int} (hn:n≠0):(atR lo hi k n+atR lo hi (k+1) n)*(((1:Int):Rat)/((2:Int):Rat))=atR lo hi (2*k+1) (2*n):=by
 have h1:=gD hn
 unfold atR
 rw[Rat.intCast_add,Rat.intCast_add,Rat.intCast_mul,Rat.intCast_mul,show((1:Int):Rat)=1 from rfl,show((2:Int):Rat)=2 from rfl]
 generalize ((n:Int):Rat)=x at*
 generalize ((k:Int):Rat)=z at*
 grind
theorem wE (lo hi:Rat) (k:Int) {n:Int} (hn:n≠0):atR lo hi (k+1) n-atR lo hi k n=(hi-lo)*(((1:Int):Rat)/((n:Int):Rat)):=by
 have h1:=gD hn
 unfold atR
 rw[Rat.intCast_add,show((1:Int):Rat)=1 from rfl]
 generalize ((n:Int):Rat)=x at*
 generalize ((k:Int):Rat)=z at*
 grind
theorem uF (lo hi:Rat) (n:Int):atR lo hi 0 n=lo:=by unfold atR;rw[Rat.intCast_zero,Rat.div_def,Rat.zero_mul,Rat.mul_zero,Rat.add_zero]
theorem wy (lo hi:Rat):atR lo hi 1 1=hi:=by unfold atR;rw[show((1:Int):Rat)/((1:Int):Rat)=1 by decide+kernel];grind
def hlo (p:Rat→Bool) (lo hi:Rat) (n:Nat):Rat:=atR lo hi (hlv p lo hi n) (2^n)
def hhi (p:Rat→Bool) (lo hi:Rat) (n:Nat):Rat:=atR lo hi (hlv p lo hi n+1) (2^n)
def hmi (p:Rat→Bool) (lo hi:Rat) (n:Nat):Rat:=atR lo hi (2*hlv p lo hi n+1) (2^(n+1))
theorem nl (p:Rat→Bool) (lo hi:Rat):hlo p lo hi 0=lo:=uF lo hi _
theorem om (p:Rat→Bool) (lo hi:Rat):hhi p lo hi 0=hi:=wy lo hi
theorem vV (p:Rat→Bool) (lo hi:Rat) (n:Nat):(hlo p lo hi n+hhi p lo hi n)*(((1:Int):Rat)/((2:Int):Rat))=hmi p lo hi n:=by
 unfold hlo hhi hmi
 rw[wH lo hi _ (by have:=de n;omega),du]
theorem qP {p:Rat→Bool} {lo hi:Rat} {n:Nat} (h:p (hmi p lo hi n)=true):hlv p lo hi (n+1)=2*hlv p lo hi n:=by show(if _ then _ else _)=_;exact if_pos h
theorem qA {p:Rat→Bool} {lo hi:Rat} {n:Nat} (h:p (hmi p lo hi n)=false):hlv p lo hi (n+1)=2*hlv p lo hi n+1:=by show(if _ then _ else _)=_;exact if_neg (by rw[show p (atR lo hi (2*hlv p lo hi n+1) (2^(n+1)))=false from h];simp)
theorem vo {p:Rat→Bool} {lo hi:Rat} {n:Nat} (h:p (hmi p lo hi n)=true):hlo p lo hi (n+1)=hlo p lo hi n:=by
 unfold hlo
 rw[qP h,du,Int.mul_comm 2 (hlv p lo hi n),Int.mul_comm 2 (2^n)]
 exact jJ lo hi _ (by have:=de n;omega) (by decide)
theorem vk {p:Rat→Bool} {lo hi:Rat} {n:Nat} (h:p (hmi p lo hi n)=true):hhi p lo hi (n+1)=hmi p lo hi n:=by unfold hhi hmi;rw[qP h]
theorem vp {p:Rat→Bool} {lo hi:Rat} {n:Nat} (h:p (hmi p lo hi n)=false):hlo p lo hi (n+1)=hmi p lo hi n:=by unfold hlo hmi;rw[qA h]
theorem vr {p:Rat→Bool} {lo hi:Rat} {n:Nat} (h:p (hmi p lo hi n)=false):hhi p lo hi (n+1)=hhi p lo hi n:=by
 unfold hhi
 rw[qA h,du,show 2*hlv p lo hi n+1+1=(hlv p lo hi n+1)*2 by omega,Int.mul_comm 2 (2^n)]
 exact jJ lo hi _ (by have:=de n;omega) (by decide)
theorem oB {p:Rat→Bool} {lo:Rat} (hi:Rat) (h:p lo=false) (n:Nat):p (hlo p lo hi n)=false:=by
 induction n with
 |zero=>rw[nl];exact h
 |succ n ih=>
  cases hm:p (hmi p lo hi n) with
  |true=>rw[vo hm];exact ih
  |false=>rw[vp hm];exact hm
theorem mt {p:Rat→Bool} (lo:Rat) {hi:Rat} (h:p hi=true) (n:Nat):p (hhi p lo hi n)=true:=by
 induction n with
 |zero=>rw[om];exact h
 |succ n ih=>
  cases hm:p (hmi p lo hi n) with
  |true=>rw[vk hm];exact hm
  |false=>rw[vr hm];exact ih
theorem wX (p:Rat→Bool) (lo hi:Rat) (n:Nat):hhi p lo hi n-hlo p lo hi n=(hi-lo)*(((1:Int):Rat)/(((2^n:Int):Int):Rat)):=wE lo hi _ (by have:=de n;omega)
def dsz (m i:Nat):Int:=if i<m then 2^(m-1-i) else 0
def dct (p:Rat→Bool) (lo hi:Rat) (m i:Nat):Int:=hlv p lo hi i*2^(m-i)
theorem eR {m i:Nat}:0<dsz m i↔i<m:=by
 unfold dsz
 split
 ·rename_i h;exact⟨fun _=>h,fun _=>de _⟩
 ·rename_i h;exact⟨fun e=>by omega,fun e=>absurd e h⟩
theorem un {m i:Nat} (h:i<m):(dsz m i).tdiv 2=dsz m (i+1):=by
 unfold dsz
 rw[if_pos h]
 split
 ·rename_i h2
  rw[show m-1-i=(m-1-(i+1))+1 by omega,du]
  exact Int.mul_tdiv_cancel_left _ (by decide)
 ·rename_i h2
  rw[show m-1-i=0 by omega];rfl
theorem tC (p:Rat→Bool) (lo hi:Rat) (m:Nat):dct p lo hi m 0=0:=Int.zero_mul _
theorem xv (p:Rat→Bool) (lo hi:Rat) (m:Nat):dct p lo hi m m=hlv p lo hi m:=by unfold dct;rw[Nat.sub_self];exact Int.mul_one _
theorem pD (p:Rat→Bool) (lo hi:Rat) {m i:Nat} (h:i<m):atR lo hi (dct p lo hi m i+dsz m i) (2^m)=hmi p lo hi i:=by
 unfold dct dsz hmi
 rw[if_pos h]
 have e:(2:Int)^(m-i)=2*2^(m-1-i):=by rw[show m-i=(m-1-i)+1 by omega,du]
 have e2:(2:Int)^m=2^(i+1)*2^(m-1-i):=by rw[←Int.pow_add];congr 1;omega
 rw[e,e2,show hlv p lo hi i*(2*2^(m-1-i))+2^(m-1-i)=(2*hlv p lo hi i+1)*2^(m-1-i) by grind]
 exact jJ lo hi _ (by have:=de (i+1);omega) (by have:=de (m-1-i);omega)
theorem Ac {p:Rat→Bool} {lo hi:Rat} {m i:Nat} (h:i<m) (hp:p (hmi p lo hi i)=true):dct p lo hi m (i+1)=dct p lo hi m i:=by
 unfold dct
 rw[qP hp,show(2:Int)^(m-i)=2*2^(m-(i+1)) by rw[show m-i=(m-(i+1))+1 by omega,du]]
 grind
theorem zB {p:Rat→Bool} {lo hi:Rat} {m i:Nat} (h:i<m) (hp:p (hmi p lo hi i)=false):dct p lo hi m (i+1)=dct p lo hi m i+dsz m i:=by
 unfold dct dsz
 rw[if_pos h,qA hp,show(2:Int)^(m-i)=2*2^(m-(i+1)) by rw[show m-i=(m-(i+1))+1 by omega,du],show m-1-i=m-(i+1) by omega]
 grind
theorem sa (p:Rat→Bool) (lo hi:Rat) {m i:Nat} (h:i≤m):0≤dct p lo hi m i∧dct p lo hi m i<2^m:=by
 have b:=eN p lo hi i
 have q:=de (m-i)
 unfold dct
 have e2:(2:Int)^m=2^i*2^(m-i):=by rw[←Int.pow_add];congr 1;omega
 refine⟨Int.mul_nonneg b.1 (by omega),?_⟩
 rw[e2]
 exact Int.mul_lt_mul_of_pos_right b.2 q
theorem sf {m i:Nat}:0≤dsz m i∧dsz m i≤2^m:=by
 unfold dsz
 split
 ·rename_i h
  have:=de (m-1-i)
  have e:(2:Int)^m=2^(i+1)*2^(m-1-i):=by rw[←Int.pow_add];congr 1;omega
  have q:=de (i+1)
  refine⟨by omega,?_⟩
  have h2:=Int.mul_le_mul_of_nonneg_right (show(1:Int)≤2^(i+1) by omega) (Int.le_of_lt this)
  rw[e];omega
 ·have:=de m;omega
theorem lT {n:Nat} (h:n≤64):(2:Int)^n≤18446744073709551616:=by
 have:(2:Nat)^n≤2^64:=Nat.pow_le_pow_right (by decide) h
 have e:((2^n:Nat):Int)=(2:Int)^n:=by rw[Int.natCast_pow];rfl
 rw[←e];exact Int.ofNat_le.2 this
theorem sn {n d:Int} {k:Nat} (h:n.natAbs<B32^k) (g:d.natAbs<B32^k) (hk:1≤k):az (((n:Int):Rat)/((d:Int):Rat)) (k+k):=b7 (aN h hk) (aN g hk)
theorem lE {lo hi:Rat} {k n:Int} {i j:Nat} (h1:az lo i) (h2:az hi j) (hk:0≤k) (hk2:k≤n) (hn2:n≤18446744073709551616):az (atR lo hi k n) (2*i+j+8):=by
 have b:(18446744073709551616:Nat)<B32^3:=by decide+kernel
 exact(dw h1 (aV (bl h2 h1) (sn (n:=k) (d:=n) (k:=3) (by omega) (by omega) (by decide)))).up _ (by omega)
theorem pz {p:Rat→Bool} {lo hi:Rat} {i j n:Nat} (h1:az lo i) (h2:az hi j) (hn:n≤64):az (hlo p lo hi n) (2*i+j+8):=
 lE h1 h2 (eN p lo hi n).1 (by have:=eN p lo hi n;omega) (lT hn)
theorem pt {p:Rat→Bool} {lo hi:Rat} {i j n:Nat} (h1:az lo i) (h2:az hi j) (hn:n≤64):az (hhi p lo hi n) (2*i+j+8):=
 lE h1 h2 (by have:=eN p lo hi n;omega) (by have:=eN p lo hi n;omega) (lT hn)
theorem vK {p:Rat→Bool} {lo hi:Rat} {i j n:Nat} (h1:az lo i) (h2:az hi j) (hn:n<64):az (hmi p lo hi n) (2*i+j+8):=
 lE h1 h2 (by have:=eN p lo hi n;omega) (by have:=eN p lo hi n;have:=du n;omega) (lT hn)
def ov (c:Int):Int:=if c=0 then 1 else 4
def pcs (c:Int) (t:Rat) (i:Int):Rat:=t+((i:Int):Rat)/((ov c:Int):Rat)
theorem zo (c:Int):((1:Int):Rat)/((ov c:Int):Rat)=kQ c:=by
 unfold ov kQ
 split <;> decide+kernel
theorem jZ (c:Int):1≤ov c∧ov c≤4:=by unfold ov;split <;> omega
theorem i9 (c:Int) (t:Rat):pcs c t 0=t:=by unfold pcs;rw[Rat.intCast_zero,Rat.div_def,Rat.zero_mul,Rat.add_zero]
theorem mN (c:Int) (t:Rat) (i:Int):pcs c t i=t+((i:Int):Rat)*kQ c:=by
 rw[←zo];unfold pcs
 rw[Rat.div_def,Rat.div_def,show((1:Int):Rat)=1 from rfl,Rat.one_mul]
theorem gJ (c:Int) (t:Rat) (i:Int):pcs c t (i+1)=pcs c t i+kQ c:=by
 rw[mN,mN,Rat.intCast_add,show((1:Int):Rat)=1 from rfl]
 generalize kQ c=q
 generalize ((i:Int):Rat)=x
 grind
theorem zE (c:Int):0≤kQ c∧kQ c≤1:=by unfold kQ;split <;> exact⟨by decide+kernel,by decide+kernel⟩
theorem yl {a n:Int} (h:2≤n):(a+1)%n≠a%n:=by
 intro e
 have h1:(a+1-a)%n=0:=Int.emod_eq_emod_iff_emod_sub_eq_zero.1 e
 rw[show a+1-a=1 by omega,Int.emod_eq_of_lt (by decide) (by omega)] at h1
 cases h1
theorem pS {c:Int} (h0:0≤c) (h1:c≤4) (t:Rat) {d:Rat} (hd:0≤d) (hq:d≤kQ c) (e:kI c (t+d)=kI c t):kS c (t+d)=kS c t:=by
 rcases qg h0 h1 t hd hq with q|q
 ·exact q
 ·exfalso
  rw[gO h0 h1,gO h0 h1,q] at e
  exact yl (by have:=ls c;omega) e
theorem wN {c:Int} (h0:0≤c) (h1:c≤4) (t:Rat) {d:Rat} (hd:0≤d) (hq:d≤kQ c) (e:kI c (t+d)≠kI c t):kS c (t+d)=kS c t+1:=by
 rcases qg h0 h1 t hd hq with q|q
 ·exact absurd (by rw[gO h0 h1,gO h0 h1,q]) e
 ·exact q
theorem mP {c:Int} (h0:0≤c) (h1:c≤4) (t:Rat):∀k:Nat,(∀i:Nat,i≤k→kI c (pcs c t ((i:Nat):Int))=kI c t)→kS c (pcs c t ((k:Nat):Int))=kS c t:=by
 intro k
 induction k with
 |zero=>intro _;rw[show(((0:Nat)):Int)=0 from rfl,i9]
 |succ k ih=>
  intro h
  rw[←ih fun i hi=>h i (by omega),show(((k+1:Nat)):Int)=((k:Nat):Int)+1 by omega,gJ]
  refine pS h0 h1 _ (zE c).1 (Rat.le_refl) ?_
  rw[←gJ,show((k:Nat):Int)+1=(((k+1:Nat)):Int) by omega,h (k+1) (by omega),h k (by omega)]
theorem nU {c:Int} (h0:0≤c) (h1:c≤4) (t:Rat):∃k:Nat,((k:Nat):Int)<kM c∧(∀i:Nat,i≤k→kI c (pcs c t ((i:Nat):Int))=kI c t)∧kI c (pcs c t (((k:Nat):Int)+1))≠kI c t:=by
 have key:∀m:Nat,(∀i:Nat,i≤m→kI c (pcs c t ((i:Nat):Int))=kI c t)∨∃k:Nat,k<m∧(∀i:Nat,i≤k→kI c (pcs c t ((i:Nat):Int))=kI c t)∧kI c (pcs c t (((k:Nat):Int)+1))≠kI c t:=by
  intro m
  induction m with
  |zero=>left;intro i hi;rw[show i=0 by omega,show(((0:Nat)):Int)=0 from rfl,i9]
  |succ m ih=>
   rcases ih with ih|⟨k,hk,a⟩
   ·by_cases e:kI c (pcs c t (((m:Nat):Int)+1))=kI c t
    ·left;intro i hi
     by_cases q:i≤m
     ·exact ih i q
     ·rw[show((i:Nat):Int)=((m:Nat):Int)+1 by omega];exact e
    ·exact .inr ⟨m,by omega,ih,e⟩
   ·exact .inr ⟨k,by omega,a⟩
 have hM:(((kM c).toNat :Nat):Int)=kM c:=by unfold kM;split <;> rfl
 rcases key (kM c).toNat with h|⟨k,hk,a⟩
 ·exfalso
  have e:=mP h0 h1 t _ h
  rw[hM,mN] at e
  have:=xR h0 h1 t
  omega
 ·exact⟨k,by omega,a⟩
noncomputable def aO (c:Int) (t:Rat):Nat:=if h:0≤c∧c≤4 then Classical.choose (nU h.1 h.2 t) else 0
theorem cY {c:Int} (h0:0≤c) (h1:c≤4) (t:Rat):((aO c t:Nat):Int)<kM c∧(∀i:Nat,i≤aO c t→kI c (pcs c t ((i:Nat):Int))=kI c t)∧kI c (pcs c t (((aO c t:Nat):Int)+1))≠kI c t:=by
 unfold aO
 rw[dif_pos ⟨h0,h1⟩]
 exact Classical.choose_spec (nU h0 h1 t)
theorem q8 {c:Int} (h0:0≤c) (h1:c≤4) (t:Rat):kS c (pcs c t ((aO c t:Nat):Int))=kS c t:=mP h0 h1 t _ (cY h0 h1 t).2.1
noncomputable def elo (c:Int) (t:Rat):Rat:=pcs c t ((aO c t:Nat):Int)
noncomputable def ehi (c:Int) (t:Rat):Rat:=pcs c t (((aO c t:Nat):Int)+1)
def fG (c was:Int) (x:Rat):Bool:=decide (kI c x≠was)
noncomputable def dH (c:Int) (t:Rat):Rat:=hlo (fG c (kI c t)) (elo c t) (ehi c t) 21
noncomputable def fh (c:Int) (t:Rat):Rat:=hhi (fG c (kI c t)) (elo c t) (ehi c t) 21
theorem jp (c:Int) (t:Rat):ehi c t=elo c t+kQ c:=gJ c t _
theorem nD {c was:Int} {x:Rat}:fG c was x=false↔kI c x=was:=by unfold fG;rw[decide_eq_false_iff_not];exact Decidable.not_not
theorem tz {c was:Int} {x:Rat}:fG c was x=true↔kI c x≠was:=decide_eq_true_iff
theorem ve {c:Int} (h0:0≤c) (h1:c≤4) (t:Rat):fG c (kI c t) (elo c t)=false:=nD.2 ((cY h0 h1 t).2.1 _ (Nat.le_refl _))
theorem zJ {c:Int} (h0:0≤c) (h1:c≤4) (t:Rat):fG c (kI c t) (ehi c t)=true:=tz.2 (cY h0 h1 t).2.2
theorem mR {c:Int} (h0:0≤c) (h1:c≤4) (t:Rat):kI c (dH c t)=kI c t:=nD.1 (oB _ (ve h0 h1 t) 21)
theorem yf {c:Int} (h0:0≤c) (h1:c≤4) (t:Rat):kI c (fh c t)≠kI c t:=tz.1 (mt _ (zJ h0 h1 t) 21)
theorem xw (c:Int) (t:Rat):fh c t-dH c t=kQ c*(1/2097152):=by
 have h:=wX (fG c (kI c t)) (elo c t) (ehi c t) 21
 rw[jp,show((1:Int):Rat)/(((2^21:Int):Int):Rat)=1/2097152 by decide+kernel] at h
 rw[show fh c t-dH c t=(elo c t+kQ c-elo c t)*(1/2097152) from by rw[←jp] at*;exact h]
 generalize kQ c=q
 grind
theorem nv {c:Int} (h0:0≤c) (h1:c≤4) {t:Rat} {i:Nat} (h:i≤aO c t) (e:kI c (pcs c t (((i:Nat):Int)+1))=kI c t):i+1≤aO c t:=by
 have s:=cY h0 h1 t
 by_cases q:i=aO c t
 ·rw[q] at e;exact absurd e s.2.2
 ·omega
theorem k9 {c:Int} (h0:0≤c) (h1:c≤4) {t:Rat} {i:Nat} (h:i≤aO c t) (e:kI c (pcs c t (((i:Nat):Int)+1))≠kI c t):i=aO c t:=by
 have s:=cY h0 h1 t
 by_cases q:i+1≤aO c t
 ·have:=s.2.1 (i+1) q
  rw[show(((i+1:Nat)):Int)=((i:Nat):Int)+1 by omega] at this
  exact absurd this e
 ·omega
theorem mK (c:Int):kM c≤34:=by unfold kM;split <;> omega
theorem fp {c:Int} {t:Rat} {k:Nat} {i:Int} (h:az t k) (h0:0≤i) (h1:i≤1000):az (pcs c t i) (k+3):=by
 have o:=jZ c
 have e:B32^1=4294967296:=rfl
 exact(dw h (sn (n:=i) (d:=ov c) (k:=1) (by omega) (by omega) (by decide))).up _ (by omega)
end Go.Proofs.YtplngpfpcheofaaGreatDoor
