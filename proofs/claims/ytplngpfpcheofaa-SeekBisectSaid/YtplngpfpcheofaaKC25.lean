import Derived.Test.YtplngpfpcheofaaKC24
namespace Go.Proofs.Ytplngpfpcheofaa
open Go.RowKit
set_option maxRecDepth 100000
set_option linter.unusedVariables false
set_option maxHeartbeats 8000000
def atR (lo hi:Rat) (k n:Int):Rat:=lo+(hi-lo)*(((k:Int):Rat)/((n:Int):Rat))
def hlv (p:Rat→Bool) (lo hi:Rat):Nat→Int
 |0=>0
 |n+1=>if p (atR lo hi (2*hlv p lo hi n+1) (2^(n+1)))=true then 2*hlv p lo hi n else 2*hlv p lo hi n+1
theorem two_pos (n:Nat):(0:Int)<2^n:=Int.pow_pos (by decide)
theorem two_succ (n:Nat):(2:Int)^(n+1)=2*2^n:=by rw[Int.pow_succ,Int.mul_comm]
theorem hlv_bd (p:Rat→Bool) (lo hi:Rat) (n:Nat):0≤hlv p lo hi n∧hlv p lo hi n<2^n:=by
 induction n with
 |zero=>exact⟨Int.le_refl _,by show(0:Int)<1;decide⟩
 |succ n ih=>
  have e:=two_succ n
  unfold hlv
  split <;> omega
theorem cast_ne {n:Int} (h:n≠0):((n:Int):Rat)≠0:=fun e=>h (Rat.intCast_inj.1 (by rw[e,Rat.intCast_zero]))
theorem frac_scale (k:Int) {n c:Int} (hn:n≠0) (hc:c≠0):((k*c:Int):Rat)/((n*c:Int):Rat)=((k:Int):Rat)/((n:Int):Rat):=by
 have h1:=cast_ne hn
 have h2:=cast_ne hc
 rw[Rat.intCast_mul,Rat.intCast_mul]
 generalize ((n:Int):Rat)=x at*
 generalize ((c:Int):Rat)=y at*
 generalize ((k:Int):Rat)=z at*
 grind
theorem atR_scale (lo hi:Rat) (k:Int) {n c:Int} (hn:n≠0) (hc:c≠0):atR lo hi (k*c) (n*c)=atR lo hi k n:=by unfold atR;rw[frac_scale k hn hc]
theorem atR_mid (lo hi:Rat) (k:Int) {n:Int} (hn:n≠0):(atR lo hi k n+atR lo hi (k+1) n)*(((1:Int):Rat)/((2:Int):Rat))=atR lo hi (2*k+1) (2*n):=by
 have h1:=cast_ne hn
 unfold atR
 rw[Rat.intCast_add,Rat.intCast_add,Rat.intCast_mul,Rat.intCast_mul,show((1:Int):Rat)=1 from rfl,show((2:Int):Rat)=2 from rfl]
 generalize ((n:Int):Rat)=x at*
 generalize ((k:Int):Rat)=z at*
 grind
theorem atR_len (lo hi:Rat) (k:Int) {n:Int} (hn:n≠0):atR lo hi (k+1) n-atR lo hi k n=(hi-lo)*(((1:Int):Rat)/((n:Int):Rat)):=by
 have h1:=cast_ne hn
 unfold atR
 rw[Rat.intCast_add,show((1:Int):Rat)=1 from rfl]
 generalize ((n:Int):Rat)=x at*
 generalize ((k:Int):Rat)=z at*
 grind
theorem atR_zero (lo hi:Rat) (n:Int):atR lo hi 0 n=lo:=by unfold atR;rw[Rat.intCast_zero,Rat.div_def,Rat.zero_mul,Rat.mul_zero,Rat.add_zero]
theorem atR_one (lo hi:Rat):atR lo hi 1 1=hi:=by unfold atR;rw[show((1:Int):Rat)/((1:Int):Rat)=1 by decide+kernel];grind
def hlo (p:Rat→Bool) (lo hi:Rat) (n:Nat):Rat:=atR lo hi (hlv p lo hi n) (2^n)
def hhi (p:Rat→Bool) (lo hi:Rat) (n:Nat):Rat:=atR lo hi (hlv p lo hi n+1) (2^n)
def hmi (p:Rat→Bool) (lo hi:Rat) (n:Nat):Rat:=atR lo hi (2*hlv p lo hi n+1) (2^(n+1))
theorem hlo_zero (p:Rat→Bool) (lo hi:Rat):hlo p lo hi 0=lo:=atR_zero lo hi _
theorem hhi_zero (p:Rat→Bool) (lo hi:Rat):hhi p lo hi 0=hi:=atR_one lo hi
theorem hmi_mid (p:Rat→Bool) (lo hi:Rat) (n:Nat):(hlo p lo hi n+hhi p lo hi n)*(((1:Int):Rat)/((2:Int):Rat))=hmi p lo hi n:=by
 unfold hlo hhi hmi
 rw[atR_mid lo hi _ (by have:=two_pos n;omega),two_succ]
theorem hlv_t {p:Rat→Bool} {lo hi:Rat} {n:Nat} (h:p (hmi p lo hi n)=true):hlv p lo hi (n+1)=2*hlv p lo hi n:=by show(if _ then _ else _)=_;exact if_pos h
theorem hlv_f {p:Rat→Bool} {lo hi:Rat} {n:Nat} (h:p (hmi p lo hi n)=false):hlv p lo hi (n+1)=2*hlv p lo hi n+1:=by show(if _ then _ else _)=_;exact if_neg (by rw[show p (atR lo hi (2*hlv p lo hi n+1) (2^(n+1)))=false from h];simp)
theorem hlo_t {p:Rat→Bool} {lo hi:Rat} {n:Nat} (h:p (hmi p lo hi n)=true):hlo p lo hi (n+1)=hlo p lo hi n:=by
 unfold hlo
 rw[hlv_t h,two_succ,Int.mul_comm 2 (hlv p lo hi n),Int.mul_comm 2 (2^n)]
 exact atR_scale lo hi _ (by have:=two_pos n;omega) (by decide)
theorem hhi_t {p:Rat→Bool} {lo hi:Rat} {n:Nat} (h:p (hmi p lo hi n)=true):hhi p lo hi (n+1)=hmi p lo hi n:=by unfold hhi hmi;rw[hlv_t h]
theorem hlo_f {p:Rat→Bool} {lo hi:Rat} {n:Nat} (h:p (hmi p lo hi n)=false):hlo p lo hi (n+1)=hmi p lo hi n:=by unfold hlo hmi;rw[hlv_f h]
theorem hhi_f {p:Rat→Bool} {lo hi:Rat} {n:Nat} (h:p (hmi p lo hi n)=false):hhi p lo hi (n+1)=hhi p lo hi n:=by
 unfold hhi
 rw[hlv_f h,two_succ,show 2*hlv p lo hi n+1+1=(hlv p lo hi n+1)*2 by omega,Int.mul_comm 2 (2^n)]
 exact atR_scale lo hi _ (by have:=two_pos n;omega) (by decide)
theorem hlv_left {p:Rat→Bool} {lo:Rat} (hi:Rat) (h:p lo=false) (n:Nat):p (hlo p lo hi n)=false:=by
 induction n with
 |zero=>rw[hlo_zero];exact h
 |succ n ih=>
  cases hm:p (hmi p lo hi n) with
  |true=>rw[hlo_t hm];exact ih
  |false=>rw[hlo_f hm];exact hm
theorem hlv_right {p:Rat→Bool} (lo:Rat) {hi:Rat} (h:p hi=true) (n:Nat):p (hhi p lo hi n)=true:=by
 induction n with
 |zero=>rw[hhi_zero];exact h
 |succ n ih=>
  cases hm:p (hmi p lo hi n) with
  |true=>rw[hhi_t hm];exact hm
  |false=>rw[hhi_f hm];exact ih
theorem hlv_len (p:Rat→Bool) (lo hi:Rat) (n:Nat):hhi p lo hi n-hlo p lo hi n=(hi-lo)*(((1:Int):Rat)/(((2^n:Int):Int):Rat)):=atR_len lo hi _ (by have:=two_pos n;omega)
theorem twoN_le {n:Nat} (h:n≤64):(2:Int)^n≤18446744073709551616:=by
 have:(2:Nat)^n≤2^64:=Nat.pow_le_pow_right (by decide) h
 have e:((2^n:Nat):Int)=(2:Int)^n:=by rw[Int.natCast_pow];rfl
 rw[←e];exact Int.ofNat_le.2 this
theorem dq_lim {n d:Int} {k:Nat} (h:n.natAbs<B32^k) (g:d.natAbs<B32^k) (hk:1≤k):RLim (((n:Int):Rat)/((d:Int):Rat)) (k+k):=rlim_div (rlim_int h hk) (rlim_int g hk)
theorem atR_lim {lo hi:Rat} {k n:Int} {i j:Nat} (h1:RLim lo i) (h2:RLim hi j) (hk:0≤k) (hk2:k≤n) (hn2:n≤18446744073709551616):RLim (atR lo hi k n) (2*i+j+8):=by
 have b:(18446744073709551616:Nat)<B32^3:=by decide+kernel
 exact(rlim_add h1 (rlim_mul (rlim_sub h2 h1) (dq_lim (n:=k) (d:=n) (k:=3) (by omega) (by omega) (by decide)))).up _ (by omega)
theorem hlo_lim {p:Rat→Bool} {lo hi:Rat} {i j n:Nat} (h1:RLim lo i) (h2:RLim hi j) (hn:n≤64):RLim (hlo p lo hi n) (2*i+j+8):=
 atR_lim h1 h2 (hlv_bd p lo hi n).1 (by have:=hlv_bd p lo hi n;omega) (twoN_le hn)
theorem hhi_lim {p:Rat→Bool} {lo hi:Rat} {i j n:Nat} (h1:RLim lo i) (h2:RLim hi j) (hn:n≤64):RLim (hhi p lo hi n) (2*i+j+8):=
 atR_lim h1 h2 (by have:=hlv_bd p lo hi n;omega) (by have:=hlv_bd p lo hi n;omega) (twoN_le hn)
theorem hmi_lim {p:Rat→Bool} {lo hi:Rat} {i j n:Nat} (h1:RLim lo i) (h2:RLim hi j) (hn:n<64):RLim (hmi p lo hi n) (2*i+j+8):=
 atR_lim h1 h2 (by have:=hlv_bd p lo hi n;omega) (by have:=hlv_bd p lo hi n;have:=two_succ n;omega) (twoN_le hn)
end Go.Proofs.Ytplngpfpcheofaa
