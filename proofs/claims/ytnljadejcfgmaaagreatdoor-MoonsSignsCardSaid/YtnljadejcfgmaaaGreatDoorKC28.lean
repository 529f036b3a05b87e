import Derived.Test.YtnljadejcfgmaaaGreatDoorKC27
namespace Go.Proofs.YtnljadejcfgmaaaGreatDoor
open Go.RowKit
set_option maxRecDepth 100000
set_option linter.unusedVariables false
set_option maxHeartbeats 8000000
def epi (a s c:Rat):Rat:=a*(s-a.abs*c*s)
def eqv (t an s c:Rat):Rat:=arcv (epi (sof (mof t an)) s c)
def atv (t p an s c:Rat):Rat:=rmod (mof t p-eqv t an s c) ((360:Int):Rat)
def ssz:Rat:=((14:Int):Rat)/((360:Int):Rat)
def sch:Rat:=((1:Int):Rat)/((42:Int):Rat)
def msz:Rat:=((32:Int):Rat)/((360:Int):Rat)
def mch:Rat:=((1:Int):Rat)/((96:Int):Rat)
def sunE (t:Rat):Rat:=eqv t pay ssz sch
def moonE (t:Rat):Rat:=eqv t pam msz mch
def sunV (t:Rat):Rat:=atv t pyr pay ssz sch
def moonV (t:Rat):Rat:=atv t pmo pam msz mch
def phaseV (t:Rat):Rat:=rmod (moonV t-sunV t) ((360:Int):Rat)
def prt (x:Rat) (n:Int):Int:=(x*(((n:Int):Rat)/((360:Int):Rat))).floor
theorem ay_0 {h:Rat} (h1:h≤225):ay h=h/225:=by
 have s0:spk ((0:Nat):Int)=0:=by decide+kernel
 have s1:spk (((0:Nat):Int)+1)=225:=by decide+kernel
 have e:yk h=0:=by
  show(if h≤_ then _ else _)=_
  rw[if_pos]
  rw[s1];exact h1
 unfold ay
 rw[e,if_pos (by decide),s0,s1]
 rw[show((225-0:Int):Rat)=225 from rfl,show((0:Int):Rat)=0 from rfl,show(((0:Nat):Int):Rat)=0 from rfl]
 grind
theorem ay_1 {h:Rat} (h0:225<h) (h1:h≤449):ay h=(h-225)/224+1:=by
 have s1:spk ((1:Nat):Int)=225:=by decide+kernel
 have s1':spk (((0:Nat):Int)+1)=225:=by decide+kernel
 have s2:spk (((1:Nat):Int)+1)=449:=by decide+kernel
 have s2':spk (((0+1:Nat):Int)+1)=449:=by decide+kernel
 have e:yk h=1:=by
  show(if h≤_ then _ else _)=_
  rw[if_neg]
  ·show(if h≤_ then _ else _)=_
   rw[if_pos]
   rw[s2'];exact h1
  ·rw[s1'];exact fun k=>by have k':h≤225:=k;grind
 unfold ay
 rw[e,if_pos (by decide),s1,s2]
 rw[show((449-225:Int):Rat)=224 from rfl,show((225:Int):Rat)=225 from rfl,show(((1:Nat):Int):Rat)=1 from rfl]
theorem ap_pc {h:Rat} (h0: -449≤h) (h1:h≤449):(h< -225∧ap h=(h+225)/224-1)∨(-225≤h∧h≤225∧ap h=h/225)∨(225<h∧ap h=(h-225)/224+1):=by
 unfold ap
 by_cases hn:h<0
 ·rw[if_pos hn]
  by_cases hm: -h≤225
  ·right;left
   rw[ay_0 hm]
   refine⟨by grind,by grind,by grind⟩
  ·left
   rw[ay_1 (by grind) (by grind)]
   refine⟨by grind,by grind⟩
 ·rw[if_neg hn]
  by_cases hm:h≤225
  ·right;left
   rw[ay_0 hm]
   refine⟨by grind,by grind,by grind⟩
  ·right;right
   rw[ay_1 (by grind) (by grind)]
   refine⟨by grind,by grind⟩
theorem ap_lip {g h:Rat} (h0: -449≤g) (h1:g≤h) (h2:h≤449):0≤ap h-ap g∧ap h-ap g≤(h-g)/224:=by
 rcases ap_pc (h:=g) h0 (by grind) with⟨a,e⟩|⟨a,a',e⟩|⟨a,e⟩ <;> rcases ap_pc (h:=h) (by grind) h2 with⟨b,f⟩|⟨b,b',f⟩|⟨b,f⟩ <;> rw[e,f] <;> constructor <;> grind
theorem sq_up {a b:Rat} (ha: -1≤a) (hb:b≤1) (h:a≤b):0≤b*b.abs-a*a.abs∧b*b.abs-a*a.abs≤2*(b-a):=by
 by_cases a0:0≤a
 ·rw[Rat.abs_of_nonneg a0,Rat.abs_of_nonneg (by grind)]
  have m:=Rat.mul_nonneg (a:=b-a) (b:=b+a) (by grind) (by grind)
  have n:=Rat.mul_nonneg (a:=b-a) (b:=2-(b+a)) (by grind) (by grind)
  constructor <;> grind
 ·rw[Rat.abs_of_nonpos (x:=a) (by grind)]
  by_cases b0:0≤b
  ·rw[Rat.abs_of_nonneg b0]
   have m:=Rat.mul_nonneg (a:=b) (b:=1-b) (by grind) (by grind)
   have n:=Rat.mul_nonneg (a:= -a) (b:=1+a) (by grind) (by grind)
   have m':=Rat.mul_nonneg (a:=b) (b:=b) (by grind) (by grind)
   have n':=Rat.mul_nonneg (a:= -a) (b:= -a) (by grind) (by grind)
   constructor <;> grind
  ·rw[Rat.abs_of_nonpos (x:=b) (by grind)]
   have m:=Rat.mul_nonneg (a:=b-a) (b:= -(b+a)) (by grind) (by grind)
   have n:=Rat.mul_nonneg (a:=b-a) (b:=2+(b+a)) (by grind) (by grind)
   constructor <;> grind
theorem epi_lip {a b s c:Rat} (ha: -1≤a) (hb:b≤1) (h:a≤b) (hs:0≤s) (c0:0≤c) (c1:2*c≤1):0≤epi b s c-epi a s c∧epi b s c-epi a s c≤s*(b-a):=by
 have hd:=sq_up ha hb h
 have e:epi b s c-epi a s c=s*((b-a)-c*(b*b.abs-a*a.abs)):=by unfold epi;grind
 rw[e]
 generalize b*b.abs-a*a.abs=d at*
 have m:=Rat.mul_nonneg c0 hd.1
 have n:=Rat.mul_nonneg (a:=c) (b:=2*(b-a)-d) c0 (by grind)
 have o:=Rat.mul_nonneg (a:=1-2*c) (b:=b-a) (by grind) (by grind)
 have p:=Rat.mul_nonneg (a:=s) (b:=(b-a)-c*d) hs (by grind)
 have q:=Rat.mul_nonneg (a:=s) (b:=c*d) hs m
 constructor
 ·exact p
 ·grind
theorem epi_bd {a s c:Rat} (h0: -1≤a) (h1:a≤1) (hs:0≤s) (c0:0≤c) (c1:2*c≤1): -(s*(1-c))≤epi a s c∧epi a s c≤s*(1-c):=by
 have u:=epi_lip (a:=a) (b:=1) h0 (by grind) h1 hs c0 c1
 have v:=epi_lip (a:= -1) (b:=a) (by grind) h1 h0 hs c0 c1
 have e1:epi 1 s c=s*(1-c):=by unfold epi;rw[Rat.abs_of_nonneg (by grind)];grind
 have e2:epi (-1) s c= -(s*(1-c)):=by unfold epi;rw[Rat.abs_of_nonpos (by grind)];grind
 rw[e1] at u
 rw[e2] at v
 constructor <;> grind
theorem arc_lip {a b:Rat} (h0: -449≤a*3438) (h:a≤b) (h1:b*3438≤449):0≤arcv b-arcv a∧arcv b-arcv a≤(b-a)*(3438*15/896):=by
 have m:=ap_lip (g:=a*3438) (h:=b*3438) h0 (by grind) h1
 unfold arcv
 rw[c3438,wd_eq]
 constructor <;> grind
theorem arc_epi {a b s c:Rat} (ha: -1≤a) (ha':a≤1) (hb: -1≤b) (hb':b≤1) (hs:0≤s) (hs':s*3438≤449) (c0:0≤c) (c1:2*c≤1):(arcv (epi b s c)-arcv (epi a s c)).abs ≤s*(3438*15/896)*(b-a).abs :=by
 have ba:=epi_bd ha ha' hs c0 c1
 have bb:=epi_bd hb hb' hs c0 c1
 have cs:=Rat.mul_nonneg hs c0
 rcases Rat.le_total (a:=a) (b:=b) with h|h
 ·have l:=epi_lip ha hb' h hs c0 c1
  have m:=arc_lip (a:=epi a s c) (b:=epi b s c) (by grind) (by grind) (by grind)
  rw[Rat.abs_of_nonneg m.1,Rat.abs_of_nonneg (x:=b-a) (by grind)]
  grind
 ·have l:=epi_lip hb ha' h hs c0 c1
  have m:=arc_lip (a:=epi b s c) (b:=epi a s c) (by grind) (by grind) (by grind)
  rw[Rat.abs_of_nonpos (by grind),Rat.abs_of_nonpos (x:=b-a) (by grind)]
  grind
theorem arc_0:arcv 0=0:=by decide+kernel
theorem arc_epi0 {a s c:Rat} (ha: -1≤a) (ha':a≤1) (hs:0≤s) (hs':s*3438≤449) (c0:0≤c) (c1:2*c≤1):(arcv (epi a s c)).abs ≤s*(1-c)*(3438*15/896):=by
 have ba:=epi_bd ha ha' hs c0 c1
 have cs:=Rat.mul_nonneg hs c0
 rcases Rat.le_total (a:=0) (b:=epi a s c) with h|h
 ·have m:=arc_lip (a:=0) (b:=epi a s c) (by grind) h (by grind)
  rw[arc_0] at m
  rw[Rat.abs_of_nonneg (by grind)]
  grind
 ·have m:=arc_lip (a:=epi a s c) (b:=0) (by grind) h (by grind)
  rw[arc_0] at m
  rw[Rat.abs_of_nonpos (by grind)]
  grind
theorem sof_mof {t p:Rat} (h:0<p):sof (mof t p)=sof (((360:Int):Rat)*mturn t p):=by rw[mof_turns h,sof_turn]
theorem abs_mul_le {x y k:Rat} (h:x≤y) (hk:0≤k):k*x≤k*y:=Rat.mul_le_mul_of_nonneg_left h hk
theorem eqv_lip {t u an s c d:Rat} {n:Int} (h:0<an) (hs:0≤s) (hs':s*3438≤449) (c0:0≤c) (c1:2*c≤1)
 (e:((360:Int):Rat)*mturn u an=((360:Int):Rat)*mturn t an+d+((360:Int):Rat)*((n:Int):Rat)):(eqv u an s c-eqv t an s c).abs ≤s*(225/224)*d.abs:=by
 have l:=sof_lip (((360:Int):Rat)*mturn t an+d) (((360:Int):Rat)*mturn t an)
 rw[show((360:Int):Rat)*mturn t an+d-((360:Int):Rat)*mturn t an=d by grind] at l
 have bt:=sof_bd (((360:Int):Rat)*mturn t an)
 have bu:=sof_bd (((360:Int):Rat)*mturn t an+d)
 have m:=arc_epi (s:=s) (c:=c) bt.1 bt.2 bu.1 bu.2 hs hs' c0 c1
 unfold eqv
 rw[sof_mof h,sof_mof h,e,sof_turn]
 have k:=abs_mul_le l (k:=s*(3438*15/896)) (by grind)
 rw[show((60:Int):Rat)/((3438:Int):Rat)=60/3438 by decide+kernel] at k
 grind
theorem sun_near (t:Rat):(sunE t).abs ≤((22:Int):Rat)/((10:Int):Rat):=by
 have b:=sof_bd (mof t pay)
 have m:=arc_epi0 (s:=ssz) (c:=sch) b.1 b.2 (by decide+kernel) (by decide+kernel) (by decide+kernel) (by decide+kernel)
 have k:ssz*(1-sch)*(3438*15/896)≤((22:Int):Rat)/((10:Int):Rat):=by decide+kernel
 exact Rat.le_trans m k
theorem moon_near (t:Rat):(moonE t).abs ≤((51:Int):Rat)/((10:Int):Rat):=by
 have b:=sof_bd (mof t pam)
 have m:=arc_epi0 (s:=msz) (c:=mch) b.1 b.2 (by decide+kernel) (by decide+kernel) (by decide+kernel) (by decide+kernel)
 have k:msz*(1-mch)*(3438*15/896)≤((51:Int):Rat)/((10:Int):Rat):=by decide+kernel
 exact Rat.le_trans m k
theorem rmod_dif (x y:Rat):rmod (rmod x ((360:Int):Rat)-rmod y ((360:Int):Rat)) ((360:Int):Rat)=rmod (x-y) ((360:Int):Rat):=by
 rw[rmod_sub c360_pos,show rmod x ((360:Int):Rat)-y=rmod x ((360:Int):Rat)+ -y by grind,rmod_add c360_pos,show x+ -y=x-y by grind]
theorem mturn_add {t d p:Rat}:mturn (t+d) p=mturn t p+d/p:=by unfold mturn;grind
theorem abs_two {x b:Rat} (h:x.abs≤b): -b≤x∧x≤b:=by have:=le_abs x;constructor <;> grind
theorem sunV_low (t:Rat):0≤sunV t:=rmod_low c360_pos
theorem sunV_high (t:Rat):sunV t<((360:Int):Rat):=rmod_high c360_pos
theorem phaseV_low (t:Rat):0≤phaseV t:=rmod_low c360_pos
theorem phaseV_high (t:Rat):phaseV t<((360:Int):Rat):=rmod_high c360_pos
theorem prt_bd {x:Rat} {n:Int} (hn:0<n) (h0:0≤x) (h1:x<((360:Int):Rat)):0≤prt x n∧prt x n<n:=by
 have p:(0:Rat)<((n:Int):Rat):=Rat.intCast_pos.2 hn
 have q:(0:Rat)<((n:Int):Rat)/((360:Int):Rat):=by rw[Rat.div_def];exact Rat.mul_pos p (by decide+kernel)
 unfold prt
 constructor
 ·exact Rat.le_floor_iff.2 (by rw[Rat.intCast_zero];exact Rat.mul_nonneg h0 (by grind))
 ·refine Rat.floor_lt_iff.2 ?_
  have m:=(Rat.mul_lt_mul_right (c:=((n:Int):Rat)/((360:Int):Rat)) q).2 h1
  have e:((360:Int):Rat)*(((n:Int):Rat)/((360:Int):Rat))=((n:Int):Rat):=by rw[Rat.mul_comm];exact Rat.div_mul_cancel (by decide+kernel)
  rw[e] at m
  exact m
theorem pfr_mfr (x:Rat):pfr x=mfr (x/wd):=by
 have h:(0:Rat)<((96:Int):Rat):=by decide+kernel
 unfold pfr pk
 show mfr (rmod (x/wd) ((96:Int):Rat))=_
 rw[rmod_fl h]
 generalize (x/wd/((96:Int):Rat)).floor =n
 rw[show x/wd+((96:Int):Rat)*(((-n:Int)):Rat)=x/wd+((96* -n:Int):Rat) by rw[Rat.intCast_mul],mfr_more]
theorem sof_lim2 {x:Rat} {k:Nat} (h:RLim x k):RLim (sof x) (k+12):=by
 rw[←sof_pk,pfr_mfr]
 exact(rlim_div (rlim_add (lim64 (spk64 _).1 (spk64 _).2) (rlim_mul (mfr_lim (rlim_div h wd_lim)) (lim64 (dif64 _).1 (dif64 _).2))) (lim64 (n:=3438) (by decide) (by decide))).up _ (by omega)
theorem epi_lim {a s c:Rat} {k j i:Nat} (h:RLim a k) (hs:RLim s j) (hc:RLim c i):RLim (epi a s c) (2*k+2*j+i+1):=(rlim_mul h (rlim_sub hs (rlim_mul (rlim_mul (rlim_abs h) hc) hs))).up _ (by omega)
theorem eqv_lim {t an s c:Rat} {k l j i:Nat} (h:RLim t k) (ha:RLim an l) (hs:RLim s j) (hc:RLim c i):RLim (eqv t an s c) (2*k+2*l+2*j+i+60):=(arcv_lim (epi_lim (sof_lim2 (mof_lim h ha)) hs hc)).up _ (by omega)
theorem atv_lim {t p an s c:Rat} {k m l j i:Nat} (h:RLim t k) (hp:RLim p m) (ha:RLim an l) (hs:RLim s j) (hc:RLim c i):RLim (atv t p an s c) (3*k+m+2*l+2*j+i+80):=(rmod360_lim (rlim_sub (mof_lim h hp) (eqv_lim h ha hs hc))).up _ (by omega)
theorem ssz_lim:RLim ssz 2:=lim64d (by decide) (by decide) (by decide) (by decide)
theorem sch_lim:RLim sch 2:=lim64d (by decide) (by decide) (by decide) (by decide)
theorem msz_lim:RLim msz 2:=lim64d (by decide) (by decide) (by decide) (by decide)
theorem mch_lim:RLim mch 2:=lim64d (by decide) (by decide) (by decide) (by decide)
theorem sunV_lim {t:Rat} {k:Nat} (h:RLim t k):RLim (sunV t) (3*k+100):=(atv_lim h pyr_lim pay_lim ssz_lim sch_lim).up _ (by omega)
theorem moonV_lim {t:Rat} {k:Nat} (h:RLim t k):RLim (moonV t) (3*k+100):=(atv_lim h pmo_lim pam_lim msz_lim mch_lim).up _ (by omega)
theorem phaseV_lim {t:Rat} {k:Nat} (h:RLim t k):RLim (phaseV t) (6*k+210):=(rmod360_lim (rlim_sub (moonV_lim h) (sunV_lim h))).up _ (by omega)
theorem qOf {v1:Value} {p1:Rat} {k1:Nat} {w:World} (hT:TabD w) (x1:Rl p1 k1 w v1) (a1:k1≤800:=by omega):Calls Tryz.prog 223 #[v1] w (Ret (kq (sof (p1)) ((k1+12))) w):=rq_ret (sof_any _ (p1) k1 _ hT x1.1 x1.2 (by omega)) (sof_lim2 x1.2)
theorem qArc {v1:Value} {p1:Rat} {k1:Nat} {w:World} (hT:TabD w) (x1:Rl p1 k1 w v1) (a1:k1≤1000:=by omega):Calls Tryz.prog 225 #[v1] w (Ret (kq (arcv (p1)) ((k1+20))) w):=rq_ret (sarc_any _ (p1) k1 _ hT x1.1 x1.2 (by omega)) (arcv_lim x1.2)
end Go.Proofs.YtnljadejcfgmaaaGreatDoor
