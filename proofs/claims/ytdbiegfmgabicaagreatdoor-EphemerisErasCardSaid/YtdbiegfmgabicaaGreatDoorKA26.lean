import Derived.Test.YtdbiegfmgabicaaGreatDoorKA25
namespace Go.Proofs.YtdbiegfmgabicaaGreatDoor
open Go.RowKit
set_option maxRecDepth 100000
set_option linter.unusedVariables false
set_option maxHeartbeats 8000000
def epi (a s c:Rat):Rat:=a*(s-a.abs*c*s)
def eqv (t an s c:Rat):Rat:=bK (epi (sof (mof t an)) s c)
def atv (t p an s c:Rat):Rat:=rmod (mof t p-eqv t an s c) ((360:Int):Rat)
def ssz:Rat:=((14:Int):Rat)/((360:Int):Rat)
def sch:Rat:=((1:Int):Rat)/((42:Int):Rat)
def msz:Rat:=((32:Int):Rat)/((360:Int):Rat)
def mch:Rat:=((1:Int):Rat)/((96:Int):Rat)
def dG (t:Rat):Rat:=eqv t pay ssz sch
def ig (t:Rat):Rat:=eqv t pam msz mch
def dz (t:Rat):Rat:=atv t pyr pay ssz sch
def ng (t:Rat):Rat:=atv t pmo pam msz mch
def bi (t:Rat):Rat:=rmod (ng t-dz t) ((360:Int):Rat)
def prt (x:Rat) (n:Int):Int:=(x*(((n:Int):Rat)/((360:Int):Rat))).floor
theorem uE:ssz=7/180∧sch=1/42∧msz=4/45∧mch=1/96:=by decide+kernel
theorem LV {h:Rat} (h1:h≤225):ay h=h/225:=by
 have s0:spk ((0:Nat):Int)=0:=by decide+kernel
 have s1:spk (((0:Nat):Int)+1)=225:=by decide+kernel
 have e:yk h=0:=by
  show(if h≤_ then _ else _)=_
  rw[if_pos]
  rw[s1];exact h1
 unfold ay
 rw[e,if_pos (by decide),s0,s1]
 rw[show((225-0:Int):Rat)=225 from rfl,show((0:Int):Rat)=0 from rfl,show(((0:Nat):Int):Rat)=0 from rfl]
 grind
theorem Ll {h:Rat} (h0:225<h) (h1:h≤449):ay h=(h-225)/224+1:=by
 have s1:spk ((1:Nat):Int)=225:=by decide+kernel
 have s1':spk (((0:Nat):Int)+1)=225:=by decide+kernel
 have s2:spk (((1:Nat):Int)+1)=449:=by decide+kernel
 have s2':spk (((0+1:Nat):Int)+1)=449:=by decide+kernel
 have e:yk h=1:=by
  show(if h≤_ then _ else _)=_
  rw[if_neg]
  ·show(if h≤_ then _ else _)=_
   rw[if_pos]
   rw[s2'];exact h1
  ·rw[s1'];exact fun k=>by have k':h≤225:=k;grind
 unfold ay
 rw[e,if_pos (by decide),s1,s2]
 rw[show((449-225:Int):Rat)=224 from rfl,show((225:Int):Rat)=225 from rfl,show(((1:Nat):Int):Rat)=1 from rfl]
theorem zK {h:Rat} (h0: -449≤h) (h1:h≤449):(h< -225∧ap h=(h+225)/224-1)∨(-225≤h∧h≤225∧ap h=h/225)∨(225<h∧ap h=(h-225)/224+1):=by
 unfold ap
 by_cases hn:h<0
 ·rw[if_pos hn]
  by_cases hm: -h≤225
  ·right;left
   rw[LV hm]
   refine⟨by grind,by grind,by grind⟩
  ·left
   rw[Ll (by grind) (by grind)]
   refine⟨by grind,by grind⟩
 ·rw[if_neg hn]
  by_cases hm:h≤225
  ·right;left
   rw[LV hm]
   refine⟨by grind,by grind,by grind⟩
  ·right;right
   rw[Ll (by grind) (by grind)]
   refine⟨by grind,by grind⟩
theorem LI {g h:Rat} (h0: -449≤g) (h1:g≤h) (h2:h≤449):0≤ap h-ap g∧ap h-ap g≤(h-g)/224:=by
 rcases zK (h:=g) h0 (by grind) with⟨a,e⟩|⟨a,a',e⟩|⟨a,e⟩ <;> rcases zK (h:=h) (by grind) h2 with⟨b,f⟩|⟨b,b',f⟩|⟨b,f⟩ <;> rw[e,f] <;> constructor <;> grind
theorem Mv {a b:Rat} (ha: -1≤a) (hb:b≤1) (h:a≤b):0≤b*b.abs-a*a.abs∧b*b.abs-a*a.abs≤2*(b-a):=by
 by_cases a0:0≤a
 ·rw[Rat.abs_of_nonneg a0,Rat.abs_of_nonneg (by grind)]
  have m:=Rat.mul_nonneg (a:=b-a) (b:=b+a) (by grind) (by grind)
  have n:=Rat.mul_nonneg (a:=b-a) (b:=2-(b+a)) (by grind) (by grind)
  constructor <;> grind
 ·rw[Rat.abs_of_nonpos (x:=a) (by grind)]
  by_cases b0:0≤b
  ·rw[Rat.abs_of_nonneg b0]
   have m:=Rat.mul_nonneg (a:=b) (b:=1-b) (by grind) (by grind)
   have n:=Rat.mul_nonneg (a:= -a) (b:=1+a) (by grind) (by grind)
   have m':=Rat.mul_nonneg (a:=b) (b:=b) (by grind) (by grind)
   have n':=Rat.mul_nonneg (a:= -a) (b:= -a) (by grind) (by grind)
   constructor <;> grind
  ·rw[Rat.abs_of_nonpos (x:=b) (by grind)]
   have m:=Rat.mul_nonneg (a:=b-a) (b:= -(b+a)) (by grind) (by grind)
   have n:=Rat.mul_nonneg (a:=b-a) (b:=2+(b+a)) (by grind) (by grind)
   constructor <;> grind
theorem kF {a b s c:Rat} (ha: -1≤a) (hb:b≤1) (h:a≤b) (hs:0≤s) (c0:0≤c) (c1:2*c≤1):0≤epi b s c-epi a s c∧epi b s c-epi a s c≤s*(b-a):=by
 have hd:=Mv ha hb h
 have e:epi b s c-epi a s c=s*((b-a)-c*(b*b.abs-a*a.abs)):=by unfold epi;grind
 rw[e]
 generalize b*b.abs-a*a.abs=d at*
 have m:=Rat.mul_nonneg c0 hd.1
 have n:=Rat.mul_nonneg (a:=c) (b:=2*(b-a)-d) c0 (by grind)
 have o:=Rat.mul_nonneg (a:=1-2*c) (b:=b-a) (by grind) (by grind)
 have p:=Rat.mul_nonneg (a:=s) (b:=(b-a)-c*d) hs (by grind)
 have q:=Rat.mul_nonneg (a:=s) (b:=c*d) hs m
 constructor
 ·exact p
 ·grind
theorem nO {a s c:Rat} (h0: -1≤a) (h1:a≤1) (hs:0≤s) (c0:0≤c) (c1:2*c≤1): -(s*(1-c))≤epi a s c∧epi a s c≤s*(1-c):=by
 have u:=kF (a:=a) (b:=1) h0 (by grind) h1 hs c0 c1
 have v:=kF (a:= -1) (b:=a) (by grind) h1 h0 hs c0 c1
 have e1:epi 1 s c=s*(1-c):=by unfold epi;rw[Rat.abs_of_nonneg (by grind)];grind
 have e2:epi (-1) s c= -(s*(1-c)):=by unfold epi;rw[Rat.abs_of_nonpos (by grind)];grind
 rw[e1] at u
 rw[e2] at v
 constructor <;> grind
theorem ph {a b:Rat} (h0: -449≤a*3438) (h:a≤b) (h1:b*3438≤449):0≤bK b-bK a∧bK b-bK a≤(b-a)*(3438*15/896):=by
 have m:=LI (g:=a*3438) (h:=b*3438) h0 (by grind) h1
 unfold bK
 rw[eM,eG]
 constructor <;> grind
theorem JL {a b s c:Rat} (ha: -1≤a) (ha':a≤1) (hb: -1≤b) (hb':b≤1) (hs:0≤s) (hs':s*3438≤449) (c0:0≤c) (c1:2*c≤1):(bK (epi b s c)-bK (epi a s c)).abs ≤s*(3438*15/896)*(b-a).abs :=by
 have ba:=nO ha ha' hs c0 c1
 have bb:=nO hb hb' hs c0 c1
 have cs:=Rat.mul_nonneg hs c0
 rcases Rat.le_total (a:=a) (b:=b) with h|h
 ·have l:=kF ha hb' h hs c0 c1
  have m:=ph (a:=epi a s c) (b:=epi b s c) (by grind) (by grind) (by grind)
  rw[Rat.abs_of_nonneg m.1,Rat.abs_of_nonneg (x:=b-a) (by grind)]
  grind
 ·have l:=kF hb ha' h hs c0 c1
  have m:=ph (a:=epi b s c) (b:=epi a s c) (by grind) (by grind) (by grind)
  rw[Rat.abs_of_nonpos (by grind),Rat.abs_of_nonpos (x:=b-a) (by grind)]
  grind
theorem Gs:bK 0=0:=by decide+kernel
theorem wu {a s c:Rat} (ha: -1≤a) (ha':a≤1) (hs:0≤s) (hs':s*3438≤449) (c0:0≤c) (c1:2*c≤1):(bK (epi a s c)).abs ≤s*(1-c)*(3438*15/896):=by
 have ba:=nO ha ha' hs c0 c1
 have cs:=Rat.mul_nonneg hs c0
 rcases Rat.le_total (a:=0) (b:=epi a s c) with h|h
 ·have m:=ph (a:=0) (b:=epi a s c) (by grind) h (by grind)
  rw[Gs] at m
  rw[Rat.abs_of_nonneg (by grind)]
  grind
 ·have m:=ph (a:=epi a s c) (b:=0) (by grind) h (by grind)
  rw[Gs] at m
  rw[Rat.abs_of_nonpos (by grind)]
  grind
theorem pA {t p:Rat} (h:0<p):sof (mof t p)=sof (((360:Int):Rat)*bv t p):=by rw[jV h,nF]
theorem AQ {x y k:Rat} (h:x≤y) (hk:0≤k):k*x≤k*y:=Rat.mul_le_mul_of_nonneg_left h hk
theorem pz {t u an s c d:Rat} {n:Int} (h:0<an) (hs:0≤s) (hs':s*3438≤449) (c0:0≤c) (c1:2*c≤1)
 (e:((360:Int):Rat)*bv u an=((360:Int):Rat)*bv t an+d+((360:Int):Rat)*((n:Int):Rat)):(eqv u an s c-eqv t an s c).abs ≤s*(225/224)*d.abs:=by
 have l:=pK (((360:Int):Rat)*bv t an+d) (((360:Int):Rat)*bv t an)
 rw[show((360:Int):Rat)*bv t an+d-((360:Int):Rat)*bv t an=d by grind] at l
 have bt:=fY (((360:Int):Rat)*bv t an)
 have bu:=fY (((360:Int):Rat)*bv t an+d)
 have m:=JL (s:=s) (c:=c) bt.1 bt.2 bu.1 bu.2 hs hs' c0 c1
 unfold eqv
 rw[pA h,pA h,e,nF]
 have k:=AQ l (k:=s*(3438*15/896)) (by grind)
 rw[show((60:Int):Rat)/((3438:Int):Rat)=60/3438 by decide+kernel] at k
 grind
theorem gQ (t:Rat):(dG t).abs ≤((22:Int):Rat)/((10:Int):Rat):=by
 have b:=fY (mof t pay)
 have m:=wu (s:=ssz) (c:=sch) b.1 b.2 (by decide+kernel) (by decide+kernel) (by decide+kernel) (by decide+kernel)
 have k:ssz*(1-sch)*(3438*15/896)≤((22:Int):Rat)/((10:Int):Rat):=by decide+kernel
 exact Rat.le_trans m k
theorem tO (t:Rat):(ig t).abs ≤((51:Int):Rat)/((10:Int):Rat):=by
 have b:=fY (mof t pam)
 have m:=wu (s:=msz) (c:=mch) b.1 b.2 (by decide+kernel) (by decide+kernel) (by decide+kernel) (by decide+kernel)
 have k:msz*(1-mch)*(3438*15/896)≤((51:Int):Rat)/((10:Int):Rat):=by decide+kernel
 exact Rat.le_trans m k
theorem vA (x y:Rat):rmod (rmod x ((360:Int):Rat)-rmod y ((360:Int):Rat)) ((360:Int):Rat)=rmod (x-y) ((360:Int):Rat):=by
 rw[EC bC,show rmod x ((360:Int):Rat)-y=rmod x ((360:Int):Rat)+ -y by grind,Ed bC,show x+ -y=x-y by grind]
theorem ec {t d p:Rat}:bv (t+d) p=bv t p+d/p:=by unfold bv;grind
theorem Lt {t d p an s c:Rat} (hp:0<p):rmod (atv (t+d) p an s c-atv t p an s c) ((360:Int):Rat)=rmod (((360:Int):Rat)*(d/p)-(eqv (t+d) an s c-eqv t an s c)) ((360:Int):Rat):=by
 unfold atv
 rw[vA,jV (t:=t+d) hp,jV (t:=t) hp,ec]
 rw[show((360:Int):Rat)*(bv t p+d/p)+((360:Int):Rat)*(((-(bv t p+d/p).floor :Int)):Rat)-eqv (t+d) an s c-(((360:Int):Rat)*bv t p+((360:Int):Rat)*(((-(bv t p).floor :Int)):Rat)-eqv t an s c)=(((360:Int):Rat)*(d/p)-(eqv (t+d) an s c-eqv t an s c))+((360:Int):Rat)*(((-(bv t p+d/p).floor +(bv t p).floor :Int)):Rat) by
  simp only [Rat.intCast_add,Rat.intCast_neg];grind]
 rw[jQ _ bC]
theorem cP {x b:Rat} (h:x.abs≤b): -b≤x∧x≤b:=by have:=rK x;constructor <;> grind
theorem F6 (t:Rat):(dG (t+((1:Int):Rat))-dG t).abs ≤ssz*(225/224)*(((360:Int):Rat)/pay).abs :=
 pz (n:=0) jo (by decide+kernel) (by decide+kernel) (by decide+kernel) (by decide+kernel) (by
  rw[ec,Rat.intCast_zero,Rat.intCast_one,Rat.div_def,Rat.div_def];grind)
theorem IX (t:Rat):rmod (dz (t+((1:Int):Rat))-dz t) ((360:Int):Rat)=((360:Int):Rat)*(((1:Int):Rat)/pyr)-(dG (t+((1:Int):Rat))-dG t)∧9471/10000<((360:Int):Rat)*(((1:Int):Rat)/pyr)-(dG (t+((1:Int):Rat))-dG t)∧((360:Int):Rat)*(((1:Int):Rat)/pyr)-(dG (t+((1:Int):Rat))-dG t)<10242/10000:=by
 have l:=cP (F6 t)
 have k:ssz*(225/224)*(((360:Int):Rat)/pay).abs <385015/10000000:=by decide+kernel
 have k1:985602/1000000<((360:Int):Rat)*(((1:Int):Rat)/pyr):=by decide+kernel
 have k2:((360:Int):Rat)*(((1:Int):Rat)/pyr)<985603/1000000:=by decide+kernel
 have a:9471/10000<((360:Int):Rat)*(((1:Int):Rat)/pyr)-(dG (t+((1:Int):Rat))-dG t):=by grind
 have b:((360:Int):Rat)*(((1:Int):Rat)/pyr)-(dG (t+((1:Int):Rat))-dG t)<10242/10000:=by grind
 refine⟨?_,a,b⟩
 unfold dz
 rw[Lt iS]
 exact pO (by unfold dG at a;grind) (by unfold dG at b;rw[fb] at*;grind)
theorem vC (t:Rat):0≤dz t:=dE bC
theorem tw (t:Rat):dz t<((360:Int):Rat):=cZ bC
theorem ki (t:Rat):0≤bi t:=dE bC
theorem jE (t:Rat):bi t<((360:Int):Rat):=cZ bC
theorem gW {x:Rat} {n:Int} (hn:0<n) (h0:0≤x) (h1:x<((360:Int):Rat)):0≤prt x n∧prt x n<n:=by
 have p:(0:Rat)<((n:Int):Rat):=Rat.intCast_pos.2 hn
 have q:(0:Rat)<((n:Int):Rat)/((360:Int):Rat):=by rw[Rat.div_def];exact Rat.mul_pos p (by decide+kernel)
 unfold prt
 constructor
 ·exact Rat.le_floor_iff.2 (by rw[Rat.intCast_zero];exact Rat.mul_nonneg h0 (by grind))
 ·refine Rat.floor_lt_iff.2 ?_
  have m:=(Rat.mul_lt_mul_right (c:=((n:Int):Rat)/((360:Int):Rat)) q).2 h1
  have e:((360:Int):Rat)*(((n:Int):Rat)/((360:Int):Rat))=((n:Int):Rat):=by rw[Rat.mul_comm];exact Rat.div_mul_cancel (by decide+kernel)
  rw[e] at m
  exact m
theorem s6 (x:Rat):pfr x=mfr (x/wd):=by
 have h:(0:Rat)<((96:Int):Rat):=by decide+kernel
 unfold pfr pk
 show mfr (rmod (x/wd) ((96:Int):Rat))=_
 rw[iq h]
 generalize (x/wd/((96:Int):Rat)).floor =n
 rw[show x/wd+((96:Int):Rat)*(((-n:Int)):Rat)=x/wd+((96* -n:Int):Rat) by rw[Rat.intCast_mul],FA]
theorem fc {x:Rat} {k:Nat} (h:ah x k):ah (sof x) (k+12):=by
 rw[←l8,s6]
 exact(dF (bL (bP (di _).1 (di _).2) (bf (td (dF h om)) (bP (eF _).1 (eF _).2))) (bP (n:=3438) (by decide) (by decide))).up _ (by omega)
theorem Im {a s c:Rat} {k j i:Nat} (h:ah a k) (hs:ah s j) (hc:ah c i):ah (epi a s c) (2*k+2*j+i+1):=(bf h (cA hs (bf (bf (gp h) hc) hs))).up _ (by omega)
theorem yo {t an s c:Rat} {k l j i:Nat} (h:ah t k) (ha:ah an l) (hs:ah s j) (hc:ah c i):ah (eqv t an s c) (2*k+2*l+2*j+i+60):=(kO (Im (fc (jw h ha)) hs hc)).up _ (by omega)
theorem yh {t p an s c:Rat} {k m l j i:Nat} (h:ah t k) (hp:ah p m) (ha:ah an l) (hs:ah s j) (hc:ah c i):ah (atv t p an s c) (3*k+m+2*l+2*j+i+80):=(fG (cA (jw h hp) (yo h ha hs hc))).up _ (by omega)
theorem yS:ah ssz 2:=jY (by decide) (by decide) (by decide) (by decide)
theorem xZ:ah sch 2:=jY (by decide) (by decide) (by decide) (by decide)
theorem yi:ah msz 2:=jY (by decide) (by decide) (by decide) (by decide)
theorem yz:ah mch 2:=jY (by decide) (by decide) (by decide) (by decide)
theorem hO {t:Rat} {k:Nat} (h:ah t k):ah (dz t) (3*k+100):=(yh h mj jq yS xZ).up _ (by omega)
theorem lv {t:Rat} {k:Nat} (h:ah t k):ah (ng t) (3*k+100):=(yh h pg pD yi yz).up _ (by omega)
theorem mN {t:Rat} {k:Nat} (h:ah t k):ah (bi t) (6*k+210):=(fG (cA (lv h) (hO h))).up _ (by omega)
theorem qOf {v1:Value} {p1:Rat} {k1:Nat} {w:World} (hT:bG w) (x1:Rl p1 k1 w v1) (a1:k1≤800:=by omega):Calls Tryz.prog 196 #[v1] w (Ret (kq (sof (p1)) ((k1+12))) w):=aB (yy _ (p1) k1 _ hT x1.1 x1.2 (by omega)) (fc x1.2)
theorem xX {v1:Value} {p1:Rat} {k1:Nat} {w:World} (hT:bG w) (x1:Rl p1 k1 w v1) (a1:k1≤700:=by omega):Calls Tryz.prog 198 #[v1] w (Ret (kq (sof ((p1)+((90:Int):Rat))) ((k1+2+1+12))) w):=aB (FX _ (p1) k1 _ hT x1.1 x1.2 (by omega)) (fc (bL x1.2 (bP (n:=90) (by decide) (by decide))))
theorem Ea {v1:Value} {p1:Rat} {k1:Nat} {w:World} (hT:bG w) (x1:Rl p1 k1 w v1) (a1:k1≤1000:=by omega):Calls Tryz.prog 199 #[v1] w (Ret (kq (bK (p1)) ((k1+20))) w):=aB (DR _ (p1) k1 _ hT x1.1 x1.2 (by omega)) (kO x1.2)
def cm (t:Rat):Rat:=((360:Int):Rat)*bv t pyr-dG t
def iC (t:Rat):Rat:=((360:Int):Rat)*bv t pmo-ig t
def phU (t:Rat):Rat:=iC t-cm t
theorem wN (t:Rat):dz t=rmod (cm t) ((360:Int):Rat):=by
 unfold dz cm dG atv
 rw[jV (t:=t) iS,show((360:Int):Rat)*bv t pyr+((360:Int):Rat)*(((-(bv t pyr).floor :Int)):Rat)-eqv t pay ssz sch=(((360:Int):Rat)*bv t pyr-eqv t pay ssz sch)+((360:Int):Rat)*(((-(bv t pyr).floor :Int)):Rat) by grind,jQ _ bC]
theorem JF (t:Rat):ng t=rmod (iC t) ((360:Int):Rat):=by
 unfold ng iC ig atv
 rw[jV (t:=t) IV,show((360:Int):Rat)*bv t pmo+((360:Int):Rat)*(((-(bv t pmo).floor :Int)):Rat)-eqv t pam msz mch=(((360:Int):Rat)*bv t pmo-eqv t pam msz mch)+((360:Int):Rat)*(((-(bv t pmo).floor :Int)):Rat) by grind,jQ _ bC]
theorem vG (t:Rat):bi t=rmod (phU t) ((360:Int):Rat):=by
 unfold bi phU
 rw[JF,wN,vA]
theorem vY (t d:Rat):(dG (t+d)-dG t).abs ≤ssz*(225/224)*(((360:Int):Rat)*(d/pay)).abs :=
 pz (n:=0) jo (by decide+kernel) (by decide+kernel) (by decide+kernel) (by decide+kernel) (by rw[ec,Rat.intCast_zero];grind)
theorem Dh (t d:Rat):(ig (t+d)-ig t).abs ≤msz*(225/224)*(((360:Int):Rat)*(d/pam)).abs :=
 pz (n:=0) sZ (by decide+kernel) (by decide+kernel) (by decide+kernel) (by decide+kernel) (by rw[ec,Rat.intCast_zero];grind)
theorem tp {s c d:Rat} (hs:0≤s) (hc:0<c) (hd:0≤d):s*(((360:Int):Rat)*(d/c)).abs =s*((360:Int):Rat)/c*d:=by
 have h:(0:Rat)≤((360:Int):Rat)*(d/c):=Rat.mul_nonneg (by decide) (by rw[Rat.div_def];exact Rat.mul_nonneg hd (Rat.le_of_lt (Rat.inv_pos.2 hc)))
 rw[Rat.abs_of_nonneg h,Rat.div_def,Rat.div_def];grind
theorem wi (t:Rat) {d:Rat} (hd:0≤d):9471/10000*d≤cm (t+d)-cm t∧cm (t+d)-cm t≤10242/10000*d:=by
 have l:=cP (vY t d)
 rw[tp (s:=ssz*(225/224)) (by decide+kernel) jo hd] at l
 have k:ssz*(225/224)*((360:Int):Rat)/pay<385015/10000000:=by decide+kernel
 have k1:985602/1000000<((360:Int):Rat)/pyr:=by decide+kernel
 have k2:((360:Int):Rat)/pyr<985603/1000000:=by decide+kernel
 have e:cm (t+d)-cm t=((360:Int):Rat)/pyr*d-(dG (t+d)-dG t):=by
  unfold cm;rw[ec,Rat.div_def,Rat.div_def];grind
 have m:=Rat.mul_nonneg (a:=385015/10000000-ssz*(225/224)*((360:Int):Rat)/pay) (b:=d) (by grind) hd
 have m1:=Rat.mul_nonneg (a:=((360:Int):Rat)/pyr-985602/1000000) (b:=d) (by grind) hd
 have m2:=Rat.mul_nonneg (a:=985603/1000000-((360:Int):Rat)/pyr) (b:=d) (by grind) hd
 rw[e]
 generalize ssz*(225/224)*((360:Int):Rat)/pay=x at*
 generalize ((360:Int):Rat)/pyr=y at*
 constructor <;> grind
theorem BK (t:Rat) {d:Rat} (hd:0≤d):12009/1000*d≤iC (t+d)-iC t∧iC (t+d)-iC t≤14343/1000*d:=by
 have l:=cP (Dh t d)
 rw[tp (s:=msz*(225/224)) (by decide+kernel) sZ hd] at l
 have k:msz*(225/224)*((360:Int):Rat)/pam<11666/10000:=by decide+kernel
 have k1:1317635/100000<((360:Int):Rat)/pmo:=by decide+kernel
 have k2:((360:Int):Rat)/pmo<1317636/100000:=by decide+kernel
 have e:iC (t+d)-iC t=((360:Int):Rat)/pmo*d-(ig (t+d)-ig t):=by
  unfold iC;rw[ec,Rat.div_def,Rat.div_def];grind
 have m:=Rat.mul_nonneg (a:=11666/10000-msz*(225/224)*((360:Int):Rat)/pam) (b:=d) (by grind) hd
 have m1:=Rat.mul_nonneg (a:=((360:Int):Rat)/pmo-1317635/100000) (b:=d) (by grind) hd
 have m2:=Rat.mul_nonneg (a:=1317636/100000-((360:Int):Rat)/pmo) (b:=d) (by grind) hd
 rw[e]
 generalize msz*(225/224)*((360:Int):Rat)/pam=x at*
 generalize ((360:Int):Rat)/pmo=y at*
 constructor <;> grind
theorem jm (t:Rat) {d:Rat} (hd:0≤d):1098/100*d≤phU (t+d)-phU t∧phU (t+d)-phU t≤134/10*d:=by
 have a:=wi t hd
 have b:=BK t hd
 unfold phU
 constructor <;> grind
theorem xW (t d:Rat):((360:Int):Rat)/psy*d-146/10≤phU (t+d)-phU t∧phU (t+d)-phU t≤((360:Int):Rat)/psy*d+146/10:=by
 have a1:=cP (gQ t)
 have a2:=cP (gQ (t+d))
 have b1:=cP (tO t)
 have b2:=cP (tO (t+d))
 have c:((22:Int):Rat)/((10:Int):Rat)=22/10:=by decide+kernel
 have c':((51:Int):Rat)/((10:Int):Rat)=51/10:=by decide+kernel
 rw[c] at a1 a2
 rw[c'] at b1 b2
 have k:((360:Int):Rat)/psy=((360:Int):Rat)/pmo-((360:Int):Rat)/pyr:=by decide+kernel
 have e:phU (t+d)-phU t=((360:Int):Rat)/psy*d-(ig (t+d)-ig t)+(dG (t+d)-dG t):=by
  unfold phU iC cm;rw[k,ec,ec,Rat.div_def,Rat.div_def,Rat.div_def,Rat.div_def];grind
 rw[e]
 constructor <;> grind
def full (t:Rat):Bool:=decide (((180:Int):Rat)≤bi t)
def turn (t:Rat):Int:=(phU t/((360:Int):Rat)).floor
theorem dT (t:Rat):((360:Int):Rat)*((turn t:Int):Rat)≤phU t∧phU t<((360:Int):Rat)*((turn t:Int):Rat)+360:=by
 have a:=eN (phU t/((360:Int):Rat))
 have b:=fD (phU t/((360:Int):Rat))
 have e:phU t=phU t/((360:Int):Rat)*((360:Int):Rat):=(Rat.div_mul_cancel (by decide)).symm
 unfold turn
 rw[fb] at*
 constructor <;> grind
theorem yB {t:Rat} {j:Int} (h0:((360:Int):Rat)*((j:Int):Rat)≤phU t) (h1:phU t<((360:Int):Rat)*((j:Int):Rat)+360):turn t=j:=by
 have b:=dT t
 rw[fb] at*
 have u:((turn t:Int):Rat)<((j+1:Int):Rat):=by rw[Rat.intCast_add,Rat.intCast_one];grind
 have l:((j:Int):Rat)<((turn t+1:Int):Rat):=by rw[Rat.intCast_add,Rat.intCast_one];grind
 have:=Rat.intCast_lt_intCast.1 u
 have:=Rat.intCast_lt_intCast.1 l
 omega
theorem jc (t:Rat):bi t=phU t-((360:Int):Rat)*((turn t:Int):Rat):=by
 rw[vG,iq bC]
 unfold turn
 rw[Rat.intCast_neg];grind
theorem jX (t:Rat) {d:Rat} (h0:0≤d) (h1:d≤1):(turn (t+d)=turn t∧bi (t+d)=bi t+(phU (t+d)-phU t))∨(turn (t+d)=turn t+1∧bi (t+d)=bi t+(phU (t+d)-phU t)-360):=by
 have r:=jm t h0
 have b:=dT t
 have c:=dT (t+d)
 have p:=jc t
 have q:=jc (t+d)
 rw[fb] at*
 by_cases h:phU (t+d)<360*((turn t:Int):Rat)+360
 ·have e:turn (t+d)=turn t:=yB (by rw[fb];grind) (by rw[fb];grind)
  rw[e] at q
  exact .inl ⟨e,by grind⟩
 ·have e:turn (t+d)=turn t+1:=yB (by rw[fb,Rat.intCast_add,Rat.intCast_one];grind) (by rw[fb,Rat.intCast_add,Rat.intCast_one];grind)
  rw[e,Rat.intCast_add,Rat.intCast_one] at q
  exact .inr ⟨e,by grind⟩
theorem jy (t:Rat):0≤bi t∧bi t<360:=by
 have a:=ki t
 have b:=jE t
 rw[fb] at b
 exact⟨a,b⟩
theorem kH (t:Rat) {d:Rat} (h0:0≤d) (h1:d≤1):(full t=true∧full (t+d)=false)↔turn (t+d)=turn t+1:=by
 have r:=jm t h0
 have a:=jy t
 have b:=jy (t+d)
 unfold full
 rw[decide_eq_true_iff,decide_eq_false_iff_not,show((180:Int):Rat)=180 from rfl]
 rcases jX t h0 h1 with⟨e,p⟩|⟨e,p⟩
 ·constructor
  ·rintro⟨x,y⟩;exact absurd (show 180≤bi (t+d) by grind) y
  ·intro x;omega
 ·constructor
  ·intro _;exact e
  ·intro _;exact⟨by grind,by grind⟩
def bO (n:Int):Int:=turn ((n:Int):Rat)
def bw (n:Int):Bool:=full ((n:Int):Rat) && !full (((n+1:Int)):Rat)
theorem eK (n:Int):(((n+1:Int)):Rat)=((n:Int):Rat)+1:=by rw[Rat.intCast_add,Rat.intCast_one]
theorem cY (n:Int):bw n=true↔bO (n+1)=bO n+1:=by
 have h:=kH ((n:Int):Rat) (d:=1) (by decide) (by decide)
 unfold bw bO
 rw[eK,←h,Bool.and_eq_true,Bool.not_eq_true']
theorem i8 (n:Int):bO (n+1)=bO n∨bO (n+1)=bO n+1:=by
 unfold bO
 rw[eK]
 rcases jX ((n:Int):Rat) (d:=1) (by decide) (by decide) with h|h
 ·exact .inl h.1
 ·exact .inr h.1
theorem Ee (n:Int) (k:Nat):bO n≤bO (n+k):=by
 induction k with
 |zero=>rw[show n+((0:Nat):Int)=n by omega];exact Int.le_refl _
 |succ k ih=>
  rw[show n+((k+1:Nat):Int)=n+k+1 by omega]
  have:=i8 (n+k)
  omega
theorem fh {a b:Int} (h:a≤b):bO a≤bO b:=by
 have:=Ee a (b-a).toNat
 rwa[show a+(((b-a).toNat :Nat):Int)=b by omega] at this
theorem hC {a b:Int} (h:a≤b) (no:∀m,a≤m→m<b→¬bw m=true):bO b=bO a:=by
 have key:∀k:Nat,a+k≤b→bO (a+k)=bO a:=by
  intro k
  induction k with
  |zero=>intro _;rw[show a+((0:Nat):Int)=a by omega]
  |succ k ih=>
   intro hk
   rw[show a+((k+1:Nat):Int)=a+k+1 by omega]
   have h1:=ih (by omega)
   have h2:=no (a+k) (by omega) (by omega)
   rw[cY] at h2
   have:=i8 (a+k)
   omega
 have:=key (b-a).toNat (by omega)
 rwa[show a+(((b-a).toNat :Nat):Int)=b by omega] at this
theorem Jk {a f:Int} (h:a≤f) (g:bO a<bO f):∃L,a≤L∧L<f∧bw L=true∧∀m,L<m→m<f→¬bw m=true:=by
 have key:∀k:Nat,k≤(f-a).toNat →bO (f-k)<bO f→∃L,f-k≤L∧L<f∧bw L=true∧∀m,L<m→m<f→¬bw m=true:=by
  intro k
  induction k with
  |zero=>intro _ x;rw[show f-((0:Nat):Int)=f by omega] at x;omega
  |succ k ih=>
   intro hk x
   by_cases y:bO (f-k)<bO f
   ·obtain⟨L,l1,l2,l3,l4⟩:=ih (by omega) y
    exact⟨L,by omega,l2,l3,l4⟩
   ·have z:=fh (a:=f-k) (b:=f) (by omega)
    refine⟨f-((k+1:Nat):Int),Int.le_refl _,by omega,?_,?_⟩
    ·rw[cY,show f-((k+1:Nat):Int)+1=f-k by omega]
     have:=i8 (f-((k+1:Nat):Int))
     rw[show f-((k+1:Nat):Int)+1=f-k by omega] at this
     omega
    ·intro m m1 m2 c
     rw[cY] at c
     have p:=fh (a:=f-k) (b:=m) (by omega)
     have q:=fh (a:=m+1) (b:=f) (by omega)
     omega
 have:=key (f-a).toNat (Nat.le_refl _) (by rwa[show f-(((f-a).toNat :Nat):Int)=a by omega])
 rwa[show f-(((f-a).toNat :Nat):Int)=a by omega] at this
theorem yr (f:Int):∃L,f-34≤L∧L<f∧bw L=true∧∀m,L<m→m<f→¬bw m=true:=by
 refine Jk (a:=f-34) (by omega) ?_
 have r:=(jm (((f-34:Int)):Rat) (d:=34) (by decide)).1
 have a:=dT (((f-34:Int)):Rat)
 have b:=dT ((f:Int):Rat)
 rw[show(((f-34:Int)):Rat)+34=((f:Int):Rat) by rw[Rat.intCast_sub,show((34:Int):Rat)=34 from rfl];grind] at r
 rw[fb] at*
 unfold bO
 have u:((turn (((f-34:Int)):Rat):Int):Rat)<((turn ((f:Int):Rat):Int):Rat):=by grind
 exact Rat.intCast_lt_intCast.1 u
theorem yK {n:Int} (h:bw n=true):∃m,n+28≤m∧m≤n+31∧bw m=true∧∀k,n<k→k<m→¬bw k=true:=by
 rw[cY] at h
 have k1:((360:Int):Rat)/psy<12191/1000:=by decide+kernel
 have k2:1219/100<((360:Int):Rat)/psy:=by decide+kernel
 have c0:=dT ((n:Int):Rat)
 have c1:=dT (((n+1:Int)):Rat)
 have c2:=dT (((n+28:Int)):Rat)
 have c3:=dT (((n+32:Int)):Rat)
 have r1:=(xW ((n:Int):Rat) 28).2
 have r2:=(xW (((n+1:Int)):Rat) 31).1
 rw[show((n:Int):Rat)+28=(((n+28:Int)):Rat) by rw[Rat.intCast_add];rfl] at r1
 rw[show(((n+1:Int)):Rat)+31=(((n+32:Int)):Rat) by rw[Rat.intCast_add,Rat.intCast_add,show((32:Int):Rat)=32 from rfl,Rat.intCast_one];grind] at r2
 unfold bO at h
 rw[h,Rat.intCast_add,Rat.intCast_one] at c1
 rw[fb] at*
 generalize (360:Rat)/psy=s at*
 have u:((turn (((n+28:Int)):Rat):Int):Rat)<((turn ((n:Int):Rat)+2:Int):Rat):=by rw[show((turn ((n:Int):Rat)+2:Int):Rat)=((turn ((n:Int):Rat):Int):Rat)+2 from Rat.intCast_add _ _];grind
 have l:((turn ((n:Int):Rat)+1:Int):Rat)<((turn (((n+32:Int)):Rat):Int):Rat):=by rw[show((turn ((n:Int):Rat)+1:Int):Rat)=((turn ((n:Int):Rat):Int):Rat)+1 from Rat.intCast_add _ _];grind
 have u:=Rat.intCast_lt_intCast.1 u
 have l:=Rat.intCast_lt_intCast.1 l
 have e1:bO (n+1)=bO n+1:=h
 have u:bO (n+28)<bO n+2:=u
 have l:bO n+1<bO (n+32):=l
 have up:bO (n+1)≤bO (n+28):=fh (by omega)
 -- the first one behind day n+28
 have key:∀k:Nat,bO (n+28)<bO (n+28+k)→∃m,n+28≤m∧m<n+28+k∧bw m=true∧∀j,n+28≤j→j<m→¬bw j=true:=by
  intro k
  induction k with
  |zero=>intro x;rw[show n+28+((0:Nat):Int)=n+28 by omega] at x;omega
  |succ k ih=>
   intro x
   by_cases y:bO (n+28)<bO (n+28+k)
   ·obtain⟨m,m1,m2,m3,m4⟩:=ih y
    exact⟨m,m1,by omega,m3,m4⟩
   ·have z:=fh (a:=n+28) (b:=n+28+k) (by omega)
    rw[show n+28+((k+1:Nat):Int)=n+28+k+1 by omega] at x
    refine⟨n+28+k,by omega,by omega,?_,?_⟩
    ·rw[cY]
     have:=i8 (n+28+k)
     omega
    ·intro j j1 j2 c
     rw[cY] at c
     have p:=fh (a:=n+28) (b:=j) (by omega)
     have q:=fh (a:=j+1) (b:=n+28+k) (by omega)
     omega
 obtain⟨m,m1,m2,m3,m4⟩:=key 4 (by rw[show n+28+((4:Nat):Int)=n+32 by omega];omega)
 refine⟨m,m1,by omega,m3,fun k k1 k2 c=>?_⟩
 by_cases hk:n+28≤k
 ·exact m4 k hk k2 c
 ·rw[cY] at c
  have p:=fh (a:=n+1) (b:=k) (by omega)
  have q:=fh (a:=k+1) (b:=n+28) (by omega)
  omega
theorem Di {t:Rat} {f L:Int} (hf:f=t.floor) (no:¬(full ((f:Int):Rat)=true∧full t=false)) (hL:L<f) (hc:bw L=true) (hn:∀m,L<m→m<f→¬bw m=true):L≤(t-bi t*(((10:Int):Rat)/((135:Int):Rat))).floor :=by
 have f0:((f:Int):Rat)≤t:=by rw[hf];exact eN t
 have f1:t<((f:Int):Rat)+1:=by rw[hf];exact fD t
 have e:((f:Int):Rat)+(t-((f:Int):Rat))=t:=by grind
 have s:=jX ((f:Int):Rat) (d:=t-((f:Int):Rat)) (by grind) (by grind)
 have i:=kH ((f:Int):Rat) (d:=t-((f:Int):Rat)) (by grind) (by grind)
 rw[e] at s i
 have ht:turn t=bO f:=by
  rcases s with s|s
  ·exact s.1
  ·exact absurd (i.2 s.1) no
 have hb:=hC (a:=L+1) (b:=f) (by omega) fun m h1 h2=>hn m (by omega) h2
 rw[cY] at hc
 have hJ:turn t=turn ((L:Int):Rat)+1:=by rw[ht,hb];exact hc
 have c:=dT ((L:Int):Rat)
 have p:=jc t
 have pb:=jy t
 have Lf:=cE (show L+1≤f by omega)
 rw[Rat.intCast_add,Rat.intCast_one] at Lf
 have r:=(jm ((L:Int):Rat) (d:=t-((L:Int):Rat)) (by grind)).2
 rw[show((L:Int):Rat)+(t-((L:Int):Rat))=t by grind] at r
 rw[hJ,Rat.intCast_add,Rat.intCast_one] at p
 rw[fb] at*
 refine Rat.le_floor_iff.2 ?_
 rw[show((10:Int):Rat)/((135:Int):Rat)=10/135 by decide+kernel]
 grind
end Go.Proofs.YtdbiegfmgabicaaGreatDoor
