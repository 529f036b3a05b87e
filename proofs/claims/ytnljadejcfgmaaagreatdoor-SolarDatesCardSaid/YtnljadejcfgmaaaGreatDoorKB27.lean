import Derived.Test.YtnljadejcfgmaaaGreatDoorKB26
namespace Go.Proofs.YtnljadejcfgmaaaGreatDoor
open Go.RowKit
set_option maxRecDepth 100000
set_option linter.unusedVariables false
set_option maxHeartbeats 8000000
def epi (a s c:Rat):Rat:=a*(s-a.abs*c*s)
def eqv (t an s c:Rat):Rat:=br (epi (sof (mof t an)) s c)
def atv (t p an s c:Rat):Rat:=rmod (mof t p-eqv t an s c) ((360:Int):Rat)
def ssz:Rat:=((14:Int):Rat)/((360:Int):Rat)
def sch:Rat:=((1:Int):Rat)/((42:Int):Rat)
def msz:Rat:=((32:Int):Rat)/((360:Int):Rat)
def mch:Rat:=((1:Int):Rat)/((96:Int):Rat)
def dt (t:Rat):Rat:=eqv t pay ssz sch
def cT (t:Rat):Rat:=atv t pyr pay ssz sch
def prt (x:Rat) (n:Int):Int:=(x*(((n:Int):Rat)/((360:Int):Rat))).floor
theorem rJ:ssz=7/180∧sch=1/42∧msz=4/45∧mch=1/96:=by decide+kernel
theorem E3 {h:Rat} (h1:h≤225):ay h=h/225:=by
 have s0:spk ((0:Nat):Int)=0:=by decide+kernel
 have s1:spk (((0:Nat):Int)+1)=225:=by decide+kernel
 have e:yk h=0:=by
  show(if h≤_ then _ else _)=_
  rw[if_pos]
  rw[s1];exact h1
 unfold ay
 rw[e,if_pos (by decide),s0,s1]
 rw[show((225-0:Int):Rat)=225 from rfl,show((0:Int):Rat)=0 from rfl,show(((0:Nat):Int):Rat)=0 from rfl]
 grind
theorem FY {h:Rat} (h0:225<h) (h1:h≤449):ay h=(h-225)/224+1:=by
 have s1:spk ((1:Nat):Int)=225:=by decide+kernel
 have s1':spk (((0:Nat):Int)+1)=225:=by decide+kernel
 have s2:spk (((1:Nat):Int)+1)=449:=by decide+kernel
 have s2':spk (((0+1:Nat):Int)+1)=449:=by decide+kernel
 have e:yk h=1:=by
  show(if h≤_ then _ else _)=_
  rw[if_neg]
  ·show(if h≤_ then _ else _)=_
   rw[if_pos]
   rw[s2'];exact h1
  ·rw[s1'];exact fun k=>by have k':h≤225:=k;grind
 unfold ay
 rw[e,if_pos (by decide),s1,s2]
 rw[show((449-225:Int):Rat)=224 from rfl,show((225:Int):Rat)=225 from rfl,show(((1:Nat):Int):Rat)=1 from rfl]
theorem xD {h:Rat} (h0: -449≤h) (h1:h≤449):(h< -225∧ap h=(h+225)/224-1)∨(-225≤h∧h≤225∧ap h=h/225)∨(225<h∧ap h=(h-225)/224+1):=by
 unfold ap
 by_cases hn:h<0
 ·rw[if_pos hn]
  by_cases hm: -h≤225
  ·right;left
   rw[E3 hm]
   refine⟨by grind,by grind,by grind⟩
  ·left
   rw[FY (by grind) (by grind)]
   refine⟨by grind,by grind⟩
 ·rw[if_neg hn]
  by_cases hm:h≤225
  ·right;left
   rw[E3 hm]
   refine⟨by grind,by grind,by grind⟩
  ·right;right
   rw[FY (by grind) (by grind)]
   refine⟨by grind,by grind⟩
theorem E5 {g h:Rat} (h0: -449≤g) (h1:g≤h) (h2:h≤449):0≤ap h-ap g∧ap h-ap g≤(h-g)/224:=by
 rcases xD (h:=g) h0 (by grind) with⟨a,e⟩|⟨a,a',e⟩|⟨a,e⟩ <;> rcases xD (h:=h) (by grind) h2 with⟨b,f⟩|⟨b,b',f⟩|⟨b,f⟩ <;> rw[e,f] <;> constructor <;> grind
theorem GO {a b:Rat} (ha: -1≤a) (hb:b≤1) (h:a≤b):0≤b*b.abs-a*a.abs∧b*b.abs-a*a.abs≤2*(b-a):=by
 by_cases a0:0≤a
 ·rw[Rat.abs_of_nonneg a0,Rat.abs_of_nonneg (by grind)]
  have m:=Rat.mul_nonneg (a:=b-a) (b:=b+a) (by grind) (by grind)
  have n:=Rat.mul_nonneg (a:=b-a) (b:=2-(b+a)) (by grind) (by grind)
  constructor <;> grind
 ·rw[Rat.abs_of_nonpos (x:=a) (by grind)]
  by_cases b0:0≤b
  ·rw[Rat.abs_of_nonneg b0]
   have m:=Rat.mul_nonneg (a:=b) (b:=1-b) (by grind) (by grind)
   have n:=Rat.mul_nonneg (a:= -a) (b:=1+a) (by grind) (by grind)
   have m':=Rat.mul_nonneg (a:=b) (b:=b) (by grind) (by grind)
   have n':=Rat.mul_nonneg (a:= -a) (b:= -a) (by grind) (by grind)
   constructor <;> grind
  ·rw[Rat.abs_of_nonpos (x:=b) (by grind)]
   have m:=Rat.mul_nonneg (a:=b-a) (b:= -(b+a)) (by grind) (by grind)
   have n:=Rat.mul_nonneg (a:=b-a) (b:=2+(b+a)) (by grind) (by grind)
   constructor <;> grind
theorem jC {a b s c:Rat} (ha: -1≤a) (hb:b≤1) (h:a≤b) (hs:0≤s) (c0:0≤c) (c1:2*c≤1):0≤epi b s c-epi a s c∧epi b s c-epi a s c≤s*(b-a):=by
 have hd:=GO ha hb h
 have e:epi b s c-epi a s c=s*((b-a)-c*(b*b.abs-a*a.abs)):=by unfold epi;grind
 rw[e]
 generalize b*b.abs-a*a.abs=d at*
 have m:=Rat.mul_nonneg c0 hd.1
 have n:=Rat.mul_nonneg (a:=c) (b:=2*(b-a)-d) c0 (by grind)
 have o:=Rat.mul_nonneg (a:=1-2*c) (b:=b-a) (by grind) (by grind)
 have p:=Rat.mul_nonneg (a:=s) (b:=(b-a)-c*d) hs (by grind)
 have q:=Rat.mul_nonneg (a:=s) (b:=c*d) hs m
 constructor
 ·exact p
 ·grind
theorem mo {a s c:Rat} (h0: -1≤a) (h1:a≤1) (hs:0≤s) (c0:0≤c) (c1:2*c≤1): -(s*(1-c))≤epi a s c∧epi a s c≤s*(1-c):=by
 have u:=jC (a:=a) (b:=1) h0 (by grind) h1 hs c0 c1
 have v:=jC (a:= -1) (b:=a) (by grind) h1 h0 hs c0 c1
 have e1:epi 1 s c=s*(1-c):=by unfold epi;rw[Rat.abs_of_nonneg (by grind)];grind
 have e2:epi (-1) s c= -(s*(1-c)):=by unfold epi;rw[Rat.abs_of_nonpos (by grind)];grind
 rw[e1] at u
 rw[e2] at v
 constructor <;> grind
theorem nN {a b:Rat} (h0: -449≤a*3438) (h:a≤b) (h1:b*3438≤449):0≤br b-br a∧br b-br a≤(b-a)*(3438*15/896):=by
 have m:=E5 (g:=a*3438) (h:=b*3438) h0 (by grind) h1
 unfold br
 rw[ed,dQ]
 constructor <;> grind
theorem Ev {a b s c:Rat} (ha: -1≤a) (ha':a≤1) (hb: -1≤b) (hb':b≤1) (hs:0≤s) (hs':s*3438≤449) (c0:0≤c) (c1:2*c≤1):(br (epi b s c)-br (epi a s c)).abs ≤s*(3438*15/896)*(b-a).abs :=by
 have ba:=mo ha ha' hs c0 c1
 have bb:=mo hb hb' hs c0 c1
 have cs:=Rat.mul_nonneg hs c0
 rcases Rat.le_total (a:=a) (b:=b) with h|h
 ·have l:=jC ha hb' h hs c0 c1
  have m:=nN (a:=epi a s c) (b:=epi b s c) (by grind) (by grind) (by grind)
  rw[Rat.abs_of_nonneg m.1,Rat.abs_of_nonneg (x:=b-a) (by grind)]
  grind
 ·have l:=jC hb ha' h hs c0 c1
  have m:=nN (a:=epi b s c) (b:=epi a s c) (by grind) (by grind) (by grind)
  rw[Rat.abs_of_nonpos (by grind),Rat.abs_of_nonpos (x:=b-a) (by grind)]
  grind
theorem Cv:br 0=0:=by decide+kernel
theorem BI {a s c:Rat} (ha: -1≤a) (ha':a≤1) (hs:0≤s) (hs':s*3438≤449) (c0:0≤c) (c1:2*c≤1):(br (epi a s c)).abs ≤s*(1-c)*(3438*15/896):=by
 have ba:=mo ha ha' hs c0 c1
 have cs:=Rat.mul_nonneg hs c0
 rcases Rat.le_total (a:=0) (b:=epi a s c) with h|h
 ·have m:=nN (a:=0) (b:=epi a s c) (by grind) h (by grind)
  rw[Cv] at m
  rw[Rat.abs_of_nonneg (by grind)]
  grind
 ·have m:=nN (a:=epi a s c) (b:=0) (by grind) h (by grind)
  rw[Cv] at m
  rw[Rat.abs_of_nonpos (by grind)]
  grind
theorem na {t p:Rat} (h:0<p):sof (mof t p)=sof (((360:Int):Rat)*bn t p):=by rw[kk h,lC]
theorem vU {x y k:Rat} (h:x≤y) (hk:0≤k):k*x≤k*y:=Rat.mul_le_mul_of_nonneg_left h hk
theorem uF {t u an s c d:Rat} {n:Int} (h:0<an) (hs:0≤s) (hs':s*3438≤449) (c0:0≤c) (c1:2*c≤1)
 (e:((360:Int):Rat)*bn u an=((360:Int):Rat)*bn t an+d+((360:Int):Rat)*((n:Int):Rat)):(eqv u an s c-eqv t an s c).abs ≤s*(225/224)*d.abs:=by
 have l:=nj (((360:Int):Rat)*bn t an+d) (((360:Int):Rat)*bn t an)
 rw[show((360:Int):Rat)*bn t an+d-((360:Int):Rat)*bn t an=d by grind] at l
 have bt:=fv (((360:Int):Rat)*bn t an)
 have bu:=fv (((360:Int):Rat)*bn t an+d)
 have m:=Ev (s:=s) (c:=c) bt.1 bt.2 bu.1 bu.2 hs hs' c0 c1
 unfold eqv
 rw[na h,na h,e,lC]
 have k:=vU l (k:=s*(3438*15/896)) (by grind)
 rw[show((60:Int):Rat)/((3438:Int):Rat)=60/3438 by decide+kernel] at k
 grind
theorem ir (t:Rat):(dt t).abs ≤((22:Int):Rat)/((10:Int):Rat):=by
 have b:=fv (mof t pay)
 have m:=BI (s:=ssz) (c:=sch) b.1 b.2 (by decide+kernel) (by decide+kernel) (by decide+kernel) (by decide+kernel)
 have k:ssz*(1-sch)*(3438*15/896)≤((22:Int):Rat)/((10:Int):Rat):=by decide+kernel
 exact Rat.le_trans m k
theorem BF (x y:Rat):rmod (rmod x ((360:Int):Rat)-rmod y ((360:Int):Rat)) ((360:Int):Rat)=rmod (x-y) ((360:Int):Rat):=by
 rw[Az bE,show rmod x ((360:Int):Rat)-y=rmod x ((360:Int):Rat)+ -y by grind,A3 bE,show x+ -y=x-y by grind]
theorem i6 {t d p:Rat}:bn (t+d) p=bn t p+d/p:=by unfold bn;grind
theorem Gw {t d p an s c:Rat} (hp:0<p):rmod (atv (t+d) p an s c-atv t p an s c) ((360:Int):Rat)=rmod (((360:Int):Rat)*(d/p)-(eqv (t+d) an s c-eqv t an s c)) ((360:Int):Rat):=by
 unfold atv
 rw[BF,kk (t:=t+d) hp,kk (t:=t) hp,i6]
 rw[show((360:Int):Rat)*(bn t p+d/p)+((360:Int):Rat)*(((-(bn t p+d/p).floor :Int)):Rat)-eqv (t+d) an s c-(((360:Int):Rat)*bn t p+((360:Int):Rat)*(((-(bn t p).floor :Int)):Rat)-eqv t an s c)=(((360:Int):Rat)*(d/p)-(eqv (t+d) an s c-eqv t an s c))+((360:Int):Rat)*(((-(bn t p+d/p).floor +(bn t p).floor :Int)):Rat) by
  simp only [Rat.intCast_add,Rat.intCast_neg];grind]
 rw[kl _ bE]
theorem dC {x b:Rat} (h:x.abs≤b): -b≤x∧x≤b:=by have:=pj x;constructor <;> grind
theorem A5 (t:Rat):(dt (t+((1:Int):Rat))-dt t).abs ≤ssz*(225/224)*(((360:Int):Rat)/pay).abs :=
 uF (n:=0) iA (by decide+kernel) (by decide+kernel) (by decide+kernel) (by decide+kernel) (by
  rw[i6,Rat.intCast_zero,Rat.intCast_one,Rat.div_def,Rat.div_def];grind)
theorem Dp (t:Rat):rmod (cT (t+((1:Int):Rat))-cT t) ((360:Int):Rat)=((360:Int):Rat)*(((1:Int):Rat)/pyr)-(dt (t+((1:Int):Rat))-dt t)∧9471/10000<((360:Int):Rat)*(((1:Int):Rat)/pyr)-(dt (t+((1:Int):Rat))-dt t)∧((360:Int):Rat)*(((1:Int):Rat)/pyr)-(dt (t+((1:Int):Rat))-dt t)<10242/10000:=by
 have l:=dC (A5 t)
 have k:ssz*(225/224)*(((360:Int):Rat)/pay).abs <385015/10000000:=by decide+kernel
 have k1:985602/1000000<((360:Int):Rat)*(((1:Int):Rat)/pyr):=by decide+kernel
 have k2:((360:Int):Rat)*(((1:Int):Rat)/pyr)<985603/1000000:=by decide+kernel
 have a:9471/10000<((360:Int):Rat)*(((1:Int):Rat)/pyr)-(dt (t+((1:Int):Rat))-dt t):=by grind
 have b:((360:Int):Rat)*(((1:Int):Rat)/pyr)-(dt (t+((1:Int):Rat))-dt t)<10242/10000:=by grind
 refine⟨?_,a,b⟩
 unfold cT
 rw[Gw gR]
 exact qm (by unfold dt at a;grind) (by unfold dt at b;rw[lN] at*;grind)
theorem tg (t:Rat):0≤cT t:=dv bE
theorem qS (t:Rat):cT t<((360:Int):Rat):=cW bE
theorem ig {x:Rat} {n:Int} (hn:0<n) (h0:0≤x) (h1:x<((360:Int):Rat)):0≤prt x n∧prt x n<n:=by
 have p:(0:Rat)<((n:Int):Rat):=Rat.intCast_pos.2 hn
 have q:(0:Rat)<((n:Int):Rat)/((360:Int):Rat):=by rw[Rat.div_def];exact Rat.mul_pos p (by decide+kernel)
 unfold prt
 constructor
 ·exact Rat.le_floor_iff.2 (by rw[Rat.intCast_zero];exact Rat.mul_nonneg h0 (by grind))
 ·refine Rat.floor_lt_iff.2 ?_
  have m:=(Rat.mul_lt_mul_right (c:=((n:Int):Rat)/((360:Int):Rat)) q).2 h1
  have e:((360:Int):Rat)*(((n:Int):Rat)/((360:Int):Rat))=((n:Int):Rat):=by rw[Rat.mul_comm];exact Rat.div_mul_cancel (by decide+kernel)
  rw[e] at m
  exact m
theorem qf (x:Rat):pfr x=mfr (x/wd):=by
 have h:(0:Rat)<((96:Int):Rat):=by decide+kernel
 unfold pfr pk
 show mfr (rmod (x/wd) ((96:Int):Rat))=_
 rw[gO h]
 generalize (x/wd/((96:Int):Rat)).floor =n
 rw[show x/wd+((96:Int):Rat)*(((-n:Int)):Rat)=x/wd+((96* -n:Int):Rat) by rw[Rat.intCast_mul],BT]
theorem el {x:Rat} {k:Nat} (h:au x k):au (sof x) (k+12):=by
 rw[←ls,qf]
 exact(cF (bp (bN (df _).1 (df _).2) (a7 (qq (cF h mn)) (bN (dW _).1 (dW _).2))) (bN (n:=3438) (by decide) (by decide))).up _ (by omega)
theorem Dj {a s c:Rat} {k j i:Nat} (h:au a k) (hs:au s j) (hc:au c i):au (epi a s c) (2*k+2*j+i+1):=(a7 h (bQ hs (a7 (a7 (fq h) hc) hs))).up _ (by omega)
theorem vz {t an s c:Rat} {k l j i:Nat} (h:au t k) (ha:au an l) (hs:au s j) (hc:au c i):au (eqv t an s c) (2*k+2*l+2*j+i+60):=(j5 (Dj (el (gW h ha)) hs hc)).up _ (by omega)
theorem Dl {t p an s c:Rat} {k m l j i:Nat} (h:au t k) (hp:au p m) (ha:au an l) (hs:au s j) (hc:au c i):au (atv t p an s c) (3*k+m+2*l+2*j+i+80):=(gC (bQ (gW h hp) (vz h ha hs hc))).up _ (by omega)
theorem uP:au ssz 2:=pJ (by decide) (by decide) (by decide) (by decide)
theorem uD:au sch 2:=pJ (by decide) (by decide) (by decide) (by decide)
theorem jN {t:Rat} {k:Nat} (h:au t k):au (cT t) (3*k+100):=(Dl h lj gX uP uD).up _ (by omega)
theorem qOf {v1:Value} {p1:Rat} {k1:Nat} {w:World} (hT:bV w) (x1:Rl p1 k1 w v1) (a1:k1≤800:=by omega):Calls Tryz.prog 223 #[v1] w (Ret (kq (sof (p1)) ((k1+12))) w):=aD (vr _ (p1) k1 _ hT x1.1 x1.2 (by omega)) (el x1.2)
theorem vI {v1:Value} {p1:Rat} {k1:Nat} {w:World} (hT:bV w) (x1:Rl p1 k1 w v1) (a1:k1≤700:=by omega):Calls Tryz.prog 239 #[v1] w (Ret (kq (sof ((p1)+((90:Int):Rat))) ((k1+2+1+12))) w):=aD (BP _ (p1) k1 _ hT x1.1 x1.2 (by omega)) (el (bp x1.2 (bN (n:=90) (by decide) (by decide))))
theorem Bf {v1:Value} {p1:Rat} {k1:Nat} {w:World} (hT:bV w) (x1:Rl p1 k1 w v1) (a1:k1≤1000:=by omega):Calls Tryz.prog 225 #[v1] w (Ret (kq (br (p1)) ((k1+20))) w):=aD (A6 _ (p1) k1 _ hT x1.1 x1.2 (by omega)) (j5 x1.2)
def bO (t:Rat):Rat:=((360:Int):Rat)*bn t pyr-dt t
theorem sr (t:Rat):cT t=rmod (bO t) ((360:Int):Rat):=by
 unfold cT bO dt atv
 rw[kk (t:=t) gR,show((360:Int):Rat)*bn t pyr+((360:Int):Rat)*(((-(bn t pyr).floor :Int)):Rat)-eqv t pay ssz sch=(((360:Int):Rat)*bn t pyr-eqv t pay ssz sch)+((360:Int):Rat)*(((-(bn t pyr).floor :Int)):Rat) by grind,kl _ bE]
theorem Am (t d:Rat):(dt (t+d)-dt t).abs ≤ssz*(225/224)*(((360:Int):Rat)*(d/pay)).abs :=
 uF (n:=0) iA (by decide+kernel) (by decide+kernel) (by decide+kernel) (by decide+kernel) (by rw[i6,Rat.intCast_zero];grind)
theorem xU {s c d:Rat} (hs:0≤s) (hc:0<c) (hd:0≤d):s*(((360:Int):Rat)*(d/c)).abs =s*((360:Int):Rat)/c*d:=by
 have h:(0:Rat)≤((360:Int):Rat)*(d/c):=Rat.mul_nonneg (by decide) (by rw[Rat.div_def];exact Rat.mul_nonneg hd (Rat.le_of_lt (Rat.inv_pos.2 hc)))
 rw[Rat.abs_of_nonneg h,Rat.div_def,Rat.div_def];grind
theorem B7 (t:Rat) {d:Rat} (hd:0≤d):9471/10000*d≤bO (t+d)-bO t∧bO (t+d)-bO t≤10242/10000*d:=by
 have l:=dC (Am t d)
 rw[xU (s:=ssz*(225/224)) (by decide+kernel) iA hd] at l
 have k:ssz*(225/224)*((360:Int):Rat)/pay<385015/10000000:=by decide+kernel
 have k1:985602/1000000<((360:Int):Rat)/pyr:=by decide+kernel
 have k2:((360:Int):Rat)/pyr<985603/1000000:=by decide+kernel
 have e:bO (t+d)-bO t=((360:Int):Rat)/pyr*d-(dt (t+d)-dt t):=by
  unfold bO;rw[i6,Rat.div_def,Rat.div_def];grind
 have m:=Rat.mul_nonneg (a:=385015/10000000-ssz*(225/224)*((360:Int):Rat)/pay) (b:=d) (by grind) hd
 have m1:=Rat.mul_nonneg (a:=((360:Int):Rat)/pyr-985602/1000000) (b:=d) (by grind) hd
 have m2:=Rat.mul_nonneg (a:=985603/1000000-((360:Int):Rat)/pyr) (b:=d) (by grind) hd
 rw[e]
 generalize ssz*(225/224)*((360:Int):Rat)/pay=x at*
 generalize ((360:Int):Rat)/pyr=y at*
 constructor <;> grind
theorem lO (n:Int):(((n+1:Int)):Rat)=((n:Int):Rat)+1:=by rw[Rat.intCast_add,Rat.intCast_one]
theorem zL {x:Rat} {n:Int} (hn:0<n):prt (rmod x ((360:Int):Rat)) n=(x*(((n:Int):Rat)/((360:Int):Rat))).floor %n:=by
 have np:(0:Rat)<((n:Int):Rat):=Rat.intCast_pos.2 hn
 have e:(rmod x ((360:Int):Rat))*(((n:Int):Rat)/((360:Int):Rat))=x*(((n:Int):Rat)/((360:Int):Rat))+((n*(-(x/((360:Int):Rat)).floor):Int):Rat):=by
  rw[gO bE,Rat.intCast_mul,Rat.div_def ((n:Int):Rat),lN];grind
 have b:=ig (x:=rmod x ((360:Int):Rat)) hn (dv bE) (cW bE)
 unfold prt at b ⊢
 rw[e,Rat.floor_add_intCast] at b ⊢
 have h:=Int.emod_eq_of_lt (b:=n) b.1 b.2
 rw[←h,Int.add_mul_emod_self_left]
end Go.Proofs.YtnljadejcfgmaaaGreatDoor
