import Derived.Test.YtgdpkknapcgcbaaGreatDoorKD23
namespace Go.Proofs.YtgdpkknapcgcbaaGreatDoor
open Go.RowKit
set_option maxRecDepth 100000
set_option linter.unusedVariables false
set_option maxHeartbeats 8000000
def epi (a s c:Rat):Rat:=a*(s-a.abs*c*s)
def eqv (t an s c:Rat):Rat:=a6 (epi (sof (mof t an)) s c)
def atv (t p an s c:Rat):Rat:=rmod (mof t p-eqv t an s c) ((360:Int):Rat)
def ssz:Rat:=((14:Int):Rat)/((360:Int):Rat)
def sch:Rat:=((1:Int):Rat)/((42:Int):Rat)
def msz:Rat:=((32:Int):Rat)/((360:Int):Rat)
def mch:Rat:=((1:Int):Rat)/((96:Int):Rat)
def cj (t:Rat):Rat:=eqv t pay ssz sch
def eM (t:Rat):Rat:=eqv t pam msz mch
def cV (t:Rat):Rat:=atv t pyr pay ssz sch
def mA (t:Rat):Rat:=atv t pmo pam msz mch
def bf (t:Rat):Rat:=rmod (mA t-cV t) ((360:Int):Rat)
def prt (x:Rat) (n:Int):Int:=(x*(((n:Int):Rat)/((360:Int):Rat))).floor
theorem oO:ssz=7/180/\sch=1/42/\msz=4/45/\mch=1/96:=by decide+kernel
theorem Fp {h:Rat} (h1:h<=225):ay h=h/225:=by
 have s0:spk ((0:Nat):Int)=0:=by decide+kernel
 have s1:spk (((0:Nat):Int)+1)=225:=by decide+kernel
 have e:yk h=0:=by
  show(if h<=_ then _ else _)=_
  rw[if_pos]
  rw[s1];exact h1
 unfold ay
 rw[e,if_pos (by decide),s0,s1]
 rw[show((225-0:Int):Rat)=225 from rfl,show((0:Int):Rat)=0 from rfl,show(((0:Nat):Int):Rat)=0 from rfl]
 grind
theorem Fc {h:Rat} (h0:225<h) (h1:h<=449):ay h=(h-225)/224+1:=by
 have s1:spk ((1:Nat):Int)=225:=by decide+kernel
 have s1':spk (((0:Nat):Int)+1)=225:=by decide+kernel
 have s2:spk (((1:Nat):Int)+1)=449:=by decide+kernel
 have s2':spk (((0+1:Nat):Int)+1)=449:=by decide+kernel
 have e:yk h=1:=by
  show(if h<=_ then _ else _)=_
  rw[if_neg]
  ·show(if h<=_ then _ else _)=_
   rw[if_pos]
   rw[s2'];exact h1
  ·rw[s1'];exact fun k=>by have k':h<=225:=k;grind
 unfold ay
 rw[e,if_pos (by decide),s1,s2]
 rw[show((449-225:Int):Rat)=224 from rfl,show((225:Int):Rat)=225 from rfl,show(((1:Nat):Int):Rat)=1 from rfl]
theorem xp {h:Rat} (h0: -449<=h) (h1:h<=449):(h< -225/\ap h=(h+225)/224-1)\/(-225<=h/\h<=225/\ap h=h/225)\/(225<h/\ap h=(h-225)/224+1):=by
 unfold ap
 by_cases hn:h<0
 ·rw[if_pos hn]
  by_cases hm: -h<=225
  ·right;left
   rw[Fp hm]
   refine⟨by grind,by grind,by grind⟩
  ·left
   rw[Fc (by grind) (by grind)]
   refine⟨by grind,by grind⟩
 ·rw[if_neg hn]
  by_cases hm:h<=225
  ·right;left
   rw[Fp hm]
   refine⟨by grind,by grind,by grind⟩
  ·right;right
   rw[Fc (by grind) (by grind)]
   refine⟨by grind,by grind⟩
theorem Fq {g h:Rat} (h0: -449<=g) (h1:g<=h) (h2:h<=449):0<=ap h-ap g/\ap h-ap g<=(h-g)/224:=by
 rcases xp (h:=g) h0 (by grind) with⟨a,e⟩|⟨a,a',e⟩|⟨a,e⟩ <;> rcases xp (h:=h) (by grind) h2 with⟨b,f⟩|⟨b,b',f⟩|⟨b,f⟩ <;> rw[e,f] <;> constructor <;> grind
theorem H7 {a b:Rat} (ha: -1<=a) (hb:b<=1) (h:a<=b):0<=b*b.abs-a*a.abs/\b*b.abs-a*a.abs<=2*(b-a):=by
 by_cases a0:0<=a
 ·rw[Rat.abs_of_nonneg a0,Rat.abs_of_nonneg (by grind)]
  have m:=Rat.mul_nonneg (a:=b-a) (b:=b+a) (by grind) (by grind)
  have n:=Rat.mul_nonneg (a:=b-a) (b:=2-(b+a)) (by grind) (by grind)
  constructor <;> grind
 ·rw[Rat.abs_of_nonpos (x:=a) (by grind)]
  by_cases b0:0<=b
  ·rw[Rat.abs_of_nonneg b0]
   have m:=Rat.mul_nonneg (a:=b) (b:=1-b) (by grind) (by grind)
   have n:=Rat.mul_nonneg (a:= -a) (b:=1+a) (by grind) (by grind)
   have m':=Rat.mul_nonneg (a:=b) (b:=b) (by grind) (by grind)
   have n':=Rat.mul_nonneg (a:= -a) (b:= -a) (by grind) (by grind)
   constructor <;> grind
  ·rw[Rat.abs_of_nonpos (x:=b) (by grind)]
   have m:=Rat.mul_nonneg (a:=b-a) (b:= -(b+a)) (by grind) (by grind)
   have n:=Rat.mul_nonneg (a:=b-a) (b:=2+(b+a)) (by grind) (by grind)
   constructor <;> grind
theorem i6 {a b s c:Rat} (ha: -1<=a) (hb:b<=1) (h:a<=b) (hs:0<=s) (c0:0<=c) (c1:2*c<=1):0<=epi b s c-epi a s c/\epi b s c-epi a s c<=s*(b-a):=by
 have hd:=H7 ha hb h
 have e:epi b s c-epi a s c=s*((b-a)-c*(b*b.abs-a*a.abs)):=by unfold epi;grind
 rw[e]
 generalize b*b.abs-a*a.abs=d at*
 have m:=Rat.mul_nonneg c0 hd.1
 have n:=Rat.mul_nonneg (a:=c) (b:=2*(b-a)-d) c0 (by grind)
 have o:=Rat.mul_nonneg (a:=1-2*c) (b:=b-a) (by grind) (by grind)
 have p:=Rat.mul_nonneg (a:=s) (b:=(b-a)-c*d) hs (by grind)
 have q:=Rat.mul_nonneg (a:=s) (b:=c*d) hs m
 constructor
 ·exact p
 ·grind
theorem lQ {a s c:Rat} (h0: -1<=a) (h1:a<=1) (hs:0<=s) (c0:0<=c) (c1:2*c<=1): -(s*(1-c))<=epi a s c/\epi a s c<=s*(1-c):=by
 have u:=i6 (a:=a) (b:=1) h0 (by grind) h1 hs c0 c1
 have v:=i6 (a:= -1) (b:=a) (by grind) h1 h0 hs c0 c1
 have e1:epi 1 s c=s*(1-c):=by unfold epi;rw[Rat.abs_of_nonneg (by grind)];grind
 have e2:epi (-1) s c= -(s*(1-c)):=by unfold epi;rw[Rat.abs_of_nonpos (by grind)];grind
 rw[e1] at u
 rw[e2] at v
 constructor <;> grind
theorem mM {a b:Rat} (h0: -449<=a*3438) (h:a<=b) (h1:b*3438<=449):0<=a6 b-a6 a/\a6 b-a6 a<=(b-a)*(3438*15/896):=by
 have m:=Fq (g:=a*3438) (h:=b*3438) h0 (by grind) h1
 unfold a6
 rw[dX,dH]
 constructor <;> grind
theorem Eh {a b s c:Rat} (ha: -1<=a) (ha':a<=1) (hb: -1<=b) (hb':b<=1) (hs:0<=s) (hs':s*3438<=449) (c0:0<=c) (c1:2*c<=1):(a6 (epi b s c)-a6 (epi a s c)).abs <=s*(3438*15/896)*(b-a).abs :=by
 have ba:=lQ ha ha' hs c0 c1
 have bb:=lQ hb hb' hs c0 c1
 have cs:=Rat.mul_nonneg hs c0
 rcases Rat.le_total (a:=a) (b:=b) with h|h
 ·have l:=i6 ha hb' h hs c0 c1
  have m:=mM (a:=epi a s c) (b:=epi b s c) (by grind) (by grind) (by grind)
  rw[Rat.abs_of_nonneg m.1,Rat.abs_of_nonneg (x:=b-a) (by grind)]
  grind
 ·have l:=i6 hb ha' h hs c0 c1
  have m:=mM (a:=epi b s c) (b:=epi a s c) (by grind) (by grind) (by grind)
  rw[Rat.abs_of_nonpos (by grind),Rat.abs_of_nonpos (x:=b-a) (by grind)]
  grind
theorem wK:a6 0=0:=by decide+kernel
theorem tW {a s c:Rat} (ha: -1<=a) (ha':a<=1) (hs:0<=s) (hs':s*3438<=449) (c0:0<=c) (c1:2*c<=1):(a6 (epi a s c)).abs <=s*(1-c)*(3438*15/896):=by
 have ba:=lQ ha ha' hs c0 c1
 have cs:=Rat.mul_nonneg hs c0
 rcases Rat.le_total (a:=0) (b:=epi a s c) with h|h
 ·have m:=mM (a:=0) (b:=epi a s c) (by grind) h (by grind)
  rw[wK] at m
  rw[Rat.abs_of_nonneg (by grind)]
  grind
 ·have m:=mM (a:=epi a s c) (b:=0) (by grind) h (by grind)
  rw[wK] at m
  rw[Rat.abs_of_nonpos (by grind)]
  grind
theorem mQ {t p:Rat} (h:0<p):sof (mof t p)=sof (((360:Int):Rat)*aW t p):=by rw[ik h,gV]
theorem v7 {x y k:Rat} (h:x<=y) (hk:0<=k):k*x<=k*y:=Rat.mul_le_mul_of_nonneg_left h hk
theorem jZ {t u an s c d:Rat} {n:Int} (h:0<an) (hs:0<=s) (hs':s*3438<=449) (c0:0<=c) (c1:2*c<=1)
 (e:((360:Int):Rat)*aW u an=((360:Int):Rat)*aW t an+d+((360:Int):Rat)*((n:Int):Rat)):(eqv u an s c-eqv t an s c).abs <=s*(225/224)*d.abs:=by
 have l:=kg (((360:Int):Rat)*aW t an+d) (((360:Int):Rat)*aW t an)
 rw[show((360:Int):Rat)*aW t an+d-((360:Int):Rat)*aW t an=d by grind] at l
 have bt:=dN (((360:Int):Rat)*aW t an)
 have bu:=dN (((360:Int):Rat)*aW t an+d)
 have m:=Eh (s:=s) (c:=c) bt.1 bt.2 bu.1 bu.2 hs hs' c0 c1
 unfold eqv
 rw[mQ h,mQ h,e,gV]
 have k:=v7 l (k:=s*(3438*15/896)) (by grind)
 rw[show((60:Int):Rat)/((3438:Int):Rat)=60/3438 by decide+kernel] at k
 grind
theorem eQ (t:Rat):(cj t).abs <=((22:Int):Rat)/((10:Int):Rat):=by
 have b:=dN (mof t pay)
 have m:=tW (s:=ssz) (c:=sch) b.1 b.2 (by decide+kernel) (by decide+kernel) (by decide+kernel) (by decide+kernel)
 have k:ssz*(1-sch)*(3438*15/896)<=((22:Int):Rat)/((10:Int):Rat):=by decide+kernel
 exact Rat.le_trans m k
theorem qr (t:Rat):(eM t).abs <=((51:Int):Rat)/((10:Int):Rat):=by
 have b:=dN (mof t pam)
 have m:=tW (s:=msz) (c:=mch) b.1 b.2 (by decide+kernel) (by decide+kernel) (by decide+kernel) (by decide+kernel)
 have k:msz*(1-mch)*(3438*15/896)<=((51:Int):Rat)/((10:Int):Rat):=by decide+kernel
 exact Rat.le_trans m k
theorem rK (x y:Rat):rmod (rmod x ((360:Int):Rat)-rmod y ((360:Int):Rat)) ((360:Int):Rat)=rmod (x-y) ((360:Int):Rat):=by
 rw[Bl bQ,show rmod x ((360:Int):Rat)-y=rmod x ((360:Int):Rat)+ -y by grind,Ay bQ,show x+ -y=x-y by grind]
theorem cF {t d p:Rat}:aW (t+d) p=aW t p+d/p:=by unfold aW;grind
theorem Gd {t d p an s c:Rat} (hp:0<p):rmod (atv (t+d) p an s c-atv t p an s c) ((360:Int):Rat)=rmod (((360:Int):Rat)*(d/p)-(eqv (t+d) an s c-eqv t an s c)) ((360:Int):Rat):=by
 unfold atv
 rw[rK,ik (t:=t+d) hp,ik (t:=t) hp,cF]
 rw[show((360:Int):Rat)*(aW t p+d/p)+((360:Int):Rat)*(((-(aW t p+d/p).floor :Int)):Rat)-eqv (t+d) an s c-(((360:Int):Rat)*aW t p+((360:Int):Rat)*(((-(aW t p).floor :Int)):Rat)-eqv t an s c)=(((360:Int):Rat)*(d/p)-(eqv (t+d) an s c-eqv t an s c))+((360:Int):Rat)*(((-(aW t p+d/p).floor +(aW t p).floor :Int)):Rat) by
  simp only [Rat.intCast_add,Rat.intCast_neg];grind]
 rw[iy _ bQ]
theorem br {x b:Rat} (h:x.abs<=b): -b<=x/\x<=b:=by have:=oI x;constructor <;> grind
theorem AU (t:Rat):(cj (t+((1:Int):Rat))-cj t).abs <=ssz*(225/224)*(((360:Int):Rat)/pay).abs :=
 jZ (n:=0) gh (by decide+kernel) (by decide+kernel) (by decide+kernel) (by decide+kernel) (by
  rw[cF,Rat.intCast_zero,Rat.intCast_one,Rat.div_def,Rat.div_def];grind)
theorem Ek (t:Rat):rmod (cV (t+((1:Int):Rat))-cV t) ((360:Int):Rat)=((360:Int):Rat)*(((1:Int):Rat)/pyr)-(cj (t+((1:Int):Rat))-cj t)/\9471/10000<((360:Int):Rat)*(((1:Int):Rat)/pyr)-(cj (t+((1:Int):Rat))-cj t)/\((360:Int):Rat)*(((1:Int):Rat)/pyr)-(cj (t+((1:Int):Rat))-cj t)<10242/10000:=by
 have l:=br (AU t)
 have k:ssz*(225/224)*(((360:Int):Rat)/pay).abs <385015/10000000:=by decide+kernel
 have k1:985602/1000000<((360:Int):Rat)*(((1:Int):Rat)/pyr):=by decide+kernel
 have k2:((360:Int):Rat)*(((1:Int):Rat)/pyr)<985603/1000000:=by decide+kernel
 have a:9471/10000<((360:Int):Rat)*(((1:Int):Rat)/pyr)-(cj (t+((1:Int):Rat))-cj t):=by grind
 have b:((360:Int):Rat)*(((1:Int):Rat)/pyr)-(cj (t+((1:Int):Rat))-cj t)<10242/10000:=by grind
 refine⟨?_,a,b⟩
 unfold cV
 rw[Gd fJ]
 exact D3 (by unfold cj at a;grind) (by unfold cj at b;rw[dE] at*;grind)
theorem sj (t:Rat):0<=cV t:=fv bQ
theorem qy (t:Rat):cV t<((360:Int):Rat):=eI bQ
theorem iP (t:Rat):0<=bf t:=fv bQ
theorem hC (t:Rat):bf t<((360:Int):Rat):=eI bQ
theorem j6 {x:Rat} {n:Int} (hn:0<n) (h0:0<=x) (h1:x<((360:Int):Rat)):0<=prt x n/\prt x n<n:=by
 have p:(0:Rat)<((n:Int):Rat):=Rat.intCast_pos.2 hn
 have q:(0:Rat)<((n:Int):Rat)/((360:Int):Rat):=by rw[Rat.div_def];exact Rat.mul_pos p (by decide+kernel)
 unfold prt
 constructor
 ·exact Rat.le_floor_iff.2 (by rw[Rat.intCast_zero];exact Rat.mul_nonneg h0 (by grind))
 ·refine Rat.floor_lt_iff.2 ?_
  have m:=(Rat.mul_lt_mul_right (c:=((n:Int):Rat)/((360:Int):Rat)) q).2 h1
  have e:((360:Int):Rat)*(((n:Int):Rat)/((360:Int):Rat))=((n:Int):Rat):=by rw[Rat.mul_comm];exact Rat.div_mul_cancel (by decide+kernel)
  rw[e] at m
  exact m
theorem xj (t:Rat) (n:Int):(cj (t+pyr*((n:Int):Rat))-cj t).abs <=((n.natAbs:Nat):Rat)*(15/10000000):=by
 have hd:((360:Int):Rat)*(pyr/pay)=360-360*387/4320000000:=by decide+kernel
 have m:=jZ (t:=t) (u:=t+pyr*((n:Int):Rat)) (an:=pay) (s:=ssz) (c:=sch) (d:= -(360*387/4320000000)*((n:Int):Rat)) (n:=n) gh (by decide+kernel) (by decide+kernel) (by decide+kernel) (by decide+kernel) (by
  rw[cF,show pyr*((n:Int):Rat)/pay=pyr/pay*((n:Int):Rat) by rw[Rat.div_def,Rat.div_def];grind,Rat.mul_add,<-Rat.mul_assoc,hd,dE];grind)
 refine Rat.le_trans m ?_
 have hn:(((n:Int):Rat)).abs =((n.natAbs:Nat):Rat):=by
  rcases Int.natAbs_eq n with e|e
  ·have h0:(0:Rat)<=((n:Int):Rat):=by rw[e];exact Rat.intCast_nonneg.2 (by omega)
   rw[Rat.abs_of_nonneg h0,<-Rat.intCast_natCast,<-e]
  ·have h0:((n:Int):Rat)<=0:=by rw[e,Rat.intCast_neg];have:(0:Rat)<=(((n.natAbs:Nat):Int):Rat):=Rat.intCast_nonneg.2 (by omega);grind
   rw[Rat.abs_of_nonpos h0,<-Rat.intCast_natCast,<-Rat.intCast_neg]
   congr 1;omega
 have ha:(-(360*387/4320000000)*((n:Int):Rat)).abs =360*387/4320000000*(((n:Int):Rat)).abs :=by
  unfold Rat.abs
  split <;> split <;> grind
 rw[ha,hn,oO.1]
 have:(0:Rat)<=((n.natAbs:Nat):Rat):=Rat.natCast_nonneg
 grind
theorem pO (x:Rat):pfr x=mfr (x/wd):=by
 have h:(0:Rat)<((96:Int):Rat):=by decide+kernel
 unfold pfr pk
 show mfr (rmod (x/wd) ((96:Int):Rat))=_
 rw[eF h]
 generalize (x/wd/((96:Int):Rat)).floor =n
 rw[show x/wd+((96:Int):Rat)*(((-n:Int)):Rat)=x/wd+((96* -n:Int):Rat) by rw[Rat.intCast_mul],AX]
theorem d9 {x:Rat} {k:Nat} (h:ag x k):ag (sof x) (k+12):=by
 rw[<-lV,pO]
 exact(cZ (a9 (el (df _).1 (df _).2) (aM (pw (cZ h lN)) (el (dV _).1 (dV _).2))) (el (n:=3438) (by decide) (by decide))).up _ (by omega)
theorem EK {a s c:Rat} {k j i:Nat} (h:ag a k) (hs:ag s j) (hc:ag c i):ag (epi a s c) (2*k+2*j+i+1):=(aM h (bV hs (aM (aM (jj h) hc) hs))).up _ (by omega)
theorem vE {t an s c:Rat} {k l j i:Nat} (h:ag t k) (ha:ag an l) (hs:ag s j) (hc:ag c i):ag (eqv t an s c) (2*k+2*l+2*j+i+60):=(kM (EK (d9 (mL h ha)) hs hc)).up _ (by omega)
theorem uO {t p an s c:Rat} {k m l j i:Nat} (h:ag t k) (hp:ag p m) (ha:ag an l) (hs:ag s j) (hc:ag c i):ag (atv t p an s c) (3*k+m+2*l+2*j+i+80):=(fj (bV (mL h hp) (vE h ha hs hc))).up _ (by omega)
theorem vM:ag ssz 2:=iu (by decide) (by decide) (by decide) (by decide)
theorem vL:ag sch 2:=iu (by decide) (by decide) (by decide) (by decide)
theorem vf:ag msz 2:=iu (by decide) (by decide) (by decide) (by decide)
theorem vP:ag mch 2:=iu (by decide) (by decide) (by decide) (by decide)
theorem gQ {t:Rat} {k:Nat} (h:ag t k):ag (cV t) (3*k+100):=(uO h pN mv vM vL).up _ (by omega)
theorem lP {t:Rat} {k:Nat} (h:ag t k):ag (mA t) (3*k+100):=(uO h pI pL vf vP).up _ (by omega)
theorem pn {t:Rat} {k:Nat} (h:ag t k):ag (bf t) (6*k+210):=(fj (bV (lP h) (gQ h))).up _ (by omega)
theorem qOf {v1:Value} {p1:Rat} {k1:Nat} {w:World} (hT:aY w) (x1:Rl p1 k1 w v1) (a1:k1<=800:=by omega):CP 259 #[v1] w (Ret (kq (sof (p1)) ((k1+12))) w):=aB (uK _ (p1) k1 _ hT x1.1 x1.2 (by omega)) (d9 x1.2)
theorem vS {v1:Value} {p1:Rat} {k1:Nat} {w:World} (hT:aY w) (x1:Rl p1 k1 w v1) (a1:k1<=700:=by omega):CP 269 #[v1] w (Ret (kq (sof ((p1)+((90:Int):Rat))) ((k1+2+1+12))) w):=aB (A3 _ (p1) k1 _ hT x1.1 x1.2 (by omega)) (d9 (a9 x1.2 (el (n:=90) (by decide) (by decide))))
theorem B3 {v1:Value} {p1:Rat} {k1:Nat} {w:World} (hT:aY w) (x1:Rl p1 k1 w v1) (a1:k1<=1000:=by omega):CP 261 #[v1] w (Ret (kq (a6 (p1)) ((k1+20))) w):=aB (BC _ (p1) k1 _ hT x1.1 x1.2 (by omega)) (kM x1.2)
def a7 (t:Rat):Rat:=((360:Int):Rat)*aW t pyr-cj t
def fL (t:Rat):Rat:=((360:Int):Rat)*aW t pmo-eM t
def phU (t:Rat):Rat:=fL t-a7 t
theorem mj (t:Rat):cV t=rmod (a7 t) ((360:Int):Rat):=by
 unfold cV a7 cj atv
 rw[ik (t:=t) fJ,show((360:Int):Rat)*aW t pyr+((360:Int):Rat)*(((-(aW t pyr).floor :Int)):Rat)-eqv t pay ssz sch=(((360:Int):Rat)*aW t pyr-eqv t pay ssz sch)+((360:Int):Rat)*(((-(aW t pyr).floor :Int)):Rat) by grind,iy _ bQ]
theorem DD (t:Rat):mA t=rmod (fL t) ((360:Int):Rat):=by
 unfold mA fL eM atv
 rw[ik (t:=t) Eu,show((360:Int):Rat)*aW t pmo+((360:Int):Rat)*(((-(aW t pmo).floor :Int)):Rat)-eqv t pam msz mch=(((360:Int):Rat)*aW t pmo-eqv t pam msz mch)+((360:Int):Rat)*(((-(aW t pmo).floor :Int)):Rat) by grind,iy _ bQ]
theorem sD (t:Rat):bf t=rmod (phU t) ((360:Int):Rat):=by
 unfold bf phU
 rw[DD,mj,rK]
theorem k5 (t d:Rat):(cj (t+d)-cj t).abs <=ssz*(225/224)*(((360:Int):Rat)*(d/pay)).abs :=
 jZ (n:=0) gh (by decide+kernel) (by decide+kernel) (by decide+kernel) (by decide+kernel) (by rw[cF,Rat.intCast_zero];grind)
theorem yQ (t d:Rat):(eM (t+d)-eM t).abs <=msz*(225/224)*(((360:Int):Rat)*(d/pam)).abs :=
 jZ (n:=0) pM (by decide+kernel) (by decide+kernel) (by decide+kernel) (by decide+kernel) (by rw[cF,Rat.intCast_zero];grind)
theorem qv {s c d:Rat} (hs:0<=s) (hc:0<c) (hd:0<=d):s*(((360:Int):Rat)*(d/c)).abs =s*((360:Int):Rat)/c*d:=by
 have h:(0:Rat)<=((360:Int):Rat)*(d/c):=Rat.mul_nonneg (by decide) (by rw[Rat.div_def];exact Rat.mul_nonneg hd (Rat.le_of_lt (Rat.inv_pos.2 hc)))
 rw[Rat.abs_of_nonneg h,Rat.div_def,Rat.div_def];grind
theorem jg (t:Rat) {d:Rat} (hd:0<=d):9471/10000*d<=a7 (t+d)-a7 t/\a7 (t+d)-a7 t<=10242/10000*d:=by
 have l:=br (k5 t d)
 rw[qv (s:=ssz*(225/224)) (by decide+kernel) gh hd] at l
 have k:ssz*(225/224)*((360:Int):Rat)/pay<385015/10000000:=by decide+kernel
 have k1:985602/1000000<((360:Int):Rat)/pyr:=by decide+kernel
 have k2:((360:Int):Rat)/pyr<985603/1000000:=by decide+kernel
 have e:a7 (t+d)-a7 t=((360:Int):Rat)/pyr*d-(cj (t+d)-cj t):=by
  unfold a7;rw[cF,Rat.div_def,Rat.div_def];grind
 have m:=Rat.mul_nonneg (a:=385015/10000000-ssz*(225/224)*((360:Int):Rat)/pay) (b:=d) (by grind) hd
 have m1:=Rat.mul_nonneg (a:=((360:Int):Rat)/pyr-985602/1000000) (b:=d) (by grind) hd
 have m2:=Rat.mul_nonneg (a:=985603/1000000-((360:Int):Rat)/pyr) (b:=d) (by grind) hd
 rw[e]
 generalize ssz*(225/224)*((360:Int):Rat)/pay=x at*
 generalize ((360:Int):Rat)/pyr=y at*
 constructor <;> grind
theorem xU (t:Rat) {d:Rat} (hd:0<=d):12009/1000*d<=fL (t+d)-fL t/\fL (t+d)-fL t<=14343/1000*d:=by
 have l:=br (yQ t d)
 rw[qv (s:=msz*(225/224)) (by decide+kernel) pM hd] at l
 have k:msz*(225/224)*((360:Int):Rat)/pam<11666/10000:=by decide+kernel
 have k1:1317635/100000<((360:Int):Rat)/pmo:=by decide+kernel
 have k2:((360:Int):Rat)/pmo<1317636/100000:=by decide+kernel
 have e:fL (t+d)-fL t=((360:Int):Rat)/pmo*d-(eM (t+d)-eM t):=by
  unfold fL;rw[cF,Rat.div_def,Rat.div_def];grind
 have m:=Rat.mul_nonneg (a:=11666/10000-msz*(225/224)*((360:Int):Rat)/pam) (b:=d) (by grind) hd
 have m1:=Rat.mul_nonneg (a:=((360:Int):Rat)/pmo-1317635/100000) (b:=d) (by grind) hd
 have m2:=Rat.mul_nonneg (a:=1317636/100000-((360:Int):Rat)/pmo) (b:=d) (by grind) hd
 rw[e]
 generalize msz*(225/224)*((360:Int):Rat)/pam=x at*
 generalize ((360:Int):Rat)/pmo=y at*
 constructor <;> grind
theorem i7 (t:Rat) {d:Rat} (hd:0<=d):1098/100*d<=phU (t+d)-phU t/\phU (t+d)-phU t<=134/10*d:=by
 have a:=jg t hd
 have b:=xU t hd
 unfold phU
 constructor <;> grind
theorem pJ (t d:Rat):((360:Int):Rat)/psy*d-146/10<=phU (t+d)-phU t/\phU (t+d)-phU t<=((360:Int):Rat)/psy*d+146/10:=by
 have a1:=br (eQ t)
 have a2:=br (eQ (t+d))
 have b1:=br (qr t)
 have b2:=br (qr (t+d))
 have c:((22:Int):Rat)/((10:Int):Rat)=22/10:=by decide+kernel
 have c':((51:Int):Rat)/((10:Int):Rat)=51/10:=by decide+kernel
 rw[c] at a1 a2
 rw[c'] at b1 b2
 have k:((360:Int):Rat)/psy=((360:Int):Rat)/pmo-((360:Int):Rat)/pyr:=by decide+kernel
 have e:phU (t+d)-phU t=((360:Int):Rat)/psy*d-(eM (t+d)-eM t)+(cj (t+d)-cj t):=by
  unfold phU fL a7;rw[k,cF,cF,Rat.div_def,Rat.div_def,Rat.div_def,Rat.div_def];grind
 rw[e]
 constructor <;> grind
def full (t:Rat):Bool:=decide (((180:Int):Rat)<=bf t)
def turn (t:Rat):Int:=(phU t/((360:Int):Rat)).floor
theorem cN (t:Rat):((360:Int):Rat)*((turn t:Int):Rat)<=phU t/\phU t<((360:Int):Rat)*((turn t:Int):Rat)+360:=by
 have a:=cY (phU t/((360:Int):Rat))
 have b:=dr (phU t/((360:Int):Rat))
 have e:phU t=phU t/((360:Int):Rat)*((360:Int):Rat):=(Rat.div_mul_cancel (by decide)).symm
 unfold turn
 rw[dE] at*
 constructor <;> grind
theorem uW {t:Rat} {j:Int} (h0:((360:Int):Rat)*((j:Int):Rat)<=phU t) (h1:phU t<((360:Int):Rat)*((j:Int):Rat)+360):turn t=j:=by
 have b:=cN t
 rw[dE] at*
 have u:((turn t:Int):Rat)<((j+1:Int):Rat):=by rw[Rat.intCast_add,Rat.intCast_one];grind
 have l:((j:Int):Rat)<((turn t+1:Int):Rat):=by rw[Rat.intCast_add,Rat.intCast_one];grind
 have:=Rat.intCast_lt_intCast.1 u
 have:=Rat.intCast_lt_intCast.1 l
 omega
theorem iV (t:Rat):bf t=phU t-((360:Int):Rat)*((turn t:Int):Rat):=by
 rw[sD,eF bQ]
 unfold turn
 rw[Rat.intCast_neg];grind
theorem jI (t:Rat) {d:Rat} (h0:0<=d) (h1:d<=1):(turn (t+d)=turn t/\bf (t+d)=bf t+(phU (t+d)-phU t))\/(turn (t+d)=turn t+1/\bf (t+d)=bf t+(phU (t+d)-phU t)-360):=by
 have r:=i7 t h0
 have b:=cN t
 have c:=cN (t+d)
 have p:=iV t
 have q:=iV (t+d)
 rw[dE] at*
 by_cases h:phU (t+d)<360*((turn t:Int):Rat)+360
 ·have e:turn (t+d)=turn t:=uW (by rw[dE];grind) (by rw[dE];grind)
  rw[e] at q
  exact .inl ⟨e,by grind⟩
 ·have e:turn (t+d)=turn t+1:=uW (by rw[dE,Rat.intCast_add,Rat.intCast_one];grind) (by rw[dE,Rat.intCast_add,Rat.intCast_one];grind)
  rw[e,Rat.intCast_add,Rat.intCast_one] at q
  exact .inr ⟨e,by grind⟩
theorem lf (t:Rat):0<=bf t/\bf t<360:=by
 have a:=iP t
 have b:=hC t
 rw[dE] at b
 exact⟨a,b⟩
theorem lr (t:Rat) {d:Rat} (h0:0<=d) (h1:d<=1):(full t=true/\full (t+d)=false)↔turn (t+d)=turn t+1:=by
 have r:=i7 t h0
 have a:=lf t
 have b:=lf (t+d)
 unfold full
 rw[decide_eq_true_iff,decide_eq_false_iff_not,show((180:Int):Rat)=180 from rfl]
 rcases jI t h0 h1 with⟨e,p⟩|⟨e,p⟩
 ·constructor
  ·rintro⟨x,y⟩;exact absurd (show 180<=bf (t+d) by grind) y
  ·intro x;omega
 ·constructor
  ·intro _;exact e
  ·intro _;exact⟨by grind,by grind⟩
def aD (n:Int):Int:=turn ((n:Int):Rat)
def aF (n:Int):Bool:=full ((n:Int):Rat) && !full (((n+1:Int)):Rat)
theorem cQ (n:Int):(((n+1:Int)):Rat)=((n:Int):Rat)+1:=by rw[Rat.intCast_add,Rat.intCast_one]
theorem bZ (n:Int):aF n=true↔aD (n+1)=aD n+1:=by
 have h:=lr ((n:Int):Rat) (d:=1) (by decide) (by decide)
 unfold aF aD
 rw[cQ,<-h,Bool.and_eq_true,Bool.not_eq_true']
theorem gw (n:Int):aD (n+1)=aD n\/aD (n+1)=aD n+1:=by
 unfold aD
 rw[cQ]
 rcases jI ((n:Int):Rat) (d:=1) (by decide) (by decide) with h|h
 ·exact .inl h.1
 ·exact .inr h.1
theorem zY (n:Int) (k:Nat):aD n<=aD (n+k):=by
 induction k with
 |zero=>rw[show n+((0:Nat):Int)=n by omega];exact Int.le_refl _
 |succ k ih=>
  rw[show n+((k+1:Nat):Int)=n+k+1 by omega]
  have:=gw (n+k)
  omega
theorem cA {a b:Int} (h:a<=b):aD a<=aD b:=by
 have:=zY a (b-a).toNat
 rwa[show a+(((b-a).toNat :Nat):Int)=b by omega] at this
theorem gJ {a b:Int} (h:a<=b) (no:∀m,a<=m->m<b->¬aF m=true):aD b=aD a:=by
 have key:∀k:Nat,a+k<=b->aD (a+k)=aD a:=by
  intro k
  induction k with
  |zero=>intro _;rw[show a+((0:Nat):Int)=a by omega]
  |succ k ih=>
   intro hk
   rw[show a+((k+1:Nat):Int)=a+k+1 by omega]
   have h1:=ih (by omega)
   have h2:=no (a+k) (by omega) (by omega)
   rw[bZ] at h2
   have:=gw (a+k)
   omega
 have:=key (b-a).toNat (by omega)
 rwa[show a+(((b-a).toNat :Nat):Int)=b by omega] at this
theorem DA {a f:Int} (h:a<=f) (g:aD a<aD f):∃L,a<=L/\L<f/\aF L=true/\∀m,L<m->m<f->¬aF m=true:=by
 have key:∀k:Nat,k<=(f-a).toNat ->aD (f-k)<aD f->∃L,f-k<=L/\L<f/\aF L=true/\∀m,L<m->m<f->¬aF m=true:=by
  intro k
  induction k with
  |zero=>intro _ x;rw[show f-((0:Nat):Int)=f by omega] at x;omega
  |succ k ih=>
   intro hk x
   by_cases y:aD (f-k)<aD f
   ·obtain⟨L,l1,l2,l3,l4⟩:=ih (by omega) y
    exact⟨L,by omega,l2,l3,l4⟩
   ·have z:=cA (a:=f-k) (b:=f) (by omega)
    refine⟨f-((k+1:Nat):Int),Int.le_refl _,by omega,?_,?_⟩
    ·rw[bZ,show f-((k+1:Nat):Int)+1=f-k by omega]
     have:=gw (f-((k+1:Nat):Int))
     rw[show f-((k+1:Nat):Int)+1=f-k by omega] at this
     omega
    ·intro m m1 m2 c
     rw[bZ] at c
     have p:=cA (a:=f-k) (b:=m) (by omega)
     have q:=cA (a:=m+1) (b:=f) (by omega)
     omega
 have:=key (f-a).toNat (Nat.le_refl _) (by rwa[show f-(((f-a).toNat :Nat):Int)=a by omega])
 rwa[show f-(((f-a).toNat :Nat):Int)=a by omega] at this
theorem vF (f:Int):∃L,f-34<=L/\L<f/\aF L=true/\∀m,L<m->m<f->¬aF m=true:=by
 refine DA (a:=f-34) (by omega) ?_
 have r:=(i7 (((f-34:Int)):Rat) (d:=34) (by decide)).1
 have a:=cN (((f-34:Int)):Rat)
 have b:=cN ((f:Int):Rat)
 rw[show(((f-34:Int)):Rat)+34=((f:Int):Rat) by rw[Rat.intCast_sub,show((34:Int):Rat)=34 from rfl];grind] at r
 rw[dE] at*
 unfold aD
 have u:((turn (((f-34:Int)):Rat):Int):Rat)<((turn ((f:Int):Rat):Int):Rat):=by grind
 exact Rat.intCast_lt_intCast.1 u
theorem vu {n:Int} (h:aF n=true):∃m,n+28<=m/\m<=n+31/\aF m=true/\∀k,n<k->k<m->¬aF k=true:=by
 rw[bZ] at h
 have k1:((360:Int):Rat)/psy<12191/1000:=by decide+kernel
 have k2:1219/100<((360:Int):Rat)/psy:=by decide+kernel
 have c0:=cN ((n:Int):Rat)
 have c1:=cN (((n+1:Int)):Rat)
 have c2:=cN (((n+28:Int)):Rat)
 have c3:=cN (((n+32:Int)):Rat)
 have r1:=(pJ ((n:Int):Rat) 28).2
 have r2:=(pJ (((n+1:Int)):Rat) 31).1
 rw[show((n:Int):Rat)+28=(((n+28:Int)):Rat) by rw[Rat.intCast_add];rfl] at r1
 rw[show(((n+1:Int)):Rat)+31=(((n+32:Int)):Rat) by rw[Rat.intCast_add,Rat.intCast_add,show((32:Int):Rat)=32 from rfl,Rat.intCast_one];grind] at r2
 unfold aD at h
 rw[h,Rat.intCast_add,Rat.intCast_one] at c1
 rw[dE] at*
 generalize (360:Rat)/psy=s at*
 have u:((turn (((n+28:Int)):Rat):Int):Rat)<((turn ((n:Int):Rat)+2:Int):Rat):=by rw[show((turn ((n:Int):Rat)+2:Int):Rat)=((turn ((n:Int):Rat):Int):Rat)+2 from Rat.intCast_add _ _];grind
 have l:((turn ((n:Int):Rat)+1:Int):Rat)<((turn (((n+32:Int)):Rat):Int):Rat):=by rw[show((turn ((n:Int):Rat)+1:Int):Rat)=((turn ((n:Int):Rat):Int):Rat)+1 from Rat.intCast_add _ _];grind
 have u:=Rat.intCast_lt_intCast.1 u
 have l:=Rat.intCast_lt_intCast.1 l
 have e1:aD (n+1)=aD n+1:=h
 have u:aD (n+28)<aD n+2:=u
 have l:aD n+1<aD (n+32):=l
 have up:aD (n+1)<=aD (n+28):=cA (by omega)
 -- the first one behind day n+28
 have key:∀k:Nat,aD (n+28)<aD (n+28+k)->∃m,n+28<=m/\m<n+28+k/\aF m=true/\∀j,n+28<=j->j<m->¬aF j=true:=by
  intro k
  induction k with
  |zero=>intro x;rw[show n+28+((0:Nat):Int)=n+28 by omega] at x;omega
  |succ k ih=>
   intro x
   by_cases y:aD (n+28)<aD (n+28+k)
   ·obtain⟨m,m1,m2,m3,m4⟩:=ih y
    exact⟨m,m1,by omega,m3,m4⟩
   ·have z:=cA (a:=n+28) (b:=n+28+k) (by omega)
    rw[show n+28+((k+1:Nat):Int)=n+28+k+1 by omega] at x
    refine⟨n+28+k,by omega,by omega,?_,?_⟩
    ·rw[bZ]
     have:=gw (n+28+k)
     omega
    ·intro j j1 j2 c
     rw[bZ] at c
     have p:=cA (a:=n+28) (b:=j) (by omega)
     have q:=cA (a:=j+1) (b:=n+28+k) (by omega)
     omega
 obtain⟨m,m1,m2,m3,m4⟩:=key 4 (by rw[show n+28+((4:Nat):Int)=n+32 by omega];omega)
 refine⟨m,m1,by omega,m3,fun k k1 k2 c=>?_⟩
 by_cases hk:n+28<=k
 ·exact m4 k hk k2 c
 ·rw[bZ] at c
  have p:=cA (a:=n+1) (b:=k) (by omega)
  have q:=cA (a:=k+1) (b:=n+28) (by omega)
  omega
end Go.Proofs.YtgdpkknapcgcbaaGreatDoor
