import Derived.Test.YtgdpkknapcgcbaaGreatDoorKC19
namespace Go.Proofs.YtgdpkknapcgcbaaGreatDoor
open Go.RowKit
set_option maxRecDepth 100000
set_option linter.unusedVariables false
set_option maxHeartbeats 8000000
def epi (a s c:Rat):Rat:=a*(s-a.abs*c*s)
def eqv (t an s c:Rat):Rat:=bF (epi (sof (mof t an)) s c)
def atv (t p an s c:Rat):Rat:=rmod (mof t p-eqv t an s c) ((360:Int):Rat)
def ssz:Rat:=((14:Int):Rat)/((360:Int):Rat)
def sch:Rat:=((1:Int):Rat)/((42:Int):Rat)
def msz:Rat:=((32:Int):Rat)/((360:Int):Rat)
def mch:Rat:=((1:Int):Rat)/((96:Int):Rat)
def dt (t:Rat):Rat:=eqv t pay ssz sch
def ii (t:Rat):Rat:=eqv t pam msz mch
def eg (t:Rat):Rat:=atv t pyr pay ssz sch
def pN (t:Rat):Rat:=atv t pmo pam msz mch
def bv (t:Rat):Rat:=rmod (pN t-eg t) ((360:Int):Rat)
def prt (x:Rat) (n:Int):Int:=(x*(((n:Int):Rat)/((360:Int):Rat))).floor
theorem uY:ssz=7/180/\sch=1/42/\msz=4/45/\mch=1/96:=by decide+kernel
theorem P8 {h:Rat} (h1:h<=225):ay h=h/225:=by
 have s0:spk ((0:Nat):Int)=0:=by decide+kernel
 have s1:spk (((0:Nat):Int)+1)=225:=by decide+kernel
 have e:yk h=0:=by
  show(if h<=_ then _ else _)=_
  rw[if_pos]
  rw[s1];exact h1
 unfold ay
 rw[e,if_pos (by decide),s0,s1]
 rw[show((225-0:Int):Rat)=225 from rfl,show((0:Int):Rat)=0 from rfl,show(((0:Nat):Int):Rat)=0 from rfl]
 grind
theorem OD {h:Rat} (h0:225<h) (h1:h<=449):ay h=(h-225)/224+1:=by
 have s1:spk ((1:Nat):Int)=225:=by decide+kernel
 have s1':spk (((0:Nat):Int)+1)=225:=by decide+kernel
 have s2:spk (((1:Nat):Int)+1)=449:=by decide+kernel
 have s2':spk (((0+1:Nat):Int)+1)=449:=by decide+kernel
 have e:yk h=1:=by
  show(if h<=_ then _ else _)=_
  rw[if_neg]
  ·show(if h<=_ then _ else _)=_
   rw[if_pos]
   rw[s2'];exact h1
  ·rw[s1'];exact fun k=>by have k':h<=225:=k;grind
 unfold ay
 rw[e,if_pos (by decide),s1,s2]
 rw[show((449-225:Int):Rat)=224 from rfl,show((225:Int):Rat)=225 from rfl,show(((1:Nat):Int):Rat)=1 from rfl]
theorem De {h:Rat} (h0: -449<=h) (h1:h<=449):(h< -225/\ap h=(h+225)/224-1)\/(-225<=h/\h<=225/\ap h=h/225)\/(225<h/\ap h=(h-225)/224+1):=by
 unfold ap
 by_cases hn:h<0
 ·rw[if_pos hn]
  by_cases hm: -h<=225
  ·right;left
   rw[P8 hm]
   refine⟨by grind,by grind,by grind⟩
  ·left
   rw[OD (by grind) (by grind)]
   refine⟨by grind,by grind⟩
 ·rw[if_neg hn]
  by_cases hm:h<=225
  ·right;left
   rw[P8 hm]
   refine⟨by grind,by grind,by grind⟩
  ·right;right
   rw[OD (by grind) (by grind)]
   refine⟨by grind,by grind⟩
theorem N5 {g h:Rat} (h0: -449<=g) (h1:g<=h) (h2:h<=449):0<=ap h-ap g/\ap h-ap g<=(h-g)/224:=by
 rcases De (h:=g) h0 (by grind) with⟨a,e⟩|⟨a,a',e⟩|⟨a,e⟩ <;> rcases De (h:=h) (by grind) h2 with⟨b,f⟩|⟨b,b',f⟩|⟨b,f⟩ <;> rw[e,f] <;> constructor <;> grind
theorem RH {a b:Rat} (ha: -1<=a) (hb:b<=1) (h:a<=b):0<=b*b.abs-a*a.abs/\b*b.abs-a*a.abs<=2*(b-a):=by
 by_cases a0:0<=a
 ·rw[Rat.abs_of_nonneg a0,Rat.abs_of_nonneg (by grind)]
  have m:=Rat.mul_nonneg (a:=b-a) (b:=b+a) (by grind) (by grind)
  have n:=Rat.mul_nonneg (a:=b-a) (b:=2-(b+a)) (by grind) (by grind)
  constructor <;> grind
 ·rw[Rat.abs_of_nonpos (x:=a) (by grind)]
  by_cases b0:0<=b
  ·rw[Rat.abs_of_nonneg b0]
   have m:=Rat.mul_nonneg (a:=b) (b:=1-b) (by grind) (by grind)
   have n:=Rat.mul_nonneg (a:= -a) (b:=1+a) (by grind) (by grind)
   have m':=Rat.mul_nonneg (a:=b) (b:=b) (by grind) (by grind)
   have n':=Rat.mul_nonneg (a:= -a) (b:= -a) (by grind) (by grind)
   constructor <;> grind
  ·rw[Rat.abs_of_nonpos (x:=b) (by grind)]
   have m:=Rat.mul_nonneg (a:=b-a) (b:= -(b+a)) (by grind) (by grind)
   have n:=Rat.mul_nonneg (a:=b-a) (b:=2+(b+a)) (by grind) (by grind)
   constructor <;> grind
theorem ms {a b s c:Rat} (ha: -1<=a) (hb:b<=1) (h:a<=b) (hs:0<=s) (c0:0<=c) (c1:2*c<=1):0<=epi b s c-epi a s c/\epi b s c-epi a s c<=s*(b-a):=by
 have hd:=RH ha hb h
 have e:epi b s c-epi a s c=s*((b-a)-c*(b*b.abs-a*a.abs)):=by unfold epi;grind
 rw[e]
 generalize b*b.abs-a*a.abs=d at*
 have m:=Rat.mul_nonneg c0 hd.1
 have n:=Rat.mul_nonneg (a:=c) (b:=2*(b-a)-d) c0 (by grind)
 have o:=Rat.mul_nonneg (a:=1-2*c) (b:=b-a) (by grind) (by grind)
 have p:=Rat.mul_nonneg (a:=s) (b:=(b-a)-c*d) hs (by grind)
 have q:=Rat.mul_nonneg (a:=s) (b:=c*d) hs m
 constructor
 ·exact p
 ·grind
theorem rH {a s c:Rat} (h0: -1<=a) (h1:a<=1) (hs:0<=s) (c0:0<=c) (c1:2*c<=1): -(s*(1-c))<=epi a s c/\epi a s c<=s*(1-c):=by
 have u:=ms (a:=a) (b:=1) h0 (by grind) h1 hs c0 c1
 have v:=ms (a:= -1) (b:=a) (by grind) h1 h0 hs c0 c1
 have e1:epi 1 s c=s*(1-c):=by unfold epi;rw[Rat.abs_of_nonneg (by grind)];grind
 have e2:epi (-1) s c= -(s*(1-c)):=by unfold epi;rw[Rat.abs_of_nonpos (by grind)];grind
 rw[e1] at u
 rw[e2] at v
 constructor <;> grind
theorem rO {a b:Rat} (h0: -449<=a*3438) (h:a<=b) (h1:b*3438<=449):0<=bF b-bF a/\bF b-bF a<=(b-a)*(3438*15/896):=by
 have m:=N5 (g:=a*3438) (h:=b*3438) h0 (by grind) h1
 unfold bF
 rw[fD,fp]
 constructor <;> grind
theorem MP {a b s c:Rat} (ha: -1<=a) (ha':a<=1) (hb: -1<=b) (hb':b<=1) (hs:0<=s) (hs':s*3438<=449) (c0:0<=c) (c1:2*c<=1):(bF (epi b s c)-bF (epi a s c)).abs <=s*(3438*15/896)*(b-a).abs :=by
 have ba:=rH ha ha' hs c0 c1
 have bb:=rH hb hb' hs c0 c1
 have cs:=Rat.mul_nonneg hs c0
 rcases Rat.le_total (a:=a) (b:=b) with h|h
 ·have l:=ms ha hb' h hs c0 c1
  have m:=rO (a:=epi a s c) (b:=epi b s c) (by grind) (by grind) (by grind)
  rw[Rat.abs_of_nonneg m.1,Rat.abs_of_nonneg (x:=b-a) (by grind)]
  grind
 ·have l:=ms hb ha' h hs c0 c1
  have m:=rO (a:=epi b s c) (b:=epi a s c) (by grind) (by grind) (by grind)
  rw[Rat.abs_of_nonpos (by grind),Rat.abs_of_nonpos (x:=b-a) (by grind)]
  grind
theorem Da:bF 0=0:=by decide+kernel
theorem Al {a s c:Rat} (ha: -1<=a) (ha':a<=1) (hs:0<=s) (hs':s*3438<=449) (c0:0<=c) (c1:2*c<=1):(bF (epi a s c)).abs <=s*(1-c)*(3438*15/896):=by
 have ba:=rH ha ha' hs c0 c1
 have cs:=Rat.mul_nonneg hs c0
 rcases Rat.le_total (a:=0) (b:=epi a s c) with h|h
 ·have m:=rO (a:=0) (b:=epi a s c) (by grind) h (by grind)
  rw[Da] at m
  rw[Rat.abs_of_nonneg (by grind)]
  grind
 ·have m:=rO (a:=epi a s c) (b:=0) (by grind) h (by grind)
  rw[Da] at m
  rw[Rat.abs_of_nonpos (by grind)]
  grind
theorem sG {t p:Rat} (h:0<p):sof (mof t p)=sof (((360:Int):Rat)*br t p):=by rw[lK h,kT]
theorem CS {x y k:Rat} (h:x<=y) (hk:0<=k):k*x<=k*y:=Rat.mul_le_mul_of_nonneg_left h hk
theorem oq {t u an s c d:Rat} {n:Int} (h:0<an) (hs:0<=s) (hs':s*3438<=449) (c0:0<=c) (c1:2*c<=1)
 (e:((360:Int):Rat)*br u an=((360:Int):Rat)*br t an+d+((360:Int):Rat)*((n:Int):Rat)):(eqv u an s c-eqv t an s c).abs <=s*(225/224)*d.abs:=by
 have l:=nR (((360:Int):Rat)*br t an+d) (((360:Int):Rat)*br t an)
 rw[show((360:Int):Rat)*br t an+d-((360:Int):Rat)*br t an=d by grind] at l
 have bt:=fN (((360:Int):Rat)*br t an)
 have bu:=fN (((360:Int):Rat)*br t an+d)
 have m:=MP (s:=s) (c:=c) bt.1 bt.2 bu.1 bu.2 hs hs' c0 c1
 unfold eqv
 rw[sG h,sG h,e,kT]
 have k:=CS l (k:=s*(3438*15/896)) (by grind)
 rw[show((60:Int):Rat)/((3438:Int):Rat)=60/3438 by decide+kernel] at k
 grind
theorem jC (t:Rat):(dt t).abs <=((22:Int):Rat)/((10:Int):Rat):=by
 have b:=fN (mof t pay)
 have m:=Al (s:=ssz) (c:=sch) b.1 b.2 (by decide+kernel) (by decide+kernel) (by decide+kernel) (by decide+kernel)
 have k:ssz*(1-sch)*(3438*15/896)<=((22:Int):Rat)/((10:Int):Rat):=by decide+kernel
 exact Rat.le_trans m k
theorem wB (t:Rat):(ii t).abs <=((51:Int):Rat)/((10:Int):Rat):=by
 have b:=fN (mof t pam)
 have m:=Al (s:=msz) (c:=mch) b.1 b.2 (by decide+kernel) (by decide+kernel) (by decide+kernel) (by decide+kernel)
 have k:msz*(1-mch)*(3438*15/896)<=((51:Int):Rat)/((10:Int):Rat):=by decide+kernel
 exact Rat.le_trans m k
theorem yd (x y:Rat):rmod (rmod x ((360:Int):Rat)-rmod y ((360:Int):Rat)) ((360:Int):Rat)=rmod (x-y) ((360:Int):Rat):=by
 rw[Ic bU,show rmod x ((360:Int):Rat)-y=rmod x ((360:Int):Rat)+ -y by grind,Ji bU,show x+ -y=x-y by grind]
theorem dJ {t d p:Rat}:br (t+d) p=br t p+d/p:=by unfold br;grind
theorem PF {t d p an s c:Rat} (hp:0<p):rmod (atv (t+d) p an s c-atv t p an s c) ((360:Int):Rat)=rmod (((360:Int):Rat)*(d/p)-(eqv (t+d) an s c-eqv t an s c)) ((360:Int):Rat):=by
 unfold atv
 rw[yd,lK (t:=t+d) hp,lK (t:=t) hp,dJ]
 rw[show((360:Int):Rat)*(br t p+d/p)+((360:Int):Rat)*(((-(br t p+d/p).floor :Int)):Rat)-eqv (t+d) an s c-(((360:Int):Rat)*br t p+((360:Int):Rat)*(((-(br t p).floor :Int)):Rat)-eqv t an s c)=(((360:Int):Rat)*(d/p)-(eqv (t+d) an s c-eqv t an s c))+((360:Int):Rat)*(((-(br t p+d/p).floor +(br t p).floor :Int)):Rat) by
  simp only [Rat.intCast_add,Rat.intCast_neg];grind]
 rw[lA _ bU]
theorem cv {x b:Rat} (h:x.abs<=b): -b<=x/\x<=b:=by have:=uX x;constructor <;> grind
theorem Hj (t:Rat):(dt (t+((1:Int):Rat))-dt t).abs <=ssz*(225/224)*(((360:Int):Rat)/pay).abs :=
 oq (n:=0) jS (by decide+kernel) (by decide+kernel) (by decide+kernel) (by decide+kernel) (by
  rw[dJ,Rat.intCast_zero,Rat.intCast_one,Rat.div_def,Rat.div_def];grind)
theorem LX (t:Rat):rmod (eg (t+((1:Int):Rat))-eg t) ((360:Int):Rat)=((360:Int):Rat)*(((1:Int):Rat)/pyr)-(dt (t+((1:Int):Rat))-dt t)/\9471/10000<((360:Int):Rat)*(((1:Int):Rat)/pyr)-(dt (t+((1:Int):Rat))-dt t)/\((360:Int):Rat)*(((1:Int):Rat)/pyr)-(dt (t+((1:Int):Rat))-dt t)<10242/10000:=by
 have l:=cv (Hj t)
 have k:ssz*(225/224)*(((360:Int):Rat)/pay).abs <385015/10000000:=by decide+kernel
 have k1:985602/1000000<((360:Int):Rat)*(((1:Int):Rat)/pyr):=by decide+kernel
 have k2:((360:Int):Rat)*(((1:Int):Rat)/pyr)<985603/1000000:=by decide+kernel
 have a:9471/10000<((360:Int):Rat)*(((1:Int):Rat)/pyr)-(dt (t+((1:Int):Rat))-dt t):=by grind
 have b:((360:Int):Rat)*(((1:Int):Rat)/pyr)-(dt (t+((1:Int):Rat))-dt t)<10242/10000:=by grind
 refine⟨?_,a,b⟩
 unfold eg
 rw[PF jf]
 exact BG (by unfold dt at a;grind) (by unfold dt at b;rw[fh] at*;grind)
theorem zN (t:Rat):0<=eg t:=fv bU
theorem xi (t:Rat):eg t<((360:Int):Rat):=eN bU
theorem mc (t:Rat):0<=bv t:=fv bU
theorem ls (t:Rat):bv t<((360:Int):Rat):=eN bU
theorem kg {x:Rat} {n:Int} (hn:0<n) (h0:0<=x) (h1:x<((360:Int):Rat)):0<=prt x n/\prt x n<n:=by
 have p:(0:Rat)<((n:Int):Rat):=Rat.intCast_pos.2 hn
 have q:(0:Rat)<((n:Int):Rat)/((360:Int):Rat):=by rw[Rat.div_def];exact Rat.mul_pos p (by decide+kernel)
 unfold prt
 constructor
 ·exact Rat.le_floor_iff.2 (by rw[Rat.intCast_zero];exact Rat.mul_nonneg h0 (by grind))
 ·refine Rat.floor_lt_iff.2 ?_
  have m:=(Rat.mul_lt_mul_right (c:=((n:Int):Rat)/((360:Int):Rat)) q).2 h1
  have e:((360:Int):Rat)*(((n:Int):Rat)/((360:Int):Rat))=((n:Int):Rat):=by rw[Rat.mul_comm];exact Rat.div_mul_cancel (by decide+kernel)
  rw[e] at m
  exact m
theorem Df (t:Rat) (n:Int):(dt (t+pyr*((n:Int):Rat))-dt t).abs <=((n.natAbs:Nat):Rat)*(15/10000000):=by
 have hd:((360:Int):Rat)*(pyr/pay)=360-360*387/4320000000:=by decide+kernel
 have m:=oq (t:=t) (u:=t+pyr*((n:Int):Rat)) (an:=pay) (s:=ssz) (c:=sch) (d:= -(360*387/4320000000)*((n:Int):Rat)) (n:=n) jS (by decide+kernel) (by decide+kernel) (by decide+kernel) (by decide+kernel) (by
  rw[dJ,show pyr*((n:Int):Rat)/pay=pyr/pay*((n:Int):Rat) by rw[Rat.div_def,Rat.div_def];grind,Rat.mul_add,<-Rat.mul_assoc,hd,fh];grind)
 refine Rat.le_trans m ?_
 have hn:(((n:Int):Rat)).abs =((n.natAbs:Nat):Rat):=by
  rcases Int.natAbs_eq n with e|e
  ·have h0:(0:Rat)<=((n:Int):Rat):=by rw[e];exact Rat.intCast_nonneg.2 (by omega)
   rw[Rat.abs_of_nonneg h0,<-Rat.intCast_natCast,<-e]
  ·have h0:((n:Int):Rat)<=0:=by rw[e,Rat.intCast_neg];have:(0:Rat)<=(((n.natAbs:Nat):Int):Rat):=Rat.intCast_nonneg.2 (by omega);grind
   rw[Rat.abs_of_nonpos h0,<-Rat.intCast_natCast,<-Rat.intCast_neg]
   congr 1;omega
 have ha:(-(360*387/4320000000)*((n:Int):Rat)).abs =360*387/4320000000*(((n:Int):Rat)).abs :=by
  unfold Rat.abs
  split <;> split <;> grind
 rw[ha,hn,uY.1]
 have:(0:Rat)<=((n.natAbs:Nat):Rat):=Rat.natCast_nonneg
 grind
theorem wn (x:Rat):pfr x=mfr (x/wd):=by
 have h:(0:Rat)<((96:Int):Rat):=by decide+kernel
 unfold pfr pk
 show mfr (rmod (x/wd) ((96:Int):Rat))=_
 rw[gW h]
 generalize (x/wd/((96:Int):Rat)).floor =n
 rw[show x/wd+((96:Int):Rat)*(((-n:Int)):Rat)=x/wd+((96* -n:Int):Rat) by rw[Rat.intCast_mul],IM]
theorem fL {x:Rat} {k:Nat} (h:av x k):av (sof x) (k+12):=by
 rw[<-nY,wn]
 exact(dX (bP (eC (dC _).1 (dC _).2) (bm (vk (dX h rj)) (eC (fk _).1 (fk _).2))) (eC (n:=3438) (by decide) (by decide))).up _ (by omega)
theorem Mq {a s c:Rat} {k j i:Nat} (h:av a k) (hs:av s j) (hc:av c i):av (epi a s c) (2*k+2*j+i+1):=(bm h (cD hs (bm (bm (hZ h) hc) hs))).up _ (by omega)
theorem B5 {t an s c:Rat} {k l j i:Nat} (h:av t k) (ha:av an l) (hs:av s j) (hc:av c i):av (eqv t an s c) (2*k+2*l+2*j+i+60):=(mS (Mq (fL (kY h ha)) hs hc)).up _ (by omega)
theorem BS {t p an s c:Rat} {k m l j i:Nat} (h:av t k) (hp:av p m) (ha:av an l) (hs:av s j) (hc:av c i):av (atv t p an s c) (3*k+m+2*l+2*j+i+80):=(gz (cD (kY h hp) (B5 h ha hs hc))).up _ (by omega)
theorem Ca:av ssz 2:=lw (by decide) (by decide) (by decide) (by decide)
theorem Bd:av sch 2:=lw (by decide) (by decide) (by decide) (by decide)
theorem Cn:av msz 2:=lw (by decide) (by decide) (by decide) (by decide)
theorem BV:av mch 2:=lw (by decide) (by decide) (by decide) (by decide)
theorem jc {t:Rat} {k:Nat} (h:av t k):av (eg t) (3*k+100):=(BS h ol kF Ca Bd).up _ (by omega)
theorem nh {t:Rat} {k:Nat} (h:av t k):av (pN t) (3*k+100):=(BS h sF sy Cn BV).up _ (by omega)
theorem pR {t:Rat} {k:Nat} (h:av t k):av (bv t) (6*k+210):=(gz (cD (nh h) (jc h))).up _ (by omega)
theorem qOf {v1:Value} {p1:Rat} {k1:Nat} {w:World} (hT:bE w) (x1:Rl p1 k1 w v1) (a1:k1<=800:=by omega):CP 259 #[v1] w (Ret (kq (sof (p1)) ((k1+12))) w):=bf (Bs _ (p1) k1 _ hT x1.1 x1.2 (by omega)) (fL x1.2)
theorem Co {v1:Value} {p1:Rat} {k1:Nat} {w:World} (hT:bE w) (x1:Rl p1 k1 w v1) (a1:k1<=700:=by omega):CP 269 #[v1] w (Ret (kq (sof ((p1)+((90:Int):Rat))) ((k1+2+1+12))) w):=bf (IG _ (p1) k1 _ hT x1.1 x1.2 (by omega)) (fL (bP x1.2 (eC (n:=90) (by decide) (by decide))))
theorem Jp {v1:Value} {p1:Rat} {k1:Nat} {w:World} (hT:bE w) (x1:Rl p1 k1 w v1) (a1:k1<=1000:=by omega):CP 261 #[v1] w (Ret (kq (bF (p1)) ((k1+20))) w):=bf (Jt _ (p1) k1 _ hT x1.1 x1.2 (by omega)) (mS x1.2)
def cz (t:Rat):Rat:=((360:Int):Rat)*br t pyr-dt t
def jm (t:Rat):Rat:=((360:Int):Rat)*br t pmo-ii t
def phU (t:Rat):Rat:=jm t-cz t
theorem qP (t:Rat):eg t=rmod (cz t) ((360:Int):Rat):=by
 unfold eg cz dt atv
 rw[lK (t:=t) jf,show((360:Int):Rat)*br t pyr+((360:Int):Rat)*(((-(br t pyr).floor :Int)):Rat)-eqv t pay ssz sch=(((360:Int):Rat)*br t pyr-eqv t pay ssz sch)+((360:Int):Rat)*(((-(br t pyr).floor :Int)):Rat) by grind,lA _ bU]
theorem MV (t:Rat):pN t=rmod (jm t) ((360:Int):Rat):=by
 unfold pN jm ii atv
 rw[lK (t:=t) LT,show((360:Int):Rat)*br t pmo+((360:Int):Rat)*(((-(br t pmo).floor :Int)):Rat)-eqv t pam msz mch=(((360:Int):Rat)*br t pmo-eqv t pam msz mch)+((360:Int):Rat)*(((-(br t pmo).floor :Int)):Rat) by grind,lA _ bU]
theorem zB (t:Rat):bv t=rmod (phU t) ((360:Int):Rat):=by
 unfold bv phU
 rw[MV,qP,yd]
theorem qi (t d:Rat):(dt (t+d)-dt t).abs <=ssz*(225/224)*(((360:Int):Rat)*(d/pay)).abs :=
 oq (n:=0) jS (by decide+kernel) (by decide+kernel) (by decide+kernel) (by decide+kernel) (by rw[dJ,Rat.intCast_zero];grind)
theorem FA (t d:Rat):(ii (t+d)-ii t).abs <=msz*(225/224)*(((360:Int):Rat)*(d/pam)).abs :=
 oq (n:=0) vt (by decide+kernel) (by decide+kernel) (by decide+kernel) (by decide+kernel) (by rw[dJ,Rat.intCast_zero];grind)
theorem xf {s c d:Rat} (hs:0<=s) (hc:0<c) (hd:0<=d):s*(((360:Int):Rat)*(d/c)).abs =s*((360:Int):Rat)/c*d:=by
 have h:(0:Rat)<=((360:Int):Rat)*(d/c):=Rat.mul_nonneg (by decide) (by rw[Rat.div_def];exact Rat.mul_nonneg hd (Rat.le_of_lt (Rat.inv_pos.2 hc)))
 rw[Rat.abs_of_nonneg h,Rat.div_def,Rat.div_def];grind
theorem mB (t:Rat) {d:Rat} (hd:0<=d):9471/10000*d<=cz (t+d)-cz t/\cz (t+d)-cz t<=10242/10000*d:=by
 have l:=cv (qi t d)
 rw[xf (s:=ssz*(225/224)) (by decide+kernel) jS hd] at l
 have k:ssz*(225/224)*((360:Int):Rat)/pay<385015/10000000:=by decide+kernel
 have k1:985602/1000000<((360:Int):Rat)/pyr:=by decide+kernel
 have k2:((360:Int):Rat)/pyr<985603/1000000:=by decide+kernel
 have e:cz (t+d)-cz t=((360:Int):Rat)/pyr*d-(dt (t+d)-dt t):=by
  unfold cz;rw[dJ,Rat.div_def,Rat.div_def];grind
 have m:=Rat.mul_nonneg (a:=385015/10000000-ssz*(225/224)*((360:Int):Rat)/pay) (b:=d) (by grind) hd
 have m1:=Rat.mul_nonneg (a:=((360:Int):Rat)/pyr-985602/1000000) (b:=d) (by grind) hd
 have m2:=Rat.mul_nonneg (a:=985603/1000000-((360:Int):Rat)/pyr) (b:=d) (by grind) hd
 rw[e]
 generalize ssz*(225/224)*((360:Int):Rat)/pay=x at*
 generalize ((360:Int):Rat)/pyr=y at*
 constructor <;> grind
theorem Fm (t:Rat) {d:Rat} (hd:0<=d):12009/1000*d<=jm (t+d)-jm t/\jm (t+d)-jm t<=14343/1000*d:=by
 have l:=cv (FA t d)
 rw[xf (s:=msz*(225/224)) (by decide+kernel) vt hd] at l
 have k:msz*(225/224)*((360:Int):Rat)/pam<11666/10000:=by decide+kernel
 have k1:1317635/100000<((360:Int):Rat)/pmo:=by decide+kernel
 have k2:((360:Int):Rat)/pmo<1317636/100000:=by decide+kernel
 have e:jm (t+d)-jm t=((360:Int):Rat)/pmo*d-(ii (t+d)-ii t):=by
  unfold jm;rw[dJ,Rat.div_def,Rat.div_def];grind
 have m:=Rat.mul_nonneg (a:=11666/10000-msz*(225/224)*((360:Int):Rat)/pam) (b:=d) (by grind) hd
 have m1:=Rat.mul_nonneg (a:=((360:Int):Rat)/pmo-1317635/100000) (b:=d) (by grind) hd
 have m2:=Rat.mul_nonneg (a:=1317636/100000-((360:Int):Rat)/pmo) (b:=d) (by grind) hd
 rw[e]
 generalize msz*(225/224)*((360:Int):Rat)/pam=x at*
 generalize ((360:Int):Rat)/pmo=y at*
 constructor <;> grind
theorem kU (t:Rat) {d:Rat} (hd:0<=d):1098/100*d<=phU (t+d)-phU t/\phU (t+d)-phU t<=134/10*d:=by
 have a:=mB t hd
 have b:=Fm t hd
 unfold phU
 constructor <;> grind
theorem vD (t d:Rat):((360:Int):Rat)/psy*d-146/10<=phU (t+d)-phU t/\phU (t+d)-phU t<=((360:Int):Rat)/psy*d+146/10:=by
 have a1:=cv (jC t)
 have a2:=cv (jC (t+d))
 have b1:=cv (wB t)
 have b2:=cv (wB (t+d))
 have c:((22:Int):Rat)/((10:Int):Rat)=22/10:=by decide+kernel
 have c':((51:Int):Rat)/((10:Int):Rat)=51/10:=by decide+kernel
 rw[c] at a1 a2
 rw[c'] at b1 b2
 have k:((360:Int):Rat)/psy=((360:Int):Rat)/pmo-((360:Int):Rat)/pyr:=by decide+kernel
 have e:phU (t+d)-phU t=((360:Int):Rat)/psy*d-(ii (t+d)-ii t)+(dt (t+d)-dt t):=by
  unfold phU jm cz;rw[k,dJ,dJ,Rat.div_def,Rat.div_def,Rat.div_def,Rat.div_def];grind
 rw[e]
 constructor <;> grind
def full (t:Rat):Bool:=decide (((180:Int):Rat)<=bv t)
def turn (t:Rat):Int:=(phU t/((360:Int):Rat)).floor
theorem dL (t:Rat):((360:Int):Rat)*((turn t:Int):Rat)<=phU t/\phU t<((360:Int):Rat)*((turn t:Int):Rat)+360:=by
 have a:=fe (phU t/((360:Int):Rat))
 have b:=fA (phU t/((360:Int):Rat))
 have e:phU t=phU t/((360:Int):Rat)*((360:Int):Rat):=(Rat.div_mul_cancel (by decide)).symm
 unfold turn
 rw[fh] at*
 constructor <;> grind
theorem BZ {t:Rat} {j:Int} (h0:((360:Int):Rat)*((j:Int):Rat)<=phU t) (h1:phU t<((360:Int):Rat)*((j:Int):Rat)+360):turn t=j:=by
 have b:=dL t
 rw[fh] at*
 have u:((turn t:Int):Rat)<((j+1:Int):Rat):=by rw[Rat.intCast_add,Rat.intCast_one];grind
 have l:((j:Int):Rat)<((turn t+1:Int):Rat):=by rw[Rat.intCast_add,Rat.intCast_one];grind
 have:=Rat.intCast_lt_intCast.1 u
 have:=Rat.intCast_lt_intCast.1 l
 omega
theorem jZ (t:Rat):bv t=phU t-((360:Int):Rat)*((turn t:Int):Rat):=by
 rw[zB,gW bU]
 unfold turn
 rw[Rat.intCast_neg];grind
theorem lF (t:Rat) {d:Rat} (h0:0<=d) (h1:d<=1):(turn (t+d)=turn t/\bv (t+d)=bv t+(phU (t+d)-phU t))\/(turn (t+d)=turn t+1/\bv (t+d)=bv t+(phU (t+d)-phU t)-360):=by
 have r:=kU t h0
 have b:=dL t
 have c:=dL (t+d)
 have p:=jZ t
 have q:=jZ (t+d)
 rw[fh] at*
 by_cases h:phU (t+d)<360*((turn t:Int):Rat)+360
 ·have e:turn (t+d)=turn t:=BZ (by rw[fh];grind) (by rw[fh];grind)
  rw[e] at q
  exact .inl ⟨e,by grind⟩
 ·have e:turn (t+d)=turn t+1:=BZ (by rw[fh,Rat.intCast_add,Rat.intCast_one];grind) (by rw[fh,Rat.intCast_add,Rat.intCast_one];grind)
  rw[e,Rat.intCast_add,Rat.intCast_one] at q
  exact .inr ⟨e,by grind⟩
theorem kK (t:Rat):0<=bv t/\bv t<360:=by
 have a:=mc t
 have b:=ls t
 rw[fh] at b
 exact⟨a,b⟩
theorem mV (t:Rat) {d:Rat} (h0:0<=d) (h1:d<=1):(full t=true/\full (t+d)=false)↔turn (t+d)=turn t+1:=by
 have r:=kU t h0
 have a:=kK t
 have b:=kK (t+d)
 unfold full
 rw[decide_eq_true_iff,decide_eq_false_iff_not,show((180:Int):Rat)=180 from rfl]
 rcases lF t h0 h1 with⟨e,p⟩|⟨e,p⟩
 ·constructor
  ·rintro⟨x,y⟩;exact absurd (show 180<=bv (t+d) by grind) y
  ·intro x;omega
 ·constructor
  ·intro _;exact e
  ·intro _;exact⟨by grind,by grind⟩
def aP (n:Int):Int:=turn ((n:Int):Rat)
def aN (n:Int):Bool:=full ((n:Int):Rat) && !full (((n+1:Int)):Rat)
theorem ft (n:Int):(((n+1:Int)):Rat)=((n:Int):Rat)+1:=by rw[Rat.intCast_add,Rat.intCast_one]
theorem cS (n:Int):aN n=true↔aP (n+1)=aP n+1:=by
 have h:=mV ((n:Int):Rat) (d:=1) (by decide) (by decide)
 unfold aN aP
 rw[ft,<-h,Bool.and_eq_true,Bool.not_eq_true']
theorem kt (n:Int):aP (n+1)=aP n\/aP (n+1)=aP n+1:=by
 unfold aP
 rw[ft]
 rcases lF ((n:Int):Rat) (d:=1) (by decide) (by decide) with h|h
 ·exact .inl h.1
 ·exact .inr h.1
theorem I3 (n:Int) (k:Nat):aP n<=aP (n+k):=by
 induction k with
 |zero=>rw[show n+((0:Nat):Int)=n by omega];exact Int.le_refl _
 |succ k ih=>
  rw[show n+((k+1:Nat):Int)=n+k+1 by omega]
  have:=kt (n+k)
  omega
theorem dv {a b:Int} (h:a<=b):aP a<=aP b:=by
 have:=I3 a (b-a).toNat
 rwa[show a+(((b-a).toNat :Nat):Int)=b by omega] at this
theorem iS {a b:Int} (h:a<=b) (no:∀m,a<=m->m<b->¬aN m=true):aP b=aP a:=by
 have key:∀k:Nat,a+k<=b->aP (a+k)=aP a:=by
  intro k
  induction k with
  |zero=>intro _;rw[show a+((0:Nat):Int)=a by omega]
  |succ k ih=>
   intro hk
   rw[show a+((k+1:Nat):Int)=a+k+1 by omega]
   have h1:=ih (by omega)
   have h2:=no (a+k) (by omega) (by omega)
   rw[cS] at h2
   have:=kt (a+k)
   omega
 have:=key (b-a).toNat (by omega)
 rwa[show a+(((b-a).toNat :Nat):Int)=b by omega] at this
theorem LH {a f:Int} (h:a<=f) (g:aP a<aP f):∃L,a<=L/\L<f/\aN L=true/\∀m,L<m->m<f->¬aN m=true:=by
 have key:∀k:Nat,k<=(f-a).toNat ->aP (f-k)<aP f->∃L,f-k<=L/\L<f/\aN L=true/\∀m,L<m->m<f->¬aN m=true:=by
  intro k
  induction k with
  |zero=>intro _ x;rw[show f-((0:Nat):Int)=f by omega] at x;omega
  |succ k ih=>
   intro hk x
   by_cases y:aP (f-k)<aP f
   ·obtain⟨L,l1,l2,l3,l4⟩:=ih (by omega) y
    exact⟨L,by omega,l2,l3,l4⟩
   ·have z:=dv (a:=f-k) (b:=f) (by omega)
    refine⟨f-((k+1:Nat):Int),Int.le_refl _,by omega,?_,?_⟩
    ·rw[cS,show f-((k+1:Nat):Int)+1=f-k by omega]
     have:=kt (f-((k+1:Nat):Int))
     rw[show f-((k+1:Nat):Int)+1=f-k by omega] at this
     omega
    ·intro m m1 m2 c
     rw[cS] at c
     have p:=dv (a:=f-k) (b:=m) (by omega)
     have q:=dv (a:=m+1) (b:=f) (by omega)
     omega
 have:=key (f-a).toNat (Nat.le_refl _) (by rwa[show f-(((f-a).toNat :Nat):Int)=a by omega])
 rwa[show f-(((f-a).toNat :Nat):Int)=a by omega] at this
theorem BI (f:Int):∃L,f-34<=L/\L<f/\aN L=true/\∀m,L<m->m<f->¬aN m=true:=by
 refine LH (a:=f-34) (by omega) ?_
 have r:=(kU (((f-34:Int)):Rat) (d:=34) (by decide)).1
 have a:=dL (((f-34:Int)):Rat)
 have b:=dL ((f:Int):Rat)
 rw[show(((f-34:Int)):Rat)+34=((f:Int):Rat) by rw[Rat.intCast_sub,show((34:Int):Rat)=34 from rfl];grind] at r
 rw[fh] at*
 unfold aP
 have u:((turn (((f-34:Int)):Rat):Int):Rat)<((turn ((f:Int):Rat):Int):Rat):=by grind
 exact Rat.intCast_lt_intCast.1 u
theorem BU {n:Int} (h:aN n=true):∃m,n+28<=m/\m<=n+31/\aN m=true/\∀k,n<k->k<m->¬aN k=true:=by
 rw[cS] at h
 have k1:((360:Int):Rat)/psy<12191/1000:=by decide+kernel
 have k2:1219/100<((360:Int):Rat)/psy:=by decide+kernel
 have c0:=dL ((n:Int):Rat)
 have c1:=dL (((n+1:Int)):Rat)
 have c2:=dL (((n+28:Int)):Rat)
 have c3:=dL (((n+32:Int)):Rat)
 have r1:=(vD ((n:Int):Rat) 28).2
 have r2:=(vD (((n+1:Int)):Rat) 31).1
 rw[show((n:Int):Rat)+28=(((n+28:Int)):Rat) by rw[Rat.intCast_add];rfl] at r1
 rw[show(((n+1:Int)):Rat)+31=(((n+32:Int)):Rat) by rw[Rat.intCast_add,Rat.intCast_add,show((32:Int):Rat)=32 from rfl,Rat.intCast_one];grind] at r2
 unfold aP at h
 rw[h,Rat.intCast_add,Rat.intCast_one] at c1
 rw[fh] at*
 generalize (360:Rat)/psy=s at*
 have u:((turn (((n+28:Int)):Rat):Int):Rat)<((turn ((n:Int):Rat)+2:Int):Rat):=by rw[show((turn ((n:Int):Rat)+2:Int):Rat)=((turn ((n:Int):Rat):Int):Rat)+2 from Rat.intCast_add _ _];grind
 have l:((turn ((n:Int):Rat)+1:Int):Rat)<((turn (((n+32:Int)):Rat):Int):Rat):=by rw[show((turn ((n:Int):Rat)+1:Int):Rat)=((turn ((n:Int):Rat):Int):Rat)+1 from Rat.intCast_add _ _];grind
 have u:=Rat.intCast_lt_intCast.1 u
 have l:=Rat.intCast_lt_intCast.1 l
 have e1:aP (n+1)=aP n+1:=h
 have u:aP (n+28)<aP n+2:=u
 have l:aP n+1<aP (n+32):=l
 have up:aP (n+1)<=aP (n+28):=dv (by omega)
 -- the first one behind day n+28
 have key:∀k:Nat,aP (n+28)<aP (n+28+k)->∃m,n+28<=m/\m<n+28+k/\aN m=true/\∀j,n+28<=j->j<m->¬aN j=true:=by
  intro k
  induction k with
  |zero=>intro x;rw[show n+28+((0:Nat):Int)=n+28 by omega] at x;omega
  |succ k ih=>
   intro x
   by_cases y:aP (n+28)<aP (n+28+k)
   ·obtain⟨m,m1,m2,m3,m4⟩:=ih y
    exact⟨m,m1,by omega,m3,m4⟩
   ·have z:=dv (a:=n+28) (b:=n+28+k) (by omega)
    rw[show n+28+((k+1:Nat):Int)=n+28+k+1 by omega] at x
    refine⟨n+28+k,by omega,by omega,?_,?_⟩
    ·rw[cS]
     have:=kt (n+28+k)
     omega
    ·intro j j1 j2 c
     rw[cS] at c
     have p:=dv (a:=n+28) (b:=j) (by omega)
     have q:=dv (a:=j+1) (b:=n+28+k) (by omega)
     omega
 obtain⟨m,m1,m2,m3,m4⟩:=key 4 (by rw[show n+28+((4:Nat):Int)=n+32 by omega];omega)
 refine⟨m,m1,by omega,m3,fun k k1 k2 c=>?_⟩
 by_cases hk:n+28<=k
 ·exact m4 k hk k2 c
 ·rw[cS] at c
  have p:=dv (a:=n+1) (b:=k) (by omega)
  have q:=dv (a:=k+1) (b:=n+28) (by omega)
  omega
theorem FW {t:Rat} {f L:Int} (hf:f=t.floor) (no:¬(full ((f:Int):Rat)=true/\full t=false)) (hL:L<f) (hc:aN L=true) (hn:∀m,L<m->m<f->¬aN m=true):L<=(t-bv t*(((10:Int):Rat)/((135:Int):Rat))).floor :=by
 have f0:((f:Int):Rat)<=t:=by rw[hf];exact fe t
 have f1:t<((f:Int):Rat)+1:=by rw[hf];exact fA t
 have e:((f:Int):Rat)+(t-((f:Int):Rat))=t:=by grind
 have s:=lF ((f:Int):Rat) (d:=t-((f:Int):Rat)) (by grind) (by grind)
 have i:=mV ((f:Int):Rat) (d:=t-((f:Int):Rat)) (by grind) (by grind)
 rw[e] at s i
 have ht:turn t=aP f:=by
  rcases s with s|s
  ·exact s.1
  ·exact absurd (i.2 s.1) no
 have hb:=iS (a:=L+1) (b:=f) (by omega) fun m h1 h2=>hn m (by omega) h2
 rw[cS] at hc
 have hJ:turn t=turn ((L:Int):Rat)+1:=by rw[ht,hb];exact hc
 have c:=dL ((L:Int):Rat)
 have p:=jZ t
 have pb:=kK t
 have Lf:=cM (show L+1<=f by omega)
 rw[Rat.intCast_add,Rat.intCast_one] at Lf
 have r:=(kU ((L:Int):Rat) (d:=t-((L:Int):Rat)) (by grind)).2
 rw[show((L:Int):Rat)+(t-((L:Int):Rat))=t by grind] at r
 rw[hJ,Rat.intCast_add,Rat.intCast_one] at p
 rw[fh] at*
 refine Rat.le_floor_iff.2 ?_
 rw[show((10:Int):Rat)/((135:Int):Rat)=10/135 by decide+kernel]
 grind
def atR (lo hi:Rat) (k n:Int):Rat:=lo+(hi-lo)*(((k:Int):Rat)/((n:Int):Rat))
def hlv (p:Rat->Bool) (lo hi:Rat):Nat->Int
 |0=>0
 |n+1=>if p (atR lo hi (2*hlv p lo hi n+1) (2^(n+1)))=true then 2*hlv p lo hi n else 2*hlv p lo hi n+1
theorem pg (n:Nat):(0:Int)<2^n:=Int.pow_pos (by decide)
theorem mX (n:Nat):(2:Int)^(n+1)=2*2^n:=by rw[Int.pow_succ,Int.mul_comm]
theorem km (p:Rat->Bool) (lo hi:Rat) (n:Nat):0<=hlv p lo hi n/\hlv p lo hi n<2^n:=by
 induction n with
 |zero=>exact⟨Int.le_refl _,by show(0:Int)<1;decide⟩
 |succ n ih=>
  have e:=mX n
  unfold hlv
  split <;> omega
theorem sB {n:Int} (h:n≠0):((n:Int):Rat)≠0:=fun e=>h (Rat.intCast_inj.1 (by rw[e,Rat.intCast_zero]))
theorem C0 (k:Int) {n c:Int} (hn:n≠0) (hc:c≠0):((k*c:Int):Rat)/((n*c:Int):Rat)=((k:Int):Rat)/((n:Int):Rat):=by
 have h1:=sB hn
 have h2:=sB hc
 rw[Rat.intCast_mul,Rat.intCast_mul]
 generalize ((n:Int):Rat)=x at*
 generalize ((c:Int):Rat)=y at*
 generalize ((k:Int):Rat)=z at*
 grind
theorem wS (lo hi:Rat) (k:Int) {n c:Int} (hn:n≠0) (hc:c≠0):atR lo hi (k*c) (n*c)=atR lo hi k n:=by unfold atR;rw[C0 k hn hc]
theorem LG (lo hi:Rat) (k:Int) {n:Int} (hn:n≠0):(atR lo hi k n+atR lo hi (k+1) n)*(((1:Int):Rat)/((2:Int):Rat))=atR lo hi (2*k+1) (2*n):=by
 have h1:=sB hn
 unfold atR
 rw[Rat.intCast_add,Rat.intCast_add,Rat.intCast_mul,Rat.intCast_mul,show((1:Int):Rat)=1 from rfl,show((2:Int):Rat)=2 from rfl]
 generalize ((n:Int):Rat)=x at*
 generalize ((k:Int):Rat)=z at*
 grind
theorem LP (lo hi:Rat) (k:Int) {n:Int} (hn:n≠0):atR lo hi (k+1) n-atR lo hi k n=(hi-lo)*(((1:Int):Rat)/((n:Int):Rat)):=by
 have h1:=sB hn
 unfold atR
 rw[Rat.intCast_add,show((1:Int):Rat)=1 from rfl]
 generalize ((n:Int):Rat)=x at*
 generalize ((k:Int):Rat)=z at*
 grind
theorem Jx (lo hi:Rat) (n:Int):atR lo hi 0 n=lo:=by unfold atR;rw[Rat.intCast_zero,Rat.div_def,Rat.zero_mul,Rat.mul_zero,Rat.add_zero]
theorem Nu (lo hi:Rat):atR lo hi 1 1=hi:=by unfold atR;rw[show((1:Int):Rat)/((1:Int):Rat)=1 by decide+kernel];grind
def hlo (p:Rat->Bool) (lo hi:Rat) (n:Nat):Rat:=atR lo hi (hlv p lo hi n) (2^n)
def hhi (p:Rat->Bool) (lo hi:Rat) (n:Nat):Rat:=atR lo hi (hlv p lo hi n+1) (2^n)
def hmi (p:Rat->Bool) (lo hi:Rat) (n:Nat):Rat:=atR lo hi (2*hlv p lo hi n+1) (2^(n+1))
theorem zk (p:Rat->Bool) (lo hi:Rat):hlo p lo hi 0=lo:=Jx lo hi _
theorem ze (p:Rat->Bool) (lo hi:Rat):hhi p lo hi 0=hi:=Nu lo hi
theorem Nh (p:Rat->Bool) (lo hi:Rat) (n:Nat):(hlo p lo hi n+hhi p lo hi n)*(((1:Int):Rat)/((2:Int):Rat))=hmi p lo hi n:=by
 unfold hlo hhi hmi
 rw[LG lo hi _ (by have:=pg n;omega),mX]
theorem KK {p:Rat->Bool} {lo hi:Rat} {n:Nat} (h:p (hmi p lo hi n)=true):hlv p lo hi (n+1)=2*hlv p lo hi n:=by show(if _ then _ else _)=_;exact if_pos h
theorem Kl {p:Rat->Bool} {lo hi:Rat} {n:Nat} (h:p (hmi p lo hi n)=false):hlv p lo hi (n+1)=2*hlv p lo hi n+1:=by show(if _ then _ else _)=_;exact if_neg (by rw[show p (atR lo hi (2*hlv p lo hi n+1) (2^(n+1)))=false from h];simp)
theorem J8 {p:Rat->Bool} {lo hi:Rat} {n:Nat} (h:p (hmi p lo hi n)=true):hlo p lo hi (n+1)=hlo p lo hi n:=by
 unfold hlo
 rw[KK h,mX,Int.mul_comm 2 (hlv p lo hi n),Int.mul_comm 2 (2^n)]
 exact wS lo hi _ (by have:=pg n;omega) (by decide)
theorem Ko {p:Rat->Bool} {lo hi:Rat} {n:Nat} (h:p (hmi p lo hi n)=true):hhi p lo hi (n+1)=hmi p lo hi n:=by unfold hhi hmi;rw[KK h]
theorem K9 {p:Rat->Bool} {lo hi:Rat} {n:Nat} (h:p (hmi p lo hi n)=false):hlo p lo hi (n+1)=hmi p lo hi n:=by unfold hlo hmi;rw[Kl h]
theorem KN {p:Rat->Bool} {lo hi:Rat} {n:Nat} (h:p (hmi p lo hi n)=false):hhi p lo hi (n+1)=hhi p lo hi n:=by
 unfold hhi
 rw[Kl h,mX,show 2*hlv p lo hi n+1+1=(hlv p lo hi n+1)*2 by omega,Int.mul_comm 2 (2^n)]
 exact wS lo hi _ (by have:=pg n;omega) (by decide)
theorem Jm {p:Rat->Bool} {lo:Rat} (hi:Rat) (h:p lo=false) (n:Nat):p (hlo p lo hi n)=false:=by
 induction n with
 |zero=>rw[zk];exact h
 |succ n ih=>
  cases hm:p (hmi p lo hi n) with
  |true=>rw[J8 hm];exact ih
  |false=>rw[K9 hm];exact hm
theorem FZ {p:Rat->Bool} (lo:Rat) {hi:Rat} (h:p hi=true) (n:Nat):p (hhi p lo hi n)=true:=by
 induction n with
 |zero=>rw[ze];exact h
 |succ n ih=>
  cases hm:p (hmi p lo hi n) with
  |true=>rw[Ko hm];exact hm
  |false=>rw[KN hm];exact ih
theorem MA (p:Rat->Bool) (lo hi:Rat) (n:Nat):hhi p lo hi n-hlo p lo hi n=(hi-lo)*(((1:Int):Rat)/(((2^n:Int):Int):Rat)):=LP lo hi _ (by have:=pg n;omega)
theorem vX {n:Nat} (h:n<=64):(2:Int)^n<=18446744073709551616:=by
 have:(2:Nat)^n<=2^64:=Nat.pow_le_pow_right (by decide) h
 have e:((2^n:Nat):Int)=(2:Int)^n:=by rw[Int.natCast_pow];rfl
 rw[<-e];exact Int.ofNat_le.2 this
theorem O9 {n d:Int} {k:Nat} (h:n.natAbs<B32^k) (g:d.natAbs<B32^k) (hk:1<=k):av (((n:Int):Rat)/((d:Int):Rat)) (k+k):=dX (cK h hk) (cK g hk)
theorem vA {lo hi:Rat} {k n:Int} {i j:Nat} (h1:av lo i) (h2:av hi j) (hk:0<=k) (hk2:k<=n) (hn2:n<=18446744073709551616):av (atR lo hi k n) (2*i+j+8):=by
 have b:(18446744073709551616:Nat)<B32^3:=by decide+kernel
 exact(bP h1 (bm (cD h2 h1) (O9 (n:=k) (d:=n) (k:=3) (by omega) (by omega) (by decide)))).up _ (by omega)
theorem Ns {p:Rat->Bool} {lo hi:Rat} {i j n:Nat} (h1:av lo i) (h2:av hi j) (hn:n<=64):av (hlo p lo hi n) (2*i+j+8):=
 vA h1 h2 (km p lo hi n).1 (by have:=km p lo hi n;omega) (vX hn)
theorem BQ {p:Rat->Bool} {lo hi:Rat} {i j n:Nat} (h1:av lo i) (h2:av hi j) (hn:n<=64):av (hhi p lo hi n) (2*i+j+8):=
 vA h1 h2 (by have:=km p lo hi n;omega) (by have:=km p lo hi n;omega) (vX hn)
theorem Nv {p:Rat->Bool} {lo hi:Rat} {i j n:Nat} (h1:av lo i) (h2:av hi j) (hn:n<64):av (hmi p lo hi n) (2*i+j+8):=
 vA h1 h2 (by have:=km p lo hi n;omega) (by have:=km p lo hi n;have:=mX n;omega) (vX hn)
theorem wG {x:Rat} {n:Int} (hn:0<n):prt (rmod x ((360:Int):Rat)) n=(x*(((n:Int):Rat)/((360:Int):Rat))).floor %n:=by
 have np:(0:Rat)<((n:Int):Rat):=Rat.intCast_pos.2 hn
 have e:(rmod x ((360:Int):Rat))*(((n:Int):Rat)/((360:Int):Rat))=x*(((n:Int):Rat)/((360:Int):Rat))+((n*(-(x/((360:Int):Rat)).floor):Int):Rat):=by
  rw[gW bU,Rat.intCast_mul,Rat.div_def ((n:Int):Rat),fh];grind
 have b:=kg (x:=rmod x ((360:Int):Rat)) hn (fv bU) (eN bU)
 unfold prt at b ⊢
 rw[e,Rat.floor_add_intCast] at b ⊢
 have h:=Int.emod_eq_of_lt (b:=n) b.1 b.2
 rw[<-h,Int.add_mul_emod_self_left]
def skp (x:Rat):Int:=(x*(((1:Int):Rat)/((14:Int):Rat))).floor
theorem zl:((1:Int):Rat)/((14:Int):Rat)=1/14:=by decide+kernel
theorem yv {x:Rat} {m:Int} (h:x<=134/10*((m:Int):Rat)) (hm:0<m):skp x<=m-1:=by
 have c:=Rat.intCast_lt_intCast.2 hm
 have:skp x<m:=Rat.floor_lt_iff.2 (by rw[zl];rw[Rat.intCast_zero] at c;grind)
 omega
theorem yC {x:Rat} (h:0<=x):0<=skp x:=Rat.le_floor_iff.2 (by rw[zl,Rat.intCast_zero];grind)
theorem B3 {a b:Int} (h:a<=b):phU ((b:Int):Rat)-phU ((a:Int):Rat)<=134/10*(((b-a:Int)):Rat):=by
 have c:0<=(((b-a:Int)):Rat):=Rat.intCast_nonneg.2 (by omega)
 have r:=(kU ((a:Int):Rat) c).2
 have e:((a:Int):Rat)+(((b-a:Int)):Rat)=((b:Int):Rat):=by rw[<-Rat.intCast_add];congr 1;omega
 rwa[e] at r
theorem FQ {n L:Int} (h:L<n) (hc:aN L=true) (hn:∀m,L<m->m<n->¬aN m=true):0<=skp (bv ((n:Int):Rat))/\skp (bv ((n:Int):Rat))<=n-L-1:=by
 refine⟨yC (kK _).1,?_⟩
 have t1:aP n=aP (L+1):=iS (by omega) fun m h1 h2=>hn m (by omega) h2
 have t2:=(cS L).1 hc
 have a:=(dL ((L:Int):Rat)).2
 have q:=jZ ((n:Int):Rat)
 have r:=B3 (Int.le_of_lt h)
 have e:((turn ((n:Int):Rat):Int):Rat)=((turn ((L:Int):Rat):Int):Rat)+1:=by
  rw[show turn ((n:Int):Rat)=turn ((L:Int):Rat)+1 from t1.trans t2,Rat.intCast_add];rfl
 rw[e] at q
 rw[show((360:Int):Rat)=360 from rfl] at a q
 exact yv (by grind) (by omega)
theorem F7 {n M:Int} (h:n<M) (hc:aN M=true) (hn:∀k,n<k->k<M->¬aN k=true):0<=skp (((360:Int):Rat)-bv (((n+1:Int)):Rat))/\n+1+skp (((360:Int):Rat)-bv (((n+1:Int)):Rat))<=M:=by
 have p:=kK (((n+1:Int)):Rat)
 rw[show((360:Int):Rat)=360 from rfl]
 refine⟨yC (by grind),?_⟩
 have t1:aP M=aP (n+1):=iS (by omega) fun m h1 h2=>hn m (by omega) h2
 have t2:=(cS M).1 hc
 have a:=(dL (((M+1:Int)):Rat)).1
 have q:=jZ (((n+1:Int)):Rat)
 have r:=B3 (a:=n+1) (b:=M+1) (by omega)
 have e:((turn (((M+1:Int)):Rat):Int):Rat)=((turn (((n+1:Int)):Rat):Int):Rat)+1:=by
  rw[show turn (((M+1:Int)):Rat)=turn (((n+1:Int)):Rat)+1 from by rw[show turn (((M+1:Int)):Rat)=aP (M+1) from rfl,t2,t1];rfl,Rat.intCast_add];rfl
 rw[e] at a
 rw[show((360:Int):Rat)=360 from rfl] at a q
 have:=yv (x:=360-bv (((n+1:Int)):Rat)) (m:=M+1-(n+1)) (by grind) (by omega)
 omega
noncomputable def bL (f:Int):Int:=Classical.choose (BI f)
theorem ce (f:Int):f-34<=bL f/\bL f<f/\aN (bL f)=true/\∀m,bL f<m->m<f->¬aN m=true:=Classical.choose_spec (BI f)
def fW (t:Rat):Bool:=full ((t.floor:Int):Rat) && !full t
noncomputable def aA (t:Rat):Int:=if fW t=true then t.floor else bL t.floor
theorem nA {t:Rat} (h:fW t=true):aA t=t.floor:=if_pos h
theorem kG {t:Rat} (h:¬fW t=true):aA t=bL t.floor:=if_neg h
theorem pO (t:Rat):t.floor-34<=aA t/\aA t<=t.floor:=by
 have s:=ce t.floor
 unfold aA
 split <;> omega
theorem yV {f n:Int} (h:bL f<=n) (hn:n<f) (hc:aN n=true):n=bL f:=by
 have s:=ce f
 by_cases e:bL f<n
 ·exact absurd hc (s.2.2.2 n e hn)
 ·omega
theorem zH {f n:Int} (h:bL f<=n) (hc:¬aN n=true):bL f<n:=by
 have s:=ce f
 by_cases e:n=bL f
 ·rw[e] at hc;exact absurd s.2.2.1 hc
 ·omega
noncomputable def aw (n:Int):Int:=if h:aN n=true then Classical.choose (BU h) else 0
theorem bC {n:Int} (h:aN n=true):n+28<=aw n/\aw n<=n+31/\aN (aw n)=true/\∀k,n<k->k<aw n->¬aN k=true:=by
 unfold aw
 rw[dif_pos h]
 exact Classical.choose_spec (BU h)
theorem Iw {n m:Int} (h:aN n=true) (h1:n<m) (h2:m<=aw n) (hc:aN m=true):m=aw n:=by
 have s:=bC h
 by_cases e:m<aw n
 ·exact absurd hc (s.2.2.2 m h1 e)
 ·omega
theorem Ai (n:Int):fW ((n:Int):Rat)=false:=by
 unfold fW
 rw[Rat.floor_intCast]
 cases full ((n:Int):Rat) <;> rfl
end Go.Proofs.YtgdpkknapcgcbaaGreatDoor
