import Derived.Test.YtgdpkknapcgcbaaGreatDoorKB22
namespace Go.Proofs.YtgdpkknapcgcbaaGreatDoor
open Go.RowKit
set_option maxRecDepth 100000
set_option linter.unusedVariables false
set_option maxHeartbeats 8000000
def epi (a s c:Rat):Rat:=a*(s-a.abs*c*s)
def eqv (t an s c:Rat):Rat:=aW (epi (sof (mof t an)) s c)
def atv (t p an s c:Rat):Rat:=rmod (mof t p-eqv t an s c) ((360:Int):Rat)
def ssz:Rat:=((14:Int):Rat)/((360:Int):Rat)
def sch:Rat:=((1:Int):Rat)/((42:Int):Rat)
def msz:Rat:=((32:Int):Rat)/((360:Int):Rat)
def mch:Rat:=((1:Int):Rat)/((96:Int):Rat)
def dD (t:Rat):Rat:=eqv t pay ssz sch
def l8 (t:Rat):Rat:=eqv t pam msz mch
def bp (t:Rat):Rat:=atv t pyr pay ssz sch
def bK (t:Rat):Rat:=atv t pmo pam msz mch
def bM (t:Rat):Rat:=rmod (bK t-bp t) ((360:Int):Rat)
def prt (x:Rat) (n:Int):Int:=(x*(((n:Int):Rat)/((360:Int):Rat))).floor
theorem qq:ssz=7/180/\sch=1/42/\msz=4/45/\mch=1/96:=by decide+kernel
theorem C0 {h:Rat} (h1:h<=225):ay h=h/225:=by
 have s0:spk ((0:Nat):Int)=0:=by decide+kernel
 have s1:spk (((0:Nat):Int)+1)=225:=by decide+kernel
 have e:yk h=0:=by
  show(if h<=_ then _ else _)=_
  rw[if_pos]
  rw[s1];exact h1
 unfold ay
 rw[e,if_pos (by decide),s0,s1]
 rw[show((225-0:Int):Rat)=225 from rfl,show((0:Int):Rat)=0 from rfl,show(((0:Nat):Int):Rat)=0 from rfl]
 grind
theorem CI {h:Rat} (h0:225<h) (h1:h<=449):ay h=(h-225)/224+1:=by
 have s1:spk ((1:Nat):Int)=225:=by decide+kernel
 have s1':spk (((0:Nat):Int)+1)=225:=by decide+kernel
 have s2:spk (((1:Nat):Int)+1)=449:=by decide+kernel
 have s2':spk (((0+1:Nat):Int)+1)=449:=by decide+kernel
 have e:yk h=1:=by
  show(if h<=_ then _ else _)=_
  rw[if_neg]
  ·show(if h<=_ then _ else _)=_
   rw[if_pos]
   rw[s2'];exact h1
  ·rw[s1'];exact fun k=>by have k':h<=225:=k;grind
 unfold ay
 rw[e,if_pos (by decide),s1,s2]
 rw[show((449-225:Int):Rat)=224 from rfl,show((225:Int):Rat)=225 from rfl,show(((1:Nat):Int):Rat)=1 from rfl]
theorem uD {h:Rat} (h0: -449<=h) (h1:h<=449):(h< -225/\ap h=(h+225)/224-1)\/(-225<=h/\h<=225/\ap h=h/225)\/(225<h/\ap h=(h-225)/224+1):=by
 unfold ap
 by_cases hn:h<0
 ·rw[if_pos hn]
  by_cases hm: -h<=225
  ·right;left
   rw[C0 hm]
   refine⟨by grind,by grind,by grind⟩
  ·left
   rw[CI (by grind) (by grind)]
   refine⟨by grind,by grind⟩
 ·rw[if_neg hn]
  by_cases hm:h<=225
  ·right;left
   rw[C0 hm]
   refine⟨by grind,by grind,by grind⟩
  ·right;right
   rw[CI (by grind) (by grind)]
   refine⟨by grind,by grind⟩
theorem DH {g h:Rat} (h0: -449<=g) (h1:g<=h) (h2:h<=449):0<=ap h-ap g/\ap h-ap g<=(h-g)/224:=by
 rcases uD (h:=g) h0 (by grind) with⟨a,e⟩|⟨a,a',e⟩|⟨a,e⟩ <;> rcases uD (h:=h) (by grind) h2 with⟨b,f⟩|⟨b,b',f⟩|⟨b,f⟩ <;> rw[e,f] <;> constructor <;> grind
theorem Ft {a b:Rat} (ha: -1<=a) (hb:b<=1) (h:a<=b):0<=b*b.abs-a*a.abs/\b*b.abs-a*a.abs<=2*(b-a):=by
 by_cases a0:0<=a
 ·rw[Rat.abs_of_nonneg a0,Rat.abs_of_nonneg (by grind)]
  have m:=Rat.mul_nonneg (a:=b-a) (b:=b+a) (by grind) (by grind)
  have n:=Rat.mul_nonneg (a:=b-a) (b:=2-(b+a)) (by grind) (by grind)
  constructor <;> grind
 ·rw[Rat.abs_of_nonpos (x:=a) (by grind)]
  by_cases b0:0<=b
  ·rw[Rat.abs_of_nonneg b0]
   have m:=Rat.mul_nonneg (a:=b) (b:=1-b) (by grind) (by grind)
   have n:=Rat.mul_nonneg (a:= -a) (b:=1+a) (by grind) (by grind)
   have m':=Rat.mul_nonneg (a:=b) (b:=b) (by grind) (by grind)
   have n':=Rat.mul_nonneg (a:= -a) (b:= -a) (by grind) (by grind)
   constructor <;> grind
  ·rw[Rat.abs_of_nonpos (x:=b) (by grind)]
   have m:=Rat.mul_nonneg (a:=b-a) (b:= -(b+a)) (by grind) (by grind)
   have n:=Rat.mul_nonneg (a:=b-a) (b:=2+(b+a)) (by grind) (by grind)
   constructor <;> grind
theorem iu {a b s c:Rat} (ha: -1<=a) (hb:b<=1) (h:a<=b) (hs:0<=s) (c0:0<=c) (c1:2*c<=1):0<=epi b s c-epi a s c/\epi b s c-epi a s c<=s*(b-a):=by
 have hd:=Ft ha hb h
 have e:epi b s c-epi a s c=s*((b-a)-c*(b*b.abs-a*a.abs)):=by unfold epi;grind
 rw[e]
 generalize b*b.abs-a*a.abs=d at*
 have m:=Rat.mul_nonneg c0 hd.1
 have n:=Rat.mul_nonneg (a:=c) (b:=2*(b-a)-d) c0 (by grind)
 have o:=Rat.mul_nonneg (a:=1-2*c) (b:=b-a) (by grind) (by grind)
 have p:=Rat.mul_nonneg (a:=s) (b:=(b-a)-c*d) hs (by grind)
 have q:=Rat.mul_nonneg (a:=s) (b:=c*d) hs m
 constructor
 ·exact p
 ·grind
theorem nT {a s c:Rat} (h0: -1<=a) (h1:a<=1) (hs:0<=s) (c0:0<=c) (c1:2*c<=1): -(s*(1-c))<=epi a s c/\epi a s c<=s*(1-c):=by
 have u:=iu (a:=a) (b:=1) h0 (by grind) h1 hs c0 c1
 have v:=iu (a:= -1) (b:=a) (by grind) h1 h0 hs c0 c1
 have e1:epi 1 s c=s*(1-c):=by unfold epi;rw[Rat.abs_of_nonneg (by grind)];grind
 have e2:epi (-1) s c= -(s*(1-c)):=by unfold epi;rw[Rat.abs_of_nonpos (by grind)];grind
 rw[e1] at u
 rw[e2] at v
 constructor <;> grind
theorem tA {a b:Rat} (h0: -449<=a*3438) (h:a<=b) (h1:b*3438<=449):0<=aW b-aW a/\aW b-aW a<=(b-a)*(3438*15/896):=by
 have m:=DH (g:=a*3438) (h:=b*3438) h0 (by grind) h1
 unfold aW
 rw[dB,dr]
 constructor <;> grind
theorem BO {a b s c:Rat} (ha: -1<=a) (ha':a<=1) (hb: -1<=b) (hb':b<=1) (hs:0<=s) (hs':s*3438<=449) (c0:0<=c) (c1:2*c<=1):(aW (epi b s c)-aW (epi a s c)).abs <=s*(3438*15/896)*(b-a).abs :=by
 have ba:=nT ha ha' hs c0 c1
 have bb:=nT hb hb' hs c0 c1
 have cs:=Rat.mul_nonneg hs c0
 rcases Rat.le_total (a:=a) (b:=b) with h|h
 ·have l:=iu ha hb' h hs c0 c1
  have m:=tA (a:=epi a s c) (b:=epi b s c) (by grind) (by grind) (by grind)
  rw[Rat.abs_of_nonneg m.1,Rat.abs_of_nonneg (x:=b-a) (by grind)]
  grind
 ·have l:=iu hb ha' h hs c0 c1
  have m:=tA (a:=epi b s c) (b:=epi a s c) (by grind) (by grind) (by grind)
  rw[Rat.abs_of_nonpos (by grind),Rat.abs_of_nonpos (x:=b-a) (by grind)]
  grind
theorem mg {t p:Rat} (h:0<p):sof (mof t p)=sof (((360:Int):Rat)*aX t p):=by rw[ia h,j4]
theorem vC {x y k:Rat} (h:x<=y) (hk:0<=k):k*x<=k*y:=Rat.mul_le_mul_of_nonneg_left h hk
theorem oZ {t u an s c d:Rat} {n:Int} (h:0<an) (hs:0<=s) (hs':s*3438<=449) (c0:0<=c) (c1:2*c<=1)
 (e:((360:Int):Rat)*aX u an=((360:Int):Rat)*aX t an+d+((360:Int):Rat)*((n:Int):Rat)):(eqv u an s c-eqv t an s c).abs <=s*(225/224)*d.abs:=by
 have l:=lQ (((360:Int):Rat)*aX t an+d) (((360:Int):Rat)*aX t an)
 rw[show((360:Int):Rat)*aX t an+d-((360:Int):Rat)*aX t an=d by grind] at l
 have bt:=fc (((360:Int):Rat)*aX t an)
 have bu:=fc (((360:Int):Rat)*aX t an+d)
 have m:=BO (s:=s) (c:=c) bt.1 bt.2 bu.1 bu.2 hs hs' c0 c1
 unfold eqv
 rw[mg h,mg h,e,j4]
 have k:=vC l (k:=s*(3438*15/896)) (by grind)
 rw[show((60:Int):Rat)/((3438:Int):Rat)=60/3438 by decide+kernel] at k
 grind
theorem rV (x y:Rat):rmod (rmod x ((360:Int):Rat)-rmod y ((360:Int):Rat)) ((360:Int):Rat)=rmod (x-y) ((360:Int):Rat):=by
 rw[yQ aN,show rmod x ((360:Int):Rat)-y=rmod x ((360:Int):Rat)+ -y by grind,yW aN,show x+ -y=x-y by grind]
theorem fe {t d p:Rat}:aX (t+d) p=aX t p+d/p:=by unfold aX;grind
theorem C1 {t d p an s c:Rat} (hp:0<p):rmod (atv (t+d) p an s c-atv t p an s c) ((360:Int):Rat)=rmod (((360:Int):Rat)*(d/p)-(eqv (t+d) an s c-eqv t an s c)) ((360:Int):Rat):=by
 unfold atv
 rw[rV,ia (t:=t+d) hp,ia (t:=t) hp,fe]
 rw[show((360:Int):Rat)*(aX t p+d/p)+((360:Int):Rat)*(((-(aX t p+d/p).floor :Int)):Rat)-eqv (t+d) an s c-(((360:Int):Rat)*aX t p+((360:Int):Rat)*(((-(aX t p).floor :Int)):Rat)-eqv t an s c)=(((360:Int):Rat)*(d/p)-(eqv (t+d) an s c-eqv t an s c))+((360:Int):Rat)*(((-(aX t p+d/p).floor +(aX t p).floor :Int)):Rat) by
  simp only [Rat.intCast_add,Rat.intCast_neg];grind]
 rw[f8 _ aN]
theorem dQ {x b:Rat} (h:x.abs<=b): -b<=x/\x<=b:=by have:=nL x;constructor <;> grind
theorem zt (t:Rat):(dD (t+((1:Int):Rat))-dD t).abs <=ssz*(225/224)*(((360:Int):Rat)/pay).abs :=
 oZ (n:=0) gJ (by decide+kernel) (by decide+kernel) (by decide+kernel) (by decide+kernel) (by
  rw[fe,Rat.intCast_zero,Rat.intCast_one,Rat.div_def,Rat.div_def];grind)
theorem Bg (t:Rat):rmod (bp (t+((1:Int):Rat))-bp t) ((360:Int):Rat)=((360:Int):Rat)*(((1:Int):Rat)/pyr)-(dD (t+((1:Int):Rat))-dD t)/\9471/10000<((360:Int):Rat)*(((1:Int):Rat)/pyr)-(dD (t+((1:Int):Rat))-dD t)/\((360:Int):Rat)*(((1:Int):Rat)/pyr)-(dD (t+((1:Int):Rat))-dD t)<10242/10000:=by
 have l:=dQ (zt t)
 have k:ssz*(225/224)*(((360:Int):Rat)/pay).abs <385015/10000000:=by decide+kernel
 have k1:985602/1000000<((360:Int):Rat)*(((1:Int):Rat)/pyr):=by decide+kernel
 have k2:((360:Int):Rat)*(((1:Int):Rat)/pyr)<985603/1000000:=by decide+kernel
 have a:9471/10000<((360:Int):Rat)*(((1:Int):Rat)/pyr)-(dD (t+((1:Int):Rat))-dD t):=by grind
 have b:((360:Int):Rat)*(((1:Int):Rat)/pyr)-(dD (t+((1:Int):Rat))-dD t)<10242/10000:=by grind
 refine⟨?_,a,b⟩
 unfold bp
 rw[C1 oX]
 exact Bz (by unfold dD at a;grind) (by unfold dD at b;rw[eO] at*;grind)
theorem kL (t:Rat):0<=bp t:=cn aN
theorem jd (t:Rat):bp t<((360:Int):Rat):=bV aN
theorem k8 (t:Rat):0<=bK t:=cn aN
theorem jZ (t:Rat):bK t<((360:Int):Rat):=bV aN
theorem gw (t:Rat):0<=bM t:=cn aN
theorem fO (t:Rat):bM t<((360:Int):Rat):=bV aN
theorem dz {x:Rat} {n:Int} (hn:0<n) (h0:0<=x) (h1:x<((360:Int):Rat)):0<=prt x n/\prt x n<n:=by
 have p:(0:Rat)<((n:Int):Rat):=Rat.intCast_pos.2 hn
 have q:(0:Rat)<((n:Int):Rat)/((360:Int):Rat):=by rw[Rat.div_def];exact Rat.mul_pos p (by decide+kernel)
 unfold prt
 constructor
 ·exact Rat.le_floor_iff.2 (by rw[Rat.intCast_zero];exact Rat.mul_nonneg h0 (by grind))
 ·refine Rat.floor_lt_iff.2 ?_
  have m:=(Rat.mul_lt_mul_right (c:=((n:Int):Rat)/((360:Int):Rat)) q).2 h1
  have e:((360:Int):Rat)*(((n:Int):Rat)/((360:Int):Rat))=((n:Int):Rat):=by rw[Rat.mul_comm];exact Rat.div_mul_cancel (by decide+kernel)
  rw[e] at m
  exact m
theorem ph (x:Rat):pfr x=mfr (x/wd):=by
 have h:(0:Rat)<((96:Int):Rat):=by decide+kernel
 unfold pfr pk
 show mfr (rmod (x/wd) ((96:Int):Rat))=_
 rw[dP h]
 generalize (x/wd/((96:Int):Rat)).floor =n
 rw[show x/wd+((96:Int):Rat)*(((-n:Int)):Rat)=x/wd+((96* -n:Int):Rat) by rw[Rat.intCast_mul],xY]
theorem dL {x:Rat} {k:Nat} (h:ag x k):ag (sof x) (k+12):=by
 rw[<-lh,ph]
 exact(cL (aV (eS (cO _).1 (cO _).2) (aH (pm (cL h li)) (eS (dA _).1 (dA _).2))) (eS (n:=3438) (by decide) (by decide))).up _ (by omega)
theorem BG {a s c:Rat} {k j i:Nat} (h:ag a k) (hs:ag s j) (hc:ag c i):ag (epi a s c) (2*k+2*j+i+1):=(aH h (bI hs (aH (aH (iT h) hc) hs))).up _ (by omega)
theorem tC {t an s c:Rat} {k l j i:Nat} (h:ag t k) (ha:ag an l) (hs:ag s j) (hc:ag c i):ag (eqv t an s c) (2*k+2*l+2*j+i+60):=(kj (BG (dL (md h ha)) hs hc)).up _ (by omega)
theorem uu {t p an s c:Rat} {k m l j i:Nat} (h:ag t k) (hp:ag p m) (ha:ag an l) (hs:ag s j) (hc:ag c i):ag (atv t p an s c) (3*k+m+2*l+2*j+i+80):=(dv (bI (md h hp) (tC h ha hs hc))).up _ (by omega)
theorem ub:ag ssz 2:=gC (by decide) (by decide) (by decide) (by decide)
theorem tL:ag sch 2:=gC (by decide) (by decide) (by decide) (by decide)
theorem uh:ag msz 2:=gC (by decide) (by decide) (by decide) (by decide)
theorem uv:ag mch 2:=gC (by decide) (by decide) (by decide) (by decide)
theorem fW {t:Rat} {k:Nat} (h:ag t k):ag (bp t) (3*k+100):=(uu h oI l7 ub tL).up _ (by omega)
theorem i7 {t:Rat} {k:Nat} (h:ag t k):ag (bK t) (3*k+100):=(uu h oB oj uh uv).up _ (by omega)
theorem vk {t:Rat} {k:Nat} (h:ag t k):ag (bM t) (6*k+210):=(dv (bI (i7 h) (fW h))).up _ (by omega)
theorem qOf {v1:Value} {p1:Rat} {k1:Nat} {w:World} (hT:a6 w) (x1:Rl p1 k1 w v1) (a1:k1<=800:=by omega):CP 259 #[v1] w (Ret (kq (sof (p1)) ((k1+12))) w):=aw (tU _ (p1) k1 _ hT x1.1 x1.2 (by omega)) (dL x1.2)
theorem tk {v1:Value} {p1:Rat} {k1:Nat} {w:World} (hT:a6 w) (x1:Rl p1 k1 w v1) (a1:k1<=700:=by omega):CP 269 #[v1] w (Ret (kq (sof ((p1)+((90:Int):Rat))) ((k1+2+1+12))) w):=aw (zi _ (p1) k1 _ hT x1.1 x1.2 (by omega)) (dL (aV x1.2 (eS (n:=90) (by decide) (by decide))))
theorem zM {v1:Value} {p1:Rat} {k1:Nat} {w:World} (hT:a6 w) (x1:Rl p1 k1 w v1) (a1:k1<=1000:=by omega):CP 261 #[v1] w (Ret (kq (aW (p1)) ((k1+20))) w):=aw (yz _ (p1) k1 _ hT x1.1 x1.2 (by omega)) (kj x1.2)
end Go.Proofs.YtgdpkknapcgcbaaGreatDoor
