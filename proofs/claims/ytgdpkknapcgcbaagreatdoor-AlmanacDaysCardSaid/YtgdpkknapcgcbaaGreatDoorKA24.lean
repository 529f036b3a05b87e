import Derived.Test.YtgdpkknapcgcbaaGreatDoorKA23
namespace Go.Proofs.YtgdpkknapcgcbaaGreatDoor
open Go.RowKit
set_option maxRecDepth 100000
set_option linter.unusedVariables false
set_option maxHeartbeats 8000000
def epi (a s c:Rat):Rat:=a*(s-a.abs*c*s)
def eqv (t an s c:Rat):Rat:=a7 (epi (sof (mof t an)) s c)
def atv (t p an s c:Rat):Rat:=rmod (mof t p-eqv t an s c) ((360:Int):Rat)
def ssz:Rat:=((14:Int):Rat)/((360:Int):Rat)
def sch:Rat:=((1:Int):Rat)/((42:Int):Rat)
def msz:Rat:=((32:Int):Rat)/((360:Int):Rat)
def mch:Rat:=((1:Int):Rat)/((96:Int):Rat)
def el (t:Rat):Rat:=eqv t pay ssz sch
def oa (t:Rat):Rat:=eqv t pam msz mch
def be (t:Rat):Rat:=atv t pyr pay ssz sch
def bl (t:Rat):Rat:=atv t pmo pam msz mch
def bK (t:Rat):Rat:=rmod (bl t-be t) ((360:Int):Rat)
def prt (x:Rat) (n:Int):Int:=(x*(((n:Int):Rat)/((360:Int):Rat))).floor
theorem tC:ssz=7/180/\sch=1/42/\msz=4/45/\mch=1/96:=by decide+kernel
theorem IX {h:Rat} (h1:h<=225):ay h=h/225:=by
 have s0:spk ((0:Nat):Int)=0:=by decide+kernel
 have s1:spk (((0:Nat):Int)+1)=225:=by decide+kernel
 have e:yk h=0:=by
  show(if h<=_ then _ else _)=_
  rw[if_pos]
  rw[s1];exact h1
 unfold ay
 rw[e,if_pos (by decide),s0,s1]
 rw[show((225-0:Int):Rat)=225 from rfl,show((0:Int):Rat)=0 from rfl,show(((0:Nat):Int):Rat)=0 from rfl]
 grind
theorem JD {h:Rat} (h0:225<h) (h1:h<=449):ay h=(h-225)/224+1:=by
 have s1:spk ((1:Nat):Int)=225:=by decide+kernel
 have s1':spk (((0:Nat):Int)+1)=225:=by decide+kernel
 have s2:spk (((1:Nat):Int)+1)=449:=by decide+kernel
 have s2':spk (((0+1:Nat):Int)+1)=449:=by decide+kernel
 have e:yk h=1:=by
  show(if h<=_ then _ else _)=_
  rw[if_neg]
  ·show(if h<=_ then _ else _)=_
   rw[if_pos]
   rw[s2'];exact h1
  ·rw[s1'];exact fun k=>by have k':h<=225:=k;grind
 unfold ay
 rw[e,if_pos (by decide),s1,s2]
 rw[show((449-225:Int):Rat)=224 from rfl,show((225:Int):Rat)=225 from rfl,show(((1:Nat):Int):Rat)=1 from rfl]
theorem yV {h:Rat} (h0: -449<=h) (h1:h<=449):(h< -225/\ap h=(h+225)/224-1)\/(-225<=h/\h<=225/\ap h=h/225)\/(225<h/\ap h=(h-225)/224+1):=by
 unfold ap
 by_cases hn:h<0
 ·rw[if_pos hn]
  by_cases hm: -h<=225
  ·right;left
   rw[IX hm]
   refine⟨by grind,by grind,by grind⟩
  ·left
   rw[JD (by grind) (by grind)]
   refine⟨by grind,by grind⟩
 ·rw[if_neg hn]
  by_cases hm:h<=225
  ·right;left
   rw[IX hm]
   refine⟨by grind,by grind,by grind⟩
  ·right;right
   rw[JD (by grind) (by grind)]
   refine⟨by grind,by grind⟩
theorem H9 {g h:Rat} (h0: -449<=g) (h1:g<=h) (h2:h<=449):0<=ap h-ap g/\ap h-ap g<=(h-g)/224:=by
 rcases yV (h:=g) h0 (by grind) with⟨a,e⟩|⟨a,a',e⟩|⟨a,e⟩ <;> rcases yV (h:=h) (by grind) h2 with⟨b,f⟩|⟨b,b',f⟩|⟨b,f⟩ <;> rw[e,f] <;> constructor <;> grind
theorem KW {a b:Rat} (ha: -1<=a) (hb:b<=1) (h:a<=b):0<=b*b.abs-a*a.abs/\b*b.abs-a*a.abs<=2*(b-a):=by
 by_cases a0:0<=a
 ·rw[Rat.abs_of_nonneg a0,Rat.abs_of_nonneg (by grind)]
  have m:=Rat.mul_nonneg (a:=b-a) (b:=b+a) (by grind) (by grind)
  have n:=Rat.mul_nonneg (a:=b-a) (b:=2-(b+a)) (by grind) (by grind)
  constructor <;> grind
 ·rw[Rat.abs_of_nonpos (x:=a) (by grind)]
  by_cases b0:0<=b
  ·rw[Rat.abs_of_nonneg b0]
   have m:=Rat.mul_nonneg (a:=b) (b:=1-b) (by grind) (by grind)
   have n:=Rat.mul_nonneg (a:= -a) (b:=1+a) (by grind) (by grind)
   have m':=Rat.mul_nonneg (a:=b) (b:=b) (by grind) (by grind)
   have n':=Rat.mul_nonneg (a:= -a) (b:= -a) (by grind) (by grind)
   constructor <;> grind
  ·rw[Rat.abs_of_nonpos (x:=b) (by grind)]
   have m:=Rat.mul_nonneg (a:=b-a) (b:= -(b+a)) (by grind) (by grind)
   have n:=Rat.mul_nonneg (a:=b-a) (b:=2+(b+a)) (by grind) (by grind)
   constructor <;> grind
theorem jO {a b s c:Rat} (ha: -1<=a) (hb:b<=1) (h:a<=b) (hs:0<=s) (c0:0<=c) (c1:2*c<=1):0<=epi b s c-epi a s c/\epi b s c-epi a s c<=s*(b-a):=by
 have hd:=KW ha hb h
 have e:epi b s c-epi a s c=s*((b-a)-c*(b*b.abs-a*a.abs)):=by unfold epi;grind
 rw[e]
 generalize b*b.abs-a*a.abs=d at*
 have m:=Rat.mul_nonneg c0 hd.1
 have n:=Rat.mul_nonneg (a:=c) (b:=2*(b-a)-d) c0 (by grind)
 have o:=Rat.mul_nonneg (a:=1-2*c) (b:=b-a) (by grind) (by grind)
 have p:=Rat.mul_nonneg (a:=s) (b:=(b-a)-c*d) hs (by grind)
 have q:=Rat.mul_nonneg (a:=s) (b:=c*d) hs m
 constructor
 ·exact p
 ·grind
theorem qC {a s c:Rat} (h0: -1<=a) (h1:a<=1) (hs:0<=s) (c0:0<=c) (c1:2*c<=1): -(s*(1-c))<=epi a s c/\epi a s c<=s*(1-c):=by
 have u:=jO (a:=a) (b:=1) h0 (by grind) h1 hs c0 c1
 have v:=jO (a:= -1) (b:=a) (by grind) h1 h0 hs c0 c1
 have e1:epi 1 s c=s*(1-c):=by unfold epi;rw[Rat.abs_of_nonneg (by grind)];grind
 have e2:epi (-1) s c= -(s*(1-c)):=by unfold epi;rw[Rat.abs_of_nonpos (by grind)];grind
 rw[e1] at u
 rw[e2] at v
 constructor <;> grind
theorem wL {a b:Rat} (h0: -449<=a*3438) (h:a<=b) (h1:b*3438<=449):0<=a7 b-a7 a/\a7 b-a7 a<=(b-a)*(3438*15/896):=by
 have m:=H9 (g:=a*3438) (h:=b*3438) h0 (by grind) h1
 unfold a7
 rw[dY,dQ]
 constructor <;> grind
theorem Gw {a b s c:Rat} (ha: -1<=a) (ha':a<=1) (hb: -1<=b) (hb':b<=1) (hs:0<=s) (hs':s*3438<=449) (c0:0<=c) (c1:2*c<=1):(a7 (epi b s c)-a7 (epi a s c)).abs <=s*(3438*15/896)*(b-a).abs :=by
 have ba:=qC ha ha' hs c0 c1
 have bb:=qC hb hb' hs c0 c1
 have cs:=Rat.mul_nonneg hs c0
 rcases Rat.le_total (a:=a) (b:=b) with h|h
 ·have l:=jO ha hb' h hs c0 c1
  have m:=wL (a:=epi a s c) (b:=epi b s c) (by grind) (by grind) (by grind)
  rw[Rat.abs_of_nonneg m.1,Rat.abs_of_nonneg (x:=b-a) (by grind)]
  grind
 ·have l:=jO hb ha' h hs c0 c1
  have m:=wL (a:=epi b s c) (b:=epi a s c) (by grind) (by grind) (by grind)
  rw[Rat.abs_of_nonpos (by grind),Rat.abs_of_nonpos (x:=b-a) (by grind)]
  grind
theorem n0 {t p:Rat} (h:0<p):sof (mof t p)=sof (((360:Int):Rat)*bg t p):=by rw[jm h,mI]
theorem zz {x y k:Rat} (h:x<=y) (hk:0<=k):k*x<=k*y:=Rat.mul_le_mul_of_nonneg_left h hk
theorem rG {t u an s c d:Rat} {n:Int} (h:0<an) (hs:0<=s) (hs':s*3438<=449) (c0:0<=c) (c1:2*c<=1)
 (e:((360:Int):Rat)*bg u an=((360:Int):Rat)*bg t an+d+((360:Int):Rat)*((n:Int):Rat)):(eqv u an s c-eqv t an s c).abs <=s*(225/224)*d.abs:=by
 have l:=ot (((360:Int):Rat)*bg t an+d) (((360:Int):Rat)*bg t an)
 rw[show((360:Int):Rat)*bg t an+d-((360:Int):Rat)*bg t an=d by grind] at l
 have bt:=gw (((360:Int):Rat)*bg t an)
 have bu:=gw (((360:Int):Rat)*bg t an+d)
 have m:=Gw (s:=s) (c:=c) bt.1 bt.2 bu.1 bu.2 hs hs' c0 c1
 unfold eqv
 rw[n0 h,n0 h,e,mI]
 have k:=zz l (k:=s*(3438*15/896)) (by grind)
 rw[show((60:Int):Rat)/((3438:Int):Rat)=60/3438 by decide+kernel] at k
 grind
theorem vN (x y:Rat):rmod (rmod x ((360:Int):Rat)-rmod y ((360:Int):Rat)) ((360:Int):Rat)=rmod (x-y) ((360:Int):Rat):=by
 rw[CH aG,show rmod x ((360:Int):Rat)-y=rmod x ((360:Int):Rat)+ -y by grind,Cd aG,show x+ -y=x-y by grind]
theorem f7 {t d p:Rat}:bg (t+d) p=bg t p+d/p:=by unfold bg;grind
theorem Kx {t d p an s c:Rat} (hp:0<p):rmod (atv (t+d) p an s c-atv t p an s c) ((360:Int):Rat)=rmod (((360:Int):Rat)*(d/p)-(eqv (t+d) an s c-eqv t an s c)) ((360:Int):Rat):=by
 unfold atv
 rw[vN,jm (t:=t+d) hp,jm (t:=t) hp,f7]
 rw[show((360:Int):Rat)*(bg t p+d/p)+((360:Int):Rat)*(((-(bg t p+d/p).floor :Int)):Rat)-eqv (t+d) an s c-(((360:Int):Rat)*bg t p+((360:Int):Rat)*(((-(bg t p).floor :Int)):Rat)-eqv t an s c)=(((360:Int):Rat)*(d/p)-(eqv (t+d) an s c-eqv t an s c))+((360:Int):Rat)*(((-(bg t p+d/p).floor +(bg t p).floor :Int)):Rat) by
  simp only [Rat.intCast_add,Rat.intCast_neg];grind]
 rw[ib _ aG]
theorem eU {x b:Rat} (h:x.abs<=b): -b<=x/\x<=b:=by have:=qw x;constructor <;> grind
theorem DB (t:Rat):(el (t+((1:Int):Rat))-el t).abs <=ssz*(225/224)*(((360:Int):Rat)/pay).abs :=
 rG (n:=0) iG (by decide+kernel) (by decide+kernel) (by decide+kernel) (by decide+kernel) (by
  rw[f7,Rat.intCast_zero,Rat.intCast_one,Rat.div_def,Rat.div_def];grind)
theorem G7 (t:Rat):rmod (be (t+((1:Int):Rat))-be t) ((360:Int):Rat)=((360:Int):Rat)*(((1:Int):Rat)/pyr)-(el (t+((1:Int):Rat))-el t)/\9471/10000<((360:Int):Rat)*(((1:Int):Rat)/pyr)-(el (t+((1:Int):Rat))-el t)/\((360:Int):Rat)*(((1:Int):Rat)/pyr)-(el (t+((1:Int):Rat))-el t)<10242/10000:=by
 have l:=eU (DB t)
 have k:ssz*(225/224)*(((360:Int):Rat)/pay).abs <385015/10000000:=by decide+kernel
 have k1:985602/1000000<((360:Int):Rat)*(((1:Int):Rat)/pyr):=by decide+kernel
 have k2:((360:Int):Rat)*(((1:Int):Rat)/pyr)<985603/1000000:=by decide+kernel
 have a:9471/10000<((360:Int):Rat)*(((1:Int):Rat)/pyr)-(el (t+((1:Int):Rat))-el t):=by grind
 have b:((360:Int):Rat)*(((1:Int):Rat)/pyr)-(el (t+((1:Int):Rat))-el t)<10242/10000:=by grind
 refine⟨?_,a,b⟩
 unfold be
 rw[Kx sd]
 exact lk (by unfold el at a;grind) (by unfold el at b;rw[mH] at*;grind)
theorem j5 (t:Rat):0<=be t:=bE aG
theorem jl (t:Rat):be t<((360:Int):Rat):=bv aG
theorem jc (t:Rat):0<=bl t:=bE aG
theorem ir (t:Rat):bl t<((360:Int):Rat):=bv aG
theorem fk (t:Rat):0<=bK t:=bE aG
theorem eI (t:Rat):bK t<((360:Int):Rat):=bv aG
theorem cr {x:Rat} {n:Int} (hn:0<n) (h0:0<=x) (h1:x<((360:Int):Rat)):0<=prt x n/\prt x n<n:=by
 have p:(0:Rat)<((n:Int):Rat):=Rat.intCast_pos.2 hn
 have q:(0:Rat)<((n:Int):Rat)/((360:Int):Rat):=by rw[Rat.div_def];exact Rat.mul_pos p (by decide+kernel)
 unfold prt
 constructor
 ·exact Rat.le_floor_iff.2 (by rw[Rat.intCast_zero];exact Rat.mul_nonneg h0 (by grind))
 ·refine Rat.floor_lt_iff.2 ?_
  have m:=(Rat.mul_lt_mul_right (c:=((n:Int):Rat)/((360:Int):Rat)) q).2 h1
  have e:((360:Int):Rat)*(((n:Int):Rat)/((360:Int):Rat))=((n:Int):Rat):=by rw[Rat.mul_comm];exact Rat.div_mul_cancel (by decide+kernel)
  rw[e] at m
  exact m
theorem sj (x:Rat):pfr x=mfr (x/wd):=by
 have h:(0:Rat)<((96:Int):Rat):=by decide+kernel
 unfold pfr pk
 show mfr (rmod (x/wd) ((96:Int):Rat))=_
 rw[fM h]
 generalize (x/wd/((96:Int):Rat)).floor =n
 rw[show x/wd+((96:Int):Rat)*(((-n:Int)):Rat)=x/wd+((96* -n:Int):Rat) by rw[Rat.intCast_mul],Dk]
theorem eh {x:Rat} {k:Nat} (h:ah x k):ah (sof x) (k+12):=by
 rw[<-lT,sj]
 exact(cU (a6 (dG (cH _).1 (cH _).2) (aL (rF (cU h nz)) (dG (dR _).1 (dR _).2))) (dG (n:=3438) (by decide) (by decide))).up _ (by omega)
theorem H3 {a s c:Rat} {k j i:Nat} (h:ah a k) (hs:ah s j) (hc:ah c i):ah (epi a s c) (2*k+2*j+i+1):=(aL h (bH hs (aL (aL (fp h) hc) hs))).up _ (by omega)
theorem xT {t an s c:Rat} {k l j i:Nat} (h:ah t k) (ha:ah an l) (hs:ah s j) (hc:ah c i):ah (eqv t an s c) (2*k+2*l+2*j+i+60):=(kg (H3 (eh (iI h ha)) hs hc)).up _ (by omega)
theorem xw {t p an s c:Rat} {k m l j i:Nat} (h:ah t k) (hp:ah p m) (ha:ah an l) (hs:ah s j) (hc:ah c i):ah (atv t p an s c) (3*k+m+2*l+2*j+i+80):=(du (bH (iI h hp) (xT h ha hs hc))).up _ (by omega)
theorem xx:ah ssz 2:=ii (by decide) (by decide) (by decide) (by decide)
theorem xj:ah sch 2:=ii (by decide) (by decide) (by decide) (by decide)
theorem xf:ah msz 2:=ii (by decide) (by decide) (by decide) (by decide)
theorem yo:ah mch 2:=ii (by decide) (by decide) (by decide) (by decide)
theorem fh {t:Rat} {k:Nat} (h:ah t k):ah (be t) (3*k+100):=(xw h lq iM xx xj).up _ (by omega)
theorem jf {t:Rat} {k:Nat} (h:ah t k):ah (bl t) (3*k+100):=(xw h oh ou xf yo).up _ (by omega)
theorem zv {t:Rat} {k:Nat} (h:ah t k):ah (bK t) (6*k+210):=(du (bH (jf h) (fh h))).up _ (by omega)
theorem qOf {v1:Value} {p1:Rat} {k1:Nat} {w:World} (hT:bI w) (x1:Rl p1 k1 w v1) (a1:k1<=800:=by omega):CP 259 #[v1] w (Ret (kq (sof (p1)) ((k1+12))) w):=aF (yf _ (p1) k1 _ hT x1.1 x1.2 (by omega)) (eh x1.2)
theorem xl {v1:Value} {p1:Rat} {k1:Nat} {w:World} (hT:bI w) (x1:Rl p1 k1 w v1) (a1:k1<=700:=by omega):CP 269 #[v1] w (Ret (kq (sof ((p1)+((90:Int):Rat))) ((k1+2+1+12))) w):=aF (C9 _ (p1) k1 _ hT x1.1 x1.2 (by omega)) (eh (a6 x1.2 (dG (n:=90) (by decide) (by decide))))
theorem CN {v1:Value} {p1:Rat} {k1:Nat} {w:World} (hT:bI w) (x1:Rl p1 k1 w v1) (a1:k1<=1000:=by omega):CP 261 #[v1] w (Ret (kq (a7 (p1)) ((k1+20))) w):=aF (DP _ (p1) k1 _ hT x1.1 x1.2 (by omega)) (kg x1.2)
def cA (t:Rat):Rat:=((360:Int):Rat)*bg t pyr-el t
def cd (t:Rat):Rat:=((360:Int):Rat)*bg t pmo-oa t
def phU (t:Rat):Rat:=cd t-cA t
theorem vQ (t:Rat):be t=rmod (cA t) ((360:Int):Rat):=by
 unfold be cA el atv
 rw[jm (t:=t) sd,show((360:Int):Rat)*bg t pyr+((360:Int):Rat)*(((-(bg t pyr).floor :Int)):Rat)-eqv t pay ssz sch=(((360:Int):Rat)*bg t pyr-eqv t pay ssz sch)+((360:Int):Rat)*(((-(bg t pyr).floor :Int)):Rat) by grind,ib _ aG]
theorem rh (t:Rat):bl t=rmod (cd t) ((360:Int):Rat):=by
 unfold bl cd oa atv
 rw[jm (t:=t) GH,show((360:Int):Rat)*bg t pmo+((360:Int):Rat)*(((-(bg t pmo).floor :Int)):Rat)-eqv t pam msz mch=(((360:Int):Rat)*bg t pmo-eqv t pam msz mch)+((360:Int):Rat)*(((-(bg t pmo).floor :Int)):Rat) by grind,ib _ aG]
theorem vk (t:Rat):bK t=rmod (phU t) ((360:Int):Rat):=by
 unfold bK phU
 rw[rh,vQ,vN]
theorem Ht (t:Rat):rmod (bl t+be t) ((360:Int):Rat)=rmod (cd t+cA t) ((360:Int):Rat):=by
 rw[rh,vQ,fM (x:=cd t) aG,fM (x:=cA t) aG]
 rw[show cd t+((360:Int):Rat)*(((-(cd t/((360:Int):Rat)).floor :Int)):Rat)+(cA t+((360:Int):Rat)*(((-(cA t/((360:Int):Rat)).floor :Int)):Rat))=cd t+cA t+((360:Int):Rat)*(((-(cd t/((360:Int):Rat)).floor + -(cA t/((360:Int):Rat)).floor :Int)):Rat) by rw[Rat.intCast_add];grind,ib _ aG]
theorem Cp (t d:Rat):(el (t+d)-el t).abs <=ssz*(225/224)*(((360:Int):Rat)*(d/pay)).abs :=
 rG (n:=0) iG (by decide+kernel) (by decide+kernel) (by decide+kernel) (by decide+kernel) (by rw[f7,Rat.intCast_zero];grind)
theorem AC (t d:Rat):(oa (t+d)-oa t).abs <=msz*(225/224)*(((360:Int):Rat)*(d/pam)).abs :=
 rG (n:=0) xk (by decide+kernel) (by decide+kernel) (by decide+kernel) (by decide+kernel) (by rw[f7,Rat.intCast_zero];grind)
theorem s5 {s c d:Rat} (hs:0<=s) (hc:0<c) (hd:0<=d):s*(((360:Int):Rat)*(d/c)).abs =s*((360:Int):Rat)/c*d:=by
 have h:(0:Rat)<=((360:Int):Rat)*(d/c):=Rat.mul_nonneg (by decide) (by rw[Rat.div_def];exact Rat.mul_nonneg hd (Rat.le_of_lt (Rat.inv_pos.2 hc)))
 rw[Rat.abs_of_nonneg h,Rat.div_def,Rat.div_def];grind
theorem o0 (t:Rat) {d:Rat} (hd:0<=d):9471/10000*d<=cA (t+d)-cA t/\cA (t+d)-cA t<=10242/10000*d:=by
 have l:=eU (Cp t d)
 rw[s5 (s:=ssz*(225/224)) (by decide+kernel) iG hd] at l
 have k:ssz*(225/224)*((360:Int):Rat)/pay<385015/10000000:=by decide+kernel
 have k1:985602/1000000<((360:Int):Rat)/pyr:=by decide+kernel
 have k2:((360:Int):Rat)/pyr<985603/1000000:=by decide+kernel
 have e:cA (t+d)-cA t=((360:Int):Rat)/pyr*d-(el (t+d)-el t):=by
  unfold cA;rw[f7,Rat.div_def,Rat.div_def];grind
 have m:=Rat.mul_nonneg (a:=385015/10000000-ssz*(225/224)*((360:Int):Rat)/pay) (b:=d) (by grind) hd
 have m1:=Rat.mul_nonneg (a:=((360:Int):Rat)/pyr-985602/1000000) (b:=d) (by grind) hd
 have m2:=Rat.mul_nonneg (a:=985603/1000000-((360:Int):Rat)/pyr) (b:=d) (by grind) hd
 rw[e]
 generalize ssz*(225/224)*((360:Int):Rat)/pay=x at*
 generalize ((360:Int):Rat)/pyr=y at*
 constructor <;> grind
theorem nC (t:Rat) {d:Rat} (hd:0<=d):12009/1000*d<=cd (t+d)-cd t/\cd (t+d)-cd t<=14343/1000*d:=by
 have l:=eU (AC t d)
 rw[s5 (s:=msz*(225/224)) (by decide+kernel) xk hd] at l
 have k:msz*(225/224)*((360:Int):Rat)/pam<11666/10000:=by decide+kernel
 have k1:1317635/100000<((360:Int):Rat)/pmo:=by decide+kernel
 have k2:((360:Int):Rat)/pmo<1317636/100000:=by decide+kernel
 have e:cd (t+d)-cd t=((360:Int):Rat)/pmo*d-(oa (t+d)-oa t):=by
  unfold cd;rw[f7,Rat.div_def,Rat.div_def];grind
 have m:=Rat.mul_nonneg (a:=11666/10000-msz*(225/224)*((360:Int):Rat)/pam) (b:=d) (by grind) hd
 have m1:=Rat.mul_nonneg (a:=((360:Int):Rat)/pmo-1317635/100000) (b:=d) (by grind) hd
 have m2:=Rat.mul_nonneg (a:=1317636/100000-((360:Int):Rat)/pmo) (b:=d) (by grind) hd
 rw[e]
 generalize msz*(225/224)*((360:Int):Rat)/pam=x at*
 generalize ((360:Int):Rat)/pmo=y at*
 constructor <;> grind
theorem xe (t:Rat) {d:Rat} (hd:0<=d):1098/100*d<=phU (t+d)-phU t/\phU (t+d)-phU t<=134/10*d:=by
 have a:=o0 t hd
 have b:=nC t hd
 unfold phU
 constructor <;> grind
theorem Dt (n:Int):(((n+1:Int)):Rat)=((n:Int):Rat)+1:=by rw[Rat.intCast_add,Rat.intCast_one]
theorem jg {x:Rat} {n:Int} (hn:0<n):prt (rmod x ((360:Int):Rat)) n=(x*(((n:Int):Rat)/((360:Int):Rat))).floor %n:=by
 have np:(0:Rat)<((n:Int):Rat):=Rat.intCast_pos.2 hn
 have e:(rmod x ((360:Int):Rat))*(((n:Int):Rat)/((360:Int):Rat))=x*(((n:Int):Rat)/((360:Int):Rat))+((n*(-(x/((360:Int):Rat)).floor):Int):Rat):=by
  rw[fM aG,Rat.intCast_mul,Rat.div_def ((n:Int):Rat),mH];grind
 have b:=cr (x:=rmod x ((360:Int):Rat)) hn (bE aG) (bv aG)
 unfold prt at b ⊢
 rw[e,Rat.floor_add_intCast] at b ⊢
 have h:=Int.emod_eq_of_lt (b:=n) b.1 b.2
 rw[<-h,Int.add_mul_emod_self_left]
def kU (c:Int) (t:Rat):Rat:=if c=0 then cA t else if c=1\/c=4 then phU t else if c=2 then cd t else cd t+cA t
def kN (c:Int):Int:=if c=0 then 12 else if c=1 then 30 else if c=4 then 60 else 27
def kI (c:Int) (t:Rat):Int:=if c=0 then prt (be t) 12 else if c=1 then prt (bK t) 30 else if c=2 then prt (bl t) 27 else if c=3 then prt (rmod (bl t+be t) ((360:Int):Rat)) 27 else prt (bK t) 60
def kS (c:Int) (t:Rat):Int:=(kU c t*(((kN c:Int):Rat)/((360:Int):Rat))).floor
def kQ (c:Int):Rat:=if c=0 then 1 else 1/4
def kM (c:Int):Int:=if c=0 then 34 else 6
theorem kinds {c:Int} (h0:0<=c) (h1:c<=4):c=0\/c=1\/c=2\/c=3\/c=4:=by omega
theorem mF (c:Int):12<=kN c/\kN c<=60:=by unfold kN;split <;> (try split) <;> (try split) <;> omega
theorem gV {c:Int} (h0:0<=c) (h1:c<=4) (t:Rat):kI c t=kS c t%kN c:=by
 rcases kinds h0 h1 with rfl|rfl|rfl|rfl|rfl
 ·show prt (be t) 12=(cA t*(((12:Int):Rat)/((360:Int):Rat))).floor %12
  rw[vQ,jg (by decide)]
 ·show prt (bK t) 30=(phU t*(((30:Int):Rat)/((360:Int):Rat))).floor %30
  rw[vk,jg (by decide)]
 ·show prt (bl t) 27=(cd t*(((27:Int):Rat)/((360:Int):Rat))).floor %27
  rw[rh,jg (by decide)]
 ·show prt (rmod (bl t+be t) ((360:Int):Rat)) 27=((cd t+cA t)*(((27:Int):Rat)/((360:Int):Rat))).floor %27
  rw[Ht,jg (by decide)]
 ·show prt (bK t) 60=(phU t*(((60:Int):Rat)/((360:Int):Rat))).floor %60
  rw[vk,jg (by decide)]
theorem KC {c:Int} (h0:0<=c) (h1:c<=4) (t:Rat):0<=kI c t/\kI c t<kN c:=by
 rw[gV h0 h1]
 have:=mF c
 exact⟨Int.emod_nonneg _ (by omega),Int.emod_lt_of_pos _ (by omega)⟩
theorem ss {c:Int} (h0:0<=c) (h1:c<=4) (t:Rat) {d:Rat} (hd:0<=d):
 0<=(kU c (t+d)-kU c t)*(((kN c:Int):Rat)/((360:Int):Rat))/\(d<=kQ c->(kU c (t+d)-kU c t)*(((kN c:Int):Rat)/((360:Int):Rat))<1)/\(((kM c:Int):Rat)*kQ c<=d->1<=(kU c (t+d)-kU c t)*(((kN c:Int):Rat)/((360:Int):Rat))):=by
 have s:=o0 t hd
 have m:=nC t hd
 have p:=xe t hd
 rcases kinds h0 h1 with rfl|rfl|rfl|rfl|rfl
 ·show 0<=(cA (t+d)-cA t)*(((12:Int):Rat)/((360:Int):Rat))/\(d<=1->(cA (t+d)-cA t)*(((12:Int):Rat)/((360:Int):Rat))<1)/\(((34:Int):Rat)*1<=d->1<=(cA (t+d)-cA t)*(((12:Int):Rat)/((360:Int):Rat)))
  rw[show((12:Int):Rat)/((360:Int):Rat)=12/360 by decide+kernel,show((34:Int):Rat)=34 from rfl]
  refine⟨by grind,fun _=>by grind,fun _=>by grind⟩
 ·show 0<=(phU (t+d)-phU t)*(((30:Int):Rat)/((360:Int):Rat))/\(d<=1/4->(phU (t+d)-phU t)*(((30:Int):Rat)/((360:Int):Rat))<1)/\(((6:Int):Rat)*(1/4)<=d->1<=(phU (t+d)-phU t)*(((30:Int):Rat)/((360:Int):Rat)))
  rw[show((30:Int):Rat)/((360:Int):Rat)=30/360 by decide+kernel,show((6:Int):Rat)=6 from rfl]
  refine⟨by grind,fun _=>by grind,fun _=>by grind⟩
 ·show 0<=(cd (t+d)-cd t)*(((27:Int):Rat)/((360:Int):Rat))/\(d<=1/4->(cd (t+d)-cd t)*(((27:Int):Rat)/((360:Int):Rat))<1)/\(((6:Int):Rat)*(1/4)<=d->1<=(cd (t+d)-cd t)*(((27:Int):Rat)/((360:Int):Rat)))
  rw[show((27:Int):Rat)/((360:Int):Rat)=27/360 by decide+kernel,show((6:Int):Rat)=6 from rfl]
  refine⟨by grind,fun _=>by grind,fun _=>by grind⟩
 ·show 0<=(cd (t+d)+cA (t+d)-(cd t+cA t))*(((27:Int):Rat)/((360:Int):Rat))/\(d<=1/4->(cd (t+d)+cA (t+d)-(cd t+cA t))*(((27:Int):Rat)/((360:Int):Rat))<1)/\(((6:Int):Rat)*(1/4)<=d->1<=(cd (t+d)+cA (t+d)-(cd t+cA t))*(((27:Int):Rat)/((360:Int):Rat)))
  rw[show((27:Int):Rat)/((360:Int):Rat)=27/360 by decide+kernel,show((6:Int):Rat)=6 from rfl]
  refine⟨by grind,fun _=>by grind,fun _=>by grind⟩
 ·show 0<=(phU (t+d)-phU t)*(((60:Int):Rat)/((360:Int):Rat))/\(d<=1/4->(phU (t+d)-phU t)*(((60:Int):Rat)/((360:Int):Rat))<1)/\(((6:Int):Rat)*(1/4)<=d->1<=(phU (t+d)-phU t)*(((60:Int):Rat)/((360:Int):Rat)))
  rw[show((60:Int):Rat)/((360:Int):Rat)=60/360 by decide+kernel,show((6:Int):Rat)=6 from rfl]
  refine⟨by grind,fun _=>by grind,fun _=>by grind⟩
theorem Lq {x y:Rat} (h0:0<=y-x) (h1:y-x<1):y.floor=x.floor\/y.floor=x.floor+1:=by
 have a:=fl x
 have b:=gE x
 have a':=fl y
 have b':=gE y
 have u:((x.floor:Int):Rat)<((y.floor+1:Int):Rat):=by rw[Rat.intCast_add,Rat.intCast_one];grind
 have l:((y.floor:Int):Rat)<((x.floor+2:Int):Rat):=by rw[show((x.floor+2:Int):Rat)=((x.floor:Int):Rat)+2 from Rat.intCast_add _ _];grind
 have:=Rat.intCast_lt_intCast.1 u
 have:=Rat.intCast_lt_intCast.1 l
 omega
theorem xV {c:Int} (h0:0<=c) (h1:c<=4) (t:Rat) {d:Rat} (hd:0<=d) (hq:d<=kQ c):kS c (t+d)=kS c t\/kS c (t+d)=kS c t+1:=by
 have r:=ss h0 h1 t hd
 exact Lq (by have:=r.1;grind) (by have:=r.2.1 hq;grind)
theorem It {c:Int} (h0:0<=c) (h1:c<=4) (t:Rat):kS c t<kS c (t+((kM c:Int):Rat)*kQ c):=by
 have hd:0<=((kM c:Int):Rat)*kQ c:=by rcases kinds h0 h1 with rfl|rfl|rfl|rfl|rfl <;> decide+kernel
 have r:=(ss h0 h1 t hd).2.2 Rat.le_refl
 have a:=fl (kU c t*(((kN c:Int):Rat)/((360:Int):Rat)))
 have b:=gE (kU c (t+((kM c:Int):Rat)*kQ c)*(((kN c:Int):Rat)/((360:Int):Rat)))
 unfold kS
 generalize (kU c t*(((kN c:Int):Rat)/((360:Int):Rat))).floor =j at*
 have u:((j:Int):Rat)<(((kU c (t+((kM c:Int):Rat)*kQ c)*(((kN c:Int):Rat)/((360:Int):Rat))).floor :Int):Rat):=by
  refine Rat.not_le.1 fun q=>?_
  have:(kU c (t+((kM c:Int):Rat)*kQ c)*(((kN c:Int):Rat)/((360:Int):Rat))).floor <j+1:=Rat.intCast_lt_intCast.1 (by rw[Rat.intCast_add,Rat.intCast_one];grind)
  have k2:j+1<=(kU c (t+((kM c:Int):Rat)*kQ c)*(((kN c:Int):Rat)/((360:Int):Rat))).floor :=Rat.le_floor_iff.2 (by rw[Rat.intCast_add,Rat.intCast_one];grind)
  omega
 exact Rat.intCast_lt_intCast.1 u
end Go.Proofs.YtgdpkknapcgcbaaGreatDoor
