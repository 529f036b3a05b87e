import Derived.Test.YtddiipaomejcfaaGreatDoorKB21
namespace Go.Proofs.YtddiipaomejcfaaGreatDoor
open Go.RowKit
set_option maxRecDepth 100000
set_option linter.unusedVariables false
set_option maxHeartbeats 8000000
def epi (a s c:Rat):Rat:=a*(s-a.abs*c*s)
def eqv (t an s c:Rat):Rat:=br (epi (sof (mof t an)) s c)
def atv (t p an s c:Rat):Rat:=rmod (mof t p-eqv t an s c) ((360:Int):Rat)
def ssz:Rat:=((14:Int):Rat)/((360:Int):Rat)
def sch:Rat:=((1:Int):Rat)/((42:Int):Rat)
def msz:Rat:=((32:Int):Rat)/((360:Int):Rat)
def mch:Rat:=((1:Int):Rat)/((96:Int):Rat)
def de (t:Rat):Rat:=eqv t pay ssz sch
def gV (t:Rat):Rat:=eqv t pam msz mch
def cT (t:Rat):Rat:=atv t pyr pay ssz sch
def mC (t:Rat):Rat:=atv t pmo pam msz mch
def bf (t:Rat):Rat:=rmod (mC t-cT t) ((360:Int):Rat)
def prt (x:Rat) (n:Int):Int:=(x*(((n:Int):Rat)/((360:Int):Rat))).floor
theorem uD:ssz=7/180/\sch=1/42/\msz=4/45/\mch=1/96:=by decide+kernel
theorem L6 {h:Rat} (h1:h<=225):ay h=h/225:=by
 have s0:spk ((0:Nat):Int)=0:=by decide+kernel
 have s1:spk (((0:Nat):Int)+1)=225:=by decide+kernel
 have e:yk h=0:=by
  show(if h<=_ then _ else _)=_
  rw[if_pos]
  rw[s1];exact h1
 unfold ay
 rw[e,if_pos (by decide),s0,s1]
 rw[show((225-0:Int):Rat)=225 from rfl,show((0:Int):Rat)=0 from rfl,show(((0:Nat):Int):Rat)=0 from rfl]
 grind
theorem Lq {h:Rat} (h0:225<h) (h1:h<=449):ay h=(h-225)/224+1:=by
 have s1:spk ((1:Nat):Int)=225:=by decide+kernel
 have s1':spk (((0:Nat):Int)+1)=225:=by decide+kernel
 have s2:spk (((1:Nat):Int)+1)=449:=by decide+kernel
 have s2':spk (((0+1:Nat):Int)+1)=449:=by decide+kernel
 have e:yk h=1:=by
  show(if h<=_ then _ else _)=_
  rw[if_neg]
  ·show(if h<=_ then _ else _)=_
   rw[if_pos]
   rw[s2'];exact h1
  ·rw[s1'];exact fun k=>by have k':h<=225:=k;grind
 unfold ay
 rw[e,if_pos (by decide),s1,s2]
 rw[show((449-225:Int):Rat)=224 from rfl,show((225:Int):Rat)=225 from rfl,show(((1:Nat):Int):Rat)=1 from rfl]
theorem A4 {h:Rat} (h0: -449<=h) (h1:h<=449):(h< -225/\ap h=(h+225)/224-1)\/(-225<=h/\h<=225/\ap h=h/225)\/(225<h/\ap h=(h-225)/224+1):=by
 unfold ap
 by_cases hn:h<0
 ·rw[if_pos hn]
  by_cases hm: -h<=225
  ·right;left
   rw[L6 hm]
   refine⟨by grind,by grind,by grind⟩
  ·left
   rw[Lq (by grind) (by grind)]
   refine⟨by grind,by grind⟩
 ·rw[if_neg hn]
  by_cases hm:h<=225
  ·right;left
   rw[L6 hm]
   refine⟨by grind,by grind,by grind⟩
  ·right;right
   rw[Lq (by grind) (by grind)]
   refine⟨by grind,by grind⟩
theorem L5 {g h:Rat} (h0: -449<=g) (h1:g<=h) (h2:h<=449):0<=ap h-ap g/\ap h-ap g<=(h-g)/224:=by
 rcases A4 (h:=g) h0 (by grind) with⟨a,e⟩|⟨a,a',e⟩|⟨a,e⟩ <;> rcases A4 (h:=h) (by grind) h2 with⟨b,f⟩|⟨b,b',f⟩|⟨b,f⟩ <;> rw[e,f] <;> constructor <;> grind
theorem Nh {a b:Rat} (ha: -1<=a) (hb:b<=1) (h:a<=b):0<=b*b.abs-a*a.abs/\b*b.abs-a*a.abs<=2*(b-a):=by
 by_cases a0:0<=a
 ·rw[Rat.abs_of_nonneg a0,Rat.abs_of_nonneg (by grind)]
  have m:=Rat.mul_nonneg (a:=b-a) (b:=b+a) (by grind) (by grind)
  have n:=Rat.mul_nonneg (a:=b-a) (b:=2-(b+a)) (by grind) (by grind)
  constructor <;> grind
 ·rw[Rat.abs_of_nonpos (x:=a) (by grind)]
  by_cases b0:0<=b
  ·rw[Rat.abs_of_nonneg b0]
   have m:=Rat.mul_nonneg (a:=b) (b:=1-b) (by grind) (by grind)
   have n:=Rat.mul_nonneg (a:= -a) (b:=1+a) (by grind) (by grind)
   have m':=Rat.mul_nonneg (a:=b) (b:=b) (by grind) (by grind)
   have n':=Rat.mul_nonneg (a:= -a) (b:= -a) (by grind) (by grind)
   constructor <;> grind
  ·rw[Rat.abs_of_nonpos (x:=b) (by grind)]
   have m:=Rat.mul_nonneg (a:=b-a) (b:= -(b+a)) (by grind) (by grind)
   have n:=Rat.mul_nonneg (a:=b-a) (b:=2+(b+a)) (by grind) (by grind)
   constructor <;> grind
theorem kt {a b s c:Rat} (ha: -1<=a) (hb:b<=1) (h:a<=b) (hs:0<=s) (c0:0<=c) (c1:2*c<=1):0<=epi b s c-epi a s c/\epi b s c-epi a s c<=s*(b-a):=by
 have hd:=Nh ha hb h
 have e:epi b s c-epi a s c=s*((b-a)-c*(b*b.abs-a*a.abs)):=by unfold epi;grind
 rw[e]
 generalize b*b.abs-a*a.abs=d at*
 have m:=Rat.mul_nonneg c0 hd.1
 have n:=Rat.mul_nonneg (a:=c) (b:=2*(b-a)-d) c0 (by grind)
 have o:=Rat.mul_nonneg (a:=1-2*c) (b:=b-a) (by grind) (by grind)
 have p:=Rat.mul_nonneg (a:=s) (b:=(b-a)-c*d) hs (by grind)
 have q:=Rat.mul_nonneg (a:=s) (b:=c*d) hs m
 constructor
 ·exact p
 ·grind
theorem od {a s c:Rat} (h0: -1<=a) (h1:a<=1) (hs:0<=s) (c0:0<=c) (c1:2*c<=1): -(s*(1-c))<=epi a s c/\epi a s c<=s*(1-c):=by
 have u:=kt (a:=a) (b:=1) h0 (by grind) h1 hs c0 c1
 have v:=kt (a:= -1) (b:=a) (by grind) h1 h0 hs c0 c1
 have e1:epi 1 s c=s*(1-c):=by unfold epi;rw[Rat.abs_of_nonneg (by grind)];grind
 have e2:epi (-1) s c= -(s*(1-c)):=by unfold epi;rw[Rat.abs_of_nonpos (by grind)];grind
 rw[e1] at u
 rw[e2] at v
 constructor <;> grind
theorem pF {a b:Rat} (h0: -449<=a*3438) (h:a<=b) (h1:b*3438<=449):0<=br b-br a/\br b-br a<=(b-a)*(3438*15/896):=by
 have m:=L5 (g:=a*3438) (h:=b*3438) h0 (by grind) h1
 unfold br
 rw[eF,eh]
 constructor <;> grind
theorem Hc {a b s c:Rat} (ha: -1<=a) (ha':a<=1) (hb: -1<=b) (hb':b<=1) (hs:0<=s) (hs':s*3438<=449) (c0:0<=c) (c1:2*c<=1):(br (epi b s c)-br (epi a s c)).abs <=s*(3438*15/896)*(b-a).abs :=by
 have ba:=od ha ha' hs c0 c1
 have bb:=od hb hb' hs c0 c1
 have cs:=Rat.mul_nonneg hs c0
 rcases Rat.le_total (a:=a) (b:=b) with h|h
 ·have l:=kt ha hb' h hs c0 c1
  have m:=pF (a:=epi a s c) (b:=epi b s c) (by grind) (by grind) (by grind)
  rw[Rat.abs_of_nonneg m.1,Rat.abs_of_nonneg (x:=b-a) (by grind)]
  grind
 ·have l:=kt hb ha' h hs c0 c1
  have m:=pF (a:=epi b s c) (b:=epi a s c) (by grind) (by grind) (by grind)
  rw[Rat.abs_of_nonpos (by grind),Rat.abs_of_nonpos (x:=b-a) (by grind)]
  grind
theorem GZ:br 0=0:=by decide+kernel
theorem xz {a s c:Rat} (ha: -1<=a) (ha':a<=1) (hs:0<=s) (hs':s*3438<=449) (c0:0<=c) (c1:2*c<=1):(br (epi a s c)).abs <=s*(1-c)*(3438*15/896):=by
 have ba:=od ha ha' hs c0 c1
 have cs:=Rat.mul_nonneg hs c0
 rcases Rat.le_total (a:=0) (b:=epi a s c) with h|h
 ·have m:=pF (a:=0) (b:=epi a s c) (by grind) h (by grind)
  rw[GZ] at m
  rw[Rat.abs_of_nonneg (by grind)]
  grind
 ·have m:=pF (a:=epi a s c) (b:=0) (by grind) h (by grind)
  rw[GZ] at m
  rw[Rat.abs_of_nonpos (by grind)]
  grind
theorem pj {t p:Rat} (h:0<p):sof (mof t p)=sof (((360:Int):Rat)*bl t p):=by rw[jF h,my]
theorem AB {x y k:Rat} (h:x<=y) (hk:0<=k):k*x<=k*y:=Rat.mul_le_mul_of_nonneg_left h hk
theorem pG {t u an s c d:Rat} {n:Int} (h:0<an) (hs:0<=s) (hs':s*3438<=449) (c0:0<=c) (c1:2*c<=1)
 (e:((360:Int):Rat)*bl u an=((360:Int):Rat)*bl t an+d+((360:Int):Rat)*((n:Int):Rat)):(eqv u an s c-eqv t an s c).abs <=s*(225/224)*d.abs:=by
 have l:=pm (((360:Int):Rat)*bl t an+d) (((360:Int):Rat)*bl t an)
 rw[show((360:Int):Rat)*bl t an+d-((360:Int):Rat)*bl t an=d by grind] at l
 have bt:=fH (((360:Int):Rat)*bl t an)
 have bu:=fH (((360:Int):Rat)*bl t an+d)
 have m:=Hc (s:=s) (c:=c) bt.1 bt.2 bu.1 bu.2 hs hs' c0 c1
 unfold eqv
 rw[pj h,pj h,e,my]
 have k:=AB l (k:=s*(3438*15/896)) (by grind)
 rw[show((60:Int):Rat)/((3438:Int):Rat)=60/3438 by decide+kernel] at k
 grind
theorem jd (t:Rat):(de t).abs <=((22:Int):Rat)/((10:Int):Rat):=by
 have b:=fH (mof t pay)
 have m:=xz (s:=ssz) (c:=sch) b.1 b.2 (by decide+kernel) (by decide+kernel) (by decide+kernel) (by decide+kernel)
 have k:ssz*(1-sch)*(3438*15/896)<=((22:Int):Rat)/((10:Int):Rat):=by decide+kernel
 exact Rat.le_trans m k
theorem t8 (t:Rat):(gV t).abs <=((51:Int):Rat)/((10:Int):Rat):=by
 have b:=fH (mof t pam)
 have m:=xz (s:=msz) (c:=mch) b.1 b.2 (by decide+kernel) (by decide+kernel) (by decide+kernel) (by decide+kernel)
 have k:msz*(1-mch)*(3438*15/896)<=((51:Int):Rat)/((10:Int):Rat):=by decide+kernel
 exact Rat.le_trans m k
theorem vr (x y:Rat):rmod (rmod x ((360:Int):Rat)-rmod y ((360:Int):Rat)) ((360:Int):Rat)=rmod (x-y) ((360:Int):Rat):=by
 rw[Fe bj,show rmod x ((360:Int):Rat)-y=rmod x ((360:Int):Rat)+ -y by grind,En bj,show x+ -y=x-y by grind]
theorem dM {t d p:Rat}:bl (t+d) p=bl t p+d/p:=by unfold bl;grind
theorem KF {t d p an s c:Rat} (hp:0<p):rmod (atv (t+d) p an s c-atv t p an s c) ((360:Int):Rat)=rmod (((360:Int):Rat)*(d/p)-(eqv (t+d) an s c-eqv t an s c)) ((360:Int):Rat):=by
 unfold atv
 rw[vr,jF (t:=t+d) hp,jF (t:=t) hp,dM]
 rw[show((360:Int):Rat)*(bl t p+d/p)+((360:Int):Rat)*(((-(bl t p+d/p).floor :Int)):Rat)-eqv (t+d) an s c-(((360:Int):Rat)*bl t p+((360:Int):Rat)*(((-(bl t p).floor :Int)):Rat)-eqv t an s c)=(((360:Int):Rat)*(d/p)-(eqv (t+d) an s c-eqv t an s c))+((360:Int):Rat)*(((-(bl t p+d/p).floor +(bl t p).floor :Int)):Rat) by
  simp only [Rat.intCast_add,Rat.intCast_neg];grind]
 rw[jH _ bj]
theorem cE {x b:Rat} (h:x.abs<=b): -b<=x/\x<=b:=by have:=ro x;constructor <;> grind
theorem F8 (t:Rat):(de (t+((1:Int):Rat))-de t).abs <=ssz*(225/224)*(((360:Int):Rat)/pay).abs :=
 pG (n:=0) jj (by decide+kernel) (by decide+kernel) (by decide+kernel) (by decide+kernel) (by
  rw[dM,Rat.intCast_zero,Rat.intCast_one,Rat.div_def,Rat.div_def];grind)
theorem Jm (t:Rat):rmod (cT (t+((1:Int):Rat))-cT t) ((360:Int):Rat)=((360:Int):Rat)*(((1:Int):Rat)/pyr)-(de (t+((1:Int):Rat))-de t)/\9471/10000<((360:Int):Rat)*(((1:Int):Rat)/pyr)-(de (t+((1:Int):Rat))-de t)/\((360:Int):Rat)*(((1:Int):Rat)/pyr)-(de (t+((1:Int):Rat))-de t)<10242/10000:=by
 have l:=cE (F8 t)
 have k:ssz*(225/224)*(((360:Int):Rat)/pay).abs <385015/10000000:=by decide+kernel
 have k1:985602/1000000<((360:Int):Rat)*(((1:Int):Rat)/pyr):=by decide+kernel
 have k2:((360:Int):Rat)*(((1:Int):Rat)/pyr)<985603/1000000:=by decide+kernel
 have a:9471/10000<((360:Int):Rat)*(((1:Int):Rat)/pyr)-(de (t+((1:Int):Rat))-de t):=by grind
 have b:((360:Int):Rat)*(((1:Int):Rat)/pyr)-(de (t+((1:Int):Rat))-de t)<10242/10000:=by grind
 refine⟨?_,a,b⟩
 unfold cT
 rw[KF kd]
 exact o0 (by unfold de at a;grind) (by unfold de at b;rw[eu] at*;grind)
theorem wT (t:Rat):0<=cT t:=da bj
theorem uh (t:Rat):cT t<((360:Int):Rat):=cF bj
theorem j4 (t:Rat):0<=bf t:=da bj
theorem jx (t:Rat):bf t<((360:Int):Rat):=cF bj
theorem gD {x:Rat} {n:Int} (hn:0<n) (h0:0<=x) (h1:x<((360:Int):Rat)):0<=prt x n/\prt x n<n:=by
 have p:(0:Rat)<((n:Int):Rat):=Rat.intCast_pos.2 hn
 have q:(0:Rat)<((n:Int):Rat)/((360:Int):Rat):=by rw[Rat.div_def];exact Rat.mul_pos p (by decide+kernel)
 unfold prt
 constructor
 ·exact Rat.le_floor_iff.2 (by rw[Rat.intCast_zero];exact Rat.mul_nonneg h0 (by grind))
 ·refine Rat.floor_lt_iff.2 ?_
  have m:=(Rat.mul_lt_mul_right (c:=((n:Int):Rat)/((360:Int):Rat)) q).2 h1
  have e:((360:Int):Rat)*(((n:Int):Rat)/((360:Int):Rat))=((n:Int):Rat):=by rw[Rat.mul_comm];exact Rat.div_mul_cancel (by decide+kernel)
  rw[e] at m
  exact m
theorem tF (x:Rat):pfr x=mfr (x/wd):=by
 have h:(0:Rat)<((96:Int):Rat):=by decide+kernel
 unfold pfr pk
 show mfr (rmod (x/wd) ((96:Int):Rat))=_
 rw[gR h]
 generalize (x/wd/((96:Int):Rat)).floor =n
 rw[show x/wd+((96:Int):Rat)*(((-n:Int)):Rat)=x/wd+((96* -n:Int):Rat) by rw[Rat.intCast_mul],EC]
theorem eR {x:Rat} {k:Nat} (h:aw x k):aw (sof x) (k+12):=by
 rw[<-l6,tF]
 exact(cZ (bB (dE (cK _).1 (cK _).2) (a5 (sT (cZ h ov)) (dE (ei _).1 (ei _).2))) (dE (n:=3438) (by decide) (by decide))).up _ (by omega)
theorem Hl {a s c:Rat} {k j i:Nat} (h:aw a k) (hs:aw s j) (hc:aw c i):aw (epi a s c) (2*k+2*j+i+1):=(a5 h (bS hs (a5 (a5 (f7 h) hc) hs))).up _ (by omega)
theorem y8 {t an s c:Rat} {k l j i:Nat} (h:aw t k) (ha:aw an l) (hs:aw s j) (hc:aw c i):aw (eqv t an s c) (2*k+2*l+2*j+i+60):=(k4 (Hl (eR (i7 h ha)) hs hc)).up _ (by omega)
theorem zB {t p an s c:Rat} {k m l j i:Nat} (h:aw t k) (hp:aw p m) (ha:aw an l) (hs:aw s j) (hc:aw c i):aw (atv t p an s c) (3*k+m+2*l+2*j+i+80):=(fC (bS (i7 h hp) (y8 h ha hs hc))).up _ (by omega)
theorem zm:aw ssz 2:=jz (by decide) (by decide) (by decide) (by decide)
theorem zn:aw sch 2:=jz (by decide) (by decide) (by decide) (by decide)
theorem yI:aw msz 2:=jz (by decide) (by decide) (by decide) (by decide)
theorem zI:aw mch 2:=jz (by decide) (by decide) (by decide) (by decide)
theorem gM {t:Rat} {k:Nat} (h:aw t k):aw (cT t) (3*k+100):=(zB h mw jb zm zn).up _ (by omega)
theorem lB {t:Rat} {k:Nat} (h:aw t k):aw (mC t) (3*k+100):=(zB h o9 pC yI zI).up _ (by omega)
theorem m9 {t:Rat} {k:Nat} (h:aw t k):aw (bf t) (6*k+210):=(fC (bS (lB h) (gM h))).up _ (by omega)
theorem qOf {v1:Value} {p1:Rat} {k1:Nat} {w:World} (hT:bn w) (x1:Rl p1 k1 w v1) (a1:k1<=800:=by omega):CP 216 #[v1] w (Ret (kq (sof (p1)) ((k1+12))) w):=aR (zJ _ (p1) k1 _ hT x1.1 x1.2 (by omega)) (eR x1.2)
theorem yK {v1:Value} {p1:Rat} {k1:Nat} {w:World} (hT:bn w) (x1:Rl p1 k1 w v1) (a1:k1<=700:=by omega):CP 218 #[v1] w (Ret (kq (sof ((p1)+((90:Int):Rat))) ((k1+2+1+12))) w):=aR (Fv _ (p1) k1 _ hT x1.1 x1.2 (by omega)) (eR (bB x1.2 (dE (n:=90) (by decide) (by decide))))
theorem ED {v1:Value} {p1:Rat} {k1:Nat} {w:World} (hT:bn w) (x1:Rl p1 k1 w v1) (a1:k1<=1000:=by omega):CP 219 #[v1] w (Ret (kq (br (p1)) ((k1+20))) w):=aR (E9 _ (p1) k1 _ hT x1.1 x1.2 (by omega)) (k4 x1.2)
def kli:Rat:=((-1132959:Int):Rat)
def i6 (t:Rat):Rat:=(t-kli)*(((600:Int):Rat)/((1577917828:Int):Rat))-((1:Int):Rat)/((4:Int):Rat)
def AQ (t:Rat):Rat:=cV (i6 t) (((-1:Int):Rat)/((2:Int):Rat)) (((1:Int):Rat)/((2:Int):Rat))
def fE (t:Rat):Rat:=((27:Int):Rat)-((108:Int):Rat)*(AQ t).abs
def bO (t:Rat):Rat:=rmod (cT t-fE t) ((360:Int):Rat)
def obl:Rat:=((1397:Int):Rat)/((3438:Int):Rat)
def hV (t:Rat):Rat:=obl*sof (bO t)
def dK (h:Rat):Rat:=sof (br h+((90:Int):Rat))
def eV (t lat:Rat):Rat:=hV t*sof lat/sof (lat+((90:Int):Rat))
def fD (t lat:Rat):Rat:=br (-(eV t lat/dK (hV t)))
theorem kG:obl=1397/3438:=by decide+kernel
theorem r90:((90:Int):Rat)=90:=rfl
theorem pO:(((-1:Int):Rat)/((2:Int):Rat))= -1/2/\(((1:Int):Rat)/((2:Int):Rat))=1/2:=by decide+kernel
theorem FR (y:Rat) (m:Int):(cV y (-1/2) (1/2)).abs <=(y-((m:Int):Rat)).abs :=by
 have l:=C8 (x:=y) (a:= -1/2) (b:=1/2) (by grind)
 have u:=zX (x:=y) (a:= -1/2) (b:=1/2) (by grind)
 obtain⟨n,e⟩:∃n:Int,cV y (-1/2) (1/2)=y-((n:Int):Rat):=by
  refine⟨((y- -1/2)/(1/2- -1/2)).floor,?_⟩
  unfold cV
  rw[if_neg (by grind)]
  unfold rmod
  rw[if_neg (by grind)]
  grind
 rw[e] at l u ⊢
 have h:m=n\/m<=n-1\/n+1<=m:=by omega
 rcases h with h|h|h
 ·rw[h];exact Rat.le_refl
 ·have:=cg h
  rw[Rat.intCast_sub,Rat.intCast_one] at this
  unfold Rat.abs;split <;> split <;> grind
 ·have:=cg h
  rw[Rat.intCast_add,Rat.intCast_one] at this
  unfold Rat.abs;split <;> split <;> grind
theorem yx (y d:Rat):(cV (y+d) (-1/2) (1/2)).abs <=(cV y (-1/2) (1/2)).abs +d.abs:=by
 obtain⟨n,e⟩:∃n:Int,cV y (-1/2) (1/2)=y-((n:Int):Rat):=by
  refine⟨((y- -1/2)/(1/2- -1/2)).floor,?_⟩
  unfold cV
  rw[if_neg (by grind)]
  unfold rmod
  rw[if_neg (by grind)]
  grind
 have h:=FR (y+d) n
 have g:(y+d-((n:Int):Rat)).abs <=(y-((n:Int):Rat)).abs +d.abs:=by
  unfold Rat.abs;split <;> split <;> split <;> grind
 rw[e];grind
theorem F1 (t:Rat):(fE (t+((1:Int):Rat))-fE t).abs <=1/1000:=by
 have e:i6 (t+((1:Int):Rat))=i6 t+((600:Int):Rat)/((1577917828:Int):Rat):=by unfold i6;rw[Rat.intCast_one];grind
 have e':i6 t=i6 (t+((1:Int):Rat))+ -(((600:Int):Rat)/((1577917828:Int):Rat)):=by rw[e];grind
 have k:(((600:Int):Rat)/((1577917828:Int):Rat)).abs <=1/200000:=by decide+kernel
 have k':(-(((600:Int):Rat)/((1577917828:Int):Rat))).abs <=1/200000:=by decide+kernel
 have a:=yx (i6 t) (((600:Int):Rat)/((1577917828:Int):Rat))
 have b:=yx (i6 (t+((1:Int):Rat))) (-(((600:Int):Rat)/((1577917828:Int):Rat)))
 rw[<-e] at a
 rw[<-e'] at b
 unfold fE AQ
 rw[pO.1,pO.2,show((108:Int):Rat)=108 from rfl,show((27:Int):Rat)=27 from rfl]
 exact gz (by grind) (by grind)
theorem rV {p q:Rat} (h1:((-90:Int):Rat)<=p) (h2:p<=q) (h3:q<=((90:Int):Rat)):sof p<=sof q:=by
 by_cases e:p=q
 ·rw[e];exact Rat.le_refl
 ·exact Rat.le_of_lt (nf h1 (by grind) h3)
theorem wK (x:Rat):sof (rmod x ((360:Int):Rat))=sof x:=by rw[gR bj,my]
theorem yD {y:Rat} (h0: -1<=y) (h1:y<=1):((-90:Int):Rat)<=br y/\br y<=((90:Int):Rat):=by
 have h:=AJ (h:=y*((3438:Int):Rat)) (by rw[eF,show((-3438:Int):Rat)= -3438 from rfl];grind) (by rw[eF];grind)
 unfold br
 rw[eh,r90,show((-90:Int):Rat)= -90 from rfl]
 have a:=h.1
 have b:=h.2.1
 rw[show((-24:Int):Rat)= -24 from rfl] at a
 rw[show((24:Int):Rat)=24 from rfl] at b
 constructor <;> grind
theorem nh {y:Rat} (h0: -1<=y) (h1:y<=1):sof (br y)=y:=zw h0 h1
theorem H9 {lat:Rat} (h0: -60<=lat) (h1:lat<=60): -(2978/3438)<=sof lat/\sof lat<=2978/3438:=by
 have a:sof 60=2978/3438:=by decide+kernel
 have b:sof (-60)= -(2978/3438):=by decide+kernel
 rw[<-a]
 have b': -sof 60=sof (-60):=by rw[a,b]
 rw[b']
 exact⟨rV (by rw[show((-90:Int):Rat)= -90 from rfl];grind) h0 (by rw[r90];grind),rV (by rw[show((-90:Int):Rat)= -90 from rfl];grind) h1 (by rw[r90];grind)⟩
theorem Hi {lat:Rat} (h0: -60<=lat) (h1:lat<=60):1/2<=sof (lat+((90:Int):Rat)):=by
 have a:sof 30=1/2:=by decide+kernel
 rw[<-a]
 by_cases h:lat<=0
 ·exact rV (by rw[show((-90:Int):Rat)= -90 from rfl];grind) (by rw[r90];grind) (by rw[r90];grind)
 ·have e:=Gs (lat+((90:Int):Rat))
  rw[show((180:Int):Rat)-(lat+((90:Int):Rat))=90-lat by rw[show((180:Int):Rat)=180 from rfl,r90];grind] at e
  rw[<-e]
  exact rV (by rw[show((-90:Int):Rat)= -90 from rfl];grind) (by grind) (by rw[r90];grind)
theorem sY {h:Rat} (h0: -obl<=h) (h1:h<=obl):9/10<=dK h/\dK h<=1:=by
 rw[kG] at h0 h1
 have e:=nh (y:=h) (by grind) (by grind)
 have c:=CT (br h)
 have n:=(Ff (br h)).2
 rw[e] at c n
 have b:=fH (br h+((90:Int):Rat))
 have p:0<=dK h:=by
  unfold dK
  rw[n]
  exact Rat.abs_nonneg
 refine⟨?_,b.2⟩
 unfold dK at p ⊢
 generalize sof (br h+((90:Int):Rat))=x at*
 have k:=cE c
 rw[show((1:Int):Rat)/((500:Int):Rat)=1/500 by decide+kernel,Rat.intCast_one] at k
 refine Rat.not_lt.1 fun q=>?_
 have m:=Rat.mul_nonneg (a:=9/10-x) (b:=9/10+x) (by grind) (by grind)
 have m2:=Rat.mul_nonneg (a:=1397/3438-h) (b:=1397/3438+h) (by grind) (by grind)
 grind
theorem pe (t:Rat): -obl<=hV t/\hV t<=obl:=by
 have b:=fH (bO t)
 unfold hV
 rw[kG]
 constructor <;> grind
def quo (t lat:Rat):Rat:=eV t lat/dK (hV t)
theorem wZ (t lat:Rat):quo t lat=sof lat/sof (lat+((90:Int):Rat))*(hV t/dK (hV t)):=by
 unfold quo eV
 rw[Rat.div_def,Rat.div_def,Rat.div_def,Rat.div_def];grind
theorem jC {x c b:Rat} (hc:0<c) (h:x<=b*c):x/c<=b:=Rat.not_lt.1 fun q=>by rw[Rat.lt_div_iff hc] at q;grind
theorem jM {x c b:Rat} (hc:0<c) (h:b*c<=x):b<=x/c:=Rat.not_lt.1 fun q=>by rw[Rat.div_lt_iff hc] at q;grind
theorem BV {lat:Rat} (h0: -60<=lat) (h1:lat<=60): -(2978/1719)<=sof lat/sof (lat+((90:Int):Rat))/\sof lat/sof (lat+((90:Int):Rat))<=2978/1719:=by
 have s:=H9 h0 h1
 have c:=Hi h0 h1
 exact⟨jM (by grind) (by grind),jC (by grind) (by grind)⟩
theorem Mu (t:Rat): -(1397/3438*(10/9))<=hV t/dK (hV t)/\hV t/dK (hV t)<=1397/3438*(10/9):=by
 have h:=pe t
 have c:=sY h.1 h.2
 rw[kG] at h
 exact⟨jM (by grind) (by grind),jC (by grind) (by grind)⟩
theorem ft {x y a b:Rat} (ha:0<=a) (hb:0<=b) (x0: -a<=x) (x1:x<=a) (y0: -b<=y) (y1:y<=b): -(a*b)<=x*y/\x*y<=a*b:=by
 have m1:=Rat.mul_nonneg (a:=a-x) (b:=b+y) (by grind) (by grind)
 have m2:=Rat.mul_nonneg (a:=a+x) (b:=b-y) (by grind) (by grind)
 have m3:=Rat.mul_nonneg (a:=a-x) (b:=b-y) (by grind) (by grind)
 have m4:=Rat.mul_nonneg (a:=a+x) (b:=b+y) (by grind) (by grind)
 constructor <;> grind
theorem rA (t:Rat) {lat:Rat} (h0: -60<=lat) (h1:lat<=60): -(79/100)<=quo t lat/\quo t lat<=79/100:=by
 have a:=BV h0 h1
 have b:=Mu t
 have m:=ft (by grind) (by grind) a.1 a.2 b.1 b.2
 rw[wZ]
 constructor <;> grind
theorem xk {y:Rat} (h0: -(79/100)<=y) (h1:y<=79/100): -53<=br y/\br y<=53:=by
 have r:=yD (y:=y) (by grind) (by grind)
 have e:=nh (y:=y) (by grind) (by grind)
 have a:79/100<sof 53:=by decide+kernel
 have b:sof (-53)< -(79/100):=by decide+kernel
 constructor
 ·refine Rat.not_lt.1 fun q=>?_
  have:=nf r.1 q (by rw[r90];grind)
  grind
 ·refine Rat.not_lt.1 fun q=>?_
  have:=nf (by rw[show((-90:Int):Rat)= -90 from rfl];grind) q r.2
  grind
theorem pw (t:Rat) {lat:Rat} (h0: -60<=lat) (h1:lat<=60): -53<=fD t lat/\fD t lat<=53:=by
 have q:=rA t h0 h1
 exact xk (y:= -(quo t lat)) (by grind) (by grind)
def je (k:Int):Int:=max (-15) (min k 15)
def S15 (k:Int):Int:=spk (je k)-131*je k
theorem Ov:∀n:Nat,n<30->131<=spk ((n:Int)-15+1)-spk ((n:Int)-15):=by decide+kernel
theorem Kf (k:Int):S15 k<=S15 (k+1):=by
 unfold S15
 by_cases h: -15<=k/\k<15
 ·have e1:je k=k:=by unfold je;omega
  have e2:je (k+1)=k+1:=by unfold je;omega
  have:=Ov (k+15).toNat (by omega)
  rw[show(((k+15).toNat :Nat):Int)=k+15 by omega,show k+15-15=k by omega] at this
  rw[e1,e2];omega
 ·have e:je (k+1)=je k:=by unfold je;omega
  rw[e];exact Int.le_refl _
theorem zr {y:Rat} (h0:((-15:Int):Rat)<=y) (h1:y<=((15:Int):Rat)):lin S15 y=lin spk y-131*y:=by
 have f0:=GS h0
 have f1:y.floor<=15:=by
  have:=Rat.floor_monotone h1
  rwa[Rat.floor_intCast] at this
 have e1:je y.floor=y.floor:=by unfold je;omega
 by_cases h:y.floor<15
 ·have e2:je (y.floor+1)=y.floor+1:=by unfold je;omega
  unfold lin S15
  rw[e1,e2]
  simp only [Rat.intCast_sub,Rat.intCast_mul,Rat.intCast_add,Rat.intCast_one]
  rw[show((131:Int):Rat)=131 from rfl]
  grind
 ·have e3:y.floor=15:=by omega
  have e4:y=((15:Int):Rat):=by
   have:=eI y;rw[e3] at this;grind
  rw[e4,gW,gW]
  decide+kernel
theorem BX {y z:Rat} (h0:((-15:Int):Rat)<=y) (h:y<=z) (h1:z<=((15:Int):Rat)):131*(z-y)<=lin spk z-lin spk y:=by
 have:=vO Kf h
 rw[zr h0 (by grind),zr (by grind) h1] at this
 grind
theorem vN {y z:Rat} (y0: -(79/100)<=y) (y1:y<=79/100) (z0: -(79/100)<=z) (z1:z<=79/100):(br z-br y).abs <=3438*15/524*(z-y).abs :=by
 have key:∀ {y z:Rat}, -(79/100)<=y->y<=z->z<=79/100->0<=br z-br y/\br z-br y<=3438*15/524*(z-y):=by
  intro y z y0 h z1
  have a:=xk (y:=y) y0 (by grind)
  have b:=xk (y:=z) (by grind) z1
  have ey:=nh (y:=y) (by grind) (by grind)
  have ez:=nh (y:=z) (by grind) (by grind)
  have hp:br y<=br z:=Rat.not_lt.1 fun q=>by
   have:=nf (by rw[show((-90:Int):Rat)= -90 from rfl];grind) q (by rw[r90];grind)
   grind
  have s:=BX (y:=br y/wd) (z:=br z/wd) (by rw[eh,show((-15:Int):Rat)= -15 from rfl];grind) (by rw[eh];grind) (by rw[eh,show((15:Int):Rat)=15 from rfl];grind)
  rw[<-gZ,<-gZ,ey,ez,eF,eh] at s
  constructor <;> grind
 rcases Rat.le_total (a:=y) (b:=z) with h|h
 ·have k:=key y0 h z1
  rw[Rat.abs_of_nonneg k.1,Rat.abs_of_nonneg (x:=z-y) (by grind)]
  exact k.2
 ·have k:=key z0 h y1
  rw[Rat.abs_of_nonpos (by grind),Rat.abs_of_nonpos (x:=z-y) (by grind)]
  grind
theorem EF (t u:Rat):(dK (hV u)-dK (hV t)).abs <=900/524*(hV u-hV t).abs :=by
 have a:=pe t
 have b:=pe u
 rw[kG] at a b
 have l:=vN (y:=hV t) (z:=hV u) (by grind) (by grind) (by grind) (by grind)
 have s:=pm (br (hV u)+((90:Int):Rat)) (br (hV t)+((90:Int):Rat))
 rw[show br (hV u)+((90:Int):Rat)-(br (hV t)+((90:Int):Rat))=br (hV u)-br (hV t) by grind,show((60:Int):Rat)/((3438:Int):Rat)=60/3438 by decide+kernel] at s
 unfold dK
 grind
theorem lv (x y:Rat):(x*y).abs =x.abs*y.abs:=by
 rcases Rat.le_total (a:=0) (b:=x) with hx|hx <;> rcases Rat.le_total (a:=0) (b:=y) with hy|hy
 ·rw[Rat.abs_of_nonneg hx,Rat.abs_of_nonneg hy,Rat.abs_of_nonneg (Rat.mul_nonneg hx hy)]
 ·have m:=Rat.mul_nonneg hx (b:= -y) (by grind)
  rw[Rat.abs_of_nonneg hx,Rat.abs_of_nonpos hy,Rat.abs_of_nonpos (by grind)];grind
 ·have m:=Rat.mul_nonneg (a:= -x) (by grind) hy
  rw[Rat.abs_of_nonpos hx,Rat.abs_of_nonneg hy,Rat.abs_of_nonpos (by grind)];grind
 ·have m:=Rat.mul_nonneg (a:= -x) (b:= -y) (by grind) (by grind)
  rw[Rat.abs_of_nonpos hx,Rat.abs_of_nonpos hy,Rat.abs_of_nonneg (by grind)];grind
theorem Kj (t u:Rat):(hV u/dK (hV u)-hV t/dK (hV t)).abs <=21/10*(hV u-hV t).abs :=by
 have a:=pe t
 have b:=pe u
 have ct:=sY a.1 a.2
 have cu:=sY b.1 b.2
 have l:=EF t u
 rw[kG] at a b
 generalize dK (hV u)=p at*
 generalize dK (hV t)=q at*
 generalize hV u=y at*
 generalize hV t=x at*
 have hp:p≠0:=by grind
 have hq:q≠0:=by grind
 have pq:0<p*q:=Rat.mul_pos (by grind) (by grind)
 have e:y/p-x/q=((y-x)*q-x*(p-q))/(p*q):=by
  rw[Rat.div_def,Rat.div_def,Rat.div_def,Rat.inv_mul_rev]
  grind
 have pq2:81/100<=p*q:=by
  have:=Rat.mul_nonneg (a:=p-9/10) (b:=q-9/10) (by grind) (by grind)
  grind
 have n1:((y-x)*q).abs <=(y-x).abs :=by
  rw[lv,Rat.abs_of_nonneg (x:=q) (by grind)]
  have:=Rat.mul_nonneg (a:=(y-x).abs) (b:=1-q) Rat.abs_nonneg (by grind)
  grind
 have n2:(x*(p-q)).abs <=1397/3438*(900/524)*(y-x).abs :=by
  rw[lv]
  have hx:x.abs<=1397/3438:=gz (by grind) (by grind)
  have:=Rat.mul_nonneg (a:=1397/3438-x.abs) (b:=(p-q).abs) (by grind) Rat.abs_nonneg
  grind
 have n:((y-x)*q-x*(p-q)).abs <=17/10*(y-x).abs :=by
  have k:=ro ((y-x)*q)
  have k2:=ro (x*(p-q))
  have k3:(0:Rat)<=(y-x).abs :=Rat.abs_nonneg
  exact gz (by grind) (by grind)
 have m:=cE n
 rw[e]
 have k3:(0:Rat)<=(y-x).abs :=Rat.abs_nonneg
 have w:=Rat.mul_nonneg (a:=(y-x).abs) (b:=p*q-81/100) k3 (by grind)
 exact gz (jM pq (by grind)) (jC pq (by grind))
theorem Fq (t:Rat):(sof (bO (t+((1:Int):Rat)))-sof (bO t)).abs <=60/3438*(104/100):=by
 have s:=Jm t
 have pr:=cE (F1 t)
 unfold bO
 rw[wK,wK]
 generalize hm:((360:Int):Rat)*(((1:Int):Rat)/pyr)-(de (t+((1:Int):Rat))-de t)=m at s
 have hu:∃j:Int,cT (t+((1:Int):Rat))=cT t+m+((360:Int):Rat)*((j:Int):Rat):=by
  have e:=s.1
  rw[gR bj] at e
  refine⟨((cT (t+((1:Int):Rat))-cT t)/((360:Int):Rat)).floor,?_⟩
  rw[Rat.intCast_neg] at e
  grind
 obtain⟨j,hu⟩:=hu
 have l:=pm (cT t+m-fE (t+((1:Int):Rat))) (cT t-fE t)
 rw[hu,show cT t+m+((360:Int):Rat)*((j:Int):Rat)-fE (t+((1:Int):Rat))=(cT t+m-fE (t+((1:Int):Rat)))+((360:Int):Rat)*((j:Int):Rat) by grind,my]
 rw[show((60:Int):Rat)/((3438:Int):Rat)=60/3438 by decide+kernel] at l
 have d:(cT t+m-fE (t+((1:Int):Rat))-(cT t-fE t)).abs <=104/100:=gz (by grind) (by grind)
 grind
theorem xD (t:Rat) {lat:Rat} (h0: -60<=lat) (h1:lat<=60):(fD (t+((1:Int):Rat)) lat-fD t lat).abs <=27/10:=by
 have d:=Fq t
 have q:=rA t h0 h1
 have q':=rA (t+((1:Int):Rat)) h0 h1
 have hl:=Kj t (t+((1:Int):Rat))
 have ta:=BV h0 h1
 have hh:(hV (t+((1:Int):Rat))-hV t).abs <=1397/3438*(60/3438*(104/100)):=by
  unfold hV
  rw[show obl*sof (bO (t+((1:Int):Rat)))-obl*sof (bO t)=obl*(sof (bO (t+((1:Int):Rat)))-sof (bO t)) by grind,lv,kG,Rat.abs_of_nonneg (x:=1397/3438) (by grind)]
  grind
 have e:(quo (t+((1:Int):Rat)) lat-quo t lat).abs <=2978/1719*(21/10*(1397/3438*(60/3438*(104/100)))):=by
  rw[wZ,wZ,show sof lat/sof (lat+((90:Int):Rat))*(hV (t+((1:Int):Rat))/dK (hV (t+((1:Int):Rat))))-sof lat/sof (lat+((90:Int):Rat))*(hV t/dK (hV t))=sof lat/sof (lat+((90:Int):Rat))*(hV (t+((1:Int):Rat))/dK (hV (t+((1:Int):Rat)))-hV t/dK (hV t)) by grind,lv]
  have ka:(sof lat/sof (lat+((90:Int):Rat))).abs <=2978/1719:=gz ta.1 ta.2
  generalize (sof lat/sof (lat+((90:Int):Rat))).abs =x at*
  have kb:(0:Rat)<=(hV (t+((1:Int):Rat))/dK (hV (t+((1:Int):Rat)))-hV t/dK (hV t)).abs :=Rat.abs_nonneg
  generalize (hV (t+((1:Int):Rat))/dK (hV (t+((1:Int):Rat)))-hV t/dK (hV t)).abs =y at*
  have m:=Rat.mul_nonneg (a:=2978/1719-x) (b:=y) (by grind) kb
  grind
 have a:=vN (y:= -(quo t lat)) (z:= -(quo (t+((1:Int):Rat)) lat)) (by grind) (by grind) (by grind) (by grind)
 rw[show -(quo (t+((1:Int):Rat)) lat)- -(quo t lat)= -(quo (t+((1:Int):Rat)) lat-quo t lat) by grind,show(-(quo (t+((1:Int):Rat)) lat-quo t lat)).abs =(quo (t+((1:Int):Rat)) lat-quo t lat).abs by unfold Rat.abs;split <;> split <;> grind] at a
 show(br (-(quo (t+((1:Int):Rat)) lat))-br (-(quo t lat))).abs <=27/10
 grind
def kQ (x:Rat):Int:=spk (pk x+1)-spk (pk x)
def lF (t:Rat):Rat:=((14:Int):Rat)/((360:Int):Rat)-(sof (mof t pay)).abs *(((1:Int):Rat)/((1080:Int):Rat))
def eG (t:Rat):Rat:=((360:Int):Rat)/pyr*(((1:Int):Rat)-((kQ (mof t pay):Int):Rat)/((225:Int):Rat)*lF t)
def gv (k:Int):Int:=if k%6=0\/k%6=5 then 1670 else if k%6=1\/k%6=4 then 1795 else 1935
def gw (t:Rat):Rat:=((gv (prt (bO t) 12):Int):Rat)/((1800:Int):Rat)
def gu (t:Rat):Rat:=eG t*(((1:Int):Rat)/((360:Int):Rat))*(sof (mof t pay)*(((573:Int):Rat)/((10:Int):Rat))*lF t*(((1:Int):Rat)/((360:Int):Rat)))*pyr
def kap:Rat:=((1577917828:Int):Rat)/((1582237828:Int):Rat)*(((1:Int):Rat)/((360:Int):Rat))
def mK (lon:Rat):Rat:=(((45461:Int):Rat)/((600:Int):Rat)-lon)*(((1:Int):Rat)/((360:Int):Rat))
def cC (t lat lon:Rat) (qd sg:Int):Rat:=t+((qd:Int):Rat)/((4:Int):Rat)+(mK lon-gu t)+(eG t*gw t*(((qd:Int):Rat)/((4:Int):Rat))+((sg:Int):Rat)*fD t lat)*kap
def cP (x:Rat):Rat:=(((x*((1048576:Int):Rat)).floor :Int):Rat)*(((1:Int):Rat)/((1048576:Int):Rat))
theorem nc (x:Rat):x-1/1000000<=cP x/\cP x<=x:=by
 have a:=eI (x*((1048576:Int):Rat))
 have b:=fk (x*((1048576:Int):Rat))
 unfold cP
 rw[show((1:Int):Rat)/((1048576:Int):Rat)=1/1048576 by decide+kernel]
 rw[show((1048576:Int):Rat)=1048576 from rfl] at*
 constructor <;> grind
theorem JG (t:Rat):13/360<=lF t/\lF t<=14/360:=by
 have b:=fH (mof t pay)
 have c:(sof (mof t pay)).abs <=1:=gz b.1 b.2
 have d:(0:Rat)<=(sof (mof t pay)).abs :=Rat.abs_nonneg
 unfold lF
 rw[show((14:Int):Rat)/((360:Int):Rat)=14/360 by decide+kernel,show((1:Int):Rat)/((1080:Int):Rat)=1/1080 by decide+kernel]
 constructor <;> grind
theorem Lr (x:Rat): -1<=((kQ x:Int):Rat)/((225:Int):Rat)/\((kQ x:Int):Rat)/((225:Int):Rat)<=1:=by
 have s:=gY (pk x)
 have a:=cg s.1
 have b:=cg s.2
 rw[show((-225:Int):Rat)= -225 from rfl] at a
 rw[show((225:Int):Rat)=225 from rfl] at b ⊢
 unfold kQ
 exact⟨jM (by grind) (by grind),jC (by grind) (by grind)⟩
theorem rn (t:Rat):947/1000<=eG t/\eG t<=1025/1000:=by
 have p:=JG t
 have s:=Lr (mof t pay)
 have m:=ft (b:=14/360) (a:=1) (x:=((kQ (mof t pay):Int):Rat)/((225:Int):Rat)) (y:=lF t) (by grind) (by grind) s.1 s.2 (by grind) p.2
 have k1:985/1000<=((360:Int):Rat)/pyr:=by decide+kernel
 have k2:986/1000≥((360:Int):Rat)/pyr:=by decide+kernel
 have k3:9856/10000<=((360:Int):Rat)/pyr:=by decide+kernel
 unfold eG
 rw[Rat.intCast_one]
 generalize ((kQ (mof t pay):Int):Rat)/((225:Int):Rat)*lF t=y at*
 generalize ((360:Int):Rat)/pyr=c at*
 have u:=Rat.mul_nonneg (a:=c-9856/10000) (b:=1-y) (by grind) (by grind)
 have v:=Rat.mul_nonneg (a:=986/1000-c) (b:=1-y) (by grind) (by grind)
 constructor <;> grind
theorem K0 (t:Rat):1670/1800<=gw t/\gw t<=1935/1800:=by
 have h:1670<=gv (prt (bO t) 12)/\gv (prt (bO t) 12)<=1935:=by unfold gv;split <;> (try split) <;> omega
 have a:=cg h.1
 have b:=cg h.2
 rw[show((1670:Int):Rat)=1670 from rfl] at a
 rw[show((1935:Int):Rat)=1935 from rfl] at b
 unfold gw
 rw[show((1800:Int):Rat)=1800 from rfl]
 exact⟨jM (by grind) (by grind),jC (by grind) (by grind)⟩
theorem iw (t:Rat):87/100<=eG t*gw t/\eG t*gw t<=111/100:=by
 have m:=rn t
 have r:=K0 t
 have u:=Rat.mul_nonneg (a:=eG t-947/1000) (b:=gw t) (by grind) (by grind)
 have v:=Rat.mul_nonneg (a:=1025/1000-eG t) (b:=gw t) (by grind) (by grind)
 constructor <;> grind
theorem nC:277/100000<=kap/\kap<=27703/10000000:=by decide+kernel
theorem LM (t:Rat):sof (mof t pay)*(((573:Int):Rat)/((10:Int):Rat))*lF t=573/10*epi (sof (mof t pay)) ssz sch:=by
 unfold lF epi
 rw[uD.1,uD.2.1,show((573:Int):Rat)/((10:Int):Rat)=573/10 by decide+kernel,show((14:Int):Rat)/((360:Int):Rat)=7/180 by decide+kernel,show((1:Int):Rat)/((1080:Int):Rat)=1/1080 by decide+kernel]
 grind
theorem wM (t:Rat):gu t=eG t*(epi (sof (mof t pay)) ssz sch*(573/10*(1/360)*(1/360)*pyr)):=by
 unfold gu
 rw[LM,show((1:Int):Rat)/((360:Int):Rat)=1/360 by decide+kernel];grind
theorem CF:16/100<=573/10*(1/360)*(1/360)*pyr/\573/10*(1/360)*(1/360)*pyr<=162/1000:=by decide+kernel
theorem G0 (t:Rat): -(41/1080)<=epi (sof (mof t pay)) ssz sch/\epi (sof (mof t pay)) ssz sch<=41/1080:=by
 have b:=fH (mof t pay)
 have e:=od (s:=ssz) (c:=sch) b.1 b.2 (by decide+kernel) (by decide+kernel) (by decide+kernel)
 have k:ssz*(1-sch)=41/1080:=by decide+kernel
 rw[k] at e;exact e
theorem rx (t:Rat): -(64/10000)<=gu t/\gu t<=64/10000:=by
 have m:=rn t
 have e:=G0 t
 have c:=CF
 have n:=ft (a:=41/1080) (b:=162/1000) (x:=epi (sof (mof t pay)) ssz sch) (y:=573/10*(1/360)*(1/360)*pyr) (by grind) (by grind) e.1 e.2 (by grind) c.2
 have o:=ft (a:=1025/1000) (b:=41/1080*(162/1000)) (x:=eG t) (by grind) (by grind) (by grind) m.2 n.1 n.2
 rw[wM]
 constructor <;> grind
theorem Ik (t:Rat):(epi (sof (mof (t+((1:Int):Rat)) pay)) ssz sch-epi (sof (mof t pay)) ssz sch).abs <=7/180*(60/3438*(986/1000)):=by
 have l:=pm (((360:Int):Rat)*bl (t+((1:Int):Rat)) pay) (((360:Int):Rat)*bl t pay)
 rw[<-pj jj,<-pj jj,dM,show((60:Int):Rat)/((3438:Int):Rat)=60/3438 by decide+kernel] at l
 have d:(((360:Int):Rat)*(bl t pay+((1:Int):Rat)/pay)-((360:Int):Rat)*bl t pay).abs <=986/1000:=by
  rw[show((360:Int):Rat)*(bl t pay+((1:Int):Rat)/pay)-((360:Int):Rat)*bl t pay=((360:Int):Rat)*(((1:Int):Rat)/pay) by grind]
  decide+kernel
 have bt:=fH (mof t pay)
 have bu:=fH (mof (t+((1:Int):Rat)) pay)
 have s1:=uD.1
 have s2:=uD.2.1
 generalize sof (mof (t+((1:Int):Rat)) pay)=b at*
 generalize sof (mof t pay)=x at*
 have n:(b-x).abs <=60/3438*(986/1000):=by grind
 rcases Rat.le_total (a:=x) (b:=b) with h|h
 ·have e:=kt (s:=ssz) (c:=sch) bt.1 bu.2 h (by decide+kernel) (by decide+kernel) (by decide+kernel)
  rw[Rat.abs_of_nonneg (x:=b-x) (by grind)] at n
  rw[Rat.abs_of_nonneg e.1]
  rw[s1] at e ⊢
  grind
 ·have e:=kt (s:=ssz) (c:=sch) bu.1 bt.2 h (by decide+kernel) (by decide+kernel) (by decide+kernel)
  rw[Rat.abs_of_nonpos (x:=b-x) (by grind)] at n
  rw[Rat.abs_of_nonpos (by grind)]
  rw[s1] at e ⊢
  grind
theorem zb (t:Rat):(gu (t+((1:Int):Rat))-gu t).abs <=1/1000:=by
 have m:=rn t
 have m':=rn (t+((1:Int):Rat))
 have e:=G0 t
 have d:=cE (Ik t)
 have c:=CF
 rw[wM,wM]
 generalize epi (sof (mof (t+((1:Int):Rat)) pay)) ssz sch=b at*
 generalize epi (sof (mof t pay)) ssz sch=x at*
 generalize eG (t+((1:Int):Rat))=n at*
 generalize eG t=o at*
 generalize 573/10*(1/360)*(1/360)*pyr=k at*
 have u:=ft (a:=1025/1000) (b:=7/180*(60/3438*(986/1000))) (x:=n) (y:=b-x) (by grind) (by grind) (by grind) (by grind) (by grind) (by grind)
 have v:=ft (a:=78/1000) (b:=41/1080) (x:=n-o) (y:=x) (by grind) (by grind) (by grind) (by grind) e.1 e.2
 have q:=ft (a:=1025/1000*(7/180*(60/3438*(986/1000)))+78/1000*(41/1080)) (b:=162/1000) (x:=n*(b-x)+(n-o)*x) (y:=k) (by grind) (by grind) (by grind) (by grind) (by grind) (by grind)
 rw[show n*(b*k)-o*(x*k)=(n*(b-x)+(n-o)*x)*k by grind]
 exact gz (by grind) (by grind)
theorem Du (t:Rat) {lat:Rat} (lon:Rat) (h0: -60<=lat) (h1:lat<=60):985/1000<=cC (t+((1:Int):Rat)) lat lon 1 1-cC t lat lon 1 1/\cC (t+((1:Int):Rat)) lat lon 1 1-cC t lat lon 1 1<=1015/1000:=by
 have e:=cE (zb t)
 have d:=cE (xD t h0 h1)
 have s:=iw t
 have s':=iw (t+((1:Int):Rat))
 have k:=nC
 unfold cC
 rw[show((1:Int):Rat)/((4:Int):Rat)=1/4 by decide+kernel,Rat.intCast_one] at*
 generalize fD (t+1) lat=d2 at*
 generalize fD t lat=d1 at*
 generalize eG (t+1)*gw (t+1)=s2 at*
 generalize eG t*gw t=s1 at*
 generalize gu (t+1)=e2 at*
 generalize gu t=e1 at*
 have m:=ft (a:=1/4*(111/100-87/100)+27/10) (b:=27703/10000000) (x:=(s2*(1/4)+1*d2)-(s1*(1/4)+1*d1)) (y:=kap) (by grind) (by grind) (by grind) (by grind) (by grind) k.2
 constructor <;> grind
end Go.Proofs.YtddiipaomejcfaaGreatDoor
