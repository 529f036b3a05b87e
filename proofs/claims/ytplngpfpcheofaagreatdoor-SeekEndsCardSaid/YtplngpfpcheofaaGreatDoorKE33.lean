import Derived.Test.YtplngpfpcheofaaGreatDoorKE24
import Derived.Test.YtplngpfpcheofaaGreatDoorKE26
namespace Go.Proofs.YtplngpfpcheofaaGreatDoor
open Go.RowKit
set_option maxRecDepth 100000
set_option linter.unusedVariables false
set_option maxHeartbeats 8000000
def epi (a s c:Rat):Rat:=a*(s-a.abs*c*s)
def eqv (t an s c:Rat):Rat:=cK (epi (sof (mof t an)) s c)
def atv (t p an s c:Rat):Rat:=aH (mof t p-eqv t an s c) ((360:Int):Rat)
def ssz:Rat:=((14:Int):Rat)/((360:Int):Rat)
def sch:Rat:=((1:Int):Rat)/((42:Int):Rat)
def msz:Rat:=((32:Int):Rat)/((360:Int):Rat)
def mch:Rat:=((1:Int):Rat)/((96:Int):Rat)
def l4 (t:Rat):Rat:=eqv t pay ssz sch
def jN (t:Rat):Rat:=eqv t pam msz mch
def bi (t:Rat):Rat:=atv t pyr pay ssz sch
def aU (t:Rat):Rat:=atv t pmo pam msz mch
def bq (t:Rat):Rat:=aH (aU t-bi t) ((360:Int):Rat)
def prt (x:Rat) (n:Int):Int:=(x*(((n:Int):Rat)/((360:Int):Rat))).floor
theorem zb {h:Rat} (h1:h≤225):ay h=h/225:=by
 have s0:spk ((0:Nat):Int)=0:=by decide+kernel
 have s1:spk (((0:Nat):Int)+1)=225:=by decide+kernel
 have e:yk h=0:=by
  show(if h≤_ then _ else _)=_
  rw[if_pos]
  rw[s1];exact h1
 unfold ay
 rw[e,if_pos (by decide),s0,s1]
 rw[show((225-0:Int):Rat)=225 from rfl,show((0:Int):Rat)=0 from rfl,show(((0:Nat):Int):Rat)=0 from rfl]
 grind
theorem yP {h:Rat} (h0:225<h) (h1:h≤449):ay h=(h-225)/224+1:=by
 have s1:spk ((1:Nat):Int)=225:=by decide+kernel
 have s1':spk (((0:Nat):Int)+1)=225:=by decide+kernel
 have s2:spk (((1:Nat):Int)+1)=449:=by decide+kernel
 have s2':spk (((0+1:Nat):Int)+1)=449:=by decide+kernel
 have e:yk h=1:=by
  show(if h≤_ then _ else _)=_
  rw[if_neg]
  ·show(if h≤_ then _ else _)=_
   rw[if_pos]
   rw[s2'];exact h1
  ·rw[s1'];exact fun k=>by have k':h≤225:=k;grind
 unfold ay
 rw[e,if_pos (by decide),s1,s2]
 rw[show((449-225:Int):Rat)=224 from rfl,show((225:Int):Rat)=225 from rfl,show(((1:Nat):Int):Rat)=1 from rfl]
theorem vA {h:Rat} (h0: -449≤h) (h1:h≤449):(h< -225∧ap h=(h+225)/224-1)∨(-225≤h∧h≤225∧ap h=h/225)∨(225<h∧ap h=(h-225)/224+1):=by
 unfold ap
 by_cases hn:h<0
 ·rw[if_pos hn]
  by_cases hm: -h≤225
  ·right;left
   rw[zb hm]
   refine⟨by grind,by grind,by grind⟩
  ·left
   rw[yP (by grind) (by grind)]
   refine⟨by grind,by grind⟩
 ·rw[if_neg hn]
  by_cases hm:h≤225
  ·right;left
   rw[zb hm]
   refine⟨by grind,by grind,by grind⟩
  ·right;right
   rw[yP (by grind) (by grind)]
   refine⟨by grind,by grind⟩
theorem xV {g h:Rat} (h0: -449≤g) (h1:g≤h) (h2:h≤449):0≤ap h-ap g∧ap h-ap g≤(h-g)/224:=by
 rcases vA (h:=g) h0 (by grind) with⟨a,e⟩|⟨a,a',e⟩|⟨a,e⟩ <;> rcases vA (h:=h) (by grind) h2 with⟨b,f⟩|⟨b,b',f⟩|⟨b,f⟩ <;> rw[e,f] <;> constructor <;> grind
theorem zI {a b:Rat} (ha: -1≤a) (hb:b≤1) (h:a≤b):0≤b*b.abs-a*a.abs∧b*b.abs-a*a.abs≤2*(b-a):=by
 by_cases a0:0≤a
 ·rw[Rat.abs_of_nonneg a0,Rat.abs_of_nonneg (by grind)]
  have m:=Rat.mul_nonneg (a:=b-a) (b:=b+a) (by grind) (by grind)
  have n:=Rat.mul_nonneg (a:=b-a) (b:=2-(b+a)) (by grind) (by grind)
  constructor <;> grind
 ·rw[Rat.abs_of_nonpos (x:=a) (by grind)]
  by_cases b0:0≤b
  ·rw[Rat.abs_of_nonneg b0]
   have m:=Rat.mul_nonneg (a:=b) (b:=1-b) (by grind) (by grind)
   have n:=Rat.mul_nonneg (a:= -a) (b:=1+a) (by grind) (by grind)
   have m':=Rat.mul_nonneg (a:=b) (b:=b) (by grind) (by grind)
   have n':=Rat.mul_nonneg (a:= -a) (b:= -a) (by grind) (by grind)
   constructor <;> grind
  ·rw[Rat.abs_of_nonpos (x:=b) (by grind)]
   have m:=Rat.mul_nonneg (a:=b-a) (b:= -(b+a)) (by grind) (by grind)
   have n:=Rat.mul_nonneg (a:=b-a) (b:=2+(b+a)) (by grind) (by grind)
   constructor <;> grind
theorem jX {a b s c:Rat} (ha: -1≤a) (hb:b≤1) (h:a≤b) (hs:0≤s) (c0:0≤c) (c1:2*c≤1):0≤epi b s c-epi a s c∧epi b s c-epi a s c≤s*(b-a):=by
 have hd:=zI ha hb h
 have e:epi b s c-epi a s c=s*((b-a)-c*(b*b.abs-a*a.abs)):=by unfold epi;grind
 rw[e]
 generalize b*b.abs-a*a.abs=d at*
 have m:=Rat.mul_nonneg c0 hd.1
 have n:=Rat.mul_nonneg (a:=c) (b:=2*(b-a)-d) c0 (by grind)
 have o:=Rat.mul_nonneg (a:=1-2*c) (b:=b-a) (by grind) (by grind)
 have p:=Rat.mul_nonneg (a:=s) (b:=(b-a)-c*d) hs (by grind)
 have q:=Rat.mul_nonneg (a:=s) (b:=c*d) hs m
 constructor
 ·exact p
 ·grind
theorem se {a s c:Rat} (h0: -1≤a) (h1:a≤1) (hs:0≤s) (c0:0≤c) (c1:2*c≤1): -(s*(1-c))≤epi a s c∧epi a s c≤s*(1-c):=by
 have u:=jX (a:=a) (b:=1) h0 (by grind) h1 hs c0 c1
 have v:=jX (a:= -1) (b:=a) (by grind) h1 h0 hs c0 c1
 have e1:epi 1 s c=s*(1-c):=by unfold epi;rw[Rat.abs_of_nonneg (by grind)];grind
 have e2:epi (-1) s c= -(s*(1-c)):=by unfold epi;rw[Rat.abs_of_nonpos (by grind)];grind
 rw[e1] at u
 rw[e2] at v
 constructor <;> grind
theorem pO {a b:Rat} (h0: -449≤a*3438) (h:a≤b) (h1:b*3438≤449):0≤cK b-cK a∧cK b-cK a≤(b-a)*(3438*15/896):=by
 have m:=xV (g:=a*3438) (h:=b*3438) h0 (by grind) h1
 unfold cK
 rw[gu,jQ]
 constructor <;> grind
theorem xd {a b s c:Rat} (ha: -1≤a) (ha':a≤1) (hb: -1≤b) (hb':b≤1) (hs:0≤s) (hs':s*3438≤449) (c0:0≤c) (c1:2*c≤1):(cK (epi b s c)-cK (epi a s c)).abs ≤s*(3438*15/896)*(b-a).abs :=by
 have ba:=se ha ha' hs c0 c1
 have bb:=se hb hb' hs c0 c1
 have cs:=Rat.mul_nonneg hs c0
 rcases Rat.le_total (a:=a) (b:=b) with h|h
 ·have l:=jX ha hb' h hs c0 c1
  have m:=pO (a:=epi a s c) (b:=epi b s c) (by grind) (by grind) (by grind)
  rw[Rat.abs_of_nonneg m.1,Rat.abs_of_nonneg (x:=b-a) (by grind)]
  grind
 ·have l:=jX hb ha' h hs c0 c1
  have m:=pO (a:=epi b s c) (b:=epi a s c) (by grind) (by grind) (by grind)
  rw[Rat.abs_of_nonpos (by grind),Rat.abs_of_nonpos (x:=b-a) (by grind)]
  grind
theorem qe {t p:Rat} (h:0<p):sof (mof t p)=sof (((360:Int):Rat)*bV t p):=by rw[jF h,m6]
theorem qy {x y k:Rat} (h:x≤y) (hk:0≤k):k*x≤k*y:=Rat.mul_le_mul_of_nonneg_left h hk
theorem pZ {t u an s c d:Rat} {n:Int} (h:0<an) (hs:0≤s) (hs':s*3438≤449) (c0:0≤c) (c1:2*c≤1)
 (e:((360:Int):Rat)*bV u an=((360:Int):Rat)*bV t an+d+((360:Int):Rat)*((n:Int):Rat)):(eqv u an s c-eqv t an s c).abs ≤s*(225/224)*d.abs:=by
 have l:=xj (((360:Int):Rat)*bV t an+d) (((360:Int):Rat)*bV t an)
 rw[show((360:Int):Rat)*bV t an+d-((360:Int):Rat)*bV t an=d by grind] at l
 have bt:=tp (((360:Int):Rat)*bV t an)
 have bu:=tp (((360:Int):Rat)*bV t an+d)
 have m:=xd (s:=s) (c:=c) bt.1 bt.2 bu.1 bu.2 hs hs' c0 c1
 unfold eqv
 rw[qe h,qe h,e,m6]
 have k:=qy l (k:=s*(3438*15/896)) (by grind)
 rw[show((60:Int):Rat)/((3438:Int):Rat)=60/3438 by decide+kernel] at k
 grind
theorem uK (x y:Rat):aH (aH x ((360:Int):Rat)-aH y ((360:Int):Rat)) ((360:Int):Rat)=aH (x-y) ((360:Int):Rat):=by
 rw[uP aM,show aH x ((360:Int):Rat)-y=aH x ((360:Int):Rat)+ -y by grind,tS aM,show x+ -y=x-y by grind]
theorem ie {t d p:Rat}:bV (t+d) p=bV t p+d/p:=by unfold bV;grind
theorem qf {x b:Rat} (h:x.abs≤b): -b≤x∧x≤b:=by have:=rV x;constructor <;> grind
theorem gI (t:Rat):0≤bi t:=bT aM
theorem gb (t:Rat):bi t<((360:Int):Rat):=bH aM
theorem ga (t:Rat):0≤aU t:=bT aM
theorem fz (t:Rat):aU t<((360:Int):Rat):=bH aM
theorem dX (t:Rat):0≤bq t:=bT aM
theorem dI (t:Rat):bq t<((360:Int):Rat):=bH aM
theorem cj {x:Rat} {n:Int} (hn:0<n) (h0:0≤x) (h1:x<((360:Int):Rat)):0≤prt x n∧prt x n<n:=by
 have p:(0:Rat)<((n:Int):Rat):=Rat.intCast_pos.2 hn
 have q:(0:Rat)<((n:Int):Rat)/((360:Int):Rat):=by rw[Rat.div_def];exact Rat.mul_pos p (by decide+kernel)
 unfold prt
 constructor
 ·exact Rat.le_floor_iff.2 (by rw[Rat.intCast_zero];exact Rat.mul_nonneg h0 (by grind))
 ·refine Rat.floor_lt_iff.2 ?_
  have m:=(Rat.mul_lt_mul_right (c:=((n:Int):Rat)/((360:Int):Rat)) q).2 h1
  have e:((360:Int):Rat)*(((n:Int):Rat)/((360:Int):Rat))=((n:Int):Rat):=by rw[Rat.mul_comm];exact Rat.div_mul_cancel (by decide+kernel)
  rw[e] at m
  exact m
theorem wu (x:Rat):pfr x=mfr (x/wd):=by
 have h:(0:Rat)<((96:Int):Rat):=by decide+kernel
 unfold pfr pk
 show mfr (aH (x/wd) ((96:Int):Rat))=_
 rw[fP h]
 generalize (x/wd/((96:Int):Rat)).floor =n
 rw[show x/wd+((96:Int):Rat)*(((-n:Int)):Rat)=x/wd+((96* -n:Int):Rat) by rw[Rat.intCast_mul],uO]
theorem dD {x:Rat} {k:Nat} (h:az x k):az (sof x) (k+12):=by
 rw[←nM,wu]
 exact(b7 (dw (ei (cg _).1 (cg _).2) (aV (jM (b7 h gf)) (ei (cT _).1 (cT _).2))) (ei (n:=3438) (by decide) (by decide))).up _ (by omega)
theorem xz {a s c:Rat} {k j i:Nat} (h:az a k) (hs:az s j) (hc:az c i):az (epi a s c) (2*k+2*j+i+1):=(aV h (bl hs (aV (aV (fk h) hc) hs))).up _ (by omega)
theorem l9 {t an s c:Rat} {k l j i:Nat} (h:az t k) (ha:az an l) (hs:az s j) (hc:az c i):az (eqv t an s c) (2*k+2*l+2*j+i+60):=(nH (xz (dD (cE h ha)) hs hc)).up _ (by omega)
theorem p9 {t p an s c:Rat} {k m l j i:Nat} (h:az t k) (hp:az p m) (ha:az an l) (hs:az s j) (hc:az c i):az (atv t p an s c) (3*k+m+2*l+2*j+i+80):=(dJ (bl (cE h hp) (l9 h ha hs hc))).up _ (by omega)
theorem pq:az ssz 2:=f9 (by decide) (by decide) (by decide) (by decide)
theorem pB:az sch 2:=f9 (by decide) (by decide) (by decide) (by decide)
theorem pi:az msz 2:=f9 (by decide) (by decide) (by decide) (by decide)
theorem pH:az mch 2:=f9 (by decide) (by decide) (by decide) (by decide)
theorem ch {t:Rat} {k:Nat} (h:az t k):az (bi t) (3*k+100):=(p9 h ma lP pq pB).up _ (by omega)
theorem bW {t:Rat} {k:Nat} (h:az t k):az (aU t) (3*k+100):=(p9 h lV lG pi pH).up _ (by omega)
theorem qz {t:Rat} {k:Nat} (h:az t k):az (bq t) (6*k+210):=(dJ (bl (bW h) (ch h))).up _ (by omega)
end Go.Proofs.YtplngpfpcheofaaGreatDoor
