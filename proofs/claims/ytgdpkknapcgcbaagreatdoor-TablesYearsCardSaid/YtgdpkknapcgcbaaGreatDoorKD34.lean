import Derived.Test.YtgdpkknapcgcbaaGreatDoorKD33
namespace Go.Proofs.YtgdpkknapcgcbaaGreatDoor
open Go.RowKit
set_option maxRecDepth 100000
set_option linter.unusedVariables false
set_option maxHeartbeats 8000000
theorem Bm (t:Rat) {d:Rat} (h0:0<=d) (h1:d<=30):(cM (t+d)-cM t).abs <=2/100:=by
 have e:ed (t+d)=ed t+d*(((600:Int):Rat)/((1577917828:Int):Rat)):=by unfold ed;grind
 have e':ed t=ed (t+d)+ -(d*(((600:Int):Rat)/((1577917828:Int):Rat))):=by rw[e];grind
 have k0:(0:Rat)<=((600:Int):Rat)/((1577917828:Int):Rat):=by decide+kernel
 have k1:((600:Int):Rat)/((1577917828:Int):Rat)<=1/200000:=by decide+kernel
 have a:=mI (ed t) (d*(((600:Int):Rat)/((1577917828:Int):Rat)))
 have b:=mI (ed (t+d)) (-(d*(((600:Int):Rat)/((1577917828:Int):Rat))))
 rw[<-e] at a
 rw[<-e'] at b
 generalize ((600:Int):Rat)/((1577917828:Int):Rat)=c at*
 have n:=Rat.mul_nonneg h0 k0
 have u:=Rat.mul_le_mul_of_nonneg_left k1 h0
 rw[Rat.abs_neg,Rat.abs_of_nonneg n] at b
 rw[Rat.abs_of_nonneg n] at a
 unfold cM tR
 rw[ja.1,ja.2,show((108:Int):Rat)=108 from rfl,show((27:Int):Rat)=27 from rfl]
 exact dG (by grind) (by grind)
theorem z7 (t:Rat) {d:Rat} (h0:0<=d) (h1:d<=30):(sof (cg (t+d))-sof (cg t)).abs <=54/100:=by
 have s:=jg t h0
 have pr:=br (Bm t h0 h1)
 unfold cg
 rw[lk,lk,mj,mj,eF bQ,eF bQ]
 rw[show a7 (t+d)+((360:Int):Rat)*(((-(a7 (t+d)/((360:Int):Rat)).floor :Int)):Rat)-cM (t+d)=(a7 (t+d)-cM (t+d))+((360:Int):Rat)*(((-(a7 (t+d)/((360:Int):Rat)).floor :Int)):Rat) by grind,gV]
 rw[show a7 t+((360:Int):Rat)*(((-(a7 t/((360:Int):Rat)).floor :Int)):Rat)-cM t=(a7 t-cM t)+((360:Int):Rat)*(((-(a7 t/((360:Int):Rat)).floor :Int)):Rat) by grind,gV]
 have l:=kg (a7 (t+d)-cM (t+d)) (a7 t-cM t)
 rw[show((60:Int):Rat)/((3438:Int):Rat)=60/3438 by decide+kernel] at l
 have k:(a7 (t+d)-cM (t+d)-(a7 t-cM t)).abs <=3076/100:=dG (by grind) (by grind)
 grind
theorem yN {x y:Rat} (x0: -1<=x) (h:x<=y) (y1:y<=1):a6 x<=a6 y:=by
 refine Rat.not_lt.1 fun q=>?_
 have bx:=jY x0 (by grind)
 have b:=jY (by grind) y1
 have s:=j8 b.1 (Rat.le_of_lt q) bx.2
 rw[gM (by grind) y1,gM x0 (by grind)] at s
 rw[show x=y by grind] at q
 grind
def fY (h:Rat):Rat:=h/bz h
theorem zK (h:Rat):bz (-h)=bz h:=by unfold bz;rw[EM,iG]
theorem nm (h:Rat):fY (-h)= -fY h:=by unfold fY;rw[zK,Rat.div_def,Rat.div_def];grind
theorem yw {x y:Rat} (x0:0<=x) (h:x<=y) (y1:y<=obl):bz y<=bz x:=by
 have o:obl<=1:=by decide+kernel
 have u:=yN (x:=x) (y:=y) (by grind) h (by grind)
 have z:=yN (x:=0) (y:=x) (by decide) x0 (by grind)
 rw[wK] at z
 have b:=jY (y:=y) (by grind) (by grind)
 rw[r90] at b
 unfold bz
 rw[<-iG (a6 y),<-iG (a6 x)]
 exact j8 (by rw[r90,show((-90:Int):Rat)= -90 from rfl];grind) (by grind) (by grind)
theorem kW {x y:Rat} (x0:0<=x) (h:x<=y) (y1:y<=obl):fY x<=fY y:=by
 have o:0<=obl:=by decide+kernel
 have d:=yw x0 h y1
 have cx:=kC (h:=x) (by grind) (by grind)
 have cy:=kC (h:=y) (by grind) y1
 unfold fY
 have py:0<bz y:=by grind
 have px:0<bz x:=by grind
 refine Rat.le_trans (b:=y/bz x) ?_ ?_
 ·rw[Rat.div_def,Rat.div_def]
  exact Rat.mul_le_mul_of_nonneg_right h (Rat.le_of_lt (Rat.inv_pos.2 px))
 ·refine f6 py ?_
  rw[show y/bz x*bz y=y*bz y/bz x by rw[Rat.div_def,Rat.div_def];grind]
  refine gj px ?_
  exact Rat.mul_le_mul_of_nonneg_left d (by grind)
theorem mR {x y:Rat} (x0: -obl<=x) (h:x<=y) (y1:y<=obl):fY x<=fY y:=by
 have z:fY 0=0:=by unfold fY;rw[Rat.div_def,Rat.zero_mul]
 have o:0<=obl:=by decide+kernel
 rcases Rat.le_total (a:=0) (b:=x) with px|px
 ·exact kW px h y1
 have n:=kW (x:=0) (y:= -x) (by decide) (by grind) (by grind)
 rw[nm,z] at n
 rcases Rat.le_total (a:=0) (b:=y) with py|py
 ·have:=kW (x:=0) (y:=y) (by decide) py y1
  rw[z] at this
  grind
 ·have m:=kW (x:= -y) (y:= -x) (by grind) (by grind) (by grind)
  rw[nm,nm] at m
  grind
def BO (j:Int):Rat:=fY (obl*(((j:Int):Rat)/((50:Int):Rat)))
theorem Bt:∀j:Nat,j<100->BO (min 50 ((j:Int)-50+28))-BO ((j:Int)-50)<=264/1000:=by decide+kernel
theorem ir {s:Rat} (h0: -1<=s) (h1:s<=1): -obl<=obl*s/\obl*s<=obl:=by
 rw[iz];constructor <;> grind
theorem vU {s u:Rat} (s0: -1<=s) (h:s<=u) (d:u<=s+54/100) (u1:u<=1):fY (obl*u)-fY (obl*s)<=264/1000:=by
 have f:=cY (s*50)
 have g:=dr (s*50)
 have lo: -50<=(s*50).floor :=Rat.le_floor_iff.2 (by rw[show((-50:Int):Rat)= -50 from rfl];grind)
 have hi:(s*50).floor <=50:=by
  have:((((s*50).floor :Int)):Rat)<=((50:Int):Rat):=by rw[show((50:Int):Rat)=50 from rfl];grind
  exact Rat.intCast_le_intCast.1 this
 generalize (s*50).floor =j at*
 have o:0<=obl:=by decide+kernel
 have J:∀k:Int,((k:Int):Rat)/((50:Int):Rat)=((k:Int):Rat)*(1/50):=fun k=>by rw[Rat.div_def,show((50:Int):Rat)⁻¹ =1/50 by decide+kernel]
 by_cases e:j=50
 ·subst e
  rw[show((50:Int):Rat)=50 from rfl] at f
  rw[show s=u by grind]
  grind
 have G:=Bt (j+50).toNat (by omega)
 rw[show(((j+50).toNat :Nat):Int)-50=j by omega] at G
 have bj:=ir (s:=((j:Int):Rat)/((50:Int):Rat)) (by rw[J];have:=Rat.intCast_le_intCast.2 lo;rw[show((-50:Int):Rat)= -50 from rfl] at this;grind) (by rw[J];grind)
 have low:=mR (x:=obl*(((j:Int):Rat)/((50:Int):Rat))) (y:=obl*s) bj.1 (Rat.mul_le_mul_of_nonneg_left (by rw[J];grind) o) (ir s0 (by grind)).2
 have m1:((((min 50 (j+28):Int)):Rat))<=((50:Int):Rat):=Rat.intCast_le_intCast.2 (by omega)
 have mu:u<=((min 50 (j+28):Int):Rat)/((50:Int):Rat):=by
  rw[J]
  rcases Int.le_total 50 (j+28) with q|q
  ·rw[Int.min_eq_left q,show((50:Int):Rat)=50 from rfl];grind
  ·rw[Int.min_eq_right q,Rat.intCast_add,show((28:Int):Rat)=28 from rfl];grind
 have m2:((min 50 (j+28):Int):Rat)/((50:Int):Rat)<=1:=by rw[J];rw[show((50:Int):Rat)=50 from rfl] at m1;grind
 have up:=mR (x:=obl*u) (y:=obl*(((min 50 (j+28):Int):Rat)/((50:Int):Rat))) (ir (by grind) u1).1 (Rat.mul_le_mul_of_nonneg_left mu o) (ir (by grind) m2).2
 unfold BO at G
 grind
theorem AE {s u:Rat} (s0: -1<=s) (s1:s<=1) (u0: -1<=u) (u1:u<=1) (d:(u-s).abs <=54/100):(fY (obl*u)-fY (obl*s)).abs <=264/1000:=by
 have dd:=br d
 have o:0<=obl:=by decide+kernel
 rcases Rat.le_total (a:=s) (b:=u) with h|h
 ·have a:=vU s0 h (by grind) u1
  have b:=mR (ir s0 s1).1 (Rat.mul_le_mul_of_nonneg_left h o) (ir u0 u1).2
  exact dG (by grind) (by grind)
 ·have a:=vU u0 h (by grind) s1
  have b:=mR (ir u0 u1).1 (Rat.mul_le_mul_of_nonneg_left h o) (ir s0 s1).2
  exact dG (by grind) (by grind)
theorem AR (t:Rat) {d lat:Rat} (h0: -60<=lat) (h1:lat<=60) (d0:0<=d) (d1:d<=30):(dW (t+d) lat-dW t lat).abs <=451/10:=by
 have q:=kA t h0 h1
 have q':=kA (t+d) h0 h1
 have ta:=sM h0 h1
 have b:=dN (cg t)
 have b':=dN (cg (t+d))
 have m:=AE b.1 b.2 b'.1 b'.2 (z7 t d0 d1)
 have e:(quo (t+d) lat-quo t lat).abs <=2978/1719*(264/1000):=by
  rw[lS,lS,show sof lat/sof (lat+((90:Int):Rat))*(hV (t+d)/bz (hV (t+d)))-sof lat/sof (lat+((90:Int):Rat))*(hV t/bz (hV t))=sof lat/sof (lat+((90:Int):Rat))*(hV (t+d)/bz (hV (t+d))-hV t/bz (hV t)) by grind,iA]
  have ka:(sof lat/sof (lat+((90:Int):Rat))).abs <=2978/1719:=dG ta.1 ta.2
  generalize (sof lat/sof (lat+((90:Int):Rat))).abs =x at*
  have kb:(0:Rat)<=(hV (t+d)/bz (hV (t+d))-hV t/bz (hV t)).abs :=Rat.abs_nonneg
  have kc:(hV (t+d)/bz (hV (t+d))-hV t/bz (hV t)).abs <=264/1000:=m
  generalize (hV (t+d)/bz (hV (t+d))-hV t/bz (hV t)).abs =y at*
  have m:=Rat.mul_nonneg (a:=2978/1719-x) (b:=y) (by grind) kb
  grind
 have a:=nP (y:= -(quo t lat)) (z:= -(quo (t+d) lat)) (by grind) (by grind) (by grind) (by grind)
 rw[show -(quo (t+d) lat)- -(quo t lat)= -(quo (t+d) lat-quo t lat) by grind,show(-(quo (t+d) lat-quo t lat)).abs =(quo (t+d) lat-quo t lat).abs by unfold Rat.abs;split <;> split <;> grind] at a
 show(a6 (-(quo (t+d) lat))-a6 (-(quo t lat))).abs <=451/10
 grind
theorem zW (t:Rat) {d lat:Rat} (lon:Rat) (h0: -60<=lat) (h1:lat<=60) (d0:0<=d) (d1:d<=30):d-13795/100000<=bn (t+d) lat lon 1 1-bn t lat lon 1 1/\bn (t+d) lat lon 1 1-bn t lat lon 1 1<=d+13795/100000:=by
 have e:=ju t
 have e':=ju (t+d)
 have g:=br (AR t h0 h1 d0 d1)
 have s:=eE t
 have s':=eE (t+d)
 have k:=j3
 unfold bn
 rw[show((1:Int):Rat)/((4:Int):Rat)=1/4 by decide+kernel,Rat.intCast_one] at*
 generalize dW (t+d) lat=d2 at*
 generalize dW t lat=d1 at*
 generalize dI (t+d)*eN (t+d)=s2 at*
 generalize dI t*eN t=s1 at*
 generalize fl (t+d)=e2 at*
 generalize fl t=e1 at*
 have m:=dL (a:=1/4*(111/100-87/100)+451/10) (b:=27703/10000000) (x:=(s2*(1/4)+1*d2)-(s1*(1/4)+1*d1)) (y:=kap) (by grind) (by grind) (by grind) (by grind) (by grind) k.2
 constructor <;> grind
theorem Gi {lat:Rat} (lon:Rat) (h0: -60<=lat) (h1:lat<=60) (n:Int) {d:Int} (d0:0<=d) (d1:d<=30):((d:Int):Rat)-138/1000<=riV lat lon (n+d)-riV lat lon n/\riV lat lon (n+d)-riV lat lon n<=((d:Int):Rat)+138/1000:=by
 have c0:=Rat.intCast_le_intCast.2 d0
 have c1:=Rat.intCast_le_intCast.2 d1
 have r:=zW ((n:Int):Rat) lon h0 h1 (d:=((d:Int):Rat)) c0 c1
 unfold riV
 rw[Rat.intCast_add]
 have g1:=bW (bn ((n:Int):Rat) lat lon 1 1)
 have g2:=bW (bn (((n:Int):Rat)+((d:Int):Rat)) lat lon 1 1)
 constructor <;> grind
theorem DZ (t:Rat) {d lat:Rat} (lon:Rat) (h0: -60<=lat) (h1:lat<=60):d-308/1000<=bn (t+d) lat lon 1 1-bn t lat lon 1 1/\bn (t+d) lat lon 1 1-bn t lat lon 1 1<=d+308/1000:=by
 refine⟨jH t d lon (.inl ⟨rfl,rfl⟩) h0 h1,?_⟩
 have b:=jH (t+d) (-d) (qd:=1) (sg:=1) lon (.inl ⟨rfl,rfl⟩) h0 h1
 rw[show t+d+ -d=t by grind] at b
 grind
theorem Gr {lat:Rat} (lon:Rat) (h0: -60<=lat) (h1:lat<=60) (n d:Int):((d:Int):Rat)-309/1000<=riV lat lon (n+d)-riV lat lon n/\riV lat lon (n+d)-riV lat lon n<=((d:Int):Rat)+309/1000:=by
 have r:=DZ ((n:Int):Rat) (d:=((d:Int):Rat)) lon h0 h1
 unfold riV
 rw[Rat.intCast_add]
 have g1:=bW (bn ((n:Int):Rat) lat lon 1 1)
 have g2:=bW (bn (((n:Int):Rat)+((d:Int):Rat)) lat lon 1 1)
 constructor <;> grind
theorem GY (t:Rat):360<phU (t+2985/100)-phU t/\phU (t+292/10)-phU t<360:=by
 have k:((360:Int):Rat)/psy=((360:Int):Rat)/pmo-((360:Int):Rat)/pyr:=by decide+kernel
 have E:∀d:Rat,phU (t+d)-phU t=((360:Int):Rat)/psy*d-(eM (t+d)-eM t)+(cj (t+d)-cj t):=fun d=>by
  unfold phU fL a7;rw[k,cF,cF,Rat.div_def,Rat.div_def,Rat.div_def,Rat.div_def];grind
 refine⟨?_,?_⟩
 ·have a:=br (k5 t (2985/100))
  have b:=br (lj t (2985/100))
  have ka:ssz*(225/224)*(((360:Int):Rat)*((2985/100)/pay)).abs <1155/1000:=by decide+kernel
  have kb:msz*(225/224)*(((360:Int):Rat)*((2985/100)/pam-1)).abs <269/100:=by decide+kernel
  have k2:12190/1000<((360:Int):Rat)/psy:=by decide+kernel
  rw[E]
  generalize ((360:Int):Rat)/psy=y at*
  grind
 ·have a:=br (k5 t (292/10))
  have b:=br (lj t (292/10))
  have ka:ssz*(225/224)*(((360:Int):Rat)*((292/10)/pay)).abs <115/100:=by decide+kernel
  have kb:msz*(225/224)*(((360:Int):Rat)*((292/10)/pam-1)).abs <2:=by decide+kernel
  have k2:((360:Int):Rat)/psy<12192/1000:=by decide+kernel
  rw[E]
  generalize ((360:Int):Rat)/psy=y at*
  grind
theorem tM {t u:Rat} (h:t<=u):(360<=phU u-phU t->292/10<u-t)/\(phU u-phU t<=360->u-t<2985/100):=by
 have b:=GY t
 refine⟨fun g=>Rat.not_le.1 fun q=>?_,fun g=>Rat.not_le.1 fun q=>?_⟩
 ·have:=(iC (t:=u) (u:=t+292/10) (by grind)).1
  grind
 ·have:=(iC (t:=t+2985/100) (u:=u) (by grind)).1
  grind
theorem pg {t u:Rat} {k:Rat}:(360*k<=phU u-phU t->29530588/1000000*k-12/10<u-t\/k<0\/20<k)/\(phU u-phU t<=360*k->u-t<29530588/1000000*k+12/10\/k<0\/20<k):=by
 have p:=pJ t (u-t)
 rw[show t+(u-t)=u by grind] at p
 have k1:360/29530588*1000000<((360:Int):Rat)/psy:=by decide+kernel
 have k2:((360:Int):Rat)/psy<360/29530587*1000000:=by decide+kernel
 generalize ((360:Int):Rat)/psy=y at*
 have y0:0<y:=by grind
 refine⟨fun g=>?_,fun g=>?_⟩
 ·by_cases c:k<0\/20<k
  ·exact .inr c
  refine .inl (Rat.not_le.1 fun q=>?_)
  have a:=Rat.mul_le_mul_of_nonneg_left q (Rat.le_of_lt y0)
  have z:=Rat.mul_nonneg (a:=360/29530587*1000000-y) (b:=k) (by grind) (by grind)
  grind
 ·by_cases c:k<0\/20<k
  ·exact .inr c
  refine .inl (Rat.not_le.1 fun q=>?_)
  have a:=Rat.mul_le_mul_of_nonneg_left q (Rat.le_of_lt y0)
  have z:=Rat.mul_nonneg (a:=y-360/29530588*1000000) (b:=k) (by grind) (by grind)
  grind
end Go.Proofs.YtgdpkknapcgcbaaGreatDoor
