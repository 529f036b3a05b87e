import Derived.Test.YtplngpfpcheofaaGreatDoorKE33
namespace Go.Proofs.YtplngpfpcheofaaGreatDoor
open Go.RowKit
set_option maxRecDepth 100000
set_option linter.unusedVariables false
set_option maxHeartbeats 8000000
def cx (t:Rat):Rat:=((360:Int):Rat)*bV t pyr-l4 t
def bN (t:Rat):Rat:=((360:Int):Rat)*bV t pmo-jN t
def phU (t:Rat):Rat:=bN t-cx t
theorem oi (t:Rat):bi t=aH (cx t) ((360:Int):Rat):=by
 unfold bi cx l4 atv
 rw[jF (t:=t) wJ,show((360:Int):Rat)*bV t pyr+((360:Int):Rat)*(((-(bV t pyr).floor :Int)):Rat)-eqv t pay ssz sch=(((360:Int):Rat)*bV t pyr-eqv t pay ssz sch)+((360:Int):Rat)*(((-(bV t pyr).floor :Int)):Rat) by grind,fX _ aM]
theorem l3 (t:Rat):aU t=aH (bN t) ((360:Int):Rat):=by
 unfold aU bN jN atv
 rw[jF (t:=t) xb,show((360:Int):Rat)*bV t pmo+((360:Int):Rat)*(((-(bV t pmo).floor :Int)):Rat)-eqv t pam msz mch=(((360:Int):Rat)*bV t pmo-eqv t pam msz mch)+((360:Int):Rat)*(((-(bV t pmo).floor :Int)):Rat) by grind,fX _ aM]
theorem nP (t:Rat):bq t=aH (phU t) ((360:Int):Rat):=by
 unfold bq phU
 rw[l3,oi,uK]
theorem wD (t:Rat):aH (aU t+bi t) ((360:Int):Rat)=aH (bN t+cx t) ((360:Int):Rat):=by
 rw[l3,oi,fP (x:=bN t) aM,fP (x:=cx t) aM]
 rw[show bN t+((360:Int):Rat)*(((-(bN t/((360:Int):Rat)).floor :Int)):Rat)+(cx t+((360:Int):Rat)*(((-(cx t/((360:Int):Rat)).floor :Int)):Rat))=bN t+cx t+((360:Int):Rat)*(((-(bN t/((360:Int):Rat)).floor + -(cx t/((360:Int):Rat)).floor :Int)):Rat) by rw[Rat.intCast_add];grind,fX _ aM]
theorem uk (t d:Rat):(l4 (t+d)-l4 t).abs ≤ssz*(225/224)*(((360:Int):Rat)*(d/pay)).abs :=
 pZ (n:=0) qj (by decide+kernel) (by decide+kernel) (by decide+kernel) (by decide+kernel) (by rw[ie,Rat.intCast_zero];grind)
theorem tl (t d:Rat):(jN (t+d)-jN t).abs ≤msz*(225/224)*(((360:Int):Rat)*(d/pam)).abs :=
 pZ (n:=0) pg (by decide+kernel) (by decide+kernel) (by decide+kernel) (by decide+kernel) (by rw[ie,Rat.intCast_zero];grind)
theorem mu {s c d:Rat} (hs:0≤s) (hc:0<c) (hd:0≤d):s*(((360:Int):Rat)*(d/c)).abs =s*((360:Int):Rat)/c*d:=by
 have h:(0:Rat)≤((360:Int):Rat)*(d/c):=Rat.mul_nonneg (by decide) (by rw[Rat.div_def];exact Rat.mul_nonneg hd (Rat.le_of_lt (Rat.inv_pos.2 hc)))
 rw[Rat.abs_of_nonneg h,Rat.div_def,Rat.div_def];grind
theorem nc (t:Rat) {d:Rat} (hd:0≤d):9471/10000*d≤cx (t+d)-cx t∧cx (t+d)-cx t≤10242/10000*d:=by
 have l:=qf (uk t d)
 rw[mu (s:=ssz*(225/224)) (by decide+kernel) qj hd] at l
 have k:ssz*(225/224)*((360:Int):Rat)/pay<385015/10000000:=by decide+kernel
 have k1:985602/1000000<((360:Int):Rat)/pyr:=by decide+kernel
 have k2:((360:Int):Rat)/pyr<985603/1000000:=by decide+kernel
 have e:cx (t+d)-cx t=((360:Int):Rat)/pyr*d-(l4 (t+d)-l4 t):=by
  unfold cx;rw[ie,Rat.div_def,Rat.div_def];grind
 have m:=Rat.mul_nonneg (a:=385015/10000000-ssz*(225/224)*((360:Int):Rat)/pay) (b:=d) (by grind) hd
 have m1:=Rat.mul_nonneg (a:=((360:Int):Rat)/pyr-985602/1000000) (b:=d) (by grind) hd
 have m2:=Rat.mul_nonneg (a:=985603/1000000-((360:Int):Rat)/pyr) (b:=d) (by grind) hd
 rw[e]
 generalize ssz*(225/224)*((360:Int):Rat)/pay=x at*
 generalize ((360:Int):Rat)/pyr=y at*
 constructor <;> grind
theorem mA (t:Rat) {d:Rat} (hd:0≤d):12009/1000*d≤bN (t+d)-bN t∧bN (t+d)-bN t≤14343/1000*d:=by
 have l:=qf (tl t d)
 rw[mu (s:=msz*(225/224)) (by decide+kernel) pg hd] at l
 have k:msz*(225/224)*((360:Int):Rat)/pam<11666/10000:=by decide+kernel
 have k1:1317635/100000<((360:Int):Rat)/pmo:=by decide+kernel
 have k2:((360:Int):Rat)/pmo<1317636/100000:=by decide+kernel
 have e:bN (t+d)-bN t=((360:Int):Rat)/pmo*d-(jN (t+d)-jN t):=by
  unfold bN;rw[ie,Rat.div_def,Rat.div_def];grind
 have m:=Rat.mul_nonneg (a:=11666/10000-msz*(225/224)*((360:Int):Rat)/pam) (b:=d) (by grind) hd
 have m1:=Rat.mul_nonneg (a:=((360:Int):Rat)/pmo-1317635/100000) (b:=d) (by grind) hd
 have m2:=Rat.mul_nonneg (a:=1317636/100000-((360:Int):Rat)/pmo) (b:=d) (by grind) hd
 rw[e]
 generalize msz*(225/224)*((360:Int):Rat)/pam=x at*
 generalize ((360:Int):Rat)/pmo=y at*
 constructor <;> grind
theorem wG (t:Rat) {d:Rat} (hd:0≤d):1098/100*d≤phU (t+d)-phU t∧phU (t+d)-phU t≤134/10*d:=by
 have a:=nc t hd
 have b:=mA t hd
 unfold phU
 constructor <;> grind
theorem gi {x:Rat} {n:Int} (hn:0<n):prt (aH x ((360:Int):Rat)) n=(x*(((n:Int):Rat)/((360:Int):Rat))).floor %n:=by
 have np:(0:Rat)<((n:Int):Rat):=Rat.intCast_pos.2 hn
 have e:(aH x ((360:Int):Rat))*(((n:Int):Rat)/((360:Int):Rat))=x*(((n:Int):Rat)/((360:Int):Rat))+((n*(-(x/((360:Int):Rat)).floor):Int):Rat):=by
  rw[fP aM,Rat.intCast_mul,Rat.div_def ((n:Int):Rat),zj];grind
 have b:=cj (x:=aH x ((360:Int):Rat)) hn (bT aM) (bH aM)
 unfold prt at b ⊢
 rw[e,Rat.floor_add_intCast] at b ⊢
 have h:=Int.emod_eq_of_lt (b:=n) b.1 b.2
 rw[←h,Int.add_mul_emod_self_left]
def kU (c:Int) (t:Rat):Rat:=if c=0 then cx t else if c=1∨c=4 then phU t else if c=2 then bN t else bN t+cx t
def kN (c:Int):Int:=if c=0 then 12 else if c=1 then 30 else if c=4 then 60 else 27
def kI (c:Int) (t:Rat):Int:=if c=0 then prt (bi t) 12 else if c=1 then prt (bq t) 30 else if c=2 then prt (aU t) 27 else if c=3 then prt (aH (aU t+bi t) ((360:Int):Rat)) 27 else prt (bq t) 60
def kS (c:Int) (t:Rat):Int:=(kU c t*(((kN c:Int):Rat)/((360:Int):Rat))).floor
def kQ (c:Int):Rat:=if c=0 then 1 else 1/4
def kM (c:Int):Int:=if c=0 then 34 else 6
theorem kinds {c:Int} (h0:0≤c) (h1:c≤4):c=0∨c=1∨c=2∨c=3∨c=4:=by omega
theorem ls (c:Int):12≤kN c∧kN c≤60:=by unfold kN;split <;> (try split) <;> (try split) <;> omega
theorem gO {c:Int} (h0:0≤c) (h1:c≤4) (t:Rat):kI c t=kS c t%kN c:=by
 rcases kinds h0 h1 with rfl|rfl|rfl|rfl|rfl
 ·show prt (bi t) 12=(cx t*(((12:Int):Rat)/((360:Int):Rat))).floor %12
  rw[oi,gi (by decide)]
 ·show prt (bq t) 30=(phU t*(((30:Int):Rat)/((360:Int):Rat))).floor %30
  rw[nP,gi (by decide)]
 ·show prt (aU t) 27=(bN t*(((27:Int):Rat)/((360:Int):Rat))).floor %27
  rw[l3,gi (by decide)]
 ·show prt (aH (aU t+bi t) ((360:Int):Rat)) 27=((bN t+cx t)*(((27:Int):Rat)/((360:Int):Rat))).floor %27
  rw[wD,gi (by decide)]
 ·show prt (bq t) 60=(phU t*(((60:Int):Rat)/((360:Int):Rat))).floor %60
  rw[nP,gi (by decide)]
theorem zO {c:Int} (h0:0≤c) (h1:c≤4) (t:Rat):0≤kI c t∧kI c t<kN c:=by
 rw[gO h0 h1]
 have:=ls c
 exact⟨Int.emod_nonneg _ (by omega),Int.emod_lt_of_pos _ (by omega)⟩
theorem lN {c:Int} (h0:0≤c) (h1:c≤4) (t:Rat) {d:Rat} (hd:0≤d):
 0≤(kU c (t+d)-kU c t)*(((kN c:Int):Rat)/((360:Int):Rat))∧(d≤kQ c→(kU c (t+d)-kU c t)*(((kN c:Int):Rat)/((360:Int):Rat))<1)∧(((kM c:Int):Rat)*kQ c≤d→1≤(kU c (t+d)-kU c t)*(((kN c:Int):Rat)/((360:Int):Rat))):=by
 have s:=nc t hd
 have m:=mA t hd
 have p:=wG t hd
 rcases kinds h0 h1 with rfl|rfl|rfl|rfl|rfl
 ·show 0≤(cx (t+d)-cx t)*(((12:Int):Rat)/((360:Int):Rat))∧(d≤1→(cx (t+d)-cx t)*(((12:Int):Rat)/((360:Int):Rat))<1)∧(((34:Int):Rat)*1≤d→1≤(cx (t+d)-cx t)*(((12:Int):Rat)/((360:Int):Rat)))
  rw[show((12:Int):Rat)/((360:Int):Rat)=12/360 by decide+kernel,show((34:Int):Rat)=34 from rfl]
  refine⟨by grind,fun _=>by grind,fun _=>by grind⟩
 ·show 0≤(phU (t+d)-phU t)*(((30:Int):Rat)/((360:Int):Rat))∧(d≤1/4→(phU (t+d)-phU t)*(((30:Int):Rat)/((360:Int):Rat))<1)∧(((6:Int):Rat)*(1/4)≤d→1≤(phU (t+d)-phU t)*(((30:Int):Rat)/((360:Int):Rat)))
  rw[show((30:Int):Rat)/((360:Int):Rat)=30/360 by decide+kernel,show((6:Int):Rat)=6 from rfl]
  refine⟨by grind,fun _=>by grind,fun _=>by grind⟩
 ·show 0≤(bN (t+d)-bN t)*(((27:Int):Rat)/((360:Int):Rat))∧(d≤1/4→(bN (t+d)-bN t)*(((27:Int):Rat)/((360:Int):Rat))<1)∧(((6:Int):Rat)*(1/4)≤d→1≤(bN (t+d)-bN t)*(((27:Int):Rat)/((360:Int):Rat)))
  rw[show((27:Int):Rat)/((360:Int):Rat)=27/360 by decide+kernel,show((6:Int):Rat)=6 from rfl]
  refine⟨by grind,fun _=>by grind,fun _=>by grind⟩
 ·show 0≤(bN (t+d)+cx (t+d)-(bN t+cx t))*(((27:Int):Rat)/((360:Int):Rat))∧(d≤1/4→(bN (t+d)+cx (t+d)-(bN t+cx t))*(((27:Int):Rat)/((360:Int):Rat))<1)∧(((6:Int):Rat)*(1/4)≤d→1≤(bN (t+d)+cx (t+d)-(bN t+cx t))*(((27:Int):Rat)/((360:Int):Rat)))
  rw[show((27:Int):Rat)/((360:Int):Rat)=27/360 by decide+kernel,show((6:Int):Rat)=6 from rfl]
  refine⟨by grind,fun _=>by grind,fun _=>by grind⟩
 ·show 0≤(phU (t+d)-phU t)*(((60:Int):Rat)/((360:Int):Rat))∧(d≤1/4→(phU (t+d)-phU t)*(((60:Int):Rat)/((360:Int):Rat))<1)∧(((6:Int):Rat)*(1/4)≤d→1≤(phU (t+d)-phU t)*(((60:Int):Rat)/((360:Int):Rat)))
  rw[show((60:Int):Rat)/((360:Int):Rat)=60/360 by decide+kernel,show((6:Int):Rat)=6 from rfl]
  refine⟨by grind,fun _=>by grind,fun _=>by grind⟩
theorem z7 {x y:Rat} (h0:0≤y-x) (h1:y-x<1):y.floor=x.floor∨y.floor=x.floor+1:=by
 have a:=iX x
 have b:=jU x
 have a':=iX y
 have b':=jU y
 have u:((x.floor:Int):Rat)<((y.floor+1:Int):Rat):=by rw[Rat.intCast_add,Rat.intCast_one];grind
 have l:((y.floor:Int):Rat)<((x.floor+2:Int):Rat):=by rw[show((x.floor+2:Int):Rat)=((x.floor:Int):Rat)+2 from Rat.intCast_add _ _];grind
 have:=Rat.intCast_lt_intCast.1 u
 have:=Rat.intCast_lt_intCast.1 l
 omega
theorem qg {c:Int} (h0:0≤c) (h1:c≤4) (t:Rat) {d:Rat} (hd:0≤d) (hq:d≤kQ c):kS c (t+d)=kS c t∨kS c (t+d)=kS c t+1:=by
 have r:=lN h0 h1 t hd
 exact z7 (by have:=r.1;grind) (by have:=r.2.1 hq;grind)
theorem xR {c:Int} (h0:0≤c) (h1:c≤4) (t:Rat):kS c t<kS c (t+((kM c:Int):Rat)*kQ c):=by
 have hd:0≤((kM c:Int):Rat)*kQ c:=by rcases kinds h0 h1 with rfl|rfl|rfl|rfl|rfl <;> decide+kernel
 have r:=(lN h0 h1 t hd).2.2 Rat.le_refl
 have a:=iX (kU c t*(((kN c:Int):Rat)/((360:Int):Rat)))
 have b:=jU (kU c (t+((kM c:Int):Rat)*kQ c)*(((kN c:Int):Rat)/((360:Int):Rat)))
 unfold kS
 generalize (kU c t*(((kN c:Int):Rat)/((360:Int):Rat))).floor =j at*
 have u:((j:Int):Rat)<(((kU c (t+((kM c:Int):Rat)*kQ c)*(((kN c:Int):Rat)/((360:Int):Rat))).floor :Int):Rat):=by
  refine Rat.not_le.1 fun q=>?_
  have:(kU c (t+((kM c:Int):Rat)*kQ c)*(((kN c:Int):Rat)/((360:Int):Rat))).floor <j+1:=Rat.intCast_lt_intCast.1 (by rw[Rat.intCast_add,Rat.intCast_one];grind)
  have k2:j+1≤(kU c (t+((kM c:Int):Rat)*kQ c)*(((kN c:Int):Rat)/((360:Int):Rat))).floor :=Rat.le_floor_iff.2 (by rw[Rat.intCast_add,Rat.intCast_one];grind)
  omega
 exact Rat.intCast_lt_intCast.1 u
end Go.Proofs.YtplngpfpcheofaaGreatDoor
