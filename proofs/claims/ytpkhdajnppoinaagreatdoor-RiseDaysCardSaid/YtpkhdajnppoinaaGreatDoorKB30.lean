import Derived.Test.YtpkhdajnppoinaaGreatDoorKB28
namespace Go.Proofs.YtpkhdajnppoinaaGreatDoor
open Go.RowKit
set_option maxRecDepth 100000
set_option linter.unusedVariables false
set_option maxHeartbeats 8000000
def cre:Rat:=((-714403429586:Int):Rat)
def mfr (q:Rat):Rat:=q-((q.floor:Int):Rat)
def mturn (t p:Rat):Rat:=(t-cre)/p
def mof (t p:Rat):Rat:=if p≤0 then 0 else mfr (mturn t p)*((360:Int):Rat)
def pyr:Rat:=((1577917828000:Int):Rat)/((4320000000:Int):Rat)
def pay:Rat:=((1577917828000:Int):Rat)/((4319999613:Int):Rat)
theorem r360:((360:Int):Rat)=360:=rfl
theorem pyr_pos:0<pyr:=by decide+kernel
theorem pay_pos:0<pay:=by decide+kernel
theorem mfr_low (q:Rat):0≤mfr q:=by have:=fl_le q;unfold mfr;grind
theorem mfr_high (q:Rat):mfr q<1:=by have:=fl_lt q;unfold mfr;grind
theorem mfr_more (q:Rat) (n:Int):mfr (q+((n:Int):Rat))=mfr q:=by
 unfold mfr
 rw[Rat.floor_add_intCast,Rat.intCast_add]
 grind
theorem mfr_fl (q:Rat):mfr q=q+(((-q.floor:Int)):Rat):=by
 unfold mfr;rw[Rat.intCast_neg];grind
theorem mof_pos {t p:Rat} (h:0<p):mof t p=mfr (mturn t p)*((360:Int):Rat):=by
 unfold mof;rw[if_neg (by grind)]
theorem mof_low (t p:Rat):0≤mof t p:=by
 unfold mof
 split
 ·grind
 ·have:=mfr_low (mturn t p);rw[r360];grind
theorem mof_high (t p:Rat):mof t p<((360:Int):Rat):=by
 unfold mof
 split
 ·rw[r360];grind
 ·have:=mfr_high (mturn t p);rw[r360];grind
theorem rmod_id {x m:Rat} (h0:0≤x) (h1:x<m):rmod x m=x:=by
 have:=rinto_id (x:=x) (a:=0) (b:=m) (by grind) h1
 unfold rinto at this
 rw[if_neg (by grind),show x-0=x by grind,show m-0=m by grind] at this
 grind
theorem rmod_fl {x m:Rat} (h:0<m):rmod x m=x+m*(((-(x/m).floor :Int)):Rat):=by
 unfold rmod
 rw[if_neg (by grind),Rat.intCast_neg];grind
theorem c360_pos:(0:Rat)<((360:Int):Rat):=by decide+kernel
theorem mfr_mk (q:Rat):mfr q=mkRat (q.num%(q.den:Int)) q.den:=by
 have hm:q.num-q.floor*(q.den:Int)=q.num%(q.den:Int):=by
  rw[Rat.floor_def]
  have:=Int.mul_ediv_add_emod q.num (q.den:Int)
  rw[Int.mul_comm] at this
  omega
 unfold mfr
 rw[←hm,Rat.mkRat_eq_div,Rat.intCast_sub,Rat.intCast_mul,Rat.intCast_natCast]
 have h:(q.den:Rat)≠0:=by
  intro e
  have:=Rat.natCast_pos.2 q.den_pos
  grind
 have e:(q.num:Rat)=q*(q.den:Rat):=by
  have h1:q=(q.num:Rat)/(q.den:Rat):=by rw[←Rat.mkRat_eq_div,Rat.mkRat_self]
  have:q*(q.den:Rat)=(q.num:Rat)/(q.den:Rat)*(q.den:Rat):=by rw[←h1]
  rw[this,Rat.div_mul_cancel h]
 rw[e]
 grind
theorem mfr_lim {q:Rat} {k:Nat} (h:RLim q k):RLim (mfr q) k:=by
 rw[mfr_mk]
 have h2:q.den<B32^k:=h.2
 have hd:=q.den_pos
 refine rlim_mk (show _<B32^k from ?_) h.2 (by omega)
 have h0:=Int.emod_nonneg q.num (b:=(q.den:Int)) (by omega)
 have h1:=Int.emod_lt_of_pos q.num (b:=(q.den:Int)) (by omega)
 omega
theorem lim64w {n:Int} (h0: -9223372036854775808≤n) (h1:n≤9223372036854775807):RLim ((n:Int):Rat) 2:=rlim_int (limz_64 h0 h1) (by decide)
theorem lim64d {n d:Int} (h0: -9223372036854775808≤n) (h1:n≤9223372036854775807) (g0: -9223372036854775808≤d) (g1:d≤9223372036854775807):RLim (((n:Int):Rat)/((d:Int):Rat)) 2:=(rlim_mk2 (limz_64 h0 h1) (limz_64 g0 g1)).up 2 (by decide)
theorem cre_lim:RLim cre 2:=lim64w (by decide) (by decide)
theorem pyr_lim:RLim pyr 2:=lim64d (by decide) (by decide) (by decide) (by decide)
theorem pay_lim:RLim pay 2:=lim64d (by decide) (by decide) (by decide) (by decide)
theorem mturn_lim {t p:Rat} {k j:Nat} (h:RLim t k) (hp:RLim p j):RLim (mturn t p) (k+j+3):=(rlim_div (rlim_sub h cre_lim) hp).up _ (by omega)
theorem mof_lim {t p:Rat} {k j:Nat} (h:RLim t k) (hp:RLim p j):RLim (mof t p) (k+j+5):=by
 unfold mof
 split
 ·exact rlim_zero (by omega)
 ·exact(rlim_mul (mfr_lim (mturn_lim h hp)) (lim64w (n:=360) (by decide) (by decide))).up _ (by omega)
theorem rmod360_lim {q:Rat} {k:Nat} (h:RLim q k):RLim (rmod q ((360:Int):Rat)) (k+4):=by
 have e:rmod q ((360:Int):Rat)=((360:Int):Rat)*mfr (q/((360:Int):Rat)):=by
  rw[rmod_fl c360_pos,mfr_fl,r360];grind
 rw[e]
 have l:RLim ((360:Int):Rat) 2:=lim64w (by decide) (by decide)
 exact(rlim_mul l (mfr_lim (rlim_div h l))).up _ (by omega)
def epi (a s c:Rat):Rat:=a*(s-a.abs*c*s)
def eqv (t an s c:Rat):Rat:=arcv (epi (sof (mof t an)) s c)
def atv (t p an s c:Rat):Rat:=rmod (mof t p-eqv t an s c) ((360:Int):Rat)
def ssz:Rat:=((14:Int):Rat)/((360:Int):Rat)
def sch:Rat:=((1:Int):Rat)/((42:Int):Rat)
def msz:Rat:=((32:Int):Rat)/((360:Int):Rat)
def mch:Rat:=((1:Int):Rat)/((96:Int):Rat)
def sunV (t:Rat):Rat:=atv t pyr pay ssz sch
def prt (x:Rat) (n:Int):Int:=(x*(((n:Int):Rat)/((360:Int):Rat))).floor
theorem sz_eq:ssz=7/180∧sch=1/42∧msz=4/45∧mch=1/96:=by decide+kernel
theorem ay_0 {h:Rat} (h1:h≤225):ay h=h/225:=by
 have s0:spk ((0:Nat):Int)=0:=by decide+kernel
 have s1:spk (((0:Nat):Int)+1)=225:=by decide+kernel
 have e:yk h=0:=by
  show(if h≤_ then _ else _)=_
  rw[if_pos]
  rw[s1];exact h1
 unfold ay
 rw[e,if_pos (by decide),s0,s1]
 rw[show((225-0:Int):Rat)=225 from rfl,show((0:Int):Rat)=0 from rfl,show(((0:Nat):Int):Rat)=0 from rfl]
 grind
theorem ay_1 {h:Rat} (h0:225<h) (h1:h≤449):ay h=(h-225)/224+1:=by
 have s1:spk ((1:Nat):Int)=225:=by decide+kernel
 have s1':spk (((0:Nat):Int)+1)=225:=by decide+kernel
 have s2:spk (((1:Nat):Int)+1)=449:=by decide+kernel
 have s2':spk (((0+1:Nat):Int)+1)=449:=by decide+kernel
 have e:yk h=1:=by
  show(if h≤_ then _ else _)=_
  rw[if_neg]
  ·show(if h≤_ then _ else _)=_
   rw[if_pos]
   rw[s2'];exact h1
  ·rw[s1'];exact fun k=>by have k':h≤225:=k;grind
 unfold ay
 rw[e,if_pos (by decide),s1,s2]
 rw[show((449-225:Int):Rat)=224 from rfl,show((225:Int):Rat)=225 from rfl,show(((1:Nat):Int):Rat)=1 from rfl]
theorem ap_pc {h:Rat} (h0: -449≤h) (h1:h≤449):(h< -225∧ap h=(h+225)/224-1)∨(-225≤h∧h≤225∧ap h=h/225)∨(225<h∧ap h=(h-225)/224+1):=by
 unfold ap
 by_cases hn:h<0
 ·rw[if_pos hn]
  by_cases hm: -h≤225
  ·right;left
   rw[ay_0 hm]
   refine⟨by grind,by grind,by grind⟩
  ·left
   rw[ay_1 (by grind) (by grind)]
   refine⟨by grind,by grind⟩
 ·rw[if_neg hn]
  by_cases hm:h≤225
  ·right;left
   rw[ay_0 hm]
   refine⟨by grind,by grind,by grind⟩
  ·right;right
   rw[ay_1 (by grind) (by grind)]
   refine⟨by grind,by grind⟩
theorem sq_up {a b:Rat} (ha: -1≤a) (hb:b≤1) (h:a≤b):0≤b*b.abs-a*a.abs∧b*b.abs-a*a.abs≤2*(b-a):=by
 by_cases a0:0≤a
 ·rw[Rat.abs_of_nonneg a0,Rat.abs_of_nonneg (by grind)]
  have m:=Rat.mul_nonneg (a:=b-a) (b:=b+a) (by grind) (by grind)
  have n:=Rat.mul_nonneg (a:=b-a) (b:=2-(b+a)) (by grind) (by grind)
  constructor <;> grind
 ·rw[Rat.abs_of_nonpos (x:=a) (by grind)]
  by_cases b0:0≤b
  ·rw[Rat.abs_of_nonneg b0]
   have m:=Rat.mul_nonneg (a:=b) (b:=1-b) (by grind) (by grind)
   have n:=Rat.mul_nonneg (a:= -a) (b:=1+a) (by grind) (by grind)
   have m':=Rat.mul_nonneg (a:=b) (b:=b) (by grind) (by grind)
   have n':=Rat.mul_nonneg (a:= -a) (b:= -a) (by grind) (by grind)
   constructor <;> grind
  ·rw[Rat.abs_of_nonpos (x:=b) (by grind)]
   have m:=Rat.mul_nonneg (a:=b-a) (b:= -(b+a)) (by grind) (by grind)
   have n:=Rat.mul_nonneg (a:=b-a) (b:=2+(b+a)) (by grind) (by grind)
   constructor <;> grind
theorem epi_lip {a b s c:Rat} (ha: -1≤a) (hb:b≤1) (h:a≤b) (hs:0≤s) (c0:0≤c) (c1:2*c≤1):0≤epi b s c-epi a s c∧epi b s c-epi a s c≤s*(b-a):=by
 have hd:=sq_up ha hb h
 have e:epi b s c-epi a s c=s*((b-a)-c*(b*b.abs-a*a.abs)):=by unfold epi;grind
 rw[e]
 generalize b*b.abs-a*a.abs=d at*
 have m:=Rat.mul_nonneg c0 hd.1
 have n:=Rat.mul_nonneg (a:=c) (b:=2*(b-a)-d) c0 (by grind)
 have o:=Rat.mul_nonneg (a:=1-2*c) (b:=b-a) (by grind) (by grind)
 have p:=Rat.mul_nonneg (a:=s) (b:=(b-a)-c*d) hs (by grind)
 have q:=Rat.mul_nonneg (a:=s) (b:=c*d) hs m
 constructor
 ·exact p
 ·grind
theorem epi_bd {a s c:Rat} (h0: -1≤a) (h1:a≤1) (hs:0≤s) (c0:0≤c) (c1:2*c≤1): -(s*(1-c))≤epi a s c∧epi a s c≤s*(1-c):=by
 have u:=epi_lip (a:=a) (b:=1) h0 (by grind) h1 hs c0 c1
 have v:=epi_lip (a:= -1) (b:=a) (by grind) h1 h0 hs c0 c1
 have e1:epi 1 s c=s*(1-c):=by unfold epi;rw[Rat.abs_of_nonneg (by grind)];grind
 have e2:epi (-1) s c= -(s*(1-c)):=by unfold epi;rw[Rat.abs_of_nonpos (by grind)];grind
 rw[e1] at u
 rw[e2] at v
 constructor <;> grind
theorem abs_two {x b:Rat} (h:x.abs≤b): -b≤x∧x≤b:=by have:=le_abs x;constructor <;> grind
theorem prt_bd {x:Rat} {n:Int} (hn:0<n) (h0:0≤x) (h1:x<((360:Int):Rat)):0≤prt x n∧prt x n<n:=by
 have p:(0:Rat)<((n:Int):Rat):=Rat.intCast_pos.2 hn
 have q:(0:Rat)<((n:Int):Rat)/((360:Int):Rat):=by rw[Rat.div_def];exact Rat.mul_pos p (by decide+kernel)
 unfold prt
 constructor
 ·exact Rat.le_floor_iff.2 (by rw[Rat.intCast_zero];exact Rat.mul_nonneg h0 (by grind))
 ·refine Rat.floor_lt_iff.2 ?_
  have m:=(Rat.mul_lt_mul_right (c:=((n:Int):Rat)/((360:Int):Rat)) q).2 h1
  have e:((360:Int):Rat)*(((n:Int):Rat)/((360:Int):Rat))=((n:Int):Rat):=by rw[Rat.mul_comm];exact Rat.div_mul_cancel (by decide+kernel)
  rw[e] at m
  exact m
theorem pfr_mfr (x:Rat):pfr x=mfr (x/wd):=by
 have h:(0:Rat)<((96:Int):Rat):=by decide+kernel
 unfold pfr pk
 show mfr (rmod (x/wd) ((96:Int):Rat))=_
 rw[rmod_fl h]
 generalize (x/wd/((96:Int):Rat)).floor =n
 rw[show x/wd+((96:Int):Rat)*(((-n:Int)):Rat)=x/wd+((96* -n:Int):Rat) by rw[Rat.intCast_mul],mfr_more]
theorem sof_lim2 {x:Rat} {k:Nat} (h:RLim x k):RLim (sof x) (k+12):=by
 rw[←sof_pk,pfr_mfr]
 exact(rlim_div (rlim_add (lim64 (spk64 _).1 (spk64 _).2) (rlim_mul (mfr_lim (rlim_div h wd_lim)) (lim64 (dif64 _).1 (dif64 _).2))) (lim64 (n:=3438) (by decide) (by decide))).up _ (by omega)
theorem epi_lim {a s c:Rat} {k j i:Nat} (h:RLim a k) (hs:RLim s j) (hc:RLim c i):RLim (epi a s c) (2*k+2*j+i+1):=(rlim_mul h (rlim_sub hs (rlim_mul (rlim_mul (rlim_abs h) hc) hs))).up _ (by omega)
theorem eqv_lim {t an s c:Rat} {k l j i:Nat} (h:RLim t k) (ha:RLim an l) (hs:RLim s j) (hc:RLim c i):RLim (eqv t an s c) (2*k+2*l+2*j+i+60):=(arcv_lim (epi_lim (sof_lim2 (mof_lim h ha)) hs hc)).up _ (by omega)
theorem atv_lim {t p an s c:Rat} {k m l j i:Nat} (h:RLim t k) (hp:RLim p m) (ha:RLim an l) (hs:RLim s j) (hc:RLim c i):RLim (atv t p an s c) (3*k+m+2*l+2*j+i+80):=(rmod360_lim (rlim_sub (mof_lim h hp) (eqv_lim h ha hs hc))).up _ (by omega)
theorem ssz_lim:RLim ssz 2:=lim64d (by decide) (by decide) (by decide) (by decide)
theorem sch_lim:RLim sch 2:=lim64d (by decide) (by decide) (by decide) (by decide)
theorem sunV_lim {t:Rat} {k:Nat} (h:RLim t k):RLim (sunV t) (3*k+100):=(atv_lim h pyr_lim pay_lim ssz_lim sch_lim).up _ (by omega)
def kli:Rat:=((-1132959:Int):Rat)
def preY (t:Rat):Rat:=(t-kli)*(((600:Int):Rat)/((1577917828:Int):Rat))-((1:Int):Rat)/((4:Int):Rat)
def preX (t:Rat):Rat:=rinto (preY t) (((-1:Int):Rat)/((2:Int):Rat)) (((1:Int):Rat)/((2:Int):Rat))
def precV (t:Rat):Rat:=((27:Int):Rat)-((108:Int):Rat)*(preX t).abs
def tropV (t:Rat):Rat:=rmod (sunV t-precV t) ((360:Int):Rat)
def obl:Rat:=((1397:Int):Rat)/((3438:Int):Rat)
def hV (t:Rat):Rat:=obl*sof (tropV t)
def cosa (h:Rat):Rat:=sof (arcv h+((90:Int):Rat))
def eV (t lat:Rat):Rat:=hV t*sof lat/sof (lat+((90:Int):Rat))
def diffV (t lat:Rat):Rat:=arcv (-(eV t lat/cosa (hV t)))
theorem obl_eq:obl=1397/3438:=by decide+kernel
theorem r90:((90:Int):Rat)=90:=rfl
theorem half_eq:(((-1:Int):Rat)/((2:Int):Rat))= -1/2∧(((1:Int):Rat)/((2:Int):Rat))=1/2:=by decide+kernel
theorem sof_le {p q:Rat} (h1:((-90:Int):Rat)≤p) (h2:p≤q) (h3:q≤((90:Int):Rat)):sof p≤sof q:=by
 by_cases e:p=q
 ·rw[e];exact Rat.le_refl
 ·exact Rat.le_of_lt (sof_rise h1 (by grind) h3)
theorem arcv_bd {y:Rat} (h0: -1≤y) (h1:y≤1):((-90:Int):Rat)≤arcv y∧arcv y≤((90:Int):Rat):=by
 have h:=ap_of (h:=y*((3438:Int):Rat)) (by rw[c3438,show((-3438:Int):Rat)= -3438 from rfl];grind) (by rw[c3438];grind)
 unfold arcv
 rw[wd_eq,r90,show((-90:Int):Rat)= -90 from rfl]
 have a:=h.1
 have b:=h.2.1
 rw[show((-24:Int):Rat)= -24 from rfl] at a
 rw[show((24:Int):Rat)=24 from rfl] at b
 constructor <;> grind
theorem sof_arcv {y:Rat} (h0: -1≤y) (h1:y≤1):sof (arcv y)=y:=sof_arc h0 h1
theorem lat_sin {lat:Rat} (h0: -60≤lat) (h1:lat≤60): -(2978/3438)≤sof lat∧sof lat≤2978/3438:=by
 have a:sof 60=2978/3438:=by decide+kernel
 have b:sof (-60)= -(2978/3438):=by decide+kernel
 rw[←a]
 have b': -sof 60=sof (-60):=by rw[a,b]
 rw[b']
 exact⟨sof_le (by rw[show((-90:Int):Rat)= -90 from rfl];grind) h0 (by rw[r90];grind),sof_le (by rw[show((-90:Int):Rat)= -90 from rfl];grind) h1 (by rw[r90];grind)⟩
theorem lat_cos {lat:Rat} (h0: -60≤lat) (h1:lat≤60):1/2≤sof (lat+((90:Int):Rat)):=by
 have a:sof 30=1/2:=by decide+kernel
 rw[←a]
 by_cases h:lat≤0
 ·exact sof_le (by rw[show((-90:Int):Rat)= -90 from rfl];grind) (by rw[r90];grind) (by rw[r90];grind)
 ·have e:=sof_half (lat+((90:Int):Rat))
  rw[show((180:Int):Rat)-(lat+((90:Int):Rat))=90-lat by rw[show((180:Int):Rat)=180 from rfl,r90];grind] at e
  rw[←e]
  exact sof_le (by rw[show((-90:Int):Rat)= -90 from rfl];grind) (by grind) (by rw[r90];grind)
theorem cosa_bd {h:Rat} (h0: -obl≤h) (h1:h≤obl):9/10≤cosa h∧cosa h≤1:=by
 rw[obl_eq] at h0 h1
 have e:=sof_arcv (y:=h) (by grind) (by grind)
 have c:=circ_near (arcv h)
 have n:=(arc_circ (arcv h)).2
 rw[e] at c n
 have b:=sof_bd (arcv h+((90:Int):Rat))
 have p:0≤cosa h:=by
  unfold cosa
  rw[n]
  exact Rat.abs_nonneg
 refine⟨?_,b.2⟩
 unfold cosa at p ⊢
 generalize sof (arcv h+((90:Int):Rat))=x at*
 have k:=abs_two c
 rw[show((1:Int):Rat)/((500:Int):Rat)=1/500 by decide+kernel,Rat.intCast_one] at k
 refine Rat.not_lt.1 fun q=>?_
 have m:=Rat.mul_nonneg (a:=9/10-x) (b:=9/10+x) (by grind) (by grind)
 have m2:=Rat.mul_nonneg (a:=1397/3438-h) (b:=1397/3438+h) (by grind) (by grind)
 grind
theorem hV_bd (t:Rat): -obl≤hV t∧hV t≤obl:=by
 have b:=sof_bd (tropV t)
 unfold hV
 rw[obl_eq]
 constructor <;> grind
def quo (t lat:Rat):Rat:=eV t lat/cosa (hV t)
theorem quo_eq (t lat:Rat):quo t lat=sof lat/sof (lat+((90:Int):Rat))*(hV t/cosa (hV t)):=by
 unfold quo eV
 rw[Rat.div_def,Rat.div_def,Rat.div_def,Rat.div_def];grind
theorem div_le_of {x c b:Rat} (hc:0<c) (h:x≤b*c):x/c≤b:=Rat.not_lt.1 fun q=>by rw[Rat.lt_div_iff hc] at q;grind
theorem le_div_of {x c b:Rat} (hc:0<c) (h:b*c≤x):b≤x/c:=Rat.not_lt.1 fun q=>by rw[Rat.div_lt_iff hc] at q;grind
theorem tan_bd {lat:Rat} (h0: -60≤lat) (h1:lat≤60): -(2978/1719)≤sof lat/sof (lat+((90:Int):Rat))∧sof lat/sof (lat+((90:Int):Rat))≤2978/1719:=by
 have s:=lat_sin h0 h1
 have c:=lat_cos h0 h1
 exact⟨le_div_of (by grind) (by grind),div_le_of (by grind) (by grind)⟩
theorem hc_bd (t:Rat): -(1397/3438*(10/9))≤hV t/cosa (hV t)∧hV t/cosa (hV t)≤1397/3438*(10/9):=by
 have h:=hV_bd t
 have c:=cosa_bd h.1 h.2
 rw[obl_eq] at h
 exact⟨le_div_of (by grind) (by grind),div_le_of (by grind) (by grind)⟩
theorem mul_bd {x y a b:Rat} (ha:0≤a) (hb:0≤b) (x0: -a≤x) (x1:x≤a) (y0: -b≤y) (y1:y≤b): -(a*b)≤x*y∧x*y≤a*b:=by
 have m1:=Rat.mul_nonneg (a:=a-x) (b:=b+y) (by grind) (by grind)
 have m2:=Rat.mul_nonneg (a:=a+x) (b:=b-y) (by grind) (by grind)
 have m3:=Rat.mul_nonneg (a:=a-x) (b:=b-y) (by grind) (by grind)
 have m4:=Rat.mul_nonneg (a:=a+x) (b:=b+y) (by grind) (by grind)
 constructor <;> grind
theorem quo_bd (t:Rat) {lat:Rat} (h0: -60≤lat) (h1:lat≤60): -(79/100)≤quo t lat∧quo t lat≤79/100:=by
 have a:=tan_bd h0 h1
 have b:=hc_bd t
 have m:=mul_bd (by grind) (by grind) a.1 a.2 b.1 b.2
 rw[quo_eq]
 constructor <;> grind
theorem arc_bd {y:Rat} (h0: -(79/100)≤y) (h1:y≤79/100): -53≤arcv y∧arcv y≤53:=by
 have r:=arcv_bd (y:=y) (by grind) (by grind)
 have e:=sof_arcv (y:=y) (by grind) (by grind)
 have a:79/100<sof 53:=by decide+kernel
 have b:sof (-53)< -(79/100):=by decide+kernel
 constructor
 ·refine Rat.not_lt.1 fun q=>?_
  have:=sof_rise r.1 q (by rw[r90];grind)
  grind
 ·refine Rat.not_lt.1 fun q=>?_
  have:=sof_rise (by rw[show((-90:Int):Rat)= -90 from rfl];grind) q r.2
  grind
theorem diff_bd (t:Rat) {lat:Rat} (h0: -60≤lat) (h1:lat≤60): -53≤diffV t lat∧diffV t lat≤53:=by
 have q:=quo_bd t h0 h1
 exact arc_bd (y:= -(quo t lat)) (by grind) (by grind)
def stpV (x:Rat):Int:=spk (pk x+1)-spk (pk x)
def motP (t:Rat):Rat:=((14:Int):Rat)/((360:Int):Rat)-(sof (mof t pay)).abs *(((1:Int):Rat)/((1080:Int):Rat))
def motV (t:Rat):Rat:=((360:Int):Rat)/pyr*(((1:Int):Rat)-((stpV (mof t pay):Int):Rat)/((225:Int):Rat)*motP t)
def risT (k:Int):Int:=if k%6=0∨k%6=5 then 1670 else if k%6=1∨k%6=4 then 1795 else 1935
def risV (t:Rat):Rat:=((risT (prt (tropV t) 12):Int):Rat)/((1800:Int):Rat)
def eqnV (t:Rat):Rat:=motV t*(((1:Int):Rat)/((360:Int):Rat))*(sof (mof t pay)*(((573:Int):Rat)/((10:Int):Rat))*motP t*(((1:Int):Rat)/((360:Int):Rat)))*pyr
def kap:Rat:=((1577917828:Int):Rat)/((1582237828:Int):Rat)*(((1:Int):Rat)/((360:Int):Rat))
def eastV (lon:Rat):Rat:=(((45461:Int):Rat)/((600:Int):Rat)-lon)*(((1:Int):Rat)/((360:Int):Rat))
def bothV (t lat lon:Rat) (qd sg:Int):Rat:=t+((qd:Int):Rat)/((4:Int):Rat)+(eastV lon-eqnV t)+(motV t*risV t*(((qd:Int):Rat)/((4:Int):Rat))+((sg:Int):Rat)*diffV t lat)*kap
def grainV (x:Rat):Rat:=(((x*((1048576:Int):Rat)).floor :Int):Rat)*(((1:Int):Rat)/((1048576:Int):Rat))
theorem motP_bd (t:Rat):13/360≤motP t∧motP t≤14/360:=by
 have b:=sof_bd (mof t pay)
 have c:(sof (mof t pay)).abs ≤1:=abs_le b.1 b.2
 have d:(0:Rat)≤(sof (mof t pay)).abs :=Rat.abs_nonneg
 unfold motP
 rw[show((14:Int):Rat)/((360:Int):Rat)=14/360 by decide+kernel,show((1:Int):Rat)/((1080:Int):Rat)=1/1080 by decide+kernel]
 constructor <;> grind
theorem stp_bd (x:Rat): -1≤((stpV x:Int):Rat)/((225:Int):Rat)∧((stpV x:Int):Rat)/((225:Int):Rat)≤1:=by
 have s:=sp_step (pk x)
 have a:=cast_le s.1
 have b:=cast_le s.2
 rw[show((-225:Int):Rat)= -225 from rfl] at a
 rw[show((225:Int):Rat)=225 from rfl] at b ⊢
 unfold stpV
 exact⟨le_div_of (by grind) (by grind),div_le_of (by grind) (by grind)⟩
theorem mot_bd (t:Rat):947/1000≤motV t∧motV t≤1025/1000:=by
 have p:=motP_bd t
 have s:=stp_bd (mof t pay)
 have m:=mul_bd (b:=14/360) (a:=1) (x:=((stpV (mof t pay):Int):Rat)/((225:Int):Rat)) (y:=motP t) (by grind) (by grind) s.1 s.2 (by grind) p.2
 have k1:985/1000≤((360:Int):Rat)/pyr:=by decide+kernel
 have k2:986/1000≥((360:Int):Rat)/pyr:=by decide+kernel
 have k3:9856/10000≤((360:Int):Rat)/pyr:=by decide+kernel
 unfold motV
 rw[Rat.intCast_one]
 generalize ((stpV (mof t pay):Int):Rat)/((225:Int):Rat)*motP t=y at*
 generalize ((360:Int):Rat)/pyr=c at*
 have u:=Rat.mul_nonneg (a:=c-9856/10000) (b:=1-y) (by grind) (by grind)
 have v:=Rat.mul_nonneg (a:=986/1000-c) (b:=1-y) (by grind) (by grind)
 constructor <;> grind
theorem ris_bd (t:Rat):1670/1800≤risV t∧risV t≤1935/1800:=by
 have h:1670≤risT (prt (tropV t) 12)∧risT (prt (tropV t) 12)≤1935:=by unfold risT;split <;> (try split) <;> omega
 have a:=cast_le h.1
 have b:=cast_le h.2
 rw[show((1670:Int):Rat)=1670 from rfl] at a
 rw[show((1935:Int):Rat)=1935 from rfl] at b
 unfold risV
 rw[show((1800:Int):Rat)=1800 from rfl]
 exact⟨le_div_of (by grind) (by grind),div_le_of (by grind) (by grind)⟩
theorem side_bd (t:Rat):87/100≤motV t*risV t∧motV t*risV t≤111/100:=by
 have m:=mot_bd t
 have r:=ris_bd t
 have u:=Rat.mul_nonneg (a:=motV t-947/1000) (b:=risV t) (by grind) (by grind)
 have v:=Rat.mul_nonneg (a:=1025/1000-motV t) (b:=risV t) (by grind) (by grind)
 constructor <;> grind
theorem kap_bd:277/100000≤kap∧kap≤27703/10000000:=by decide+kernel
theorem deg_eq (t:Rat):sof (mof t pay)*(((573:Int):Rat)/((10:Int):Rat))*motP t=573/10*epi (sof (mof t pay)) ssz sch:=by
 unfold motP epi
 rw[sz_eq.1,sz_eq.2.1,show((573:Int):Rat)/((10:Int):Rat)=573/10 by decide+kernel,show((14:Int):Rat)/((360:Int):Rat)=7/180 by decide+kernel,show((1:Int):Rat)/((1080:Int):Rat)=1/1080 by decide+kernel]
 grind
theorem eqn_eq (t:Rat):eqnV t=motV t*(epi (sof (mof t pay)) ssz sch*(573/10*(1/360)*(1/360)*pyr)):=by
 unfold eqnV
 rw[deg_eq,show((1:Int):Rat)/((360:Int):Rat)=1/360 by decide+kernel];grind
theorem eqc_bd:16/100≤573/10*(1/360)*(1/360)*pyr∧573/10*(1/360)*(1/360)*pyr≤162/1000:=by decide+kernel
theorem epi_b (t:Rat): -(41/1080)≤epi (sof (mof t pay)) ssz sch∧epi (sof (mof t pay)) ssz sch≤41/1080:=by
 have b:=sof_bd (mof t pay)
 have e:=epi_bd (s:=ssz) (c:=sch) b.1 b.2 (by decide+kernel) (by decide+kernel) (by decide+kernel)
 have k:ssz*(1-sch)=41/1080:=by decide+kernel
 rw[k] at e;exact e
theorem eqn_bd (t:Rat): -(64/10000)≤eqnV t∧eqnV t≤64/10000:=by
 have m:=mot_bd t
 have e:=epi_b t
 have c:=eqc_bd
 have n:=mul_bd (a:=41/1080) (b:=162/1000) (x:=epi (sof (mof t pay)) ssz sch) (y:=573/10*(1/360)*(1/360)*pyr) (by grind) (by grind) e.1 e.2 (by grind) c.2
 have o:=mul_bd (a:=1025/1000) (b:=41/1080*(162/1000)) (x:=motV t) (by grind) (by grind) (by grind) m.2 n.1 n.2
 rw[eqn_eq]
 constructor <;> grind
theorem diff_flat (t:Rat):diffV t 0=0:=by
 have a:sof 0=0:=by decide+kernel
 unfold diffV eV
 rw[a,Rat.mul_zero,Rat.div_def,Rat.div_def,Rat.zero_mul,Rat.zero_mul]
 decide+kernel
end Go.Proofs.YtpkhdajnppoinaaGreatDoor
