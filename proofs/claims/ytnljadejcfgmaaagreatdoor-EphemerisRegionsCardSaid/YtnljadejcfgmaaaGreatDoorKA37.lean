import Derived.Test.YtnljadejcfgmaaaGreatDoorKA36
namespace Go.Proofs.YtnljadejcfgmaaaGreatDoor
open Go.RowKit
set_option maxRecDepth 100000
set_option linter.unusedVariables false
set_option maxHeartbeats 8000000
def Dv (q:Rat) (D:Nat):Prop:=∃n:Int,q*((D:Nat):Rat)=((n:Int):Rat)
theorem Dv.int (n:Int):Dv ((n:Int):Rat) 1:=⟨n,by rw[show((1:Nat):Rat)=1 from rfl];grind⟩
theorem Dv.frc (n:Int) {D:Nat} (h:0<D):Dv (((n:Int):Rat)/(((D:Nat):Int):Rat)) D:=⟨n,by
 rw[Rat.intCast_natCast]
 exact Rat.div_mul_cancel (by have:=Rat.natCast_pos.2 h;grind)⟩
theorem Dv.add {p q:Rat} {D:Nat} (h:Dv p D) (g:Dv q D):Dv (p+q) D:=by
 obtain⟨n,h⟩:=h
 obtain⟨m,g⟩:=g
 exact⟨n+m,by rw[Rat.intCast_add];grind⟩
theorem Dv.neg {p:Rat} {D:Nat} (h:Dv p D):Dv (-p) D:=by
 obtain⟨n,h⟩:=h
 exact⟨-n,by rw[Rat.intCast_neg];grind⟩
theorem Dv.sub {p q:Rat} {D:Nat} (h:Dv p D) (g:Dv q D):Dv (p-q) D:=by rw[Rat.sub_eq_add_neg];exact h.add g.neg
theorem Dv.abs {p:Rat} {D:Nat} (h:Dv p D):Dv p.abs D:=by
 unfold Rat.abs
 split
 ·exact h
 ·exact h.neg
theorem Dv.mul {p q:Rat} {D E:Nat} (h:Dv p D) (g:Dv q E):Dv (p*q) (D*E):=by
 obtain⟨n,h⟩:=h
 obtain⟨m,g⟩:=g
 exact⟨n*m,by rw[Rat.intCast_mul,Rat.natCast_mul];grind⟩
theorem Dv.mulI {p:Rat} {D:Nat} (n:Int) (h:Dv p D):Dv (p*((n:Int):Rat)) D:=by
 have:=h.mul (Dv.int n)
 rwa[Nat.mul_one] at this
theorem Dv.up {p:Rat} {D:Nat} (h:Dv p D) (E:Nat):Dv p (D*E):=by
 obtain⟨n,h⟩:=h
 exact⟨n*(E:Int),by rw[Rat.intCast_mul,Rat.natCast_mul,Rat.intCast_natCast];grind⟩
theorem Dv.cast {p q:Rat} {D E:Nat} (h:Dv p D) (e:p=q) (f:D=E):Dv q E:=by subst e;subst f;exact h
theorem Dv.addI {p:Rat} {D:Nat} (n:Int) (h:Dv p D):Dv (p+((n:Int):Rat)) D:=h.add (((Dv.int n).up D).cast rfl (Nat.one_mul D))
theorem Dv.mfr {p:Rat} {D:Nat} (h:Dv p D):Dv (mfr p) D:=by rw[mfr_fl];exact h.addI _
theorem Dv.rmod {p:Rat} {D:Nat} (h:Dv p D):Dv (rmod p ((360:Int):Rat)) D:=by
 rw[rmod_fl c360_pos,←Rat.intCast_mul];exact h.addI _
theorem Dv.den {p:Rat} {D:Nat} (h:Dv p D) (hD:0<D):p.den≤D:=by
 obtain⟨n,h⟩:=h
 have hd:=Rat.natCast_pos.2 hD
 have e:p=mkRat n D:=by
  rw[Rat.mkRat_eq_div,←h,Rat.div_def,Rat.mul_assoc,Rat.mul_inv_cancel _ (by grind),Rat.mul_one]
 rw[e,Rat.den_mkRat,if_neg (by omega)]
 exact Nat.div_le_self _ _
theorem mturn_dv (d:Int) {n:Int} {D:Nat} (hn:n≠0) (hD:0<D):Dv (mturn ((d:Int):Rat) ((((D:Nat):Int):Rat)/((n:Int):Rat))) D:=by
 have e:mturn ((d:Int):Rat) ((((D:Nat):Int):Rat)/((n:Int):Rat))=((n:Int):Rat)/(((D:Nat):Int):Rat)*((d+714403429586:Int):Rat):=by
  have hn':((n:Int):Rat)≠0:=fun h=>hn (Rat.intCast_inj.1 (by rw[h];rfl))
  have hD':(((D:Nat):Int):Rat)≠0:=fun h=>by
   have:((D:Nat):Int)=0:=Rat.intCast_inj.1 (by rw[h];rfl)
   omega
  unfold mturn cre
  rw[Rat.intCast_add,show((-714403429586:Int):Rat)= -714403429586 from rfl,show((714403429586:Int):Rat)=714403429586 from rfl]
  generalize ((n:Int):Rat)=x at*
  generalize (((D:Nat):Int):Rat)=y at*
  rw[Rat.div_def,Rat.div_def,Rat.div_def,Rat.inv_mul_rev,Rat.inv_inv]
  grind
 rw[e]
 exact(Dv.frc n hD).mulI _
theorem mof_dv {t p:Rat} {D:Nat} (hp:0<p) (h:Dv (mturn t p) D):Dv (mof t p) D:=by
 rw[mof_pos hp];exact h.mfr.mulI _
theorem sof_dv {t p:Rat} {D:Nat} (hp:0<p) (h:Dv (mturn t p) D):Dv (sof (mof t p)) (D*3438):=by
 rw[←sof_pk,pfr_mfr]
 have e:mof t p/wd=mfr (mturn t p)*((96:Int):Rat):=by
  rw[mof_pos hp,wd_eq,show((96:Int):Rat)=96 from rfl,r360];grind
 have m:Dv (mfr (mof t p/wd)) D:=by rw[e];exact(h.mfr.mulI _).mfr
 rw[Rat.div_def]
 have i:Dv (((3438:Int):Rat))⁻¹ 3438:=⟨1,by decide+kernel⟩
 refine Dv.mul ?_ i
 rw[Rat.add_comm]
 exact(m.mulI _).addI _
theorem epi_dv {a s c:Rat} {D E F:Nat} (h:Dv a D) (hs:Dv s E) (hc:Dv c F):Dv (epi a s c) (D*(D*F*E)):=by
 unfold epi
 refine h.mul (Dv.sub ?_ ((h.abs.mul hc).mul hs))
 exact(hs.up (D*F)).cast rfl (Nat.mul_comm _ _)
theorem arc_dv {x:Rat} {D:Nat} (h:Dv x D) (h0: -449≤x*3438) (h1:x*3438≤449):Dv (arcv x) (D*224*225*4):=by
 have g:Dv (x*3438) D:=h.mulI 3438
 have i4:Dv wd 4:=⟨15,by decide+kernel⟩
 have i224:Dv (((1:Int):Rat)/((224:Int):Rat)) 224:=Dv.frc 1 (by decide)
 have i225:Dv (((1:Int):Rat)/((225:Int):Rat)) 225:=Dv.frc 1 (by decide)
 unfold arcv
 rw[c3438]
 refine Dv.mul ?_ i4
 rcases ap_pc h0 h1 with⟨_,e⟩|⟨_,_,e⟩|⟨_,e⟩ <;> rw[e]
 ·refine Dv.up (((((g.addI 225).mul i224).addI (-1)).cast ?_ rfl)) 225
  rw[show((225:Int):Rat)=225 from rfl,show((1:Int):Rat)/((224:Int):Rat)=1/224 by decide+kernel,show((-1:Int):Rat)= -1 from rfl];grind
 ·refine((g.mul i225).up 224).cast ?_ (by rw[Nat.mul_right_comm])
  rw[show((1:Int):Rat)/((225:Int):Rat)=1/225 by decide+kernel];grind
 ·refine Dv.up (((((g.addI (-225)).mul i224).addI 1).cast ?_ rfl)) 225
  rw[show((-225:Int):Rat)= -225 from rfl,show((1:Int):Rat)/((224:Int):Rat)=1/224 by decide+kernel,show((1:Int):Rat)=1 from rfl];grind
theorem eqv_dv {t an s c:Rat} {D E F:Nat} (ha:0<an) (h:Dv (mturn t an) D) (hs:Dv s E) (hc:Dv c F) (s0:0≤s) (s1:s*3438≤449) (c0:0≤c) (c1:2*c≤1):Dv (eqv t an s c) (D*3438*(D*3438*F*E)*224*225*4):=by
 have b:=sof_bd (mof t an)
 have e:=epi_bd (s:=s) (c:=c) b.1 b.2 s0 c0 c1
 have cs:=Rat.mul_nonneg s0 c0
 exact arc_dv (epi_dv (sof_dv ha h) hs hc) (by grind) (by grind)
def DS:Nat:=1577917828000*3438*(1577917828000*3438*42*180)*224*225*4
theorem sun_dv (d:Int):Dv (sunV ((d:Int):Rat)) DS:=by
 have m:=mof_dv pyr_pos (mturn_dv d (n:=4320000000) (D:=1577917828000) (by decide) (by decide))
 have e:=eqv_dv (s:=ssz) (c:=sch) (E:=180) (F:=42) pay_pos (mturn_dv d (n:=4319999613) (D:=1577917828000) (by decide) (by decide)) ⟨7,by decide+kernel⟩ ⟨1,by decide+kernel⟩ (by decide+kernel) (by decide+kernel) (by decide+kernel) (by decide+kernel)
 exact((((m.up (3438*(1577917828000*3438*42*180)*224*225*4)).cast rfl (by decide+kernel)).sub e).rmod)
theorem Dv.self (q:Rat):Dv q q.den:=⟨q.num,by
 have dp:=Rat.natCast_pos.2 q.den_pos
 have h1:q=(q.num:Rat)/(q.den:Rat):=by rw[←Rat.mkRat_eq_div,Rat.mkRat_self]
 have:q*(q.den:Rat)=(q.num:Rat)/(q.den:Rat)*(q.den:Rat):=by rw[←h1]
 rw[this,Rat.div_mul_cancel (by grind)]⟩
theorem num_abs {p:Rat} {m D:Nat} (h0: -((m:Nat):Rat)≤p) (h1:p≤((m:Nat):Rat)) (hd:p.den≤D):p.num.natAbs≤m*D:=by
 have dp:=Rat.natCast_pos.2 p.den_pos
 have e:(p.num:Rat)=p*(p.den:Rat):=by
  have h1:p=(p.num:Rat)/(p.den:Rat):=by rw[←Rat.mkRat_eq_div,Rat.mkRat_self]
  have:p*(p.den:Rat)=(p.num:Rat)/(p.den:Rat)*(p.den:Rat):=by rw[←h1]
  rw[this,Rat.div_mul_cancel (by grind)]
 have m1:=Rat.mul_le_mul_of_nonneg_right (c:=(p.den:Rat)) h1 (by grind)
 have m0:=Rat.mul_le_mul_of_nonneg_right (c:=(p.den:Rat)) h0 (by grind)
 rw[←e] at m1 m0
 have a1:p.num≤((m*p.den:Nat):Int):=Rat.intCast_le_intCast.1 (by rw[Rat.intCast_natCast,Rat.natCast_mul];exact m1)
 have a0: -((m*p.den:Nat):Int)≤p.num:=Rat.intCast_le_intCast.1 (by rw[Rat.intCast_neg,Rat.intCast_natCast,Rat.natCast_mul];grind)
 have:=Nat.mul_le_mul_left m hd
 omega
theorem rlim_of {p:Rat} {m D k:Nat} (hv:Dv p D) (hD:0<D) (h0: -((m:Nat):Rat)≤p) (h1:p≤((m:Nat):Rat)) (hm:0<m) (hk:m*D<B32^k):RLim p k:=by
 have hd:=hv.den hD
 have hn:=num_abs h0 h1 hd
 refine⟨show _<_ from Nat.lt_of_le_of_lt hn hk,show _<_ from Nat.lt_of_le_of_lt (Nat.le_trans hd (Nat.le_mul_of_pos_left D hm)) hk⟩
theorem pow_up {d c k:Nat} (h:d<B32^k) (hc:c≤4294967296) (h0:0<c):c*d<B32^(k+1):=by
 rw[Nat.pow_succ,Nat.mul_comm (B32^k)]
 exact Nat.lt_of_lt_of_le (Nat.mul_lt_mul_of_pos_left h h0) (Nat.mul_le_mul_right _ hc)
theorem sof_lim3 {x:Rat} {k:Nat} (h:RLim x k):RLim (sof x) (k+1):=by
 have b:=sof_bd x
 have m:Dv (mfr (x/wd)) (x.den*15):=by
  refine Dv.mfr ?_
  have i:Dv (((4:Int):Rat)/((15:Int):Rat)) 15:=Dv.frc 4 (by decide)
  refine((Dv.self x).mul i).cast ?_ rfl
  rw[wd_eq,show((4:Int):Rat)/((15:Int):Rat)=4/15 by decide+kernel];grind
 have i:Dv (((3438:Int):Rat))⁻¹ 3438:=⟨1,by decide+kernel⟩
 have v:Dv (sof x) (x.den*15*3438):=by
  rw[←sof_pk,pfr_mfr,Rat.div_def]
  refine Dv.mul ?_ i
  rw[Rat.add_comm]
  exact(m.mulI _).addI _
 have dp:=x.den_pos
 refine rlim_of (m:=1) v (by omega) b.1 b.2 (by decide) ?_
 have:=pow_up (c:=51570) (show x.den<B32^k from h.2) (by decide) (by decide)
 rw[show 1*(x.den*15*3438)=51570*x.den by omega]
 exact this
theorem ay_dv {h:Rat} {D:Nat} (v:Dv h D):∃e:Nat,0<e∧e≤225∧Dv (ay h) (D*e):=by
 by_cases c:yk h<24
 ·have up:=sp_up (k:=((yk h:Nat):Int)) (by omega) (by omega)
  have st:=sp_step ((yk h:Nat):Int)
  refine⟨(spk (((yk h:Nat):Int)+1)-spk ((yk h:Nat):Int)).toNat,by omega,by omega,?_⟩
  have ee:(((spk (((yk h:Nat):Int)+1)-spk ((yk h:Nat):Int)).toNat :Nat):Int)=spk (((yk h:Nat):Int)+1)-spk ((yk h:Nat):Int):=by omega
  unfold ay
  rw[if_pos c]
  have i:=Dv.frc 1 (D:=(spk (((yk h:Nat):Int)+1)-spk ((yk h:Nat):Int)).toNat) (by omega)
  rw[ee] at i
  refine Dv.addI _ (((v.addI (-spk ((yk h:Nat):Int))).mul i).cast ?_ rfl)
  rw[Rat.intCast_neg,Rat.intCast_one,Rat.div_def,Rat.div_def];grind
 ·refine⟨1,by decide,by decide,?_⟩
  unfold ay
  rw[if_neg c]
  exact((Dv.int 24).up D).cast rfl (by omega)
theorem arcv_lim3 {y:Rat} {k:Nat} (h:RLim y k) (h0: -1≤y) (h1:y≤1):RLim (arcv y) (k+1):=by
 have b:=arcv_bd h0 h1
 have v:Dv (y*((3438:Int):Rat)) y.den:=(Dv.self y).mulI _
 have w4:Dv wd 4:=⟨15,by decide+kernel⟩
 obtain⟨e,e0,e1,q⟩:∃e:Nat,0<e∧e≤225∧Dv (ap (y*((3438:Int):Rat))) (y.den*e):=by
  unfold ap
  split
  ·obtain⟨e,e0,e1,q⟩:=ay_dv v.neg
   exact⟨e,e0,e1,q.neg⟩
  ·exact ay_dv v
 have r:Dv (arcv y) (y.den*e*4):=q.mul w4
 have dp:=y.den_pos
 refine rlim_of (m:=90) r (Nat.mul_pos (Nat.mul_pos dp e0) (by decide)) ?_ ?_ (by decide) ?_
 ·have:=b.1;rw[show((-90:Int):Rat)= -90 from rfl] at this;exact this
 ·exact b.2
 ·have:=pow_up (c:=81000) (show y.den<B32^k from h.2) (by decide) (by decide)
  have m:=Nat.mul_le_mul_left y.den e1
  rw[show 90*(y.den*e*4)=360*(y.den*e) by omega]
  omega
theorem lim1 {n:Int} (h:n.natAbs<4294967296):RLim ((n:Int):Rat) 1:=rlim_int (show n.natAbs<B32^1 from by rw[Nat.pow_one];exact h) (by decide)
theorem lim1d {n d:Int} (h:n.natAbs<4294967296) (g:d.natAbs<4294967296):RLim (((n:Int):Rat)/((d:Int):Rat)) 1:=(rlim_mk2 (a:=1) (b:=1) (show n.natAbs<B32^1 from by rw[Nat.pow_one];exact h) (show d.natAbs<B32^1 from by rw[Nat.pow_one];exact g)).up 1 (by decide)
theorem prec_dv (d:Int):Dv (precV ((d:Int):Rat)) 6311671312:=by
 have y:Dv (preY ((d:Int):Rat)) 6311671312:=⟨(d+1132959)*2400-1577917828,by
  unfold preY kli
  rw[Rat.intCast_sub,Rat.intCast_mul,Rat.intCast_add]
  rw[show((600:Int):Rat)/((1577917828:Int):Rat)=600/1577917828 by decide+kernel,show((1:Int):Rat)/((4:Int):Rat)=1/4 by decide+kernel,show((-1132959:Int):Rat)= -1132959 from rfl,show((1132959:Int):Rat)=1132959 from rfl,show((2400:Int):Rat)=2400 from rfl,show((1577917828:Int):Rat)=1577917828 from rfl,show((6311671312:Nat):Rat)=6311671312 from rfl]
  grind⟩
 have x:Dv (preX ((d:Int):Rat)) 6311671312:=by
  unfold preX
  rw[half_eq.1,half_eq.2]
  obtain⟨n,e⟩:∃n:Int,rinto (preY ((d:Int):Rat)) (-1/2) (1/2)=preY ((d:Int):Rat)+((n:Int):Rat):=by
   refine⟨-((preY ((d:Int):Rat)- -1/2)/(1/2- -1/2)).floor,?_⟩
   unfold rinto
   rw[if_neg (by grind)]
   unfold rmod
   rw[if_neg (by grind),Rat.intCast_neg]
   grind
  rw[e];exact y.addI n
 unfold precV
 have a:=(x.abs.mulI 108).neg.addI 27
 exact a.cast (by grind) rfl
theorem trop_lim3 (d:Int):RLim (tropV ((d:Int):Rat)) 6:=by
 have s:=(sun_dv d).up 6311671312
 have p:=((prec_dv d).up DS).cast rfl (Nat.mul_comm _ _)
 have v:Dv (tropV ((d:Int):Rat)) (DS*6311671312):=(s.sub p).rmod
 have l:(0:Rat)≤tropV ((d:Int):Rat):=rmod_low c360_pos
 have u:tropV ((d:Int):Rat)<((360:Int):Rat):=rmod_high c360_pos
 rw[r360] at u
 exact rlim_of (m:=360) v (by decide+kernel) (by rw[show((360:Nat):Rat)=360 from rfl];grind) (by rw[show((360:Nat):Rat)=360 from rfl];grind) (by decide) (by decide+kernel)
theorem diff_lim3 (d:Int) {lat:Rat} (hl:RLim lat 1) (h0: -60≤lat) (h1:lat≤60):RLim (diffV ((d:Int):Rat) lat) 27:=by
 have a:=sof_lim3 (trop_lim3 d)
 have hb:=hV_bd ((d:Int):Rat)
 have h:RLim (hV ((d:Int):Rat)) 8:=(rlim_mul (lim1d (n:=1397) (d:=3438) (by decide) (by decide)) a).up _ (by omega)
 have hb':=hb
 rw[obl_eq] at hb'
 have n90:RLim ((90:Int):Rat) 1:=lim1 (by decide)
 have c:RLim (cosa (hV ((d:Int):Rat))) 12:=(sof_lim3 (rlim_add (arcv_lim3 h (by grind) (by grind)) n90)).up _ (by omega)
 have e:RLim (eV ((d:Int):Rat) lat) 14:=(rlim_div (rlim_mul h (sof_lim3 hl)) (sof_lim3 (rlim_add hl n90))).up _ (by omega)
 have q:=quo_bd ((d:Int):Rat) h0 h1
 have l:RLim (quo ((d:Int):Rat) lat) 26:=(rlim_div e c).up _ (by omega)
 have r:=arcv_lim3 (y:= -(quo ((d:Int):Rat) lat)) (rlim_neg l) (by grind) (by grind)
 exact r
theorem mofd_lim (d:Int):RLim (mof ((d:Int):Rat) pay) 2:=by
 have v:=mof_dv pay_pos (mturn_dv d (n:=4319999613) (D:=1577917828000) (by decide) (by decide))
 have l:=mof_low ((d:Int):Rat) pay
 have u:=mof_high ((d:Int):Rat) pay
 rw[r360] at u
 exact rlim_of (m:=360) v (by decide) (by rw[show((360:Nat):Rat)=360 from rfl];grind) (by rw[show((360:Nat):Rat)=360 from rfl];grind) (by decide) (by decide+kernel)
theorem motP_lim3 (d:Int):RLim (motP ((d:Int):Rat)) 6:=(rlim_sub (lim1d (n:=14) (d:=360) (by decide) (by decide)) (rlim_mul (rlim_abs (sof_lim3 (mofd_lim d))) (lim1d (n:=1) (d:=1080) (by decide) (by decide)))).up _ (by omega)
theorem year_lim1:RLim (((360:Int):Rat)/pyr) 1:=by
 refine⟨?_,?_⟩
 ·show _<_;decide+kernel
 ·show _<_;decide+kernel
theorem pyr_lim1:RLim pyr 1:=by
 refine⟨?_,?_⟩
 ·show _<_;decide+kernel
 ·show _<_;decide+kernel
theorem mot_lim3 (d:Int):RLim (motV ((d:Int):Rat)) 10:=by
 have s:=sp_step (pk (mof ((d:Int):Rat) pay))
 have st:RLim (((stpV (mof ((d:Int):Rat) pay):Int):Rat)/((225:Int):Rat)) 1:=lim1d (by unfold stpV;omega) (by decide)
 exact(rlim_mul year_lim1 (rlim_sub (lim1 (n:=1) (by decide)) (rlim_mul st (motP_lim3 d)))).up _ (by omega)
theorem ris_lim3 (t:Rat):RLim (risV t) 1:=lim1d (by unfold risT;split <;> (try split) <;> decide) (by decide)
theorem eqn_lim3 (d:Int):RLim (eqnV ((d:Int):Rat)) 24:=by
 have o:RLim (((1:Int):Rat)/((360:Int):Rat)) 1:=lim1d (by decide) (by decide)
 exact(rlim_mul (rlim_mul (rlim_mul (mot_lim3 d) o) (rlim_mul (rlim_mul (rlim_mul (sof_lim3 (mofd_lim d)) (lim1d (n:=573) (d:=10) (by decide) (by decide))) (motP_lim3 d)) o)) pyr_lim1).up _ (by omega)
theorem both_lim3 {d:Int} {lat lon:Rat} {qd sg:Int} (hd:d.natAbs<4294967296) (hl:RLim lat 1) (hn:RLim lon 1) (h0: -60≤lat) (h1:lat≤60) (hq:qd.natAbs<10) (hs:sg.natAbs<10):RLim (bothV ((d:Int):Rat) lat lon qd sg) 90:=by
 have o:RLim (((1:Int):Rat)/((360:Int):Rat)) 1:=lim1d (by decide) (by decide)
 have q:RLim (((qd:Int):Rat)/((4:Int):Rat)) 1:=lim1d (by omega) (by decide)
 have ea:RLim (eastV lon) 4:=(rlim_mul (rlim_sub (lim1d (n:=45461) (d:=600) (by decide) (by decide)) hn) o).up _ (by omega)
 have ka:RLim kap 2:=(rlim_mul (lim1d (n:=1577917828) (d:=1582237828) (by decide) (by decide)) o).up _ (by omega)
 have si:=rlim_add (rlim_mul (rlim_mul (mot_lim3 d) (ris_lim3 ((d:Int):Rat))) q) (rlim_mul (lim1 (n:=sg) (by omega)) (diff_lim3 d hl h0 h1))
 exact(rlim_add (rlim_add (rlim_add (lim1 hd) q) (rlim_sub ea (eqn_lim3 d))) (rlim_mul si ka)).up _ (by omega)
end Go.Proofs.YtnljadejcfgmaaaGreatDoor
