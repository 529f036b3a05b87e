import Derived.Test.YtdbiegfmgabicaaGreatDoorKA27
namespace Go.Proofs.YtdbiegfmgabicaaGreatDoor
open Go.RowKit
set_option maxRecDepth 100000
set_option linter.unusedVariables false
set_option maxHeartbeats 8000000
def Dv (q:Rat) (D:Nat):Prop:=∃n:Int,q*((D:Nat):Rat)=((n:Int):Rat)
theorem Dv.int (n:Int):Dv ((n:Int):Rat) 1:=⟨n,by rw[show((1:Nat):Rat)=1 from rfl];grind⟩
theorem Dv.frc (n:Int) {D:Nat} (h:0<D):Dv (((n:Int):Rat)/(((D:Nat):Int):Rat)) D:=⟨n,by
 rw[Rat.intCast_natCast]
 exact Rat.div_mul_cancel (by have:=Rat.natCast_pos.2 h;grind)⟩
theorem Dv.add {p q:Rat} {D:Nat} (h:Dv p D) (g:Dv q D):Dv (p+q) D:=by
 obtain⟨n,h⟩:=h
 obtain⟨m,g⟩:=g
 exact⟨n+m,by rw[Rat.intCast_add];grind⟩
theorem Dv.neg {p:Rat} {D:Nat} (h:Dv p D):Dv (-p) D:=by
 obtain⟨n,h⟩:=h
 exact⟨-n,by rw[Rat.intCast_neg];grind⟩
theorem Dv.sub {p q:Rat} {D:Nat} (h:Dv p D) (g:Dv q D):Dv (p-q) D:=by rw[Rat.sub_eq_add_neg];exact h.add g.neg
theorem Dv.abs {p:Rat} {D:Nat} (h:Dv p D):Dv p.abs D:=by
 unfold Rat.abs
 split
 ·exact h
 ·exact h.neg
theorem Dv.mul {p q:Rat} {D E:Nat} (h:Dv p D) (g:Dv q E):Dv (p*q) (D*E):=by
 obtain⟨n,h⟩:=h
 obtain⟨m,g⟩:=g
 exact⟨n*m,by rw[Rat.intCast_mul,Rat.natCast_mul];grind⟩
theorem Dv.mulI {p:Rat} {D:Nat} (n:Int) (h:Dv p D):Dv (p*((n:Int):Rat)) D:=by
 have:=h.mul (Dv.int n)
 rwa[Nat.mul_one] at this
theorem Dv.up {p:Rat} {D:Nat} (h:Dv p D) (E:Nat):Dv p (D*E):=by
 obtain⟨n,h⟩:=h
 exact⟨n*(E:Int),by rw[Rat.intCast_mul,Rat.natCast_mul,Rat.intCast_natCast];grind⟩
theorem Dv.cast {p q:Rat} {D E:Nat} (h:Dv p D) (e:p=q) (f:D=E):Dv q E:=by subst e;subst f;exact h
theorem Dv.addI {p:Rat} {D:Nat} (n:Int) (h:Dv p D):Dv (p+((n:Int):Rat)) D:=h.add (((Dv.int n).up D).cast rfl (Nat.one_mul D))
theorem Dv.mfr {p:Rat} {D:Nat} (h:Dv p D):Dv (mfr p) D:=by rw[vM];exact h.addI _
theorem Dv.rmod {p:Rat} {D:Nat} (h:Dv p D):Dv (rmod p ((360:Int):Rat)) D:=by
 rw[iq bC,←Rat.intCast_mul];exact h.addI _
theorem Dv.den {p:Rat} {D:Nat} (h:Dv p D) (hD:0<D):p.den≤D:=by
 obtain⟨n,h⟩:=h
 have hd:=Rat.natCast_pos.2 hD
 have e:p=mkRat n D:=by
  rw[Rat.mkRat_eq_div,←h,Rat.div_def,Rat.mul_assoc,Rat.mul_inv_cancel _ (by grind),Rat.mul_one]
 rw[e,Rat.den_mkRat,if_neg (by omega)]
 exact Nat.div_le_self _ _
theorem qv (d:Int) {n:Int} {D:Nat} (hn:n≠0) (hD:0<D):Dv (bv ((d:Int):Rat) ((((D:Nat):Int):Rat)/((n:Int):Rat))) D:=by
 have e:bv ((d:Int):Rat) ((((D:Nat):Int):Rat)/((n:Int):Rat))=((n:Int):Rat)/(((D:Nat):Int):Rat)*((d+714403429586:Int):Rat):=by
  have hn':((n:Int):Rat)≠0:=fun h=>hn (Rat.intCast_inj.1 (by rw[h];rfl))
  have hD':(((D:Nat):Int):Rat)≠0:=fun h=>by
   have:((D:Nat):Int)=0:=Rat.intCast_inj.1 (by rw[h];rfl)
   omega
  unfold bv cre
  rw[Rat.intCast_add,show((-714403429586:Int):Rat)= -714403429586 from rfl,show((714403429586:Int):Rat)=714403429586 from rfl]
  generalize ((n:Int):Rat)=x at*
  generalize (((D:Nat):Int):Rat)=y at*
  rw[Rat.div_def,Rat.div_def,Rat.div_def,Rat.inv_mul_rev,Rat.inv_inv]
  grind
 rw[e]
 exact(Dv.frc n hD).mulI _
theorem CG {t p:Rat} {D:Nat} (hp:0<p) (h:Dv (bv t p) D):Dv (mof t p) D:=by
 rw[sM hp];exact h.mfr.mulI _
theorem J7 {t p:Rat} {D:Nat} (hp:0<p) (h:Dv (bv t p) D):Dv (sof (mof t p)) (D*3438):=by
 rw[←l8,s6]
 have e:mof t p/wd=mfr (bv t p)*((96:Int):Rat):=by
  rw[sM hp,eG,show((96:Int):Rat)=96 from rfl,fb];grind
 have m:Dv (mfr (mof t p/wd)) D:=by rw[e];exact(h.mfr.mulI _).mfr
 rw[Rat.div_def]
 have i:Dv (((3438:Int):Rat))⁻¹ 3438:=⟨1,by decide+kernel⟩
 refine Dv.mul ?_ i
 rw[Rat.add_comm]
 exact(m.mulI _).addI _
theorem Ld {a s c:Rat} {D E F:Nat} (h:Dv a D) (hs:Dv s E) (hc:Dv c F):Dv (epi a s c) (D*(D*F*E)):=by
 unfold epi
 refine h.mul (Dv.sub ?_ ((h.abs.mul hc).mul hs))
 exact(hs.up (D*F)).cast rfl (Nat.mul_comm _ _)
theorem LL {x:Rat} {D:Nat} (h:Dv x D) (h0: -449≤x*3438) (h1:x*3438≤449):Dv (bK x) (D*224*225*4):=by
 have g:Dv (x*3438) D:=h.mulI 3438
 have i4:Dv wd 4:=⟨15,by decide+kernel⟩
 have i224:Dv (((1:Int):Rat)/((224:Int):Rat)) 224:=Dv.frc 1 (by decide)
 have i225:Dv (((1:Int):Rat)/((225:Int):Rat)) 225:=Dv.frc 1 (by decide)
 unfold bK
 rw[eM]
 refine Dv.mul ?_ i4
 rcases zK h0 h1 with⟨_,e⟩|⟨_,_,e⟩|⟨_,e⟩ <;> rw[e]
 ·refine Dv.up (((((g.addI 225).mul i224).addI (-1)).cast ?_ rfl)) 225
  rw[show((225:Int):Rat)=225 from rfl,show((1:Int):Rat)/((224:Int):Rat)=1/224 by decide+kernel,show((-1:Int):Rat)= -1 from rfl];grind
 ·refine((g.mul i225).up 224).cast ?_ (by rw[Nat.mul_right_comm])
  rw[show((1:Int):Rat)/((225:Int):Rat)=1/225 by decide+kernel];grind
 ·refine Dv.up (((((g.addI (-225)).mul i224).addI 1).cast ?_ rfl)) 225
  rw[show((-225:Int):Rat)= -225 from rfl,show((1:Int):Rat)/((224:Int):Rat)=1/224 by decide+kernel,show((1:Int):Rat)=1 from rfl];grind
theorem K0 {t an s c:Rat} {D E F:Nat} (ha:0<an) (h:Dv (bv t an) D) (hs:Dv s E) (hc:Dv c F) (s0:0≤s) (s1:s*3438≤449) (c0:0≤c) (c1:2*c≤1):Dv (eqv t an s c) (D*3438*(D*3438*F*E)*224*225*4):=by
 have b:=fY (mof t an)
 have e:=nO (s:=s) (c:=c) b.1 b.2 s0 c0 c1
 have cs:=Rat.mul_nonneg s0 c0
 exact LL (Ld (J7 ha h) hs hc) (by grind) (by grind)
def DS:Nat:=1577917828000*3438*(1577917828000*3438*42*180)*224*225*4
theorem Mi (d:Int):Dv (dz ((d:Int):Rat)) DS:=by
 have m:=CG iS (qv d (n:=4320000000) (D:=1577917828000) (by decide) (by decide))
 have e:=K0 (s:=ssz) (c:=sch) (E:=180) (F:=42) jo (qv d (n:=4319999613) (D:=1577917828000) (by decide) (by decide)) ⟨7,by decide+kernel⟩ ⟨1,by decide+kernel⟩ (by decide+kernel) (by decide+kernel) (by decide+kernel) (by decide+kernel)
 exact((((m.up (3438*(1577917828000*3438*42*180)*224*225*4)).cast rfl (by decide+kernel)).sub e).rmod)
theorem Dv.self (q:Rat):Dv q q.den:=⟨q.num,by
 have dp:=Rat.natCast_pos.2 q.den_pos
 have h1:q=(q.num:Rat)/(q.den:Rat):=by rw[←Rat.mkRat_eq_div,Rat.mkRat_self]
 have:q*(q.den:Rat)=(q.num:Rat)/(q.den:Rat)*(q.den:Rat):=by rw[←h1]
 rw[this,Rat.div_mul_cancel (by grind)]⟩
theorem IE {p:Rat} {m D:Nat} (h0: -((m:Nat):Rat)≤p) (h1:p≤((m:Nat):Rat)) (hd:p.den≤D):p.num.natAbs≤m*D:=by
 have dp:=Rat.natCast_pos.2 p.den_pos
 have e:(p.num:Rat)=p*(p.den:Rat):=by
  have h1:p=(p.num:Rat)/(p.den:Rat):=by rw[←Rat.mkRat_eq_div,Rat.mkRat_self]
  have:p*(p.den:Rat)=(p.num:Rat)/(p.den:Rat)*(p.den:Rat):=by rw[←h1]
  rw[this,Rat.div_mul_cancel (by grind)]
 have m1:=Rat.mul_le_mul_of_nonneg_right (c:=(p.den:Rat)) h1 (by grind)
 have m0:=Rat.mul_le_mul_of_nonneg_right (c:=(p.den:Rat)) h0 (by grind)
 rw[←e] at m1 m0
 have a1:p.num≤((m*p.den:Nat):Int):=Rat.intCast_le_intCast.1 (by rw[Rat.intCast_natCast,Rat.natCast_mul];exact m1)
 have a0: -((m*p.den:Nat):Int)≤p.num:=Rat.intCast_le_intCast.1 (by rw[Rat.intCast_neg,Rat.intCast_natCast,Rat.natCast_mul];grind)
 have:=Nat.mul_le_mul_left m hd
 omega
theorem pG {p:Rat} {m D k:Nat} (hv:Dv p D) (hD:0<D) (h0: -((m:Nat):Rat)≤p) (h1:p≤((m:Nat):Rat)) (hm:0<m) (hk:m*D<B32^k):ah p k:=by
 have hd:=hv.den hD
 have hn:=IE h0 h1 hd
 refine⟨show _<_ from Nat.lt_of_le_of_lt hn hk,show _<_ from Nat.lt_of_le_of_lt (Nat.le_trans hd (Nat.le_mul_of_pos_left D hm)) hk⟩
theorem Cw {d c k:Nat} (h:d<B32^k) (hc:c≤4294967296) (h0:0<c):c*d<B32^(k+1):=by
 rw[Nat.pow_succ,Nat.mul_comm (B32^k)]
 exact Nat.lt_of_lt_of_le (Nat.mul_lt_mul_of_pos_left h h0) (Nat.mul_le_mul_right _ hc)
theorem jB {x:Rat} {k:Nat} (h:ah x k):ah (sof x) (k+1):=by
 have b:=fY x
 have m:Dv (mfr (x/wd)) (x.den*15):=by
  refine Dv.mfr ?_
  have i:Dv (((4:Int):Rat)/((15:Int):Rat)) 15:=Dv.frc 4 (by decide)
  refine((Dv.self x).mul i).cast ?_ rfl
  rw[eG,show((4:Int):Rat)/((15:Int):Rat)=4/15 by decide+kernel];grind
 have i:Dv (((3438:Int):Rat))⁻¹ 3438:=⟨1,by decide+kernel⟩
 have v:Dv (sof x) (x.den*15*3438):=by
  rw[←l8,s6,Rat.div_def]
  refine Dv.mul ?_ i
  rw[Rat.add_comm]
  exact(m.mulI _).addI _
 have dp:=x.den_pos
 refine pG (m:=1) v (by omega) b.1 b.2 (by decide) ?_
 have:=Cw (c:=51570) (show x.den<B32^k from h.2) (by decide) (by decide)
 rw[show 1*(x.den*15*3438)=51570*x.den by omega]
 exact this
theorem GK {h:Rat} {D:Nat} (v:Dv h D):∃e:Nat,0<e∧e≤225∧Dv (ay h) (D*e):=by
 by_cases c:yk h<24
 ·have up:=pN (k:=((yk h:Nat):Int)) (by omega) (by omega)
  have st:=ic ((yk h:Nat):Int)
  refine⟨(spk (((yk h:Nat):Int)+1)-spk ((yk h:Nat):Int)).toNat,by omega,by omega,?_⟩
  have ee:(((spk (((yk h:Nat):Int)+1)-spk ((yk h:Nat):Int)).toNat :Nat):Int)=spk (((yk h:Nat):Int)+1)-spk ((yk h:Nat):Int):=by omega
  unfold ay
  rw[if_pos c]
  have i:=Dv.frc 1 (D:=(spk (((yk h:Nat):Int)+1)-spk ((yk h:Nat):Int)).toNat) (by omega)
  rw[ee] at i
  refine Dv.addI _ (((v.addI (-spk ((yk h:Nat):Int))).mul i).cast ?_ rfl)
  rw[Rat.intCast_neg,Rat.intCast_one,Rat.div_def,Rat.div_def];grind
 ·refine⟨1,by decide,by decide,?_⟩
  unfold ay
  rw[if_neg c]
  exact((Dv.int 24).up D).cast rfl (by omega)
theorem tt {y:Rat} {k:Nat} (h:ah y k) (h0: -1≤y) (h1:y≤1):ah (bK y) (k+1):=by
 have b:=zu h0 h1
 have v:Dv (y*((3438:Int):Rat)) y.den:=(Dv.self y).mulI _
 have w4:Dv wd 4:=⟨15,by decide+kernel⟩
 obtain⟨e,e0,e1,q⟩:∃e:Nat,0<e∧e≤225∧Dv (ap (y*((3438:Int):Rat))) (y.den*e):=by
  unfold ap
  split
  ·obtain⟨e,e0,e1,q⟩:=GK v.neg
   exact⟨e,e0,e1,q.neg⟩
  ·exact GK v
 have r:Dv (bK y) (y.den*e*4):=q.mul w4
 have dp:=y.den_pos
 refine pG (m:=90) r (Nat.mul_pos (Nat.mul_pos dp e0) (by decide)) ?_ ?_ (by decide) ?_
 ·have:=b.1;rw[show((-90:Int):Rat)= -90 from rfl] at this;exact this
 ·exact b.2
 ·have:=Cw (c:=81000) (show y.den<B32^k from h.2) (by decide) (by decide)
  have m:=Nat.mul_le_mul_left y.den e1
  rw[show 90*(y.den*e*4)=360*(y.den*e) by omega]
  omega
theorem lW {n:Int} (h:n.natAbs<4294967296):ah ((n:Int):Rat) 1:=aW (show n.natAbs<B32^1 from by rw[Nat.pow_one];exact h) (by decide)
theorem dI {n d:Int} (h:n.natAbs<4294967296) (g:d.natAbs<4294967296):ah (((n:Int):Rat)/((d:Int):Rat)) 1:=(aK (a:=1) (b:=1) (show n.natAbs<B32^1 from by rw[Nat.pow_one];exact h) (show d.natAbs<B32^1 from by rw[Nat.pow_one];exact g)).up 1 (by decide)
theorem JJ (d:Int):Dv (fP ((d:Int):Rat)) 6311671312:=by
 have y:Dv (ji ((d:Int):Rat)) 6311671312:=⟨(d+1132959)*2400-1577917828,by
  unfold ji kli
  rw[Rat.intCast_sub,Rat.intCast_mul,Rat.intCast_add]
  rw[show((600:Int):Rat)/((1577917828:Int):Rat)=600/1577917828 by decide+kernel,show((1:Int):Rat)/((4:Int):Rat)=1/4 by decide+kernel,show((-1132959:Int):Rat)= -1132959 from rfl,show((1132959:Int):Rat)=1132959 from rfl,show((2400:Int):Rat)=2400 from rfl,show((1577917828:Int):Rat)=1577917828 from rfl,show((6311671312:Nat):Rat)=6311671312 from rfl]
  grind⟩
 have x:Dv (Ab ((d:Int):Rat)) 6311671312:=by
  unfold Ab
  rw[pI.1,pI.2]
  obtain⟨n,e⟩:∃n:Int,dC (ji ((d:Int):Rat)) (-1/2) (1/2)=ji ((d:Int):Rat)+((n:Int):Rat):=by
   refine⟨-((ji ((d:Int):Rat)- -1/2)/(1/2- -1/2)).floor,?_⟩
   unfold dC
   rw[if_neg (by grind)]
   unfold rmod
   rw[if_neg (by grind),Rat.intCast_neg]
   grind
  rw[e];exact y.addI n
 unfold fP
 have a:=(x.abs.mulI 108).neg.addI 27
 exact a.cast (by grind) rfl
theorem CE (d:Int):ah (cg ((d:Int):Rat)) 6:=by
 have s:=(Mi d).up 6311671312
 have p:=((JJ d).up DS).cast rfl (Nat.mul_comm _ _)
 have v:Dv (cg ((d:Int):Rat)) (DS*6311671312):=(s.sub p).rmod
 have l:(0:Rat)≤cg ((d:Int):Rat):=dE bC
 have u:cg ((d:Int):Rat)<((360:Int):Rat):=cZ bC
 rw[fb] at u
 exact pG (m:=360) v (by decide+kernel) (by rw[show((360:Nat):Rat)=360 from rfl];grind) (by rw[show((360:Nat):Rat)=360 from rfl];grind) (by decide) (by decide+kernel)
theorem CO (d:Int) {lat:Rat} (hl:ah lat 1) (h0: -60≤lat) (h1:lat≤60):ah (fO ((d:Int):Rat) lat) 27:=by
 have a:=jB (CE d)
 have hb:=pp ((d:Int):Rat)
 have h:ah (hV ((d:Int):Rat)) 8:=(bf (dI (n:=1397) (d:=3438) (by decide) (by decide)) a).up _ (by omega)
 have hb':=hb
 rw[kG] at hb'
 have n90:ah ((90:Int):Rat) 1:=lW (by decide)
 have c:ah (dZ (hV ((d:Int):Rat))) 12:=(jB (bL (tt h (by grind) (by grind)) n90)).up _ (by omega)
 have e:ah (eV ((d:Int):Rat) lat) 14:=(dF (bf h (jB hl)) (jB (bL hl n90))).up _ (by omega)
 have q:=ro ((d:Int):Rat) h0 h1
 have l:ah (quo ((d:Int):Rat) lat) 26:=(dF e c).up _ (by omega)
 have r:=tt (y:= -(quo ((d:Int):Rat) lat)) (fK l) (by grind) (by grind)
 exact r
theorem wH (d:Int):ah (mof ((d:Int):Rat) pay) 2:=by
 have v:=CG jo (qv d (n:=4319999613) (D:=1577917828000) (by decide) (by decide))
 have l:=Ix ((d:Int):Rat) pay
 have u:=E4 ((d:Int):Rat) pay
 rw[fb] at u
 exact pG (m:=360) v (by decide) (by rw[show((360:Nat):Rat)=360 from rfl];grind) (by rw[show((360:Nat):Rat)=360 from rfl];grind) (by decide) (by decide+kernel)
theorem tm (d:Int):ah (lS ((d:Int):Rat)) 6:=(cA (dI (n:=14) (d:=360) (by decide) (by decide)) (bf (gp (jB (wH d))) (dI (n:=1) (d:=1080) (by decide) (by decide)))).up _ (by omega)
theorem tK:ah (((360:Int):Rat)/pyr) 1:=by
 refine⟨?_,?_⟩
 ·show _<_;decide+kernel
 ·show _<_;decide+kernel
theorem wY:ah pyr 1:=by
 refine⟨?_,?_⟩
 ·show _<_;decide+kernel
 ·show _<_;decide+kernel
theorem uR (d:Int):ah (eR ((d:Int):Rat)) 10:=by
 have s:=ic (pk (mof ((d:Int):Rat) pay))
 have st:ah (((k6 (mof ((d:Int):Rat) pay):Int):Rat)/((225:Int):Rat)) 1:=dI (by unfold k6;omega) (by decide)
 exact(bf tK (cA (lW (n:=1) (by decide)) (bf st (tm d)))).up _ (by omega)
theorem Du (t:Rat):ah (gO t) 1:=dI (by unfold gN;split <;> (try split) <;> decide) (by decide)
theorem Fx (d:Int):ah (gM ((d:Int):Rat)) 24:=by
 have o:ah (((1:Int):Rat)/((360:Int):Rat)) 1:=dI (by decide) (by decide)
 exact(bf (bf (bf (uR d) o) (bf (bf (bf (jB (wH d)) (dI (n:=573) (d:=10) (by decide) (by decide))) (tm d)) o)) wY).up _ (by omega)
theorem tr {d:Int} {lat lon:Rat} {qd sg:Int} (hd:d.natAbs<4294967296) (hl:ah lat 1) (hn:ah lon 1) (h0: -60≤lat) (h1:lat≤60) (hq:qd.natAbs<10) (hs:sg.natAbs<10):ah (co ((d:Int):Rat) lat lon qd sg) 90:=by
 have o:ah (((1:Int):Rat)/((360:Int):Rat)) 1:=dI (by decide) (by decide)
 have q:ah (((qd:Int):Rat)/((4:Int):Rat)) 1:=dI (by omega) (by decide)
 have ea:ah (kl lon) 4:=(bf (cA (dI (n:=45461) (d:=600) (by decide) (by decide)) hn) o).up _ (by omega)
 have ka:ah kap 2:=(bf (dI (n:=1577917828) (d:=1582237828) (by decide) (by decide)) o).up _ (by omega)
 have si:=bL (bf (bf (uR d) (Du ((d:Int):Rat))) q) (bf (lW (n:=sg) (by omega)) (CO d hl h0 h1))
 exact(bL (bL (bL (lW hd) q) (cA ea (Fx d))) (bf si ka)).up _ (by omega)
theorem tM {x:Rat} {k:Nat} (h:ah x k):ah (bX x) (k+10):=by
 have a:=bf h (bP (n:=1048576) (by decide) (by decide))
 have f:=aW (fW a) (by omega)
 exact(bf f (dI (n:=1) (d:=1048576) (by decide) (by decide))).up _ (by omega)
theorem qT {t:Rat} {k:Nat} (h:ah t k):ah (fP t) (2*k+60):=by
 have y:ah (ji t) (k+6):=(cA (bf (cA h (lW (n:= -1132959) (by decide))) (dI (n:=600) (d:=1577917828) (by decide) (by decide))) (dI (n:=1) (d:=4) (by decide) (by decide))).up _ (by omega)
 have x:=nP y (dI (n:= -1) (d:=2) (by decide) (by decide)) (dI (n:=1) (d:=2) (by decide) (by decide))
 exact(cA (lW (n:=27) (by decide)) (bf (lW (n:=108) (by decide)) (gp x))).up _ (by omega)
theorem mV {t:Rat} {k:Nat} (h:ah t k):ah (cg t) (5*k+180):=(fG (cA (hO h) (qT h))).up _ (by omega)
def AL (a:Rat):Rat:=((14:Int):Rat)/((360:Int):Rat)-a.abs*(((1:Int):Rat)/((1080:Int):Rat))
def s5 (x:Rat):Rat:=((360:Int):Rat)/pyr*(((1:Int):Rat)-((k6 x:Int):Rat)/((225:Int):Rat)*AL (sof x))
def vZ (x:Rat):Rat:=s5 x*(((1:Int):Rat)/((360:Int):Rat))*(sof x*(((573:Int):Rat)/((10:Int):Rat))*AL (sof x)*(((1:Int):Rat)/((360:Int):Rat)))*pyr
def vv (x:Rat):Rat:=((gN (prt x 12):Int):Rat)/((1800:Int):Rat)
def hQ (x:Rat):Rat:=obl*sof x
def nf (x lat:Rat):Rat:=bK (-(hQ x*sof lat/sof (lat+((90:Int):Rat))/dZ (hQ x)))
theorem BV {x:Rat} {k:Nat} (h:ah x k):ah (hQ x) (k+13):=(bf (dI (n:=1397) (d:=3438) (by decide) (by decide)) (fc h)).up _ (by omega)
theorem tD {x lat:Rat} {k j:Nat} (h:ah x k) (hl:ah lat j) (hj:j≤2):ah (nf x lat) (2*k+140):=by
 have n90:ah ((90:Int):Rat) 1:=lW (by decide)
 have c:ah (dZ (hQ x)) (k+50):=(fc (bL (kO (BV h)) n90)).up _ (by omega)
 have e:=dF (bf (BV h) (fc hl)) (fc (bL hl n90))
 exact(kO (fK (dF e c))).up _ (by omega)
theorem nc {a:Rat} {k:Nat} (h:ah a k):ah (AL a) (k+3):=(cA (dI (n:=14) (d:=360) (by decide) (by decide)) (bf (gp h) (dI (n:=1) (d:=1080) (by decide) (by decide)))).up _ (by omega)
theorem nH {x:Rat} {k:Nat} (h:ah x k):ah (s5 x) (k+40):=by
 have s:=ic (pk x)
 have st:ah (((k6 x:Int):Rat)/((225:Int):Rat)) 1:=dI (by unfold k6;omega) (by decide)
 exact(bf tK (cA (lW (n:=1) (by decide)) (bf st (nc (fc h))))).up _ (by omega)
theorem vk {x:Rat} {k:Nat} (h:ah x k):ah (vZ x) (3*k+100):=by
 have o:ah (((1:Int):Rat)/((360:Int):Rat)) 1:=dI (by decide) (by decide)
 exact(bf (bf (bf (nH h) o) (bf (bf (bf (fc h) (dI (n:=573) (d:=10) (by decide) (by decide))) (nc (fc h))) o)) wY).up _ (by omega)
theorem vI (x:Rat):ah (vv x) 1:=dI (by unfold gN;split <;> (try split) <;> decide) (by decide)
theorem yu {t:Rat} {k:Nat} (h:ah t k):ah (eR t) (k+50):=(nH (jw h jq)).up _ (by omega)
theorem II {t:Rat} {k:Nat} (h:ah t k):ah (gM t) (3*k+130):=(vk (jw h jq)).up _ (by omega)
theorem DD {t lat:Rat} {k j:Nat} (h:ah t k) (hl:ah lat j) (hj:j≤2):ah (fO t lat) (10*k+520):=(tD (mV h) hl hj).up _ (by omega)
theorem Ln {x:Rat} (h0:0≤x) (h1:x<((360:Int):Rat)):gX (Rat.floor (x*(((1:Int):Rat)/((30:Int):Rat))))=prt x 12∧ib (Rat.floor (x*(((1:Int):Rat)/((30:Int):Rat))))=true:=by
 have e:Rat.floor (x*(((1:Int):Rat)/((30:Int):Rat)))=prt x 12:=by
  unfold prt
  rw[show((1:Int):Rat)/((30:Int):Rat)=((12:Int):Rat)/((360:Int):Rat) by decide+kernel]
 have b:=gW (x:=x) (n:=12) (by omega) h0 h1
 rw[e]
 exact⟨lj (by omega) (by omega),kv (by omega) (by omega)⟩
theorem Ij {k:Int}:([1670,1795,1935,1935,1795,1670].map fun z=>Value.int .i64 z)[(k%6).toNat]?=some (.int .i64 (gN k)):=by
 have h:k%6=0∨k%6=1∨k%6=2∨k%6=3∨k%6=4∨k%6=5:=by omega
 unfold gN
 rcases h with h|h|h|h|h|h <;> rw[h] <;> rfl
theorem pF (k:Int):1670≤gN k∧gN k≤1935:=by unfold gN;split <;> (try split) <;> omega
theorem cf.ll {a b c d:Int} (h:cf a b c d):ah (((a:Int):Rat)/((b:Int):Rat)) 1:=dI (by have:=h.b0;have:=h.b1;have:=h.a0;have:=h.a1;omega) (by have:=h.b0;have:=h.b1;omega)
theorem cf.lm {a b c d:Int} (h:cf a b c d):ah (((c:Int):Rat)/((d:Int):Rat)) 1:=dI (by have:=h.d0;have:=h.d1;have:=h.c0;have:=h.c1;omega) (by have:=h.d0;have:=h.d1;omega)
def dN (n a b c d:Int):Rat:=co ((n:Int):Rat) (((a:Int):Rat)/((b:Int):Rat)) (((c:Int):Rat)/((d:Int):Rat)) 1 1
def jl (n a b c d:Int):Rat:=co ((n:Int):Rat) (((a:Int):Rat)/((b:Int):Rat)) (((c:Int):Rat)/((d:Int):Rat)) 3 (-1)
theorem tj {n a b c d:Int} (h:cf a b c d) (h0: -4000000≤n) (h1:n≤4000000):ah (dN n a b c d) 90:=tr (by omega) h.ll h.lm h.la.1 h.la.2 (by decide) (by decide)
theorem y7 {n a b c d:Int} (h:cf a b c d) (h0: -4000000≤n) (h1:n≤4000000):ah (jl n a b c d) 90:=tr (by omega) h.ll h.lm h.la.1 h.la.2 (by decide) (by decide)
theorem B0 {m q dg sg:Rat} (m0:87/100≤m) (m1:m≤111/100) (d0: -53≤dg) (d1:dg≤53) (hq:q=1/4∨q=3/4) (hs:sg=1∨sg= -1): -1≤(m*q+sg*dg)*kap∧(m*q+sg*dg)*kap≤1:=by
 have k:=nT
 have y: -55≤m*q+sg*dg∧m*q+sg*dg≤55:=by
  rcases hq with rfl|rfl <;> rcases hs with rfl|rfl <;> constructor <;> grind
 have b:=fE (a:=55) (b:=1/100) (x:=m*q+sg*dg) (y:=kap) (by grind) (by grind) y.1 y.2 (by grind) (by grind)
 constructor <;> grind
theorem vd {n a b c d:Int} (h:cf a b c d):((n:Int):Rat)-3≤dN n a b c d∧dN n a b c d≤((n:Int):Rat)+3:=by
 have s:=il ((n:Int):Rat)
 have f:=mI ((n:Int):Rat) h.la.1 h.la.2
 have e:=nN ((n:Int):Rat)
 have l:=h.lo
 have k:=B0 (q:=((1:Int):Rat)/((4:Int):Rat)) (sg:=((1:Int):Rat)) s.1 s.2 f.1 f.2 (.inl (by decide+kernel)) (.inl rfl)
 unfold dN co kl
 rw[show((45461:Int):Rat)/((600:Int):Rat)=45461/600 by decide+kernel,show((1:Int):Rat)/((360:Int):Rat)=1/360 by decide+kernel]
 have q:((1:Int):Rat)/((4:Int):Rat)=1/4:=by decide+kernel
 rw[q] at k ⊢
 constructor <;> grind
theorem vK {n a b c d:Int} (h:cf a b c d):((n:Int):Rat)-3≤jl n a b c d∧jl n a b c d≤((n:Int):Rat)+3:=by
 have s:=il ((n:Int):Rat)
 have f:=mI ((n:Int):Rat) h.la.1 h.la.2
 have e:=nN ((n:Int):Rat)
 have l:=h.lo
 have k:=B0 (q:=((3:Int):Rat)/((4:Int):Rat)) (sg:=((-1:Int):Rat)) s.1 s.2 f.1 f.2 (.inr (by decide+kernel)) (.inr rfl)
 unfold jl co kl
 rw[show((45461:Int):Rat)/((600:Int):Rat)=45461/600 by decide+kernel,show((1:Int):Rat)/((360:Int):Rat)=1/360 by decide+kernel]
 have q:((3:Int):Rat)/((4:Int):Rat)=3/4:=by decide+kernel
 rw[q] at k ⊢
 constructor <;> grind
theorem nb {x:Rat} {n:Int} (h0: -4000000≤n) (h1:n≤4000000) (a:((n:Int):Rat)-3≤x) (b:x≤((n:Int):Rat)+3):ah (bX x) 3:=by
 have c0:=cE h0
 have c1:=cE h1
 rw[show((-4000000:Int):Rat)= -4000000 from rfl] at c0
 rw[show((4000000:Int):Rat)=4000000 from rfl] at c1
 have e:((1048576:Int):Rat)=1048576:=rfl
 have f0: -5000000000000≤(x*((1048576:Int):Rat)).floor :=Rat.le_floor_iff.2 (by rw[e,show((-5000000000000:Int):Rat)= -5000000000000 from rfl];grind)
 have f1:(x*((1048576:Int):Rat)).floor <5000000000000:=Rat.floor_lt_iff.2 (by rw[e,show((5000000000000:Int):Rat)=5000000000000 from rfl];grind)
 exact(bf (bP (n:=(x*((1048576:Int):Rat)).floor) (by omega) (by omega)) (dI (n:=1) (d:=1048576) (by decide) (by decide))).up _ (by omega)
theorem gj {n a b c d:Int} (h:cf a b c d) (h0: -4000000≤n) (h1:n≤4000000):ah (bX (dN n a b c d)) 3:=nb h0 h1 (vd h).1 (vd h).2
theorem nD {n a b c d:Int} (h:cf a b c d) (h0: -4000000≤n) (h1:n≤4000000):ah (bX (jl n a b c d)) 3:=nb h0 h1 (vK h).1 (vK h).2
theorem Es (x lat:Rat):bK (-(sof x*(((1397:Int):Rat)/((3438:Int):Rat))*sof lat/sof (lat+((90:Int):Rat)))/sof (bK (sof x*(((1397:Int):Rat)/((3438:Int):Rat)))+((90:Int):Rat)))=nf x lat:=by
 unfold nf dZ hQ obl
 rw[Rat.mul_comm (sof x),Rat.div_def (-_),Rat.neg_mul,←Rat.div_def]
theorem FC (t lat lon:Rat) (qd sg:Int) (z:Rat) (hz:z=((1577917828:Int):Rat)/((1582237828:Int):Rat)*(((1:Int):Rat)/((360:Int):Rat))*(((qd:Int):Rat)/((4:Int):Rat)*eR t*gO t+fO t lat*((sg:Int):Rat))):
 t+((qd:Int):Rat)/((4:Int):Rat)+(((45461:Int):Rat)/((600:Int):Rat)-lon)*(((1:Int):Rat)/((360:Int):Rat))+ -(gM t)+z=co t lat lon qd sg:=by
 subst hz
 unfold co kl kap
 grind
end Go.Proofs.YtdbiegfmgabicaaGreatDoor
