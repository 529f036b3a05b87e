import Derived.Test.YtnljadejcfgmaaaGreatDoorKB28
import Derived.Test.YtnljadejcfgmaaaGreatDoorKB34
namespace Go.Proofs.YtnljadejcfgmaaaGreatDoor
open Go.RowKit
set_option maxRecDepth 100000
set_option linter.unusedVariables false
set_option maxHeartbeats 8000000
def Dv (q:Rat) (D:Nat):Prop:=∃n:Int,q*((D:Nat):Rat)=((n:Int):Rat)
theorem Dv.int (n:Int):Dv ((n:Int):Rat) 1:=⟨n,by rw[show((1:Nat):Rat)=1 from rfl];grind⟩
theorem Dv.frc (n:Int) {D:Nat} (h:0<D):Dv (((n:Int):Rat)/(((D:Nat):Int):Rat)) D:=⟨n,by
 rw[Rat.intCast_natCast]
 exact Rat.div_mul_cancel (by have:=Rat.natCast_pos.2 h;grind)⟩
theorem Dv.add {p q:Rat} {D:Nat} (h:Dv p D) (g:Dv q D):Dv (p+q) D:=by
 obtain⟨n,h⟩:=h
 obtain⟨m,g⟩:=g
 exact⟨n+m,by rw[Rat.intCast_add];grind⟩
theorem Dv.neg {p:Rat} {D:Nat} (h:Dv p D):Dv (-p) D:=by
 obtain⟨n,h⟩:=h
 exact⟨-n,by rw[Rat.intCast_neg];grind⟩
theorem Dv.sub {p q:Rat} {D:Nat} (h:Dv p D) (g:Dv q D):Dv (p-q) D:=by rw[Rat.sub_eq_add_neg];exact h.add g.neg
theorem Dv.abs {p:Rat} {D:Nat} (h:Dv p D):Dv p.abs D:=by
 unfold Rat.abs
 split
 ·exact h
 ·exact h.neg
theorem Dv.mul {p q:Rat} {D E:Nat} (h:Dv p D) (g:Dv q E):Dv (p*q) (D*E):=by
 obtain⟨n,h⟩:=h
 obtain⟨m,g⟩:=g
 exact⟨n*m,by rw[Rat.intCast_mul,Rat.natCast_mul];grind⟩
theorem Dv.mulI {p:Rat} {D:Nat} (n:Int) (h:Dv p D):Dv (p*((n:Int):Rat)) D:=by
 have:=h.mul (Dv.int n)
 rwa[Nat.mul_one] at this
theorem Dv.up {p:Rat} {D:Nat} (h:Dv p D) (E:Nat):Dv p (D*E):=by
 obtain⟨n,h⟩:=h
 exact⟨n*(E:Int),by rw[Rat.intCast_mul,Rat.natCast_mul,Rat.intCast_natCast];grind⟩
theorem Dv.cast {p q:Rat} {D E:Nat} (h:Dv p D) (e:p=q) (f:D=E):Dv q E:=by subst e;subst f;exact h
theorem Dv.addI {p:Rat} {D:Nat} (n:Int) (h:Dv p D):Dv (p+((n:Int):Rat)) D:=h.add (((Dv.int n).up D).cast rfl (Nat.one_mul D))
theorem Dv.mfr {p:Rat} {D:Nat} (h:Dv p D):Dv (mfr p) D:=by rw[sR];exact h.addI _
theorem Dv.rmod {p:Rat} {D:Nat} (h:Dv p D):Dv (rmod p ((360:Int):Rat)) D:=by
 rw[gO bE,←Rat.intCast_mul];exact h.addI _
theorem Dv.den {p:Rat} {D:Nat} (h:Dv p D) (hD:0<D):p.den≤D:=by
 obtain⟨n,h⟩:=h
 have hd:=Rat.natCast_pos.2 hD
 have e:p=mkRat n D:=by
  rw[Rat.mkRat_eq_div,←h,Rat.div_def,Rat.mul_assoc,Rat.mul_inv_cancel _ (by grind),Rat.mul_one]
 rw[e,Rat.den_mkRat,if_neg (by omega)]
 exact Nat.div_le_self _ _
theorem oQ (d:Int) {n:Int} {D:Nat} (hn:n≠0) (hD:0<D):Dv (bn ((d:Int):Rat) ((((D:Nat):Int):Rat)/((n:Int):Rat))) D:=by
 have e:bn ((d:Int):Rat) ((((D:Nat):Int):Rat)/((n:Int):Rat))=((n:Int):Rat)/(((D:Nat):Int):Rat)*((d+714403429586:Int):Rat):=by
  have hn':((n:Int):Rat)≠0:=fun h=>hn (Rat.intCast_inj.1 (by rw[h];rfl))
  have hD':(((D:Nat):Int):Rat)≠0:=fun h=>by
   have:((D:Nat):Int)=0:=Rat.intCast_inj.1 (by rw[h];rfl)
   omega
  unfold bn cre
  rw[Rat.intCast_add,show((-714403429586:Int):Rat)= -714403429586 from rfl,show((714403429586:Int):Rat)=714403429586 from rfl]
  generalize ((n:Int):Rat)=x at*
  generalize (((D:Nat):Int):Rat)=y at*
  rw[Rat.div_def,Rat.div_def,Rat.div_def,Rat.inv_mul_rev,Rat.inv_inv]
  grind
 rw[e]
 exact(Dv.frc n hD).mulI _
theorem zD {t p:Rat} {D:Nat} (hp:0<p) (h:Dv (bn t p) D):Dv (mof t p) D:=by
 rw[pQ hp];exact h.mfr.mulI _
theorem Fx {t p:Rat} {D:Nat} (hp:0<p) (h:Dv (bn t p) D):Dv (sof (mof t p)) (D*3438):=by
 rw[←ls,qf]
 have e:mof t p/wd=mfr (bn t p)*((96:Int):Rat):=by
  rw[pQ hp,dQ,show((96:Int):Rat)=96 from rfl,lN];grind
 have m:Dv (mfr (mof t p/wd)) D:=by rw[e];exact(h.mfr.mulI _).mfr
 rw[Rat.div_def]
 have i:Dv (((3438:Int):Rat))⁻¹ 3438:=⟨1,by decide+kernel⟩
 refine Dv.mul ?_ i
 rw[Rat.add_comm]
 exact(m.mulI _).addI _
theorem Fc {a s c:Rat} {D E F:Nat} (h:Dv a D) (hs:Dv s E) (hc:Dv c F):Dv (epi a s c) (D*(D*F*E)):=by
 unfold epi
 refine h.mul (Dv.sub ?_ ((h.abs.mul hc).mul hs))
 exact(hs.up (D*F)).cast rfl (Nat.mul_comm _ _)
theorem F7 {x:Rat} {D:Nat} (h:Dv x D) (h0: -449≤x*3438) (h1:x*3438≤449):Dv (br x) (D*224*225*4):=by
 have g:Dv (x*3438) D:=h.mulI 3438
 have i4:Dv wd 4:=⟨15,by decide+kernel⟩
 have i224:Dv (((1:Int):Rat)/((224:Int):Rat)) 224:=Dv.frc 1 (by decide)
 have i225:Dv (((1:Int):Rat)/((225:Int):Rat)) 225:=Dv.frc 1 (by decide)
 unfold br
 rw[ed]
 refine Dv.mul ?_ i4
 rcases xD h0 h1 with⟨_,e⟩|⟨_,_,e⟩|⟨_,e⟩ <;> rw[e]
 ·refine Dv.up (((((g.addI 225).mul i224).addI (-1)).cast ?_ rfl)) 225
  rw[show((225:Int):Rat)=225 from rfl,show((1:Int):Rat)/((224:Int):Rat)=1/224 by decide+kernel,show((-1:Int):Rat)= -1 from rfl];grind
 ·refine((g.mul i225).up 224).cast ?_ (by rw[Nat.mul_right_comm])
  rw[show((1:Int):Rat)/((225:Int):Rat)=1/225 by decide+kernel];grind
 ·refine Dv.up (((((g.addI (-225)).mul i224).addI 1).cast ?_ rfl)) 225
  rw[show((-225:Int):Rat)= -225 from rfl,show((1:Int):Rat)/((224:Int):Rat)=1/224 by decide+kernel,show((1:Int):Rat)=1 from rfl];grind
theorem F0 {t an s c:Rat} {D E F:Nat} (ha:0<an) (h:Dv (bn t an) D) (hs:Dv s E) (hc:Dv c F) (s0:0≤s) (s1:s*3438≤449) (c0:0≤c) (c1:2*c≤1):Dv (eqv t an s c) (D*3438*(D*3438*F*E)*224*225*4):=by
 have b:=fv (mof t an)
 have e:=mo (s:=s) (c:=c) b.1 b.2 s0 c0 c1
 have cs:=Rat.mul_nonneg s0 c0
 exact F7 (Fc (Fx ha h) hs hc) (by grind) (by grind)
def DS:Nat:=1577917828000*3438*(1577917828000*3438*42*180)*224*225*4
theorem Fy (d:Int):Dv (cT ((d:Int):Rat)) DS:=by
 have m:=zD gR (oQ d (n:=4320000000) (D:=1577917828000) (by decide) (by decide))
 have e:=F0 (s:=ssz) (c:=sch) (E:=180) (F:=42) iA (oQ d (n:=4319999613) (D:=1577917828000) (by decide) (by decide)) ⟨7,by decide+kernel⟩ ⟨1,by decide+kernel⟩ (by decide+kernel) (by decide+kernel) (by decide+kernel) (by decide+kernel)
 exact((((m.up (3438*(1577917828000*3438*42*180)*224*225*4)).cast rfl (by decide+kernel)).sub e).rmod)
theorem Dv.self (q:Rat):Dv q q.den:=⟨q.num,by
 have dp:=Rat.natCast_pos.2 q.den_pos
 have h1:q=(q.num:Rat)/(q.den:Rat):=by rw[←Rat.mkRat_eq_div,Rat.mkRat_self]
 have:q*(q.den:Rat)=(q.num:Rat)/(q.den:Rat)*(q.den:Rat):=by rw[←h1]
 rw[this,Rat.div_mul_cancel (by grind)]⟩
theorem Ec {p:Rat} {m D:Nat} (h0: -((m:Nat):Rat)≤p) (h1:p≤((m:Nat):Rat)) (hd:p.den≤D):p.num.natAbs≤m*D:=by
 have dp:=Rat.natCast_pos.2 p.den_pos
 have e:(p.num:Rat)=p*(p.den:Rat):=by
  have h1:p=(p.num:Rat)/(p.den:Rat):=by rw[←Rat.mkRat_eq_div,Rat.mkRat_self]
  have:p*(p.den:Rat)=(p.num:Rat)/(p.den:Rat)*(p.den:Rat):=by rw[←h1]
  rw[this,Rat.div_mul_cancel (by grind)]
 have m1:=Rat.mul_le_mul_of_nonneg_right (c:=(p.den:Rat)) h1 (by grind)
 have m0:=Rat.mul_le_mul_of_nonneg_right (c:=(p.den:Rat)) h0 (by grind)
 rw[←e] at m1 m0
 have a1:p.num≤((m*p.den:Nat):Int):=Rat.intCast_le_intCast.1 (by rw[Rat.intCast_natCast,Rat.natCast_mul];exact m1)
 have a0: -((m*p.den:Nat):Int)≤p.num:=Rat.intCast_le_intCast.1 (by rw[Rat.intCast_neg,Rat.intCast_natCast,Rat.natCast_mul];grind)
 have:=Nat.mul_le_mul_left m hd
 omega
theorem nO {p:Rat} {m D k:Nat} (hv:Dv p D) (hD:0<D) (h0: -((m:Nat):Rat)≤p) (h1:p≤((m:Nat):Rat)) (hm:0<m) (hk:m*D<B32^k):au p k:=by
 have hd:=hv.den hD
 have hn:=Ec h0 h1 hd
 refine⟨show _<_ from Nat.lt_of_le_of_lt hn hk,show _<_ from Nat.lt_of_le_of_lt (Nat.le_trans hd (Nat.le_mul_of_pos_left D hm)) hk⟩
theorem yp {d c k:Nat} (h:d<B32^k) (hc:c≤4294967296) (h0:0<c):c*d<B32^(k+1):=by
 rw[Nat.pow_succ,Nat.mul_comm (B32^k)]
 exact Nat.lt_of_lt_of_le (Nat.mul_lt_mul_of_pos_left h h0) (Nat.mul_le_mul_right _ hc)
theorem iK {x:Rat} {k:Nat} (h:au x k):au (sof x) (k+1):=by
 have b:=fv x
 have m:Dv (mfr (x/wd)) (x.den*15):=by
  refine Dv.mfr ?_
  have i:Dv (((4:Int):Rat)/((15:Int):Rat)) 15:=Dv.frc 4 (by decide)
  refine((Dv.self x).mul i).cast ?_ rfl
  rw[dQ,show((4:Int):Rat)/((15:Int):Rat)=4/15 by decide+kernel];grind
 have i:Dv (((3438:Int):Rat))⁻¹ 3438:=⟨1,by decide+kernel⟩
 have v:Dv (sof x) (x.den*15*3438):=by
  rw[←ls,qf,Rat.div_def]
  refine Dv.mul ?_ i
  rw[Rat.add_comm]
  exact(m.mulI _).addI _
 have dp:=x.den_pos
 refine nO (m:=1) v (by omega) b.1 b.2 (by decide) ?_
 have:=yp (c:=51570) (show x.den<B32^k from h.2) (by decide) (by decide)
 rw[show 1*(x.den*15*3438)=51570*x.den by omega]
 exact this
theorem Cz {h:Rat} {D:Nat} (v:Dv h D):∃e:Nat,0<e∧e≤225∧Dv (ay h) (D*e):=by
 by_cases c:yk h<24
 ·have up:=nG (k:=((yk h:Nat):Int)) (by omega) (by omega)
  have st:=gt ((yk h:Nat):Int)
  refine⟨(spk (((yk h:Nat):Int)+1)-spk ((yk h:Nat):Int)).toNat,by omega,by omega,?_⟩
  have ee:(((spk (((yk h:Nat):Int)+1)-spk ((yk h:Nat):Int)).toNat :Nat):Int)=spk (((yk h:Nat):Int)+1)-spk ((yk h:Nat):Int):=by omega
  unfold ay
  rw[if_pos c]
  have i:=Dv.frc 1 (D:=(spk (((yk h:Nat):Int)+1)-spk ((yk h:Nat):Int)).toNat) (by omega)
  rw[ee] at i
  refine Dv.addI _ (((v.addI (-spk ((yk h:Nat):Int))).mul i).cast ?_ rfl)
  rw[Rat.intCast_neg,Rat.intCast_one,Rat.div_def,Rat.div_def];grind
 ·refine⟨1,by decide,by decide,?_⟩
  unfold ay
  rw[if_neg c]
  exact((Dv.int 24).up D).cast rfl (by omega)
theorem qV {y:Rat} {k:Nat} (h:au y k) (h0: -1≤y) (h1:y≤1):au (br y) (k+1):=by
 have b:=vn h0 h1
 have v:Dv (y*((3438:Int):Rat)) y.den:=(Dv.self y).mulI _
 have w4:Dv wd 4:=⟨15,by decide+kernel⟩
 obtain⟨e,e0,e1,q⟩:∃e:Nat,0<e∧e≤225∧Dv (ap (y*((3438:Int):Rat))) (y.den*e):=by
  unfold ap
  split
  ·obtain⟨e,e0,e1,q⟩:=Cz v.neg
   exact⟨e,e0,e1,q.neg⟩
  ·exact Cz v
 have r:Dv (br y) (y.den*e*4):=q.mul w4
 have dp:=y.den_pos
 refine nO (m:=90) r (Nat.mul_pos (Nat.mul_pos dp e0) (by decide)) ?_ ?_ (by decide) ?_
 ·have:=b.1;rw[show((-90:Int):Rat)= -90 from rfl] at this;exact this
 ·exact b.2
 ·have:=yp (c:=81000) (show y.den<B32^k from h.2) (by decide) (by decide)
  have m:=Nat.mul_le_mul_left y.den e1
  rw[show 90*(y.den*e*4)=360*(y.den*e) by omega]
  omega
theorem kN {n:Int} (h:n.natAbs<4294967296):au ((n:Int):Rat) 1:=a9 (show n.natAbs<B32^1 from by rw[Nat.pow_one];exact h) (by decide)
theorem cV {n d:Int} (h:n.natAbs<4294967296) (g:d.natAbs<4294967296):au (((n:Int):Rat)/((d:Int):Rat)) 1:=(aJ (a:=1) (b:=1) (show n.natAbs<B32^1 from by rw[Nat.pow_one];exact h) (show d.natAbs<B32^1 from by rw[Nat.pow_one];exact g)).up 1 (by decide)
theorem C3 (d:Int):Dv (eR ((d:Int):Rat)) 6311671312:=by
 have y:Dv (hZ ((d:Int):Rat)) 6311671312:=⟨(d+1132959)*2400-1577917828,by
  unfold hZ kli
  rw[Rat.intCast_sub,Rat.intCast_mul,Rat.intCast_add]
  rw[show((600:Int):Rat)/((1577917828:Int):Rat)=600/1577917828 by decide+kernel,show((1:Int):Rat)/((4:Int):Rat)=1/4 by decide+kernel,show((-1132959:Int):Rat)= -1132959 from rfl,show((1132959:Int):Rat)=1132959 from rfl,show((2400:Int):Rat)=2400 from rfl,show((1577917828:Int):Rat)=1577917828 from rfl,show((6311671312:Nat):Rat)=6311671312 from rfl]
  grind⟩
 have x:Dv (wJ ((d:Int):Rat)) 6311671312:=by
  unfold wJ
  rw[nK.1,nK.2]
  obtain⟨n,e⟩:∃n:Int,cO (hZ ((d:Int):Rat)) (-1/2) (1/2)=hZ ((d:Int):Rat)+((n:Int):Rat):=by
   refine⟨-((hZ ((d:Int):Rat)- -1/2)/(1/2- -1/2)).floor,?_⟩
   unfold cO
   rw[if_neg (by grind)]
   unfold rmod
   rw[if_neg (by grind),Rat.intCast_neg]
   grind
  rw[e];exact y.addI n
 unfold eR
 have a:=(x.abs.mulI 108).neg.addI 27
 exact a.cast (by grind) rfl
theorem zN (d:Int):au (bD ((d:Int):Rat)) 6:=by
 have s:=(Fy d).up 6311671312
 have p:=((C3 d).up DS).cast rfl (Nat.mul_comm _ _)
 have v:Dv (bD ((d:Int):Rat)) (DS*6311671312):=(s.sub p).rmod
 have l:(0:Rat)≤bD ((d:Int):Rat):=dv bE
 have u:bD ((d:Int):Rat)<((360:Int):Rat):=cW bE
 rw[lN] at u
 exact nO (m:=360) v (by decide+kernel) (by rw[show((360:Nat):Rat)=360 from rfl];grind) (by rw[show((360:Nat):Rat)=360 from rfl];grind) (by decide) (by decide+kernel)
theorem zW (d:Int) {lat:Rat} (hl:au lat 1) (h0: -60≤lat) (h1:lat≤60):au (eT ((d:Int):Rat) lat) 27:=by
 have a:=iK (zN d)
 have hb:=nJ ((d:Int):Rat)
 have h:au (hV ((d:Int):Rat)) 8:=(a7 (cV (n:=1397) (d:=3438) (by decide) (by decide)) a).up _ (by omega)
 have hb':=hb
 rw[jY] at hb'
 have n90:au ((90:Int):Rat) 1:=kN (by decide)
 have c:au (du (hV ((d:Int):Rat))) 12:=(iK (bp (qV h (by grind) (by grind)) n90)).up _ (by omega)
 have e:au (eV ((d:Int):Rat) lat) 14:=(cF (a7 h (iK hl)) (iK (bp hl n90))).up _ (by omega)
 have q:=pu ((d:Int):Rat) h0 h1
 have l:au (quo ((d:Int):Rat) lat) 26:=(cF e c).up _ (by omega)
 have r:=qV (y:= -(quo ((d:Int):Rat) lat)) (eM l) (by grind) (by grind)
 exact r
theorem sw (d:Int):au (mof ((d:Int):Rat) pay) 2:=by
 have v:=zD iA (oQ d (n:=4319999613) (D:=1577917828000) (by decide) (by decide))
 have l:=Dk ((d:Int):Rat) pay
 have u:=Cd ((d:Int):Rat) pay
 rw[lN] at u
 exact nO (m:=360) v (by decide) (by rw[show((360:Nat):Rat)=360 from rfl];grind) (by rw[show((360:Nat):Rat)=360 from rfl];grind) (by decide) (by decide+kernel)
theorem qH (d:Int):au (kI ((d:Int):Rat)) 6:=(bQ (cV (n:=14) (d:=360) (by decide) (by decide)) (a7 (fq (iK (sw d))) (cV (n:=1) (d:=1080) (by decide) (by decide)))).up _ (by omega)
theorem qJ:au (((360:Int):Rat)/pyr) 1:=by
 refine⟨?_,?_⟩
 ·show _<_;decide+kernel
 ·show _<_;decide+kernel
theorem tA:au pyr 1:=by
 refine⟨?_,?_⟩
 ·show _<_;decide+kernel
 ·show _<_;decide+kernel
theorem sZ (d:Int):au (ec ((d:Int):Rat)) 10:=by
 have s:=gt (pk (mof ((d:Int):Rat) pay))
 have st:au (((j8 (mof ((d:Int):Rat) pay):Int):Rat)/((225:Int):Rat)) 1:=cV (by unfold j8;omega) (by decide)
 exact(a7 qJ (bQ (kN (n:=1) (by decide)) (a7 st (qH d)))).up _ (by omega)
theorem AD (t:Rat):au (fK t) 1:=cV (by unfold fM;split <;> (try split) <;> decide) (by decide)
theorem B5 (d:Int):au (fL ((d:Int):Rat)) 24:=by
 have o:au (((1:Int):Rat)/((360:Int):Rat)) 1:=cV (by decide) (by decide)
 exact(a7 (a7 (a7 (sZ d) o) (a7 (a7 (a7 (iK (sw d)) (cV (n:=573) (d:=10) (by decide) (by decide))) (qH d)) o)) tA).up _ (by omega)
theorem qT {d:Int} {lat lon:Rat} {qd sg:Int} (hd:d.natAbs<4294967296) (hl:au lat 1) (hn:au lon 1) (h0: -60≤lat) (h1:lat≤60) (hq:qd.natAbs<10) (hs:sg.natAbs<10):au (cg ((d:Int):Rat) lat lon qd sg) 90:=by
 have o:au (((1:Int):Rat)/((360:Int):Rat)) 1:=cV (by decide) (by decide)
 have q:au (((qd:Int):Rat)/((4:Int):Rat)) 1:=cV (by omega) (by decide)
 have ea:au (kr lon) 4:=(a7 (bQ (cV (n:=45461) (d:=600) (by decide) (by decide)) hn) o).up _ (by omega)
 have ka:au kap 2:=(a7 (cV (n:=1577917828) (d:=1582237828) (by decide) (by decide)) o).up _ (by omega)
 have si:=bp (a7 (a7 (sZ d) (AD ((d:Int):Rat))) q) (a7 (kN (n:=sg) (by omega)) (zW d hl h0 h1))
 exact(bp (bp (bp (kN hd) q) (bQ ea (B5 d))) (a7 si ka)).up _ (by omega)
theorem ki {x:Rat} {k:Nat} (h:au x k):au (cz x) (k+10):=by
 have a:=a7 h (bN (n:=1048576) (by decide) (by decide))
 have f:=a9 (ft a) (by omega)
 exact(a7 f (cV (n:=1) (d:=1048576) (by decide) (by decide))).up _ (by omega)
theorem oX {t:Rat} {k:Nat} (h:au t k):au (eR t) (2*k+60):=by
 have y:au (hZ t) (k+6):=(bQ (a7 (bQ h (kN (n:= -1132959) (by decide))) (cV (n:=600) (d:=1577917828) (by decide) (by decide))) (cV (n:=1) (d:=4) (by decide) (by decide))).up _ (by omega)
 have x:=mw y (cV (n:= -1) (d:=2) (by decide) (by decide)) (cV (n:=1) (d:=2) (by decide) (by decide))
 exact(bQ (kN (n:=27) (by decide)) (a7 (kN (n:=108) (by decide)) (fq x))).up _ (by omega)
theorem jO {t:Rat} {k:Nat} (h:au t k):au (bD t) (5*k+180):=(gC (bQ (jN h) (oX h))).up _ (by omega)
def wi (a:Rat):Rat:=((14:Int):Rat)/((360:Int):Rat)-a.abs*(((1:Int):Rat)/((1080:Int):Rat))
def lK (x:Rat):Rat:=((360:Int):Rat)/pyr*(((1:Int):Rat)-((j8 x:Int):Rat)/((225:Int):Rat)*wi (sof x))
def mI (x:Rat):Rat:=lK x*(((1:Int):Rat)/((360:Int):Rat))*(sof x*(((573:Int):Rat)/((10:Int):Rat))*wi (sof x)*(((1:Int):Rat)/((360:Int):Rat)))*pyr
def mX (x:Rat):Rat:=((fM (prt x 12):Int):Rat)/((1800:Int):Rat)
def hQ (x:Rat):Rat:=obl*sof x
def iS (x lat:Rat):Rat:=br (-(hQ x*sof lat/sof (lat+((90:Int):Rat))/du (hQ x)))
theorem zo {x:Rat} {k:Nat} (h:au x k):au (hQ x) (k+13):=(a7 (cV (n:=1397) (d:=3438) (by decide) (by decide)) (el h)).up _ (by omega)
theorem mt {x lat:Rat} {k j:Nat} (h:au x k) (hl:au lat j) (hj:j≤2):au (iS x lat) (2*k+140):=by
 have n90:au ((90:Int):Rat) 1:=kN (by decide)
 have c:au (du (hQ x)) (k+50):=(el (bp (j5 (zo h)) n90)).up _ (by omega)
 have e:=cF (a7 (zo h) (el hl)) (el (bp hl n90))
 exact(j5 (eM (cF e c))).up _ (by omega)
theorem lV {a:Rat} {k:Nat} (h:au a k):au (wi a) (k+3):=(bQ (cV (n:=14) (d:=360) (by decide) (by decide)) (a7 (fq h) (cV (n:=1) (d:=1080) (by decide) (by decide)))).up _ (by omega)
theorem jT {x:Rat} {k:Nat} (h:au x k):au (lK x) (k+40):=by
 have s:=gt (pk x)
 have st:au (((j8 x:Int):Rat)/((225:Int):Rat)) 1:=cV (by unfold j8;omega) (by decide)
 exact(a7 qJ (bQ (kN (n:=1) (by decide)) (a7 st (lV (el h))))).up _ (by omega)
theorem oJ {x:Rat} {k:Nat} (h:au x k):au (mI x) (3*k+100):=by
 have o:au (((1:Int):Rat)/((360:Int):Rat)) 1:=cV (by decide) (by decide)
 exact(a7 (a7 (a7 (jT h) o) (a7 (a7 (a7 (el h) (cV (n:=573) (d:=10) (by decide) (by decide))) (lV (el h))) o)) tA).up _ (by omega)
theorem l6 (x:Rat):au (mX x) 1:=cV (by unfold fM;split <;> (try split) <;> decide) (by decide)
theorem qi {t:Rat} {k:Nat} (h:au t k):au (ec t) (k+50):=(jT (gW h gX)).up _ (by omega)
theorem vG {t:Rat} {k:Nat} (h:au t k):au (fL t) (3*k+130):=(oJ (gW h gX)).up _ (by omega)
theorem tr {t lat:Rat} {k j:Nat} (h:au t k) (hl:au lat j) (hj:j≤2):au (eT t lat) (10*k+520):=(mt (jO h) hl hj).up _ (by omega)
theorem E9 {x:Rat} (h0:0≤x) (h1:x<((360:Int):Rat)):fV (Rat.floor (x*(((1:Int):Rat)/((30:Int):Rat))))=prt x 12∧gv (Rat.floor (x*(((1:Int):Rat)/((30:Int):Rat))))=true:=by
 have e:Rat.floor (x*(((1:Int):Rat)/((30:Int):Rat)))=prt x 12:=by
  unfold prt
  rw[show((1:Int):Rat)/((30:Int):Rat)=((12:Int):Rat)/((360:Int):Rat) by decide+kernel]
 have b:=ig (x:=x) (n:=12) (by omega) h0 h1
 rw[e]
 exact⟨ms (by omega) (by omega),nl (by omega) (by omega)⟩
theorem DE {k:Int}:([1670,1795,1935,1935,1795,1670].map fun z=>Value.int .i64 z)[(k%6).toNat]?=some (.int .i64 (fM k)):=by
 have h:k%6=0∨k%6=1∨k%6=2∨k%6=3∨k%6=4∨k%6=5:=by omega
 unfold fM
 rcases h with h|h|h|h|h|h <;> rw[h] <;> rfl
theorem nB (k:Int):1670≤fM k∧fM k≤1935:=by unfold fM;split <;> (try split) <;> omega
theorem cj.ll {a b c d:Int} (h:cj a b c d):au (((a:Int):Rat)/((b:Int):Rat)) 1:=cV (by have:=h.b0;have:=h.b1;have:=h.a0;have:=h.a1;omega) (by have:=h.b0;have:=h.b1;omega)
theorem cj.lm {a b c d:Int} (h:cj a b c d):au (((c:Int):Rat)/((d:Int):Rat)) 1:=cV (by have:=h.d0;have:=h.d1;have:=h.c0;have:=h.c1;omega) (by have:=h.d0;have:=h.d1;omega)
def gz (n a b c d:Int):Rat:=cg ((n:Int):Rat) (((a:Int):Rat)/((b:Int):Rat)) (((c:Int):Rat)/((d:Int):Rat)) 1 1
def gL (n a b c d:Int):Rat:=cg ((n:Int):Rat) (((a:Int):Rat)/((b:Int):Rat)) (((c:Int):Rat)/((d:Int):Rat)) 3 (-1)
theorem qj {n a b c d:Int} (h:cj a b c d) (h0: -4000000≤n) (h1:n≤4000000):au (gz n a b c d) 90:=qT (by omega) h.ll h.lm h.la.1 h.la.2 (by decide) (by decide)
theorem qb {n a b c d:Int} (h:cj a b c d) (h0: -4000000≤n) (h1:n≤4000000):au (gL n a b c d) 90:=qT (by omega) h.ll h.lm h.la.1 h.la.2 (by decide) (by decide)
theorem z7 {m q dg sg:Rat} (m0:87/100≤m) (m1:m≤111/100) (d0: -53≤dg) (d1:dg≤53) (hq:q=1/4∨q=3/4) (hs:sg=1∨sg= -1): -1≤(m*q+sg*dg)*kap∧(m*q+sg*dg)*kap≤1:=by
 have k:=mO
 have y: -55≤m*q+sg*dg∧m*q+sg*dg≤55:=by
  rcases hq with rfl|rfl <;> rcases hs with rfl|rfl <;> constructor <;> grind
 have b:=eI (a:=55) (b:=1/100) (x:=m*q+sg*dg) (y:=kap) (by grind) (by grind) y.1 y.2 (by grind) (by grind)
 constructor <;> grind
theorem sf {n a b c d:Int} (h:cj a b c d):((n:Int):Rat)-3≤gz n a b c d∧gz n a b c d≤((n:Int):Rat)+3:=by
 have s:=gn ((n:Int):Rat)
 have f:=lh ((n:Int):Rat) h.la.1 h.la.2
 have e:=mp ((n:Int):Rat)
 have l:=h.lo
 have k:=z7 (q:=((1:Int):Rat)/((4:Int):Rat)) (sg:=((1:Int):Rat)) s.1 s.2 f.1 f.2 (.inl (by decide+kernel)) (.inl rfl)
 unfold gz cg kr
 rw[show((45461:Int):Rat)/((600:Int):Rat)=45461/600 by decide+kernel,show((1:Int):Rat)/((360:Int):Rat)=1/360 by decide+kernel]
 have q:((1:Int):Rat)/((4:Int):Rat)=1/4:=by decide+kernel
 rw[q] at k ⊢
 constructor <;> grind
theorem sI {n a b c d:Int} (h:cj a b c d):((n:Int):Rat)-3≤gL n a b c d∧gL n a b c d≤((n:Int):Rat)+3:=by
 have s:=gn ((n:Int):Rat)
 have f:=lh ((n:Int):Rat) h.la.1 h.la.2
 have e:=mp ((n:Int):Rat)
 have l:=h.lo
 have k:=z7 (q:=((3:Int):Rat)/((4:Int):Rat)) (sg:=((-1:Int):Rat)) s.1 s.2 f.1 f.2 (.inr (by decide+kernel)) (.inr rfl)
 unfold gL cg kr
 rw[show((45461:Int):Rat)/((600:Int):Rat)=45461/600 by decide+kernel,show((1:Int):Rat)/((360:Int):Rat)=1/360 by decide+kernel]
 have q:((3:Int):Rat)/((4:Int):Rat)=3/4:=by decide+kernel
 rw[q] at k ⊢
 constructor <;> grind
theorem l8 {x:Rat} {n:Int} (h0: -4000000≤n) (h1:n≤4000000) (a:((n:Int):Rat)-3≤x) (b:x≤((n:Int):Rat)+3):au (cz x) 3:=by
 have c0:=co h0
 have c1:=co h1
 rw[show((-4000000:Int):Rat)= -4000000 from rfl] at c0
 rw[show((4000000:Int):Rat)=4000000 from rfl] at c1
 have e:((1048576:Int):Rat)=1048576:=rfl
 have f0: -5000000000000≤(x*((1048576:Int):Rat)).floor :=Rat.le_floor_iff.2 (by rw[e,show((-5000000000000:Int):Rat)= -5000000000000 from rfl];grind)
 have f1:(x*((1048576:Int):Rat)).floor <5000000000000:=Rat.floor_lt_iff.2 (by rw[e,show((5000000000000:Int):Rat)=5000000000000 from rfl];grind)
 exact(a7 (bN (n:=(x*((1048576:Int):Rat)).floor) (by omega) (by omega)) (cV (n:=1) (d:=1048576) (by decide) (by decide))).up _ (by omega)
theorem iu {n a b c d:Int} (h:cj a b c d) (h0: -4000000≤n) (h1:n≤4000000):au (cz (gz n a b c d)) 3:=l8 h0 h1 (sf h).1 (sf h).2
theorem iG {n a b c d:Int} (h:cj a b c d) (h0: -4000000≤n) (h1:n≤4000000):au (cz (gL n a b c d)) 3:=l8 h0 h1 (sI h).1 (sI h).2
theorem AO (x lat:Rat):br (-(sof x*(((1397:Int):Rat)/((3438:Int):Rat))*sof lat/sof (lat+((90:Int):Rat)))/sof (br (sof x*(((1397:Int):Rat)/((3438:Int):Rat)))+((90:Int):Rat)))=iS x lat:=by
 unfold iS du hQ obl
 rw[Rat.mul_comm (sof x),Rat.div_def (-_),Rat.neg_mul,←Rat.div_def]
theorem tL (t lat lon:Rat) (qd sg:Int) (z:Rat) (hz:z=((1577917828:Int):Rat)/((1582237828:Int):Rat)*(((1:Int):Rat)/((360:Int):Rat))*(((qd:Int):Rat)/((4:Int):Rat)*ec t*fK t+eT t lat*((sg:Int):Rat))):
 t+((qd:Int):Rat)/((4:Int):Rat)+(((45461:Int):Rat)/((600:Int):Rat)-lon)*(((1:Int):Rat)/((360:Int):Rat))+ -(fL t)+z=cg t lat lon qd sg:=by
 subst hz
 unfold cg kr kap
 grind
end Go.Proofs.YtnljadejcfgmaaaGreatDoor
