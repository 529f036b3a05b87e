import Derived.Test.YtgdpkknapcgcbaaGreatDoorKB26
namespace Go.Proofs.YtgdpkknapcgcbaaGreatDoor
open Go.RowKit
set_option maxRecDepth 100000
set_option linter.unusedVariables false
set_option maxHeartbeats 8000000
def Dv (q:Rat) (D:Nat):Prop:=∃n:Int,q*((D:Nat):Rat)=((n:Int):Rat)
theorem Dv.int (n:Int):Dv ((n:Int):Rat) 1:=⟨n,by rw[show((1:Nat):Rat)=1 from rfl];grind⟩
theorem Dv.frc (n:Int) {D:Nat} (h:0<D):Dv (((n:Int):Rat)/(((D:Nat):Int):Rat)) D:=⟨n,by
 rw[Rat.intCast_natCast]
 exact Rat.div_mul_cancel (by have:=Rat.natCast_pos.2 h;grind)⟩
theorem Dv.add {p q:Rat} {D:Nat} (h:Dv p D) (g:Dv q D):Dv (p+q) D:=by
 obtain⟨n,h⟩:=h
 obtain⟨m,g⟩:=g
 exact⟨n+m,by rw[Rat.intCast_add];grind⟩
theorem Dv.neg {p:Rat} {D:Nat} (h:Dv p D):Dv (-p) D:=by
 obtain⟨n,h⟩:=h
 exact⟨-n,by rw[Rat.intCast_neg];grind⟩
theorem Dv.sub {p q:Rat} {D:Nat} (h:Dv p D) (g:Dv q D):Dv (p-q) D:=by rw[Rat.sub_eq_add_neg];exact h.add g.neg
theorem Dv.abs {p:Rat} {D:Nat} (h:Dv p D):Dv p.abs D:=by
 unfold Rat.abs
 split
 ·exact h
 ·exact h.neg
theorem Dv.mul {p q:Rat} {D E:Nat} (h:Dv p D) (g:Dv q E):Dv (p*q) (D*E):=by
 obtain⟨n,h⟩:=h
 obtain⟨m,g⟩:=g
 exact⟨n*m,by rw[Rat.intCast_mul,Rat.natCast_mul];grind⟩
theorem Dv.mulI {p:Rat} {D:Nat} (n:Int) (h:Dv p D):Dv (p*((n:Int):Rat)) D:=by
 have:=h.mul (Dv.int n)
 rwa[Nat.mul_one] at this
theorem Dv.up {p:Rat} {D:Nat} (h:Dv p D) (E:Nat):Dv p (D*E):=by
 obtain⟨n,h⟩:=h
 exact⟨n*(E:Int),by rw[Rat.intCast_mul,Rat.natCast_mul,Rat.intCast_natCast];grind⟩
theorem Dv.cast {p q:Rat} {D E:Nat} (h:Dv p D) (e:p=q) (f:D=E):Dv q E:=by subst e;subst f;exact h
theorem Dv.addI {p:Rat} {D:Nat} (n:Int) (h:Dv p D):Dv (p+((n:Int):Rat)) D:=h.add (((Dv.int n).up D).cast rfl (Nat.one_mul D))
theorem Dv.mfr {p:Rat} {D:Nat} (h:Dv p D):Dv (mfr p) D:=by rw[rQ];exact h.addI _
theorem Dv.rmod {p:Rat} {D:Nat} (h:Dv p D):Dv (rmod p ((360:Int):Rat)) D:=by
 rw[dP aN,<-Rat.intCast_mul];exact h.addI _
theorem Dv.den {p:Rat} {D:Nat} (h:Dv p D) (hD:0<D):p.den<=D:=by
 obtain⟨n,h⟩:=h
 have hd:=Rat.natCast_pos.2 hD
 have e:p=mkRat n D:=by
  rw[Rat.mkRat_eq_div,<-h,Rat.div_def,Rat.mul_assoc,Rat.mul_inv_cancel _ (by grind),Rat.mul_one]
 rw[e,Rat.den_mkRat,if_neg (by omega)]
 exact Nat.div_le_self _ _
theorem na (d:Int) {n:Int} {D:Nat} (hn:n≠0) (hD:0<D):Dv (aX ((d:Int):Rat) ((((D:Nat):Int):Rat)/((n:Int):Rat))) D:=by
 have e:aX ((d:Int):Rat) ((((D:Nat):Int):Rat)/((n:Int):Rat))=((n:Int):Rat)/(((D:Nat):Int):Rat)*((d+714403429586:Int):Rat):=by
  have hn':((n:Int):Rat)≠0:=fun h=>hn (Rat.intCast_inj.1 (by rw[h];rfl))
  have hD':(((D:Nat):Int):Rat)≠0:=fun h=>by
   have:((D:Nat):Int)=0:=Rat.intCast_inj.1 (by rw[h];rfl)
   omega
  unfold aX cre
  rw[Rat.intCast_add,show((-714403429586:Int):Rat)= -714403429586 from rfl,show((714403429586:Int):Rat)=714403429586 from rfl]
  generalize ((n:Int):Rat)=x at*
  generalize (((D:Nat):Int):Rat)=y at*
  rw[Rat.div_def,Rat.div_def,Rat.div_def,Rat.inv_mul_rev,Rat.inv_inv]
  grind
 rw[e]
 exact(Dv.frc n hD).mulI _
theorem vO {t p:Rat} {D:Nat} (hp:0<p) (h:Dv (aX t p) D):Dv (mof t p) D:=by
 rw[om hp];exact h.mfr.mulI _
theorem Ed {t p:Rat} {D:Nat} (hp:0<p) (h:Dv (aX t p) D):Dv (sof (mof t p)) (D*3438):=by
 rw[<-lh,ph]
 have e:mof t p/wd=mfr (aX t p)*((96:Int):Rat):=by
  rw[om hp,dr,show((96:Int):Rat)=96 from rfl,eO];grind
 have m:Dv (mfr (mof t p/wd)) D:=by rw[e];exact(h.mfr.mulI _).mfr
 rw[Rat.div_def]
 have i:Dv (((3438:Int):Rat))⁻¹ 3438:=⟨1,by decide+kernel⟩
 refine Dv.mul ?_ i
 rw[Rat.add_comm]
 exact(m.mulI _).addI _
theorem DJ {a s c:Rat} {D E F:Nat} (h:Dv a D) (hs:Dv s E) (hc:Dv c F):Dv (epi a s c) (D*(D*F*E)):=by
 unfold epi
 refine h.mul (Dv.sub ?_ ((h.abs.mul hc).mul hs))
 exact(hs.up (D*F)).cast rfl (Nat.mul_comm _ _)
theorem Ef {x:Rat} {D:Nat} (h:Dv x D) (h0: -449<=x*3438) (h1:x*3438<=449):Dv (aW x) (D*224*225*4):=by
 have g:Dv (x*3438) D:=h.mulI 3438
 have i4:Dv wd 4:=⟨15,by decide+kernel⟩
 have i224:Dv (((1:Int):Rat)/((224:Int):Rat)) 224:=Dv.frc 1 (by decide)
 have i225:Dv (((1:Int):Rat)/((225:Int):Rat)) 225:=Dv.frc 1 (by decide)
 unfold aW
 rw[dB]
 refine Dv.mul ?_ i4
 rcases uD h0 h1 with⟨_,e⟩|⟨_,_,e⟩|⟨_,e⟩ <;> rw[e]
 ·refine Dv.up (((((g.addI 225).mul i224).addI (-1)).cast ?_ rfl)) 225
  rw[show((225:Int):Rat)=225 from rfl,show((1:Int):Rat)/((224:Int):Rat)=1/224 by decide+kernel,show((-1:Int):Rat)= -1 from rfl];grind
 ·refine((g.mul i225).up 224).cast ?_ (by rw[Nat.mul_right_comm])
  rw[show((1:Int):Rat)/((225:Int):Rat)=1/225 by decide+kernel];grind
 ·refine Dv.up (((((g.addI (-225)).mul i224).addI 1).cast ?_ rfl)) 225
  rw[show((-225:Int):Rat)= -225 from rfl,show((1:Int):Rat)/((224:Int):Rat)=1/224 by decide+kernel,show((1:Int):Rat)=1 from rfl];grind
theorem DV {t an s c:Rat} {D E F:Nat} (ha:0<an) (h:Dv (aX t an) D) (hs:Dv s E) (hc:Dv c F) (s0:0<=s) (s1:s*3438<=449) (c0:0<=c) (c1:2*c<=1):Dv (eqv t an s c) (D*3438*(D*3438*F*E)*224*225*4):=by
 have b:=fc (mof t an)
 have e:=nT (s:=s) (c:=c) b.1 b.2 s0 c0 c1
 have cs:=Rat.mul_nonneg s0 c0
 exact Ef (DJ (Ed ha h) hs hc) (by grind) (by grind)
def DS:Nat:=1577917828000*3438*(1577917828000*3438*42*180)*224*225*4
theorem DC (d:Int):Dv (bp ((d:Int):Rat)) DS:=by
 have m:=vO oX (na d (n:=4320000000) (D:=1577917828000) (by decide) (by decide))
 have e:=DV (s:=ssz) (c:=sch) (E:=180) (F:=42) gJ (na d (n:=4319999613) (D:=1577917828000) (by decide) (by decide)) ⟨7,by decide+kernel⟩ ⟨1,by decide+kernel⟩ (by decide+kernel) (by decide+kernel) (by decide+kernel) (by decide+kernel)
 exact((((m.up (3438*(1577917828000*3438*42*180)*224*225*4)).cast rfl (by decide+kernel)).sub e).rmod)
theorem Dv.self (q:Rat):Dv q q.den:=⟨q.num,by
 have dp:=Rat.natCast_pos.2 q.den_pos
 have h1:q=(q.num:Rat)/(q.den:Rat):=by rw[<-Rat.mkRat_eq_div,Rat.mkRat_self]
 have:q*(q.den:Rat)=(q.num:Rat)/(q.den:Rat)*(q.den:Rat):=by rw[<-h1]
 rw[this,Rat.div_mul_cancel (by grind)]⟩
theorem B6 {p:Rat} {m D:Nat} (h0: -((m:Nat):Rat)<=p) (h1:p<=((m:Nat):Rat)) (hd:p.den<=D):p.num.natAbs<=m*D:=by
 have dp:=Rat.natCast_pos.2 p.den_pos
 have e:(p.num:Rat)=p*(p.den:Rat):=by
  have h1:p=(p.num:Rat)/(p.den:Rat):=by rw[<-Rat.mkRat_eq_div,Rat.mkRat_self]
  have:p*(p.den:Rat)=(p.num:Rat)/(p.den:Rat)*(p.den:Rat):=by rw[<-h1]
  rw[this,Rat.div_mul_cancel (by grind)]
 have m1:=Rat.mul_le_mul_of_nonneg_right (c:=(p.den:Rat)) h1 (by grind)
 have m0:=Rat.mul_le_mul_of_nonneg_right (c:=(p.den:Rat)) h0 (by grind)
 rw[<-e] at m1 m0
 have a1:p.num<=((m*p.den:Nat):Int):=Rat.intCast_le_intCast.1 (by rw[Rat.intCast_natCast,Rat.natCast_mul];exact m1)
 have a0: -((m*p.den:Nat):Int)<=p.num:=Rat.intCast_le_intCast.1 (by rw[Rat.intCast_neg,Rat.intCast_natCast,Rat.natCast_mul];grind)
 have:=Nat.mul_le_mul_left m hd
 omega
theorem lX {p:Rat} {m D k:Nat} (hv:Dv p D) (hD:0<D) (h0: -((m:Nat):Rat)<=p) (h1:p<=((m:Nat):Rat)) (hm:0<m) (hk:m*D<B32^k):ag p k:=by
 have hd:=hv.den hD
 have hn:=B6 h0 h1 hd
 refine⟨show _<_ from Nat.lt_of_le_of_lt hn hk,show _<_ from Nat.lt_of_le_of_lt (Nat.le_trans hd (Nat.le_mul_of_pos_left D hm)) hk⟩
theorem xR {d c k:Nat} (h:d<B32^k) (hc:c<=4294967296) (h0:0<c):c*d<B32^(k+1):=by
 rw[Nat.pow_succ,Nat.mul_comm (B32^k)]
 exact Nat.lt_of_lt_of_le (Nat.mul_lt_mul_of_pos_left h h0) (Nat.mul_le_mul_right _ hc)
theorem gK {x:Rat} {k:Nat} (h:ag x k):ag (sof x) (k+1):=by
 have b:=fc x
 have m:Dv (mfr (x/wd)) (x.den*15):=by
  refine Dv.mfr ?_
  have i:Dv (((4:Int):Rat)/((15:Int):Rat)) 15:=Dv.frc 4 (by decide)
  refine((Dv.self x).mul i).cast ?_ rfl
  rw[dr,show((4:Int):Rat)/((15:Int):Rat)=4/15 by decide+kernel];grind
 have i:Dv (((3438:Int):Rat))⁻¹ 3438:=⟨1,by decide+kernel⟩
 have v:Dv (sof x) (x.den*15*3438):=by
  rw[<-lh,ph,Rat.div_def]
  refine Dv.mul ?_ i
  rw[Rat.add_comm]
  exact(m.mulI _).addI _
 have dp:=x.den_pos
 refine lX (m:=1) v (by omega) b.1 b.2 (by decide) ?_
 have:=xR (c:=51570) (show x.den<B32^k from h.2) (by decide) (by decide)
 rw[show 1*(x.den*15*3438)=51570*x.den by omega]
 exact this
theorem Ax {h:Rat} {D:Nat} (v:Dv h D):∃e:Nat,0<e/\e<=225/\Dv (ay h) (D*e):=by
 by_cases c:yk h<24
 ·have up:=mc (k:=((yk h:Nat):Int)) (by omega) (by omega)
  have st:=gI ((yk h:Nat):Int)
  refine⟨(spk (((yk h:Nat):Int)+1)-spk ((yk h:Nat):Int)).toNat,by omega,by omega,?_⟩
  have ee:(((spk (((yk h:Nat):Int)+1)-spk ((yk h:Nat):Int)).toNat :Nat):Int)=spk (((yk h:Nat):Int)+1)-spk ((yk h:Nat):Int):=by omega
  unfold ay
  rw[if_pos c]
  have i:=Dv.frc 1 (D:=(spk (((yk h:Nat):Int)+1)-spk ((yk h:Nat):Int)).toNat) (by omega)
  rw[ee] at i
  refine Dv.addI _ (((v.addI (-spk ((yk h:Nat):Int))).mul i).cast ?_ rfl)
  rw[Rat.intCast_neg,Rat.intCast_one,Rat.div_def,Rat.div_def];grind
 ·refine⟨1,by decide,by decide,?_⟩
  unfold ay
  rw[if_neg c]
  exact((Dv.int 24).up D).cast rfl (by omega)
theorem pS {y:Rat} {k:Nat} (h:ag y k) (h0: -1<=y) (h1:y<=1):ag (aW y) (k+1):=by
 have b:=tX h0 h1
 have v:Dv (y*((3438:Int):Rat)) y.den:=(Dv.self y).mulI _
 have w4:Dv wd 4:=⟨15,by decide+kernel⟩
 obtain⟨e,e0,e1,q⟩:∃e:Nat,0<e/\e<=225/\Dv (ap (y*((3438:Int):Rat))) (y.den*e):=by
  unfold ap
  split
  ·obtain⟨e,e0,e1,q⟩:=Ax v.neg
   exact⟨e,e0,e1,q.neg⟩
  ·exact Ax v
 have r:Dv (aW y) (y.den*e*4):=q.mul w4
 have dp:=y.den_pos
 refine lX (m:=90) r (Nat.mul_pos (Nat.mul_pos dp e0) (by decide)) ?_ ?_ (by decide) ?_
 ·have:=b.1;rw[show((-90:Int):Rat)= -90 from rfl] at this;exact this
 ·exact b.2
 ·have:=xR (c:=81000) (show y.den<B32^k from h.2) (by decide) (by decide)
  have m:=Nat.mul_le_mul_left y.den e1
  rw[show 90*(y.den*e*4)=360*(y.den*e) by omega]
  omega
theorem km {n:Int} (h:n.natAbs<4294967296):ag ((n:Int):Rat) 1:=bX (show n.natAbs<B32^1 from by rw[Nat.pow_one];exact h) (by decide)
theorem cA {n d:Int} (h:n.natAbs<4294967296) (g:d.natAbs<4294967296):ag (((n:Int):Rat)/((d:Int):Rat)) 1:=(eX (a:=1) (b:=1) (show n.natAbs<B32^1 from by rw[Nat.pow_one];exact h) (show d.natAbs<B32^1 from by rw[Nat.pow_one];exact g)).up 1 (by decide)
theorem Cb (d:Int):Dv (eh ((d:Int):Rat)) 6311671312:=by
 have y:Dv (gE ((d:Int):Rat)) 6311671312:=⟨(d+1132959)*2400-1577917828,by
  unfold gE kli
  rw[Rat.intCast_sub,Rat.intCast_mul,Rat.intCast_add]
  rw[show((600:Int):Rat)/((1577917828:Int):Rat)=600/1577917828 by decide+kernel,show((1:Int):Rat)/((4:Int):Rat)=1/4 by decide+kernel,show((-1132959:Int):Rat)= -1132959 from rfl,show((1132959:Int):Rat)=1132959 from rfl,show((2400:Int):Rat)=2400 from rfl,show((1577917828:Int):Rat)=1577917828 from rfl,show((6311671312:Nat):Rat)=6311671312 from rfl]
  grind⟩
 have x:Dv (vf ((d:Int):Rat)) 6311671312:=by
  unfold vf
  rw[lW.1,lW.2]
  obtain⟨n,e⟩:∃n:Int,cB (gE ((d:Int):Rat)) (-1/2) (1/2)=gE ((d:Int):Rat)+((n:Int):Rat):=by
   refine⟨-((gE ((d:Int):Rat)- -1/2)/(1/2- -1/2)).floor,?_⟩
   unfold cB
   rw[if_neg (by grind)]
   unfold rmod
   rw[if_neg (by grind),Rat.intCast_neg]
   grind
  rw[e];exact y.addI n
 unfold eh
 have a:=(x.abs.mulI 108).neg.addI 27
 exact a.cast (by grind) rfl
theorem xi (d:Int):ag (cv ((d:Int):Rat)) 6:=by
 have s:=(DC d).up 6311671312
 have p:=((Cb d).up DS).cast rfl (Nat.mul_comm _ _)
 have v:Dv (cv ((d:Int):Rat)) (DS*6311671312):=(s.sub p).rmod
 have l:(0:Rat)<=cv ((d:Int):Rat):=cn aN
 have u:cv ((d:Int):Rat)<((360:Int):Rat):=bV aN
 rw[eO] at u
 exact lX (m:=360) v (by decide+kernel) (by rw[show((360:Nat):Rat)=360 from rfl];grind) (by rw[show((360:Nat):Rat)=360 from rfl];grind) (by decide) (by decide+kernel)
theorem xo (d:Int) {lat:Rat} (hl:ag lat 1) (h0: -60<=lat) (h1:lat<=60):ag (eT ((d:Int):Rat) lat) 27:=by
 have a:=gK (xi d)
 have hb:=l6 ((d:Int):Rat)
 have h:ag (hV ((d:Int):Rat)) 8:=(aH (cA (n:=1397) (d:=3438) (by decide) (by decide)) a).up _ (by omega)
 have hb':=hb
 rw[iR] at hb'
 have n90:ag ((90:Int):Rat) 1:=km (by decide)
 have c:ag (cJ (hV ((d:Int):Rat))) 12:=(gK (aV (pS h (by grind) (by grind)) n90)).up _ (by omega)
 have e:ag (eV ((d:Int):Rat) lat) 14:=(cL (aH h (gK hl)) (gK (aV hl n90))).up _ (by omega)
 have q:=nB ((d:Int):Rat) h0 h1
 have l:ag (quo ((d:Int):Rat) lat) 26:=(cL e c).up _ (by omega)
 have r:=pS (y:= -(quo ((d:Int):Rat) lat)) (fg l) (by grind) (by grind)
 exact r
theorem rJ (d:Int):ag (mof ((d:Int):Rat) pay) 2:=by
 have v:=vO gJ (na d (n:=4319999613) (D:=1577917828000) (by decide) (by decide))
 have l:=A7 ((d:Int):Rat) pay
 have u:=yx ((d:Int):Rat) pay
 rw[eO] at u
 exact lX (m:=360) v (by decide) (by rw[show((360:Nat):Rat)=360 from rfl];grind) (by rw[show((360:Nat):Rat)=360 from rfl];grind) (by decide) (by decide+kernel)
theorem pY (d:Int):ag (jq ((d:Int):Rat)) 6:=(bI (cA (n:=14) (d:=360) (by decide) (by decide)) (aH (iT (gK (rJ d))) (cA (n:=1) (d:=1080) (by decide) (by decide)))).up _ (by omega)
theorem pG:ag (((360:Int):Rat)/pyr) 1:=by
 refine⟨?_,?_⟩
 ·show _<_;decide+kernel
 ·show _<_;decide+kernel
theorem sd:ag pyr 1:=by
 refine⟨?_,?_⟩
 ·show _<_;decide+kernel
 ·show _<_;decide+kernel
theorem qU (d:Int):ag (dC ((d:Int):Rat)) 10:=by
 have s:=gI (pk (mof ((d:Int):Rat) pay))
 have st:ag (((iE (mof ((d:Int):Rat) pay):Int):Rat)/((225:Int):Rat)) 1:=cA (by unfold iE;omega) (by decide)
 exact(aH pG (bI (km (n:=1) (by decide)) (aH st (pY d)))).up _ (by omega)
theorem zA (t:Rat):ag (fh t) 1:=cA (by unfold gy;split <;> (try split) <;> decide) (by decide)
theorem yG (d:Int):ag (fL ((d:Int):Rat)) 24:=by
 have o:ag (((1:Int):Rat)/((360:Int):Rat)) 1:=cA (by decide) (by decide)
 exact(aH (aH (aH (qU d) o) (aH (aH (aH (gK (rJ d)) (cA (n:=573) (d:=10) (by decide) (by decide))) (pY d)) o)) sd).up _ (by omega)
theorem pH {d:Int} {lat lon:Rat} {qd sg:Int} (hd:d.natAbs<4294967296) (hl:ag lat 1) (hn:ag lon 1) (h0: -60<=lat) (h1:lat<=60) (hq:qd.natAbs<10) (hs:sg.natAbs<10):ag (b8 ((d:Int):Rat) lat lon qd sg) 90:=by
 have o:ag (((1:Int):Rat)/((360:Int):Rat)) 1:=cA (by decide) (by decide)
 have q:ag (((qd:Int):Rat)/((4:Int):Rat)) 1:=cA (by omega) (by decide)
 have ea:ag (jb lon) 4:=(aH (bI (cA (n:=45461) (d:=600) (by decide) (by decide)) hn) o).up _ (by omega)
 have ka:ag kap 2:=(aH (cA (n:=1577917828) (d:=1582237828) (by decide) (by decide)) o).up _ (by omega)
 have si:=aV (aH (aH (qU d) (zA ((d:Int):Rat))) q) (aH (km (n:=sg) (by omega)) (xo d hl h0 h1))
 exact(aV (aV (aV (km hd) q) (bI ea (yG d))) (aH si ka)).up _ (by omega)
end Go.Proofs.YtgdpkknapcgcbaaGreatDoor
