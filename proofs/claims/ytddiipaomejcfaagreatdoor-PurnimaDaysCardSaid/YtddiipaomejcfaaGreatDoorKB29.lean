import Derived.Test.YtddiipaomejcfaaGreatDoorKB23
import Derived.Test.YtddiipaomejcfaaGreatDoorKB27
namespace Go.Proofs.YtddiipaomejcfaaGreatDoor
open Go.RowKit
set_option maxRecDepth 100000
set_option linter.unusedVariables false
set_option maxHeartbeats 8000000
def Dv (q:Rat) (D:Nat):Prop:=∃n:Int,q*((D:Nat):Rat)=((n:Int):Rat)
theorem Dv.int (n:Int):Dv ((n:Int):Rat) 1:=⟨n,by rw[show((1:Nat):Rat)=1 from rfl];grind⟩
theorem Dv.frc (n:Int) {D:Nat} (h:0<D):Dv (((n:Int):Rat)/(((D:Nat):Int):Rat)) D:=⟨n,by
 rw[Rat.intCast_natCast]
 exact Rat.div_mul_cancel (by have:=Rat.natCast_pos.2 h;grind)⟩
theorem Dv.add {p q:Rat} {D:Nat} (h:Dv p D) (g:Dv q D):Dv (p+q) D:=by
 obtain⟨n,h⟩:=h
 obtain⟨m,g⟩:=g
 exact⟨n+m,by rw[Rat.intCast_add];grind⟩
theorem Dv.neg {p:Rat} {D:Nat} (h:Dv p D):Dv (-p) D:=by
 obtain⟨n,h⟩:=h
 exact⟨-n,by rw[Rat.intCast_neg];grind⟩
theorem Dv.sub {p q:Rat} {D:Nat} (h:Dv p D) (g:Dv q D):Dv (p-q) D:=by rw[Rat.sub_eq_add_neg];exact h.add g.neg
theorem Dv.abs {p:Rat} {D:Nat} (h:Dv p D):Dv p.abs D:=by
 unfold Rat.abs
 split
 ·exact h
 ·exact h.neg
theorem Dv.mul {p q:Rat} {D E:Nat} (h:Dv p D) (g:Dv q E):Dv (p*q) (D*E):=by
 obtain⟨n,h⟩:=h
 obtain⟨m,g⟩:=g
 exact⟨n*m,by rw[Rat.intCast_mul,Rat.natCast_mul];grind⟩
theorem Dv.mulI {p:Rat} {D:Nat} (n:Int) (h:Dv p D):Dv (p*((n:Int):Rat)) D:=by
 have:=h.mul (Dv.int n)
 rwa[Nat.mul_one] at this
theorem Dv.up {p:Rat} {D:Nat} (h:Dv p D) (E:Nat):Dv p (D*E):=by
 obtain⟨n,h⟩:=h
 exact⟨n*(E:Int),by rw[Rat.intCast_mul,Rat.natCast_mul,Rat.intCast_natCast];grind⟩
theorem Dv.cast {p q:Rat} {D E:Nat} (h:Dv p D) (e:p=q) (f:D=E):Dv q E:=by subst e;subst f;exact h
theorem Dv.addI {p:Rat} {D:Nat} (n:Int) (h:Dv p D):Dv (p+((n:Int):Rat)) D:=h.add (((Dv.int n).up D).cast rfl (Nat.one_mul D))
theorem Dv.mfr {p:Rat} {D:Nat} (h:Dv p D):Dv (mfr p) D:=by rw[vc];exact h.addI _
theorem Dv.rmod {p:Rat} {D:Nat} (h:Dv p D):Dv (rmod p ((360:Int):Rat)) D:=by
 rw[gR bj,<-Rat.intCast_mul];exact h.addI _
theorem Dv.den {p:Rat} {D:Nat} (h:Dv p D) (hD:0<D):p.den<=D:=by
 obtain⟨n,h⟩:=h
 have hd:=Rat.natCast_pos.2 hD
 have e:p=mkRat n D:=by
  rw[Rat.mkRat_eq_div,<-h,Rat.div_def,Rat.mul_assoc,Rat.mul_inv_cancel _ (by grind),Rat.mul_one]
 rw[e,Rat.den_mkRat,if_neg (by omega)]
 exact Nat.div_le_self _ _
theorem qK (d:Int) {n:Int} {D:Nat} (hn:n≠0) (hD:0<D):Dv (bl ((d:Int):Rat) ((((D:Nat):Int):Rat)/((n:Int):Rat))) D:=by
 have e:bl ((d:Int):Rat) ((((D:Nat):Int):Rat)/((n:Int):Rat))=((n:Int):Rat)/(((D:Nat):Int):Rat)*((d+714403429586:Int):Rat):=by
  have hn':((n:Int):Rat)≠0:=fun h=>hn (Rat.intCast_inj.1 (by rw[h];rfl))
  have hD':(((D:Nat):Int):Rat)≠0:=fun h=>by
   have:((D:Nat):Int)=0:=Rat.intCast_inj.1 (by rw[h];rfl)
   omega
  unfold bl cre
  rw[Rat.intCast_add,show((-714403429586:Int):Rat)= -714403429586 from rfl,show((714403429586:Int):Rat)=714403429586 from rfl]
  generalize ((n:Int):Rat)=x at*
  generalize (((D:Nat):Int):Rat)=y at*
  rw[Rat.div_def,Rat.div_def,Rat.div_def,Rat.inv_mul_rev,Rat.inv_inv]
  grind
 rw[e]
 exact(Dv.frc n hD).mulI _
theorem BO {t p:Rat} {D:Nat} (hp:0<p) (h:Dv (bl t p) D):Dv (mof t p) D:=by
 rw[s6 hp];exact h.mfr.mulI _
theorem KI {t p:Rat} {D:Nat} (hp:0<p) (h:Dv (bl t p) D):Dv (sof (mof t p)) (D*3438):=by
 rw[<-l6,tF]
 have e:mof t p/wd=mfr (bl t p)*((96:Int):Rat):=by
  rw[s6 hp,eh,show((96:Int):Rat)=96 from rfl,eu];grind
 have m:Dv (mfr (mof t p/wd)) D:=by rw[e];exact(h.mfr.mulI _).mfr
 rw[Rat.div_def]
 have i:Dv (((3438:Int):Rat))⁻¹ 3438:=⟨1,by decide+kernel⟩
 refine Dv.mul ?_ i
 rw[Rat.add_comm]
 exact(m.mulI _).addI _
theorem LX {a s c:Rat} {D E F:Nat} (h:Dv a D) (hs:Dv s E) (hc:Dv c F):Dv (epi a s c) (D*(D*F*E)):=by
 unfold epi
 refine h.mul (Dv.sub ?_ ((h.abs.mul hc).mul hs))
 exact(hs.up (D*F)).cast rfl (Nat.mul_comm _ _)
theorem LH {x:Rat} {D:Nat} (h:Dv x D) (h0: -449<=x*3438) (h1:x*3438<=449):Dv (br x) (D*224*225*4):=by
 have g:Dv (x*3438) D:=h.mulI 3438
 have i4:Dv wd 4:=⟨15,by decide+kernel⟩
 have i224:Dv (((1:Int):Rat)/((224:Int):Rat)) 224:=Dv.frc 1 (by decide)
 have i225:Dv (((1:Int):Rat)/((225:Int):Rat)) 225:=Dv.frc 1 (by decide)
 unfold br
 rw[eF]
 refine Dv.mul ?_ i4
 rcases A4 h0 h1 with⟨_,e⟩|⟨_,_,e⟩|⟨_,e⟩ <;> rw[e]
 ·refine Dv.up (((((g.addI 225).mul i224).addI (-1)).cast ?_ rfl)) 225
  rw[show((225:Int):Rat)=225 from rfl,show((1:Int):Rat)/((224:Int):Rat)=1/224 by decide+kernel,show((-1:Int):Rat)= -1 from rfl];grind
 ·refine((g.mul i225).up 224).cast ?_ (by rw[Nat.mul_right_comm])
  rw[show((1:Int):Rat)/((225:Int):Rat)=1/225 by decide+kernel];grind
 ·refine Dv.up (((((g.addI (-225)).mul i224).addI 1).cast ?_ rfl)) 225
  rw[show((-225:Int):Rat)= -225 from rfl,show((1:Int):Rat)/((224:Int):Rat)=1/224 by decide+kernel,show((1:Int):Rat)=1 from rfl];grind
theorem Ku {t an s c:Rat} {D E F:Nat} (ha:0<an) (h:Dv (bl t an) D) (hs:Dv s E) (hc:Dv c F) (s0:0<=s) (s1:s*3438<=449) (c0:0<=c) (c1:2*c<=1):Dv (eqv t an s c) (D*3438*(D*3438*F*E)*224*225*4):=by
 have b:=fH (mof t an)
 have e:=od (s:=s) (c:=c) b.1 b.2 s0 c0 c1
 have cs:=Rat.mul_nonneg s0 c0
 exact LH (LX (KI ha h) hs hc) (by grind) (by grind)
def DS:Nat:=1577917828000*3438*(1577917828000*3438*42*180)*224*225*4
theorem Kt (d:Int):Dv (cT ((d:Int):Rat)) DS:=by
 have m:=BO kd (qK d (n:=4320000000) (D:=1577917828000) (by decide) (by decide))
 have e:=Ku (s:=ssz) (c:=sch) (E:=180) (F:=42) jj (qK d (n:=4319999613) (D:=1577917828000) (by decide) (by decide)) ⟨7,by decide+kernel⟩ ⟨1,by decide+kernel⟩ (by decide+kernel) (by decide+kernel) (by decide+kernel) (by decide+kernel)
 exact((((m.up (3438*(1577917828000*3438*42*180)*224*225*4)).cast rfl (by decide+kernel)).sub e).rmod)
theorem Dv.self (q:Rat):Dv q q.den:=⟨q.num,by
 have dp:=Rat.natCast_pos.2 q.den_pos
 have h1:q=(q.num:Rat)/(q.den:Rat):=by rw[<-Rat.mkRat_eq_div,Rat.mkRat_self]
 have:q*(q.den:Rat)=(q.num:Rat)/(q.den:Rat)*(q.den:Rat):=by rw[<-h1]
 rw[this,Rat.div_mul_cancel (by grind)]⟩
theorem Ii {p:Rat} {m D:Nat} (h0: -((m:Nat):Rat)<=p) (h1:p<=((m:Nat):Rat)) (hd:p.den<=D):p.num.natAbs<=m*D:=by
 have dp:=Rat.natCast_pos.2 p.den_pos
 have e:(p.num:Rat)=p*(p.den:Rat):=by
  have h1:p=(p.num:Rat)/(p.den:Rat):=by rw[<-Rat.mkRat_eq_div,Rat.mkRat_self]
  have:p*(p.den:Rat)=(p.num:Rat)/(p.den:Rat)*(p.den:Rat):=by rw[<-h1]
  rw[this,Rat.div_mul_cancel (by grind)]
 have m1:=Rat.mul_le_mul_of_nonneg_right (c:=(p.den:Rat)) h1 (by grind)
 have m0:=Rat.mul_le_mul_of_nonneg_right (c:=(p.den:Rat)) h0 (by grind)
 rw[<-e] at m1 m0
 have a1:p.num<=((m*p.den:Nat):Int):=Rat.intCast_le_intCast.1 (by rw[Rat.intCast_natCast,Rat.natCast_mul];exact m1)
 have a0: -((m*p.den:Nat):Int)<=p.num:=Rat.intCast_le_intCast.1 (by rw[Rat.intCast_neg,Rat.intCast_natCast,Rat.natCast_mul];grind)
 have:=Nat.mul_le_mul_left m hd
 omega
theorem pD {p:Rat} {m D k:Nat} (hv:Dv p D) (hD:0<D) (h0: -((m:Nat):Rat)<=p) (h1:p<=((m:Nat):Rat)) (hm:0<m) (hk:m*D<B32^k):aw p k:=by
 have hd:=hv.den hD
 have hn:=Ii h0 h1 hd
 refine⟨show _<_ from Nat.lt_of_le_of_lt hn hk,show _<_ from Nat.lt_of_le_of_lt (Nat.le_trans hd (Nat.le_mul_of_pos_left D hm)) hk⟩
theorem CJ {d c k:Nat} (h:d<B32^k) (hc:c<=4294967296) (h0:0<c):c*d<B32^(k+1):=by
 rw[Nat.pow_succ,Nat.mul_comm (B32^k)]
 exact Nat.lt_of_lt_of_le (Nat.mul_lt_mul_of_pos_left h h0) (Nat.mul_le_mul_right _ hc)
theorem jc {x:Rat} {k:Nat} (h:aw x k):aw (sof x) (k+1):=by
 have b:=fH x
 have m:Dv (mfr (x/wd)) (x.den*15):=by
  refine Dv.mfr ?_
  have i:Dv (((4:Int):Rat)/((15:Int):Rat)) 15:=Dv.frc 4 (by decide)
  refine((Dv.self x).mul i).cast ?_ rfl
  rw[eh,show((4:Int):Rat)/((15:Int):Rat)=4/15 by decide+kernel];grind
 have i:Dv (((3438:Int):Rat))⁻¹ 3438:=⟨1,by decide+kernel⟩
 have v:Dv (sof x) (x.den*15*3438):=by
  rw[<-l6,tF,Rat.div_def]
  refine Dv.mul ?_ i
  rw[Rat.add_comm]
  exact(m.mulI _).addI _
 have dp:=x.den_pos
 refine pD (m:=1) v (by omega) b.1 b.2 (by decide) ?_
 have:=CJ (c:=51570) (show x.den<B32^k from h.2) (by decide) (by decide)
 rw[show 1*(x.den*15*3438)=51570*x.den by omega]
 exact this
theorem GC {h:Rat} {D:Nat} (v:Dv h D):∃e:Nat,0<e/\e<=225/\Dv (ay h) (D*e):=by
 by_cases c:yk h<24
 ·have up:=pf (k:=((yk h:Nat):Int)) (by omega) (by omega)
  have st:=gY ((yk h:Nat):Int)
  refine⟨(spk (((yk h:Nat):Int)+1)-spk ((yk h:Nat):Int)).toNat,by omega,by omega,?_⟩
  have ee:(((spk (((yk h:Nat):Int)+1)-spk ((yk h:Nat):Int)).toNat :Nat):Int)=spk (((yk h:Nat):Int)+1)-spk ((yk h:Nat):Int):=by omega
  unfold ay
  rw[if_pos c]
  have i:=Dv.frc 1 (D:=(spk (((yk h:Nat):Int)+1)-spk ((yk h:Nat):Int)).toNat) (by omega)
  rw[ee] at i
  refine Dv.addI _ (((v.addI (-spk ((yk h:Nat):Int))).mul i).cast ?_ rfl)
  rw[Rat.intCast_neg,Rat.intCast_one,Rat.div_def,Rat.div_def];grind
 ·refine⟨1,by decide,by decide,?_⟩
  unfold ay
  rw[if_neg c]
  exact((Dv.int 24).up D).cast rfl (by omega)
theorem tM {y:Rat} {k:Nat} (h:aw y k) (h0: -1<=y) (h1:y<=1):aw (br y) (k+1):=by
 have b:=yD h0 h1
 have v:Dv (y*((3438:Int):Rat)) y.den:=(Dv.self y).mulI _
 have w4:Dv wd 4:=⟨15,by decide+kernel⟩
 obtain⟨e,e0,e1,q⟩:∃e:Nat,0<e/\e<=225/\Dv (ap (y*((3438:Int):Rat))) (y.den*e):=by
  unfold ap
  split
  ·obtain⟨e,e0,e1,q⟩:=GC v.neg
   exact⟨e,e0,e1,q.neg⟩
  ·exact GC v
 have r:Dv (br y) (y.den*e*4):=q.mul w4
 have dp:=y.den_pos
 refine pD (m:=90) r (Nat.mul_pos (Nat.mul_pos dp e0) (by decide)) ?_ ?_ (by decide) ?_
 ·have:=b.1;rw[show((-90:Int):Rat)= -90 from rfl] at this;exact this
 ·exact b.2
 ·have:=CJ (c:=81000) (show y.den<B32^k from h.2) (by decide) (by decide)
  have m:=Nat.mul_le_mul_left y.den e1
  rw[show 90*(y.den*e*4)=360*(y.den*e) by omega]
  omega
theorem nv {n:Int} (h:n.natAbs<4294967296):aw ((n:Int):Rat) 1:=cd (show n.natAbs<B32^1 from by rw[Nat.pow_one];exact h) (by decide)
theorem db {n d:Int} (h:n.natAbs<4294967296) (g:d.natAbs<4294967296):aw (((n:Int):Rat)/((d:Int):Rat)) 1:=(eB (a:=1) (b:=1) (show n.natAbs<B32^1 from by rw[Nat.pow_one];exact h) (show d.natAbs<B32^1 from by rw[Nat.pow_one];exact g)).up 1 (by decide)
theorem Js (d:Int):Dv (fE ((d:Int):Rat)) 6311671312:=by
 have y:Dv (i6 ((d:Int):Rat)) 6311671312:=⟨(d+1132959)*2400-1577917828,by
  unfold i6 kli
  rw[Rat.intCast_sub,Rat.intCast_mul,Rat.intCast_add]
  rw[show((600:Int):Rat)/((1577917828:Int):Rat)=600/1577917828 by decide+kernel,show((1:Int):Rat)/((4:Int):Rat)=1/4 by decide+kernel,show((-1132959:Int):Rat)= -1132959 from rfl,show((1132959:Int):Rat)=1132959 from rfl,show((2400:Int):Rat)=2400 from rfl,show((1577917828:Int):Rat)=1577917828 from rfl,show((6311671312:Nat):Rat)=6311671312 from rfl]
  grind⟩
 have x:Dv (AQ ((d:Int):Rat)) 6311671312:=by
  unfold AQ
  rw[pO.1,pO.2]
  obtain⟨n,e⟩:∃n:Int,cV (i6 ((d:Int):Rat)) (-1/2) (1/2)=i6 ((d:Int):Rat)+((n:Int):Rat):=by
   refine⟨-((i6 ((d:Int):Rat)- -1/2)/(1/2- -1/2)).floor,?_⟩
   unfold cV
   rw[if_neg (by grind)]
   unfold rmod
   rw[if_neg (by grind),Rat.intCast_neg]
   grind
  rw[e];exact y.addI n
 unfold fE
 have a:=(x.abs.mulI 108).neg.addI 27
 exact a.cast (by grind) rfl
theorem Dp (d:Int):aw (bO ((d:Int):Rat)) 6:=by
 have s:=(Kt d).up 6311671312
 have p:=((Js d).up DS).cast rfl (Nat.mul_comm _ _)
 have v:Dv (bO ((d:Int):Rat)) (DS*6311671312):=(s.sub p).rmod
 have l:(0:Rat)<=bO ((d:Int):Rat):=da bj
 have u:bO ((d:Int):Rat)<((360:Int):Rat):=cF bj
 rw[eu] at u
 exact pD (m:=360) v (by decide+kernel) (by rw[show((360:Nat):Rat)=360 from rfl];grind) (by rw[show((360:Nat):Rat)=360 from rfl];grind) (by decide) (by decide+kernel)
theorem BN (d:Int) {lat:Rat} (hl:aw lat 1) (h0: -60<=lat) (h1:lat<=60):aw (fD ((d:Int):Rat) lat) 27:=by
 have a:=jc (Dp d)
 have hb:=pe ((d:Int):Rat)
 have h:aw (hV ((d:Int):Rat)) 8:=(a5 (db (n:=1397) (d:=3438) (by decide) (by decide)) a).up _ (by omega)
 have hb':=hb
 rw[kG] at hb'
 have n90:aw ((90:Int):Rat) 1:=nv (by decide)
 have c:aw (dK (hV ((d:Int):Rat))) 12:=(jc (bB (tM h (by grind) (by grind)) n90)).up _ (by omega)
 have e:aw (eV ((d:Int):Rat) lat) 14:=(cZ (a5 h (jc hl)) (jc (bB hl n90))).up _ (by omega)
 have q:=rA ((d:Int):Rat) h0 h1
 have l:aw (quo ((d:Int):Rat) lat) 26:=(cZ e c).up _ (by omega)
 have r:=tM (y:= -(quo ((d:Int):Rat) lat)) (fA l) (by grind) (by grind)
 exact r
theorem vS (d:Int):aw (mof ((d:Int):Rat) pay) 2:=by
 have v:=BO jj (qK d (n:=4319999613) (D:=1577917828000) (by decide) (by decide))
 have l:=Jr ((d:Int):Rat) pay
 have u:=D8 ((d:Int):Rat) pay
 rw[eu] at u
 exact pD (m:=360) v (by decide) (by rw[show((360:Nat):Rat)=360 from rfl];grind) (by rw[show((360:Nat):Rat)=360 from rfl];grind) (by decide) (by decide+kernel)
theorem um (d:Int):aw (lF ((d:Int):Rat)) 6:=(bS (db (n:=14) (d:=360) (by decide) (by decide)) (a5 (f7 (jc (vS d))) (db (n:=1) (d:=1080) (by decide) (by decide)))).up _ (by omega)
theorem tJ:aw (((360:Int):Rat)/pyr) 1:=by
 refine⟨?_,?_⟩
 ·show _<_;decide+kernel
 ·show _<_;decide+kernel
theorem uP:aw pyr 1:=by
 refine⟨?_,?_⟩
 ·show _<_;decide+kernel
 ·show _<_;decide+kernel
theorem uN (d:Int):aw (eG ((d:Int):Rat)) 10:=by
 have s:=gY (pk (mof ((d:Int):Rat) pay))
 have st:aw (((kQ (mof ((d:Int):Rat) pay):Int):Rat)/((225:Int):Rat)) 1:=db (by unfold kQ;omega) (by decide)
 exact(a5 tJ (bS (nv (n:=1) (by decide)) (a5 st (um d)))).up _ (by omega)
theorem Ei (t:Rat):aw (gw t) 1:=db (by unfold gv;split <;> (try split) <;> decide) (by decide)
theorem Gp (d:Int):aw (gu ((d:Int):Rat)) 24:=by
 have o:aw (((1:Int):Rat)/((360:Int):Rat)) 1:=db (by decide) (by decide)
 exact(a5 (a5 (a5 (uN d) o) (a5 (a5 (a5 (jc (vS d)) (db (n:=573) (d:=10) (by decide) (by decide))) (um d)) o)) uP).up _ (by omega)
theorem Cu {d:Int} {lat lon:Rat} {qd sg:Int} (hd:d.natAbs<4294967296) (hl:aw lat 1) (hn:aw lon 1) (h0: -60<=lat) (h1:lat<=60) (hq:qd.natAbs<10) (hs:sg.natAbs<10):aw (cC ((d:Int):Rat) lat lon qd sg) 90:=by
 have o:aw (((1:Int):Rat)/((360:Int):Rat)) 1:=db (by decide) (by decide)
 have q:aw (((qd:Int):Rat)/((4:Int):Rat)) 1:=db (by omega) (by decide)
 have ea:aw (mK lon) 4:=(a5 (bS (db (n:=45461) (d:=600) (by decide) (by decide)) hn) o).up _ (by omega)
 have ka:aw kap 2:=(a5 (db (n:=1577917828) (d:=1582237828) (by decide) (by decide)) o).up _ (by omega)
 have si:=bB (a5 (a5 (uN d) (Ei ((d:Int):Rat))) q) (a5 (nv (n:=sg) (by omega)) (BN d hl h0 h1))
 exact(bB (bB (bB (nv hd) q) (bS ea (Gp d))) (a5 si ka)).up _ (by omega)
theorem C7 {x:Rat} {k:Nat} (h:aw x k):aw (cP x) (k+10):=by
 have a:=a5 h (dE (n:=1048576) (by decide) (by decide))
 have f:=cd (fF a) (by omega)
 exact(a5 f (db (n:=1) (d:=1048576) (by decide) (by decide))).up _ (by omega)
theorem qB {t:Rat} {k:Nat} (h:aw t k):aw (fE t) (2*k+60):=by
 have y:aw (i6 t) (k+6):=(bS (a5 (bS h (nv (n:= -1132959) (by decide))) (db (n:=600) (d:=1577917828) (by decide) (by decide))) (db (n:=1) (d:=4) (by decide) (by decide))).up _ (by omega)
 have x:=nW y (db (n:= -1) (d:=2) (by decide) (by decide)) (db (n:=1) (d:=2) (by decide) (by decide))
 exact(bS (nv (n:=27) (by decide)) (a5 (nv (n:=108) (by decide)) (f7 x))).up _ (by omega)
theorem mP {t:Rat} {k:Nat} (h:aw t k):aw (bO t) (5*k+180):=(fC (bS (gM h) (qB h))).up _ (by omega)
def AF (a:Rat):Rat:=((14:Int):Rat)/((360:Int):Rat)-a.abs*(((1:Int):Rat)/((1080:Int):Rat))
def tr (x:Rat):Rat:=((360:Int):Rat)/pyr*(((1:Int):Rat)-((kQ x:Int):Rat)/((225:Int):Rat)*AF (sof x))
def xl (x:Rat):Rat:=tr x*(((1:Int):Rat)/((360:Int):Rat))*(sof x*(((573:Int):Rat)/((10:Int):Rat))*AF (sof x)*(((1:Int):Rat)/((360:Int):Rat)))*pyr
def vp (x:Rat):Rat:=((gv (prt x 12):Int):Rat)/((1800:Int):Rat)
def hQ (x:Rat):Rat:=obl*sof x
def mX (x lat:Rat):Rat:=br (-(hQ x*sof lat/sof (lat+((90:Int):Rat))/dK (hQ x)))
theorem Bh {x:Rat} {k:Nat} (h:aw x k):aw (hQ x) (k+13):=(a5 (db (n:=1397) (d:=3438) (by decide) (by decide)) (eR h)).up _ (by omega)
theorem ui {x lat:Rat} {k j:Nat} (h:aw x k) (hl:aw lat j) (hj:j<=2):aw (mX x lat) (2*k+140):=by
 have n90:aw ((90:Int):Rat) 1:=nv (by decide)
 have c:aw (dK (hQ x)) (k+50):=(eR (bB (k4 (Bh h)) n90)).up _ (by omega)
 have e:=cZ (a5 (Bh h) (eR hl)) (eR (bB hl n90))
 exact(k4 (fA (cZ e c))).up _ (by omega)
theorem nb {a:Rat} {k:Nat} (h:aw a k):aw (AF a) (k+3):=(bS (db (n:=14) (d:=360) (by decide) (by decide)) (a5 (f7 h) (db (n:=1) (d:=1080) (by decide) (by decide)))).up _ (by omega)
theorem mV {x:Rat} {k:Nat} (h:aw x k):aw (tr x) (k+40):=by
 have s:=gY (pk x)
 have st:aw (((kQ x:Int):Rat)/((225:Int):Rat)) 1:=db (by unfold kQ;omega) (by decide)
 exact(a5 tJ (bS (nv (n:=1) (by decide)) (a5 st (nb (eR h))))).up _ (by omega)
theorem xF {x:Rat} {k:Nat} (h:aw x k):aw (xl x) (3*k+100):=by
 have o:aw (((1:Int):Rat)/((360:Int):Rat)) 1:=db (by decide) (by decide)
 exact(a5 (a5 (a5 (mV h) o) (a5 (a5 (a5 (eR h) (db (n:=573) (d:=10) (by decide) (by decide))) (nb (eR h))) o)) uP).up _ (by omega)
theorem uT (x:Rat):aw (vp x) 1:=db (by unfold gv;split <;> (try split) <;> decide) (by decide)
theorem yP {t:Rat} {k:Nat} (h:aw t k):aw (eG t) (k+50):=(mV (i7 h jb)).up _ (by omega)
theorem IJ {t:Rat} {k:Nat} (h:aw t k):aw (gu t) (3*k+130):=(xF (i7 h jb)).up _ (by omega)
theorem D9 {t lat:Rat} {k j:Nat} (h:aw t k) (hl:aw lat j) (hj:j<=2):aw (fD t lat) (10*k+520):=(ui (mP h) hl hj).up _ (by omega)
theorem J3 {x:Rat} (h0:0<=x) (h1:x<((360:Int):Rat)):gJ (Rat.floor (x*(((1:Int):Rat)/((30:Int):Rat))))=prt x 12/\gX (Rat.floor (x*(((1:Int):Rat)/((30:Int):Rat))))=true:=by
 have e:Rat.floor (x*(((1:Int):Rat)/((30:Int):Rat)))=prt x 12:=by
  unfold prt
  rw[show((1:Int):Rat)/((30:Int):Rat)=((12:Int):Rat)/((360:Int):Rat) by decide+kernel]
 have b:=gD (x:=x) (n:=12) (by omega) h0 h1
 rw[e]
 exact⟨k5 (by omega) (by omega),kl (by omega) (by omega)⟩
theorem IX {k:Int}:([1670,1795,1935,1935,1795,1670].map fun z=>Value.int .i64 z)[(k%6).toNat]?=some (iv (gv k)):=by
 have h:k%6=0\/k%6=1\/k%6=2\/k%6=3\/k%6=4\/k%6=5:=by omega
 unfold gv
 rcases h with h|h|h|h|h|h <;> rw[h] <;> rfl
theorem pN (k:Int):1670<=gv k/\gv k<=1935:=by unfold gv;split <;> (try split) <;> omega
theorem cr.ll {a b c d:Int} (h:cr a b c d):aw (((a:Int):Rat)/((b:Int):Rat)) 1:=db (by have:=h.b0;have:=h.b1;have:=h.a0;have:=h.a1;omega) (by have:=h.b0;have:=h.b1;omega)
theorem cr.lm {a b c d:Int} (h:cr a b c d):aw (((c:Int):Rat)/((d:Int):Rat)) 1:=db (by have:=h.d0;have:=h.d1;have:=h.c0;have:=h.c1;omega) (by have:=h.d0;have:=h.d1;omega)
def fu (n a b c d:Int):Rat:=cC ((n:Int):Rat) (((a:Int):Rat)/((b:Int):Rat)) (((c:Int):Rat)/((d:Int):Rat)) 1 1
theorem sM {n a b c d:Int} (h:cr a b c d) (h0: -4000000<=n) (h1:n<=4000000):aw (fu n a b c d) 90:=Cu (by omega) h.ll h.lm h.la.1 h.la.2 (by decide) (by decide)
theorem Km {m q dg sg:Rat} (m0:87/100<=m) (m1:m<=111/100) (d0: -53<=dg) (d1:dg<=53) (hq:q=1/4\/q=3/4) (hs:sg=1\/sg= -1): -1<=(m*q+sg*dg)*kap/\(m*q+sg*dg)*kap<=1:=by
 have k:=nC
 have y: -55<=m*q+sg*dg/\m*q+sg*dg<=55:=by
  rcases hq with rfl|rfl <;> rcases hs with rfl|rfl <;> constructor <;> grind
 have b:=ft (a:=55) (b:=1/100) (x:=m*q+sg*dg) (y:=kap) (by grind) (by grind) y.1 y.2 (by grind) (by grind)
 constructor <;> grind
theorem Bf {n a b c d:Int} (h:cr a b c d):((n:Int):Rat)-3<=fu n a b c d/\fu n a b c d<=((n:Int):Rat)+3:=by
 have s:=iw ((n:Int):Rat)
 have f:=pw ((n:Int):Rat) h.la.1 h.la.2
 have e:=rx ((n:Int):Rat)
 have l:=h.lo
 have k:=Km (q:=((1:Int):Rat)/((4:Int):Rat)) (sg:=((1:Int):Rat)) s.1 s.2 f.1 f.2 (.inl (by decide+kernel)) (.inl rfl)
 unfold fu cC mK
 rw[show((45461:Int):Rat)/((600:Int):Rat)=45461/600 by decide+kernel,show((1:Int):Rat)/((360:Int):Rat)=1/360 by decide+kernel]
 have q:((1:Int):Rat)/((4:Int):Rat)=1/4:=by decide+kernel
 rw[q] at k ⊢
 constructor <;> grind
theorem AZ {x:Rat} {n:Int} (h0: -4000000<=n) (h1:n<=4000000) (a:((n:Int):Rat)-3<=x) (b:x<=((n:Int):Rat)+3):aw (cP x) 3:=by
 have c0:=cg h0
 have c1:=cg h1
 rw[show((-4000000:Int):Rat)= -4000000 from rfl] at c0
 rw[show((4000000:Int):Rat)=4000000 from rfl] at c1
 have e:((1048576:Int):Rat)=1048576:=rfl
 have f0: -5000000000000<=(x*((1048576:Int):Rat)).floor :=Rat.le_floor_iff.2 (by rw[e,show((-5000000000000:Int):Rat)= -5000000000000 from rfl];grind)
 have f1:(x*((1048576:Int):Rat)).floor <5000000000000:=Rat.floor_lt_iff.2 (by rw[e,show((5000000000000:Int):Rat)=5000000000000 from rfl];grind)
 exact(a5 (dE (n:=(x*((1048576:Int):Rat)).floor) (by omega) (by omega)) (db (n:=1) (d:=1048576) (by decide) (by decide))).up _ (by omega)
theorem il {n a b c d:Int} (h:cr a b c d) (h0: -4000000<=n) (h1:n<=4000000):aw (cP (fu n a b c d)) 3:=AZ h0 h1 (Bf h).1 (Bf h).2
theorem FD (x lat:Rat):br (-(sof x*(((1397:Int):Rat)/((3438:Int):Rat))*sof lat/sof (lat+((90:Int):Rat)))/sof (br (sof x*(((1397:Int):Rat)/((3438:Int):Rat)))+((90:Int):Rat)))=mX x lat:=by
 unfold mX dK hQ obl
 rw[Rat.mul_comm (sof x),Rat.div_def (-_),Rat.neg_mul,<-Rat.div_def]
theorem DV (t lat lon:Rat) (qd sg:Int) (z:Rat) (hz:z=((1577917828:Int):Rat)/((1582237828:Int):Rat)*(((1:Int):Rat)/((360:Int):Rat))*(((qd:Int):Rat)/((4:Int):Rat)*eG t*gw t+fD t lat*((sg:Int):Rat))):
 t+((qd:Int):Rat)/((4:Int):Rat)+(((45461:Int):Rat)/((600:Int):Rat)-lon)*(((1:Int):Rat)/((360:Int):Rat))+ -(gu t)+z=cC t lat lon qd sg:=by
 subst hz
 unfold cC mK kap
 grind
theorem Dw {x m:Rat} (h:0<m):rmod x m=x-m*(((x/m).floor :Int):Rat):=by unfold rmod;rw[if_neg (by grind)]
theorem Dl (t:Rat) {lat:Rat} (lon:Rat) {qd sg:Int} (hq:qd=1/\sg=1\/qd=3/\sg= -1) (h0: -60<=lat) (h1:lat<=60):985/1000<=cC (t+((1:Int):Rat)) lat lon qd sg-cC t lat lon qd sg/\cC (t+((1:Int):Rat)) lat lon qd sg-cC t lat lon qd sg<=1015/1000:=by
 rcases hq with⟨rfl,rfl⟩|⟨rfl,rfl⟩
 ·exact Du t lon h0 h1
 have e:=cE (zb t)
 have d:=cE (xD t h0 h1)
 have s:=iw t
 have s':=iw (t+((1:Int):Rat))
 have k:=nC
 unfold cC
 rw[show((3:Int):Rat)/((4:Int):Rat)=3/4 by decide+kernel,show((-1:Int):Rat)= -1 from rfl,Rat.intCast_one] at*
 generalize fD (t+1) lat=d2 at*
 generalize fD t lat=d1 at*
 generalize eG (t+1)*gw (t+1)=s2 at*
 generalize eG t*gw t=s1 at*
 generalize gu (t+1)=e2 at*
 generalize gu t=e1 at*
 have m:=ft (a:=3/4*(111/100-87/100)+27/10) (b:=27703/10000000) (x:=(s2*(3/4)+ -1*d2)-(s1*(3/4)+ -1*d1)) (y:=kap) (by grind) (by grind) (by grind) (by grind) (by grind) k.2
 constructor <;> grind
theorem DM (t d:Rat) {lat:Rat} (lon:Rat) {qd sg:Int} (hq:qd=1/\sg=1\/qd=3/\sg= -1) (h0: -60<=lat) (h1:lat<=60):d-308/1000<=cC (t+d) lat lon qd sg-cC t lat lon qd sg:=by
 have e:=rx t
 have e':=rx (t+d)
 have g:=pw t h0 h1
 have g':=pw (t+d) h0 h1
 have s:=iw t
 have s':=iw (t+d)
 have k:=nC
 unfold cC
 generalize fD (t+d) lat=d2 at*
 generalize fD t lat=d1 at*
 generalize eG (t+d)*gw (t+d)=s2 at*
 generalize eG t*gw t=s1 at*
 generalize gu (t+d)=e2 at*
 generalize gu t=e1 at*
 rcases hq with⟨rfl,rfl⟩|⟨rfl,rfl⟩
 ·rw[show((1:Int):Rat)/((4:Int):Rat)=1/4 by decide+kernel,Rat.intCast_one] at*
  have m:=ft (a:=1/4*(111/100-87/100)+106) (b:=27703/10000000) (x:=(s2*(1/4)+1*d2)-(s1*(1/4)+1*d1)) (y:=kap) (by grind) (by grind) (by grind) (by grind) (by grind) k.2
  grind
 ·rw[show((3:Int):Rat)/((4:Int):Rat)=3/4 by decide+kernel,show((-1:Int):Rat)= -1 from rfl] at*
  have m:=ft (a:=3/4*(111/100-87/100)+106) (b:=27703/10000000) (x:=(s2*(3/4)+ -1*d2)-(s1*(3/4)+ -1*d1)) (y:=kap) (by grind) (by grind) (by grind) (by grind) (by grind) k.2
  grind
theorem Ic {lon:Rat} (h0: -180<=lon) (h1:lon<=180): -(3/10)<=mK lon/\mK lon<=72/100:=by
 unfold mK
 rw[show((45461:Int):Rat)/((600:Int):Rat)=45461/600 by decide+kernel,show((1:Int):Rat)/((360:Int):Rat)=1/360 by decide+kernel]
 constructor <;> grind
theorem DD (t:Rat) {lat lon:Rat} {qd sg:Int} (hq:qd=1/\sg=1\/qd=3/\sg= -1) (h0: -60<=lat) (h1:lat<=60) (l0: -180<=lon) (l1:lon<=180):t-3/10<=cC t lat lon qd sg/\cC t lat lon qd sg<=t+17/10:=by
 have e:=rx t
 have g:=pw t h0 h1
 have s:=iw t
 have k:=nC
 have c:=Ic l0 l1
 unfold cC
 generalize fD t lat=d1 at*
 generalize eG t*gw t=s1 at*
 generalize gu t=e1 at*
 rcases hq with⟨rfl,rfl⟩|⟨rfl,rfl⟩
 ·rw[show((1:Int):Rat)/((4:Int):Rat)=1/4 by decide+kernel,Rat.intCast_one] at*
  have m:=ft (a:=1/4*(111/100)+53) (b:=27703/10000000) (x:=s1*(1/4)+1*d1) (y:=kap) (by grind) (by grind) (by grind) (by grind) (by grind) k.2
  constructor <;> grind
 ·rw[show((3:Int):Rat)/((4:Int):Rat)=3/4 by decide+kernel,show((-1:Int):Rat)= -1 from rfl] at*
  have m:=ft (a:=3/4*(111/100)+53) (b:=27703/10000000) (x:=s1*(3/4)+ -1*d1) (y:=kap) (by grind) (by grind) (by grind) (by grind) (by grind) k.2
  constructor <;> grind
def riV (lat lon:Rat) (n:Int):Rat:=cP (cC ((n:Int):Rat) lat lon 1 1)
theorem KA (n:Int):(((n+32:Int)):Rat)=((n:Int):Rat)+32:=by rw[Rat.intCast_add];rfl
theorem tg {lat:Rat} (lon:Rat) (h0: -60<=lat) (h1:lat<=60) (n:Int):98499/100000<=riV lat lon (n+1)-riV lat lon n/\riV lat lon (n+1)-riV lat lon n<=101501/100000/\3169/100+1/1000<=riV lat lon (n+32)-riV lat lon n:=by
 have a:=Dl ((n:Int):Rat) (qd:=1) (sg:=1) lon (.inl ⟨rfl,rfl⟩) h0 h1
 have b:=DM ((n:Int):Rat) 32 (qd:=1) (sg:=1) lon (.inl ⟨rfl,rfl⟩) h0 h1
 unfold riV
 rw[fX,KA]
 rw[Rat.intCast_one] at a
 have g1:=nc (cC ((n:Int):Rat) lat lon 1 1)
 have g2:=nc (cC (((n:Int):Rat)+1) lat lon 1 1)
 have g3:=nc (cC (((n:Int):Rat)+32) lat lon 1 1)
 refine⟨?_,?_,?_⟩ <;> grind
def kaV (t:Rat):Int:=(dt t*(1/30)).floor
theorem mU (t:Rat):30*((kaV t:Int):Rat)<=dt t/\dt t<30*((kaV t:Int):Rat)+30:=by
 have a:=eI (dt t*(1/30))
 have b:=fk (dt t*(1/30))
 unfold kaV
 constructor <;> grind
theorem pp {t:Rat} {k:Int} (h:30*((k:Int):Rat)<=dt t):k<=kaV t:=Rat.le_floor_iff.2 (by grind)
theorem rp {t:Rat} {k:Int} (h:dt t<30*((k:Int):Rat)):kaV t<k:=Rat.floor_lt_iff.2 (by grind)
theorem yQ (t:Rat):prt (cT t) 12=kaV t%12:=by
 rw[xJ,ul (by decide),show((12:Int):Rat)/((360:Int):Rat)=1/30 by decide+kernel]
 rfl
def Fo (t:Rat):Rat:=(t-kli)/pyr-cT t*(((1:Int):Rat)/((360:Int):Rat))
def LN (t:Rat):Int:=(Fo t+((1:Int):Rat)/((2:Int):Rat)).floor
theorem wG:(kli-cre)/pyr=((1955880000:Int):Rat):=by decide+kernel
theorem Iw (t:Rat):(dt t/((360:Int):Rat)).floor =kaV t/12:=by
 have k:=mU t
 have e:=Int.mul_ediv_add_emod (kaV t) 12
 have m0:=Int.emod_nonneg (kaV t) (b:=12) (by omega)
 have m1:=Int.emod_lt_of_pos (kaV t) (b:=12) (by omega)
 have q0:12*(kaV t/12)<=kaV t:=by omega
 have q1:kaV t<=12*(kaV t/12)+11:=by omega
 have c0:=Rat.intCast_le_intCast.2 q0
 have c1:=Rat.intCast_le_intCast.2 q1
 rw[Rat.intCast_add,Rat.intCast_mul] at c1
 rw[Rat.intCast_mul] at c0
 rw[show((12:Int):Rat)=12 from rfl] at c0 c1
 rw[show((11:Int):Rat)=11 from rfl] at c1
 have r:((360:Int):Rat)=360:=rfl
 have p:(0:Rat)<360:=by decide+kernel
 have a:kaV t/12<=(dt t/((360:Int):Rat)).floor :=Rat.le_floor_iff.2 (Rat.not_lt.1 fun h=>by rw[r,Rat.div_lt_iff p] at h;grind)
 have b:(dt t/((360:Int):Rat)).floor <kaV t/12+1:=Rat.floor_lt_iff.2 (by rw[r,Rat.div_lt_iff p,Rat.intCast_add,Rat.intCast_one];grind)
 omega
theorem CA (t:Rat):LN t=kaV t/12-1955880000:=by
 have n:=cE (jd t)
 rw[show((22:Int):Rat)/((10:Int):Rat)=22/10 by decide+kernel] at n
 have y:(t-kli)/pyr=bl t pyr-((1955880000:Int):Rat):=by
  rw[<-wG]
  unfold bl
  have:=kd
  grind
 have x:Fo t=de t/360+(((kaV t/12-1955880000:Int)):Rat):=by
  unfold Fo
  rw[y,xJ,Dw (by decide+kernel),Iw,Rat.intCast_sub]
  unfold dt
  rw[show((1:Int):Rat)/((360:Int):Rat)=1/360 by decide+kernel,show((360:Int):Rat)=360 from rfl]
  grind
 unfold LN
 rw[x,Rat.add_assoc,Rat.add_comm (((kaV t/12-1955880000:Int)):Rat),<-Rat.add_assoc,Rat.floor_add_intCast]
 have f:(de t/360+((1:Int):Rat)/((2:Int):Rat)).floor =0:=by
  rw[show((1:Int):Rat)/((2:Int):Rat)=1/2 by decide+kernel]
  have a:(0:Int)<=(de t/360+1/2).floor :=Rat.le_floor_iff.2 (by rw[Rat.intCast_zero];grind)
  have b:(de t/360+1/2).floor <1:=Rat.floor_lt_iff.2 (by rw[Rat.intCast_one];grind)
  omega
 rw[f]
 omega
theorem el {t u:Rat} (h:t<=u):9471/10000*(u-t)<=dt u-dt t/\dt u-dt t<=10242/10000*(u-t):=by
 have:=wQ t (d:=u-t) (by grind)
 rw[show t+(u-t)=u by grind] at this
 exact this
theorem Mn {t u:Rat} (h:t<=u):kaV t<=kaV u:=by
 have s:=el h
 have b:=mU t
 exact pp (by grind)
theorem Hw {t u:Rat} (h:t+27<=u) (g:u<=t+32):kaV t<=kaV u/\kaV u<=kaV t+2:=by
 have s:=el (t:=t) (u:=u) (by grind)
 have b:=mU t
 refine⟨Mn (by grind),?_⟩
 have c:kaV u<kaV t+3:=rp (by rw[Rat.intCast_add,show((3:Int):Rat)=3 from rfl];grind)
 omega
theorem wl {t u:Rat} (h:t+55<=u):kaV t<kaV u:=by
 have s:=el (t:=t) (u:=u) (by grind)
 have b:=mU t
 have c:kaV t+1<=kaV u:=pp (by rw[Rat.intCast_add,Rat.intCast_one];grind)
 omega
theorem MX {t:Rat} (h0: -3900010<=t) (h1:t<=3900010):12*(1955880000+3179-11000)<=kaV t/\kaV t<12*(1955880000+3179+11000):=by
 have n:=cE (jd t)
 rw[show((22:Int):Rat)/((10:Int):Rat)=22/10 by decide+kernel] at n
 have p:=kd
 have a:(-3900010-cre)/pyr<=bl t pyr:=by
  unfold bl
  exact Rat.not_lt.1 fun q=>by rw[Rat.div_lt_iff p,Rat.div_mul_cancel (by grind)] at q;grind
 have b:bl t pyr<=(3900010-cre)/pyr:=by
  unfold bl
  exact Rat.not_lt.1 fun q=>by rw[Rat.div_lt_iff p,Rat.div_mul_cancel (by grind)] at q;grind
 have a2:1955880000+3179-10999<=(-3900010-cre)/pyr:=by decide+kernel
 have b2:(3900010-cre)/pyr<=1955880000+3179+10999:=by decide+kernel
 constructor
 ·refine pp ?_
  unfold dt
  rw[show((360:Int):Rat)=360 from rfl,show((12*(1955880000+3179-11000):Int):Rat)=12*(1955880000+3179-11000) by decide+kernel]
  grind
 ·refine rp ?_
  unfold dt
  rw[show((360:Int):Rat)=360 from rfl,show((12*(1955880000+3179+11000):Int):Rat)=12*(1955880000+3179+11000) by decide+kernel]
  grind
def fx (s:Int):Rat:=pyr*(((s:Int):Rat)/((12:Int):Rat))+((-1132959:Int):Rat)
theorem zQ (s:Int):dt (fx s)=30*(((s+23470560000:Int)):Rat)-de (fx s):=by
 have e:bl (fx s) pyr=((s:Int):Rat)/((12:Int):Rat)+((1955880000:Int):Rat):=by
  rw[<-wG]
  unfold bl fx kli
  have:=kd
  grind
 unfold dt
 rw[e,show((360:Int):Rat)=360 from rfl,show((12:Int):Rat)=12 from rfl,Rat.intCast_add,show((1955880000:Int):Rat)=1955880000 from rfl,show((23470560000:Int):Rat)=23470560000 from rfl]
 grind
theorem rP {a b c d:Int} (h:cr a b c d):plE a b c d=0:=by unfold plE;rw[if_pos ⟨decide_eq_true ⟨h.b0,h.b1,h.a0,h.a1⟩,decide_eq_true ⟨h.d0,h.d1,h.c0,h.c1⟩⟩]
end Go.Proofs.YtddiipaomejcfaaGreatDoor
