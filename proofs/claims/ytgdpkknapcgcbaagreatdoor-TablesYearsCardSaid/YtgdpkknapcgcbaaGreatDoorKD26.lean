import Derived.Test.YtgdpkknapcgcbaaGreatDoorKD17
import Derived.Test.YtgdpkknapcgcbaaGreatDoorKD25
namespace Go.Proofs.YtgdpkknapcgcbaaGreatDoor
open Go.RowKit
set_option maxRecDepth 100000
set_option linter.unusedVariables false
set_option maxHeartbeats 8000000
def Dv (q:Rat) (D:Nat):Prop:=∃n:Int,q*((D:Nat):Rat)=((n:Int):Rat)
theorem Dv.int (n:Int):Dv ((n:Int):Rat) 1:=⟨n,by rw[show((1:Nat):Rat)=1 from rfl];grind⟩
theorem Dv.frc (n:Int) {D:Nat} (h:0<D):Dv (((n:Int):Rat)/(((D:Nat):Int):Rat)) D:=⟨n,by
 rw[Rat.intCast_natCast]
 exact Rat.div_mul_cancel (by have:=Rat.natCast_pos.2 h;grind)⟩
theorem Dv.add {p q:Rat} {D:Nat} (h:Dv p D) (g:Dv q D):Dv (p+q) D:=by
 obtain⟨n,h⟩:=h
 obtain⟨m,g⟩:=g
 exact⟨n+m,by rw[Rat.intCast_add];grind⟩
theorem Dv.neg {p:Rat} {D:Nat} (h:Dv p D):Dv (-p) D:=by
 obtain⟨n,h⟩:=h
 exact⟨-n,by rw[Rat.intCast_neg];grind⟩
theorem Dv.sub {p q:Rat} {D:Nat} (h:Dv p D) (g:Dv q D):Dv (p-q) D:=by rw[Rat.sub_eq_add_neg];exact h.add g.neg
theorem Dv.abs {p:Rat} {D:Nat} (h:Dv p D):Dv p.abs D:=by
 unfold Rat.abs
 split
 ·exact h
 ·exact h.neg
theorem Dv.mul {p q:Rat} {D E:Nat} (h:Dv p D) (g:Dv q E):Dv (p*q) (D*E):=by
 obtain⟨n,h⟩:=h
 obtain⟨m,g⟩:=g
 exact⟨n*m,by rw[Rat.intCast_mul,Rat.natCast_mul];grind⟩
theorem Dv.mulI {p:Rat} {D:Nat} (n:Int) (h:Dv p D):Dv (p*((n:Int):Rat)) D:=by
 have:=h.mul (Dv.int n)
 rwa[Nat.mul_one] at this
theorem Dv.up {p:Rat} {D:Nat} (h:Dv p D) (E:Nat):Dv p (D*E):=by
 obtain⟨n,h⟩:=h
 exact⟨n*(E:Int),by rw[Rat.intCast_mul,Rat.natCast_mul,Rat.intCast_natCast];grind⟩
theorem Dv.cast {p q:Rat} {D E:Nat} (h:Dv p D) (e:p=q) (f:D=E):Dv q E:=by subst e;subst f;exact h
theorem Dv.addI {p:Rat} {D:Nat} (n:Int) (h:Dv p D):Dv (p+((n:Int):Rat)) D:=h.add (((Dv.int n).up D).cast rfl (Nat.one_mul D))
theorem Dv.mfr {p:Rat} {D:Nat} (h:Dv p D):Dv (mfr p) D:=by rw[tl];exact h.addI _
theorem Dv.rmod {p:Rat} {D:Nat} (h:Dv p D):Dv (rmod p ((360:Int):Rat)) D:=by
 rw[eF bQ,<-Rat.intCast_mul];exact h.addI _
theorem Dv.den {p:Rat} {D:Nat} (h:Dv p D) (hD:0<D):p.den<=D:=by
 obtain⟨n,h⟩:=h
 have hd:=Rat.natCast_pos.2 hD
 have e:p=mkRat n D:=by
  rw[Rat.mkRat_eq_div,<-h,Rat.div_def,Rat.mul_assoc,Rat.mul_inv_cancel _ (by grind),Rat.mul_one]
 rw[e,Rat.den_mkRat,if_neg (by omega)]
 exact Nat.div_le_self _ _
theorem nV (d:Int) {n:Int} {D:Nat} (hn:n≠0) (hD:0<D):Dv (aW ((d:Int):Rat) ((((D:Nat):Int):Rat)/((n:Int):Rat))) D:=by
 have e:aW ((d:Int):Rat) ((((D:Nat):Int):Rat)/((n:Int):Rat))=((n:Int):Rat)/(((D:Nat):Int):Rat)*((d+714403429586:Int):Rat):=by
  have hn':((n:Int):Rat)≠0:=fun h=>hn (Rat.intCast_inj.1 (by rw[h];rfl))
  have hD':(((D:Nat):Int):Rat)≠0:=fun h=>by
   have:((D:Nat):Int)=0:=Rat.intCast_inj.1 (by rw[h];rfl)
   omega
  unfold aW cre
  rw[Rat.intCast_add,show((-714403429586:Int):Rat)= -714403429586 from rfl,show((714403429586:Int):Rat)=714403429586 from rfl]
  generalize ((n:Int):Rat)=x at*
  generalize (((D:Nat):Int):Rat)=y at*
  rw[Rat.div_def,Rat.div_def,Rat.div_def,Rat.inv_mul_rev,Rat.inv_inv]
  grind
 rw[e]
 exact(Dv.frc n hD).mulI _
theorem zc {t p:Rat} {D:Nat} (hp:0<p) (h:Dv (aW t p) D):Dv (mof t p) D:=by
 rw[pG hp];exact h.mfr.mulI _
theorem Fo {t p:Rat} {D:Nat} (hp:0<p) (h:Dv (aW t p) D):Dv (sof (mof t p)) (D*3438):=by
 rw[<-lV,pO]
 have e:mof t p/wd=mfr (aW t p)*((96:Int):Rat):=by
  rw[pG hp,dH,show((96:Int):Rat)=96 from rfl,dE];grind
 have m:Dv (mfr (mof t p/wd)) D:=by rw[e];exact(h.mfr.mulI _).mfr
 rw[Rat.div_def]
 have i:Dv (((3438:Int):Rat))⁻¹ 3438:=⟨1,by decide+kernel⟩
 refine Dv.mul ?_ i
 rw[Rat.add_comm]
 exact(m.mulI _).addI _
theorem GB {a s c:Rat} {D E F:Nat} (h:Dv a D) (hs:Dv s E) (hc:Dv c F):Dv (epi a s c) (D*(D*F*E)):=by
 unfold epi
 refine h.mul (Dv.sub ?_ ((h.abs.mul hc).mul hs))
 exact(hs.up (D*F)).cast rfl (Nat.mul_comm _ _)
theorem F0 {x:Rat} {D:Nat} (h:Dv x D) (h0: -449<=x*3438) (h1:x*3438<=449):Dv (a6 x) (D*224*225*4):=by
 have g:Dv (x*3438) D:=h.mulI 3438
 have i4:Dv wd 4:=⟨15,by decide+kernel⟩
 have i224:Dv (((1:Int):Rat)/((224:Int):Rat)) 224:=Dv.frc 1 (by decide)
 have i225:Dv (((1:Int):Rat)/((225:Int):Rat)) 225:=Dv.frc 1 (by decide)
 unfold a6
 rw[dX]
 refine Dv.mul ?_ i4
 rcases xp h0 h1 with⟨_,e⟩|⟨_,_,e⟩|⟨_,e⟩ <;> rw[e]
 ·refine Dv.up (((((g.addI 225).mul i224).addI (-1)).cast ?_ rfl)) 225
  rw[show((225:Int):Rat)=225 from rfl,show((1:Int):Rat)/((224:Int):Rat)=1/224 by decide+kernel,show((-1:Int):Rat)= -1 from rfl];grind
 ·refine((g.mul i225).up 224).cast ?_ (by rw[Nat.mul_right_comm])
  rw[show((1:Int):Rat)/((225:Int):Rat)=1/225 by decide+kernel];grind
 ·refine Dv.up (((((g.addI (-225)).mul i224).addI 1).cast ?_ rfl)) 225
  rw[show((-225:Int):Rat)= -225 from rfl,show((1:Int):Rat)/((224:Int):Rat)=1/224 by decide+kernel,show((1:Int):Rat)=1 from rfl];grind
theorem FB {t an s c:Rat} {D E F:Nat} (ha:0<an) (h:Dv (aW t an) D) (hs:Dv s E) (hc:Dv c F) (s0:0<=s) (s1:s*3438<=449) (c0:0<=c) (c1:2*c<=1):Dv (eqv t an s c) (D*3438*(D*3438*F*E)*224*225*4):=by
 have b:=dN (mof t an)
 have e:=lQ (s:=s) (c:=c) b.1 b.2 s0 c0 c1
 have cs:=Rat.mul_nonneg s0 c0
 exact F0 (GB (Fo ha h) hs hc) (by grind) (by grind)
def DS:Nat:=1577917828000*3438*(1577917828000*3438*42*180)*224*225*4
theorem Gk (d:Int):Dv (cV ((d:Int):Rat)) DS:=by
 have m:=zc fJ (nV d (n:=4320000000) (D:=1577917828000) (by decide) (by decide))
 have e:=FB (s:=ssz) (c:=sch) (E:=180) (F:=42) gh (nV d (n:=4319999613) (D:=1577917828000) (by decide) (by decide)) ⟨7,by decide+kernel⟩ ⟨1,by decide+kernel⟩ (by decide+kernel) (by decide+kernel) (by decide+kernel) (by decide+kernel)
 exact((((m.up (3438*(1577917828000*3438*42*180)*224*225*4)).cast rfl (by decide+kernel)).sub e).rmod)
theorem Dv.self (q:Rat):Dv q q.den:=⟨q.num,by
 have dp:=Rat.natCast_pos.2 q.den_pos
 have h1:q=(q.num:Rat)/(q.den:Rat):=by rw[<-Rat.mkRat_eq_div,Rat.mkRat_self]
 have:q*(q.den:Rat)=(q.num:Rat)/(q.den:Rat)*(q.den:Rat):=by rw[<-h1]
 rw[this,Rat.div_mul_cancel (by grind)]⟩
theorem D6 {p:Rat} {m D:Nat} (h0: -((m:Nat):Rat)<=p) (h1:p<=((m:Nat):Rat)) (hd:p.den<=D):p.num.natAbs<=m*D:=by
 have dp:=Rat.natCast_pos.2 p.den_pos
 have e:(p.num:Rat)=p*(p.den:Rat):=by
  have h1:p=(p.num:Rat)/(p.den:Rat):=by rw[<-Rat.mkRat_eq_div,Rat.mkRat_self]
  have:p*(p.den:Rat)=(p.num:Rat)/(p.den:Rat)*(p.den:Rat):=by rw[<-h1]
  rw[this,Rat.div_mul_cancel (by grind)]
 have m1:=Rat.mul_le_mul_of_nonneg_right (c:=(p.den:Rat)) h1 (by grind)
 have m0:=Rat.mul_le_mul_of_nonneg_right (c:=(p.den:Rat)) h0 (by grind)
 rw[<-e] at m1 m0
 have a1:p.num<=((m*p.den:Nat):Int):=Rat.intCast_le_intCast.1 (by rw[Rat.intCast_natCast,Rat.natCast_mul];exact m1)
 have a0: -((m*p.den:Nat):Int)<=p.num:=Rat.intCast_le_intCast.1 (by rw[Rat.intCast_neg,Rat.intCast_natCast,Rat.natCast_mul];grind)
 have:=Nat.mul_le_mul_left m hd
 omega
theorem mF {p:Rat} {m D k:Nat} (hv:Dv p D) (hD:0<D) (h0: -((m:Nat):Rat)<=p) (h1:p<=((m:Nat):Rat)) (hm:0<m) (hk:m*D<B32^k):ag p k:=by
 have hd:=hv.den hD
 have hn:=D6 h0 h1 hd
 refine⟨show _<_ from Nat.lt_of_le_of_lt hn hk,show _<_ from Nat.lt_of_le_of_lt (Nat.le_trans hd (Nat.le_mul_of_pos_left D hm)) hk⟩
theorem xA {d c k:Nat} (h:d<B32^k) (hc:c<=4294967296) (h0:0<c):c*d<B32^(k+1):=by
 rw[Nat.pow_succ,Nat.mul_comm (B32^k)]
 exact Nat.lt_of_lt_of_le (Nat.mul_lt_mul_of_pos_left h h0) (Nat.mul_le_mul_right _ hc)
theorem gW {x:Rat} {k:Nat} (h:ag x k):ag (sof x) (k+1):=by
 have b:=dN x
 have m:Dv (mfr (x/wd)) (x.den*15):=by
  refine Dv.mfr ?_
  have i:Dv (((4:Int):Rat)/((15:Int):Rat)) 15:=Dv.frc 4 (by decide)
  refine((Dv.self x).mul i).cast ?_ rfl
  rw[dH,show((4:Int):Rat)/((15:Int):Rat)=4/15 by decide+kernel];grind
 have i:Dv (((3438:Int):Rat))⁻¹ 3438:=⟨1,by decide+kernel⟩
 have v:Dv (sof x) (x.den*15*3438):=by
  rw[<-lV,pO,Rat.div_def]
  refine Dv.mul ?_ i
  rw[Rat.add_comm]
  exact(m.mulI _).addI _
 have dp:=x.den_pos
 refine mF (m:=1) v (by omega) b.1 b.2 (by decide) ?_
 have:=xA (c:=51570) (show x.den<B32^k from h.2) (by decide) (by decide)
 rw[show 1*(x.den*15*3438)=51570*x.den by omega]
 exact this
theorem Ch {h:Rat} {D:Nat} (v:Dv h D):∃e:Nat,0<e/\e<=225/\Dv (ay h) (D*e):=by
 by_cases c:yk h<24
 ·have up:=mz (k:=((yk h:Nat):Int)) (by omega) (by omega)
  have st:=gU ((yk h:Nat):Int)
  refine⟨(spk (((yk h:Nat):Int)+1)-spk ((yk h:Nat):Int)).toNat,by omega,by omega,?_⟩
  have ee:(((spk (((yk h:Nat):Int)+1)-spk ((yk h:Nat):Int)).toNat :Nat):Int)=spk (((yk h:Nat):Int)+1)-spk ((yk h:Nat):Int):=by omega
  unfold ay
  rw[if_pos c]
  have i:=Dv.frc 1 (D:=(spk (((yk h:Nat):Int)+1)-spk ((yk h:Nat):Int)).toNat) (by omega)
  rw[ee] at i
  refine Dv.addI _ (((v.addI (-spk ((yk h:Nat):Int))).mul i).cast ?_ rfl)
  rw[Rat.intCast_neg,Rat.intCast_one,Rat.div_def,Rat.div_def];grind
 ·refine⟨1,by decide,by decide,?_⟩
  unfold ay
  rw[if_neg c]
  exact((Dv.int 24).up D).cast rfl (by omega)
theorem qu {y:Rat} {k:Nat} (h:ag y k) (h0: -1<=y) (h1:y<=1):ag (a6 y) (k+1):=by
 have b:=jY h0 h1
 have v:Dv (y*((3438:Int):Rat)) y.den:=(Dv.self y).mulI _
 have w4:Dv wd 4:=⟨15,by decide+kernel⟩
 obtain⟨e,e0,e1,q⟩:∃e:Nat,0<e/\e<=225/\Dv (ap (y*((3438:Int):Rat))) (y.den*e):=by
  unfold ap
  split
  ·obtain⟨e,e0,e1,q⟩:=Ch v.neg
   exact⟨e,e0,e1,q.neg⟩
  ·exact Ch v
 have r:Dv (a6 y) (y.den*e*4):=q.mul w4
 have dp:=y.den_pos
 refine mF (m:=90) r (Nat.mul_pos (Nat.mul_pos dp e0) (by decide)) ?_ ?_ (by decide) ?_
 ·have:=b.1;rw[show((-90:Int):Rat)= -90 from rfl] at this;exact this
 ·exact b.2
 ·have:=xA (c:=81000) (show y.den<B32^k from h.2) (by decide) (by decide)
  have m:=Nat.mul_le_mul_left y.den e1
  rw[show 90*(y.den*e*4)=360*(y.den*e) by omega]
  omega
theorem jM {n:Int} (h:n.natAbs<4294967296):ag ((n:Int):Rat) 1:=ch (show n.natAbs<B32^1 from by rw[Nat.pow_one];exact h) (by decide)
theorem cL {n d:Int} (h:n.natAbs<4294967296) (g:d.natAbs<4294967296):ag (((n:Int):Rat)/((d:Int):Rat)) 1:=(eK (a:=1) (b:=1) (show n.natAbs<B32^1 from by rw[Nat.pow_one];exact h) (show d.natAbs<B32^1 from by rw[Nat.pow_one];exact g)).up 1 (by decide)
theorem Dd (d:Int):Dv (cM ((d:Int):Rat)) 6311671312:=by
 have y:Dv (ed ((d:Int):Rat)) 6311671312:=⟨(d+1132959)*2400-1577917828,by
  unfold ed kli
  rw[Rat.intCast_sub,Rat.intCast_mul,Rat.intCast_add]
  rw[show((600:Int):Rat)/((1577917828:Int):Rat)=600/1577917828 by decide+kernel,show((1:Int):Rat)/((4:Int):Rat)=1/4 by decide+kernel,show((-1132959:Int):Rat)= -1132959 from rfl,show((1132959:Int):Rat)=1132959 from rfl,show((2400:Int):Rat)=2400 from rfl,show((1577917828:Int):Rat)=1577917828 from rfl,show((6311671312:Nat):Rat)=6311671312 from rfl]
  grind⟩
 have x:Dv (tR ((d:Int):Rat)) 6311671312:=by
  unfold tR
  rw[ja.1,ja.2]
  obtain⟨n,e⟩:∃n:Int,cO (ed ((d:Int):Rat)) (-1/2) (1/2)=ed ((d:Int):Rat)+((n:Int):Rat):=by
   refine⟨-((ed ((d:Int):Rat)- -1/2)/(1/2- -1/2)).floor,?_⟩
   unfold cO
   rw[if_neg (by grind)]
   unfold rmod
   rw[if_neg (by grind),Rat.intCast_neg]
   grind
  rw[e];exact y.addI n
 unfold cM
 have a:=(x.abs.mulI 108).neg.addI 27
 exact a.cast (by grind) rfl
theorem zv (d:Int):ag (cg ((d:Int):Rat)) 6:=by
 have s:=(Gk d).up 6311671312
 have p:=((Dd d).up DS).cast rfl (Nat.mul_comm _ _)
 have v:Dv (cg ((d:Int):Rat)) (DS*6311671312):=(s.sub p).rmod
 have l:(0:Rat)<=cg ((d:Int):Rat):=fv bQ
 have u:cg ((d:Int):Rat)<((360:Int):Rat):=eI bQ
 rw[dE] at u
 exact mF (m:=360) v (by decide+kernel) (by rw[show((360:Nat):Rat)=360 from rfl];grind) (by rw[show((360:Nat):Rat)=360 from rfl];grind) (by decide) (by decide+kernel)
theorem zu (d:Int) {lat:Rat} (hl:ag lat 1) (h0: -60<=lat) (h1:lat<=60):ag (dW ((d:Int):Rat) lat) 27:=by
 have a:=gW (zv d)
 have hb:=my ((d:Int):Rat)
 have h:ag (hV ((d:Int):Rat)) 8:=(aM (cL (n:=1397) (d:=3438) (by decide) (by decide)) a).up _ (by omega)
 have hb':=hb
 rw[iz] at hb'
 have n90:ag ((90:Int):Rat) 1:=jM (by decide)
 have c:ag (bz (hV ((d:Int):Rat))) 12:=(gW (a9 (qu h (by grind) (by grind)) n90)).up _ (by omega)
 have e:ag (eV ((d:Int):Rat) lat) 14:=(cZ (aM h (gW hl)) (gW (a9 hl n90))).up _ (by omega)
 have q:=kA ((d:Int):Rat) h0 h1
 have l:ag (quo ((d:Int):Rat) lat) 26:=(cZ e c).up _ (by omega)
 have r:=qu (y:= -(quo ((d:Int):Rat) lat)) (fu l) (by grind) (by grind)
 exact r
theorem tO (d:Int):ag (mof ((d:Int):Rat) pay) 2:=by
 have v:=zc gh (nV d (n:=4319999613) (D:=1577917828000) (by decide) (by decide))
 have l:=DP ((d:Int):Rat) pay
 have u:=AY ((d:Int):Rat) pay
 rw[dE] at u
 exact mF (m:=360) v (by decide) (by rw[show((360:Nat):Rat)=360 from rfl];grind) (by rw[show((360:Nat):Rat)=360 from rfl];grind) (by decide) (by decide+kernel)
theorem qR (d:Int):ag (jR ((d:Int):Rat)) 6:=(bV (cL (n:=14) (d:=360) (by decide) (by decide)) (aM (jj (gW (tO d))) (cL (n:=1) (d:=1080) (by decide) (by decide)))).up _ (by omega)
theorem qN:ag (((360:Int):Rat)/pyr) 1:=by
 refine⟨?_,?_⟩
 ·show _<_;decide+kernel
 ·show _<_;decide+kernel
theorem sJ:ag pyr 1:=by
 refine⟨?_,?_⟩
 ·show _<_;decide+kernel
 ·show _<_;decide+kernel
theorem sQ (d:Int):ag (dI ((d:Int):Rat)) 10:=by
 have s:=gU (pk (mof ((d:Int):Rat) pay))
 have st:ag (((jC (mof ((d:Int):Rat) pay):Int):Rat)/((225:Int):Rat)) 1:=cL (by unfold jC;omega) (by decide)
 exact(aM qN (bV (jM (n:=1) (by decide)) (aM st (qR d)))).up _ (by omega)
theorem BZ (t:Rat):ag (eN t) 1:=cL (by unfold gI;split <;> (try split) <;> decide) (by decide)
theorem BX (d:Int):ag (fl ((d:Int):Rat)) 24:=by
 have o:ag (((1:Int):Rat)/((360:Int):Rat)) 1:=cL (by decide) (by decide)
 exact(aM (aM (aM (sQ d) o) (aM (aM (aM (gW (tO d)) (cL (n:=573) (d:=10) (by decide) (by decide))) (qR d)) o)) sJ).up _ (by omega)
theorem qA {d:Int} {lat lon:Rat} {qd sg:Int} (hd:d.natAbs<4294967296) (hl:ag lat 1) (hn:ag lon 1) (h0: -60<=lat) (h1:lat<=60) (hq:qd.natAbs<10) (hs:sg.natAbs<10):ag (bn ((d:Int):Rat) lat lon qd sg) 90:=by
 have o:ag (((1:Int):Rat)/((360:Int):Rat)) 1:=cL (by decide) (by decide)
 have q:ag (((qd:Int):Rat)/((4:Int):Rat)) 1:=cL (by omega) (by decide)
 have ea:ag (jJ lon) 4:=(aM (bV (cL (n:=45461) (d:=600) (by decide) (by decide)) hn) o).up _ (by omega)
 have ka:ag kap 2:=(aM (cL (n:=1577917828) (d:=1582237828) (by decide) (by decide)) o).up _ (by omega)
 have si:=a9 (aM (aM (sQ d) (BZ ((d:Int):Rat))) q) (aM (jM (n:=sg) (by omega)) (zu d hl h0 h1))
 exact(a9 (a9 (a9 (jM hd) q) (bV ea (BX d))) (aM si ka)).up _ (by omega)
theorem y5 {x:Rat} {k:Nat} (h:ag x k):ag (bK x) (k+10):=by
 have a:=aM h (el (n:=1048576) (by decide) (by decide))
 have f:=ch (gH a) (by omega)
 exact(aM f (cL (n:=1) (d:=1048576) (by decide) (by decide))).up _ (by omega)
theorem rP {t:Rat} {k:Nat} (h:ag t k):ag (cM t) (2*k+60):=by
 have y:ag (ed t) (k+6):=(bV (aM (bV h (jM (n:= -1132959) (by decide))) (cL (n:=600) (d:=1577917828) (by decide) (by decide))) (cL (n:=1) (d:=4) (by decide) (by decide))).up _ (by omega)
 have x:=qQ y (cL (n:= -1) (d:=2) (by decide) (by decide)) (cL (n:=1) (d:=2) (by decide) (by decide))
 exact(bV (jM (n:=27) (by decide)) (aM (jM (n:=108) (by decide)) (jj x))).up _ (by omega)
theorem B5 {t:Rat} {k:Nat} (h:ag t k):ag (cg t) (5*k+180):=(fj (bV (gQ h) (rP h))).up _ (by omega)
def xm (a:Rat):Rat:=((14:Int):Rat)/((360:Int):Rat)-a.abs*(((1:Int):Rat)/((1080:Int):Rat))
def qg (x:Rat):Rat:=((360:Int):Rat)/pyr*(((1:Int):Rat)-((jC x:Int):Rat)/((225:Int):Rat)*xm (sof x))
def rV (x:Rat):Rat:=qg x*(((1:Int):Rat)/((360:Int):Rat))*(sof x*(((573:Int):Rat)/((10:Int):Rat))*xm (sof x)*(((1:Int):Rat)/((360:Int):Rat)))*pyr
def tv (x:Rat):Rat:=((gI (prt x 12):Int):Rat)/((1800:Int):Rat)
def hQ (x:Rat):Rat:=obl*sof x
def kJ (x lat:Rat):Rat:=a6 (-(hQ x*sof lat/sof (lat+((90:Int):Rat))/bz (hQ x)))
theorem xX {x:Rat} {k:Nat} (h:ag x k):ag (hQ x) (k+13):=(aM (cL (n:=1397) (d:=3438) (by decide) (by decide)) (d9 h)).up _ (by omega)
theorem xz {x lat:Rat} {k j:Nat} (h:ag x k) (hl:ag lat j) (hj:j<=2):ag (kJ x lat) (2*k+140):=by
 have n90:ag ((90:Int):Rat) 1:=jM (by decide)
 have c:ag (bz (hQ x)) (k+50):=(d9 (a9 (kM (xX h)) n90)).up _ (by omega)
 have e:=cZ (aM (xX h) (d9 hl)) (d9 (a9 hl n90))
 exact(kM (fu (cZ e c))).up _ (by omega)
theorem ls {a:Rat} {k:Nat} (h:ag a k):ag (xm a) (k+3):=(bV (cL (n:=14) (d:=360) (by decide) (by decide)) (aM (jj h) (cL (n:=1) (d:=1080) (by decide) (by decide)))).up _ (by omega)
theorem nQ {x:Rat} {k:Nat} (h:ag x k):ag (qg x) (k+40):=by
 have s:=gU (pk x)
 have st:ag (((jC x:Int):Rat)/((225:Int):Rat)) 1:=cL (by unfold jC;omega) (by decide)
 exact(aM qN (bV (jM (n:=1) (by decide)) (aM st (ls (d9 h))))).up _ (by omega)
theorem BG {x:Rat} {k:Nat} (h:ag x k):ag (rV x) (3*k+100):=by
 have o:ag (((1:Int):Rat)/((360:Int):Rat)) 1:=cL (by decide) (by decide)
 exact(aM (aM (aM (nQ h) o) (aM (aM (aM (d9 h) (cL (n:=573) (d:=10) (by decide) (by decide))) (ls (d9 h))) o)) sJ).up _ (by omega)
theorem AH (x:Rat):ag (tv x) 1:=cL (by unfold gI;split <;> (try split) <;> decide) (by decide)
theorem Gc {x:Rat} (h0:0<=x) (h1:x<((360:Int):Rat)):fx (Rat.floor (x*(((1:Int):Rat)/((30:Int):Rat))))=prt x 12/\fN (Rat.floor (x*(((1:Int):Rat)/((30:Int):Rat))))=true:=by
 have e:Rat.floor (x*(((1:Int):Rat)/((30:Int):Rat)))=prt x 12:=by
  unfold prt
  rw[show((1:Int):Rat)/((30:Int):Rat)=((12:Int):Rat)/((360:Int):Rat) by decide+kernel]
 have b:=j6 (x:=x) (n:=12) (by omega) h0 h1
 rw[e]
 exact⟨jp (by omega) (by omega),iZ (by omega) (by omega)⟩
theorem EJ {k:Int}:([1670,1795,1935,1935,1795,1670].map fun z=>Value.int .i64 z)[(k%6).toNat]?=some (iv (gI k)):=by
 have h:k%6=0\/k%6=1\/k%6=2\/k%6=3\/k%6=4\/k%6=5:=by omega
 unfold gI
 rcases h with h|h|h|h|h|h <;> rw[h] <;> rfl
theorem mG (k:Int):1670<=gI k/\gI k<=1935:=by unfold gI;split <;> (try split) <;> omega
theorem aZ.ll {a b c d:Int} (h:aZ a b c d):ag (((a:Int):Rat)/((b:Int):Rat)) 1:=cL (by have:=h.b0;have:=h.b1;have:=h.a0;have:=h.a1;omega) (by have:=h.b0;have:=h.b1;omega)
theorem aZ.lm {a b c d:Int} (h:aZ a b c d):ag (((c:Int):Rat)/((d:Int):Rat)) 1:=cL (by have:=h.d0;have:=h.d1;have:=h.c0;have:=h.c1;omega) (by have:=h.d0;have:=h.d1;omega)
def dF (n a b c d:Int):Rat:=bn ((n:Int):Rat) (((a:Int):Rat)/((b:Int):Rat)) (((c:Int):Rat)/((d:Int):Rat)) 1 1
def gP (n a b c d:Int):Rat:=bn ((n:Int):Rat) (((a:Int):Rat)/((b:Int):Rat)) (((c:Int):Rat)/((d:Int):Rat)) 3 (-1)
theorem uX {n a b c d:Int} (h:aZ a b c d) (h0: -4000000<=n) (h1:n<=4000000):ag (dF n a b c d) 90:=qA (by omega) h.ll h.lm h.la.1 h.la.2 (by decide) (by decide)
theorem vc {n a b c d:Int} (h:aZ a b c d) (h0: -4000000<=n) (h1:n<=4000000):ag (gP n a b c d) 90:=qA (by omega) h.ll h.lm h.la.1 h.la.2 (by decide) (by decide)
theorem xN {m q dg sg:Rat} (m0:87/100<=m) (m1:m<=111/100) (d0: -53<=dg) (d1:dg<=53) (hq:q=1/4\/q=3/4) (hs:sg=1\/sg= -1): -1<=(m*q+sg*dg)*kap/\(m*q+sg*dg)*kap<=1:=by
 have k:=j3
 have y: -55<=m*q+sg*dg/\m*q+sg*dg<=55:=by
  rcases hq with rfl|rfl <;> rcases hs with rfl|rfl <;> constructor <;> grind
 have b:=dL (a:=55) (b:=1/100) (x:=m*q+sg*dg) (y:=kap) (by grind) (by grind) y.1 y.2 (by grind) (by grind)
 constructor <;> grind
theorem tk {n a b c d:Int} (h:aZ a b c d):((n:Int):Rat)-3<=dF n a b c d/\dF n a b c d<=((n:Int):Rat)+3:=by
 have s:=eE ((n:Int):Rat)
 have f:=j5 ((n:Int):Rat) h.la.1 h.la.2
 have e:=ju ((n:Int):Rat)
 have l:=h.lo
 have k:=xN (q:=((1:Int):Rat)/((4:Int):Rat)) (sg:=((1:Int):Rat)) s.1 s.2 f.1 f.2 (.inl (by decide+kernel)) (.inl rfl)
 unfold dF bn jJ
 rw[show((45461:Int):Rat)/((600:Int):Rat)=45461/600 by decide+kernel,show((1:Int):Rat)/((360:Int):Rat)=1/360 by decide+kernel]
 have q:((1:Int):Rat)/((4:Int):Rat)=1/4:=by decide+kernel
 rw[q] at k ⊢
 constructor <;> grind
theorem tt {n a b c d:Int} (h:aZ a b c d):((n:Int):Rat)-3<=gP n a b c d/\gP n a b c d<=((n:Int):Rat)+3:=by
 have s:=eE ((n:Int):Rat)
 have f:=j5 ((n:Int):Rat) h.la.1 h.la.2
 have e:=ju ((n:Int):Rat)
 have l:=h.lo
 have k:=xN (q:=((3:Int):Rat)/((4:Int):Rat)) (sg:=((-1:Int):Rat)) s.1 s.2 f.1 f.2 (.inr (by decide+kernel)) (.inr rfl)
 unfold gP bn jJ
 rw[show((45461:Int):Rat)/((600:Int):Rat)=45461/600 by decide+kernel,show((1:Int):Rat)/((360:Int):Rat)=1/360 by decide+kernel]
 have q:((3:Int):Rat)/((4:Int):Rat)=3/4:=by decide+kernel
 rw[q] at k ⊢
 constructor <;> grind
theorem kO {x:Rat} {n:Int} (h0: -4000000<=n) (h1:n<=4000000) (a:((n:Int):Rat)-3<=x) (b:x<=((n:Int):Rat)+3):ag (bK x) 3:=by
 have c0:=bT h0
 have c1:=bT h1
 rw[show((-4000000:Int):Rat)= -4000000 from rfl] at c0
 rw[show((4000000:Int):Rat)=4000000 from rfl] at c1
 have e:((1048576:Int):Rat)=1048576:=rfl
 have f0: -5000000000000<=(x*((1048576:Int):Rat)).floor :=Rat.le_floor_iff.2 (by rw[e,show((-5000000000000:Int):Rat)= -5000000000000 from rfl];grind)
 have f1:(x*((1048576:Int):Rat)).floor <5000000000000:=Rat.floor_lt_iff.2 (by rw[e,show((5000000000000:Int):Rat)=5000000000000 from rfl];grind)
 exact(aM (el (n:=(x*((1048576:Int):Rat)).floor) (by omega) (by omega)) (cL (n:=1) (d:=1048576) (by decide) (by decide))).up _ (by omega)
theorem fX {n a b c d:Int} (h:aZ a b c d) (h0: -4000000<=n) (h1:n<=4000000):ag (bK (dF n a b c d)) 3:=kO h0 h1 (tk h).1 (tk h).2
theorem k7 {n a b c d:Int} (h:aZ a b c d) (h0: -4000000<=n) (h1:n<=4000000):ag (bK (gP n a b c d)) 3:=kO h0 h1 (tt h).1 (tt h).2
theorem AO (x lat:Rat):a6 (-(sof x*(((1397:Int):Rat)/((3438:Int):Rat))*sof lat/sof (lat+((90:Int):Rat)))/sof (a6 (sof x*(((1397:Int):Rat)/((3438:Int):Rat)))+((90:Int):Rat)))=kJ x lat:=by
 unfold kJ bz hQ obl
 rw[Rat.mul_comm (sof x),Rat.div_def (-_),Rat.neg_mul,<-Rat.div_def]
theorem A7 (t lat lon:Rat) (qd sg:Int) (z:Rat) (hz:z=((1577917828:Int):Rat)/((1582237828:Int):Rat)*(((1:Int):Rat)/((360:Int):Rat))*(((qd:Int):Rat)/((4:Int):Rat)*dI t*eN t+dW t lat*((sg:Int):Rat))):
 t+((qd:Int):Rat)/((4:Int):Rat)+(((45461:Int):Rat)/((600:Int):Rat)-lon)*(((1:Int):Rat)/((360:Int):Rat))+ -(fl t)+z=bn t lat lon qd sg:=by
 subst hz
 unfold bn jJ kap
 grind
end Go.Proofs.YtgdpkknapcgcbaaGreatDoor
