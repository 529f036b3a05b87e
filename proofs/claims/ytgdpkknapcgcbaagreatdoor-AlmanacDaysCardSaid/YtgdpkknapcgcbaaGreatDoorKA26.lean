import Derived.Test.YtgdpkknapcgcbaaGreatDoorKA25
namespace Go.Proofs.YtgdpkknapcgcbaaGreatDoor
open Go.RowKit
set_option maxRecDepth 100000
set_option linter.unusedVariables false
set_option maxHeartbeats 8000000
def Dv (q:Rat) (D:Nat):Prop:=∃n:Int,q*((D:Nat):Rat)=((n:Int):Rat)
theorem Dv.int (n:Int):Dv ((n:Int):Rat) 1:=⟨n,by rw[show((1:Nat):Rat)=1 from rfl];grind⟩
theorem Dv.frc (n:Int) {D:Nat} (h:0<D):Dv (((n:Int):Rat)/(((D:Nat):Int):Rat)) D:=⟨n,by
 rw[Rat.intCast_natCast]
 exact Rat.div_mul_cancel (by have:=Rat.natCast_pos.2 h;grind)⟩
theorem Dv.add {p q:Rat} {D:Nat} (h:Dv p D) (g:Dv q D):Dv (p+q) D:=by
 obtain⟨n,h⟩:=h
 obtain⟨m,g⟩:=g
 exact⟨n+m,by rw[Rat.intCast_add];grind⟩
theorem Dv.neg {p:Rat} {D:Nat} (h:Dv p D):Dv (-p) D:=by
 obtain⟨n,h⟩:=h
 exact⟨-n,by rw[Rat.intCast_neg];grind⟩
theorem Dv.sub {p q:Rat} {D:Nat} (h:Dv p D) (g:Dv q D):Dv (p-q) D:=by rw[Rat.sub_eq_add_neg];exact h.add g.neg
theorem Dv.abs {p:Rat} {D:Nat} (h:Dv p D):Dv p.abs D:=by
 unfold Rat.abs
 split
 ·exact h
 ·exact h.neg
theorem Dv.mul {p q:Rat} {D E:Nat} (h:Dv p D) (g:Dv q E):Dv (p*q) (D*E):=by
 obtain⟨n,h⟩:=h
 obtain⟨m,g⟩:=g
 exact⟨n*m,by rw[Rat.intCast_mul,Rat.natCast_mul];grind⟩
theorem Dv.mulI {p:Rat} {D:Nat} (n:Int) (h:Dv p D):Dv (p*((n:Int):Rat)) D:=by
 have:=h.mul (Dv.int n)
 rwa[Nat.mul_one] at this
theorem Dv.up {p:Rat} {D:Nat} (h:Dv p D) (E:Nat):Dv p (D*E):=by
 obtain⟨n,h⟩:=h
 exact⟨n*(E:Int),by rw[Rat.intCast_mul,Rat.natCast_mul,Rat.intCast_natCast];grind⟩
theorem Dv.cast {p q:Rat} {D E:Nat} (h:Dv p D) (e:p=q) (f:D=E):Dv q E:=by subst e;subst f;exact h
theorem Dv.addI {p:Rat} {D:Nat} (n:Int) (h:Dv p D):Dv (p+((n:Int):Rat)) D:=h.add (((Dv.int n).up D).cast rfl (Nat.one_mul D))
theorem Dv.mfr {p:Rat} {D:Nat} (h:Dv p D):Dv (mfr p) D:=by rw[uw];exact h.addI _
theorem Dv.rmod {p:Rat} {D:Nat} (h:Dv p D):Dv (rmod p ((360:Int):Rat)) D:=by
 rw[fM aG,<-Rat.intCast_mul];exact h.addI _
theorem Dv.den {p:Rat} {D:Nat} (h:Dv p D) (hD:0<D):p.den<=D:=by
 obtain⟨n,h⟩:=h
 have hd:=Rat.natCast_pos.2 hD
 have e:p=mkRat n D:=by
  rw[Rat.mkRat_eq_div,<-h,Rat.div_def,Rat.mul_assoc,Rat.mul_inv_cancel _ (by grind),Rat.mul_one]
 rw[e,Rat.den_mkRat,if_neg (by omega)]
 exact Nat.div_le_self _ _
theorem pw (d:Int) {n:Int} {D:Nat} (hn:n≠0) (hD:0<D):Dv (bg ((d:Int):Rat) ((((D:Nat):Int):Rat)/((n:Int):Rat))) D:=by
 have e:bg ((d:Int):Rat) ((((D:Nat):Int):Rat)/((n:Int):Rat))=((n:Int):Rat)/(((D:Nat):Int):Rat)*((d+714403429586:Int):Rat):=by
  have hn':((n:Int):Rat)≠0:=fun h=>hn (Rat.intCast_inj.1 (by rw[h];rfl))
  have hD':(((D:Nat):Int):Rat)≠0:=fun h=>by
   have:((D:Nat):Int)=0:=Rat.intCast_inj.1 (by rw[h];rfl)
   omega
  unfold bg cre
  rw[Rat.intCast_add,show((-714403429586:Int):Rat)= -714403429586 from rfl,show((714403429586:Int):Rat)=714403429586 from rfl]
  generalize ((n:Int):Rat)=x at*
  generalize (((D:Nat):Int):Rat)=y at*
  rw[Rat.div_def,Rat.div_def,Rat.div_def,Rat.inv_mul_rev,Rat.inv_inv]
  grind
 rw[e]
 exact(Dv.frc n hD).mulI _
theorem AF {t p:Rat} {D:Nat} (hp:0<p) (h:Dv (bg t p) D):Dv (mof t p) D:=by
 rw[rI hp];exact h.mfr.mulI _
theorem Kf {t p:Rat} {D:Nat} (hp:0<p) (h:Dv (bg t p) D):Dv (sof (mof t p)) (D*3438):=by
 rw[<-lT,sj]
 have e:mof t p/wd=mfr (bg t p)*((96:Int):Rat):=by
  rw[rI hp,dQ,show((96:Int):Rat)=96 from rfl,mH];grind
 have m:Dv (mfr (mof t p/wd)) D:=by rw[e];exact(h.mfr.mulI _).mfr
 rw[Rat.div_def]
 have i:Dv (((3438:Int):Rat))⁻¹ 3438:=⟨1,by decide+kernel⟩
 refine Dv.mul ?_ i
 rw[Rat.add_comm]
 exact(m.mulI _).addI _
theorem JC {a s c:Rat} {D E F:Nat} (h:Dv a D) (hs:Dv s E) (hc:Dv c F):Dv (epi a s c) (D*(D*F*E)):=by
 unfold epi
 refine h.mul (Dv.sub ?_ ((h.abs.mul hc).mul hs))
 exact(hs.up (D*F)).cast rfl (Nat.mul_comm _ _)
theorem Km {x:Rat} {D:Nat} (h:Dv x D) (h0: -449<=x*3438) (h1:x*3438<=449):Dv (a7 x) (D*224*225*4):=by
 have g:Dv (x*3438) D:=h.mulI 3438
 have i4:Dv wd 4:=⟨15,by decide+kernel⟩
 have i224:Dv (((1:Int):Rat)/((224:Int):Rat)) 224:=Dv.frc 1 (by decide)
 have i225:Dv (((1:Int):Rat)/((225:Int):Rat)) 225:=Dv.frc 1 (by decide)
 unfold a7
 rw[dY]
 refine Dv.mul ?_ i4
 rcases yV h0 h1 with⟨_,e⟩|⟨_,_,e⟩|⟨_,e⟩ <;> rw[e]
 ·refine Dv.up (((((g.addI 225).mul i224).addI (-1)).cast ?_ rfl)) 225
  rw[show((225:Int):Rat)=225 from rfl,show((1:Int):Rat)/((224:Int):Rat)=1/224 by decide+kernel,show((-1:Int):Rat)= -1 from rfl];grind
 ·refine((g.mul i225).up 224).cast ?_ (by rw[Nat.mul_right_comm])
  rw[show((1:Int):Rat)/((225:Int):Rat)=1/225 by decide+kernel];grind
 ·refine Dv.up (((((g.addI (-225)).mul i224).addI 1).cast ?_ rfl)) 225
  rw[show((-225:Int):Rat)= -225 from rfl,show((1:Int):Rat)/((224:Int):Rat)=1/224 by decide+kernel,show((1:Int):Rat)=1 from rfl];grind
theorem J3 {t an s c:Rat} {D E F:Nat} (ha:0<an) (h:Dv (bg t an) D) (hs:Dv s E) (hc:Dv c F) (s0:0<=s) (s1:s*3438<=449) (c0:0<=c) (c1:2*c<=1):Dv (eqv t an s c) (D*3438*(D*3438*F*E)*224*225*4):=by
 have b:=gw (mof t an)
 have e:=qC (s:=s) (c:=c) b.1 b.2 s0 c0 c1
 have cs:=Rat.mul_nonneg s0 c0
 exact Km (JC (Kf ha h) hs hc) (by grind) (by grind)
def DS:Nat:=1577917828000*3438*(1577917828000*3438*42*180)*224*225*4
theorem Js (d:Int):Dv (be ((d:Int):Rat)) DS:=by
 have m:=AF sd (pw d (n:=4320000000) (D:=1577917828000) (by decide) (by decide))
 have e:=J3 (s:=ssz) (c:=sch) (E:=180) (F:=42) iG (pw d (n:=4319999613) (D:=1577917828000) (by decide) (by decide)) ⟨7,by decide+kernel⟩ ⟨1,by decide+kernel⟩ (by decide+kernel) (by decide+kernel) (by decide+kernel) (by decide+kernel)
 exact((((m.up (3438*(1577917828000*3438*42*180)*224*225*4)).cast rfl (by decide+kernel)).sub e).rmod)
theorem Dv.self (q:Rat):Dv q q.den:=⟨q.num,by
 have dp:=Rat.natCast_pos.2 q.den_pos
 have h1:q=(q.num:Rat)/(q.den:Rat):=by rw[<-Rat.mkRat_eq_div,Rat.mkRat_self]
 have:q*(q.den:Rat)=(q.num:Rat)/(q.den:Rat)*(q.den:Rat):=by rw[<-h1]
 rw[this,Rat.div_mul_cancel (by grind)]⟩
theorem GU {p:Rat} {m D:Nat} (h0: -((m:Nat):Rat)<=p) (h1:p<=((m:Nat):Rat)) (hd:p.den<=D):p.num.natAbs<=m*D:=by
 have dp:=Rat.natCast_pos.2 p.den_pos
 have e:(p.num:Rat)=p*(p.den:Rat):=by
  have h1:p=(p.num:Rat)/(p.den:Rat):=by rw[<-Rat.mkRat_eq_div,Rat.mkRat_self]
  have:p*(p.den:Rat)=(p.num:Rat)/(p.den:Rat)*(p.den:Rat):=by rw[<-h1]
  rw[this,Rat.div_mul_cancel (by grind)]
 have m1:=Rat.mul_le_mul_of_nonneg_right (c:=(p.den:Rat)) h1 (by grind)
 have m0:=Rat.mul_le_mul_of_nonneg_right (c:=(p.den:Rat)) h0 (by grind)
 rw[<-e] at m1 m0
 have a1:p.num<=((m*p.den:Nat):Int):=Rat.intCast_le_intCast.1 (by rw[Rat.intCast_natCast,Rat.natCast_mul];exact m1)
 have a0: -((m*p.den:Nat):Int)<=p.num:=Rat.intCast_le_intCast.1 (by rw[Rat.intCast_neg,Rat.intCast_natCast,Rat.natCast_mul];grind)
 have:=Nat.mul_le_mul_left m hd
 omega
theorem nZ {p:Rat} {m D k:Nat} (hv:Dv p D) (hD:0<D) (h0: -((m:Nat):Rat)<=p) (h1:p<=((m:Nat):Rat)) (hm:0<m) (hk:m*D<B32^k):ah p k:=by
 have hd:=hv.den hD
 have hn:=GU h0 h1 hd
 refine⟨show _<_ from Nat.lt_of_le_of_lt hn hk,show _<_ from Nat.lt_of_le_of_lt (Nat.le_trans hd (Nat.le_mul_of_pos_left D hm)) hk⟩
theorem AR {d c k:Nat} (h:d<B32^k) (hc:c<=4294967296) (h0:0<c):c*d<B32^(k+1):=by
 rw[Nat.pow_succ,Nat.mul_comm (B32^k)]
 exact Nat.lt_of_lt_of_le (Nat.mul_lt_mul_of_pos_left h h0) (Nat.mul_le_mul_right _ hc)
theorem iW {x:Rat} {k:Nat} (h:ah x k):ah (sof x) (k+1):=by
 have b:=gw x
 have m:Dv (mfr (x/wd)) (x.den*15):=by
  refine Dv.mfr ?_
  have i:Dv (((4:Int):Rat)/((15:Int):Rat)) 15:=Dv.frc 4 (by decide)
  refine((Dv.self x).mul i).cast ?_ rfl
  rw[dQ,show((4:Int):Rat)/((15:Int):Rat)=4/15 by decide+kernel];grind
 have i:Dv (((3438:Int):Rat))⁻¹ 3438:=⟨1,by decide+kernel⟩
 have v:Dv (sof x) (x.den*15*3438):=by
  rw[<-lT,sj,Rat.div_def]
  refine Dv.mul ?_ i
  rw[Rat.add_comm]
  exact(m.mulI _).addI _
 have dp:=x.den_pos
 refine nZ (m:=1) v (by omega) b.1 b.2 (by decide) ?_
 have:=AR (c:=51570) (show x.den<B32^k from h.2) (by decide) (by decide)
 rw[show 1*(x.den*15*3438)=51570*x.den by omega]
 exact this
theorem Fa {h:Rat} {D:Nat} (v:Dv h D):∃e:Nat,0<e/\e<=225/\Dv (ay h) (D*e):=by
 by_cases c:yk h<24
 ·have up:=oj (k:=((yk h:Nat):Int)) (by omega) (by omega)
  have st:=gH ((yk h:Nat):Int)
  refine⟨(spk (((yk h:Nat):Int)+1)-spk ((yk h:Nat):Int)).toNat,by omega,by omega,?_⟩
  have ee:(((spk (((yk h:Nat):Int)+1)-spk ((yk h:Nat):Int)).toNat :Nat):Int)=spk (((yk h:Nat):Int)+1)-spk ((yk h:Nat):Int):=by omega
  unfold ay
  rw[if_pos c]
  have i:=Dv.frc 1 (D:=(spk (((yk h:Nat):Int)+1)-spk ((yk h:Nat):Int)).toNat) (by omega)
  rw[ee] at i
  refine Dv.addI _ (((v.addI (-spk ((yk h:Nat):Int))).mul i).cast ?_ rfl)
  rw[Rat.intCast_neg,Rat.intCast_one,Rat.div_def,Rat.div_def];grind
 ·refine⟨1,by decide,by decide,?_⟩
  unfold ay
  rw[if_neg c]
  exact((Dv.int 24).up D).cast rfl (by omega)
theorem sN {y:Rat} {k:Nat} (h:ah y k) (h0: -1<=y) (h1:y<=1):ah (a7 y) (k+1):=by
 have b:=wY h0 h1
 have v:Dv (y*((3438:Int):Rat)) y.den:=(Dv.self y).mulI _
 have w4:Dv wd 4:=⟨15,by decide+kernel⟩
 obtain⟨e,e0,e1,q⟩:∃e:Nat,0<e/\e<=225/\Dv (ap (y*((3438:Int):Rat))) (y.den*e):=by
  unfold ap
  split
  ·obtain⟨e,e0,e1,q⟩:=Fa v.neg
   exact⟨e,e0,e1,q.neg⟩
  ·exact Fa v
 have r:Dv (a7 y) (y.den*e*4):=q.mul w4
 have dp:=y.den_pos
 refine nZ (m:=90) r (Nat.mul_pos (Nat.mul_pos dp e0) (by decide)) ?_ ?_ (by decide) ?_
 ·have:=b.1;rw[show((-90:Int):Rat)= -90 from rfl] at this;exact this
 ·exact b.2
 ·have:=AR (c:=81000) (show y.den<B32^k from h.2) (by decide) (by decide)
  have m:=Nat.mul_le_mul_left y.den e1
  rw[show 90*(y.den*e*4)=360*(y.den*e) by omega]
  omega
theorem mK {n:Int} (h:n.natAbs<4294967296):ah ((n:Int):Rat) 1:=ce (show n.natAbs<B32^1 from by rw[Nat.pow_one];exact h) (by decide)
theorem cW {n d:Int} (h:n.natAbs<4294967296) (g:d.natAbs<4294967296):ah (((n:Int):Rat)/((d:Int):Rat)) 1:=(ft (a:=1) (b:=1) (show n.natAbs<B32^1 from by rw[Nat.pow_one];exact h) (show d.natAbs<B32^1 from by rw[Nat.pow_one];exact g)).up 1 (by decide)
theorem Hq (d:Int):Dv (eJ ((d:Int):Rat)) 6311671312:=by
 have y:Dv (iy ((d:Int):Rat)) 6311671312:=⟨(d+1132959)*2400-1577917828,by
  unfold iy kli
  rw[Rat.intCast_sub,Rat.intCast_mul,Rat.intCast_add]
  rw[show((600:Int):Rat)/((1577917828:Int):Rat)=600/1577917828 by decide+kernel,show((1:Int):Rat)/((4:Int):Rat)=1/4 by decide+kernel,show((-1132959:Int):Rat)= -1132959 from rfl,show((1132959:Int):Rat)=1132959 from rfl,show((2400:Int):Rat)=2400 from rfl,show((1577917828:Int):Rat)=1577917828 from rfl,show((6311671312:Nat):Rat)=6311671312 from rfl]
  grind⟩
 have x:Dv (zd ((d:Int):Rat)) 6311671312:=by
  unfold zd
  rw[od.1,od.2]
  obtain⟨n,e⟩:∃n:Int,cO (iy ((d:Int):Rat)) (-1/2) (1/2)=iy ((d:Int):Rat)+((n:Int):Rat):=by
   refine⟨-((iy ((d:Int):Rat)- -1/2)/(1/2- -1/2)).floor,?_⟩
   unfold cO
   rw[if_neg (by grind)]
   unfold rmod
   rw[if_neg (by grind),Rat.intCast_neg]
   grind
  rw[e];exact y.addI n
 unfold eJ
 have a:=(x.abs.mulI 108).neg.addI 27
 exact a.cast (by grind) rfl
theorem Al (d:Int):ah (bC ((d:Int):Rat)) 6:=by
 have s:=(Js d).up 6311671312
 have p:=((Hq d).up DS).cast rfl (Nat.mul_comm _ _)
 have v:Dv (bC ((d:Int):Rat)) (DS*6311671312):=(s.sub p).rmod
 have l:(0:Rat)<=bC ((d:Int):Rat):=bE aG
 have u:bC ((d:Int):Rat)<((360:Int):Rat):=bv aG
 rw[mH] at u
 exact nZ (m:=360) v (by decide+kernel) (by rw[show((360:Nat):Rat)=360 from rfl];grind) (by rw[show((360:Nat):Rat)=360 from rfl];grind) (by decide) (by decide+kernel)
theorem AW (d:Int) {lat:Rat} (hl:ah lat 1) (h0: -60<=lat) (h1:lat<=60):ah (eK ((d:Int):Rat) lat) 27:=by
 have a:=iW (Al d)
 have hb:=ow ((d:Int):Rat)
 have h:ah (hV ((d:Int):Rat)) 8:=(aL (cW (n:=1397) (d:=3438) (by decide) (by decide)) a).up _ (by omega)
 have hb':=hb
 rw[jV] at hb'
 have n90:ah ((90:Int):Rat) 1:=mK (by decide)
 have c:ah (dz (hV ((d:Int):Rat))) 12:=(iW (a6 (sN h (by grind) (by grind)) n90)).up _ (by omega)
 have e:ah (eV ((d:Int):Rat) lat) 14:=(cU (aL h (iW hl)) (iW (a6 hl n90))).up _ (by omega)
 have q:=qO ((d:Int):Rat) h0 h1
 have l:ah (quo ((d:Int):Rat) lat) 26:=(cU e c).up _ (by omega)
 have r:=sN (y:= -(quo ((d:Int):Rat) lat)) (eF l) (by grind) (by grind)
 exact r
theorem tI (d:Int):ah (mof ((d:Int):Rat) pay) 2:=by
 have v:=AF iG (pw d (n:=4319999613) (D:=1577917828000) (by decide) (by decide))
 have l:=Hm ((d:Int):Rat) pay
 have u:=Eb ((d:Int):Rat) pay
 rw[mH] at u
 exact nZ (m:=360) v (by decide) (by rw[show((360:Nat):Rat)=360 from rfl];grind) (by rw[show((360:Nat):Rat)=360 from rfl];grind) (by decide) (by decide+kernel)
theorem sX (d:Int):ah (kY ((d:Int):Rat)) 6:=(bH (cW (n:=14) (d:=360) (by decide) (by decide)) (aL (fp (iW (tI d))) (cW (n:=1) (d:=1080) (by decide) (by decide)))).up _ (by omega)
theorem sT:ah (((360:Int):Rat)/pyr) 1:=by
 refine⟨?_,?_⟩
 ·show _<_;decide+kernel
 ·show _<_;decide+kernel
theorem uf:ah pyr 1:=by
 refine⟨?_,?_⟩
 ·show _<_;decide+kernel
 ·show _<_;decide+kernel
theorem vt (d:Int):ah (dW ((d:Int):Rat)) 10:=by
 have s:=gH (pk (mof ((d:Int):Rat) pay))
 have st:ah (((ki (mof ((d:Int):Rat) pay):Int):Rat)/((225:Int):Rat)) 1:=cW (by unfold ki;omega) (by decide)
 exact(aL sT (bH (mK (n:=1) (by decide)) (aL st (sX d)))).up _ (by omega)
theorem Eu (t:Rat):ah (fT t) 1:=cW (by unfold fQ;split <;> (try split) <;> decide) (by decide)
theorem CA (d:Int):ah (fO ((d:Int):Rat)) 24:=by
 have o:ah (((1:Int):Rat)/((360:Int):Rat)) 1:=cW (by decide) (by decide)
 exact(aL (aL (aL (vt d) o) (aL (aL (aL (iW (tI d)) (cW (n:=573) (d:=10) (by decide) (by decide))) (sX d)) o)) uf).up _ (by omega)
theorem s4 {d:Int} {lat lon:Rat} {qd sg:Int} (hd:d.natAbs<4294967296) (hl:ah lat 1) (hn:ah lon 1) (h0: -60<=lat) (h1:lat<=60) (hq:qd.natAbs<10) (hs:sg.natAbs<10):ah (cm ((d:Int):Rat) lat lon qd sg) 90:=by
 have o:ah (((1:Int):Rat)/((360:Int):Rat)) 1:=cW (by decide) (by decide)
 have q:ah (((qd:Int):Rat)/((4:Int):Rat)) 1:=cW (by omega) (by decide)
 have ea:ah (kL lon) 4:=(aL (bH (cW (n:=45461) (d:=600) (by decide) (by decide)) hn) o).up _ (by omega)
 have ka:ah kap 2:=(aL (cW (n:=1577917828) (d:=1582237828) (by decide) (by decide)) o).up _ (by omega)
 have si:=a6 (aL (aL (vt d) (Eu ((d:Int):Rat))) q) (aL (mK (n:=sg) (by omega)) (AW d hl h0 h1))
 exact(a6 (a6 (a6 (mK hd) q) (bH ea (CA d))) (aL si ka)).up _ (by omega)
end Go.Proofs.YtgdpkknapcgcbaaGreatDoor
