import Derived.Test.YtgdpkknapcgcbaaGreatDoorKC22
namespace Go.Proofs.YtgdpkknapcgcbaaGreatDoor
open Go.RowKit
set_option maxRecDepth 100000
set_option linter.unusedVariables false
set_option maxHeartbeats 8000000
def Dv (q:Rat) (D:Nat):Prop:=∃n:Int,q*((D:Nat):Rat)=((n:Int):Rat)
theorem Dv.int (n:Int):Dv ((n:Int):Rat) 1:=⟨n,by rw[show((1:Nat):Rat)=1 from rfl];grind⟩
theorem Dv.frc (n:Int) {D:Nat} (h:0<D):Dv (((n:Int):Rat)/(((D:Nat):Int):Rat)) D:=⟨n,by
 rw[Rat.intCast_natCast]
 exact Rat.div_mul_cancel (by have:=Rat.natCast_pos.2 h;grind)⟩
theorem Dv.add {p q:Rat} {D:Nat} (h:Dv p D) (g:Dv q D):Dv (p+q) D:=by
 obtain⟨n,h⟩:=h
 obtain⟨m,g⟩:=g
 exact⟨n+m,by rw[Rat.intCast_add];grind⟩
theorem Dv.neg {p:Rat} {D:Nat} (h:Dv p D):Dv (-p) D:=by
 obtain⟨n,h⟩:=h
 exact⟨-n,by rw[Rat.intCast_neg];grind⟩
theorem Dv.sub {p q:Rat} {D:Nat} (h:Dv p D) (g:Dv q D):Dv (p-q) D:=by rw[Rat.sub_eq_add_neg];exact h.add g.neg
theorem Dv.abs {p:Rat} {D:Nat} (h:Dv p D):Dv p.abs D:=by
 unfold Rat.abs
 split
 ·exact h
 ·exact h.neg
theorem Dv.mul {p q:Rat} {D E:Nat} (h:Dv p D) (g:Dv q E):Dv (p*q) (D*E):=by
 obtain⟨n,h⟩:=h
 obtain⟨m,g⟩:=g
 exact⟨n*m,by rw[Rat.intCast_mul,Rat.natCast_mul];grind⟩
theorem Dv.mulI {p:Rat} {D:Nat} (n:Int) (h:Dv p D):Dv (p*((n:Int):Rat)) D:=by
 have:=h.mul (Dv.int n)
 rwa[Nat.mul_one] at this
theorem Dv.up {p:Rat} {D:Nat} (h:Dv p D) (E:Nat):Dv p (D*E):=by
 obtain⟨n,h⟩:=h
 exact⟨n*(E:Int),by rw[Rat.intCast_mul,Rat.natCast_mul,Rat.intCast_natCast];grind⟩
theorem Dv.cast {p q:Rat} {D E:Nat} (h:Dv p D) (e:p=q) (f:D=E):Dv q E:=by subst e;subst f;exact h
theorem Dv.addI {p:Rat} {D:Nat} (n:Int) (h:Dv p D):Dv (p+((n:Int):Rat)) D:=h.add (((Dv.int n).up D).cast rfl (Nat.one_mul D))
theorem Dv.mfr {p:Rat} {D:Nat} (h:Dv p D):Dv (mfr p) D:=by rw[yu];exact h.addI _
theorem Dv.rmod {p:Rat} {D:Nat} (h:Dv p D):Dv (rmod p ((360:Int):Rat)) D:=by
 rw[gW bU,<-Rat.intCast_mul];exact h.addI _
theorem Dv.den {p:Rat} {D:Nat} (h:Dv p D) (hD:0<D):p.den<=D:=by
 obtain⟨n,h⟩:=h
 have hd:=Rat.natCast_pos.2 hD
 have e:p=mkRat n D:=by
  rw[Rat.mkRat_eq_div,<-h,Rat.div_def,Rat.mul_assoc,Rat.mul_inv_cancel _ (by grind),Rat.mul_one]
 rw[e,Rat.den_mkRat,if_neg (by omega)]
 exact Nat.div_le_self _ _
theorem uf (d:Int) {n:Int} {D:Nat} (hn:n≠0) (hD:0<D):Dv (br ((d:Int):Rat) ((((D:Nat):Int):Rat)/((n:Int):Rat))) D:=by
 have e:br ((d:Int):Rat) ((((D:Nat):Int):Rat)/((n:Int):Rat))=((n:Int):Rat)/(((D:Nat):Int):Rat)*((d+714403429586:Int):Rat):=by
  have hn':((n:Int):Rat)≠0:=fun h=>hn (Rat.intCast_inj.1 (by rw[h];rfl))
  have hD':(((D:Nat):Int):Rat)≠0:=fun h=>by
   have:((D:Nat):Int)=0:=Rat.intCast_inj.1 (by rw[h];rfl)
   omega
  unfold br cre
  rw[Rat.intCast_add,show((-714403429586:Int):Rat)= -714403429586 from rfl,show((714403429586:Int):Rat)=714403429586 from rfl]
  generalize ((n:Int):Rat)=x at*
  generalize (((D:Nat):Int):Rat)=y at*
  rw[Rat.div_def,Rat.div_def,Rat.div_def,Rat.inv_mul_rev,Rat.inv_inv]
  grind
 rw[e]
 exact(Dv.frc n hD).mulI _
theorem Ex {t p:Rat} {D:Nat} (hp:0<p) (h:Dv (br t p) D):Dv (mof t p) D:=by
 rw[wu hp];exact h.mfr.mulI _
theorem Pv {t p:Rat} {D:Nat} (hp:0<p) (h:Dv (br t p) D):Dv (sof (mof t p)) (D*3438):=by
 rw[<-nY,wn]
 have e:mof t p/wd=mfr (br t p)*((96:Int):Rat):=by
  rw[wu hp,fp,show((96:Int):Rat)=96 from rfl,fh];grind
 have m:Dv (mfr (mof t p/wd)) D:=by rw[e];exact(h.mfr.mulI _).mfr
 rw[Rat.div_def]
 have i:Dv (((3438:Int):Rat))⁻¹ 3438:=⟨1,by decide+kernel⟩
 refine Dv.mul ?_ i
 rw[Rat.add_comm]
 exact(m.mulI _).addI _
theorem Oy {a s c:Rat} {D E F:Nat} (h:Dv a D) (hs:Dv s E) (hc:Dv c F):Dv (epi a s c) (D*(D*F*E)):=by
 unfold epi
 refine h.mul (Dv.sub ?_ ((h.abs.mul hc).mul hs))
 exact(hs.up (D*F)).cast rfl (Nat.mul_comm _ _)
theorem Oz {x:Rat} {D:Nat} (h:Dv x D) (h0: -449<=x*3438) (h1:x*3438<=449):Dv (bF x) (D*224*225*4):=by
 have g:Dv (x*3438) D:=h.mulI 3438
 have i4:Dv wd 4:=⟨15,by decide+kernel⟩
 have i224:Dv (((1:Int):Rat)/((224:Int):Rat)) 224:=Dv.frc 1 (by decide)
 have i225:Dv (((1:Int):Rat)/((225:Int):Rat)) 225:=Dv.frc 1 (by decide)
 unfold bF
 rw[fD]
 refine Dv.mul ?_ i4
 rcases De h0 h1 with⟨_,e⟩|⟨_,_,e⟩|⟨_,e⟩ <;> rw[e]
 ·refine Dv.up (((((g.addI 225).mul i224).addI (-1)).cast ?_ rfl)) 225
  rw[show((225:Int):Rat)=225 from rfl,show((1:Int):Rat)/((224:Int):Rat)=1/224 by decide+kernel,show((-1:Int):Rat)= -1 from rfl];grind
 ·refine((g.mul i225).up 224).cast ?_ (by rw[Nat.mul_right_comm])
  rw[show((1:Int):Rat)/((225:Int):Rat)=1/225 by decide+kernel];grind
 ·refine Dv.up (((((g.addI (-225)).mul i224).addI 1).cast ?_ rfl)) 225
  rw[show((-225:Int):Rat)= -225 from rfl,show((1:Int):Rat)/((224:Int):Rat)=1/224 by decide+kernel,show((1:Int):Rat)=1 from rfl];grind
theorem OG {t an s c:Rat} {D E F:Nat} (ha:0<an) (h:Dv (br t an) D) (hs:Dv s E) (hc:Dv c F) (s0:0<=s) (s1:s*3438<=449) (c0:0<=c) (c1:2*c<=1):Dv (eqv t an s c) (D*3438*(D*3438*F*E)*224*225*4):=by
 have b:=fN (mof t an)
 have e:=rH (s:=s) (c:=c) b.1 b.2 s0 c0 c1
 have cs:=Rat.mul_nonneg s0 c0
 exact Oz (Oy (Pv ha h) hs hc) (by grind) (by grind)
def DS:Nat:=1577917828000*3438*(1577917828000*3438*42*180)*224*225*4
theorem PX (d:Int):Dv (eg ((d:Int):Rat)) DS:=by
 have m:=Ex jf (uf d (n:=4320000000) (D:=1577917828000) (by decide) (by decide))
 have e:=OG (s:=ssz) (c:=sch) (E:=180) (F:=42) jS (uf d (n:=4319999613) (D:=1577917828000) (by decide) (by decide)) ⟨7,by decide+kernel⟩ ⟨1,by decide+kernel⟩ (by decide+kernel) (by decide+kernel) (by decide+kernel) (by decide+kernel)
 exact((((m.up (3438*(1577917828000*3438*42*180)*224*225*4)).cast rfl (by decide+kernel)).sub e).rmod)
theorem Dv.self (q:Rat):Dv q q.den:=⟨q.num,by
 have dp:=Rat.natCast_pos.2 q.den_pos
 have h1:q=(q.num:Rat)/(q.den:Rat):=by rw[<-Rat.mkRat_eq_div,Rat.mkRat_self]
 have:q*(q.den:Rat)=(q.num:Rat)/(q.den:Rat)*(q.den:Rat):=by rw[<-h1]
 rw[this,Rat.div_mul_cancel (by grind)]⟩
theorem Mt {p:Rat} {m D:Nat} (h0: -((m:Nat):Rat)<=p) (h1:p<=((m:Nat):Rat)) (hd:p.den<=D):p.num.natAbs<=m*D:=by
 have dp:=Rat.natCast_pos.2 p.den_pos
 have e:(p.num:Rat)=p*(p.den:Rat):=by
  have h1:p=(p.num:Rat)/(p.den:Rat):=by rw[<-Rat.mkRat_eq_div,Rat.mkRat_self]
  have:p*(p.den:Rat)=(p.num:Rat)/(p.den:Rat)*(p.den:Rat):=by rw[<-h1]
  rw[this,Rat.div_mul_cancel (by grind)]
 have m1:=Rat.mul_le_mul_of_nonneg_right (c:=(p.den:Rat)) h1 (by grind)
 have m0:=Rat.mul_le_mul_of_nonneg_right (c:=(p.den:Rat)) h0 (by grind)
 rw[<-e] at m1 m0
 have a1:p.num<=((m*p.den:Nat):Int):=Rat.intCast_le_intCast.1 (by rw[Rat.intCast_natCast,Rat.natCast_mul];exact m1)
 have a0: -((m*p.den:Nat):Int)<=p.num:=Rat.intCast_le_intCast.1 (by rw[Rat.intCast_neg,Rat.intCast_natCast,Rat.natCast_mul];grind)
 have:=Nat.mul_le_mul_left m hd
 omega
theorem sI {p:Rat} {m D k:Nat} (hv:Dv p D) (hD:0<D) (h0: -((m:Nat):Rat)<=p) (h1:p<=((m:Nat):Rat)) (hm:0<m) (hk:m*D<B32^k):av p k:=by
 have hd:=hv.den hD
 have hn:=Mt h0 h1 hd
 refine⟨show _<_ from Nat.lt_of_le_of_lt hn hk,show _<_ from Nat.lt_of_le_of_lt (Nat.le_trans hd (Nat.le_mul_of_pos_left D hm)) hk⟩
theorem GK {d c k:Nat} (h:d<B32^k) (hc:c<=4294967296) (h0:0<c):c*d<B32^(k+1):=by
 rw[Nat.pow_succ,Nat.mul_comm (B32^k)]
 exact Nat.lt_of_lt_of_le (Nat.mul_lt_mul_of_pos_left h h0) (Nat.mul_le_mul_right _ hc)
theorem kW {x:Rat} {k:Nat} (h:av x k):av (sof x) (k+1):=by
 have b:=fN x
 have m:Dv (mfr (x/wd)) (x.den*15):=by
  refine Dv.mfr ?_
  have i:Dv (((4:Int):Rat)/((15:Int):Rat)) 15:=Dv.frc 4 (by decide)
  refine((Dv.self x).mul i).cast ?_ rfl
  rw[fp,show((4:Int):Rat)/((15:Int):Rat)=4/15 by decide+kernel];grind
 have i:Dv (((3438:Int):Rat))⁻¹ 3438:=⟨1,by decide+kernel⟩
 have v:Dv (sof x) (x.den*15*3438):=by
  rw[<-nY,wn,Rat.div_def]
  refine Dv.mul ?_ i
  rw[Rat.add_comm]
  exact(m.mulI _).addI _
 have dp:=x.den_pos
 refine sI (m:=1) v (by omega) b.1 b.2 (by decide) ?_
 have:=GK (c:=51570) (show x.den<B32^k from h.2) (by decide) (by decide)
 rw[show 1*(x.den*15*3438)=51570*x.den by omega]
 exact this
theorem Kt {h:Rat} {D:Nat} (v:Dv h D):∃e:Nat,0<e/\e<=225/\Dv (ay h) (D*e):=by
 by_cases c:yk h<24
 ·have up:=sj (k:=((yk h:Nat):Int)) (by omega) (by omega)
  have st:=ji ((yk h:Nat):Int)
  refine⟨(spk (((yk h:Nat):Int)+1)-spk ((yk h:Nat):Int)).toNat,by omega,by omega,?_⟩
  have ee:(((spk (((yk h:Nat):Int)+1)-spk ((yk h:Nat):Int)).toNat :Nat):Int)=spk (((yk h:Nat):Int)+1)-spk ((yk h:Nat):Int):=by omega
  unfold ay
  rw[if_pos c]
  have i:=Dv.frc 1 (D:=(spk (((yk h:Nat):Int)+1)-spk ((yk h:Nat):Int)).toNat) (by omega)
  rw[ee] at i
  refine Dv.addI _ (((v.addI (-spk ((yk h:Nat):Int))).mul i).cast ?_ rfl)
  rw[Rat.intCast_neg,Rat.intCast_one,Rat.div_def,Rat.div_def];grind
 ·refine⟨1,by decide,by decide,?_⟩
  unfold ay
  rw[if_neg c]
  exact((Dv.int 24).up D).cast rfl (by omega)
theorem wK {y:Rat} {k:Nat} (h:av y k) (h0: -1<=y) (h1:y<=1):av (bF y) (k+1):=by
 have b:=nP h0 h1
 have v:Dv (y*((3438:Int):Rat)) y.den:=(Dv.self y).mulI _
 have w4:Dv wd 4:=⟨15,by decide+kernel⟩
 obtain⟨e,e0,e1,q⟩:∃e:Nat,0<e/\e<=225/\Dv (ap (y*((3438:Int):Rat))) (y.den*e):=by
  unfold ap
  split
  ·obtain⟨e,e0,e1,q⟩:=Kt v.neg
   exact⟨e,e0,e1,q.neg⟩
  ·exact Kt v
 have r:Dv (bF y) (y.den*e*4):=q.mul w4
 have dp:=y.den_pos
 refine sI (m:=90) r (Nat.mul_pos (Nat.mul_pos dp e0) (by decide)) ?_ ?_ (by decide) ?_
 ·have:=b.1;rw[show((-90:Int):Rat)= -90 from rfl] at this;exact this
 ·exact b.2
 ·have:=GK (c:=81000) (show y.den<B32^k from h.2) (by decide) (by decide)
  have m:=Nat.mul_le_mul_left y.den e1
  rw[show 90*(y.den*e*4)=360*(y.den*e) by omega]
  omega
theorem pw {n:Int} (h:n.natAbs<4294967296):av ((n:Int):Rat) 1:=cK (show n.natAbs<B32^1 from by rw[Nat.pow_one];exact h) (by decide)
theorem dY {n d:Int} (h:n.natAbs<4294967296) (g:d.natAbs<4294967296):av (((n:Int):Rat)/((d:Int):Rat)) 1:=(fO (a:=1) (b:=1) (show n.natAbs<B32^1 from by rw[Nat.pow_one];exact h) (show d.natAbs<B32^1 from by rw[Nat.pow_one];exact g)).up 1 (by decide)
theorem MQ (d:Int):Dv (dN ((d:Int):Rat)) 6311671312:=by
 have y:Dv (gC ((d:Int):Rat)) 6311671312:=⟨(d+1132959)*2400-1577917828,by
  unfold gC kli
  rw[Rat.intCast_sub,Rat.intCast_mul,Rat.intCast_add]
  rw[show((600:Int):Rat)/((1577917828:Int):Rat)=600/1577917828 by decide+kernel,show((1:Int):Rat)/((4:Int):Rat)=1/4 by decide+kernel,show((-1132959:Int):Rat)= -1132959 from rfl,show((1132959:Int):Rat)=1132959 from rfl,show((2400:Int):Rat)=2400 from rfl,show((1577917828:Int):Rat)=1577917828 from rfl,show((6311671312:Nat):Rat)=6311671312 from rfl]
  grind⟩
 have x:Dv (Ao ((d:Int):Rat)) 6311671312:=by
  unfold Ao
  rw[mr.1,mr.2]
  obtain⟨n,e⟩:∃n:Int,dR (gC ((d:Int):Rat)) (-1/2) (1/2)=gC ((d:Int):Rat)+((n:Int):Rat):=by
   refine⟨-((gC ((d:Int):Rat)- -1/2)/(1/2- -1/2)).floor,?_⟩
   unfold dR
   rw[if_neg (by grind)]
   unfold rmod
   rw[if_neg (by grind),Rat.intCast_neg]
   grind
  rw[e];exact y.addI n
 unfold dN
 have a:=(x.abs.mulI 108).neg.addI 27
 exact a.cast (by grind) rfl
theorem Ga (d:Int):av (bZ ((d:Int):Rat)) 6:=by
 have s:=(PX d).up 6311671312
 have p:=((MQ d).up DS).cast rfl (Nat.mul_comm _ _)
 have v:Dv (bZ ((d:Int):Rat)) (DS*6311671312):=(s.sub p).rmod
 have l:(0:Rat)<=bZ ((d:Int):Rat):=fv bU
 have u:bZ ((d:Int):Rat)<((360:Int):Rat):=eN bU
 rw[fh] at u
 exact sI (m:=360) v (by decide+kernel) (by rw[show((360:Nat):Rat)=360 from rfl];grind) (by rw[show((360:Nat):Rat)=360 from rfl];grind) (by decide) (by decide+kernel)
theorem ED (d:Int) {lat:Rat} (hl:av lat 1) (h0: -60<=lat) (h1:lat<=60):av (fl ((d:Int):Rat) lat) 27:=by
 have a:=kW (Ga d)
 have hb:=rU ((d:Int):Rat)
 have h:av (hV ((d:Int):Rat)) 8:=(bm (dY (n:=1397) (d:=3438) (by decide) (by decide)) a).up _ (by omega)
 have hb':=hb
 rw[lJ] at hb'
 have n90:av ((90:Int):Rat) 1:=pw (by decide)
 have c:av (cA (hV ((d:Int):Rat))) 12:=(kW (bP (wK h (by grind) (by grind)) n90)).up _ (by omega)
 have e:av (eV ((d:Int):Rat) lat) 14:=(dX (bm h (kW hl)) (kW (bP hl n90))).up _ (by omega)
 have q:=oZ ((d:Int):Rat) h0 h1
 have l:av (quo ((d:Int):Rat) lat) 26:=(dX e c).up _ (by omega)
 have r:=wK (y:= -(quo ((d:Int):Rat) lat)) (gF l) (by grind) (by grind)
 exact r
theorem ye (d:Int):av (mof ((d:Int):Rat) pay) 2:=by
 have v:=Ex jS (uf d (n:=4319999613) (D:=1577917828000) (by decide) (by decide))
 have l:=Mj ((d:Int):Rat) pay
 have u:=J0 ((d:Int):Rat) pay
 rw[fh] at u
 exact sI (m:=360) v (by decide) (by rw[show((360:Nat):Rat)=360 from rfl];grind) (by rw[show((360:Nat):Rat)=360 from rfl];grind) (by decide) (by decide+kernel)
theorem wL (d:Int):av (nN ((d:Int):Rat)) 6:=(cD (dY (n:=14) (d:=360) (by decide) (by decide)) (bm (hZ (kW (ye d))) (dY (n:=1) (d:=1080) (by decide) (by decide)))).up _ (by omega)
theorem wD:av (((360:Int):Rat)/pyr) 1:=by
 refine⟨?_,?_⟩
 ·show _<_;decide+kernel
 ·show _<_;decide+kernel
theorem yp:av pyr 1:=by
 refine⟨?_,?_⟩
 ·show _<_;decide+kernel
 ·show _<_;decide+kernel
theorem xS (d:Int):av (fg ((d:Int):Rat)) 10:=by
 have s:=ji (pk (mof ((d:Int):Rat) pay))
 have st:av (((mG (mof ((d:Int):Rat) pay):Int):Rat)/((225:Int):Rat)) 1:=dY (by unfold mG;omega) (by decide)
 exact(bm wD (cD (pw (n:=1) (by decide)) (bm st (wL d)))).up _ (by omega)
theorem Hl (t:Rat):av (gU t) 1:=dY (by unfold iI;split <;> (try split) <;> decide) (by decide)
theorem JX (d:Int):av (gX ((d:Int):Rat)) 24:=by
 have o:av (((1:Int):Rat)/((360:Int):Rat)) 1:=dY (by decide) (by decide)
 exact(bm (bm (bm (xS d) o) (bm (bm (bm (kW (ye d)) (dY (n:=573) (d:=10) (by decide) (by decide))) (wL d)) o)) yp).up _ (by omega)
theorem Eg {d:Int} {lat lon:Rat} {qd sg:Int} (hd:d.natAbs<4294967296) (hl:av lat 1) (hn:av lon 1) (h0: -60<=lat) (h1:lat<=60) (hq:qd.natAbs<10) (hs:sg.natAbs<10):av (cr ((d:Int):Rat) lat lon qd sg) 90:=by
 have o:av (((1:Int):Rat)/((360:Int):Rat)) 1:=dY (by decide) (by decide)
 have q:av (((qd:Int):Rat)/((4:Int):Rat)) 1:=dY (by omega) (by decide)
 have ea:av (po lon) 4:=(bm (cD (dY (n:=45461) (d:=600) (by decide) (by decide)) hn) o).up _ (by omega)
 have ka:av kap 2:=(bm (dY (n:=1577917828) (d:=1582237828) (by decide) (by decide)) o).up _ (by omega)
 have si:=bP (bm (bm (xS d) (Hl ((d:Int):Rat))) q) (bm (pw (n:=sg) (by omega)) (ED d hl h0 h1))
 exact(bP (bP (bP (pw hd) q) (cD ea (JX d))) (bm si ka)).up _ (by omega)
theorem Gw {x:Rat} {k:Nat} (h:av x k):av (dU x) (k+10):=by
 have a:=bm h (eC (n:=1048576) (by decide) (by decide))
 have f:=cK (gH a) (by omega)
 exact(bm f (dY (n:=1) (d:=1048576) (by decide) (by decide))).up _ (by omega)
theorem tT {t:Rat} {k:Nat} (h:av t k):av (dN t) (2*k+60):=by
 have y:av (gC t) (k+6):=(cD (bm (cD h (pw (n:= -1132959) (by decide))) (dY (n:=600) (d:=1577917828) (by decide) (by decide))) (dY (n:=1) (d:=4) (by decide) (by decide))).up _ (by omega)
 have x:=qI y (dY (n:= -1) (d:=2) (by decide) (by decide)) (dY (n:=1) (d:=2) (by decide) (by decide))
 exact(cD (pw (n:=27) (by decide)) (bm (pw (n:=108) (by decide)) (hZ x))).up _ (by omega)
theorem pA {t:Rat} {k:Nat} (h:av t k):av (bZ t) (5*k+180):=(gz (cD (jc h) (tT h))).up _ (by omega)
def C3 (a:Rat):Rat:=((14:Int):Rat)/((360:Int):Rat)-a.abs*(((1:Int):Rat)/((1080:Int):Rat))
def vW (x:Rat):Rat:=((360:Int):Rat)/pyr*(((1:Int):Rat)-((mG x:Int):Rat)/((225:Int):Rat)*C3 (sof x))
def Ax (x:Rat):Rat:=vW x*(((1:Int):Rat)/((360:Int):Rat))*(sof x*(((573:Int):Rat)/((10:Int):Rat))*C3 (sof x)*(((1:Int):Rat)/((360:Int):Rat)))*pyr
def zD (x:Rat):Rat:=((iI (prt x 12):Int):Rat)/((1800:Int):Rat)
def hQ (x:Rat):Rat:=obl*sof x
def pX (x lat:Rat):Rat:=bF (-(hQ x*sof lat/sof (lat+((90:Int):Rat))/cA (hQ x)))
theorem Fd {x:Rat} {k:Nat} (h:av x k):av (hQ x) (k+13):=(bm (dY (n:=1397) (d:=3438) (by decide) (by decide)) (fL h)).up _ (by omega)
theorem xv {x lat:Rat} {k j:Nat} (h:av x k) (hl:av lat j) (hj:j<=2):av (pX x lat) (2*k+140):=by
 have n90:av ((90:Int):Rat) 1:=pw (by decide)
 have c:av (cA (hQ x)) (k+50):=(fL (bP (mS (Fd h)) n90)).up _ (by omega)
 have e:=dX (bm (Fd h) (fL hl)) (fL (bP hl n90))
 exact(mS (gF (dX e c))).up _ (by omega)
theorem pi {a:Rat} {k:Nat} (h:av a k):av (C3 a) (k+3):=(cD (dY (n:=14) (d:=360) (by decide) (by decide)) (bm (hZ h) (dY (n:=1) (d:=1080) (by decide) (by decide)))).up _ (by omega)
theorem pj {x:Rat} {k:Nat} (h:av x k):av (vW x) (k+40):=by
 have s:=ji (pk x)
 have st:av (((mG x:Int):Rat)/((225:Int):Rat)) 1:=dY (by unfold mG;omega) (by decide)
 exact(bm wD (cD (pw (n:=1) (by decide)) (bm st (pi (fL h))))).up _ (by omega)
theorem xT {x:Rat} {k:Nat} (h:av x k):av (Ax x) (3*k+100):=by
 have o:av (((1:Int):Rat)/((360:Int):Rat)) 1:=dY (by decide) (by decide)
 exact(bm (bm (bm (pj h) o) (bm (bm (bm (fL h) (dY (n:=573) (d:=10) (by decide) (by decide))) (pi (fL h))) o)) yp).up _ (by omega)
theorem zv (x:Rat):av (zD x) 1:=dY (by unfold iI;split <;> (try split) <;> decide) (by decide)
theorem Cr {t:Rat} {k:Nat} (h:av t k):av (fg t) (k+50):=(pj (kY h kF)).up _ (by omega)
theorem M7 {t:Rat} {k:Nat} (h:av t k):av (gX t) (3*k+130):=(xT (kY h kF)).up _ (by omega)
theorem Hx {t lat:Rat} {k j:Nat} (h:av t k) (hl:av lat j) (hj:j<=2):av (fl t lat) (10*k+520):=(xv (pA h) hl hj).up _ (by omega)
theorem PO {x:Rat} (h0:0<=x) (h1:x<((360:Int):Rat)):jb (Rat.floor (x*(((1:Int):Rat)/((30:Int):Rat))))=prt x 12/\jh (Rat.floor (x*(((1:Int):Rat)/((30:Int):Rat))))=true:=by
 have e:Rat.floor (x*(((1:Int):Rat)/((30:Int):Rat)))=prt x 12:=by
  unfold prt
  rw[show((1:Int):Rat)/((30:Int):Rat)=((12:Int):Rat)/((360:Int):Rat) by decide+kernel]
 have b:=kg (x:=x) (n:=12) (by omega) h0 h1
 rw[e]
 exact⟨mW (by omega) (by omega),mp (by omega) (by omega)⟩
theorem LV {k:Int}:([1670,1795,1935,1935,1795,1670].map fun z=>Value.int .i64 z)[(k%6).toNat]?=some (iv (iI k)):=by
 have h:k%6=0\/k%6=1\/k%6=2\/k%6=3\/k%6=4\/k%6=5:=by omega
 unfold iI
 rcases h with h|h|h|h|h|h <;> rw[h] <;> rfl
theorem sK (k:Int):1670<=iI k/\iI k<=1935:=by unfold iI;split <;> (try split) <;> omega
theorem bN.ll {a b c d:Int} (h:bN a b c d):av (((a:Int):Rat)/((b:Int):Rat)) 1:=dY (by have:=h.b0;have:=h.b1;have:=h.a0;have:=h.a1;omega) (by have:=h.b0;have:=h.b1;omega)
theorem bN.lm {a b c d:Int} (h:bN a b c d):av (((c:Int):Rat)/((d:Int):Rat)) 1:=dY (by have:=h.d0;have:=h.d1;have:=h.c0;have:=h.c1;omega) (by have:=h.d0;have:=h.d1;omega)
def gK (n a b c d:Int):Rat:=cr ((n:Int):Rat) (((a:Int):Rat)/((b:Int):Rat)) (((c:Int):Rat)/((d:Int):Rat)) 1 1
theorem vw {n a b c d:Int} (h:bN a b c d) (h0: -4000000<=n) (h1:n<=4000000):av (gK n a b c d) 90:=Eg (by omega) h.ll h.lm h.la.1 h.la.2 (by decide) (by decide)
theorem OE {m q dg sg:Rat} (m0:87/100<=m) (m1:m<=111/100) (d0: -53<=dg) (d1:dg<=53) (hq:q=1/4\/q=3/4) (hs:sg=1\/sg= -1): -1<=(m*q+sg*dg)*kap/\(m*q+sg*dg)*kap<=1:=by
 have k:=pe
 have y: -55<=m*q+sg*dg/\m*q+sg*dg<=55:=by
  rcases hq with rfl|rfl <;> rcases hs with rfl|rfl <;> constructor <;> grind
 have b:=fP (a:=55) (b:=1/100) (x:=m*q+sg*dg) (y:=kap) (by grind) (by grind) y.1 y.2 (by grind) (by grind)
 constructor <;> grind
theorem EL {n a b c d:Int} (h:bN a b c d):((n:Int):Rat)-3<=gK n a b c d/\gK n a b c d<=((n:Int):Rat)+3:=by
 have s:=iC ((n:Int):Rat)
 have f:=sw ((n:Int):Rat) h.la.1 h.la.2
 have e:=ot ((n:Int):Rat)
 have l:=h.lo
 have k:=OE (q:=((1:Int):Rat)/((4:Int):Rat)) (sg:=((1:Int):Rat)) s.1 s.2 f.1 f.2 (.inl (by decide+kernel)) (.inl rfl)
 unfold gK cr po
 rw[show((45461:Int):Rat)/((600:Int):Rat)=45461/600 by decide+kernel,show((1:Int):Rat)/((360:Int):Rat)=1/360 by decide+kernel]
 have q:((1:Int):Rat)/((4:Int):Rat)=1/4:=by decide+kernel
 rw[q] at k ⊢
 constructor <;> grind
theorem D4 {x:Rat} {n:Int} (h0: -4000000<=n) (h1:n<=4000000) (a:((n:Int):Rat)-3<=x) (b:x<=((n:Int):Rat)+3):av (dU x) 3:=by
 have c0:=cM h0
 have c1:=cM h1
 rw[show((-4000000:Int):Rat)= -4000000 from rfl] at c0
 rw[show((4000000:Int):Rat)=4000000 from rfl] at c1
 have e:((1048576:Int):Rat)=1048576:=rfl
 have f0: -5000000000000<=(x*((1048576:Int):Rat)).floor :=Rat.le_floor_iff.2 (by rw[e,show((-5000000000000:Int):Rat)= -5000000000000 from rfl];grind)
 have f1:(x*((1048576:Int):Rat)).floor <5000000000000:=Rat.floor_lt_iff.2 (by rw[e,show((5000000000000:Int):Rat)=5000000000000 from rfl];grind)
 exact(bm (eC (n:=(x*((1048576:Int):Rat)).floor) (by omega) (by omega)) (dY (n:=1) (d:=1048576) (by decide) (by decide))).up _ (by omega)
theorem mP {n a b c d:Int} (h:bN a b c d) (h0: -4000000<=n) (h1:n<=4000000):av (dU (gK n a b c d)) 3:=D4 h0 h1 (EL h).1 (EL h).2
theorem Hf (x lat:Rat):bF (-(sof x*(((1397:Int):Rat)/((3438:Int):Rat))*sof lat/sof (lat+((90:Int):Rat)))/sof (bF (sof x*(((1397:Int):Rat)/((3438:Int):Rat)))+((90:Int):Rat)))=pX x lat:=by
 unfold pX cA hQ obl
 rw[Rat.mul_comm (sof x),Rat.div_def (-_),Rat.neg_mul,<-Rat.div_def]
theorem JM (t lat lon:Rat) (qd sg:Int) (z:Rat) (hz:z=((1577917828:Int):Rat)/((1582237828:Int):Rat)*(((1:Int):Rat)/((360:Int):Rat))*(((qd:Int):Rat)/((4:Int):Rat)*fg t*gU t+fl t lat*((sg:Int):Rat))):
 t+((qd:Int):Rat)/((4:Int):Rat)+(((45461:Int):Rat)/((600:Int):Rat)-lon)*(((1:Int):Rat)/((360:Int):Rat))+ -(gX t)+z=cr t lat lon qd sg:=by
 subst hz
 unfold cr po kap
 grind
theorem Ev {x m:Rat} (h:0<m):rmod x m=x-m*(((x/m).floor :Int):Rat):=by unfold rmod;rw[if_neg (by grind)]
theorem FV (t:Rat) {lat:Rat} (lon:Rat) {qd sg:Int} (hq:qd=1/\sg=1\/qd=3/\sg= -1) (h0: -60<=lat) (h1:lat<=60):985/1000<=cr (t+((1:Int):Rat)) lat lon qd sg-cr t lat lon qd sg/\cr (t+((1:Int):Rat)) lat lon qd sg-cr t lat lon qd sg<=1015/1000:=by
 rcases hq with⟨rfl,rfl⟩|⟨rfl,rfl⟩
 ·exact Ft t lon h0 h1
 have e:=cv (Cc t)
 have d:=cv (zK t h0 h1)
 have s:=iC t
 have s':=iC (t+((1:Int):Rat))
 have k:=pe
 unfold cr
 rw[show((3:Int):Rat)/((4:Int):Rat)=3/4 by decide+kernel,show((-1:Int):Rat)= -1 from rfl,Rat.intCast_one] at*
 generalize fl (t+1) lat=d2 at*
 generalize fl t lat=d1 at*
 generalize fg (t+1)*gU (t+1)=s2 at*
 generalize fg t*gU t=s1 at*
 generalize gX (t+1)=e2 at*
 generalize gX t=e1 at*
 have m:=fP (a:=3/4*(111/100-87/100)+27/10) (b:=27703/10000000) (x:=(s2*(3/4)+ -1*d2)-(s1*(3/4)+ -1*d1)) (y:=kap) (by grind) (by grind) (by grind) (by grind) (by grind) k.2
 constructor <;> grind
theorem qX (t d:Rat) {lat:Rat} (lon:Rat) {qd sg:Int} (hq:qd=1/\sg=1\/qd=3/\sg= -1) (h0: -60<=lat) (h1:lat<=60):d-308/1000<=cr (t+d) lat lon qd sg-cr t lat lon qd sg:=by
 have e:=ot t
 have e':=ot (t+d)
 have g:=sw t h0 h1
 have g':=sw (t+d) h0 h1
 have s:=iC t
 have s':=iC (t+d)
 have k:=pe
 unfold cr
 generalize fl (t+d) lat=d2 at*
 generalize fl t lat=d1 at*
 generalize fg (t+d)*gU (t+d)=s2 at*
 generalize fg t*gU t=s1 at*
 generalize gX (t+d)=e2 at*
 generalize gX t=e1 at*
 rcases hq with⟨rfl,rfl⟩|⟨rfl,rfl⟩
 ·rw[show((1:Int):Rat)/((4:Int):Rat)=1/4 by decide+kernel,Rat.intCast_one] at*
  have m:=fP (a:=1/4*(111/100-87/100)+106) (b:=27703/10000000) (x:=(s2*(1/4)+1*d2)-(s1*(1/4)+1*d1)) (y:=kap) (by grind) (by grind) (by grind) (by grind) (by grind) k.2
  grind
 ·rw[show((3:Int):Rat)/((4:Int):Rat)=3/4 by decide+kernel,show((-1:Int):Rat)= -1 from rfl] at*
  have m:=fP (a:=3/4*(111/100-87/100)+106) (b:=27703/10000000) (x:=(s2*(3/4)+ -1*d2)-(s1*(3/4)+ -1*d1)) (y:=kap) (by grind) (by grind) (by grind) (by grind) (by grind) k.2
  grind
theorem MB {lon:Rat} (h0: -180<=lon) (h1:lon<=180): -(3/10)<=po lon/\po lon<=72/100:=by
 unfold po
 rw[show((45461:Int):Rat)/((600:Int):Rat)=45461/600 by decide+kernel,show((1:Int):Rat)/((360:Int):Rat)=1/360 by decide+kernel]
 constructor <;> grind
theorem FL (t:Rat) {lat lon:Rat} {qd sg:Int} (hq:qd=1/\sg=1\/qd=3/\sg= -1) (h0: -60<=lat) (h1:lat<=60) (l0: -180<=lon) (l1:lon<=180):t-3/10<=cr t lat lon qd sg/\cr t lat lon qd sg<=t+17/10:=by
 have e:=ot t
 have g:=sw t h0 h1
 have s:=iC t
 have k:=pe
 have c:=MB l0 l1
 unfold cr
 generalize fl t lat=d1 at*
 generalize fg t*gU t=s1 at*
 generalize gX t=e1 at*
 rcases hq with⟨rfl,rfl⟩|⟨rfl,rfl⟩
 ·rw[show((1:Int):Rat)/((4:Int):Rat)=1/4 by decide+kernel,Rat.intCast_one] at*
  have m:=fP (a:=1/4*(111/100)+53) (b:=27703/10000000) (x:=s1*(1/4)+1*d1) (y:=kap) (by grind) (by grind) (by grind) (by grind) (by grind) k.2
  constructor <;> grind
 ·rw[show((3:Int):Rat)/((4:Int):Rat)=3/4 by decide+kernel,show((-1:Int):Rat)= -1 from rfl] at*
  have m:=fP (a:=3/4*(111/100)+53) (b:=27703/10000000) (x:=s1*(3/4)+ -1*d1) (y:=kap) (by grind) (by grind) (by grind) (by grind) (by grind) k.2
  constructor <;> grind
def riV (lat lon:Rat) (n:Int):Rat:=dU (cr ((n:Int):Rat) lat lon 1 1)
theorem NI (n:Int):(((n+32:Int)):Rat)=((n:Int):Rat)+32:=by rw[Rat.intCast_add];rfl
theorem vK {lat:Rat} (lon:Rat) (h0: -60<=lat) (h1:lat<=60) (n:Int):98499/100000<=riV lat lon (n+1)-riV lat lon n/\riV lat lon (n+1)-riV lat lon n<=101501/100000/\3169/100+1/1000<=riV lat lon (n+32)-riV lat lon n:=by
 have a:=FV ((n:Int):Rat) (qd:=1) (sg:=1) lon (.inl ⟨rfl,rfl⟩) h0 h1
 have b:=qX ((n:Int):Rat) 32 (qd:=1) (sg:=1) lon (.inl ⟨rfl,rfl⟩) h0 h1
 unfold riV
 rw[ft,NI]
 rw[Rat.intCast_one] at a
 have g1:=iV (cr ((n:Int):Rat) lat lon 1 1)
 have g2:=iV (cr (((n:Int):Rat)+1) lat lon 1 1)
 have g3:=iV (cr (((n:Int):Rat)+32) lat lon 1 1)
 refine⟨?_,?_,?_⟩ <;> grind
def kaV (t:Rat):Int:=(cz t*(1/30)).floor
theorem ki (t:Rat):30*((kaV t:Int):Rat)<=cz t/\cz t<30*((kaV t:Int):Rat)+30:=by
 have a:=fe (cz t*(1/30))
 have b:=fA (cz t*(1/30))
 unfold kaV
 constructor <;> grind
theorem pM {t:Rat} {k:Int} (h:30*((k:Int):Rat)<=cz t):k<=kaV t:=Rat.le_floor_iff.2 (by grind)
theorem sm {t:Rat} {k:Int} (h:cz t<30*((k:Int):Rat)):kaV t<k:=Rat.floor_lt_iff.2 (by grind)
theorem Mv (t:Rat):prt (eg t) 12=kaV t%12:=by
 rw[qP,wG (by decide),show((12:Int):Rat)/((360:Int):Rat)=1/30 by decide+kernel]
 rfl
def IA (t:Rat):Rat:=(t-kli)/pyr-eg t*(((1:Int):Rat)/((360:Int):Rat))
def PU (t:Rat):Int:=(IA t+((1:Int):Rat)/((2:Int):Rat)).floor
theorem Ar:(kli-cre)/pyr=((1955880000:Int):Rat):=by decide+kernel
theorem LF (t:Rat):(cz t/((360:Int):Rat)).floor =kaV t/12:=by
 have k:=ki t
 have e:=Int.mul_ediv_add_emod (kaV t) 12
 have m0:=Int.emod_nonneg (kaV t) (b:=12) (by omega)
 have m1:=Int.emod_lt_of_pos (kaV t) (b:=12) (by omega)
 have q0:12*(kaV t/12)<=kaV t:=by omega
 have q1:kaV t<=12*(kaV t/12)+11:=by omega
 have c0:=Rat.intCast_le_intCast.2 q0
 have c1:=Rat.intCast_le_intCast.2 q1
 rw[Rat.intCast_add,Rat.intCast_mul] at c1
 rw[Rat.intCast_mul] at c0
 rw[show((12:Int):Rat)=12 from rfl] at c0 c1
 rw[show((11:Int):Rat)=11 from rfl] at c1
 have r:((360:Int):Rat)=360:=rfl
 have p:(0:Rat)<360:=by decide+kernel
 have a:kaV t/12<=(cz t/((360:Int):Rat)).floor :=Rat.le_floor_iff.2 (Rat.not_lt.1 fun h=>by rw[r,Rat.div_lt_iff p] at h;grind)
 have b:(cz t/((360:Int):Rat)).floor <kaV t/12+1:=Rat.floor_lt_iff.2 (by rw[r,Rat.div_lt_iff p,Rat.intCast_add,Rat.intCast_one];grind)
 omega
theorem N7 (t:Rat):PU t=kaV t/12-1955880000:=by
 have n:=cv (jC t)
 rw[show((22:Int):Rat)/((10:Int):Rat)=22/10 by decide+kernel] at n
 have y:(t-kli)/pyr=br t pyr-((1955880000:Int):Rat):=by
  rw[<-Ar]
  unfold br
  have:=jf
  grind
 have x:IA t=dt t/360+(((kaV t/12-1955880000:Int)):Rat):=by
  unfold IA
  rw[y,qP,Ev (by decide+kernel),LF,Rat.intCast_sub]
  unfold cz
  rw[show((1:Int):Rat)/((360:Int):Rat)=1/360 by decide+kernel,show((360:Int):Rat)=360 from rfl]
  grind
 unfold PU
 rw[x,Rat.add_assoc,Rat.add_comm (((kaV t/12-1955880000:Int)):Rat),<-Rat.add_assoc,Rat.floor_add_intCast]
 have f:(dt t/360+((1:Int):Rat)/((2:Int):Rat)).floor =0:=by
  rw[show((1:Int):Rat)/((2:Int):Rat)=1/2 by decide+kernel]
  have a:(0:Int)<=(dt t/360+1/2).floor :=Rat.le_floor_iff.2 (by rw[Rat.intCast_zero];grind)
  have b:(dt t/360+1/2).floor <1:=Rat.floor_lt_iff.2 (by rw[Rat.intCast_one];grind)
  omega
 rw[f]
 omega
theorem fq {t u:Rat} (h:t<=u):9471/10000*(u-t)<=cz u-cz t/\cz u-cz t<=10242/10000*(u-t):=by
 have:=mB t (d:=u-t) (by grind)
 rw[show t+(u-t)=u by grind] at this
 exact this
theorem K3 {t u:Rat} (h:t<=u):kaV t<=kaV u:=by
 have s:=fq h
 have b:=ki t
 exact pM (by grind)
theorem Na {t u:Rat} (h:t+27<=u) (g:u<=t+32):kaV t<=kaV u/\kaV u<=kaV t+2:=by
 have s:=fq (t:=t) (u:=u) (by grind)
 have b:=ki t
 refine⟨K3 (by grind),?_⟩
 have c:kaV u<kaV t+3:=sm (by rw[Rat.intCast_add,show((3:Int):Rat)=3 from rfl];grind)
 omega
theorem zy {t u:Rat} (h:t+55<=u):kaV t<kaV u:=by
 have s:=fq (t:=t) (u:=u) (by grind)
 have b:=ki t
 have c:kaV t+1<=kaV u:=pM (by rw[Rat.intCast_add,Rat.intCast_one];grind)
 omega
theorem QZ {t:Rat} (h0: -3900010<=t) (h1:t<=3900010):12*(1955880000+3179-11000)<=kaV t/\kaV t<12*(1955880000+3179+11000):=by
 have n:=cv (jC t)
 rw[show((22:Int):Rat)/((10:Int):Rat)=22/10 by decide+kernel] at n
 have p:=jf
 have a:(-3900010-cre)/pyr<=br t pyr:=by
  unfold br
  exact Rat.not_lt.1 fun q=>by rw[Rat.div_lt_iff p,Rat.div_mul_cancel (by grind)] at q;grind
 have b:br t pyr<=(3900010-cre)/pyr:=by
  unfold br
  exact Rat.not_lt.1 fun q=>by rw[Rat.div_lt_iff p,Rat.div_mul_cancel (by grind)] at q;grind
 have a2:1955880000+3179-10999<=(-3900010-cre)/pyr:=by decide+kernel
 have b2:(3900010-cre)/pyr<=1955880000+3179+10999:=by decide+kernel
 constructor
 ·refine pM ?_
  unfold cz
  rw[show((360:Int):Rat)=360 from rfl,show((12*(1955880000+3179-11000):Int):Rat)=12*(1955880000+3179-11000) by decide+kernel]
  grind
 ·refine sm ?_
  unfold cz
  rw[show((360:Int):Rat)=360 from rfl,show((12*(1955880000+3179+11000):Int):Rat)=12*(1955880000+3179+11000) by decide+kernel]
  grind
def gu (s:Int):Rat:=pyr*(((s:Int):Rat)/((12:Int):Rat))+((-1132959:Int):Rat)
theorem Cs (s:Int):cz (gu s)=30*(((s+23470560000:Int)):Rat)-dt (gu s):=by
 have e:br (gu s) pyr=((s:Int):Rat)/((12:Int):Rat)+((1955880000:Int):Rat):=by
  rw[<-Ar]
  unfold br gu kli
  have:=jf
  grind
 unfold cz
 rw[e,show((360:Int):Rat)=360 from rfl,show((12:Int):Rat)=12 from rfl,Rat.intCast_add,show((1955880000:Int):Rat)=1955880000 from rfl,show((23470560000:Int):Rat)=23470560000 from rfl]
 grind
theorem rK {a b c d:Int} (h:bN a b c d):plE a b c d=0:=by unfold plE;rw[if_pos ⟨decide_eq_true ⟨h.b0,h.b1,h.a0,h.a1⟩,decide_eq_true ⟨h.d0,h.d1,h.c0,h.c1⟩⟩]
end Go.Proofs.YtgdpkknapcgcbaaGreatDoor
