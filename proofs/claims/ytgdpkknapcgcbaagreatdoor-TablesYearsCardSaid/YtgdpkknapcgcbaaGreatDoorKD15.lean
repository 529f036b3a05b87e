import Derived.Test.YtgdpkknapcgcbaaGreatDoorKD14
namespace Go.Proofs.YtgdpkknapcgcbaaGreatDoor
open Go.RowKit
set_option maxRecDepth 100000
set_option linter.unusedVariables false
set_option maxHeartbeats 8000000
theorem je {v1 v2:Value} {p1 p2:Rat} {k1 k2:Nat} {w:World} (x1:Rl p1 k1 w v1) (x2:Rl p2 k2 w v2) (a1:k1<=100000:=by omega) (a2:k2<=100000:=by omega):CP 76 #[v1,v2] w (Ret (kq ((p1)+(p2)) ((k1+k2+1))) w):=aB (om _ _ (p1) (p2) (max k1 k2) _ x1.1 x2.1 (x1.2.up _ (by omega)) (x2.2.up _ (by omega)) (by omega)) (a9 x1.2 x2.2)
theorem eg {v1 v2:Value} {p1 p2:Rat} {k1 k2:Nat} {w:World} (x1:Rl p1 k1 w v1) (x2:Rl p2 k2 w v2) (a1:k1<=100000:=by omega) (a2:k2<=100000:=by omega):CP 35 #[v1,v2] w (Ret (kq ((p1)-(p2)) ((k1+k2+1))) w):=aB (A2 _ _ (p1) (p2) (max k1 k2) _ x1.1 x2.1 (x1.2.up _ (by omega)) (x2.2.up _ (by omega)) (by omega)) (bV x1.2 x2.2)
theorem cv {v1 v2:Value} {p1 p2:Rat} {k1 k2:Nat} {w:World} (x1:Rl p1 k1 w v1) (x2:Rl p2 k2 w v2) (a1:k1<=100000:=by omega) (a2:k2<=100000:=by omega):CP 104 #[v1,v2] w (Ret (kq ((p1)*(p2)) ((k1+k2))) w):=aB (tK _ _ (p1) (p2) (max k1 k2) _ x1.1 x2.1 (x1.2.up _ (by omega)) (x2.2.up _ (by omega)) (by omega)) (aM x1.2 x2.2)
theorem li {v1 v2:Value} {p1 p2:Rat} {k1 k2:Nat} {w:World} (x1:Rl p1 k1 w v1) (x2:Rl p2 k2 w v2) (a1:k1<=100000:=by omega) (a2:k2<=100000:=by omega):CP 175 #[v1,v2] w (Ret (kq ((p1)/(p2)) ((k1+k2))) w):=aB (Am _ _ (p1) (p2) (max k1 k2) _ x1.1 x2.1 (x1.2.up _ (by omega)) (x2.2.up _ (by omega)) (by omega)) (cZ x1.2 x2.2)
theorem zP {v1:Value} {p1:Rat} {k1:Nat} {w:World} (x1:Rl p1 k1 w v1):CP 86 #[v1] w (Ret (kq (-(p1)) (k1)) w):=aB (nR _ (p1) _ x1.1) (fu x1.2)
theorem BK {v1:Value} {p1:Rat} {k1:Nat} {w:World} (x1:Rl p1 k1 w v1):CP 260 #[v1] w (Ret (kq (Rat.abs (p1)) (k1)) w):=aB (BE _ (p1) _ x1.1) (jj x1.2)
theorem cJ {n d:Int} {w:World} (b1: -9223372036854775808<=n:=by omega) (b2:n<=9223372036854775807:=by omega) (b3: -9223372036854775808<=d:=by omega) (b4:d<=9223372036854775807:=by omega):CP 36 #[iv n,iv d] w (Ret (kq ((n:Rat)/(d:Rat)) 2) w):=aB (jf n d _ b1 b2 b3 b4) (ag.up (eK (bL b1 b2) (bL b3 b4)) 2 (by decide))
theorem cH {n:Int} {w:World} (b1: -9223372036854775808<=n:=by omega) (b2:n<=9223372036854775807:=by omega):CP 40 #[iv n] w (Ret (kq (n:Rat) 2) w):=aB (eT n _ b1 b2) (ch (bL b1 b2) (by omega))
section
section
end
section
end
end
section
section
end
section
end
section
theorem yz (a b:Rat):qc a b=if a<b then -1 else if b<a then 1 else 0:=by
 unfold qc ci
 simp only [<-Rat.lt_iff]
theorem zt (q:Rat):sz q.num=if q<0 then -1 else if 0<q then 1 else 0:=by
 have h1:q<0↔q.num<0:=by rw[Rat.lt_iff];simp
 have h2:0<q↔0<q.num:=by rw[Rat.lt_iff];simp
 simp only [h1,h2]
 unfold sz
 split
 ·rename_i e;rw[e];simp
 ·split
  ·rfl
  ·rw[if_pos (by omega)]
end
end
theorem xR {x:Int} {a:Nat} (y:Int) (h:Lim x.natAbs a):Lim (x.fdiv y).natAbs (a+1):=by
 refine Nat.lt_of_le_of_lt (m:=x.natAbs+1) ?_ ?_
 ·rw[Int.fdiv_eq_ediv]
  have h1:(x/y).natAbs <=x.natAbs:=Int.natAbs_ediv_le_natAbs x y
  split <;> omega
 ·have h1:B32^a+1<=B32^(a+1):=by
   rw[Nat.pow_succ]
   have h2:0<B32^a:=Nat.pow_pos (by decide)
   have h3:B32^a*2<=B32^a*B32:=Nat.mul_le_mul_left _ (by decide)
   omega
  unfold Lim at h
  omega
section
section
theorem C6 (q:Rat):Int.fdiv q.num ((q.den:Nat):Int)=q.floor:=by
 rw[Rat.floor_def,Int.fdiv_eq_ediv_of_nonneg _ (by omega)]
theorem cY (q:Rat):(q.floor:Rat)<=q:=Rat.floor_le q
theorem dr (q:Rat):q<(q.floor:Rat)+1:=by
 have:=Rat.lt_floor_add_one q
 rw[Rat.intCast_add] at this;exact this
def rmod (x m:Rat):Rat:=if m<=0 then 0 else x-m*((x/m).floor :Rat)
def cO (x a b:Rat):Rat:=if b-a<=0 then 0 else a+rmod (x-a) (b-a)
theorem qP {x m:Rat} (h:0<m):m*(x/m)=x:=by
 have:m≠0:=by grind
 rw[Rat.mul_comm];exact Rat.div_mul_cancel this
theorem fv {x m:Rat} (h:0<m):0<=rmod x m:=by
 unfold rmod
 rw[if_neg (by grind)]
 have h1:=Rat.mul_le_mul_of_nonneg_left (c:=m) (cY (x/m)) (by grind)
 rw[qP h] at h1
 grind
theorem eI {x m:Rat} (h:0<m):rmod x m<m:=by
 unfold rmod
 rw[if_neg (by grind)]
 have h1:=(Rat.mul_lt_mul_left h).2 (dr (x/m))
 rw[qP h] at h1
 grind
theorem iy {x m:Rat} (n:Int) (h:0<m):rmod (x+m*(n:Rat)) m=rmod x m:=by
 unfold rmod
 rw[if_neg (by grind),if_neg (by grind)]
 have e:(x+m*(n:Rat))/m=x/m+(n:Rat):=by
  have:m≠0:=by grind
  grind
 rw[e,Rat.floor_add_intCast,Rat.intCast_add]
 grind
theorem zq {x a b:Rat} (h:a<b):a<=cO x a b:=by
 unfold cO
 rw[if_neg (by grind)]
 have:=fv (x:=x-a) (m:=b-a) (by grind)
 grind
theorem ww {x a b:Rat} (h:a<b):cO x a b<b:=by
 unfold cO
 rw[if_neg (by grind)]
 have:=eI (x:=x-a) (m:=b-a) (by grind)
 grind
theorem zT {x a b:Rat} (h1:a<=x) (h2:x<b):cO x a b=x:=by
 unfold cO
 rw[if_neg (by grind)]
 unfold rmod
 rw[if_neg (by grind)]
 have e:((x-a)/(b-a)).floor =0:=by
  have hp:0<b-a:=by grind
  have l1:(0:Int)<=((x-a)/(b-a)).floor :=Rat.le_floor_iff.2 (by
   rw[Rat.intCast_zero];exact Rat.not_lt.1 fun hn=>by rw[Rat.div_lt_iff hp] at hn;grind)
  have l2:((x-a)/(b-a)).floor <1:=Rat.floor_lt_iff.2 (by
   rw[Rat.intCast_one,Rat.div_lt_iff hp];grind)
  omega
 rw[e,Rat.intCast_zero]
 grind
theorem FC (z:Int):(z:Rat)/((1:Int):Rat)=(z:Rat):=by
 rw[Rat.intCast_one];grind
theorem jV {q:Rat}:sz q.num<=0↔q<=0:=by
 rw[zt]
 split
 ·constructor <;> intro <;> grind
 ·split
  ·constructor <;> intro <;> grind
  ·constructor <;> intro <;> grind
theorem DE {x m:Rat} (h:sz m.num<=0):(0:Rat)=rmod x m:=by
 unfold rmod;rw[if_pos (jV.1 h)]
theorem A0 {x m:Rat} (h:¬sz m.num<=0):x-m*(((x/m).floor :Int):Rat)=rmod x m:=by
 unfold rmod;rw[if_neg (fun e=>h (jV.2 e))]
theorem zQ {x a b:Rat} (h:sz (b-a).num <=0):(0:Rat)=cO x a b:=by
 unfold cO;rw[if_pos (jV.1 h)]
theorem xE {x a b:Rat} (h:¬sz (b-a).num <=0):a+rmod (x-a) (b-a)=cO x a b:=by
 unfold cO;rw[if_neg (fun e=>h (jV.2 e))]
theorem gH {q:Rat} {k:Nat} (h:ag q k):Lim (Rat.floor q).natAbs (k+1):=by
 rw[<-C6];exact xR _ h.1
theorem yZ:ag (((1:Int):Rat)/((2:Int):Rat)) 2:=(eK (bL (by decide) (by decide)) (bL (by decide) (by decide))).up 2 (by decide)
theorem yH {q:Rat} {k:Nat} (h:ag q k):Lim (Rat.floor (q+((1:Int):Rat)/((2:Int):Rat))).natAbs (k+4):=gH (a9 h yZ)
theorem tB {q:Rat} {k:Nat} (h:ag q k):ag (q-((Rat.floor q:Int):Rat)) (k+k+3):=(bV h (ch (gH h) (by omega))).up _ (by omega)
theorem kK {q m:Rat} {k j:Nat} (h:ag q k) (hm:ag m j):ag (rmod q m) (k+k+j+j+3):=by
 unfold rmod
 split
 ·exact ip (by omega)
 ·exact(bV h (aM hm (ch (gH (cZ h hm)) (by omega)))).up _ (by omega)
theorem qQ {q a b:Rat} {k j i:Nat} (h:ag q k) (ha:ag a j) (hb:ag b i):ag (cO q a b) (2*k+5*j+2*i+8):=by
 unfold cO
 split
 ·exact ip (by omega)
 ·exact(a9 ha (kK (bV h ha) (bV hb ha))).up _ (by omega)
def fN (z:Int):Bool:=decide (-9223372036854775808<=z/\z<=9223372036854775807)
def fx (z:Int):Int:=if fN z then z else 0
theorem iZ {z:Int} (h0: -9223372036854775808<=z) (h1:z<=9223372036854775807):fN z=true:=decide_eq_true ⟨h0,h1⟩
theorem jp {z:Int} (h0: -9223372036854775808<=z) (h1:z<=9223372036854775807):fx z=z:=by unfold fx;rw[iZ h0 h1];rfl
theorem Wc.ofnatM {w:World} {s:Value} {N:Nat} (h:Dg w .u32 B32 s N):Wc w (.agg #[.bool false,s]) ((N:Nat):Int):=by
 refine⟨s,?_,by simpa using h⟩
 rw[decide_eq_false (by omega)]
theorem Rq.castM {w:World} {v:Value} {p q:Rat} (h:Rq w v p) (e:p=q):Rq w v q:=e▸h
end
section
theorem vV (v:Value) (z:Int) (w:World) (h:Wz w v z):CV 174 #[v] w (.tuple #[iv (fx z),.bool (fN z)]):=by
 by_cases k: -9223372036854775808<=z/\z<=9223372036854775807
 ·have e1:fN z=true:=decide_eq_true k
  have e2:fx z=z:=by unfold fx;rw[e1];rfl
  rw[e1,e2]
  exact ur v z w h k.1 k.2
 ·have e1:fN z=false:=decide_eq_false k
  have e2:fx z=0:=by unfold fx;rw[e1];rfl
  rw[e1,e2]
  exact xt v z w h (by omega)
theorem Ab (v1:Value) (qx:Rat) (w:World) (h1:Rq w v1 qx):
 CP 179 #[v1] w (d8 w ((qx.den:Nat):Int)):=by
 refine gs1 (nt:=6) Tryz.func179 rfl rfl rfl fun a st hF=>wq ?_
 obtain⟨r2,rfl⟩:=Rq.fo h1
 refine bx st hF 0 rfl rfl fun g1 w1 a st hF=>S.alloc st hF aR rfl rfl fun g2 w3 a st hF=>nq<|oL hF st 1 1 aa rfl rfl rfl rfl fun a hF=>S.ck st hF (rgc k62 (aC hF.o)) (bp (n0 _ (qx) _ (h1.below st.bel))) Dg.cl rfl fun vv5 w4 a st hF=>?_
 obtain⟨ad7,n7,c7,rfl⟩:=Dg.form (st.f 0 rfl)
 refine oV hF (bB (mT hF.o) (sY _ _ _ _)) rfl fun a hF=>so st hF 0 3 0 aR rfl rfl rfl rfl fun w8 a st hF=>nr<|rs Tryz.results179 st hF 3 0 aR rfl rfl rfl ?_
 exact⟨_,rfl,Wc.ofnatM (st.f 0 rfl),st.bel⟩
theorem gE (v1:Value) (qx:Rat) (k:Nat) (w:World) (h1:Rq w v1 qx) (hl:ag qx k) (hk:k<=10000):
 CP 173 #[v1] w (d8 w (Rat.floor qx)):=by
 refine gs1 (nt:=14) Tryz.func173 rfl rfl rfl fun a st hF=>wq ?_
 obtain⟨r2,rfl⟩:=Rq.fo h1
 refine bx st hF 0 rfl rfl fun g1 w1 a st hF=>S.alloc st hF aR rfl rfl fun g2 w3 a st hF=>ns ?_
 refine E.drawn2 11 aI hF [some 6,some 7,some 8,some 9,some 10,some 5,some 11,some 12,some 3,some 4,none] [(fun _ v=>v=r2.v),(fun w v=>Wc w v (Rat.num (qx))),(fun _ v=>v=r2.v),(fun w v=>Wc w v (((Rat.den (qx):Nat):Int))),(fun w v=>∃q r,v= .tuple #[q,r]/\Wc w q (Int.fdiv (Rat.num (qx)) (((Rat.den (qx):Nat):Int)))/\Wc w r (fr (Rat.num (qx)) (((Rat.den (qx):Nat):Int)))),(fun w v=>∃q r,v= .tuple #[q,r]/\Wc w q (Int.fdiv (Rat.num (qx)) (((Rat.den (qx):Nat):Int)))/\Wc w r (fr (Rat.num (qx)) (((Rat.den (qx):Nat):Int)))),(fun w v=>Wc w v (Int.fdiv (Rat.num (qx)) (((Rat.den (qx):Nat):Int)))),(fun w v=>Wc w v (fr (Rat.num (qx)) (((Rat.den (qx):Nat):Int)))),(fun _ _=>True),(fun _ _=>True),(fun _ _=>True)] [8,9] [⟨10,8,6⟩] [[],[],[],[],[],[],[],[],[.bool false,.slice none 0 0],[.bool false,.slice none 0 0],[]] (by decide+kernel) (by decide+kernel) rfl rfl rfl (by decide+kernel) (by decide+kernel) ⟨(Mk.eq _),(fun _ _ _ h kp=>h.keep kp),(Mk.eq _),(fun _ _ _ h kp=>h.keep kp),(fun _ _ _ ⟨q,r,e,h1,h2⟩ kp=>⟨q,r,e,h1.keep kp,h2.keep kp⟩),(fun _ _ _ ⟨q,r,e,h1,h2⟩ kp=>⟨q,r,e,h1.keep kp,h2.keep kp⟩),(fun _ _ _ h kp=>h.keep kp),(fun _ _ _ h kp=>h.keep kp),Mk.any,Mk.any,Mk.any,trivial⟩ ⟨?_,?_,?_,?_,?_,?_,?_,?_,?_,?_,?_,trivial⟩ ?_
 ·refine dJ rfl ?_
  intro a' w' hF' hb hd
  exact dw0 (ar (hF'.at 1 rfl) (bh aa ((st.bk 1 rfl).below hb) rfl)) rfl rfl rfl
 ·refine dJ rfl ?_
  intro a' w' hF' hb hd
  have e6:=Fd hd 0 6 rfl rfl rfl rfl rfl
  exact dk0 (rk I2 (aC e6)) (Ap _ (qx) _ (h1.below (bv st.bel hb))) rfl rfl
 ·refine dJ rfl ?_
  intro a' w' hF' hb hd
  exact dw0 (ar (hF'.at 1 rfl) (bh aa ((st.bk 1 rfl).below hb) rfl)) rfl rfl rfl
 ·refine dJ rfl ?_
  intro a' w' hF' hb hd
  have e8:=Fd hd 0 8 rfl rfl rfl rfl rfl
  exact dk0 (rk Ig (aC e8)) (Ab _ (qx) _ (h1.below (bv st.bel hb))) rfl rfl
 ·refine dJ rfl ?_
  intro a' w' hF' hb hd
  obtain⟨v7_0,e7,h7_1⟩:=sH2 hd 0 7 rfl rfl rfl rfl rfl
  obtain⟨v9_0,e9,h9_1⟩:=sH2 hd 1 9 rfl rfl rfl rfl rfl
  refine dh (bF rfl) (bA.calls (rk Hu (aK e7 e9)) (tD _ _ _ _ _ (Wc.wz h7_1) (Wc.wz h9_1) k (hl.1) (by omega)) ?_)
  rintro e w'' ⟨v1',v2',rfl,h1',h2',bb⟩
  exact⟨_,rfl,fun _=>⟨v1',v2',rfl,h1',h2'⟩,bb,(fun h=>absurd h (by decide))⟩
 ·refine dJ rfl ?_
  intro a' w' hF' hb hd
  obtain⟨v10_0,v10_1,e10,h10_2,h10_3⟩:(fun(w:World) (v:Value)=>∃q r,v= .tuple #[q,r]/\Wc w q (Int.fdiv (Rat.num (qx)) (((Rat.den (qx):Nat):Int)))/\Wc w r (fr (Rat.num (qx)) (((Rat.den (qx):Nat):Int)))) w' (a'.tmps.getD 10 undef):=hd _ 10 (Array.mem_of_getElem? (i:=0) rfl) rfl rfl rfl
  exact dw0 (aG e10) ⟨_,_,rfl,h10_2,h10_3⟩ rfl rfl
 ·refine dJ rfl ?_
  intro a' w' hF' hb hd
  obtain⟨v5,e5,h5⟩:=sH2 hd 0 5 rfl rfl rfl rfl rfl
  obtain⟨v5a,v5b,rfl,h5a,h5b⟩:=h5
  exact dw0 (aA (v:=v5a) e5 rfl) h5a rfl rfl
 ·refine dJ rfl ?_
  intro a' w' hF' hb hd
  obtain⟨v5,e5,h5⟩:=sH2 hd 0 5 rfl rfl rfl rfl rfl
  obtain⟨v5a,v5b,rfl,h5a,h5b⟩:=h5
  exact dw0 (aA (v:=v5b) e5 rfl) h5b rfl rfl
 ·refine dJ rfl ?_
  intro a' w' hF' hb hd
  obtain⟨g,w2,ge,hr,bb,on⟩:=f8 (P:=Tryz.prog) (w:=w') (cs:=[.bool false,.slice none 0 0]) 31 ma rfl (niB (niS ni0))
  subst ge
  exact dh (bF rfl) (bA.vals (eB hr) ⟨(fun h=>absurd h (by decide)),bb,fun _=>⟨rfl,on⟩⟩)
 ·refine dJ rfl ?_
  intro a' w' hF' hb hd
  obtain⟨g,w2,ge,hr,bb,on⟩:=f8 (P:=Tryz.prog) (w:=w') (cs:=[.bool false,.slice none 0 0]) 31 ma rfl (niB (niS ni0))
  subst ge
  exact dh (bF rfl) (bA.vals (eB hr) ⟨(fun h=>absurd h (by decide)),bb,fun _=>⟨rfl,on⟩⟩)
 ·exact zg ⟨⟨10,8,6⟩,by simp,rfl⟩ (b:=8) (v:=6) rfl rfl rfl rfl rfl rfl kH rfl (by decide) (by decide) (fun _ _ h=>Em (Wc.form h))
 intro a w4 hF bb hall hblk hne
 have s0:=st
 replace st:=st.to bb
 obtain⟨vv5,e11,hh6⟩:=sS2 hall 6 11 rfl rfl rfl
 replace st:=st.add hh6 (Wc.cl _)
 clear hh6
 obtain⟨ad7,n7,c7,rfl,_⟩:=Wc.shape (st.f 0 rfl)
 obtain⟨vv8,e12,hh9⟩:=sS2 hall 7 12 rfl rfl rfl
 replace st:=st.add hh9 (Wc.cl _)
 clear hh9
 obtain⟨ad10,n10,c10,rfl,_⟩:=Wc.shape (st.f 0 rfl)
 obtain⟨g3,cs3,e3,ge3,o3,hc3⟩:=hblk 8 3 (by decide) rfl
 have hc3:=(hc3.2 ⟨10,8,6⟩ (by simp) rfl).2 rfl 11 rfl
 rw[e11] at hc3
 obtain rfl:cs3=[.bool (decide (Int.fdiv (Rat.num (qx)) (((Rat.den (qx):Nat):Int))<0)),.slice ad7 n7 c7]:=by have hx:=congrArg Array.toList hc3;exact hx.symm
 clear hc3
 replace st:=st.push o3.blk (Nat.le_trans s0.bel.size ge3) (s0.ne ge3)
 clear o3
 obtain⟨g4,cs4,e4,ge4,o4,hc4⟩:=hblk 9 4 (by decide) rfl
 obtain rfl:cs4=[.bool false,.slice none 0 0]:=hc4.1 (ut rfl)
 clear hc4
 replace st:=st.push o4.blk (Nat.le_trans s0.bel.size ge4) (qb (fun(e:g3=g4)=>hne 8 9 3 4 (by decide) (by decide) (by decide) rfl rfl (by rw[e3,e4,e])) (s0.ne ge4))
 clear o4
 clear hall hblk hne bb s0
 have hf11:=Wc.abs (st.f 1 rfl)
 replace st:=st.add hf11 (Dg.cl _)
 clear hf11
 clear e11
 replace hF:=hF.add e12
 clear e12
 replace hF:=hF.add e3
 clear e3
 replace hF:=hF.add e4
 clear e4
 refine so st hF 0 0 2 aR rfl rfl rfl rfl fun w12 a st hF=>?_
 have hf13:=Wc.abs (st.f 1 rfl)
 replace st:=st.add hf13 (Dg.cl _)
 clear hf13
 refine nq<|oL hF st 1 1 aR rfl rfl rfl rfl fun a hF=>so st hF 2 4 0 aR rfl rfl rfl rfl fun w14 a st hF=>nr<|rs Tryz.results173 st hF 4 2 aR rfl rfl rfl ?_
 exact⟨_,rfl,Wc.cast (st.f 3 rfl) (C6 qx),st.bel⟩
theorem xo (v1:Value) (qx:Rat) (k:Nat) (w:World) (h1:Rq w v1 qx) (hl:ag qx k) (hk:k<=5000):
 CP 176 #[v1] w (d8 w (Rat.floor (qx+((1:Int):Rat)/((2:Int):Rat)))):=by
 refine gs1 (nt:=7) Tryz.func176 rfl rfl rfl fun a st hF=>wq ?_
 obtain⟨r2,rfl⟩:=Rq.fo h1
 refine bx st hF 0 rfl rfl fun g1 w1 a st hF=>S.alloc st hF aR rfl rfl fun g2 w3 a st hF=>ns ?_
 refine E.rg 4 aI hF [3,4,5,6] [_,_,_,_] (by decide+kernel) rfl rfl rfl ⟨rb st aa 1 1 rfl,ck st k36 rfl fun _ s=>cJ,ck st k76 rfl fun _ s _ x4=>je ⟨(h1.below s.bel),hl⟩ x4,ck st rA rfl fun _ s _ x5=>da (gE _ ((qx)+(((1:Int):Rat)/((2:Int):Rat))) (k+2+1) _ x5.1 x5.2 (by omega)) (gH x5.2),trivial⟩ ?_
 intro a w4 hF bb hall
 replace st:=st.to bb
 obtain⟨vv5,hF,st⟩:=rS hall hF st 3 rfl rfl Wl.cl
 obtain⟨ad7,n7,c7,rfl,_⟩:=Wc.shape (st.f 0 rfl).1
 clear hall bb
 refine so st hF 0 1 0 aR rfl rfl rfl rfl fun w8 a st hF=>?_
 have hf9:=Wc.abs (st.f 0 rfl).1
 replace st:=st.add hf9 (Dg.cl _)
 clear hf9
 refine nr<|rs Tryz.results176 st hF 1 0 aR rfl rfl rfl ?_
 exact⟨_,rfl,(st.f 1 rfl).1,st.bel⟩
theorem gt (v1:Value) (qx:Rat) (k:Nat) (w:World) (h1:Rq w v1 qx) (hl:ag qx k) (hk:k<=10000):
 CV 105 #[v1] w (.tuple #[iv (fx (Rat.floor qx)),.bool (fN (Rat.floor qx))]):=by
 refine gs1 (nt:=9) Tryz.func105 rfl rfl rfl fun a st hF=>wq ?_
 obtain⟨r2,rfl⟩:=Rq.fo h1
 refine bx st hF 0 rfl rfl fun g1 w1 a st hF=>?_
 refine oC hF rfl fun a hF=>oC hF rfl fun a hF=>nq<|oL hF st 2 0 aa rfl rfl rfl rfl fun a hF=>S.ck st hF (rgc rA (aC hF.o)) (da (gE _ (qx) k _ (h1.below st.bel) hl (by omega)) (gH hl)) Wl.cl rfl fun vv4 w3 a st hF=>?_
 obtain⟨ad6,n6,c6,rfl,_⟩:=Wc.shape (st.f 0 rfl).1
 refine cX st hF (rgc Gm (aC hF.o)) (vV _ (Rat.floor (qx)) _ (Wc.wz (st.f 0 rfl).1)) rfl fun w7 a st hF=>?_
 refine oV hF (aA (v:= iv (fx (Rat.floor (qx)))) hF.o rfl) rfl fun a hF=>oV hF (aA (v:= .bool (fN (Rat.floor (qx)))) hF.p rfl) rfl fun a hF=>oE hF 1 rfl rfl fun a hF=>oE hF 1 rfl rfl fun a hF=>nr ?_
 have bel:=st.bel
 refine bodyPost_ret (fA Tryz.results105 hF.p hF.o) hF.dfr ?_
 exact⟨rfl,bel⟩
theorem qf (v1:Value) (z:Int) (w:World) (h1:Wz w v1 z):
 CQ 180 #[v1] w (z:Rat):=by
 refine gs1 (nt:=6) Tryz.func180 rfl rfl rfl fun a st hF=>wq ?_
 obtain⟨b2,ad2,n2,c2,rfl⟩:=Wz.form h1
 refine bx st hF 0 rfl rfl fun g1 w1 a st hF=>?_
 have hf3:=Wz.abso h1
 refine S.alloc st hF aa rfl rfl fun g2 w4 a st hF=>ns ?_
 refine E.rg 3 aI hF [3,4,5] [_,_,.of (fun w v=>Rq w v ((z:Rat)/(1:Rat))) (fun _ _ _ h hb=>h.below hb)] (by decide+kernel) rfl rfl rfl ⟨rb st aR 1 1 rfl,ck st k88 rfl fun _ s=>da (k6 1 _ (by decide) (by decide)) (bL (by decide) (by decide)),ck st k87 rfl fun _ s _ x4=>jd (uZ _ _ (z) (1) _ (h1.below s.bel) (Wc.wz x4.1)),trivial⟩ ?_
 intro a w5 hF bb hall
 replace st:=st.to bb
 obtain⟨vv6,hF,st⟩:=rS hall hF st 2 rfl rfl Rq.cl
 obtain⟨r8,rfl⟩:=Rq.fo (st.f 0 rfl)
 clear hall bb
 refine so st hF 0 1 0 aa rfl rfl rfl rfl fun w9 a st hF=>nr<|rs Tryz.results180 st hF 1 0 aa rfl rfl rfl ?_
 exact⟨_,rfl,Rq.castM (st.f 0 rfl) (FC z),st.bel⟩
theorem zo (v1:Value) (qx:Rat) (k:Nat) (w:World) (h1:Rq w v1 qx) (hl:ag qx k) (hk:k<=10000):
 CQ 257 #[v1] w (qx-((Rat.floor qx:Int):Rat)):=by
 refine gs1 (nt:=8) Tryz.func257 rfl rfl rfl fun a st hF=>wq ?_
 obtain⟨r2,rfl⟩:=Rq.fo h1
 refine bx st hF 0 rfl rfl fun g1 w1 a st hF=>S.alloc st hF aa rfl rfl fun g2 w3 a st hF=>ns<|gz2 5 aI st hF aa 0 0 [3,4,5,6,7] [_,_,_,_,_] (by decide+kernel) rfl rfl rfl ⟨rb st aa 1 1 rfl,rb st aa 1 1 rfl,ck st rA rfl fun _ s=>da (gE _ (qx) k _ (h1.below s.bel) hl (by omega)) (gH hl),ck st AM rfl fun _ s _ x5=>aB (qf _ (Rat.floor (qx)) _ (Wc.wz x5.1)) (ch (Lim.up x5.2 ((k+1)+1) (by omega)) (by omega)),ck st k35 rfl fun _ s _ x6=>eg ⟨(h1.below s.bel),hl⟩ x6,trivial⟩ fun r7 w8 a st hF=>nr<|rs Tryz.results257 st hF 1 0 aa rfl rfl rfl ?_
 exact⟨_,rfl,(st.f 0 rfl).1,st.bel⟩
theorem nA (v1 v2:Value) (qx mx:Rat) (k j:Nat) (w:World) (h1:Rq w v1 qx) (h2:Rq w v2 mx) (hl:ag qx k) (hm:ag mx j) (hk:k<=1000) (hj:j<=1000):
 CQ 211 #[v1,v2] w (rmod qx mx):=by
 by_cases h0:sz (Rat.num (mx))<=0
 ·have st:=St.start w
  refine go2 (nt:=18) Tryz.func211 rfl rfl rfl fun a hF=>wq ?_
  obtain⟨r2,rfl⟩:=Rq.fo h1
  refine bx st hF 0 rfl rfl fun g2 w1 a st hF=>?_
  obtain⟨r4,rfl⟩:=Rq.fo h2
  refine bx st hF 2 rfl rfl fun g3 w3 a st hF=>S.alloc st hF aa rfl rfl fun g4 w5 a st hF=>ns<|wq<|oL hF st 1 1 aa rfl rfl rfl rfl fun a hF=>cX st hF (rgc jT (aC hF.o)) (eh _ (mx) _ (h2.below st.bel)) rfl fun w6 a st hF=>oT hF 0 (bP (c:=true) (aJ h0)) rfl rfl fun a hF=>E.nil<|wp_cond_true hF.o ?_
  refine wq<|oV hF (bB (by simp) (gS _)) rfl fun a hF=>so st hF 0 4 0 aa rfl rfl rfl rfl fun w7 a st hF=>nr<|rs Tryz.results211 st hF 4 0 aa rfl rfl rfl ?_
  exact⟨_,rfl,Rq.castM (Rq.zero _) (DE h0),st.bel⟩
 ·have st:=St.start w
  refine go2 (nt:=18) Tryz.func211 rfl rfl rfl fun a hF=>wq ?_
  obtain⟨r2,rfl⟩:=Rq.fo h1
  refine bx st hF 0 rfl rfl fun g2 w1 a st hF=>?_
  obtain⟨r4,rfl⟩:=Rq.fo h2
  refine bx st hF 2 rfl rfl fun g3 w3 a st hF=>S.alloc st hF aa rfl rfl fun g4 w5 a st hF=>ns<|wq<|oL hF st 1 1 aa rfl rfl rfl rfl fun a hF=>cX st hF (rgc jT (aC hF.o)) (eh _ (mx) _ (h2.below st.bel)) rfl fun w6 a st hF=>oT hF 0 (bP (c:=false) (aH h0)) rfl rfl fun a hF=>E.nil<|wp_cond_false hF.o ?_
  refine wp_skip<|E.norm<|wp_seq<|gz2 9 aI st hF aa 0 3 [9,10,11,12,13,14,15,16,17] [_,_,_,_,_,_,_,_,_] (by decide+kernel) rfl rfl rfl ⟨rb st aa 5 2 rfl,rb st aa 4 1 rfl,rb st aa 5 2 rfl,rb st aa 4 1 rfl,ck st kP rfl fun _ s=>li ⟨(h1.below s.bel),hl⟩ ⟨(h2.below s.bel),hm⟩,ck st rA rfl fun _ s _ x13=>da (gE _ ((qx)/(mx)) (k+j) _ x13.1 x13.2 (by omega)) (gH x13.2),ck st AM rfl fun _ s _ x14=>aB (qf _ (Rat.floor ((qx)/(mx))) _ (Wc.wz x14.1)) (ch (Lim.up x14.2 (((k+j)+1)+1) (by omega)) (by omega)),ck st co rfl fun _ s _ x15=>cv ⟨(h2.below s.bel),hm⟩ x15,ck st k35 rfl fun _ s _ x16=>eg ⟨(h1.below s.bel),hl⟩ x16,trivial⟩ fun r10 w11 a st hF=>nr<|rs Tryz.results211 st hF 4 0 aa rfl rfl rfl ?_
  exact⟨_,rfl,Rq.castM (st.f 0 rfl).1 (A0 h0),st.bel⟩
theorem yg (v1 v2 v3:Value) (qx a0 b0:Rat) (k j i:Nat) (w:World) (h1:Rq w v1 qx) (h2:Rq w v2 a0) (h3:Rq w v3 b0) (hl:ag qx k) (ha:ag a0 j) (hb0:ag b0 i) (hk:k<=400) (hj:j<=400) (hi:i<=400):
 CQ 283 #[v1,v2,v3] w (cO qx a0 b0):=by
 by_cases h0:sz (Rat.num ((b0)-(a0)))<=0
 ·have st:=St.start w
  refine go3 (nt:=22) Tryz.func283 rfl rfl rfl fun a hF=>wq ?_
  obtain⟨r2,rfl⟩:=Rq.fo h1
  refine bx st hF 0 rfl rfl fun g3 w1 a st hF=>?_
  obtain⟨r4,rfl⟩:=Rq.fo h2
  refine bx st hF 2 rfl rfl fun g4 w3 a st hF=>?_
  obtain⟨r6,rfl⟩:=Rq.fo h3
  refine bx st hF 4 rfl rfl fun g5 w5 a st hF=>S.alloc st hF aa rfl rfl fun g6 w7 a st hF=>nq<|oL hF st 1 1 aa rfl rfl rfl rfl fun a hF=>oL hF st 3 2 aa rfl rfl rfl rfl fun a hF=>S.ck st hF (rgc k35 (aK hF.p hF.o)) (eg ⟨(h3.below st.bel),hb0⟩ ⟨(h2.below st.bel),ha⟩) Rl.cl rfl fun vv9 w8 a st hF=>?_
  obtain⟨r11,rfl⟩:=Rq.fo (st.f 0 rfl).1
  refine S.new st hF 0 rfl aa rfl rfl rfl rfl rfl fun g7 w12 a st hF=>ns<|wq<|oL hF st 0 0 aa rfl rfl rfl rfl fun a hF=>cX st hF (rgc jT (aC hF.o)) (eh _ _ _ (st.f 0 rfl).1) rfl fun w13 a st hF=>oT hF 0 (bP (c:=true) (aJ h0)) rfl rfl fun a hF=>E.nil<|wp_cond_true hF.o<|wq<|oV hF (bB (by simp) (gS _)) rfl fun a hF=>?_
  refine so st hF 1 8 0 aa rfl rfl rfl rfl fun w14 a st hF=>nr<|rs Tryz.results283 st hF 8 1 aa rfl rfl rfl ?_
  exact⟨_,rfl,Rq.castM (Rq.zero _) (zQ h0),st.bel⟩
 ·have st:=St.start w
  refine go3 (nt:=22) Tryz.func283 rfl rfl rfl fun a hF=>wq ?_
  obtain⟨r2,rfl⟩:=Rq.fo h1
  refine bx st hF 0 rfl rfl fun g3 w1 a st hF=>?_
  obtain⟨r4,rfl⟩:=Rq.fo h2
  refine bx st hF 2 rfl rfl fun g4 w3 a st hF=>?_
  obtain⟨r6,rfl⟩:=Rq.fo h3
  refine bx st hF 4 rfl rfl fun g5 w5 a st hF=>S.alloc st hF aa rfl rfl fun g6 w7 a st hF=>nq<|oL hF st 1 1 aa rfl rfl rfl rfl fun a hF=>oL hF st 3 2 aa rfl rfl rfl rfl fun a hF=>S.ck st hF (rgc k35 (aK hF.p hF.o)) (eg ⟨(h3.below st.bel),hb0⟩ ⟨(h2.below st.bel),ha⟩) Rl.cl rfl fun vv9 w8 a st hF=>?_
  obtain⟨r11,rfl⟩:=Rq.fo (st.f 0 rfl).1
  refine S.new st hF 0 rfl aa rfl rfl rfl rfl rfl fun g7 w12 a st hF=>ns<|wq<|oL hF st 0 0 aa rfl rfl rfl rfl fun a hF=>cX st hF (rgc jT (aC hF.o)) (eh _ _ _ (st.f 0 rfl).1) rfl fun w13 a st hF=>oT hF 0 (bP (c:=false) (aH h0)) rfl rfl fun a hF=>E.nil<|wp_cond_false hF.o<|wp_skip<|E.norm ?_
  refine wp_seq<|gz2 7 aI st hF aa 1 7 [15,16,17,18,19,20,21] [_,_,_,_,_,_,_] (by decide+kernel) rfl rfl rfl ⟨rb st aa 9 3 rfl,rb st aa 10 4 rfl,rb st aa 9 3 rfl,ck st k35 rfl fun _ s=>eg ⟨(h1.below s.bel),hl⟩ ⟨(h2.below s.bel),ha⟩,rb st aa 3 0 rfl,ck st wi rfl fun _ s _ x18=>aB (nA _ _ ((qx)-(a0)) ((b0)-(a0)) (k+j+1) (i+j+1) _ x18.1 (s.f 0 rfl).1 x18.2 (s.f 0 rfl).2 (by omega) (by omega)) (kK (k:=(k+j+1)) (j:=(i+j+1)) x18.2 (s.f 0 rfl).2),ck st k76 rfl fun _ s _ x20=>je ⟨(h2.below s.bel),ha⟩ x20,trivial⟩ fun r17 w18 a st hF=>nr<|rs Tryz.results283 st hF 8 1 aa rfl rfl rfl ?_
  exact⟨_,rfl,Rq.castM (st.f 0 rfl).1 (xE h0),st.bel⟩
theorem BS (v1 v2:Value) (qx mx:Rat) (k j:Nat) (w:World) (h1:Rq w v1 qx) (h2:Rq w v2 mx) (hl:ag qx k) (hm:ag mx j) (hk:k<=1000) (hj:j<=1000):
 CQ 149 #[v1,v2] w ((qx+mx)*(((1:Int):Rat)/((2:Int):Rat))):=by
 refine gs2 (nt:=10) Tryz.func149 rfl rfl rfl fun a st hF=>wq ?_
 obtain⟨r2,rfl⟩:=Rq.fo h1
 refine bx st hF 0 rfl rfl fun g2 w1 a st hF=>?_
 obtain⟨r4,rfl⟩:=Rq.fo h2
 refine bx st hF 2 rfl rfl fun g3 w3 a st hF=>S.alloc st hF aa rfl rfl fun g4 w5 a st hF=>nq<|oL hF st 2 2 aa rfl rfl rfl rfl fun a hF=>oL hF st 2 1 aa rfl rfl rfl rfl fun a hF=>S.ck st hF (rgc k76 (aK hF.p hF.o)) (je ⟨(h1.below st.bel),hl⟩ ⟨(h2.below st.bel),hm⟩) Rl.cl rfl fun vv7 w6 a st hF=>?_
 obtain⟨r9,rfl⟩:=Rq.fo (st.f 0 rfl).1
 refine S.ck st hF (rgc k36 (aK ah ah)) cJ Rl.cl rfl fun vv11 w10 a st hF=>?_
 obtain⟨r13,rfl⟩:=Rq.fo (st.f 0 rfl).1
 refine S.ck st hF (rgc co (aK hF.p hF.o)) (cv (st.f 1 rfl) (st.f 0 rfl)) Rl.cl rfl fun vv15 w14 a st hF=>?_
 obtain⟨r17,rfl⟩:=Rq.fo (st.f 0 rfl).1
 refine so st hF 0 5 0 aa rfl rfl rfl rfl fun w18 a st hF=>nr<|rs Tryz.results149 st hF 5 0 aa rfl rfl rfl ?_
 exact⟨_,rfl,(st.f 0 rfl).1,st.bel⟩
end
end
end Go.Proofs.YtgdpkknapcgcbaaGreatDoor
